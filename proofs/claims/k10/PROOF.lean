import PyProof.Rows.All
import Wide.All
import OpenK.AllK
import Wide.FinOn
import KE.KStateDown
import HandS.ForMost
import HandS.ForExc
import HandS.IsInst
import HandS.Flow
import HandS.DictComp
import HandS.Conv
import HandS.Head0
import HandS.Head1
import HandS.Head2
import HandS.HeadEnd
import HandS.HeadHook1
import HandS.HeadHook2
import HandS.Defaults
import HandS.ExcOwn
import HandS.TryOnly
import HandS.ExcIs
import HandS.Zip
import HandS.Rev
import HandS.TupAny
import HandS.Style
import HandS.SortKw
import HandS.Lambda
import HandS.Nested
import PyProof.AutoSeq1
import HandS.SetFor
import KE.KDictZip
import HandS.SetKeys
import KE.GoesEnum
import HandS.NoneIn
import HandS.TryMany
import KE.DataMinMax
import HandS.SortRule
import HandS.FStr
import KE.DataMinKey
import HandS.HeadHook4
import HandS.HeadWalk
import HandS.SortInts
import HandS.Text
import HandS.RevRange
import HandS.TupSets
import PySem.Challenge.RW_ruleswood_k10_read_or_refused
set_option Elab.async false
set_option linter.all false
set_option maxRecDepth 100000
set_option maxHeartbeats 4000000
namespace DL
open PySem L2
def excB (K : PySem.W.Frag) (C : Addr) : Bool :=
  decide (PySem.W.findIn K (.ref C) "__getattribute__" = some (some (.builtin "BaseException.__getattribute__"))) && (decide (PySem.W.findIn K (.ref C) "__getattr__" = some none) && (decide (PySem.W.subIn K (.ref C) (.type "BaseException") = some true) && (PySem.W.hasDictIn K C &&
  (decide (PySem.W.findIn K (.ref C) "__class__" = some (some (.builtin "object.__class__"))) && (decide (PySem.W.specialIn K (.builtin "object.__class__") "__get__" = some (some (.builtin "getset_descriptor.__get__"))) && (decide (PySem.W.takesIn K (.builtin "object.__class__") = some true) && decide (PySem.W.mroIn K C (.type "object") = some true)))))))
theorem excB_ok {K : PySem.W.Frag} {C : Addr} (h : excB K C = true) : ExcC K C := by
  unfold excB at h
  simp only [Bool.and_eq_true, decide_eq_true_eq] at h
  exact ⟨h.1, h.2.1, h.2.2.1, h.2.2.2.1, h.2.2.2.2.1, h.2.2.2.2.2.1, h.2.2.2.2.2.2.1, h.2.2.2.2.2.2.2⟩
def kit1B (K : PySem.W.Frag) (C : Addr) (c : Value) (b : Bool) : Bool := decide (PySem.W.kitOne K (.ref C) c = some b)
theorem kit1B_ok {K : PySem.W.Frag} {C : Addr} {c : Value} {b : Bool} (h : kit1B K C c b = true) : PySem.W.kitOne K (.ref C) c = some b := of_decide_eq_true h
/-- the hook with questions of one's own -/
def obsX (n : Nat) (fa : List He.Fa) (fn : List He.DefD) (ex : List (PySem.W.Frag → Bool)) (g : Addr → Option Obj) : Bool × He.AlD := (ex.all fun f => f (He.frG g (He.asD g n)), He.obsDG n fa fn g)
def hookX (n : Nat) (fa : List He.Fa) (fn : List He.DefD) (ex : List (PySem.W.Frag → Bool)) : PySem.W.Hook where
  α := Bool × He.AlD
  obs := fun s => obsX n fa fn ex s.heap.get?
  val := fun _ => (true, He.valD fn)
  says := fun _ h => ∃ K : PySem.W.Frag, K.In h ∧ He.SaysD fa fn K ∧ (ex.all fun f => f K) = true
  of := fun _ _ e => ⟨_, He.frG_in, congrArg (fun z : Bool × He.AlD => z.2) e, congrArg (fun z : Bool × He.AlD => z.1) e⟩
  keeps := fun _ _ _ ⟨K, hK, c, d⟩ k => ⟨K, PySem.W.Frag.In.keeps hK k, c, d⟩
theorem obsX_eq {n : Nat} {fa : List He.Fa} {fn : List He.DefD} {ex : List (PySem.W.Frag → Bool)} {g : Addr → Option Obj} {s : Shared} (h : ∀ a, g a = s.heap.get? a) : obsX n fa fn ex g = (hookX n fa fn ex).obs s := by
  have e : g = s.heap.get? := funext h
  rw [e] <;> rfl
theorem ex_at {K : PySem.W.Frag} {ex : List (PySem.W.Frag → Bool)} (h : (ex.all fun f => f K) = true) (i : Nat) {f : PySem.W.Frag → Bool} (e : ex[i]? = some f := by rfl) : f K = true := List.all_eq_true.mp h f (List.mem_of_getElem? e)
end DL
namespace DL
open PySem L2
inductive D where
  | non | bl (b : Bool) | int (i : Int) | str (x : Str) | tup (ds : List D) | loc (n : Nat) | ty (n : String) | cls (a : Addr) | rol (ds : List D)
inductive MO where
  | lst (ds : List D) | dic (kvs : List (Key × D)) | ins (C : Addr) (fs : List (Str × D)) | fdic (kvs : List (Key × D)) | tab (P : Addr) (q : Str)
instance : Inhabited D := ⟨.non⟩
instance : Inhabited MO := ⟨.lst []⟩
abbrev Mem := List MO
/-- a list that is read alone -/
def SqR (K : PySem.W.Frag) (H : Hp) (a : Addr) (vs : List V) : Prop := (∃ o, H a = some (.frz o (.lst vs))) ∨
    ∃ (o : Obj) (its : Array Value) (n : Nat), K.lookup a = some o ∧ o.cls = .type "list" ∧ o.dict = none ∧ o.data = .seq its n ∧ its.size ≤ sizeLine ∧ Vals vs its.toList
section
variable (K : PySem.W.Frag) (m : List Addr) (H : Hp)
mutual
def RD : D → V → Prop
  | .non, v => v = .non
  | .bl b, v => v = .bl b
  | .int i, v => v = .int i
  | .str x, v => v = .str x
  | .tup ds, v => ∃ a vs, v = .ref a ∧ SqT K H a vs ∧ RDs ds vs
  | .rol ds, v => ∃ a vs, v = .ref a ∧ SqR K H a vs ∧ RDs ds vs
  | .loc n, v => ∃ a, v = .ref a ∧ m[n]? = some a
  | .ty n, v => v = .ty n
  | .cls a, v => v = .ref a
def RDs : List D → List V → Prop
  | [], vs => vs = []
  | d :: ds, vs => ∃ v ws, vs = v :: ws ∧ RD d v ∧ RDs ds ws
end
def RKV {κ : Type} : List (κ × D) → List (κ × V) → Prop
  | [], ws => ws = []
  | p :: r, ws => ∃ v s, ws = (p.1, v) :: s ∧ RD K m H p.2 v ∧ RKV r s
def RO : MO → Addr → Prop
  | .lst ds, a => ∃ vs, H a = some (.lst vs) ∧ RDs K m H ds vs
  | .dic kvs, a => ∃ ws, H a = some (.dK ws) ∧ RKV K m H kvs ws
  | .fdic kvs, a => ∃ ob ws, H a = some (.frz ob (.dK ws)) ∧ RKV K m H kvs ws
  | .ins C fs, a => ∃ dx ws, H a = some (.ins C dx ws) ∧ RKV K m H fs ws
  | .tab P q, a => a = P ∧ LamX.TabS H P q
end
structure RM (K : PySem.W.Frag) (m : List Addr) (H : Hp) (M : Mem) : Prop where
  len : m.length = M.length
  nd : m.Nodup
  ob : ∀ (n : Nat) (o : MO), M[n]? = some o → ∃ a, m[n]? = some a ∧ RO K m H o a
/-- what stays -/
structure Grow (m : List Addr) (H : Hp) (m' : List Addr) (H' : Hp) : Prop where
  pre : m <+: m'
  fresh : ∀ b, b ∈ m' → b ∉ m → H b = none
  keep : ∀ b o, H b = some o → b ∉ m → H' b = some o
  frz : ∀ b o u, H b = some (.frz o u) → H' b = some (.frz o u)
  tup : ∀ b xs, H b = some (.tup xs) → H' b = some (.tup xs)
  ext : ∀ b o, H b = some (.ext o) → H' b = some (.ext o)
section
variable {K : PySem.W.Frag} {m m' m'' : List Addr} {H H' H'' : Hp} {M M' : Mem} {a b p : Addr} {d : D} {ds : List D} {v : V} {vs : List V} {o : MO} {n : Nat}
theorem Grow.refl : Grow m H m H := ⟨List.prefix_refl _, fun _ h h' => absurd h h', fun _ _ h _ => h, fun _ _ _ h => h, fun _ _ h => h, fun _ _ h => h⟩
theorem Grow.trans (g : Grow m H m' H') (g' : Grow m' H' m'' H'') : Grow m H m'' H'' where
  pre := List.IsPrefix.trans g.pre g'.pre
  fresh := fun b hb hn => by
    by_cases h : b ∈ m'
    · exact g.fresh b h hn
    · cases q : H b with
      | none => rfl
      | some o =>
        have := g'.fresh b hb h
        rw [g.keep b o q hn] at this
        cases this
  keep := fun b o h hn => by
    have h1 := g.keep b o h hn
    by_cases hb : b ∈ m'
    · have := g.fresh b hb hn
      rw [h] at this
      cases this
    · exact g'.keep b o h1 hb
  frz := fun b o u h => g'.frz b o u (g.frz b o u h)
  tup := fun b xs h => g'.tup b xs (g.tup b xs h)
  ext := fun b xs h => g'.ext b xs (g.ext b xs h)
theorem get_pre (h : m <+: m') (e : m[n]? = some a) : m'[n]? = some a := by
  obtain ⟨t, rfl⟩ := h
  rw [List.getElem?_append_left (List.getElem?_eq_some_iff.mp e).1]
  exact e
structure TupStay (K : PySem.W.Frag) (H H' : Hp) : Prop where
  tu : ∀ b xs, SqT K H b xs → SqT K H' b xs
  ro : ∀ b xs, SqR K H b xs → SqR K H' b xs
  ex : ∀ b o, H b = some (.ext o) → H' b = some (.ext o)
theorem TupStay.of (ht : ∀ b xs, H b = some (.tup xs) → H' b = some (.tup xs)) (hf : ∀ b o u, H b = some (.frz o u) → H' b = some (.frz o u)) (hx : ∀ b o, H b = some (.ext o) → H' b = some (.ext o)) : TupStay K H H' where
  ex := hx
  tu := fun b xs h => by
    rcases h with (h | ⟨o, h⟩) | h
    · exact .inl (.inl (ht _ _ h))
    · exact .inl (.inr ⟨o, hf _ _ _ h⟩)
    · exact .inr h
  ro := fun b xs h => by
    rcases h with ⟨o, h⟩ | h
    · exact .inl ⟨o, hf _ _ _ h⟩
    · exact .inr h
theorem Grow.tups (g : Grow m H m' H') : TupStay K H H' := .of g.tup g.frz g.ext
mutual
theorem RD.mono (h : m <+: m') (t : TupStay K H H') : ∀ {d : D} {v : V}, RD K m H d v → RD K m' H' d v
  | .non, _, q => by unfold RD at q ⊢; exact q
  | .bl _, _, q => by unfold RD at q ⊢; exact q
  | .int _, _, q => by unfold RD at q ⊢; exact q
  | .str _, _, q => by unfold RD at q ⊢; exact q
  | .ty _, _, q => by unfold RD at q ⊢; exact q
  | .cls _, _, q => by unfold RD at q ⊢; exact q
  | .loc _, _, q => by
    unfold RD at q ⊢
    obtain ⟨a, e, r⟩ := q
    exact ⟨a, e, get_pre h r⟩
  | .tup ds, _, q => by
    unfold RD at q ⊢
    obtain ⟨a, vs, e, s, r⟩ := q
    exact ⟨a, vs, e, t.tu _ _ s, RDs.mono h t r⟩
  | .rol ds, _, q => by
    unfold RD at q ⊢
    obtain ⟨a, vs, e, s, r⟩ := q
    exact ⟨a, vs, e, t.ro _ _ s, RDs.mono h t r⟩
theorem RDs.mono (h : m <+: m') (t : TupStay K H H') : ∀ {ds : List D} {vs : List V}, RDs K m H ds vs → RDs K m' H' ds vs
  | [], _, q => by unfold RDs at q ⊢; exact q
  | d :: ds, _, q => by
    unfold RDs at q ⊢
    obtain ⟨v, ws, e, r, s⟩ := q
    exact ⟨v, ws, e, RD.mono h t r, RDs.mono h t s⟩
end
theorem RKV.mono {κ : Type} (h : m <+: m') (t : TupStay K H H') : ∀ {ds : List (κ × D)} {vs : List (κ × V)}, RKV K m H ds vs → RKV K m' H' ds vs
  | [], _, q => q
  | d :: ds, _, q => by
    obtain ⟨v, ws, e, r, s⟩ := q
    exact ⟨v, ws, e, RD.mono h t r, RKV.mono h t s⟩
theorem RD.grow (g : Grow m H m' H') (q : RD K m H d v) : RD K m' H' d v := q.mono g.pre g.tups
theorem RDs.grow (g : Grow m H m' H') (q : RDs K m H ds vs) : RDs K m' H' ds vs := q.mono g.pre g.tups
theorem SqR.sql (h : SqR K H a vs) : SqL K H a vs := by
  rcases h with h | h
  · exact .inl (.inr h)
  · exact .inr h
/-- the slots that the cells name stand -/
theorem RM.at (r : RM K m H M) (e : M[n]? = some o) (ea : m[n]? = some a) : RO K m H o a := by
  obtain ⟨b, eb, q⟩ := r.ob n o e
  rw [ea] at eb
  cases eb
  exact q
theorem nd_ix (hN : m.Nodup) {i j : Nat} (x : m[i]? = some a) (y : m[j]? = some a) : i = j := by
  obtain ⟨hi, ei⟩ := List.getElem?_eq_some_iff.mp x
  obtain ⟨hj, ej⟩ := List.getElem?_eq_some_iff.mp y
  exact (List.getElem_inj hN).mp (ei.trans ej.symm)
theorem RM.some_of (r : RM K m H M) (ea : m[n]? = some a) : ∃ o, M[n]? = some o := by
  have h := (List.getElem?_eq_some_iff.mp ea).1
  rw [r.len] at h
  exact ⟨_, List.getElem?_eq_getElem h⟩
/-- what a cell's object is -/
def Cel : HO → Prop
  | .lst _ => True
  | .dK _ => True
  | .ins _ _ _ => True
  | .frz _ (.dK _) => True
  | .tbl _ => True
  | _ => False
theorem RO.there (r : RO K m H o a) : ∃ u, H a = some u ∧ Cel u := by
  cases o with
  | lst _ => obtain ⟨_, e, _⟩ := r; exact ⟨_, e, trivial⟩
  | dic _ => obtain ⟨_, e, _⟩ := r; exact ⟨_, e, trivial⟩
  | ins _ _ => obtain ⟨_, _, e, _⟩ := r; exact ⟨_, e, trivial⟩
  | fdic _ => obtain ⟨_, _, e, _⟩ := r; exact ⟨_, e, trivial⟩
  | tab P q => obtain ⟨rfl, ps, e, _⟩ := r; exact ⟨_, e, trivial⟩
theorem RM.in_mem (r : RM K m H M) (h : a ∈ m) : ∃ u, H a = some u ∧ Cel u := by
  obtain ⟨n, e⟩ := List.getElem?_of_mem h
  obtain ⟨o, eo⟩ := r.some_of e
  exact (r.at eo e).there
/-- a fresh place is no cell -/
theorem RM.not_mem (r : RM K m H M) (h : H p = none) : p ∉ m := fun q => by
  obtain ⟨u, e, _⟩ := r.in_mem q
  rw [h] at e
  cases e
/-- a cell that is kept: its object where the places stay -/
theorem RO.mono (h : m <+: m') (t : TupStay K H H') (k : ∀ u, H a = some u → H' a = some u) (q : RO K m H o a) : RO K m' H' o a := by
  cases o with
  | lst ds => obtain ⟨vs, e, r⟩ := q; exact ⟨vs, k _ e, r.mono h t⟩
  | dic kvs => obtain ⟨vs, e, r⟩ := q; exact ⟨vs, k _ e, r.mono h t⟩
  | ins C fs => obtain ⟨dx, vs, e, r⟩ := q; exact ⟨dx, vs, k _ e, r.mono h t⟩
  | fdic kvs => obtain ⟨ob, vs, e, r⟩ := q; exact ⟨ob, vs, k _ e, r.mono h t⟩
  | tab P q0 =>
    obtain ⟨e0, ps, h1, h2, h3⟩ := q
    refine ⟨e0, ps, k _ (by rw [e0]; exact h1) |> fun z => by rw [e0] at z; exact z, h2, fun pos cv hc => ?_⟩
    obtain ⟨c, e1, e2⟩ := h3 pos cv hc
    exact ⟨c, e1, t.ex _ _ e2⟩
/-- a new object that no cell names -/
theorem Grow.new {ho : HO} (hp : H p = none) : Grow m H m (upd H p ho) where
  pre := List.prefix_refl _
  fresh := fun _ h h' => absurd h h'
  keep := fun b o e _ => by rw [upd_ne (ne_of_none e hp)]; exact e
  frz := fun b o u e => by rw [upd_ne (ne_of_none e hp)]; exact e
  tup := fun b xs e => by rw [upd_ne (ne_of_none e hp)]; exact e
  ext := fun b xs e => by rw [upd_ne (ne_of_none e hp)]; exact e
theorem RM.new {ho : HO} (r : RM K m H M) (hp : H p = none) : RM K m (upd H p ho) M where
  len := r.len
  nd := r.nd
  ob := fun n o e => by
    obtain ⟨a, ea, q⟩ := r.ob n o e
    exact ⟨a, ea, q.mono (List.prefix_refl _) (Grow.new (m := m) hp).tups fun u e => by rw [upd_ne (ne_of_none e hp)]; exact e⟩
/-- a new cell -/
theorem Grow.cell {ho : HO} (hp : H p = none) : Grow m H (m ++ [p]) (upd H p ho) where
  pre := List.prefix_append _ _
  fresh := fun b h h' => by
    have e : b = p := by simpa [h'] using h
    rw [e]; exact hp
  keep := (Grow.new (m := m) (ho := ho) hp).keep
  frz := (Grow.new (m := m) (ho := ho) hp).frz
  tup := (Grow.new (m := m) (ho := ho) hp).tup
  ext := (Grow.new (m := m) (ho := ho) hp).ext
theorem RM.cell {ho : HO} {o : MO} (r : RM K m H M) (hp : H p = none) (q : RO K (m ++ [p]) (upd H p ho) o p) : RM K (m ++ [p]) (upd H p ho) (M ++ [o]) where
  len := by simp [r.len]
  nd := by
    rw [List.nodup_append]
    refine ⟨r.nd, by simp, fun a ha b hb e => ?_⟩
    have eb : b = p := by simpa using hb
    rw [eb] at e
    rw [e] at ha
    exact r.not_mem hp ha
  ob := fun n u e => by
    by_cases hn : n < M.length
    · rw [List.getElem?_append_left hn] at e
      obtain ⟨a, ea, q⟩ := r.ob n u e
      exact ⟨a, by rw [List.getElem?_append_left (by rw [r.len]; exact hn)]; exact ea, q.mono (List.prefix_append _ _) (Grow.new (m := m) hp).tups fun u e => by rw [upd_ne (ne_of_none e hp)]; exact e⟩
    · have hn2 : n = M.length := by
        have := (List.getElem?_eq_some_iff.mp e).1
        simp at this
        omega
      subst hn2
      have eu : o = u := by simpa using e
      subst eu
      exact ⟨p, by rw [← r.len]; simp, q⟩
/-- a cell is written -/
theorem Grow.put {ho : HO} {n : Nat} (r : RM K m H M) (ea : m[n]? = some a) (hmu : Mut (H a)) : Grow m H m (upd H a ho) where
  pre := List.prefix_refl _
  fresh := fun _ h h' => absurd h h'
  keep := fun b o e hb => by
    have hne : b ≠ a := fun z => by rw [z] at hb; exact hb (List.mem_of_getElem? ea)
    rw [upd_ne hne]; exact e
  frz := fun b o u e => by
    have hne : b ≠ a := fun z => by
      rw [← z, e] at hmu
      exact hmu
    rw [upd_ne hne]; exact e
  tup := fun b u e => by
    have hne : b ≠ a := fun z => by
      rw [← z, e] at hmu
      exact hmu
    rw [upd_ne hne]; exact e
  ext := fun b u e => by
    have hne : b ≠ a := fun z => by
      obtain ⟨w, e2, hc⟩ := r.in_mem (List.mem_of_getElem? ea)
      rw [← z, e] at e2
      cases e2
      exact hc
    rw [upd_ne hne]; exact e
theorem RM.put {ho : HO} {o : MO} {n : Nat} (r : RM K m H M) (ea : m[n]? = some a) (hmu : Mut (H a)) (q : RO K m (upd H a ho) o a) : RM K m (upd H a ho) (M.set n o) where
  len := by simp [r.len]
  nd := r.nd
  ob := fun j u e => by
    by_cases hj : j = n
    · subst hj
      have hl : j < M.length := by rw [← r.len]; exact (List.getElem?_eq_some_iff.mp ea).1
      rw [List.getElem?_set_self hl] at e
      cases e
      exact ⟨a, ea, q⟩
    · rw [List.getElem?_set_ne (fun z => hj z.symm)] at e
      obtain ⟨b, eb, q⟩ := r.ob j u e
      have hne : b ≠ a := fun z => hj (nd_ix r.nd (z ▸ eb) ea)
      exact ⟨b, eb, q.mono (List.prefix_refl _) (Grow.put (ho := ho) r ea hmu).tups fun u e => by rw [upd_ne hne]; exact e⟩
end
end DL
namespace DL
open PySem L2
abbrev Rho := List (Option D)
abbrev QD := D → Mem → Prop
abbrev DTE := Rho → Mem → QD → Prop
abbrev DTT := Rho → Mem → (Bool → Mem → Prop) → Prop
abbrev DTA := Rho → Mem → (List D → Mem → Prop) → Prop
structure DEnds where
  nx : Rho → Mem → Prop
  rt : QD
  bk : Rho → Mem → Prop := fun _ _ => False
  ct : Rho → Mem → Prop := fun _ _ => False
abbrev DTS := DEnds → Rho → Mem → Prop
/-- the context and where the def began -/
structure Zx where
  X : Cx
  m0 : List Addr
  H0 : Hp
structure RS (z : Zx) (m : List Addr) (r : Rho) (M : Mem) (σ : L2.St) (H : Hp) : Prop where
  g : Grow z.m0 z.H0 m H
  rm : RM z.X.K m H M
  len : r.length = σ.length
  sl : ∀ (i : Nat) (d : D), r[i]? = some (some d) → ∃ v, σ[i]? = some (some v) ∧ RD z.X.K m H d v
section
variable {z : Zx} {m m' : List Addr} {r : Rho} {M M' : Mem} {σ : L2.St} {H H' : Hp}
theorem RS.grow (s : RS z m r M σ H) (g : Grow m H m' H') (q : RM z.X.K m' H' M') : RS z m' r M' σ H' where
  g := s.g.trans g
  rm := q
  len := s.len
  sl := fun i d e => by
    obtain ⟨v, ev, rv⟩ := s.sl i d e
    exact ⟨v, ev, rv.grow g⟩
theorem RS.set (s : RS z m r M σ H) {i : Nat} {d : D} {v : V} (q : RD z.X.K m H d v) : RS z m (r.set i (some d)) M (σ.set i (some v)) H where
  g := s.g
  rm := s.rm
  len := by simp [s.len]
  sl := fun j e h => by
    by_cases hj : j = i
    · subst hj
      have hl : j < r.length := by
        have := (List.getElem?_eq_some_iff.mp h).1
        simpa using this
      rw [List.getElem?_set_self hl] at h
      cases h
      exact ⟨v, by rw [List.getElem?_set_self (by rw [← s.len]; exact hl)], q⟩
    · rw [List.getElem?_set_ne (fun z => hj z.symm)] at h
      obtain ⟨w, e1, e2⟩ := s.sl j e h
      exact ⟨w, by rw [List.getElem?_set_ne (fun z => hj z.symm)]; exact e1, e2⟩
end
/-- what follows, told without the heap -/
def Then (K : PySem.W.Frag) (m : List Addr) (H : Hp) (Qd : QD) (Q : VK) : Prop := ∀ d M' m' v H', Qd d M' → Grow m H m' H' → RM K m' H' M' → RD K m' H' d v → Q v H'
def ThenT (K : PySem.W.Frag) (m : List Addr) (H : Hp) (Qd : Bool → Mem → Prop) (Q : Bool → Hp → Prop) : Prop := ∀ b M' m' H', Qd b M' → Grow m H m' H' → RM K m' H' M' → Q b H'
def ThenA (K : PySem.W.Frag) (m : List Addr) (H : Hp) (Qd : List D → Mem → Prop) (Q : List V → Hp → Prop) : Prop := ∀ ds M' m' vs H', Qd ds M' → Grow m H m' H' → RM K m' H' M' → RDs K m' H' ds vs → Q vs H'
theorem Then.grow {K m H m' H' Qd Q} (t : Then K m H Qd Q) (g : Grow m H m' H') : Then K m' H' Qd Q := fun d M1 m1 v H1 q g1 r1 d1 => t d M1 m1 v H1 q (g.trans g1) r1 d1
theorem ThenT.grow {K m H m' H' Qd Q} (t : ThenT K m H Qd Q) (g : Grow m H m' H') : ThenT K m' H' Qd Q := fun d M1 m1 H1 q g1 r1 => t d M1 m1 H1 q (g.trans g1) r1
theorem ThenA.grow {K m H m' H' Qd Q} (t : ThenA K m H Qd Q) (g : Grow m H m' H') : ThenA K m' H' Qd Q := fun d M1 m1 v H1 q g1 r1 d1 => t d M1 m1 v H1 q (g.trans g1) r1 d1
def LE (z : Zx) (te : TE) (t : DTE) : Prop := ∀ m r M σ H Q Qd, RS z m r M σ H → t r M Qd → Then z.X.K m H Qd Q → te σ H Q
def LT (z : Zx) (te : TT) (t : DTT) : Prop := ∀ m r M σ H Q Qd, RS z m r M σ H → t r M Qd → ThenT z.X.K m H Qd Q → te σ H Q
def LA (z : Zx) (te : TA) (t : DTA) : Prop := ∀ m r M σ H Q Qd, RS z m r M σ H → t r M Qd → ThenA z.X.K m H Qd Q → te σ H Q
def DE (z : Zx) (e : Expr) (t : DTE) : Prop := ∃ te, PE z.X e te ∧ LE z te t
def DT (z : Zx) (e : Expr) (t : DTT) : Prop := ∃ te, PT z.X e te ∧ LT z te t
def DW (z : Zx) (e : Expr) (t : DTT) : Prop := ∃ te, PW z.X e te ∧ LT z te t
def DA (z : Zx) (es : List Expr) (t : DTA) : Prop := ∃ te, PA z.X es te ∧ LA z te t
abbrev DR2 := D → D → Mem → QD → Prop
def LR2 (K : PySem.W.Frag) (rr : R2) (rd : DR2) : Prop := ∀ m M H x y dx dy Q Qd, RM K m H M → RD K m H dx x → RD K m H dy y → rd dx dy M Qd → Then K m H Qd Q → rr x y H Q
def DOp (z : Zx) (f : Value → Value → Sem Value) (rd : DR2) : Prop := ∃ rr, OpR z.X f rr ∧ LR2 z.X.K rr rd
abbrev DRA := List D → Mem → QD → Prop
def LRA (K : PySem.W.Frag) (rr : List V → Hp → VK → Prop) (rd : DRA) : Prop := ∀ m M H vs ds Q Qd, RM K m H M → RDs K m H ds vs → rd ds M Qd → Then K m H Qd Q → rr vs H Q
def DCall (z : Zx) (f : Value) (rd : DRA) : Prop := ∃ rr, CallR z.X f rr ∧ LRA z.X.K rr rd
section
variable {z : Zx} {a b c e : Expr} {es : List Expr} {ta tb tc te : DTE} {tt tu : DTT} {tas : DTA} {pos : Pos}
def dVar (i : Nat) : DTE := fun r M Q => match r[i]? with
  | some (some d) => Q d M
  | _ => False
theorem de_var (i : Nat) {x : Str} (hN : z.X.N[i]? = some x := by rfl) (hv : Vis z.X.env.scope x := by first | exact Or.inl rfl | exact Or.inr (Or.inl rfl) | exact Or.inr (Or.inr rfl)) (hd : (x == ("__debug__" : Str)) = false := by decide)
    (hcd : (x == ("__classdict__" : Str)) = false := by decide) : DE z (.Name x pos) (dVar i) := by
  refine ⟨_, pe_var hN hv hd hcd, fun m r M σ H Q Qd s h t => ?_⟩
  unfold dVar at h
  split at h
  · rename_i d hd
    obtain ⟨v, ev, rv⟩ := s.sl i d hd
    exact ⟨v, ev, t _ _ _ _ _ h .refl s.rm rv⟩
  · exact h.elim
def dC (d : D) : DTE := fun _ M Q => Q d M
theorem le_c {d : D} {v : V} (h : ∀ m H, RD z.X.K m H d v) : LE z (tC v) (dC d) := fun m r M σ H Q Qd s q t => t _ _ _ _ _ q .refl s.rm (h _ _)
theorem de_int {i j} : DE z (.Constant (.int i) j pos) (dC (.int i)) := ⟨_, pe_int, le_c fun _ _ => by unfold RD; rfl⟩
theorem de_bl {i j} : DE z (.Constant (.bool i) j pos) (dC (.bl i)) := ⟨_, pe_bl, le_c fun _ _ => by unfold RD; rfl⟩
theorem de_non {j} : DE z (.Constant .none j pos) (dC .non) := ⟨_, pe_non, le_c fun _ _ => by unfold RD; rfl⟩
theorem de_str {x j} : DE z (.Constant (.str x) j pos) (dC (.str x)) := ⟨_, pe_str, le_c fun _ _ => by unfold RD; rfl⟩
/-- a module's class, def -/
theorem de_cls {x : Str} {C : Addr} (hm : z.X.mg x = some (.ref C)) (hg : Gl z.X x := by rfl) (hd : (x == ("__debug__" : Str)) = false := by decide) : DE z (.Name x pos) (dC (.cls C)) := ⟨_, pe_glob hg hm (v := .ref C) rfl hd, le_c fun _ _ => by unfold RD; rfl⟩
/-- a module's number -/
theorem de_gint {x : Str} {i : Int} {t : Tok} (hm : z.X.mg x = some (.int i t)) (hg : Gl z.X x := by rfl) (hd : (x == ("__debug__" : Str)) = false := by decide) : DE z (.Name x pos) (dC (.int i)) := ⟨_, pe_glob hg hm (v := .int i) ⟨_, rfl⟩ hd, le_c fun _ _ => by unfold RD; rfl⟩
theorem de_gstr {x : Str} {i : Str} {t : Tok} (hm : z.X.mg x = some (.str i t)) (hg : Gl z.X x := by rfl) (hd : (x == ("__debug__" : Str)) = false := by decide) : DE z (.Name x pos) (dC (.str i)) := ⟨_, pe_glob hg hm (v := .str i) ⟨_, rfl⟩ hd, le_c fun _ _ => by unfold RD; rfl⟩
/-- a builtin class by its name -/
theorem de_ty {x : Str} {n : String} (hm : z.X.mg x = none) (hv : bootBuiltins x = some (.type n)) (hg : Gl z.X x := by rfl) (hn : x ≠ "__name__" := by decide) (hd : (x == ("__debug__" : Str)) = false := by decide) : DE z (.Name x pos) (dC (.ty n)) :=
  ⟨_, pe_bltn hg hm hv (v := .ty n) rfl hn hd, le_c fun _ _ => by unfold RD; rfl⟩
def dBin (rd : DR2) (ta tb : DTE) : DTE := fun r M Q => ta r M fun x M1 => tb r M1 fun y M2 => rd x y M2 Q
theorem le_bin {rr : R2} {rd : DR2} {wa wb : TE} (h : LR2 z.X.K rr rd) (ha : LE z wa ta) (hb : LE z wb tb) : LE z (tOp rr wa wb) (dBin rd ta tb) := fun m r M σ H Q Qd s q t =>
  ha m r M σ H _ _ s q fun x M1 m1 v H1 q1 g1 r1 d1 => hb m1 r M1 σ H1 _ _ (s.grow g1 r1) q1 fun y M2 m2 w H2 q2 g2 r2 d2 =>
    h m2 M2 H2 v w x y Q Qd r2 (d1.grow g2) d2 q2 (t.grow (g1.trans g2))
theorem de_bin {op : Operator} {rd : DR2} (h : DOp z (binaryOp op) rd) (ha : DE z a ta) (hb : DE z b tb) : DE z (.BinOp a op b pos) (dBin rd ta tb) := by
  obtain ⟨rr, o, l⟩ := h
  obtain ⟨wa, pa, la⟩ := ha
  obtain ⟨wb, pb, lb⟩ := hb
  exact ⟨_, pe_op o pa pb, le_bin l la lb⟩
theorem de_cmp {op : CmpOp} {rd : DR2} (h : DOp z (compareOp op) rd) (ha : DE z a ta) (hb : DE z b tb) (hm : behindInMarks op b = false := by first | exact nomark _ | rfl) : DE z (.Compare a [op] [b] pos) (dBin rd ta tb) := by
  obtain ⟨rr, o, l⟩ := h
  obtain ⟨wa, pa, la⟩ := ha
  obtain ⟨wb, pb, lb⟩ := hb
  exact ⟨_, pe_cmpR o pa pb hm, le_bin l la lb⟩
def dTest (ta : DTE) : DTT := fun r M Q => ta r M fun x M1 => match x with
  | .bl k => Q k M1
  | _ => False
theorem dt_cmp {op : CmpOp} {rd : DR2} (h : DOp z (compareOp op) rd) (ha : DE z a ta) (hb : DE z b tb) (hm : behindInMarks op b = false := by first | exact nomark _ | rfl) : DT z (.Compare a [op] [b] pos) (dTest (dBin rd ta tb)) := by
  obtain ⟨rr, o, l⟩ := h
  obtain ⟨wa, pa, la⟩ := ha
  obtain ⟨wb, pb, lb⟩ := hb
  refine ⟨_, pt_cmpR o pa pb hm, fun m r M σ H Q Qd s q t => ?_⟩
  refine le_bin l la lb m r M σ H _ _ s q fun x M1 m1 v H1 q1 g1 r1 d1 => ?_
  split at q1
  · unfold RD at d1
    exact ⟨_, d1, t _ _ _ _ q1 g1 r1⟩
  · exact q1.elim
def dChain (rd rd' : DR2) (ta tb tc : DTE) : DTE := fun r M Q => ta r M fun x M1 => tb r M1 fun y M2 => rd x y M2 fun w M3 => match w with
  | .bl true => tc r M3 fun u M4 => rd' y u M4 Q
  | .bl false => Q (.bl false) M3
  | _ => False
theorem le_chain {rr rr' : R2} {rd rd' : DR2} {wa wb wc : TE} (h : LR2 z.X.K rr rd) (h' : LR2 z.X.K rr' rd') (ha : LE z wa ta) (hb : LE z wb tb) (hc : LE z wc tc) : LE z (tChain rr rr' wa wb wc) (dChain rd rd' ta tb tc) := fun m r M σ H Q Qd s q t =>
  ha m r M σ H _ _ s q fun x M1 m1 v H1 q1 g1 r1 d1 => hb m1 r M1 σ H1 _ _ (s.grow g1 r1) q1 fun y M2 m2 w H2 q2 g2 r2 d2 => by
    refine h m2 M2 H2 v w x y _ _ r2 (d1.grow g2) d2 q2 fun k M3 m3 u H3 q3 g3 r3 d3 => ?_
    split at q3
    · unfold RD at d3
      refine ⟨true, d3, ?_⟩
      rw [if_pos rfl]
      exact hc m3 r M3 σ H3 _ _ (s.grow ((g1.trans g2).trans g3) r3) q3 fun y4 M4 m4 v4 H4 q4 g4 r4 d4 =>
        h' m4 M4 H4 w v4 y y4 Q Qd r4 (d2.grow (g3.trans g4)) d4 q4 (t.grow (((g1.trans g2).trans g3).trans g4))
    · unfold RD at d3
      refine ⟨false, d3, ?_⟩
      rw [if_neg (by decide)]
      exact t _ _ _ _ _ q3 ((g1.trans g2).trans g3) r3 (by unfold RD; rfl)
    · exact q3.elim
theorem de_chain {op op' : CmpOp} {rd rd' : DR2} (h : DOp z (compareOp op) rd) (h' : DOp z (compareOp op') rd') (ha : DE z a ta) (hb : DE z b tb) (hc : DE z c tc)
    (hm : lastMarks [op, op'] [b, c] = false := by with_unfolding_all rfl) : DE z (.Compare a [op, op'] [b, c] pos) (dChain rd rd' ta tb tc) := by
  obtain ⟨rr, o, l⟩ := h
  obtain ⟨rr', o', l'⟩ := h'
  obtain ⟨wa, pa, la⟩ := ha
  obtain ⟨wb, pb, lb⟩ := hb
  obtain ⟨wc, pc, lc⟩ := hc
  exact ⟨_, pe_chain o o' pa pb pc hm, le_chain l l' la lb lc⟩
theorem lt_test {w : TE} (h : LE z w ta) : LT z (tTest w) (dTest ta) := fun m r M σ H Q Qd s q t => by
  refine h m r M σ H _ _ s q fun x M1 m1 v H1 q1 g1 r1 d1 => ?_
  split at q1
  · unfold RD at d1
    exact ⟨_, d1, t _ _ _ _ q1 g1 r1⟩
  · exact q1.elim
theorem dt_chain {op op' : CmpOp} {rd rd' : DR2} (h : DOp z (compareOp op) rd) (h' : DOp z (compareOp op') rd') (ha : DE z a ta) (hb : DE z b tb) (hc : DE z c tc)
    (hm : lastMarks [op, op'] [b, c] = false := by with_unfolding_all rfl) : DT z (.Compare a [op, op'] [b, c] pos) (dTest (dChain rd rd' ta tb tc)) := by
  obtain ⟨rr, o, l⟩ := h
  obtain ⟨rr', o', l'⟩ := h'
  obtain ⟨wa, pa, la⟩ := ha
  obtain ⟨wb, pb, lb⟩ := hb
  obtain ⟨wc, pc, lc⟩ := hc
  exact ⟨_, pt_chain o o' pa pb pc hm, lt_test (le_chain l l' la lb lc)⟩
def truD (x : D) (M : Mem) (Q : Bool → Prop) : Prop := match x with
  | .non => Q false
  | .bl b => Q b
  | .int i => Q (i != 0)
  | .str y => y.length ≤ sizeLine ∧ Q ((y.length : Int) != 0)
  | .tup ds => Q (!ds.isEmpty)
  | .rol ds => Q (!ds.isEmpty)
  | .loc n => (match M[n]? with
    | some (.lst ds) => Q (!ds.isEmpty)
    | some (.dic kvs) => Q (!kvs.isEmpty)
    | _ => False)
  | _ => False
theorem RDs.isEmpty {K m H} : ∀ {ds : List D} {vs : List V}, RDs K m H ds vs → vs.isEmpty = ds.isEmpty
  | [], _, h => by unfold RDs at h; subst h; rfl
  | _ :: _, _, h => by
    unfold RDs at h
    obtain ⟨v, ws, rfl, _⟩ := h
    rfl
theorem RDs.length {K m H} : ∀ {ds : List D} {vs : List V}, RDs K m H ds vs → vs.length = ds.length
  | [], _, h => by unfold RDs at h; subst h; rfl
  | _ :: ds, _, h => by
    unfold RDs at h
    obtain ⟨v, ws, rfl, _, h⟩ := h
    simp [RDs.length h]
theorem RKV.length {κ : Type} {K m H} : ∀ {ds : List (κ × D)} {vs : List (κ × V)}, RKV K m H ds vs → vs.length = ds.length
  | [], _, h => by unfold RKV at h; subst h; rfl
  | _ :: ds, _, h => by
    unfold RKV at h
    obtain ⟨v, ws, rfl, _, h⟩ := h
    simp [RKV.length h]
theorem RKV.isEmpty {κ : Type} {K m H} : ∀ {ds : List (κ × D)} {vs : List (κ × V)}, RKV K m H ds vs → vs.isEmpty = ds.isEmpty
  | [], _, h => by unfold RKV at h; subst h; rfl
  | _ :: _, _, h => by
    unfold RKV at h
    obtain ⟨v, ws, rfl, _⟩ := h
    rfl
theorem RM.loc {K m H M} (r : RM K m H M) {n : Nat} {v : V} {o : MO} (d : RD K m H (.loc n) v) (e : M[n]? = some o) : ∃ a, v = .ref a ∧ m[n]? = some a ∧ RO K m H o a := by
  unfold RD at d
  obtain ⟨a, rfl, ea⟩ := d
  exact ⟨a, rfl, ea, r.at e ea⟩
theorem tru_of {K m H M} {x : D} {v : V} {Q : Bool → Prop} (r : RM K m H M) (d : RD K m H x v) (h : truD x M Q) : ∃ k, TruV K v H k ∧ Q k := by
  unfold truD at h
  split at h
  · unfold RD at d; subst d; exact ⟨_, rfl, h⟩
  · unfold RD at d; subst d; exact ⟨_, rfl, h⟩
  · unfold RD at d; subst d; exact ⟨_, rfl, h⟩
  · unfold RD at d; subst d; exact ⟨_, ⟨h.1, rfl⟩, h.2⟩
  · unfold RD at d
    obtain ⟨a, vs, rfl, s, q⟩ := d
    exact ⟨_, .inr (.inl ⟨vs, s, rfl⟩), by rw [q.isEmpty]; exact h⟩
  · unfold RD at d
    obtain ⟨a, vs, rfl, s, q⟩ := d
    exact ⟨_, .inl ⟨vs, s.sql, rfl⟩, by rw [q.isEmpty]; exact h⟩
  · split at h
    · rename_i e
      obtain ⟨a, rfl, _, vs, e, q⟩ := r.loc d e
      exact ⟨_, .inl ⟨vs, SqL.of e, rfl⟩, by rw [q.isEmpty]; exact h⟩
    · rename_i e
      obtain ⟨a, rfl, _, vs, e, q⟩ := r.loc d e
      exact ⟨_, .inr (.inr ⟨vs, e, rfl⟩), by rw [q.isEmpty]; exact h⟩
    · exact h.elim
  · exact h.elim
def dTru (ta : DTE) : DTT := fun r M Q => ta r M fun x M1 => truD x M1 fun k => Q k M1
theorem dt_e (ha : DE z a ta) (he : ∀ whole, isTrue a z.X.env whole = (do let v ← whole; standAt a.pos; holding [v] (truthy v)) := by intro _; rfl) : DT z a (dTru ta) := by
  obtain ⟨wa, pa, la⟩ := ha
  refine ⟨_, pt_truth pa he, fun m r M σ H Q Qd s q t => ?_⟩
  refine la m r M σ H _ _ s q fun x M1 m1 v H1 q1 g1 r1 d1 => ?_
  obtain ⟨k, e, q2⟩ := tru_of r1 d1 q1
  exact ⟨k, e, t _ _ _ _ q2 g1 r1⟩
def dNotT (ta : DTT) : DTT := fun r M Q => ta r M fun k M1 => Q (!k) M1
theorem dt_not (h : DT z a tt) : DT z (.UnaryOp .Not a pos) (dNotT tt) := by
  obtain ⟨wa, pa, la⟩ := h
  exact ⟨_, pt_not pa, fun m r M σ H Q Qd s q t => la m r M σ H _ _ s q fun k M1 m1 H1 q1 g1 r1 => t _ _ _ _ q1 g1 r1⟩
def dAndT (ta tb : DTT) : DTT := fun r M Q => ta r M fun k M1 => match k with
  | true => tb r M1 Q
  | false => Q false M1
def dOrT (ta tb : DTT) : DTT := fun r M Q => ta r M fun k M1 => match k with
  | true => Q true M1
  | false => tb r M1 Q
theorem dw_and1 (h : DT z a tt) : DW z (.BoolOp .And [a] pos) tt := by
  obtain ⟨wa, pa, la⟩ := h
  exact ⟨_, pw_and1 pa, la⟩
theorem dw_or1 (h : DT z a tt) : DW z (.BoolOp .Or [a] pos) tt := by
  obtain ⟨wa, pa, la⟩ := h
  exact ⟨_, pw_or1 pa, la⟩
theorem dw_and {rest : List Expr} (h : DT z a tt) (h' : DW z (.BoolOp .And (b :: rest) pos) tu) : DW z (.BoolOp .And (a :: b :: rest) pos) (dAndT tt tu) := by
  obtain ⟨wa, pa, la⟩ := h
  obtain ⟨wb, pb, lb⟩ := h'
  refine ⟨_, pw_and pa pb, fun m r M σ H Q Qd s q t => la m r M σ H _ _ s q fun k M1 m1 H1 q1 g1 r1 => ?_⟩
  cases k with
  | true => rw [if_pos rfl]; exact lb m1 r M1 σ H1 _ _ (s.grow g1 r1) q1 (t.grow g1)
  | false => rw [if_neg (by decide)]; exact t _ _ _ _ q1 g1 r1
theorem dw_or {rest : List Expr} (h : DT z a tt) (h' : DW z (.BoolOp .Or (b :: rest) pos) tu) : DW z (.BoolOp .Or (a :: b :: rest) pos) (dOrT tt tu) := by
  obtain ⟨wa, pa, la⟩ := h
  obtain ⟨wb, pb, lb⟩ := h'
  refine ⟨_, pw_or pa pb, fun m r M σ H Q Qd s q t => la m r M σ H _ _ s q fun k M1 m1 H1 q1 g1 r1 => ?_⟩
  cases k with
  | true => rw [if_pos rfl]; exact t _ _ _ _ q1 g1 r1
  | false => rw [if_neg (by decide)]; exact lb m1 r M1 σ H1 _ _ (s.grow g1 r1) q1 (t.grow g1)
theorem dt_w (h : DW z a tt) : DT z a tt := by
  obtain ⟨wa, pa, la⟩ := h
  exact ⟨_, pa.pt, la⟩
def dAndV (ta tb : DTE) : DTE := fun r M Q => ta r M fun x M1 => truD x M1 fun k => match k with
  | true => tb r M1 Q
  | false => Q x M1
def dOrV (ta tb : DTE) : DTE := fun r M Q => ta r M fun x M1 => truD x M1 fun k => match k with
  | true => Q x M1
  | false => tb r M1 Q
def dNotV (ta : DTE) : DTE := fun r M Q => ta r M fun x M1 => truD x M1 fun k => Q (.bl (!k)) M1
theorem de_one {op} (h : DE z a ta) : DE z (.BoolOp op [a] pos) ta := by
  obtain ⟨wa, pa, la⟩ := h
  exact ⟨_, pe_one pa, la⟩
theorem de_and {rest : List Expr} (h : DE z a ta) (h' : DE z (.BoolOp .And (b :: rest) pos) tb) : DE z (.BoolOp .And (a :: b :: rest) pos) (dAndV ta tb) := by
  obtain ⟨wa, pa, la⟩ := h
  obtain ⟨wb, pb, lb⟩ := h'
  refine ⟨_, pe_andT pa pb, fun m r M σ H Q Qd s q t => la m r M σ H _ _ s q fun x M1 m1 v H1 q1 g1 r1 d1 => ?_⟩
  obtain ⟨k, e, q2⟩ := tru_of r1 d1 q1
  refine ⟨k, e, ?_⟩
  cases k with
  | true => rw [if_pos rfl]; exact lb m1 r M1 σ H1 _ _ (s.grow g1 r1) q2 (t.grow g1)
  | false => rw [if_neg (by decide)]; exact t _ _ _ _ _ q2 g1 r1 d1
theorem de_or {rest : List Expr} (h : DE z a ta) (h' : DE z (.BoolOp .Or (b :: rest) pos) tb) : DE z (.BoolOp .Or (a :: b :: rest) pos) (dOrV ta tb) := by
  obtain ⟨wa, pa, la⟩ := h
  obtain ⟨wb, pb, lb⟩ := h'
  refine ⟨_, pe_orT pa pb, fun m r M σ H Q Qd s q t => la m r M σ H _ _ s q fun x M1 m1 v H1 q1 g1 r1 d1 => ?_⟩
  obtain ⟨k, e, q2⟩ := tru_of r1 d1 q1
  refine ⟨k, e, ?_⟩
  cases k with
  | true => rw [if_pos rfl]; exact t _ _ _ _ _ q2 g1 r1 d1
  | false => rw [if_neg (by decide)]; exact lb m1 r M1 σ H1 _ _ (s.grow g1 r1) q2 (t.grow g1)
theorem de_not (h : DE z a ta) : DE z (.UnaryOp .Not a pos) (dNotV ta) := by
  obtain ⟨wa, pa, la⟩ := h
  refine ⟨_, pe_notT pa, fun m r M σ H Q Qd s q t => la m r M σ H _ _ s q fun x M1 m1 v H1 q1 g1 r1 d1 => ?_⟩
  obtain ⟨k, e, q2⟩ := tru_of r1 d1 q1
  exact ⟨k, e, t _ _ _ _ _ q2 g1 r1 (by unfold RD; rfl)⟩
def dIf (tt : DTT) (ta tb : DTE) : DTE := fun r M Q => tt r M fun k M1 => match k with
  | true => ta r M1 Q
  | false => tb r M1 Q
def dNil : DTA := fun _ M Q => Q [] M
def dCons (ta : DTE) (tr : DTA) : DTA := fun r M Q => ta r M fun x M1 => tr r M1 fun xs M2 => Q (x :: xs) M2
theorem da_nil : DA z [] dNil := ⟨_, pa_nil, fun m r M σ H Q Qd s q t => t _ _ _ _ _ q .refl s.rm (by unfold RDs; rfl)⟩
theorem da_cons (h : DE z a ta) (h' : DA z es tas) (hs : starEach (a :: es) z.X.env = (false, eval a z.X.env) :: starEach es z.X.env := by rfl) : DA z (a :: es) (dCons ta tas) := by
  obtain ⟨wa, pa, la⟩ := h
  obtain ⟨wb, pb, lb⟩ := h'
  refine ⟨_, pa_cons pa pb hs, fun m r M σ H Q Qd s q t => la m r M σ H _ _ s q fun x M1 m1 v H1 q1 g1 r1 d1 => ?_⟩
  exact lb m1 r M1 σ H1 _ _ (s.grow g1 r1) q1 fun xs M2 m2 vs H2 q2 g2 r2 d2 => t _ _ _ _ _ q2 (g1.trans g2) r2 (by unfold RDs; exact ⟨v, vs, rfl, d1.grow g2, d2⟩)
def dTup (ta : DTA) : DTE := fun r M Q => ta r M fun xs M1 => xs.length ≤ sizeLine ∧ Q (.tup xs) M1
def dLst (ta : DTA) : DTE := fun r M Q => ta r M fun xs M1 => xs.length ≤ sizeLine ∧ Q (.loc M1.length) (M1 ++ [.lst xs])
theorem new_tup {K m H M} {xs : List D} {vs : List V} {Q : VK} {Qd : QD} {p : Addr} (r : RM K m H M) (d : RDs K m H xs vs) (hp : H p = none) (q : Qd (.tup xs) M) (t : Then K m H Qd Q) : Q (.ref p) (upd H p (.tup vs)) := by
  refine t _ _ _ _ _ q (Grow.new hp) (r.new hp) ?_
  unfold RD
  exact ⟨p, vs, rfl, SqT.of upd_same, d.grow (Grow.new hp)⟩
theorem new_cell {K m H M} {o : MO} {ho : HO} {Q : VK} {Qd : QD} {p : Addr} (r : RM K m H M) (hp : H p = none) (d : RO K (m ++ [p]) (upd H p ho) o p) (q : Qd (.loc M.length) (M ++ [o])) (t : Then K m H Qd Q) : Q (.ref p) (upd H p ho) := by
  refine t _ _ _ _ _ q (Grow.cell hp) (r.cell hp d) ?_
  unfold RD
  exact ⟨p, rfl, by rw [← r.len]; simp⟩
theorem new_lst {K m H M} {xs : List D} {vs : List V} {Q : VK} {Qd : QD} {p : Addr} (r : RM K m H M) (d : RDs K m H xs vs) (hp : H p = none) (q : Qd (.loc M.length) (M ++ [.lst xs])) (t : Then K m H Qd Q) : Q (.ref p) (upd H p (.lst vs)) :=
  new_cell (o := .lst xs) r hp ⟨vs, upd_same, d.grow (Grow.cell hp)⟩ q t
theorem de_tup {x1} (h : DA z es tas) : DE z (.Tuple es x1 pos) (dTup tas) := by
  obtain ⟨wa, pa, la⟩ := h
  refine ⟨_, pe_tup pa, fun m r M σ H Q Qd s q t => la m r M σ H _ _ s q fun xs M1 m1 vs H1 q1 g1 r1 d1 => ⟨by rw [d1.length]; exact q1.1, fun p hp => ?_⟩⟩
  exact new_tup r1 d1 hp q1.2 (t.grow g1)
theorem de_lst (h : DA z es tas) : DE z (.List es pos) (dLst tas) := by
  obtain ⟨wa, pa, la⟩ := h
  refine ⟨_, pe_lst pa, fun m r M σ H Q Qd s q t => la m r M σ H _ _ s q fun xs M1 m1 vs H1 q1 g1 r1 d1 => ⟨by rw [d1.length]; exact q1.1, fun p hp => ?_⟩⟩
  exact new_lst r1 d1 hp q1.2 (t.grow g1)
def dNewDict : DTE := fun _ M Q => Q (.loc M.length) (M ++ [.dic []])
end
end DL
namespace DL
open PySem L2
section
variable {z : Zx} {K : PySem.W.Frag} {m : List Addr} {H : Hp} {M : Mem}
theorem RD.int_ {i : Int} {v : V} (d : RD K m H (.int i) v) : v = .int i := by unfold RD at d; exact d
theorem RD.bl_ {i : Bool} {v : V} (d : RD K m H (.bl i) v) : v = .bl i := by unfold RD at d; exact d
theorem RD.str_ {i : Str} {v : V} (d : RD K m H (.str i) v) : v = .str i := by unfold RD at d; exact d
theorem RD.non_ {v : V} (d : RD K m H .non v) : v = .non := by unfold RD at d; exact d
theorem RD.ty_ {n : String} {v : V} (d : RD K m H (.ty n) v) : v = .ty n := by unfold RD at d; exact d
theorem RD.cls_ {n : Addr} {v : V} (d : RD K m H (.cls n) v) : v = .ref n := by unfold RD at d; exact d
theorem RD.tup_ {ds : List D} {v : V} (d : RD K m H (.tup ds) v) : ∃ a vs, v = .ref a ∧ SqT K H a vs ∧ RDs K m H ds vs := by unfold RD at d; exact d
theorem RD.rol_ {ds : List D} {v : V} (d : RD K m H (.rol ds) v) : ∃ a vs, v = .ref a ∧ SqR K H a vs ∧ RDs K m H ds vs := by unfold RD at d; exact d
theorem RD.int' {i : Int} : RD K m H (.int i) (.int i) := by unfold RD; rfl
theorem RD.bl' {i : Bool} : RD K m H (.bl i) (.bl i) := by unfold RD; rfl
theorem RD.str' {i : Str} : RD K m H (.str i) (.str i) := by unfold RD; rfl
theorem RD.non' : RD K m H .non .non := by unfold RD; rfl
theorem RD.tup' {ds : List D} {a : Addr} {vs : List V} (h : SqT K H a vs) (q : RDs K m H ds vs) : RD K m H (.tup ds) (.ref a) := by unfold RD; exact ⟨a, vs, rfl, h, q⟩
theorem RDs.nil' : RDs K m H [] [] := by unfold RDs; rfl
theorem RDs.cons' {d : D} {ds : List D} {v : V} {vs : List V} (h : RD K m H d v) (q : RDs K m H ds vs) : RDs K m H (d :: ds) (v :: vs) := by unfold RDs; exact ⟨v, vs, rfl, h, q⟩
theorem RDs.cons_ {d : D} {ds : List D} {vs : List V} (h : RDs K m H (d :: ds) vs) : ∃ v ws, vs = v :: ws ∧ RD K m H d v ∧ RDs K m H ds ws := by unfold RDs at h; exact h
theorem RDs.nil_ {vs : List V} (h : RDs K m H [] vs) : vs = [] := by unfold RDs at h; exact h
theorem RDs.append {ds es : List D} : ∀ {vs ws : List V}, RDs K m H ds vs → RDs K m H es ws → RDs K m H (ds ++ es) (vs ++ ws) := by
  induction ds with
  | nil => intro vs ws h1 h2; rw [h1.nil_]; exact h2
  | cons d ds ih =>
    intro vs ws h1 h2
    obtain ⟨v, us, rfl, hd, hs⟩ := h1.cons_
    exact RDs.cons' hd (ih hs h2)
theorem RDs.get {ds : List D} : ∀ {vs : List V} {i : Nat} {d : D}, RDs K m H ds vs → ds[i]? = some d → ∃ v, vs[i]? = some v ∧ RD K m H d v := by
  induction ds with
  | nil => intro vs i d _ e; simp at e
  | cons d ds ih =>
    intro vs i d' h e
    obtain ⟨v, us, rfl, hd, hs⟩ := h.cons_
    cases i with
    | zero => simp at e; subst e; exact ⟨v, by simp, hd⟩
    | succ i => simp at e; obtain ⟨w, e1, e2⟩ := ih hs e; exact ⟨w, by simpa using e1, e2⟩
theorem RDs.set {ds : List D} : ∀ {vs : List V} {i : Nat} {d : D} {v : V}, RDs K m H ds vs → RD K m H d v → RDs K m H (ds.set i d) (vs.set i v) := by
  induction ds with
  | nil => intro vs i d v h _; rw [h.nil_]; exact RDs.nil'
  | cons e ds ih =>
    intro vs i d v h q
    obtain ⟨w, us, rfl, hd, hs⟩ := h.cons_
    cases i with
    | zero => exact RDs.cons' q hs
    | succ i => exact RDs.cons' hd (ih hs q)
theorem RDs.take {ds : List D} : ∀ {vs : List V} (n : Nat), RDs K m H ds vs → RDs K m H (ds.take n) (vs.take n) := by
  induction ds with
  | nil => intro vs n h; rw [h.nil_]; simp; exact RDs.nil'
  | cons e ds ih =>
    intro vs n h
    obtain ⟨w, us, rfl, hd, hs⟩ := h.cons_
    cases n with
    | zero => simp; exact RDs.nil'
    | succ n => exact RDs.cons' hd (ih n hs)
theorem RDs.drop {ds : List D} : ∀ {vs : List V} (n : Nat), RDs K m H ds vs → RDs K m H (ds.drop n) (vs.drop n) := by
  induction ds with
  | nil => intro vs n h; rw [h.nil_]; simp; exact RDs.nil'
  | cons e ds ih =>
    intro vs n h
    obtain ⟨w, us, rfl, hd, hs⟩ := h.cons_
    cases n with
    | zero => exact RDs.cons' hd hs
    | succ n => exact ih n hs
theorem RDs.reverse {ds : List D} : ∀ {vs : List V}, RDs K m H ds vs → RDs K m H ds.reverse vs.reverse := by
  induction ds with
  | nil => intro vs h; rw [h.nil_]; exact RDs.nil'
  | cons e ds ih =>
    intro vs h
    obtain ⟨w, us, rfl, hd, hs⟩ := h.cons_
    simp
    exact (ih hs).append (RDs.cons' hd RDs.nil')
theorem RDs.dropLast {ds : List D} {vs : List V} (h : RDs K m H ds vs) : RDs K m H ds.dropLast vs.dropLast := by
  rw [List.dropLast_eq_take, List.dropLast_eq_take, h.length]
  exact h.take _
theorem RDs.ints {ds : List D} : ∀ {vs : List V} {ns : List Int}, RDs K m H ds vs → ds = ns.map D.int → vs = ns.map V.int := by
  induction ds with
  | nil => intro vs ns h e; cases ns with
    | nil => exact h.nil_
    | cons _ _ => cases e
  | cons d ds ih =>
    intro vs ns h e
    cases ns with
    | nil => cases e
    | cons n ns =>
      obtain ⟨w, us, rfl, hd, hs⟩ := h.cons_
      injection e with e1 e2
      subst e1
      rw [hd.int_, ih hs e2]
      rfl
theorem RDs.strs {ds : List D} : ∀ {vs : List V} {ns : List Str}, RDs K m H ds vs → ds = ns.map D.str → vs = ns.map V.str := by
  induction ds with
  | nil => intro vs ns h e; cases ns with
    | nil => exact h.nil_
    | cons _ _ => cases e
  | cons d ds ih =>
    intro vs ns h e
    cases ns with
    | nil => cases e
    | cons n ns =>
      obtain ⟨w, us, rfl, hd, hs⟩ := h.cons_
      injection e with e1 e2
      subst e1
      rw [hd.str_, ih hs e2]
      rfl
theorem RM.lst {n : Nat} {v : V} {ds : List D} (r : RM K m H M) (d : RD K m H (.loc n) v) (e : M[n]? = some (.lst ds)) : ∃ a vs, v = .ref a ∧ m[n]? = some a ∧ H a = some (.lst vs) ∧ RDs K m H ds vs := by
  obtain ⟨a, rfl, ea, vs, e2, q⟩ := r.loc d e
  exact ⟨a, vs, rfl, ea, e2, q⟩
theorem RM.dic {n : Nat} {v : V} {ds : List (Key × D)} (r : RM K m H M) (d : RD K m H (.loc n) v) (e : M[n]? = some (.dic ds)) : ∃ a vs, v = .ref a ∧ m[n]? = some a ∧ H a = some (.dK vs) ∧ RKV K m H ds vs := by
  obtain ⟨a, rfl, ea, vs, e2, q⟩ := r.loc d e
  exact ⟨a, vs, rfl, ea, e2, q⟩
/-- a sequence: a list or a tuple -/
def seqD (x : D) (M : Mem) : Option (List D) := match x with
  | .tup ds => some ds
  | .rol ds => some ds
  | .loc n => (match M[n]? with
    | some (.lst ds) => some ds
    | _ => none)
  | _ => none
theorem seq_of {x : D} {v : V} {ds : List D} (r : RM K m H M) (d : RD K m H x v) (e : seqD x M = some ds) : ∃ a vs, v = .ref a ∧ (SqL K H a vs ∨ SqT K H a vs) ∧ RDs K m H ds vs := by
  unfold seqD at e
  split at e
  · cases e
    obtain ⟨a, vs, rfl, s, q⟩ := d.tup_
    exact ⟨a, vs, rfl, .inr s, q⟩
  · cases e
    obtain ⟨a, vs, rfl, s, q⟩ := d.rol_
    exact ⟨a, vs, rfl, .inl s.sql, q⟩
  · split at e
    · rename_i e2
      cases e
      obtain ⟨a, vs, rfl, _, s, q⟩ := r.lst d e2
      exact ⟨a, vs, rfl, .inl (SqL.of s), q⟩
    · cases e
  · cases e
/-- a list alone -/
def lstD (x : D) (M : Mem) : Option (List D) := match x with
  | .rol ds => some ds
  | .loc n => (match M[n]? with
    | some (.lst ds) => some ds
    | _ => none)
  | _ => none
theorem lst_of {x : D} {v : V} {ds : List D} (r : RM K m H M) (d : RD K m H x v) (e : lstD x M = some ds) : ∃ a vs, v = .ref a ∧ SqL K H a vs ∧ RDs K m H ds vs := by
  unfold lstD at e
  split at e
  · cases e
    obtain ⟨a, vs, rfl, s, q⟩ := d.rol_
    exact ⟨a, vs, rfl, s.sql, q⟩
  · split at e
    · rename_i e2
      cases e
      obtain ⟨a, vs, rfl, _, s, q⟩ := r.lst d e2
      exact ⟨a, vs, rfl, SqL.of s, q⟩
    · cases e
  · cases e
def qAdd : DR2 := fun x y M Q => match x, y with
  | .int i, .int j => Q (.int (i + j)) M
  | .str s, .str t => s.length + t.length ≤ sizeLine ∧ Q (.str (s ++ t)) M
  | .tup xs, .tup ys => xs.length + ys.length ≤ sizeLine ∧ Q (.tup (xs ++ ys)) M
  | .loc i, .loc j => (match M[i]?, M[j]? with
    | some (.lst xs), some (.lst ys) => xs.length + ys.length ≤ sizeLine ∧ Q (.loc M.length) (M ++ [.lst (xs ++ ys)])
    | _, _ => False)
  | _, _ => False
theorem dop_add : DOp z (binaryOp .Add) qAdd := by
  refine ⟨_, op_add.or (op_add_str.or (op_catA.or op_cat)), fun m M H x y dx dy Q Qd r d1 d2 h t => ?_⟩
  unfold qAdd at h
  split at h
  · exact .inl ⟨_, _, d1.int_, d2.int_, t _ _ _ _ _ h .refl r RD.int'⟩
  · exact .inr (.inl ⟨_, _, d1.str_, d2.str_, h.1, t _ _ _ _ _ h.2 .refl r RD.str'⟩)
  · obtain ⟨a, vs, rfl, s1, q1⟩ := d1.tup_
    obtain ⟨b, ws, rfl, s2, q2⟩ := d2.tup_
    refine .inr (.inr (.inl ⟨a, b, vs, ws, rfl, rfl, s1, s2, by rw [q1.length, q2.length]; exact h.1, fun e => ?_, fun _ e => ?_, fun _ _ p hp => new_tup r (q1.append q2) hp h.2 t⟩))
    · subst e
      have := q1.length
      rename_i xs ys
      have e0 : xs = [] := List.eq_nil_of_length_eq_zero this.symm
      subst e0
      exact t _ _ _ _ _ h.2 .refl r (RD.tup' s2 q2)
    · subst e
      have := q2.length
      rename_i xs ys _
      have e0 : ys = [] := List.eq_nil_of_length_eq_zero this.symm
      subst e0
      exact t _ _ _ _ _ h.2 .refl r (RD.tup' s1 (by rw [List.append_nil]; exact q1))
  · split at h
    · rename_i e1 e2
      obtain ⟨a, vs, rfl, _, s1, q1⟩ := r.lst d1 e1
      obtain ⟨b, ws, rfl, _, s2, q2⟩ := r.lst d2 e2
      exact .inr (.inr (.inr ⟨a, b, vs, ws, rfl, rfl, s1, s2, by rw [q1.length, q2.length]; exact h.1, fun p hp => new_lst r (q1.append q2) hp h.2 t⟩))
    · exact h.elim
  · exact h.elim
def qInt (C : Int → Int → Prop) (f : Int → Int → D) : DR2 := fun x y M Q => match x, y with
  | .int i, .int j => C i j ∧ Q (f i j) M
  | _, _ => False
def qInt0 (f : Int → Int → D) : DR2 := fun x y M Q => match x, y with
  | .int i, .int j => Q (f i j) M
  | _, _ => False
theorem lr_int {C : Int → Int → Prop} {f : Int → Int → D} {g : Int → Int → V} (h : ∀ i j m H, RD K m H (f i j) (g i j)) : LR2 K (rI C g) (qInt C f) := fun m M H x y dx dy Q Qd r d1 d2 q t => by
  unfold qInt at q
  split at q
  · exact ⟨_, _, d1.int_, d2.int_, q.1, t _ _ _ _ _ q.2 .refl r (h _ _ _ _)⟩
  · exact q.elim
theorem lr_int0 {f : Int → Int → D} {g : Int → Int → V} (h : ∀ i j m H, RD K m H (f i j) (g i j)) : LR2 K (rI0 g) (qInt0 f) := fun m M H x y dx dy Q Qd r d1 d2 q t => by
  unfold qInt0 at q
  split at q
  · exact ⟨_, _, d1.int_, d2.int_, t _ _ _ _ _ q .refl r (h _ _ _ _)⟩
  · exact q.elim
def qSub : DR2 := qInt0 fun i j => .int (i - j)
theorem dop_sub : DOp z (binaryOp .Sub) qSub := ⟨_, op_sub, lr_int0 fun _ _ _ _ => RD.int'⟩
def qMul : DR2 := qInt CMul fun i j => .int (i * j)
theorem dop_mul : DOp z (binaryOp .Mult) qMul := ⟨_, op_mul, lr_int fun _ _ _ _ => RD.int'⟩
def qDiv : DR2 := qInt CDiv fun i j => .int (i / j)
theorem dop_fdiv : DOp z (binaryOp .FloorDiv) qDiv := ⟨_, op_fdiv, lr_int fun _ _ _ _ => RD.int'⟩
def qMod : DR2 := qInt (fun _ j => 0 < j) fun i j => .int (i % j)
theorem dop_mod : DOp z (binaryOp .Mod) qMod := ⟨_, op_mod, lr_int fun _ _ _ _ => RD.int'⟩
def qPow : DR2 := qInt CPow fun i j => .int (i ^ j.toNat)
theorem dop_pow : DOp z (binaryOp .Pow) qPow := ⟨_, op_pow, lr_int fun _ _ _ _ => RD.int'⟩
def qLt : DR2 := fun x y M Q => match x, y with
  | .int i, .int j => Q (.bl (decide (i < j))) M
  | .str i, .str j => Q (.bl (decide (i.cps.toList < j.cps.toList))) M
  | _, _ => False
theorem dop_lt : DOp z (compareOp .Lt) qLt := by
  refine ⟨_, op_lt.or op_lt_str, fun m M H x y dx dy Q Qd r d1 d2 h t => ?_⟩
  unfold qLt at h
  split at h
  · exact .inl ⟨_, _, d1.int_, d2.int_, t _ _ _ _ _ h .refl r RD.bl'⟩
  · exact .inr ⟨_, _, d1.str_, d2.str_, t _ _ _ _ _ h .refl r RD.bl'⟩
  · exact h.elim
def qLe : DR2 := fun x y M Q => match x, y with
  | .int i, .int j => Q (.bl (decide (i ≤ j))) M
  | .str i, .str j => Q (.bl (decide (i.cps.toList ≤ j.cps.toList))) M
  | _, _ => False
def qGt : DR2 := fun x y M Q => match x, y with
  | .int i, .int j => Q (.bl (decide (j < i))) M
  | .str i, .str j => Q (.bl (decide (j.cps.toList < i.cps.toList))) M
  | _, _ => False
def qGe : DR2 := fun x y M Q => match x, y with
  | .int i, .int j => Q (.bl (decide (j ≤ i))) M
  | .str i, .str j => Q (.bl (decide (j.cps.toList ≤ i.cps.toList))) M
  | _, _ => False
end
section
variable {z : Zx} {K : PySem.W.Frag} {m : List Addr} {H : Hp} {M : Mem}
theorem not_dec_lt {i j : List Nat} : (!decide (j < i)) = decide (i ≤ j) := by
  by_cases h : j < i
  · rw [decide_eq_true h, decide_eq_false (fun q => List.not_lt.mpr q h)]; rfl
  · rw [decide_eq_false h, decide_eq_true (List.not_lt.mp h)]; rfl
theorem dop_le : DOp z (compareOp .LtE) qLe := by
  refine ⟨_, op_le.or op_le_str, fun m M H x y dx dy Q Qd r d1 d2 h t => ?_⟩
  unfold qLe at h
  split at h
  · exact .inl ⟨_, _, d1.int_, d2.int_, t _ _ _ _ _ h .refl r RD.bl'⟩
  · exact .inr ⟨_, _, d1.str_, d2.str_, t _ _ _ _ _ h .refl r (by rw [not_dec_lt]; exact RD.bl')⟩
  · exact h.elim
theorem dop_gt : DOp z (compareOp .Gt) qGt := by
  refine ⟨_, op_gt.or op_gt_str, fun m M H x y dx dy Q Qd r d1 d2 h t => ?_⟩
  unfold qGt at h
  split at h
  · exact .inl ⟨_, _, d1.int_, d2.int_, t _ _ _ _ _ h .refl r RD.bl'⟩
  · exact .inr ⟨_, _, d1.str_, d2.str_, t _ _ _ _ _ h .refl r RD.bl'⟩
  · exact h.elim
theorem dop_ge : DOp z (compareOp .GtE) qGe := by
  refine ⟨_, op_ge.or op_ge_str, fun m M H x y dx dy Q Qd r d1 d2 h t => ?_⟩
  unfold qGe at h
  split at h
  · exact .inl ⟨_, _, d1.int_, d2.int_, t _ _ _ _ _ h .refl r RD.bl'⟩
  · exact .inr ⟨_, _, d1.str_, d2.str_, t _ _ _ _ _ h .refl r (by rw [not_dec_lt]; exact RD.bl')⟩
  · exact h.elim
mutual
def pyG (f : Nat → Option PyData) : D → Option PyData
  | .non => some .none
  | .bl b => some (.bool b)
  | .int i => some (.int i)
  | .str x => some (.str x)
  | .tup ds => (pyGs f ds).map .tuple
  | .rol ds => (pyGs f ds).map .list
  | .loc n => f n
  | .ty _ => none
  | .cls _ => none
def pyGs (f : Nat → Option PyData) : List D → Option (List PyData)
  | [] => some []
  | d :: ds => match pyG f d, pyGs f ds with
    | some p, some ps => some (p :: ps)
    | _, _ => none
end
def pyL (f : Nat → Option PyData) (M : Mem) (n : Nat) : Option PyData := match M[n]? with
  | some (.lst ds) => (pyGs f ds).map .list
  | _ => none
def pyN (M : Mem) : Nat → Nat → Option PyData
  | 0 => fun _ => none
  | k + 1 => pyL (pyN M k) M
/-- lists up to three deep in one another -/
def py (M : Mem) (d : D) : Option PyData := pyG (pyN M 3) d
mutual
theorem pyG_ok {f : Nat → Option PyData} (hf : ∀ n q a, f n = some q → m[n]? = some a → Dp K H (.ref a) q) : ∀ {d : D} {p : PyData} {v : V}, pyG f d = some p → RD K m H d v → Dp K H v p
  | .non, _, _, e, r => by unfold pyG at e; cases e; rw [r.non_]; exact .non
  | .bl _, _, _, e, r => by unfold pyG at e; cases e; rw [r.bl_]; exact .bl _
  | .int _, _, _, e, r => by unfold pyG at e; cases e; rw [r.int_]; exact .int _
  | .str _, _, _, e, r => by unfold pyG at e; cases e; rw [r.str_]; exact .str _
  | .ty _, _, _, e, r => by unfold pyG at e; cases e
  | .cls _, _, _, e, r => by unfold pyG at e; cases e
  | .loc n, _, _, e, r => by
    unfold pyG at e
    unfold RD at r
    obtain ⟨a, rfl, ea⟩ := r
    exact hf _ _ _ e ea
  | .tup ds, _, _, e, r => by
    unfold pyG at e
    obtain ⟨a, vs, rfl, s, q⟩ := r.tup_
    obtain ⟨ps, e1, rfl⟩ := Option.map_eq_some_iff.mp e
    exact .tup s (pyGs_ok hf e1 q)
  | .rol ds, _, _, e, r => by
    unfold pyG at e
    obtain ⟨a, vs, rfl, s, q⟩ := r.rol_
    obtain ⟨ps, e1, rfl⟩ := Option.map_eq_some_iff.mp e
    exact .lst s.sql (pyGs_ok hf e1 q)
theorem pyGs_ok {f : Nat → Option PyData} (hf : ∀ n q a, f n = some q → m[n]? = some a → Dp K H (.ref a) q) : ∀ {ds : List D} {ps : List PyData} {vs : List V}, pyGs f ds = some ps → RDs K m H ds vs → DpAll K H vs ps
  | [], _, _, e, r => by unfold pyGs at e; cases e; rw [r.nil_]; exact .nil
  | d :: ds, _, _, e, r => by
    unfold pyGs at e
    obtain ⟨v, ws, rfl, r1, r2⟩ := r.cons_
    split at e
    · rename_i e1 e2
      cases e
      exact .cons (pyG_ok hf e1 r1) (pyGs_ok hf e2 r2)
    · cases e
end
theorem pyN_ok (r : RM K m H M) : ∀ (k : Nat) (n : Nat) (q : PyData) (a : Addr), pyN M k n = some q → m[n]? = some a → Dp K H (.ref a) q
  | 0, _, _, _, e, _ => by cases e
  | k + 1, n, q, a, e, ea => by
    unfold pyN pyL at e
    split at e
    · rename_i ds em
      obtain ⟨ps, e1, rfl⟩ := Option.map_eq_some_iff.mp e
      obtain ⟨vs, eh, rd⟩ := r.at em ea
      exact .lst (SqL.of eh) (pyGs_ok (pyN_ok r k) e1 rd)
    · cases e
theorem py_ok (r : RM K m H M) {d : D} {p : PyData} {v : V} (e : py M d = some p) (q : RD K m H d v) : Dp K H v p := pyG_ok (pyN_ok r 3) e q
def rEqR (K : PySem.W.Frag) (n : Nat) : R2 := fun x y H Q => ∃ d e, Dp K H x d ∧ Dp K H y e ∧ d.canLay0 = true ∧ e.canLay0 = true ∧ min d.depth e.depth ≤ n ∧ Q (.bl (PyData.eqv d e)) H
def rNeR (K : PySem.W.Frag) (n : Nat) : R2 := fun x y H Q => ∃ d e, Dp K H x d ∧ Dp K H y e ∧ d.canLay0 = true ∧ e.canLay0 = true ∧ min d.depth e.depth ≤ n ∧ Q (.bl (!PyData.eqv d e)) H
theorem op_eqR {X : Cx} {n : Nat} (hu : X.A.units + n < cLine) : OpR X (compareOp .Eq) (rEqR X.K n) := by
  intro pins s σ H x y v u Q I rx ry h
  obtain ⟨d, e, hd, he, sd, se, hn, q⟩ := h
  obtain ⟨as, r1⟩ := Dp.reads I d x v hd rx
  obtain ⟨bs, r2⟩ := Dp.reads I e y u he ry
  exact SeqAt.compareEq_reads r1 r2 sd se (by omega) ⟨.bl _, H, I, rfl, q⟩
theorem op_neR {X : Cx} {n : Nat} (hu : X.A.units + n < cLine) : OpR X (compareOp .NotEq) (rNeR X.K n) := by
  intro pins s σ H x y v u Q I rx ry h
  obtain ⟨d, e, hd, he, sd, se, hn, q⟩ := h
  obtain ⟨as, r1⟩ := Dp.reads I d x v hd rx
  obtain ⟨bs, r2⟩ := Dp.reads I e y u he ry
  exact SeqAt.compareNe_reads r1 r2 sd se (by omega) ⟨.bl _, H, I, rfl, q⟩
/-- x == y: the answer b -/
def eqQ (M : Mem) (x y : D) (k : Bool → Prop) : Prop := match py M x, py M y with
  | some a, some b => a.canLay0 = true ∧ b.canLay0 = true ∧ min a.depth b.depth ≤ 200 ∧ k (PyData.eqv a b)
  | _, _ => False
def qEq : DR2 := fun x y M Q => eqQ M x y fun b => Q (.bl b) M
def qNe : DR2 := fun x y M Q => eqQ M x y fun b => Q (.bl (!b)) M
theorem room_eq {k : Nat} {A : Around} (hr : Room k A) : A.units + 200 < cLine := by have := hr.un; omega
theorem dop_eq {k : Nat} (hr : Room k z.X.A) : DOp z (compareOp .Eq) qEq := by
  refine ⟨_, op_eqR (room_eq hr), fun m M H x y dx dy Q Qd r d1 d2 h t => ?_⟩
  unfold qEq eqQ at h
  split at h
  · rename_i e1 e2
    exact ⟨_, _, py_ok r e1 d1, py_ok r e2 d2, h.1, h.2.1, h.2.2.1, t _ _ _ _ _ h.2.2.2 .refl r RD.bl'⟩
  · exact h.elim
theorem dop_ne {k : Nat} (hr : Room k z.X.A) : DOp z (compareOp .NotEq) qNe := by
  refine ⟨_, op_neR (room_eq hr), fun m M H x y dx dy Q Qd r d1 d2 h t => ?_⟩
  unfold qNe eqQ at h
  split at h
  · rename_i e1 e2
    exact ⟨_, _, py_ok r e1 d1, py_ok r e2 d2, h.1, h.2.1, h.2.2.1, t _ _ _ _ _ h.2.2.2 .refl r RD.bl'⟩
  · exact h.elim
def isNonD : D → Bool
  | .non => true
  | _ => false
theorem isNon_of {d : D} {v : V} (r : RD K m H d v) : decide (v = .non) = isNonD d := by
  cases d with
  | non => rw [r.non_]; rfl
  | bl _ => rw [r.bl_]; rfl
  | int _ => rw [r.int_]; rfl
  | str _ => rw [r.str_]; rfl
  | tup _ => obtain ⟨_, _, rfl, _⟩ := r.tup_; rfl
  | rol _ => obtain ⟨_, _, rfl, _⟩ := r.rol_; rfl
  | loc _ => unfold RD at r; obtain ⟨_, rfl, _⟩ := r; rfl
  | ty _ => rw [r.ty_]; rfl
  | cls _ => rw [r.cls_]; rfl
def qIs : DR2 := fun x y M Q => match x, y with
  | .bl a, .bl b => Q (.bl (decide (a = b))) M
  | x, .non => Q (.bl (isNonD x)) M
  | _, _ => False
def qIsNot : DR2 := fun x y M Q => match x, y with
  | .bl a, .bl b => Q (.bl (!decide (a = b))) M
  | x, .non => Q (.bl (!isNonD x)) M
  | _, _ => False
theorem dop_is : DOp z (compareOp .Is) qIs := by
  refine ⟨_, op_isBl.or op_isN, fun m M H x y dx dy Q Qd r d1 d2 h t => ?_⟩
  unfold qIs at h
  split at h
  · exact .inl ⟨_, _, d1.bl_, d2.bl_, t _ _ _ _ _ h .refl r RD.bl'⟩
  · exact .inr ⟨d2.non_, t _ _ _ _ _ h .refl r (by rw [isNon_of d1]; exact RD.bl')⟩
  · exact h.elim
theorem dop_isnot : DOp z (compareOp .IsNot) qIsNot := by
  refine ⟨_, op_notBl.or op_notN, fun m M H x y dx dy Q Qd r d1 d2 h t => ?_⟩
  unfold qIsNot at h
  split at h
  · exact .inl ⟨_, _, d1.bl_, d2.bl_, t _ _ _ _ _ h .refl r RD.bl'⟩
  · exact .inr ⟨d2.non_, t _ _ _ _ _ h .refl r (by rw [isNon_of d1]; exact RD.bl')⟩
  · exact h.elim
def valD {κ : Type} [DecidableEq κ] (kvs : List (κ × D)) (k : κ) : Option D := (kvs.find? fun kv => decide (kv.1 = k)).map (·.2)
def putD {κ : Type} [DecidableEq κ] (kvs : List (κ × D)) (k : κ) (v : D) : List (κ × D) := if kvs.any (fun kv => decide (kv.1 = k)) then kvs.map (fun kv => if kv.1 = k then (kv.1, v) else kv) else kvs ++ [(k, v)]
def keyD : D → Option Key
  | .int i => some (.inl i)
  | .str x => some (.inr x)
  | _ => none
theorem key_ofD {d : D} {k : Key} {v : V} (e : keyD d = some k) (r : RD K m H d v) : v = kV k := by
  unfold keyD at e
  split at e
  · cases e; exact r.int_
  · cases e; exact r.str_
  · cases e
theorem RKV.val {κ : Type} [DecidableEq κ] {k : κ} : ∀ {kvs : List (κ × D)} {ws : List (κ × V)}, RKV K m H kvs ws → (valD kvs k = none ∧ valV ws k = none) ∨ ∃ d v, valD kvs k = some d ∧ valV ws k = some v ∧ RD K m H d v
  | [], _, r => by unfold RKV at r; subst r; exact .inl ⟨rfl, rfl⟩
  | p :: kvs, _, r => by
    unfold RKV at r
    obtain ⟨v, s, rfl, r1, r2⟩ := r
    by_cases e : p.1 = k
    · exact .inr ⟨p.2, v, by simp [valD, List.find?_cons, e], by simp [valV, List.find?_cons, e], r1⟩
    · have e1 : valD (p :: kvs) k = valD kvs k := by simp [valD, List.find?_cons, e]
      have e2 : valV ((p.1, v) :: s) k = valV s k := valV_neg e
      rw [e1, e2]
      exact RKV.val r2
theorem RKV.any {κ : Type} [DecidableEq κ] {k : κ} : ∀ {kvs : List (κ × D)} {ws : List (κ × V)}, RKV K m H kvs ws → (ws.any fun kv => decide (kv.1 = k)) = kvs.any fun kv => decide (kv.1 = k)
  | [], _, r => by unfold RKV at r; subst r; rfl
  | p :: kvs, _, r => by
    unfold RKV at r
    obtain ⟨v, s, rfl, r1, r2⟩ := r
    simp [RKV.any r2]
theorem RKV.repl {κ : Type} [DecidableEq κ] {k : κ} {d : D} {v : V} (q : RD K m H d v) : ∀ {kvs : List (κ × D)} {ws : List (κ × V)}, RKV K m H kvs ws → RKV K m H (kvs.map fun kv => if kv.1 = k then (kv.1, d) else kv) (ws.map fun kv => if kv.1 = k then (kv.1, v) else kv)
  | [], _, r => by unfold RKV at r; subst r; exact (show RKV K m H [] [] from rfl)
  | p :: kvs, _, r => by
    unfold RKV at r
    obtain ⟨w, s, rfl, r1, r2⟩ := r
    by_cases e : p.1 = k
    · simp only [List.map_cons, e, if_true]
      exact ⟨v, _, rfl, q, RKV.repl q r2⟩
    · simp only [List.map_cons, e, if_false]
      exact ⟨w, _, rfl, r1, RKV.repl q r2⟩
theorem RKV.append {κ : Type} : ∀ {kvs : List (κ × D)} {ws : List (κ × V)} {kvs' : List (κ × D)} {ws' : List (κ × V)}, RKV K m H kvs ws → RKV K m H kvs' ws' → RKV K m H (kvs ++ kvs') (ws ++ ws')
  | [], _, _, _, r, r' => by unfold RKV at r; subst r; exact r'
  | p :: kvs, _, _, _, r, r' => by
    unfold RKV at r
    obtain ⟨w, s, rfl, r1, r2⟩ := r
    exact ⟨w, _, rfl, r1, RKV.append r2 r'⟩
theorem RKV.put {κ : Type} [DecidableEq κ] {k : κ} {d : D} {v : V} {kvs : List (κ × D)} {ws : List (κ × V)} (r : RKV K m H kvs ws) (q : RD K m H d v) : RKV K m H (putD kvs k d) (putK ws k v) := by
  unfold putD putK
  rw [r.any]
  split
  · exact r.repl q
  · exact r.append ⟨v, [], rfl, q, rfl⟩
end
end DL
namespace DL
open PySem L2
section
variable {z : Zx} {K : PySem.W.Frag} {m : List Addr} {H : Hp} {M : Mem}
def rIxD : R2 := fun x y H Q => ∃ a v, x = .ref a ∧ DGet H a y (some v) ∧ Q v H
theorem ix_dict {X : Cx} (hu : X.A.units + 1 < cLine) : IxR X rIxD := by
  intro value slice pins s σ H x y v u Q I rx ry h hs
  obtain ⟨a, w, rfl, g, q⟩ := h
  obtain rfl : v = Value.ref a := rx
  have hT := dict_typeIs I g
  exact PyProof.Rows.tail_any (ops := [.ref a, u]) hT PySem.F.slot_dict_getitem.lookup (d_getItem hu I g ry fun w' s3 I3 rw' => ⟨w, H, I3, rw', q⟩) hs
def qIx : DR2 := fun x y M Q => match x with
  | .str s => (match y with
    | .int i => s.length ≤ sizeLine ∧ (match atI s.cps.toList i with
      | some c => Q (.str ⟨#[c]⟩) M
      | none => False)
    | _ => False)
  | .tup ds => (match y with
    | .int i => (match atI ds i with
      | some d => Q d M
      | none => False)
    | _ => False)
  | .rol ds => (match y with
    | .int i => (match atI ds i with
      | some d => Q d M
      | none => False)
    | _ => False)
  | .loc n => (match M[n]? with
    | some (.lst ds) => (match y with
      | .int i => (match atI ds i with
        | some d => Q d M
        | none => False)
      | _ => False)
    | some (.dic kvs) => (match keyD y with
      | some k => (match valD kvs k with
        | some d => Q d M
        | none => False)
      | none => False)
    | some (.fdic kvs) => (match keyD y with
      | some k => (match valD kvs k with
        | some d => Q d M
        | none => False)
      | none => False)
    | _ => False)
  | _ => False
theorem RDs.atI {ds : List D} {vs : List V} {i : Int} {d : D} (h : RDs K m H ds vs) (e : atI ds i = some d) : ∃ v, L2.atI vs i = some v ∧ RD K m H d v := by
  unfold L2.atI at e ⊢
  rw [h.length]
  cases q : ixN ds.length i with
  | none => rw [q] at e; cases e
  | some j =>
    rw [q] at e
    exact h.get (show ds[j]? = some d from e)
theorem dix {k : Nat} (hr : Room k z.X.A) : ∃ rr, IxR z.X rr ∧ LR2 z.X.K rr qIx := by
  refine ⟨_, ix_seq.or (ix_dict (hu_of hr)), fun m M H x y dx dy Q Qd r d1 d2 h t => ?_⟩
  unfold qIx at h
  split at h
  · split at h
    · obtain ⟨hl, h⟩ := h
      split at h
      · rename_i c e
        exact .inl (.inr (.inr ⟨_, _, c, d1.str_, d2.int_, hl, e, t _ _ _ _ _ h .refl r RD.str'⟩))
      · exact h.elim
    · exact h.elim
  · split at h
    · split at h
      · rename_i e
        obtain ⟨a, vs, rfl, s, q⟩ := d1.tup_
        obtain ⟨v, e1, r1⟩ := q.atI e
        exact .inl (.inr (.inl ⟨a, vs, _, v, rfl, d2.int_, s, e1, t _ _ _ _ _ h .refl r r1⟩))
      · exact h.elim
    · exact h.elim
  · split at h
    · split at h
      · rename_i e
        obtain ⟨a, vs, rfl, s, q⟩ := d1.rol_
        obtain ⟨v, e1, r1⟩ := q.atI e
        exact .inl (.inl ⟨a, vs, _, v, rfl, d2.int_, s.sql, e1, t _ _ _ _ _ h .refl r r1⟩)
      · exact h.elim
    · exact h.elim
  · split at h
    · rename_i em
      obtain ⟨a, vs, rfl, _, s, q⟩ := r.lst d1 em
      split at h
      · split at h
        · rename_i e
          obtain ⟨v, e1, r1⟩ := q.atI e
          exact .inl (.inl ⟨a, vs, _, v, rfl, d2.int_, SqL.of s, e1, t _ _ _ _ _ h .refl r r1⟩)
        · exact h.elim
      · exact h.elim
    · rename_i em
      obtain ⟨a, vs, rfl, _, s, q⟩ := r.dic d1 em
      split at h
      · rename_i k ek
        split at h
        · rename_i d ed
          rcases q.val (k := k) with ⟨e1, _⟩ | ⟨d', v, e1, e2, e3⟩
          · rw [ed] at e1; cases e1
          · rw [ed] at e1
            cases e1
            refine .inr ⟨a, v, rfl, ?_, t _ _ _ _ _ h .refl r e3⟩
            rw [key_ofD ek d2, ← e2]
            exact DGet.k s
        · exact h.elim
      · exact h.elim
    · rename_i em
      obtain ⟨a, rfl, _, ob, vs, s, q⟩ := r.loc d1 em
      split at h
      · rename_i k ek
        split at h
        · rename_i d ed
          rcases q.val (k := k) with ⟨e1, _⟩ | ⟨d', v, e1, e2, e3⟩
          · rw [ed] at e1; cases e1
          · rw [ed] at e1
            cases e1
            refine .inr ⟨a, v, rfl, ?_, t _ _ _ _ _ h .refl r e3⟩
            rw [key_ofD ek d2, ← e2]
            exact .inl ⟨_, _, .inr ⟨_, s⟩, rfl, rfl⟩
        · exact h.elim
      · exact h.elim
    · exact h.elim
  · exact h.elim
theorem de_ix {k : Nat} (hr : Room k z.X.A) {a b : Expr} {ta tb : DTE} {pos : Pos} (ha : DE z a ta) (hb : DE z b tb) (hs : PlainIx b := by exact fun _ _ => rfl) : DE z (.Subscript a b pos) (dBin qIx ta tb) := by
  obtain ⟨rr, o, l⟩ := dix (z := z) hr
  obtain ⟨wa, pa, la⟩ := ha
  obtain ⟨wb, pb, lb⟩ := hb
  exact ⟨_, pe_ix o pa pb hs, le_bin l la lb⟩
def cutD (xs : List D) (lo hi : Option Int) : List D := (xs.drop (HT.sIx xs.length 0 lo)).take (HT.sIx xs.length xs.length hi - HT.sIx xs.length 0 lo)
abbrev DTO := Rho → Mem → (Option Int → Mem → Prop) → Prop
def LO (z : Zx) (te : TO) (t : DTO) : Prop := ∀ m r M σ H (Q : Option Int → Hp → Prop) (Qd : Option Int → Mem → Prop), RS z m r M σ H → t r M Qd → (∀ o M' m' H', Qd o M' → Grow m H m' H' → RM z.X.K m' H' M' → Q o H') → te σ H Q
def DO (z : Zx) (e : Option Expr) (t : DTO) : Prop := ∃ te, PO z.X e te ∧ LO z te t
def dNoPart : DTO := fun _ M Q => Q none M
def dPart (ta : DTE) : DTO := fun r M Q => ta r M fun x M1 => match x with
  | .int i => Q (some i) M1
  | _ => False
theorem do_none : DO z none dNoPart := ⟨_, po_none, fun m r M σ H Q Qd s q t => t _ _ _ _ q .refl s.rm⟩
theorem do_some {e : Expr} {ta : DTE} (h : DE z e ta) : DO z (some e) (dPart ta) := by
  obtain ⟨wa, pa, la⟩ := h
  refine ⟨_, po_some pa, fun m r M σ H Q Qd s q t => la m r M σ H _ _ s q fun x M1 m1 v H1 q1 g1 r1 d1 => ?_⟩
  split at q1
  · exact ⟨_, d1.int_, t _ _ _ _ q1 g1 r1⟩
  · exact q1.elim
def qSl (x : D) (lo hi : Option Int) (M : Mem) (Q : QD) : Prop := match x with
  | .tup ds => Q (.tup (cutD ds lo hi)) M
  | .rol ds => Q (.loc M.length) (M ++ [.lst (cutD ds lo hi)])
  | .loc n => (match M[n]? with
    | some (.lst ds) => Q (.loc M.length) (M ++ [.lst (cutD ds lo hi)])
    | _ => False)
  | .str s => s.length ≤ sizeLine ∧ Q (.str (cutS s lo hi)) M
  | _ => False
theorem RDs.cut {ds : List D} {vs : List V} {lo hi : Option Int} (h : RDs K m H ds vs) : RDs K m H (cutD ds lo hi) (cutV vs lo hi) := by
  unfold cutD cutV
  rw [h.length]
  exact (h.drop _).take _
theorem cut_whole {ds : List D} {lo hi : Option Int} (h : HT.sIx ds.length 0 lo = 0 ∧ HT.sIx ds.length ds.length hi = ds.length) : cutD ds lo hi = ds := by
  unfold cutD
  rw [h.1, h.2]
  simp
def dSl (ta : DTE) (tl th : DTO) : DTE := fun r M Q => ta r M fun x M1 => tl r M1 fun l M2 => th r M2 fun h M3 => qSl x l h M3 Q
theorem de_slice {a : Expr} {lo hi : Option Expr} {ta : DTE} {tl th : DTO} {p2 pos : Pos} (ha : DE z a ta) (hl : DO z lo tl) (hh : DO z hi th) : DE z (.Subscript a (.Slice lo hi none p2) pos) (dSl ta tl th) := by
  obtain ⟨wa, pa, la⟩ := ha
  obtain ⟨wl, pl, ll⟩ := hl
  obtain ⟨wh, ph, lh⟩ := hh
  refine ⟨_, pe_slice (sl_list.or (sl_tupA.or sl_str)) pa pl ph, fun m r M σ H Q Qd s q t => ?_⟩
  refine la m r M σ H _ _ s q fun x M1 m1 v H1 q1 g1 r1 d1 => ll m1 r M1 σ H1 _ _ (s.grow g1 r1) q1 fun o1 M2 m2 H2 q2 g2 r2 => lh m2 r M2 σ H2 _ _ (s.grow (g1.trans g2) r2) q2 fun o2 M3 m3 H3 q3 g3 r3 => ?_
  have d3 := d1.grow (g2.trans g3)
  have t3 := t.grow ((g1.trans g2).trans g3)
  unfold qSl at q3
  split at q3
  · obtain ⟨a, vs, rfl, s, q⟩ := d3.tup_
    refine .inr (.inl ⟨a, vs, rfl, s, fun e => ?_, fun _ p hp => new_tup r3 q.cut hp q3 t3⟩)
    rw [q.length] at e
    rw [cut_whole e] at q3
    exact t3 _ _ _ _ _ q3 .refl r3 d3
  · obtain ⟨a, vs, rfl, s, q⟩ := d3.rol_
    exact .inl ⟨a, vs, rfl, s.sql, fun p hp => new_lst r3 q.cut hp q3 t3⟩
  · split at q3
    · rename_i em
      obtain ⟨a, vs, rfl, _, s, q⟩ := r3.lst d3 em
      exact .inl ⟨a, vs, rfl, SqL.of s, fun p hp => new_lst r3 q.cut hp q3 t3⟩
    · exact q3.elim
  · exact .inr (.inr ⟨_, d3.str_, q3.1, t3 _ _ _ _ _ q3.2 .refl r3 RD.str'⟩)
  · exact q3.elim
end
end DL
namespace DL
open PySem L2 PyProof.Rows
section
variable {z : Zx} {K : PySem.W.Frag} {m : List Addr} {H : Hp} {M : Mem}
def qBack (x : D) (hi : Option Int) (M : Mem) (Q : QD) : Prop := match x with
  | .tup ds => (match hi with
    | none => Q (.tup ds.reverse) M
    | some j => 0 ≤ j ∧ Q (.tup (ds.drop (j.toNat + 1)).reverse) M)
  | .rol ds => (match hi with
    | none => Q (.loc M.length) (M ++ [.lst ds.reverse])
    | some _ => False)
  | .loc n => (match hi, M[n]? with
    | none, some (.lst ds) => Q (.loc M.length) (M ++ [.lst ds.reverse])
    | _, _ => False)
  | _ => False
def dBack (ta : DTE) (th : DTO) : DTE := fun r M Q => ta r M fun x M1 => th r M1 fun h M2 => qBack x h M2 Q
end
end DL
namespace PySem
open PySem.Spec PySem.AutoSeq1
end PySem
namespace DL
open PySem L2
section
variable {z : Zx} {K : PySem.W.Frag} {m : List Addr} {H : Hp} {M : Mem}
theorem put_lst {n : Nat} {a : Addr} {ds' : List D} {vs' : List V} {Q : VK} {Qd : QD} {d : D} {v : V} (r : RM K m H M) (ea : m[n]? = some a) (hmu : Mut (H a)) (q : RDs K m H ds' vs') (rd : RD K m H d v) (h : Qd d (M.set n (.lst ds'))) (t : Then K m H Qd Q) : Q v (upd H a (.lst vs')) := by
  have g : Grow m H m (upd H a (.lst vs')) := Grow.put r ea hmu
  exact t _ _ _ _ _ h g (r.put ea hmu (o := .lst ds') ⟨vs', upd_same, q.grow g⟩) (rd.grow g)
def flatD : D → Bool
  | .non => true
  | .bl _ => true
  | .int _ => true
  | .str _ => true
  | _ => false
def eqD : D → D → Bool
  | .non, .non => true
  | .bl a, .bl b => a == b
  | .bl a, .int b => (if a then 1 else 0) == b
  | .int a, .bl b => a == (if b then 1 else 0)
  | .int a, .int b => a == b
  | .str a, .str b => a == b
  | _, _ => false
theorem flat_of {d : D} {v : V} (r : RD K m H d v) (f : flatD d = true) : flatV v = true := by
  unfold flatD at f
  split at f
  · rw [r.non_]; rfl
  · rw [r.bl_]; rfl
  · rw [r.int_]; rfl
  · rw [r.str_]; rfl
  · cases f
theorem RDs.flat : ∀ {ds : List D} {vs : List V}, RDs K m H ds vs → ds.all flatD = true → vs.all flatV = true
  | [], _, h, _ => by rw [h.nil_]; rfl
  | d :: ds, _, h, f => by
    obtain ⟨v, ws, rfl, r1, r2⟩ := h.cons_
    rw [List.all_cons, Bool.and_eq_true] at f ⊢
    exact ⟨flat_of r1 f.1, r2.flat f.2⟩
def dNeg (ta : DTE) : DTE := fun r M Q => ta r M fun x M1 => match x with
  | .int i => Q (.int (-i)) M1
  | _ => False
theorem de_neg {a : Expr} {ta : DTE} {pos : Pos} (ha : DE z a ta) : DE z (.UnaryOp .USub a pos) (dNeg ta) := by
  obtain ⟨wa, pa, la⟩ := ha
  refine ⟨_, pe_un un_neg pa, fun m r M σ H Q Qd s q t => la m r M σ H _ _ s q fun x M1 m1 v H1 q1 g1 r1 d1 => ?_⟩
  split at q1
  · exact ⟨_, d1.int_, t _ _ _ _ _ q1 g1 r1 RD.int'⟩
  · exact q1.elim
def dCB (rd : DRA) (ta : DTA) : DTE := fun r M Q => ta r M fun xs M1 => rd xs M1 Q
theorem le_cb {rr : List V → Hp → VK → Prop} {rd : DRA} {wa : TA} {ta : DTA} (h : LRA z.X.K rr rd) (ha : LA z wa ta) : LE z (tCB rr wa) (dCB rd ta) := fun m r M σ H Q Qd s q t =>
  ha m r M σ H _ _ s q fun x M1 m1 v H1 q1 g1 r1 d1 => h m1 M1 H1 v x Q Qd r1 d1 q1 (t.grow g1)
theorem de_cb {x : Str} {id : String} {e : Expr} {es : List Expr} {rd : DRA} {ta : DTA} {p pos : Pos} (hm : z.X.mg x = none) (hc : DCall z (.builtin id) rd) (hv : bootBuiltins x = some (.builtin id)) (ha : DA z (e :: es) ta) (hg : Gl z.X x := by rfl) (hn : x ≠ "__name__" := by decide) (hdb : (x == ("__debug__" : Str)) = false := by decide)
    (he : starEach (e :: es) z.X.env = (false, eval e z.X.env) :: starEach es z.X.env := by rfl) (hpl : (backTo pos (starEach es z.X.env)).any (·.1) = false := by rfl) : DE z (.Call (.Name x p) (e :: es) [] pos) (dCB rd ta) := by
  obtain ⟨rr, o, l⟩ := hc
  obtain ⟨wa, pa, la⟩ := ha
  exact ⟨_, pe_callB o hg hm hv pa hn hdb he hpl, le_cb l la⟩
theorem de_ct {x : Str} {T : String} {e : Expr} {es : List Expr} {rd : DRA} {ta : DTA} {p pos : Pos} (hm : z.X.mg x = none) (hc : DCall z (.type T) rd) (hv : bootBuiltins x = some (.type T)) (ha : DA z (e :: es) ta) (hg : Gl z.X x := by rfl) (hn : x ≠ "__name__" := by decide) (hdb : (x == ("__debug__" : Str)) = false := by decide)
    (he : starEach (e :: es) z.X.env = (false, eval e z.X.env) :: starEach es z.X.env := by rfl) (hpl : (backTo pos (starEach es z.X.env)).any (·.1) = false := by rfl) : DE z (.Call (.Name x p) (e :: es) [] pos) (dCB rd ta) := by
  obtain ⟨rr, o, l⟩ := hc
  obtain ⟨wa, pa, la⟩ := ha
  exact ⟨_, pe_callTy o hg hm hv pa hn hdb he hpl, le_cb l la⟩
theorem RDs.one_ {d : D} {vs : List V} (h : RDs K m H [d] vs) : ∃ v, vs = [v] ∧ RD K m H d v := by
  obtain ⟨v, ws, rfl, r1, r2⟩ := h.cons_
  rw [r2.nil_]
  exact ⟨v, rfl, r1⟩
theorem RDs.two_ {d e : D} {vs : List V} (h : RDs K m H [d, e] vs) : ∃ v w, vs = [v, w] ∧ RD K m H d v ∧ RD K m H e w := by
  obtain ⟨v, ws, rfl, r1, r2⟩ := h.cons_
  obtain ⟨w, rfl, r3⟩ := r2.one_
  exact ⟨v, w, rfl, r1, r3⟩
def qLen : DRA := fun xs M Q => match xs with
  | [.str s] => s.length ≤ sizeLine ∧ Q (.int s.length) M
  | [.tup ds] => Q (.int ds.length) M
  | [.rol ds] => Q (.int ds.length) M
  | [.loc n] => (match M[n]? with
    | some (.lst ds) => Q (.int ds.length) M
    | some (.dic kvs) => Q (.int kvs.length) M
    | _ => False)
  | _ => False
theorem call_lenDict {X : Cx} : CallR X (.builtin "len") (fun xs H Q => ∃ a kvs, xs = [.ref a] ∧ Rd H a (.dK kvs) ∧ Q (.int kvs.length) H) := by
  intro pins s σ H xs us Q I r h
  obtain ⟨a, kvs, rfl, e, q⟩ := h
  obtain ⟨u, rfl, ru⟩ := vals1 r
  cases ru
  exact d_len I e fun t s' I' => ⟨.int kvs.length, H, I', ⟨t, rfl⟩, q⟩
theorem dc_len : DCall z (.builtin "len") qLen := by
  refine ⟨_, call_len.or call_lenDict, fun m M H vs ds Q Qd r d h t => ?_⟩
  unfold qLen at h
  split at h
  · obtain ⟨v, rfl, q⟩ := d.one_
    exact .inl ⟨v, _, rfl, by rw [q.str_]; exact ⟨h.1, rfl⟩, t _ _ _ _ _ h.2 .refl r RD.int'⟩
  · obtain ⟨v, rfl, q⟩ := d.one_
    obtain ⟨a, vs, rfl, s, q⟩ := q.tup_
    exact .inl ⟨_, _, rfl, .inr ⟨vs, s, q.length.symm⟩, t _ _ _ _ _ h .refl r RD.int'⟩
  · obtain ⟨v, rfl, q⟩ := d.one_
    obtain ⟨a, vs, rfl, s, q⟩ := q.rol_
    exact .inl ⟨_, _, rfl, .inl ⟨vs, s.sql, q.length.symm⟩, t _ _ _ _ _ h .refl r RD.int'⟩
  · obtain ⟨v, rfl, q⟩ := d.one_
    split at h
    · rename_i e
      obtain ⟨a, vs, rfl, _, s, q⟩ := r.lst q e
      exact .inl ⟨_, _, rfl, .inl ⟨vs, SqL.of s, q.length.symm⟩, t _ _ _ _ _ h .refl r RD.int'⟩
    · rename_i e
      obtain ⟨a, vs, rfl, _, s, q⟩ := r.dic q e
      exact .inr ⟨a, vs, rfl, .inl s, by rw [q.length]; exact t _ _ _ _ _ h .refl r RD.int'⟩
    · exact h.elim
  · exact h.elim
def qAbs : DRA := fun xs M Q => match xs with
  | [.int i] => Q (.int (if i < 0 then -i else i)) M
  | _ => False
theorem dc_abs : DCall z (.builtin "abs") qAbs := by
  refine ⟨_, call_abs, fun m M H vs ds Q Qd r d h t => ?_⟩
  unfold qAbs at h
  split at h
  · obtain ⟨v, rfl, q⟩ := d.one_
    exact ⟨_, by rw [q.int_], t _ _ _ _ _ h .refl r RD.int'⟩
  · exact h.elim
def intsD : List D → Option (List Int)
  | [] => some []
  | .int i :: r => (intsD r).map (i :: ·)
  | _ => none
theorem intsD_eq : ∀ {ds : List D} {ns : List Int}, intsD ds = some ns → ds = ns.map D.int
  | [], ns, h => by cases h; rfl
  | .int i :: r, ns, h => by
    unfold intsD at h
    obtain ⟨ks, e, rfl⟩ := Option.map_eq_some_iff.mp h
    rw [intsD_eq e]
    rfl
  | .non :: _, _, h => by cases h
  | .bl _ :: _, _, h => by cases h
  | .str _ :: _, _, h => by cases h
  | .tup _ :: _, _, h => by cases h
  | .loc _ :: _, _, h => by cases h
  | .ty _ :: _, _, h => by cases h
  | .cls _ :: _, _, h => by cases h
  | .rol _ :: _, _, h => by cases h
theorem intsD_map : ∀ ns : List Int, intsD (ns.map D.int) = some ns
  | [] => rfl
  | n :: ns => by
    show (intsD (ns.map D.int)).map (n :: ·) = some (n :: ns)
    rw [intsD_map ns]
    rfl
def strsD : List D → Option (List Str)
  | [] => some []
  | .str i :: r => (strsD r).map (i :: ·)
  | _ => none
theorem strsD_eq : ∀ {ds : List D} {ns : List Str}, strsD ds = some ns → ds = ns.map D.str
  | [], ns, h => by cases h; rfl
  | .str i :: r, ns, h => by
    unfold strsD at h
    obtain ⟨ks, e, rfl⟩ := Option.map_eq_some_iff.mp h
    rw [strsD_eq e]
    rfl
  | .non :: _, _, h => by cases h
  | .bl _ :: _, _, h => by cases h
  | .int _ :: _, _, h => by cases h
  | .tup _ :: _, _, h => by cases h
  | .loc _ :: _, _, h => by cases h
  | .ty _ :: _, _, h => by cases h
  | .cls _ :: _, _, h => by cases h
  | .rol _ :: _, _, h => by cases h
theorem strsD_map : ∀ ns : List Str, strsD (ns.map D.str) = some ns
  | [] => rfl
  | n :: ns => by
    show (strsD (ns.map D.str)).map (n :: ·) = some (n :: ns)
    rw [strsD_map ns]
    rfl
def blsD : List D → Option (List Bool)
  | [] => some []
  | .bl i :: r => (blsD r).map (i :: ·)
  | _ => none
theorem blsD_eq : ∀ {ds : List D} {ns : List Bool}, blsD ds = some ns → ds = ns.map D.bl
  | [], ns, h => by cases h; rfl
  | .bl i :: r, ns, h => by
    unfold blsD at h
    obtain ⟨ks, e, rfl⟩ := Option.map_eq_some_iff.mp h
    rw [blsD_eq e]
    rfl
  | .non :: _, _, h => by cases h
  | .str _ :: _, _, h => by cases h
  | .int _ :: _, _, h => by cases h
  | .tup _ :: _, _, h => by cases h
  | .loc _ :: _, _, h => by cases h
  | .ty _ :: _, _, h => by cases h
  | .cls _ :: _, _, h => by cases h
  | .rol _ :: _, _, h => by cases h
theorem blsD_map : ∀ ns : List Bool, blsD (ns.map D.bl) = some ns
  | [] => rfl
  | n :: ns => by
    show (blsD (ns.map D.bl)).map (n :: ·) = some (n :: ns)
    rw [blsD_map ns]
    rfl
theorem RDs.bls {ns : List Bool} : ∀ {vs : List V}, RDs K m H (ns.map D.bl) vs → vs = ns.map V.bl := by
  induction ns with
  | nil => intro vs h; exact h.nil_
  | cons n ns ih =>
    intro vs h
    obtain ⟨v, ws, rfl, r1, r2⟩ := RDs.cons_ h
    rw [r1.bl_, ih r2]
    rfl
/-- a list of numbers, of texts, of truth values -/
def intsOf (x : D) (M : Mem) : Option (List Int) := (lstD x M).bind intsD
def strsOf (x : D) (M : Mem) : Option (List Str) := (seqD x M).bind strsD
def blsOf (x : D) (M : Mem) : Option (List Bool) := (lstD x M).bind blsD
theorem ints_of {x : D} {v : V} {ns : List Int} (r : RM K m H M) (d : RD K m H x v) (e : intsOf x M = some ns) : ∃ a, v = .ref a ∧ SqL K H a (ns.map V.int) := by
  obtain ⟨ds, e1, e2⟩ := Option.bind_eq_some_iff.mp e
  obtain ⟨a, vs, rfl, s, q⟩ := lst_of r d e1
  rw [q.ints (intsD_eq e2)] at s
  exact ⟨a, rfl, s⟩
theorem strs_of {x : D} {v : V} {ns : List Str} (r : RM K m H M) (d : RD K m H x v) (e : strsOf x M = some ns) : ∃ a, v = .ref a ∧ (SqL K H a (ns.map V.str) ∨ SqT K H a (ns.map V.str)) := by
  obtain ⟨ds, e1, e2⟩ := Option.bind_eq_some_iff.mp e
  obtain ⟨a, vs, rfl, s, q⟩ := seq_of r d e1
  rw [q.strs (strsD_eq e2)] at s
  exact ⟨a, rfl, s⟩
theorem bls_of {x : D} {v : V} {ns : List Bool} (r : RM K m H M) (d : RD K m H x v) (e : blsOf x M = some ns) : ∃ a, v = .ref a ∧ SqL K H a (ns.map V.bl) := by
  obtain ⟨ds, e1, e2⟩ := Option.bind_eq_some_iff.mp e
  obtain ⟨a, vs, rfl, s, q⟩ := lst_of r d e1
  have e3 := blsD_eq e2
  subst e3
  rw [q.bls] at s
  exact ⟨a, rfl, s⟩
def qMax : DRA := fun xs M Q => match xs with
  | [.int i, .int j] => Q (.int (if j > i then j else i)) M
  | [x] => (match intsOf x M with
    | some ns => 0 < ns.length ∧ ∀ k, k ∈ ns → (∀ y, y ∈ ns → y ≤ k) → Q (.int k) M
    | none => False)
  | _ => False
theorem dc_max (hc : z.X.calm = true) : DCall z (.builtin "max") qMax := by
  refine ⟨_, (call_max2 hc).or (cr_max hc), fun m M H vs ds Q Qd r d h t => ?_⟩
  unfold qMax at h
  split at h
  · obtain ⟨v, w, rfl, q1, q2⟩ := d.two_
    exact .inl ⟨_, _, by rw [q1.int_, q2.int_], t _ _ _ _ _ h .refl r RD.int'⟩
  · obtain ⟨v, rfl, q⟩ := d.one_
    split at h
    · rename_i ns e
      obtain ⟨a, rfl, s⟩ := ints_of r q e
      exact .inr ⟨a, ns, rfl, s, h.1, fun k h1 h2 => t _ _ _ _ _ (h.2 k h1 h2) .refl r RD.int'⟩
    · exact h.elim
  · exact h.elim
def qMin : DRA := fun xs M Q => match xs with
  | [.int i, .int j] => Q (.int (if j < i then j else i)) M
  | [x] => (match intsOf x M with
    | some ns => 0 < ns.length ∧ ∀ k, k ∈ ns → (∀ y, y ∈ ns → k ≤ y) → Q (.int k) M
    | none => False)
  | _ => False
def qSum : DRA := fun xs M Q => match xs with
  | [x] => (match intsOf x M with
    | some ns => Q (.int ns.sum) M
    | none => False)
  | _ => False
def qAll : DRA := fun xs M Q => match xs with
  | [x] => (match blsOf x M with
    | some ns => Q (.bl (ns.all id)) M
    | none => False)
  | _ => False
theorem dc_all (hc : z.X.calm = true) : DCall z (.builtin "all") qAll := by
  refine ⟨_, cr_all hc, fun m M H vs ds Q Qd r d h t => ?_⟩
  unfold qAll at h
  split at h
  · obtain ⟨v, rfl, q⟩ := d.one_
    split at h
    · rename_i ns e
      obtain ⟨a, rfl, s⟩ := bls_of r q e
      exact ⟨a, ns, rfl, s, t _ _ _ _ _ h .refl r RD.bl'⟩
    · exact h.elim
  · exact h.elim
def qAny : DRA := fun xs M Q => match xs with
  | [x] => (match blsOf x M with
    | some ns => Q (.bl (ns.any id)) M
    | none => False)
  | _ => False
def qInt_ : DRA := fun xs M Q => match xs with
  | [.int i] => Q (.int i) M
  | [.bl k] => Q (.int (if k then 1 else 0)) M
  | [.str s] => (match PySem.intText? s with
    | some n => s.length ≤ 640 ∧ Q (.int n) M
    | none => False)
  | _ => False
theorem dc_int : DCall z (.type "int") qInt_ := by
  refine ⟨_, call_int1.or call_int_str, fun m M H vs ds Q Qd r d h t => ?_⟩
  unfold qInt_ at h
  split at h
  · obtain ⟨v, rfl, q⟩ := d.one_
    exact .inl (.inl ⟨_, by rw [q.int_], t _ _ _ _ _ h .refl r RD.int'⟩)
  · obtain ⟨v, rfl, q⟩ := d.one_
    exact .inl (.inr ⟨_, by rw [q.bl_], t _ _ _ _ _ h .refl r RD.int'⟩)
  · obtain ⟨v, rfl, q⟩ := d.one_
    split at h
    · rename_i n e
      exact .inr ⟨_, n, by rw [q.str_], e, h.1, t _ _ _ _ _ h.2 .refl r RD.int'⟩
    · exact h.elim
  · exact h.elim
def qStr_ : DRA := fun xs M Q => match xs with
  | [.int i] => i.natAbs.log2 < 1920 ∧ Q (.str (toString i)) M
  | _ => False
theorem dc_str : DCall z (.type "str") qStr_ := by
  refine ⟨_, call_str_int, fun m M H vs ds Q Qd r d h t => ?_⟩
  unfold qStr_ at h
  split at h
  · obtain ⟨v, rfl, q⟩ := d.one_
    exact ⟨_, by rw [q.int_], h.1, t _ _ _ _ _ h.2 .refl r RD.str'⟩
  · exact h.elim
def keyV : Key → D
  | .inl i => .int i
  | .inr x => .str x
theorem keyV_of {k : Key} : RD K m H (keyV k) (kV k) := by
  cases k with
  | inl i => exact RD.int'
  | inr x => exact RD.str'
theorem RKV.keys : ∀ {kvs : List (Key × D)} {ws : List (Key × V)}, RKV K m H kvs ws → RDs K m H (kvs.map fun kv => keyV kv.1) (ws.map fun kv => kV kv.1)
  | [], _, r => by unfold RKV at r; subst r; exact RDs.nil'
  | p :: kvs, _, r => by
    unfold RKV at r
    obtain ⟨v, s, rfl, r1, r2⟩ := r
    exact RDs.cons' keyV_of r2.keys
def qList_ : DRA := fun xs M Q => match xs with
  | [x] => (match seqD x M with
    | some ds => Q (.loc M.length) (M ++ [.lst ds])
    | none => (match x with
      | .loc n => (match M[n]? with
        | some (.dic kvs) => Q (.loc M.length) (M ++ [.lst (kvs.map fun kv => keyV kv.1)])
        | _ => False)
      | _ => False))
  | _ => False
theorem dc_list (hc : z.X.calm = true) : DCall z (.type "list") qList_ := by
  refine ⟨_, call_list_of.or (call_list_dK hc), fun m M H vs ds Q Qd r d h t => ?_⟩
  unfold qList_ at h
  split at h
  · obtain ⟨v, rfl, q⟩ := d.one_
    split at h
    · rename_i e
      obtain ⟨a, ys, rfl, s, q⟩ := seq_of r q e
      exact .inl ⟨a, ys, rfl, s, fun p hp => new_lst r q hp h t⟩
    · split at h
      · split at h
        · rename_i e
          obtain ⟨a, ys, rfl, _, s, q⟩ := r.dic q e
          exact .inr ⟨a, ys, rfl, s, fun p hp => new_lst r q.keys hp h t⟩
        · exact h.elim
      · exact h.elim
  · exact h.elim
def qTuple_ : DRA := fun xs M Q => match xs with
  | [x] => (match seqD x M with
    | some ds => Q (.tup ds) M
    | none => False)
  | _ => False
theorem dc_tuple : DCall z (.type "tuple") qTuple_ := by
  refine ⟨_, call_tuple_of, fun m M H vs ds Q Qd r d h t => ?_⟩
  unfold qTuple_ at h
  split at h
  · obtain ⟨v, rfl, q⟩ := d.one_
    split at h
    · rename_i e
      obtain ⟨a, ys, rfl, s, q⟩ := seq_of r q e
      rcases s with s | s
      · exact ⟨a, ys, rfl, .inl ⟨s, fun p hp => new_tup r q hp h t⟩⟩
      · exact ⟨a, ys, rfl, .inr ⟨s, t _ _ _ _ _ h .refl r (RD.tup' s q)⟩⟩
    · exact h.elim
  · exact h.elim
def qDict_ : DRA := fun xs M Q => match xs with
  | [.loc n] => (match M[n]? with
    | some (.dic kvs) => Q (.loc M.length) (M ++ [.dic kvs])
    | _ => False)
  | _ => False
def tyN (x : D) (M : Mem) : Option String := match x with
  | .non => some "NoneType"
  | .bl _ => some "bool"
  | .int _ => some "int"
  | .str _ => some "str"
  | .tup _ => some "tuple"
  | .rol _ => some "list"
  | .loc n => (match M[n]? with
    | some (.lst _) => some "list"
    | some (.dic _) => some "dict"
    | _ => none)
  | _ => none
theorem tyN_of {x : D} {v : V} {n : String} (r : RM K m H M) (d : RD K m H x v) (e : tyN x M = some n) : TyX K H v (.type n) := by
  unfold tyN at e
  split at e
  · cases e; rw [d.non_]; exact .base .non
  · cases e; rw [d.bl_]; exact .base (.bl _)
  · cases e; rw [d.int_]; exact .base (.int _)
  · cases e; rw [d.str_]; exact .base (.str _)
  · cases e
    obtain ⟨a, vs, rfl, s, q⟩ := d.tup_
    rcases s with (s | ⟨o, s⟩) | ⟨o, its, k, e1, e2, _⟩
    · exact .base (.tup s)
    · exact .fTuple s
    · exact .kTuple e1 e2
  · cases e
    obtain ⟨a, vs, rfl, s, q⟩ := d.rol_
    rcases s with ⟨o, s⟩ | ⟨o, its, k, e1, e2, _⟩
    · exact .base (.frz s)
    · exact .kList e1 e2
  · split at e
    · rename_i e2
      cases e
      obtain ⟨a, vs, rfl, _, s, q⟩ := r.lst d e2
      exact .base (.lst s)
    · rename_i e2
      cases e
      obtain ⟨a, vs, rfl, _, s, q⟩ := r.dic d e2
      exact .base (.dK s)
    · cases e
  · cases e
def qIsi : DRA := fun xs M Q => match xs with
  | [x, .ty n] => (match tyN x M with
    | some k => (match kitB k n with
      | some b => Q (.bl b) M
      | none => False)
    | none => False)
  | _ => False
theorem dc_isi : DCall z (.builtin "isinstance") qIsi := by
  refine ⟨_, call_isi, fun m M H vs ds Q Qd r d h t => ?_⟩
  unfold qIsi at h
  split at h
  · obtain ⟨v, w, rfl, q1, q2⟩ := d.two_
    split at h
    · rename_i k e
      split at h
      · rename_i b e2
        exact ⟨v, w, _, _, b, rfl, by rw [q2.ty_]; exact .ty _, tyN_of r q1 e, kit_ty e2, t _ _ _ _ _ h .refl r RD.bl'⟩
      · exact h.elim
    · exact h.elim
  · exact h.elim
theorem kit_ii : kitB "int" "int" = some true := by decide +kernel
theorem kit_bi : kitB "bool" "int" = some true := by decide +kernel
theorem kit_si : kitB "str" "int" = some false := by decide +kernel
theorem kit_ti : kitB "tuple" "int" = some false := by decide +kernel
theorem kit_li : kitB "list" "int" = some false := by decide +kernel
theorem kit_di : kitB "dict" "int" = some false := by decide +kernel
theorem kit_ni : kitB "NoneType" "int" = some false := by decide +kernel
theorem kit_ib : kitB "int" "bool" = some false := by decide +kernel
theorem kit_bb : kitB "bool" "bool" = some true := by decide +kernel
theorem kit_sb : kitB "str" "bool" = some false := by decide +kernel
theorem kit_tb : kitB "tuple" "bool" = some false := by decide +kernel
theorem kit_lb : kitB "list" "bool" = some false := by decide +kernel
theorem kit_nb : kitB "NoneType" "bool" = some false := by decide +kernel
theorem kit_is : kitB "int" "str" = some false := by decide +kernel
theorem kit_ss : kitB "str" "str" = some true := by decide +kernel
theorem kit_ts : kitB "tuple" "str" = some false := by decide +kernel
theorem kit_ls : kitB "list" "str" = some false := by decide +kernel
theorem kit_ns : kitB "NoneType" "str" = some false := by decide +kernel
theorem kit_it : kitB "int" "tuple" = some false := by decide +kernel
theorem kit_st : kitB "str" "tuple" = some false := by decide +kernel
theorem kit_tt : kitB "tuple" "tuple" = some true := by decide +kernel
theorem kit_lt : kitB "list" "tuple" = some false := by decide +kernel
theorem kit_nt : kitB "NoneType" "tuple" = some false := by decide +kernel
theorem kit_il : kitB "int" "list" = some false := by decide +kernel
theorem kit_tl : kitB "tuple" "list" = some false := by decide +kernel
theorem kit_ll : kitB "list" "list" = some true := by decide +kernel
theorem kit_dl : kitB "dict" "list" = some false := by decide +kernel
theorem kit_nl : kitB "NoneType" "list" = some false := by decide +kernel
theorem kit_dd : kitB "dict" "dict" = some true := by decide +kernel
theorem kit_nd : kitB "NoneType" "dict" = some false := by decide +kernel
theorem kit_ld : kitB "list" "dict" = some false := by decide +kernel
end
end DL
namespace DL
open PySem L2
structure DIt where
  items : List D
  ok : Mem → Prop
structure ItOk (K : PySem.W.Frag) (m : List Addr) (H : Hp) (it : DIt) (J : It) : Prop where
  go : ∀ (i : Nat) m' M' H', i < it.items.length → Grow m H m' H' → RM K m' H' M' → it.ok M' → J.go i H'
  yld : ∀ (i : Nat) m' M' H' x H'', i < it.items.length → Grow m H m' H' → RM K m' H' M' → it.ok M' → J.yld i H' x H'' → ∃ d, it.items[i]? = some d ∧ (H'' = H' ∨ ∃ p o, H' p = none ∧ H'' = upd H' p o) ∧ RD K m' H'' d x
  stop : ∀ m' M' H', Grow m H m' H' → RM K m' H' M' → it.ok M' → J.stop it.items.length H'
abbrev DTI := Rho → Mem → (DIt → Mem → Prop) → Prop
def LI (z : Zx) (wi : TI) (t : DTI) : Prop := ∀ m r M σ H (R : It → Hp → Prop) (Rd : DIt → Mem → Prop), RS z m r M σ H → t r M Rd →
  (∀ it M' m' H' J, Rd it M' → Grow m H m' H' → RM z.X.K m' H' M' → ItOk z.X.K m' H' it J → R J H') → wi σ H R
def DI (z : Zx) (tg e : Expr) (t : DTI) : Prop := ∃ wi, PI z.X tg e wi ∧ LI z wi t
section
variable {z : Zx} {K : PySem.W.Frag} {m : List Addr} {H : Hp} {M : Mem}
theorem itok_list {n : Nat} {a : Addr} {ds : List D} (ea : m[n]? = some a) : ItOk K m H ⟨ds, fun M => M[n]? = some (.lst ds)⟩ (Itl K a) where
  go := fun i m' M' H' hi g r hk => by
    obtain ⟨vs, e, q⟩ := r.at hk (get_pre g.pre ea)
    obtain ⟨v, ev, _⟩ := q.get (List.getElem?_eq_getElem hi)
    exact ⟨vs, v, SqL.of e, ev⟩
  yld := fun i m' M' H' x H'' hi g r hk y => by
    obtain ⟨rfl, y⟩ := y
    obtain ⟨vs, e, q⟩ := r.at hk (get_pre g.pre ea)
    obtain ⟨v, ev, rv⟩ := q.get (List.getElem?_eq_getElem hi)
    have e2 := y vs (SqL.of e)
    rw [ev] at e2
    cases e2
    exact ⟨_, List.getElem?_eq_getElem hi, .inl rfl, rv⟩
  stop := fun m' M' H' g r hk => by
    obtain ⟨vs, e, q⟩ := r.at hk (get_pre g.pre ea)
    exact ⟨vs, SqL.of e, Nat.le_of_eq q.length⟩
theorem itok_rol {a : Addr} {ds : List D} {vs : List V} (s : SqR K H a vs) (q : RDs K m H ds vs) : ItOk K m H ⟨ds, fun _ => True⟩ (Itl K a) where
  go := fun i m' M' H' hi g r hk => by
    obtain ⟨v, ev, _⟩ := q.get (List.getElem?_eq_getElem hi)
    exact ⟨vs, v, (g.tups.ro _ _ s).sql, ev⟩
  yld := fun i m' M' H' x H'' hi g r hk y => by
    obtain ⟨rfl, y⟩ := y
    obtain ⟨v, ev, rv⟩ := q.get (List.getElem?_eq_getElem hi)
    have e2 := y vs (g.tups.ro _ _ s).sql
    rw [ev] at e2
    cases e2
    exact ⟨_, List.getElem?_eq_getElem hi, .inl rfl, rv.grow g⟩
  stop := fun m' M' H' g r hk => ⟨vs, (g.tups.ro _ _ s).sql, Nat.le_of_eq q.length⟩
theorem itok_tup {a : Addr} {ds : List D} {vs : List V} (s : SqT K H a vs) (q : RDs K m H ds vs) : ItOk K m H ⟨ds, fun _ => True⟩ (Itt K a) where
  go := fun i m' M' H' hi g r hk => by
    obtain ⟨v, ev, _⟩ := q.get (List.getElem?_eq_getElem hi)
    exact ⟨vs, v, g.tups.tu _ _ s, ev⟩
  yld := fun i m' M' H' x H'' hi g r hk y => by
    obtain ⟨rfl, y⟩ := y
    obtain ⟨v, ev, rv⟩ := q.get (List.getElem?_eq_getElem hi)
    have e2 := y vs (g.tups.tu _ _ s)
    rw [ev] at e2
    cases e2
    exact ⟨_, List.getElem?_eq_getElem hi, .inl rfl, rv.grow g⟩
  stop := fun m' M' H' g r hk => ⟨vs, g.tups.tu _ _ s, Nat.le_of_eq q.length⟩
theorem itok_str {x : Str} : ItOk K m H ⟨x.cps.toList.map fun c => .str ⟨#[c]⟩, fun _ => True⟩ (Its x) where
  go := fun i m' M' H' hi g r hk => by
    show i < x.cps.size
    simpa using hi
  yld := fun i m' M' H' v H'' hi g r hk y => by
    obtain ⟨rfl, c, ec, rfl⟩ := y
    refine ⟨.str ⟨#[c]⟩, ?_, .inl rfl, RD.str'⟩
    rw [List.getElem?_map, Array.getElem?_toList, ec]
    rfl
  stop := fun m' M' H' g r hk => by
    show x.cps.size ≤ _
    simp
theorem itok_range {lo : Int} {n : Nat} : ItOk K m H ⟨(List.range n).map fun (i : Nat) => .int (lo + (i : Int)), fun _ => True⟩ (Itr lo n) where
  go := fun i m' M' H' hi g r hk => by
    show i < n
    simpa using hi
  yld := fun i m' M' H' v H'' hi g r hk y => by
    obtain ⟨rfl, rfl⟩ := y
    refine ⟨.int (lo + (i : Int)), ?_, .inl rfl, RD.int'⟩
    have hi' : i < n := by simpa using hi
    rw [List.getElem?_map, List.getElem?_range hi']
    rfl
  stop := fun m' M' H' g r hk => by show n ≤ _; simp
def iSeq (K : PySem.W.Frag) (tl : TE) : TI := fun σ H R => tl σ H fun x H1 => (∃ a, x = .ref a ∧ (∃ xs, SqL K H1 a xs) ∧ R (Itl K a) H1) ∨ (∃ a, x = .ref a ∧ (∃ xs, SqT K H1 a xs) ∧ R (Itt K a) H1) ∨ ∃ s, x = .str s ∧ R (Its s) H1
theorem pi_seq {X : Cx} {tg l : Expr} {tl : TE} (hl : PE X l tl) : PI X tg l (iSeq X.K tl) := by
  refine ⟨fun pins s σ H R I h => ?_⟩
  refine thn (hl.run pins s σ H _ I h) fun v s1 ⟨x, H1, I1, r1, q1⟩ => ?_
  rcases q1 with ⟨a, e, ⟨xs, hq⟩, q⟩ | ⟨a, e, ⟨xs, hq⟩, q⟩ | ⟨y, e, q⟩
  · subst e
    cases r1
    obtain ⟨its, rv, p, hz⟩ := I1.list hq
    refine wpAny_pyIter_list p.isList ?_
    refine ⟨s1.heap.objs.size, [s1.heap.objs.size], _, _, H1, rfl, I1.kept (t' := s1.toks) fun b o e => Heap.get?_push_of_some _ e, turn_list a _, ⟨_, Heap.get?_push_size _ rfl, rfl, rfl⟩, fun b hb => ?_, q⟩
    have e : b = s1.heap.objs.size := by simpa using hb
    subst e
    exact I1.fpOk (Nat.le_refl _) (I1.hok.fresh (Nat.le_refl _))
  · subst e
    cases r1
    obtain ⟨its, rv, p, hz⟩ := I1.tuple hq
    refine wpAny_pyIter_tuple (show s1.heap.IsTuple a its.toArray from p) ?_
    refine ⟨s1.heap.objs.size, [s1.heap.objs.size], _, _, H1, rfl, I1.kept (t' := s1.toks) fun b o e => Heap.get?_push_of_some _ e, turn_tuple a _, ⟨_, Heap.get?_push_size _ rfl, rfl, rfl⟩, fun b hb => ?_, q⟩
    have e : b = s1.heap.objs.size := by simpa using hb
    subst e
    exact I1.fpOk (Nat.le_refl _) (I1.hok.fresh (Nat.le_refl _))
  · subst e
    obtain ⟨t, rfl⟩ := r1
    cases ha : y.cps.all (· < 128)
    · exact wpAny_pyIter_wide ha (pi_one (tk := s1.toks) I1 _ (turn_str _ y t "str_iterator" (.inr rfl)) ⟨_, Heap.get?_push_size _ rfl, rfl, rfl⟩ q)
    · exact wpAny_pyIter_ascii ha (pi_one (tk := s1.toks) I1 _ (turn_str _ y t "str_ascii_iterator" (.inl rfl)) ⟨_, Heap.get?_push_size _ rfl, rfl, rfl⟩ q)
def dISeq (ta : DTE) : DTI := fun r M R => ta r M fun x M1 => match x with
  | .tup ds => R ⟨ds, fun _ => True⟩ M1
  | .rol ds => R ⟨ds, fun _ => True⟩ M1
  | .loc n => (match M1[n]? with
    | some (.lst ds) => R ⟨ds, fun M => M[n]? = some (.lst ds)⟩ M1
    | _ => False)
  | .str x => R ⟨x.cps.toList.map fun c => .str ⟨#[c]⟩, fun _ => True⟩ M1
  | _ => False
theorem di_seq {tg e : Expr} {ta : DTE} (h : DE z e ta) : DI z tg e (dISeq ta) := by
  obtain ⟨wa, pa, la⟩ := h
  refine ⟨_, pi_seq pa, fun m r M σ H R Rd s q t => la m r M σ H _ _ s q fun x M1 m1 v H1 q1 g1 r1 d1 => ?_⟩
  split at q1
  · obtain ⟨a, vs, rfl, s, q⟩ := d1.tup_
    exact .inr (.inl ⟨a, rfl, ⟨vs, s⟩, t _ _ _ _ _ q1 g1 r1 (itok_tup s q)⟩)
  · obtain ⟨a, vs, rfl, s, q⟩ := d1.rol_
    exact .inl ⟨a, rfl, ⟨vs, s.sql⟩, t _ _ _ _ _ q1 g1 r1 (itok_rol s q)⟩
  · split at q1
    · rename_i e
      obtain ⟨a, vs, rfl, ea, s, q⟩ := r1.lst d1 e
      exact .inl ⟨a, rfl, ⟨vs, SqL.of s⟩, t _ _ _ _ _ q1 g1 r1 (itok_list ea)⟩
    · exact q1.elim
  · exact .inr (.inr ⟨_, d1.str_, t _ _ _ _ _ q1 g1 r1 itok_str⟩)
  · exact q1.elim
def rngD (lo : Int) (n : Nat) : List D := (List.range n).map fun (i : Nat) => .int (lo + (i : Int))
def dIRng1 (ta : DTA) : DTI := fun r M R => ta r M fun xs M1 => match xs with
  | [.int j] => (-(2 ^ 62) ≤ j ∧ j < 2 ^ 62) ∧ R ⟨rngD 0 j.toNat, fun _ => True⟩ M1
  | _ => False
def dIRng2 (ta : DTA) : DTI := fun r M R => ta r M fun xs M1 => match xs with
  | [.int i, .int j] => (-(2 ^ 62) ≤ i ∧ i < 2 ^ 62 ∧ -(2 ^ 62) ≤ j ∧ j < 2 ^ 62) ∧ R ⟨rngD i (j - i).toNat, fun _ => True⟩ M1
  | _ => False
theorem di_rng1 {tg a : Expr} {ta : DTA} {p pos : Pos} (hm : z.X.mg "range" = none) (h : DA z [a] ta) (hg : Gl z.X "range" := by rfl) (hs : starEach [a] z.X.env = [(false, eval a z.X.env)] := by rfl) : DI z tg (.Call (.Name "range" p) [a] [] pos) (dIRng1 ta) := by
  obtain ⟨wa, pa, la⟩ := h
  refine ⟨_, pi_range1 hg hm pa hs, fun m r M σ H R Rd s q t => la m r M σ H _ _ s q fun xs M1 m1 vs H1 q1 g1 r1 d1 => ?_⟩
  split at q1
  · obtain ⟨v, rfl, d⟩ := d1.one_
    exact ⟨_, by rw [d.int_], q1.1.1, q1.1.2, t _ _ _ _ _ q1.2 g1 r1 itok_range⟩
  · exact q1.elim
abbrev DTG := D → Rho → Mem → (Rho → Mem → Prop) → Prop
def LG (z : Zx) (wg : TG) (g : DTG) : Prop := ∀ m r M σ H d v (Q : L2.St → Hp → Prop) (Qd : Rho → Mem → Prop), RS z m r M σ H → RD z.X.K m H d v → g d r M Qd →
  (∀ r' M' m' σ' H', Qd r' M' → Grow m H m' H' → RS z m' r' M' σ' H' → Q σ' H') → wg v σ H Q
def DG (z : Zx) (tg : Expr) (g : DTG) : Prop := ∃ wg, PG z.X tg wg ∧ LG z wg g
def LGs (z : Zx) (wg : TGs) (g : List D → Rho → Mem → (Rho → Mem → Prop) → Prop) : Prop := ∀ m r M σ H ds vs (Q : L2.St → Hp → Prop) (Qd : Rho → Mem → Prop), RS z m r M σ H → RDs z.X.K m H ds vs → g ds r M Qd →
  (∀ r' M' m' σ' H', Qd r' M' → Grow m H m' H' → RS z m' r' M' σ' H' → Q σ' H') → wg vs σ H Q
def DGs (z : Zx) (tgs : List Expr) (g : List D → Rho → Mem → (Rho → Mem → Prop) → Prop) : Prop := ∃ wg, PGs z.X tgs wg ∧ LGs z wg g
def dgName (i : Nat) : DTG := fun d r M Q => Q (r.set i (some d)) M
theorem dg_name (i : Nat) {x : Str} {pos : Pos} (hN : z.X.N.Nodup) (hi : z.X.N[i]? = some x := by rfl) (hx : Loc z.X.env.scope x := by first | exact Or.inl rfl | exact Or.inr rfl) (hf : z.X.fn x = true ∨ z.X.env.scope.names.lookup x = some .local := by first | exact .inl rfl | exact .inr rfl) : DG z (.Name x pos) (dgName i) :=
  ⟨_, pg_name hN hi hx hf, fun m r M σ H d v Q Qd s rd q t => t _ _ _ _ _ q .refl (s.set rd)⟩
def dgNil : List D → Rho → Mem → (Rho → Mem → Prop) → Prop := fun ds r M Q => ds = [] ∧ Q r M
def dgCons (g : DTG) (gs : List D → Rho → Mem → (Rho → Mem → Prop) → Prop) : List D → Rho → Mem → (Rho → Mem → Prop) → Prop := fun ds r M Q => match ds with
  | d :: es => g d r M fun r1 M1 => gs es r1 M1 Q
  | [] => False
theorem dgs_nil : DGs z [] dgNil := ⟨_, pgs_nil, fun m r M σ H ds vs Q Qd s rd q t => by
  obtain ⟨rfl, q⟩ := q
  exact ⟨rd.nil_, t _ _ _ _ _ q .refl s⟩⟩
theorem dgs_cons {e : Expr} {es : List Expr} {g : DTG} {gs : List D → Rho → Mem → (Rho → Mem → Prop) → Prop} (h : DG z e g) (h' : DGs z es gs)
    (hs : (assignEach (e :: es) z.X.env).map (·.2) = assign e z.X.env :: (assignEach es z.X.env).map (·.2) := by rfl) : DGs z (e :: es) (dgCons g gs) := by
  obtain ⟨wg, pg, lg⟩ := h
  obtain ⟨wgs, pgs, lgs⟩ := h'
  refine ⟨_, pgs_cons pg pgs hs, fun m r M σ H ds vs Q Qd s rd q t => ?_⟩
  unfold dgCons at q
  split at q
  · obtain ⟨v, ws, rfl, r1, r2⟩ := rd.cons_
    refine ⟨v, ws, rfl, lg m r M σ H _ v _ _ s r1 q fun r' M' m' σ' H' q' g' s' => ?_⟩
    exact lgs m' r' M' σ' H' _ ws _ _ s' (r2.grow g') q' fun r2 M2 m2 σ2 H2 q2 g2 s2 => t _ _ _ _ _ q2 (g'.trans g2) s2
  · exact q.elim
def dgTup (n : Nat) (gs : List D → Rho → Mem → (Rho → Mem → Prop) → Prop) : DTG := fun d r M Q => match d with
  | .tup ds => ds.length = n ∧ gs ds r M Q
  | _ => False
theorem dg_tup {es : List Expr} {k n : Nat} {pos : Pos} {gs : List D → Rho → Mem → (Rho → Mem → Prop) → Prop} (hc : z.X.calm = true) (h : DGs z es gs)
    (hn : (assignEach es z.X.env).length = n := by rfl) (hst : (assignEach es z.X.env).findIdx? (·.1) = none := by rfl) : DG z (.Tuple es k pos) (dgTup n gs) := by
  obtain ⟨wgs, pgs, lgs⟩ := h
  refine ⟨_, pg_tup hc pgs hn hst, fun m r M σ H d v Q Qd s rd q t => ?_⟩
  unfold dgTup at q
  split at q
  · obtain ⟨a, vs, rfl, sq, q2⟩ := rd.tup_
    exact ⟨a, vs, rfl, sq, by rw [q2.length]; exact q.1, lgs m r M σ H _ vs _ _ s q2 q.2 t⟩
  · exact q.elim
abbrev DTSet := D → D → D → Mem → (Mem → Prop) → Prop
def qSet : DTSet := fun o i v M Q => match o with
  | .loc n => (match M[n]? with
    | some (.lst ds) => (match i with
      | .int k => (match ixN ds.length k with
        | some j => Q (M.set n (.lst (ds.set j v)))
        | none => False)
      | _ => False)
    | some (.dic kvs) => (match keyD i with
      | some k => kvs.length < sizeLine ∧ Q (M.set n (.dic (putD kvs k v)))
      | none => False)
    | _ => False)
  | _ => False
def rSetD : V → V → V → Hp → (Hp → Prop) → Prop := fun o i v H Q => ∃ a H', o = .ref a ∧ DPut H a i v H' ∧ Q H'
theorem set_dict {X : Cx} (hu : X.A.units + 1 < cLine) : PSet X rSetD := by
  intro pins s σ H o i v ov iv u Q I ro ri rv h
  obtain ⟨a, H', rfl, g, q⟩ := h
  cases ro
  exact d_setItem hu I g ri rv fun s' I' => ⟨H', I', q⟩
theorem PSet.or {X : Cx} {t t' : TSet} (h : PSet X t) (h' : PSet X t') : PSet X fun o i v H Q => t o i v H Q ∨ t' o i v H Q := by
  intro pins s σ H o i v ov iv u Q I ro ri rv q
  rcases q with q | q
  · exact h pins s σ H o i v ov iv u Q I ro ri rv q
  · exact h' pins s σ H o i v ov iv u Q I ro ri rv q
def dgSub (to ti : DTE) : DTG := fun d r M Q => to r M fun o M1 => ti r M1 fun i M2 => qSet o i d M2 fun M3 => Q r M3
theorem dg_sub {k : Nat} (hr : Room k z.X.A) {o i : Expr} {to ti : DTE} {pos : Pos} (ho : DE z o to) (hi : DE z i ti)
    (ha : ∀ v, assign (.Subscript o i pos) z.X.env v = (do
      let ov ← holding [v] (eval o z.X.env)
      let iv ← holding [v, ov] (eval i z.X.env)
      standAt pos
      holding [v, ov, iv] (setItem ov iv v)
      release [v, ov, iv] []) := by intro _; rfl) : DG z (.Subscript o i pos) (dgSub to ti) := by
  obtain ⟨wo, po, lo⟩ := ho
  obtain ⟨wi, pi, li⟩ := hi
  refine ⟨_, pg_sub po pi (DL.PSet.or set_list (set_dict (hu_of hr))) ha, fun m r M σ H d v Q Qd s rd q t => ?_⟩
  refine lo m r M σ H _ _ s q fun x M1 m1 w1 H1 q1 g1 r1 d1 => li m1 r M1 σ H1 _ _ (s.grow g1 r1) q1 fun y M2 m2 w2 H2 q2 g2 r2 d2 => ?_
  have g12 := g1.trans g2
  have rd2 := rd.grow g12
  have do2 := d1.grow g2
  unfold qSet at q2
  split at q2
  · split at q2
    · rename_i ds e
      obtain ⟨a, vs, rfl, ea, eh, qv⟩ := r2.lst do2 e
      split at q2
      · split at q2
        · rename_i j ej
          refine .inl ⟨a, vs, _, j, rfl, d2.int_, eh, by rw [qv.length]; exact ej, ?_⟩
          have g3 : Grow m2 H2 m2 (upd H2 a (.lst (vs.set j v))) := Grow.put r2 ea (by rw [eh]; trivial)
          exact t _ _ _ _ _ q2 (g12.trans g3) ((s.grow g12 r2).grow g3 (r2.put ea (by rw [eh]; trivial) (o := .lst (ds.set j d)) ⟨_, upd_same, (qv.set rd2).grow g3⟩))
        · exact q2.elim
      · exact q2.elim
    · rename_i kvs e
      obtain ⟨a, ws, rfl, ea, eh, qv⟩ := r2.dic do2 e
      split at q2
      · rename_i k ek
        refine .inr ⟨a, upd H2 a (.dK (putK ws k v)), rfl, ?_, ?_⟩
        · rw [key_ofD ek d2]
          exact DPut.k eh (by rw [qv.length]; exact q2.1)
        · have g3 : Grow m2 H2 m2 (upd H2 a (.dK (putK ws k v))) := Grow.put r2 ea (by rw [eh]; trivial)
          exact t _ _ _ _ _ q2.2 (g12.trans g3) ((s.grow g12 r2).grow g3 (r2.put ea (by rw [eh]; trivial) (o := .dic (putD kvs k d)) ⟨_, upd_same, (qv.put rd2).mono g3.pre g3.tups⟩))
      · exact q2.elim
    · exact q2.elim
  · exact q2.elim
end
end DL
namespace DL
open PySem L2
structure Le (z : Zx) (m : List Addr) (H : Hp) (Dd : DEnds) (E : Ends) : Prop where
  nx : ∀ r' M' m' σ' H', Dd.nx r' M' → Grow m H m' H' → RS z m' r' M' σ' H' → E.nx σ' H'
  rt : ∀ d M' m' v H', Dd.rt d M' → Grow m H m' H' → RM z.X.K m' H' M' → RD z.X.K m' H' d v → E.rt v H'
  bk : ∀ r' M' m' σ' H', Dd.bk r' M' → Grow m H m' H' → RS z m' r' M' σ' H' → E.bk σ' H'
  ct : ∀ r' M' m' σ' H', Dd.ct r' M' → Grow m H m' H' → RS z m' r' M' σ' H' → E.ct σ' H'
theorem Le.grow {z m H m' H' Dd E} (l : Le z m H Dd E) (g : Grow m H m' H') : Le z m' H' Dd E :=
  ⟨fun r M m1 σ H1 q g1 s => l.nx r M m1 σ H1 q (g.trans g1) s, fun d M m1 v H1 q g1 s t => l.rt d M m1 v H1 q (g.trans g1) s t,
   fun r M m1 σ H1 q g1 s => l.bk r M m1 σ H1 q (g.trans g1) s, fun r M m1 σ H1 q g1 s => l.ct r M m1 σ H1 q (g.trans g1) s⟩
def LS (z : Zx) (ts : TS) (t : DTS) : Prop := ∀ m r M σ H (E : Ends) (Dd : DEnds), RS z m r M σ H → t Dd r M → Le z m H Dd E → ts E σ H
def DS (z : Zx) (st : Stmt) (t : DTS) : Prop := ∃ ts, PS z.X st ts ∧ LS z ts t
def DSs (z : Zx) (st : List Stmt) (t : DTS) : Prop := ∃ ts, PSs z.X st ts ∧ LS z ts t
section
variable {z : Zx} {e c : Expr} {te : DTE} {tt : DTT} {t u : DTS} {st : Stmt} {rest a b : List Stmt} {pos : Pos}
def dNext : DTS := fun D r M => D.nx r M
def dSeq (t u : DTS) : DTS := fun D r M => t { D with nx := u D } r M
theorem dss_nil : DSs z [] dNext := ⟨_, pss_nil, fun m r M σ H E Dd s q l => l.nx _ _ _ _ _ q .refl s⟩
theorem dss_cons (h : DS z st t) (h' : DSs z rest u) : DSs z (st :: rest) (dSeq t u) := by
  obtain ⟨w, p, lw⟩ := h
  obtain ⟨w', p', lw'⟩ := h'
  refine ⟨_, pss_cons p p', fun m r M σ H E Dd s q l => lw m r M σ H _ _ s q ⟨fun r1 M1 m1 σ1 H1 q1 g1 s1 => ?_, l.rt, l.bk, l.ct⟩⟩
  exact lw' m1 r1 M1 σ1 H1 _ _ s1 q1 (l.grow g1)
theorem dss_one (h : DS z st t) : DSs z [st] t := by
  obtain ⟨w, p, lw⟩ := h
  exact ⟨_, pss_one p, lw⟩
def dBreak : DTS := fun D r M => D.bk r M
def dCont : DTS := fun D r M => D.ct r M
def dDrop (te : DTE) : DTS := fun D r M => te r M fun _ M1 => D.nx r M1
theorem ds_expr (h : DE z e te) (hs : swapsWith e none pos.line z.X.env = pure false := by rfl) : DS z (.Expr e pos) (dDrop te) := by
  obtain ⟨w, p, lw⟩ := h
  exact ⟨_, ps_expr p hs, fun m r M σ H E Dd s q l => lw m r M σ H _ _ s q fun d M1 m1 v H1 q1 g1 r1 d1 => l.nx _ _ _ _ _ q1 g1 (s.grow g1 r1)⟩
def dRet (te : DTE) : DTS := fun D r M => te r M D.rt
theorem ds_ret (h : DE z e te) : DS z (.Return (some e) pos) (dRet te) := by
  obtain ⟨w, p, lw⟩ := h
  exact ⟨_, ps_ret p, fun m r M σ H E Dd s q l => lw m r M σ H _ _ s q fun d M1 m1 v H1 q1 g1 r1 d1 => l.rt _ _ _ _ _ q1 g1 r1 d1⟩
def dRetN : DTS := fun D _ M => D.rt .non M
def dIfS (c : DTT) (t u : DTS) : DTS := fun D r M => c r M fun k M1 => match k with
  | true => t D r M1
  | false => u D r M1
theorem ds_if (hc : DT z c tt) (ha : DSs z a t) (hb : DSs z b u) : DS z (.If c a b pos) (dIfS tt t u) := by
  obtain ⟨w, p, lw⟩ := hc
  obtain ⟨wa, pa, la⟩ := ha
  obtain ⟨wb, pb, lb⟩ := hb
  refine ⟨_, ps_if p pa pb, fun m r M σ H E Dd s q l => lw m r M σ H _ _ s q fun k M1 m1 H1 q1 g1 r1 => ?_⟩
  cases k with
  | true => rw [if_pos rfl]; exact la m1 r M1 σ H1 _ _ (s.grow g1 r1) q1 (l.grow g1)
  | false => rw [if_neg (by decide)]; exact lb m1 r M1 σ H1 _ _ (s.grow g1 r1) q1 (l.grow g1)
def dNever : DTS := fun _ _ _ => False
def dAsg (te : DTE) (g : DTG) : DTS := fun D r M => te r M fun d M1 => g d r M1 D.nx
theorem ds_asg {tg : Expr} {g : DTG} (h : DE z e te) (hg : DG z tg g) (hs : swapsWithSole [tg] e pos.line z.X.env = pure false := by rfl) (hw : swappedStores [tg] e z.X.env = pure none := by rfl)
    (h1 : (assignEach [tg] z.X.env).map (·.2) = [assign tg z.X.env] := by rfl) : DS z (.Assign [tg] e pos) (dAsg te g) := by
  obtain ⟨w, p, lw⟩ := h
  obtain ⟨wg, pg, lg⟩ := hg
  exact ⟨_, ps_asg p pg hs hw h1, fun m r M σ H E Dd s q l => lw m r M σ H _ _ s q fun d M1 m1 v H1 q1 g1 r1 d1 => lg m1 r M1 σ H1 d v _ _ (s.grow g1 r1) d1 q1 fun r2 M2 m2 σ2 H2 q2 g2 s2 => l.nx _ _ _ _ _ q2 (g1.trans g2) s2⟩
theorem ds_set (i : Nat) {x : Str} {pos' : Pos} (hN : z.X.N.Nodup) (h : DE z e te) (hi : z.X.N[i]? = some x := by rfl) (hx : Loc z.X.env.scope x := by first | exact Or.inl rfl | exact Or.inr rfl) (hs : swapsWith e (some (.Name x pos')) pos.line z.X.env = pure false := by rfl) (hf : z.X.fn x = true ∨ z.X.env.scope.names.lookup x = some .local := by first | exact .inl rfl | exact .inr rfl) :
    DS z (.Assign [.Name x pos'] e pos) (dAsg te (dgName i)) := by
  obtain ⟨w, p, lw⟩ := h
  exact ⟨_, ps_set hN hi hx p hs hf, fun m r M σ H E Dd s q l => lw m r M σ H _ _ s q fun d M1 m1 v H1 q1 g1 r1 d1 => l.nx _ _ _ _ _ q1 g1 ((s.grow g1 r1).set d1)⟩
def dAug (i : Nat) (te : DTE) (rd : DR2) : DTS := fun D r M => match r[i]? with
  | some (some x) => te r M fun y M1 => rd x y M1 fun w M2 => D.nx (r.set i (some w)) M2
  | _ => False
theorem ds_aug (i : Nat) {x : Str} {op : Operator} {rd : DR2} {pos' : Pos} (hN : z.X.N.Nodup) (hop : DOp z (inplaceOp op) rd) (h : DE z e te) (hi : z.X.N[i]? = some x := by rfl) (hx : Loc z.X.env.scope x := by first | exact Or.inl rfl | exact Or.inr rfl)
    (hf : z.X.fn x = true ∨ z.X.env.scope.names.lookup x = some .local := by first | exact .inl rfl | exact .inr rfl) : DS z (.AugAssign (.Name x pos') op e pos) (dAug i te rd) := by
  obtain ⟨w, p, lw⟩ := h
  obtain ⟨rr, o, lo⟩ := hop
  refine ⟨_, ps_aug hN hi hx p (fun pins s σ H x y v u Q I rx ry h => o pins s σ H x y v u Q I rx ry h) hf, fun m r M σ H E Dd s q l => ?_⟩
  unfold dAug at q
  split at q
  · rename_i x hx
    obtain ⟨v, ev, rv⟩ := s.sl _ _ hx
    refine ⟨v, ev, lw m r M σ H _ _ s q fun d M1 m1 w H1 q1 g1 r1 d1 => ?_⟩
    exact lo m1 M1 H1 v w _ d _ _ r1 (rv.grow g1) d1 q1 fun d2 M2 m2 w2 H2 q2 g2 r2 d2' => l.nx _ _ _ _ _ q2 (g1.trans g2) ((s.grow (g1.trans g2) r2).set d2')
  · exact q.elim
def iAdd : DR2 := fun x y M Q => match x, y with
  | .int i, .int j => Q (.int (i + j)) M
  | .str s, .str t => s.length + t.length ≤ sizeLine ∧ Q (.str (s ++ t)) M
  | .loc i, .loc j => (match M[i]?, M[j]? with
    | some (.lst xs), some (.lst ys) => xs.length + ys.length ≤ sizeLine ∧ Q (.loc i) (M.set i (.lst (xs ++ ys)))
    | _, _ => False)
  | _, _ => False
theorem dip_add : DOp z (inplaceOp .Add) iAdd := by
  refine ⟨_, iop_add.or (iop_add_str.or iop_ext), fun m M H x y dx dy Q Qd r d1 d2 h t => ?_⟩
  unfold iAdd at h
  split at h
  · exact .inl ⟨_, _, d1.int_, d2.int_, t _ _ _ _ _ h .refl r RD.int'⟩
  · exact .inr (.inl ⟨_, _, d1.str_, d2.str_, h.1, t _ _ _ _ _ h.2 .refl r RD.str'⟩)
  · split at h
    · rename_i e1 e2
      obtain ⟨a, vs, rfl, ea, s1, q1⟩ := r.lst d1 e1
      obtain ⟨b, ws, rfl, _, s2, q2⟩ := r.lst d2 e2
      exact .inr (.inr ⟨a, b, vs, ws, rfl, rfl, s1, s2, by rw [q1.length, q2.length]; exact h.1, put_lst r ea (by rw [s1]; trivial) (q1.append q2) d1 h.2 t⟩)
    · exact h.elim
  · exact h.elim
def iSub : DR2 := qInt0 fun i j => .int (i - j)
def iMul : DR2 := qInt CMul fun i j => .int (i * j)
def iDiv : DR2 := qInt CDiv fun i j => .int (i / j)
def iMod : DR2 := qInt (fun _ j => 0 < j) fun i j => .int (i % j)
def dWhile (c : DTT) (tb : DTS) : DTS := fun D r M => ∃ W : Nat → Rho → Mem → Prop, (∃ k, W k r M) ∧ ∀ k r M, W k r M →
  c r M fun b M1 => match b with
    | true => tb { D with nx := fun r' M' => ∃ j, j < k ∧ W j r' M', ct := fun r' M' => ∃ j, j < k ∧ W j r' M', bk := D.nx } r M1
    | false => D.nx r M1
theorem ds_while {body : List Stmt} {tb : DTS} (hp : PassesOwn (model z.X.prog z.X.w) z.X.A z.X.env z.X.xe) (hc : DT z c tt) (hb : DSs z body tb) : DS z (.While c body [] pos) (dWhile tt tb) := by
  obtain ⟨w, p, lw⟩ := hc
  obtain ⟨wb, pb, lb⟩ := hb
  refine ⟨_, ps_while hp p pb, fun m r M σ H E Dd s q l => ?_⟩
  obtain ⟨W, ⟨k0, w0⟩, turn⟩ := q
  refine ⟨fun k σ' H' => ∃ m' r' M', Grow m H m' H' ∧ RS z m' r' M' σ' H' ∧ W k r' M', ⟨k0, m, r, M, .refl, s, w0⟩, ?_⟩
  rintro k σ1 H1 ⟨m1, r1, M1, g1, s1, w1⟩
  refine lw m1 r1 M1 σ1 H1 _ _ s1 (turn k r1 M1 w1) fun b M2 m2 H2 q2 g2 rm2 => ?_
  cases b with
  | true =>
    rw [if_pos rfl]
    refine ⟨fun σ' H' => ∃ j, j < k ∧ ∃ m' r' M', Grow m H m' H' ∧ RS z m' r' M' σ' H' ∧ W j r' M', fun σ' H' ⟨j, hj, q⟩ => ⟨j, hj, q⟩, ?_⟩
    refine lb m2 r1 M2 σ1 H2 _ _ (s1.grow g2 rm2) q2 ⟨?_, (l.grow (g1.trans g2)).rt, (l.grow (g1.trans g2)).nx, ?_⟩
    · rintro r' M' m' σ' H' ⟨j, hj, wj⟩ g' s'
      exact ⟨j, hj, m', r', M', (g1.trans g2).trans g', s', wj⟩
    · rintro r' M' m' σ' H' ⟨j, hj, wj⟩ g' s'
      exact ⟨j, hj, m', r', M', (g1.trans g2).trans g', s', wj⟩
  | false =>
    rw [if_neg (by decide)]
    exact l.nx _ _ _ _ _ q2 (g1.trans g2) (s1.grow g2 rm2)
def forGo (ok : Mem → Prop) (g : DTG) (tb : DTS) (Dd : DEnds) : List D → Rho → Mem → Prop
  | [], r, M => ok M ∧ Dd.nx r M
  | x :: rest, r, M => ok M ∧ g x r M fun r2 M2 => tb { nx := forGo ok g tb Dd rest, rt := Dd.rt, bk := Dd.nx, ct := forGo ok g tb Dd rest } r2 M2
def dFor (ti : DTI) (g : DTG) (tb : DTS) : DTS := fun D r M => ti r M fun it M1 => forGo it.ok g tb D it.items r M1
theorem ds_for {tg iter : Expr} {body : List Stmt} {ti : DTI} {g : DTG} {tb : DTS} (hp : PassesOwn (model z.X.prog z.X.w) z.X.A z.X.env z.X.xe) (hc : z.X.calm = true) (hi : DI z tg iter ti) (hg : DG z tg g) (hb : DSs z body tb)
    (hs : ∀ x, foldedSetIterable iter z.X.env x = pure x := by intro _; rfl) : DS z (.For tg iter body [] pos) (dFor ti g tb) := by
  obtain ⟨wi, pi, li⟩ := hi
  obtain ⟨wg, pg, lg⟩ := hg
  obtain ⟨wb, pb, lb⟩ := hb
  refine ⟨_, ps_for hp hc pi pg pb hs, fun m r M σ H E Dd s q l => ?_⟩
  refine li m r M σ H _ _ s q fun it M1 m1 H1 J q1 g1 r1 ok => ?_
  have l1 := l.grow g1
  refine ⟨fun i k σ' H' => k = it.items.length - i ∧ i ≤ it.items.length ∧ ∃ m' r' M', Grow m1 H1 m' H' ∧ RS z m' r' M' σ' H' ∧ forGo it.ok g tb Dd (it.items.drop i) r' M', ⟨it.items.length, by simp, Nat.zero_le _, m1, r, M1, .refl, s.grow g1 r1, by rw [List.drop_zero]; exact q1⟩, ?_⟩
  rintro i k σ2 H2 ⟨rfl, hi, m2, r2, M2, g2, s2, w2⟩
  by_cases hlt : i < it.items.length
  · rw [List.drop_eq_getElem_cons hlt] at w2
    obtain ⟨hok, w2⟩ := w2
    refine .inr ⟨ok.go i m2 M2 H2 hlt g2 s2.rm hok, fun σ' H' => ∃ m' r' M', Grow m1 H1 m' H' ∧ RS z m' r' M' σ' H' ∧ forGo it.ok g tb Dd (it.items.drop (i + 1)) r' M', fun σ' H' q' => ⟨it.items.length - (i + 1), by omega, rfl, hlt, q'⟩, fun x H3 y => ?_⟩
    obtain ⟨d, ed, hH, rd⟩ := ok.yld i m2 M2 H2 x H3 hlt g2 s2.rm hok y
    have ed2 : d = it.items[i] := by
      rw [List.getElem?_eq_getElem hlt] at ed
      exact (Option.some.inj ed).symm
    subst ed2
    have g3 : Grow m2 H2 m2 H3 ∧ RM z.X.K m2 H3 M2 := by
      rcases hH with rfl | ⟨p, o, hp, rfl⟩
      · exact ⟨.refl, s2.rm⟩
      · exact ⟨Grow.new hp, s2.rm.new hp⟩
    refine lg m2 r2 M2 σ2 H3 _ x _ _ (s2.grow g3.1 g3.2) rd w2 fun r4 M4 m4 σ4 H4 q4 g4 s4 => ?_
    have g24 := g3.1.trans g4
    refine lb m4 r4 M4 σ4 H4 _ _ s4 q4 ⟨?_, (l1.grow (g2.trans g24)).rt, (l1.grow (g2.trans g24)).nx, ?_⟩
    · exact fun r' M' m' σ' H' q' g' s' => ⟨m', r', M', (g2.trans g24).trans g', s', q'⟩
    · exact fun r' M' m' σ' H' q' g' s' => ⟨m', r', M', (g2.trans g24).trans g', s', q'⟩
  · have e : i = it.items.length := by omega
    subst e
    rw [List.drop_length] at w2
    exact .inl ⟨ok.stop m2 M2 H2 g2 s2.rm w2.1, l1.nx _ _ _ _ _ w2.2 g2 s2⟩
end
end DL
namespace DL
open PySem L2
def canE (K : PySem.W.Frag) (m0 : List Addr) (H0 : Hp) (t : DTE) : TE := fun σ H Q => ∃ m r M Qd, Grow m0 H0 m H ∧ RM K m H M ∧ r.length = σ.length ∧ (∀ (i : Nat) (d : D), r[i]? = some (some d) → ∃ v, σ[i]? = some (some v) ∧ RD K m H d v) ∧ t r M Qd ∧ Then K m H Qd Q
def canT (K : PySem.W.Frag) (m0 : List Addr) (H0 : Hp) (t : DTT) : TT := fun σ H Q => ∃ m r M Qd, Grow m0 H0 m H ∧ RM K m H M ∧ r.length = σ.length ∧ (∀ (i : Nat) (d : D), r[i]? = some (some d) → ∃ v, σ[i]? = some (some v) ∧ RD K m H d v) ∧ t r M Qd ∧ ThenT K m H Qd Q
section
variable {z : Zx} {e : Expr} {te : DTE} {tt : DTT}
theorem DE.can (h : DE z e te) : PE z.X e (canE z.X.K z.m0 z.H0 te) := by
  obtain ⟨w, p, l⟩ := h
  refine ⟨fun pins s σ H Q I q => p.run pins s σ H Q I ?_⟩
  obtain ⟨m, r, M, Qd, g, rm, hl, sl, q, t⟩ := q
  exact l m r M σ H Q Qd ⟨g, rm, hl, sl⟩ q t
theorem DT.can (h : DT z e tt) : PT z.X e (canT z.X.K z.m0 z.H0 tt) := by
  obtain ⟨w, p, l⟩ := h
  refine ⟨fun pins s σ H Q I q => p.run pins s σ H Q I ?_⟩
  obtain ⟨m, r, M, Qd, g, rm, hl, sl, q, t⟩ := q
  exact l m r M σ H Q Qd ⟨g, rm, hl, sl⟩ q t
end
def DTs (z : Zx) (ifs : List Expr) (t : DTT) : Prop := PTs z.X ifs (canT z.X.K z.m0 z.H0 t)
def dYes : DTT := fun _ M Q => Q true M
theorem dts_nil {z : Zx} : DTs z [] dYes := ⟨fun pins s σ H Q I hw => by
  obtain ⟨m, r, M, Qd, g, rm, hl, sl, q, t⟩ := hw
  exact wpAny_tests_nil ⟨H, I, t _ _ _ _ q .refl rm⟩⟩
theorem dts_one {z : Zx} {c : Expr} {t : DTT} (h : DT z c t) : DTs z [c] t := pts_one h.can
def wipeD (r : Rho) : List Nat → Rho
  | [] => r
  | v :: vs => (wipeD r vs).set v none
theorem wipeD_length (r : Rho) : ∀ vs : List Nat, (wipeD r vs).length = r.length
  | [] => rfl
  | v :: vs => by unfold wipeD; rw [List.length_set, wipeD_length r vs]
theorem wipeD_some {r : Rho} {i : Nat} {x : D} : ∀ {vs : List Nat}, (wipeD r vs)[i]? = some (some x) → r[i]? = some (some x) ∧ i ∉ vs
  | [], h => ⟨h, by simp⟩
  | v :: vs, h => by
    unfold wipeD at h
    by_cases e : v = i
    · subst e
      by_cases hl : v < (wipeD r vs).length
      · rw [List.getElem?_set_self hl] at h; cases h
      · rw [List.getElem?_eq_none (by rw [List.length_set]; omega)] at h; cases h
    · rw [List.getElem?_set_ne e] at h
      obtain ⟨h1, h2⟩ := wipeD_some h
      exact ⟨h1, by simp [h2]; exact fun q => e q.symm⟩
theorem wipe_at {σ : L2.St} {i : Nat} : ∀ {vs : List Nat}, (wipe σ vs)[i]? = if i ∈ vs then (if i < σ.length then some none else none) else σ[i]?
  | [] => by simp [wipe]
  | v :: vs => by
    unfold wipe
    by_cases e : v = i
    · subst e
      by_cases hl : v < (wipe σ vs).length
      · rw [List.getElem?_set_self hl]
        rw [wipe_length] at hl
        simp [hl]
      · rw [List.getElem?_eq_none (by rw [List.length_set]; omega)]
        rw [wipe_length] at hl
        simp [hl]
    · rw [List.getElem?_set_ne e, wipe_at (vs := vs)]
      have : i ∈ v :: vs ↔ i ∈ vs := ⟨fun q => (List.mem_cons.mp q).elim (fun z => absurd z.symm e) id, fun q => List.mem_cons_of_mem _ q⟩
      by_cases hm : i ∈ vs
      · rw [if_pos hm, if_pos (this.mpr hm)]
      · rw [if_neg hm, if_neg (fun q => hm (this.mp q))]
theorem wipe_set {σ : L2.St} {j : Nat} {x : Option V} {vs : List Nat} (h : j ∈ vs) : wipe ((wipe σ vs).set j x) vs = wipe σ vs := by
  apply List.ext_getElem?
  intro i
  rw [wipe_at, wipe_at, List.length_set, wipe_length]
  by_cases e : i ∈ vs
  · simp [e]
  · rw [if_neg e, if_neg e, List.getElem?_set_ne (fun (q : j = i) => e (by rw [← q]; exact h)), wipe_at, if_neg e]
def lcGo (ok : Mem → Prop) (j : Nat) (r0 : Rho) (tt : DTT) (te : DTE) : List D → Mem → List D → (List D → Mem → Prop) → Prop
  | [], M, acc, k => ok M ∧ k acc M
  | x :: rest, M, acc, k => ok M ∧ tt (r0.set j (some x)) M fun b M2 => match b with
    | true => te (r0.set j (some x)) M2 fun y M3 => acc.length < sizeLine ∧ lcGo ok j r0 tt te rest M3 (acc ++ [y]) k
    | false => lcGo ok j r0 tt te rest M2 acc k
def dLc (ti : DTI) (j : Nat) (vs : List Nat) (tt : DTT) (te : DTE) : DTE := fun r M Q => ti r M fun it M1 => lcGo it.ok j (wipeD r vs) tt te it.items M1 [] fun acc M2 => Q (.loc M2.length) (M2 ++ [.lst acc])
section
variable {K : PySem.W.Frag} {m m' : List Addr} {H H' : Hp} {M : Mem}
/-- an object that is none of the cells comes among them -/
theorem RM.adopt {p : Addr} {o : MO} (r : RM K m H M) (hp : p ∉ m) (q : RO K (m ++ [p]) H o p) : RM K (m ++ [p]) H (M ++ [o]) where
  len := by simp [r.len]
  nd := by
    rw [List.nodup_append]
    refine ⟨r.nd, by simp, fun a ha b hb e => ?_⟩
    have eb : b = p := by simpa using hb
    rw [eb] at e
    rw [e] at ha
    exact hp ha
  ob := fun n u e => by
    by_cases hn : n < M.length
    · rw [List.getElem?_append_left hn] at e
      obtain ⟨a, ea, q⟩ := r.ob n u e
      exact ⟨a, by rw [List.getElem?_append_left (by rw [r.len]; exact hn)]; exact ea, q.mono (List.prefix_append _ _) ⟨fun _ _ h => h, fun _ _ h => h, fun _ _ h => h⟩ fun u e => e⟩
    · have hn2 : n = M.length := by
        have := (List.getElem?_eq_some_iff.mp e).1
        simp at this
        omega
      subst hn2
      have eu : o = u := by simpa using e
      subst eu
      exact ⟨p, by rw [← r.len]; simp, q⟩
/-- a tracked object that is no cell is written -/
theorem Grow.side {p : Addr} {ho : HO} {xs : List V} (g : Grow m H m' H') (hp : H p = none) (h' : H' p = some (.lst xs)) : Grow m H m' (upd H' p ho) where
  pre := g.pre
  fresh := g.fresh
  keep := fun b o e hb => by rw [upd_ne (ne_of_none e hp)]; exact g.keep b o e hb
  frz := fun b o u e => by rw [upd_ne (ne_of_none e hp)]; exact g.frz b o u e
  tup := fun b u e => by rw [upd_ne (ne_of_none e hp)]; exact g.tup b u e
  ext := fun b u e => by rw [upd_ne (ne_of_none e hp)]; exact g.ext b u e
theorem RM.side {p : Addr} {xs ys : List V} (r : RM K m H M) (hp : p ∉ m) (h : H p = some (.lst xs)) : RM K m (upd H p (.lst ys)) M where
  len := r.len
  nd := r.nd
  ob := fun n u e => by
    obtain ⟨a, ea, q⟩ := r.ob n u e
    have hne : a ≠ p := fun z => hp (z ▸ List.mem_of_getElem? ea)
    refine ⟨a, ea, q.mono (List.prefix_refl _) (TupStay.of (fun b us eb => ?_) (fun b o us eb => ?_) fun b us eb => ?_) fun u e => by rw [upd_ne hne]; exact e⟩
    · rw [upd_ne (fun z => by rw [z, h] at eb; cases eb)]; exact eb
    · rw [upd_ne (fun z => by rw [z, h] at eb; cases eb)]; exact eb
    · rw [upd_ne (fun z => by rw [z, h] at eb; cases eb)]; exact eb
end
section
variable {z : Zx}
theorem le_lc {wi : TI} {ti : DTI} {j : Nat} {vs : List Nat} {tt : DTT} {te : DTE} (hj : j ∈ vs) (hi : LI z wi ti) : LE z (tLc wi (gName j) (canT z.X.K z.m0 z.H0 tt) (canE z.X.K z.m0 z.H0 te) vs) (dLc ti j vs tt te) := fun m r M σ H Q Qd s q t => by
  refine hi m r M σ H _ _ s q fun it M1 m1 H1 J q1 g1 r1 ok => ?_
  intro p hp
  have l1 := t.grow g1
  have np : p ∉ m1 := r1.not_mem hp
  have gp : Grow m1 H1 m1 (upd H1 p (.lst [])) := Grow.new hp
  refine ⟨fun i k H' => k = it.items.length - i ∧ i ≤ it.items.length ∧ ∃ m' M' acc us, Grow m1 H1 m' H' ∧ RM z.X.K m' H' M' ∧ p ∉ m' ∧ H' p = some (.lst us) ∧ RDs z.X.K m' H' acc us ∧
    lcGo it.ok j (wipeD r vs) tt te (it.items.drop i) M' acc (fun acc M2 => Qd (.loc M2.length) (M2 ++ [.lst acc])), ⟨it.items.length, by simp, Nat.zero_le _, m1, M1, [], [], gp, r1.new hp, np, upd_same, RDs.nil', by rw [List.drop_zero]; exact q1⟩, ?_⟩
  rintro i k H2 ⟨rfl, hi, m2, M2, acc, us, g2, rm2, np2, hp2, da, w2⟩
  by_cases hlt : i < it.items.length
  · rw [List.drop_eq_getElem_cons hlt] at w2
    obtain ⟨hok, w2⟩ := w2
    refine .inr ⟨ok.go i m2 M2 H2 hlt g2 rm2 hok, fun H' => ∃ m' M' acc us, Grow m1 H1 m' H' ∧ RM z.X.K m' H' M' ∧ p ∉ m' ∧ H' p = some (.lst us) ∧ RDs z.X.K m' H' acc us ∧
      lcGo it.ok j (wipeD r vs) tt te (it.items.drop (i + 1)) M' acc (fun acc M2 => Qd (.loc M2.length) (M2 ++ [.lst acc])), fun H' q' => ⟨it.items.length - (i + 1), by omega, rfl, hlt, q'⟩, fun x H3 y => ?_⟩
    obtain ⟨d, ed, hH, rd⟩ := ok.yld i m2 M2 H2 x H3 hlt g2 rm2 hok y
    have ed2 : d = it.items[i] := by
      rw [List.getElem?_eq_getElem hlt] at ed
      exact (Option.some.inj ed).symm
    subst ed2
    have g3 : Grow m2 H2 m2 H3 ∧ RM z.X.K m2 H3 M2 ∧ H3 p = some (.lst us) := by
      rcases hH with rfl | ⟨p', o, hp', rfl⟩
      · exact ⟨.refl, rm2, hp2⟩
      · exact ⟨Grow.new hp', rm2.new hp', by rw [upd_ne (ne_of_none hp2 hp')]; exact hp2⟩
    obtain ⟨g3, rm3, hp3⟩ := g3
    -- the slots
    have sl3 : ∀ (i' : Nat) (d : D), ((wipeD r vs).set j (some it.items[i]))[i']? = some (some d) → ∃ v, ((wipe σ vs).set j (some x))[i']? = some (some v) ∧ RD z.X.K m2 H3 d v := fun i' d e => by
      by_cases hij : i' = j
      · subst hij
        have hl : i' < (wipeD r vs).length := by
          have := (List.getElem?_eq_some_iff.mp e).1
          simpa using this
        rw [List.getElem?_set_self hl] at e
        cases e
        refine ⟨x, ?_, rd⟩
        rw [List.getElem?_set_self (by rw [wipe_length, ← s.len, ← wipeD_length r vs]; exact hl)]
      · rw [List.getElem?_set_ne (fun q => hij q.symm)] at e ⊢
        obtain ⟨e1, e2⟩ := wipeD_some e
        obtain ⟨v, ev, rv⟩ := s.sl i' d e1
        refine ⟨v, ?_, (rv.grow (g1.trans g2)).grow g3⟩
        rw [wipe_at, if_neg e2]
        exact ev
    have len3 : ((wipeD r vs).set j (some it.items[i])).length = ((wipe σ vs).set j (some x)).length := by
      rw [List.length_set, List.length_set, wipe_length, wipeD_length, s.len]
    have gz3 : Grow z.m0 z.H0 m2 H3 := ((s.g.trans g1).trans g2).trans g3
    refine ⟨wipe_set hj, m2, _, M2, _, gz3, rm3, len3, sl3, w2, fun b M4 m4 H4 q4 g4 rm4 => ?_⟩
    have np4 : p ∉ m4 := fun hm => by
      by_cases h2 : p ∈ m2
      · exact np2 h2
      · have := g4.fresh p hm h2
        rw [hp3] at this
        cases this
    have hp4 : H4 p = some (.lst us) := g4.keep _ _ hp3 np2
    have da4 : RDs z.X.K m4 H4 acc us := (da.grow g3).grow g4
    have g14 : Grow m1 H1 m4 H4 := (g2.trans g3).trans g4
    cases b with
    | false => exact iteF ⟨m4, M4, acc, us, g14, rm4, np4, hp4, da4, q4⟩
    | true =>
      refine iteT ⟨m4, _, M4, _, gz3.trans g4, rm4, len3, fun i' d e => ?_, q4, fun y M5 m5 v5 H5 q5 g5 rm5 d5 => ?_⟩
      · obtain ⟨v, ev, rv⟩ := sl3 i' d e
        exact ⟨v, ev, rv.grow g4⟩
      · have np5 : p ∉ m5 := fun hm => by
          by_cases h2 : p ∈ m4
          · exact np4 h2
          · have := g5.fresh p hm h2
            rw [hp4] at this
            cases this
        have hp5 : H5 p = some (.lst us) := g5.keep _ _ hp4 np4
        have da5 : RDs z.X.K m5 H5 acc us := da4.grow g5
        have st : TupStay z.X.K H5 (upd H5 p (.lst (us ++ [v5]))) := TupStay.of (fun b xs eb => by rw [upd_ne (fun w => by rw [w, hp5] at eb; cases eb)]; exact eb) (fun b o xs eb => by rw [upd_ne (fun w => by rw [w, hp5] at eb; cases eb)]; exact eb) (fun b xs eb => by rw [upd_ne (fun w => by rw [w, hp5] at eb; cases eb)]; exact eb)
        refine ⟨us, hp5, by rw [da5.length]; exact q5.1, m5, M5, acc ++ [y], us ++ [v5], (g14.trans g5).side hp hp5, rm5.side np5 hp5, np5, upd_same, ?_, q5.2⟩
        exact (da5.append (RDs.cons' d5 RDs.nil')).mono (List.prefix_refl _) st
  · have e : i = it.items.length := by omega
    subst e
    rw [List.drop_length] at w2
    refine .inl ⟨ok.stop m2 M2 H2 g2 rm2 w2.1, ?_⟩
    have gz : Grow m1 H1 (m2 ++ [p]) H2 :=
      ⟨List.IsPrefix.trans g2.pre (List.prefix_append _ _), fun b hb hn => by
        rcases List.mem_append.mp hb with h | h
        · exact g2.fresh b h hn
        · have e : b = p := by simpa using h
          rw [e]; exact hp, g2.keep, g2.frz, g2.tup, g2.ext⟩
    refine l1 _ _ _ _ _ w2.2 gz (rm2.adopt np2 (o := .lst acc) ⟨us, hp2, da.mono (List.prefix_append _ _) ⟨fun _ _ h => h, fun _ _ h => h, fun _ _ h => h⟩⟩) ?_
    unfold RD
    exact ⟨p, rfl, by rw [← rm2.len]; simp⟩
theorem de_lc (j : Nat) {elt iter : Expr} {ifs : List Expr} {scope : Scope} {own : List (Str × Nat)} {x : Str} {pos px : Pos} {ti : DTI} {tt : DTT} {te : DTE} (hc : z.X.calm = true) (hN : z.X.N.Nodup) (hi : DI z (.Name x px) iter ti) (ok : blkC z.X.N z.X.env.scope scope own = true)
    (hj : j ∈ own.map (·.2))
    (hg : ∀ (s : Shared) (H : Hp) (C : Addr) (cl : List (Str × Addr)) (fp : List Addr), PG (z.X.blk s H scope (compEnvC scope cl C z.X.env) fp) (.Name x px) (gName j))
    (ht : ∀ (s : Shared) (H : Hp) (C : Addr) (cl : List (Str × Addr)) (fp : List Addr), DTs ⟨z.X.blk s H scope (compEnvC scope cl C z.X.env) fp, z.m0, z.H0⟩ ifs tt)
    (he : ∀ (s : Shared) (H : Hp) (C : Addr) (cl : List (Str × Addr)) (fp : List Addr), DE ⟨z.X.blk s H scope (compEnvC scope cl C z.X.env) fp, z.m0, z.H0⟩ elt te) (hs : ∀ x, foldedSetIterable iter z.X.env x = pure x := by intro _; rfl) :
    DE z (.ListComp elt [⟨.Name x px, iter, ifs, 0⟩] scope pos) (dLc ti j (own.map (·.2)) tt te) := by
  obtain ⟨wi, pi, li⟩ := hi
  exact ⟨_, pe_lc (own := own) (tt := canT z.X.K z.m0 z.H0 tt) (te := canE z.X.K z.m0 z.H0 te) hc hN pi (blkOk_by ok) hg ht (fun s H C cl fp => (he s H C cl fp).can) hs, le_lc hj li⟩
theorem ds_setLc (i j : Nat) {y : Str} {py spos : Pos} {elt iter : Expr} {ifs : List Expr} {scope : Scope} {own : List (Str × Nat)} {x : Str} {pos px : Pos} {ti : DTI} {tt : DTT} {te : DTE} (hc : z.X.calm = true) (hN : z.X.N.Nodup) (hi : DI z (.Name x px) iter ti) (ok : blkC z.X.N z.X.env.scope scope own = true)
    (hj : j ∈ own.map (·.2)) (hsw : swapsWith (.ListComp elt [⟨.Name x px, iter, ifs, 0⟩] scope pos) (some (.Name y py)) spos.line z.X.env = pure true)
    (hg : ∀ (s : Shared) (H : Hp) (C : Addr) (cl : List (Str × Addr)) (fp : List Addr), PG (z.X.blk s H scope (compEnvC scope cl C z.X.env) fp) (.Name x px) (gName j))
    (ht : ∀ (s : Shared) (H : Hp) (C : Addr) (cl : List (Str × Addr)) (fp : List Addr), DTs ⟨z.X.blk s H scope (compEnvC scope cl C z.X.env) fp, z.m0, z.H0⟩ ifs tt)
    (he : ∀ (s : Shared) (H : Hp) (C : Addr) (cl : List (Str × Addr)) (fp : List Addr), DE ⟨z.X.blk s H scope (compEnvC scope cl C z.X.env) fp, z.m0, z.H0⟩ elt te) (hy : z.X.N[i]? = some y := by rfl) (hyl : z.X.env.scope.names.lookup y = some .local := by rfl) (hs : ∀ x, foldedSetIterable iter z.X.env x = pure x := by intro _; rfl) :
    DS z (.Assign [.Name y py] (.ListComp elt [⟨.Name x px, iter, ifs, 0⟩] scope pos) spos) (dAsg (dLc ti j (own.map (·.2)) tt te) (dgName i)) := by
  obtain ⟨wi, pi, li⟩ := hi
  refine ⟨_, ps_setLc (own := own) (tt := canT z.X.K z.m0 z.H0 tt) (te := canE z.X.K z.m0 z.H0 te) hc hN hy hyl hsw pi (blkOk_by ok) hg ht (fun s H C cl fp => (he s H C cl fp).can) hs, fun m r M σ H E Dd s q l => ?_⟩
  exact le_lc hj li m r M σ H _ _ s q fun d M1 m1 v H1 q1 g1 r1 d1 => l.nx _ _ _ _ _ q1 g1 ((s.grow g1 r1).set d1)
end
end DL
namespace DL
open PySem L2
abbrev DRM := D → List D → Mem → QD → Prop
def LRM (K : PySem.W.Frag) (rr : V → List V → Hp → VK → Prop) (rd : DRM) : Prop := ∀ m M H x vs dx ds Q Qd, RM K m H M → RD K m H dx x → RDs K m H ds vs → rd dx ds M Qd → Then K m H Qd Q → rr x vs H Q
def DMt (z : Zx) (id : String) (rd : DRM) : Prop := ∃ rr, MtR z.X id rr ∧ LRM z.X.K rr rd
def isTy (T : String) (x : D) (M : Mem) : Prop := match T with
  | "list" => (lstD x M).isSome = true
  | "str" => (match x with
    | .str _ => True
    | _ => False)
  | "dict" => (match x with
    | .loc n => (match M[n]? with
      | some (.dic _) => True
      | _ => False)
    | _ => False)
  | _ => False
section
variable {z : Zx} {K : PySem.W.Frag} {m : List Addr} {H : Hp} {M : Mem}
theorem isTy_of {T : String} {x : D} {v : V} (r : RM K m H M) (d : RD K m H x v) (h : isTy T x M) : tyV K T v H := by
  unfold isTy at h
  split at h
  · cases e : lstD x M with
    | none => rw [e] at h; cases h
    | some ds =>
      obtain ⟨a, vs, rfl, s, q⟩ := lst_of r d e
      exact .inl ⟨rfl, vs, s⟩
  · split at h
    · rw [d.str_]; exact (show "str" = "str" from rfl)
    · exact h.elim
  · split at h
    · split at h
      · rename_i e
        obtain ⟨a, vs, rfl, _, s, q⟩ := r.dic d e
        exact .inr (.inr (.inl ⟨rfl, .inl ⟨vs, s⟩⟩))
      · exact h.elim
    · exact h.elim
  · exact h.elim
def dBM (T : String) (rd : DRM) (to : DTE) (ta : DTA) : DTE := fun r M Q => to r M fun x M1 => isTy T x M1 ∧ ta r M1 fun xs M2 => rd x xs M2 Q
def dBM0 (T : String) (rd : DRM) (to : DTE) : DTE := fun r M Q => to r M fun x M1 => isTy T x M1 ∧ rd x [] M1 Q
theorem de_bm {o e : Expr} {es : List Expr} {to : DTE} {ta : DTA} {name : Str} {apos cpos : Pos} {T id : String} {rd : DRM} (pa : PlainAttrs T) (slot : Slot T name id) (hty : typeOf (.builtin id) = pure (.type "method_descriptor")) (hm : DMt z id rd) (ho : DE z o to) (ha : DA z (e :: es) ta)
    (hbase : attributeBase o name z.X.env (eval o z.X.env) = eval o z.X.env := by rfl)
    (hfew : ((backTo cpos (starEach (e :: es) z.X.env)).all (fun x => !x.1) && (backToKw cpos (keywordEach [] z.X.env)).all (fun x => x.1.isSome)
      && decide ((e :: es).length + ([] : List Keyword).length + (if ([] : List Keyword).isEmpty then 0 else 1) < 30)) = true := by rfl)
    (hline : (apos.endLine == cpos.line) = true := by rfl) (hs : starEach (e :: es) z.X.env = (false, eval e z.X.env) :: starEach es z.X.env := by rfl) (hplain : (backTo cpos (starEach es z.X.env)).any (·.1) = false := by rfl) :
    DE z (.Call (.Attribute o name apos) (e :: es) [] cpos) (dBM T rd to ta) := by
  obtain ⟨rr, hmr, lm⟩ := hm
  obtain ⟨wo, po, lo⟩ := ho
  obtain ⟨wa, pa', la⟩ := ha
  refine ⟨_, pe_bm pa slot hty hmr po pa' hbase hfew hline hs hplain, fun m r M σ H Q Qd s q t => ?_⟩
  refine lo m r M σ H _ _ s q fun x M1 m1 v H1 q1 g1 r1 d1 => ⟨isTy_of r1 d1 q1.1, ?_⟩
  refine la m1 r M1 σ H1 _ _ (s.grow g1 r1) q1.2 fun xs M2 m2 vs H2 q2 g2 r2 d2 => ?_
  exact lm m2 M2 H2 v vs x xs Q Qd r2 (d1.grow g2) d2 q2 (t.grow (g1.trans g2))
theorem de_bm0 {o : Expr} {to : DTE} {name : Str} {apos cpos : Pos} {T id : String} {rd : DRM} (pa : PlainAttrs T) (slot : Slot T name id) (hty : typeOf (.builtin id) = pure (.type "method_descriptor")) (hm : DMt z id rd) (ho : DE z o to)
    (hbase : attributeBase o name z.X.env (eval o z.X.env) = eval o z.X.env := by rfl) (hline : (apos.endLine == cpos.line) = true := by rfl) : DE z (.Call (.Attribute o name apos) [] [] cpos) (dBM0 T rd to) := by
  obtain ⟨rr, hmr, lm⟩ := hm
  obtain ⟨wo, po, lo⟩ := ho
  refine ⟨_, pe_bm0 pa slot hty hmr po hbase hline, fun m r M σ H Q Qd s q t => ?_⟩
  refine lo m r M σ H _ _ s q fun x M1 m1 v H1 q1 g1 r1 d1 => ⟨isTy_of r1 d1 q1.1, ?_⟩
  exact lm m1 M1 H1 v [] x [] Q Qd r1 d1 RDs.nil' q1.2 (t.grow g1)
def mAppend : DRM := fun x xs M Q => match x, xs with
  | .loc n, [y] => (match M[n]? with
    | some (.lst ds) => ds.length < sizeLine ∧ Q .non (M.set n (.lst (ds ++ [y])))
    | _ => False)
  | _, _ => False
theorem dm_append : DMt z "list.append" mAppend := by
  refine ⟨_, mt_append, fun m M H x vs dx ds Q Qd r d1 d2 h t => ?_⟩
  unfold mAppend at h
  split at h
  · split at h
    · rename_i e
      obtain ⟨a, us, rfl, ea, eh, q⟩ := r.lst d1 e
      obtain ⟨v, rfl, rv⟩ := d2.one_
      exact ⟨a, us, v, rfl, rfl, eh, by rw [q.length]; exact h.1, put_lst r ea (by rw [eh]; trivial) (q.append (RDs.cons' rv RDs.nil')) RD.non' h.2 t⟩
    · exact h.elim
  · exact h.elim
def mExtend : DRM := fun x xs M Q => match x, xs with
  | .loc n, [.loc k] => (match M[n]?, M[k]? with
    | some (.lst ds), some (.lst es) => ds.length + es.length ≤ sizeLine ∧ Q .non (M.set n (.lst (ds ++ es)))
    | _, _ => False)
  | .loc n, [.tup es] => (match M[n]? with
    | some (.lst ds) => ds.length + es.length ≤ sizeLine ∧ Q .non (M.set n (.lst (ds ++ es)))
    | _ => False)
  | _, _ => False
def mPop : DRM := fun x xs M Q => match x, xs with
  | .loc n, [] => (match M[n]? with
    | some (.lst ds) => (match ds[ds.length - 1]? with
      | some y => Q y (M.set n (.lst ds.dropLast))
      | none => False)
    | _ => False)
  | .loc n, [.int i] => (match M[n]? with
    | some (.lst ds) => -(2 ^ 63) ≤ i ∧ i < 2 ^ 63 ∧ (match seqIndex? i ds.length with
      | some k => (match ds[k]? with
        | some y => Q y (M.set n (.lst (ds.eraseIdx k)))
        | none => False)
      | none => False)
    | _ => False)
  | _, _ => False
theorem RDs.eraseIdx {ds : List D} : ∀ {vs : List V} (i : Nat), RDs K m H ds vs → RDs K m H (ds.eraseIdx i) (vs.eraseIdx i) := by
  induction ds with
  | nil => intro vs i h; rw [h.nil_]; exact RDs.nil'
  | cons e ds ih =>
    intro vs i h
    obtain ⟨w, us, rfl, hd, hs⟩ := h.cons_
    cases i with
    | zero => exact hs
    | succ i => exact RDs.cons' hd (ih i hs)
theorem dm_pop : DMt z "list.pop" mPop := by
  refine ⟨_, MtR.or mt_pop mt_popAt, fun m M H x vs dx ds Q Qd r d1 d2 h t => ?_⟩
  unfold mPop at h
  split at h
  · split at h
    · rename_i e
      obtain ⟨a, us, rfl, ea, eh, q⟩ := r.lst d1 e
      split at h
      · rename_i y ey
        obtain ⟨v, ev, rv⟩ := q.get ey
        exact .inl ⟨a, us, v, rfl, d2.nil_, eh, by rw [q.length]; exact ev, put_lst r ea (by rw [eh]; trivial) q.dropLast rv h t⟩
      · exact h.elim
    · exact h.elim
  · split at h
    · rename_i e
      obtain ⟨a, us, rfl, ea, eh, q⟩ := r.lst d1 e
      obtain ⟨w, rfl, rw'⟩ := d2.one_
      obtain ⟨h1, h2, h⟩ := h
      split at h
      · rename_i k ek
        split at h
        · rename_i y ey
          obtain ⟨v, ev, rv⟩ := q.get ey
          exact .inr ⟨a, us, _, k, v, rfl, by rw [rw'.int_], eh, h1, h2, by rw [q.length]; exact ek, ev, put_lst r ea (by rw [eh]; trivial) (q.eraseIdx k) rv h t⟩
        · exact h.elim
      · exact h.elim
    · exact h.elim
  · exact h.elim
def mIndex : DRM := fun x xs M Q => match xs with
  | [y] => (match lstD x M with
    | some ds => flatD y = true ∧ ds.all flatD = true ∧ (match ds.findIdx? (fun d => eqD d y) with
      | some j => Q (.int (j : Nat)) M
      | none => False)
    | none => False)
  | _ => False
def mCount : DRM := fun x xs M Q => match xs with
  | [.int k] => (match intsOf x M with
    | some ns => Q (.int (ns.count k : Nat)) M
    | none => False)
  | _ => False
def mJoin : DRM := fun x xs M Q => match x, xs with
  | .str a, [y] => (match strsOf y M with
    | some ys => (ys.map (·.length)).sum + ys.length * a.length ≤ 16777216 ∧ Q (.str (Txt.join a ys)) M
    | none => False)
  | _, _ => False
theorem dm_join : DMt z "str.join" mJoin := by
  refine ⟨_, mt_join, fun m M H x vs dx ds Q Qd r d1 d2 h t => ?_⟩
  unfold mJoin at h
  split at h
  · obtain ⟨w, rfl, rw'⟩ := d2.one_
    split at h
    · rename_i ns e
      obtain ⟨a, rfl, s⟩ := strs_of r rw' e
      exact ⟨_, a, ns, d1.str_, rfl, s, h.1, t _ _ _ _ _ h.2 .refl r RD.str'⟩
    · exact h.elim
  · exact h.elim
def mGet : DRM := fun x xs M Q => match x with
  | .loc n => (match M[n]? with
    | some (.dic kvs) => (match xs with
      | [k] => (match keyD k with
        | some j => Q ((valD kvs j).getD .non) M
        | none => False)
      | [k, d] => (match keyD k with
        | some j => Q ((valD kvs j).getD d) M
        | none => False)
      | _ => False)
    | _ => False)
  | _ => False
theorem RKV.getD {κ : Type} [DecidableEq κ] {k : κ} {kvs : List (κ × D)} {ws : List (κ × V)} {d : D} {v : V} (q : RKV K m H kvs ws) (rd : RD K m H d v) : RD K m H ((valD kvs k).getD d) ((valV ws k).getD v) := by
  rcases q.val (k := k) with ⟨e1, e2⟩ | ⟨d', v', e1, e2, e3⟩
  · rw [e1, e2]; exact rd
  · rw [e1, e2]; exact e3
end
abbrev DSp := List D → Mem → QD → (Addr → Mem → Prop) → Prop
def ThenX (K : PySem.W.Frag) (m : List Addr) (H : Hp) (Ed : Addr → Mem → Prop) (E : XK) : Prop := ∀ C M' m' H', Ed C M' → Grow m H m' H' → RM K m' H' M' → E (.ref C) none H'
def liftSp (K : PySem.W.Frag) (sp : DSp) : Sp := fun vs H Q E => ∃ m ds M Qd Ed, RM K m H M ∧ RDs K m H ds vs ∧ sp ds M Qd Ed ∧ Then K m H Qd Q ∧ ThenX K m H Ed E
structure DFn (P : Program) (w : World) (K : PySem.W.Frag) (mg : Str → Option Value) (base : Heap) (CX : CXT) (k : Nat) (x : Str) (ps : List Str) (sp : DSp) : Prop where
  ex : ∃ f fd, FnOk P w K mg base CX k f fd ps (liftSp K sp) ∧ mg x = some (.ref f) ∧ PySem.W.keepIn K (.ref f) = true ∧ Binds K fd ps []
abbrev E0D : Addr → Mem → Prop := fun _ _ => False
def dCall (sp : DSp) (Ed : Addr → Mem → Prop) (ta : DTA) : DTE := fun r M Q => ta r M fun ds M1 => sp ds M1 Q Ed
section
variable {z : Zx}
theorem le_call {K : PySem.W.Frag} {sp : DSp} {wa : TA} {ta : DTA} (hK : K = z.X.K) (ha : LA z wa ta) : LE z (tCall (liftSp K sp) [] E0 wa) (dCall sp E0D ta) := fun m r M σ H Q Qd s q t =>
  ha m r M σ H _ _ s q fun ds M1 m1 vs H1 q1 g1 r1 d1 => by
    subst hK
    rw [List.append_nil]
    exact ⟨m1, ds, M1, Qd, E0D, r1, d1, q1, t.grow g1, fun _ _ _ _ h => h.elim⟩
theorem de_call {CX : CXT} {k : Nat} {x : Str} {ps : List Str} {sp : DSp} {e : Expr} {es : List Expr} {ta : DTA} {p pos : Pos} (F : DFn z.X.prog z.X.w z.X.K z.X.mg z.X.base CX k x ps sp) (hr : Room k z.X.A) (hx : Passes CX z.X E0) (ha : DA z (e :: es) ta) (hg : Gl z.X x := by rfl) (hdb : (x == ("__debug__" : Str)) = false := by decide)
    (he : starEach (e :: es) z.X.env = (false, eval e z.X.env) :: starEach es z.X.env := by rfl) (hpl : (backTo pos (starEach es z.X.env)).any (·.1) = false := by rfl) : DE z (.Call (.Name x p) (e :: es) [] pos) (dCall sp E0D ta) := by
  obtain ⟨f, fd, Fo, hm, hk, hb⟩ := F.ex
  obtain ⟨wa, pa, la⟩ := ha
  exact ⟨_, pe_call Fo hr hg hm hk hb .nil hx pa hdb he hpl, le_call rfl la⟩
end
mutual
def okD (n : Nat) : D → Bool
  | .loc i => decide (i < n)
  | .tup ds => okDs n ds
  | .rol ds => okDs n ds
  | _ => true
def okDs (n : Nat) : List D → Bool
  | [] => true
  | d :: ds => okD n d && okDs n ds
end
def okO (n : Nat) : MO → Bool
  | .lst ds => okDs n ds
  | .dic kvs => okDs n (kvs.map (·.2))
  | .ins _ fs => okDs n (fs.map (·.2))
  | .fdic kvs => okDs n (kvs.map (·.2))
  | .tab _ _ => true
def okM (n : Nat) (M : Mem) : Bool := M.all (okO n)
section
variable {K : PySem.W.Frag} {m m' : List Addr} {H H' : Hp} {M M' : Mem}
mutual
theorem RD.back (h : m <+: m') : ∀ {d : D} {v : V}, RD K m' H d v → okD m.length d = true → RD K m H d v
  | .non, _, q, _ => by unfold RD at q ⊢; exact q
  | .bl _, _, q, _ => by unfold RD at q ⊢; exact q
  | .int _, _, q, _ => by unfold RD at q ⊢; exact q
  | .str _, _, q, _ => by unfold RD at q ⊢; exact q
  | .ty _, _, q, _ => by unfold RD at q ⊢; exact q
  | .cls _, _, q, _ => by unfold RD at q ⊢; exact q
  | .loc i, _, q, k => by
    unfold RD at q ⊢
    obtain ⟨a, e, r⟩ := q
    have hi : i < m.length := by unfold okD at k; exact of_decide_eq_true k
    obtain ⟨t, rfl⟩ := h
    rw [List.getElem?_append_left hi] at r
    exact ⟨a, e, r⟩
  | .tup ds, _, q, k => by
    unfold okD at k
    unfold RD at q ⊢
    obtain ⟨a, vs, e, s, r⟩ := q
    exact ⟨a, vs, e, s, RDs.back h r k⟩
  | .rol ds, _, q, k => by
    unfold okD at k
    unfold RD at q ⊢
    obtain ⟨a, vs, e, s, r⟩ := q
    exact ⟨a, vs, e, s, RDs.back h r k⟩
theorem RDs.back (h : m <+: m') : ∀ {ds : List D} {vs : List V}, RDs K m' H ds vs → okDs m.length ds = true → RDs K m H ds vs
  | [], _, q, _ => by unfold RDs at q ⊢; exact q
  | d :: ds, _, q, k => by
    unfold okDs at k
    rw [Bool.and_eq_true] at k
    unfold RDs at q ⊢
    obtain ⟨v, ws, e, r, s⟩ := q
    exact ⟨v, ws, e, RD.back h r k.1, RDs.back h s k.2⟩
end
mutual
theorem RD.okD_ : ∀ {d : D} {v : V}, RD K m H d v → okD m.length d = true
  | .non, _, q => by unfold okD; rfl
  | .bl _, _, q => by unfold okD; rfl
  | .int _, _, q => by unfold okD; rfl
  | .str _, _, q => by unfold okD; rfl
  | .ty _, _, q => by unfold okD; rfl
  | .cls _, _, q => by unfold okD; rfl
  | .loc i, _, q => by
    unfold RD at q
    obtain ⟨a, e, r⟩ := q
    unfold okD
    exact decide_eq_true (List.getElem?_eq_some_iff.mp r).1
  | .tup ds, _, q => by
    unfold RD at q
    obtain ⟨a, vs, e, s, r⟩ := q
    unfold okD
    exact RDs.okD_ r
  | .rol ds, _, q => by
    unfold RD at q
    obtain ⟨a, vs, e, s, r⟩ := q
    unfold okD
    exact RDs.okD_ r
theorem RDs.okD_ : ∀ {ds : List D} {vs : List V}, RDs K m H ds vs → okDs m.length ds = true
  | [], _, q => by unfold okDs; rfl
  | d :: ds, _, q => by
    unfold RDs at q
    obtain ⟨v, ws, e, r, s⟩ := q
    unfold okDs
    rw [RD.okD_ r, RDs.okD_ s]
    rfl
end
theorem RKV.back {κ : Type} (h : m <+: m') : ∀ {kvs : List (κ × D)} {ws : List (κ × V)}, RKV K m' H kvs ws → okDs m.length (kvs.map (·.2)) = true → RKV K m H kvs ws
  | [], _, q, _ => q
  | p :: kvs, _, q, k => by
    obtain ⟨v, s, e, r1, r2⟩ := q
    have k' : (okD m.length p.2 && okDs m.length (kvs.map (·.2))) = true := by
      have := k
      rw [List.map_cons] at this
      unfold okDs at this
      exact this
    rw [Bool.and_eq_true] at k'
    exact ⟨v, s, e, r1.back h k'.1, RKV.back h r2 k'.2⟩
theorem RKV.okD_ {κ : Type} : ∀ {kvs : List (κ × D)} {ws : List (κ × V)}, RKV K m H kvs ws → okDs m.length (kvs.map (·.2)) = true
  | [], _, q => by unfold okDs; rfl
  | p :: kvs, _, q => by
    obtain ⟨v, s, e, r1, r2⟩ := q
    rw [List.map_cons]
    unfold okDs
    rw [r1.okD_, RKV.okD_ r2]
    rfl
theorem RO.back {o : MO} {a : Addr} (h : m <+: m') (q : RO K m' H o a) (k : okO m.length o = true) : RO K m H o a := by
  cases o with
  | lst ds => obtain ⟨vs, e, r⟩ := q; exact ⟨vs, e, r.back h k⟩
  | dic kvs => obtain ⟨vs, e, r⟩ := q; exact ⟨vs, e, r.back h k⟩
  | ins C fs => obtain ⟨dx, vs, e, r⟩ := q; exact ⟨dx, vs, e, r.back h k⟩
  | fdic kvs => obtain ⟨ob, vs, e, r⟩ := q; exact ⟨ob, vs, e, r.back h k⟩
  | tab _ _ => exact q
theorem RM.okM_ (r : RM K m H M) : okM M.length M = true := by
  unfold okM
  rw [List.all_eq_true]
  intro o ho
  obtain ⟨n, e⟩ := List.getElem?_of_mem ho
  obtain ⟨a, ea, q⟩ := r.ob n o e
  rw [← r.len]
  cases o with
  | lst ds => obtain ⟨vs, e, q⟩ := q; exact q.okD_
  | dic kvs => obtain ⟨vs, e, q⟩ := q; exact q.okD_
  | ins C fs => obtain ⟨dx, vs, e, q⟩ := q; exact q.okD_
  | fdic kvs => obtain ⟨ob, vs, e, q⟩ := q; exact q.okD_
  | tab _ _ => rfl
/-- the first n cells alone -/
theorem RM.cut (r : RM K m' H M) (h : m <+: m') (k : okM m.length (M.take m.length) = true) : RM K m H (M.take m.length) where
  len := by
    have h1 := h.length_le
    rw [List.length_take, ← r.len]
    omega
  nd := by
    obtain ⟨t, rfl⟩ := h
    exact (List.nodup_append.mp r.nd).1
  ob := fun n o e => by
    have hn : n < m.length := by
      have := (List.getElem?_eq_some_iff.mp e).1
      rw [List.length_take] at this
      omega
    have e' : M[n]? = some o := by
      rw [List.getElem?_take_of_lt hn] at e
      exact e
    obtain ⟨a, ea, q⟩ := r.ob n o e'
    refine ⟨a, ?_, q.back h ?_⟩
    · obtain ⟨t, rfl⟩ := h
      rw [List.getElem?_append_left hn] at ea
      exact ea
    · exact List.all_eq_true.mp k o (List.mem_of_getElem? e)
end
/-- the ends of a def's body: as they stand; without what is new; with one new list -/
def Done (n : Nat) (Qd : QD) (d : D) (M : Mem) : Prop :=
  Qd d M ∨ (okD n d = true ∧ okM n (M.take n) = true ∧ Qd d (M.take n)) ∨
  (∃ l ds, d = .loc l ∧ n ≤ l ∧ M[l]? = some (.lst ds) ∧ okDs n ds = true ∧ okM n (M.take n) = true ∧ Qd (.loc n) (M.take n ++ [.lst ds])) ∨
  (∃ l kvs, d = .loc l ∧ n ≤ l ∧ M[l]? = some (.dic kvs) ∧ okDs n (kvs.map (·.2)) = true ∧ okM n (M.take n) = true ∧ Qd (.loc n) (M.take n ++ [.dic kvs]))
section
variable {K : PySem.W.Frag} {m m' : List Addr} {H H' : Hp} {M M' : Mem}
theorem Done.ok {n : Nat} {Qd : QD} {Q : VK} {d : D} {v : V} (hn : n = m.length) (h : Done n Qd d M') (t : Then K m H Qd Q) (g : Grow m H m' H') (r : RM K m' H' M') (rd : RD K m' H' d v) : Q v H' := by
  subst hn
  rcases h with h | ⟨h1, h2, h3⟩ | ⟨l, ds, rfl, hl, e, h1, h2, h3⟩ | ⟨l, ds, rfl, hl, e, h1, h2, h3⟩
  · exact t _ _ _ _ _ h g r rd
  · have gm : Grow m H m H' := ⟨List.prefix_refl _, fun _ a b => absurd a b, g.keep, g.frz, g.tup, g.ext⟩
    exact t _ _ _ _ _ h3 gm (r.cut g.pre h2) (rd.back g.pre h1)
  · obtain ⟨a, vs, rfl, ea, eh, q⟩ := r.lst rd e
    have hap : a ∉ m := fun hm => by
      obtain ⟨j, ej⟩ := List.getElem?_of_mem hm
      have hj := (List.getElem?_eq_some_iff.mp ej).1
      have := nd_ix r.nd (get_pre g.pre ej) ea
      omega
    have rc := (r.cut g.pre h2).adopt (p := a) (o := .lst ds) hap ⟨vs, eh, (q.back g.pre h1).mono (List.prefix_append _ _) ⟨fun _ _ z => z, fun _ _ z => z, fun _ _ z => z⟩⟩
    have gm : Grow m H (m ++ [a]) H' := ⟨List.prefix_append _ _, fun b hb hn => by
      rcases List.mem_append.mp hb with z | z
      · exact absurd z hn
      · have e : b = a := by simpa using z
        rw [e]
        exact g.fresh a (List.mem_of_getElem? ea) hap, g.keep, g.frz, g.tup, g.ext⟩
    refine t _ _ _ _ _ h3 gm rc ?_
    unfold RD
    exact ⟨a, rfl, by simp⟩
  · obtain ⟨a, vs, rfl, ea, eh, q⟩ := r.dic rd e
    have hap : a ∉ m := fun hm => by
      obtain ⟨j, ej⟩ := List.getElem?_of_mem hm
      have hj := (List.getElem?_eq_some_iff.mp ej).1
      have := nd_ix r.nd (get_pre g.pre ej) ea
      omega
    have rc := (r.cut g.pre h2).adopt (p := a) (o := .dic ds) hap ⟨vs, eh, (q.back g.pre h1).mono (List.prefix_append _ _) ⟨fun _ _ z => z, fun _ _ z => z, fun _ _ z => z⟩⟩
    have gm : Grow m H (m ++ [a]) H' := ⟨List.prefix_append _ _, fun b hb hn => by
      rcases List.mem_append.mp hb with z | z
      · exact absurd z hn
      · have e : b = a := by simpa using z
        rw [e]
        exact g.fresh a (List.mem_of_getElem? ea) hap, g.keep, g.frz, g.tup, g.ext⟩
    refine t _ _ _ _ _ h3 gm rc ?_
    unfold RD
    exact ⟨a, rfl, by simp⟩
end
def startD (N : List Str) (ds : List D) : Rho := ds.map some ++ List.replicate (N.length - ds.length) none
section
variable {P : Program} {w : World} {K : PySem.W.Frag} {mg : Str → Option Value} {base : Heap}
theorem start_ok {m : List Addr} {H : Hp} {N : List Str} : ∀ {ds : List D} {vs : List V}, RDs K m H ds vs → (startD N ds).length = (L2.start N vs).length ∧ ∀ (i : Nat) (d : D), (startD N ds)[i]? = some (some d) → ∃ v, (L2.start N vs)[i]? = some (some v) ∧ RD K m H d v := fun {ds vs} h => by
  have hl := h.length
  refine ⟨by simp [startD, L2.start, hl], fun i d e => ?_⟩
  unfold startD at e
  unfold L2.start
  by_cases hi : i < ds.length
  · rw [List.getElem?_append_left (by simpa using hi), List.getElem?_map] at e
    rw [List.getElem?_append_left (by simpa [hl] using hi), List.getElem?_map]
    cases q : ds[i]? with
    | none => rw [q] at e; cases e
    | some d' =>
      rw [q] at e
      cases e
      obtain ⟨v, ev, rv⟩ := h.get q
      exact ⟨v, by rw [ev]; rfl, rv⟩
  · rw [List.getElem?_append_right (by simpa using Nat.le_of_not_lt hi)] at e
    have := List.mem_of_getElem? e
    have := List.eq_of_mem_replicate this
    cases this
/-- a def that raises nothing -/
theorem DFn.of {x qual : Str} {st : Stmt} {f : Addr} {fd : FuncData} {N ps : List Str} {k : Nat} {sp : DSp} (F : Fun K x qual st f fd) (hm : mg x = some (.ref f)) (hb : Binds K fd ps []) (S : FnScope N ps (defScope st)) (len : ∀ ds M Q E, sp ds M Q E → ds.length = ps.length)
    (body : ∃ t, (∀ (cdv : Value) (A : Around) (outer : List Env) (s : Shared) (H : Hp) (E : XK) (m0 : List Addr), Room k (A.deeper (PyProof.Rows.envOfC qual (defScope st) s.heap.objs.size f cdv)) →
        DSs ⟨(cxOf CX0 P w K mg base N qual (defScope st) f cdv A outer s H E).nox, m0, H⟩ (defBody st) t) ∧
      ∀ ds M Qd Ed, sp ds M Qd Ed → okM M.length M = true → t { nx := fun _ M' => Done M.length Qd .non M', rt := Done M.length Qd } (startD N ds) M) : DFn P w K mg base CX0 (k + 1) x ps sp := by
  obtain ⟨t, der, red⟩ := body
  refine ⟨f, fd, F.ok S ?_ ?_, hm, F.kp, hb⟩
  · rintro vs H Q E ⟨m, ds, M, Qd, Ed, rm, rd, h, _⟩
    rw [rd.length]
    exact len _ _ _ _ h
  · rintro cdv A outer s H vs Q E hr ⟨m, ds, M, Qd, Ed, rm, rd, h, t1, t2⟩
    obtain ⟨ts, p, l⟩ := der cdv A outer s H E m hr
    refine ⟨ts, p, ?_⟩
    obtain ⟨e1, e2⟩ := start_ok (N := N) rd
    refine l m (startD N ds) M (L2.start N vs) H _ _ ⟨.refl, rm, e1, e2⟩ (red ds M Qd Ed h rm.okM_) ⟨?_, ?_, ?_, ?_⟩
    · intro r' M' m' σ' H' q g s'
      exact Done.ok rm.len.symm q t1 g s'.rm RD.non'
    · intro d M' m' v H' q g r' rd'
      exact Done.ok rm.len.symm q t1 g r' rd'
    · intro r' M' m' σ' H' q g s'
      exact q.elim
    · intro r' M' m' σ' H' q g s'
      exact q.elim
end
end DL
namespace DL
open PySem L2 RZ RT
section
variable {P : Program} {w : World} {K : PySem.W.Frag} {mg : Str → Option Value} {base : Heap}
/-- a def as the head tells it, without defaults -/
abbrev FnP (K : PySem.W.Frag) (x qual : Str) (st : Stmt) (f : Addr) (fd : FuncData) : Prop := FunD K x qual (defArgs st) (defBody st) (defScope st) [] [] f fd
theorem fnok_of {x qual : Str} {st : Stmt} {f : Addr} {fd : FuncData} {N ps : List Str} {k : Nat} {sp : DSp} (F : FnP K x qual st f fd) (S : FnScope N ps (defScope st)) (len : ∀ ds M Q E, sp ds M Q E → ds.length = ps.length)
    (body : ∃ t, (∀ (cdv : Value) (A : Around) (outer : List Env) (s : Shared) (H : Hp) (E : XK) (m0 : List Addr), Room k (A.deeper (PyProof.Rows.envOfC qual (defScope st) s.heap.objs.size f cdv)) →
        DSs ⟨(cxOf CX0 P w K mg base N qual (defScope st) f cdv A outer s H E).nox, m0, H⟩ (defBody st) t) ∧
      ∀ ds M Qd Ed, sp ds M Qd Ed → okM M.length M = true → t { nx := fun _ M' => Done M.length Qd .non M', rt := Done M.length Qd } (startD N ds) M) : FnOk P w K mg base CX0 (k + 1) f fd ps (liftSp K sp) := by
  obtain ⟨t, der, red⟩ := body
  refine F.ok S ?_ ?_
  · rintro vs H Q E ⟨m, ds, M, Qd, Ed, rm, rd, h, _⟩
    rw [rd.length]
    exact len _ _ _ _ h
  · rintro cdv A outer s H vs Q E hr ⟨m, ds, M, Qd, Ed, rm, rd, h, t1, t2⟩
    obtain ⟨ts, p, l⟩ := der cdv A outer s H E m hr
    refine ⟨ts, p.nox, ?_⟩
    obtain ⟨e1, e2⟩ := start_ok (N := N) rd
    refine l m (startD N ds) M (L2.start N vs) H _ _ ⟨.refl, rm, e1, e2⟩ (red ds M Qd Ed h rm.okM_) ⟨?_, ?_, ?_, ?_⟩
    · intro r' M' m' σ' H' q g s'
      exact Done.ok rm.len.symm q t1 g s'.rm RD.non'
    · intro d M' m' v H' q g r' rd'
      exact Done.ok rm.len.symm q t1 g r' rd'
    · intro r' M' m' σ' H' q g s'
      exact q.elim
    · intro r' M' m' σ' H' q g s'
      exact q.elim
theorem DFn.ofD {x qual : Str} {st : Stmt} {f : Addr} {fd : FuncData} {N ps : List Str} {k : Nat} {sp : DSp} (F : FnP K x qual st f fd) (hm : mg x = some (.ref f)) (hb : Binds K fd ps []) (S : FnScope N ps (defScope st)) (len : ∀ ds M Q E, sp ds M Q E → ds.length = ps.length)
    (body : ∃ t, (∀ (cdv : Value) (A : Around) (outer : List Env) (s : Shared) (H : Hp) (E : XK) (m0 : List Addr), Room k (A.deeper (PyProof.Rows.envOfC qual (defScope st) s.heap.objs.size f cdv)) →
        DSs ⟨(cxOf CX0 P w K mg base N qual (defScope st) f cdv A outer s H E).nox, m0, H⟩ (defBody st) t) ∧
      ∀ ds M Qd Ed, sp ds M Qd Ed → okM M.length M = true → t { nx := fun _ M' => Done M.length Qd .non M', rt := Done M.length Qd } (startD N ds) M) : DFn P w K mg base CX0 (k + 1) x ps sp :=
  ⟨f, fd, fnok_of F S len body, hm, F.kp, hb⟩
/-- nothing is promised: a start for inductions -/
theorem DFn.nothing {x qual : Str} {st : Stmt} {f : Addr} {fd : FuncData} {ps : List Str} {k : Nat} {CX : CXT} (F : FnP K x qual st f fd) (hm : mg x = some (.ref f)) (hb : Binds K fd ps []) : DFn P w K mg base CX k x ps (fun _ _ _ _ => False) :=
  ⟨f, fd, ⟨fun vs H Q E ⟨_, _, _, _, _, _, _, h, _⟩ => h.elim, fun A outer s H args us vs Q E _ _ _ _ ⟨_, _, _, _, _, _, _, h, _⟩ => h.elim⟩, hm, F.kp, hb⟩
theorem DFn.imp {x : Str} {ps : List Str} {k : Nat} {CX : CXT} {sp sp' : DSp} (F : DFn P w K mg base CX k x ps sp) (h : ∀ ds M Q E, sp' ds M Q E → sp ds M Q E) : DFn P w K mg base CX k x ps sp' := by
  obtain ⟨f, fd, Fo, r⟩ := F.ex
  refine ⟨f, fd, Fo.imp ?_, r⟩
  rintro vs H Q E ⟨m, ds, M, Qd, Ed, rm, rd, q, t⟩
  exact ⟨m, ds, M, Qd, Ed, rm, rd, h _ _ _ _ q, t⟩
theorem DFn.mono {x : Str} {ps : List Str} {j k : Nat} {CX : CXT} {sp : DSp} (F : DFn P w K mg base CX j x ps sp) (h : j ≤ k) : DFn P w K mg base CX k x ps sp := by
  obtain ⟨f, fd, Fo, r⟩ := F.ex
  exact ⟨f, fd, Fo.mono h, r⟩
end
def spLaw : DSp := fun ds M Q _ => ∃ ns : List Int, ds = [.rol (ns.map D.int)] ∧ ns.length ≤ 63 ∧ M = [] ∧ ∀ M', Q (.bl true) M'
theorem RDs_ints {K : PySem.W.Frag} {m : List Addr} {H : Hp} : ∀ ns : List Int, RDs K m H (ns.map D.int) (ns.map V.int)
  | [] => RDs.nil'
  | n :: ns => RDs.cons' RD.int' (RDs_ints ns)
theorem law_sp {K : PySem.W.Frag} {H : Hp} {a : Addr} {ns : List Int} (hl : ns.length ≤ 63) (hO : Only H) (hS : SqL K H a (ns.map V.int)) : liftSp K spLaw [.ref a] H (fun v _ => v = .bl true) fun _ _ _ => False := by
  have hR : SqR K H a (ns.map V.int) := by
    rcases hS with (h | ⟨o, h⟩) | h
    · rcases hO a with z | ⟨o, xs, z⟩
      · rw [h] at z; cases z
      · rw [h] at z; cases z
    · exact .inl ⟨o, h⟩
    · exact .inr h
  refine ⟨[], [.rol (ns.map D.int)], [], fun d _ => d = .bl true, E0D, ⟨rfl, List.nodup_nil, fun n o e => by simp at e⟩, RDs.cons' ?_ RDs.nil', ⟨ns, rfl, hl, rfl, fun _ => rfl⟩, ?_, fun _ _ _ _ h => h.elim⟩
  · unfold RD
    exact ⟨a, _, rfl, hR, RDs_ints ns⟩
  · rintro d M' m' v H' rfl _ _ rd
    exact rd.bl_
section
variable {z : Zx} {K : PySem.W.Frag} {m : List Addr} {H : Hp} {M : Mem}
/-- zip(x, y) of two tuples, two lists, or written ones -/
def dIZip (ta : DTA) : DTI := fun r M R => ta r M fun xs M1 => match xs with
  | [.tup ds, .tup es] => R ⟨(ds.zip es).map fun p => .tup [p.1, p.2], fun _ => True⟩ M1
  | [.loc i, .loc j] => (match M1[i]?, M1[j]? with
    | some (.lst ds), some (.lst es) => R ⟨(ds.zip es).map fun p => .tup [p.1, p.2], fun M => M[i]? = some (.lst ds) ∧ M[j]? = some (.lst es)⟩ M1
    | _, _ => False)
  | _ => False
theorem zip_get {ds es : List D} {i : Nat} {d e : D} (h1 : ds[i]? = some d) (h2 : es[i]? = some e) : ((ds.zip es).map fun p => D.tup [p.1, p.2])[i]? = some (.tup [d, e]) := by
  rw [List.getElem?_map, (List.getElem?_zip_eq_some (z := (d, e))).mpr ⟨h1, h2⟩]
  rfl
theorem zip_lt {ds es : List D} {i : Nat} (h : i < ((ds.zip es).map fun p => D.tup [p.1, p.2]).length) : i < ds.length ∧ i < es.length := by
  rw [List.length_map, List.length_zip] at h
  omega
theorem itok_zipL {i j : Nat} {a b : Addr} {ds es : List D} (ea : m[i]? = some a) (eb : m[j]? = some b) : ItOk K m H ⟨(ds.zip es).map fun p => .tup [p.1, p.2], fun M => M[i]? = some (.lst ds) ∧ M[j]? = some (.lst es)⟩ (Itz K a b) where
  go := fun k m' M' H' hi g r hk => by
    obtain ⟨h1, h2⟩ := zip_lt hi
    obtain ⟨vs, e, q⟩ := r.at hk.1 (get_pre g.pre ea)
    obtain ⟨ws, e', q'⟩ := r.at hk.2 (get_pre g.pre eb)
    obtain ⟨v, ev, _⟩ := q.get (List.getElem?_eq_getElem h1)
    obtain ⟨w, ew, _⟩ := q'.get (List.getElem?_eq_getElem h2)
    exact ⟨vs, ws, v, w, SqL.of e, SqL.of e', ev, ew⟩
  yld := fun k m' M' H' x H'' hi g r hk y => by
    obtain ⟨h1, h2⟩ := zip_lt hi
    obtain ⟨T, x1, y1, rfl, hT, rfl, y2, y3⟩ := y
    obtain ⟨vs, e, q⟩ := r.at hk.1 (get_pre g.pre ea)
    obtain ⟨ws, e', q'⟩ := r.at hk.2 (get_pre g.pre eb)
    obtain ⟨v, ev, rv⟩ := q.get (List.getElem?_eq_getElem h1)
    obtain ⟨w, ew, rw'⟩ := q'.get (List.getElem?_eq_getElem h2)
    have e2 := y2 vs (SqL.of e)
    have e3 := y3 ws (SqL.of e')
    rw [ev] at e2
    rw [ew] at e3
    cases e2
    cases e3
    refine ⟨_, zip_get (List.getElem?_eq_getElem h1) (List.getElem?_eq_getElem h2), .inr ⟨T, _, hT, rfl⟩, RD.tup' (SqT.of upd_same) ?_⟩
    exact (RDs.cons' rv (RDs.cons' rw' RDs.nil')).grow (Grow.new hT)
  stop := fun m' M' H' g r hk => by
    obtain ⟨vs, e, q⟩ := r.at hk.1 (get_pre g.pre ea)
    obtain ⟨ws, e', q'⟩ := r.at hk.2 (get_pre g.pre eb)
    refine ⟨vs, ws, SqL.of e, SqL.of e', ?_⟩
    rw [q.length, q'.length]
    show _ ≤ ((ds.zip es).map fun p => D.tup [p.1, p.2]).length ∨ _ ≤ ((ds.zip es).map fun p => D.tup [p.1, p.2]).length
    rw [List.length_map, List.length_zip]
    omega
theorem itok_zipT {a b : Addr} {ds es : List D} {vs ws : List V} (s : SqT K H a vs) (q : RDs K m H ds vs) (s' : SqT K H b ws) (q' : RDs K m H es ws) : ItOk K m H ⟨(ds.zip es).map fun p => .tup [p.1, p.2], fun _ => True⟩ (ItzT K a b) where
  go := fun k m' M' H' hi g r hk => by
    obtain ⟨h1, h2⟩ := zip_lt hi
    obtain ⟨v, ev, _⟩ := q.get (List.getElem?_eq_getElem h1)
    obtain ⟨w, ew, _⟩ := q'.get (List.getElem?_eq_getElem h2)
    exact ⟨vs, ws, v, w, g.tups.tu _ _ s, g.tups.tu _ _ s', ev, ew⟩
  yld := fun k m' M' H' x H'' hi g r hk y => by
    obtain ⟨h1, h2⟩ := zip_lt hi
    obtain ⟨T, x1, y1, rfl, hT, rfl, y2, y3⟩ := y
    obtain ⟨v, ev, rv⟩ := q.get (List.getElem?_eq_getElem h1)
    obtain ⟨w, ew, rw'⟩ := q'.get (List.getElem?_eq_getElem h2)
    have e2 := y2 vs (g.tups.tu _ _ s)
    have e3 := y3 ws (g.tups.tu _ _ s')
    rw [ev] at e2
    rw [ew] at e3
    cases e2
    cases e3
    refine ⟨_, zip_get (List.getElem?_eq_getElem h1) (List.getElem?_eq_getElem h2), .inr ⟨T, _, hT, rfl⟩, RD.tup' (SqT.of upd_same) ?_⟩
    exact ((RDs.cons' rv (RDs.cons' rw' RDs.nil')).grow g).grow (Grow.new hT)
  stop := fun m' M' H' g r hk => by
    refine ⟨vs, ws, g.tups.tu _ _ s, g.tups.tu _ _ s', ?_⟩
    rw [q.length, q'.length]
    show _ ≤ ((ds.zip es).map fun p => D.tup [p.1, p.2]).length ∨ _ ≤ ((ds.zip es).map fun p => D.tup [p.1, p.2]).length
    rw [List.length_map, List.length_zip]
    omega
theorem di_zip {e e2 : Expr} {ta : DTA} {p pos tpos : Pos} {elts : List Expr} {kk : Nat} (hm : z.X.mg "zip" = none) (h : DA z [e, e2] ta) (hg : Gl z.X "zip" := by rfl)
    (hs : starEach [e, e2] z.X.env = (false, eval e z.X.env) :: starEach [e2] z.X.env := by rfl) (hpl : (backTo pos (starEach [e2] z.X.env)).any (·.1) = false := by rfl) :
    DI z (.Tuple elts kk tpos) (.Call (.Name "zip" p) [e, e2] [] pos) (dIZip ta) := by
  obtain ⟨wa, pa, la⟩ := h
  refine ⟨_, pi_zipA hg hm pa hs hpl, fun m r M σ H R Rd s q t => la m r M σ H _ _ s q fun xs M1 m1 vs H1 q1 g1 r1 d1 => ?_⟩
  split at q1
  · obtain ⟨v, w, rfl, d, d'⟩ := d1.two_
    obtain ⟨a, us, rfl, s1, q⟩ := d.tup_
    obtain ⟨b, ws, rfl, s2, q'⟩ := d'.tup_
    exact ⟨a, b, us, ws, rfl, .inr ⟨s1, s2, t _ _ _ _ _ q1 g1 r1 (itok_zipT s1 q s2 q')⟩⟩
  · obtain ⟨v, w, rfl, d, d'⟩ := d1.two_
    split at q1
    · rename_i e1 e2
      obtain ⟨a, us, rfl, ea, s1, q⟩ := r1.lst d e1
      obtain ⟨b, ws, rfl, eb, s2, q'⟩ := r1.lst d' e2
      exact ⟨a, b, us, ws, rfl, .inl ⟨SqL.of s1, SqL.of s2, t _ _ _ _ _ q1 g1 r1 (itok_zipL ea eb)⟩⟩
    · exact q1.elim
  · exact q1.elim
end
end DL
namespace DL
open PySem L2
def dcGo (ok : Mem → Prop) (j : Nat) (r0 : Rho) (tt : DTT) (tk tv : DTE) : List D → Mem → List (Key × D) → (List (Key × D) → Mem → Prop) → Prop
  | [], M, acc, k => ok M ∧ k acc M
  | x :: rest, M, acc, k => ok M ∧ tt (r0.set j (some x)) M fun b M2 => match b with
    | true => tk (r0.set j (some x)) M2 fun y M3 => tv (r0.set j (some x)) M3 fun w M4 => (match keyD y with
      | some q => acc.length < sizeLine ∧ dcGo ok j r0 tt tk tv rest M4 (putD acc q w) k
      | none => False)
    | false => dcGo ok j r0 tt tk tv rest M2 acc k
def dDc (ti : DTI) (j : Nat) (vs : List Nat) (tt : DTT) (tk tv : DTE) : DTE := fun r M Q => ti r M fun it M1 => dcGo it.ok j (wipeD r vs) tt tk tv it.items M1 [] fun acc M2 => Q (.loc M2.length) (M2 ++ [.dic acc])
theorem b_len : bootBuiltins "len" = some (.builtin "len") := by decide +kernel
theorem b_abs : bootBuiltins "abs" = some (.builtin "abs") := by decide +kernel
theorem b_max : bootBuiltins "max" = some (.builtin "max") := by decide +kernel
theorem b_all : bootBuiltins "all" = some (.builtin "all") := by decide +kernel
theorem b_isinstance : bootBuiltins "isinstance" = some (.builtin "isinstance") := by decide +kernel
theorem b_int : bootBuiltins "int" = some (.type "int") := by decide +kernel
theorem b_bool : bootBuiltins "bool" = some (.type "bool") := by decide +kernel
theorem b_str : bootBuiltins "str" = some (.type "str") := by decide +kernel
theorem b_list : bootBuiltins "list" = some (.type "list") := by decide +kernel
theorem b_tuple : bootBuiltins "tuple" = some (.type "tuple") := by decide +kernel
end DL
namespace DL
open PySem L2
theorem lcGo_ind {ok : Mem → Prop} {j : Nat} {r0 : Rho} {tt : DTT} {te : DTE} {k : List D → Mem → Prop} (P : List D → Mem → List D → Prop)
    (step : ∀ x rest M acc, P (x :: rest) M acc → (∀ M' acc', P rest M' acc' → lcGo ok j r0 tt te rest M' acc' k) → ok M ∧ tt (r0.set j (some x)) M fun b M2 => match b with
      | true => te (r0.set j (some x)) M2 fun y M3 => acc.length < sizeLine ∧ lcGo ok j r0 tt te rest M3 (acc ++ [y]) k
      | false => lcGo ok j r0 tt te rest M2 acc k)
    (fin : ∀ M acc, P [] M acc → ok M ∧ k acc M) : ∀ items M acc, P items M acc → lcGo ok j r0 tt te items M acc k
  | [], M, acc, h => fin M acc h
  | x :: rest, M, acc, h => step x rest M acc h fun M' acc' h' => lcGo_ind P step fin rest M' acc' h'
theorem forGo_ind {ok : Mem → Prop} {g : DTG} {tb : DTS} {Dd : DEnds} (P : List D → Rho → Mem → Prop)
    (step : ∀ x rest r M, P (x :: rest) r M → (∀ r' M', P rest r' M' → forGo ok g tb Dd rest r' M') → ok M ∧ g x r M fun r2 M2 => tb { nx := forGo ok g tb Dd rest, rt := Dd.rt, bk := Dd.nx, ct := forGo ok g tb Dd rest } r2 M2)
    (fin : ∀ r M, P [] r M → ok M ∧ Dd.nx r M) : ∀ items r M, P items r M → forGo ok g tb Dd items r M
  | [], r, M, h => fin r M h
  | x :: rest, r, M, h => step x rest r M h fun r' M' h' => forGo_ind P step fin rest r' M' h'
theorem while_ind {c : DTT} {tb : DTS} {Dd : DEnds} {r : Rho} {M : Mem} (W : Nat → Rho → Mem → Prop) (k0 : Nat) (h0 : W k0 r M)
    (step : ∀ k r M, W k r M → c r M fun b M1 => match b with
      | true => tb { Dd with nx := fun r' M' => ∃ j, j < k ∧ W j r' M', ct := fun r' M' => ∃ j, j < k ∧ W j r' M', bk := Dd.nx } r M1
      | false => Dd.nx r M1) : dWhile c tb Dd r M := ⟨W, ⟨k0, h0⟩, step⟩
theorem atI_lt {α : Type} {xs : List α} {i : Int} (h0 : 0 ≤ i) (h1 : i < xs.length) : ∃ x, xs[i.toNat]? = some x ∧ atI xs i = some x := by
  have hi : i.toNat < xs.length := by omega
  refine ⟨xs[i.toNat], List.getElem?_eq_getElem hi, ?_⟩
  have h := atI_nat (xs := xs) (j := i.toNat) (List.getElem?_eq_getElem hi)
  have e : ((i.toNat : Nat) : Int) = i := by omega
  rw [e] at h
  exact h
theorem atI_ints {ns : List Int} {i : Int} (h0 : 0 ≤ i) (h1 : i < ns.length) : ∃ v, atI (ns.map D.int) i = some (.int v) := by
  obtain ⟨x, e1, e2⟩ := atI_lt (xs := ns.map D.int) h0 (by simpa using h1)
  rw [List.getElem?_map] at e1
  cases q : ns[i.toNat]? with
  | none => rw [q] at e1; cases e1
  | some v => rw [q] at e1; cases e1; exact ⟨v, e2⟩
theorem szl : sizeLine = 16777216 := sizeLine_eq
theorem get_set_eq {M : Mem} {o u : MO} {i : Nat} (h : M[i]? = some u) : (M.set i o)[i]? = some o := List.getElem?_set_self (List.getElem?_eq_some_iff.mp h).1
theorem set_get {M : Mem} {o : MO} {l : Nat} : (M.set l o)[l]? = (M[l]?).map fun _ => o := by
  cases h : M[l]? with
  | none => rw [List.getElem?_eq_none (by rw [List.length_set]; exact List.getElem?_eq_none_iff.mp h)]; rfl
  | some u => rw [get_set_eq h]; rfl
theorem atI_0 {α : Type} {x0 : α} {xs : List α} : atI (x0 :: xs) 0 = some x0 := atI_nat (j := 0) rfl
theorem atI_1 {α : Type} {x0 x1 : α} {xs : List α} : atI (x0 :: x1 :: xs) 1 = some x1 := atI_nat (j := 1) rfl
theorem atI_2 {α : Type} {x0 x1 x2 : α} {xs : List α} : atI (x0 :: x1 :: x2 :: xs) 2 = some x2 := atI_nat (j := 2) rfl
theorem atI_3 {α : Type} {x0 x1 x2 x3 : α} {xs : List α} : atI (x0 :: x1 :: x2 :: x3 :: xs) 3 = some x3 := atI_nat (j := 3) rfl
theorem atI_4 {α : Type} {x0 x1 x2 x3 x4 : α} {xs : List α} : atI (x0 :: x1 :: x2 :: x3 :: x4 :: xs) 4 = some x4 := atI_nat (j := 4) rfl
theorem atI_5 {α : Type} {x0 x1 x2 x3 x4 x5 : α} {xs : List α} : atI (x0 :: x1 :: x2 :: x3 :: x4 :: x5 :: xs) 5 = some x5 := atI_nat (j := 5) rfl
theorem atI_6 {α : Type} {x0 x1 x2 x3 x4 x5 x6 : α} {xs : List α} : atI (x0 :: x1 :: x2 :: x3 :: x4 :: x5 :: x6 :: xs) 6 = some x6 := atI_nat (j := 6) rfl
theorem getK {A B : Mem} {n k : Nat} (h : A.length = n) : (A ++ B)[n + k]? = B[k]? := by
  rw [List.getElem?_append_right (by omega)]
  congr 1
  omega
theorem getK0 {A B : Mem} {n : Nat} (h : A.length = n) : (A ++ B)[n]? = B[0]? := by
  rw [List.getElem?_append_right (by omega)]
  congr 1
  omega
theorem getL {A B : Mem} {n : Nat} (h : n < A.length) : (A ++ B)[n]? = A[n]? := List.getElem?_append_left h
theorem setK {A B : Mem} {n k : Nat} {o : MO} (h : A.length = n) : (A ++ B).set (n + k) o = A ++ B.set k o := by
  rw [List.set_append_right _ _ (by omega)]
  congr 2
  omega
theorem setK0 {A B : Mem} {n : Nat} {o : MO} (h : A.length = n) : (A ++ B).set n o = A ++ B.set 0 o := by
  rw [List.set_append_right _ _ (by omega)]
  congr 2
  omega
theorem setL {A B : Mem} {n : Nat} {o : MO} (h : n < A.length) : (A ++ B).set n o = A.set n o ++ B := List.set_append_left _ _ h
theorem takeK {A B : Mem} {n : Nat} (h : A.length = n) : (A ++ B).take n = A := List.take_left' h
theorem rngD_zero (lo : Int) : rngD lo 0 = [] := rfl
theorem rngD_succ (lo : Int) (n : Nat) : rngD lo (n + 1) = .int lo :: rngD (lo + 1) n := by
  unfold rngD
  rw [List.range_succ_eq_map, List.map_cons, List.map_map]
  congr 1
  · simp
  · apply List.map_congr_left
    intro i _
    simp only [Function.comp]
    congr 1
    omega
theorem rngD_length (lo : Int) (n : Nat) : (rngD lo n).length = n := by simp [rngD]
theorem ixN_nat {n i : Nat} (h : i < n) : ixN n (i : Int) = some i := by
  unfold ixN
  rw [if_pos (by omega), if_pos (by omega)]
  simp
theorem Done.same {n : Nat} {Qd : QD} {d : D} {M : Mem} (h : Qd d M) : Done n Qd d M := .inl h
/-- what is new is forgotten -/
theorem Done.old {n : Nat} {Qd : QD} {d : D} {M1 M' : Mem} (hM : okM n M1 = true) (e : M'.take n = M1) (hd : okD n d = true) (h : Qd d M1) : Done n Qd d M' :=
  .inr (.inl ⟨hd, by rw [e]; exact hM, by rw [e]; exact h⟩)
/-- all but a new list -/
theorem Done.list {n : Nat} {Qd : QD} {l : Nat} {ds : List D} {M1 M' : Mem} (hM : okM n M1 = true) (e : M'.take n = M1) (hl : n ≤ l) (hg : M'[l]? = some (.lst ds)) (hd : okDs n ds = true) (h : Qd (.loc n) (M1 ++ [.lst ds])) : Done n Qd (.loc l) M' :=
  .inr (.inr (.inl ⟨l, ds, rfl, hl, hg, hd, by rw [e]; exact hM, by rw [e]; exact h⟩))
/-- all but a new dict -/
theorem Done.dict {n : Nat} {Qd : QD} {l : Nat} {kvs : List (Key × D)} {M1 M' : Mem} (hM : okM n M1 = true) (e : M'.take n = M1) (hl : n ≤ l) (hg : M'[l]? = some (.dic kvs)) (hd : okDs n (kvs.map (·.2)) = true) (h : Qd (.loc n) (M1 ++ [.dic kvs])) : Done n Qd (.loc l) M' :=
  .inr (.inr (.inr ⟨l, kvs, rfl, hl, hg, hd, by rw [e]; exact hM, by rw [e]; exact h⟩))
theorem okDs_iff {n : Nat} {ds : List D} : okDs n ds = true ↔ ∀ d ∈ ds, okD n d = true := by
  induction ds with
  | nil => simp [okDs]
  | cons d ds ih => simp [okDs, ih]
theorem okM_iff {n : Nat} {M : Mem} : okM n M = true ↔ ∀ o ∈ M, okO n o = true := by unfold okM; exact List.all_eq_true
theorem okM_set {n : Nat} {M : Mem} {o : MO} {i : Nat} (h : okM n M = true) (ho : okO n o = true) : okM n (M.set i o) = true := by
  rw [okM_iff] at h ⊢
  intro u hu
  rcases List.mem_or_eq_of_mem_set hu with q | q
  · exact h u q
  · rw [q]; exact ho
end DL
namespace DL
open PySem L2
theorem cut_from {xs : List D} {t : Nat} : cutD xs (some (t : Int)) none = xs.drop t := by
  have e0 : HT.sIx xs.length 0 (some (t : Int)) = min t xs.length := by
    show (if (t : Int) < 0 then ((t : Int) + xs.length).toNat else min ((t : Int)).toNat xs.length) = _
    rw [if_neg (by omega)]; omega
  have e1 : HT.sIx xs.length xs.length none = xs.length := rfl
  unfold cutD
  rw [e0, e1]
  by_cases h : t ≤ xs.length
  · rw [show min t xs.length = t by omega, List.take_of_length_le (by simp)]
  · rw [show min t xs.length = xs.length by omega, List.drop_of_length_le (Nat.le_refl _), List.drop_of_length_le (by omega)]
    simp
theorem cut_to {xs : List D} {t : Nat} : cutD xs none (some (t : Int)) = xs.take t := by
  have e0 : HT.sIx xs.length xs.length (some (t : Int)) = min t xs.length := by
    show (if (t : Int) < 0 then ((t : Int) + xs.length).toNat else min ((t : Int)).toNat xs.length) = _
    rw [if_neg (by omega)]; omega
  have e1 : HT.sIx xs.length 0 none = 0 := rfl
  unfold cutD
  rw [e0, e1, List.drop_zero, Nat.sub_zero]
  by_cases h : t ≤ xs.length
  · rw [show min t xs.length = t by omega]
  · rw [show min t xs.length = xs.length by omega, List.take_of_length_le (by omega), List.take_of_length_le (by omega)]
theorem cut_1 {x : D} {xs : List D} : cutD (x :: xs) (some 1) none = xs := (cut_from (t := 1)).trans rfl
theorem cut_turn {ar : List Int} {t : Nat} (h : t ≤ ar.length) : ∃ br : List Int, cutD (ar.map D.int) (some (t : Int)) none ++ cutD (ar.map D.int) none (some (t : Int)) = br.map D.int ∧ (∀ a, a ∈ br ↔ a ∈ ar) ∧ br.length = ar.length := by
  refine ⟨ar.drop t ++ ar.take t, ?_, fun a => ?_, ?_⟩
  · rw [cut_from, cut_to, List.map_append, List.map_drop, List.map_take]
  · conv => rhs; rw [← List.take_append_drop t ar]
    rw [List.mem_append, List.mem_append]
    exact or_comm
  · rw [List.length_append, List.length_drop, List.length_take]; omega
theorem sIx_nat {n d t : Nat} : HT.sIx n d (some (t : Int)) = min t n := by
  show (if (t : Int) < 0 then ((t : Int) + n).toNat else min ((t : Int)).toNat n) = _
  rw [if_neg (by omega)]; omega
end DL
namespace DL
open PySem L2
mutual
def pl : D → Bool
  | .non => true
  | .int _ => true
  | .str x => PyData.strOk x
  | .tup ds => pls ds
  | .rol ds => pls ds
  | _ => false
def pls : List D → Bool
  | [] => true
  | d :: ds => pl d && pls ds
end
mutual
def toP : D → PyData
  | .int i => .int i
  | .str x => .str x
  | .tup ds => .tuple (toPs ds)
  | .rol ds => .list (toPs ds)
  | _ => .none
def toPs : List D → List PyData
  | [] => []
  | d :: ds => toP d :: toPs ds
end
mutual
def dep : D → Nat
  | .tup ds => deps ds + 1
  | .rol ds => deps ds + 1
  | _ => 0
def deps : List D → Nat
  | [] => 0
  | d :: ds => max (dep d) (deps ds)
end
mutual
theorem pyG_pl {f : Nat → Option PyData} : ∀ {d : D}, pl d = true → pyG f d = some (toP d)
  | .non, _ => by unfold pyG toP; rfl
  | .int _, _ => by unfold pyG toP; rfl
  | .str _, _ => by unfold pyG toP; rfl
  | .tup ds, h => by unfold pl at h; unfold pyG toP; rw [pyGs_pl h]; rfl
  | .rol ds, h => by unfold pl at h; unfold pyG toP; rw [pyGs_pl h]; rfl
  | .bl _, h => by unfold pl at h; cases h
  | .loc _, h => by unfold pl at h; cases h
  | .ty _, h => by unfold pl at h; cases h
  | .cls _, h => by unfold pl at h; cases h
theorem pyGs_pl {f : Nat → Option PyData} : ∀ {ds : List D}, pls ds = true → pyGs f ds = some (toPs ds)
  | [], _ => by unfold pyGs toPs; rfl
  | d :: ds, h => by
    unfold pls at h
    rw [Bool.and_eq_true] at h
    unfold pyGs toPs
    rw [pyG_pl h.1, pyGs_pl h.2]
end
mutual
theorem lay_pl : ∀ {d : D}, pl d = true → (toP d).canLay0 = true
  | .non, _ => by unfold toP; rw [PyData.canLay0]
  | .int _, _ => by unfold toP; rw [PyData.canLay0]
  | .str x, h => by unfold pl at h; unfold toP; rw [PyData.canLay0]; exact h
  | .tup ds, h => by unfold pl at h; unfold toP; rw [PyData.canLay0]; exact lays_pl h
  | .rol ds, h => by unfold pl at h; unfold toP; rw [PyData.canLay0]; exact lays_pl h
  | .bl _, h => by unfold pl at h; cases h
  | .loc _, h => by unfold pl at h; cases h
  | .ty _, h => by unfold pl at h; cases h
  | .cls _, h => by unfold pl at h; cases h
theorem lays_pl : ∀ {ds : List D}, pls ds = true → PyData.canLayAll0 (toPs ds) = true
  | [], _ => by unfold toPs; rw [PyData.canLayAll0]
  | d :: ds, h => by
    unfold pls at h
    rw [Bool.and_eq_true] at h
    unfold toPs
    rw [PyData.canLayAll0, lay_pl h.1, lays_pl h.2]
    rfl
end
mutual
theorem depth_pl : ∀ {d : D}, (toP d).depth = dep d
  | .non => by unfold toP dep; rw [PyData.depth]
  | .int _ => by unfold toP dep; rw [PyData.depth]
  | .str _ => by unfold toP dep; rw [PyData.depth]
  | .tup ds => by unfold toP dep; rw [PyData.depth, depths_pl]
  | .rol ds => by unfold toP dep; rw [PyData.depth, depths_pl]
  | .bl _ => by unfold toP dep; rw [PyData.depth]
  | .loc _ => by unfold toP dep; rw [PyData.depth]
  | .ty _ => by unfold toP dep; rw [PyData.depth]
  | .cls _ => by unfold toP dep; rw [PyData.depth]
theorem depths_pl : ∀ {ds : List D}, PyData.depthAll (toPs ds) = deps ds
  | [] => by unfold toPs deps; rw [PyData.depthAll]
  | d :: ds => by unfold toPs deps; rw [PyData.depthAll, depth_pl, depths_pl]
end
mutual
theorem eqv_pl : ∀ {d e : D}, pl d = true → pl e = true → ((toP d).eqv (toP e) = true ↔ d = e)
  | .non, e, _, h => by cases e <;> simp_all [pl, toP, PyData.eqv]
  | .int _, e, _, h => by cases e <;> simp_all [pl, toP, PyData.eqv]
  | .str _, e, _, h => by cases e <;> simp_all [pl, toP, PyData.eqv]
  | .tup ds, e, h1, h2 => by
    cases e with
    | tup es =>
      unfold pl at h1 h2
      unfold toP
      rw [PyData.eqv, eqvs_pl h1 h2]
      exact ⟨fun h => by rw [h], fun h => by cases h; rfl⟩
    | _ => simp_all [pl, toP, PyData.eqv]
  | .rol ds, e, h1, h2 => by
    cases e with
    | rol es =>
      unfold pl at h1 h2
      unfold toP
      rw [PyData.eqv, eqvs_pl h1 h2]
      exact ⟨fun h => by rw [h], fun h => by cases h; rfl⟩
    | _ => simp_all [pl, toP, PyData.eqv]
  | .bl _, _, h, _ => by unfold pl at h; cases h
  | .loc _, _, h, _ => by unfold pl at h; cases h
  | .ty _, _, h, _ => by unfold pl at h; cases h
  | .cls _, _, h, _ => by unfold pl at h; cases h
theorem eqvs_pl : ∀ {ds es : List D}, pls ds = true → pls es = true → (PyData.eqvAll (toPs ds) (toPs es) = true ↔ ds = es)
  | [], [], _, _ => by unfold toPs; rw [PyData.eqvAll]; simp
  | [], e :: es, _, _ => by unfold toPs; rw [PyData.eqvAll]; simp
  | d :: ds, [], _, _ => by unfold toPs; rw [PyData.eqvAll]; simp
  | d :: ds, e :: es, h1, h2 => by
    unfold pls at h1 h2
    rw [Bool.and_eq_true] at h1 h2
    unfold toPs
    rw [PyData.eqvAll, Bool.and_eq_true, eqv_pl h1.1 h2.1, eqvs_pl h1.2 h2.2, List.cons.injEq]
end
theorem py_pl {M : Mem} {d : D} (h : pl d = true) : py M d = some (toP d) := pyG_pl h
theorem py_lst {M : Mem} {a : Nat} {ds : List D} (e : M[a]? = some (.lst ds)) (h : pls ds = true) : py M (.loc a) = some (.list (toPs ds)) := by
  unfold py pyG pyN pyL
  rw [e]
  simp only [pyGs_pl h]
  rfl
theorem eqQ_pl {M : Mem} {x y : D} {k : Bool → Prop} (h1 : pl x = true) (h2 : pl y = true) (hd : dep x ≤ 199 ∨ dep y ≤ 199) (q : ∀ b : Bool, (b = true ↔ x = y) → k b) : eqQ M x y k := by
  unfold eqQ
  rw [py_pl h1, py_pl h2]
  exact ⟨lay_pl h1, lay_pl h2, by rw [depth_pl, depth_pl]; omega, q _ (eqv_pl h1 h2)⟩
theorem eqQ_ll {M : Mem} {a b : Nat} {ds es : List D} {k : Bool → Prop} (e1 : M[a]? = some (.lst ds)) (e2 : M[b]? = some (.lst es)) (h1 : pls ds = true) (h2 : pls es = true) (hd : deps ds ≤ 198 ∨ deps es ≤ 198) (q : ∀ b : Bool, (b = true ↔ ds = es) → k b) : eqQ M (.loc a) (.loc b) k := by
  unfold eqQ
  rw [py_lst e1 h1, py_lst e2 h2]
  refine ⟨by rw [PyData.canLay0]; exact lays_pl h1, by rw [PyData.canLay0]; exact lays_pl h2, by rw [PyData.depth, PyData.depth, depths_pl, depths_pl]; omega, q _ ?_⟩
  rw [PyData.eqv, eqvs_pl h1 h2]
theorem qEq_pl {M : Mem} {x y : D} {Q : QD} (h1 : pl x = true) (h2 : pl y = true) (hd : dep x ≤ 199 ∨ dep y ≤ 199) (q : ∀ b : Bool, (b = true ↔ x = y) → Q (.bl b) M) : qEq x y M Q := eqQ_pl h1 h2 hd q
theorem qNe_pl {M : Mem} {x y : D} {Q : QD} (h1 : pl x = true) (h2 : pl y = true) (hd : dep x ≤ 199 ∨ dep y ≤ 199) (q : ∀ b : Bool, (b = true ↔ x ≠ y) → Q (.bl b) M) : qNe x y M Q :=
  eqQ_pl h1 h2 hd fun b h => q _ (by rw [ne_eq, ← h]; cases b <;> simp)
theorem qNe_ll {M : Mem} {a b : Nat} {ds es : List D} {Q : QD} (e1 : M[a]? = some (.lst ds)) (e2 : M[b]? = some (.lst es)) (h1 : pls ds = true) (h2 : pls es = true) (hd : deps ds ≤ 198 ∨ deps es ≤ 198) (q : ∀ b : Bool, (b = true ↔ ds ≠ es) → Q (.bl b) M) : qNe (.loc a) (.loc b) M Q :=
  eqQ_ll e1 e2 h1 h2 hd fun b h => q _ (by rw [ne_eq, ← h]; cases b <;> simp)
theorem qEq_ii {M : Mem} {i j : Int} {Q : QD} : qEq (.int i) (.int j) M Q = Q (.bl (decide (i = j))) M := by
  unfold qEq eqQ py
  rw [pyG_pl (d := .int i) rfl, pyG_pl (d := .int j) rfl]
  unfold toP
  simp only [PyData.canLay0, PyData.depth, PyData.eqv]
  have : (i == j) = decide (i = j) := rfl
  rw [this]
  simp
theorem qNe_ii {M : Mem} {i j : Int} {Q : QD} : qNe (.int i) (.int j) M Q = Q (.bl (!decide (i = j))) M := by
  unfold qNe eqQ py
  rw [pyG_pl (d := .int i) rfl, pyG_pl (d := .int j) rfl]
  unfold toP
  simp only [PyData.canLay0, PyData.depth, PyData.eqv]
  have : (i == j) = decide (i = j) := rfl
  rw [this]
  simp
theorem pls_iff {ds : List D} : pls ds = true ↔ ∀ d ∈ ds, pl d = true := by
  induction ds with
  | nil => unfold pls; simp
  | cons d ds ih => unfold pls; rw [Bool.and_eq_true, ih]; simp
theorem deps_le {ds : List D} {n : Nat} (h : ∀ d ∈ ds, dep d ≤ n) : deps ds ≤ n := by
  induction ds with
  | nil => unfold deps; omega
  | cons d ds ih =>
    unfold deps
    have h1 := h d (List.mem_cons_self ..)
    have h2 := ih fun e he => h e (List.mem_cons_of_mem _ he)
    omega
theorem pls_ints {vs : List Int} : pls (vs.map D.int) = true := by
  rw [pls_iff]; intro d hd; obtain ⟨i, _, rfl⟩ := List.mem_map.mp hd; rfl
theorem deps_ints {vs : List Int} {n : Nat} : deps (vs.map D.int) ≤ n := deps_le fun d hd => by
  obtain ⟨i, _, rfl⟩ := List.mem_map.mp hd
  unfold dep; omega
end DL
namespace DL
open PySem L2
theorem cut1 {A R : DTS} {D : DEnds} {r : Rho} {M : Mem} (W : Rho → Mem → Prop) (h2 : ∀ r' M', W r' M' → R D r' M') (h1 : ∀ R', (∀ r' M', W r' M' → R' D r' M') → dSeq A R' D r M) : dSeq A R D r M := h1 R h2
theorem cut2 {A B R : DTS} {D : DEnds} {r : Rho} {M : Mem} (W : Rho → Mem → Prop) (h2 : ∀ r' M', W r' M' → R D r' M') (h1 : ∀ R', (∀ r' M', W r' M' → R' D r' M') → dSeq A (dSeq B R') D r M) : dSeq A (dSeq B R) D r M := h1 R h2
end DL
namespace DL
open PySem L2
end DL
namespace DL
theorem decT [h : Decidable True] : decide True = true := decide_eq_true trivial
theorem decF [h : Decidable False] : decide False = false := decide_eq_false id
end DL
namespace DL
open PySem L2
inductive Tm where
  | var (i : Int) | app (f : Str) (ts : List Tm)
instance : Inhabited Tm := ⟨.var 0⟩
theorem Tm.ind {P : Tm → Prop} (v : ∀ i, P (.var i)) (a : ∀ f ts, (∀ t ∈ ts, P t) → P (.app f ts)) : ∀ t, P t
  | .var i => v i
  | .app f ts => a f ts fun t h => Tm.ind v a t
mutual
def Tm.d : Tm → D
  | .var i => .int i
  | .app f ts => .tup (.str f :: Tm.ds ts)
def Tm.ds : List Tm → List D
  | [] => []
  | t :: ts => t.d :: Tm.ds ts
end
theorem Tm.ds_map : ∀ ts : List Tm, Tm.ds ts = ts.map Tm.d
  | [] => by unfold Tm.ds; rfl
  | t :: ts => by unfold Tm.ds; rw [Tm.ds_map ts]; rfl
theorem Tm.d_var (i : Int) : (Tm.var i).d = .int i := by unfold Tm.d; rfl
theorem Tm.d_app (f : Str) (ts : List Tm) : (Tm.app f ts).d = .tup (.str f :: ts.map Tm.d) := by unfold Tm.d; rw [Tm.ds_map]
mutual
def Tm.size : Tm → Nat
  | .var _ => 1
  | .app _ ts => 1 + Tm.sizes ts
def Tm.sizes : List Tm → Nat
  | [] => 0
  | t :: ts => t.size + Tm.sizes ts
end
theorem Tm.size_var (i : Int) : (Tm.var i).size = 1 := by unfold Tm.size; rfl
theorem Tm.size_app (f : Str) (ts : List Tm) : (Tm.app f ts).size = 1 + Tm.sizes ts := by unfold Tm.size; rfl
theorem Tm.sizes_nil : Tm.sizes [] = 0 := by unfold Tm.sizes; rfl
theorem Tm.sizes_cons (t : Tm) (ts : List Tm) : Tm.sizes (t :: ts) = t.size + Tm.sizes ts := by rw [Tm.sizes]
theorem Tm.size_pos (t : Tm) : 1 ≤ t.size := by
  cases t with
  | var i => rw [Tm.size_var]; omega
  | app f ts => rw [Tm.size_app]; omega
theorem Tm.size_mem {t : Tm} : ∀ {ts : List Tm}, t ∈ ts → t.size ≤ Tm.sizes ts
  | [], h => by cases h
  | u :: ts, h => by
    rw [Tm.sizes_cons]
    rcases List.mem_cons.mp h with rfl | h
    · omega
    · have := Tm.size_mem h; omega
theorem Tm.len_sizes : ∀ ts : List Tm, ts.length ≤ Tm.sizes ts
  | [] => by simp
  | t :: ts => by rw [Tm.sizes_cons, List.length_cons]; have := Tm.len_sizes ts; have := t.size_pos; omega
mutual
def Tm.deep : Tm → Nat
  | .var _ => 0
  | .app _ ts => 1 + Tm.deeps ts
def Tm.deeps : List Tm → Nat
  | [] => 0
  | t :: ts => max t.deep (Tm.deeps ts)
end
theorem Tm.deep_var (i : Int) : (Tm.var i).deep = 0 := by unfold Tm.deep; rfl
theorem Tm.deep_app (f : Str) (ts : List Tm) : (Tm.app f ts).deep = 1 + Tm.deeps ts := by unfold Tm.deep; rfl
theorem Tm.deeps_nil : Tm.deeps [] = 0 := by unfold Tm.deeps; rfl
theorem Tm.deeps_cons (t : Tm) (ts : List Tm) : Tm.deeps (t :: ts) = max t.deep (Tm.deeps ts) := by rw [Tm.deeps]
theorem Tm.deep_mem {t : Tm} : ∀ {ts : List Tm}, t ∈ ts → t.deep ≤ Tm.deeps ts
  | [], h => by cases h
  | u :: ts, h => by
    rw [Tm.deeps_cons]
    rcases List.mem_cons.mp h with rfl | h
    · omega
    · have := Tm.deep_mem h; omega
theorem Tm.deeps_le {ts : List Tm} {n : Nat} (h : ∀ t ∈ ts, t.deep ≤ n) : Tm.deeps ts ≤ n := by
  induction ts with
  | nil => rw [Tm.deeps_nil]; omega
  | cons t ts ih =>
    rw [Tm.deeps_cons]
    have h1 := h t (List.mem_cons_self ..)
    have h2 := ih fun u hu => h u (List.mem_cons_of_mem _ hu)
    omega
/-- no part of a term is a cell -/
theorem Tm.ok (n : Nat) : ∀ t : Tm, okD n t.d = true := by
  refine Tm.ind (fun i => ?_) fun f ts ih => ?_
  · rw [Tm.d_var]; rfl
  · rw [Tm.d_app]
    unfold okD
    rw [okDs_iff]
    intro d hd
    rcases List.mem_cons.mp hd with rfl | hd
    · rfl
    · obtain ⟨t, ht, rfl⟩ := List.mem_map.mp hd
      exact ih t ht
theorem Tm.d_inj {t u : Tm} (h : t.d = u.d) : t = u := by
  revert u
  refine (Tm.ind (P := fun t => ∀ u, t.d = u.d → t = u) (fun i u h => ?_) (fun f ts ih u h => ?_) t : ∀ u, t.d = u.d → t = u) _
  · cases u with
    | var j => rw [Tm.d_var, Tm.d_var] at h; cases h; rfl
    | app g us => rw [Tm.d_var, Tm.d_app] at h; cases h
  · cases u with
    | var j => rw [Tm.d_var, Tm.d_app] at h; cases h
    | app g us =>
      rw [Tm.d_app, Tm.d_app] at h
      injection h with h
      injection h with h1 h2
      injection h1 with h1
      subst h1
      have : ts = us := by
        induction ts generalizing us with
        | nil => cases us with
          | nil => rfl
          | cons _ _ => cases h2
        | cons a ts iht => cases us with
          | nil => cases h2
          | cons b us =>
            simp only [List.map_cons, List.cons.injEq] at h2
            rw [ih a (List.mem_cons_self ..) b h2.1, iht (fun t ht => ih t (List.mem_cons_of_mem _ ht)) us h2.2]
      rw [this]
mutual
def Tm.flat : Tm → List Int
  | .var i => [i]
  | .app _ ts => Tm.flats ts
def Tm.flats : List Tm → List Int
  | [] => []
  | t :: ts => t.flat ++ Tm.flats ts
end
theorem Tm.flat_var (i : Int) : (Tm.var i).flat = [i] := by unfold Tm.flat; rfl
theorem Tm.flat_app (f : Str) (ts : List Tm) : (Tm.app f ts).flat = Tm.flats ts := by unfold Tm.flat; rfl
theorem Tm.flats_nil : Tm.flats [] = [] := by unfold Tm.flats; rfl
theorem Tm.flats_cons (t : Tm) (ts : List Tm) : Tm.flats (t :: ts) = t.flat ++ Tm.flats ts := by rw [Tm.flats]
mutual
def Tm.pre : Tm → List Tm
  | .var i => [.var i]
  | .app f ts => .app f ts :: Tm.pres ts
def Tm.pres : List Tm → List Tm
  | [] => []
  | t :: ts => t.pre ++ Tm.pres ts
end
structure Sg where
  nm : Str
  ar : Nat
  wt : Nat
def Sg.d (s : Sg) : D := .tup [.str s.nm, .int s.ar, .int s.wt]
def tlS (x : Str) : List Nat := x.cps.toList
def GoodName (x : Str) : Prop := 1 ≤ (tlS x).length ∧ (tlS x).length ≤ 8 ∧ ∀ c ∈ tlS x, 97 ≤ c ∧ c ≤ 122
structure GoodSigns (ss : List Sg) : Prop where
  names : ∀ s ∈ ss, GoodName s.nm
  nd : (ss.map Sg.nm).Nodup
  ar : ∀ s ∈ ss, s.ar ≤ 4
  wt : ∀ s ∈ ss, 1 ≤ s.wt ∧ s.wt ≤ 9
  len : 4 ≤ ss.length ∧ ss.length ≤ 6
  has : ∀ k : Nat, k ≤ 2 → ∃ s ∈ ss, s.ar = k
/-- a term over signs -/
inductive Over (ss : List Sg) (vs : List Int) : Tm → Prop
  | var {i : Int} : i ∈ vs → Over ss vs (.var i)
  | app {s : Sg} {ts : List Tm} : s ∈ ss → ts.length = s.ar → (∀ t ∈ ts, Over ss vs t) → Over ss vs (.app s.nm ts)
/-- the numbers of blanks that a draw gives -/
structure Free (vs : List Int) : Prop where
  lim : ∀ i ∈ vs, 0 ≤ i ∧ i ≤ 999
  len : vs.length ≤ 4
  nd : vs.Nodup
theorem Tm.sizes_le {ts : List Tm} {n : Nat} (h : ∀ t ∈ ts, t.size ≤ n) : Tm.sizes ts ≤ ts.length * n := by
  induction ts with
  | nil => rw [Tm.sizes_nil]; omega
  | cons t ts ih =>
    rw [Tm.sizes_cons, List.length_cons, Nat.succ_mul]
    have h1 := h t (List.mem_cons_self ..)
    have h2 := ih fun u hu => h u (List.mem_cons_of_mem _ hu)
    omega
inductive Tm.Nm (p : Str → Prop) : Tm → Prop
  | var {i : Int} : Tm.Nm p (.var i)
  | app {f : Str} {ts : List Tm} : p f → (∀ t ∈ ts, Tm.Nm p t) → Tm.Nm p (.app f ts)
def NameOk (x : Str) : Prop := PyData.strOk x = true
theorem GoodName.ok {x : Str} (h : GoodName x) : NameOk x := by
  obtain ⟨_, _, h⟩ := h
  unfold NameOk PyData.strOk
  rw [Array.all_eq_true']
  intro c hc
  have := h c (by unfold tlS; simpa using hc)
  simp
  omega
theorem Over.nm {ss : List Sg} {vs : List Int} {t : Tm} (h : Over ss vs t) (hs : GoodSigns ss) : t.Nm NameOk := by
  induction h with
  | var _ => exact .var
  | app hm _ _ ih => exact .app (hs.names _ hm).ok ih
theorem Tm.sizes_mem {ts : List Tm} {n : Nat} (h : ∀ t ∈ ts, t.size ≤ n) (hl : ts.length ≤ 4) : Tm.sizes ts ≤ 4 * n := by
  have h1 := Tm.sizes_le h
  have h2 := Nat.mul_le_mul_right n hl
  omega
theorem Over.size {ss : List Sg} {vs : List Int} {t : Tm} (h : Over ss vs t) (hs : GoodSigns ss) : (t.deep ≤ 1 → t.size ≤ 5) ∧ (t.deep ≤ 2 → t.size ≤ 21) ∧ (t.deep ≤ 3 → t.size ≤ 85) ∧ (t.deep = 0 → t.size = 1) := by
  induction h with
  | var _ => rw [Tm.size_var]; omega
  | @app s ts hm hl _ ih =>
    rw [Tm.deep_app, Tm.size_app]
    have hl4 : ts.length ≤ 4 := by rw [hl]; exact hs.ar _ hm
    refine ⟨fun h => ?_, fun h => ?_, fun h => ?_, fun h => by omega⟩
    · have := Tm.sizes_mem (n := 1) (fun t ht => by have h1 := Tm.deep_mem ht; have := (ih t ht).2.2.2; omega) hl4
      omega
    · have := Tm.sizes_mem (n := 5) (fun t ht => by have h1 := Tm.deep_mem ht; exact (ih t ht).1 (by omega)) hl4
      omega
    · have := Tm.sizes_mem (n := 21) (fun t ht => by have h1 := Tm.deep_mem ht; exact (ih t ht).2.1 (by omega)) hl4
      omega
end DL
namespace DL
open PySem L2
section
variable {z : Zx}
def dDelT (to : DTE) (tl : DTO) : DTS := fun D r M => to r M fun x M1 => tl r M1 fun lo M2 => match x with
  | .loc n => (match M2[n]? with
    | some (.lst ds) => D.nx r (M2.set n (.lst (ds.take (HT.sIx ds.length 0 lo))))
    | _ => False)
  | _ => False
end
end DL
namespace DL
open PySem L2
section
variable {K : PySem.W.Frag} {m : List Addr} {H : Hp} {M : Mem}
def mergeD (kvs more : List (Key × D)) : List (Key × D) := more.foldl (fun acc kv => putD acc kv.1 kv.2) kvs
theorem RKV.merge : ∀ {more : List (Key × D)} {ms : List (Key × V)} {kvs : List (Key × D)} {ws : List (Key × V)}, RKV K m H more ms → RKV K m H kvs ws → RKV K m H (mergeD kvs more) (mergeK ws ms)
  | [], _, _, _, r, r' => by unfold RKV at r; subst r; exact r'
  | p :: more, _, kvs, ws, r, r' => by
    unfold RKV at r
    obtain ⟨v, s, rfl, r1, r2⟩ := r
    unfold mergeD mergeK
    rw [List.foldl_cons, List.foldl_cons]
    exact RKV.merge r2 (r'.put r1)
end
def dPairs : List (DTE × DTE) → Rho → Mem → (List (Key × D) → Mem → Prop) → Prop
  | [], _, M, Q => Q [] M
  | (tk, tv) :: rest, r, M, Q => tk r M fun k M1 => tv r M1 fun v M2 => (match keyD k with
    | some q => dPairs rest r M2 fun kvs M3 => Q ((q, v) :: kvs) M3
    | none => False)
section
variable {z : Zx} {pos : Pos}
def dDisp (dts : List (DTE × DTE)) : DTE := fun r M Q => dPairs dts r (M ++ [.dic []]) fun kvs M2 => M2[M.length]? = some (.dic []) ∧ kvs.length ≤ 15 ∧ Q (.loc M.length) (M2.set M.length (.dic (mergeD [] kvs)))
end
end DL
namespace DL
open PySem L2
end DL
namespace DL
open PySem L2
abbrev Fl := List (Int × Tm)
def flD (fs : Fl) : List (Key × D) := fs.map fun p => (Sum.inl p.1, p.2.d)
def getF (fs : Fl) (i : Int) : Option Tm := (fs.find? fun p => decide (p.1 = i)).map (·.2)
def putF (fs : Fl) (i : Int) (t : Tm) : Fl := if fs.any (fun p => decide (p.1 = i)) then fs.map (fun p => if p.1 = i then (p.1, t) else p) else fs ++ [(i, t)]
theorem val_flD (fs : Fl) (i : Int) : valD (flD fs) (Sum.inl i) = (getF fs i).map Tm.d := by
  unfold valD flD getF
  rw [List.find?_map, Option.map_map, Option.map_map]
  have : ((fun kv : Key × D => decide (kv.1 = Sum.inl i)) ∘ fun p : Int × Tm => ((Sum.inl p.1 : Key), p.2.d)) = fun p => decide (p.1 = i) := by
    funext p
    simp
  rw [this]
  rfl
theorem put_flD (fs : Fl) (i : Int) (t : Tm) : putD (flD fs) (Sum.inl i) t.d = flD (putF fs i t) := by
  unfold putD putF flD
  have e : (fs.map fun p => ((Sum.inl p.1 : Key), p.2.d)).any (fun kv => decide (kv.1 = Sum.inl i)) = fs.any (fun p => decide (p.1 = i)) := by
    rw [List.any_map]
    congr 1
    funext p
    simp
  rw [e]
  split
  · rw [List.map_map, List.map_map]
    refine List.map_congr_left fun p _ => ?_
    show (if (Sum.inl p.1 : Key) = Sum.inl i then ((Sum.inl p.1 : Key), t.d) else (Sum.inl p.1, p.2.d)) = _
    by_cases h : p.1 = i
    · simp [h]
    · simp [h]
  · rw [List.map_append]; rfl
theorem putF_len (fs : Fl) (i : Int) (t : Tm) : (putF fs i t).length ≤ fs.length + 1 := by
  unfold putF
  split <;> simp
theorem putF_all {p : Tm → Prop} {fs : Fl} {i : Int} {t : Tm} (h : ∀ q ∈ fs, p q.2) (ht : p t) : ∀ q ∈ putF fs i t, p q.2 := by
  intro q hq
  unfold putF at hq
  split at hq
  · obtain ⟨r, hr, e⟩ := List.mem_map.mp hq
    by_cases he : r.1 = i
    · rw [if_pos he] at e; rw [← e]; exact ht
    · rw [if_neg he] at e; rw [← e]; exact h r hr
  · rcases List.mem_append.mp hq with h' | h'
    · exact h q h'
    · rw [List.mem_singleton.mp h']; exact ht
theorem getF_mem {fs : Fl} {i : Int} {t : Tm} (h : getF fs i = some t) : ∃ q ∈ fs, q.2 = t := by
  unfold getF at h
  obtain ⟨q, e, rfl⟩ := Option.map_eq_some_iff.mp h
  exact ⟨q, List.mem_of_find?_eq_some e, rfl⟩
mutual
def Tm.fill (fs : Fl) : Tm → Tm
  | .var i => (getF fs i).getD (.var i)
  | .app f ts => .app f (Tm.fills fs ts)
def Tm.fills (fs : Fl) : List Tm → List Tm
  | [] => []
  | t :: ts => t.fill fs :: Tm.fills fs ts
end
theorem Tm.fills_map (fs : Fl) : ∀ ts : List Tm, Tm.fills fs ts = ts.map (Tm.fill fs)
  | [] => by unfold Tm.fills; rfl
  | t :: ts => by unfold Tm.fills; rw [Tm.fills_map fs ts]; rfl
theorem Tm.fill_var (fs : Fl) (i : Int) : (Tm.var i).fill fs = (getF fs i).getD (.var i) := by unfold Tm.fill; rfl
theorem Tm.fill_app (fs : Fl) (f : Str) (ts : List Tm) : (Tm.app f ts).fill fs = .app f (ts.map (Tm.fill fs)) := by unfold Tm.fill; rw [Tm.fills_map]
theorem Tm.fill_deep {fs : Fl} {n : Nat} (h : ∀ q ∈ fs, q.2.deep ≤ n) (t : Tm) : (t.fill fs).deep ≤ t.deep + n := by
  refine Tm.ind (P := fun t => (t.fill fs).deep ≤ t.deep + n) (fun i => ?_) (fun f ts ih => ?_) t
  · rw [Tm.fill_var]
    cases e : getF fs i with
    | none => rw [Option.getD_none, Tm.deep_var]; omega
    | some u =>
      obtain ⟨q, hq, rfl⟩ := getF_mem e
      have := h q hq
      rw [Option.getD_some]
      omega
  · rw [Tm.fill_app, Tm.deep_app, Tm.deep_app]
    have : Tm.deeps (ts.map (Tm.fill fs)) ≤ Tm.deeps ts + n := Tm.deeps_le fun u hu => by
      obtain ⟨v, hv, rfl⟩ := List.mem_map.mp hu
      have := ih v hv
      have := Tm.deep_mem hv
      omega
    omega
theorem Tm.fill_nm {p : Str → Prop} {fs : Fl} (h : ∀ q ∈ fs, q.2.Nm p) {t : Tm} (ht : t.Nm p) : (t.fill fs).Nm p := by
  induction ht with
  | @var i =>
    rw [Tm.fill_var]
    cases e : getF fs i with
    | none => exact .var
    | some u =>
      obtain ⟨q, hq, rfl⟩ := getF_mem e
      exact h q hq
  | app hf _ ih =>
    rw [Tm.fill_app]
    exact .app hf fun u hu => by
      obtain ⟨v, hv, rfl⟩ := List.mem_map.mp hu
      exact ih v hv
def Tm.parts : Tm → List Tm
  | .var _ => []
  | .app _ ts => ts
theorem pl_name {x : Str} (h : NameOk x) : pl (.str x) = true := by unfold pl; exact h
def keysNd (fs : Fl) : Prop := (fs.map (·.1)).Nodup
theorem putF_nd {fs : Fl} {i : Int} {t : Tm} (h : keysNd fs) : keysNd (putF fs i t) := by
  unfold keysNd putF at *
  split
  · rw [List.map_map]
    have : ((fun p : Int × Tm => p.1) ∘ fun p => if p.1 = i then (p.1, t) else p) = fun p => p.1 := by
      funext p
      by_cases h : p.1 = i <;> simp [h]
    rw [this]
    exact h
  · rename_i hn
    rw [List.map_append, List.nodup_append]
    refine ⟨h, by simp, ?_⟩
    intro a ha b hb
    have : b = i := by simpa using hb
    subst this
    rintro rfl
    obtain ⟨q, hq, e⟩ := List.mem_map.mp ha
    exact hn (List.any_eq_true.mpr ⟨q, hq, by simp [e]⟩)
theorem qNe_ss {M : Mem} {x y : Str} {Q : QD} (hx : NameOk x) (hy : NameOk y) (k : ∀ b : Bool, (b = true ↔ x ≠ y) → Q (.bl b) M) : qNe (.str x) (.str y) M Q :=
  qNe_pl (pl_name hx) (pl_name hy) (.inl (by unfold dep; omega)) fun b h => k b (by rw [h]; simp)
theorem zip_self {α : Type} (l : List α) : l.zip l = l.map fun x => (x, x) := by
  induction l with
  | nil => rfl
  | cons a l ih => rw [List.zip_cons_cons, ih]; rfl
theorem Tm.sizes_mul {ts : List Tm} {g : Tm → Tm} {n : Nat} (h : ∀ t ∈ ts, (g t).size ≤ t.size * n) : Tm.sizes (ts.map g) ≤ Tm.sizes ts * n := by
  induction ts with
  | nil => rw [List.map_nil, Tm.sizes_nil]; omega
  | cons t ts ih =>
    rw [List.map_cons, Tm.sizes_cons, Tm.sizes_cons, Nat.add_mul]
    have h1 := h t (List.mem_cons_self ..)
    have h2 := ih fun u hu => h u (List.mem_cons_of_mem _ hu)
    omega
theorem Tm.fill_size {fs : Fl} {n : Nat} (h1 : 1 ≤ n) (h : ∀ q ∈ fs, q.2.size ≤ n) (t : Tm) : (t.fill fs).size ≤ t.size * n := by
  refine Tm.ind (P := fun t => (t.fill fs).size ≤ t.size * n) (fun i => ?_) (fun f ts ih => ?_) t
  · rw [Tm.fill_var, Tm.size_var]
    cases e : getF fs i with
    | none => rw [Option.getD_none, Tm.size_var]; omega
    | some u =>
      obtain ⟨q, hq, rfl⟩ := getF_mem e
      have := h q hq
      rw [Option.getD_some]
      omega
  · rw [Tm.fill_app, Tm.size_app, Tm.size_app, Nat.add_mul]
    have := Tm.sizes_mul ih
    omega
end DL
namespace DL
open PySem L2
/-- the fields of an instance -/
def putN (f : Str) (v : D) : List (Str × D) → List (Str × D)
  | [] => [(f, v)]
  | (g, x) :: r => if g = f then (g, v) :: r else (g, x) :: putN f v r
section
variable {z : Zx} {K : PySem.W.Frag} {m : List Addr} {H : Hp} {M : Mem} {e o : Expr} {ta tv : DTE} {f : Str} {pos pos' apos : Pos} {C : Addr}
theorem RKV.lookup {k : Str} : ∀ {kvs : List (Str × D)} {ws : List (Str × V)}, RKV K m H kvs ws → (kvs.lookup k = none ∧ ws.lookup k = none) ∨ ∃ d v, kvs.lookup k = some d ∧ ws.lookup k = some v ∧ RD K m H d v
  | [], _, r => by unfold RKV at r; subst r; exact .inl ⟨rfl, rfl⟩
  | p :: kvs, _, r => by
    unfold RKV at r
    obtain ⟨v, s, rfl, r1, r2⟩ := r
    rw [List.lookup_cons, List.lookup_cons]
    cases h : k == p.1 with
    | true => exact .inr ⟨p.2, v, rfl, rfl, r1⟩
    | false => exact RKV.lookup r2
theorem RM.ins {n : Nat} {v : V} {fs : List (Str × D)} (r : RM K m H M) (d : RD K m H (.loc n) v) (e : M[n]? = some (.ins C fs)) : ∃ a dx ws, v = .ref a ∧ m[n]? = some a ∧ H a = some (.ins C dx ws) ∧ RKV K m H fs ws := by
  obtain ⟨a, rfl, ea, dx, ws, e2, q⟩ := r.loc d e
  exact ⟨a, dx, ws, rfl, ea, e2, q⟩
def dFld (C : Addr) (f : Str) (ta : DTE) : DTE := fun r M Q => ta r M fun x M1 => match x with
  | .loc n => (match M1[n]? with
    | some (.ins C' fs) => C' = C ∧ (match fs.lookup f with
      | some d => Q d M1
      | none => False)
    | _ => False)
  | _ => False
def dFldS (C : Addr) (f : Str) (ta tv : DTE) : DTS := fun D r M => tv r M fun y M1 => ta r M1 fun x M2 => match x with
  | .loc n => (match M2[n]? with
    | some (.ins C' fs) => C' = C ∧ fs.length < 1000 ∧ D.nx r (M2.set n (.ins C (putN f y fs)))
    | _ => False)
  | _ => False
def dMeth (C : Addr) (x : Str) (sp : DSp) (ta : DTE) (tas : DTA) : DTE := fun r M Q => ta r M fun y M1 => match y with
  | .loc n => (match M1[n]? with
    | some (.ins C' fs) => C' = C ∧ fs.lookup x = none ∧ tas r M1 fun ds M2 => sp (.loc n :: ds) M2 Q E0D
    | _ => False)
  | _ => False
def dMake (C : Addr) (sp : DSp) (ta : DTA) : DTE := fun r M Q => ta r M fun ds M1 => sp (.loc M1.length :: ds) (M1 ++ [.ins C []]) (fun d M2 => d = .non ∧ Q (.loc M1.length) M2) E0D
end
end DL
namespace DL
open PySem L2
section
variable {z : Zx} {K : PySem.W.Frag} {m : List Addr} {H : Hp} {M : Mem}
theorem de_gintE {x : Str} {i : Int} {pos : Pos} (hm : ∃ t, z.X.mg x = some (.int i t)) (hg : Gl z.X x := by rfl) (hd : (x == ("__debug__" : Str)) = false := by decide) : DE z (.Name x pos) (dC (.int i)) := by
  obtain ⟨t, h⟩ := hm
  exact de_gint h hg hd
def enumD : Nat → List D → List D
  | _, [] => []
  | i, d :: ds => .tup [.int (i : Nat), d] :: enumD (i + 1) ds
def dIEnum (ta : DTA) : DTI := fun r M R => ta r M fun xs M1 => match xs with
  | [.loc n] => (match M1[n]? with
    | some (.lst ds) => R ⟨enumD 0 ds, fun M => M[n]? = some (.lst ds)⟩ M1
    | _ => False)
  | _ => False
def dAugK (td ti : DTE) (te : DTE) (rd : DR2) : DTS := fun D r M => td r M fun x M1 => ti r M1 fun y M2 => match x with
  | .loc n => (match M2[n]? with
    | some (.dic kvs) => (match keyD y with
      | some k => (match valD kvs k with
        | some v => te r M2 fun y2 M3 => rd v y2 M3 fun w M4 => (match M4[n]? with
          | some (.dic kvs') => kvs'.length < sizeLine ∧ D.nx r (M4.set n (.dic (putD kvs' k w)))
          | _ => False)
        | none => False)
      | none => False)
    | _ => False)
  | _ => False
end
end DL
namespace DL
open PySem L2
def wtOf (f : Str) : List Sg → Nat
  | [] => 0
  | s :: ss => if s.nm = f then s.wt else wtOf f ss
def arOf (f : Str) : List Sg → Nat
  | [] => 0
  | s :: ss => if s.nm = f then s.ar else arOf f ss
mutual
def Tm.wt (ss : List Sg) : Tm → Nat
  | .var _ => 1
  | .app f ts => wtOf f ss + Tm.wts ss ts
def Tm.wts (ss : List Sg) : List Tm → Nat
  | [] => 0
  | t :: ts => t.wt ss + Tm.wts ss ts
end
noncomputable instance : DecidableEq Tm := fun _ _ => Classical.propDecidable _
end DL
namespace DL
open PySem L2
theorem GoodName.len {x : Str} (h : GoodName x) : 1 ≤ x.length ∧ x.length ≤ 8 := by
  obtain ⟨h1, h2, _⟩ := h
  unfold tlS at h1 h2
  rw [Array.length_toList] at h1 h2
  exact ⟨h1, h2⟩
end DL
namespace DL
open PySem L2
end DL
namespace DL
open PySem L2
end DL
namespace DL
open PySem L2
theorem valD_putD {kvs : List (Key × D)} {k k' : Key} {v : D} : valD (putD kvs k v) k' = if k = k' then some v else valD kvs k' := by
  unfold putD
  split
  · rename_i h
    induction kvs with
    | nil => cases h
    | cons p kvs ih =>
      rw [List.map_cons]
      by_cases hp : p.1 = k
      · by_cases hk : k = k'
        · simp [valD, List.find?_cons, hp, hk]
        · have ih' : valD (kvs.map fun kv => if kv.1 = k then (kv.1, v) else kv) k' = valD kvs k' := by
            clear ih h
            induction kvs with
            | nil => rfl
            | cons q kvs ihq =>
              rw [List.map_cons]
              by_cases hq : q.1 = k
              · have : ¬ k = k' := hk
                simp only [valD, List.find?_cons, hq, if_true, decide_eq_false this] at ihq ⊢
                exact ihq
              · rw [if_neg hq]
                by_cases hqk : q.1 = k'
                · simp [valD, List.find?_cons, hqk]
                · simp only [valD, List.find?_cons, decide_eq_false hqk] at ihq ⊢
                  exact ihq
          simp only [valD, List.find?_cons, hp, if_true, if_neg hk, decide_eq_false hk] at ih' ⊢
          exact ih'
      · rw [List.any_cons, decide_eq_false hp, Bool.false_or] at h
        have ih' := ih h
        rw [if_neg hp]
        by_cases hk' : p.1 = k'
        · have : ¬ k = k' := fun e => hp (by rw [hk', e])
          simp [valD, List.find?_cons, hk', this]
        · simp only [valD, List.find?_cons, decide_eq_false hk'] at ih' ⊢
          exact ih'
  · rename_i h
    by_cases hk : k = k'
    · subst hk
      rw [if_pos rfl]
      have : ∀ p ∈ kvs, ¬ decide (p.1 = k) = true := fun p hp e => h (List.any_eq_true.mpr ⟨p, hp, e⟩)
      unfold valD
      rw [List.find?_append, List.find?_eq_none.mpr this]
      simp
    · rw [if_neg hk]
      unfold valD
      rw [List.find?_append]
      cases e : kvs.find? (fun kv => decide (kv.1 = k')) with
      | none => simp [hk]
      | some x => simp
/-- numbers by numbers, none where it is nought or not there -/
def Cnt (kvs : List (Key × D)) (f : Int → Int) : Prop := ∀ i, (valD kvs (Sum.inl i)).getD (D.int 0) = .int (f i)
theorem Cnt.put {kvs : List (Key × D)} {f g : Int → Int} {i v : Int} (h : Cnt kvs f) (hg : ∀ j, g j = if i = j then v else f j) : Cnt (putD kvs (Sum.inl i) (.int v)) g := by
  intro j
  rw [valD_putD, hg]
  by_cases e : i = j
  · subst e; simp
  · have : ¬ (Sum.inl i : Key) = Sum.inl j := fun h => e (by injection h)
    rw [if_neg this, if_neg e]
    exact h j
theorem Cnt.some {kvs : List (Key × D)} {f : Int → Int} {i : Int} (h : Cnt kvs f) (hf : f i ≠ 0) : valD kvs (Sum.inl i) = some (.int (f i)) := by
  have := h i
  cases e : valD kvs (Sum.inl i) with
  | none =>
    rw [e] at this
    have h2 : D.int 0 = .int (f i) := this
    injection h2 with h2
    exact absurd h2.symm hf
  | some d => rw [e] at this; exact congrArg _ this
end DL
namespace DL
open PySem L2
end DL
namespace DL
end DL
namespace DL
open PySem L2
structure Fit (ss : List Sg) (t : Tm) : Prop where
  nm : t.Nm (fun f => f ∈ ss.map Sg.nm)
  ok : t.Nm NameOk
  deep : t.deep ≤ 199
  size : t.size ≤ 1000
theorem Tm.Nm.arg {p : Str → Prop} {f : Str} {ts : List Tm} (h : (Tm.app f ts).Nm p) : ∀ t ∈ ts, t.Nm p := by
  cases h with
  | app _ h => exact h
theorem Tm.Nm.hd {p : Str → Prop} {f : Str} {ts : List Tm} (h : (Tm.app f ts).Nm p) : p f := by
  cases h with
  | app h _ => exact h
theorem Fit.arg {ss : List Sg} {f : Str} {ts : List Tm} (h : Fit ss (.app f ts)) {t : Tm} (ht : t ∈ ts) : Fit ss t := by
  have h3 := h.deep
  have h4 := h.size
  rw [Tm.deep_app] at h3
  rw [Tm.size_app] at h4
  have := Tm.deep_mem ht
  have := Tm.size_mem ht
  exact ⟨h.nm.arg t ht, h.ok.arg t ht, by omega, by omega⟩
end DL
namespace DL
open PySem L2
/-- all names stand among the signs with just so many parts -/
inductive Tm.Sized (ss : List Sg) : Tm → Prop
  | var {i : Int} : Tm.Sized ss (.var i)
  | app {f : Str} {ts : List Tm} : ts.length = arOf f ss → (∀ t ∈ ts, Tm.Sized ss t) → Tm.Sized ss (.app f ts)
theorem Tm.Sized.arg {ss : List Sg} {f : Str} {ts : List Tm} (h : (Tm.app f ts).Sized ss) : ∀ t ∈ ts, t.Sized ss := by
  cases h with
  | app _ h => exact h
theorem Tm.Sized.len {ss : List Sg} {f : Str} {ts : List Tm} (h : (Tm.app f ts).Sized ss) : ts.length = arOf f ss := by
  cases h with
  | app h _ => exact h
/-- without blanks -/
def Tm.Bare (t : Tm) : Prop := t.flat = []
theorem Tm.Bare.arg {f : Str} {ts : List Tm} (h : (Tm.app f ts).Bare) : ∀ t ∈ ts, t.Bare := by
  unfold Tm.Bare at *
  rw [Tm.flat_app] at h
  induction ts with
  | nil => intro t ht; cases ht
  | cons a ts ih =>
    rw [Tm.flats_cons, List.append_eq_nil_iff] at h
    intro t ht
    rcases List.mem_cons.mp ht with rfl | ht
    · exact h.1
    · exact ih h.2 t ht
end DL
namespace DL
open PySem L2
def plcD (p : List Nat) : D := .tup (p.map fun k => D.int (k : Nat))
mutual
def Tm.places : Tm → List (List Nat)
  | .var _ => [[]]
  | .app _ ts => Tm.placesL 0 ts ++ [[]]
def Tm.placesL : Nat → List Tm → List (List Nat)
  | _, [] => []
  | i, t :: ts => (t.places.map fun p => (i + 1) :: p) ++ Tm.placesL (i + 1) ts
end
theorem Tm.places_var (i : Int) : (Tm.var i).places = [[]] := by unfold Tm.places; rfl
theorem Tm.places_app (f : Str) (ts : List Tm) : (Tm.app f ts).places = Tm.placesL 0 ts ++ [[]] := by unfold Tm.places; rfl
theorem Tm.placesL_nil (i : Nat) : Tm.placesL i [] = [] := by unfold Tm.placesL; rfl
theorem Tm.placesL_cons (i : Nat) (t : Tm) (ts : List Tm) : Tm.placesL i (t :: ts) = (t.places.map fun p => (i + 1) :: p) ++ Tm.placesL (i + 1) ts := by rw [Tm.placesL]
theorem Tm.placesL_append : ∀ (i : Nat) (ts us : List Tm), Tm.placesL i (ts ++ us) = Tm.placesL i ts ++ Tm.placesL (i + ts.length) us
  | i, [], us => by rw [Tm.placesL_nil]; rfl
  | i, t :: ts, us => by
    rw [List.cons_append, Tm.placesL_cons, Tm.placesL_cons, Tm.placesL_append (i + 1) ts us, List.append_assoc, List.length_cons, show i + (ts.length + 1) = i + 1 + ts.length by omega]
/-- the part at a place -/
def Tm.at_ : List Nat → Tm → Option Tm
  | [], t => some t
  | k :: p, t => match t with
    | .var _ => none
    | .app _ ts => if 1 ≤ k then (match ts[k - 1]? with
      | some u => Tm.at_ p u
      | none => none) else none
/-- the term with another part at a place -/
def Tm.put (new : Tm) : List Nat → Tm → Tm
  | [], _ => new
  | k :: p, t => match t with
    | .var i => .var i
    | .app f ts => (match ts[k - 1]? with
      | some u => .app f (ts.set (k - 1) (Tm.put new p u))
      | none => .app f ts)
theorem Tm.placesL_mem : ∀ {ts : List Tm} {i : Nat} {p : List Nat}, p ∈ Tm.placesL i ts → ∃ j q u, p = (i + j + 1) :: q ∧ ts[j]? = some u ∧ q ∈ u.places
  | [], i, p, h => by rw [Tm.placesL_nil] at h; cases h
  | t :: ts, i, p, h => by
    rw [Tm.placesL_cons] at h
    rcases List.mem_append.mp h with h | h
    · obtain ⟨q, hq, rfl⟩ := List.mem_map.mp h
      exact ⟨0, q, t, rfl, rfl, hq⟩
    · obtain ⟨j, q, u, rfl, hj, hq⟩ := Tm.placesL_mem h
      exact ⟨j + 1, q, u, by rw [show i + 1 + j = i + (j + 1) by omega], hj, hq⟩
theorem Tm.at_places : ∀ (p : List Nat) {t : Tm}, p ∈ t.places → ∃ u, t.at_ p = some u
  | [], t, _ => ⟨t, by unfold Tm.at_; rfl⟩
  | k :: p, t, h => by
    cases t with
    | var i => rw [Tm.places_var] at h; simp at h
    | app f ts =>
      rw [Tm.places_app] at h
      rcases List.mem_append.mp h with h | h
      · obtain ⟨j, q, u, e, hj, hq⟩ := Tm.placesL_mem h
        injection e with e1 e2
        subst e1 e2
        obtain ⟨v, hv⟩ := Tm.at_places p hq
        refine ⟨v, ?_⟩
        unfold Tm.at_
        simp only [Nat.zero_add, Nat.add_sub_cancel, hj]
        rw [if_pos (by omega)]
        exact hv
      · simp at h
/-- a step down -/
theorem Tm.at_cons {k : Nat} {p : List Nat} {t v : Tm} (h : t.at_ (k :: p) = some v) : ∃ f ts u, t = .app f ts ∧ 1 ≤ k ∧ ts[k - 1]? = some u ∧ u.at_ p = some v := by
  cases t with
  | var i => unfold Tm.at_ at h; cases h
  | app f ts =>
    unfold Tm.at_ at h
    by_cases hk : 1 ≤ k
    · simp only [if_pos hk] at h
      cases hu : ts[k - 1]? with
      | none => rw [hu] at h; cases h
      | some u => rw [hu] at h; exact ⟨f, ts, u, rfl, hk, hu, h⟩
    · simp only [if_neg hk] at h; cases h
theorem Tm.put_nil (new t : Tm) : Tm.put new [] t = new := by unfold Tm.put; rfl
theorem Tm.put_app {new : Tm} {k : Nat} {p : List Nat} {f : Str} {ts : List Tm} {u : Tm} (h : ts[k - 1]? = some u) : Tm.put new (k :: p) (.app f ts) = .app f (ts.set (k - 1) (Tm.put new p u)) := by
  rw [Tm.put]
  simp only [h]
theorem Over.put {ss : List Sg} {vs : List Int} {new : Tm} (hn : Over ss vs new) : ∀ (p : List Nat) {t v : Tm}, t.at_ p = some v → Over ss vs t → Over ss vs (Tm.put new p t)
  | [], t, _, _, _ => by rw [Tm.put_nil]; exact hn
  | k :: p, t, v, h, ho => by
    obtain ⟨f, ts, u, rfl, hk, hu, hv⟩ := Tm.at_cons h
    rw [Tm.put_app hu]
    cases ho with
    | @app s ts hm hl ha =>
      refine .app hm (by rw [List.length_set]; exact hl) fun x hx => ?_
      rcases List.mem_or_eq_of_mem_set hx with hx | hx
      · exact ha x hx
      · rw [hx]
        exact Over.put hn p hv (ha u (List.mem_of_getElem? hu))
theorem Tm.sizes_set {ts : List Tm} {i : Nat} {u v : Tm} (h : ts[i]? = some u) : Tm.sizes (ts.set i v) + u.size = Tm.sizes ts + v.size := by
  induction ts generalizing i with
  | nil => cases h
  | cons t ts ih =>
    cases i with
    | zero =>
      cases h
      rw [List.set_cons_zero, Tm.sizes_cons, Tm.sizes_cons]
      omega
    | succ i =>
      rw [List.set_cons_succ, Tm.sizes_cons, Tm.sizes_cons]
      have := ih (i := i) h
      omega
end DL
namespace DL
open PySem L2
theorem qEq_ss {M : Mem} {x y : Str} {Q : QD} (hx : NameOk x) (hy : NameOk y) (k : ∀ b : Bool, (b = true ↔ x = y) → Q (.bl b) M) : qEq (.str x) (.str y) M Q :=
  qEq_pl (pl_name hx) (pl_name hy) (.inl (by unfold dep; omega)) fun b h => k b (by rw [h]; simp)
end DL
namespace DL
end DL
namespace DL
open PySem L2
end DL
namespace DL
open PySem L2
end DL
namespace DL
open PySem L2
end DL
namespace DL
open PySem PySem.Spec PyProof.Rows RT
end DL
namespace DL
open PySem PySem.Spec PyProof.Rows L2 RT
end DL
namespace DL
open PySem L2
def dListRev (te : DTE) : DTE := fun r M Q => te r M fun x M1 => match lstD x M1 with
  | some ds => Q (.loc M1.length) (M1 ++ [.lst ds.reverse])
  | none => False
end DL
namespace DL
open PySem L2
end DL
namespace DL
open PySem L2
end DL
namespace DL
open PySem L2
structure FitB (ss : List Sg) (t : Tm) : Prop where
  nm : t.Nm (fun f => f ∈ ss.map Sg.nm)
  ok : t.Nm NameOk
  deep : t.deep ≤ 200
  size : t.size ≤ 1000
theorem FitB.arg {ss : List Sg} {f : Str} {ts : List Tm} (h : FitB ss (.app f ts)) {t : Tm} (ht : t ∈ ts) : FitB ss t := by
  have h3 := h.deep
  have h4 := h.size
  rw [Tm.deep_app] at h3
  rw [Tm.size_app] at h4
  have := Tm.deep_mem ht
  have := Tm.size_mem ht
  exact ⟨h.nm.arg t ht, h.ok.arg t ht, by omega, by omega⟩
theorem Over.sub {ss ss' : List Sg} {vs vs' : List Int} {t : Tm} (h : Over ss vs t) (h1 : ∀ s ∈ ss, s ∈ ss') (h2 : ∀ v ∈ vs, v ∈ vs') : Over ss' vs' t := by
  induction h with
  | var hi => exact .var (h2 _ hi)
  | app hs hl _ ih => exact .app (h1 _ hs) hl ih
end DL
namespace DL
open PySem L2
theorem Over.arg {ss : List Sg} {vs : List Int} {f : Str} {ts : List Tm} (h : Over ss vs (.app f ts)) : ∀ t ∈ ts, Over ss vs t := by
  cases h with
  | app _ _ h => exact h
end DL
namespace DL
open PySem L2
end DL
namespace DL
open PySem L2
end DL
namespace DL
open PySem L2
end DL
namespace DL
open PySem L2
end DL
namespace DL
open PySem PySem.Spec PyProof.Rows RZ PySem.W
end DL
namespace DL
open PySem PySem.Spec PyProof.Rows RT RZ PySem.W L2
end DL
namespace DL
open PySem PySem.Spec PyProof.Rows L2 RT RZ
end DL
namespace DL
open PySem L2
section
variable {K : PySem.W.Frag} {m m' : List Addr} {H H' : Hp} {M : Mem}
theorem RM.up (r : RM K m H M) (k : ∀ b o, H b = some o → H' b = some o) : RM K m H' M where
  len := r.len
  nd := r.nd
  ob := fun n o e => by
    obtain ⟨a, ea, q⟩ := r.ob n o e
    exact ⟨a, ea, q.mono (List.prefix_refl _) (.of (fun b xs e => k _ _ e) (fun b o u e => k _ _ e) fun b o e => k _ _ e) fun u e => k _ _ e⟩
end
/-- list(zip(a, b)) -/
def dListZip (ta : DTA) : DTE := fun r M Q => ta r M fun xs M1 => match xs with
  | [.tup ds, .tup es] => Q (.loc M1.length) (M1 ++ [.lst ((ds.zip es).map fun p => .tup [p.1, p.2])])
  | [x, y] => (match lstD x M1, lstD y M1 with
    | some ds, some es => Q (.loc M1.length) (M1 ++ [.lst ((ds.zip es).map fun p => .tup [p.1, p.2])])
    | _, _ => False)
  | _ => False
end DL
namespace DL
open PySem L2
def mSetd : DRM := fun x xs M Q => match x with
  | .loc n => (match M[n]? with
    | some (.dic kvs) => (match xs with
      | [k, d] => (match keyD k with
        | some j => kvs.length < sizeLine ∧ (match valD kvs j with
          | some v => Q v M
          | none => Q d (M.set n (.dic (putD kvs j d))))
        | none => False)
      | _ => False)
    | _ => False)
  | _ => False
def keyItems (kvs : List (Key × D)) : List D := kvs.map fun kv => keyV kv.1
def dForD (i : Nat) (g : DTG) (tb : DTS) : DTS := fun D r M => match r[i]? with
  | some (some (.loc n)) => (match M[n]? with
    | some (.dic kvs) => forGo (fun M' => M'[n]? = some (.fdic kvs)) g tb
        { nx := fun r' M' => M'[n]? = some (.fdic kvs) ∧ D.nx r' (M'.set n (.dic kvs)), rt := fun d M' => M'[n]? = some (.fdic kvs) ∧ D.rt d (M'.set n (.dic kvs)), bk := fun r' M' => M'[n]? = some (.fdic kvs) ∧ D.bk r' (M'.set n (.dic kvs)), ct := fun r' M' => M'[n]? = some (.fdic kvs) ∧ D.ct r' (M'.set n (.dic kvs)) }
        (keyItems kvs) r (M.set n (.fdic kvs))
    | _ => False)
  | _ => False
end DL
namespace DL
open PySem L2
def cat2 (a b : Option Fl) : Option Fl := match a, b with
  | some x, some y => some (x ++ y)
  | _, _ => none
mutual
noncomputable def Tm.binds : Tm → Tm → Option Fl
  | .var i, t => some [(i, t)]
  | .app f ts, u => (match u with
    | .var _ => none
    | .app g us => if f = g then Tm.bindss ts us else none)
noncomputable def Tm.bindss : List Tm → List Tm → Option Fl
  | [], us => (match us with
    | [] => some []
    | _ :: _ => none)
  | t :: ts, us => (match us with
    | [] => none
    | u :: us => cat2 (Tm.binds t u) (Tm.bindss ts us))
end
theorem Tm.binds_var (i : Int) (t : Tm) : Tm.binds (.var i) t = some [(i, t)] := by rw [Tm.binds]
theorem Tm.binds_av (f : Str) (ts : List Tm) (j : Int) : Tm.binds (.app f ts) (.var j) = none := by rw [Tm.binds]
theorem Tm.binds_aa (f g : Str) (ts us : List Tm) : Tm.binds (.app f ts) (.app g us) = if f = g then Tm.bindss ts us else none := by rw [Tm.binds]
theorem Tm.bindss_nil : Tm.bindss [] [] = some [] := by rw [Tm.bindss]
theorem Tm.bindss_cons (t u : Tm) (ts us : List Tm) : Tm.bindss (t :: ts) (u :: us) = cat2 (Tm.binds t u) (Tm.bindss ts us) := by rw [Tm.bindss]
/-- the pairs that wait -/
noncomputable def bindp : List (Tm × Tm) → Option Fl
  | [] => some []
  | p :: ps => cat2 (p.1.binds p.2) (bindp ps)
theorem bindss_len : ∀ {ts us : List Tm}, ts.length ≠ us.length → Tm.bindss ts us = none
  | [], [], h => absurd rfl h
  | [], _ :: _, _ => by rw [Tm.bindss]
  | _ :: _, [], _ => by rw [Tm.bindss]
  | t :: ts, u :: us, h => by
    rw [Tm.bindss_cons, bindss_len (fun e => h (by simp [e]))]
    unfold cat2
    cases Tm.binds t u <;> rfl
theorem bindss_zip : ∀ {ts us : List Tm}, ts.length = us.length → Tm.bindss ts us = bindp (ts.zip us)
  | [], [], _ => by rw [Tm.bindss_nil]; rfl
  | [], _ :: _, h => by cases h
  | _ :: _, [], h => by cases h
  | t :: ts, u :: us, h => by
    rw [Tm.bindss_cons, bindss_zip (by simpa using h)]
    rfl
/-- the same demands, in any order: a is Bd and b -/
def Dem (a : Option Fl) (Bd : Fl) (b : Option Fl) : Prop := match a, b with
  | none, none => True
  | some L, some L' => ∀ x, x ∈ L ↔ x ∈ Bd ∨ x ∈ L'
  | _, _ => False
theorem Dem.start (a : Option Fl) : Dem a [] (cat2 a (some [])) := by
  cases a with
  | none => exact trivial
  | some L => intro x; simp
theorem Dem.var {a : Option Fl} {Bd : Fl} {b : Option Fl} {i : Int} {u : Tm} (h : Dem a Bd (cat2 (some [(i, u)]) b)) : Dem a (Bd ++ [(i, u)]) b := by
  cases a with
  | none => cases b with
    | none => exact trivial
    | some L' => exact h
  | some L => cases b with
    | none => exact h
    | some L' =>
      intro x
      rw [h x, List.mem_append, List.mem_append, or_assoc]
/-- of two rows of demands either both are none, or both ask the same -/
def Alike (b c : Option Fl) : Prop := match b, c with
  | none, none => True
  | some L, some L' => ∀ x, x ∈ L ↔ x ∈ L'
  | _, _ => False
theorem Alike.refl (b : Option Fl) : Alike b b := by
  cases b with
  | none => exact trivial
  | some L => exact fun x => Iff.rfl
theorem Alike.trans {a b c : Option Fl} (h : Alike a b) (h' : Alike b c) : Alike a c := by
  cases a <;> cases b <;> cases c <;> simp [Alike] at h h' ⊢
  intro x y
  rw [h, h']
theorem Dem.alike {a : Option Fl} {Bd : Fl} {b c : Option Fl} (h : Dem a Bd b) (h' : Alike b c) : Dem a Bd c := by
  cases a <;> cases b <;> cases c <;> simp [Dem, Alike] at h h' ⊢
  intro x y
  rw [h, h']
theorem cat2_swap (a b c : Option Fl) : Alike (cat2 a (cat2 b c)) (cat2 b (cat2 a c)) := by
  cases a <;> cases b <;> cases c <;> simp [cat2, Alike]
  intro x y
  constructor <;> (rintro (h | h | h) <;> simp [h])
theorem cat2_assoc (a b c : Option Fl) : cat2 (cat2 a b) c = cat2 a (cat2 b c) := by
  cases a <;> cases b <;> cases c <;> simp [cat2]
theorem bindp_append (ps qs : List (Tm × Tm)) : bindp (ps ++ qs) = cat2 (bindp ps) (bindp qs) := by
  induction ps with
  | nil => show bindp qs = cat2 (some []) (bindp qs); cases bindp qs <;> rfl
  | cons p ps ih => rw [List.cons_append]; show cat2 _ (bindp (ps ++ qs)) = cat2 (cat2 _ _) _; rw [ih, cat2_assoc]
theorem bindp_rev : ∀ (ps qs : List (Tm × Tm)), Alike (bindp (ps ++ qs)) (bindp (ps.reverse ++ qs))
  | [], qs => Alike.refl _
  | p :: ps, qs => by
    rw [List.reverse_cons, List.append_assoc]
    have h1 := bindp_rev ps (p :: qs)
    refine Alike.trans ?_ h1
    show Alike (cat2 _ (bindp (ps ++ qs))) _
    rw [bindp_append, bindp_append]
    exact cat2_swap _ _ _
/-- what a filling of just the blanks is -/
def Fits (p t : Tm) (fs : Fl) : Prop := ∃ L, p.binds t = some L ∧ keysNd fs ∧ ∀ i u, getF fs i = some u ↔ (i, u) ∈ L
def NoFit (p t : Tm) : Prop := p.binds t = none ∨ ∃ L i u v, p.binds t = some L ∧ (i, u) ∈ L ∧ (i, v) ∈ L ∧ u ≠ v
theorem getF_putF {fs : Fl} {i j : Int} {t : Tm} : getF (putF fs i t) j = if i = j then some t else getF fs j := by
  have h := val_flD (putF fs i t) j
  rw [← put_flD, valD_putD] at h
  by_cases e : i = j
  · rw [if_pos e]
    rw [if_pos (by rw [e])] at h
    cases g : getF (putF fs i t) j with
    | none => rw [g] at h; cases h
    | some u => rw [g] at h; injection h with h; rw [Tm.d_inj h]
  · rw [if_neg e]
    rw [if_neg (fun z => e (by injection z)), val_flD] at h
    cases g : getF (putF fs i t) j with
    | none =>
      rw [g] at h
      cases g' : getF fs j with
      | none => rfl
      | some u => rw [g'] at h; cases h
    | some u =>
      rw [g] at h
      cases g' : getF fs j with
      | none => rw [g'] at h; cases h
      | some u' => rw [g'] at h; injection h with h; rw [Tm.d_inj h]
theorem getF_keys {fs : Fl} {i : Int} : i ∈ (fs.map fun p => p.1) ↔ ∃ u, getF fs i = some u := by
  unfold getF
  constructor
  · intro h
    obtain ⟨p, hp, e⟩ := List.mem_map.mp h
    cases q : fs.find? (fun p => decide (p.1 = i)) with
    | none => exact absurd (List.find?_eq_none.mp q p hp) (by simp [e])
    | some r => exact ⟨r.2, rfl⟩
  · rintro ⟨u, h⟩
    cases q : fs.find? (fun p => decide (p.1 = i)) with
    | none => rw [q] at h; cases h
    | some r =>
      have h1 := List.mem_of_find?_eq_some q
      have h2 := List.find?_some q
      exact List.mem_map.mpr ⟨r, h1, of_decide_eq_true h2⟩
theorem sub_len {α : Type} : ∀ {l l' : List α}, l.Nodup → (∀ x ∈ l, x ∈ l') → l.length ≤ l'.length
  | [], _, _, _ => Nat.zero_le _
  | a :: l, l', hn, hs => by
    have ha := hs a (List.mem_cons_self ..)
    obtain ⟨s, t, rfl⟩ := List.append_of_mem ha
    rw [List.nodup_cons] at hn
    have := sub_len (l' := s ++ t) hn.2 fun x hx => by
      have h1 := hs x (List.mem_cons_of_mem _ hx)
      rcases List.mem_append.mp h1 with h | h
      · exact List.mem_append_left _ h
      · rcases List.mem_cons.mp h with h | h
        · subst h; exact absurd hx hn.1
        · exact List.mem_append_right _ h
    simp only [List.length_append, List.length_cons] at this ⊢
    omega
theorem Fits.same {p t : Tm} {fs gs : Fl} (h : Fits p t fs) (h' : Fits p t gs) : fs.length = gs.length ∧ ∀ i, getF fs i = getF gs i := by
  obtain ⟨L, e, n1, h1⟩ := h
  obtain ⟨L', e', n2, h2⟩ := h'
  rw [e] at e'
  cases e'
  have hg : ∀ i, getF fs i = getF gs i := fun i => by
    cases q : getF fs i with
    | none =>
      cases q' : getF gs i with
      | none => rfl
      | some u => have := (h1 i u).mpr ((h2 i u).mp q'); rw [q] at this; cases this
    | some u => exact ((h2 i u).mpr ((h1 i u).mp q)).symm
  refine ⟨?_, hg⟩
  have k1 := sub_len (l := List.map (fun p : Int × Tm => p.1) fs) (l' := List.map (fun p : Int × Tm => p.1) gs) n1 fun i hi => by
    obtain ⟨u, hu⟩ := getF_keys.mp hi
    exact getF_keys.mpr ⟨u, by rw [← hg]; exact hu⟩
  have k2 := sub_len (l := List.map (fun p : Int × Tm => p.1) gs) (l' := List.map (fun p : Int × Tm => p.1) fs) n2 fun i hi => by
    obtain ⟨u, hu⟩ := getF_keys.mp hi
    exact getF_keys.mpr ⟨u, by rw [hg]; exact hu⟩
  rw [List.length_map, List.length_map] at k1 k2
  omega
/-- all values are parts of the term -/
inductive Tm.In : Tm → Tm → Prop
  | here {t : Tm} : Tm.In t t
  | arg {u t : Tm} {f : Str} {ts : List Tm} : t ∈ ts → Tm.In u t → Tm.In u (.app f ts)
theorem Tm.In.good {u t : Tm} (h : Tm.In u t) : u.deep ≤ t.deep ∧ u.size ≤ t.size ∧ ∀ {p : Str → Prop}, t.Nm p → u.Nm p := by
  induction h with
  | here => exact ⟨Nat.le_refl _, Nat.le_refl _, fun h => h⟩
  | arg hm _ ih =>
    have h1 := Tm.deep_mem hm
    have h2 := Tm.size_mem hm
    rw [Tm.deep_app, Tm.size_app]
    exact ⟨by omega, by omega, fun h => ih.2.2 (h.arg _ hm)⟩
theorem In.down {x t : Tm} {f : Str} {ts : List Tm} (h : Tm.In (.app f ts) x) (ht : t ∈ ts) : Tm.In t x := by
  generalize e : Tm.app f ts = y at h
  revert e
  induction h with
  | here => intro e; subst e; exact .arg ht .here
  | arg hm _ ih => intro e; exact .arg hm (ih e)
theorem sum_rev (l : List Nat) : l.reverse.sum = l.sum := by
  induction l with
  | nil => rfl
  | cons a l ih => rw [List.reverse_cons, List.sum_append, List.sum_cons, ih]; simp; omega
/-- how far a loop over pairs that wait is: st waits, the top one first; fs is what stands -/
structure Way (p t : Tm) (st : List (Tm × Tm)) (fs : Fl) : Prop where
  dem : ∃ Bd, Dem (p.binds t) Bd (bindp st) ∧ ∀ i u, getF fs i = some u ↔ (i, u) ∈ Bd
  nd : keysNd fs
  sub : ∀ q ∈ st, Tm.In q.2 t
  subF : ∀ q ∈ fs, Tm.In q.2 t
  len : fs.length + (st.map fun q => q.1.size).sum ≤ p.size
  nm : ∀ q ∈ st, Tm.In q.1 p
theorem Way.start (p t : Tm) : Way p t [(p, t)] [] where
  dem := ⟨[], Dem.start _, fun i u => by simp [getF]⟩
  nd := by unfold keysNd; exact List.nodup_nil
  sub := fun q hq => by rw [List.mem_singleton.mp hq]; exact .here
  subF := fun q hq => by cases hq
  len := by simp
  nm := fun q hq => by rw [List.mem_singleton.mp hq]; exact .here
/-- a blank that is new or stands for the same -/
theorem Way.var {p t : Tm} {st : List (Tm × Tm)} {fs : Fl} {i : Int} {u : Tm} (w : Way p t ((.var i, u) :: st) fs) (h : getF fs i = none ∨ getF fs i = some u) : Way p t st (putF fs i u) := by
  obtain ⟨Bd, hd, hg⟩ := w.dem
  have hd' : Dem (p.binds t) (Bd ++ [(i, u)]) (bindp st) := Dem.var (by rw [← Tm.binds_var]; exact hd)
  refine ⟨⟨_, hd', fun j v => ?_⟩, putF_nd w.nd, fun q hq => w.sub q (List.mem_cons_of_mem _ hq), ?_, ?_, fun q hq => w.nm q (List.mem_cons_of_mem _ hq)⟩
  · rw [getF_putF, List.mem_append, List.mem_singleton]
    by_cases e : i = j
    · subst e
      rw [if_pos rfl]
      constructor
      · intro h; cases h; exact .inr rfl
      · rintro (h' | h')
        · have := (hg i v).mpr h'
          rcases h with h | h
          · rw [h] at this; cases this
          · rw [h] at this; exact this
        · cases h'; rfl
    · rw [if_neg e, hg]
      constructor
      · exact .inl
      · rintro (h' | h')
        · exact h'
        · cases h'; exact absurd rfl e
  · exact putF_all (p := fun x => Tm.In x t) w.subF (w.sub _ (List.mem_cons_self ..))
  · have h1 := putF_len fs i u
    have h2 := w.len
    simp only [List.map_cons, List.sum_cons, Tm.size_var] at h2
    omega
theorem zip_sizes : ∀ {ts us : List Tm}, ts.length = us.length → ((ts.zip us).map fun q => q.1.size).sum = Tm.sizes ts
  | [], [], _ => by rw [Tm.sizes_nil]; rfl
  | [], _ :: _, h => by cases h
  | _ :: _, [], h => by cases h
  | t :: ts, u :: us, h => by rw [List.zip_cons_cons, List.map_cons, List.sum_cons, zip_sizes (by simpa using h), Tm.sizes_cons]
/-- the same name on both: their parts wait instead, in either order -/
theorem Way.parts {p t : Tm} {st : List (Tm × Tm)} {fs : Fl} {f : Str} {ts us : List Tm} (w : Way p t ((.app f ts, .app f us) :: st) fs) (hl : ts.length = us.length) (b : Bool) :
    Way p t ((if b then (ts.zip us).reverse else ts.zip us) ++ st) fs := by
  obtain ⟨Bd, hd, hg⟩ := w.dem
  have e1 : bindp ((.app f ts, .app f us) :: st) = bindp (ts.zip us ++ st) := by
    rw [bindp_append, ← bindss_zip hl]
    show cat2 (Tm.binds _ _) _ = _
    rw [Tm.binds_aa, if_pos rfl]
  have hmem : ∀ q ∈ ((if b then (ts.zip us).reverse else ts.zip us) ++ st), q ∈ ts.zip us ∨ q ∈ st := fun q hq => by
    rcases List.mem_append.mp hq with h | h
    · left
      cases b with
      | true => exact List.mem_reverse.mp h
      | false => exact h
    · exact .inr h
  refine ⟨⟨Bd, ?_, hg⟩, w.nd, fun q hq => ?_, w.subF, ?_, fun q hq => ?_⟩
  · rw [e1] at hd
    cases b with
    | false => exact hd
    | true => exact hd.alike (bindp_rev _ _)
  · rcases hmem q hq with h | h
    · have := w.sub _ (List.mem_cons_self ..)
      exact In.down this (List.of_mem_zip h).2
    · exact w.sub q (List.mem_cons_of_mem _ h)
  · have h2 := w.len
    simp only [List.map_cons, List.sum_cons, Tm.size_app] at h2
    rw [List.map_append, List.sum_append]
    have h3 : ((if b then (ts.zip us).reverse else ts.zip us).map fun q => q.1.size).sum = Tm.sizes ts := by
      cases b with
      | false => exact zip_sizes hl
      | true =>
        show ((ts.zip us).reverse.map fun q => q.1.size).sum = _
        rw [List.map_reverse, sum_rev, zip_sizes hl]
    omega
  · rcases hmem q hq with h | h
    · exact In.down (w.nm _ (List.mem_cons_self ..)) (List.of_mem_zip h).1
    · exact w.nm q (List.mem_cons_of_mem _ h)
end DL
namespace DL
open PySem L2
end DL
namespace DL
open PySem L2
end DL
namespace DL
open PySem L2
end DL
namespace DL
open PySem L2
theorem Tm.put_nm {q : Str → Prop} {new : Tm} (hn : new.Nm q) : ∀ (p : List Nat) {t v : Tm}, t.at_ p = some v → t.Nm q → (Tm.put new p t).Nm q
  | [], t, v, _, _ => by rw [Tm.put_nil]; exact hn
  | k :: p, t, v, h, ht => by
    obtain ⟨f, ts, u, rfl, hk, hu, hv⟩ := Tm.at_cons h
    rw [Tm.put_app hu]
    refine .app ht.hd fun x hx => ?_
    rcases List.mem_or_eq_of_mem_set hx with h1 | h1
    · exact ht.arg x h1
    · rw [h1]
      exact Tm.put_nm hn p hv (ht.arg u (List.mem_of_getElem? hu))
end DL
namespace DL
open PySem L2
structure Rw where
  nm : Str
  ar : Int
  wt : Int
def Rw.d (r : Rw) : D := .tup [.str r.nm, .int r.ar, .int r.wt]
def Sg.rw (s : Sg) : Rw := ⟨s.nm, s.ar, s.wt⟩
def nameB (x : Str) : Bool := decide (1 ≤ (tlS x).length) && (decide ((tlS x).length ≤ 8) && (tlS x).all fun c => decide (97 ≤ c) && decide (c ≤ 122))
def Rw.ok (r : Rw) : Prop := GoodName r.nm ∧ 0 ≤ r.ar ∧ r.ar ≤ 4 ∧ 1 ≤ r.wt ∧ r.wt ≤ 9
structure GoodRows (ss : List Sg) : Prop where
  names : ∀ s ∈ ss, GoodName s.nm
  nd : (ss.map Sg.nm).Nodup
  ar : ∀ s ∈ ss, s.ar ≤ 4
  wt : ∀ s ∈ ss, 1 ≤ s.wt ∧ s.wt ≤ 9
theorem GoodRows.ok {ss : List Sg} (h : GoodRows ss) {s : Sg} (hs : s ∈ ss) : s.rw.ok := by
  have h1 := h.ar s hs
  have h2 := h.wt s hs
  refine ⟨h.names s hs, ?_, ?_, ?_, ?_⟩
  · show (0 : Int) ≤ (s.ar : Int); omega
  · show (s.ar : Int) ≤ 4; omega
  · show (1 : Int) ≤ (s.wt : Int); omega
  · show (s.wt : Int) ≤ 9; omega
def Rows (rs : List Rw) : Prop := ∃ ss : List Sg, GoodRows ss ∧ rs = ss.map Sg.rw
def EndZ (x : Str) : Prop := (tlS x).length = 8 → (tlS x).getLast? = some 122
theorem EndZ.ne {ss : List Sg} (h : ∀ s ∈ ss, EndZ s.nm) {x : Str} (h1 : (tlS x).length = 8) (h2 : (tlS x).getLast? ≠ some 122) : x ∉ ss.map Sg.nm := by
  intro hm
  obtain ⟨s, hs, rfl⟩ := List.mem_map.mp hm
  exact h2 (h s hs h1)
end DL
namespace DL
open PySem L2
abbrev XD := Addr → Rho → Mem → Prop
/-- the wish of a context about exceptions, told without the heap -/
def WofD (z : Zx) (Ed : XD) : WX := fun cls d σ H => ∃ (C : Addr) (m : List Addr) (r : Rho) (M : Mem), cls = .ref C ∧ d = none ∧ RS z m r M σ H ∧ Ed C r M
def Tk (z : Zx) (Ed : XD) : Prop := Takes z.X (WofD z Ed)
/-- a class of the program that may be raised -/
def ExcCls (K : PySem.W.Frag) (C : Addr) : Prop := PySem.W.excIn K C He.veBase "ValueError.__new__" = true ∧ PySem.W.keepIn K (.ref C) = true ∧ PySem.W.subIn K (.ref C) (.type "BaseException") = some true ∧ PySem.W.typeIn K (.ref C) = some (.type "type")
section
variable {z : Zx} {Ed : XD} {pos : Pos}
def dRaise (Ed : XD) (C : Addr) : DTS := fun _ r M => Ed C r M
theorem ds_raise {x msg : Str} {C : Addr} {j : Nat} {p p2 pos' : Pos} (hc : z.X.calm = true) (tk : Tk z Ed) (q : ExcCls z.X.K C) (gC : z.X.mg x = some (.ref C)) (hg : Gl z.X x := by rfl) (hdb : (x == ("__debug__" : Str)) = false := by decide) :
    DS z (.Raise (some (.Call (.Name x p) [.Constant (.str msg) j p2] [] pos)) none pos') (dRaise Ed C) := by
  refine ⟨_, ps_raise hc tk (pmk_own PySem.F.excBase_ValueError q.1 gC q.2.1 (raises_own q.2.2.1 q.2.2.2) hg hdb), fun m r M σ H E Dd s q l => ?_⟩
  exact ⟨C, m, r, M, rfl, rfl, s, q⟩
/-- f(..) that may raise -/
def dCallX (sp : DSp) (Ed : XD) (ta : DTA) : DTE := fun r M Q => ta r M fun ds M1 => sp ds M1 Q fun C M' => Ed C r M'
theorem de_callX {k : Nat} {x : Str} {ps : List Str} {sp : DSp} {e : Expr} {es : List Expr} {ta : DTA} {p : Pos} (tk : Tk z Ed) (F : DFn z.X.prog z.X.w z.X.K z.X.mg z.X.base (L2.CX z.X.prog z.X.w) k x ps sp) (hr : Room k z.X.A) (ha : DA z (e :: es) ta)
    (hg : Gl z.X x := by rfl) (hdb : (x == ("__debug__" : Str)) = false := by decide)
    (he : starEach (e :: es) z.X.env = (false, eval e z.X.env) :: starEach es z.X.env := by rfl) (hpl : (backTo pos (starEach es z.X.env)).any (·.1) = false := by rfl) : DE z (.Call (.Name x p) (e :: es) [] pos) (dCallX sp Ed ta) := by
  obtain ⟨f, fd, Fo, hm, hk, hb⟩ := F.ex
  obtain ⟨wa, pa, la⟩ := ha
  refine ⟨_, pe_callS Fo hr hg hm hk hb (passAt tk) pa hdb he hpl, fun m r M σ H Q Qd s q t => ?_⟩
  exact la m r M σ H _ _ s q fun ds M1 m1 vs H1 q1 g1 r1 d1 => ⟨m1, ds, M1, Qd, _, r1, d1, q1, t.grow g1, fun C M2 m2 H2 h2 g2 r2 => ⟨C, m2, r, M2, rfl, rfl, s.grow (g1.trans g2) r2, h2⟩⟩
def dMethX (C : Addr) (x : Str) (sp : DSp) (Ed : XD) (ta : DTE) (tas : DTA) : DTE := fun r M Q => ta r M fun y M1 => match y with
  | .loc n => (match M1[n]? with
    | some (.ins C' fs) => C' = C ∧ fs.lookup x = none ∧ tas r M1 fun ds M2 => sp (.loc n :: ds) M2 Q fun C M' => Ed C r M'
    | _ => False)
  | _ => False
def dMakeX (C : Addr) (sp : DSp) (Ed : XD) (ta : DTA) : DTE := fun r M Q => ta r M fun ds M1 => sp (.loc M1.length :: ds) (M1 ++ [.ins C []]) (fun d M2 => d = .non ∧ Q (.loc M1.length) M2) fun C M' => Ed C r M'
end
/-- what leaves: as it stands, or without what is new -/
def DoneX (n : Nat) (Ed : Addr → Mem → Prop) (C : Addr) (M : Mem) : Prop := Ed C M ∨ (okM n (M.take n) = true ∧ Ed C (M.take n))
theorem DoneX.same {n : Nat} {Ed : Addr → Mem → Prop} {C : Addr} {M : Mem} (h : Ed C M) : DoneX n Ed C M := .inl h
theorem DoneX.old {n : Nat} {Ed : Addr → Mem → Prop} {C : Addr} {M1 M' : Mem} (hM : okM n M1 = true) (e : M'.take n = M1) (h : Ed C M1) : DoneX n Ed C M' := .inr ⟨by rw [e]; exact hM, by rw [e]; exact h⟩
theorem DoneX.ok {K : PySem.W.Frag} {m m' : List Addr} {H H' : Hp} {M' : Mem} {n : Nat} {Ed : Addr → Mem → Prop} {E : XK} {C : Addr} (hn : n = m.length) (h : DoneX n Ed C M') (t : ThenX K m H Ed E) (g : Grow m H m' H') (r : RM K m' H' M') : E (.ref C) none H' := by
  subst hn
  rcases h with h | ⟨h2, h3⟩
  · exact t _ _ _ _ h g r
  · have gm : Grow m H m H' := ⟨List.prefix_refl _, fun _ a b => absurd a b, g.keep, g.frz, g.tup, g.ext⟩
    exact t _ _ _ _ h3 gm (r.cut g.pre h2)
section
variable {P : Program} {w : World} {K : PySem.W.Frag} {mg : Str → Option Value} {base : Heap}
abbrev cxX (P : Program) (w : World) (K : PySem.W.Frag) (mg : Str → Option Value) (base : Heap) (N : List Str) (qual : Str) (st : Stmt) (f : Addr) (cdv : Value) (A : Around) (outer : List Env) (s : Shared) (H : Hp) (E : XK) : Cx := cxOf (L2.CX P w) P w K mg base N qual (defScope st) f cdv A outer s H E
/-- the body of a def that may raise, told without the heap -/
def BodyX (P : Program) (w : World) (K : PySem.W.Frag) (mg : Str → Option Value) (base : Heap) (N : List Str) (qual : Str) (st : Stmt) (f : Addr) (k : Nat) (sp : DSp) : Prop :=
  ∃ t : XD → DTS, (∀ (cdv : Value) (A : Around) (outer : List Env) (s : Shared) (H : Hp) (E : XK) (m0 : List Addr), Room k (A.deeper (PyProof.Rows.envOfC qual (defScope st) s.heap.objs.size f cdv)) →
      ∀ Ed : XD, Tk ⟨cxX P w K mg base N qual st f cdv A outer s H E, m0, H⟩ Ed → PassesOwn (model P w) (cxX P w K mg base N qual st f cdv A outer s H E).A (cxX P w K mg base N qual st f cdv A outer s H E).env (cxX P w K mg base N qual st f cdv A outer s H E).xe →
      DSs ⟨cxX P w K mg base N qual st f cdv A outer s H E, m0, H⟩ (defBody st) (t Ed)) ∧
    ∀ ds M Qd Ed, sp ds M Qd Ed → okM M.length M = true → t (fun C _ M' => DoneX M.length Ed C M') { nx := fun _ M' => Done M.length Qd .non M', rt := Done M.length Qd } (startD N ds) M
theorem fnok_ofX {x qual : Str} {st : Stmt} {f : Addr} {fd : FuncData} {N ps : List Str} {k : Nat} {sp : DSp} (F : FnP K x qual st f fd) (S : FnScope N ps (defScope st)) (len : ∀ ds M Q E, sp ds M Q E → ds.length = ps.length)
    (body : BodyX P w K mg base N qual st f k sp) : FnOk P w K mg base (L2.CX P w) (k + 1) f fd ps (liftSp K sp) := by
  obtain ⟨t, der, red⟩ := body
  refine F.ok S ?_ ?_
  · rintro vs H Q E ⟨m, ds, M, Qd, Ed, rm, rd, h, _⟩
    rw [rd.length]
    exact len _ _ _ _ h
  · rintro cdv A outer s H vs Q E hr ⟨m, ds, M, Qd, Ed, rm, rd, h, t1, t2⟩
    have tk0 : Takes (cxX P w K mg base N qual st f cdv A outer s H E) (fun cls d _ H => E cls d H) := takes_of (X := cxX P w K mg base N qual st f cdv A outer s H E) rfl rfl rfl rfl
    have tk : Tk ⟨cxX P w K mg base N qual st f cdv A outer s H E, m, H⟩ (fun C _ M' => DoneX M.length Ed C M') := tk0.imp fun c d σ' H' hw => by
      obtain ⟨C, m', r', M', rfl, rfl, s', hx⟩ := hw
      exact DoneX.ok rm.len.symm hx t2 s'.g s'.rm
    have po : PassesOwn (model P w) (cxX P w K mg base N qual st f cdv A outer s H E).A (cxX P w K mg base N qual st f cdv A outer s H E).env (cxX P w K mg base N qual st f cdv A outer s H E).xe := PassesOwn.leaving
    obtain ⟨ts, p, l⟩ := der cdv A outer s H E m hr _ tk po
    refine ⟨ts, p, ?_⟩
    obtain ⟨e1, e2⟩ := start_ok (N := N) rd
    refine l m (startD N ds) M (L2.start N vs) H _ _ ⟨.refl, rm, e1, e2⟩ (red ds M Qd Ed h rm.okM_) ⟨?_, ?_, ?_, ?_⟩
    · intro r' M' m' σ' H' q g s'
      exact Done.ok rm.len.symm q t1 g s'.rm RD.non'
    · intro d M' m' v H' q g r' rd'
      exact Done.ok rm.len.symm q t1 g r' rd'
    · intro r' M' m' σ' H' q g s'
      exact q.elim
    · intro r' M' m' σ' H' q g s'
      exact q.elim
theorem DFn.ofX {x qual : Str} {st : Stmt} {f : Addr} {fd : FuncData} {N ps : List Str} {k : Nat} {sp : DSp} (F : FnP K x qual st f fd) (hm : mg x = some (.ref f)) (hb : Binds K fd ps []) (S : FnScope N ps (defScope st)) (len : ∀ ds M Q E, sp ds M Q E → ds.length = ps.length)
    (body : BodyX P w K mg base N qual st f k sp) : DFn P w K mg base (L2.CX P w) (k + 1) x ps sp := ⟨f, fd, fnok_ofX F S len body, hm, F.kp, hb⟩
end
end DL
namespace DL
open PySem L2
theorem takesF {X : Cx} : Takes X (fun _ _ _ _ => False) := fun _ _ ⟨_, _, _, _, _, _, _, _, _, _, _, _, _, _, _, _, w⟩ => w.elim
theorem RS.re {z z' : Zx} {m m' : List Addr} {r r' : Rho} {M M' : Mem} {σ σ' : L2.St} {H H' : Hp} (hK : z'.X.K = z.X.K) (hm : z'.m0 = m) (hH : z'.H0 = H) (s : RS z m r M σ H) (t : RS z' m' r' M' σ' H') : RS z m' r' M' σ' H' where
  g := s.g.trans (by rw [← hm, ← hH]; exact t.g)
  rm := by rw [← hK]; exact t.rm
  len := t.len
  sl := by rw [← hK]; exact t.sl
theorem RS.at0 {z z' : Zx} {m : List Addr} {r : Rho} {M : Mem} {σ : L2.St} {H : Hp} (hK : z'.X.K = z.X.K) (hm : z'.m0 = m) (hH : z'.H0 = H) (s : RS z m r M σ H) : RS z' m r M σ H where
  g := by rw [hm, hH]; exact .refl
  rm := by rw [hK]; exact s.rm
  len := s.len
  sl := by rw [hK]; exact s.sl
theorem Le.re {z z' : Zx} {m : List Addr} {H : Hp} {r : Rho} {M : Mem} {σ : L2.St} {Dd : DEnds} {E : Ends} (hK : z'.X.K = z.X.K) (hm : z'.m0 = m) (hH : z'.H0 = H) (s : RS z m r M σ H) (l : Le z m H Dd E) : Le z' m H Dd E :=
  ⟨fun r' M' m' σ' H' q g t => l.nx r' M' m' σ' H' q g (s.re hK hm hH t), fun d M' m' v H' q g t rd => l.rt d M' m' v H' q g (by rw [← hK]; exact t) (by rw [← hK]; exact rd),
   fun r' M' m' σ' H' q g t => l.bk r' M' m' σ' H' q g (s.re hK hm hH t), fun r' M' m' σ' H' q g t => l.ct r' M' m' σ' H' q g (s.re hK hm hH t)⟩
theorem RS.wipe1 {z : Zx} {m : List Addr} {r : Rho} {M : Mem} {σ : L2.St} {H : Hp} (s : RS z m r M σ H) (i : Nat) : RS z m (r.set i none) M (σ.set i none) H where
  g := s.g
  rm := s.rm
  len := by simp [s.len]
  sl := fun j d e => by
    by_cases hj : j = i
    · subst hj
      by_cases hl : j < r.length
      · rw [List.getElem?_set_self hl] at e; cases e
      · rw [List.getElem?_eq_none (by simpa using hl)] at e; cases e
    · rw [List.getElem?_set_ne (fun z => hj z.symm)] at e
      obtain ⟨v, e1, e2⟩ := s.sl j d e
      exact ⟨v, by rw [List.getElem?_set_ne (fun z => hj z.symm)]; exact e1, e2⟩
def canB (z : Zx) (tb : XD → DTS) (W : WX) : TS := fun E σ H => ∃ (m : List Addr) (r : Rho) (M : Mem) (Dd : DEnds) (Ed : XD), RS z m r M σ H ∧ tb Ed Dd r M ∧ Le z m H Dd E ∧
  ∀ C r' M' m' σ' H', Ed C r' M' → Grow m H m' H' → RS z m' r' M' σ' H' → W (.ref C) none σ' H'
def canU (z : Zx) (C : Addr) (tu : Addr → DTS) (a : Addr) (cls : Value) (d : Option Addr) : TS := fun E σ H => ∃ (m : List Addr) (r : Rho) (M : Mem) (Dd : DEnds), RS z m r M σ H ∧ cls = .ref C ∧ d = none ∧ tu a Dd r M ∧ Le z m H Dd E
def wipeE (i : Nat) (D : DEnds) : DEnds := { nx := fun r M => D.nx (r.set i none) M, rt := D.rt, bk := fun r M => D.bk (r.set i none) M, ct := fun r M => D.ct (r.set i none) M }
def dTryOnly (C : Addr) (tb : XD → DTS) (tu : Addr → DTS) : DTS := fun D r M => tb (fun C' r1 M1 => C' = C ∧ ∀ a, tu a D r1 M1) D r M
def dTryAs (C : Addr) (i : Nat) (tb : XD → DTS) (tu : Addr → DTS) : DTS := fun D r M => tb (fun C' r1 M1 => C' = C ∧ ∀ a, tu a (wipeE i D) (r1.set i (some (.cls a))) M1) D r M
section
variable {z : Zx} {body suite : List Stmt} {b0 : Stmt} {tb : XD → DTS} {tu : Addr → DTS} {C Cc : Addr} {x n : Str} {np pos pos' : Pos}
/-- what the body of a try is, in whatever context of its own -/
def TryB (z : Zx) (body : List Stmt) (tb : XD → DTS) : Prop := ∀ (pn : List (Addr × Obj)) (xe : Value → Shared → Prop) (m1 : List Addr) (H1 : Hp) (Ed : XD), Tk ⟨z.X.tr pn xe, m1, H1⟩ Ed → PassesOwn (model z.X.prog z.X.w) z.X.A z.X.env xe → DSs ⟨z.X.tr pn xe, m1, H1⟩ body (tb Ed)
/-- what a suite is; a: the exception -/
def TryU (z : Zx) (C : Addr) (suite : List Stmt) (tu : Addr → DTS) : Prop := ∀ (a : Addr) (oe : Obj) (pn : List (Addr × Obj)) (m1 : List Addr) (H1 : Hp), Zc (.ref C) none oe → (∃ vs, oe.data = .fields vs) → DSs ⟨z.X.suite a ((a, oe) :: pn), m1, H1⟩ suite (tu a)
theorem TryB.can (h : TryB z body tb) : ∀ (W : WX) (pn : List (Addr × Obj)) (xe : Value → Shared → Prop), Takes (z.X.tr pn xe) W → PassesOwn (model z.X.prog z.X.w) z.X.A z.X.env xe → PSs (z.X.tr pn xe) body (canB z tb W) := by
  intro W pn xe tk po
  refine ⟨fun pins s σ H D I hq => ?_⟩
  obtain ⟨m, r, M, Dd, Ed, s0, q, l, hW⟩ := hq
  have tk' : Tk ⟨z.X.tr pn xe, m, H⟩ Ed := tk.imp fun c d σ' H' hw => by
    obtain ⟨C, m', r', M', rfl, rfl, s', hx⟩ := hw
    exact hW C r' M' m' σ' H' hx s'.g (RS.re (z := z) (z' := ⟨z.X.tr pn xe, m, H⟩) rfl rfl rfl s0 s')
  obtain ⟨ts, p, ls⟩ := h pn xe m H Ed tk' po
  exact p.run pins s σ H D I (ls m r M σ H D Dd (RS.at0 (z := z) (z' := ⟨z.X.tr pn xe, m, H⟩) rfl rfl rfl s0) q (Le.re (z := z) (z' := ⟨z.X.tr pn xe, m, H⟩) rfl rfl rfl s0 l))
theorem TryU.can (h : TryU z C suite tu) : ∀ (a : Addr) (oe : Obj) (cls : Value) (d : Option Addr) (pn : List (Addr × Obj)), Zc cls d oe → (∃ vs, oe.data = .fields vs) → PSs (z.X.suite a ((a, oe) :: pn)) suite (canU z C tu a cls d) := by
  intro a oe cls d pn hz hf
  refine ⟨fun pins s σ H D I hq => ?_⟩
  obtain ⟨m, r, M, Dd, s0, rfl, rfl, q, l⟩ := hq
  obtain ⟨ts, p, ls⟩ := h a oe pn m H hz hf
  exact p.run pins s σ H D I (ls m r M σ H D Dd (RS.at0 (z := z) (z' := ⟨z.X.suite a ((a, oe) :: pn), m, H⟩) rfl rfl rfl s0) q (Le.re (z := z) (z' := ⟨z.X.suite a ((a, oe) :: pn), m, H⟩) rfl rfl rfl s0 l))
theorem ds_tryOnly (hn : Names z.X x (.ref Cc)) (hm : PySem.W.exmOne z.X.K (.ref C) (.ref Cc) = some true) (hb : TryB z body tb) (hu : TryU z C (b0 :: suite) tu) (hs : z.X.stack = z.X.env :: z.X.outer := by rfl) (hf : z.X.env.frame = some z.X.env.locals := by rfl) :
    DS z (.Try body [.ExceptHandler (some (.Name x np)) none (b0 :: suite) pos'] [] [] pos) (dTryOnly C tb tu) := by
  refine ⟨_, ps_try_only hs hf hn takesF hb.can hu.can, fun m r M σ H E Dd s q l => ?_⟩
  refine ⟨m, r, M, Dd, _, s, q, l, fun C' r' M' m' σ' H' h g s' => ?_⟩
  obtain ⟨rfl, h⟩ := h
  exact ⟨true, hm, fun _ a ha => ⟨m', r', M', Dd, s', rfl, rfl, h a, l.grow g⟩, fun h => by cases h⟩
theorem ds_tryAs (i : Nat) (hN : z.X.N.Nodup) (hn : Names z.X x (.ref Cc)) (hm : PySem.W.exmOne z.X.K (.ref C) (.ref Cc) = some true) (hb : TryB z body tb) (hu : TryU z C (b0 :: suite) tu) (hi : z.X.N[i]? = some n := by rfl) (hl : z.X.env.kindOf n = some .local := by rfl) (hs : z.X.stack = z.X.env :: z.X.outer := by rfl) (hf : z.X.env.frame = some z.X.env.locals := by rfl) :
    DS z (.Try body [.ExceptHandler (some (.Name x np)) (some n) (b0 :: suite) pos'] [] [] pos) (dTryAs C i tb tu) := by
  refine ⟨_, ps_try_as hs hf hN hi hl hn takesF hb.can hu.can, fun m r M σ H E Dd s q l => ?_⟩
  refine ⟨m, r, M, Dd, _, s, q, l, fun C' r' M' m' σ' H' h g s' => ?_⟩
  obtain ⟨rfl, h⟩ := h
  refine ⟨true, hm, fun _ a ha => ⟨m', r'.set i (some (.cls a)), M', wipeE i Dd, s'.set (by unfold RD; rfl), rfl, rfl, h a, ?_⟩, fun h => by cases h⟩
  have lg := l.grow g
  exact ⟨fun r1 M1 m1 σ1 H1 q1 g1 s1 => lg.nx _ _ _ _ _ q1 g1 (s1.wipe1 i), lg.rt, fun r1 M1 m1 σ1 H1 q1 g1 s1 => lg.bk _ _ _ _ _ q1 g1 (s1.wipe1 i), fun r1 M1 m1 σ1 H1 q1 g1 s1 => lg.ct _ _ _ _ _ q1 g1 (s1.wipe1 i)⟩
end
def rIsEt (K : PySem.W.Frag) (D a : Addr) : List V → Hp → VK → Prop := fun xs H Q => ∃ (p : Addr) (vs : List V) (its : List Value) (b : Bool), xs = [.ref a, .ref p] ∧ SqT K H p vs ∧ (∀ us, Vals vs us → us = its) ∧ PySem.W.kitAny K (.ref D) its = some b ∧ Q (.bl b) H
theorem call_isEt {X : Cx} {a D : Addr} {oe : Obj} {pn : List (Addr × Obj)} (C : ExcC X.K D) (hz : Zc (.ref D) none oe) (hf : ∃ vs, oe.data = .fields vs) : CallR (X.suite a ((a, oe) :: pn)) (.builtin "isinstance") (rIsEt X.K D a) := by
  intro pins s σ H xs us Q I r h
  obtain ⟨p, vs, its, b, rfl, hq, hv, e, q⟩ := h
  cases r with
  | cons rx rr =>
    cases rr with
    | cons rt rr =>
      cases rr
      cases rx
      cases rt
      obtain ⟨its', rv, pt, hzz⟩ := I.tuple hq
      have ei := hv _ rv
      subst ei
      obtain ⟨hget, _⟩ := I.pin (a, oe) (List.mem_append.mpr (.inl List.mem_cons_self))
      obtain ⟨ws, hw⟩ := hf
      have J : PySem.W.InstAt s.heap a oe D none := by
        obtain ⟨oc, od, oda, osl⟩ := oe
        obtain ⟨h1, h2⟩ := hz
        dsimp only at h1 h2 hw
        subst h1 h2 hw
        exact ⟨hget, rfl, rfl, trivial⟩
      obtain ⟨⟨oc, od, oda, osl⟩, ho, hc, n, hd⟩ := pt
      dsimp only at hc hd
      subst hc hd
      exact PySem.W.kia_tup (PySem.W.handS_kitx_exc C.hg C.hk C.hs C.hd C.ha C.hn C.ht C.hm) I.kIn J ho e (fun z => nomatch z) fun tk => ⟨.bl b, H, I.kept (t' := tk) fun _ _ z => z, rfl, q⟩
/-- classes as values -/
def clsVal : D → Option Value
  | .cls c => some (.ref c)
  | .ty n => some (.type n)
  | _ => none
def clsVals : List D → Option (List Value)
  | [] => some []
  | d :: ds => match clsVal d, clsVals ds with
    | some v, some vs => some (v :: vs)
    | _, _ => none
theorem clsVal_of {K : PySem.W.Frag} {m : List Addr} {H : Hp} {d : D} {v : V} {cv u : Value} (e : clsVal d = some cv) (r : RD K m H d v) (q : RelV v u) : u = cv := by
  unfold clsVal at e
  split at e
  · cases e
    unfold RD at r
    subst r
    exact q
  · cases e
    unfold RD at r
    subst r
    exact q
  · cases e
theorem clsVals_of {K : PySem.W.Frag} {m : List Addr} {H : Hp} : ∀ {ds : List D} {vs : List V} {cs us : List Value}, clsVals ds = some cs → RDs K m H ds vs → Vals vs us → us = cs
  | [], _, cs, us, e, r, q => by
    rw [r.nil_] at q
    cases q
    unfold clsVals at e
    cases e
    rfl
  | d :: ds, _, cs, us, e, r, q => by
    obtain ⟨v, ws, rfl, hd, hs⟩ := r.cons_
    cases q with
    | cons q1 q2 =>
      unfold clsVals at e
      split at e
      · rename_i c cs' e1 e2
        cases e
        rw [clsVal_of e1 hd q1, clsVals_of e2 hs q2]
      · cases e
def qIsE (K : PySem.W.Frag) (D a : Addr) : DRA := fun xs M Q => match xs with
  | [.cls a', .tup ds] => a' = a ∧ (match clsVals ds with
    | some cs => (match PySem.W.kitAny K (.ref D) cs with
      | some b => Q (.bl b) M
      | none => False)
    | none => False)
  | [.cls a', c] => a' = a ∧ (match clsVal c with
    | some cv => (match PySem.W.kitOne K (.ref D) cv with
      | some b => Q (.bl b) M
      | none => False)
    | none => False)
  | _ => False
theorem dc_isE {X : Cx} {a D : Addr} {oe : Obj} {pn : List (Addr × Obj)} {m1 : List Addr} {H1 : Hp} (C : ExcC X.K D) (hz : Zc (.ref D) none oe) (hf : ∃ vs, oe.data = .fields vs) : DCall ⟨X.suite a ((a, oe) :: pn), m1, H1⟩ (.builtin "isinstance") (qIsE X.K D a) := by
  refine ⟨_, (call_isE C hz hf).or (call_isEt C hz hf), fun m M H vs ds Q Qd r d h t => ?_⟩
  unfold qIsE at h
  split at h
  · obtain ⟨v, w, rfl, q1, q2⟩ := d.two_
    obtain ⟨rfl, h⟩ := h
    obtain ⟨p, us, rfl, sp, q⟩ := q2.tup_
    split at h
    · rename_i cs ec
      split at h
      · rename_i b eb
        have e1 := q1.cls_
        exact .inr ⟨p, us, cs, b, by rw [e1], sp, fun ws hw => clsVals_of ec q hw, eb, t _ _ _ _ _ h .refl r RD.bl'⟩
      · exact h.elim
    · exact h.elim
  · obtain ⟨v, w, rfl, q1, q2⟩ := d.two_
    obtain ⟨rfl, h⟩ := h
    split at h
    · rename_i cv ec
      split at h
      · rename_i b eb
        have e1 := q1.cls_
        exact .inl ⟨w, cv, b, by rw [e1], fun u hu => clsVal_of ec q2 hu, eb, t _ _ _ _ _ h .refl r RD.bl'⟩
      · exact h.elim
    · exact h.elim
  · exact h.elim
end DL
namespace DL
open PySem L2
theorem dc_isEK {K : PySem.W.Frag} {X : Cx} {a D : Addr} {oe : Obj} {pn : List (Addr × Obj)} {m1 : List Addr} {H1 : Hp} (C : ExcC K D) (hz : Zc (.ref D) none oe) (hf : ∃ vs, oe.data = .fields vs) (hK : X.K = K := by rfl) : DCall ⟨X.suite a ((a, oe) :: pn), m1, H1⟩ (.builtin "isinstance") (qIsE K D a) := by
  subst hK
  exact dc_isE C hz hf
theorem b_ValueError : bootBuiltins "ValueError" = some (.type "ValueError") := by decide +kernel
end DL
namespace DL
open PySem L2
def dListRg1 (ta : DTE) : DTE := fun r M Q => ta r M fun x M1 => match x with
  | .int n => RgOk 0 n ∧ Q (.loc M1.length) (M1 ++ [.lst (rngD 0 n.toNat)])
  | _ => False
end DL
namespace DL
open PySem L2
def dPar (i j : Nat) (ta : DTA) : DTS := fun D r M => ta r M fun ds M1 => match ds with
  | [d, e] => D.nx ((r.set i (some d)).set j (some e)) M1
  | _ => False
end DL
namespace DLZ
open PySem PySem.Spec PyProof.Rows L2 RZ
end DLZ
namespace DL
open PySem L2 RZ RT DLZ
section
variable {z : Zx} {K : PySem.W.Frag} {m : List Addr} {H : Hp} {M : Mem}
/-- zip(x, y) of a list and a tuple -/
def dIZipM (ta : DTA) : DTI := fun r M R => ta r M fun xs M1 => match xs with
  | [.loc i, .tup es] => (match M1[i]? with
    | some (.lst ds) => R ⟨(ds.zip es).map fun p => .tup [p.1, p.2], fun M => M[i]? = some (.lst ds)⟩ M1
    | _ => False)
  | _ => False
end
end DL
namespace DL
open PySem L2
end DL
namespace DL
open PySem L2
section
variable {z : Zx} {Ed : XD} {pos : Pos}
def dMakeXD (C : Addr) (sp : DSp) (is : List Int) (Ed : XD) (ta : DTA) : DTE := fun r M Q => ta r M fun ds M1 => sp (.loc M1.length :: (ds ++ is.map D.int)) (M1 ++ [.ins C []]) (fun d M2 => d = .non ∧ Q (.loc M1.length) M2) fun C M' => Ed C r M'
def dMakeD (C : Addr) (sp : DSp) (is : List Int) (ta : DTA) : DTE := fun r M Q => ta r M fun ds M1 => sp (.loc M1.length :: (ds ++ is.map D.int)) (M1 ++ [.ins C []]) (fun d M2 => d = .non ∧ Q (.loc M1.length) M2) E0D
end
end DL
namespace DL
open PySem L2 PyProof.Rows
section
variable {z : Zx} {K : PySem.W.Frag} {m : List Addr} {H : Hp}
theorem RDs_strs29 : ∀ ks : List Str, RDs K m H (ks.map D.str) (ks.map V.str)
  | [] => RDs.nil'
  | k :: ks => RDs.cons' (by unfold RD; rfl) (RDs_strs29 ks)
def qSorted_ : DRA := fun xs M Q => match xs with
  | [.loc i] => (match M[i]? with
    | some (.dic kvs) => ∃ ks : List Str, kvs.map (·.1) = ks.map Sum.inr ∧ ks.length < 64 ∧ ∀ ys : List Str, ys.Perm ks → sortedS ys = true → Q (.loc M.length) (M ++ [.lst (ys.map D.str)])
    | _ => False)
  | _ => False
end
end DL
namespace DL
open PySem L2
section
variable {z : Zx}
theorem de_gstrE {x : Str} {i : Str} {pos : Pos} (hm : ∃ t, z.X.mg x = some (.str i t)) (hg : Gl z.X x := by rfl) (hd : (x == ("__debug__" : Str)) = false := by decide) : DE z (.Name x pos) (dC (.str i)) := by
  obtain ⟨t, h⟩ := hm
  exact de_gstr h hg hd
end
end DL
namespace DL
open PySem L2
section
variable {z : Zx}
def dgUnl (n : Nat) (gs : List D → Rho → Mem → (Rho → Mem → Prop) → Prop) : DTG := fun d r M Q => match d with
  | .loc i => (match M[i]? with
    | some (.lst ds) => ds.length = n ∧ gs ds r M Q
    | _ => False)
  | _ => False
end
end DL
namespace DL
open PySem L2
/-- the slots of a target of names get their values -/
def setAllQ : List Nat → List D → Rho → (Rho → Prop) → Prop
  | [], [], r, Q => Q r
  | j :: js, d :: ds, r, Q => setAllQ js ds (r.set j (some d)) Q
  | _, _, _, _ => False
def tgTup (js : List Nat) : D → Rho → (Rho → Prop) → Prop := fun d r Q => match d with
  | .tup ds => setAllQ js ds r Q
  | _ => False
def lcGoG (ok : Mem → Prop) (tg : D → Rho → (Rho → Prop) → Prop) (r0 : Rho) (tt : DTT) (te : DTE) : List D → Mem → List D → (List D → Mem → Prop) → Prop
  | [], M, acc, k => ok M ∧ k acc M
  | x :: rest, M, acc, k => ok M ∧ tg x r0 fun r1 => tt r1 M fun b M2 => match b with
    | true => te r1 M2 fun y M3 => acc.length < sizeLine ∧ lcGoG ok tg r0 tt te rest M3 (acc ++ [y]) k
    | false => lcGoG ok tg r0 tt te rest M2 acc k
def dLcG (ti : DTI) (tg : D → Rho → (Rho → Prop) → Prop) (vs : List Nat) (tt : DTT) (te : DTE) : DTE := fun r M Q => ti r M fun it M1 => lcGoG it.ok tg (wipeD r vs) tt te it.items M1 [] fun acc M2 => Q (.loc M2.length) (M2 ++ [.lst acc])
def dcGoG (ok : Mem → Prop) (tg : D → Rho → (Rho → Prop) → Prop) (r0 : Rho) (tt : DTT) (tk tv : DTE) : List D → Mem → List (Key × D) → (List (Key × D) → Mem → Prop) → Prop
  | [], M, acc, k => ok M ∧ k acc M
  | x :: rest, M, acc, k => ok M ∧ tg x r0 fun r1 => tt r1 M fun b M2 => match b with
    | true => tk r1 M2 fun y M3 => tv r1 M3 fun w M4 => (match keyD y with
      | some q => acc.length < sizeLine ∧ dcGoG ok tg r0 tt tk tv rest M4 (putD acc q w) k
      | none => False)
    | false => dcGoG ok tg r0 tt tk tv rest M2 acc k
def dDcG (ti : DTI) (tg : D → Rho → (Rho → Prop) → Prop) (vs : List Nat) (tt : DTT) (tk tv : DTE) : DTE := fun r M Q => ti r M fun it M1 => dcGoG it.ok tg (wipeD r vs) tt tk tv it.items M1 [] fun acc M2 => Q (.loc M2.length) (M2 ++ [.dic acc])
end DL
namespace DL
open PySem L2
def dTryTwo (C1 C2 : Addr) (tb : XD → DTS) (tu : Addr → DTS) : DTS := fun D r M => tb (fun C' r1 M1 => (C' = C1 ∨ C' = C2) ∧ ∀ a, tu a D r1 M1) D r M
end DL
namespace DL
open PySem L2
def dMaxD (ta : DTA) (te : DTE) : DTE := fun r M Q => ta r M fun ds M1 => match ds with
  | [x] => te r M1 fun d M2 => (match intsOf x M2 with
    | some ns => (ns = [] → Q d M2) ∧ (0 < ns.length → ∀ m, m ∈ ns → (∀ y, y ∈ ns → y ≤ m) → Q (.int m) M2)
    | none => False)
  | _ => False
end DL
namespace DL
open PySem L2
def pD (p : Int × Int) : D := .tup [.int p.1, .int p.2]
def qSortedPT : DRA := fun xs M Q => match xs with
  | [.loc i] => (match M[i]? with
    | some (.lst ds) => ∃ ps : List (Int × Int), ds = ps.map pD ∧ ∀ qs : List (Int × Int), qs.Perm ps → SrtO.Srtd SrtO.lexB qs → Q (.loc M.length) (M ++ [.lst (qs.map pD)])
    | _ => False)
  | _ => False
section
variable {z : Zx}
def dInts : List D → Option (List Int)
  | [] => some []
  | .int i :: ds => (dInts ds).map (i :: ·)
  | _ :: _ => none
def qLtT : DR2 := fun x y M Q => match x, y with
  | .tup ds, .tup es => (match dInts ds, dInts es with
    | some ns, some ms => Q (.bl (HT.lexLt ns ms)) M
    | _, _ => False)
  | _, _ => False
end
abbrev DTg := D → Rho → (Rho → Prop) → Prop
def tgNm (j : Nat) : DTg := fun d r Q => Q (r.set j (some d))
def setAllG : List DTg → List D → Rho → (Rho → Prop) → Prop
  | [], [], r, Q => Q r
  | g :: gs, d :: ds, r, Q => g d r fun r' => setAllG gs ds r' Q
  | _, _, _, _ => False
def tgTupG (gs : List DTg) : DTg := fun d r Q => match d with
  | .tup ds => ds.length = gs.length ∧ setAllG gs ds r Q
  | _ => False
def dFstr (x : Str) (te : DTE) : DTE := fun r M Q => te r M fun y M1 => match y with
  | .int i => i.natAbs.log2 < 1920 ∧ (Str.empty ++ x ++ (toString i : Str)).length ≤ sizeLine ∧ Q (.str (Str.empty ++ x ++ (toString i : Str))) M1
  | _ => False
end DL
namespace DL
open PySem L2 LamX NdefX
def rhoAt (r : Rho) (j : Nat) : Option D := match r[j]? with
  | some o => o
  | none => none
def dMinL (P : Addr) (q : Str) (j : Nat) (tb : DTE) (ta : DTE) : DTE := fun r M Q => ta r M fun x M1 => match x with
  | .loc l => (match M1[l]? with
    | some (.lst ds) => ds ≠ [] ∧ (∃ tj : Nat, M1[tj]? = some (MO.tab P q)) ∧ (∃ d, rhoAt r j = some d) ∧ ∃ (ns : List Nat) (key : Nat → Int), ds = ns.map D.loc ∧ (∀ i n, ns[i]? = some n → tb [some (.loc n), rhoAt r j] M1 fun d M2 => d = .int (key i) ∧ M2 = M1) ∧
      ∀ i n, ns[i]? = some n → (∀ j, j < ns.length → key i ≤ key j) → (∀ j, j < i → key i < key j) → Q (.loc n) M1
    | _ => False)
  | _ => False
end DL
namespace DL
open PySem L2 LamX
end DL
namespace DL
open PySem L2
section
variable {z : Zx} {Ed : XD} {pos : Pos}
def dLcX (Ed : XD) (ti : DTI) (j : Nat) (vs : List Nat) (tt : DTT) (te : XD → DTE) : DTE := fun r M Q => dLc ti j vs tt (te fun C _ M' => Ed C r M') r M Q
end
end DL
namespace DL
open PySem L2
end DL
namespace DL
open PySem L2
section
variable {z : Zx}
/-- for i in reversed(range(n)) -/
def dIRev1 (te : DTE) : DTI := fun r M R => te r M fun x M1 => match x with
  | .int j => (0 ≤ j ∧ j < 2 ^ 62) ∧ R ⟨((List.range j.toNat).map fun (i : Nat) => D.int (i : Int)).reverse, fun _ => True⟩ M1
  | _ => False
/-- len(set(xs)), of whole numbers each once -/
def dLenSet (te : DTE) : DTE := fun r M Q => te r M fun x M1 => match intsOf x M1 with
  | some ns => ns.length < 64 ∧ ns.Nodup ∧ Q (.int (ns.length : Nat)) M1
  | none => False
end
end DL
namespace DL
open PySem L2
section
variable {z : Zx}
def qInSg : DR2 := fun x y M Q => match x, y with
  | .str a, .str b => (match a.cps with
    | ⟨[c]⟩ => Q (.bl (decide (c ∈ b.cps.toList))) M
    | _ => False)
  | _, _ => False
theorem dop_inSg : DOp z (compareOp .In) qInSg := by
  refine ⟨_, op_in_sign, fun m M H x y dx dy Q Qd r d1 d2 h t => ?_⟩
  unfold qInSg at h
  split at h
  · rename_i a b
    split at h
    · rename_i c e
      have ea : a = ⟨#[c]⟩ := by cases a; exact congrArg Str.mk e
      subst ea
      exact ⟨c, b, d1.str_, d2.str_, t _ _ _ _ _ h .refl r RD.bl'⟩
    · exact h.elim
  · exact h.elim
def mSplit : DRM := fun x xs M Q => match x, xs with
  | .str a, [.str b] => ((b.length == 0) = false ∧ a.length + 2 ≤ sizeLine) ∧ Q (.loc M.length) (M ++ [.lst ((Txt.split a b).map D.str)])
  | _, _ => False
theorem dm_split : DMt z "str.split" mSplit := by
  refine ⟨_, mt_split, fun m M H x vs dx ds Q Qd r d1 d2 h t => ?_⟩
  unfold mSplit at h
  split at h
  · obtain ⟨w, rfl, rw'⟩ := d2.one_
    refine ⟨_, _, d1.str_, by rw [rw'.str_], h.1.1, h.1.2, fun p hp => ?_⟩
    exact new_lst r (RDs_strs29 _) hp h.2 t
  · exact h.elim
end
end DL
namespace DL
open PySem L2
def occG (s sub : Str) (hi limit : Nat) (st : Array Nat × Nat) (i : Nat) : Array Nat × Nat :=
  if (decide (st.1.size < limit) && decide (st.2 ≤ i) && decide (i + sub.length ≤ hi) && Builtin.Str.subAt s sub i) = true then (st.1.push i, i + sub.length) else st
theorem occ_fold (s sub : Str) (hi limit : Nat) : Builtin.Str.occurrences s sub 0 hi limit = ((List.range' 0 (hi + 1)).foldl (occG s sub hi limit) (#[], 0)).1.toList := by
  unfold Builtin.Str.occurrences
  simp only [Std.Legacy.Range.forIn_eq_forIn_range', Std.Legacy.Range.size]
  have key : ∀ (l : List Nat) (st : Array Nat × Nat), (forIn (m := Id) l st fun i __s =>
      if (decide (__s.fst.size < limit) && decide (__s.snd ≤ i) && decide (i + sub.length ≤ hi) && Builtin.Str.subAt s sub i) = true then pure (ForInStep.yield (__s.fst.push i, i + sub.length))
      else pure (ForInStep.yield (__s.fst, __s.snd))) = pure (l.foldl (occG s sub hi limit) st) := by
    intro l
    induction l with
    | nil => intro st; rfl
    | cons i l ih =>
      intro st
      rw [List.forIn_cons, List.foldl_cons]
      unfold occG
      by_cases h : (decide (st.1.size < limit) && decide (st.2 ≤ i) && decide (i + sub.length ≤ hi) && Builtin.Str.subAt s sub i) = true
      · rw [if_pos h, if_pos h]
        exact ih _
      · rw [if_neg h, if_neg h]
        exact ih _
  rw [key]
  simp
theorem occ_none {s sub : Str} {hi limit : Nat} : ∀ (l : List Nat) (st : Array Nat × Nat), (∀ i ∈ l, i + sub.length ≤ hi → Builtin.Str.subAt s sub i = false) → l.foldl (occG s sub hi limit) st = st
  | [], _, _ => rfl
  | i :: l, st, h => by
    rw [List.foldl_cons]
    have e : occG s sub hi limit st i = st := by
      unfold occG
      rw [if_neg]
      intro hh
      rw [Bool.and_eq_true, Bool.and_eq_true] at hh
      have h1 := of_decide_eq_true hh.1.2
      rw [h i (List.mem_cons_self ..) h1] at hh
      exact absurd hh.2 (by decide)
    rw [e]
    exact occ_none l st fun j hj => h j (List.mem_cons_of_mem _ hj)
theorem kind_one (x y : Str) (hy : y.cps.all (fun c => decide (c < 256)) = true) : decide (Builtin.Str.strKind x < Builtin.Str.strKind y) = false := by
  have h1 : Builtin.Str.strKind y = 1 := by unfold Builtin.Str.strKind; rw [if_pos hy]
  have h2 : 1 ≤ Builtin.Str.strKind x := by unfold Builtin.Str.strKind; split <;> (try split) <;> omega
  rw [h1]
  exact decide_eq_false (by omega)
/-- no separator -/
theorem split_none {x y : Str} (hy : y.cps.all (fun c => decide (c < 256)) = true) (h : ∀ i, i + y.length ≤ x.length → Builtin.Str.subAt x y i = false) : Txt.split x y = [x] := by
  unfold Txt.split
  split
  · rfl
  · rw [if_pos]
    rw [occ_fold, occ_none _ _ fun i _ hi => h i hi]
    rfl
/-- one separator -/
theorem split_one {x y : Str} {n : Nat} (hy : y.cps.all (fun c => decide (c < 256)) = true) (hyl : 0 < y.length) (hn : n + y.length ≤ x.length) (h0 : ∀ i, i < n → Builtin.Str.subAt x y i = false) (h1 : Builtin.Str.subAt x y n = true) (h2 : ∀ i, n + y.length ≤ i → i + y.length ≤ x.length → Builtin.Str.subAt x y i = false) :
    Txt.split x y = [Builtin.Str.strSub x 0 n, Builtin.Str.strSub x (n + y.length) x.length] := by
  have ho : Builtin.Str.occurrences x y 0 x.length (x.length + 1) = [n] := by
    rw [occ_fold]
    have e1 : List.range' 0 (x.length + 1) = List.range' 0 n ++ n :: List.range' (n + 1) (x.length - n) := by
      have : n :: List.range' (n + 1) (x.length - n) = List.range' n (x.length - n + 1) := (List.range'_succ).symm
      rw [this]
      have := List.range'_append_1 (s := 0) (m := n) (n := x.length - n + 1)
      rw [Nat.zero_add] at this
      rw [this]
      congr 1
      omega
    rw [e1, List.foldl_append, occ_none (List.range' 0 n) (#[], 0) fun i hi _ => h0 i (by have := List.mem_range'_1.mp hi; omega), List.foldl_cons]
    have e2 : occG x y x.length (x.length + 1) (#[], 0) n = (#[n], n + y.length) := by
      unfold occG
      rw [if_pos]
      · rfl
      · rw [h1]
        simp
        omega
    rw [e2]
    have go : ∀ (l : List Nat), (∀ i ∈ l, n < i) → l.foldl (occG x y x.length (x.length + 1)) (#[n], n + y.length) = (#[n], n + y.length) := by
      intro l
      induction l with
      | nil => intro _; rfl
      | cons i l ih =>
        intro hl
        rw [List.foldl_cons]
        have e : occG x y x.length (x.length + 1) (#[n], n + y.length) i = (#[n], n + y.length) := by
          unfold occG
          rw [if_neg]
          intro hh
          rw [Bool.and_eq_true, Bool.and_eq_true, Bool.and_eq_true] at hh
          have a1 := of_decide_eq_true hh.1.1.2
          have a2 := of_decide_eq_true hh.1.2
          rw [h2 i a1 a2] at hh
          exact absurd hh.2 (by decide)
        rw [e]
        exact ih fun j hj => hl j (List.mem_cons_of_mem _ hj)
    rw [go _ fun i hi => by have := List.mem_range'_1.mp hi; omega]
  unfold Txt.split
  rw [kind_one x y hy, ho]
  have e3 : decide (x.length < y.length) = false := decide_eq_false (by omega)
  rw [e3]
  rfl
end DL
namespace DL
open PySem L2
section
variable {z : Zx}
def repS (x : Str) (n : Nat) : Str := ⟨List.foldl (fun x1 x2 => x1 ++ x2) #[] (List.replicate n x.cps)⟩
theorem rep_list (n : Nat) (x : Str) : (repS x n).cps.toList = (List.replicate n x.cps.toList).flatten := by
  have go : ∀ (l : List (Array Nat)) (a : Array Nat), (l.foldl (fun x1 x2 => x1 ++ x2) a).toList = a.toList ++ (l.map Array.toList).flatten := by
    intro l
    induction l with
    | nil => intro a; simp
    | cons b l ih => intro a; rw [List.foldl_cons, ih]; simp
  unfold repS
  show (List.foldl (fun x1 x2 => x1 ++ x2) #[] (List.replicate n x.cps)).toList = _
  rw [go, List.map_replicate]
  rfl
def rRepS : R2 := fun x y H Q => ∃ (a : Str) (n : Nat), x = .str a ∧ y = .int (n : Int) ∧ 2 ≤ n ∧ n ≤ 1000 ∧ 1 ≤ a.length ∧ a.length ≤ 1000 ∧ Q (.str (repS a n)) H
theorem op_repS {X : Cx} : OpR X (binaryOp .Mult) rRepS := by
  intro pins s σ H x y v u Q I rx ry h
  obtain ⟨a, n, rfl, rfl, h2, hn, ha, hal, q⟩ := h
  obtain ⟨t, rfl⟩ := rx
  obtain ⟨t', rfl⟩ := ry
  have e1 : ¬ ((n : Int) < 1) := by omega
  have e2 : (((n : Int) == 1) || a.length == 0) = false := by
    rw [Bool.or_eq_false_iff]
    exact ⟨by simp; omega, by simp; omega⟩
  have hm : a.length * n ≤ 1000000 := by
    have := Nat.mul_le_mul hal hn
    omega
  refine P.mul_str ?_ (fun _ _ => ?_) (fun _ _ => ?_) ?_
  · rw [Bool.or_eq_false_iff]
    exact ⟨decide_eq_false (by omega), decide_eq_false (by omega)⟩
  · have : ((2 : Int) ^ 63 - 1) / 1000 ≤ (2 ^ 63 - 1) / (n : Int) := by
      refine Int.le_ediv_of_mul_le (by omega) ?_
      have h3 : ((2 : Int) ^ 63 - 1) / 1000 * (n : Int) ≤ ((2 : Int) ^ 63 - 1) / 1000 * 1000 := Int.mul_le_mul_of_nonneg_left (by omega) (by decide)
      have h4 : ((2 : Int) ^ 63 - 1) / 1000 * 1000 ≤ 2 ^ 63 - 1 := by decide
      omega
    have h5 : (1000 : Int) ≤ ((2 : Int) ^ 63 - 1) / 1000 := by decide
    omega
  · rw [show ((n : Nat) : Int).toNat = n by omega]
    unfold Builtin.Str.tooLong
    refine decide_eq_false ?_
    have : sizeLine = 16777216 := rfl
    omega
  · rw [if_neg e1, e2, show ((n : Nat) : Int).toNat = n by omega]
    have hl : (repS a n).length = n * a.length := by
      have e := congrArg List.length (rep_list n a)
      have e5 : ∀ k : Nat, ((List.replicate k a.cps.toList).flatten).length = k * a.cps.toList.length := by
        intro k
        induction k with
        | zero => simp
        | succ k ih => rw [List.replicate_succ, List.flatten_cons, List.length_append, ih, Nat.succ_mul]; omega
      rw [e5] at e
      have e3 : a.length = a.cps.toList.length := TL.len_tl a
      have e4 : (repS a n).length = (repS a n).cps.toList.length := TL.len_tl _
      rw [e4, e, e3]
    have hs : sizeLine = 16777216 := rfl
    refine ⟨?_, .str (repS a n), H, I.tok _, ⟨_, rfl⟩, q⟩
    show (repS a n).length ≤ sizeLine
    rw [hl, Nat.mul_comm]
    omega
def qRep : DR2 := fun x y M Q => match x, y with
  | .str a, .int n => (2 ≤ n ∧ n ≤ 1000 ∧ 1 ≤ a.length ∧ a.length ≤ 1000) ∧ Q (.str (repS a n.toNat)) M
  | _, _ => False
theorem dop_rep : DOp z (binaryOp .Mult) qRep := by
  refine ⟨_, op_repS, fun m M H x y dx dy Q Qd r d1 d2 h t => ?_⟩
  unfold qRep at h
  split at h
  · rename_i a n
    obtain ⟨⟨h1, h2, h3, h4⟩, h⟩ := h
    exact ⟨a, n.toNat, d1.str_, by rw [d2.int_]; congr 1; omega, by omega, by omega, h3, h4, t _ _ _ _ _ h .refl r RD.str'⟩
  · exact h.elim
end
end DL
namespace DL
open PySem L2
structure Laid (s t : Tm) (P : List Tm) (F : List Nat) (i : Nat) : Prop where
  len : F.length = i
  le : i ≤ P.length
  zero : P[0]? = some s
  one : P[1]? = some t
  at_ : ∀ j, j < i → ∀ u, P[j]? = some u → ∃ o, F[j]? = some o ∧ j < o ∧ 2 ≤ o ∧ o + u.parts.length ≤ P.length ∧ ∀ k, k < u.parts.length → P[o + k]? = u.parts[k]?
  sum : i + Tm.sizes (P.drop i) = s.size + t.size
  par : ∀ x, 2 ≤ x → x < P.length → ∃ j o u k, j < i ∧ F[j]? = some o ∧ P[j]? = some u ∧ k < u.parts.length ∧ x = o + k
theorem Laid.start (s t : Tm) : Laid s t [s, t] [] 0 where
  len := rfl
  le := Nat.zero_le _
  zero := rfl
  one := rfl
  at_ j h := absurd h (Nat.not_lt_zero _)
  sum := by rw [List.drop_zero, Tm.sizes_cons, Tm.sizes_cons, Tm.sizes_nil]; omega
  par x h1 h2 := by simp at h2; omega
theorem Laid.two {s t : Tm} {P : List Tm} {F : List Nat} {i : Nat} (h : Laid s t P F i) : 2 ≤ P.length := by
  have := (List.getElem?_eq_some_iff.mp h.one).1
  omega
theorem Laid.len_le {s t : Tm} {P : List Tm} {F : List Nat} {i : Nat} (h : Laid s t P F i) : P.length ≤ s.size + t.size := by
  have h1 := Tm.len_sizes (P.drop i)
  rw [List.length_drop] at h1
  have h2 := h.sum
  have h3 := h.le
  omega
def RtN (L : List Nat) : Nat → Nat → Nat → Prop
  | 0, i, r => i = r ∧ L[i]? = some i
  | k + 1, i, r => ∃ j, L[i]? = some j ∧ j ≠ i ∧ RtN L k j r
theorem RtN.uniq {L : List Nat} : ∀ {k k' i r r' : Nat}, RtN L k i r → RtN L k' i r' → k = k' ∧ r = r'
  | 0, 0, i, r, r', ⟨h, _⟩, ⟨h', _⟩ => ⟨rfl, h.symm.trans h'⟩
  | 0, k' + 1, i, r, r', ⟨_, h⟩, ⟨j, h1, h2, _⟩ => by rw [h] at h1; injection h1 with h1; exact absurd h1.symm h2
  | k + 1, 0, i, r, r', ⟨j, h1, h2, _⟩, ⟨_, h⟩ => by rw [h] at h1; injection h1 with h1; exact absurd h1.symm h2
  | k + 1, k' + 1, i, r, r', ⟨j, h1, _, h3⟩, ⟨j', h1', _, h3'⟩ => by
    rw [h1] at h1'
    injection h1' with h1'
    subst h1'
    have := RtN.uniq h3 h3'
    exact ⟨by omega, this.2⟩
theorem RtN.top {L : List Nat} : ∀ {k i r : Nat}, RtN L k i r → L[r]? = some r
  | 0, i, r, ⟨h, h'⟩ => by rw [← h]; exact h'
  | k + 1, i, r, ⟨_, _, _, h⟩ => h.top
theorem RtN.lt {L : List Nat} {k i r : Nat} (h : RtN L k i r) : i < L.length := by
  cases k with
  | zero => exact (List.getElem?_eq_some_iff.mp h.2).1
  | succ k => obtain ⟨j, h, _⟩ := h; exact (List.getElem?_eq_some_iff.mp h).1
/-- each top that L tells, L' tells too -/
def SameTops (L L' : List Nat) : Prop := L'.length = L.length ∧ ∀ d x y, RtN L d x y → ∃ d', d' ≤ d ∧ RtN L' d' x y
theorem SameTops.refl (L : List Nat) : SameTops L L := ⟨rfl, fun d x y h => ⟨d, Nat.le_refl _, h⟩⟩
theorem SameTops.trans {L L' L'' : List Nat} (h : SameTops L L') (h' : SameTops L' L'') : SameTops L L'' :=
  ⟨h'.1.trans h.1, fun d x y r => by
    obtain ⟨d1, l1, r1⟩ := h.2 d x y r
    obtain ⟨d2, l2, r2⟩ := h'.2 d1 x y r1
    exact ⟨d2, Nat.le_trans l2 l1, r2⟩⟩
end DL
namespace DL
open PySem L2
theorem link {L : List Nat} {one other : Nat} (h1 : L[one]? = some one) (h2 : L[other]? = some other) (hne : other ≠ one) : ∀ {d x r : Nat}, RtN L d x r → ∃ d', RtN (L.set one other) d' x (if r = one then other else r) := by
  have hl := (List.getElem?_eq_some_iff.mp h1).1
  have hself : (L.set one other)[one]? = some other := List.getElem?_set_self hl
  have hget : ∀ x, x ≠ one → (L.set one other)[x]? = L[x]? := fun x h => List.getElem?_set_ne (Ne.symm h)
  intro d
  induction d with
  | zero =>
    rintro x r ⟨rfl, hx⟩
    by_cases e : x = one
    · subst e
      rw [if_pos rfl]
      exact ⟨1, other, hself, hne, rfl, by rw [hget other hne]; exact h2⟩
    · rw [if_neg e]
      exact ⟨0, rfl, by rw [hget x e]; exact hx⟩
  | succ d ih =>
    rintro x r ⟨z, hz, hzx, hr⟩
    have e : x ≠ one := fun e => by
      subst e
      rw [h1] at hz
      injection hz with hz
      exact hzx hz.symm
    obtain ⟨d', h'⟩ := ih hr
    exact ⟨d' + 1, z, by rw [hget x e]; exact hz, hzx, h'⟩
/-- each number below n reaches a top -/
def Rooted (n : Nat) (L : List Nat) : Prop := L.length = n ∧ ∀ x, x < n → ∃ d r, RtN L d x r
theorem Rooted.start (n : Nat) : Rooted n (List.range n) := ⟨List.length_range, fun x hx => ⟨0, x, rfl, by rw [List.getElem?_range hx]⟩⟩
theorem Rooted.same {n : Nat} {L L' : List Nat} (h : Rooted n L) (h' : SameTops L L') : Rooted n L' := ⟨h'.1.trans h.1, fun x hx => by
  obtain ⟨d, r, k⟩ := h.2 x hx
  obtain ⟨d', _, k'⟩ := h'.2 d x r k
  exact ⟨d', r, k'⟩⟩
theorem Rooted.link {n : Nat} {L : List Nat} {one other : Nat} (h : Rooted n L) (h1 : L[one]? = some one) (h2 : L[other]? = some other) (hne : other ≠ one) : Rooted n (L.set one other) := ⟨by rw [List.length_set]; exact h.1, fun x hx => by
  obtain ⟨d, r, k⟩ := h.2 x hx
  obtain ⟨d', k'⟩ := DL.link h1 h2 hne k
  exact ⟨d', _, k'⟩⟩
/-- of one top -/
def SameTop (L : List Nat) (x y : Nat) : Prop := ∃ d d' r, RtN L d x r ∧ RtN L d' y r
theorem SameTop.symm {L : List Nat} {x y : Nat} (h : SameTop L x y) : SameTop L y x := by
  obtain ⟨d, d', r, h1, h2⟩ := h
  exact ⟨d', d, r, h2, h1⟩
theorem SameTop.trans {L : List Nat} {x y z : Nat} (h : SameTop L x y) (h' : SameTop L y z) : SameTop L x z := by
  obtain ⟨d, d', r, h1, h2⟩ := h
  obtain ⟨e, e', r', h3, h4⟩ := h'
  have := (RtN.uniq h2 h3).2
  subst this
  exact ⟨d, e', r, h1, h4⟩
theorem SameTop.same {L L' : List Nat} {x y : Nat} (h : SameTop L x y) (h' : SameTops L L') : SameTop L' x y := by
  obtain ⟨d, d', r, h1, h2⟩ := h
  obtain ⟨e, _, k⟩ := h'.2 _ _ _ h1
  obtain ⟨e', _, k'⟩ := h'.2 _ _ _ h2
  exact ⟨e, e', r, k, k'⟩
theorem SameTop.link {L : List Nat} {one other x y : Nat} (h : SameTop L x y) (h1 : L[one]? = some one) (h2 : L[other]? = some other) (hne : other ≠ one) : SameTop (L.set one other) x y := by
  obtain ⟨d, d', r, k, k'⟩ := h
  obtain ⟨e, q⟩ := DL.link h1 h2 hne k
  obtain ⟨e', q'⟩ := DL.link h1 h2 hne k'
  exact ⟨e, e', _, q, q'⟩
/-- joined by tops and by pairs that still wait -/
inductive Cn (L : List Nat) (W : List (Nat × Nat)) : Nat → Nat → Prop
  | top {x y : Nat} : SameTop L x y → Cn L W x y
  | pair {x y : Nat} : (x, y) ∈ W → Cn L W x y
  | symm {x y : Nat} : Cn L W x y → Cn L W y x
  | trans {x y z : Nat} : Cn L W x y → Cn L W y z → Cn L W x z
theorem Cn.mono {L L' : List Nat} {W W' : List (Nat × Nat)} (ht : ∀ x y, SameTop L x y → Cn L' W' x y) (hp : ∀ x y, (x, y) ∈ W → Cn L' W' x y) {x y : Nat} (h : Cn L W x y) : Cn L' W' x y := by
  induction h with
  | top h => exact ht _ _ h
  | pair h => exact hp _ _ h
  | symm _ ih => exact ih.symm
  | trans _ _ ih1 ih2 => exact ih1.trans ih2
theorem Cn.done {L : List Nat} {x y : Nat} (h : Cn L [] x y) : SameTop L x y := by
  induction h with
  | top h => exact h
  | pair h => cases h
  | symm _ ih => exact ih.symm
  | trans _ _ ih1 ih2 => exact ih1.trans ih2
/-- how many tops there are -/
def tops (L : List Nat) : Nat := (List.range L.length).countP fun i => decide (L[i]? = some i)
theorem sameTop_cases {n : Nat} {L : List Nat} {a b x y : Nat} (hr : Rooted n L) (h1 : L[a]? = some a) (h2 : L[b]? = some b) (hne : b ≠ a) (hx : x < n) (hy : y < n) (h : SameTop (L.set a b) x y) :
    SameTop L x y ∨ (SameTop L x a ∧ SameTop L y b) ∨ (SameTop L x b ∧ SameTop L y a) := by
  obtain ⟨d, d', r, k, k'⟩ := h
  obtain ⟨e, q, m⟩ := hr.2 x hx
  obtain ⟨e', q', m'⟩ := hr.2 y hy
  obtain ⟨g, l⟩ := DL.link h1 h2 hne m
  obtain ⟨g', l'⟩ := DL.link h1 h2 hne m'
  have u1 := (RtN.uniq k l).2
  have u2 := (RtN.uniq k' l').2
  by_cases c1 : q = a
  · by_cases c2 : q' = a
    · exact .inl ⟨e, e', a, by rw [← c1]; exact m, by rw [← c2]; exact m'⟩
    · rw [if_pos c1] at u1
      rw [if_neg c2] at u2
      refine .inr (.inl ⟨⟨e, 0, a, by rw [← c1]; exact m, rfl, h1⟩, ⟨e', 0, b, ?_, rfl, h2⟩⟩)
      rw [← u1, u2]
      exact m'
  · by_cases c2 : q' = a
    · rw [if_neg c1] at u1
      rw [if_pos c2] at u2
      refine .inr (.inr ⟨⟨e, 0, b, ?_, rfl, h2⟩, ⟨e', 0, a, by rw [← c2]; exact m', rfl, h1⟩⟩)
      rw [← u2, u1]
      exact m
    · rw [if_neg c1] at u1
      rw [if_neg c2] at u2
      exact .inl ⟨e, e', r, by rw [u1]; exact m, by rw [u2]; exact m'⟩
structure Joined (s t : Tm) (P : List Tm) (F : List Nat) (W : List (Nat × Nat)) (L : List Nat) : Prop where
  laid : Laid s t P F P.length
  root : Rooted P.length L
  bound : ∀ p ∈ W, p.1 < P.length ∧ p.2 < P.length
  tops : ∀ θ : Fl, s.fill θ = t.fill θ → ∀ x y u v, SameTop L x y → P[x]? = some u → P[y]? = some v → u.fill θ = v.fill θ
  waits : ∀ θ : Fl, s.fill θ = t.fill θ → ∀ p ∈ W, ∀ u v, P[p.1]? = some u → P[p.2]? = some v → u.fill θ = v.fill θ
  vars : ∀ x r i, SameTop L x r → L[r]? = some r → P[r]? = some (.var i) → ∃ j, P[x]? = some (.var j)
  cong : ∀ x y f g ts us, SameTop L x y → P[x]? = some (.app f ts) → P[y]? = some (.app g us) → f = g ∧ ts.length = us.length ∧ ∀ o o', F[x]? = some o → F[y]? = some o' → ∀ k, k < ts.length → Cn L W (o + k) (o' + k)
  zero : Cn L W 0 1
  like : ∀ x y v, P[x]? = some (.var v) → P[y]? = some (.var v) → Cn L W x y
theorem Joined.same {s t : Tm} {P : List Tm} {F : List Nat} {W : List (Nat × Nat)} {L L' : List Nat} (h : Joined s t P F W L) (h' : SameTops L L') : Joined s t P F W L' := by
  have hr := h.root.same h'
  have back : ∀ x y, x < P.length → y < P.length → SameTop L' x y → SameTop L x y := fun x y hx hy q => by
    obtain ⟨d, d', r, k, k'⟩ := q
    obtain ⟨e, q, m⟩ := h.root.2 x hx
    obtain ⟨e', q', m'⟩ := h.root.2 y hy
    obtain ⟨g, _, l⟩ := h'.2 _ _ _ m
    obtain ⟨g', _, l'⟩ := h'.2 _ _ _ m'
    have u1 := (RtN.uniq k l).2
    have u2 := (RtN.uniq k' l').2
    exact ⟨e, e', r, by rw [u1]; exact m, by rw [u2]; exact m'⟩
  have lt : ∀ {x : Nat} {u : Tm}, P[x]? = some u → x < P.length := fun hx => (List.getElem?_eq_some_iff.mp hx).1
  have rt : ∀ {d x y}, RtN L' d x y → x < P.length := fun q => by have := q.lt; rw [hr.1] at this; exact this
  have cn : ∀ {x y : Nat}, Cn L W x y → Cn L' W x y := fun q => q.mono (fun x y z => .top (z.same h')) (fun x y z => .pair z)
  refine ⟨h.laid, hr, h.bound, fun θ hθ x y u v q hx hy => h.tops θ hθ x y u v (back x y (lt hx) (lt hy) q) hx hy, h.waits, fun x r i q hrr hp => ?_, fun x y f g ts us q hx hy => ?_, cn h.zero, fun x y v hx hy => cn (h.like x y v hx hy)⟩
  · have hx : x < P.length := by obtain ⟨_, _, _, k, _⟩ := q; exact rt k
    have q0 := back x r hx (lt hp) q
    obtain ⟨e, q', m⟩ := h.root.2 r (lt hp)
    obtain ⟨g, _, l⟩ := h'.2 _ _ _ m
    have u1 := (RtN.uniq l (show RtN L' 0 r r from ⟨rfl, hrr⟩)).2
    subst u1
    exact h.vars x _ i q0 m.top hp
  · obtain ⟨h1, h2, h3⟩ := h.cong x y f g ts us (back x y (lt hx) (lt hy) q) hx hy
    exact ⟨h1, h2, fun o o' ho ho' k hk => cn (h3 o o' ho ho' k hk)⟩
end DL
namespace DL
open PySem L2
theorem SameTop.self {L : List Nat} {d x r : Nat} (h : RtN L d x r) : SameTop L x r := ⟨d, 0, r, h, rfl, h.top⟩
theorem Joined.merge {s t : Tm} {P : List Tm} {F : List Nat} {W Z : List (Nat × Nat)} {L : List Nat} {x y a b d d' : Nat} (h : Joined s t P F (W ++ [(x, y)]) L) (hx : RtN L d x a) (hy : RtN L d' y b) (hne : b ≠ a)
    (hz : ∀ p ∈ Z, p.1 < P.length ∧ p.2 < P.length) (hw : ∀ θ : Fl, s.fill θ = t.fill θ → ∀ p ∈ Z, ∀ u v, P[p.1]? = some u → P[p.2]? = some v → u.fill θ = v.fill θ)
    (hv : (∃ i, P[a]? = some (.var i)) ∨ ∃ f ts, P[b]? = some (.app f ts))
    (hc : ∀ x' y' f g ts us, SameTop L x' a → SameTop L y' b → P[x']? = some (.app f ts) → P[y']? = some (.app g us) → f = g ∧ ts.length = us.length ∧ ∀ o o', F[x']? = some o → F[y']? = some o' → ∀ k, k < ts.length → Cn (L.set a b) (W ++ Z) (o + k) (o' + k)) :
    Joined s t P F (W ++ Z) (L.set a b) := by
  have ha := hx.top
  have hb := hy.top
  have hr := h.root
  have hr' := hr.link ha hb hne
  have hal : a < P.length := by have := (List.getElem?_eq_some_iff.mp ha).1; rw [hr.1] at this; exact this
  have hbl : b < P.length := by have := (List.getElem?_eq_some_iff.mp hb).1; rw [hr.1] at this; exact this
  have lt : ∀ {x : Nat} {u : Tm}, P[x]? = some u → x < P.length := fun hx => (List.getElem?_eq_some_iff.mp hx).1
  have stl : ∀ {p q : Nat}, SameTop (L.set a b) p q → p < P.length ∧ q < P.length := fun z => by
    obtain ⟨_, _, _, k, k'⟩ := z
    have h1 := k.lt
    have h2 := k'.lt
    rw [hr'.1] at h1 h2
    exact ⟨h1, h2⟩
  have cs : ∀ {p q : Nat}, SameTop (L.set a b) p q → SameTop L p q ∨ (SameTop L p a ∧ SameTop L q b) ∨ (SameTop L p b ∧ SameTop L q a) := fun z => sameTop_cases hr ha hb hne (stl z).1 (stl z).2 z
  have hself : (L.set a b)[a]? = some b := List.getElem?_set_self (by rw [hr.1]; exact hal)
  have hxy : SameTop (L.set a b) x y := by
    obtain ⟨e, k⟩ := DL.link ha hb hne hx
    obtain ⟨e', k'⟩ := DL.link ha hb hne hy
    rw [if_pos rfl] at k
    rw [if_neg hne] at k'
    exact ⟨e, e', b, k, k'⟩
  have cn : ∀ {p q : Nat}, Cn L (W ++ [(x, y)]) p q → Cn (L.set a b) (W ++ Z) p q := fun z => z.mono (fun _ _ z => .top (z.link ha hb hne)) fun p q z => by
    rcases List.mem_append.mp z with z | z
    · exact .pair (List.mem_append_left _ z)
    · have := List.mem_singleton.mp z
      injection this with e1 e2
      subst e1 e2
      exact .top hxy
  have hbnd := h.bound (x, y) (by simp)
  obtain ⟨px, hpx⟩ : ∃ u, P[x]? = some u := ⟨_, List.getElem?_eq_getElem hbnd.1⟩
  obtain ⟨py, hpy⟩ : ∃ u, P[y]? = some u := ⟨_, List.getElem?_eq_getElem hbnd.2⟩
  obtain ⟨pa, hpa⟩ : ∃ u, P[a]? = some u := ⟨_, List.getElem?_eq_getElem hal⟩
  obtain ⟨pb, hpb⟩ : ∃ u, P[b]? = some u := ⟨_, List.getElem?_eq_getElem hbl⟩
  have hab : ∀ θ : Fl, s.fill θ = t.fill θ → pa.fill θ = pb.fill θ := fun θ hθ => by
    have e1 := h.tops θ hθ x a px pa (.self hx) hpx hpa
    have e2 := h.tops θ hθ y b py pb (.self hy) hpy hpb
    have e3 := h.waits θ hθ (x, y) (by simp) px py hpx hpy
    rw [← e1, e3, e2]
  refine ⟨h.laid, hr', fun p hp => ?_, fun θ hθ p q u v z hp hq => ?_, fun θ hθ p hp => ?_, fun p r i z hrr hpr => ?_, fun p q f g ts us z hp hq => ?_, cn h.zero, fun p q v hp hq => cn (h.like p q v hp hq)⟩
  · rcases List.mem_append.mp hp with hp | hp
    · exact h.bound p (List.mem_append_left _ hp)
    · exact hz p hp
  · rcases cs z with z | ⟨z1, z2⟩ | ⟨z1, z2⟩
    · exact h.tops θ hθ p q u v z hp hq
    · rw [h.tops θ hθ p a u pa z1 hp hpa, hab θ hθ, h.tops θ hθ q b v pb z2 hq hpb]
    · rw [h.tops θ hθ p b u pb z1 hp hpb, ← hab θ hθ, h.tops θ hθ q a v pa z2 hq hpa]
  · rcases List.mem_append.mp hp with hp | hp
    · exact h.waits θ hθ p (List.mem_append_left _ hp)
    · exact hw θ hθ p hp
  · have hra : r ≠ a := fun e => by
      subst e
      rw [hself] at hrr
      exact hne (Option.some.inj hrr)
    have hrL : L[r]? = some r := by rw [List.getElem?_set_ne (Ne.symm hra)] at hrr; exact hrr
    have only : ∀ {c : Nat}, L[c]? = some c → SameTop L r c → r = c := fun hc z => by
      obtain ⟨_, _, w, k, k'⟩ := z
      have e1 := (RtN.uniq k (show RtN L 0 r r from ⟨rfl, hrL⟩)).2
      have e2 := (RtN.uniq k' (show RtN L 0 _ _ from ⟨rfl, hc⟩)).2
      exact e1.symm.trans e2
    rcases cs z with z | ⟨z1, z2⟩ | ⟨z1, z2⟩
    · exact h.vars p r i z hrL hpr
    · have e := only hb z2
      subst e
      rcases hv with ⟨j, hj⟩ | ⟨f, ts, hf⟩
      · exact h.vars p a j z1 ha hj
      · rw [hpr] at hf; cases hf
    · exact absurd (only ha z2) hra
  · rcases cs z with z | ⟨z1, z2⟩ | ⟨z1, z2⟩
    · obtain ⟨h1, h2, h3⟩ := h.cong p q f g ts us z hp hq
      exact ⟨h1, h2, fun o o' ho ho' k hk => cn (h3 o o' ho ho' k hk)⟩
    · exact hc p q f g ts us z1 z2 hp hq
    · obtain ⟨h1, h2, h3⟩ := hc q p g f us ts z2 z1 hq hp
      exact ⟨h1.symm, h2.symm, fun o o' ho ho' k hk => (h3 o' o ho' ho k (by omega)).symm⟩
theorem Joined.var {s t : Tm} {P : List Tm} {F : List Nat} {W : List (Nat × Nat)} {L : List Nat} {x y a b d d' : Nat} {i : Int} (h : Joined s t P F (W ++ [(x, y)]) L) (hx : RtN L d x a) (hy : RtN L d' y b) (hne : b ≠ a) (ha : P[a]? = some (.var i)) :
    Joined s t P F W (L.set a b) := by
  have := h.merge (Z := []) hx hy hne (fun p hp => by cases hp) (fun θ _ p hp => by cases hp) (.inl ⟨i, ha⟩) fun x' y' f g ts us z1 z2 hp hq => by
    obtain ⟨j, hj⟩ := h.vars x' a i z1 hx.top ha
    rw [hp] at hj
    cases hj
  rw [List.append_nil] at this
  exact this
theorem Joined.app {s t : Tm} {P : List Tm} {F : List Nat} {W : List (Nat × Nat)} {L : List Nat} {x y a b d d' oa ob : Nat} {f : Str} {ts us : List Tm} (h : Joined s t P F (W ++ [(x, y)]) L) (hx : RtN L d x a) (hy : RtN L d' y b) (hne : b ≠ a)
    (ha : P[a]? = some (.app f ts)) (hb : P[b]? = some (.app f us)) (hl : ts.length = us.length) (hoa : F[a]? = some oa) (hob : F[b]? = some ob) :
    Joined s t P F (W ++ (List.range ts.length).map fun k => (oa + k, ob + k)) (L.set a b) := by
  have lt : ∀ {x : Nat} {u : Tm}, P[x]? = some u → x < P.length := fun hx => (List.getElem?_eq_some_iff.mp hx).1
  obtain ⟨oa', e1, _, _, la, ga⟩ := h.laid.at_ a (lt ha) _ ha
  obtain ⟨ob', e2, _, _, lb, gb⟩ := h.laid.at_ b (lt hb) _ hb
  rw [hoa] at e1
  rw [hob] at e2
  cases e1
  cases e2
  have pa : (Tm.app f ts).parts = ts := rfl
  have pb : (Tm.app f us).parts = us := rfl
  rw [pa] at la ga
  rw [pb] at lb gb
  have hzm : ∀ {p : Nat × Nat}, p ∈ (List.range ts.length).map (fun k => (oa + k, ob + k)) → ∃ k, k < ts.length ∧ p = (oa + k, ob + k) := fun hp => by
    obtain ⟨k, hk, rfl⟩ := List.mem_map.mp hp
    exact ⟨k, List.mem_range.mp hk, rfl⟩
  have hbnd := h.bound (x, y) (by simp)
  obtain ⟨px, hpx⟩ : ∃ u, P[x]? = some u := ⟨_, List.getElem?_eq_getElem hbnd.1⟩
  obtain ⟨py, hpy⟩ : ∃ u, P[y]? = some u := ⟨_, List.getElem?_eq_getElem hbnd.2⟩
  refine h.merge hx hy hne (fun p hp => ?_) (fun θ hθ p hp u v hu hv => ?_) (.inr ⟨f, us, hb⟩) fun x' y' f' g' ts' us' z1 z2 hp hq => ?_
  · obtain ⟨k, hk, rfl⟩ := hzm hp
    exact ⟨by show oa + k < P.length; omega, by show ob + k < P.length; omega⟩
  · obtain ⟨k, hk, rfl⟩ := hzm hp
    dsimp only at hu hv
    rw [ga k hk] at hu
    rw [gb k (by omega)] at hv
    have e1 := h.tops θ hθ x a px _ (.self hx) hpx ha
    have e2 := h.tops θ hθ y b py _ (.self hy) hpy hb
    have e3 := h.waits θ hθ (x, y) (by simp) px py hpx hpy
    rw [e1, e2, Tm.fill_app, Tm.fill_app] at e3
    injection e3 with _ e5
    have := congrArg (fun l => l[k]?) e5
    simp only [List.getElem?_map, hu, hv, Option.map_some] at this
    exact Option.some.inj this
  · obtain ⟨h1, h2, h3⟩ := h.cong x' a f' f ts' ts z1 hp ha
    obtain ⟨h4, h5, h6⟩ := h.cong b y' f g' us us' z2.symm hb hq
    refine ⟨h1.trans h4, by omega, fun o o' ho ho' k hk => ?_⟩
    have hxy : SameTop (L.set a b) x y := by
      obtain ⟨e, k⟩ := DL.link hx.top hy.top hne hx
      obtain ⟨e', k'⟩ := DL.link hx.top hy.top hne hy
      rw [if_pos rfl] at k
      rw [if_neg hne] at k'
      exact ⟨e, e', b, k, k'⟩
    have cn : ∀ {p q : Nat}, Cn L (W ++ [(x, y)]) p q → Cn (L.set a b) (W ++ (List.range ts.length).map fun k => (oa + k, ob + k)) p q := fun z => z.mono (fun _ _ z => .top (z.link hx.top hy.top hne)) fun p q z => by
      rcases List.mem_append.mp z with z | z
      · exact .pair (List.mem_append_left _ z)
      · have := List.mem_singleton.mp z
        injection this with e1 e2
        subst e1 e2
        exact .top hxy
    have c1 := cn (h3 o oa ho hoa k hk)
    have c2 := cn (h6 ob o' hob ho' k (by omega))
    have c3 : Cn (L.set a b) (W ++ (List.range ts.length).map fun k => (oa + k, ob + k)) (oa + k) (ob + k) := .pair (List.mem_append_right _ (List.mem_map.mpr ⟨k, List.mem_range.mpr (by omega), rfl⟩))
    exact (c1.trans c3).trans c2
theorem Joined.start {s t : Tm} {P : List Tm} {F : List Nat} {lb : List (Nat × Nat)} (h : Laid s t P F P.length) (sound : ∀ p ∈ lb, ∃ v, P[p.1]? = some (.var v) ∧ P[p.2]? = some (.var v))
    (all : ∀ v : Int, (∀ x : Nat, P[x]? ≠ some (.var v)) ∨ ∃ f : Nat, P[f]? = some (.var v) ∧ ∀ x : Nat, P[x]? = some (.var v) → (f, x) ∈ lb) : Joined s t P F (lb ++ [(0, 1)]) (List.range P.length) := by
  have tp : ∀ {d x r : Nat}, RtN (List.range P.length) d x r → x = r := fun {d x r} k => by
    have hx := k.lt
    rw [List.length_range] at hx
    exact (RtN.uniq k (show RtN (List.range P.length) 0 x x from ⟨rfl, by rw [List.getElem?_range hx]⟩)).2.symm
  have st : ∀ {x y : Nat}, SameTop (List.range P.length) x y → x = y := fun z => by
    obtain ⟨_, _, r, k, k'⟩ := z
    rw [tp k, tp k']
  have hm : ∀ {p : Nat × Nat}, p ∈ lb ++ [(0, 1)] → p ∈ lb ∨ p = (0, 1) := fun hp => by simpa using hp
  have h2 := h.two
  refine ⟨h, .start _, fun p hp => ?_, fun θ hθ x y u v z hx hy => ?_, fun θ hθ p hp u v hu hv => ?_, fun x r i z _ hp => ?_, fun x y f g ts us z hx hy => ?_, .pair (by simp), fun x y v hx hy => ?_⟩
  · rcases hm hp with hp | rfl
    · obtain ⟨v, h1, h2⟩ := sound p hp
      exact ⟨(List.getElem?_eq_some_iff.mp h1).1, (List.getElem?_eq_some_iff.mp h2).1⟩
    · exact ⟨by show 0 < P.length; omega, by show 1 < P.length; omega⟩
  · have e := st z
    subst e
    rw [hx] at hy
    cases hy
    rfl
  · rcases hm hp with hp | rfl
    · obtain ⟨w, h1, h2⟩ := sound p hp
      rw [h1] at hu
      rw [h2] at hv
      cases hu
      cases hv
      rfl
    · dsimp only at hu hv
      rw [h.zero] at hu
      rw [h.one] at hv
      cases hu
      cases hv
      exact hθ
  · have e := st z
    subst e
    exact ⟨i, hp⟩
  · have e := st z
    subst e
    rw [hx] at hy
    cases hy
    refine ⟨rfl, rfl, fun o o' ho ho' k hk => ?_⟩
    rw [ho] at ho'
    cases ho'
    obtain ⟨o2, e1, _, _, la, _⟩ := h.at_ x (List.getElem?_eq_some_iff.mp hx).1 _ hx
    rw [ho] at e1
    cases e1
    have pa : (Tm.app f ts).parts = ts := rfl
    rw [pa] at la
    exact .top (.self (d := 0) ⟨rfl, by rw [List.getElem?_range (by omega)]⟩)
  · rcases all v with hv | ⟨f, _, hf⟩
    · exact absurd hx (hv x)
    · exact (Cn.pair (List.mem_append_left _ (hf x hx))).symm.trans (.pair (List.mem_append_left _ (hf y hy)))
end DL
namespace DL
open PySem L2
inductive Val (P : List Tm) (F L : List Nat) : Nat → Tm → Prop
  | var {x r : Nat} {i : Int} : SameTop L x r → L[r]? = some r → P[r]? = some (.var i) → Val P F L x (.var i)
  | app {x r o : Nat} {f : Str} {ts us : List Tm} : SameTop L x r → L[r]? = some r → P[r]? = some (.app f ts) → F[r]? = some o → us.length = ts.length → (∀ k u, us[k]? = some u → Val P F L (o + k) u) → Val P F L x (.app f us)
theorem SameTop.tops {L : List Nat} {x r r' : Nat} (h : SameTop L x r) (h' : SameTop L x r') (t : L[r]? = some r) (t' : L[r']? = some r') : r = r' := by
  obtain ⟨_, _, a, k1, k2⟩ := h
  obtain ⟨_, _, b, k3, k4⟩ := h'
  have e1 := (RtN.uniq k2 (show RtN L 0 r r from ⟨rfl, t⟩)).2
  have e2 := (RtN.uniq k4 (show RtN L 0 r' r' from ⟨rfl, t'⟩)).2
  have e3 := (RtN.uniq k1 k3).2
  omega
theorem Val.same {P : List Tm} {F L : List Nat} {x y : Nat} {u : Tm} (h : Val P F L x u) (e : SameTop L x y) : Val P F L y u := by
  cases h with
  | var h1 h2 h3 => exact .var (e.symm.trans h1) h2 h3
  | app h1 h2 h3 h4 h5 h6 => exact .app (e.symm.trans h1) h2 h3 h4 h5 h6
theorem Val.uniq {P : List Tm} {F L : List Nat} {x : Nat} {u : Tm} (h : Val P F L x u) : ∀ {v : Tm}, Val P F L x v → u = v := by
  induction h with
  | var h1 h2 h3 =>
    intro v h'
    cases h' with
    | var g1 g2 g3 => have e := h1.tops g1 h2 g2; subst e; rw [h3] at g3; exact Option.some.inj g3
    | app g1 g2 g3 => have e := h1.tops g1 h2 g2; subst e; rw [h3] at g3; cases g3
  | @app x r o f ts us h1 h2 h3 h4 h5 h6 ih =>
    intro v h'
    cases h' with
    | var g1 g2 g3 => have e := h1.tops g1 h2 g2; subst e; rw [h3] at g3; cases g3
    | @app _ r' o' f' ts' us' g1 g2 g3 g4 g5 g6 =>
      have e := h1.tops g1 h2 g2
      subst e
      rw [h3] at g3
      rw [h4] at g4
      cases g3
      cases g4
      congr 1
      refine List.ext_getElem? fun k => ?_
      cases hk : us[k]? with
      | none =>
        rw [List.getElem?_eq_none_iff] at hk
        exact (List.getElem?_eq_none (by omega)).symm
      | some a =>
        have hkl := (List.getElem?_eq_some_iff.mp hk).1
        obtain ⟨b, hb⟩ : ∃ b, us'[k]? = some b := ⟨_, List.getElem?_eq_getElem (by omega)⟩
        rw [hb, ih k a hk (g6 k b hb)]
section
variable {s t : Tm} {P : List Tm} {F L : List Nat}
theorem Laid.kid (h : Laid s t P F P.length) {x o k : Nat} {f : Str} {ts : List Tm} (hx : P[x]? = some (.app f ts)) (ho : F[x]? = some o) (hk : k < ts.length) : P[o + k]? = ts[k]? ∧ x < o ∧ o + k < P.length := by
  obtain ⟨o', h1, h2, _, h4, h5⟩ := h.at_ x (List.getElem?_eq_some_iff.mp hx).1 _ hx
  rw [ho] at h1
  cases h1
  have : (Tm.app f ts).parts = ts := rfl
  rw [this] at h4 h5
  exact ⟨h5 k hk, h2, by omega⟩
/-- as open as can be -/
theorem Val.open_ (J : Joined s t P F [] L) {x : Nat} {u : Tm} (h : Val P F L x u) : ∀ {θ : Fl}, s.fill θ = t.fill θ → ∀ {p : Tm}, P[x]? = some p → u.fill θ = p.fill θ := by
  induction h with
  | var h1 h2 h3 =>
    intro θ hθ p hp
    exact (J.tops θ hθ _ _ _ _ h1 hp h3).symm
  | @app x r o f ts us h1 h2 h3 h4 h5 h6 ih =>
    intro θ hθ p hp
    rw [J.tops θ hθ _ _ _ _ h1 hp h3, Tm.fill_app, Tm.fill_app]
    congr 1
    refine List.ext_getElem? fun k => ?_
    rw [List.getElem?_map, List.getElem?_map]
    cases hk : us[k]? with
    | none =>
      rw [List.getElem?_eq_none_iff] at hk
      rw [List.getElem?_eq_none (l := ts) (by omega)]
    | some a =>
      have hkl := (List.getElem?_eq_some_iff.mp hk).1
      obtain ⟨b, hb⟩ : ∃ b, ts[k]? = some b := ⟨_, List.getElem?_eq_getElem (by omega)⟩
      rw [hb]
      have := J.laid.kid h3 h4 (k := k) (by omega)
      rw [hb] at this
      show some _ = some _
      rw [ih k a hk hθ this.1]
theorem Joined.like' (J : Joined s t P F [] L) {x y : Nat} {v : Int} (hx : P[x]? = some (.var v)) (hy : P[y]? = some (.var v)) : SameTop L x y := (J.like x y v hx hy).done
/-- each top of a part with a name has one -/
theorem Joined.top_app (J : Joined s t P F [] L) {x r : Nat} {f : Str} {ts : List Tm} (h : SameTop L x r) (hr : L[r]? = some r) (hx : P[x]? = some (.app f ts)) : ∃ us, P[r]? = some (.app f us) ∧ us.length = ts.length ∧ ∀ o o', F[x]? = some o → F[r]? = some o' → ∀ k, k < ts.length → SameTop L (o + k) (o' + k) := by
  have hrl : r < P.length := by have := (List.getElem?_eq_some_iff.mp hr).1; rw [J.root.1] at this; exact this
  obtain ⟨p, hp⟩ : ∃ p, P[r]? = some p := ⟨_, List.getElem?_eq_getElem hrl⟩
  cases p with
  | var i =>
    obtain ⟨j, hj⟩ := J.vars x r i h hr hp
    rw [hx] at hj
    cases hj
  | app g us =>
    obtain ⟨h1, h2, h3⟩ := J.cong x r f g ts us h hx hp
    subst h1
    exact ⟨us, hp, h2.symm, fun o o' ho ho' k hk => (h3 o o' ho ho' k hk).done⟩
/-- a filling by what the blanks' tops are filled to makes of each part what its top is filled to -/
theorem Val.fills (J : Joined s t P F [] L) {θ : Fl} (hv : ∀ (x : Nat) (v : Int) (u : Tm), P[x]? = some (.var v) → Val P F L x u → (Tm.var v).fill θ = u) : ∀ {p : Tm} {x : Nat} {u : Tm}, P[x]? = some p → Val P F L x u → p.fill θ = u := by
  intro p
  refine Tm.ind (P := fun p => ∀ {x : Nat} {u : Tm}, P[x]? = some p → Val P F L x u → p.fill θ = u) (fun i => ?_) (fun f ts ih => ?_) p
  · intro x u hx hu
    exact hv x i u hx hu
  · intro x u hx hu
    cases hu with
    | @var _ r i h1 h2 h3 =>
      obtain ⟨us, h4, _⟩ := J.top_app h1 h2 hx
      rw [h3] at h4
      cases h4
    | @app _ r o g ts' us h1 h2 h3 h4 h5 h6 =>
      obtain ⟨us', h7, h8, h9⟩ := J.top_app h1 h2 hx
      rw [h3] at h7
      cases h7
      rw [Tm.fill_app]
      congr 1
      refine List.ext_getElem? fun k => ?_
      rw [List.getElem?_map]
      cases hk : us[k]? with
      | none =>
        rw [List.getElem?_eq_none_iff] at hk
        rw [List.getElem?_eq_none (by omega)]
        rfl
      | some a =>
        have hkl := (List.getElem?_eq_some_iff.mp hk).1
        obtain ⟨b, hb⟩ : ∃ b, ts[k]? = some b := ⟨_, List.getElem?_eq_getElem (by omega)⟩
        obtain ⟨ox, hox, _⟩ := J.laid.at_ x (List.getElem?_eq_some_iff.mp hx).1 _ hx
        have hkid := J.laid.kid hx hox (k := k) (by omega)
        rw [hb] at hkid ⊢
        show some _ = some _
        congr 1
        exact ih b (List.mem_of_getElem? hb) hkid.1 ((h6 k a hk).same (h9 ox o hox h4 k (by omega)).symm)
/-- a blank in what a part is filled to is a top's own -/
theorem Val.blank {x : Nat} {u : Tm} (h : Val P F L x u) : ∀ {i : Int}, i ∈ u.flat → ∃ r : Nat, L[r]? = some r ∧ P[r]? = some (.var i) := by
  induction h with
  | @var x r j h1 h2 h3 =>
    intro i hi
    rw [Tm.flat_var] at hi
    have := List.mem_singleton.mp hi
    subst this
    exact ⟨r, h2, h3⟩
  | @app x r o f ts us h1 h2 h3 h4 h5 h6 ih =>
    intro i hi
    rw [Tm.flat_app] at hi
    obtain ⟨a, ha, hi⟩ : ∃ a ∈ us, i ∈ a.flat := by
      clear h5 h6 ih
      induction us with
      | nil => rw [Tm.flats_nil] at hi; cases hi
      | cons b us ihh =>
        rw [Tm.flats_cons] at hi
        rcases List.mem_append.mp hi with hi | hi
        · exact ⟨b, List.mem_cons_self .., hi⟩
        · obtain ⟨a, ha, hia⟩ := ihh hi
          exact ⟨a, List.mem_cons_of_mem _ ha, hia⟩
    obtain ⟨k, hk⟩ := List.getElem?_of_mem ha
    exact ih k a hk hi
def Kid (P : List Tm) (F L : List Nat) (r q : Nat) : Prop := ∃ f ts o k, P[r]? = some (.app f ts) ∧ F[r]? = some o ∧ k < ts.length ∧ SameTop L (o + k) q ∧ L[q]? = some q
inductive Below (P : List Tm) (F L : List Nat) : Nat → Nat → Prop
  | kid {r q : Nat} : Kid P F L r q → Below P F L r q
  | step {r q p : Nat} : Below P F L r q → Kid P F L q p → Below P F L r p
theorem Kid.size (J : Joined s t P F [] L) {θ : Fl} (hθ : s.fill θ = t.fill θ) {r q : Nat} (h : Kid P F L r q) {a b : Tm} (ha : P[r]? = some a) (hb : P[q]? = some b) : (b.fill θ).size < (a.fill θ).size := by
  obtain ⟨f, ts, o, k, h1, h2, h3, h4, h5⟩ := h
  rw [h1] at ha
  cases ha
  obtain ⟨c, hc⟩ : ∃ b, ts[k]? = some b := ⟨_, List.getElem?_eq_getElem (by omega)⟩
  have hkid := J.laid.kid h1 h2 h3
  rw [hc] at hkid
  rw [← J.tops θ hθ _ _ _ _ h4 hkid.1 hb, Tm.fill_app, Tm.size_app]
  have := Tm.size_mem (List.mem_map.mpr ⟨c, List.mem_of_getElem? hc, rfl⟩ : c.fill θ ∈ ts.map (Tm.fill θ))
  omega
theorem Kid.lt (J : Joined s t P F [] L) {r q : Nat} (h : Kid P F L r q) : r < P.length ∧ q < P.length := by
  obtain ⟨f, ts, o, k, h1, h2, h3, h4, h5⟩ := h
  refine ⟨(List.getElem?_eq_some_iff.mp h1).1, ?_⟩
  have := (List.getElem?_eq_some_iff.mp h5).1
  rw [J.root.1] at this
  exact this
theorem Below.lt (J : Joined s t P F [] L) {r q : Nat} (h : Below P F L r q) : r < P.length ∧ q < P.length := by
  induction h with
  | kid h => exact h.lt J
  | step _ h ih => exact ⟨ih.1, (h.lt J).2⟩
theorem Below.size (J : Joined s t P F [] L) {θ : Fl} (hθ : s.fill θ = t.fill θ) {r q : Nat} (h : Below P F L r q) : ∀ {a b : Tm}, P[r]? = some a → P[q]? = some b → (b.fill θ).size < (a.fill θ).size := by
  induction h with
  | kid h => intro a b ha hb; exact h.size J hθ ha hb
  | @step q p _ h ih =>
    intro a b ha hb
    obtain ⟨c, hc⟩ : ∃ c, P[q]? = some c := ⟨_, List.getElem?_eq_getElem (h.lt J).1⟩
    have h1 := ih ha hc
    have h2 := h.size J hθ hc hb
    omega
structure Bt (P : List Tm) (F L : List Nat) (B : Fl) : Prop where
  val : ∀ i u, getF B i = some u → ∃ r : Nat, i = (r : Int) ∧ L[r]? = some r ∧ Val P F L r u
  kid : ∀ (r q : Nat), (getF B r).isSome → Kid P F L r q → (getF B q).isSome
  nd : keysNd B
theorem Bt.len (J : Joined s t P F [] L) {B : Fl} (h : Bt P F L B) : B.length ≤ P.length := by
  have hnd : (B.map (·.1)).Nodup := h.nd
  have := sub_len (l := B.map (·.1)) (l' := (List.range P.length).map fun (i : Nat) => (i : Int)) hnd fun x hx => by
    obtain ⟨u, hu⟩ := getF_keys.mp hx
    obtain ⟨r, rfl, h1, _⟩ := h.val _ _ hu
    have := (List.getElem?_eq_some_iff.mp h1).1
    rw [J.root.1] at this
    exact List.mem_map.mpr ⟨r, List.mem_range.mpr this, rfl⟩
  rw [List.length_map, List.length_map, List.length_range] at this
  exact this
/-- what holds while parts are built: B built, Z begun, W waiting -/
structure BI (P : List Tm) (F L : List Nat) (r0 : Nat) (B : Fl) (Z : List Int) (W : List Nat) : Prop where
  bt : Bt P F L B
  tops : ∀ x ∈ W, L[x]? = some x
  znd : Z.Nodup
  zlt : ∀ z ∈ Z, ∃ r : Nat, z = (r : Int) ∧ r < P.length
  stk : ∀ r : Nat, (r : Int) ∈ Z → getF B r = none → ∃ A C, W = A ++ r :: C ∧ (∀ x ∈ C, Below P F L r x) ∧ ∀ q : Nat, Kid P F L r q → (getF B q).isSome ∨ q ∈ C
  root : (getF B r0).isSome ∨ ∃ W', W = r0 :: W'
theorem BI.start {r0 : Nat} (h : L[r0]? = some r0) : BI P F L r0 [] [] [r0] where
  bt := ⟨(fun i u h => by cases h), (fun r q h _ => by cases h), (by unfold keysNd; exact List.nodup_nil)⟩
  tops x hx := by rw [List.mem_singleton.mp hx]; exact h
  znd := List.nodup_nil
  zlt z hz := by cases hz
  stk r hr _ := by cases hr
  root := .inr ⟨[], rfl⟩
/-- the tops of a part's parts -/
structure Kids (P : List Tm) (F L : List Nat) (x : Nat) (Q : List Nat) : Prop where
  sound : ∀ q ∈ Q, Kid P F L x q
  all : ∀ q, Kid P F L x q → q ∈ Q
theorem Kids.val {x o : Nat} {f : Str} {ts us : List Tm} {Q : List Nat} {B : Fl} (hb : Bt P F L B) (hx : L[x]? = some x) (hp : P[x]? = some (.app f ts)) (ho : F[x]? = some o) (hQ : Q.length = ts.length) (hq : ∀ k q, Q[k]? = some q → SameTop L (o + k) q)
    (hu : us.length = Q.length) (hg : ∀ (k q : Nat) (u : Tm), Q[k]? = some q → us[k]? = some u → getF B q = some u) : Val P F L x (.app f us) :=
  .app (.self (d := 0) ⟨rfl, hx⟩) hx hp ho (by omega) fun k u hk => by
    have hkl := (List.getElem?_eq_some_iff.mp hk).1
    obtain ⟨q, hq'⟩ : ∃ q, Q[k]? = some q := ⟨_, List.getElem?_eq_getElem (by omega)⟩
    obtain ⟨r, e, h1, h2⟩ := hb.val q u (hg k q u hq' hk)
    have : r = q := by omega
    subst this
    exact h2.same (hq k r hq').symm
theorem Kids.of {x o : Nat} {f : Str} {ts : List Tm} {Q : List Nat} (hp : P[x]? = some (.app f ts)) (ho : F[x]? = some o) (hQ : Q.length = ts.length) (hq : ∀ k q, Q[k]? = some q → SameTop L (o + k) q ∧ L[q]? = some q) : Kids P F L x Q where
  sound q h := by
    obtain ⟨k, hk⟩ := List.getElem?_of_mem h
    have hkl := (List.getElem?_eq_some_iff.mp hk).1
    exact ⟨f, ts, o, k, hp, ho, by omega, (hq k q hk).1, (hq k q hk).2⟩
  all q h := by
    obtain ⟨f', ts', o', k, h1, h2, h3, h4, h5⟩ := h
    rw [hp] at h1
    rw [ho] at h2
    cases h1
    cases h2
    obtain ⟨q', hq'⟩ : ∃ q, Q[k]? = some q := ⟨_, List.getElem?_eq_getElem (by omega)⟩
    have := (hq k q' hq').1.tops h4 (hq k q' hq').2 h5
    subst this
    exact List.mem_of_getElem? hq'
theorem Kids.var {x : Nat} {i : Int} (hp : P[x]? = some (.var i)) : Kids P F L x [] where
  sound q h := by cases h
  all q h := by
    obtain ⟨f', ts', o', k, h1, _⟩ := h
    rw [hp] at h1
    cases h1
/-- all that is built: every part's top -/
theorem Bt.all (J : Joined s t P F [] L) {B : Fl} {r0 : Nat} (h : Bt P F L B) (h0 : SameTop L 0 r0) (ht : L[r0]? = some r0) (hs : (getF B r0).isSome) : ∀ x, x < P.length → ∀ r, SameTop L x r → L[r]? = some r → ∃ u, getF B r = some u ∧ Val P F L x u := by
  intro x
  induction x using Nat.strongRecOn with
  | _ x ih =>
    intro hx r hr hrt
    have key : (getF B r).isSome := by
      by_cases hx2 : x < 2
      · have h01 : SameTop L 0 1 := J.zero.done
        have : SameTop L x r0 := by
          have : x = 0 ∨ x = 1 := by omega
          rcases this with rfl | rfl
          · exact h0
          · exact h01.symm.trans h0
        rw [hr.tops this hrt ht]
        exact hs
      · obtain ⟨j, o, p, k, h1, h2, h3, h4, rfl⟩ := J.laid.par x (by omega) hx
        cases p with
        | var i => exact absurd h4 (Nat.not_lt_zero _)
        | app f ts =>
          have h4 : k < ts.length := h4
          obtain ⟨hjk, hjo, _⟩ := J.laid.kid h3 h2 h4
          obtain ⟨d, rj, hrj⟩ := J.root.2 j h1
          obtain ⟨u, hu, _⟩ := ih j (by omega) h1 rj (.self hrj) hrj.top
          obtain ⟨us, h5, h6, h7⟩ := J.top_app (.self hrj) hrj.top h3
          have hrjl : rj < P.length := (List.getElem?_eq_some_iff.mp h5).1
          obtain ⟨o', ho', _⟩ := J.laid.at_ rj hrjl _ h5
          refine h.kid rj r (by rw [hu]; rfl) ⟨f, us, o', k, h5, ho', by omega, (h7 o o' h2 ho' k h4).symm.trans hr, hrt⟩
    cases e : getF B r with
    | none => rw [e] at key; cases key
    | some u =>
      obtain ⟨r', e', _, hv⟩ := h.val r u e
      have : r' = r := by omega
      subst this
      exact ⟨u, rfl, hv.same hr.symm⟩
end
end DL
namespace DL
open PySem L2
structure Mgu (s t : Tm) (θ : Fl) : Prop where
  nd : keysNd θ
  same : s.fill θ = t.fill θ
  open_ : ∀ θ' : Fl, s.fill θ' = t.fill θ' → ∀ i, ((Tm.var i).fill θ).fill θ' = (Tm.var i).fill θ'
  keys : ∀ i u, getF θ i = some u → i ∈ s.flat ++ t.flat
  vals : ∀ i u, getF θ i = some u → ∀ j ∈ u.flat, getF θ j = none ∧ j ∈ s.flat ++ t.flat
  ne : ∀ i u, getF θ i = some u → u ≠ .var i
  over : ∀ ss vs, Over ss vs s → Over ss vs t → ∀ i u, getF θ i = some u → Over ss vs u
  nm : ∀ p : Str → Prop, s.Nm p → t.Nm p → ∀ i u, getF θ i = some u → u.Nm p
  len : θ.length ≤ s.size + t.size
section
variable {s t : Tm} {P : List Tm} {F L : List Nat}
theorem Laid.all (h : Laid s t P F P.length) {R : Tm → Prop} (hs : R s) (ht : R t) (hp : ∀ f ts, R (.app f ts) → ∀ u ∈ ts, R u) : ∀ p ∈ P, R p := by
  have key : ∀ (x : Nat) (p : Tm), P[x]? = some p → R p := by
    intro x
    induction x using Nat.strongRecOn with
    | _ x ih =>
      intro p hx
      have hxl := (List.getElem?_eq_some_iff.mp hx).1
      by_cases h0 : x = 0
      · subst h0; rw [h.zero] at hx; cases hx; exact hs
      · by_cases h1 : x = 1
        · subst h1; rw [h.one] at hx; cases hx; exact ht
        · obtain ⟨j, o, q, k, h3, h4, h5, h6, rfl⟩ := h.par x (by omega) hxl
          cases q with
          | var i => exact absurd h6 (Nat.not_lt_zero _)
          | app f ts =>
            have h6 : k < ts.length := h6
            have hk := h.kid h5 h4 h6
            rw [hx] at hk
            exact hp f ts (ih j (by omega) _ h5) p (List.mem_of_getElem? hk.1.symm)
  intro p hp'
  obtain ⟨x, hx⟩ := List.getElem?_of_mem hp'
  exact key x p hx
theorem flats_mem {ts : List Tm} {u : Tm} {i : Int} (h : u ∈ ts) (hi : i ∈ u.flat) : i ∈ Tm.flats ts := by
  induction ts with
  | nil => cases h
  | cons a ts ih =>
    rw [Tm.flats_cons]
    rcases List.mem_cons.mp h with rfl | h
    · exact List.mem_append_left _ hi
    · exact List.mem_append_right _ (ih h)
theorem Laid.blank (h : Laid s t P F P.length) {x : Nat} {i : Int} (hx : P[x]? = some (.var i)) : i ∈ s.flat ++ t.flat := by
  have := h.all (R := fun p => ∀ j ∈ p.flat, j ∈ s.flat ++ t.flat) (fun j hj => List.mem_append_left _ hj) (fun j hj => List.mem_append_right _ hj) (fun f ts hf u hu j hj => hf j (by rw [Tm.flat_app]; exact flats_mem hu hj)) _ (List.mem_of_getElem? hx)
  exact this i (by rw [Tm.flat_var]; exact List.mem_singleton.mpr rfl)
theorem Val.over (J : Joined s t P F [] L) {ss : List Sg} {vs : List Int} (hs : Over ss vs s) (ht : Over ss vs t) {x : Nat} {u : Tm} (h : Val P F L x u) : Over ss vs u := by
  have hall := J.laid.all (R := Over ss vs) hs ht fun f ts hf => hf.arg
  induction h with
  | var h1 h2 h3 => exact hall _ (List.mem_of_getElem? h3)
  | @app x r o f ts us h1 h2 h3 h4 h5 h6 ih =>
    have := hall _ (List.mem_of_getElem? h3)
    cases this with
    | @app g ts hg ha hts =>
      exact .app hg (h5.trans ha) fun u hu => by
        obtain ⟨k, hk⟩ := List.getElem?_of_mem hu
        exact ih k u hk
theorem Val.nm (J : Joined s t P F [] L) {p : Str → Prop} (hs : s.Nm p) (ht : t.Nm p) {x : Nat} {u : Tm} (h : Val P F L x u) : u.Nm p := by
  have hall := J.laid.all (R := fun u => u.Nm p) hs ht fun f ts hf u hu => by
    cases hf with
    | app _ h => exact h u hu
  induction h with
  | var h1 h2 h3 => exact .var
  | @app x r o f ts us h1 h2 h3 h4 h5 h6 ih =>
    have := hall _ (List.mem_of_getElem? h3)
    exact .app this.hd fun u hu => by
      obtain ⟨k, hk⟩ := List.getElem?_of_mem hu
      exact ih k u hk
/-- the filling when the first n parts are looked at -/
structure MF (P : List Tm) (F L : List Nat) (n : Nat) (fs : Fl) : Prop where
  sound : ∀ i u, getF fs i = some u → u ≠ .var i ∧ ∃ x : Nat, x < n ∧ P[x]? = some (.var i) ∧ Val P F L x u
  all : ∀ (x : Nat) i u, x < n → P[x]? = some (.var i) → Val P F L x u → u = .var i ∨ getF fs i = some u
  nd : keysNd fs
  len : fs.length ≤ n
theorem MF.start : MF P F L 0 [] := ⟨(fun i u h => by cases h), (fun x i u h => absurd h (Nat.not_lt_zero _)), (by unfold keysNd; exact List.nodup_nil), Nat.le_refl _⟩
theorem MF.app {n : Nat} {fs : Fl} {f : Str} {ts : List Tm} (h : MF P F L n fs) (hn : P[n]? = some (.app f ts)) : MF P F L (n + 1) fs :=
  ⟨(fun i u e => by obtain ⟨h1, x, h2, h3⟩ := h.sound i u e; exact ⟨h1, x, by omega, h3⟩), (fun x i u hx hp hv => by
    by_cases e : x = n
    · subst e; rw [hn] at hp; cases hp
    · exact h.all x i u (by omega) hp hv), h.nd, by have := h.len; omega⟩
theorem MF.skip {n : Nat} {fs : Fl} {i : Int} (h : MF P F L n fs) (hn : P[n]? = some (.var i)) (hv : Val P F L n (.var i)) : MF P F L (n + 1) fs :=
  ⟨(fun i u e => by obtain ⟨h1, x, h2, h3⟩ := h.sound i u e; exact ⟨h1, x, by omega, h3⟩), (fun x j u hx hp hv' => by
    by_cases e : x = n
    · subst e; rw [hn] at hp; cases hp; exact .inl (hv'.uniq hv)
    · exact h.all x j u (by omega) hp hv'), h.nd, by have := h.len; omega⟩
theorem MF.put (J : Joined s t P F [] L) {n : Nat} {fs : Fl} {i : Int} {u : Tm} (h : MF P F L n fs) (hn : P[n]? = some (.var i)) (hv : Val P F L n u) (hne : u ≠ .var i) : MF P F L (n + 1) (putF fs i u) := by
  refine ⟨fun j v e => ?_, fun x j v hx hp hv' => ?_, putF_nd h.nd, by have := h.len; have := putF_len fs i u; omega⟩
  · rw [getF_putF] at e
    split at e
    · rename_i hij
      subst hij
      cases e
      exact ⟨hne, n, by omega, hn, hv⟩
    · obtain ⟨h1, x, h2, h3⟩ := h.sound j v e
      exact ⟨h1, x, by omega, h3⟩
  · rw [getF_putF]
    by_cases hij : i = j
    · subst hij
      rw [if_pos rfl]
      right
      rw [(hv'.same (J.like' hp hn)).uniq hv]
    · rw [if_neg hij]
      by_cases e : x = n
      · subst e; rw [hn] at hp; cases hp; exact absurd rfl hij
      · exact h.all x j v (by omega) hp hv'
theorem MF.mgu (J : Joined s t P F [] L) {fs : Fl} (h : MF P F L P.length fs) (hall : ∀ x, x < P.length → ∃ u, Val P F L x u) : Mgu s t fs := by
  have lt : ∀ {x : Nat} {p : Tm}, P[x]? = some p → x < P.length := fun hp => (List.getElem?_eq_some_iff.mp hp).1
  have hv : ∀ (x : Nat) (v : Int) (u : Tm), P[x]? = some (.var v) → Val P F L x u → (Tm.var v).fill fs = u := fun x v u hp hu => by
    rw [Tm.fill_var]
    rcases h.all x v u (lt hp) hp hu with e | e
    · subst e
      cases g : getF fs v with
      | none => rfl
      | some w =>
        obtain ⟨h1, y, _, h3, h4⟩ := h.sound v w g
        exact absurd ((h4.same (J.like' h3 hp)).uniq hu) h1
    · rw [e]; rfl
  have hfill : ∀ {p : Tm} {x : Nat} {u : Tm}, P[x]? = some p → Val P F L x u → p.fill fs = u := fun h1 h2 => Val.fills J hv h1 h2
  have h2 := J.laid.two
  refine ⟨h.nd, ?_, fun θ' hθ i => ?_, fun i u e => ?_, fun i u e j hj => ?_, fun i u e => (h.sound i u e).1, fun ss vs hs ht i u e => ?_, fun p hs ht i u e => ?_, ?_⟩
  · obtain ⟨u, hu⟩ := hall 0 (by omega)
    rw [hfill J.laid.zero hu, hfill J.laid.one (hu.same J.zero.done)]
  · rw [Tm.fill_var fs]
    cases g : getF fs i with
    | none => rfl
    | some w =>
      obtain ⟨h1, y, _, h3, h4⟩ := h.sound i w g
      exact h4.open_ J hθ h3
  · obtain ⟨_, x, _, h3, _⟩ := h.sound i u e
    exact J.laid.blank h3
  · obtain ⟨_, x, _, h3, h4⟩ := h.sound i u e
    obtain ⟨r, h5, h6⟩ := h4.blank hj
    refine ⟨?_, J.laid.blank h6⟩
    cases g : getF fs j with
    | none => rfl
    | some w =>
      obtain ⟨h7, y, _, h8, h9⟩ := h.sound j w g
      exact absurd ((h9.same (J.like' h8 h6)).uniq (.var (.self (d := 0) ⟨rfl, h5⟩) h5 h6)) h7
  · obtain ⟨_, x, _, h3, h4⟩ := h.sound i u e
    exact h4.over J hs ht
  · obtain ⟨_, x, _, h3, h4⟩ := h.sound i u e
    exact h4.nm J hs ht
  · have := h.len
    have := J.laid.len_le
    omega
theorem MF.ex (J : Joined s t P F [] L) (hall : ∀ x, x < P.length → ∃ u, Val P F L x u) : ∀ n, n ≤ P.length → ∃ fs, MF P F L n fs := by
  intro n
  induction n with
  | zero => exact fun _ => ⟨[], .start⟩
  | succ n ih =>
    intro hn
    obtain ⟨fs, hf⟩ := ih (by omega)
    obtain ⟨u, hu⟩ := hall n (by omega)
    have hp : P[n]? = some P[n] := List.getElem?_eq_getElem (by omega)
    generalize P[n] = p at hp
    cases p with
    | app f ts => exact ⟨fs, hf.app hp⟩
    | var i =>
      by_cases e : u = .var i
      · subst e; exact ⟨fs, hf.skip hp hu⟩
      · exact ⟨_, hf.put J hp hu e⟩
theorem MF.exm (J : Joined s t P F [] L) (hall : ∀ x, x < P.length → ∃ u, Val P F L x u) : ∃ θ, Mgu s t θ := by
  obtain ⟨fs, hf⟩ := MF.ex J hall P.length (Nat.le_refl _)
  exact ⟨fs, hf.mgu J hall⟩
end
theorem fill_nil (u : Tm) : u.fill [] = u := by
  refine Tm.ind (P := fun u => u.fill [] = u) (fun i => ?_) (fun f ts ih => ?_) u
  · rw [Tm.fill_var]; rfl
  · rw [Tm.fill_app]
    congr 1
    rw [List.map_congr_left ih, List.map_id']
/-- where both terms are the same the filling is empty -/
theorem Mgu.refl {s : Tm} {θ : Fl} (h : Mgu s s θ) : θ = [] := by
  cases θ with
  | nil => rfl
  | cons q θ =>
    have h1 : getF (q :: θ) q.1 = some q.2 := by
      unfold getF
      rw [List.find?_cons]
      simp
    have h2 := h.open_ [] rfl q.1
    rw [Tm.fill_var, h1, Option.getD_some, fill_nil, fill_nil] at h2
    exact absurd h2 (h.ne _ _ h1)
end DL
namespace DL
open PySem L2
theorem getF_append (a b : Fl) (i : Int) : getF (a ++ b) i = (getF a i).or (getF b i) := by
  unfold getF
  rw [List.find?_append]
  cases List.find? (fun p => decide (p.1 = i)) a <;> rfl
theorem flats_of {i : Int} : ∀ {ts : List Tm}, i ∈ Tm.flats ts → ∃ a ∈ ts, i ∈ a.flat
  | [], h => by rw [Tm.flats_nil] at h; cases h
  | b :: us, h => by
    rw [Tm.flats_cons] at h
    rcases List.mem_append.mp h with h | h
    · exact ⟨b, List.mem_cons_self .., h⟩
    · obtain ⟨a, ha, hia⟩ := flats_of h
      exact ⟨a, List.mem_cons_of_mem _ ha, hia⟩
theorem fill_congr {θ σ : Fl} : ∀ {t : Tm}, (∀ i ∈ t.flat, getF θ i = getF σ i) → t.fill θ = t.fill σ := by
  intro t
  refine Tm.ind (P := fun t => (∀ i ∈ t.flat, getF θ i = getF σ i) → t.fill θ = t.fill σ) (fun i h => ?_) (fun f ts ih h => ?_) t
  · rw [Tm.fill_var, Tm.fill_var, h i (by rw [Tm.flat_var]; exact List.mem_singleton.mpr rfl)]
  · rw [Tm.fill_app, Tm.fill_app]
    congr 1
    refine List.map_congr_left fun u hu => ih u hu fun i hi => h i ?_
    rw [Tm.flat_app]
    exact flats_mem hu hi
theorem over_blank {ss : List Sg} {vs : List Int} {t : Tm} (h : Over ss vs t) : ∀ i ∈ t.flat, i ∈ vs := by
  induction h with
  | var h =>
    intro i hi
    rw [Tm.flat_var] at hi
    rw [List.mem_singleton.mp hi]
    exact h
  | @app s ts hs ha _ ih =>
    intro i hi
    rw [Tm.flat_app] at hi
    obtain ⟨a, ha, hi⟩ := flats_of hi
    exact ih a ha i hi
theorem over_nil {ss : List Sg} {t : Tm} (h : Over ss [] t) : t.flat = [] := List.eq_nil_iff_forall_not_mem.mpr fun i hi => by have := over_blank h i hi; cases this
/-- the blanks of a term with another part -/
theorem flat_put {new : Tm} {i : Int} : ∀ (p : List Nat) {t v : Tm}, t.at_ p = some v → i ∈ (Tm.put new p t).flat → i ∈ new.flat ∨ i ∈ t.flat
  | [], t, v, _, h => by rw [Tm.put_nil] at h; exact .inl h
  | k :: p, t, v, h, hi => by
    obtain ⟨f, ts, u, rfl, hk, hu, hv⟩ := Tm.at_cons h
    rw [Tm.put_app hu, Tm.flat_app] at hi
    obtain ⟨a, ha, hia⟩ := flats_of hi
    rcases List.mem_or_eq_of_mem_set ha with h1 | h1
    · right; rw [Tm.flat_app]; exact flats_mem h1 hia
    · subst h1
      rcases flat_put p hv hia with h2 | h2
      · exact .inl h2
      · right; rw [Tm.flat_app]; exact flats_mem (List.mem_of_getElem? hu) h2
theorem at_app {f : Str} {ts : List Tm} {k : Nat} {p : List Nat} {u : Tm} (hk : 1 ≤ k) (hu : ts[k - 1]? = some u) : (Tm.app f ts).at_ (k :: p) = u.at_ p := by
  rw [Tm.at_]
  simp only [hk, if_true, hu]
theorem fill_at {θ : Fl} : ∀ (p : List Nat) {t v : Tm}, t.at_ p = some v → (t.fill θ).at_ p = some (v.fill θ)
  | [], t, v, h => by unfold Tm.at_ at h ⊢; injection h with h; rw [h]
  | k :: p, t, v, h => by
    obtain ⟨f, ts, u, rfl, hk, hu, hv⟩ := Tm.at_cons h
    rw [Tm.fill_app, at_app hk (u := u.fill θ) (by rw [List.getElem?_map, hu]; rfl)]
    exact fill_at p hv
theorem fill_put {θ : Fl} {new : Tm} : ∀ (p : List Nat) {t v : Tm}, t.at_ p = some v → (Tm.put new p t).fill θ = Tm.put (new.fill θ) p (t.fill θ)
  | [], t, v, h => by rw [Tm.put_nil, Tm.put_nil]
  | k :: p, t, v, h => by
    obtain ⟨f, ts, u, rfl, hk, hu, hv⟩ := Tm.at_cons h
    rw [Tm.put_app hu, Tm.fill_app, Tm.fill_app, Tm.put_app (u := u.fill θ) (by rw [List.getElem?_map, hu]; rfl), List.map_set, fill_put p hv]
theorem put_at : ∀ (p : List Nat) {t v : Tm}, t.at_ p = some v → Tm.put v p t = t
  | [], t, v, h => by unfold Tm.at_ at h; injection h with h; rw [Tm.put_nil, h]
  | k :: p, t, v, h => by
    obtain ⟨f, ts, u, rfl, hk, hu, hv⟩ := Tm.at_cons h
    rw [Tm.put_app hu, put_at p hv]
    congr 1
    refine List.ext_getElem? fun j => ?_
    by_cases e : k - 1 = j
    · subst e; rw [List.getElem?_set_self (List.getElem?_eq_some_iff.mp hu).1, hu]
    · rw [List.getElem?_set_ne e]
theorem at_part_size : ∀ (p : List Nat) {t v : Tm}, t.at_ p = some v → v.size ≤ t.size
  | [], t, v, h => by
    unfold Tm.at_ at h
    injection h with h
    rw [h]
    exact Nat.le_refl _
  | k :: p, t, v, h => by
    obtain ⟨f, ts, u, rfl, hk, hu, hv⟩ := Tm.at_cons h
    have h1 := at_part_size p hv
    have h2 := Tm.size_mem (List.mem_of_getElem? hu)
    rw [Tm.size_app]
    omega
theorem at_part_over {ss : List Sg} {vs : List Int} : ∀ (p : List Nat) {t v : Tm}, t.at_ p = some v → Over ss vs t → Over ss vs v
  | [], t, v, h, o => by
    unfold Tm.at_ at h
    injection h with h
    subst h
    exact o
  | k :: p, t, v, h, o => by
    obtain ⟨f, ts, u, rfl, hk, hu, hv⟩ := Tm.at_cons h
    exact at_part_over p hv (o.arg u (List.mem_of_getElem? hu))
theorem at_part_flat {i : Int} : ∀ (p : List Nat) {t v : Tm}, t.at_ p = some v → i ∈ v.flat → i ∈ t.flat
  | [], t, v, h, o => by
    unfold Tm.at_ at h
    injection h with h
    subst h
    exact o
  | k :: p, t, v, h, o => by
    obtain ⟨f, ts, u, rfl, hk, hu, hv⟩ := Tm.at_cons h
    rw [Tm.flat_app]
    exact flats_mem (List.mem_of_getElem? hu) (at_part_flat p hv o)
/-- a smaller part put in -/
theorem put_small {new : Tm} : ∀ (p : List Nat) {t v : Tm}, t.at_ p = some v → new.size ≤ v.size → (Tm.put new p t).size ≤ t.size
  | [], t, v, h, hz => by
    unfold Tm.at_ at h
    injection h with h
    subst h
    rw [Tm.put_nil]
    exact hz
  | k :: p, t, v, h, hz => by
    obtain ⟨f, ts, u, rfl, hk, hu, hv⟩ := Tm.at_cons h
    rw [Tm.put_app hu, Tm.size_app, Tm.size_app]
    have h1 := put_small p hv hz
    have h2 := Tm.sizes_set (v := Tm.put new p u) hu
    omega
/-- what fills to a term fits it -/
theorem binds_fill {θ : Fl} : ∀ {p t : Tm}, p.fill θ = t → ∃ L, p.binds t = some L ∧ ∀ q ∈ L, (Tm.var q.1).fill θ = q.2 := by
  intro p
  refine Tm.ind (P := fun p => ∀ {t : Tm}, p.fill θ = t → ∃ L, p.binds t = some L ∧ ∀ q ∈ L, (Tm.var q.1).fill θ = q.2) (fun i t h => ?_) (fun f ts ih t h => ?_) p
  · refine ⟨_, Tm.binds_var i t, fun q hq => ?_⟩
    rw [List.mem_singleton.mp hq]
    exact h
  · rw [Tm.fill_app] at h
    subst h
    rw [Tm.binds_aa, if_pos rfl]
    clear p
    induction ts with
    | nil => exact ⟨[], Tm.bindss_nil, fun q hq => by cases hq⟩
    | cons a ts ihh =>
      obtain ⟨L1, h1, h2⟩ := ih a (List.mem_cons_self ..) rfl
      obtain ⟨L2, h3, h4⟩ := ihh fun u hu => ih u (List.mem_cons_of_mem _ hu)
      refine ⟨L1 ++ L2, ?_, fun q hq => ?_⟩
      · rw [List.map_cons, Tm.bindss_cons, h1, h3]
        rfl
      · rcases List.mem_append.mp hq with hq | hq
        · exact h2 q hq
        · exact h4 q hq
theorem fill_fits {θ : Fl} {p t : Tm} (h : p.fill θ = t) (hn : NoFit p t) : False := by
  obtain ⟨L, h1, h2⟩ := binds_fill h
  rcases hn with hn | ⟨L', i, u, v, h3, h4, h5, h6⟩
  · rw [h1] at hn; cases hn
  · rw [h1] at h3
    cases h3
    exact h6 ((h2 _ h4).symm.trans (h2 _ h5))
/-- a term with blanks in the place of some parts -/
structure Opened (ss : List Sg) (vs : List Int) (T t : Tm) (ks σ : Fl) : Prop where
  over : Over ss vs t
  fill : t.fill σ = T
  kept : ∀ b v, getF ks b = some v → (Tm.var b).fill σ = v.fill σ ∧ ∀ i ∈ v.flat, ∃ w, getF ks i = some w
  blanks : ∀ i ∈ t.flat, ∃ w, getF ks i = some w
  keys : ∀ b, (∃ w, getF σ b = some w) → b ∈ vs ∧ ∃ w, getF ks b = some w
  vals : ∀ b w, getF σ b = some w → w.size ≤ T.size
  size : t.size ≤ T.size
  ksz : ∀ q ∈ ks, q.2.size ≤ T.size ∧ Over ss vs q.2
theorem Opened.start {ss : List Sg} {vs : List Int} {T : Tm} (h : Over ss [] T) : Opened ss vs T T [] [] where
  over := h.sub (fun _ h => h) fun _ h => by cases h
  fill := fill_nil T
  kept b v h := by cases h
  blanks i hi := by rw [over_nil h] at hi; cases hi
  keys b h := by obtain ⟨w, h⟩ := h; cases h
  vals b w h := by cases h
  size := Nat.le_refl _
  ksz q h := by cases h
theorem getF_put_some {ks : Fl} {b i : Int} {v : Tm} (h : ∃ w, getF ks i = some w) : ∃ w, getF (putF ks b v) i = some w := by
  rw [getF_putF]
  split
  · exact ⟨v, rfl⟩
  · exact h
theorem Opened.put {ss : List Sg} {vs : List Int} {T t : Tm} {ks σ : Fl} (h : Opened ss vs T t ks σ) {pl : List Nat} {v : Tm} {b : Int} (hv : t.at_ pl = some v) (hb : b ∈ vs) (hk : getF ks b = none ∨ getF ks b = some v) : ∃ σ', Opened ss vs T (Tm.put (.var b) pl t) (putF ks b v) σ' := by
  have hTat : T.at_ pl = some (v.fill σ) := by
    have := fill_at (θ := σ) pl hv
    rw [h.fill] at this
    exact this
  have hvt : ∀ i ∈ v.flat, ∃ w, getF ks i = some w := fun i hi => h.blanks i (at_part_flat pl hv hi)
  have hvsz : v.size ≤ t.size := at_part_size pl hv
  obtain ⟨σ', hold, hnew, hkeys, hvals⟩ : ∃ σ' : Fl, (∀ x : Tm, (∀ i ∈ x.flat, ∃ w, getF ks i = some w) → x.fill σ' = x.fill σ) ∧ (Tm.var b).fill σ' = v.fill σ ∧ (∀ c, (∃ w, getF σ' c = some w) → c ∈ vs ∧ ∃ w, getF (putF ks b v) c = some w) ∧ (∀ c w, getF σ' c = some w → w.size ≤ T.size) := by
    rcases hk with hk | hk
    · have hσb : getF σ b = none := by
        cases e : getF σ b with
        | none => rfl
        | some w =>
          obtain ⟨_, w', h2⟩ := h.keys b ⟨w, e⟩
          rw [hk] at h2
          cases h2
      have h1 : getF [(b, v.fill σ)] b = some (v.fill σ) := by unfold getF; simp
      have h0 : ∀ c, c ≠ b → getF [(b, v.fill σ)] c = none := fun c hc => by unfold getF; simp [Ne.symm hc]
      refine ⟨σ ++ [(b, v.fill σ)], fun x hx => fill_congr fun i hi => ?_, ?_, fun c hc => ?_, fun c w hc => ?_⟩
      · have hib : i ≠ b := fun e => by
          subst e
          obtain ⟨w, hw⟩ := hx i hi
          rw [hk] at hw
          cases hw
        rw [getF_append, h0 i hib]
        cases getF σ i <;> rfl
      · rw [Tm.fill_var, getF_append, hσb, h1]
        rfl
      · by_cases hcb : c = b
        · subst hcb
          exact ⟨hb, v, by rw [getF_putF, if_pos rfl]⟩
        · rw [getF_append, h0 c hcb] at hc
          obtain ⟨h2, h3⟩ := h.keys c (by cases e : getF σ c with
            | none => rw [e] at hc; obtain ⟨w, hc⟩ := hc; cases hc
            | some w => exact ⟨w, rfl⟩)
          exact ⟨h2, getF_put_some h3⟩
      · by_cases hcb : c = b
        · subst hcb
          rw [getF_append, hσb, h1] at hc
          cases hc
          exact at_part_size pl hTat
        · rw [getF_append, h0 c hcb] at hc
          cases e : getF σ c with
          | none => rw [e] at hc; cases hc
          | some w' =>
            rw [e] at hc
            cases hc
            exact h.vals c _ e
    · exact ⟨σ, fun x _ => rfl, (h.kept b v hk).1, fun c hc => ⟨(h.keys c hc).1, getF_put_some (h.keys c hc).2⟩, h.vals⟩
  refine ⟨σ', (Over.var hb).put pl hv h.over, ?_, fun c w hc => ?_, fun i hi => ?_, hkeys, hvals, ?_, fun q hq => ?_⟩
  · rw [fill_put pl hv, hnew, hold t h.blanks, h.fill]
    exact put_at pl hTat
  · rw [getF_putF] at hc
    by_cases hcb : b = c
    · subst hcb
      rw [if_pos rfl] at hc
      cases hc
      exact ⟨by rw [hnew, hold v hvt], fun i hi => getF_put_some (hvt i hi)⟩
    · rw [if_neg hcb] at hc
      obtain ⟨h1, h2⟩ := h.kept c w hc
      refine ⟨?_, fun i hi => getF_put_some (h2 i hi)⟩
      rw [hold w h2, hold (.var c) (fun i hi => by rw [Tm.flat_var] at hi; rw [List.mem_singleton.mp hi]; exact ⟨w, hc⟩)]
      exact h1
  · rcases flat_put pl hv hi with h1 | h1
    · rw [Tm.flat_var] at h1
      rw [List.mem_singleton.mp h1, getF_putF, if_pos rfl]
      exact ⟨v, rfl⟩
    · exact getF_put_some (h.blanks i h1)
  · have := put_small (new := .var b) pl hv (by rw [Tm.size_var]; exact v.size_pos)
    have := h.size
    omega
  · refine putF_all (p := fun u => u.size ≤ T.size ∧ Over ss vs u) h.ksz ?_ q hq
    have := h.size
    exact ⟨by omega, at_part_over pl hv h.over⟩
end DL
namespace DL
open PySem L2
def zof (p : List Nat) : List Int := p.map fun (k : Nat) => (k : Int)
theorem at_part_nm {q : Str → Prop} : ∀ (p : List Nat) {t v : Tm}, t.at_ p = some v → t.Nm q → v.Nm q
  | [], t, v, h, o => by
    unfold Tm.at_ at h
    injection h with h
    subst h
    exact o
  | k :: p, t, v, h, o => by
    obtain ⟨f, ts, u, rfl, hk, hu, hv⟩ := Tm.at_cons h
    cases o with
    | app _ hs => exact at_part_nm p hv (hs u (List.mem_of_getElem? hu))
end DL
namespace DL
open PySem L2
/-- point 11, by one pattern for both sides -/
def StepOk (l r b : Tm) (p : List Int) (a : Tm) : Prop := ∃ (q : List Nat) (o n : Tm) (fs : Fl), p = zof q ∧ b.at_ q = some o ∧ a.at_ q = some n ∧ Tm.put n q b = a ∧ Fits (.app "both" [l, r]) (.app "both" [o, n]) fs
theorem Nm.two {f : Str} {a b : Tm} (hf : NameOk f) (ha : a.Nm NameOk) (hb : b.Nm NameOk) : (Tm.app f [a, b]).Nm NameOk := .app hf fun u hu => by
  simp only [List.mem_cons, List.not_mem_nil, or_false] at hu
  rcases hu with rfl | rfl
  · exact ha
  · exact hb
theorem at_put {y : Tm} : ∀ (p : List Nat) {t v : Tm}, t.at_ p = some v → (Tm.put y p t).at_ p = some y
  | [], t, v, _ => by rw [Tm.put_nil]; rfl
  | k :: p, t, v, h => by
    obtain ⟨f, ts, u, rfl, hk, hu, hv⟩ := Tm.at_cons h
    have h0 : (ts.set (k - 1) (Tm.put y p u))[k - 1]? = some (Tm.put y p u) := List.getElem?_set_self (List.getElem?_eq_some_iff.mp hu).1
    rw [Tm.put_app hu, at_app hk h0]
    exact at_put p hv
theorem put_put {x y : Tm} : ∀ (p : List Nat) {t v : Tm}, t.at_ p = some v → Tm.put x p (Tm.put y p t) = Tm.put x p t
  | [], t, v, _ => by rw [Tm.put_nil, Tm.put_nil]
  | k :: p, t, v, h => by
    obtain ⟨f, ts, u, rfl, hk, hu, hv⟩ := Tm.at_cons h
    have h0 : (ts.set (k - 1) (Tm.put y p u))[k - 1]? = some (Tm.put y p u) := List.getElem?_set_self (List.getElem?_eq_some_iff.mp hu).1
    rw [Tm.put_app hu, Tm.put_app h0, Tm.put_app hu, put_put p hv, List.set_set]
def mkF (L : Fl) : Fl := L.foldl (fun fs q => putF fs q.1 q.2) []
theorem mkF_snoc (L : Fl) (q : Int × Tm) : mkF (L ++ [q]) = putF (mkF L) q.1 q.2 := by unfold mkF; rw [List.foldl_append]; rfl
theorem mkF_rev : ∀ L : Fl, keysNd (mkF L.reverse) ∧ ((∀ i u v, (i, u) ∈ L → (i, v) ∈ L → u = v) → ∀ i u, getF (mkF L.reverse) i = some u ↔ (i, u) ∈ L)
  | [] => ⟨(by unfold keysNd; exact List.nodup_nil), fun _ i u => ⟨(fun h => by cases h), (fun h => by cases h)⟩⟩
  | (j, w) :: L => by
    obtain ⟨h1, h2⟩ := mkF_rev L
    rw [List.reverse_cons, mkF_snoc]
    refine ⟨putF_nd h1, fun hc i u => ?_⟩
    have h3 := h2 fun i u v a b => hc i u v (List.mem_cons_of_mem _ a) (List.mem_cons_of_mem _ b)
    rw [getF_putF]
    constructor
    · intro h
      split at h
      · rename_i e
        subst e
        cases h
        exact List.mem_cons_self ..
      · exact List.mem_cons_of_mem _ ((h3 i u).mp h)
    · intro h
      split
      · rename_i e
        subst e
        rw [hc j w u (List.mem_cons_self ..) h]
      · rename_i e
        rcases List.mem_cons.mp h with h | h
        · injection h with h4 h5
          exact absurd h4.symm e
        · exact (h3 i u).mpr h
theorem fits_ex {p t : Tm} (h : ¬ NoFit p t) : ∃ fs, Fits p t fs := by
  cases e : p.binds t with
  | none => exact absurd (.inl e) h
  | some L =>
    have hc : ∀ i u v, (i, u) ∈ L → (i, v) ∈ L → u = v := fun i u v a b => Classical.byContradiction fun hne => h (.inr ⟨L, i, u, v, e, a, b, hne⟩)
    obtain ⟨h1, h2⟩ := mkF_rev L
    exact ⟨mkF L.reverse, L, e, h1, h2 hc⟩
theorem fits_of {p t : Tm} {θ : Fl} (h : p.fill θ = t) : ∃ fs, Fits p t fs := fits_ex fun hn => fill_fits h hn
/-- what is bound fills to the term -/
theorem fill_binds {θ : Fl} : ∀ {p t : Tm} {L : Fl}, p.binds t = some L → (∀ q ∈ L, getF θ q.1 = some q.2) → p.fill θ = t := by
  intro p
  refine Tm.ind (P := fun p => ∀ {t : Tm} {L : Fl}, p.binds t = some L → (∀ q ∈ L, getF θ q.1 = some q.2) → p.fill θ = t) (fun i t L h hL => ?_) (fun f ts ih t L h hL => ?_) p
  · rw [Tm.binds_var] at h
    cases h
    rw [Tm.fill_var, hL (i, t) (List.mem_singleton.mpr rfl)]
    rfl
  · cases t with
    | var j => rw [Tm.binds_av] at h; cases h
    | app g us =>
      rw [Tm.binds_aa] at h
      by_cases e : f = g
      · rw [if_pos e] at h
        subst e
        rw [Tm.fill_app]
        congr 1
        clear p
        induction ts generalizing us L with
        | nil =>
          cases us with
          | nil => rfl
          | cons u us => rw [bindss_len (by simp)] at h; cases h
        | cons a ts ihh =>
          cases us with
          | nil => rw [bindss_len (by simp)] at h; cases h
          | cons u us =>
            rw [Tm.bindss_cons] at h
            cases h1 : a.binds u with
            | none => rw [h1] at h; cases h
            | some L1 =>
              cases h2 : Tm.bindss ts us with
              | none => rw [h1, h2] at h; cases h
              | some L2 =>
                rw [h1, h2] at h
                have h : some (L1 ++ L2) = some L := h
                cases h
                rw [List.map_cons, ih a (List.mem_cons_self ..) h1 fun q hq => hL q (List.mem_append_left _ hq)]
                rw [ihh (fun t ht => ih t (List.mem_cons_of_mem _ ht)) L2 (fun q hq => hL q (List.mem_append_right _ hq)) us h2]
      · rw [if_neg e] at h; cases h
theorem Fits.fill {p t : Tm} {fs θ : Fl} (h : Fits p t fs) (hθ : ∀ i u, getF fs i = some u → getF θ i = some u) : p.fill θ = t := by
  obtain ⟨L, h1, _, h3⟩ := h
  exact fill_binds h1 fun q hq => hθ q.1 q.2 ((h3 q.1 q.2).mpr hq)
theorem StepOk.of {l r b : Tm} {p : List Nat} {o : Tm} {θ : Fl} (ho : b.at_ p = some o) (hl : l.fill θ = o) : StepOk l r b (zof p) (Tm.put (r.fill θ) p b) := by
  obtain ⟨fs, hfs⟩ := fits_of (p := .app "both" [l, r]) (t := .app "both" [o, r.fill θ]) (θ := θ) (by rw [Tm.fill_app]; simp only [List.map_cons, List.map_nil, hl])
  exact ⟨p, o, r.fill θ, fs, rfl, ho, at_put p ho, rfl, hfs⟩
theorem StepOk.symm {l r b a : Tm} {p : List Int} (h : StepOk l r b p a) : StepOk r l a p b := by
  obtain ⟨q, o, n, fs, e1, e2, e3, e4, e5⟩ := h
  have hf := e5.fill (θ := fs) fun _ _ h => h
  rw [Tm.fill_app] at hf
  simp only [List.map_cons, List.map_nil] at hf
  injection hf with _ hf
  injection hf with h1 hf
  injection hf with h2 _
  obtain ⟨gs, hgs⟩ := fits_of (p := .app "both" [r, l]) (t := .app "both" [n, o]) (θ := fs) (by rw [Tm.fill_app]; simp only [List.map_cons, List.map_nil, h1, h2])
  refine ⟨q, n, o, gs, e1, e3, e2, ?_, hgs⟩
  rw [← e4, put_put q e2]
  exact put_at q e2
structure Stp where
  num : Int
  plc : List Nat
  fo : Bool
  aft : Tm
def Stp.d (s : Stp) : D := .tup [.int s.num, plcD s.plc, .bl s.fo, s.aft.d]
end DL
namespace DL
open PySem L2
theorem at_append : ∀ (p : List Nat) {q : List Nat} {t v : Tm}, t.at_ p = some v → t.at_ (p ++ q) = v.at_ q
  | [], q, t, v, h => by
    have h : some t = some v := h
    cases h
    rfl
  | k :: p, q, t, v, h => by
    obtain ⟨f, ts, u, rfl, hk, hu, hv⟩ := Tm.at_cons h
    rw [List.cons_append, at_app hk hu]
    exact at_append p hv
theorem at_prefix : ∀ (p : List Nat) {q : List Nat} {t v : Tm}, t.at_ (p ++ q) = some v → ∃ u, t.at_ p = some u
  | [], q, t, v, h => ⟨t, rfl⟩
  | k :: p, q, t, v, h => by
    rw [List.cons_append] at h
    obtain ⟨f, ts, u, rfl, hk, hu, hv⟩ := Tm.at_cons h
    rw [at_app hk hu]
    exact at_prefix p hv
theorem placesL_split {ts : List Tm} {j : Nat} {u v : Tm} (hu : ts[j]? = some u) : ∀ i, Tm.placesL i ts = Tm.placesL i (ts.take j) ++ (u.places.map (fun p => (i + j + 1) :: p) ++ Tm.placesL (i + j + 1) (ts.drop (j + 1))) ∧
    Tm.placesL i (ts.set j v) = Tm.placesL i (ts.take j) ++ (v.places.map (fun p => (i + j + 1) :: p) ++ Tm.placesL (i + j + 1) (ts.drop (j + 1))) := by
  intro i
  have hj := (List.getElem?_eq_some_iff.mp hu).1
  have hg : ts[j] = u := Option.some.inj ((List.getElem?_eq_getElem hj).symm.trans hu)
  have hs : ts.set j u = ts := by rw [← hg]; exact List.set_getElem_self hj
  have e1 : ts = ts.take j ++ u :: ts.drop (j + 1) := by
    have := List.set_eq_take_append_cons_drop (l := ts) (i := j) (a := u)
    rw [if_pos hj, hs] at this
    exact this
  have e2 : ts.set j v = ts.take j ++ v :: ts.drop (j + 1) := by
    rw [List.set_eq_take_append_cons_drop, if_pos hj]
  have hl : (ts.take j).length = j := by rw [List.length_take]; omega
  constructor
  · conv => lhs; rw [e1]
    rw [Tm.placesL_append, Tm.placesL_cons, hl]
  · rw [e2, Tm.placesL_append, Tm.placesL_cons, hl]
theorem places_split : ∀ (p : List Nat) {t x : Tm}, t.at_ p = some x → ∃ A B, t.places = A ++ (x.places.map (p ++ ·) ++ B) ∧ ∀ new, (Tm.put new p t).places = A ++ (new.places.map (p ++ ·) ++ B)
  | [], t, x, h => by
    have h : some t = some x := h
    cases h
    exact ⟨[], [], by simp, fun new => by rw [Tm.put_nil]; simp⟩
  | k :: p, t, x, h => by
    obtain ⟨f, ts, u, rfl, hk, hu, hv⟩ := Tm.at_cons h
    obtain ⟨A, B, h1, h2⟩ := places_split p hv
    have e1 := fun v => placesL_split (v := v) hu 0
    have ek : 0 + (k - 1) + 1 = k := by omega
    rw [ek] at e1
    refine ⟨Tm.placesL 0 (ts.take (k - 1)) ++ A.map (k :: ·), B.map (k :: ·) ++ Tm.placesL k (ts.drop (k - 1 + 1)) ++ [[]], ?_, fun new => ?_⟩
    · rw [Tm.places_app, (e1 u).1, h1]
      simp [List.map_append, List.map_map, Function.comp_def]
    · rw [Tm.put_app hu, Tm.places_app, (e1 _).2, h2]
      simp [List.map_append, List.map_map, Function.comp_def]
theorem nil_places (t : Tm) : ∃ I, t.places = I ++ [[]] := by
  cases t with
  | var i => exact ⟨[], by rw [Tm.places_var]; rfl⟩
  | app f ts => exact ⟨_, Tm.places_app ..⟩
theorem mem_places {p : List Nat} {t x : Tm} (h : t.at_ p = some x) : p ∈ t.places := by
  obtain ⟨A, B, e, _⟩ := places_split p h
  obtain ⟨I, hI⟩ := nil_places x
  rw [e, hI]
  simp
theorem placesL_nodup : ∀ {ts : List Tm} (i : Nat), (∀ t ∈ ts, t.places.Nodup) → (Tm.placesL i ts).Nodup
  | [], i, _ => by rw [Tm.placesL_nil]; exact List.nodup_nil
  | t :: ts, i, h => by
    rw [Tm.placesL_cons]
    refine List.nodup_append.mpr ⟨?_, placesL_nodup (i + 1) fun u hu => h u (List.mem_cons_of_mem _ hu), ?_⟩
    · have h1 := h t (List.mem_cons_self ..)
      unfold List.Nodup at *
      rw [List.pairwise_map]
      exact h1.imp fun hab e => hab (List.cons.inj e).2
    · intro a ha b hb e
      obtain ⟨q, _, rfl⟩ := List.mem_map.mp ha
      obtain ⟨j, q', u, rfl, _, _⟩ := Tm.placesL_mem hb
      have := (List.cons.inj e).1
      omega
theorem places_nodup : ∀ t : Tm, t.places.Nodup := by
  refine Tm.ind (fun i => ?_) fun f ts ih => ?_
  · rw [Tm.places_var]; simp
  · rw [Tm.places_app]
    refine List.nodup_append.mpr ⟨placesL_nodup 0 ih, by simp, ?_⟩
    intro a ha b hb e
    obtain ⟨j, q, u, rfl, _, _⟩ := Tm.placesL_mem ha
    rw [List.mem_singleton.mp hb] at e
    cases e
mutual
def Tm.names : Tm → List (List Nat)
  | .var _ => []
  | .app _ ts => Tm.namesL 0 ts ++ [[]]
def Tm.namesL : Nat → List Tm → List (List Nat)
  | _, [] => []
  | i, t :: ts => (t.names.map fun p => (i + 1) :: p) ++ Tm.namesL (i + 1) ts
end
def NoneFit (R : List (Tm × Tm)) (u : Tm) (q : List Nat) : Prop := ∀ x, u.at_ q = some x → ∀ r ∈ R, NoFit r.1 x
structure Inv (R : List (Tm × Tm)) (u : Tm) (pend : List (List Nat)) : Prop where
  sub : pend.Sublist u.places
  up : ∀ p ∈ pend, ∀ q, q <+: p → q ∈ pend
  no : ∀ q ∈ u.places, q ∉ pend → NoneFit R u q
theorem Inv.start (R : List (Tm × Tm)) (t : Tm) : Inv R t t.places where
  sub := List.Sublist.refl _
  up := fun p hp q hq => by
    obtain ⟨s, rfl⟩ := hq
    obtain ⟨v, hv⟩ := Tm.at_places _ hp
    obtain ⟨u, hu⟩ := at_prefix q hv
    exact mem_places hu
  no := fun q h1 h2 => (h2 h1).elim
/-- what stands ahead of the first waiting place, and behind it -/
theorem Inv.cut {R : List (Tm × Tm)} {u x : Tm} {p : List Nat} {pend : List (List Nat)} (h : Inv R u (p :: pend)) (hx : u.at_ p = some x) : ∃ A I B, u.places = A ++ (x.places.map (p ++ ·) ++ B) ∧ x.places = I ++ [[]] ∧ pend.Sublist B ∧
    (∀ new, (Tm.put new p u).places = A ++ (new.places.map (p ++ ·) ++ B)) ∧ (∀ q ∈ A ++ I.map (p ++ ·), q ∉ p :: pend) := by
  obtain ⟨A, B, e1, e2⟩ := places_split p hx
  obtain ⟨I, hI⟩ := nil_places x
  have e3 : u.places = (A ++ I.map (p ++ ·)) ++ p :: B := by rw [e1, hI]; simp
  have hn := places_nodup u
  rw [e3] at hn
  obtain ⟨n1, n2, n3⟩ := List.nodup_append.mp hn
  have hs := h.sub
  rw [e3] at hs
  have hp : pend.Sublist B := by
    obtain ⟨r1, r2, er, hp1, hp2⟩ := List.cons_sublist_iff.mp hs
    rw [List.append_eq_append_iff] at er
    have hpB : p ∉ B := (List.nodup_cons.mp n2).1
    rcases er with ⟨a', ha, hb⟩ | ⟨c', hc, hd⟩
    · cases a' with
      | nil =>
        rw [List.append_nil] at ha
        rw [ha] at hp1
        exact (n3 p hp1 p (List.mem_cons_self ..) rfl).elim
      | cons z a' =>
        rw [List.cons_append] at hb
        cases hb
        exact hp2.trans (List.sublist_append_right ..)
    · rw [hc] at n3
      exact (n3 p (List.mem_append_left _ hp1) p (List.mem_cons_self ..) rfl).elim
  refine ⟨A, I, B, e1, hI, hp, e2, fun q hq hm => ?_⟩
  have : q ∈ p :: B := by
    rcases List.mem_cons.mp hm with rfl | hm
    · exact List.mem_cons_self ..
    · exact List.mem_cons_of_mem _ (hp.subset hm)
  exact n3 q hq q this rfl
theorem Inv.at {R : List (Tm × Tm)} {u : Tm} {p : List Nat} {pend : List (List Nat)} (h : Inv R u (p :: pend)) : ∃ x, u.at_ p = some x := Tm.at_places _ (h.sub.subset (List.mem_cons_self ..))
theorem Inv.ext {R : List (Tm × Tm)} {u x : Tm} {p : List Nat} {pend : List (List Nat)} (h : Inv R u (p :: pend)) (hx : u.at_ p = some x) {q : List Nat} (hq : q ∈ pend) : ¬ p <+: q := fun ⟨s, e⟩ => by
  subst e
  obtain ⟨A, I, B, e1, hI, hp, _, _⟩ := h.cut hx
  obtain ⟨y, hy⟩ := Tm.at_places _ (h.sub.subset (List.mem_cons_of_mem _ hq))
  rw [at_append p hx] at hy
  have hm : p ++ s ∈ x.places.map (p ++ ·) := List.mem_map.mpr ⟨s, mem_places hy, rfl⟩
  have hn := places_nodup u
  rw [e1] at hn
  exact (List.nodup_append.mp (List.nodup_append.mp hn).2.1).2.2 _ hm _ (hp.subset hq) rfl
theorem Inv.drop {R : List (Tm × Tm)} {u x : Tm} {p : List Nat} {pend : List (List Nat)} (h : Inv R u (p :: pend)) (hx : u.at_ p = some x) (hn : NoneFit R u p) : Inv R u pend where
  sub := (List.sublist_cons_self ..).trans h.sub
  up := fun q hq s hs => by
    rcases List.mem_cons.mp (h.up q (List.mem_cons_of_mem _ hq) s hs) with rfl | h'
    · exact (h.ext hx hq hs).elim
    · exact h'
  no := fun q h1 h2 => by
    by_cases e : q = p
    · subst e; exact hn
    · exact h.no q h1 fun hm => by
        rcases List.mem_cons.mp hm with h' | h'
        · exact e h'
        · exact h2 h'
/-- the first step there is -/
def StepR (R : List (Tm × Tm)) (u : Tm) (k : Nat) (p : List Nat) (v : Tm) : Prop := ∃ A B x l r fs, u.places = A ++ p :: B ∧ (∀ q ∈ A, NoneFit R u q) ∧ u.at_ p = some x ∧ R[k]? = some (l, r) ∧ Fits l x fs ∧ (∀ q ∈ fs, Tm.In q.2 x) ∧ (∀ j, j < k → ∀ q, R[j]? = some q → NoFit q.1 x) ∧ v = Tm.put (r.fill fs) p u
structure WS where
  k : Nat
  p : List Nat
  v : Tm
inductive Run (R : List (Tm × Tm)) : Tm → List WS → Tm → Prop
  | nil {u : Tm} : Run R u [] u
  | cons {u w v : Tm} {k : Nat} {p : List Nat} {c : List WS} : StepR R u k p w → Run R w c v → Run R u (⟨k, p, w⟩ :: c) v
/-- how large the terms get -/
theorem put_size_eq {new : Tm} : ∀ (p : List Nat) {t v : Tm}, t.at_ p = some v → (Tm.put new p t).size + v.size = t.size + new.size
  | [], t, v, h => by
    have h : some t = some v := h
    cases h
    rw [Tm.put_nil]; omega
  | k :: p, t, v, h => by
    obtain ⟨f, ts, u, rfl, hk, hu, hv⟩ := Tm.at_cons h
    rw [Tm.put_app hu, Tm.size_app, Tm.size_app]
    have h1 := Tm.sizes_set (v := Tm.put new p u) hu
    have h2 := put_size_eq (new := new) p hv
    omega
theorem deeps_set_le {n : Nat} {y : Tm} {ts : List Tm} {j : Nat} (h1 : y.deep ≤ n) (h2 : Tm.deeps ts ≤ n) : Tm.deeps (ts.set j y) ≤ n := by
  induction ts generalizing j with
  | nil => exact h2
  | cons a ts ih =>
    rw [Tm.deeps_cons] at h2
    cases j with
    | zero => rw [List.set_cons_zero, Tm.deeps_cons]; omega
    | succ j => rw [List.set_cons_succ, Tm.deeps_cons]; have := ih (j := j) (by omega); omega
theorem put_deep_le {new : Tm} {d : Nat} : ∀ (p : List Nat) {t v : Tm}, t.at_ p = some v → new.deep ≤ v.deep + d → (Tm.put new p t).deep ≤ t.deep + d
  | [], t, v, h, hd => by
    have h : some t = some v := h
    cases h
    rw [Tm.put_nil]; omega
  | k :: p, t, v, h, hd => by
    obtain ⟨f, ts, u, rfl, hk, hu, hv⟩ := Tm.at_cons h
    rw [Tm.put_app hu, Tm.deep_app, Tm.deep_app]
    have h2 := put_deep_le (new := new) p hv hd
    have h3 := Tm.deep_mem (List.mem_of_getElem? hu)
    have := deeps_set_le (n := Tm.deeps ts + d) (y := Tm.put new p u) (j := k - 1) (by omega) (by omega : Tm.deeps ts ≤ _)
    omega
theorem StepR.bound {R : List (Tm × Tm)} {u v : Tm} {k : Nat} {p : List Nat} {d : Nat} (h : StepR R u k p v) (hd : ∀ q ∈ R, q.2.deep ≤ d) (hz : ∀ q ∈ R, q.2.size ≤ 3) (hn : ∀ q ∈ R, q.2.Nm NameOk) (hu : u.Nm NameOk) :
    v.deep ≤ u.deep + d ∧ v.size ≤ 2 * u.size + 1 ∧ v.Nm NameOk ∧ ((∀ q ∈ R, q.2.size ≤ 1) → v.size ≤ u.size) := by
  obtain ⟨A, B, x, l, r, fs, e, hA, hx, hk, hf, hin, hj, rfl⟩ := h
  have hm := List.mem_of_getElem? hk
  have h1 : r.deep ≤ d := hd _ hm
  have h2 : r.size ≤ 3 := hz _ hm
  have h3 : r.Nm NameOk := hn _ hm
  have hxn := at_part_nm p hx hu
  have hxz := at_part_size p hx
  have hxp := x.size_pos
  have hfd := Tm.fill_deep (fs := fs) (n := x.deep) (fun q hq => (hin q hq).good.1) r
  have hfn := Tm.fill_nm (fs := fs) (fun q hq => (hin q hq).good.2.2 hxn) h3
  have hfz := fun t => Tm.fill_size (fs := fs) (n := x.size) hxp (fun q hq => (hin q hq).good.2.1) t
  have hpz := put_size_eq (new := r.fill fs) p hx
  refine ⟨put_deep_le p hx (by omega), ?_, Tm.put_nm hfn p hx hu, fun h1' => ?_⟩
  · have : (r.fill fs).size ≤ 2 * x.size + 1 := by
      cases r with
      | var i =>
        have := hfz (.var i)
        rw [Tm.size_var, Nat.one_mul] at this
        omega
      | app f ts =>
        rw [Tm.size_app] at h2
        rw [Tm.fill_app, Tm.size_app]
        have h5 : Tm.sizes (ts.map (Tm.fill fs)) ≤ Tm.sizes ts * x.size := by
          clear h2 hm h1 h3 hfd hfn hpz hk hd hz hn
          induction ts with
          | nil => rw [List.map_nil, Tm.sizes_nil]; omega
          | cons a ts ih =>
            rw [List.map_cons, Tm.sizes_cons, Tm.sizes_cons, Nat.add_mul]
            have := hfz a
            omega
        have h6 : Tm.sizes ts * x.size ≤ 2 * x.size := Nat.mul_le_mul_right _ (by omega)
        omega
    omega
  · have h5 : r.size ≤ 1 := h1' _ hm
    have h6 := hfz r
    have h7 : r.size * x.size ≤ 1 * x.size := Nat.mul_le_mul_right _ h5
    omega
theorem Run.grow {R : List (Tm × Tm)} (hd : ∀ q ∈ R, q.2.deep ≤ 2) (hz : ∀ q ∈ R, q.2.size ≤ 3) (hn : ∀ q ∈ R, q.2.Nm NameOk) {u v : Tm} {c : List WS} (h : Run R u c v) : u.Nm NameOk → v.Nm NameOk ∧ v.deep ≤ u.deep + 2 * c.length ∧ v.size + 1 ≤ 2 ^ c.length * (u.size + 1) := by
  induction h with
  | nil => intro hu; exact ⟨hu, by simp, by simp⟩
  | cons h1 _ ih =>
    intro hu
    obtain ⟨b1, b2, b3, _⟩ := h1.bound hd hz hn hu
    obtain ⟨i1, i2, i3⟩ := ih b3
    refine ⟨i1, by rw [List.length_cons]; omega, Nat.le_trans i3 ?_⟩
    rw [List.length_cons, Nat.pow_succ, Nat.mul_assoc]
    exact Nat.mul_le_mul_left _ (by omega)
end DL
namespace K10
open PySem L2 DL
local macro_rules | `(tactic| simp! only [$ls,*]) => `(tactic| simp only [$ls,*, dSeq, dAsg, dgName, dgTup, dgCons, dgNil, dgSub, dRet, dRetN, dIfS, dDrop, dNext, dBreak, dCont, dAug, dVar, dC, dBin, dTest, dChain, dTru, dNotT, dAndT, dOrT, dAndV, dOrV, dNotV, dIf, dNil, dCons, dTup, dLst, dNewDict, dNeg, dCB, dBM, dBM0, dCall, dYes,   dSl, dNoPart, dPart, qSl, dBack, qBack, dFor, dISeq, dIRng1, dIRng2, dIZip, dIZipM, dLc, dDc,   qAdd, qInt, qInt0, qSub, qMul, qDiv, qMod, qPow, qLt, qLe, qGt, qGe, qIs, qIsNot, qIx, qLen, qAbs, qMax, qMin, qSum, qAll, qAny, qInt_, qStr_, qList_, qTuple_, qDict_, qIsi, qSet, iAdd, iSub, iMul, iDiv, iMod,   mAppend, mExtend, mPop, truD, tyN, isTy, seqD, lstD, keyD, isNonD,   kit_ii, kit_bi, kit_si, kit_ti, kit_li, kit_di, kit_ni, kit_ib, kit_bb, kit_sb, kit_tb, kit_lb, kit_nb, kit_is, kit_ss, kit_ts, kit_ls, kit_ns, kit_it, kit_st, kit_tt, kit_lt, kit_nt, kit_il, kit_tl, kit_ll, kit_dl, kit_nl, kit_dd, kit_nd, kit_ld,   startD, wipeD, List.map_cons, List.map_nil, List.length_cons, List.length_nil, Nat.reduceAdd, Nat.reduceSub, List.replicate_succ, List.replicate_zero, List.cons_append, List.nil_append, List.getElem?_cons_zero, List.getElem?_cons_succ, List.set_cons_zero, List.set_cons_succ,   List.length_append, List.length_set, set_get, Option.map_some, List.set_set, atI_0, atI_1, atI_2, atI_3, atI_4, atI_5, atI_6, List.append_assoc, Nat.add_assoc, getK, getK0, getL, setK, setK0, setL, List.length_map, mJoin, mIndex, mCount, mGet, strsOf, intsOf, blsOf, Option.bind_some, intsD_map, strsD_map, blsD_map, Option.isSome_some, szl, Nat.reduceLeDiff, qEq_ii, qNe_ii, Bool.not_true, Bool.not_false, decT, decF, dDelT, dDisp, dPairs, dFld, dFldS, dMeth, dMake, dIEnum, dAugK, dNever, dListRev, dListRg1, dPar, dListZip, dForD, mSetd, dRaise, dCallX, dMethX, dMakeX, dTryOnly, dTryAs, dMakeD, dMakeXD, qSorted_, dgUnl, wipeE, qIsE, clsVal, clsVals, PySem.W.kitAny, dLcG, dDcG, tgTup, setAllQ, dTryTwo, dMaxD, qSortedPT, qLtT, dInts, tgNm, setAllG, tgTupG, dFstr, dMinL, eq_self, true_and, dLcX, dIRev1, dLenSet, qInSg, mSplit, qRep])
def top (i : Nat) : Stmt := PySem.Challenge.pw_ruleswood_k10_read_or_refused.main.body.getD i (.Pass ⟨0, 0, 0, 0⟩)
abbrev s_is_name : Stmt := top 11
abbrev s__behind : Stmt := top 18
abbrev s__blank : Stmt := top 19
abbrev s__leaf : Stmt := top 20
abbrev s_read : Stmt := top 21
abbrev s_read_pair : Stmt := top 22
abbrev s__law_cell : Stmt := top 24
abbrev s__law_dice : Stmt := top 25
abbrev s__law_off : Stmt := top 26
abbrev s__law_names : Stmt := top 27
abbrev s__law_signs : Stmt := top 28
abbrev s__law_free : Stmt := top 29
abbrev s__law_term : Stmt := top 30
abbrev s__law_same : Stmt := top 31
abbrev s__law_text : Stmt := top 32
abbrev s__law_word : Stmt := top 33
abbrev s__law_taken : Stmt := top 34
abbrev s__law_due : Stmt := top 35
abbrev s__law_is_read : Stmt := top 36
abbrev s__law_is_pair : Stmt := top 37
abbrev s__law_odd : Stmt := top 38
abbrev s_law : Stmt := top 39
theorem sc_is_name : FnScope ["text", "letter"] ["text"] (defScope s_is_name) := ⟨rfl, rfl, rfl, by decide +kernel, rfl, by decide +kernel, by decide +kernel⟩
theorem sc__behind : FnScope ["text", "at", "signs"] ["text", "at", "signs"] (defScope s__behind) := ⟨rfl, rfl, rfl, by decide +kernel, rfl, by decide +kernel, by decide +kernel⟩
theorem sc__blank : FnScope ["figures"] ["figures"] (defScope s__blank) := ⟨rfl, rfl, rfl, by decide +kernel, rfl, by decide +kernel, by decide +kernel⟩
theorem sc__leaf : FnScope ["text", "at", "opened", "end", "name"] ["text", "at", "opened"] (defScope s__leaf) := ⟨rfl, rfl, rfl, by decide +kernel, rfl, by decide +kernel, by decide +kernel⟩
theorem sc_read : FnScope ["text", "opened", "part", "at", "sign"] ["text"] (defScope s_read) := ⟨rfl, rfl, rfl, by decide +kernel, rfl, by decide +kernel, by decide +kernel⟩
theorem sc_read_pair : FnScope ["text", "sides"] ["text"] (defScope s_read_pair) := ⟨rfl, rfl, rfl, by decide +kernel, rfl, by decide +kernel, by decide +kernel⟩
theorem sc__law_cell : FnScope ["_law_script", "_law_k"] ["_law_script", "_law_k"] (defScope s__law_cell) := ⟨rfl, rfl, rfl, by decide +kernel, rfl, by decide +kernel, by decide +kernel⟩
theorem sc__law_dice : FnScope ["_law_script", "_law_k", "_law_cell_here"] ["_law_script", "_law_k"] (defScope s__law_dice) := ⟨rfl, rfl, rfl, by decide +kernel, rfl, by decide +kernel, by decide +kernel⟩
theorem sc__law_off : FnScope ["_law_d", "_law_most", "_law_found", "_law_more"] ["_law_d", "_law_most"] (defScope s__law_off) := ⟨rfl, rfl, rfl, by decide +kernel, rfl, by decide +kernel, by decide +kernel⟩
theorem sc__law_names : FnScope ["_law_d", "_law_many", "_law_letters", "_law_base", "_law_at", "_law_turn", "_law_tails", "_law_found", "_law_k"] ["_law_d", "_law_many"] (defScope s__law_names) := ⟨rfl, rfl, rfl, by decide +kernel, rfl, by decide +kernel, by decide +kernel⟩
theorem sc__law_signs : FnScope ["_law_d", "_law_many", "_law_turn", "_law_names_here", "_law_most", "_law_k"] ["_law_d"] (defScope s__law_signs) := ⟨rfl, rfl, rfl, by decide +kernel, rfl, by decide +kernel, by decide +kernel⟩
theorem sc__law_free : FnScope ["_law_d", "_law_some"] ["_law_d"] (defScope s__law_free) := ⟨rfl, rfl, rfl, by decide +kernel, rfl, by decide +kernel, by decide +kernel⟩
theorem sc__law_term : FnScope ["_law_d", "_law_signs_here", "_law_deep", "_law_free_here", "_law_some", "_law_sign", "_law_k"] ["_law_d", "_law_signs_here", "_law_deep", "_law_free_here"] (defScope s__law_term) := ⟨rfl, rfl, rfl, by decide +kernel, rfl, by decide +kernel, by decide +kernel⟩
theorem sc__law_same : FnScope ["_law_found", "_law_due_here", "_law_part", "_law_own"] ["_law_found", "_law_due_here"] (defScope s__law_same) := ⟨rfl, rfl, rfl, by decide +kernel, rfl, by decide +kernel, by decide +kernel⟩
theorem sc__law_text : FnScope ["_law_term_here", "_law_part"] ["_law_term_here"] (defScope s__law_text) := ⟨rfl, rfl, rfl, by decide +kernel, rfl, by decide +kernel, by decide +kernel⟩
theorem sc__law_word : FnScope ["_law_text_here", "_law_signs_here", "_law_k"] ["_law_text_here", "_law_signs_here"] (defScope s__law_word) := ⟨rfl, rfl, rfl, by decide +kernel, rfl, by decide +kernel, by decide +kernel⟩
theorem sc__law_taken : FnScope ["_law_text_here", "_law_deep", "_law_word_here", "_law_found", "_law_inner"] ["_law_text_here", "_law_deep"] (defScope s__law_taken) := ⟨rfl, rfl, rfl, by decide +kernel, rfl, by decide +kernel, by decide +kernel⟩
theorem sc__law_due : FnScope ["_law_text_here", "_law_found"] ["_law_text_here"] (defScope s__law_due) := ⟨rfl, rfl, rfl, by decide +kernel, rfl, by decide +kernel, by decide +kernel⟩
theorem sc__law_is_read : FnScope ["_law_text_here", "_law_due_here", "_law_found", "e"] ["_law_text_here", "_law_due_here"] (defScope s__law_is_read) := ⟨rfl, rfl, rfl, by decide +kernel, rfl, by decide +kernel, by decide +kernel⟩
theorem sc__law_is_pair : FnScope ["_law_text_here", "_law_due_here", "_law_own", "_law_found"] ["_law_text_here", "_law_due_here", "_law_own"] (defScope s__law_is_pair) := ⟨rfl, rfl, rfl, by decide +kernel, rfl, by decide +kernel, by decide +kernel⟩
theorem sc__law_odd : FnScope ["_law_d", "_law_some"] ["_law_d"] (defScope s__law_odd) := ⟨rfl, rfl, rfl, by decide +kernel, rfl, by decide +kernel, by decide +kernel⟩
theorem sc_law : FnScope ["_law_script", "_law_signs_here", "_law_term_here", "_law_d", "_law_text_here", "_law_at", "_law_more", "_law_many", "_law_due_here", "_law_good"] ["_law_script"] (defScope s_law) := ⟨rfl, rfl, rfl, by decide +kernel, rfl, by decide +kernel, by decide +kernel⟩
structure Top (K : PySem.W.Frag) (mg : Str → Option Value) : Prop where
  d_is_name : ∃ fd, FnP K "is_name" "is_name" s_is_name (He.ga K "is_name") fd
  g_is_name : mg "is_name" = some (.ref (He.ga K "is_name"))
  d__behind : ∃ fd, FnP K "_behind" "_behind" s__behind (He.ga K "_behind") fd
  g__behind : mg "_behind" = some (.ref (He.ga K "_behind"))
  d__blank : ∃ fd, FnP K "_blank" "_blank" s__blank (He.ga K "_blank") fd
  g__blank : mg "_blank" = some (.ref (He.ga K "_blank"))
  d__leaf : ∃ fd, FnP K "_leaf" "_leaf" s__leaf (He.ga K "_leaf") fd
  g__leaf : mg "_leaf" = some (.ref (He.ga K "_leaf"))
  d_read : ∃ fd, FnP K "read" "read" s_read (He.ga K "read") fd
  g_read : mg "read" = some (.ref (He.ga K "read"))
  d_read_pair : ∃ fd, FnP K "read_pair" "read_pair" s_read_pair (He.ga K "read_pair") fd
  g_read_pair : mg "read_pair" = some (.ref (He.ga K "read_pair"))
  d__law_cell : ∃ fd, FnP K "_law_cell" "_law_cell" s__law_cell (He.ga K "_law_cell") fd
  g__law_cell : mg "_law_cell" = some (.ref (He.ga K "_law_cell"))
  d__law_dice : ∃ fd, FnP K "_law_dice" "_law_dice" s__law_dice (He.ga K "_law_dice") fd
  g__law_dice : mg "_law_dice" = some (.ref (He.ga K "_law_dice"))
  d__law_off : ∃ fd, FnP K "_law_off" "_law_off" s__law_off (He.ga K "_law_off") fd
  g__law_off : mg "_law_off" = some (.ref (He.ga K "_law_off"))
  d__law_names : ∃ fd, FnP K "_law_names" "_law_names" s__law_names (He.ga K "_law_names") fd
  g__law_names : mg "_law_names" = some (.ref (He.ga K "_law_names"))
  d__law_signs : ∃ fd, FnP K "_law_signs" "_law_signs" s__law_signs (He.ga K "_law_signs") fd
  g__law_signs : mg "_law_signs" = some (.ref (He.ga K "_law_signs"))
  d__law_free : ∃ fd, FnP K "_law_free" "_law_free" s__law_free (He.ga K "_law_free") fd
  g__law_free : mg "_law_free" = some (.ref (He.ga K "_law_free"))
  d__law_term : ∃ fd, FnP K "_law_term" "_law_term" s__law_term (He.ga K "_law_term") fd
  g__law_term : mg "_law_term" = some (.ref (He.ga K "_law_term"))
  d__law_same : ∃ fd, FnP K "_law_same" "_law_same" s__law_same (He.ga K "_law_same") fd
  g__law_same : mg "_law_same" = some (.ref (He.ga K "_law_same"))
  d__law_text : ∃ fd, FnP K "_law_text" "_law_text" s__law_text (He.ga K "_law_text") fd
  g__law_text : mg "_law_text" = some (.ref (He.ga K "_law_text"))
  d__law_word : ∃ fd, FnP K "_law_word" "_law_word" s__law_word (He.ga K "_law_word") fd
  g__law_word : mg "_law_word" = some (.ref (He.ga K "_law_word"))
  d__law_taken : ∃ fd, FnP K "_law_taken" "_law_taken" s__law_taken (He.ga K "_law_taken") fd
  g__law_taken : mg "_law_taken" = some (.ref (He.ga K "_law_taken"))
  d__law_due : ∃ fd, FnP K "_law_due" "_law_due" s__law_due (He.ga K "_law_due") fd
  g__law_due : mg "_law_due" = some (.ref (He.ga K "_law_due"))
  d__law_is_read : ∃ fd, FnP K "_law_is_read" "_law_is_read" s__law_is_read (He.ga K "_law_is_read") fd
  g__law_is_read : mg "_law_is_read" = some (.ref (He.ga K "_law_is_read"))
  d__law_is_pair : ∃ fd, FnP K "_law_is_pair" "_law_is_pair" s__law_is_pair (He.ga K "_law_is_pair") fd
  g__law_is_pair : mg "_law_is_pair" = some (.ref (He.ga K "_law_is_pair"))
  d__law_odd : ∃ fd, FnP K "_law_odd" "_law_odd" s__law_odd (He.ga K "_law_odd") fd
  g__law_odd : mg "_law_odd" = some (.ref (He.ga K "_law_odd"))
  d_law : ∃ fd, FnP K "law" "law" s_law (He.ga K "law") fd
  g_law : mg "law" = some (.ref (He.ga K "law"))
  g_WoodError : mg "WoodError" = some (.ref (He.ga K "WoodError"))
  g_BadOrder : mg "BadOrder" = some (.ref (He.ga K "BadOrder"))
  g_NoTerm : mg "NoTerm" = some (.ref (He.ga K "NoTerm"))
  g_NoPlace : mg "NoPlace" = some (.ref (He.ga K "NoPlace"))
  g_BadText : mg "BadText" = some (.ref (He.ga K "BadText"))
  g_TooHeavy : mg "TooHeavy" = some (.ref (He.ga K "TooHeavy"))
  g_TooLong : mg "TooLong" = some (.ref (He.ga K "TooLong"))
  e_BadText : ExcCls K (He.ga K "BadText")
  x_BadText : ExcC K (He.ga K "BadText")
  m_BadText_BadText : PySem.W.exmOne K (.ref (He.ga K "BadText")) (.ref (He.ga K "BadText")) = some true
  m_BadText_WoodError : PySem.W.exmOne K (.ref (He.ga K "BadText")) (.ref (He.ga K "WoodError")) = some true
  kb_BadText_WoodError : PySem.W.kitOne K (.ref (He.ga K "BadText")) (.ref (He.ga K "WoodError")) = some true
  kb_BadText_BadOrder : PySem.W.kitOne K (.ref (He.ga K "BadText")) (.ref (He.ga K "BadOrder")) = some false
  kb_BadText_NoTerm : PySem.W.kitOne K (.ref (He.ga K "BadText")) (.ref (He.ga K "NoTerm")) = some false
  kb_BadText_NoPlace : PySem.W.kitOne K (.ref (He.ga K "BadText")) (.ref (He.ga K "NoPlace")) = some false
  kb_BadText_BadText : PySem.W.kitOne K (.ref (He.ga K "BadText")) (.ref (He.ga K "BadText")) = some true
  kb_BadText_TooHeavy : PySem.W.kitOne K (.ref (He.ga K "BadText")) (.ref (He.ga K "TooHeavy")) = some false
  kb_BadText_TooLong : PySem.W.kitOne K (.ref (He.ga K "BadText")) (.ref (He.ga K "TooLong")) = some false
  kb_BadText_ValueError : PySem.W.kitOne K (.ref (He.ga K "BadText")) (.type "ValueError") = some true
  i_LONGEST_NAME : ∃ t, mg "LONGEST_NAME" = some (.int 8 t)
  i_MOST_PARTS : ∃ t, mg "MOST_PARTS" = some (.int 4 t)
  i_MOST_OPEN : ∃ t, mg "MOST_OPEN" = some (.int 60 t)
  i_MOST_FIGURES : ∃ t, mg "MOST_FIGURES" = some (.int 3 t)
  i_FIGURES : ∃ t, mg "FIGURES" = some (.str "0123456789" t)
  i_LETTERS : ∃ t, mg "LETTERS" = some (.str "abcdefghijklmnopqrstuvwxyz" t)
  i_BETWEEN : ∃ t, mg "BETWEEN" = some (.str " = " t)
  n_ValueError : mg "ValueError" = none
  n_abs : mg "abs" = none
  n_all : mg "all" = none
  n_bool : mg "bool" = none
  n_int : mg "int" = none
  n_isinstance : mg "isinstance" = none
  n_len : mg "len" = none
  n_list : mg "list" = none
  n_max : mg "max" = none
  n_range : mg "range" = none
  n_str : mg "str" = none
  n_tuple : mg "tuple" = none
  n_zip : mg "zip" = none
def DiceO (o : MO) : Prop := ∃ (sc : List Int) (a k b : Int), o = .lst [.int a, .rol (sc.map D.int), .int k, .int b]
def Dice (M : Mem) (l : Nat) : Prop := ∃ o, M[l]? = some o ∧ DiceO o
def sp_cell : DSp := fun ds M Q _ => ∃ (sc : List Int) (k : Int), ds = [.rol (sc.map D.int), .int k] ∧ 0 ≤ k ∧ ∀ v : Int, Q (.int v) M
def sp_dice : DSp := fun ds M Q _ => ∃ (sc : List Int) (k : Int), ds = [.rol (sc.map D.int), .int k] ∧ 0 ≤ k ∧ ∀ o, DiceO o → Q (.loc M.length) (M ++ [o])
def sp_off : DSp := fun ds M Q _ => ∃ (l : Nat) (most : Int), ds = [.loc l, .int most] ∧ Dice M l ∧ 0 < most ∧ most < 1073741824 ∧ ∀ r o, 0 ≤ r → r < most → DiceO o → Q (.int r) (M.set l o)
theorem DiceO.ok {o : MO} (h : DiceO o) (n : Nat) : okO n o = true := by
  obtain ⟨sc, a, k, b, rfl⟩ := h
  have : okDs n (sc.map D.int) = true := by
    rw [okDs_iff]
    intro d hd
    obtain ⟨i, _, rfl⟩ := List.mem_map.mp hd
    rfl
  simp [okO, okDs, okD, this]
section
variable {P : Program} {w : World} {K : PySem.W.Frag} {mg : Str → Option Value} {base : Heap}
theorem fn_cell (T : Top K mg) : DFn P w K mg base CX0 1 "_law_cell" ["_law_script", "_law_k"] sp_cell := by
  obtain ⟨fd, F⟩ := T.d__law_cell
  have sc := sc__law_cell
  refine DFn.ofD (k := 0) F T.g__law_cell (FunD.bindsN F fun _ _ _ _ _ _ us hl => match us, hl with | [_, _], _ => rfl) sc ?len ⟨_, fun cdv A outer s H E m0 hr => (
      (dss_cons (ds_if (dt_cmp dop_lt (de_var 1) (de_cb T.n_len dc_len b_len (da_cons (de_var 0) da_nil))) (dss_one (ds_ret (de_ix hr (de_var 0) (de_var 1)))) dss_nil)
      (dss_one (ds_ret de_int)))), ?_⟩
  case len =>
    rintro ds M Q E ⟨sc, k, rfl, _⟩
    rfl
  rintro ds M Qd Ed ⟨sc, k, rfl, hk, q⟩ hM
  try simp! only [eq_self]
  by_cases h : k < (sc.length : Int)
  · rw [decide_eq_true h]
    obtain ⟨v, e⟩ := atI_ints (ns := sc) hk h
    rw [e]
    exact .same (q v)
  · rw [decide_eq_false h]
    exact .same (q 0)
theorem fn_dice (T : Top K mg) : DFn P w K mg base CX0 2 "_law_dice" ["_law_script", "_law_k"] sp_dice := by
  have F__law_cell := fn_cell (P := P) (w := w) (base := base) T
  obtain ⟨fd, F⟩ := T.d__law_dice
  have sc := sc__law_dice
  refine DFn.ofD (k := 1) F T.g__law_dice (FunD.bindsN F fun _ _ _ _ _ _ us hl => match us, hl with | [_, _], _ => rfl) sc ?len ⟨_, fun cdv A outer s H E m0 hr => (
      (dss_cons (ds_set 2 sc.nd (de_cb T.n_abs dc_abs b_abs (da_cons (de_call F__law_cell (hr.mono (by omega)) pass0 (da_cons (de_var 0) (da_cons (de_var 1) da_nil))) da_nil)))
      (dss_one (ds_ret (de_lst (da_cons (de_bin dop_mod (de_var 2) de_int) (da_cons (de_var 0) (da_cons (de_bin dop_add (de_var 1) de_int) (da_cons (de_bin dop_mul (de_ct T.n_int dc_int b_int (da_cons (de_cmp dop_ge (de_var 2) (de_bin dop_pow de_int de_int)) da_nil)) (de_var 2)) da_nil))))))))), ?_⟩
  case len =>
    rintro ds M Q E ⟨sc, k, rfl, _⟩
    rfl
  rintro ds M Qd Ed ⟨sc, k, rfl, hk, q⟩ hM
  try simp! only [eq_self]
  refine ⟨sc, k, rfl, hk, fun v => ?_⟩
  try simp! only [eq_self]
  refine ⟨by omega, ⟨by omega, by omega, by decide⟩, ?_⟩
  generalize (if v < 0 then -v else v) = c
  have h1 : CMul (if decide (10 ^ (18 : Int).toNat ≤ c) = true then 1 else 0) c := by
    unfold CMul
    left
    split <;> omega
  refine ⟨h1, .same (q _ ⟨sc, _, _, _, rfl⟩)⟩
theorem fn_off (T : Top K mg) : DFn P w K mg base CX0 2 "_law_off" ["_law_d", "_law_most"] sp_off := by
  have F__law_cell := fn_cell (P := P) (w := w) (base := base) T
  obtain ⟨fd, F⟩ := T.d__law_off
  have sc := sc__law_off
  refine DFn.ofD (k := 1) F T.g__law_off (FunD.bindsN F fun _ _ _ _ _ _ us hl => match us, hl with | [_, _], _ => rfl) sc ?len ⟨_, fun cdv A outer s H E m0 hr => (
      (dss_cons (ds_if (dt_cmp dop_gt (de_ix hr (de_var 0) de_int) de_int) (dss_cons (ds_set 2 sc.nd (de_bin dop_mod (de_ix hr (de_var 0) de_int) (de_var 1)))
      (dss_cons (ds_asg (de_bin dop_fdiv (de_ix hr (de_var 0) de_int) (de_var 1)) (dg_sub hr (de_var 0) de_int))
      (dss_one (ds_ret (de_var 2))))) dss_nil)
      (dss_cons (ds_set 3 sc.nd (de_cb T.n_abs dc_abs b_abs (da_cons (de_call F__law_cell (hr.mono (by omega)) pass0 (da_cons (de_ix hr (de_var 0) de_int) (da_cons (de_bin dop_mod (de_ix hr (de_var 0) de_int) (de_cb T.n_max (dc_max rfl) b_max (da_cons de_int (da_cons (de_cb T.n_len dc_len b_len (da_cons (de_ix hr (de_var 0) de_int) da_nil)) da_nil)))) da_nil))) da_nil)))
      (dss_cons (ds_asg (de_bin dop_add (de_ix hr (de_var 0) de_int) de_int) (dg_sub hr (de_var 0) de_int))
      (dss_cons (ds_asg (de_bin dop_mod (de_bin dop_add (de_bin dop_add (de_bin dop_mul (de_ix hr (de_var 0) de_int) de_int) de_int) (de_var 3)) de_int) (dg_sub hr (de_var 0) de_int))
      (dss_one (ds_ret (de_bin dop_mod (de_bin dop_fdiv (de_ix hr (de_var 0) de_int) de_int) (de_var 1))))))))), ?_⟩
  case len =>
    rintro ds M Q E ⟨l, most, rfl, _⟩
    rfl
  rintro ds M Qd Ed ⟨l, most, rfl, ⟨o, hl, sc, a, k, b, rfl⟩, h0, h1, q⟩ hM
  have e0 : atI [D.int a, D.rol (sc.map D.int), D.int k, D.int b] 0 = some (.int a) := rfl
  have e1 : atI [D.int a, D.rol (sc.map D.int), D.int k, D.int b] 1 = some (.rol (sc.map D.int)) := rfl
  have e2 : atI [D.int a, D.rol (sc.map D.int), D.int k, D.int b] 2 = some (.int k) := rfl
  have e3 : atI [D.int a, D.rol (sc.map D.int), D.int k, D.int b] 3 = some (.int b) := rfl
  try simp! only [hl, e0, e1, e2, e3]
  by_cases hb : 0 < b
  · rw [decide_eq_true hb]
    refine ⟨h0, ⟨h0, h1⟩, .same ?_⟩
    exact q _ _ (Int.emod_nonneg _ (by omega)) (Int.emod_lt_of_pos _ h0) ⟨sc, a, k, b / most, rfl⟩
  · rw [decide_eq_false hb]
    have hm : (0 : Int) < (if (sc.length : Int) > 1 then (sc.length : Int) else 1) := by split <;> omega
    refine ⟨hm, sc, _, rfl, Int.emod_nonneg _ (by omega), fun v => ?_⟩
    have f0 : atI [D.int a, D.rol (sc.map D.int), D.int (k + 1), D.int b] 0 = some (.int a) := rfl
    have x2 : ixN 4 2 = some 2 := rfl
    have x0 : ixN 4 0 = some 0 := rfl
    try simp! only [hl, x2, x0, f0]
    refine ⟨by unfold CMul; omega, by omega, by unfold CDiv; omega, h0, .same ?_⟩
    exact q _ _ (Int.emod_nonneg _ (by omega)) (Int.emod_lt_of_pos _ h0) ⟨sc, _, _, _, rfl⟩
end
theorem use_off {l : Nat} {most : Int} {o : MO} {M G : Mem} {Q : QD} {E : Addr → Mem → Prop} (hl : l < M.length) (ho : DiceO o) (h0 : 0 < most) (h1 : most < 1073741824)
    (k : ∀ (r : Nat) (o' : MO), (r : Int) < most → DiceO o' → Q (.int r) (M.set l o' ++ G)) : sp_off [.loc l, .int most] (M.set l o ++ G) Q E := by
  refine ⟨l, most, rfl, ⟨o, by rw [getL (by simpa using hl)]; simp [hl], ho⟩, h0, h1, fun r o' a b ho' => ?_⟩
  have h := k r.toNat o' (by omega) ho'
  rw [setL (by simpa using hl), List.set_set]
  rw [show ((r.toNat : Nat) : Int) = r by omega] at h
  exact h
theorem Dice.self {M : Mem} {l : Nat} (h : Dice M l) : ∃ o, DiceO o ∧ l < M.length ∧ M.set l o = M := by
  obtain ⟨o, hl, ho⟩ := h
  have hlt : l < M.length := (List.getElem?_eq_some_iff.mp hl).1
  refine ⟨o, ho, hlt, List.ext_getElem? fun n => ?_⟩
  by_cases h : l = n
  · subst h; rw [List.getElem?_set_self hlt, hl]
  · rw [List.getElem?_set_ne h]
theorem use_offA {l : Nat} {most : Int} {M G : Mem} {Q : QD} {E : Addr → Mem → Prop} (hd : Dice M l) (h0 : 0 < most) (h1 : most < 1073741824)
    (k : ∀ (r : Nat) (o' : MO), (r : Int) < most → DiceO o' → Q (.int r) (M.set l o' ++ G)) : sp_off [.loc l, .int most] (M ++ G) Q E := by
  obtain ⟨o, ho, hlt, e⟩ := hd.self
  have h : sp_off [.loc l, .int most] (M.set l o ++ G) Q E := use_off hlt ho h0 h1 k
  rw [e] at h
  exact h
theorem use_off1 {l : Nat} {most : Int} {o : MO} {M : Mem} {Q : QD} {E : Addr → Mem → Prop} (hl : l < M.length) (ho : DiceO o) (h0 : 0 < most) (h1 : most < 1073741824)
    (k : ∀ (r : Nat) (o' : MO), (r : Int) < most → DiceO o' → Q (.int r) (M.set l o')) : sp_off [.loc l, .int most] (M.set l o) Q E := by
  refine ⟨l, most, rfl, ⟨o, by simp [hl], ho⟩, h0, h1, fun r o' a b ho' => ?_⟩
  have h := k r.toNat o' (by omega) ho'
  rw [List.set_set]
  rw [show ((r.toNat : Nat) : Int) = r by omega] at h
  exact h
theorem use_off0 {l : Nat} {most : Int} {M : Mem} {Q : QD} {E : Addr → Mem → Prop} (hd : Dice M l) (h0 : 0 < most) (h1 : most < 1073741824)
    (k : ∀ (r : Nat) (o' : MO), (r : Int) < most → DiceO o' → Q (.int r) (M.set l o')) : sp_off [.loc l, .int most] M Q E := by
  refine ⟨l, most, rfl, hd, h0, h1, fun r o' a b ho' => ?_⟩
  have h := k r.toNat o' (by omega) ho'
  rw [show ((r.toNat : Nat) : Int) = r by omega] at h
  exact h
theorem Dice.lt {M : Mem} {l : Nat} (h : Dice M l) : l < M.length := by
  obtain ⟨o, e, _⟩ := h
  exact (List.getElem?_eq_some_iff.mp e).1
def chS (c : Nat) : D := .str ⟨#[c]⟩
def letter (c : Nat) : Prop := 97 ≤ c ∧ c ≤ 122
def nameL (b : List Nat) (at_ turn : Nat) (z : Bool) (i : Nat) : List Nat := b.set at_ (97 + (turn + 7 * i) % 26) ++ (if z then List.replicate (i % 3) 122 else [])
def nameS (b : List Nat) (at_ turn : Nat) (z : Bool) (i : Nat) : Str := ⟨(nameL b at_ turn z i).toArray⟩
theorem tl_nameS (b : List Nat) (at_ turn : Nat) (z : Bool) (i : Nat) : tlS (nameS b at_ turn z i) = nameL b at_ turn z i := by simp [tlS, nameS]
theorem name_good {b : List Nat} {at_ turn : Nat} {z : Bool} {i : Nat} (hb : 1 ≤ b.length ∧ b.length ≤ 6) (hl : ∀ c ∈ b, letter c) : GoodName (nameS b at_ turn z i) := by
  unfold GoodName
  rw [tl_nameS]
  unfold nameL
  have h3 : i % 3 < 3 := Nat.mod_lt _ (by decide)
  refine ⟨by simp; omega, ?_, fun c hc => ?_⟩
  · split <;> simp <;> omega
  · rcases List.mem_append.mp hc with h | h
    · rcases List.mem_or_eq_of_mem_set h with h | h
      · exact hl c h
      · have := Nat.mod_lt (turn + 7 * i) (show 26 > 0 by decide)
        omega
    · split at h
      · have := List.eq_of_mem_replicate h
        omega
      · cases h
theorem name_inj {b : List Nat} {at_ turn : Nat} {z : Bool} {i j : Nat} (ha : at_ < b.length) (hi : i < 26) (hj : j < 26) (h : nameS b at_ turn z i = nameS b at_ turn z j) : i = j := by
  have h1 : nameL b at_ turn z i = nameL b at_ turn z j := by rw [← tl_nameS, ← tl_nameS, h]
  have h2 := congrArg (fun l => l[at_]?) h1
  have e : ∀ k, (nameL b at_ turn z k)[at_]? = some (97 + (turn + 7 * k) % 26) := fun k => by
    unfold nameL
    rw [List.getElem?_append_left (by simpa using ha), List.getElem?_set_self ha]
  simp only [e] at h2
  injection h2 with h2
  omega
def tlz (z : Bool) (i : Nat) : Str := if z then ⟨(List.replicate i 122).toArray⟩ else ⟨#[]⟩
theorem join_name {b cs : List Nat} {at_ turn : Nat} {z : Bool} {i : Nat} (h : b = cs.set at_ (97 + (turn + 7 * i) % 26)) : Txt.join ("" : Str) (b.map fun c => ⟨#[c]⟩) ++ tlz z (i % 3) = nameS cs at_ turn z i := by
  apply TL.ext_tl
  rw [TL.tl_append]
  have e1 : TL.tl (Txt.join ("" : Str) (b.map fun c => ⟨#[c]⟩)) = b := by
    rw [TL.join_eq, TL.tl_join, List.map_map]
    have e0 : TL.tl ("" : Str) = [] := by decide +kernel
    rw [e0]
    clear h
    induction b with
    | nil => rfl
    | cons x r ih =>
      cases r with
      | nil => rfl
      | cons y r => 
        simp only [List.map_cons] at ih ⊢
        unfold TL.joinL
        rw [ih]
        rfl
  rw [e1, h]
  show _ = (nameL cs at_ turn z i).toArray.toList
  unfold nameL tlz
  cases z <;> simp [TL.tl]
theorem sum_ones (b : List Nat) : ((b.map fun c => (⟨#[c]⟩ : Str)).map fun x => x.length).sum = b.length := by
  induction b with
  | nil => rfl
  | cons x r ih =>
    simp only [List.map_cons, List.sum_cons, List.length_cons, ih]
    show 1 + r.length = r.length + 1
    omega
theorem nameS_len {b : List Nat} {at_ turn : Nat} {z : Bool} {i : Nat} (h : b.length ≤ 6) : (nameS b at_ turn z i).length ≤ 8 := by
  show (nameL b at_ turn z i).toArray.size ≤ 8
  have h3 : i % 3 < 3 := Nat.mod_lt _ (by decide)
  unfold nameL
  cases z <;> simp <;> omega
theorem nodup_map {α β : Type} {f : α → β} : ∀ {l : List α}, l.Nodup → (∀ x ∈ l, ∀ y ∈ l, f x = f y → x = y) → (l.map f).Nodup
  | [], _, _ => List.nodup_nil
  | a :: l, h, k => by
    rw [List.nodup_cons] at h
    rw [List.map_cons, List.nodup_cons]
    refine ⟨fun hm => ?_, nodup_map h.2 fun x hx y hy e => k x (List.mem_cons_of_mem _ hx) y (List.mem_cons_of_mem _ hy) e⟩
    obtain ⟨b, hb, e⟩ := List.mem_map.mp hm
    have := k b (List.mem_cons_of_mem _ hb) a (List.mem_cons_self ..) e
    rw [this] at hb
    exact h.1 hb
theorem strsD_chS (b : List Nat) : strsD (b.map chS) = some (b.map fun c => ⟨#[c]⟩) := by
  have : b.map chS = (b.map fun c => (⟨#[c]⟩ : Str)).map D.str := by rw [List.map_map]; rfl
  rw [this, strsD_map]
def sp_names : DSp := fun ds M Q _ => ∃ (l : Nat) (many : Nat), ds = [.loc l, .int many] ∧ many ≤ 26 ∧ Dice M l ∧ ∀ (o : MO) (ns : List Str), DiceO o → ns.length = many → (∀ n ∈ ns, GoodName n) → ns.Nodup → Q (.loc M.length) (M.set l o ++ [.lst (ns.map D.str)])
theorem abc_at {r : Int} (h0 : 0 ≤ r) (h1 : r < 26) : atI (Str.cps ("abcdefghijklmnopqrstuvwxyz" : Str)).toList r = some (97 + r.toNat) := by
  have h : ∀ n : Fin 26, atI (Str.cps ("abcdefghijklmnopqrstuvwxyz" : Str)).toList (n.val : Int) = some (97 + n.val) := by decide +kernel
  have := h ⟨r.toNat, by omega⟩
  have e : ((r.toNat : Nat) : Int) = r := by omega
  simp only [e] at this
  exact this
theorem abc_len : (("abcdefghijklmnopqrstuvwxyz" : Str)).length ≤ sizeLine := by decide +kernel
section
variable {P : Program} {w : World} {K : PySem.W.Frag} {mg : Str → Option Value} {base : Heap}
theorem fn_names (T : Top K mg) : DFn P w K mg base CX0 3 "_law_names" ["_law_d", "_law_many"] sp_names := by
  have F__law_off := fn_off (P := P) (w := w) (base := base) T
  obtain ⟨fd, F⟩ := T.d__law_names
  have sc := sc__law_names
  refine DFn.ofD (k := 2) F T.g__law_names (FunD.bindsN F fun _ _ _ _ _ _ us hl => match us, hl with | [_, _], _ => rfl) sc ?len ⟨_, fun cdv A outer s H E m0 hr => (
      (dss_cons (ds_set 2 sc.nd de_str)
      (dss_cons (ds_setLc 3 8 (own := [("_law_k", 8)]) rfl sc.nd (di_rng1 T.n_range (da_cons (de_bin dop_add de_int (de_call F__law_off (hr.mono (by omega)) pass0 (da_cons (de_var 0) (da_cons de_int da_nil)))) da_nil)) (show blkC ["_law_d", "_law_many", "_law_letters", "_law_base", "_law_at", "_law_turn", "_law_tails", "_law_found", "_law_k"] (defScope s__law_names) _ [("_law_k", 8)] = true by decide +kernel) (by decide) (sw_true rfl rfl rfl (by decide +kernel)) (fun _ _ _ _ _ => pg_name (i := 8) sc.nd rfl (by first | exact Or.inl rfl | exact Or.inr rfl)) (fun _ _ _ _ _ => dts_nil) (fun _ _ _ _ _ => (de_ix hr (de_var 2) (de_call F__law_off (hr.mono (by omega)) pass0 (da_cons (de_var 0) (da_cons de_int da_nil))))))
      (dss_cons (ds_set 4 sc.nd (de_call F__law_off (hr.mono (by omega)) pass0 (da_cons (de_var 0) (da_cons (de_cb T.n_len dc_len b_len (da_cons (de_var 3) da_nil)) da_nil))))
      (dss_cons (ds_set 5 sc.nd (de_call F__law_off (hr.mono (by omega)) pass0 (da_cons (de_var 0) (da_cons de_int da_nil))))
      (dss_cons (ds_set 6 sc.nd (de_ix hr (de_lst (da_cons (de_lst (da_cons de_str (da_cons de_str (da_cons de_str da_nil)))) (da_cons (de_lst (da_cons de_str (da_cons de_str (da_cons de_str da_nil)))) da_nil))) (de_call F__law_off (hr.mono (by omega)) pass0 (da_cons (de_var 0) (da_cons de_int da_nil)))))
      (dss_cons (ds_set 7 sc.nd (de_lst da_nil))
      (dss_cons (ds_for PassesOwn.never rfl (di_rng1 T.n_range (da_cons (de_var 1) da_nil)) (dg_name 8 sc.nd) (dss_cons (ds_asg (de_ix hr (de_var 2) (de_bin dop_mod (de_bin dop_add (de_var 5) (de_bin dop_mul de_int (de_var 8))) de_int)) (dg_sub hr (de_var 3) (de_var 4)))
      (dss_one (ds_expr (de_bm PySem.F.plainAttrs_list PySem.F.slot_list_append PySem.F.type_list_append dm_append (de_var 7) (da_cons (de_bin dop_add (de_bm PySem.F.plainAttrs_str PySem.F.slot_str_join PySem.F.type_str_join dm_join de_str (da_cons (de_var 3) da_nil)) (de_ix hr (de_var 6) (de_bin dop_mod (de_var 8) de_int))) da_nil))))))
      (dss_one (ds_ret (de_var 7))))))))))), ?_⟩
  case len =>
    rintro ds M Q E ⟨l, many, rfl, _⟩
    rfl
  rintro ds M Qd Ed ⟨l, many, rfl, hmany, hd, q⟩ hM
  try simp! only [eq_self]
  have hlt := hd.lt
  refine use_off0 hd (by omega) (by omega) fun r1 o1 h11 ho1 => ?_
  try simp! only [eq_self]
  refine ⟨by omega, ?_⟩
  refine lcGo_ind (fun items M' acc => ∃ o cs, DiceO o ∧ M' = M.set l o ∧ acc = cs.map chS ∧ cs.length + items.length = 1 + r1 ∧ ∀ c ∈ cs, letter c) ?_ ?_ _ _ _ ⟨o1, [], ho1, rfl, rfl, by simp [rngD]; omega, by simp⟩
  · rintro x rest M' acc ⟨o, cs, ho, rfl, rfl, hlen, hcs⟩ ih
    refine ⟨trivial, ?_⟩
    try simp! only [eq_self]
    refine use_off1 hlt ho (by omega) (by omega) fun r o2 h2 ho2 => ?_
    try simp! only [eq_self]
    refine ⟨abc_len, ?_⟩
    rw [abc_at (by omega) h2]
    try simp! only [eq_self]
    refine ⟨by simp at hlen ⊢; omega, ih _ _ ⟨o2, cs ++ [97 + r], ho2, rfl, by simp [chS], by simp at hlen ⊢; omega, ?_⟩⟩
    intro c hc
    rcases List.mem_append.mp hc with h | h
    · exact hcs c h
    · have : c = 97 + r := by simpa using h
      unfold letter
      omega
  rintro M' acc ⟨o, cs, ho, rfl, rfl, hlen, hcs⟩
  refine ⟨trivial, ?_⟩
  simp only [List.length_nil, Nat.add_zero] at hlen
  try simp! only [hlt]
  refine use_off hlt ho (by omega) (by omega) fun at_ o2 h2 ho2 => ?_
  try simp! only [hlt]
  refine use_off hlt ho2 (by omega) (by omega) fun turn o3 h3 ho3 => ?_
  try simp! only [hlt]
  refine use_off hlt ho3 (by omega) (by omega) fun zz o4 h4 ho4 => ?_
  try simp! only [hlt]
  obtain ⟨z, ti, hz, e⟩ : ∃ z ti, (ti = 1 ∧ z = false ∨ ti = 2 ∧ z = true) ∧ atI [D.loc (List.length M + 1), D.loc (List.length M + 2)] (zz : Int) = some (.loc (List.length M + ti)) := by
    have : zz = 0 ∨ zz = 1 := by omega
    rcases this with rfl | rfl
    · exact ⟨false, 1, .inl ⟨rfl, rfl⟩, rfl⟩
    · exact ⟨true, 2, .inr ⟨rfl, rfl⟩, rfl⟩
  rw [e]
  refine ⟨⟨by omega, by omega⟩, ?_⟩
  have hat : at_ < cs.length := by omega
  have htl : ∀ (b : MO) (f T : MO), [b, MO.lst [D.str (Str.ofString ""), D.str (Str.ofString ""), D.str (Str.ofString "")], MO.lst [D.str (Str.ofString ""), D.str (Str.ofString "z"), D.str (Str.ofString "zz")], T, f][ti]? =
      some (.lst [.str (tlz z 0), .str (tlz z 1), .str (tlz z 2)]) := fun b f T => by
    rcases hz with ⟨rfl, rfl⟩ | ⟨rfl, rfl⟩
    · have : (Str.ofString "") = tlz false 0 ∧ (Str.ofString "") = tlz false 1 ∧ (Str.ofString "") = tlz false 2 := by decide +kernel
      rw [← this.1, ← this.2.1]
      rfl
    · have : (Str.ofString "") = tlz true 0 ∧ (Str.ofString "z") = tlz true 1 ∧ (Str.ofString "zz") = tlz true 2 := by decide +kernel
      rw [← this.1, ← this.2.1, ← this.2.2]
      rfl
  refine forGo_ind (fun items r M' => ∃ (j n : Nat) (b : List Nat) (v : Option D), items = rngD j n ∧ j + n = many ∧ b.length = cs.length ∧ (∀ x, b.set at_ x = cs.set at_ x) ∧
      r = [some (D.loc l), some (D.int ↑many), some (D.str (Str.ofString "abcdefghijklmnopqrstuvwxyz")), some (D.loc (List.length M)), some (D.int ↑at_), some (D.int ↑turn), some (D.loc (List.length M + ti)), some (D.loc (List.length M + 4)), v] ∧
      M' = M.set l o4 ++ [MO.lst (b.map chS), MO.lst [D.str (Str.ofString ""), D.str (Str.ofString ""), D.str (Str.ofString "")], MO.lst [D.str (Str.ofString ""), D.str (Str.ofString "z"), D.str (Str.ofString "zz")],
        MO.lst [D.loc (List.length M + 1), D.loc (List.length M + 2)], MO.lst (((List.range j).map (nameS cs at_ turn z)).map D.str)]) ?_ ?_ _ _ _ ⟨0, many, cs, none, rfl, by omega, rfl, fun _ => rfl, rfl, rfl⟩
  · rintro x rest r M' ⟨j, n, b, v, hi, hjn, hbl, hbs, rfl, rfl⟩ ih
    refine ⟨trivial, ?_⟩
    cases n with
    | zero => rw [rngD_zero] at hi; cases hi
    | succ n =>
    rw [rngD_succ] at hi
    injection hi with hx hr
    subst hx hr
    have hA : atI (Str.cps (Str.ofString "abcdefghijklmnopqrstuvwxyz")).toList ((turn + 7 * j : Int) % 26) = some (97 + (turn + 7 * j) % 26) := by
      rw [abc_at (by omega) (by omega)]
      congr 2
    have hI : ixN b.length (at_ : Int) = some at_ := ixN_nat (by omega)
    have hS : (b.map chS).set at_ (D.str ⟨#[97 + (turn + 7 * j) % 26]⟩) = (cs.set at_ (97 + (turn + 7 * j) % 26)).map chS := by
      rw [← hbs, List.map_set]
      rfl
    have hT : atI [D.str (tlz z 0), D.str (tlz z 1), D.str (tlz z 2)] ((j : Int) % 3) = some (.str (tlz z (j % 3))) := by
      have e : ((j : Int) % 3) = ((j % 3 : Nat) : Int) := by omega
      rw [e]
      refine atI_nat ?_
      have : j % 3 = 0 ∨ j % 3 = 1 ∨ j % 3 = 2 := by omega
      rcases this with h | h | h <;> rw [h] <;> rfl
    try simp! only [hlt, htl, hA, hI, hS, hT, strsD_chS]
    have hj := join_name (z := z) (rfl : cs.set at_ (97 + (turn + 7 * j) % 26) = cs.set at_ (97 + (turn + 7 * j) % 26))
    have hlen8 := nameS_len (b := cs) (at_ := at_) (turn := turn) (z := z) (i := j) (by omega)
    have e0 : (Str.ofString "").length = 0 := by decide +kernel
    refine ⟨by unfold CMul; omega, by omega, abc_len, ?_, by omega, ?_, ?_, ?_⟩
    · rw [sum_ones, List.length_set, e0]
      omega
    · have := congrArg Str.length hj
      rw [TL.len_tl, TL.tl_append, List.length_append, ← TL.len_tl, ← TL.len_tl] at this
      omega
    · rw [List.length_range]
      omega
    · refine ih _ _ ⟨j + 1, n, cs.set at_ (97 + (turn + 7 * j) % 26), some (.int j), ?_, by omega, by simp, fun x => by simp, rfl, ?_⟩
      · congr 1
      · rw [List.range_succ, List.map_append, List.map_append, hj]
        rfl
  · rintro r M' ⟨j, n, b, v, hi, hjn, hbl, hbs, rfl, rfl⟩
    have hn : n = 0 := by
      have := congrArg List.length hi
      rw [rngD_length] at this
      simpa using this.symm
    subst hn
    refine ⟨trivial, ?_⟩
    try simp! only [eq_self]
    refine Done.list (okM_set hM (ho4.ok _)) (takeK (by simp)) (Nat.le_add_right _ _) (by rw [getK (by simp)]; rfl) ?_ ?_
    · rw [okDs_iff]
      intro d hd
      obtain ⟨x, _, rfl⟩ := List.mem_map.mp hd
      rfl
    · refine q o4 _ ho4 (by simp; omega) (fun n hn => ?_) (nodup_map List.nodup_range fun x hx y hy e => ?_)
      · obtain ⟨x, _, rfl⟩ := List.mem_map.mp hn
        exact name_good (by omega) hcs
      · exact name_inj hat (by have := List.mem_range.mp hx; omega) (by have := List.mem_range.mp hy; omega) e
end
def sp_signs : DSp := fun ds M Q _ => ∃ (l : Nat), ds = [.loc l] ∧ Dice M l ∧ ∀ (o : MO) (ss : List Sg), DiceO o → GoodSigns ss → Q (.loc M.length) (M.set l o ++ [.lst (ss.map Sg.d)])
section
variable {P : Program} {w : World} {K : PySem.W.Frag} {mg : Str → Option Value} {base : Heap}
theorem fn_signs (T : Top K mg) : DFn P w K mg base CX0 4 "_law_signs" ["_law_d"] sp_signs := by
  have F__law_off := fn_off (P := P) (w := w) (base := base) T
  have F__law_names := fn_names (P := P) (w := w) (base := base) T
  obtain ⟨fd, F⟩ := T.d__law_signs
  have sc := sc__law_signs
  refine DFn.ofD (k := 3) F T.g__law_signs (FunD.bindsN F fun _ _ _ _ _ _ us hl => match us, hl with | [_], _ => rfl) sc ?len ⟨_, fun cdv A outer s H E m0 hr => (
      (dss_cons (ds_set 1 sc.nd (de_bin dop_add (de_lst (da_cons de_int (da_cons de_int (da_cons de_int (da_cons de_int da_nil))))) (de_ix hr (de_lst (da_cons (de_lst da_nil) (da_cons (de_lst (da_cons de_int da_nil)) (da_cons (de_lst (da_cons de_int da_nil)) (da_cons (de_lst (da_cons de_int (da_cons de_int da_nil))) (da_cons (de_lst (da_cons de_int da_nil)) (da_cons (de_lst (da_cons de_int (da_cons de_int da_nil))) da_nil))))))) (de_call F__law_off (hr.mono (by omega)) pass0 (da_cons (de_var 0) (da_cons de_int da_nil))))))
      (dss_cons (ds_set 2 sc.nd (de_call F__law_off (hr.mono (by omega)) pass0 (da_cons (de_var 0) (da_cons (de_cb T.n_len dc_len b_len (da_cons (de_var 1) da_nil)) da_nil))))
      (dss_cons (ds_set 1 sc.nd (de_bin dop_add (de_slice (de_var 1) (do_some (de_var 2)) do_none) (de_slice (de_var 1) do_none (do_some (de_var 2)))))
      (dss_cons (ds_set 3 sc.nd (de_call F__law_names (hr.mono (by omega)) pass0 (da_cons (de_var 0) (da_cons (de_cb T.n_len dc_len b_len (da_cons (de_var 1) da_nil)) da_nil))))
      (dss_cons (ds_set 4 sc.nd (de_ix hr (de_lst (da_cons de_int (da_cons de_int (da_cons de_int da_nil)))) (de_call F__law_off (hr.mono (by omega)) pass0 (da_cons (de_var 0) (da_cons de_int da_nil)))))
      (dss_one (ds_ret (de_lc 5 (own := [("_law_k", 5)]) rfl sc.nd (di_rng1 T.n_range (da_cons (de_cb T.n_len dc_len b_len (da_cons (de_var 1) da_nil)) da_nil)) (show blkC ["_law_d", "_law_many", "_law_turn", "_law_names_here", "_law_most", "_law_k"] (defScope s__law_signs) _ [("_law_k", 5)] = true by decide +kernel) (by decide) (fun _ _ _ _ _ => pg_name (i := 5) sc.nd rfl (by first | exact Or.inl rfl | exact Or.inr rfl)) (fun _ _ _ _ _ => dts_nil) (fun _ _ _ _ _ => (de_tup (da_cons (de_ix hr (de_var 3) (de_var 5)) (da_cons (de_ix hr (de_var 1) (de_var 5)) (da_cons (de_bin dop_add de_int (de_call F__law_off (hr.mono (by omega)) pass0 (da_cons (de_var 0) (da_cons (de_var 4) da_nil)))) da_nil)))))))))))))), ?_⟩
  case len =>
    rintro ds M Q E ⟨l, rfl, _⟩
    rfl
  rintro ds M Qd Ed ⟨l, rfl, hd, q⟩ hM
  try simp! only [eq_self]
  have hlt := hd.lt
  refine use_offA hd (by omega) (by omega) fun r1 o1 h11 ho1 => ?_
  obtain ⟨ex, ti, hti, hex, he, ht⟩ : ∃ (ex : List Int) (ti : Nat), ex.length ≤ 2 ∧ (∀ a ∈ ex, 0 ≤ a ∧ a ≤ 4) ∧ atI [D.loc (List.length M + 1), D.loc (List.length M + 2), D.loc (List.length M + 3), D.loc (List.length M + 4), D.loc (List.length M + 5), D.loc (List.length M + 6)] (r1 : Int) = some (.loc (List.length M + (ti + 1))) ∧
      ∀ T, [MO.lst [], MO.lst [.int 0], MO.lst [.int 1], MO.lst [.int 0, .int 2], MO.lst [.int 3], MO.lst [.int 4, .int 1], T][ti]? = some (.lst (ex.map D.int)) := by
    have : r1 = 0 ∨ r1 = 1 ∨ r1 = 2 ∨ r1 = 3 ∨ r1 = 4 ∨ r1 = 5 := by omega
    rcases this with rfl | rfl | rfl | rfl | rfl | rfl
    · exact ⟨[], 0, by decide, by decide, rfl, fun _ => rfl⟩
    · exact ⟨[0], 1, by decide, by decide, rfl, fun _ => rfl⟩
    · exact ⟨[1], 2, by decide, by decide, rfl, fun _ => rfl⟩
    · exact ⟨[0, 2], 3, by decide, by decide, rfl, fun _ => rfl⟩
    · exact ⟨[3], 4, by decide, by decide, rfl, fun _ => rfl⟩
    · exact ⟨[4, 1], 5, by decide, by decide, rfl, fun _ => rfl⟩
  try simp! only [hlt, he, ht]
  refine ⟨by omega, ?_⟩
  refine use_off hlt ho1 (by omega) (by omega) fun turn o2 h2 ho2 => ?_
  try simp! only [hlt]
  obtain ⟨ar, ec, hmem, hal⟩ := cut_turn (ar := 0 :: 0 :: 1 :: 2 :: ex) (t := turn) (by simp; omega)
  have hal' : 4 ≤ ar.length ∧ ar.length ≤ 6 := by rw [hal]; simp; omega
  have el := congrArg List.length ec
  rw [List.length_append, List.length_map] at el
  simp only [List.map_cons, List.length_cons] at ec el
  rw [el, ec]
  refine ⟨by omega, ⟨l, ar.length, rfl, by omega, ⟨o2, by rw [getL (by simpa using hlt)]; simp [hlt], ho2⟩, fun o3 ns ho3 hnl hgood hnd => ?_⟩⟩
  try simp! only [hlt]
  refine use_off hlt ho3 (by omega) (by omega) fun r4 o4 h4 ho4 => ?_
  obtain ⟨mo, hmo, he4⟩ : ∃ mo : Int, 1 ≤ mo ∧ mo ≤ 9 ∧ atI [D.int 1, D.int 3, D.int 9] (r4 : Int) = some (.int mo) := by
    have : r4 = 0 ∨ r4 = 1 ∨ r4 = 2 := by omega
    rcases this with rfl | rfl | rfl
    · exact ⟨1, by decide, by decide, rfl⟩
    · exact ⟨3, by decide, by decide, rfl⟩
    · exact ⟨9, by decide, by decide, rfl⟩
  try simp! only [hlt, he4]
  generalize hG : [MO.lst [D.int 0, D.int 0, D.int 1, D.int 2], _, _, _, _, _, _, _, _, _, _, _, _, _] = G
  have g11 : G[11]? = some (.lst (ar.map D.int)) := by rw [← hG]; rfl
  have g12 : G[12]? = some (.lst (ns.map D.str)) := by rw [← hG]; rfl
  have gl : G.length = 14 := by rw [← hG]; rfl
  clear hG
  refine ⟨⟨by omega, by omega⟩, ?_⟩
  refine lcGo_ind (fun items M' acc => ∃ (o : MO) (ss : List Sg) (j n : Nat), DiceO o ∧ items = rngD j n ∧ j + n = ar.length ∧ M' = M.set l o ++ G ∧ acc = ss.map Sg.d ∧
      ss.map Sg.nm = ns.take j ∧ (ss.map fun s => (s.ar : Int)) = ar.take j ∧ ∀ s ∈ ss, 1 ≤ s.wt ∧ s.wt ≤ 9) ?_ ?_ _ _ _ ⟨o4, [], 0, ar.length, ho4, by simp, by omega, rfl, rfl, rfl, rfl, fun s h => by cases h⟩
  · rintro x rest M' acc ⟨o, ss, j, n, ho, hi, hjn, rfl, rfl, hn, ha, hw⟩ ih
    refine ⟨trivial, ?_⟩
    cases n with
    | zero => rw [rngD_zero] at hi; cases hi
    | succ n =>
    rw [rngD_succ] at hi
    injection hi with hx hr
    subst hx hr
    obtain ⟨nm, hnm⟩ : ∃ nm, ns[j]? = some nm := ⟨_, List.getElem?_eq_getElem (by omega)⟩
    obtain ⟨a, haj⟩ : ∃ a, ar[j]? = some a := ⟨_, List.getElem?_eq_getElem (by omega)⟩
    have f1 : atI (ns.map D.str) (j : Int) = some (.str nm) := atI_nat (by rw [List.getElem?_map, hnm]; rfl)
    have f2 : atI (ar.map D.int) (j : Int) = some (.int a) := atI_nat (by rw [List.getElem?_map, haj]; rfl)
    have hma : a ∈ ar := List.mem_of_getElem? haj
    have hab : 0 ≤ a ∧ a ≤ 4 := by
      rw [hmem] at hma
      simp only [List.mem_cons] at hma
      rcases hma with rfl | rfl | rfl | rfl | h
      · decide
      · decide
      · decide
      · decide
      · exact hex a h
    try simp! only [hlt, g11, g12, f1, f2]
    refine use_off hlt ho (by omega) (by omega) fun wt o5 h5 ho5 => ?_
    try simp! only [hlt]
    have hjs : ss.length = j := by
      have := congrArg List.length hn
      rw [List.length_map, List.length_take] at this
      omega
    refine ⟨by omega, ih _ _ ⟨o5, ss ++ [⟨nm, a.toNat, 1 + wt⟩], j + 1, n, ho5, by rw [Int.natCast_add]; rfl, by omega, rfl, ?_, ?_, ?_, fun s hs => ?_⟩⟩
    · rw [List.map_append]
      congr 1
      show _ = [D.tup [.str nm, .int ((a.toNat : Nat) : Int), .int ((1 + wt : Nat) : Int)]]
      rw [show ((a.toNat : Nat) : Int) = a by omega, show ((1 + wt : Nat) : Int) = 1 + (wt : Int) by omega]
    · rw [List.map_append, hn, List.take_succ, hnm]
      rfl
    · rw [List.map_append, ha, List.take_succ, haj]
      show _ ++ [((a.toNat : Nat) : Int)] = _ ++ [a]
      rw [show ((a.toNat : Nat) : Int) = a by omega]
    · rcases List.mem_append.mp hs with h | h
      · exact hw s h
      · have : s = ⟨nm, a.toNat, 1 + wt⟩ := by simpa using h
        subst this
        show 1 ≤ 1 + wt ∧ 1 + wt ≤ 9
        omega
  · rintro M' acc ⟨o, ss, j, n, ho, hi, hjn, rfl, rfl, hn, ha, hw⟩
    have hn0 : n = 0 := by
      have := congrArg List.length hi
      rw [rngD_length] at this
      simpa using this.symm
    subst hn0
    rw [List.take_of_length_le (by omega)] at hn ha
    refine ⟨trivial, ?_⟩
    have hss : ss.length = ar.length := by have := congrArg List.length ha; simpa using this
    refine Done.list (okM_set hM (ho.ok _)) (by rw [List.append_assoc]; exact takeK (by simp)) (by simp) (by rw [getK0 rfl]; rfl) ?_ ?_
    · rw [okDs_iff]
      intro d hd
      obtain ⟨x, _, rfl⟩ := List.mem_map.mp hd
      rfl
    · have hw' : ∀ s ∈ ss, s.ar ≤ 4 := fun s hs => by
        have : (s.ar : Int) ∈ ar := by rw [← ha]; exact List.mem_map.mpr ⟨s, hs, rfl⟩
        rw [hmem] at this
        simp only [List.mem_cons] at this
        rcases this with h | h | h | h | h
        · omega
        · omega
        · omega
        · omega
        · have := hex _ h; omega
      have hhas : ∀ k : Nat, k ≤ 2 → ∃ s ∈ ss, s.ar = k := fun k hk => by
        have : (k : Int) ∈ ss.map fun s => (s.ar : Int) := by
          rw [ha, hmem]
          have : k = 0 ∨ k = 1 ∨ k = 2 := by omega
          rcases this with rfl | rfl | rfl <;> simp
        obtain ⟨s, hs, e⟩ := List.mem_map.mp this
        exact ⟨s, hs, by omega⟩
      exact q o ss ho ⟨fun s hs => hgood _ (by rw [← hn]; exact List.mem_map.mpr ⟨s, hs, rfl⟩), by rw [hn]; exact hnd, hw', hw, by omega, hhas⟩
end
def sp_free : DSp := fun ds M Q _ => ∃ (l : Nat), ds = [.loc l] ∧ Dice M l ∧ ∀ (o : MO) (vs : List Int), DiceO o → Free vs → Q (.loc M.length) (M.set l o ++ [.lst (vs.map D.int)])
section
variable {P : Program} {w : World} {K : PySem.W.Frag} {mg : Str → Option Value} {base : Heap}
theorem fn_free (T : Top K mg) : DFn P w K mg base CX0 4 "_law_free" ["_law_d"] sp_free := by
  have F__law_off := fn_off (P := P) (w := w) (base := base) T
  obtain ⟨fd, F⟩ := T.d__law_free
  have sc := sc__law_free
  refine DFn.ofD (k := 3) F T.g__law_free (FunD.bindsN F fun _ _ _ _ _ _ us hl => match us, hl with | [_], _ => rfl) sc ?len ⟨_, fun cdv A outer s H E m0 hr => (
      (dss_cons (ds_set 1 sc.nd (de_ix hr (de_lst (da_cons (de_lst da_nil) (da_cons (de_lst (da_cons de_int da_nil)) (da_cons (de_lst (da_cons de_int (da_cons de_int da_nil))) (da_cons (de_lst (da_cons de_int (da_cons de_int (da_cons de_int da_nil)))) (da_cons (de_lst (da_cons de_int (da_cons de_int (da_cons de_int (da_cons de_int da_nil))))) da_nil)))))) (de_call F__law_off (hr.mono (by omega)) pass0 (da_cons (de_var 0) (da_cons de_int da_nil)))))
      (dss_one (ds_ret (de_ct T.n_list (dc_list rfl) b_list (da_cons (de_var 1) da_nil)))))), ?_⟩
  case len =>
    rintro ds M Q E ⟨l, rfl, _⟩
    rfl
  rintro ds M Qd Ed ⟨l, rfl, hd, q⟩ hM
  try simp! only [eq_self]
  have hlt := hd.lt
  refine use_offA hd (by omega) (by omega) fun r1 o1 h11 ho1 => ?_
  obtain ⟨vs, ti, hv, he, ht⟩ : ∃ (vs : List Int) (ti : Nat), Free vs ∧ atI [D.loc (List.length M), D.loc (List.length M + 1), D.loc (List.length M + 2), D.loc (List.length M + 3), D.loc (List.length M + 4)] (r1 : Int) = some (.loc (List.length M + ti)) ∧
      ∀ T, [MO.lst [], MO.lst [.int 0], MO.lst [.int 0, .int 1], MO.lst [.int 999, .int 0, .int 7], MO.lst [.int 5, .int 998, .int 31, .int 2], T][ti]? = some (.lst (vs.map D.int)) := by
    have : r1 = 0 ∨ r1 = 1 ∨ r1 = 2 ∨ r1 = 3 ∨ r1 = 4 := by omega
    rcases this with rfl | rfl | rfl | rfl | rfl
    · exact ⟨[], 0, ⟨by decide, by decide, by decide⟩, rfl, fun _ => rfl⟩
    · exact ⟨[0], 1, ⟨by decide, by decide, by decide⟩, rfl, fun _ => rfl⟩
    · exact ⟨[0, 1], 2, ⟨by decide, by decide, by decide⟩, rfl, fun _ => rfl⟩
    · exact ⟨[999, 0, 7], 3, ⟨by decide, by decide, by decide⟩, rfl, fun _ => rfl⟩
    · exact ⟨[5, 998, 31, 2], 4, ⟨by decide, by decide, by decide⟩, rfl, fun _ => rfl⟩
  try simp! only [hlt, he, ht]
  refine Done.list (okM_set hM (ho1.ok _)) (takeK (by simp)) (Nat.le_add_right _ _) (by rw [getK (by simp)]; rfl) ?_ (q _ _ ho1 hv)
  rw [okDs_iff]
  intro d hd
  obtain ⟨x, _, rfl⟩ := List.mem_map.mp hd
  rfl
def sp_term (n : Nat) : DSp := fun ds M Q _ => ∃ (l a b k : Nat) (ss : List Sg) (vs : List Int), ds = [.loc l, .loc a, .int k, .loc b] ∧ k < n ∧ n ≤ 4 ∧ Dice M l ∧ l ≠ a ∧ l ≠ b ∧ M[a]? = some (.lst (ss.map Sg.d)) ∧ M[b]? = some (.lst (vs.map D.int)) ∧ GoodSigns ss ∧ vs.length ≤ 4 ∧
  ∀ (o : MO) (t : Tm), DiceO o → Over ss vs t → t.deep ≤ k + 1 → Q t.d (M.set l o)
theorem fn_term (T : Top K mg) (n : Nat) : DFn P w K mg base CX0 (3 + n) "_law_term" ["_law_d", "_law_signs_here", "_law_deep", "_law_free_here"] (sp_term n) := by
  induction n with
  | zero =>
    obtain ⟨fd, F⟩ := T.d__law_term
    refine (DFn.nothing F T.g__law_term (FunD.bindsN F fun _ _ _ _ _ _ us hl => match us, hl with | [_, _, _, _], _ => rfl)).imp ?_
    rintro ds M Q E ⟨l, a, b, k, ss, vs, rfl, h, _⟩
    omega
  | succ n ih =>
  have F__law_off := fn_off (P := P) (w := w) (base := base) T
  have F__law_term := ih
  obtain ⟨fd, F⟩ := T.d__law_term
  have sc := sc__law_term
  refine DFn.ofD (k := (3 + n)) F T.g__law_term (FunD.bindsN F fun _ _ _ _ _ _ us hl => match us, hl with | [_, _, _, _], _ => rfl) sc ?len ⟨_, fun cdv A outer s H E m0 hr => (
      (dss_cons (ds_if (dt_w (dw_and (dt_cmp (dop_ne hr) (de_var 3) (de_lst da_nil)) (dw_and1 (dt_cmp (dop_eq hr) (de_call F__law_off (hr.mono (by omega)) pass0 (da_cons (de_var 0) (da_cons de_int da_nil))) de_int)))) (dss_one (ds_ret (de_ix hr (de_var 3) (de_call F__law_off (hr.mono (by omega)) pass0 (da_cons (de_var 0) (da_cons (de_cb T.n_len dc_len b_len (da_cons (de_var 3) da_nil)) da_nil)))))) dss_nil)
      (dss_cons (ds_set 4 sc.nd (de_var 1))
      (dss_cons (ds_if (dt_cmp (dop_eq hr) (de_var 2) de_int) (dss_one (ds_setLc 4 5 (own := [("_law_sign", 5)]) rfl sc.nd (di_seq (de_var 1)) (show blkC ["_law_d", "_law_signs_here", "_law_deep", "_law_free_here", "_law_some", "_law_sign", "_law_k"] (defScope s__law_term) _ [("_law_sign", 5)] = true by decide +kernel) (by decide) (sw_true rfl rfl rfl (by decide +kernel)) (fun _ _ _ _ _ => pg_name (i := 5) sc.nd rfl (by first | exact Or.inl rfl | exact Or.inr rfl)) (fun _ _ _ _ _ => (dts_one (dt_cmp (dop_eq hr) (de_ix hr (de_var 5) de_int) de_int))) (fun _ _ _ _ _ => (de_var 5)))) dss_nil)
      (dss_cons (ds_set 5 sc.nd (de_ix hr (de_var 4) (de_call F__law_off (hr.mono (by omega)) pass0 (da_cons (de_var 0) (da_cons (de_cb T.n_len dc_len b_len (da_cons (de_var 4) da_nil)) da_nil)))))
      (dss_one (ds_ret (de_bin dop_add (de_tup (da_cons (de_ix hr (de_var 5) de_int) da_nil)) (de_ct T.n_tuple dc_tuple b_tuple (da_cons (de_lc 6 (own := [("_law_k", 6)]) rfl sc.nd (di_rng1 T.n_range (da_cons (de_ix hr (de_var 5) de_int) da_nil)) (show blkC ["_law_d", "_law_signs_here", "_law_deep", "_law_free_here", "_law_some", "_law_sign", "_law_k"] (defScope s__law_term) _ [("_law_k", 6)] = true by decide +kernel) (by decide) (fun _ _ _ _ _ => pg_name (i := 6) sc.nd rfl (by first | exact Or.inl rfl | exact Or.inr rfl)) (fun _ _ _ _ _ => dts_nil) (fun _ _ _ _ _ => (de_call F__law_term (hr.mono (by omega)) pass0 (da_cons (de_var 0) (da_cons (de_var 1) (da_cons (de_bin dop_sub (de_var 2) de_int) (da_cons (de_var 3) da_nil))))))) da_nil)))))))))), ?_⟩
  case len =>
    rintro ds M Q E ⟨l, a, b, k, ss, vs, rfl, _⟩
    rfl
  rintro ds M Qd Ed ⟨l, a, b, k, ss, vs, rfl, hk, hn, hd, hla, hlb, ha, hb, hss, hvs, q⟩ hM
  have hlt := hd.lt
  have ha' := (List.getElem?_eq_some_iff.mp ha).1
  have hb' := (List.getElem?_eq_some_iff.mp hb).1
  have hget : ∀ (o : MO) (G : Mem), (M.set l o ++ G)[a]? = some (.lst (ss.map Sg.d)) ∧ (M.set l o ++ G)[b]? = some (.lst (vs.map D.int)) := fun o G => by
    rw [getL (by simpa using ha'), getL (by simpa using hb'), List.getElem?_set_ne hla, List.getElem?_set_ne hlb]
    exact ⟨ha, hb⟩
  have hself : ∃ o, DiceO o ∧ M.set l o = M := by obtain ⟨o, h1, _, h2⟩ := hd.self; exact ⟨o, h1, h2⟩
  have hsub0 : ∀ s ∈ ss, s ∈ ss ∧ (0 < k → k = 0 → s.ar = 0) := fun s h => ⟨h, fun h1 h2 => by omega⟩
  refine cut1 (W := fun r' M' => ∃ o G, DiceO o ∧ r' = [some (.loc l), some (.loc a), some (.int k), some (.loc b), none, none, none] ∧ M' = M.set l o ++ G) ?_ fun R hR => ?_
  · rintro r' M' ⟨o, G, ho, rfl, rfl⟩
    refine cut2 (W := fun r' M' => ∃ o G c sub, DiceO o ∧ r' = [some (.loc l), some (.loc a), some (.int k), some (.loc b), some (.loc c), none, none] ∧ M' = M.set l o ++ G ∧ (∀ o', (M.set l o' ++ G)[c]? = some (.lst (sub.map Sg.d))) ∧
      (∀ s ∈ sub, s ∈ ss ∧ (k = 0 → s.ar = 0)) ∧ sub.length ≤ 6 ∧ sub ≠ []) ?_ fun R hR => ?_
    · rintro r' M' ⟨o, G, c, sub, ho, rfl, rfl, hc, hsub, hsl, hsn⟩
      have hs0 : 0 < sub.length := List.length_pos_iff.mpr hsn
      try simp! only [hc]
      refine use_off hlt ho (by omega) (by omega) fun r o1 h1 ho1 => ?_
      obtain ⟨s, hs⟩ : ∃ s, sub[r]? = some s := ⟨_, List.getElem?_eq_getElem (by omega)⟩
      have hms := hsub s (List.mem_of_getElem? hs)
      have har := hss.ar s hms.1
      have f1 : atI (sub.map Sg.d) (r : Int) = some (.tup [.str s.nm, .int s.ar, .int s.wt]) := atI_nat (by rw [List.getElem?_map, hs]; rfl)
      try simp! only [hc, f1]
      refine ⟨⟨by omega, by omega⟩, ?_⟩
      refine lcGo_ind (fun items M' acc => ∃ (o : MO) (ts : List Tm) (j m : Nat), DiceO o ∧ items = rngD j m ∧ j + m = s.ar ∧ M' = M.set l o ++ G ∧ acc = ts.map Tm.d ∧ ts.length = j ∧ ∀ t ∈ ts, Over ss vs t ∧ t.deep ≤ k) ?_ ?_ _ _ _ ⟨o1, [], 0, s.ar, ho1, by simp, by omega, rfl, rfl, rfl, fun t h => by cases h⟩
      · rintro x rest M' acc ⟨o, ts, j, m, ho, hi, hjn, rfl, rfl, htl, hts⟩ ih
        refine ⟨trivial, ?_⟩
        cases m with
        | zero => rw [rngD_zero] at hi; cases hi
        | succ m =>
        rw [rngD_succ] at hi
        injection hi with hx hr
        subst hx hr
        have hk0 : k ≠ 0 := fun h => by have := hms.2 h; omega
        try simp! only [eq_self]
        refine ⟨l, a, b, k - 1, ss, vs, by rw [show ((k - 1 : Nat) : Int) = (k : Int) - 1 by omega], by omega, by omega, ⟨o, by rw [getL (by simpa using hlt)]; simp [hlt], ho⟩, hla, hlb, (hget o G).1, (hget o G).2, hss, hvs, fun o2 t ho2 ht htd => ?_⟩
        try simp! only [hlt]
        refine ⟨by omega, ih _ _ ⟨o2, ts ++ [t], j + 1, m, ho2, by rw [Int.natCast_add]; rfl, by omega, rfl, by rw [List.map_append]; rfl, by simp; omega, fun t' h' => ?_⟩⟩
        rcases List.mem_append.mp h' with h | h
        · exact hts _ h
        · have : t' = t := by simpa using h
          subst this
          exact ⟨ht, by omega⟩
      · rintro M' acc ⟨o, ts, j, m, ho, hi, hjn, rfl, rfl, htl, hts⟩
        have hn0 : m = 0 := by
          have := congrArg List.length hi
          rw [rngD_length] at this
          simpa using this.symm
        subst hn0
        refine ⟨trivial, ?_⟩
        try simp! only [eq_self]
        have hd' : (Tm.app s.nm ts).d = D.tup (.str s.nm :: ts.map Tm.d) := Tm.d_app ..
        refine ⟨by omega, Done.old (okM_set hM (ho.ok _)) (takeK (by simp)) (by rw [← hd']; exact Tm.ok _ _) ?_⟩
        rw [← hd']
        refine q _ _ ho (.app hms.1 (by omega) fun t ht => (hts t ht).1) ?_
        rw [Tm.deep_app]
        have := Tm.deeps_le (n := k) fun t ht => (hts t ht).2
        omega
    · try simp! only [(hget o G).1]
      by_cases hk0 : k = 0
      · rw [decide_eq_true (by omega)]
        refine lcGo_ind (fun items M' acc => ∃ p s : List Sg, ss = p ++ s ∧ items = s.map Sg.d ∧ M' = M.set l o ++ G ∧ acc = (p.filter fun s => s.ar == 0).map Sg.d) ?_ ?_ _ _ _ ⟨[], ss, rfl, rfl, rfl, rfl⟩
        · rintro x rest M' acc ⟨p, s, hps, hi, rfl, rfl⟩ ih
          refine ⟨(hget o G).1, ?_⟩
          cases s with
          | nil => cases hi
          | cons g s =>
          simp only [List.map_cons] at hi
          injection hi with hx hr
          subst hx hr
          have hg : g.d = .tup [.str g.nm, .int g.ar, .int g.wt] := rfl
          try simp! only [hg]
          have hpl : (List.filter (fun s => s.ar == 0) p).length < 16777216 := by
            have h1 := List.length_filter_le (fun s => s.ar == 0) p
            have h2 := hss.len
            rw [hps, List.length_append] at h2
            omega
          by_cases h0 : g.ar = 0
          · rw [decide_eq_true (by omega)]
            refine ⟨hpl, ih _ _ ⟨p ++ [g], s, by rw [hps, List.append_assoc]; rfl, rfl, rfl, ?_⟩⟩
            have : (g.ar == 0) = true := by rw [h0]; rfl
            rw [List.filter_append, List.map_append, List.filter_cons, this]
            rfl
          · rw [decide_eq_false (by omega)]
            refine ih _ _ ⟨p ++ [g], s, by rw [hps, List.append_assoc]; rfl, rfl, rfl, ?_⟩
            have : (g.ar == 0) = false := by simpa using h0
            rw [List.filter_append, List.map_append, List.filter_cons, this]
            simp
        · rintro M' acc ⟨p, s, hps, hi, rfl, rfl⟩
          have hsn : s = [] := by cases s with
            | nil => rfl
            | cons _ _ => cases hi
          subst hsn
          rw [List.append_nil] at hps
          subst hps
          refine ⟨(hget o G).1, ?_⟩
          refine hR _ _ ⟨o, G ++ [MO.lst ((ss.filter fun s => s.ar == 0).map Sg.d)], (M.set l o ++ G).length, ss.filter fun s => s.ar == 0, ho, ?_, by rw [List.append_assoc], fun o' => ?_, fun s h => ?_, ?_, ?_⟩
          · simp
          · rw [← List.append_assoc, getK0 (by simp)]
            rfl
          · rw [List.mem_filter] at h
            exact ⟨h.1, fun _ => by simpa using h.2⟩
          · have := List.length_filter_le (fun s : Sg => s.ar == 0) ss
            have := hss.len
            omega
          · obtain ⟨s, h1, h2⟩ := hss.has 0 (by omega)
            intro h
            have : s ∈ ss.filter fun s => s.ar == 0 := List.mem_filter.mpr ⟨h1, by simp [h2]⟩
            rw [h] at this
            cases this
      · rw [decide_eq_false (by omega)]
        refine hR _ _ ⟨o, G, a, ss, ho, rfl, rfl, fun o' => (hget o' G).1, fun s h => ⟨h, fun h' => absurd h' hk0⟩, by have := hss.len; omega, fun h => ?_⟩
        have := hss.len
        rw [h] at this
        simp at this
  · try simp! only [ha, hb, getL hb', getL ha', hb, ha]
    have hb1 : (M ++ [MO.lst []])[b]? = some (.lst (vs.map D.int)) := by rw [getL hb']; exact hb
    refine qNe_ll hb1 (getK0 rfl) pls_ints (by rfl) (.inl deps_ints) fun nb hnb => ?_
    obtain ⟨o0, ho0, he0⟩ := hself
    cases nb with
    | false =>
      try simp! only [eq_self]
      exact hR _ _ ⟨o0, [MO.lst []], ho0, rfl, by rw [he0]⟩
    | true =>
      try simp! only [eq_self]
      have hv0 : vs ≠ [] := fun h => by
        have := hnb.mp rfl
        rw [h] at this
        exact this rfl
      have hv1 : 0 < vs.length := List.length_pos_iff.mpr hv0
      refine use_offA hd (by omega) (by omega) fun r1 o1 h1 ho1 => ?_
      try simp! only [(hget o1 [MO.lst []]).2]
      by_cases h0 : (r1 : Int) = 0
      · rw [decide_eq_true h0]
        try simp! only [(hget o1 [MO.lst []]).2]
        refine use_off hlt ho1 (by omega) (by omega) fun r2 o2 h2 ho2 => ?_
        obtain ⟨v, hv⟩ : ∃ v, vs[r2]? = some v := ⟨_, List.getElem?_eq_getElem (by omega)⟩
        have f1 : atI (vs.map D.int) (r2 : Int) = some (.int v) := atI_nat (by rw [List.getElem?_map, hv]; rfl)
        try simp! only [(hget o2 [MO.lst []]).2, f1]
        refine Done.old (okM_set hM (ho2.ok _)) (takeK (by simp)) rfl ?_
        have := q o2 (.var v) ho2 (.var (List.mem_of_getElem? hv)) (by rw [Tm.deep_var]; omega)
        rwa [Tm.d_var] at this
      · rw [decide_eq_false h0]
        exact hR _ _ ⟨o1, [MO.lst []], ho1, rfl, rfl⟩
end
section
def vtxt (i : Int) : Str := Str.empty ++ Str.ofString "?" ++ (toString i : Str)
mutual
def pcs : Tm → List Str
  | .var i => [vtxt i]
  | .app f ts => f :: brk ts
def brk : List Tm → List Str
  | [] => []
  | t :: ts => Str.ofString "(" :: (pcs t ++ rst ts)
def rst : List Tm → List Str
  | [] => [Str.ofString ")"]
  | t :: ts => Str.ofString "," :: (pcs t ++ rst ts)
end
/-- the text -/
def shT (t : Tm) : Str := Txt.join (Str.ofString "") (pcs t)
/-- what waits to be written: a text or a term -/
theorem len_sizes : ∀ ts : List Tm, ts.length ≤ Tm.sizes ts
  | [] => Nat.zero_le _
  | a :: ts => by
    have h := len_sizes ts
    have := a.size_pos
    rw [Tm.sizes_cons, List.length_cons]
    omega
end
section
/-- a term whose text can be written -/
structure TxOk (t : Tm) : Prop where
  z : t.size ≤ 1000
  nm : t.Nm fun f => f.length ≤ 16
  bl : ∀ b ∈ t.flat, 0 ≤ b ∧ b ≤ 999
theorem fig_len : ∀ i : Nat, i < 1000 → (toString (i : Int) : Str).length ≤ 3 := by decide +kernel
theorem vtxt_len {i : Int} (h0 : 0 ≤ i) (h1 : i ≤ 999) : (vtxt i).length ≤ 4 := by
  obtain ⟨n, rfl⟩ : ∃ n : Nat, i = (n : Int) := ⟨i.toNat, by omega⟩
  have := fig_len n (by omega)
  have e : ∀ a b : Str, (a ++ b).length = a.length + b.length := fun a b => Array.size_append ..
  unfold vtxt
  rw [e, e]
  have h2 : Str.empty.length = 0 := rfl
  have h3 : (Str.ofString "?").length = 1 := rfl
  omega
end
section
variable {P : Program} {w : World} {K : PySem.W.Frag} {mg : Str → Option Value} {base : Heap}
theorem str_len (a b : Str) : (a ++ b).length = a.length + b.length := Array.size_append ..
theorem join_len : ∀ l : List Str, (Txt.join (Str.ofString "") l).length = (l.map fun x => x.length).sum
  | [] => by rw [TL.join_eq]; rfl
  | [x] => by rw [TL.join_eq]; simp [Str.join]
  | x :: y :: l => by
    have ih := join_len (y :: l)
    rw [TL.join_eq] at ih ⊢
    have e : Str.join (Str.ofString "") (x :: y :: l) = x ++ Str.ofString "" ++ Str.join (Str.ofString "") (y :: l) := rfl
    rw [e, str_len, str_len, ih]
    have : (Str.ofString "").length = 0 := rfl
    simp only [List.map_cons, List.sum_cons]
    omega
mutual
theorem pcs_len : ∀ (t : Tm), t.Nm (fun f => f.length ≤ 16) → (∀ b ∈ t.flat, 0 ≤ b ∧ b ≤ 999) → ((pcs t).map fun x => x.length).sum + 1 ≤ 20 * t.size
  | .var i, _, h => by
    obtain ⟨h0, h1⟩ := h i (by rw [Tm.flat_var]; exact List.mem_singleton.mpr rfl)
    have := vtxt_len h0 h1
    unfold pcs
    rw [Tm.size_var]
    simp
    omega
  | .app f ts, hn, hb => by
    have h1 := brk_len ts (fun t ht => hn.arg t ht) fun t ht b hb' => hb b (by rw [Tm.flat_app]; exact flats_mem ht hb')
    have h2 : f.length ≤ 16 := hn.hd
    unfold pcs
    rw [List.map_cons, List.sum_cons, Tm.size_app]
    omega
theorem brk_len : ∀ (ts : List Tm), (∀ t ∈ ts, t.Nm (fun f => f.length ≤ 16)) → (∀ t ∈ ts, ∀ b ∈ t.flat, 0 ≤ b ∧ b ≤ 999) → ((brk ts).map fun x => x.length).sum ≤ 1 + 20 * Tm.sizes ts
  | [], _, _ => by unfold brk; simp
  | t :: ts, hn, hb => by
    have h1 := pcs_len t (hn t (List.mem_cons_self ..)) (hb t (List.mem_cons_self ..))
    have h2 := rst_len ts (fun u hu => hn u (List.mem_cons_of_mem _ hu)) fun u hu => hb u (List.mem_cons_of_mem _ hu)
    have e : (Str.ofString "(").length = 1 := rfl
    have hp := t.size_pos
    unfold brk
    rw [List.map_cons, List.sum_cons, List.map_append, List.sum_append, Tm.sizes_cons]
    omega
theorem rst_len : ∀ (ts : List Tm), (∀ t ∈ ts, t.Nm (fun f => f.length ≤ 16)) → (∀ t ∈ ts, ∀ b ∈ t.flat, 0 ≤ b ∧ b ≤ 999) → ((rst ts).map fun x => x.length).sum ≤ 1 + 20 * Tm.sizes ts
  | [], _, _ => by unfold rst; exact Nat.le_add_right 1 _
  | t :: ts, hn, hb => by
    have h1 := pcs_len t (hn t (List.mem_cons_self ..)) (hb t (List.mem_cons_self ..))
    have h2 := rst_len ts (fun u hu => hn u (List.mem_cons_of_mem _ hu)) fun u hu => hb u (List.mem_cons_of_mem _ hu)
    have e : (Str.ofString ",").length = 1 := rfl
    have hp := t.size_pos
    unfold rst
    rw [List.map_cons, List.sum_cons, List.map_append, List.sum_append, Tm.sizes_cons]
    omega
end
end
section
theorem shT_len {t : Tm} (h : TxOk t) : (shT t).length ≤ 20000 := by
  have h1 := pcs_len t h.nm h.bl
  have h2 := h.z
  unfold shT
  rw [join_len]
  omega
end
section
def StopC (c : Nat) : Prop := c < 97 ∧ ¬ (48 ≤ c ∧ c ≤ 57) ∧ c ≠ 40
def Stop (r : List Nat) : Prop := ∀ c, r.head? = some c → StopC c
theorem tlS_app (a b : Str) : tlS (a ++ b) = tlS a ++ tlS b := Array.toList_append ..
theorem join_tl : ∀ l : List Str, tlS (Txt.join (Str.ofString "") l) = l.flatMap tlS
  | [] => by rw [TL.join_eq]; rfl
  | [x] => by rw [TL.join_eq]; simp [Str.join]
  | x :: y :: l => by
    have ih := join_tl (y :: l)
    rw [TL.join_eq] at ih ⊢
    have e : Str.join (Str.ofString "") (x :: y :: l) = x ++ Str.ofString "" ++ Str.join (Str.ofString "") (y :: l) := rfl
    rw [e, tlS_app, tlS_app, ih]
    have : tlS (Str.ofString "") = [] := rfl
    rw [this, List.append_nil]
    rfl
def figs (i : Int) : List Nat := tlS ((toString i : String) : Str)
theorem fig_rng : ∀ i : Nat, i < 1000 → ∀ c ∈ figs (i : Int), 48 ≤ c ∧ c ≤ 57 := by decide +kernel
def unfig (l : List Nat) : Nat := l.foldl (fun a c => a * 10 + (c - 48)) 0
theorem fig_dec : ∀ i : Nat, i < 1000 → unfig (figs (i : Int)) = i := by decide +kernel
def cs (t : Tm) : List Nat := (pcs t).flatMap tlS
def cbrk (ts : List Tm) : List Nat := (brk ts).flatMap tlS
def crst (ts : List Tm) : List Nat := (rst ts).flatMap tlS
theorem cs_var (i : Int) : cs (.var i) = 63 :: figs i := by
  unfold cs
  rw [pcs, List.flatMap_cons, List.flatMap_nil, List.append_nil]
  unfold vtxt
  rw [tlS_app, tlS_app]
  rfl
theorem cs_app (f : Str) (ts : List Tm) : cs (.app f ts) = tlS f ++ cbrk ts := by
  unfold cs
  rw [pcs, List.flatMap_cons]
  rfl
theorem cbrk_nil : cbrk [] = [] := by unfold cbrk; rw [brk]; rfl
theorem cbrk_cons (t : Tm) (ts : List Tm) : cbrk (t :: ts) = 40 :: (cs t ++ crst ts) := by
  unfold cbrk
  rw [brk, List.flatMap_cons, List.flatMap_append]
  rfl
theorem crst_nil : crst [] = [41] := by unfold crst; rw [rst]; rfl
theorem crst_cons (t : Tm) (ts : List Tm) : crst (t :: ts) = 44 :: (cs t ++ crst ts) := by
  unfold crst
  rw [rst, List.flatMap_cons, List.flatMap_append]
  rfl
/-- a term that can be read back -/
def LetOk (t : Tm) : Prop := t.Nm GoodName ∧ ∀ b ∈ t.flat, 0 ≤ b ∧ b ≤ 999
theorem LetOk.arg {f : Str} {ts : List Tm} (h : LetOk (.app f ts)) : GoodName f ∧ ∀ t ∈ ts, LetOk t :=
  ⟨h.1.hd, fun t ht => ⟨h.1.arg t ht, fun b hb => h.2 b (by rw [Tm.flat_app]; exact flats_mem ht hb)⟩⟩
theorem stop_rst (ts : List Tm) (r : List Nat) : Stop (crst ts ++ r) := fun c hc => by
  cases ts with
  | nil => rw [crst_nil] at hc; cases hc; unfold StopC; omega
  | cons t ts => rw [crst_cons] at hc; cases hc; unfold StopC; omega
theorem stop_nil : Stop [] := fun c hc => by cases hc
theorem shT_cs (t : Tm) : tlS (shT t) = cs t := by unfold shT cs; rw [join_tl]
end
section
def letB (c : Nat) : Bool := decide (97 ≤ c) && decide (c ≤ 122)
def figB (c : Nat) : Bool := decide (48 ≤ c) && decide (c ≤ 57)
def mkS (l : List Nat) : Str := ⟨l.toArray⟩
theorem tlS_mk (l : List Nat) : tlS (mkS l) = l := by unfold tlS mkS; simp
theorem mk_tlS (x : Str) : mkS (tlS x) = x := by cases x; unfold tlS mkS; simp
def blankOf (w : List Nat) : Option Int := if (1 ≤ w.length ∧ w.length ≤ 3) ∧ (w.head? = some 48 → w = [48]) then some ((unfig w : Nat) : Int) else none
def nmB (w : List Nat) : Bool := decide (1 ≤ w.length) && decide (w.length ≤ 8)
theorem drop_len (p : Nat → Bool) (s : List Nat) : (s.dropWhile p).length ≤ s.length := (List.dropWhile_sublist p).length_le
theorem tail_lt {s : List Nat} {c : Nat} (h : s.head? = some c) : s.tail.length < s.length := by
  cases s with
  | nil => cases h
  | cons x s => exact Nat.lt_succ_self _
/-- the first blank or name without parts, and the names with a bracket on the way -/
def leaf (s : List Nat) (d : Nat) : Option (Tm × List Nat × List Str) :=
  if s.head? = some 63 then (blankOf (s.tail.takeWhile figB)).map fun i => (.var i, s.tail.dropWhile figB, [])
  else if nmB (s.takeWhile letB) then
    if h : (s.dropWhile letB).head? = some 40 then
      if d = 60 then none else (leaf (s.dropWhile letB).tail (d + 1)).map fun q => (q.1, q.2.1, mkS (s.takeWhile letB) :: q.2.2)
    else some (.app (mkS (s.takeWhile letB)) [], s.dropWhile letB, [])
  else none
termination_by s.length
decreasing_by exact Nat.lt_of_lt_of_le (tail_lt h) (drop_len _ _)
def pushN : List Str → List (Str × List Tm) → List (Str × List Tm)
  | [], st => st
  | f :: ns, st => pushN ns ((f, []) :: st)
/-- on with the parts -/
def runL (st : List (Str × List Tm)) (t : Tm) (s : List Nat) : Option Tm :=
  match st with
  | [] => if s = [] then some t else none
  | (f, ps) :: st' =>
    if 4 ≤ ps.length then none
    else if h : s.head? = some 41 then runL st' (.app f (ps ++ [t])) s.tail
    else if s.head? = some 44 then
      match leaf s.tail (st'.length + 1) with
      | none => none
      | some (t', s2, ns) => if h : s2.length < s.length then runL (pushN ns ((f, ps ++ [t]) :: st')) t' s2 else none
    else none
termination_by s.length
decreasing_by
  · exact tail_lt h
  · exact h
def readL (s : List Nat) : Option Tm := match leaf s 0 with
  | none => none
  | some (t, s2, ns) => runL (pushN ns []) t s2
theorem leaf_len {s : List Nat} {d : Nat} {t : Tm} {s2 : List Nat} {ns : List Str} (h : leaf s d = some (t, s2, ns)) : s2.length < s.length := by
  induction hn : s.length using Nat.strongRecOn generalizing s d t s2 ns with
  | ind n ih =>
    rw [leaf] at h
    split at h
    · next h1 =>
      obtain ⟨i, _, e⟩ := Option.map_eq_some_iff.mp h
      injection e with _ e
      injection e with e _
      have := drop_len figB s.tail
      have := tail_lt h1
      rw [← e]; omega
    · split at h
      · next h2 =>
        have hd := drop_len letB s
        have hsum : (s.takeWhile letB).length + (s.dropWhile letB).length = s.length := by
          rw [← List.length_append, List.takeWhile_append_dropWhile]
        have h1 : 1 ≤ (s.takeWhile letB).length := by
          unfold nmB at h2
          simp at h2
          exact h2.1
        split at h
        · next h3 =>
          split at h
          · cases h
          · obtain ⟨q, hq, e⟩ := Option.map_eq_some_iff.mp h
            obtain ⟨t', s', ns'⟩ := q
            injection e with _ e
            injection e with e _
            have ht := tail_lt h3
            have := ih _ (by omega) hq rfl
            have e : s' = s2 := e
            rw [← e]; omega
        · injection h with h
          injection h with _ h
          injection h with h _
          rw [← h]; omega
      · cases h
/-- leaf, and on -/
def goL (st : List (Str × List Tm)) (s : List Nat) : Option Tm := match leaf s st.length with
  | none => none
  | some (t, s2, ns) => runL (pushN ns st) t s2
theorem run_comma {f : Str} {ps : List Tm} {st : List (Str × List Tm)} {t : Tm} {s : List Nat} (hp : ps.length < 4) : runL ((f, ps) :: st) t (44 :: s) = goL ((f, ps ++ [t]) :: st) s := by
  rw [runL, if_neg (by omega), dif_neg (show ¬ (44 :: s).head? = some 41 from fun h => by cases h), if_pos (show (44 :: s).head? = some 44 from rfl)]
  unfold goL
  show (match leaf s (st.length + 1) with | none => none | some (t', s2, ns) => _) = (match leaf s (st.length + 1) with | none => none | some (t', s2, ns) => _)
  cases h : leaf s (st.length + 1) with
  | none => rfl
  | some q =>
    obtain ⟨t', s2, ns⟩ := q
    have := leaf_len h
    show (if h : s2.length < (44 :: s).length then _ else none) = _
    rw [dif_pos (by rw [List.length_cons]; omega)]
theorem run_close {f : Str} {ps : List Tm} {st : List (Str × List Tm)} {t : Tm} {s : List Nat} (hp : ps.length < 4) : runL ((f, ps) :: st) t (41 :: s) = runL st (.app f (ps ++ [t])) s := by
  rw [runL, if_neg (by omega), dif_pos (show (41 :: s).head? = some 41 from rfl)]
  rfl
/-- a term that is written and read -/
inductive Rdb : Tm → Prop where
  | var {i : Int} : 0 ≤ i ∧ i ≤ 999 → Rdb (.var i)
  | app {f : Str} {ts : List Tm} : GoodName f → ts.length ≤ 4 → (∀ t ∈ ts, Rdb t) → Rdb (.app f ts)
theorem takeW {p : Nat → Bool} : ∀ {a r : List Nat}, (∀ c ∈ a, p c = true) → (∀ c, r.head? = some c → p c = false) → (a ++ r).takeWhile p = a ∧ (a ++ r).dropWhile p = r
  | [], r, _, hr => by
    cases r with
    | nil => exact ⟨rfl, rfl⟩
    | cons c r =>
      have := hr c rfl
      rw [List.nil_append, List.takeWhile_cons, List.dropWhile_cons, this]
      exact ⟨rfl, rfl⟩
  | c :: a, r, ha, hr => by
    have h1 := ha c (List.mem_cons_self ..)
    obtain ⟨e1, e2⟩ := takeW (a := a) (r := r) (fun x hx => ha x (List.mem_cons_of_mem _ hx)) hr
    rw [List.cons_append, List.takeWhile_cons, List.dropWhile_cons, h1]
    exact ⟨by rw [if_pos rfl, e1], by rw [if_pos rfl, e2]⟩
theorem blank_figs : ∀ i : Nat, i < 1000 → blankOf (figs (i : Int)) = some (i : Int) := by decide +kernel
theorem go_var {st : List (Str × List Tm)} {i : Int} {r : List Nat} (hi : 0 ≤ i ∧ i ≤ 999) (hr : Stop r) : goL st (cs (.var i) ++ r) = runL st (.var i) r := by
  obtain ⟨n, rfl⟩ : ∃ n : Nat, i = (n : Int) := ⟨i.toNat, by omega⟩
  have e : cs (.var (n : Int)) ++ r = 63 :: (figs (n : Int) ++ r) := by rw [cs_var]; rfl
  obtain ⟨e1, e2⟩ := takeW (p := figB) (a := figs (n : Int)) (r := r) (fun c hc => by have := fig_rng n (by omega) c hc; unfold figB; simp; omega) fun c hc => by have := (hr c hc).2.1; unfold figB; simp; omega
  rw [e]
  unfold goL
  rw [leaf, if_pos (show (63 :: (figs (n : Int) ++ r)).head? = some 63 from rfl)]
  show (match (blankOf ((figs (n : Int) ++ r).takeWhile figB)).map (fun i => ((Tm.var i, (figs (n : Int) ++ r).dropWhile figB, []) : Tm × List Nat × List Str)) with | none => none | some (t, s2, ns) => runL (pushN ns st) t s2) = _
  rw [e1, e2, blank_figs n (by omega)]
  rfl
theorem let_name {f : Str} (hf : GoodName f) : (∀ c ∈ tlS f, letB c = true) ∧ nmB (tlS f) = true ∧ (tlS f ++ []).head? ≠ some 63 := by
  obtain ⟨h1, h2, h3⟩ := hf
  refine ⟨fun c hc => by have := h3 c hc; unfold letB; simp; omega, by unfold nmB; simp; omega, fun h => ?_⟩
  rw [List.append_nil] at h
  have := h3 63 (List.mem_of_mem_head? h)
  omega
theorem name_head {f : Str} (hf : GoodName f) (r : List Nat) : ¬ (tlS f ++ r).head? = some 63 := by
  cases e : tlS f with
  | nil => have := hf.1; rw [e] at this; simp at this
  | cons c l =>
    intro h
    have h : c = 63 := by injection h
    have := hf.2.2 c (by rw [e]; exact List.mem_cons_self ..)
    omega
theorem go_leaf {st : List (Str × List Tm)} {f : Str} {r : List Nat} (hf : GoodName f) (hr : Stop r) : goL st (tlS f ++ r) = runL st (.app f []) r := by
  obtain ⟨e1, e2⟩ := takeW (p := letB) (a := tlS f) (r := r) (let_name hf).1 fun c hc => by have := (hr c hc).1; unfold letB; simp; omega
  unfold goL
  rw [leaf, if_neg (name_head hf r), e1, e2, if_pos (let_name hf).2.1, dif_neg (fun h => (hr 40 h).2.2 rfl), mk_tlS]
  rfl
theorem go_open {st : List (Str × List Tm)} {f : Str} {r : List Nat} (hf : GoodName f) (hd : st.length ≠ 60) : goL st (tlS f ++ 40 :: r) = goL ((f, []) :: st) r := by
  obtain ⟨e1, e2⟩ := takeW (p := letB) (a := tlS f) (r := 40 :: r) (let_name hf).1 fun c hc => by
    have hc : 40 = c := by injection hc
    subst hc
    decide
  unfold goL
  rw [leaf, if_neg (name_head hf _), e1, e2, if_pos (let_name hf).2.1, dif_pos (show (40 :: r).head? = some 40 from rfl), if_neg hd, mk_tlS]
  show (match (leaf r (st.length + 1)).map (fun q => ((q.1, q.2.1, f :: q.2.2) : Tm × List Nat × List Str)) with | none => none | some (t, s2, ns) => runL (pushN ns st) t s2) = (match leaf r (st.length + 1) with | none => none | some (t, s2, ns) => runL (pushN ns ((f, []) :: st)) t s2)
  cases leaf r (st.length + 1) with
  | none => rfl
  | some q => rfl
theorem go_cs : ∀ t : Tm, ∀ (st : List (Str × List Tm)) (r : List Nat), Rdb t → st.length + t.deep ≤ 60 → Stop r → goL st (cs t ++ r) = runL st t r := by
  refine Tm.ind (fun i => ?_) (fun f ts ih => ?_)
  · intro st r ht _ hr
    cases ht with
    | var h => exact go_var h hr
  · intro st r ht hd hr
    cases ht with
    | app hf hl hts =>
    rw [cs_app]
    cases ts with
    | nil => rw [cbrk_nil, List.append_nil]; exact go_leaf hf hr
    | cons t ts =>
      rw [Tm.deep_app, Tm.deeps_cons] at hd
      have e : tlS f ++ cbrk (t :: ts) ++ r = tlS f ++ 40 :: (cs t ++ (crst ts ++ r)) := by rw [cbrk_cons]; simp
      rw [e, go_open hf (by omega), ih t (List.mem_cons_self ..) _ _ (hts t (List.mem_cons_self ..)) (by rw [List.length_cons]; omega) (stop_rst ts r)]
      have rest : ∀ (us ps : List Tm) (u : Tm), (∀ t ∈ us, ∀ (st : List (Str × List Tm)) (r : List Nat), Rdb t → st.length + t.deep ≤ 60 → Stop r → goL st (cs t ++ r) = runL st t r) → (∀ t ∈ us, Rdb t) → (∀ t ∈ us, st.length + 1 + t.deep ≤ 60) → ps.length + 1 + us.length ≤ 4 → runL ((f, ps) :: st) u (crst us ++ r) = runL st (.app f (ps ++ u :: us)) r := by
        intro us
        induction us with
        | nil =>
          intro ps u _ _ _ hl
          rw [crst_nil]
          exact run_close (by simp at hl; omega)
        | cons v us ih2 =>
          intro ps u hg hb hd hl
          rw [List.length_cons] at hl
          have e : crst (v :: us) ++ r = 44 :: (cs v ++ (crst us ++ r)) := by rw [crst_cons]; simp
          rw [e, run_comma (by omega), hg v (List.mem_cons_self ..) _ _ (hb v (List.mem_cons_self ..)) (by rw [List.length_cons]; exact hd v (List.mem_cons_self ..)) (stop_rst us r)]
          rw [ih2 (ps ++ [u]) v (fun t ht => hg t (List.mem_cons_of_mem _ ht)) (fun t ht => hb t (List.mem_cons_of_mem _ ht)) (fun t ht => hd t (List.mem_cons_of_mem _ ht)) (by rw [List.length_append, List.length_singleton]; omega)]
          rw [List.append_assoc]
          rfl
      refine rest ts [] t (fun u hu => ih u (List.mem_cons_of_mem _ hu)) (fun u hu => hts u (List.mem_cons_of_mem _ hu)) (fun u hu => ?_) (by rw [List.length_cons] at hl; simp; omega)
      have := Tm.deep_mem hu
      omega
/-- what is written is read to the same -/
theorem read_shown {t : Tm} (h : Rdb t) (hd : t.deep ≤ 60) : readL (tlS (shT t)) = some t := by
  have h1 := go_cs t [] [] h (by simpa using hd) stop_nil
  rw [List.append_nil, ← shT_cs] at h1
  have e : readL (tlS (shT t)) = goL [] (tlS (shT t)) := rfl
  rw [e, h1, runL, if_pos rfl]
end
section
variable {P : Program} {w : World} {K : PySem.W.Frag} {mg : Str → Option Value} {base : Heap}
def sp_behind : DSp := fun ds M Q _ => ∃ (x y : Str) (a : Nat) (p : Nat → Bool), ds = [.str x, .int a, .str y] ∧ x.length ≤ 100000 ∧ a ≤ x.length ∧ (∀ c, decide (c ∈ tlS y) = p c) ∧ Q (.int ((a + (((tlS x).drop a).takeWhile p).length : Nat))) M
theorem fn_behind (T : Top K mg) : DFn P w K mg base CX0 1 "_behind" ["text", "at", "signs"] sp_behind := by
  obtain ⟨fd, F⟩ := T.d__behind
  have sc := sc__behind
  refine DFn.ofD (k := 0) F T.g__behind (FunD.bindsN F fun _ _ _ _ _ _ us hl => match us, hl with | [_, _, _], _ => rfl) sc ?len ⟨_, fun cdv A outer s H E m0 hr => (
      (dss_cons (ds_while PassesOwn.never (dt_w (dw_and (dt_cmp dop_lt (de_var 1) (de_cb T.n_len dc_len b_len (da_cons (de_var 0) da_nil))) (dw_and1 (dt_cmp dop_inSg (de_ix hr (de_var 0) (de_var 1)) (de_var 2))))) (dss_one (ds_aug 1 sc.nd dip_add de_int)))
      (dss_one (ds_ret (de_var 1))))), ?_⟩
  case len =>
    rintro ds M Q E ⟨x, y, a, p, rfl, _⟩
    rfl
  rintro ds M Qd Ed ⟨x, y, a, p, rfl, hx, ha, hp, q⟩ hM
  have hxl : x.length = (tlS x).length := TL.len_tl x
  try simp! only [eq_self]
  refine while_ind (fun k r M' => ∃ b : Nat, k = x.length - b ∧ a ≤ b ∧ b ≤ x.length ∧ b + (((tlS x).drop b).takeWhile p).length = a + (((tlS x).drop a).takeWhile p).length ∧ r = [some (D.str x), some (D.int b), some (D.str y)] ∧ M' = M) _ ⟨a, rfl, Nat.le_refl _, ha, rfl, rfl, rfl⟩ ?_
  rintro k r M' ⟨b, rfl, hab, hb, he, rfl, rfl⟩
  by_cases hlt : b < x.length
  · have e1 : decide ((b : Int) < (x.length : Int)) = true := decide_eq_true (by omega)
    obtain ⟨c, hc⟩ : ∃ c, (tlS x)[b]? = some c := ⟨_, List.getElem?_eq_getElem (by omega)⟩
    have f1 : atI x.cps.toList (b : Int) = some c := atI_nat hc
    have hdrop : (tlS x).drop b = c :: (tlS x).drop (b + 1) := by
      rw [List.drop_eq_getElem_cons (by omega)]
      congr 1
      exact (List.getElem?_eq_some_iff.mp hc).2
    have hpc : decide (c ∈ y.cps.toList) = p c := hp c
    try simp! only [e1, f1, hpc]
    refine ⟨by omega, ?_⟩
    cases hq : p c with
    | true =>
      rw [hdrop, List.takeWhile_cons, hq, if_pos rfl, List.length_cons] at he
      dsimp only
      try simp! only [eq_self]
      exact ⟨by omega, x.length - (b + 1), by omega, b + 1, rfl, by omega, by omega, by omega, by rw [Int.natCast_add]; rfl, trivial⟩
    | false =>
      rw [hdrop, List.takeWhile_cons, hq] at he
      rw [← he] at q
      dsimp only
      try simp! only [eq_self]
      exact ⟨by omega, .same q⟩
  · have e1 : decide ((b : Int) < (x.length : Int)) = false := decide_eq_false (by omega)
    rw [List.drop_of_length_le (show (tlS x).length ≤ b by omega)] at he
    rw [← he] at q
    try simp! only [e1]
    exact ⟨by omega, .same q⟩
theorem figs_int : ∀ n : Nat, n < 1000 → intText? (mkS (figs (n : Int))) = some (n : Int) := by decide +kernel
theorem figs_1 : ∀ a : Nat, a < 10 → figs (a : Int) = [48 + a] := by decide +kernel
theorem figs_2 : ∀ a : Nat, a < 10 → ∀ b : Nat, b < 10 → a ≠ 0 → figs ((10 * a + b : Nat) : Int) = [48 + a, 48 + b] := by decide +kernel
theorem figs_3 : ∀ a : Nat, a < 10 → ∀ b : Nat, b < 10 → ∀ c : Nat, c < 10 → a ≠ 0 → figs ((100 * a + 10 * b + c : Nat) : Int) = [48 + a, 48 + b, 48 + c] := by decide +kernel
theorem blank_fig {w : List Nat} {i : Int} (hf : ∀ c ∈ w, figB c = true) (h : blankOf w = some i) : ∃ n : Nat, n < 1000 ∧ i = (n : Int) ∧ w = figs (n : Int) := by
  unfold blankOf at h
  split at h
  · next hc =>
    obtain ⟨⟨h1, h3⟩, h0⟩ := hc
    injection h with h
    have dg : ∀ c ∈ w, ∃ a, a < 10 ∧ c = 48 + a := fun c hc => by
      have := hf c hc
      unfold figB at this
      simp at this
      exact ⟨c - 48, by omega, by omega⟩
    have fin : ∀ n : Nat, n < 1000 → w = figs (n : Int) → ∃ n : Nat, n < 1000 ∧ i = (n : Int) ∧ w = figs (n : Int) := fun n hn e => ⟨n, hn, by rw [← h, e, fig_dec n hn], e⟩
    match w, h1, h3, h0, dg, fin with
    | [x], _, _, _, dg, fin =>
      obtain ⟨a, ha, rfl⟩ := dg x (by simp)
      exact fin a (by omega) (figs_1 a ha).symm
    | [x, y], _, _, h0, dg, fin =>
      obtain ⟨a, ha, rfl⟩ := dg x (by simp)
      obtain ⟨b, hb, rfl⟩ := dg y (by simp)
      exact fin (10 * a + b) (by omega) (figs_2 a ha b hb fun e => by subst e; have := h0 rfl; simp at this).symm
    | [x, y, z], _, _, h0, dg, fin =>
      obtain ⟨a, ha, rfl⟩ := dg x (by simp)
      obtain ⟨b, hb, rfl⟩ := dg y (by simp)
      obtain ⟨c, hc, rfl⟩ := dg z (by simp)
      exact fin (100 * a + 10 * b + c) (by omega) (figs_3 a ha b hb c hc fun e => by subst e; have := h0 rfl; simp at this).symm
  · cases h
def sp_blank : DSp := fun ds M Q E => ∃ x : Str, ds = [.str x] ∧ NameOk x ∧ x.length ≤ 100000 ∧ (∀ c ∈ tlS x, figB c = true) ∧ (∀ i, blankOf (tlS x) = some i → Q (.int i) M) ∧ (blankOf (tlS x) = none → ∀ X, E (He.ga K "BadText") (M ++ X))
theorem fn_blank (T : Top K mg) : DFn P w K mg base (L2.CX P w) 1 "_blank" ["figures"] (sp_blank (K := K)) := by
  obtain ⟨fd, F⟩ := T.d__blank
  have sc := sc__blank
  refine DFn.ofX (k := 0) F T.g__blank (FunD.bindsN F fun _ _ _ _ _ _ us hl => match us, hl with | [_], _ => rfl) sc ?len ⟨fun EdX => _, fun cdv A outer s H E m0 hr EdX tk po => (
      (dss_cons (ds_if (dt_not (dt_chain dop_le dop_le de_int (de_cb T.n_len dc_len b_len (da_cons (de_var 0) da_nil)) (de_gintE T.i_MOST_FIGURES))) (dss_one (ds_raise rfl tk T.e_BadText T.g_BadText)) dss_nil)
      (dss_cons (ds_if (dt_w (dw_and (dt_cmp (dop_eq hr) (de_ix hr (de_var 0) de_int) de_str) (dw_and1 (dt_cmp (dop_ne hr) (de_var 0) de_str)))) (dss_one (ds_raise rfl tk T.e_BadText T.g_BadText)) dss_nil)
      (dss_one (ds_ret (de_ct T.n_int dc_int b_int (da_cons (de_var 0) da_nil))))))), ?_⟩
  case len =>
    rintro ds M Q E ⟨x, rfl, _⟩
    rfl
  rintro ds M Qd Ed ⟨x, rfl, hn, hx, hf, q, qe⟩ hM
  have hxl : x.length = (tlS x).length := TL.len_tl x
  have bad : blankOf (tlS x) = none → DoneX M.length Ed (He.ga K "BadText") M := fun h => by
    have := qe h []
    rw [List.append_nil] at this
    exact .inl this
  have good : ∀ i, blankOf (tlS x) = some i → intText? x = some i ∧ x.length ≤ 640 ∧ Done M.length Qd (.int i) M := fun i h => by
    obtain ⟨n, hn, rfl, e⟩ := blank_fig hf h
    have e2 := figs_int n hn
    rw [← e, mk_tlS] at e2
    have h3 : (tlS x).length ≤ 3 := by
      unfold blankOf at h
      split at h
      · next hc => exact hc.1.2
      · cases h
    exact ⟨e2, by omega, .same (q _ h)⟩
  have hz : NameOk "0" := by unfold NameOk; decide +kernel
  by_cases h1 : 1 ≤ (tlS x).length
  · by_cases h3 : (tlS x).length ≤ 3
    · obtain ⟨c, l, hcl⟩ : ∃ c l, tlS x = c :: l := by
        cases e : tlS x with
        | nil => rw [e] at h1; simp at h1
        | cons c l => exact ⟨c, l, rfl⟩
      have f1 : atI x.cps.toList 0 = some c := by
        have : x.cps.toList = c :: l := hcl
        rw [this, atI_0]
      have cn : NameOk (⟨#[c]⟩ : Str) := by
        have hc : c < 1114112 := by
          have := hf c (by rw [hcl]; exact List.mem_cons_self ..)
          unfold figB at this
          simp at this
          omega
        unfold NameOk PyData.strOk
        simp [hc]
      have e48 : ((⟨#[c]⟩ : Str) = Str.ofString "0") ↔ c = 48 := by
        constructor
        · intro h
          have := congrArg tlS h
          have e : tlS (Str.ofString "0") = [48] := by decide +kernel
          rw [e] at this
          injection this
        · rintro rfl; rfl
      have ex0 : (x = Str.ofString "0") ↔ tlS x = [48] := by
        constructor
        · rintro rfl; decide +kernel
        · intro h
          rw [← mk_tlS x, h]
          rfl
      try simp! only [decide_eq_true (show (1 : Int) ≤ (x.length : Int) by omega), decide_eq_true (show (x.length : Int) ≤ 3 by omega), f1]
      refine ⟨by omega, by omega, ?_⟩
      refine qEq_ss cn hz fun b hb => ?_
      cases b with
      | true =>
        have hc := e48.mp (hb.mp rfl)
        try simp! only [eq_self]
        refine qNe_ss hn hz fun b2 hb2 => ?_
        cases b2 with
        | true =>
          try simp! only [eq_self]
          refine bad ?_
          unfold blankOf
          rw [if_neg]
          rintro ⟨_, h⟩
          exact hb2.mp rfl (ex0.mpr (h (by rw [hcl, hc]; rfl)))
        | false =>
          have hx0 : x = Str.ofString "0" := Classical.byContradiction fun h => by have := hb2.mpr h; cases this
          obtain ⟨g1, g2, g3⟩ := good (unfig (tlS x) : Nat) (by unfold blankOf; rw [if_pos ⟨⟨h1, h3⟩, fun _ => ex0.mp hx0⟩])
          try simp! only [g1]
          exact ⟨g2, g3⟩
      | false =>
        have hc : c ≠ 48 := fun h => by have := hb.mpr (e48.mpr h); cases this
        obtain ⟨g1, g2, g3⟩ := good (unfig (tlS x) : Nat) (by unfold blankOf; rw [if_pos ⟨⟨h1, h3⟩, fun h => by rw [hcl] at h; injection h with h; exact absurd h hc⟩])
        try simp! only [g1]
        exact ⟨g2, g3⟩
    · try simp! only [decide_eq_true (show (1 : Int) ≤ (x.length : Int) by omega), decide_eq_false (show ¬ (x.length : Int) ≤ 3 by omega)]
      refine ⟨by omega, bad ?_⟩
      unfold blankOf
      rw [if_neg]
      rintro ⟨⟨_, h⟩, _⟩
      exact h3 h
  · try simp! only [decide_eq_false (show ¬ (1 : Int) ≤ (x.length : Int) by omega)]
    refine ⟨by omega, bad ?_⟩
    unfold blankOf
    rw [if_neg]
    rintro ⟨⟨h, _⟩, _⟩
    exact h1 h
end
section
variable {P : Program} {w : World} {K : PySem.W.Frag} {mg : Str → Option Value} {base : Heap}
theorem a_le (c : Nat) : decide ((Str.cps (Str.ofString "a")).toList ≤ ([c] : List Nat)) = decide (97 ≤ c) := by
  have e : (Str.cps (Str.ofString "a")).toList = [97] := by decide +kernel
  rw [e]
  by_cases h : 97 ≤ c
  · rw [decide_eq_true h]
    refine decide_eq_true ?_
    show ([97] : List Nat) ≤ [c]
    rcases Nat.lt_or_eq_of_le h with h | h
    · exact List.le_of_lt (List.Lex.rel h)
    · rw [h]; exact List.le_refl _
  · rw [decide_eq_false h]
    refine decide_eq_false fun hh => ?_
    have h2 : ([c] : List Nat) < [97] := List.Lex.rel (by omega)
    exact absurd h2 (List.not_lt.mpr hh)
theorem z_le (c : Nat) : decide (([c] : List Nat) ≤ (Str.cps (Str.ofString "z")).toList) = decide (c ≤ 122) := by
  have e : (Str.cps (Str.ofString "z")).toList = [122] := by decide +kernel
  rw [e]
  by_cases h : c ≤ 122
  · rw [decide_eq_true h]
    refine decide_eq_true ?_
    show ([c] : List Nat) ≤ [122]
    rcases Nat.lt_or_eq_of_le h with h | h
    · exact List.le_of_lt (List.Lex.rel h)
    · rw [h]; exact List.le_refl _
  · rw [decide_eq_false h]
    refine decide_eq_false fun hh => ?_
    have h2 : ([122] : List Nat) < [c] := List.Lex.rel (by omega)
    exact absurd h2 (List.not_lt.mpr hh)
def azB (c : Nat) : Bool := decide (97 ≤ c) && decide (c ≤ 122)
def sp_isname : DSp := fun ds M Q _ => ∃ x : Str, ds = [.str x] ∧ x.length ≤ 10000 ∧ Q (.bl (nameB x)) M
theorem fn_isname (T : Top K mg) : DFn P w K mg base CX0 1 "is_name" ["text"] sp_isname := by
  obtain ⟨fd, F⟩ := T.d_is_name
  have sc := sc_is_name
  refine DFn.ofD (k := 0) F T.g_is_name (FunD.bindsN F fun _ _ _ _ _ _ us hl => match us, hl with | [_], _ => rfl) sc ?len ⟨_, fun cdv A outer s H E m0 hr => (
      (dss_one (ds_ret (de_and (de_chain dop_le dop_le de_int (de_cb T.n_len dc_len b_len (da_cons (de_var 0) da_nil)) (de_gintE T.i_LONGEST_NAME)) (de_one (de_cb T.n_all (dc_all rfl) b_all (da_cons (de_lc 1 (own := [("letter", 1)]) rfl sc.nd (di_seq (de_var 0)) (show blkC ["text", "letter"] (defScope s_is_name) _ [("letter", 1)] = true by decide +kernel) (by decide) (fun _ _ _ _ _ => pg_name (i := 1) sc.nd rfl (by first | exact Or.inl rfl | exact Or.inr rfl)) (fun _ _ _ _ _ => dts_nil) (fun _ _ _ _ _ => (de_chain dop_le dop_le de_str (de_var 1) de_str))) da_nil))))))), ?_⟩
  case len =>
    rintro ds M Q E ⟨x, rfl, _⟩
    rfl
  rintro ds M Qd Ed ⟨x, rfl, hx, q⟩ hM
  have hxl : x.length = (tlS x).length := TL.len_tl x
  by_cases h1 : 1 ≤ (tlS x).length
  · by_cases h8 : (tlS x).length ≤ 8
    · have e1 : decide (1 ≤ (x.length : Int)) = true := decide_eq_true (by omega)
      have e8 : decide ((x.length : Int) ≤ 8) = true := decide_eq_true (by omega)
      have en : nameB x = (tlS x).all azB := by
        unfold nameB
        rw [decide_eq_true h1, decide_eq_true h8]
        rfl
      rw [en] at q
      try simp! only [e1, e8]
      refine ⟨by omega, ?_⟩
      have hlen : x.cps.toList.length ≤ 8 := h8
      refine lcGo_ind (fun items M' acc => ∃ ps ss : List Nat, x.cps.toList = ps ++ ss ∧ items = ss.map (fun c => D.str ⟨#[c]⟩) ∧ M' = M ∧ acc = (ps.map azB).map D.bl) ?_ ?_ _ _ _ ⟨[], x.cps.toList, rfl, rfl, rfl, rfl⟩
      · rintro y rest M' acc ⟨ps, ss, hps, hi, rfl, rfl⟩ ih
        refine ⟨trivial, ?_⟩
        cases ss with
        | nil => cases hi
        | cons c ss =>
        simp only [List.map_cons] at hi
        injection hi with hy hr
        subst hy hr
        rw [hps, List.length_append] at hlen
        by_cases ha : 97 ≤ c
        · by_cases hz : c ≤ 122
          · try simp! only [a_le, z_le, decide_eq_true ha, decide_eq_true hz]
            refine ⟨by omega, ih _ _ ⟨ps ++ [c], ss, by rw [hps, List.append_assoc]; rfl, rfl, rfl, ?_⟩⟩
            rw [List.map_append, List.map_append]
            have : azB c = true := by unfold azB; rw [decide_eq_true ha, decide_eq_true hz]; rfl
            simp [this]
          · try simp! only [a_le, z_le, decide_eq_true ha, decide_eq_false hz]
            refine ⟨by omega, ih _ _ ⟨ps ++ [c], ss, by rw [hps, List.append_assoc]; rfl, rfl, rfl, ?_⟩⟩
            rw [List.map_append, List.map_append]
            have : azB c = false := by unfold azB; rw [decide_eq_true ha, decide_eq_false hz]; rfl
            simp [this]
        · try simp! only [a_le, decide_eq_false ha]
          refine ⟨by omega, ih _ _ ⟨ps ++ [c], ss, by rw [hps, List.append_assoc]; rfl, rfl, rfl, ?_⟩⟩
          rw [List.map_append, List.map_append]
          have : azB c = false := by unfold azB; rw [decide_eq_false ha]; rfl
          simp [this]
      · rintro M' acc ⟨ps, ss, hps, hi, rfl, rfl⟩
        have hsn : ss = [] := by cases ss with
          | nil => rfl
          | cons _ _ => cases hi
        subst hsn
        rw [List.append_nil] at hps
        refine ⟨trivial, ?_⟩
        try simp! only [eq_self]
        have : (ps.map azB).all id = (tlS x).all azB := by
          unfold tlS
          rw [hps, List.all_map]
          rfl
        rw [this]
        exact Done.old hM (takeK rfl) rfl q
    · have e1 : decide (1 ≤ (x.length : Int)) = true := decide_eq_true (by omega)
      have e8 : decide ((x.length : Int) ≤ 8) = false := decide_eq_false (by omega)
      have en : nameB x = false := by
        unfold nameB
        rw [decide_eq_true h1, decide_eq_false h8]
        rfl
      rw [en] at q
      try simp! only [e1, e8]
      exact ⟨by omega, .same q⟩
  · have e1 : decide (1 ≤ (x.length : Int)) = false := decide_eq_false (by omega)
    have en : nameB x = false := by
      unfold nameB
      rw [decide_eq_false h1]
      rfl
    rw [en] at q
    try simp! only [e1]
    exact ⟨by omega, .same q⟩
end
section
inductive StkE (M : Mem) : List Nat → List (Str × List Tm) → Prop where
  | nil : StkE M [] []
  | cons {l : Nat} {e : Str × List Tm} {ls : List Nat} {st : List (Str × List Tm)} : M[l]? = some (.lst (.str e.1 :: e.2.map Tm.d)) → StkE M ls st → StkE M (l :: ls) (e :: st)
/-- the open brackets, the last one first: their cells -/
structure Stk (M : Mem) (o : Nat) (ls : List Nat) (st : List (Str × List Tm)) : Prop where
  at_ : M[o]? = some (.lst (ls.reverse.map D.loc))
  nd : ls.Nodup
  no : o ∉ ls
  en : StkE M ls st
theorem StkE.len {M : Mem} {ls : List Nat} {st : List (Str × List Tm)} (h : StkE M ls st) : ls.length = st.length ∧ ∀ l ∈ ls, l < M.length := by
  induction h with
  | nil => exact ⟨rfl, fun l h => by cases h⟩
  | cons h _ ih =>
    refine ⟨by rw [List.length_cons, List.length_cons, ih.1], fun l hl => ?_⟩
    rcases List.mem_cons.mp hl with rfl | hl
    · exact (List.getElem?_eq_some_iff.mp h).1
    · exact ih.2 l hl
theorem StkE.same {M M' : Mem} {ls : List Nat} {st : List (Str × List Tm)} (h : StkE M ls st) : (∀ l ∈ ls, M'[l]? = M[l]?) → StkE M' ls st := by
  induction h with
  | nil => intro _; exact .nil
  | cons h _ ih =>
    intro hs
    exact .cons ((hs _ (List.mem_cons_self ..)).trans h) (ih fun l hl => hs l (List.mem_cons_of_mem _ hl))
theorem Stk.push {M : Mem} {o : Nat} {ls : List Nat} {st : List (Str × List Tm)} (h : Stk M o ls st) (f : Str) : Stk ((M ++ [MO.lst [D.str f]]).set o (MO.lst (ls.reverse.map D.loc ++ [D.loc M.length]))) o (M.length :: ls) ((f, []) :: st) := by
  have hol := (List.getElem?_eq_some_iff.mp h.at_).1
  have hl := h.en.len.2
  refine ⟨?_, List.nodup_cons.mpr ⟨fun hm => by have := hl _ hm; omega, h.nd⟩, fun hm => ?_, ?_⟩
  · rw [List.getElem?_set_self (by rw [List.length_append]; omega), List.reverse_cons, List.map_append]
    rfl
  · rcases List.mem_cons.mp hm with rfl | hm
    · omega
    · exact h.no hm
  · refine .cons ?_ (h.en.same fun l hm => ?_)
    · rw [List.getElem?_set_ne (by omega), getK0 rfl]
      rfl
    · rw [List.getElem?_set_ne (fun e => h.no (by rw [e]; exact hm)), getL (hl l hm)]
theorem take_same {M M' : Mem} (hl : M.length ≤ M'.length) (hs : ∀ i, i < M.length → M'[i]? = M[i]?) : M'.take M.length = M := by
  refine List.ext_getElem? fun i => ?_
  rw [List.getElem?_take]
  split
  · next h => exact hs i h
  · next h => rw [List.getElem?_eq_none (by omega)]
theorem pushN_app : ∀ (a b : List Str) (st : List (Str × List Tm)), pushN (a ++ b) st = pushN b (pushN a st)
  | [], _, _ => rfl
  | f :: a, b, st => by rw [List.cons_append, pushN, pushN]; exact pushN_app a b _
theorem pushN_len : ∀ (a : List Str) (st : List (Str × List Tm)), (pushN a st).length = st.length + a.length
  | [], _ => rfl
  | f :: a, st => by rw [pushN, pushN_len a, List.length_cons, List.length_cons]; omega
theorem cut_mid {x : Str} {b e : Nat} (hb : b ≤ e) (he : e ≤ x.length) : cutS x (some (b : Int)) (some (e : Int)) = mkS (((tlS x).drop b).take (e - b)) := by
  unfold cutS
  rw [sIx_nat, sIx_nat, show min e x.length = e by omega, show min b x.length = b by omega]
  rfl
theorem nm_sub {x : Str} {l : List Nat} (hn : NameOk x) (hl : ∀ c ∈ l, c ∈ tlS x) : NameOk (mkS l) := by
  have h1 : ∀ c ∈ tlS x, c < 1114112 := by
    have h2 : x.cps.all (fun c => decide (c < 1114112)) = true := hn
    rw [← Array.all_toList, List.all_eq_true] at h2
    intro c hc
    simpa using h2 c hc
  show (l.toArray).all (fun c => decide (c < 1114112)) = true
  rw [← Array.all_toList, List.all_eq_true]
  intro c hc
  simpa using h1 c (hl c (by simpa using hc))
theorem head_sign {l : List Nat} {c : Nat} : mkS (l.take 1) = mkS [c] ↔ l.head? = some c := by
  constructor
  · intro h
    have := congrArg tlS h
    rw [tlS_mk, tlS_mk] at this
    cases l with
    | nil => cases this
    | cons x l =>
      injection this with h
      rw [← h]
      rfl
  · intro h
    cases l with
    | nil => cases h
    | cons x l =>
      injection h with h
      rw [h]
      rfl
theorem tw_mem {p : Nat → Bool} {c : Nat} : ∀ {l : List Nat}, c ∈ l.takeWhile p → p c = true
  | [], h => by cases h
  | x :: l, h => by
    rw [List.takeWhile_cons] at h
    cases hp : p x with
    | true =>
      rw [hp, if_pos rfl] at h
      rcases List.mem_cons.mp h with rfl | h
      · exact hp
      · exact tw_mem h
    | false => rw [hp] at h; cases h
theorem drop_take (p : Nat → Bool) : ∀ l : List Nat, l.take (l.takeWhile p).length = l.takeWhile p ∧ l.drop (l.takeWhile p).length = l.dropWhile p
  | [] => ⟨rfl, rfl⟩
  | c :: l => by
    obtain ⟨h1, h2⟩ := drop_take p l
    rw [List.takeWhile_cons, List.dropWhile_cons]
    cases p c with
    | true => exact ⟨by simp [h1], by simp [h2]⟩
    | false => exact ⟨rfl, rfl⟩
end
section
variable {P : Program} {w : World} {K : PySem.W.Frag} {mg : Str → Option Value} {base : Heap}
/-- below n all but o stays -/
def Same (n o : Nat) (M M' : Mem) : Prop := ∀ i, i < n → i ≠ o → M'[i]? = M[i]?
theorem fig_in (c : Nat) : decide (c ∈ tlS (Str.ofString "0123456789")) = figB c := by
  have e : tlS (Str.ofString "0123456789") = [48, 49, 50, 51, 52, 53, 54, 55, 56, 57] := by decide +kernel
  rw [e]
  unfold figB
  rw [Bool.eq_iff_iff]
  simp
  omega
theorem let_in (c : Nat) : decide (c ∈ tlS (Str.ofString "abcdefghijklmnopqrstuvwxyz")) = letB c := by
  have e : tlS (Str.ofString "abcdefghijklmnopqrstuvwxyz") = [97, 98, 99, 100, 101, 102, 103, 104, 105, 106, 107, 108, 109, 110, 111, 112, 113, 114, 115, 116, 117, 118, 119, 120, 121, 122] := by decide +kernel
  rw [e]
  unfold letB
  rw [Bool.eq_iff_iff]
  simp
  omega
def sp_leaf : DSp := fun ds M Q E => ∃ (x : Str) (a o : Nat) (ls : List Nat) (st : List (Str × List Tm)), ds = [.str x, .int a, .loc o] ∧ NameOk x ∧ x.length ≤ 10000 ∧ a ≤ x.length ∧ st.length ≤ 60 ∧ Stk M o ls st ∧
  (∀ (t : Tm) (s2 : List Nat) (ns : List Str) (M' : Mem) (ls' : List Nat) (b : Nat), leaf ((tlS x).drop a) st.length = some (t, s2, ns) → b ≤ x.length → s2 = (tlS x).drop b → M.length ≤ M'.length → Same M.length o M M' → Stk M' o (ls' ++ ls) (pushN ns st) → (∀ l ∈ ls', M.length ≤ l) → Q (.tup [t.d, .int b]) M') ∧
  (leaf ((tlS x).drop a) st.length = none → ∀ M' : Mem, M.length ≤ M'.length → Same M.length o M M' → E (He.ga K "BadText") M')
theorem fn_leaf (T : Top K mg) : DFn P w K mg base (L2.CX P w) 4 "_leaf" ["text", "at", "opened"] (sp_leaf (K := K)) := by
  have F__behind := fn_behind (P := P) (w := w) (base := base) T
  have F__blank := fn_blank (P := P) (w := w) (base := base) T
  have F_is_name := fn_isname (P := P) (w := w) (base := base) T
  obtain ⟨fd, F⟩ := T.d__leaf
  have sc := sc__leaf
  refine DFn.ofX (k := 3) F T.g__leaf (FunD.bindsN F fun _ _ _ _ _ _ us hl => match us, hl with | [_, _, _], _ => rfl) sc ?len ⟨fun EdX => _, fun cdv A outer s H E m0 hr EdX tk po => (
      (dss_cons (ds_while po (dt_cmp (dop_ne hr) (de_slice (de_var 0) (do_some (de_var 1)) (do_some (de_bin dop_add (de_var 1) de_int))) de_str) (dss_cons (ds_set 3 sc.nd (de_call F__behind (hr.mono (by omega)) pass0 (da_cons (de_var 0) (da_cons (de_var 1) (da_cons (de_gstrE T.i_LETTERS) da_nil)))))
      (dss_cons (ds_set 4 sc.nd (de_slice (de_var 0) (do_some (de_var 1)) (do_some (de_var 3))))
      (dss_cons (ds_if (dt_not (dt_e (de_call F_is_name (hr.mono (by omega)) pass0 (da_cons (de_var 4) da_nil)))) (dss_one (ds_raise rfl tk T.e_BadText T.g_BadText)) dss_nil)
      (dss_cons (ds_if (dt_cmp (dop_ne hr) (de_slice (de_var 0) (do_some (de_var 3)) (do_some (de_bin dop_add (de_var 3) de_int))) de_str) (dss_one (ds_ret (de_tup (da_cons (de_tup (da_cons (de_var 4) da_nil)) (da_cons (de_var 3) da_nil))))) dss_nil)
      (dss_cons (ds_if (dt_cmp (dop_eq hr) (de_cb T.n_len dc_len b_len (da_cons (de_var 2) da_nil)) (de_gintE T.i_MOST_OPEN)) (dss_one (ds_raise rfl tk T.e_BadText T.g_BadText)) dss_nil)
      (dss_cons (ds_expr (de_bm PySem.F.plainAttrs_list PySem.F.slot_list_append PySem.F.type_list_append dm_append (de_var 2) (da_cons (de_lst (da_cons (de_var 4) da_nil)) da_nil)))
      (dss_one (ds_set 1 sc.nd (de_bin dop_add (de_var 3) de_int))))))))))
      (dss_cons (ds_set 3 sc.nd (de_call F__behind (hr.mono (by omega)) pass0 (da_cons (de_var 0) (da_cons (de_bin dop_add (de_var 1) de_int) (da_cons (de_gstrE T.i_FIGURES) da_nil)))))
      (dss_one (ds_ret (de_tup (da_cons (de_callX tk F__blank (hr.mono (by omega)) (da_cons (de_slice (de_var 0) (do_some (de_bin dop_add (de_var 1) de_int)) (do_some (de_var 3))) da_nil)) (da_cons (de_var 3) da_nil)))))))), ?_⟩
  case len =>
    rintro ds M Q E ⟨x, a, o, ls, st, rfl, _⟩
    rfl
  rintro ds M Qd Ed ⟨x, a, o, ls, st, rfl, hn, hx, ha, hst, hS, q, qe⟩ hM
  have hxl : x.length = (tlS x).length := TL.len_tl x
  try simp! only [eq_self]
  have hol := (List.getElem?_eq_some_iff.mp hS.at_).1
  refine while_ind (fun k r M' => ∃ (b : Nat) (ns0 : List Str) (ls0 : List Nat) (u3 u4 : Option D), k = x.length - b ∧ b ≤ x.length ∧ st.length + ns0.length ≤ 60 ∧ (∀ t s2 ns, leaf ((tlS x).drop b) (st.length + ns0.length) = some (t, s2, ns) → leaf ((tlS x).drop a) st.length = some (t, s2, ns0 ++ ns)) ∧ (leaf ((tlS x).drop b) (st.length + ns0.length) = none → leaf ((tlS x).drop a) st.length = none) ∧
    M.length ≤ M'.length ∧ Same M.length o M M' ∧ Stk M' o (ls0 ++ ls) (pushN ns0 st) ∧ (∀ l ∈ ls0, M.length ≤ l) ∧ r = [some (D.str x), some (D.int (b : Int)), some (D.loc o), u3, u4]) _ ⟨a, [], [], none, none, rfl, ha, hst, fun t s2 ns h => h, fun h => h, Nat.le_refl _, fun _ _ _ => rfl, hS, fun l h => (by cases h), rfl⟩ ?_
  rintro k r M' ⟨b, ns0, ls0, u3, u4, rfl, hb, hsn, hl1, hl2, hML, hSame, hS', hls0, rfl⟩
  have c1 : cutS x (some (b : Int)) (some ((b : Int) + 1)) = mkS (((tlS x).drop b).take 1) := by
    by_cases h : b + 1 ≤ x.length
    · have := cut_mid (x := x) (b := b) (e := b + 1) (by omega) h
      rw [Nat.add_sub_cancel_left] at this
      exact this
    · have e0 : (tlS x).drop b = [] := List.drop_of_length_le (by omega)
      have e1 : ((b : Int) + 1) = ((b + 1 : Nat) : Int) := by omega
      unfold cutS
      rw [e1, sIx_nat, sIx_nat, show min (b + 1) x.length = b by omega, show min b x.length = b by omega, Nat.sub_self, List.take_zero, e0]
      rfl
  have hq : NameOk "?" := by unfold NameOk; decide +kernel
  have hpar : NameOk "(" := by unfold NameOk; decide +kernel
  have sub : ∀ {l : List Nat}, (∀ c ∈ l, c ∈ (tlS x).drop b) → NameOk (mkS l) := fun {l} h => nm_sub hn fun c hc => List.mem_of_mem_drop (h c hc)
  try simp! only [c1]
  refine ⟨by omega, ?_⟩
  refine qNe_ss (sub fun c hc => List.mem_of_mem_take hc) hq fun b1 hb1 => ?_
  have e63 : b1 = false ↔ ((tlS x).drop b).head? = some 63 := by
    rw [← head_sign]
    have e : mkS [63] = Str.ofString "?" := rfl
    rw [e]
    cases b1 with
    | true => exact ⟨fun h => (by cases h), fun h => absurd h (hb1.mp rfl)⟩
    | false => exact ⟨fun _ => Classical.byContradiction fun h => (by have := hb1.mpr h; cases this), fun _ => rfl⟩
  cases b1 with
  | false =>
    have h63 := e63.mp rfl
    have hbl : b < x.length := by
      by_cases h : b < x.length
      · exact h
      · rw [List.drop_of_length_le (by omega)] at h63; cases h63
    have htail : ((tlS x).drop b).tail = (tlS x).drop (b + 1) := by rw [List.tail_drop]
    try simp! only [eq_self]
    refine ⟨x, _, b + 1, figB, rfl, by omega, by omega, fun c => ?_, ?_⟩
    · exact fig_in c
    obtain ⟨d1, d2⟩ := drop_take figB ((tlS x).drop (b + 1))
    have hwl : ((((tlS x).drop (b + 1)).takeWhile figB).length) ≤ x.length - (b + 1) := by
      have := (List.takeWhile_sublist figB (l := (tlS x).drop (b + 1))).length_le
      rw [List.length_drop] at this
      omega
    generalize hw : ((tlS x).drop (b + 1)).takeWhile figB = wd at d1 d2 hwl
    have c2 : cutS x (some ((b : Int) + 1)) (some ((b + 1 + wd.length : Nat) : Int)) = mkS wd := by
      have := cut_mid (x := x) (b := b + 1) (e := b + 1 + wd.length) (by omega) (by omega)
      rw [Nat.add_sub_cancel_left, d1] at this
      exact this
    have hS0 : leaf ((tlS x).drop b) (st.length + ns0.length) = (blankOf wd).map fun i => (Tm.var i, ((tlS x).drop (b + 1)).dropWhile figB, []) := by
      rw [leaf, if_pos h63, htail, hw]
    have hwf : ∀ c ∈ wd, figB c = true := fun c hc => by rw [← hw] at hc; exact tw_mem hc
    have hws : ∀ c ∈ wd, c ∈ (tlS x).drop b := fun c hc => by
      rw [← hw] at hc
      have := (List.takeWhile_sublist figB).subset hc
      rw [← htail] at this
      exact List.mem_of_mem_tail this
    dsimp only
    rw [c2]
    refine ⟨by omega, mkS wd, rfl, sub hws, ?_, by rw [tlS_mk]; exact hwf, fun i hi => ?_, fun hi X => ?_⟩
    · rw [TL.len_tl]; show (tlS (mkS wd)).length ≤ 100000; rw [tlS_mk]; omega
    · rw [tlS_mk] at hi
      rw [hi] at hS0
      have hres := hl1 _ _ _ hS0
      rw [List.append_nil] at hres
      exact .same (q (.var i) _ ns0 M' ls0 (b + 1 + wd.length) hres (by omega) (by rw [← d2, List.drop_drop]) hML hSame hS' hls0)
    · rw [tlS_mk] at hi
      rw [hi] at hS0
      exact .inl (qe (hl2 hS0) _ (by rw [List.length_append]; omega) fun i h1 h2 => by rw [getL (by omega)]; exact hSame i h1 h2)
  | true =>
    have h63 : ¬ ((tlS x).drop b).head? = some 63 := fun h => by have := e63.mpr h; cases this
    try simp! only [eq_self]
    refine ⟨x, _, b, letB, rfl, by omega, by omega, fun c => let_in c, ?_⟩
    obtain ⟨d1, d2⟩ := drop_take letB ((tlS x).drop b)
    have hwl : ((((tlS x).drop b).takeWhile letB).length) ≤ x.length - b := by
      have := (List.takeWhile_sublist letB (l := (tlS x).drop b)).length_le
      rw [List.length_drop] at this
      omega
    generalize hw : ((tlS x).drop b).takeWhile letB = wd at d1 d2 hwl
    have c2 : cutS x (some (b : Int)) (some ((b + wd.length : Nat) : Int)) = mkS wd := by
      have := cut_mid (x := x) (b := b) (e := b + wd.length) (by omega) (by omega)
      rw [Nat.add_sub_cancel_left, d1] at this
      exact this
    have hws : ∀ c ∈ wd, c ∈ (tlS x).drop b := fun c hc => by
      rw [← hw] at hc
      exact (List.takeWhile_sublist letB).subset hc
    have hwf : ∀ c ∈ wd, letB c = true := fun c hc => by rw [← hw] at hc; exact tw_mem hc
    have hnm : nameB (mkS wd) = nmB wd := by
      unfold nameB nmB
      rw [tlS_mk]
      have : (wd.all fun c => decide (97 ≤ c) && decide (c ≤ 122)) = true := by
        rw [List.all_eq_true]
        exact hwf
      rw [this, Bool.and_true]
    generalize he : b + wd.length = e at c2
    have hel : e ≤ x.length := by omega
    have hde : ((tlS x).drop b).dropWhile letB = (tlS x).drop e := by rw [← d2, List.drop_drop, he]
    have c3 : cutS x (some (e : Int)) (some ((e : Int) + 1)) = mkS (((tlS x).drop e).take 1) := by
      by_cases h : e + 1 ≤ x.length
      · have := cut_mid (x := x) (b := e) (e := e + 1) (by omega) h
        rw [Nat.add_sub_cancel_left] at this
        exact this
      · have e0 : (tlS x).drop e = [] := List.drop_of_length_le (by omega)
        have e1 : ((e : Int) + 1) = ((e + 1 : Nat) : Int) := by omega
        unfold cutS
        rw [e1, sIx_nat, sIx_nat, show min (e + 1) x.length = e by omega, show min e x.length = e by omega, Nat.sub_self, List.take_zero, e0]
        rfl
    dsimp only
    rw [c2]
    refine ⟨by omega, mkS wd, rfl, by rw [TL.len_tl]; show (tlS (mkS wd)).length ≤ 10000; rw [tlS_mk]; omega, ?_⟩
    rw [hnm]
    have hlf : leaf ((tlS x).drop b) (st.length + ns0.length) = if nmB wd then (if ((tlS x).drop e).head? = some 40 then (if st.length + ns0.length = 60 then none else (leaf ((tlS x).drop e).tail (st.length + ns0.length + 1)).map fun q => (q.1, q.2.1, mkS wd :: q.2.2)) else some (.app (mkS wd) [], (tlS x).drop e, [])) else none := by
      rw [leaf, if_neg h63, hw, hde]
      rfl
    cases hnb : nmB wd with
    | false =>
      rw [hnb] at hlf
      try simp! only [eq_self]
      exact .inl (qe (hl2 hlf) M' hML hSame)
    | true =>
    rw [hnb, if_pos rfl] at hlf
    try simp! only [c3]
    refine ⟨by omega, ?_⟩
    refine qNe_ss (nm_sub hn fun c hc => List.mem_of_mem_drop (List.mem_of_mem_take hc)) hpar fun b2 hb2 => ?_
    have e40 : b2 = false ↔ ((tlS x).drop e).head? = some 40 := by
      rw [← head_sign]
      have e : mkS [40] = Str.ofString "(" := rfl
      rw [e]
      cases b2 with
      | true => exact ⟨fun h => (by cases h), fun h => absurd h (hb2.mp rfl)⟩
      | false => exact ⟨fun _ => Classical.byContradiction fun h => (by have := hb2.mpr h; cases this), fun _ => rfl⟩
    cases b2 with
    | true =>
      have h40 : ¬ ((tlS x).drop e).head? = some 40 := fun h => by have := e40.mpr h; cases this
      rw [if_neg h40] at hlf
      have hres := hl1 _ _ _ hlf
      rw [List.append_nil] at hres
      try simp! only [eq_self]
      have hq2 := q _ _ ns0 M' ls0 e hres hel rfl hML hSame hS' hls0
      rw [Tm.d_app] at hq2
      exact .same hq2
    | false =>
    have h40 := e40.mp rfl
    rw [if_pos h40] at hlf
    have hlen : (pushN ns0 st).length = st.length + ns0.length := pushN_len ns0 st
    have hstl := hS'.en.len.1
    have hdl : (ls0 ++ ls).reverse.length = st.length + ns0.length := by rw [List.length_reverse, hstl, hlen]
    have hel2 : e < x.length := by
      by_cases h : e < x.length
      · exact h
      · rw [List.drop_of_length_le (by omega)] at h40; cases h40
    have htail : ((tlS x).drop e).tail = (tlS x).drop (e + 1) := by rw [List.tail_drop]
    rw [htail] at hlf
    have oX : ∀ X : Mem, (M' ++ X)[o]? = some (.lst ((ls0 ++ ls).reverse.map D.loc)) := fun X => by rw [getL (List.getElem?_eq_some_iff.mp hS'.at_).1]; exact hS'.at_
    by_cases h60 : st.length + ns0.length = 60
    · rw [if_pos h60] at hlf
      have e60 : decide ((((ls0 ++ ls).reverse.length : Nat) : Int) = 60) = true := decide_eq_true (by omega)
      try simp! only [hS'.at_, e60]
      exact .inl (qe (hl2 hlf) M' hML hSame)
    · rw [if_neg h60] at hlf
      have e60 : decide ((((ls0 ++ ls).reverse.length : Nat) : Int) = 60) = false := decide_eq_false (by omega)
      try simp! only [hS'.at_, e60, oX]
      have hol' := (List.getElem?_eq_some_iff.mp hS'.at_).1
      refine ⟨by omega, x.length - (e + 1), by omega, e + 1, ns0 ++ [mkS wd], M'.length :: ls0, _, _, rfl, by omega, by rw [List.length_append, List.length_singleton]; omega, fun t s2 ns h => ?_, fun h => ?_, by omega, fun i h1 h2 => ?_, ?_, fun l hl => ?_, by rw [Int.natCast_add]; rfl⟩
      · rw [List.length_append, List.length_singleton] at h
        rw [show st.length + (ns0.length + 1) = st.length + ns0.length + 1 by omega] at h
        rw [h] at hlf
        have := hl1 _ _ _ hlf
        rw [this]
        simp
      · rw [List.length_append, List.length_singleton] at h
        rw [show st.length + (ns0.length + 1) = st.length + ns0.length + 1 by omega] at h
        rw [h] at hlf
        exact hl2 hlf
      · rw [List.getElem?_set_ne (fun e => h2 e.symm), getL (by omega)]
        exact hSame i h1 h2
      · have := hS'.push (mkS wd)
        rw [pushN_app]
        exact this
      · rcases List.mem_cons.mp hl with rfl | hl
        · exact hML
        · exact hls0 l hl
end
section
variable {P : Program} {w : World} {K : PySem.W.Frag} {mg : Str → Option Value} {base : Heap}
theorem cut_one {x : Str} {b : Nat} (hb : b ≤ x.length) : cutS x (some (b : Int)) (some ((b : Int) + 1)) = mkS (((tlS x).drop b).take 1) := by
  have hxl : x.length = (tlS x).length := TL.len_tl x
  by_cases h : b + 1 ≤ x.length
  · have := cut_mid (x := x) (b := b) (e := b + 1) (by omega) h
    rw [Nat.add_sub_cancel_left] at this
    exact this
  · have e0 : (tlS x).drop b = [] := List.drop_of_length_le (by omega)
    have e1 : ((b : Int) + 1) = ((b + 1 : Nat) : Int) := by omega
    unfold cutS
    rw [e1, sIx_nat, sIx_nat, show min (b + 1) x.length = b by omega, show min b x.length = b by omega, Nat.sub_self, List.take_zero, e0]
    rfl
/-- the sign at a place -/
theorem use_sign {x : Str} {b c : Nat} {y : Str} {M : Mem} {Q : QD} (hn : NameOk x) (hb : b ≤ x.length) (hy : NameOk y) (ey : mkS [c] = y) (k : ∀ b1 : Bool, (b1 = true ↔ ((tlS x).drop b).head? = some c) → Q (.bl b1) M) : qEq (D.str (cutS x (some (b : Int)) (some ((b : Int) + 1)))) (D.str y) M Q := by
  rw [cut_one hb]
  refine qEq_ss (nm_sub hn fun c hc => List.mem_of_mem_drop (List.mem_of_mem_take hc)) hy fun b1 hb1 => k b1 ?_
  rw [hb1, ← ey, head_sign]
theorem leaf_ns {s : List Nat} {d : Nat} {t : Tm} {s2 : List Nat} {ns : List Str} (h : leaf s d = some (t, s2, ns)) (hd : d ≤ 60) : d + ns.length ≤ 60 := by
  induction hn : s.length using Nat.strongRecOn generalizing s d t s2 ns with
  | ind n ih =>
    rw [leaf] at h
    split at h
    · obtain ⟨i, _, e⟩ := Option.map_eq_some_iff.mp h
      injection e with _ e
      injection e with _ e
      rw [← e]
      exact hd
    · split at h
      · split at h
        · next h3 =>
          split at h
          · cases h
          · next h60 =>
            obtain ⟨q, hq, e⟩ := Option.map_eq_some_iff.mp h
            obtain ⟨t', s', ns'⟩ := q
            injection e with _ e
            injection e with _ e
            have ht := tail_lt h3
            have hdl := drop_len letB s
            have := ih _ (by omega) hq (by omega) rfl
            rw [← e, List.length_cons]
            show d + (ns'.length + 1) ≤ 60
            omega
        · injection h with h
          injection h with _ h
          injection h with _ h
          rw [← h]
          exact hd
      · cases h
def sp_read : DSp := fun ds M Q E => ∃ x : Str, ds = [.str x] ∧ NameOk x ∧ x.length ≤ 10000 ∧ (∀ t : Tm, readL (tlS x) = some t → Q t.d M) ∧ (readL (tlS x) = none → E (He.ga K "BadText") M)
theorem fn_read (T : Top K mg) : DFn P w K mg base (L2.CX P w) 6 "read" ["text"] (sp_read (K := K)) := by
  have F__leaf := fn_leaf (P := P) (w := w) (base := base) T
  obtain ⟨fd, F⟩ := T.d_read
  have sc := sc_read
  refine DFn.ofX (k := 5) F T.g_read (FunD.bindsN F fun _ _ _ _ _ _ us hl => match us, hl with | [_], _ => rfl) sc ?len ⟨fun EdX => _, fun cdv A outer s H E m0 hr EdX tk po => (
      (dss_cons (ds_set 1 sc.nd (de_lst da_nil))
      (dss_cons (ds_asg (de_callX tk F__leaf (hr.mono (by omega)) (da_cons (de_var 0) (da_cons de_int (da_cons (de_var 1) da_nil)))) (dg_tup (n := 2) rfl (dgs_cons (dg_name 2 sc.nd) (dgs_cons (dg_name 3 sc.nd) dgs_nil))))
      (dss_cons (ds_while po (dt_e (de_var 1)) (dss_cons (ds_if (dt_cmp dop_gt (de_cb T.n_len dc_len b_len (da_cons (de_ix hr (de_var 1) (de_neg de_int)) da_nil)) (de_gintE T.i_MOST_PARTS)) (dss_one (ds_raise rfl tk T.e_BadText T.g_BadText)) dss_nil)
      (dss_cons (ds_expr (de_bm PySem.F.plainAttrs_list PySem.F.slot_list_append PySem.F.type_list_append dm_append (de_ix hr (de_var 1) (de_neg de_int)) (da_cons (de_var 2) da_nil)))
      (dss_cons (ds_set 4 sc.nd (de_slice (de_var 0) (do_some (de_var 3)) (do_some (de_bin dop_add (de_var 3) de_int))))
      (dss_one (ds_if (dt_cmp (dop_eq hr) (de_var 4) de_str) (dss_cons (ds_set 2 sc.nd (de_ct T.n_tuple dc_tuple b_tuple (da_cons (de_bm0 PySem.F.plainAttrs_list PySem.F.slot_list_pop PySem.F.type_list_pop dm_pop (de_var 1)) da_nil)))
      (dss_one (ds_aug 3 sc.nd dip_add de_int))) (dss_one (ds_if (dt_cmp (dop_eq hr) (de_var 4) de_str) (dss_one (ds_asg (de_callX tk F__leaf (hr.mono (by omega)) (da_cons (de_var 0) (da_cons (de_bin dop_add (de_var 3) de_int) (da_cons (de_var 1) da_nil)))) (dg_tup (n := 2) rfl (dgs_cons (dg_name 2 sc.nd) (dgs_cons (dg_name 3 sc.nd) dgs_nil))))) (dss_one (ds_raise rfl tk T.e_BadText T.g_BadText))))))))))
      (dss_cons (ds_if (dt_cmp (dop_ne hr) (de_var 3) (de_cb T.n_len dc_len b_len (da_cons (de_var 0) da_nil))) (dss_one (ds_raise rfl tk T.e_BadText T.g_BadText)) dss_nil)
      (dss_one (ds_ret (de_var 2)))))))), ?_⟩
  case len =>
    rintro ds M Q E ⟨x, rfl, _⟩
    rfl
  rintro ds M Qd Ed ⟨x, rfl, hn, hx, q, qe⟩ hM
  have hxl : x.length = (tlS x).length := TL.len_tl x
  have bad : ∀ M' : Mem, M.length ≤ M'.length → (∀ i, i < M.length → M'[i]? = M[i]?) → readL (tlS x) = none → DoneX M.length Ed (He.ga K "BadText") M' := fun M' hl hs hr => DoneX.old hM (take_same hl hs) (qe hr)
  try simp! only [eq_self]
  have hS0 : Stk (M ++ [MO.lst []]) M.length [] [] := ⟨by rw [getK0 rfl]; rfl, List.nodup_nil, fun h => (by cases h), .nil⟩
  have low : ∀ {M1 M2 : Mem}, M.length < M1.length → (∀ i, i < M.length → M1[i]? = M[i]?) → Same M1.length M.length M1 M2 → ∀ i, i < M.length → M2[i]? = M[i]? := fun h1 h2 h3 i hi => (h3 i (by omega) (by omega)).trans (h2 i hi)
  have l0 : ∀ i, i < M.length → (M ++ [MO.lst []])[i]? = M[i]? := fun i hi => getL hi
  have e1 : (M ++ [MO.lst []]).length = M.length + 1 := by simp
  refine ⟨x, 0, M.length, [], [], rfl, hn, hx, by omega, by decide, hS0, fun t s2 ns M2 ls2 b hl hb hs2 hML hSm hSt hls => ?_, fun hl M2 hML hSm => ?_⟩
  · rw [List.append_nil] at hSt
    have hlow := low (by omega) l0 hSm
    have hrd : readL (tlS x) = runL (pushN ns []) t ((tlS x).drop b) := by
      have e : readL (tlS x) = (match leaf (tlS x) 0 with | none => none | some (t, s2, ns) => runL (pushN ns []) t s2) := rfl
      rw [e]
      have hl' : leaf (tlS x) 0 = some (t, s2, ns) := hl
      rw [hl', hs2]
    have hsl : (pushN ns []).length ≤ 60 := by
      have := leaf_ns hl (by decide)
      rw [pushN_len]
      simpa using this
    generalize pushN ns [] = st at hSt hrd hsl
    try simp! only [eq_self]
    refine while_ind (fun k r M' => ∃ (b : Nat) (t : Tm) (st : List (Str × List Tm)) (ls : List Nat) (u4 : Option D), k = x.length - b ∧ b ≤ x.length ∧ readL (tlS x) = runL st t ((tlS x).drop b) ∧ Stk M' M.length ls st ∧ (∀ l ∈ ls, M.length < l) ∧ M.length < M'.length ∧ (∀ i, i < M.length → M'[i]? = M[i]?) ∧ st.length ≤ 60 ∧
      r = [some (D.str x), some (D.loc M.length), some t.d, some (D.int (b : Int)), u4]) _ ⟨b, t, st, ls2, none, rfl, hb, hrd, hSt, fun l hl => by have := hls l hl; omega, by omega, hlow, hsl, rfl⟩ ?_
    clear hb hrd hSt hls hML hlow hsl hl hs2 hSm
    rintro k r M' ⟨b, t, st, ls, u4, rfl, hb, hrd, hS, hls, hML, hlow, hst, rfl⟩
    have hat := hS.at_
    cases hen : hS.en with
    | nil =>
      try simp! only [hat]
      by_cases hbe : (b : Int) = (x.length : Int)
      · have e0 : (tlS x).drop b = [] := List.drop_of_length_le (by omega)
        rw [e0, runL, if_pos rfl] at hrd
        try simp! only [decide_eq_true hbe]
        exact ⟨by omega, Done.old hM (take_same (by omega) hlow) (Tm.ok _ _) (q t hrd)⟩
      · have e0 : (tlS x).drop b ≠ [] := fun h => by
          have := congrArg List.length h
          rw [List.length_drop, List.length_nil] at this
          omega
        rw [runL, if_neg e0] at hrd
        try simp! only [decide_eq_false hbe]
        exact ⟨by omega, bad M' (by omega) hlow hrd⟩
    | @cons l e ls st hl hen' =>
    obtain ⟨f, ps⟩ := e
    have hl : M'[l]? = some (.lst (.str f :: ps.map Tm.d)) := hl
    have hrev : (l :: ls).reverse.map D.loc = ls.reverse.map D.loc ++ [D.loc l] := by rw [List.reverse_cons, List.map_append]; rfl
    have f1 : atI (ls.reverse.map D.loc ++ [D.loc l]) (-1) = some (.loc l) := by
      unfold L2.atI
      have : ixN (ls.reverse.map D.loc ++ [D.loc l]).length (-1) = some (ls.reverse.map D.loc).length := by
        rw [List.length_append, List.length_singleton]
        unfold ixN
        rw [if_neg (by omega), if_pos (by omega)]
        congr 1
        omega
      rw [this]
      show (ls.reverse.map D.loc ++ [D.loc l])[(ls.reverse.map D.loc).length]? = _
      rw [List.getElem?_append_right (Nat.le_refl _), Nat.sub_self]
      rfl
    have fe : (ls.reverse.map D.loc ++ [D.loc l]).isEmpty = false := by simp
    rw [hrev] at hat
    have hlo : M.length < l := hls l (List.mem_cons_self ..)
    have hll := (List.getElem?_eq_some_iff.mp hl).1
    rw [List.length_cons] at hst
    have hpar : NameOk ")" := by unfold NameOk; decide +kernel
    have hcom : NameOk "," := by unfold NameOk; decide +kernel
    by_cases h4 : 4 ≤ ps.length
    · rw [runL, if_pos h4] at hrd
      try simp! only [hat, fe, f1, hl, decide_eq_true (show (4 : Int) < ((ps.length + 1 : Nat) : Int) by omega)]
      exact bad M' (by omega) hlow hrd
    have ht2 : (List.take 1 ((tlS x).drop b)) = List.take 1 ((tlS x).drop b) := rfl
    try simp! only [hat, fe, f1, hl, decide_eq_false (show ¬ (4 : Int) < ((ps.length + 1 : Nat) : Int) by omega)]
    have o3 : (M'.set l (MO.lst (D.str f :: (ps.map Tm.d ++ [t.d]))))[M.length]? = some (.lst (ls.reverse.map D.loc ++ [D.loc l])) := by rw [List.getElem?_set_ne (by omega)]; exact hat
    have l3 : (M'.set l (MO.lst (D.str f :: (ps.map Tm.d ++ [t.d]))))[l]? = some (.lst (D.str f :: (ps ++ [t]).map Tm.d)) := by rw [List.getElem?_set_self hll, List.map_append]; rfl
    have low3 : ∀ i, i < M.length → (M'.set l (MO.lst (D.str f :: (ps.map Tm.d ++ [t.d]))))[i]? = M[i]? := fun i hi => by rw [List.getElem?_set_ne (by omega)]; exact hlow i hi
    have en3 : StkE (M'.set l (MO.lst (D.str f :: (ps.map Tm.d ++ [t.d])))) ls st := hen'.same fun l' hl' => by
      rw [List.getElem?_set_ne (fun e => (List.nodup_cons.mp hS.nd).1 (by rw [e]; exact hl'))]
    have len3 : (M'.set l (MO.lst (D.str f :: (ps.map Tm.d ++ [t.d])))).length = M'.length := List.length_set ..
    have nd3 := (List.nodup_cons.mp hS.nd).2
    have no3 : M.length ∉ ls := fun h => hS.no (List.mem_cons_of_mem _ h)
    generalize M'.set l (MO.lst (D.str f :: (ps.map Tm.d ++ [t.d]))) = M3 at o3 l3 low3 en3 len3 ⊢
    refine ⟨by omega, by omega, ?_⟩
    refine use_sign (c := 41) hn hb hpar rfl fun b1 hb1 => ?_
    have hb_lt : ∀ {c : Nat}, ((tlS x).drop b).head? = some c → b < x.length ∧ (tlS x).drop b = c :: (tlS x).drop (b + 1) := fun {c} h => by
      have hlt : b < x.length := by
        by_cases hlt : b < x.length
        · exact hlt
        · rw [List.drop_of_length_le (by omega)] at h; cases h
      refine ⟨hlt, ?_⟩
      have e := List.drop_eq_getElem_cons (l := tlS x) (i := b) (by omega)
      rw [e] at h ⊢
      injection h with h
      rw [h]
    cases b1 with
    | true =>
      obtain ⟨hlt, hdr⟩ := hb_lt (hb1.mp rfl)
      rw [hdr, run_close (by omega)] at hrd
      have hdl : (ls.reverse.map D.loc ++ [D.loc l]).dropLast = ls.reverse.map D.loc := by simp
      have hla : (ls.reverse.map D.loc ++ [D.loc l])[(ls.reverse.map D.loc ++ [D.loc l]).length - 1]? = some (D.loc l) := by simp
      have l4 : (M3.set M.length (MO.lst (ls.reverse.map D.loc)))[l]? = some (.lst (D.str f :: (ps ++ [t]).map Tm.d)) := by rw [List.getElem?_set_ne (by omega)]; exact l3
      generalize hgx : ls.reverse.map D.loc ++ [D.loc l] = xs at o3 hdl hla
      try simp! only [o3, hla, hdl, l4]
      refine ⟨x.length - (b + 1), by omega, b + 1, .app f (ps ++ [t]), st, ls, some (D.str (cutS x (some (b : Int)) (some ((b : Int) + 1)))), rfl, by omega, hrd, ⟨by rw [List.getElem?_set_self (by omega)], nd3, no3, en3.same fun l' hl' => ?_⟩, fun l' hl' => hls l' (List.mem_cons_of_mem _ hl'), by omega, fun i hi => ?_, by omega, ?_⟩
      · rw [List.getElem?_set_ne (fun e => no3 (by rw [e]; exact hl'))]
      · rw [List.getElem?_set_ne (by omega)]; exact low3 i hi
      · rw [Tm.d_app, Int.natCast_add]; rfl
    | false =>
    have h41 : ¬ ((tlS x).drop b).head? = some 41 := fun h => by have := hb1.mpr h; cases this
    try simp! only [eq_self]
    refine use_sign (c := 44) hn hb hcom rfl fun b2 hb2 => ?_
    have hS3 : Stk M3 M.length (l :: ls) ((f, ps ++ [t]) :: st) := ⟨by rw [o3, hrev], hS.nd, hS.no, .cons l3 en3⟩
    cases b2 with
    | true =>
      obtain ⟨hlt, hdr⟩ := hb_lt (hb2.mp rfl)
      rw [hdr, run_comma (by omega)] at hrd
      try simp! only [eq_self]
      refine ⟨x, b + 1, M.length, l :: ls, _, rfl, hn, hx, by omega, by rw [List.length_cons]; exact hst, hS3, fun t' s2 ns M4 ls4 b' hl4 hb4 hs4 hML4 hSm4 hSt4 hls4 => ?_, fun hl4 M4 hML4 hSm4 => ?_⟩
      · have hlen := leaf_len hl4
        rw [hs4, List.length_drop, List.length_drop] at hlen
        have hns := leaf_ns hl4 (by rw [List.length_cons]; exact hst)
        unfold goL at hrd
        rw [hl4, hs4] at hrd
        have hlow4 := low (by omega) low3 hSm4
        try simp! only [eq_self]
        refine ⟨x.length - b', by omega, b', t', pushN ns ((f, ps ++ [t]) :: st), ls4 ++ l :: ls, _, rfl, hb4, hrd, hSt4, fun l' hl' => ?_, by omega, hlow4, by rw [pushN_len]; exact hns, rfl⟩
        rcases List.mem_append.mp hl' with h | h
        · have := hls4 l' h; omega
        · exact hls l' h
      · unfold goL at hrd
        rw [hl4] at hrd
        exact bad M4 (by omega) (low (by omega) low3 hSm4) hrd
    | false =>
      have h44 : ¬ ((tlS x).drop b).head? = some 44 := fun h => by have := hb2.mpr h; cases this
      rw [runL, if_neg h4, dif_neg h41, if_neg h44] at hrd
      try simp! only [eq_self]
      exact bad M3 (by omega) low3 hrd
  · refine bad M2 (by omega) (low (by omega) l0 hSm) ?_
    have e : readL (tlS x) = (match leaf (tlS x) 0 with | none => none | some (t, s2, ns) => runL (pushN ns []) t s2) := rfl
    have hl' : leaf (tlS x) 0 = none := hl
    rw [e, hl']
end
section
variable {P : Program} {w : World} {K : PySem.W.Frag} {mg : Str → Option Value} {base : Heap}
def Hit (l : List Nat) (i : Nat) : Prop := (l.drop i).take 3 = [32, 61, 32]
theorem sub_hit {x : Str} {i : Nat} : Builtin.Str.subAt x (Str.ofString " = ") i = true ↔ Hit (tlS x) i := by
  unfold Builtin.Str.subAt Hit
  have e3 : (Str.ofString " = ").length = 3 := rfl
  have e : (Str.ofString " = ").cps = #[32, 61, 32] := by decide +kernel
  rw [e3, e, beq_iff_eq, ← Array.toList_inj, Array.toList_extract, List.extract_eq_take_drop, Nat.add_sub_cancel_left]
  rfl
theorem tlS_sub (x : Str) (i j : Nat) : tlS (Builtin.Str.strSub x i j) = ((tlS x).drop i).take (j - i) := by
  unfold Builtin.Str.strSub
  show (x.cps.extract i j).toList = _
  rw [Array.toList_extract, List.extract_eq_take_drop]
  rfl
theorem mk_sub (x : Str) (i j : Nat) : Builtin.Str.strSub x i j = mkS (((tlS x).drop i).take (j - i)) := by rw [← tlS_sub, mk_tlS]
def sp_rpair : DSp := fun ds M Q E => ∃ x : Str, ds = [.str x] ∧ NameOk x ∧ x.length ≤ 10000 ∧
  ((∃ n : Nat, n + 3 ≤ x.length ∧ Hit (tlS x) n ∧ (∀ i, i < n → ¬ Hit (tlS x) i) ∧ (∀ i, n + 3 ≤ i → ¬ Hit (tlS x) i) ∧
    (∀ t u : Tm, readL ((tlS x).take n) = some t → readL ((tlS x).drop (n + 3)) = some u → Q (.tup [t.d, u.d]) M) ∧ (readL ((tlS x).take n) = none ∨ readL ((tlS x).drop (n + 3)) = none → E (He.ga K "BadText") M)) ∨
   (∀ i, ¬ Hit (tlS x) i) ∧ E (He.ga K "BadText") M)
theorem fn_rpair (T : Top K mg) : DFn P w K mg base (L2.CX P w) 8 "read_pair" ["text"] (sp_rpair (K := K)) := by
  have F_read := fn_read (P := P) (w := w) (base := base) T
  obtain ⟨fd, F⟩ := T.d_read_pair
  have sc := sc_read_pair
  refine DFn.ofX (k := 7) F T.g_read_pair (FunD.bindsN F fun _ _ _ _ _ _ us hl => match us, hl with | [_], _ => rfl) sc ?len ⟨fun EdX => _, fun cdv A outer s H E m0 hr EdX tk po => (
      (dss_cons (ds_set 1 sc.nd (de_bm PySem.F.plainAttrs_str PySem.F.slot_str_split PySem.F.type_str_split dm_split (de_var 0) (da_cons (de_gstrE T.i_BETWEEN) da_nil)))
      (dss_cons (ds_if (dt_cmp (dop_ne hr) (de_cb T.n_len dc_len b_len (da_cons (de_var 1) da_nil)) de_int) (dss_one (ds_raise rfl tk T.e_BadText T.g_BadText)) dss_nil)
      (dss_one (ds_ret (de_tup (da_cons (de_callX tk F_read (hr.mono (by omega)) (da_cons (de_ix hr (de_var 1) de_int) da_nil)) (da_cons (de_callX tk F_read (hr.mono (by omega)) (da_cons (de_ix hr (de_var 1) de_int) da_nil)) da_nil)))))))), ?_⟩
  case len =>
    rintro ds M Q E ⟨x, rfl, _⟩
    rfl
  rintro ds M Qd Ed ⟨x, rfl, hn, hx, hc⟩ hM
  have hxl : x.length = (tlS x).length := TL.len_tl x
  have e256 : (Str.ofString " = ").cps.all (fun c => decide (c < 256)) = true := by decide +kernel
  have e3 : (Str.ofString " = ").length = 3 := rfl
  have sb : ∀ {i : Nat}, ¬ Hit (tlS x) i → Builtin.Str.subAt x (Str.ofString " = ") i = false := fun {i} h => by
    cases hs : Builtin.Str.subAt x (Str.ofString " = ") i with
    | false => rfl
    | true => exact absurd (sub_hit.mp hs) h
  rcases hc with ⟨n, hnl, hit, h0, h2, q, qe⟩ | ⟨hno, qe⟩
  · have hsp := split_one (x := x) (y := Str.ofString " = ") (n := n) e256 (by decide) (by rw [e3]; exact hnl) (fun i hi => sb (h0 i hi)) (sub_hit.mpr hit) (fun i hi _ => sb (h2 i (by rw [e3] at hi; exact hi)))
    rw [e3, mk_sub, mk_sub, List.drop_zero, Nat.sub_zero] at hsp
    have ed : ((tlS x).drop (n + 3)).take (x.length - (n + 3)) = (tlS x).drop (n + 3) := List.take_of_length_le (by rw [List.length_drop]; omega)
    rw [ed] at hsp
    try simp! only [hsp]
    refine ⟨⟨by decide, by show x.length ≤ 16777214; omega⟩, mkS ((tlS x).take n), rfl, nm_sub hn fun c hc => List.mem_of_mem_take hc, ?_, fun t ht => ?_, fun ht => ?_⟩
    · rw [TL.len_tl]; show (tlS (mkS _)).length ≤ 10000; rw [tlS_mk, List.length_take]; omega
    · rw [tlS_mk] at ht
      try simp! only [eq_self]
      refine ⟨mkS ((tlS x).drop (n + 3)), rfl, nm_sub hn fun c hc => List.mem_of_mem_drop hc, ?_, fun u hu => ?_, fun hu => ?_⟩
      · rw [TL.len_tl]; show (tlS (mkS _)).length ≤ 10000; rw [tlS_mk, List.length_drop]; omega
      · rw [tlS_mk] at hu
        try simp! only [eq_self]
        refine Done.old hM (takeK rfl) ?_ (q t u ht hu)
        show okDs _ _ = true
        rw [okDs_iff]
        intro e he
        simp only [List.mem_cons, List.not_mem_nil, or_false] at he
        rcases he with rfl | rfl <;> exact Tm.ok _ _
      · rw [tlS_mk] at hu
        exact DoneX.old hM (takeK rfl) (qe (.inr hu))
    · rw [tlS_mk] at ht
      exact DoneX.old hM (takeK rfl) (qe (.inl ht))
  · have hsp := split_none (x := x) (y := Str.ofString " = ") e256 (fun i _ => sb (hno i))
    try simp! only [hsp]
    exact ⟨⟨by decide, by show x.length ≤ 16777214; omega⟩, DoneX.old hM (takeK rfl) qe⟩
/-- the law's own text -/
theorem join_com : ∀ (x : Str) (l : List Str), tlS (Txt.join (Str.ofString ",") (x :: l)) = tlS x ++ l.flatMap fun y => 44 :: tlS y
  | x, [] => by rw [TL.join_eq]; simp [Str.join]
  | x, y :: l => by
    have ih := join_com y l
    rw [TL.join_eq] at ih ⊢
    have e : Str.join (Str.ofString ",") (x :: y :: l) = x ++ Str.ofString "," ++ Str.join (Str.ofString ",") (y :: l) := rfl
    rw [e, tlS_app, tlS_app, ih]
    have : tlS (Str.ofString ",") = [44] := by decide +kernel
    rw [this]
    simp
theorem join_com_len (x : Str) (l : List Str) : ((x :: l).map fun y => y.length).sum + (x :: l).length = (Txt.join (Str.ofString ",") (x :: l)).length + 1 := by
  have h := congrArg List.length (join_com x l)
  have e : ∀ y : Str, y.length = (tlS y).length := fun y => TL.len_tl y
  have e2 : (l.flatMap fun y => 44 :: tlS y).length = (l.map fun y => y.length).sum + l.length := by
    clear h
    induction l with
    | nil => rfl
    | cons y l ih => rw [List.flatMap_cons, List.length_append, ih, List.length_cons, List.map_cons, List.sum_cons, List.length_cons, e y]; omega
  rw [List.length_append, e2, ← e, ← e] at h
  rw [h, List.map_cons, List.sum_cons, List.length_cons]
  omega
theorem str_ext {a b : Str} (h : tlS a = tlS b) : a = b := by rw [← mk_tlS a, ← mk_tlS b, h]
theorem crst_flat : ∀ ts : List Tm, crst ts = (ts.flatMap fun t => 44 :: cs t) ++ [41]
  | [] => by rw [crst_nil]; rfl
  | t :: ts => by rw [crst_cons, crst_flat ts]; simp
theorem shT_app (f : Str) (t : Tm) (ts : List Tm) : f ++ Str.ofString "(" ++ Txt.join (Str.ofString ",") ((t :: ts).map shT) ++ Str.ofString ")" = shT (.app f (t :: ts)) := by
  refine str_ext ?_
  rw [tlS_app, tlS_app, tlS_app, List.map_cons, join_com, shT_cs, shT_cs, cs_app, cbrk_cons, crst_flat]
  have e1 : tlS (Str.ofString "(") = [40] := by decide +kernel
  have e2 : tlS (Str.ofString ")") = [41] := by decide +kernel
  rw [e1, e2, List.flatMap_map]
  simp only [shT_cs]
  simp
theorem shT_leaf (f : Str) : shT (.app f []) = f := by
  refine str_ext ?_
  rw [shT_cs, cs_app, cbrk_nil, List.append_nil]
theorem shT_var (i : Int) : Str.ofString "?" ++ Str.ofString (toString i) = shT (.var i) := by
  refine str_ext ?_
  rw [shT_cs, cs_var, tlS_app]
  rfl
def sp_ltext (n : Nat) : DSp := fun ds M Q _ => ∃ t : Tm, ds = [t.d] ∧ t.deep < n ∧ TxOk t ∧ Q (.str (shT t)) M
theorem TxOk.arg {f : Str} {ts : List Tm} (h : TxOk (.app f ts)) : ∀ t ∈ ts, TxOk t := fun t ht => ⟨by have := h.z; have := Tm.size_mem ht; rw [Tm.size_app] at *; omega, h.nm.arg t ht, fun b hb => h.bl b (by rw [Tm.flat_app]; exact flats_mem ht hb)⟩
theorem fn_ltext (T : Top K mg) (n : Nat) : DFn P w K mg base CX0 (1 + n) "_law_text" ["_law_term_here"] (sp_ltext n) := by
  induction n with
  | zero =>
    obtain ⟨fd, F⟩ := T.d__law_text
    refine (DFn.nothing F T.g__law_text (FunD.bindsN F fun _ _ _ _ _ _ us hl => match us, hl with | [_], _ => rfl)).imp ?_
    rintro ds M Q E ⟨t, rfl, h, _⟩
    omega
  | succ n ih =>
  have F__law_text := ih
  obtain ⟨fd, F⟩ := T.d__law_text
  have sc := sc__law_text
  refine DFn.ofD (k := 1 + n) F T.g__law_text (FunD.bindsN F fun _ _ _ _ _ _ us hl => match us, hl with | [_], _ => rfl) sc ?len ⟨_, fun cdv A outer s H E m0 hr => (
      (dss_cons (ds_if (dt_e (de_cb T.n_isinstance dc_isi b_isinstance (da_cons (de_var 0) (da_cons (de_ty T.n_int b_int) da_nil)))) (dss_one (ds_ret (de_bin dop_add de_str (de_ct T.n_str dc_str b_str (da_cons (de_var 0) da_nil))))) dss_nil)
      (dss_cons (ds_if (dt_cmp (dop_eq hr) (de_cb T.n_len dc_len b_len (da_cons (de_var 0) da_nil)) de_int) (dss_one (ds_ret (de_ix hr (de_var 0) de_int))) dss_nil)
      (dss_one (ds_ret (de_bin dop_add (de_bin dop_add (de_bin dop_add (de_ix hr (de_var 0) de_int) de_str) (de_bm PySem.F.plainAttrs_str PySem.F.slot_str_join PySem.F.type_str_join dm_join de_str (da_cons (de_lc 1 (own := [("_law_part", 1)]) rfl sc.nd (di_seq (de_slice (de_var 0) (do_some de_int) do_none)) (show blkC ["_law_term_here", "_law_part"] (defScope s__law_text) _ [("_law_part", 1)] = true by decide +kernel) (by decide) (fun _ _ _ _ _ => pg_name (i := 1) sc.nd rfl (by first | exact Or.inl rfl | exact Or.inr rfl)) (fun _ _ _ _ _ => dts_nil) (fun _ _ _ _ _ => (de_call F__law_text (hr.mono (by omega)) pass0 (da_cons (de_var 1) da_nil)))) da_nil))) de_str)))))), ?_⟩
  case len =>
    rintro ds M Q E ⟨t, rfl, _⟩
    rfl
  rintro ds M Qd Ed ⟨t, rfl, hd, hok, q⟩ hM
  cases t with
  | var i =>
    rw [Tm.d_var]
    have hi := hok.bl i (by rw [Tm.flat_var]; exact List.mem_singleton.mpr rfl)
    have hlg := Nat.log2_le_self i.natAbs
    have hlen := shT_len hok
    have he := congrArg (fun x : Str => x.length) (shT_var i)
    rw [str_len] at he
    try simp! only [eq_self]
    refine ⟨by omega, by omega, ?_⟩
    rw [shT_var]
    exact .same q
  | app f ts =>
    rw [Tm.d_app]
    cases ts with
    | nil =>
      rw [shT_leaf] at q
      try simp! only [decide_eq_true (show ((1 : Nat) : Int) = 1 from rfl)]
      exact .same q
    | cons t ts =>
      have hf2 := decide_eq_false (show ¬ ((ts.length + 2 : Nat) : Int) = 1 by omega)
      have hlen := shT_len hok
      have he := congrArg (fun x : Str => x.length) (shT_app f t ts)
      rw [str_len, str_len, str_len] at he
      have ecut : cutD (D.str f :: t.d :: ts.map Tm.d) (some 1) none = (t :: ts).map Tm.d := cut_1
      have l1 : (Str.ofString "(").length = 1 := rfl
      have l2 : (Str.ofString ")").length = 1 := rfl
      have l3 : (Str.ofString ",").length = 1 := rfl
      rw [Tm.deep_app] at hd
      try simp! only [hf2]
      refine ⟨by omega, ?_⟩
      rw [ecut]
      refine lcGo_ind (fun items M' acc => ∃ as bs : List Tm, t :: ts = as ++ bs ∧ items = bs.map Tm.d ∧ M' = M ∧ acc = (as.map shT).map D.str) ?_ ?_ _ _ _ ⟨[], t :: ts, rfl, rfl, rfl, rfl⟩
      · rintro x rest M' acc ⟨as, bs, hab, hi, rfl, rfl⟩ ih2
        refine ⟨trivial, ?_⟩
        cases bs with
        | nil => cases hi
        | cons u bs =>
        rw [List.map_cons] at hi
        injection hi with hx hr
        subst hx hr
        have hu : u ∈ t :: ts := by rw [hab]; simp
        have h1 := Tm.deep_mem hu
        have hAl := congrArg List.length hab
        rw [List.length_append, List.length_cons, List.length_cons] at hAl
        have hz := hok.z
        rw [Tm.size_app] at hz
        have hts := len_sizes (t :: ts)
        rw [List.length_cons] at hts
        try simp! only [eq_self]
        refine ⟨u, rfl, by omega, hok.arg u hu, ?_⟩
        try simp! only [eq_self]
        refine ⟨by omega, ih2 _ _ ⟨as ++ [u], bs, by rw [hab]; simp, rfl, rfl, ?_⟩⟩
        rw [List.map_append, List.map_append]
        rfl
      · rintro M' acc ⟨as, bs, hab, hi, rfl, rfl⟩
        refine ⟨trivial, ?_⟩
        cases bs with
        | cons _ _ => cases hi
        | nil =>
        rw [List.append_nil] at hab
        rw [← hab]
        have hj := join_com_len (shT t) (ts.map shT)
        have em : (t :: ts).map shT = shT t :: ts.map shT := rfl
        rw [em] at he ⊢
        have hsd := strsD_map (shT t :: ts.map shT)
        have hT := shT_app f t ts
        rw [em] at hT
        generalize shT t :: ts.map shT = ys at he hj hsd hT
        try simp! only [hsd]
        refine ⟨by rw [l3]; omega, by rw [str_len]; omega, by rw [str_len, str_len]; omega, ?_⟩
        rw [hT]
        exact Done.old hM (takeK rfl) rfl q
end
section
variable {P : Program} {w : World} {K : PySem.W.Frag} {mg : Str → Option Value} {base : Heap}
theorem flats_get {b : Int} : ∀ {ts : List Tm}, b ∈ Tm.flats ts → ∃ u ∈ ts, b ∈ u.flat
  | [], h => by rw [Tm.flats_nil] at h; cases h
  | t :: ts, h => by
    rw [Tm.flats_cons] at h
    rcases List.mem_append.mp h with h | h
    · exact ⟨t, List.mem_cons_self .., h⟩
    · obtain ⟨u, hu, hb⟩ := flats_get h
      exact ⟨u, List.mem_cons_of_mem _ hu, hb⟩
theorem cs_plain : ∀ t : Tm, Rdb t → ∀ c ∈ cs t, c ≠ 32 ∧ c < 128 := by
  refine Tm.ind (fun i => ?_) (fun f ts ih => ?_)
  · intro h c hc
    cases h with
    | var hi =>
    obtain ⟨n, rfl⟩ : ∃ n : Nat, i = (n : Int) := ⟨i.toNat, by omega⟩
    rw [cs_var] at hc
    rcases List.mem_cons.mp hc with rfl | hc
    · decide
    · have := fig_rng n (by omega) c hc; omega
  · intro h c hc
    cases h with
    | app hf _ hts =>
    rw [cs_app] at hc
    rcases List.mem_append.mp hc with hc | hc
    · have := hf.2.2 c hc; omega
    · cases ts with
      | nil => rw [cbrk_nil] at hc; cases hc
      | cons t ts =>
        rw [cbrk_cons, crst_flat] at hc
        simp only [List.mem_cons, List.mem_append, List.mem_flatMap, List.not_mem_nil, or_false] at hc
        rcases hc with rfl | hc | ⟨u, hu, rfl | hc⟩ | rfl
        · decide
        · exact ih t (List.mem_cons_self ..) (hts t (List.mem_cons_self ..)) c hc
        · decide
        · exact ih u (List.mem_cons_of_mem _ hu) (hts u (List.mem_cons_of_mem _ hu)) c hc
        · decide
theorem ok_codes {x : Str} (h : ∀ c ∈ tlS x, c < 128) : NameOk x := by
  show x.cps.all (fun c => decide (c < 1114112)) = true
  rw [← Array.all_toList, List.all_eq_true]
  intro c hc
  have := h c hc
  simp
  omega
/-- a term that the law writes -/
structure Wr (t : Tm) : Prop where
  r : Rdb t
  d : t.deep ≤ 60
  z : t.size ≤ 200
theorem Rdb.nm {t : Tm} (h : Rdb t) : t.Nm GoodName := by
  induction h with
  | var _ => exact .var
  | app h1 _ _ ih => exact .app h1 ih
theorem Rdb.bl {t : Tm} : Rdb t → ∀ b ∈ t.flat, 0 ≤ b ∧ b ≤ 999 := by
  refine Tm.ind (P := fun t => Rdb t → ∀ b ∈ t.flat, 0 ≤ b ∧ b ≤ 999) (fun i => ?_) (fun f ts ih => ?_) t
  · intro h b hb
    cases h with
    | var hi =>
    rw [Tm.flat_var] at hb
    rw [List.mem_singleton.mp hb]
    exact hi
  · intro h b hb
    cases h with
    | app _ _ hts =>
    rw [Tm.flat_app] at hb
    obtain ⟨u, hu, hb⟩ := flats_get hb
    exact ih u hu (hts u hu) b hb
theorem Wr.tx {t : Tm} (h : Wr t) : TxOk t := by
  refine ⟨by have := h.z; omega, ?_, h.r.bl⟩
  have := h.r.nm
  induction this with
  | var => exact .var
  | @app f ts hf _ ih =>
    exact .app (by have := hf.2.1; have e : f.length = (tlS f).length := TL.len_tl f; omega) fun u hu => ih u hu (by
      cases h.r with
      | app _ _ hts => exact ⟨hts u hu, by have := h.d; rw [Tm.deep_app] at this; have := Tm.deep_mem hu; omega, by have := h.z; rw [Tm.size_app] at this; have := Tm.size_mem hu; omega⟩)
theorem Wr.len {t : Tm} (h : Wr t) : (shT t).length ≤ 4000 ∧ NameOk (shT t) := by
  have hx := h.tx
  have h1 := pcs_len t hx.nm hx.bl
  have h2 := h.z
  refine ⟨?_, ok_codes fun c hc => (cs_plain t h.r c (by rw [← shT_cs]; exact hc)).2⟩
  unfold shT
  rw [join_len]
  omega
theorem Rdb.over {ss : List Sg} {vs : List Int} (hs : GoodSigns ss) (hv : ∀ v ∈ vs, 0 ≤ v ∧ v ≤ 999) {t : Tm} (h : Over ss vs t) : Rdb t := by
  induction h with
  | var hi => exact .var (hv _ hi)
  | @app s ts hm hl _ ih => exact .app (hs.names s hm) (by rw [hl]; exact hs.ar s hm) ih
theorem Nm_ok {t : Tm} (h : t.Nm GoodName) : t.Nm NameOk := by
  induction h with
  | var => exact .var
  | app hf _ ih => exact .app (ok_codes fun c hc => by have := hf.2.2 c hc; omega) ih
end
section
variable {P : Program} {w : World} {K : PySem.W.Frag} {mg : Str → Option Value} {base : Heap}
def sp_same (n : Nat) : DSp := fun ds M Q _ => ∃ (t : Tm), ds = [t.d, t.d] ∧ t.deep < n ∧ t.size ≤ 10000000 ∧ t.Nm NameOk ∧ Q (.bl true) M
theorem fn_same (T : Top K mg) (n : Nat) : DFn P w K mg base CX0 n "_law_same" ["_law_found", "_law_due_here"] (sp_same n) := by
  induction n with
  | zero =>
    obtain ⟨fd, F⟩ := T.d__law_same
    refine (DFn.nothing F T.g__law_same (FunD.bindsN F fun _ _ _ _ _ _ us hl => match us, hl with | [_, _], _ => rfl)).imp ?_
    rintro ds M Q E ⟨t, rfl, h, _⟩
    omega
  | succ n ih =>
  have F__law_same := ih
  obtain ⟨fd, F⟩ := T.d__law_same
  have sc := sc__law_same
  refine DFn.ofD (k := n) F T.g__law_same (FunD.bindsN F fun _ _ _ _ _ _ us hl => match us, hl with | [_, _], _ => rfl) sc ?len ⟨_, fun cdv A outer s H E m0 hr => (
      (dss_cons (ds_if (dt_e (de_cb T.n_isinstance dc_isi b_isinstance (da_cons (de_var 1) (da_cons (de_ty T.n_int b_int) da_nil)))) (dss_one (ds_ret (de_and (de_cb T.n_isinstance dc_isi b_isinstance (da_cons (de_var 0) (da_cons (de_ty T.n_int b_int) da_nil))) (de_and (de_not (de_cb T.n_isinstance dc_isi b_isinstance (da_cons (de_var 0) (da_cons (de_ty T.n_bool b_bool) da_nil)))) (de_one (de_cmp (dop_eq hr) (de_var 0) (de_var 1))))))) dss_nil)
      (dss_cons (ds_if (dt_w (dw_or (dt_not (dt_e (de_cb T.n_isinstance dc_isi b_isinstance (da_cons (de_var 0) (da_cons (de_ty T.n_tuple b_tuple) da_nil))))) (dw_or1 (dt_cmp (dop_ne hr) (de_cb T.n_len dc_len b_len (da_cons (de_var 0) da_nil)) (de_cb T.n_len dc_len b_len (da_cons (de_var 1) da_nil)))))) (dss_one (ds_ret de_bl)) dss_nil)
      (dss_cons (ds_if (dt_w (dw_or (dt_not (dt_e (de_cb T.n_isinstance dc_isi b_isinstance (da_cons (de_ix hr (de_var 0) de_int) (da_cons (de_ty T.n_str b_str) da_nil))))) (dw_or1 (dt_cmp (dop_ne hr) (de_ix hr (de_var 0) de_int) (de_ix hr (de_var 1) de_int))))) (dss_one (ds_ret de_bl)) dss_nil)
      (dss_cons (ds_for PassesOwn.never rfl (di_zip T.n_zip (da_cons (de_slice (de_var 0) (do_some de_int) do_none) (da_cons (de_slice (de_var 1) (do_some de_int) do_none) da_nil))) (dg_tup (n := 2) rfl (dgs_cons (dg_name 2 sc.nd) (dgs_cons (dg_name 3 sc.nd) dgs_nil))) (dss_one (ds_if (dt_not (dt_e (de_call F__law_same (hr.mono (by omega)) pass0 (da_cons (de_var 2) (da_cons (de_var 3) da_nil))))) (dss_one (ds_ret de_bl)) dss_nil)))
      (dss_one (ds_ret de_bl))))))), ?_⟩
  case len =>
    rintro ds M Q E ⟨t, rfl, _⟩
    rfl
  rintro ds M Qd Ed ⟨t, rfl, hd, hsz, hn, q⟩ hM
  cases t with
  | var i =>
    rw [Tm.d_var]
    try simp! only [eq_self]
    exact .same q
  | app g ts =>
    rw [Tm.d_app]
    rw [Tm.deep_app] at hd
    rw [Tm.size_app] at hsz
    cases hn with
    | app hg hns =>
    try simp! only [eq_self]
    refine qNe_ss hg hg fun b hb => ?_
    have hb' : b = false := by
      cases b with
      | false => rfl
      | true => exact absurd rfl (hb.mp rfl)
    subst hb'
    rw [cut_1, zip_self]
    try simp! only [eq_self]
    refine forGo_ind (fun items r M' => ∃ (ps ss : List Tm) (u v : Option D), ts = ps ++ ss ∧ items = ss.map (fun t => D.tup [t.d, t.d]) ∧ r = [some (D.tup (D.str g :: List.map Tm.d ts)), some (D.tup (D.str g :: List.map Tm.d ts)), u, v] ∧ M' = M) ?_ ?_ _ _ _
      ⟨[], ts, none, none, rfl, by rw [List.map_map, List.map_map]; rfl, rfl, rfl⟩
    · rintro x rest r M' ⟨ps, ss, u, v, hps, hi, rfl, rfl⟩ ih'
      refine ⟨trivial, ?_⟩
      cases ss with
      | nil => cases hi
      | cons t ss =>
      simp only [List.map_cons] at hi
      injection hi with hx hr
      subst hx hr
      have ht : t ∈ ts := by rw [hps]; simp
      have h1 := Tm.deep_mem ht
      have h2 := Tm.size_mem ht
      try simp! only [eq_self]
      refine ⟨t, rfl, by omega, by omega, hns t ht, ?_⟩
      try simp! only [eq_self]
      exact ih' _ _ ⟨ps ++ [t], ss, some t.d, some t.d, by rw [hps, List.append_assoc]; rfl, rfl, rfl, rfl⟩
    · rintro r M' ⟨ps, ss, u, v, hps, hi, rfl, rfl⟩
      refine ⟨trivial, ?_⟩
      try simp! only [eq_self]
      exact .same q
end
section
mutual
def tk : Nat → List Nat → Nat → Option (Tm × List Nat)
  | 0, _, _ => none
  | n + 1, s, d =>
    if s.head? = some 63 then (blankOf (s.tail.takeWhile figB)).map fun i => (.var i, s.tail.dropWhile figB)
    else if nmB (s.takeWhile letB) then
      if (s.dropWhile letB).head? = some 40 then lp n d (mkS (s.takeWhile letB)) [] (s.dropWhile letB)
      else some (.app (mkS (s.takeWhile letB)) [], s.dropWhile letB)
    else none
def lp : Nat → Nat → Str → List Tm → List Nat → Option (Tm × List Nat)
  | 0, _, _, _, _ => none
  | n + 1, d, f, ps, s =>
    if s.head? = some 44 ∨ (s.head? = some 40 ∧ ps = []) then
      match tk n s.tail (d + 1) with
      | none => none
      | some (t, s') => if 59 < d ∨ ps.length = 4 then none else lp n d f (ps ++ [t]) s'
    else if s.head? = some 41 then some (.app f ps, s.tail) else none
end
theorem tail_of {s : List Nat} {c : Nat} (h : s.head? = some c) : s = c :: s.tail := by
  cases s with
  | nil => cases h
  | cons x s => injection h with h; rw [h]; rfl
/-- what is left is shorter -/
theorem tk_len : ∀ n : Nat, (∀ (s : List Nat) (d : Nat) (t : Tm) (s' : List Nat), tk n s d = some (t, s') → s'.length < s.length) ∧ ∀ (d : Nat) (f : Str) (ps : List Tm) (s : List Nat) (t : Tm) (s' : List Nat), lp n d f ps s = some (t, s') → s'.length < s.length
  | 0 => ⟨fun s d t s' h => (by rw [tk] at h; cases h), fun d f ps s t s' h => (by rw [lp] at h; cases h)⟩
  | n + 1 => by
    obtain ⟨i1, i2⟩ := tk_len n
    refine ⟨fun s d t s' h => ?_, fun d f ps s t s' h => ?_⟩
    · rw [tk] at h
      split at h
      · next h1 =>
        obtain ⟨i, _, e⟩ := Option.map_eq_some_iff.mp h
        injection e with _ e
        have := drop_len figB s.tail
        have := tail_lt h1
        rw [← e]; omega
      · split at h
        · next h2 =>
          have hd := drop_len letB s
          have hsum : (s.takeWhile letB).length + (s.dropWhile letB).length = s.length := by rw [← List.length_append, List.takeWhile_append_dropWhile]
          have h1 : 1 ≤ (s.takeWhile letB).length := by unfold nmB at h2; simp at h2; exact h2.1
          split at h
          · have := i2 _ _ _ _ _ _ h; omega
          · injection h with h
            injection h with _ h
            rw [← h]; omega
        · cases h
    · rw [lp] at h
      split at h
      · next h1 =>
        have hs : s.tail.length < s.length := by
          rcases h1 with h1 | h1
          · exact tail_lt h1
          · exact tail_lt h1.1
        split at h
        · cases h
        · next t1 s1 h2 =>
          have := i1 _ _ _ _ h2
          split at h
          · cases h
          · have := i2 _ _ _ _ _ _ h; omega
      · split at h
        · next h3 =>
          injection h with h
          injection h with _ h
          rw [← h]
          exact tail_lt h3
        · cases h
theorem tail_suf (s : List Nat) : s.tail <:+ s := List.tail_suffix s
/-- what is left is the end of it -/
theorem tk_suf : ∀ n : Nat, (∀ (s : List Nat) (d : Nat) (t : Tm) (s' : List Nat), tk n s d = some (t, s') → s' <:+ s) ∧ ∀ (d : Nat) (f : Str) (ps : List Tm) (s : List Nat) (t : Tm) (s' : List Nat), lp n d f ps s = some (t, s') → s' <:+ s
  | 0 => ⟨fun s d t s' h => (by rw [tk] at h; cases h), fun d f ps s t s' h => (by rw [lp] at h; cases h)⟩
  | n + 1 => by
    obtain ⟨i1, i2⟩ := tk_suf n
    refine ⟨fun s d t s' h => ?_, fun d f ps s t s' h => ?_⟩
    · rw [tk] at h
      split at h
      · obtain ⟨i, _, e⟩ := Option.map_eq_some_iff.mp h
        injection e with _ e
        rw [← e]
        exact (List.dropWhile_suffix figB).trans (tail_suf s)
      · split at h
        · split at h
          · exact (i2 _ _ _ _ _ _ h).trans (List.dropWhile_suffix letB)
          · injection h with h
            injection h with _ h
            rw [← h]
            exact List.dropWhile_suffix letB
        · cases h
    · rw [lp] at h
      split at h
      · split at h
        · cases h
        · next t1 s1 h2 =>
          split at h
          · cases h
          · exact (i2 _ _ _ _ _ _ h).trans ((i1 _ _ _ _ h2).trans (tail_suf s))
      · split at h
        · injection h with h
          injection h with _ h
          rw [← h]
          exact tail_suf s
        · cases h
/-- the room does not matter -/
theorem tk_irr : ∀ n m : Nat, (∀ (s : List Nat) (d : Nat), 2 * s.length + 2 ≤ n → 2 * s.length + 2 ≤ m → tk n s d = tk m s d) ∧ ∀ (d : Nat) (f : Str) (ps : List Tm) (s : List Nat), 2 * s.length + 1 ≤ n → 2 * s.length + 1 ≤ m → lp n d f ps s = lp m d f ps s
  | 0, _ => ⟨fun s d h _ => by omega, fun d f ps s h _ => by omega⟩
  | _ + 1, 0 => ⟨fun s d _ h => by omega, fun d f ps s _ h => by omega⟩
  | n + 1, m + 1 => by
    obtain ⟨i1, i2⟩ := tk_irr n m
    refine ⟨fun s d h1 h2 => ?_, fun d f ps s h1 h2 => ?_⟩
    · have hd := drop_len letB s
      rw [tk, tk, i2 d _ [] (s.dropWhile letB) (by omega) (by omega)]
    · rw [lp, lp]
      split
      · next h3 =>
        have hs : s.tail.length < s.length := by
          rcases h3 with h3 | h3
          · exact tail_lt h3
          · exact tail_lt h3.1
        rw [i1 s.tail (d + 1) (by omega) (by omega)]
        cases e : tk m s.tail (d + 1) with
        | none => rfl
        | some q =>
          obtain ⟨t, s'⟩ := q
          have := (tk_len m).1 _ _ _ _ e
          dsimp only
          rw [i2 d f (ps ++ [t]) s' (by omega) (by omega)]
      · rfl
/-- the program's way and the law's -/
theorem go_tk : ∀ n : Nat, (∀ (s : List Nat) (st : List (Str × List Tm)), 2 * s.length + 2 ≤ n → st.length ≤ 60 → goL st s = (tk n s st.length).bind fun q => runL st q.1 q.2) ∧
    ∀ (f : Str) (ps : List Tm) (t : Tm) (s : List Nat) (st : List (Str × List Tm)), 2 * s.length + 1 ≤ n → st.length ≤ 59 → ps.length ≤ 3 → runL ((f, ps) :: st) t s = (lp n st.length f (ps ++ [t]) s).bind fun q => runL st q.1 q.2
  | 0 => ⟨fun s st h _ => by omega, fun f ps t s st h _ _ => by omega⟩
  | n + 1 => by
    obtain ⟨i1, i2⟩ := go_tk n
    refine ⟨fun s st h1 h2 => ?_, fun f ps t s st h1 h2 h3 => ?_⟩
    · have hd := drop_len letB s
      rw [tk]
      unfold goL
      rw [leaf]
      by_cases h63 : s.head? = some 63
      · rw [if_pos h63, if_pos h63]
        cases blankOf (s.tail.takeWhile figB) with
        | none => rfl
        | some i => rfl
      · rw [if_neg h63, if_neg h63]
        cases hnb : nmB (s.takeWhile letB) with
        | true =>
          rw [if_pos rfl, if_pos rfl]
          by_cases h40 : (s.dropWhile letB).head? = some 40
          · rw [dif_pos h40, if_pos h40]
            obtain ⟨r, hr⟩ : ∃ r, s.dropWhile letB = 40 :: r := ⟨_, tail_of h40⟩
            have hrl : r.length + 1 ≤ s.length := by have := congrArg List.length hr; rw [List.length_cons] at this; omega
            rw [hr]
            cases n with
            | zero => omega
            | succ n =>
            have elp : lp (n + 1) st.length (mkS (s.takeWhile letB)) [] (40 :: r) = (match tk n r (st.length + 1) with | none => none | some (t, s') => if 59 < st.length ∨ ([] : List Tm).length = 4 then none else lp n st.length (mkS (s.takeWhile letB)) ([] ++ [t]) s') := by
              rw [lp, if_pos (.inr ⟨rfl, rfl⟩)]
              rfl
            rw [elp]
            show _ = ((match tk n r (st.length + 1) with | none => none | some (t, s') => if 59 < st.length ∨ ([] : List Tm).length = 4 then none else lp n st.length (mkS (s.takeWhile letB)) ([] ++ [t]) s') : Option (Tm × List Nat)).bind fun q => runL st q.1 q.2
            by_cases h60 : st.length = 60
            · rw [if_pos h60]
              cases tk n r (st.length + 1) with
              | none => rfl
              | some q =>
                obtain ⟨t, s'⟩ := q
                dsimp only
                rw [if_pos (.inl (by omega))]
                rfl
            · rw [if_neg h60]
              have e1 : (match (leaf (40 :: r).tail (st.length + 1)).map (fun q => ((q.1, q.2.1, mkS (s.takeWhile letB) :: q.2.2) : Tm × List Nat × List Str)) with | none => none | some (t, s2, ns) => runL (pushN ns st) t s2) = goL ((mkS (s.takeWhile letB), []) :: st) r := by
                unfold goL
                show (match (leaf r (st.length + 1)).map (fun q => ((q.1, q.2.1, mkS (s.takeWhile letB) :: q.2.2) : Tm × List Nat × List Str)) with | none => none | some (t, s2, ns) => runL (pushN ns st) t s2) = (match leaf r (st.length + 1) with | none => none | some (t, s2, ns) => runL (pushN ns ((mkS (s.takeWhile letB), []) :: st)) t s2)
                cases leaf r (st.length + 1) with
                | none => rfl
                | some q => rfl
              refine e1.trans ?_
              have e2 := i1 r ((mkS (s.takeWhile letB), []) :: st) (by omega) (by rw [List.length_cons]; omega)
              rw [List.length_cons, (tk_irr (n + 1) n).1 r _ (by omega) (by omega)] at e2
              rw [e2]
              cases e3 : tk n r (st.length + 1) with
              | none => rfl
              | some q =>
                obtain ⟨t, s'⟩ := q
                have hl := (tk_len n).1 _ _ _ _ e3
                dsimp only
                rw [if_neg (by rintro (h | h); omega; cases h)]
                have e4 := i2 (mkS (s.takeWhile letB)) [] t s' st (by omega) (by omega) (by decide)
                rw [(tk_irr (n + 1) n).2 _ _ _ s' (by omega) (by omega)] at e4
                exact e4
          · rw [dif_neg h40, if_neg h40]
            rfl
        | false => rfl
    · rw [lp]
      have hps : ¬ (s.head? = some 40 ∧ ps ++ [t] = []) := fun h => by simp at h
      by_cases h44 : s.head? = some 44
      · rw [if_pos (.inl h44)]
        have es := tail_of h44
        have hsl := tail_lt h44
        generalize s.tail = r at es hsl
        subst es
        rw [run_comma (by omega)]
        have e2 := i1 r ((f, ps ++ [t]) :: st) (by rw [List.length_cons] at h1; omega) (by rw [List.length_cons]; omega)
        rw [List.length_cons] at e2
        rw [e2]
        cases e3 : tk n r (st.length + 1) with
        | none => rfl
        | some q =>
          obtain ⟨t', s'⟩ := q
          have hl := (tk_len n).1 _ _ _ _ e3
          dsimp only
          by_cases h4 : (ps ++ [t]).length = 4
          · rw [if_pos (.inr h4)]
            show runL ((f, ps ++ [t]) :: st) t' s' = none
            rw [runL, if_pos (by omega)]
          · rw [if_neg (by rintro (h | h); omega; exact h4 h)]
            rw [List.length_append, List.length_singleton] at h4
            exact i2 f (ps ++ [t]) t' s' st (by rw [List.length_cons] at h1; omega) h2 (by rw [List.length_append, List.length_singleton]; omega)
      · rw [if_neg (by rintro (h | h); exact h44 h; exact hps h)]
        by_cases h41 : s.head? = some 41
        · rw [if_pos h41]
          have es := tail_of h41
          generalize s.tail = r at es
          subst es
          rw [run_close (by omega)]
          rfl
        · rw [if_neg h41, runL, if_neg (by omega), dif_neg h41, if_neg h44]
          rfl
/-- what the law finds due -/
def dueL (s : List Nat) : Option Tm := (tk (2 * s.length + 2) s 0).bind fun q => if q.2 = [] then some q.1 else none
theorem due_read (s : List Nat) : readL s = dueL s := by
  have e : readL s = goL [] s := rfl
  rw [e, (go_tk (2 * s.length + 2)).1 s [] (Nat.le_refl _) (by decide)]
  unfold dueL
  show (tk (2 * s.length + 2) s 0).bind _ = _
  congr 1
  funext q
  rw [runL]
theorem sizes_app (t1 : Tm) : ∀ ps : List Tm, Tm.sizes (ps ++ [t1]) = Tm.sizes ps + t1.size
  | [] => by rw [List.nil_append, Tm.sizes_cons, Tm.sizes_nil]; omega
  | p :: ps => by rw [List.cons_append, Tm.sizes_cons, Tm.sizes_cons, sizes_app t1 ps]; omega
/-- what is found is a good term, and small -/
theorem tk_good : ∀ n : Nat, (∀ (s : List Nat) (d : Nat) (t : Tm) (s' : List Nat), tk n s d = some (t, s') → d ≤ 60 → Rdb t ∧ t.size + s'.length ≤ s.length ∧ d + t.deep ≤ 61) ∧
    ∀ (d : Nat) (f : Str) (ps : List Tm) (s : List Nat) (t : Tm) (s' : List Nat), lp n d f ps s = some (t, s') → d ≤ 60 → GoodName f → (∀ p ∈ ps, Rdb p ∧ d + 1 + p.deep ≤ 61) → ps.length ≤ 4 → Rdb t ∧ t.size + s'.length ≤ s.length + Tm.sizes ps ∧ d + t.deep ≤ 61
  | 0 => ⟨fun s d t s' h => (by rw [tk] at h; cases h), fun d f ps s t s' h => (by rw [lp] at h; cases h)⟩
  | n + 1 => by
    obtain ⟨i1, i2⟩ := tk_good n
    refine ⟨fun s d t s' h hd => ?_, fun d f ps s t s' h hd hf hps hpl => ?_⟩
    · rw [tk] at h
      split at h
      · next h1 =>
        obtain ⟨i, hi, e⟩ := Option.map_eq_some_iff.mp h
        obtain ⟨m, hm, rfl, _⟩ := blank_fig (fun c hc => tw_mem hc) hi
        injection e with e1 e
        have h2 := drop_len figB s.tail
        have h3 := tail_lt h1
        rw [← e, ← e1]
        refine ⟨.var (by omega), by rw [Tm.size_var]; omega, by rw [Tm.deep_var]; omega⟩
      · split at h
        · next h2 =>
          have hdl := drop_len letB s
          have hsum : (s.takeWhile letB).length + (s.dropWhile letB).length = s.length := by rw [← List.length_append, List.takeWhile_append_dropWhile]
          have hgn : GoodName (mkS (s.takeWhile letB)) := by
            unfold nmB at h2
            simp at h2
            refine ⟨by rw [tlS_mk]; exact h2.1, by rw [tlS_mk]; exact h2.2, fun c hc => ?_⟩
            rw [tlS_mk] at hc
            have := tw_mem hc
            unfold letB at this
            simpa using this
          have h1 : 1 ≤ (s.takeWhile letB).length := by have := hgn.1; rwa [tlS_mk] at this
          split at h
          · obtain ⟨a1, a2, a3⟩ := i2 _ _ _ _ _ _ h hd hgn (fun p hp => by cases hp) (by decide)
            rw [Tm.sizes_nil] at a2
            exact ⟨a1, by omega, a3⟩
          · injection h with h
            injection h with e1 e2
            rw [← e1, ← e2]
            refine ⟨.app hgn (by decide) (fun t ht => by cases ht), by rw [Tm.size_app, Tm.sizes_nil]; omega, by rw [Tm.deep_app, Tm.deeps_nil]; omega⟩
        · cases h
    · rw [lp] at h
      split at h
      · next h1 =>
        have hs0 : s.tail.length + 1 ≤ s.length := by
          rcases h1 with h1 | h1
          · exact tail_lt h1
          · exact tail_lt h1.1
        split at h
        · cases h
        · next t1 s1 h2 =>
          split at h
          · cases h
          · next hno =>
            have hd59 : d ≤ 59 := by omega
            have hp4 : ps.length ≠ 4 := fun h => hno (.inr h)
            obtain ⟨b1, b2, b3⟩ := i1 _ _ _ _ h2 (by omega)
            obtain ⟨a1, a2, a3⟩ := i2 _ _ _ _ _ _ h hd hf (fun p hp => by
              rcases List.mem_append.mp hp with hp | hp
              · exact hps p hp
              · rw [List.mem_singleton.mp hp]; exact ⟨b1, b3⟩) (by rw [List.length_append, List.length_singleton]; omega)
            rw [sizes_app] at a2
            exact ⟨a1, by omega, a3⟩
      · split at h
        · next h3 =>
          injection h with h
          injection h with e1 e2
          have := tail_lt h3
          rw [← e1, ← e2]
          refine ⟨.app hf hpl fun p hp => (hps p hp).1, by rw [Tm.size_app]; omega, ?_⟩
          rw [Tm.deep_app]
          have : Tm.deeps ps ≤ 60 - d := Tm.deeps_le fun p hp => by have := (hps p hp).2; omega
          omega
        · cases h
theorem read_good {s : List Nat} {t : Tm} (h : readL s = some t) : Rdb t ∧ t.size ≤ s.length ∧ t.deep ≤ 61 := by
  rw [due_read] at h
  unfold dueL at h
  obtain ⟨q, hq, e⟩ := Option.bind_eq_some_iff.mp h
  obtain ⟨t', s'⟩ := q
  split at e
  · injection e with e
    obtain ⟨a1, a2, a3⟩ := (tk_good _).1 _ _ _ _ hq (by decide)
    have e : t' = t := e
    subst e
    exact ⟨a1, by omega, by omega⟩
  · cases e
end
section
theorem cutL4 {A0 A1 A2 A3 R : DTS} {D : DEnds} {r : Rho} {M : Mem} (W : Rho → Mem → Prop) (h2 : ∀ r' M', W r' M' → R D r' M') (h1 : ∀ R', (∀ r' M', W r' M' → R' D r' M') → dSeq A0 (dSeq A1 (dSeq A2 (dSeq A3 R'))) D r M) : dSeq A0 (dSeq A1 (dSeq A2 (dSeq A3 R))) D r M := h1 R h2
end
section
def OkC (s : List Nat) : Prop := (∀ c ∈ s, c < 1114112) ∧ s.length ≤ 10000
theorem OkC.nm {s : List Nat} (h : OkC s) : NameOk (mkS s) := by
  show (s.toArray).all (fun c => decide (c < 1114112)) = true
  rw [← Array.all_toList, List.all_eq_true]
  intro c hc
  simpa using h.1 c (by simpa using hc)
theorem OkC.sub {s r : List Nat} (h : OkC s) (hr : r.Sublist s) : OkC r := ⟨fun c hc => h.1 c (hr.subset hc), Nat.le_trans hr.length_le h.2⟩
theorem mk_len (s : List Nat) : (mkS s).length = s.length := by rw [TL.len_tl]; show (tlS (mkS s)).length = _; rw [tlS_mk]
theorem cut_pre {s : List Nat} {k : Nat} : cutS (mkS s) none (some (k : Int)) = mkS (s.take k) := by
  unfold cutS
  rw [sIx_nat, mk_len]
  have e : HT.sIx s.length 0 none = 0 := rfl
  rw [e, Nat.sub_zero, List.drop_zero]
  have e2 : (mkS s).cps.toList = s := tlS_mk s
  rw [e2]
  show mkS (s.take (min k s.length)) = _
  by_cases h : k ≤ s.length
  · rw [show min k s.length = k by omega]
  · rw [show min k s.length = s.length by omega, List.take_of_length_le (Nat.le_refl _), List.take_of_length_le (by omega)]
theorem cut_suf {s : List Nat} {k : Nat} : cutS (mkS s) (some (k : Int)) none = mkS (s.drop k) := by
  unfold cutS
  rw [sIx_nat, mk_len]
  have e : HT.sIx s.length s.length none = s.length := rfl
  have e2 : (mkS s).cps.toList = s := tlS_mk s
  rw [e, e2]
  show mkS ((s.drop (min k s.length)).take (s.length - min k s.length)) = _
  by_cases h : k ≤ s.length
  · rw [show min k s.length = k by omega, List.take_of_length_le (by rw [List.length_drop]; omega)]
  · rw [show min k s.length = s.length by omega, List.drop_of_length_le (Nat.le_refl _), List.drop_of_length_le (by omega), List.take_nil]
/-- the first sign -/
theorem use_first {s : List Nat} {c : Nat} {y : Str} {M : Mem} {Q : QD} (hs : OkC s) (hy : NameOk y) (ey : mkS [c] = y) (k : ∀ b1 : Bool, (b1 = true ↔ s.head? = some c) → Q (.bl b1) M) : qEq (D.str (mkS (s.take 1))) (D.str y) M Q :=
  qEq_ss (hs.sub (List.take_sublist ..)).nm hy fun b1 hb1 => k b1 (by rw [hb1, ← ey, head_sign])
theorem use_firstN {s : List Nat} {c : Nat} {y : Str} {M : Mem} {Q : QD} (hs : OkC s) (hy : NameOk y) (ey : mkS [c] = y) (k : ∀ b1 : Bool, (b1 = true ↔ ¬ s.head? = some c) → Q (.bl b1) M) : qNe (D.str (mkS (s.take 1))) (D.str y) M Q :=
  qNe_ss (hs.sub (List.take_sublist ..)).nm hy fun b1 hb1 => k b1 (by rw [hb1, ne_eq, ← ey, head_sign])
end
section
variable {P : Program} {w : World} {K : PySem.W.Frag} {mg : Str → Option Value} {base : Heap}
def sp_word : DSp := fun ds M Q _ => ∃ (s : List Nat) (y : Str) (p : Nat → Bool), ds = [.str (mkS s), .str y] ∧ OkC s ∧ (∀ c, decide (c ∈ tlS y) = p c) ∧ Q (.str (mkS (s.takeWhile p))) M
theorem fn_word (T : Top K mg) : DFn P w K mg base CX0 1 "_law_word" ["_law_text_here", "_law_signs_here"] sp_word := by
  obtain ⟨fd, F⟩ := T.d__law_word
  have sc := sc__law_word
  refine DFn.ofD (k := 0) F T.g__law_word (FunD.bindsN F fun _ _ _ _ _ _ us hl => match us, hl with | [_, _], _ => rfl) sc ?len ⟨_, fun cdv A outer s H E m0 hr => (
      (dss_cons (ds_set 2 sc.nd de_int)
      (dss_cons (ds_while PassesOwn.never (dt_w (dw_and (dt_cmp dop_lt (de_var 2) (de_cb T.n_len dc_len b_len (da_cons (de_var 0) da_nil))) (dw_and1 (dt_cmp dop_inSg (de_ix hr (de_var 0) (de_var 2)) (de_var 1))))) (dss_one (ds_set 2 sc.nd (de_bin dop_add (de_var 2) de_int))))
      (dss_one (ds_ret (de_slice (de_var 0) do_none (do_some (de_var 2)))))))), ?_⟩
  case len =>
    rintro ds M Q E ⟨s, y, p, rfl, _⟩
    rfl
  rintro ds M Qd Ed ⟨s, y, p, rfl, hs, hp, q⟩ hM
  have hsl := hs.2
  have hml := mk_len s
  try simp! only [eq_self]
  refine while_ind (fun k r M' => ∃ b : Nat, k = s.length - b ∧ b ≤ s.length ∧ b + ((s.drop b).takeWhile p).length = (s.takeWhile p).length ∧ r = [some (D.str (mkS s)), some (D.str y), some (D.int b)] ∧ M' = M) _ ⟨0, rfl, by omega, by rw [List.drop_zero]; omega, rfl, rfl⟩ ?_
  rintro k r M' ⟨b, rfl, hb, he, rfl, rfl⟩
  by_cases hlt : b < s.length
  · have e1 : decide ((b : Int) < ((mkS s).length : Int)) = true := decide_eq_true (by omega)
    obtain ⟨c, hc⟩ : ∃ c, s[b]? = some c := ⟨_, List.getElem?_eq_getElem (by omega)⟩
    have f1 : atI (mkS s).cps.toList (b : Int) = some c := by
      have e2 : (mkS s).cps.toList = s := tlS_mk s
      rw [e2]
      exact atI_nat hc
    have hdrop : s.drop b = c :: s.drop (b + 1) := by
      rw [List.drop_eq_getElem_cons (by omega)]
      congr 1
      exact (List.getElem?_eq_some_iff.mp hc).2
    have hpc : decide (c ∈ y.cps.toList) = p c := hp c
    try simp! only [e1, f1, hpc]
    refine ⟨by omega, ?_⟩
    cases hq : p c with
    | true =>
      rw [hdrop, List.takeWhile_cons, hq, if_pos rfl, List.length_cons] at he
      dsimp only
      try simp! only [eq_self]
      exact ⟨by omega, s.length - (b + 1), by omega, b + 1, rfl, by omega, by omega, by rw [Int.natCast_add]; rfl, trivial⟩
    | false =>
      rw [hdrop, List.takeWhile_cons, hq] at he
      have he : b = (s.takeWhile p).length := he
      dsimp only
      try simp! only [cut_pre]
      rw [he, (drop_take p s).1]
      exact ⟨by omega, by omega, .same q⟩
  · have e1 : decide ((b : Int) < ((mkS s).length : Int)) = false := decide_eq_false (by omega)
    rw [List.drop_of_length_le (show s.length ≤ b by omega)] at he
    have he : b = (s.takeWhile p).length := he
    try simp! only [e1, cut_pre]
    rw [he, (drop_take p s).1]
    exact ⟨by omega, by omega, .same q⟩
def tkD : Option (Tm × List Nat) → D
  | none => .non
  | some (t, s) => .tup [t.d, .str (mkS s)]
def sp_taken (n : Nat) : DSp := fun ds M Q _ => ∃ (s : List Nat) (d : Nat), ds = [.str (mkS s), .int d] ∧ OkC s ∧ s.count 40 < n ∧ d + n ≤ 10000 ∧ Q (tkD (tk (2 * s.length + 2) s d)) M
theorem fn_taken (T : Top K mg) (n : Nat) : DFn P w K mg base CX0 (2 + n) "_law_taken" ["_law_text_here", "_law_deep"] (sp_taken n) := by
  have F__law_word := fn_word (P := P) (w := w) (base := base) T
  induction n with
  | zero =>
    obtain ⟨fd, F⟩ := T.d__law_taken
    refine (DFn.nothing F T.g__law_taken (FunD.bindsN F fun _ _ _ _ _ _ us hl => match us, hl with | [_, _], _ => rfl)).imp ?_
    rintro ds M Q E ⟨s, d, rfl, _, h, _⟩
    omega
  | succ n ih =>
  have F__law_taken := ih
  obtain ⟨fd, F⟩ := T.d__law_taken
  have sc := sc__law_taken
  refine DFn.ofD (k := 2 + n) F T.g__law_taken (FunD.bindsN F fun _ _ _ _ _ _ us hl => match us, hl with | [_, _], _ => rfl) sc ?len ⟨_, fun cdv A outer s H E m0 hr => (
      (dss_cons (ds_if (dt_cmp (dop_eq hr) (de_slice (de_var 0) do_none (do_some de_int)) de_str) (dss_cons (ds_set 2 sc.nd (de_call F__law_word (hr.mono (by omega)) pass0 (da_cons (de_slice (de_var 0) (do_some de_int) do_none) (da_cons de_str da_nil))))
      (dss_cons (ds_if (dt_w (dw_or (dt_cmp (dop_eq hr) (de_var 2) de_str) (dw_or (dt_cmp dop_gt (de_cb T.n_len dc_len b_len (da_cons (de_var 2) da_nil)) de_int) (dw_or1 (dt_w (dw_and (dt_cmp (dop_eq hr) (de_ix hr (de_var 2) de_int) de_str) (dw_and1 (dt_cmp (dop_ne hr) (de_var 2) de_str)))))))) (dss_one (ds_ret de_non)) dss_nil)
      (dss_one (ds_ret (de_tup (da_cons (de_ct T.n_int dc_int b_int (da_cons (de_var 2) da_nil)) (da_cons (de_slice (de_var 0) (do_some (de_bin dop_add de_int (de_cb T.n_len dc_len b_len (da_cons (de_var 2) da_nil)))) do_none) da_nil))))))) dss_nil)
      (dss_cons (ds_set 2 sc.nd (de_call F__law_word (hr.mono (by omega)) pass0 (da_cons (de_var 0) (da_cons de_str da_nil))))
      (dss_cons (ds_if (dt_w (dw_or (dt_cmp (dop_eq hr) (de_var 2) de_str) (dw_or1 (dt_cmp dop_gt (de_cb T.n_len dc_len b_len (da_cons (de_var 2) da_nil)) de_int)))) (dss_one (ds_ret de_non)) dss_nil)
      (dss_cons (ds_set 0 sc.nd (de_slice (de_var 0) (do_some (de_cb T.n_len dc_len b_len (da_cons (de_var 2) da_nil))) do_none))
      (dss_cons (ds_if (dt_cmp (dop_ne hr) (de_slice (de_var 0) do_none (do_some de_int)) de_str) (dss_one (ds_ret (de_tup (da_cons (de_tup (da_cons (de_var 2) da_nil)) (da_cons (de_var 0) da_nil))))) dss_nil)
      (dss_cons (ds_set 3 sc.nd (de_lst (da_cons (de_var 2) da_nil)))
      (dss_cons (ds_while PassesOwn.never (dt_w (dw_or (dt_cmp (dop_eq hr) (de_slice (de_var 0) do_none (do_some de_int)) de_str) (dw_or1 (dt_w (dw_and (dt_cmp (dop_eq hr) (de_slice (de_var 0) do_none (do_some de_int)) de_str) (dw_and1 (dt_cmp (dop_eq hr) (de_cb T.n_len dc_len b_len (da_cons (de_var 3) da_nil)) de_int))))))) (dss_cons (ds_set 4 sc.nd (de_call F__law_taken (hr.mono (by omega)) pass0 (da_cons (de_slice (de_var 0) (do_some de_int) do_none) (da_cons (de_bin dop_add (de_var 1) de_int) da_nil))))
      (dss_cons (ds_if (dt_w (dw_or (dt_cmp dop_is (de_var 4) de_non) (dw_or (dt_cmp dop_gt (de_var 1) de_int) (dw_or1 (dt_cmp (dop_eq hr) (de_cb T.n_len dc_len b_len (da_cons (de_var 3) da_nil)) de_int))))) (dss_one (ds_ret de_non)) dss_nil)
      (dss_cons (ds_expr (de_bm PySem.F.plainAttrs_list PySem.F.slot_list_append PySem.F.type_list_append dm_append (de_var 3) (da_cons (de_ix hr (de_var 4) de_int) da_nil)))
      (dss_one (ds_set 0 sc.nd (de_ix hr (de_var 4) de_int)))))))
      (dss_cons (ds_if (dt_cmp (dop_ne hr) (de_slice (de_var 0) do_none (do_some de_int)) de_str) (dss_one (ds_ret de_non)) dss_nil)
      (dss_one (ds_ret (de_tup (da_cons (de_ct T.n_tuple dc_tuple b_tuple (da_cons (de_var 3) da_nil)) (da_cons (de_slice (de_var 0) (do_some de_int) do_none) da_nil)))))))))))))), ?_⟩
  case len =>
    rintro ds M Q E ⟨s, d, rfl, _⟩
    rfl
  rintro ds M Qd Ed ⟨s, d, rfl, hs, hcn, hd, q⟩ hM
  have hml := mk_len s
  have hsl := hs.2
  have hq : NameOk "?" := by unfold NameOk; decide +kernel
  have hpar : NameOk "(" := by unfold NameOk; decide +kernel
  have c0 : cutS (mkS s) none (some 1) = mkS (s.take 1) := cut_pre (k := 1)
  try simp! only [c0]
  refine ⟨by omega, ?_⟩
  refine use_first (c := 63) hs hq rfl fun b1 hb1 => ?_
  cases b1 with
  | true =>
    have h63 := hb1.mp rfl
    have c1 : cutS (mkS s) (some 1) none = mkS s.tail := by rw [← List.drop_one]; exact cut_suf (k := 1)
    have hwf : ∀ c ∈ s.tail.takeWhile figB, figB c = true := fun c hc => tw_mem hc
    have htl : s.tail.Sublist s := List.tail_sublist s
    have hst := hs.sub htl
    have hswd := hst.sub (List.takeWhile_sublist figB (l := s.tail))
    obtain ⟨_, d2⟩ := drop_take figB s.tail
    have htk : tk (2 * s.length + 2) s d = (blankOf (s.tail.takeWhile figB)).map fun i => (.var i, s.tail.dropWhile figB) := by rw [tk, if_pos h63]
    generalize hw : s.tail.takeWhile figB = wd at hwf htk hswd d2
    have hwn : NameOk (mkS wd) := hswd.nm
    have hwl := hswd.2
    have hwm := mk_len wd
    have bad : blankOf wd = none → Done M.length Qd .non M := fun h => by
      rw [htk, h] at q
      exact .same q
    have c2 : cutS (mkS s) (some (1 + (wd.length : Int))) none = mkS (s.tail.dropWhile figB) := by
      have := cut_suf (s := s) (k := 1 + wd.length)
      rw [Int.natCast_add] at this
      refine this.trans ?_
      rw [← d2, ← List.drop_one, List.drop_drop]
    have good : ∀ i, blankOf wd = some i → intText? (mkS wd) = some i ∧ (mkS wd).length ≤ 640 ∧ Done M.length Qd (.tup [.int i, .str (mkS (s.tail.dropWhile figB))]) M := fun i h => by
      rw [htk, h] at q
      obtain ⟨n, hn, rfl, e⟩ := blank_fig hwf h
      have e2 := figs_int n hn
      rw [← e] at e2
      have h3 : wd.length ≤ 3 := by
        unfold blankOf at h
        split at h
        · next hc => exact hc.1.2
        · cases h
      exact ⟨e2, by omega, .same q⟩
    have hz : NameOk "0" := by unfold NameOk; decide +kernel
    have he : NameOk "" := by unfold NameOk; decide +kernel
    have ee : mkS [] = Str.ofString "" := rfl
    have e0 : (mkS wd = Str.ofString "") ↔ wd = [] := by
      rw [← ee]
      exact ⟨fun h => by have := congrArg tlS h; rwa [tlS_mk, tlS_mk] at this, fun h => by rw [h]⟩
    have ex0 : (mkS wd = Str.ofString "0") ↔ wd = [48] := by
      have : mkS [48] = Str.ofString "0" := rfl
      rw [← this]
      exact ⟨fun h => by have := congrArg tlS h; rwa [tlS_mk, tlS_mk] at this, fun h => by rw [h]⟩
    try simp! only [c1]
    refine ⟨by omega, s.tail, _, figB, rfl, hst, fig_in, ?_⟩
    rw [hw]
    refine qEq_ss hwn he fun b2 hb2 => ?_
    cases b2 with
    | true =>
      try simp! only [eq_self]
      refine bad ?_
      rw [e0.mp (hb2.mp rfl)]
      rfl
    | false =>
    obtain ⟨c, l, hcl⟩ : ∃ c l, wd = c :: l := by
      cases e : wd with
      | nil => have := hb2.mpr (e0.mpr e); cases this
      | cons c l => exact ⟨c, l, rfl⟩
    have h1 : 1 ≤ wd.length := by rw [hcl, List.length_cons]; omega
    have f1 : atI (mkS wd).cps.toList 0 = some c := by
      have e2 : (mkS wd).cps.toList = wd := tlS_mk wd
      rw [e2, hcl, atI_0]
    by_cases h3 : wd.length ≤ 3
    · have cn : NameOk (⟨#[c]⟩ : Str) := by
        have hc := hswd.1 c (by rw [hcl]; exact List.mem_cons_self ..)
        unfold NameOk PyData.strOk
        simp [hc]
      have e48 : ((⟨#[c]⟩ : Str) = Str.ofString "0") ↔ c = 48 := by
        constructor
        · intro h
          have := congrArg tlS h
          have e : tlS (Str.ofString "0") = [48] := by decide +kernel
          rw [e] at this
          injection this
        · rintro rfl; rfl
      try simp! only [decide_eq_false (show ¬ (3 : Int) < ((mkS wd).length : Int) by omega), f1]
      refine ⟨by omega, by omega, ?_⟩
      refine qEq_ss cn hz fun b hb => ?_
      cases b with
      | true =>
        have hc := e48.mp (hb.mp rfl)
        try simp! only [eq_self]
        refine qNe_ss hwn hz fun b3 hb3 => ?_
        cases b3 with
        | true =>
          try simp! only [eq_self]
          refine bad ?_
          unfold blankOf
          rw [if_neg]
          rintro ⟨_, h⟩
          exact hb3.mp rfl (ex0.mpr (h (by rw [hcl, hc]; rfl)))
        | false =>
          have hx0 : mkS wd = Str.ofString "0" := Classical.byContradiction fun h => by have := hb3.mpr h; cases this
          obtain ⟨g1, g2, g3⟩ := good (unfig wd : Nat) (by unfold blankOf; rw [if_pos ⟨⟨h1, h3⟩, fun _ => ex0.mp hx0⟩])
          try simp! only [g1, hwm, c2]
          exact ⟨by omega, by omega, by omega, g3⟩
      | false =>
        have hc : c ≠ 48 := fun h => by have := hb.mpr (e48.mpr h); cases this
        obtain ⟨g1, g2, g3⟩ := good (unfig wd : Nat) (by unfold blankOf; rw [if_pos ⟨⟨h1, h3⟩, fun h => by rw [hcl] at h; injection h with h; exact absurd h hc⟩])
        try simp! only [g1, hwm, c2]
        exact ⟨by omega, by omega, by omega, g3⟩
    · try simp! only [decide_eq_true (show (3 : Int) < ((mkS wd).length : Int) by omega)]
      refine ⟨by omega, bad ?_⟩
      unfold blankOf
      rw [if_neg]
      rintro ⟨⟨_, h⟩, _⟩
      exact h3 h
  | false =>
    have h63 : ¬ s.head? = some 63 := fun h => by have := hb1.mpr h; cases this
    have he : NameOk "" := by unfold NameOk; decide +kernel
    have hcom : NameOk "," := by unfold NameOk; decide +kernel
    have hclo : NameOk ")" := by unfold NameOk; decide +kernel
    have ee : mkS [] = Str.ofString "" := rfl
    have hswd := hs.sub (List.takeWhile_sublist letB (l := s))
    obtain ⟨_, d2⟩ := drop_take letB s
    have hsdr : OkC (s.dropWhile letB) := hs.sub (List.dropWhile_sublist letB)
    have htk : tk (2 * s.length + 2) s d = if nmB (s.takeWhile letB) then (if (s.dropWhile letB).head? = some 40 then lp (2 * s.length + 1) d (mkS (s.takeWhile letB)) [] (s.dropWhile letB) else some (.app (mkS (s.takeWhile letB)) [], s.dropWhile letB)) else none := by rw [tk, if_neg h63]
    have hdl := drop_len letB s
    have hdc : (s.dropWhile letB).count 40 ≤ s.count 40 := (List.dropWhile_sublist letB).count_le 40
    generalize hw : s.takeWhile letB = wd at htk hswd d2
    have c2 : cutS (mkS s) (some (wd.length : Int)) none = mkS (s.dropWhile letB) := by rw [← d2]; exact cut_suf
    generalize s.dropWhile letB = s1 at htk hsdr hdl hdc c2
    clear d2
    have c3 : ∀ r : List Nat, cutS (mkS r) none (some 1) = mkS (r.take 1) := fun r => cut_pre (k := 1)
    have c4 : ∀ r : List Nat, cutS (mkS r) (some 1) none = mkS r.tail := fun r => by rw [← List.drop_one]; exact cut_suf (k := 1)
    have hwm := mk_len wd
    have hwl := hswd.2
    have e0 : (mkS wd = Str.ofString "") ↔ wd = [] := by
      rw [← ee]
      exact ⟨fun h => by have := congrArg tlS h; rwa [tlS_mk, tlS_mk] at this, fun h => by rw [h]⟩
    try simp! only [eq_self]
    refine ⟨s, _, letB, rfl, hs, let_in, ?_⟩
    rw [hw]
    refine qEq_ss hswd.nm he fun b2 hb2 => ?_
    cases b2 with
    | true =>
      have : nmB wd = false := by rw [e0.mp (hb2.mp rfl)]; rfl
      rw [htk, this] at q
      try simp! only [eq_self]
      exact .same q
    | false =>
    have hw0 : wd ≠ [] := fun h => by have := hb2.mpr (e0.mpr h); cases this
    have hw1 : 1 ≤ wd.length := List.length_pos_iff.mpr hw0
    by_cases h8 : wd.length ≤ 8
    · have hnb : nmB wd = true := by unfold nmB; simp; omega
      rw [hnb, if_pos rfl] at htk
      have hs1l := hsdr.2
      have hs1m := mk_len s1
      try simp! only [decide_eq_false (show ¬ (8 : Int) < (wd.length : Int) by omega), hwm, c2, c3]
      refine ⟨by omega, by omega, by omega, by omega, ?_⟩
      refine use_firstN (c := 40) hsdr hpar rfl fun b3 hb3 => ?_
      cases b3 with
      | true =>
        rw [htk, if_neg (hb3.mp rfl)] at q
        have q : Qd (.tup [(Tm.app (mkS wd) []).d, .str (mkS s1)]) M := q
        rw [Tm.d_app] at q
        try simp! only [eq_self]
        exact .same q
      | false =>
        have h40 : s1.head? = some 40 := Classical.byContradiction fun h => by have := hb3.mpr h; cases this
        rw [if_pos h40] at htk
        rw [htk, (tk_irr (2 * s.length + 1) (2 * s1.length + 1)).2 _ _ _ s1 (by omega) (by omega)] at q
        have hc1 : s1.tail.count 40 < n := by
          have := tail_of h40
          rw [this, List.count_cons_self] at hdc
          omega
        try simp! only [eq_self]
        refine while_ind (fun k r M' => ∃ (s' : List Nat) (ps : List Tm) (u4 : Option D), k = s'.length ∧ OkC s' ∧ lp (2 * s1.length + 1) d (mkS wd) [] s1 = lp (2 * s'.length + 1) d (mkS wd) ps s' ∧ s'.tail.count 40 < n ∧ ps.length ≤ 4 ∧
          M' = M ++ [MO.lst (D.str (mkS wd) :: ps.map Tm.d)] ∧ r = [some (D.str (mkS s')), some (D.int (d : Int)), some (D.str (mkS wd)), some (D.loc M.length), u4]) _ ⟨s1, [], none, rfl, hsdr, rfl, hc1, by decide, rfl, rfl⟩ ?_
        clear htk hdc hs1l hs1m hc1 hdl h40 hb3 hsdr
        rintro k r M' ⟨s', ps, u4, rfl, hs', hlp, hc', hps, rfl, rfl⟩
        have hs'l := hs'.2
        have hs'm := mk_len s'
        have g0 : ∀ X : Mem, (M ++ (MO.lst (D.str (mkS wd) :: ps.map Tm.d) :: X))[M.length]? = some (.lst (D.str (mkS wd) :: ps.map Tm.d)) := fun X => by rw [getK0 rfl]; rfl
        have g0' : (M ++ [MO.lst (D.str (mkS wd) :: ps.map Tm.d)])[M.length]? = some (.lst (D.str (mkS wd) :: ps.map Tm.d)) := g0 []
        have hst : OkC s'.tail := hs'.sub (List.tail_sublist s')
        have elp : lp (2 * s'.length + 1) d (mkS wd) ps s' = if s'.head? = some 44 ∨ (s'.head? = some 40 ∧ ps = []) then
            (match tk (2 * s'.length) s'.tail (d + 1) with
            | none => none
            | some (t, s') => if 59 < d ∨ ps.length = 4 then none else lp (2 * s'.length + 1) d (mkS wd) (ps ++ [t]) s')
          else if s'.head? = some 41 then some (.app (mkS wd) ps, s'.tail) else none := by
          rw [lp]
          split
          · next h =>
            have hs0 : s'.tail.length < s'.length := by
              rcases h with h | h
              · exact tail_lt h
              · exact tail_lt h.1
            cases e : tk (2 * s'.length) s'.tail (d + 1) with
            | none => rfl
            | some q =>
              obtain ⟨t, s2⟩ := q
              have := (tk_len _).1 _ _ _ _ e
              dsimp only
              rw [(tk_irr (2 * s'.length) (2 * s2.length + 1)).2 _ _ _ s2 (by omega) (by omega)]
          · rfl
        rw [hlp, elp] at q
        try simp! only [c3]
        refine ⟨by omega, ?_⟩
        refine use_first (c := 44) hs' hcom rfl fun b4 hb4 => ?_
        cases b4 with
        | true =>
          have h44 := hb4.mp rfl
          have hne : s'.length = s'.tail.length + 1 := by
            have := congrArg List.length (tail_of h44)
            rw [List.length_cons] at this
            exact this
          rw [if_pos (.inl h44)] at q
          have estep : lp (2 * s'.length + 1) d (mkS wd) ps s' = (match tk (2 * s'.length) s'.tail (d + 1) with
            | none => none
            | some (t, s') => if 59 < d ∨ ps.length = 4 then none else lp (2 * s'.length + 1) d (mkS wd) (ps ++ [t]) s') := by rw [elp, if_pos (.inl h44)]
          try simp! only [c4]
          refine ⟨by omega, ?_⟩
          refine ⟨s'.tail, d + 1, by rw [Int.natCast_add]; rfl, hst, hc', by omega, ?_⟩
          rw [show 2 * s'.tail.length + 2 = 2 * s'.length by omega]
          cases e : tk (2 * s'.length) s'.tail (d + 1) with
          | none =>
            rw [e] at q
            unfold tkD
            try simp! only [eq_self]
            exact Done.old hM (takeK rfl) rfl q
          | some qq =>
            obtain ⟨t, s2⟩ := qq
            rw [e] at q estep
            dsimp only at q estep
            have hsuf := (tk_suf _).1 _ _ _ _ e
            have hlt := (tk_len _).1 _ _ _ _ e
            unfold tkD
            by_cases h59 : 59 < d
            · rw [if_pos (.inl h59)] at q
              try simp! only [decide_eq_true (show (59 : Int) < (d : Int) by omega)]
              exact Done.old hM (takeK rfl) rfl q
            · by_cases h4 : ps.length = 4
              · rw [if_pos (.inr h4)] at q
                try simp! only [decide_eq_false (show ¬ (59 : Int) < (d : Int) by omega), g0', decide_eq_true (show ((ps.length + 1 : Nat) : Int) = 5 by omega)]
                exact Done.old hM (takeK rfl) rfl q
              · have hno : ¬ (59 < d ∨ ps.length = 4) := by rintro (h | h); exact h59 h; exact h4 h
                rw [if_neg hno] at estep
                try simp! only [decide_eq_false (show ¬ (59 : Int) < (d : Int) by omega), g0', decide_eq_false (show ¬ ((ps.length + 1 : Nat) : Int) = 5 by omega)]
                refine ⟨by omega, s2.length, by omega, s2, ps ++ [t], _, rfl, hst.sub hsuf.sublist, hlp.trans estep, ?_, by rw [List.length_append, List.length_singleton]; omega, by rw [List.map_append]; rfl, rfl⟩
                have c5 := (List.tail_sublist s2).count_le 40
                have c6 := hsuf.sublist.count_le 40
                omega
        | false =>
          have h44 : ¬ s'.head? = some 44 := fun h => by have := hb4.mpr h; cases this
          have fin : ¬ (s'.head? = some 40 ∧ ps = []) → ∀ Y : Mem, True := fun _ _ => trivial
          clear fin
          try simp! only [c3]
          refine ⟨by omega, ?_⟩
          refine use_first (c := 40) hs' hpar rfl fun b5 hb5 => ?_
          cases b5 with
          | true =>
            have h40 := hb5.mp rfl
            by_cases hp0 : ps = []
            ·
              have hne : s'.length = s'.tail.length + 1 := by
                have := congrArg List.length (tail_of h40)
                rw [List.length_cons] at this
                exact this
              rw [if_pos (.inr ⟨h40, hp0⟩)] at q
              have estep : lp (2 * s'.length + 1) d (mkS wd) ps s' = (match tk (2 * s'.length) s'.tail (d + 1) with
                | none => none
                | some (t, s') => if 59 < d ∨ ps.length = 4 then none else lp (2 * s'.length + 1) d (mkS wd) (ps ++ [t]) s') := by rw [elp, if_pos (.inr ⟨h40, hp0⟩)]
              try simp! only [c4, g0', decide_eq_true (show ((ps.length + 1 : Nat) : Int) = 1 by rw [hp0]; rfl)]
              refine ⟨by omega, ?_⟩
              refine ⟨s'.tail, d + 1, by rw [Int.natCast_add]; rfl, hst, hc', by omega, ?_⟩
              rw [show 2 * s'.tail.length + 2 = 2 * s'.length by omega]
              cases e : tk (2 * s'.length) s'.tail (d + 1) with
              | none =>
                rw [e] at q
                unfold tkD
                try simp! only [eq_self]
                exact Done.old hM (takeK rfl) rfl q
              | some qq =>
                obtain ⟨t, s2⟩ := qq
                rw [e] at q estep
                dsimp only at q estep
                have hsuf := (tk_suf _).1 _ _ _ _ e
                have hlt := (tk_len _).1 _ _ _ _ e
                unfold tkD
                by_cases h59 : 59 < d
                · rw [if_pos (.inl h59)] at q
                  try simp! only [decide_eq_true (show (59 : Int) < (d : Int) by omega)]
                  exact Done.old hM (takeK rfl) rfl q
                · by_cases h4 : ps.length = 4
                  · rw [if_pos (.inr h4)] at q
                    try simp! only [decide_eq_false (show ¬ (59 : Int) < (d : Int) by omega), g0', decide_eq_true (show ((ps.length + 1 : Nat) : Int) = 5 by omega)]
                    exact Done.old hM (takeK rfl) rfl q
                  · have hno : ¬ (59 < d ∨ ps.length = 4) := by rintro (h | h); exact h59 h; exact h4 h
                    rw [if_neg hno] at estep
                    try simp! only [decide_eq_false (show ¬ (59 : Int) < (d : Int) by omega), g0', decide_eq_false (show ¬ ((ps.length + 1 : Nat) : Int) = 5 by omega)]
                    refine ⟨by omega, s2.length, by omega, s2, ps ++ [t], _, rfl, hst.sub hsuf.sublist, hlp.trans estep, ?_, by rw [List.length_append, List.length_singleton]; omega, by rw [List.map_append]; rfl, rfl⟩
                    have c5 := (List.tail_sublist s2).count_le 40
                    have c6 := hsuf.sublist.count_le 40
                    omega
            · have hpl : 1 ≤ ps.length := List.length_pos_iff.mpr hp0
              rw [if_neg (by rintro (h | ⟨_, h⟩); exact h44 h; exact hp0 h), if_neg (by rw [h40]; intro h; cases h)] at q
              try simp! only [g0', decide_eq_false (show ¬ ((ps.length + 1 : Nat) : Int) = 1 by omega), c3]
              refine ⟨by omega, ?_⟩
              refine use_firstN (c := 41) hs' hclo rfl fun b6 hb6 => ?_
              cases b6 with
              | true =>
                try simp! only [eq_self]
                exact Done.old hM (takeK rfl) rfl q
              | false =>
                exfalso
                have h41 : ¬ s'.head? = some 41 := by rw [h40]; intro h; cases h
                have := hb6.mpr h41
                cases this
          | false =>
            have h40 : ¬ s'.head? = some 40 := fun h => by have := hb5.mpr h; cases this
            rw [if_neg (by rintro (h | ⟨h, _⟩); exact h44 h; exact h40 h)] at q
            try simp! only [c3]
            refine ⟨by omega, ?_⟩
            refine use_firstN (c := 41) hs' hclo rfl fun b6 hb6 => ?_
            cases b6 with
            | true =>
              rw [if_neg (hb6.mp rfl)] at q
              try simp! only [eq_self]
              exact Done.old hM (takeK rfl) rfl q
            | false =>
              have h41 : s'.head? = some 41 := Classical.byContradiction fun h => by have := hb6.mpr h; cases this
              rw [if_pos h41] at q
              have q : Qd (.tup [(Tm.app (mkS wd) ps).d, .str (mkS s'.tail)]) M := q
              rw [Tm.d_app] at q
              try simp! only [g0', c4]
              refine ⟨by omega, Done.old hM (takeK rfl) ?_ q⟩
              have := Tm.ok M.length (.app (mkS wd) ps)
              rw [Tm.d_app] at this
              show (okD M.length (.tup (.str (mkS wd) :: ps.map Tm.d)) && okDs M.length [.str (mkS s'.tail)]) = true
              rw [this]
              rfl
    · have : nmB wd = false := by unfold nmB; simp; omega
      rw [htk, this] at q
      try simp! only [decide_eq_true (show (8 : Int) < ((mkS wd).length : Int) by omega)]
      exact ⟨by omega, .same q⟩
end
section
variable {P : Program} {w : World} {K : PySem.W.Frag} {mg : Str → Option Value} {base : Heap}
def optT : Option Tm → D
  | none => .non
  | some t => t.d
def sp_due : DSp := fun ds M Q _ => ∃ s : List Nat, ds = [.str (mkS s)] ∧ OkC s ∧ s.count 40 < 99 ∧ Q (optT (readL s)) M
theorem fn_due (T : Top K mg) : DFn P w K mg base CX0 102 "_law_due" ["_law_text_here"] sp_due := by
  have F__law_taken := fn_taken (P := P) (w := w) (base := base) T 99
  obtain ⟨fd, F⟩ := T.d__law_due
  have sc := sc__law_due
  refine DFn.ofD (k := 101) F T.g__law_due (FunD.bindsN F fun _ _ _ _ _ _ us hl => match us, hl with | [_], _ => rfl) sc ?len ⟨_, fun cdv A outer s H E m0 hr => (
      (dss_cons (ds_set 1 sc.nd (de_call F__law_taken (hr.mono (by omega)) pass0 (da_cons (de_var 0) (da_cons de_int da_nil))))
      (dss_cons (ds_if (dt_w (dw_or (dt_cmp dop_is (de_var 1) de_non) (dw_or1 (dt_cmp (dop_ne hr) (de_ix hr (de_var 1) de_int) de_str)))) (dss_one (ds_ret de_non)) dss_nil)
      (dss_one (ds_ret (de_ix hr (de_var 1) de_int)))))), ?_⟩
  case len =>
    rintro ds M Q E ⟨s, rfl, _⟩
    rfl
  rintro ds M Qd Ed ⟨s, rfl, hs, hc, q⟩ hM
  rw [due_read] at q
  unfold dueL at q
  have he : NameOk "" := by unfold NameOk; decide +kernel
  have ee : mkS [] = Str.ofString "" := rfl
  try simp! only [eq_self]
  refine ⟨s, 0, rfl, hs, hc, by decide, ?_⟩
  cases e : tk (2 * s.length + 2) s 0 with
  | none =>
    rw [e] at q
    have q : Qd .non M := q
    unfold tkD
    try simp! only [eq_self]
    exact .same q
  | some qq =>
    obtain ⟨t, s2⟩ := qq
    rw [e] at q
    have q : Qd (optT (if s2 = [] then some t else none)) M := q
    have hsuf := (tk_suf _).1 _ _ _ _ e
    have hs2 := hs.sub hsuf.sublist
    have e0 : (mkS s2 = Str.ofString "") ↔ s2 = [] := by
      rw [← ee]
      exact ⟨fun h => by have := congrArg tlS h; rwa [tlS_mk, tlS_mk] at this, fun h => by rw [h]⟩
    unfold tkD
    try simp! only [eq_self]
    refine qNe_ss hs2.nm he fun b hb => ?_
    cases b with
    | true =>
      rw [if_neg (fun h => hb.mp rfl (e0.mpr h))] at q
      try simp! only [eq_self]
      exact .same q
    | false =>
      have h0 : s2 = [] := e0.mp (Classical.byContradiction fun h => by have := hb.mpr h; cases this)
      rw [if_pos h0] at q
      try simp! only [eq_self]
      exact .same q
theorem non_ (t : Tm) : ∃ e : D, t.d = e ∧ ((∃ i, e = .int i) ∨ ∃ ds, e = .tup ds) := by
  cases t with
  | var i => exact ⟨_, rfl, .inl ⟨i, Tm.d_var i⟩⟩
  | app f ts => exact ⟨_, rfl, .inr ⟨_, Tm.d_app f ts⟩⟩
def sp_isread : DSp := fun ds M Q _ => ∃ s : List Nat, ds = [.str (mkS s), optT (readL s)] ∧ OkC s ∧ Q (.bl true) M
theorem fn_isread (T : Top K mg) : DFn P w K mg base CX0 158 "_law_is_read" ["_law_text_here", "_law_due_here"] sp_isread := by
  have F_read := fn_read (P := P) (w := w) (base := base) T
  have F__law_same := fn_same (P := P) (w := w) (base := base) T 155
  obtain ⟨fd, F⟩ := T.d__law_is_read
  have sc := sc__law_is_read
  refine DFn.ofD (k := 157) F T.g__law_is_read (FunD.bindsN F fun _ _ _ _ _ _ us hl => match us, hl with | [_, _], _ => rfl) sc ?len ⟨_, fun cdv A outer s H E m0 hr => (
      (dss_cons (ds_set 2 sc.nd de_non)
      (dss_cons (ds_tryAs 3 sc.nd ⟨rfl, by decide, .inl T.g_WoodError⟩ T.m_BadText_WoodError (fun _ _ _ _ _ tk po => (dss_one (ds_set 2 sc.nd (de_callX tk F_read (hr.mono (by omega)) (da_cons (de_var 0) da_nil))))) (fun _ _ _ _ _ hz hf => (dss_cons (ds_if (dt_e (de_cb T.n_isinstance (dc_isEK T.x_BadText hz hf) b_isinstance (da_cons (de_var 3) (da_cons (de_tup (da_cons (de_cls T.g_BadOrder) (da_cons (de_cls T.g_NoPlace) (da_cons (de_cls T.g_NoTerm) (da_cons (de_cls T.g_TooHeavy) (da_cons (de_cls T.g_TooLong) da_nil)))))) da_nil)))) (dss_one (ds_ret de_bl)) dss_nil)
      (dss_one (ds_ret (de_and (de_cmp dop_is (de_var 1) de_non) (de_and (de_cb T.n_isinstance (dc_isEK T.x_BadText hz hf) b_isinstance (da_cons (de_var 3) (da_cons (de_cls T.g_BadText) da_nil))) (de_one (de_cb T.n_isinstance (dc_isEK T.x_BadText hz hf) b_isinstance (da_cons (de_var 3) (da_cons (de_ty T.n_ValueError b_ValueError) da_nil)))))))))))
      (dss_one (ds_ret (de_and (de_cmp dop_isnot (de_var 1) de_non) (de_one (de_call F__law_same (hr.mono (by omega)) pass0 (da_cons (de_var 2) (da_cons (de_var 1) da_nil)))))))))), ?_⟩
  case len =>
    rintro ds M Q E ⟨s, rfl, _⟩
    rfl
  rintro ds M Qd Ed ⟨s, rfl, hs, q⟩ hM
  have hml := mk_len s
  have hsl := hs.2
  try simp! only [eq_self]
  refine ⟨mkS s, rfl, hs.nm, by omega, fun t ht => ?_, fun hno => ?_⟩
  · rw [tlS_mk] at ht
    obtain ⟨g1, g2, g3⟩ := read_good ht
    rw [ht]
    have o1 : optT (some t) = t.d := rfl
    rw [o1]
    obtain ⟨e1, he1, hv1⟩ := non_ t
    have hsm : sp_same 155 [e1, e1] M (Done M.length Qd) E0D := ⟨t, by rw [he1], by omega, by omega, Nm_ok g1.nm, .same q⟩
    rw [he1]
    rcases hv1 with ⟨i, rfl⟩ | ⟨ds1, rfl⟩
    all_goals
      try simp! only [eq_self]
      exact hsm
  · rw [tlS_mk] at hno
    rw [hno]
    unfold optT
    try simp! only [eq_self]
    intro a
    try simp! only [T.kb_BadText_WoodError, T.kb_BadText_BadOrder, T.kb_BadText_NoTerm, T.kb_BadText_NoPlace, T.kb_BadText_BadText, T.kb_BadText_TooHeavy, T.kb_BadText_TooLong, T.kb_BadText_ValueError]
    exact .same q
def sp_ispair : DSp := fun ds M Q _ => ∃ (x : Str) (a b : Option Tm), ds = [.str x, optT a, optT b] ∧ NameOk x ∧ x.length ≤ 10000 ∧
  ((∃ n : Nat, n + 3 ≤ x.length ∧ Hit (tlS x) n ∧ (∀ i, i < n → ¬ Hit (tlS x) i) ∧ (∀ i, n + 3 ≤ i → ¬ Hit (tlS x) i) ∧ a = readL ((tlS x).take n) ∧ b = readL ((tlS x).drop (n + 3))) ∨ ((∀ i, ¬ Hit (tlS x) i) ∧ a = none)) ∧ Q (.bl true) M
theorem fn_ispair (T : Top K mg) : DFn P w K mg base CX0 158 "_law_is_pair" ["_law_text_here", "_law_due_here", "_law_own"] sp_ispair := by
  have F_read_pair := fn_rpair (P := P) (w := w) (base := base) T
  have F__law_same := fn_same (P := P) (w := w) (base := base) T 155
  obtain ⟨fd, F⟩ := T.d__law_is_pair
  have sc := sc__law_is_pair
  refine DFn.ofD (k := 157) F T.g__law_is_pair (FunD.bindsN F fun _ _ _ _ _ _ us hl => match us, hl with | [_, _, _], _ => rfl) sc ?len ⟨_, fun cdv A outer s H E m0 hr => (
      (dss_cons (ds_tryOnly ⟨rfl, by decide, .inl T.g_BadText⟩ T.m_BadText_BadText (fun _ _ _ _ _ tk po => (dss_one (ds_set 3 sc.nd (de_callX tk F_read_pair (hr.mono (by omega)) (da_cons (de_var 0) da_nil))))) (fun _ _ _ _ _ hz hf => (dss_one (ds_ret (de_or (de_cmp dop_is (de_var 1) de_non) (de_one (de_cmp dop_is (de_var 2) de_non)))))))
      (dss_cons (ds_if (dt_w (dw_or (dt_cmp dop_is (de_var 1) de_non) (dw_or (dt_cmp dop_is (de_var 2) de_non) (dw_or (dt_not (dt_e (de_cb T.n_isinstance dc_isi b_isinstance (da_cons (de_var 3) (da_cons (de_ty T.n_tuple b_tuple) da_nil))))) (dw_or1 (dt_cmp (dop_ne hr) (de_cb T.n_len dc_len b_len (da_cons (de_var 3) da_nil)) de_int)))))) (dss_one (ds_ret de_bl)) dss_nil)
      (dss_one (ds_ret (de_and (de_call F__law_same (hr.mono (by omega)) pass0 (da_cons (de_ix hr (de_var 3) de_int) (da_cons (de_var 1) da_nil))) (de_one (de_call F__law_same (hr.mono (by omega)) pass0 (da_cons (de_ix hr (de_var 3) de_int) (da_cons (de_var 2) da_nil)))))))))), ?_⟩
  case len =>
    rintro ds M Q E ⟨x, a, b, rfl, _⟩
    rfl
  rintro ds M Qd Ed ⟨x, a, b, rfl, hn, hx, hc, q⟩ hM
  have hxl : x.length = (tlS x).length := TL.len_tl x
  try simp! only [eq_self]
  rcases hc with ⟨n, hnl, hit, h0, h2, ha, hb⟩ | ⟨hno, ha⟩
  · refine ⟨x, rfl, hn, hx, .inl ⟨n, hnl, hit, h0, h2, fun t u ht hu => ?_, fun hno => ?_⟩⟩
    · rw [ha, hb, ht, hu]
      obtain ⟨g1, g2, g3⟩ := read_good ht
      obtain ⟨k1, k2, k3⟩ := read_good hu
      rw [List.length_take] at g2
      rw [List.length_drop] at k2
      obtain ⟨e1, he1, hv1⟩ := non_ t
      obtain ⟨e2, he2, hv2⟩ := non_ u
      have o1 : optT (some t) = t.d := rfl
      have o2 : optT (some u) = u.d := rfl
      rw [o1, o2, he1, he2]
      rcases hv1 with ⟨i, rfl⟩ | ⟨ds1, rfl⟩
      all_goals
        rcases hv2 with ⟨j, rfl⟩ | ⟨ds2, rfl⟩
      all_goals
        try simp! only [eq_self]
        refine ⟨t, by rw [he1], by omega, by omega, Nm_ok g1.nm, ?_⟩
        try simp! only [eq_self]
        refine ⟨u, by rw [he2], by omega, by omega, Nm_ok k1.nm, ?_⟩
        exact .same q
    · rw [ha, hb]
      have o1 : optT none = .non := rfl
      try simp! only [eq_self]
      intro a'
      cases e1 : readL ((tlS x).take n) with
      | none =>
        rw [o1]
        try simp! only [T.kb_BadText_WoodError, T.kb_BadText_BadOrder, T.kb_BadText_NoTerm, T.kb_BadText_NoPlace, T.kb_BadText_BadText, T.kb_BadText_TooHeavy, T.kb_BadText_TooLong, T.kb_BadText_ValueError]
        exact .same q
      | some t =>
        have e2 : readL ((tlS x).drop (n + 3)) = none := hno.resolve_left (by rw [e1]; intro h; cases h)
        have o2 : optT (some t) = t.d := rfl
        rw [e2, o1, o2]
        obtain ⟨e1, he1, hv1⟩ := non_ t
        rw [he1]
        rcases hv1 with ⟨i, rfl⟩ | ⟨ds1, rfl⟩
        all_goals
          try simp! only [T.kb_BadText_WoodError, T.kb_BadText_BadOrder, T.kb_BadText_NoTerm, T.kb_BadText_NoPlace, T.kb_BadText_BadText, T.kb_BadText_TooHeavy, T.kb_BadText_TooLong, T.kb_BadText_ValueError]
          exact .same q
  · refine ⟨x, rfl, hn, hx, .inr ⟨hno, ?_⟩⟩
    have o1 : optT none = .non := rfl
    rw [ha, o1]
    try simp! only [eq_self]
    intro a'
    exact .same q
end
section
def spB (c : Nat) : Bool := c == 32 || c == 61
/-- a text that the law asks about -/
structure TextOk (s : List Nat) : Prop where
  ok : OkC s
  l : s.length ≤ 4500
  sp : s.countP spB ≤ 1
  br : s.count 40 < 99
theorem cs_plain2 : ∀ t : Tm, Rdb t → (cs t).countP spB = 0 ∧ (cs t).count 40 ≤ t.size := by
  have figp : ∀ i : Int, 0 ≤ i ∧ i ≤ 999 → ∀ c ∈ figs i, 48 ≤ c ∧ c ≤ 57 := fun i hi => by
    obtain ⟨n, rfl⟩ : ∃ n : Nat, i = (n : Int) := ⟨i.toNat, by omega⟩
    exact fig_rng n (by omega)
  have none_ : ∀ l : List Nat, (∀ c ∈ l, c ≠ 32 ∧ c ≠ 61 ∧ c ≠ 40) → l.countP spB = 0 ∧ l.count 40 = 0 := fun l h => by
    refine ⟨?_, List.count_eq_zero_of_not_mem fun hm => (h _ hm).2.2 rfl⟩
    rw [List.countP_eq_zero]
    intro c hc
    have := h c hc
    unfold spB
    simp
    omega
  refine Tm.ind (fun i => ?_) (fun f ts ih => ?_)
  · intro h
    cases h with
    | var hi =>
    rw [cs_var]
    obtain ⟨h1, h2⟩ := none_ (63 :: figs i) fun c hc => by
      rcases List.mem_cons.mp hc with rfl | hc
      · decide
      · have := figp i hi c hc; omega
    exact ⟨h1, by rw [h2]; exact Nat.zero_le _⟩
  · intro h
    cases h with
    | app hf _ hts =>
    rw [cs_app, List.countP_append, List.count_append, Tm.size_app]
    obtain ⟨h1, h2⟩ := none_ (tlS f) fun c hc => by have := hf.2.2 c hc; omega
    rw [h1, h2]
    have rest : ∀ us : List Tm, (∀ u ∈ us, u ∈ ts) → (crst us).countP spB = 0 ∧ (crst us).count 40 ≤ Tm.sizes us := by
      intro us
      induction us with
      | nil => intro _; rw [crst_nil, Tm.sizes_nil]; exact ⟨by decide, by decide⟩
      | cons u us ih2 =>
        intro hm
        obtain ⟨a1, a2⟩ := ih u (hm u (List.mem_cons_self ..)) (hts u (hm u (List.mem_cons_self ..)))
        obtain ⟨b1, b2⟩ := ih2 fun v hv => hm v (List.mem_cons_of_mem _ hv)
        rw [crst_cons, Tm.sizes_cons, List.countP_cons, List.count_cons, List.countP_append, List.count_append, a1, b1]
        refine ⟨by decide, ?_⟩
        have : ((44 : Nat) == 40) = false := by decide
        rw [this]
        simp
        omega
    cases ts with
    | nil => rw [cbrk_nil, Tm.sizes_nil]; exact ⟨by decide, by simp⟩
    | cons t ts =>
      obtain ⟨a1, a2⟩ := ih t (List.mem_cons_self ..) (hts t (List.mem_cons_self ..))
      obtain ⟨b1, b2⟩ := rest ts fun u hu => List.mem_cons_of_mem _ hu
      rw [cbrk_cons, Tm.sizes_cons, List.countP_cons, List.count_cons, List.countP_append, List.count_append, a1, b1]
      refine ⟨by decide, ?_⟩
      simp
      omega
theorem hit_sp {l : List Nat} {i : Nat} (h : Hit l i) : 3 ≤ l.countP spB := by
  have h1 : ((l.drop i).take 3).countP spB ≤ l.countP spB := ((List.take_sublist ..).trans (List.drop_sublist ..)).countP_le
  unfold Hit at h
  rw [h] at h1
  exact h1
theorem hit_left {s r : List Nat} (hs : s.countP spB ≤ 1) (hr : r.countP spB = 0) : Hit (r ++ ([32, 61, 32] ++ s)) r.length ∧ (∀ i, i < r.length → ¬ Hit (r ++ ([32, 61, 32] ++ s)) i) ∧ (∀ i, r.length + 3 ≤ i → ¬ Hit (r ++ ([32, 61, 32] ++ s)) i) := by
  refine ⟨?_, fun i hi h => ?_, fun i hi h => ?_⟩
  · unfold Hit
    rw [List.drop_append_of_le_length (Nat.le_refl _), List.drop_length]
    rfl
  · have h1 : (r ++ ([32, 61, 32] ++ s))[i]? = some 32 := by
      unfold Hit at h
      have := congrArg (fun l : List Nat => l[0]?) h
      simp at this
      exact this
    rw [List.getElem?_append_left hi] at h1
    have := (List.countP_eq_zero.mp hr) 32 (List.mem_of_getElem? h1)
    exact this rfl
  · unfold Hit at h
    have e : (r ++ ([32, 61, 32] ++ s)).drop i = s.drop (i - (r.length + 3)) := by
      rw [← List.append_assoc, List.drop_append, List.drop_of_length_le (by simp; omega), List.nil_append]
      congr 1
      simp
    rw [e] at h
    have := hit_sp (l := s) (i := i - (r.length + 3)) h
    omega
theorem hit_right {s r : List Nat} (hs : s.countP spB ≤ 1) (hr : r.countP spB = 0) : Hit (s ++ ([32, 61, 32] ++ r)) s.length ∧ (∀ i, i < s.length → ¬ Hit (s ++ ([32, 61, 32] ++ r)) i) ∧ (∀ i, s.length + 3 ≤ i → ¬ Hit (s ++ ([32, 61, 32] ++ r)) i) := by
  refine ⟨?_, fun i hi h => ?_, fun i hi h => ?_⟩
  · unfold Hit
    rw [List.drop_append_of_le_length (Nat.le_refl _), List.drop_length]
    rfl
  · unfold Hit at h
    rw [List.drop_append_of_le_length (by omega)] at h
    have hc : (s.drop i).countP spB ≤ 1 := Nat.le_trans (List.drop_sublist ..).countP_le hs
    have hl : (s.drop i).length = s.length - i := List.length_drop ..
    match e : s.drop i, hc, hl with
    | [], _, hl => simp at hl; omega
    | [a], _, _ =>
      rw [e] at h
      have h : [a, 32, 61] = [32, 61, 32] := h
      simp at h
    | [a, b], hc, _ =>
      rw [e] at h
      have h : [a, b, 32] = [32, 61, 32] := h
      injection h with h1 h
      injection h with h2 h
      subst h1 h2
      revert hc
      decide
    | a :: b :: c :: l, hc, _ =>
      rw [e] at h
      have h : [a, b, c] = [32, 61, 32] := h
      injection h with h1 h
      injection h with h2 h
      injection h with h3 h
      subst h1 h2 h3
      have : ([32, 61, 32] : List Nat).countP spB ≤ (32 :: 61 :: 32 :: l).countP spB := List.Sublist.countP_le (List.sublist_append_left [32, 61, 32] l)
      have e3 : ([32, 61, 32] : List Nat).countP spB = 3 := by decide
      omega
  · unfold Hit at h
    have e : (s ++ ([32, 61, 32] ++ r)).drop i = r.drop (i - (s.length + 3)) := by
      rw [← List.append_assoc, List.drop_append, List.drop_of_length_le (by simp; omega), List.nil_append]
      congr 1
      simp
    rw [e] at h
    have := hit_sp (l := r) (i := i - (s.length + 3)) h
    omega
def goodB (y : Str) : Bool := (tlS y).all (fun c => decide (c < 1114112)) && decide ((tlS y).length ≤ 60) && decide ((tlS y).countP spB ≤ 1) && decide ((tlS y).count 40 < 99)
theorem goodB_ok {y : Str} (h : goodB y = true) : TextOk (tlS y) := by
  unfold goodB at h
  rw [Bool.and_eq_true, Bool.and_eq_true, Bool.and_eq_true] at h
  obtain ⟨⟨⟨h1, h2⟩, h3⟩, h4⟩ := h
  have h2 := of_decide_eq_true h2
  refine ⟨⟨fun c hc => ?_, by omega⟩, by omega, of_decide_eq_true h3, of_decide_eq_true h4⟩
  rw [List.all_eq_true] at h1
  simpa using h1 c hc
end
section
variable {P : Program} {w : World} {K : PySem.W.Frag} {mg : Str → Option Value} {base : Heap}
def sp_odd : DSp := fun ds M Q _ => ∃ l : Nat, ds = [.loc l] ∧ Dice M l ∧ ∀ (o : MO) (s : List Nat), DiceO o → TextOk s → Q (.str (mkS s)) (M.set l o)
theorem fn_odd (T : Top K mg) : DFn P w K mg base CX0 4 "_law_odd" ["_law_d"] sp_odd := by
  have F__law_off := fn_off (P := P) (w := w) (base := base) T
  obtain ⟨fd, F⟩ := T.d__law_odd
  have sc := sc__law_odd
  refine DFn.ofD (k := 3) F T.g__law_odd (FunD.bindsN F fun _ _ _ _ _ _ us hl => match us, hl with | [_], _ => rfl) sc ?len ⟨_, fun cdv A outer s H E m0 hr => (
      (dss_cons (ds_set 1 sc.nd (de_lst (da_cons de_str (da_cons de_str (da_cons de_str (da_cons de_str (da_cons de_str (da_cons de_str (da_cons de_str (da_cons de_str (da_cons de_str (da_cons de_str (da_cons de_str (da_cons de_str (da_cons de_str (da_cons de_str (da_cons de_str da_nil)))))))))))))))))
      (dss_cons (ds_set 1 sc.nd (de_bin dop_add (de_var 1) (de_lst (da_cons de_str (da_cons de_str (da_cons de_str (da_cons de_str (da_cons de_str (da_cons de_str (da_cons de_str (da_cons de_str (da_cons de_str (da_cons de_str da_nil)))))))))))))
      (dss_cons (ds_set 1 sc.nd (de_bin dop_add (de_var 1) (de_lst (da_cons de_str (da_cons de_str (da_cons de_str (da_cons de_str (da_cons de_str da_nil))))))))
      (dss_one (ds_ret (de_ix hr (de_var 1) (de_call F__law_off (hr.mono (by omega)) pass0 (da_cons (de_var 0) (da_cons de_int da_nil)))))))))), ?_⟩
  case len =>
    rintro ds M Q E ⟨l, rfl, _⟩
    rfl
  rintro ds M Qd Ed ⟨l, rfl, hd, q⟩ hM
  have hlt := hd.lt
  try simp! only [eq_self]
  refine use_offA hd (by decide) (by decide) fun r o hr ho => ?_
  generalize hL : [D.str (Str.ofString ""), D.str (Str.ofString " "), D.str (Str.ofString "?"), D.str (Str.ofString "?00"), D.str (Str.ofString "?1000"), D.str (Str.ofString "?-1"), D.str (Str.ofString "? 1"), D.str (Str.ofString "a("), D.str (Str.ofString "a()"), D.str (Str.ofString "a(b"), D.str (Str.ofString "a(b,"), D.str (Str.ofString "a(b,)"), D.str (Str.ofString "a(,b)"), D.str (Str.ofString "a b"), D.str (Str.ofString "a(b)c"), D.str (Str.ofString "A"), D.str (Str.ofString "aB"), D.str (Str.ofString "a_b"), D.str (Str.ofString "a1"), D.str (Str.ofString "ninesigns"), D.str (Str.ofString "eightsig"), D.str (Str.ofString "a(b,c,d,e,f)"), D.str (Str.ofString "a(b,c,d,e)"), D.str (Str.ofString "?7?7"), D.str (Str.ofString "a(?0(b))"), D.str (Str.ofString "a (b)"), D.str (Str.ofString "a( b)"), D.str (Str.ofString "(a)"), D.str (Str.ofString "a=b"), D.str (Str.ofString "a))")] = L
  have hall : L.all (fun d => match d with | .str y => goodB y | _ => false) = true := by rw [← hL]; decide +kernel
  have hlen : L.length = 30 := by rw [← hL]; rfl
  obtain ⟨d, hd'⟩ : ∃ d, L[r]? = some d := ⟨_, List.getElem?_eq_getElem (by omega)⟩
  have hg := List.all_eq_true.mp hall d (List.mem_of_getElem? hd')
  obtain ⟨y, rfl, hy⟩ : ∃ y, d = .str y ∧ goodB y = true := by
    cases d with
    | str y => exact ⟨y, rfl, hg⟩
    | _ => cases hg
  have f1 : atI L (r : Int) = some (.str y) := atI_nat hd'
  clear hL
  try simp! only [hlt, f1]
  have hq := q o (tlS y) ho (goodB_ok hy)
  rw [mk_tlS] at hq
  exact Done.old (okM_set hM (ho.ok _)) (takeK (by simp)) rfl hq
end
section
variable {P : Program} {w : World} {K : PySem.W.Frag} {mg : Str → Option Value} {base : Heap}
theorem mk_app (a b : List Nat) : mkS a ++ mkS b = mkS (a ++ b) := by
  refine str_ext ?_
  rw [tlS_app, tlS_mk, tlS_mk, tlS_mk]
theorem shT_mk (t : Tm) : shT t = mkS (cs t) := by rw [← shT_cs, mk_tlS]
/-- a text with a sign put in, and up to two left out -/
theorem TextOk.cut {t : Tm} (ht : Rdb t) (hz : t.size ≤ 85) (hl : (cs t).length ≤ 4000) (a r : Nat) (m : List Nat) (hm : m.length ≤ 1) (hmc : ∀ c ∈ m, c < 1114112) : TextOk ((cs t).take a ++ m ++ (cs t).drop (a + r)) := by
  obtain ⟨p1, p2⟩ := cs_plain2 t ht
  have pl := cs_plain t ht
  have s1 : ((cs t).take a).Sublist (cs t) := List.take_sublist ..
  have s2 : ((cs t).drop (a + r)).Sublist ((cs t).drop a) := by rw [← List.drop_drop]; exact List.drop_sublist ..
  have s3 : ((cs t).drop (a + r)).Sublist (cs t) := List.drop_sublist ..
  have c1 : ((cs t).take a).count 40 + ((cs t).drop (a + r)).count 40 ≤ (cs t).count 40 := by
    have h1 := s2.count_le 40
    have h2 : ((cs t).take a).count 40 + ((cs t).drop a).count 40 = (cs t).count 40 := by rw [← List.count_append, List.take_append_drop]
    omega
  have l1 := s1.length_le
  have l3 := s3.length_le
  have m1 : m.countP spB ≤ m.length := List.countP_le_length
  have m2 : m.count 40 ≤ m.length := List.count_le_length
  have q1 := s1.countP_le (p := spB)
  have q3 := s3.countP_le (p := spB)
  refine ⟨⟨fun c hc => ?_, ?_⟩, ?_, ?_, ?_⟩
  · rcases List.mem_append.mp hc with hc | hc
    · rcases List.mem_append.mp hc with hc | hc
      · have := (pl c (s1.subset hc)).2; omega
      · exact hmc c hc
    · have := (pl c (s3.subset hc)).2; omega
  · rw [List.length_append, List.length_append]; omega
  · rw [List.length_append, List.length_append]
    have h2 := s2.length_le
    have h3 : ((cs t).take a).length + ((cs t).drop a).length = (cs t).length := by rw [← List.length_append, List.take_append_drop]
    omega
  · rw [List.countP_append, List.countP_append]; omega
  · rw [List.count_append, List.count_append]; omega
theorem OkC.nm' {s : List Nat} (h : ∀ c ∈ s, c < 1114112) : NameOk (mkS s) := by
  show (s.toArray).all (fun c => decide (c < 1114112)) = true
  rw [← Array.all_toList, List.all_eq_true]
  intro c hc
  simpa using h c (by simpa using hc)
theorem rep_len (x : Str) (k : Nat) {n : Nat} (h : x.length = n) : (repS x k).length = n * k := by
  have e := congrArg List.length (rep_list k x)
  have e5 : ∀ j : Nat, ((List.replicate j x.cps.toList).flatten).length = x.cps.toList.length * j := by
    intro j
    induction j with
    | zero => simp
    | succ j ih => rw [List.replicate_succ, List.flatten_cons, List.length_append, ih, Nat.mul_succ]; omega
  rw [e5] at e
  have e3 : x.length = x.cps.toList.length := TL.len_tl x
  have e4 : (repS x k).length = (repS x k).cps.toList.length := TL.len_tl _
  rw [e4, e, ← e3, h]
/-- a name within many brackets -/
theorem deep_text (k : Nat) (hk : k ≤ 70) : ∃ s : List Nat, repS (Str.ofString "a(") k ++ Str.ofString "b" ++ repS (Str.ofString ")") k = mkS s ∧ TextOk s := by
  have e1 : tlS (Str.ofString "a(") = [97, 40] := by decide +kernel
  have e2 : tlS (Str.ofString ")") = [41] := by decide +kernel
  have e3 : tlS (Str.ofString "b") = [98] := by decide +kernel
  have t1 : tlS (repS (Str.ofString "a(") k) = (List.replicate k [97, 40]).flatten := by
    have := rep_list k (Str.ofString "a(")
    have h : (Str.ofString "a(").cps.toList = [97, 40] := e1
    rw [h] at this
    exact this
  have t2 : tlS (repS (Str.ofString ")") k) = (List.replicate k [41]).flatten := by
    have := rep_list k (Str.ofString ")")
    have h : (Str.ofString ")").cps.toList = [41] := e2
    rw [h] at this
    exact this
  refine ⟨(List.replicate k [97, 40]).flatten ++ [98] ++ (List.replicate k [41]).flatten, ?_, ?_⟩
  · refine str_ext ?_
    rw [tlS_app, tlS_app, tlS_mk, t1, t2, e3]
  · have g : ∀ j : Nat, (∀ c ∈ (List.replicate j [97, 40]).flatten, c < 128) ∧ ((List.replicate j [97, 40]).flatten).length = 2 * j ∧ ((List.replicate j [97, 40]).flatten).countP spB = 0 ∧ ((List.replicate j [97, 40]).flatten).count 40 = j := by
      intro j
      induction j with
      | zero => exact ⟨fun c hc => (by cases hc), rfl, rfl, rfl⟩
      | succ j ih =>
        obtain ⟨i1, i2, i3, i4⟩ := ih
        rw [List.replicate_succ, List.flatten_cons]
        refine ⟨fun c hc => ?_, by rw [List.length_append, i2]; show 2 + 2 * j = 2 * (j + 1); omega, by rw [List.countP_append, i3]; decide, by rw [List.count_append, i4]; show 1 + j = j + 1; omega⟩
        rcases List.mem_append.mp hc with hc | hc
        · simp only [List.mem_cons, List.not_mem_nil, or_false] at hc
          rcases hc with rfl | rfl <;> decide
        · exact i1 c hc
    have g2 : ∀ j : Nat, (∀ c ∈ (List.replicate j [41]).flatten, c < 128) ∧ ((List.replicate j [41]).flatten).length = j ∧ ((List.replicate j [41]).flatten).countP spB = 0 ∧ ((List.replicate j [41]).flatten).count 40 = 0 := by
      intro j
      induction j with
      | zero => exact ⟨fun c hc => (by cases hc), rfl, rfl, rfl⟩
      | succ j ih =>
        obtain ⟨i1, i2, i3, i4⟩ := ih
        rw [List.replicate_succ, List.flatten_cons]
        refine ⟨fun c hc => ?_, by rw [List.length_append, i2]; show 1 + j = j + 1; omega, by rw [List.countP_append, i3]; decide, by rw [List.count_append, i4]; decide⟩
        rcases List.mem_append.mp hc with hc | hc
        · rw [List.mem_singleton.mp hc]; decide
        · exact i1 c hc
    obtain ⟨a1, a2, a3, a4⟩ := g k
    obtain ⟨b1, b2, b3, b4⟩ := g2 k
    refine ⟨⟨fun c hc => ?_, ?_⟩, ?_, ?_, ?_⟩
    · rcases List.mem_append.mp hc with hc | hc
      · rcases List.mem_append.mp hc with hc | hc
        · have := a1 c hc; omega
        · rw [List.mem_singleton.mp hc]; decide
      · have := b1 c hc; omega
    · rw [List.length_append, List.length_append, a2, b2, List.length_singleton]; omega
    · rw [List.length_append, List.length_append, a2, b2, List.length_singleton]; omega
    · rw [List.countP_append, List.countP_append, a3, b3]; decide
    · rw [List.count_append, List.count_append, a4, b4]
      have : ([98] : List Nat).count 40 = 0 := by decide
      omega
theorem fn_law (T : Top K mg) {fd : FuncData} (F : FnP K "law" "law" s_law (He.ga K "law") fd) : FnOk P w K mg base CX0 160 (He.ga K "law") fd ["_law_script"] (liftSp K spLaw) := by
  have F__law_dice := fn_dice (P := P) (w := w) (base := base) T
  have F__law_off := fn_off (P := P) (w := w) (base := base) T
  have F__law_signs := fn_signs (P := P) (w := w) (base := base) T
  have F__law_free := fn_free (P := P) (w := w) (base := base) T
  have F__law_term := fn_term (P := P) (w := w) (base := base) T 3
  have F__law_text := fn_ltext (P := P) (w := w) (base := base) T 100
  have F__law_odd := fn_odd (P := P) (w := w) (base := base) T
  have F__law_due := fn_due (P := P) (w := w) (base := base) T
  have F__law_is_read := fn_isread (P := P) (w := w) (base := base) T
  have F__law_is_pair := fn_ispair (P := P) (w := w) (base := base) T
  have sc := sc_law
  refine fnok_of F sc ?len ⟨_, fun cdv A outer s H E m0 hr => (
      (dss_cons (ds_set 1 sc.nd (de_call F__law_signs (hr.mono (by omega)) pass0 (da_cons (de_call F__law_dice (hr.mono (by omega)) pass0 (da_cons (de_var 0) (da_cons de_int da_nil))) da_nil)))
      (dss_cons (ds_set 2 sc.nd (de_call F__law_term (hr.mono (by omega)) pass0 (da_cons (de_call F__law_dice (hr.mono (by omega)) pass0 (da_cons (de_var 0) (da_cons de_int da_nil))) (da_cons (de_var 1) (da_cons de_int (da_cons (de_call F__law_free (hr.mono (by omega)) pass0 (da_cons (de_call F__law_dice (hr.mono (by omega)) pass0 (da_cons (de_var 0) (da_cons de_int da_nil))) da_nil)) da_nil))))))
      (dss_cons (ds_set 3 sc.nd (de_call F__law_dice (hr.mono (by omega)) pass0 (da_cons (de_var 0) (da_cons de_int da_nil))))
      (dss_cons (ds_set 4 sc.nd (de_call F__law_text (hr.mono (by omega)) pass0 (da_cons (de_var 2) da_nil)))
      (dss_cons (ds_set 5 sc.nd (de_call F__law_off (hr.mono (by omega)) pass0 (da_cons (de_var 3) (da_cons (de_bin dop_add (de_cb T.n_len dc_len b_len (da_cons (de_var 4) da_nil)) de_int) da_nil))))
      (dss_cons (ds_set 6 sc.nd (de_ix hr de_str (de_call F__law_off (hr.mono (by omega)) pass0 (da_cons (de_var 3) (da_cons de_int da_nil)))))
      (dss_cons (ds_set 4 sc.nd (de_bin dop_add (de_bin dop_add (de_slice (de_var 4) do_none (do_some (de_var 5))) (de_slice (de_var 6) do_none (do_some (de_call F__law_off (hr.mono (by omega)) pass0 (da_cons (de_var 3) (da_cons de_int da_nil)))))) (de_slice (de_var 4) (do_some (de_bin dop_add (de_var 5) (de_call F__law_off (hr.mono (by omega)) pass0 (da_cons (de_var 3) (da_cons de_int da_nil))))) do_none)))
      (dss_cons (ds_if (dt_cmp (dop_eq hr) (de_call F__law_off (hr.mono (by omega)) pass0 (da_cons (de_var 3) (da_cons de_int da_nil))) de_int) (dss_one (ds_set 4 sc.nd (de_call F__law_odd (hr.mono (by omega)) pass0 (da_cons (de_var 3) da_nil)))) dss_nil)
      (dss_cons (ds_if (dt_cmp (dop_eq hr) (de_call F__law_off (hr.mono (by omega)) pass0 (da_cons (de_var 3) (da_cons de_int da_nil))) de_int) (dss_cons (ds_set 7 sc.nd (de_bin dop_add de_int (de_call F__law_off (hr.mono (by omega)) pass0 (da_cons (de_var 3) (da_cons de_int da_nil)))))
      (dss_one (ds_set 4 sc.nd (de_bin dop_add (de_bin dop_add (de_bin dop_rep de_str (de_var 7)) de_str) (de_bin dop_rep de_str (de_var 7)))))) dss_nil)
      (dss_cons (ds_set 8 sc.nd (de_call F__law_due (hr.mono (by omega)) pass0 (da_cons (de_var 4) da_nil)))
      (dss_cons (ds_set 9 sc.nd (de_call F__law_text (hr.mono (by omega)) pass0 (da_cons (de_var 2) da_nil)))
      (dss_cons (ds_if (dt_w (dw_or (dt_not (dt_e (de_call F__law_is_read (hr.mono (by omega)) pass0 (da_cons (de_var 4) (da_cons (de_var 8) da_nil))))) (dw_or1 (dt_not (dt_e (de_call F__law_is_pair (hr.mono (by omega)) pass0 (da_cons (de_bin dop_add (de_bin dop_add (de_var 9) de_str) (de_var 9)) (da_cons de_non (da_cons de_non da_nil))))))))) (dss_one (ds_ret de_bl)) dss_nil)
      (dss_one (ds_ret (de_and (de_call F__law_is_pair (hr.mono (by omega)) pass0 (da_cons (de_bin dop_add (de_bin dop_add (de_var 9) de_str) (de_var 4)) (da_cons (de_var 2) (da_cons (de_var 8) da_nil)))) (de_one (de_call F__law_is_pair (hr.mono (by omega)) pass0 (da_cons (de_bin dop_add (de_bin dop_add (de_var 4) de_str) (de_var 9)) (da_cons (de_var 8) (da_cons (de_var 2) da_nil))))))))))))))))))))), ?_⟩
  case len =>
    rintro ds M Q E ⟨sc, rfl, _⟩
    rfl
  rintro ds M Qd Ed ⟨sc, rfl, hsc, rfl, q⟩ hM
  refine cutL4 (W := fun r' M' => ∃ (t : Tm), Rdb t ∧ t.deep ≤ 3 ∧ t.size ≤ 85 ∧ Dice M' 5 ∧
    r' = [some (D.rol (List.map D.int sc)), some (.loc 1), some t.d, some (.loc 5), some (.str (mkS (cs t))), none, none, none, none, none]) ?_ fun R hR => ?_
  · rintro r' M1 ⟨t, hrt, htd, htz, hd, rfl⟩
    have hwt : Wr t := ⟨hrt, by omega, by omega⟩
    have htl := hwt.len
    have hcl : (cs t).length ≤ 4000 := by
      have e1 : (shT t).length = (cs t).length := by rw [← shT_cs]; exact TL.len_tl _
      omega
    have hml := mk_len (cs t)
    let J : Rho → Mem → Prop := fun r' M' => ∃ (s : List Nat) (u5 u6 u7 : Option D), TextOk s ∧ Dice M' 5 ∧ r' = [some (D.rol (List.map D.int sc)), some (.loc 1), some t.d, some (.loc 5), some (.str (mkS s)), u5, u6, u7, none, none]
    refine cutL4 (W := J) ?_ fun R hR => ?_
    · rintro r' M2 ⟨s, u5, u6, u7, hs, hd, rfl⟩
      refine cut1 (W := J) ?_ fun R hR => ?_
      · rintro r' M3 ⟨s, u5, u6, u7, hs, hd, rfl⟩
        try simp! only [eq_self]
        refine ⟨s, rfl, hs.ok, hs.br, ?_⟩
        try simp! only [eq_self]
        refine ⟨t, rfl, by omega, hwt.tx, ?_⟩
        try simp! only [eq_self]
        refine ⟨s, rfl, hs.ok, ?_⟩
        have hp := (cs_plain2 t hrt).1
        have hpl := cs_plain t hrt
        have hsl := hs.l
        have hsm := mk_len s
        have hcm := mk_len (cs t)
        have e0 : (Str.ofString "=") = mkS [61] := rfl
        have e1 : (Str.ofString " = ") = mkS [32, 61, 32] := rfl
        have l1 : (Str.ofString "=").length = 1 := rfl
        have l3 : (Str.ofString " = ").length = 3 := rfl
        have l4 : (mkS [32, 61, 32]).length = 3 := rfl
        have etl : shT t = mkS (cs t) := shT_mk t
        have onm : ∀ l : List Nat, (∀ c ∈ l, c < 1114112) → NameOk (mkS l) := fun l h => (OkC.nm' h)
        have hc4 : ∀ c ∈ cs t, c < 1114112 := fun c hc => by have := (hpl c hc).2; omega
        have hrd : readL (cs t) = some t := by have := read_shown hrt (by omega); rwa [shT_cs] at this
        try simp! only [eq_self]
        refine ⟨by omega, by rw [str_len]; omega, ?_⟩
        rw [etl, e0, mk_app, mk_app]
        have x0 : sp_ispair [D.str (mkS (cs t ++ [61] ++ cs t)), D.non, D.non] M3 = sp_ispair [D.str (mkS (cs t ++ [61] ++ cs t)), optT none, optT none] M3 := rfl
        rw [x0]
        refine ⟨mkS (cs t ++ [61] ++ cs t), none, none, rfl, onm _ (fun c hc => ?_), by rw [mk_len, List.length_append, List.length_append, List.length_singleton]; omega, .inr ⟨fun i hi => ?_, rfl⟩, ?_⟩
        · simp only [List.mem_append, List.mem_singleton] at hc
          rcases hc with (hc | rfl) | hc
          · exact hc4 c hc
          · decide
          · exact hc4 c hc
        · rw [tlS_mk] at hi
          have := hit_sp hi
          rw [List.countP_append, List.countP_append, hp] at this
          revert this
          decide
        try simp! only [eq_self]
        refine ⟨by omega, by rw [str_len]; omega, ?_⟩
        rw [e1, mk_app, mk_app]
        obtain ⟨p1, p2, p3⟩ := hit_left (s := s) (r := cs t) hs.sp hp
        obtain ⟨q1, q2, q3⟩ := hit_right (s := s) (r := cs t) hs.sp hp
        rw [← List.append_assoc] at p1 p2 p3 q1 q2 q3
        have ot : optT (some t) = t.d := rfl
        have len1 : (cs t ++ [32, 61, 32] ++ s).length = (cs t).length + 3 + s.length := by simp; omega
        have len2 : (s ++ [32, 61, 32] ++ cs t).length = s.length + 3 + (cs t).length := by simp; omega
        rw [← ot]
        refine ⟨mkS (cs t ++ [32, 61, 32] ++ s), some t, readL s, rfl, onm _ (fun c hc => ?_), by rw [mk_len, len1]; omega, .inl ⟨(cs t).length, by rw [mk_len, len1]; omega, by rw [tlS_mk]; exact p1, by rw [tlS_mk]; exact p2, by rw [tlS_mk]; exact p3, ?_, ?_⟩, ?_⟩
        · simp only [List.mem_append, List.mem_cons, List.not_mem_nil, or_false] at hc
          rcases hc with (hc | rfl | rfl | rfl) | hc
          · exact hc4 c hc
          · decide
          · decide
          · decide
          · exact hs.ok.1 c hc
        · rw [tlS_mk, List.append_assoc, List.take_append_of_le_length (Nat.le_refl _), List.take_length, hrd]
        · rw [tlS_mk, List.drop_append_of_le_length (by simp), List.drop_of_length_le (by simp)]
          rfl
        try simp! only [eq_self]
        refine ⟨by omega, by rw [str_len]; omega, ?_⟩
        rw [mk_app, mk_app]
        refine ⟨mkS (s ++ [32, 61, 32] ++ cs t), readL s, some t, rfl, onm _ (fun c hc => ?_), by rw [mk_len, len2]; omega, .inl ⟨s.length, by rw [mk_len, len2]; omega, by rw [tlS_mk]; exact q1, by rw [tlS_mk]; exact q2, by rw [tlS_mk]; exact q3, ?_, ?_⟩, ?_⟩
        · simp only [List.mem_append, List.mem_cons, List.not_mem_nil, or_false] at hc
          rcases hc with (hc | rfl | rfl | rfl) | hc
          · exact hs.ok.1 c hc
          · decide
          · decide
          · decide
          · exact hc4 c hc
        · rw [tlS_mk, List.append_assoc, List.take_append_of_le_length (Nat.le_refl _), List.take_length]
        · rw [tlS_mk, List.drop_append_of_le_length (by simp), List.drop_of_length_le (by simp), List.nil_append, hrd]
        exact .same (q _)
      · try simp! only [eq_self]
        refine use_off0 hd (by omega) (by omega) fun v o1 hv ho1 => ?_
        have hd1 : Dice (M2.set 5 o1) 5 := ⟨o1, List.getElem?_set_self hd.lt, ho1⟩
        generalize M2.set 5 o1 = M3 at hd1 ⊢
        try simp! only [eq_self]
        by_cases h0 : (v : Int) = 0
        · try simp! only [decide_eq_true h0]
          refine use_off0 hd1 (by omega) (by omega) fun m o2 hm ho2 => ?_
          have hd2 : Dice (M3.set 5 o2) 5 := ⟨o2, List.getElem?_set_self hd1.lt, ho2⟩
          generalize M3.set 5 o2 = M4 at hd2 ⊢
          have l1 : (Str.ofString "a(").length = 2 := by decide +kernel
          have l2 : (Str.ofString ")").length = 1 := by decide +kernel
          have l3 : (Str.ofString "b").length = 1 := by decide +kernel
          obtain ⟨k, hk⟩ : ∃ k : Nat, k = 59 + m := ⟨_, rfl⟩
          have ek : ((59 : Int) + (m : Int)) = ((k : Nat) : Int) := by omega
          have ek2 : ((59 : Int) + (m : Int)).toNat = k := by omega
          obtain ⟨s, hs, hst⟩ := deep_text k (by omega)
          have r1 : (repS (Str.ofString "a(") k).length = 2 * k := rep_len _ k l1
          have r2 : (repS (Str.ofString ")") k).length = 1 * k := rep_len _ k l2
          try simp! only [eq_self]
          rw [ek2]
          refine ⟨⟨by omega, by omega, by omega, by omega⟩, by omega, ⟨by omega, by omega, by omega, by omega⟩, by rw [str_len]; omega, ?_⟩
          rw [hs]
          exact hR _ _ ⟨s, _, _, _, hst, hd2, rfl⟩
        · try simp! only [decide_eq_false h0]
          exact hR _ _ ⟨s, _, _, _, hs, hd1, rfl⟩
    · try simp! only [eq_self]
      refine ⟨by omega, ?_⟩
      refine use_off0 hd (by omega) (by omega) fun a o1 ha ho1 => ?_
      have hd1 : Dice (M1.set 5 o1) 5 := ⟨o1, List.getElem?_set_self hd.lt, ho1⟩
      generalize M1.set 5 o1 = M2 at hd1 ⊢
      try simp! only [eq_self]
      refine use_off0 hd1 (by omega) (by omega) fun k o2 hk ho2 => ?_
      have hd2 : Dice (M2.set 5 o2) 5 := ⟨o2, List.getElem?_set_self hd1.lt, ho2⟩
      generalize M2.set 5 o2 = M3 at hd2 ⊢
      obtain ⟨c, hc, hcl'⟩ : ∃ c, (Str.cps (Str.ofString "(),?= abz09-AZ_.1(,)")).toList[k]? = some c ∧ c < 1114112 := by
        have hl : (Str.cps (Str.ofString "(),?= abz09-AZ_.1(,)")).toList.length = 20 := by decide +kernel
        have hall : (Str.cps (Str.ofString "(),?= abz09-AZ_.1(,)")).toList.all (fun c => decide (c < 1114112)) = true := by decide +kernel
        generalize (Str.cps (Str.ofString "(),?= abz09-AZ_.1(,)")).toList = L at hl hall
        have hkl : k < L.length := by omega
        refine ⟨L[k], List.getElem?_eq_getElem hkl, ?_⟩
        have := List.all_eq_true.mp hall _ (List.getElem_mem hkl)
        simpa using this
      have f1 : atI (Str.cps (Str.ofString "(),?= abz09-AZ_.1(,)")).toList (k : Int) = some c := atI_nat hc
      have l20 : (Str.ofString "(),?= abz09-AZ_.1(,)").length = 20 := by decide +kernel
      try simp! only [f1]
      refine ⟨by omega, by omega, ?_⟩
      refine use_off0 hd2 (by omega) (by omega) fun r o3 hr ho3 => ?_
      have hd3 : Dice (M3.set 5 o3) 5 := ⟨o3, List.getElem?_set_self hd2.lt, ho3⟩
      generalize M3.set 5 o3 = M4 at hd3 ⊢
      have ec : (⟨#[c]⟩ : Str) = mkS [c] := rfl
      have c1 : cutS (mkS (cs t)) none (some (a : Int)) = mkS ((cs t).take a) := cut_pre
      have c2 : cutS (mkS [c]) none (some (r : Int)) = mkS ([c].take r) := cut_pre
      try simp! only [eq_self]
      rw [ec, c1, c2]
      have t1 := (List.take_sublist a (cs t)).length_le
      have t2 : ([c].take r).length ≤ 1 := by rw [List.length_take]; exact Nat.min_le_right ..
      refine ⟨by rw [mk_len]; show 1 ≤ 16777216; decide, by rw [mk_len, mk_len]; omega, ?_⟩
      refine use_off0 hd3 (by omega) (by omega) fun b o4 hb ho4 => ?_
      have hd4 : Dice (M4.set 5 o4) 5 := ⟨o4, List.getElem?_set_self hd3.lt, ho4⟩
      generalize M4.set 5 o4 = M5 at hd4 ⊢
      have c3 : cutS (mkS (cs t)) (some ((a : Int) + (b : Int))) none = mkS ((cs t).drop (a + b)) := by rw [← Int.natCast_add]; exact cut_suf
      have t3 := (List.drop_sublist (a + b) (cs t)).length_le
      try simp! only [eq_self]
      rw [c3, mk_app, mk_app]
      refine ⟨by omega, by rw [mk_len, mk_len, List.length_append]; omega, ?_⟩
      have hok := TextOk.cut hrt htz hcl a b ([c].take r) t2 fun x hx => by have := List.mem_of_mem_take hx; rw [List.mem_singleton.mp this]; exact hcl'
      rw [List.append_assoc] at hok
      refine use_off0 hd4 (by omega) (by omega) fun v o5 hv ho5 => ?_
      have hd5 : Dice (M5.set 5 o5) 5 := ⟨o5, List.getElem?_set_self hd4.lt, ho5⟩
      generalize M5.set 5 o5 = M6 at hd5 ⊢
      try simp! only [eq_self]
      by_cases h0 : (v : Int) = 0
      · try simp! only [decide_eq_true h0]
        refine ⟨5, rfl, hd5, fun o6 s ho6 hs => ?_⟩
        exact hR _ _ ⟨s, _, _, _, hs, ⟨o6, List.getElem?_set_self hd5.lt, ho6⟩, rfl⟩
      · try simp! only [decide_eq_false h0]
        exact hR _ _ ⟨_, _, _, _, hok, hd5, rfl⟩
  · try simp! only [eq_self]
    refine ⟨sc, 0, rfl, by decide, fun o1 ho1 => ?_⟩
    try simp! only [eq_self]
    refine ⟨0, rfl, ⟨o1, rfl, ho1⟩, fun o1 ss ho1 hss => ?_⟩
    try simp! only [eq_self]
    refine ⟨sc, 2, rfl, by decide, fun o2 ho2 => ?_⟩
    try simp! only [eq_self]
    refine ⟨sc, 1, rfl, by decide, fun o3 ho3 => ?_⟩
    try simp! only [eq_self]
    refine ⟨3, rfl, ⟨o3, rfl, ho3⟩, fun o3 vs ho3 hvs => ?_⟩
    try simp! only [eq_self]
    refine ⟨2, 1, 4, 2, ss, vs, rfl, by decide, by decide, ⟨o2, rfl, ho2⟩, by decide, by decide, rfl, rfl, hss, hvs.len, fun o2 t ho2 ht htd => ?_⟩
    have hz := (ht.size hss).2.2.1 htd
    have hrt := Rdb.over hss hvs.lim ht
    have hwt : Wr t := ⟨hrt, by omega, by omega⟩
    try simp! only [eq_self]
    refine ⟨sc, 3, rfl, by decide, fun o4 ho4 => ?_⟩
    try simp! only [eq_self]
    refine ⟨t, rfl, by omega, hwt.tx, ?_⟩
    rw [shT_mk]
    exact hR _ _ ⟨t, hrt, htd, by omega, ⟨o4, rfl, ho4⟩, rfl⟩
end
def dd_is_name : He.DefD := ⟨("is_name", none), "is_name", "is_name", defArgs s_is_name, defBody s_is_name, defScope s_is_name, [], []⟩
def dd__behind : He.DefD := ⟨("_behind", none), "_behind", "_behind", defArgs s__behind, defBody s__behind, defScope s__behind, [], []⟩
def dd__blank : He.DefD := ⟨("_blank", none), "_blank", "_blank", defArgs s__blank, defBody s__blank, defScope s__blank, [], []⟩
def dd__leaf : He.DefD := ⟨("_leaf", none), "_leaf", "_leaf", defArgs s__leaf, defBody s__leaf, defScope s__leaf, [], []⟩
def dd_read : He.DefD := ⟨("read", none), "read", "read", defArgs s_read, defBody s_read, defScope s_read, [], []⟩
def dd_read_pair : He.DefD := ⟨("read_pair", none), "read_pair", "read_pair", defArgs s_read_pair, defBody s_read_pair, defScope s_read_pair, [], []⟩
def dd__law_cell : He.DefD := ⟨("_law_cell", none), "_law_cell", "_law_cell", defArgs s__law_cell, defBody s__law_cell, defScope s__law_cell, [], []⟩
def dd__law_dice : He.DefD := ⟨("_law_dice", none), "_law_dice", "_law_dice", defArgs s__law_dice, defBody s__law_dice, defScope s__law_dice, [], []⟩
def dd__law_off : He.DefD := ⟨("_law_off", none), "_law_off", "_law_off", defArgs s__law_off, defBody s__law_off, defScope s__law_off, [], []⟩
def dd__law_names : He.DefD := ⟨("_law_names", none), "_law_names", "_law_names", defArgs s__law_names, defBody s__law_names, defScope s__law_names, [], []⟩
def dd__law_signs : He.DefD := ⟨("_law_signs", none), "_law_signs", "_law_signs", defArgs s__law_signs, defBody s__law_signs, defScope s__law_signs, [], []⟩
def dd__law_free : He.DefD := ⟨("_law_free", none), "_law_free", "_law_free", defArgs s__law_free, defBody s__law_free, defScope s__law_free, [], []⟩
def dd__law_term : He.DefD := ⟨("_law_term", none), "_law_term", "_law_term", defArgs s__law_term, defBody s__law_term, defScope s__law_term, [], []⟩
def dd__law_same : He.DefD := ⟨("_law_same", none), "_law_same", "_law_same", defArgs s__law_same, defBody s__law_same, defScope s__law_same, [], []⟩
def dd__law_text : He.DefD := ⟨("_law_text", none), "_law_text", "_law_text", defArgs s__law_text, defBody s__law_text, defScope s__law_text, [], []⟩
def dd__law_word : He.DefD := ⟨("_law_word", none), "_law_word", "_law_word", defArgs s__law_word, defBody s__law_word, defScope s__law_word, [], []⟩
def dd__law_taken : He.DefD := ⟨("_law_taken", none), "_law_taken", "_law_taken", defArgs s__law_taken, defBody s__law_taken, defScope s__law_taken, [], []⟩
def dd__law_due : He.DefD := ⟨("_law_due", none), "_law_due", "_law_due", defArgs s__law_due, defBody s__law_due, defScope s__law_due, [], []⟩
def dd__law_is_read : He.DefD := ⟨("_law_is_read", none), "_law_is_read", "_law_is_read", defArgs s__law_is_read, defBody s__law_is_read, defScope s__law_is_read, [], []⟩
def dd__law_is_pair : He.DefD := ⟨("_law_is_pair", none), "_law_is_pair", "_law_is_pair", defArgs s__law_is_pair, defBody s__law_is_pair, defScope s__law_is_pair, [], []⟩
def dd__law_odd : He.DefD := ⟨("_law_odd", none), "_law_odd", "_law_odd", defArgs s__law_odd, defBody s__law_odd, defScope s__law_odd, [], []⟩
def dd_law : He.DefD := ⟨("law", none), "law", "law", defArgs s_law, defBody s_law, defScope s_law, [], []⟩
def fn : List He.DefD := [dd_is_name, dd__behind, dd__blank, dd__leaf, dd_read, dd_read_pair, dd__law_cell, dd__law_dice, dd__law_off, dd__law_names, dd__law_signs, dd__law_free, dd__law_term, dd__law_same, dd__law_text, dd__law_word, dd__law_taken, dd__law_due, dd__law_is_read, dd__law_is_pair, dd__law_odd, dd_law]
def fa : List He.Fa := [.glo "is_name", .glo "_behind", .glo "_blank", .glo "_leaf", .glo "read", .glo "read_pair", .glo "_law_cell", .glo "_law_dice", .glo "_law_off", .glo "_law_names", .glo "_law_signs", .glo "_law_free", .glo "_law_term", .glo "_law_same", .glo "_law_text", .glo "_law_word", .glo "_law_taken", .glo "_law_due", .glo "_law_is_read", .glo "_law_is_pair", .glo "_law_odd", .glo "law", .int "LONGEST_NAME" 8, .int "MOST_PARTS" 4, .int "MOST_OPEN" 60, .int "MOST_FIGURES" 3, .str "FIGURES" "0123456789", .str "LETTERS" "abcdefghijklmnopqrstuvwxyz", .str "BETWEEN" " = ", .free "ValueError", .free "abs", .free "all", .free "bool", .free "int", .free "isinstance", .free "len", .free "list", .free "max", .free "range", .free "str", .free "tuple", .free "zip", .glo "WoodError", .glo "BadOrder", .glo "NoTerm", .glo "NoPlace", .glo "BadText", .glo "TooHeavy", .glo "TooLong", .exc "BadText", .exm "BadText" "BadText" true, .exm "BadText" "WoodError" true]
abbrev R : PySem.W.OpenRow := PySem.W.OpenLaw.row PySem.Challenge.rw_ruleswood_k10_read_or_refused
def exq : List (PySem.W.Frag → Bool) := [fun K => excB K (He.ga K "BadText"), fun K => kit1B K (He.ga K "BadText") (.ref (He.ga K "WoodError")) true, fun K => kit1B K (He.ga K "BadText") (.ref (He.ga K "BadOrder")) false, fun K => kit1B K (He.ga K "BadText") (.ref (He.ga K "NoTerm")) false, fun K => kit1B K (He.ga K "BadText") (.ref (He.ga K "NoPlace")) false, fun K => kit1B K (He.ga K "BadText") (.ref (He.ga K "BadText")) true, fun K => kit1B K (He.ga K "BadText") (.ref (He.ga K "TooHeavy")) false, fun K => kit1B K (He.ga K "BadText") (.ref (He.ga K "TooLong")) false, fun K => kit1B K (He.ga K "BadText") (.type "ValueError") true]
abbrev hk : PySem.W.Hook := hookX 4 fa fn exq
def ob (s : PySem.W.SharedT) : Bool × He.AlD := obsX 4 fa fn exq (HandSHeadRun.getT s)
theorem ob_eq (s : PySem.W.SharedT) : ob s = hk.obs s.abs := obsX_eq (HandSHeadRun.getT_eq s)
def loose : List Str := (["is_name", "_behind", "_blank", "_leaf", "read", "read_pair", "_law_cell", "_law_dice", "_law_off", "_law_names", "_law_signs", "_law_free", "_law_term", "_law_same", "_law_text", "_law_word"] : List Str) ++ (["_law_taken", "_law_due", "_law_is_read", "_law_is_pair", "_law_odd", "WoodError", "BadOrder", "NoTerm", "NoPlace", "BadText", "TooHeavy", "TooLong", "LONGEST_NAME", "MOST_PARTS", "MOST_OPEN", "MOST_FIGURES"] : List Str) ++ (["FIGURES", "LETTERS", "BETWEEN"] : List Str)
theorem run (w : World) : HandSHeadRun.RunEq R (PySem.W.view R.prog [39]) hk ob 20000 loose w := by
  intro os
  kernel_rfl
theorem topOf {K : PySem.W.Frag} {h : Heap} {mg : Str → Option Value} (X : K.In h) (G : h.Ns mainGlobals mg) (c : He.SaysD fa fn K) (cx : (exq.all fun f => f K) = true) : Top K mg where
  d_is_name := c.def_ 0 (d := dd_is_name) rfl
  d__behind := c.def_ 1 (d := dd__behind) rfl
  d__blank := c.def_ 2 (d := dd__blank) rfl
  d__leaf := c.def_ 3 (d := dd__leaf) rfl
  d_read := c.def_ 4 (d := dd_read) rfl
  d_read_pair := c.def_ 5 (d := dd_read_pair) rfl
  d__law_cell := c.def_ 6 (d := dd__law_cell) rfl
  d__law_dice := c.def_ 7 (d := dd__law_dice) rfl
  d__law_off := c.def_ 8 (d := dd__law_off) rfl
  d__law_names := c.def_ 9 (d := dd__law_names) rfl
  d__law_signs := c.def_ 10 (d := dd__law_signs) rfl
  d__law_free := c.def_ 11 (d := dd__law_free) rfl
  d__law_term := c.def_ 12 (d := dd__law_term) rfl
  d__law_same := c.def_ 13 (d := dd__law_same) rfl
  d__law_text := c.def_ 14 (d := dd__law_text) rfl
  d__law_word := c.def_ 15 (d := dd__law_word) rfl
  d__law_taken := c.def_ 16 (d := dd__law_taken) rfl
  d__law_due := c.def_ 17 (d := dd__law_due) rfl
  d__law_is_read := c.def_ 18 (d := dd__law_is_read) rfl
  d__law_is_pair := c.def_ 19 (d := dd__law_is_pair) rfl
  d__law_odd := c.def_ 20 (d := dd__law_odd) rfl
  d_law := c.def_ 21 (d := dd_law) rfl
  g_is_name := He.glo_ok X G (c.fact 0 (f := .glo "is_name") rfl)
  g__behind := He.glo_ok X G (c.fact 1 (f := .glo "_behind") rfl)
  g__blank := He.glo_ok X G (c.fact 2 (f := .glo "_blank") rfl)
  g__leaf := He.glo_ok X G (c.fact 3 (f := .glo "_leaf") rfl)
  g_read := He.glo_ok X G (c.fact 4 (f := .glo "read") rfl)
  g_read_pair := He.glo_ok X G (c.fact 5 (f := .glo "read_pair") rfl)
  g__law_cell := He.glo_ok X G (c.fact 6 (f := .glo "_law_cell") rfl)
  g__law_dice := He.glo_ok X G (c.fact 7 (f := .glo "_law_dice") rfl)
  g__law_off := He.glo_ok X G (c.fact 8 (f := .glo "_law_off") rfl)
  g__law_names := He.glo_ok X G (c.fact 9 (f := .glo "_law_names") rfl)
  g__law_signs := He.glo_ok X G (c.fact 10 (f := .glo "_law_signs") rfl)
  g__law_free := He.glo_ok X G (c.fact 11 (f := .glo "_law_free") rfl)
  g__law_term := He.glo_ok X G (c.fact 12 (f := .glo "_law_term") rfl)
  g__law_same := He.glo_ok X G (c.fact 13 (f := .glo "_law_same") rfl)
  g__law_text := He.glo_ok X G (c.fact 14 (f := .glo "_law_text") rfl)
  g__law_word := He.glo_ok X G (c.fact 15 (f := .glo "_law_word") rfl)
  g__law_taken := He.glo_ok X G (c.fact 16 (f := .glo "_law_taken") rfl)
  g__law_due := He.glo_ok X G (c.fact 17 (f := .glo "_law_due") rfl)
  g__law_is_read := He.glo_ok X G (c.fact 18 (f := .glo "_law_is_read") rfl)
  g__law_is_pair := He.glo_ok X G (c.fact 19 (f := .glo "_law_is_pair") rfl)
  g__law_odd := He.glo_ok X G (c.fact 20 (f := .glo "_law_odd") rfl)
  g_law := He.glo_ok X G (c.fact 21 (f := .glo "law") rfl)
  i_LONGEST_NAME := He.int_ok X G (c.fact 22 (f := .int "LONGEST_NAME" 8) rfl)
  i_MOST_PARTS := He.int_ok X G (c.fact 23 (f := .int "MOST_PARTS" 4) rfl)
  i_MOST_OPEN := He.int_ok X G (c.fact 24 (f := .int "MOST_OPEN" 60) rfl)
  i_MOST_FIGURES := He.int_ok X G (c.fact 25 (f := .int "MOST_FIGURES" 3) rfl)
  i_FIGURES := He.str_ok X G (c.fact 26 (f := .str "FIGURES" "0123456789") rfl)
  i_LETTERS := He.str_ok X G (c.fact 27 (f := .str "LETTERS" "abcdefghijklmnopqrstuvwxyz") rfl)
  i_BETWEEN := He.str_ok X G (c.fact 28 (f := .str "BETWEEN" " = ") rfl)
  n_ValueError := He.free_ok X G (c.fact 29 (f := .free "ValueError") rfl)
  n_abs := He.free_ok X G (c.fact 30 (f := .free "abs") rfl)
  n_all := He.free_ok X G (c.fact 31 (f := .free "all") rfl)
  n_bool := He.free_ok X G (c.fact 32 (f := .free "bool") rfl)
  n_int := He.free_ok X G (c.fact 33 (f := .free "int") rfl)
  n_isinstance := He.free_ok X G (c.fact 34 (f := .free "isinstance") rfl)
  n_len := He.free_ok X G (c.fact 35 (f := .free "len") rfl)
  n_list := He.free_ok X G (c.fact 36 (f := .free "list") rfl)
  n_max := He.free_ok X G (c.fact 37 (f := .free "max") rfl)
  n_range := He.free_ok X G (c.fact 38 (f := .free "range") rfl)
  n_str := He.free_ok X G (c.fact 39 (f := .free "str") rfl)
  n_tuple := He.free_ok X G (c.fact 40 (f := .free "tuple") rfl)
  n_zip := He.free_ok X G (c.fact 41 (f := .free "zip") rfl)
  g_WoodError := He.glo_ok X G (c.fact 42 (f := .glo "WoodError") rfl)
  g_BadOrder := He.glo_ok X G (c.fact 43 (f := .glo "BadOrder") rfl)
  g_NoTerm := He.glo_ok X G (c.fact 44 (f := .glo "NoTerm") rfl)
  g_NoPlace := He.glo_ok X G (c.fact 45 (f := .glo "NoPlace") rfl)
  g_BadText := He.glo_ok X G (c.fact 46 (f := .glo "BadText") rfl)
  g_TooHeavy := He.glo_ok X G (c.fact 47 (f := .glo "TooHeavy") rfl)
  g_TooLong := He.glo_ok X G (c.fact 48 (f := .glo "TooLong") rfl)
  e_BadText := He.exc_ok (c.fact 49 (f := .exc "BadText") rfl)
  m_BadText_BadText := He.exm_ok (c.fact 50 (f := .exm "BadText" "BadText" true) rfl)
  m_BadText_WoodError := He.exm_ok (c.fact 51 (f := .exm "BadText" "WoodError" true) rfl)
  x_BadText := excB_ok (ex_at cx 0)
  kb_BadText_WoodError := kit1B_ok (ex_at cx 1)
  kb_BadText_BadOrder := kit1B_ok (ex_at cx 2)
  kb_BadText_NoTerm := kit1B_ok (ex_at cx 3)
  kb_BadText_NoPlace := kit1B_ok (ex_at cx 4)
  kb_BadText_BadText := kit1B_ok (ex_at cx 5)
  kb_BadText_TooHeavy := kit1B_ok (ex_at cx 6)
  kb_BadText_TooLong := kit1B_ok (ex_at cx 7)
  kb_BadText_ValueError := kit1B_ok (ex_at cx 8)
theorem facts {P : Program} {w : World} {K : PySem.W.Frag} {h : Heap} {mg : Str → Option Value} {f : Addr} (X : K.In h) (G : h.Ns mainGlobals mg) (hfa : mg ("law" : Str) = some (.ref f)) (c : He.SaysD fa fn K) (cx : (exq.all fun f => f K) = true) :
    ∃ fd : FuncData, (∀ (s : Shared) (v : Value), BindsTo s fd ⟨[v], []⟩ [("_law_script", v)]) ∧ ∀ base : Heap, K.In base → base.Ns mainGlobals mg → FnOk P w K mg base CX0 160 f fd ["_law_script"] (liftSp K spLaw) := by
  have T := topOf X G c cx
  obtain ⟨fd, F⟩ := T.d_law
  have b := FunD.bindsA (ps := ["_law_script"]) F fun _ _ _ _ _ _ us hl => match us, hl with | [_], _ => rfl
  have e1 : f = He.ga K "law" := by
    have := hfa.symm.trans T.g_law
    cases this
    rfl
  subst e1
  exact ⟨fd, fun s v => b s [v] rfl, fun base _ _ => fn_law T F⟩
end K10
open PySem PySem.W PySem.Calls PyProof.Rows
set_option maxRecDepth 100000 in
set_option maxHeartbeats 0 in
theorem PySem.Challenge.cw_ruleswood_k10_read_or_refused_holds : PySem.Challenge.rw_ruleswood_k10_read_or_refused.Holds := by
  w_on; o_law
  refine HandSHeadRun.head_any (r := OpenLaw.row PySem.Challenge.rw_ruleswood_k10_read_or_refused) (q := view (OpenLaw.row PySem.Challenge.rw_ruleswood_k10_read_or_refused).prog [39]) (H := K10.hk) (ob := K10.ob) (M := 20000) (loose := K10.loose) (d := HandSHeadRun.topDef (OpenLaw.row PySem.Challenge.rw_ruleswood_k10_read_or_refused).prog 39) (kwd := []) K10.ob_eq
    (by kernel_rfl) (fun s => by kernel_rfl) K10.run (by kernel_rfl) (by kernel_rfl) (by kernel_rfl) (by rfl) (by first | assumption | decide +kernel) (by decide +kernel) ⟨rfl, rfl, rfl, rfl, rfl, by decide +kernel⟩ ?hw ?hc
  case hw => w_witness2
  case hc =>
    refine L2.walk_ofE (l := PySem.Challenge.rw_ruleswood_k10_read_or_refused) (n := 63) (k := 160) (x := "_law_script") (CX := L2.CX0) rfl (by decide) (by kernel_rfl) ⟨rfl, by decide, by decide⟩ ?F (fun _ _ _ _ z => z)
    intro w mg fa h Y G hmg0
    obtain ⟨K, KX, c, cx⟩ := Y
    have hmg : mg ("law" : PySem.Str) = some (.ref fa) := by
      have e : (HandSHeadRun.topDef (OpenLaw.row PySem.Challenge.rw_ruleswood_k10_read_or_refused).prog 39).name = ("law" : PySem.Str) := by kernel_rfl
      rw [← e]
      exact hmg0
    obtain ⟨fd, hb, hF⟩ := K10.facts (P := (PySem.Challenge.rw_ruleswood_k10_read_or_refused).prog) (w := w) KX G hmg c cx
    exact ⟨K, fd, DL.liftSp K DL.spLaw, KX, hb, fun H a ns hl hO hS => DL.law_sp hl hO hS, hF⟩
