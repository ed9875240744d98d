import PyProof.Rows.All
import Wide.All
import OpenK.AllK
import Wide.FinOn
import HandS.ForMost
import HandS.ForExc
import HandS.ExcInit
import HandS.Star
import HandS.IsInst
import HandS.FStr
import HandS.Flow
import HandS.Wide
import HandS.StrMore
import HandS.Deep
import HandS.TupLe
import PyProof.ReprRoads
import HandS.TupAny
import HandS.RaiseMore
import HandS.Style
import HandS.ExcField
import HandS.ExcIs
import KE.KExcIs
import HandS.Ends
import HandS.Dict
import PySem.Challenge.RW_sayable_k01_names_taken_apart
set_option Elab.async false
set_option linter.all false
set_option maxRecDepth 100000
set_option maxHeartbeats 1000000
/-! ### values as trees, a store of what may change -/
namespace Ev
open PySem PySem.Spec PyProof.Rows L2
abbrev Tx := PySem.Str
/-- a value -/
inductive D where
  | non | bl (b : Bool) | int (i : Int) | str (s : Tx) | tup (xs : List D) | ref (a : Nat) | ty (n : String) | gl (x : Tx) | fl (xs : List D)
/-- what stands in the store -/
inductive O where
  | lst (xs : List D) | flst (xs : List D) | dct (kvs : List (Key × D)) | ins (c : Tx) (fs : List (Tx × D)) | exc (c : Tx) (d : Option Nat) | exh (c : Tx) (d : Nat) | xd (fs : List (Tx × D)) | xn (fs : List (Tx × D))
abbrev S := List O
inductive R (α : Type) where
  | ok (a : α) (s : S) | err (c : Tx) (fs : List (Tx × D)) (s : S) | bad
abbrev En := List (Option D)
abbrev E := En → S → R D
abbrev T := En → S → R Bool
abbrev As := En → S → R (List D)
inductive RS where
  | nx (ρ : En) (s : S) | rt (d : D) (s : S) | bk (ρ : En) (s : S) | ct (ρ : En) (s : S) | err (c : Tx) (fs : List (Tx × D)) (ρ : En) (s : S) | bad
abbrev C := En → S → RS
abbrev Fn := List D → S → R D
def R.bind {α β : Type} : R α → (α → S → R β) → R β
  | .ok a s, f => f a s
  | .err c fs s, _ => .err c fs s
  | .bad, _ => .bad
/-- an expression's value in a statement at ρ -/
def R.stm {α : Type} (ρ : En) : R α → (α → S → RS) → RS
  | .ok a s, f => f a s
  | .err c fs s, _ => .err c fs ρ s
  | .bad, _ => .bad

/-! ### what a tree stands for -/
structure Wd where
  K : PySem.W.Frag
  mg : Str → Option Value
abbrev wd (X : Cx) : Wd := ⟨X.K, X.mg⟩
/-- a list that nobody changes -/
def SqF (K : PySem.W.Frag) (H : Hp) (a : Addr) (xs : List V) : Prop :=
  (∃ o, H a = some (.frz o (.lst xs))) ∨ ∃ (o : Obj) (its : Array Value) (n : Nat), K.lookup a = some o ∧ o.cls = .type "list" ∧ o.dict = none ∧ o.data = .seq its n ∧ its.size ≤ sizeLine ∧ Vals xs its.toList
theorem SqF.sq {K : PySem.W.Frag} {H : Hp} {a : Addr} {xs : List V} (h : SqF K H a xs) : SqL K H a xs := h.imp (fun ⟨o, e⟩ => .inr ⟨o, e⟩) id
mutual
def RV (g : Wd) (μ : List Addr) (H : Hp) : D → V → Prop
  | .non, x => x = .non
  | .bl b, x => x = .bl b
  | .int i, x => x = .int i
  | .str s, x => x = .str s
  | .tup ds, x => ∃ p ys, x = .ref p ∧ SqT g.K H p ys ∧ RVs g μ H ds ys
  | .ref a, x => ∃ p, μ[a]? = some p ∧ x = .ref p
  | .ty n, x => x = .ty n
  | .gl y, x => ∃ f, g.mg y = some (.ref f) ∧ x = .ref f
  | .fl ds, x => ∃ p ys, x = .ref p ∧ SqF g.K H p ys ∧ RVs g μ H ds ys
def RVs (g : Wd) (μ : List Addr) (H : Hp) : List D → List V → Prop
  | [], ys => ys = []
  | d :: ds, ys => ∃ y r, ys = y :: r ∧ RV g μ H d y ∧ RVs g μ H ds r
end
/-- more objects; tuples and what is locked stay -/
structure Ex (μ : List Addr) (H : Hp) (μ' : List Addr) (H' : Hp) : Prop where
  pre : ∃ ν, μ' = μ ++ ν ∧ ∀ p ∈ ν, H p = none
  trk : ∀ p, H' p = none → H p = none
  tup : ∀ p ys, H p = some (.tup ys) → H' p = some (.tup ys)
  frz : ∀ p o u, H p = some (.frz o u) → H' p = some (.frz o u)
theorem Ex.refl (μ : List Addr) (H : Hp) : Ex μ H μ H := ⟨⟨[], by simp⟩, fun _ h => h, fun _ _ h => h, fun _ _ _ h => h⟩
theorem Ex.trans {μ μ1 μ2 : List Addr} {H H1 H2 : Hp} (a : Ex μ H μ1 H1) (b : Ex μ1 H1 μ2 H2) : Ex μ H μ2 H2 := by
  obtain ⟨ν, e1, n1⟩ := a.pre
  obtain ⟨ν', e2, n2⟩ := b.pre
  exact ⟨⟨ν ++ ν', by rw [e2, e1, List.append_assoc], fun p hp => (List.mem_append.mp hp).elim (n1 p) fun h => a.trk p (n2 p h)⟩, fun p h => a.trk p (b.trk p h), fun p ys h => b.tup _ _ (a.tup _ _ h), fun p o u h => b.frz _ _ _ (a.frz _ _ _ h)⟩
theorem Ex.get {μ μ' : List Addr} {H H' : Hp} (x : Ex μ H μ' H') {i : Nat} {p : Addr} (h : μ[i]? = some p) : μ'[i]? = some p := by
  obtain ⟨ν, e, _⟩ := x.pre
  have hi : i < μ.length := (List.getElem?_eq_some_iff.mp h).1
  rw [e, List.getElem?_append_left hi]
  exact h
theorem Ex.sqf {g : Wd} {μ μ' : List Addr} {H H' : Hp} (x : Ex μ H μ' H') {p : Addr} {ys : List V} (h : SqF g.K H p ys) : SqF g.K H' p ys :=
  h.imp (fun ⟨o, e⟩ => ⟨o, x.frz _ _ _ e⟩) id
theorem Ex.sqt {g : Wd} {μ μ' : List Addr} {H H' : Hp} (x : Ex μ H μ' H') {p : Addr} {ys : List V} (h : SqT g.K H p ys) : SqT g.K H' p ys := by
  rcases h with (h | ⟨o, h⟩) | h
  · exact .inl (.inl (x.tup _ _ h))
  · exact .inl (.inr ⟨o, x.frz _ _ _ h⟩)
  · exact .inr h
mutual
theorem RV.mono {g : Wd} {μ μ' : List Addr} {H H' : Hp} (x : Ex μ H μ' H') : ∀ {d : D} {v : V}, RV g μ H d v → RV g μ' H' d v
  | .non, _, h => by simpa only [RV] using h
  | .bl _, _, h => by simpa only [RV] using h
  | .int _, _, h => by simpa only [RV] using h
  | .str _, _, h => by simpa only [RV] using h
  | .ty _, _, h => by simpa only [RV] using h
  | .gl _, _, h => by simpa only [RV] using h
  | .ref a, v, h => by
    simp only [RV] at h ⊢
    obtain ⟨p, e, r⟩ := h
    exact ⟨p, x.get e, r⟩
  | .tup ds, v, h => by
    simp only [RV] at h ⊢
    obtain ⟨p, ys, e, q, r⟩ := h
    exact ⟨p, ys, e, x.sqt q, RVs.mono x r⟩
  | .fl ds, v, h => by
    simp only [RV] at h ⊢
    obtain ⟨p, ys, e, q, r⟩ := h
    exact ⟨p, ys, e, x.sqf q, RVs.mono x r⟩
theorem RVs.mono {g : Wd} {μ μ' : List Addr} {H H' : Hp} (x : Ex μ H μ' H') : ∀ {ds : List D} {vs : List V}, RVs g μ H ds vs → RVs g μ' H' ds vs
  | [], _, h => by simpa only [RVs] using h
  | d :: ds, vs, h => by
    simp only [RVs] at h ⊢
    obtain ⟨y, r, e, a, b⟩ := h
    exact ⟨y, r, e, RV.mono x a, RVs.mono x b⟩
end
theorem RVs.length {g : Wd} {μ : List Addr} {H : Hp} : ∀ {ds : List D} {vs : List V}, RVs g μ H ds vs → ds.length = vs.length
  | [], _, h => by simp only [RVs] at h; subst h; rfl
  | d :: ds, vs, h => by
    simp only [RVs] at h
    obtain ⟨y, r, rfl, _, b⟩ := h
    simp [RVs.length b]
theorem RVs.get {g : Wd} {μ : List Addr} {H : Hp} : ∀ {ds : List D} {vs : List V} {i : Nat} {d : D}, RVs g μ H ds vs → ds[i]? = some d → ∃ v, vs[i]? = some v ∧ RV g μ H d v
  | [], _, _, _, _, e => by simp at e
  | a :: ds, vs, i, d, h, e => by
    simp only [RVs] at h
    obtain ⟨y, r, rfl, q, b⟩ := h
    cases i with
    | zero => simp at e; subst e; exact ⟨y, rfl, q⟩
    | succ i => simpa using RVs.get b (by simpa using e)
theorem RVs.getV {g : Wd} {μ : List Addr} {H : Hp} {ds : List D} {vs : List V} {i : Nat} {v : V} (h : RVs g μ H ds vs) (e : vs[i]? = some v) : ∃ d, ds[i]? = some d ∧ RV g μ H d v := by
  have hi : i < vs.length := (List.getElem?_eq_some_iff.mp e).1
  have hd : i < ds.length := by rw [h.length]; exact hi
  obtain ⟨w, e2, r⟩ := h.get (List.getElem?_eq_getElem hd)
  rw [e] at e2; cases e2
  exact ⟨_, List.getElem?_eq_getElem hd, r⟩
theorem RVs.append {g : Wd} {μ : List Addr} {H : Hp} : ∀ {ds es : List D} {vs us : List V}, RVs g μ H ds vs → RVs g μ H es us → RVs g μ H (ds ++ es) (vs ++ us)
  | [], _, _, _, h, k => by simp only [RVs] at h; subst h; exact k
  | d :: ds, es, vs, us, h, k => by
    simp only [RVs] at h
    obtain ⟨y, r, rfl, q, b⟩ := h
    exact ⟨y, r ++ us, rfl, q, RVs.append b k⟩
theorem RVs.drop {g : Wd} {μ : List Addr} {H : Hp} : ∀ (n : Nat) {ds : List D} {vs : List V}, RVs g μ H ds vs → RVs g μ H (ds.drop n) (vs.drop n)
  | 0, _, _, h => by simpa using h
  | n + 1, [], _, h => by simp only [RVs] at h; subst h; simp [RVs]
  | n + 1, d :: ds, vs, h => by
    simp only [RVs] at h
    obtain ⟨y, r, rfl, q, b⟩ := h
    simpa using RVs.drop n b
theorem RVs.take {g : Wd} {μ : List Addr} {H : Hp} : ∀ (n : Nat) {ds : List D} {vs : List V}, RVs g μ H ds vs → RVs g μ H (ds.take n) (vs.take n)
  | 0, _, _, h => by simp [RVs]
  | n + 1, [], _, h => by simp only [RVs] at h; subst h; simp [RVs]
  | n + 1, d :: ds, vs, h => by
    simp only [RVs] at h
    obtain ⟨y, r, rfl, q, b⟩ := h
    exact ⟨y, r.take n, rfl, q, RVs.take n b⟩
theorem RVs.set {g : Wd} {μ : List Addr} {H : Hp} {d : D} {v : V} (q : RV g μ H d v) : ∀ (n : Nat) {ds : List D} {vs : List V}, RVs g μ H ds vs → RVs g μ H (ds.set n d) (vs.set n v)
  | _, [], _, h => by simp only [RVs] at h; subst h; simp [RVs]
  | 0, d' :: ds, vs, h => by
    simp only [RVs] at h
    obtain ⟨y, r, rfl, q', b⟩ := h
    exact ⟨v, r, rfl, q, b⟩
  | n + 1, d' :: ds, vs, h => by
    simp only [RVs] at h
    obtain ⟨y, r, rfl, q', b⟩ := h
    exact ⟨y, r.set n v, rfl, q', RVs.set q n b⟩
theorem RVs.one {g : Wd} {μ : List Addr} {H : Hp} {d : D} {v : V} (h : RV g μ H d v) : RVs g μ H [d] [v] := ⟨v, [], rfl, h, rfl⟩

/-! ### the store -/
def RKV (g : Wd) (μ : List Addr) (H : Hp) : List (Key × D) → List (Key × V) → Prop
  | [], ys => ys = []
  | (k, d) :: ds, ys => ∃ y r, ys = (k, y) :: r ∧ RV g μ H d y ∧ RKV g μ H ds r
def RFs (g : Wd) (μ : List Addr) (H : Hp) : List (Tx × D) → List (Tx × V) → Prop
  | [], ys => ys = []
  | (k, d) :: ds, ys => ∃ y r, ys = (k, y) :: r ∧ RV g μ H d y ∧ RFs g μ H ds r
theorem RKV.mono {g : Wd} {μ μ' : List Addr} {H H' : Hp} (x : Ex μ H μ' H') : ∀ {ds : List (Key × D)} {vs : List (Key × V)}, RKV g μ H ds vs → RKV g μ' H' ds vs
  | [], _, h => h
  | (k, d) :: ds, vs, ⟨y, r, e, a, b⟩ => ⟨y, r, e, RV.mono x a, RKV.mono x b⟩
theorem RFs.mono {g : Wd} {μ μ' : List Addr} {H H' : Hp} (x : Ex μ H μ' H') : ∀ {ds : List (Tx × D)} {vs : List (Tx × V)}, RFs g μ H ds vs → RFs g μ' H' ds vs
  | [], _, h => h
  | (k, d) :: ds, vs, ⟨y, r, e, a, b⟩ => ⟨y, r, e, RV.mono x a, RFs.mono x b⟩
/-- at e: an exception that was caught -/
def exh (e : Addr) (C : Addr) (d : Addr) : HO := .ext fun h => ∃ (oe : Obj) (vs : Array Value), h.get? e = some oe ∧ Zc (.ref C) (some d) oe ∧ oe.data = .fields vs
theorem exh_tup {e C d : Addr} {xs : List V} : exh e C d ≠ .tup xs := fun z => by
  have z' : HO.ext _ = HO.tup xs := z
  cases z'
theorem exh_frz {e C d : Addr} {o : Obj} {u : HO} : exh e C d ≠ .frz o u := fun z => by
  have z' : HO.ext _ = HO.frz o u := z
  cases z'
/-- the object at p -/
def RO (g : Wd) (μ : List Addr) (H : Hp) (p : Addr) : O → Prop
  | .lst ds => ∃ ys, H p = some (.lst ys) ∧ RVs g μ H ds ys
  | .flst ds => ∃ o ys, H p = some (.frz o (.lst ys)) ∧ RVs g μ H ds ys
  | .dct kvs => ∃ ys, H p = some (.dK ys) ∧ RKV g μ H kvs ys
  | .ins c fs => ∃ C dx gs, g.mg c = some (.ref C) ∧ H p = some (.ins C dx gs) ∧ RFs g μ H fs gs
  | .exc c d => ∃ C, g.mg c = some (.ref C) ∧ ((d = none ∧ H p = some (exo p C none)) ∨ ∃ j dx, d = some j ∧ μ[j]? = some dx ∧ H p = some (exo p C (some dx)))
  | .exh c j => ∃ C dx, g.mg c = some (.ref C) ∧ μ[j]? = some dx ∧ H p = some (exh p C dx)
  | .xd fs => ∃ gs, H p = some (.xd gs) ∧ RFs g μ H fs gs
  | .xn fs => ∃ gs, H p = some (exd p gs) ∧ RFs g μ H fs gs
theorem RO.there {g : Wd} {μ : List Addr} {H : Hp} {p : Addr} {o : O} (h : RO g μ H p o) : ∃ u, H p = some u ∧ ∀ ys, u ≠ .tup ys := by
  cases o with
  | lst ds => obtain ⟨ys, e, _⟩ := h; exact ⟨_, e, fun _ z => nomatch z⟩
  | flst ds => obtain ⟨_, ys, e, _⟩ := h; exact ⟨_, e, fun _ z => nomatch z⟩
  | dct ds => obtain ⟨ys, e, _⟩ := h; exact ⟨_, e, fun _ z => nomatch z⟩
  | ins c fs => obtain ⟨_, _, _, _, e, _⟩ := h; exact ⟨_, e, fun _ z => nomatch z⟩
  | exc c d =>
    obtain ⟨C, _, ⟨_, e⟩ | ⟨_, _, _, _, e⟩⟩ := h
    · exact ⟨_, e, fun _ z => exo_tup z⟩
    · exact ⟨_, e, fun _ z => exo_tup z⟩
  | exh c j => obtain ⟨C, dx, _, _, e⟩ := h; exact ⟨_, e, fun _ z => exh_tup z⟩
  | xd fs =>
    obtain ⟨gs, e, _⟩ := h
    exact ⟨_, e, fun _ z => nomatch z⟩
  | xn fs =>
    obtain ⟨gs, e, _⟩ := h
    exact ⟨_, e, fun _ z => exd_tup z⟩
theorem RO.mono {g : Wd} {μ μ' : List Addr} {H H' : Hp} {p : Addr} {o : O} (x : Ex μ H μ' H') (e : H' p = H p) (h : RO g μ H p o) : RO g μ' H' p o := by
  cases o with
  | lst ds => obtain ⟨ys, a, b⟩ := h; exact ⟨ys, by rw [e]; exact a, b.mono x⟩
  | flst ds => obtain ⟨o, ys, a, b⟩ := h; exact ⟨o, ys, by rw [e]; exact a, b.mono x⟩
  | dct ds => obtain ⟨ys, a, b⟩ := h; exact ⟨ys, by rw [e]; exact a, b.mono x⟩
  | ins c fs => obtain ⟨C, dx, gs, m, a, b⟩ := h; exact ⟨C, dx, gs, m, by rw [e]; exact a, b.mono x⟩
  | exc c d =>
    obtain ⟨C, m, ⟨d0, a⟩ | ⟨j, dx, d0, ej, a⟩⟩ := h
    · exact ⟨C, m, .inl ⟨d0, by rw [e]; exact a⟩⟩
    · exact ⟨C, m, .inr ⟨j, dx, d0, x.get ej, by rw [e]; exact a⟩⟩
  | exh c j => obtain ⟨C, dx, m, ej, a⟩ := h; exact ⟨C, dx, m, x.get ej, by rw [e]; exact a⟩
  | xd fs =>
    obtain ⟨gs, a, b⟩ := h
    exact ⟨gs, by rw [e]; exact a, b.mono x⟩
  | xn fs =>
    obtain ⟨gs, a, b⟩ := h
    exact ⟨gs, by rw [e]; exact a, b.mono x⟩
structure Rs (g : Wd) (μ : List Addr) (H : Hp) (s : S) : Prop where
  len : μ.length = s.length
  nd : μ.Nodup
  at_ : ∀ (i : Nat) (o : O) (p : Addr), s[i]? = some o → μ[i]? = some p → RO g μ H p o
section
variable {g : Wd} {μ : List Addr} {H : Hp} {s : S} {p : Addr} {o : O}
theorem Rs.adr (h : Rs g μ H s) {i : Nat} (e : s[i]? = some o) : ∃ p, μ[i]? = some p ∧ RO g μ H p o := by
  have hi : i < s.length := (List.getElem?_eq_some_iff.mp e).1
  have hp : i < μ.length := by rw [h.len]; exact hi
  exact ⟨μ[i], List.getElem?_eq_getElem hp, h.at_ i o _ e (List.getElem?_eq_getElem hp)⟩
theorem Rs.nmem (h : Rs g μ H s) (e : H p = none) : p ∉ μ := fun hp => by
  obtain ⟨i, hi, q⟩ := List.getElem_of_mem hp
  have hs : i < s.length := by rw [← h.len]; exact hi
  obtain ⟨u, a, _⟩ := (h.at_ i _ p (List.getElem?_eq_getElem hs) (by rw [List.getElem?_eq_getElem hi, q])).there
  rw [e] at a; cases a
theorem upd_trk {ho : HO} (q : Addr) (h : upd H p ho q = none) : H q = none := by
  by_cases z : q = p
  · subst z; rw [upd_same] at h; cases h
  · rw [upd_ne z] at h; exact h
theorem ex_new {ho : HO} (e : H p = none) (ν : List Addr) (hν : ∀ q ∈ ν, H q = none := by simp_all) : Ex μ H (μ ++ ν) (upd H p ho) :=
  ⟨⟨ν, rfl, hν⟩, upd_trk, fun q ys h => by rw [upd_ne (ne_of_none h e)]; exact h, fun q o u h => by rw [upd_ne (ne_of_none h e)]; exact h⟩
theorem ex_new0 {ho : HO} (e : H p = none) : Ex μ H μ (upd H p ho) := by
  have := ex_new (μ := μ) (ho := ho) e [] (by simp)
  rwa [List.append_nil] at this
/-- a new object -/
theorem Rs.laid (h : Rs g μ H s) (e : H p = none) {ho : HO} (new : RO g (μ ++ [p]) (upd H p ho) p o) : Rs g (μ ++ [p]) (upd H p ho) (s ++ [o]) := by
  have np := h.nmem e
  refine ⟨by simp [h.len], ?_, fun i o' q ei eq => ?_⟩
  · rw [List.nodup_append]
    exact ⟨h.nd, by simp, fun a ha b hb => by
      simp at hb; subst hb
      exact fun z => np (z ▸ ha)⟩
  · by_cases hi : i < s.length
    · rw [List.getElem?_append_left hi] at ei
      rw [List.getElem?_append_left (by rw [h.len]; exact hi)] at eq
      have qp : q ≠ p := fun z => np (z ▸ List.mem_of_getElem? eq)
      exact (h.at_ i o' q ei eq).mono (ex_new e [p]) (upd_ne qp)
    · have hi' : i = s.length := by
        have := (List.getElem?_eq_some_iff.mp ei).1
        simp at this
        omega
      subst hi'
      rw [List.getElem?_append_right (Nat.le_refl _)] at ei
      rw [← h.len, List.getElem?_append_right (Nat.le_refl _)] at eq
      simp at ei eq
      subst ei eq
      exact new
/-- a new thing that is not of the store -/
theorem Rs.other (h : Rs g μ H s) (e : H p = none) {ho : HO} : Rs g μ (upd H p ho) s :=
  ⟨h.len, h.nd, fun i o q ei eq => (h.at_ i o q ei eq).mono (ex_new0 e) (upd_ne fun z => h.nmem e (z ▸ List.mem_of_getElem? eq))⟩
theorem ex_put {ho ho' : HO} (e : H p = some ho') (nt : ∀ ys, ho' ≠ .tup ys) (nf : ∀ o u, ho' ≠ .frz o u) : Ex μ H μ (upd H p ho) :=
  ⟨⟨[], by simp⟩, upd_trk, fun q ys h => by
    rw [upd_ne (fun z => by subst z; rw [e] at h; exact nt _ (Option.some.inj h))]; exact h, fun q o u h => by
    rw [upd_ne (fun z => by subst z; rw [e] at h; exact nf _ _ (Option.some.inj h))]; exact h⟩
/-- an object changes -/
theorem Rs.put (h : Rs g μ H s) {i : Nat} (ei : μ[i]? = some p) {ho ho' : HO} (e : H p = some ho') (nt : ∀ ys, ho' ≠ .tup ys) (nf : ∀ o u, ho' ≠ .frz o u) (new : RO g μ (upd H p ho) p o) : Rs g μ (upd H p ho) (s.set i o) := by
  refine ⟨by simp [h.len], h.nd, fun j o' q ej eq => ?_⟩
  by_cases hj : j = i
  · subst hj
    rw [ei] at eq; cases eq
    have hl : j < s.length := by have := (List.getElem?_eq_some_iff.mp ei).1; rw [h.len] at this; exact this
    rw [List.getElem?_set_self hl] at ej
    cases ej
    exact new
  · rw [List.getElem?_set_ne (Ne.symm hj)] at ej
    have qp : q ≠ p := fun z => by
      subst z
      exact hj (nd_ix h.nd eq ei)
    exact (h.at_ j o' q ej eq).mono (ex_put e nt nf) (upd_ne qp)
end

/-! ### readings of functions -/
def RX (g : Wd) (μ : List Addr) (H : Hp) (fs : List (Tx × D)) (dx : Addr) : Prop := dx ∉ μ ∧ ∃ gs, H dx = some (.xd gs) ∧ RFs g μ H fs gs
def runs (g : Wd) (W : WX) (σ : L2.St) (μ : List Addr) (H : Hp) {α β : Type} (Rel : List Addr → Hp → α → β → Prop) (Q : β → Hp → Prop) : R α → Prop
  | .ok a s => ∀ μ' H' b, Ex μ H μ' H' → Rs g μ' H' s → Rel μ' H' a b → Q b H'
  | .err c fs s => ∀ μ' H' C dx, Ex μ H μ' H' → Rs g μ' H' s → g.mg c = some (.ref C) → (H dx = none ∧ RX g μ' H' fs dx) → W (.ref C) (some dx) σ H'
  | .bad => False
/-- the slots -/
def REn (g : Wd) (μ : List Addr) (H : Hp) (ρ : En) (σ : L2.St) : Prop := ρ.length = σ.length ∧ ∀ (i : Nat) (d : D), ρ[i]? = some (some d) → ∃ v, σ[i]? = some (some v) ∧ RV g μ H d v
theorem REn.mono {g : Wd} {μ μ' : List Addr} {H H' : Hp} {ρ : En} {σ : L2.St} (x : Ex μ H μ' H') (h : REn g μ H ρ σ) : REn g μ' H' ρ σ :=
  ⟨h.1, fun i d e => let ⟨v, a, b⟩ := h.2 i d e; ⟨v, a, b.mono x⟩⟩
theorem REn.set {g : Wd} {μ : List Addr} {H : Hp} {ρ : En} {σ : L2.St} {i : Nat} {d : D} {v : V} (h : REn g μ H ρ σ) (r : RV g μ H d v) : REn g μ H (ρ.set i (some d)) (σ.set i (some v)) := by
  refine ⟨by simp [h.1], fun j e q => ?_⟩
  by_cases hj : i = j
  · subst hj
    rw [List.getElem?_set] at q ⊢
    simp only [if_true] at q ⊢
    split at q
    · rename_i hl
      cases q
      rw [if_pos (by rw [← h.1]; exact hl)]
      exact ⟨v, rfl, r⟩
    · cases q
  · rw [List.getElem?_set_ne hj] at q ⊢
    exact h.2 j e q
theorem REn.setN {g : Wd} {μ : List Addr} {H : Hp} {ρ : En} {σ : L2.St} {i : Nat} {x : Option V} (h : REn g μ H ρ σ) : REn g μ H (ρ.set i none) (σ.set i x) := by
  refine ⟨by simp [h.1], fun j e q => ?_⟩
  by_cases hj : i = j
  · subst hj
    rw [List.getElem?_set] at q
    simp only [if_true] at q
    split at q <;> cases q
  · rw [List.getElem?_set_ne hj] at q ⊢
    exact h.2 j e q
abbrev RB : List Addr → Hp → Bool → Bool → Prop := fun _ _ a b => a = b
def liftE (g : Wd) (W : WX) (m : E) : TE := fun σ H Q => ∃ μ ρ s, REn g μ H ρ σ ∧ Rs g μ H s ∧ runs g W σ μ H (RV g) Q (m ρ s)
def liftT (g : Wd) (W : WX) (m : T) : TT := fun σ H Q => ∃ μ ρ s, REn g μ H ρ σ ∧ Rs g μ H s ∧ runs g W σ μ H RB Q (m ρ s)
def liftA (g : Wd) (W : WX) (m : As) : TA := fun σ H Q => ∃ μ ρ s, REn g μ H ρ σ ∧ Rs g μ H s ∧ runs g W σ μ H (RVs g) Q (m ρ s)
def runsS (g : Wd) (W : WX) (μ : List Addr) (H : Hp) (De : Ends) : RS → Prop
  | .nx ρ s => ∀ μ' H' σ', Ex μ H μ' H' → Rs g μ' H' s → REn g μ' H' ρ σ' → De.nx σ' H'
  | .rt d s => ∀ μ' H' x, Ex μ H μ' H' → Rs g μ' H' s → RV g μ' H' d x → De.rt x H'
  | .bk ρ s => ∀ μ' H' σ', Ex μ H μ' H' → Rs g μ' H' s → REn g μ' H' ρ σ' → De.bk σ' H'
  | .ct ρ s => ∀ μ' H' σ', Ex μ H μ' H' → Rs g μ' H' s → REn g μ' H' ρ σ' → De.ct σ' H'
  | .err c fs ρ s => ∀ μ' H' σ' C dx, Ex μ H μ' H' → Rs g μ' H' s → REn g μ' H' ρ σ' → g.mg c = some (.ref C) → (H dx = none ∧ RX g μ' H' fs dx) → W (.ref C) (some dx) σ' H'
  | .bad => False
def liftS (g : Wd) (W : WX) (m : C) : TS := fun De σ H => ∃ μ ρ s, REn g μ H ρ σ ∧ Rs g μ H s ∧ runsS g W μ H De (m ρ s)
section
variable {g : Wd} {W : WX} {σ : L2.St} {μ μ1 : List Addr} {H H1 : Hp} {α β γ δ : Type}
theorem runs_mono {Rel : List Addr → Hp → α → β → Prop} {Q : β → Hp → Prop} {r : R α} (x : Ex μ H μ1 H1) (h : runs g W σ μ H Rel Q r) : runs g W σ μ1 H1 Rel Q r := by
  cases r with
  | ok a s => exact fun μ' H' b y => h μ' H' b (x.trans y)
  | err c fs s => exact fun μ' H' C dx y r m ⟨n, q⟩ => h μ' H' C dx (x.trans y) r m ⟨x.trk _ n, q⟩
  | bad => exact h
theorem runsS_mono {De : Ends} {r : RS} (x : Ex μ H μ1 H1) (h : runsS g W μ H De r) : runsS g W μ1 H1 De r := by
  cases r with
  | nx ρ s => exact fun μ' H' b y => h μ' H' b (x.trans y)
  | rt ρ s => exact fun μ' H' b y => h μ' H' b (x.trans y)
  | bk ρ s => exact fun μ' H' b y => h μ' H' b (x.trans y)
  | ct ρ s => exact fun μ' H' b y => h μ' H' b (x.trans y)
  | err c fs ρ s => exact fun μ' H' σ' C dx y r e m ⟨n, q⟩ => h μ' H' σ' C dx (x.trans y) r e m ⟨x.trk _ n, q⟩
  | bad => exact h
theorem runs_bind {Rel1 : List Addr → Hp → α → β → Prop} {Rel2 : List Addr → Hp → γ → δ → Prop} {Q1 : β → Hp → Prop} {Q2 : δ → Hp → Prop} {r : R α} {f : α → S → R γ}
    (h : runs g W σ μ H Rel2 Q2 (r.bind f)) (k : ∀ a s μ' H' b, r = .ok a s → Ex μ H μ' H' → Rs g μ' H' s → Rel1 μ' H' a b → runs g W σ μ' H' Rel2 Q2 (f a s) → Q1 b H') : runs g W σ μ H Rel1 Q1 r := by
  cases r with
  | ok a s => exact fun μ' H' b x y z => k a s μ' H' b rfl x y z (runs_mono x h)
  | err c fs s => exact h
  | bad => exact h
theorem runs_stm {Rel1 : List Addr → Hp → α → β → Prop} {Q1 : β → Hp → Prop} {De : Ends} {ρ : En} {r : R α} {f : α → S → RS} (he : REn g μ H ρ σ)
    (h : runsS g W μ H De (r.stm ρ f)) (k : ∀ a s μ' H' b, r = .ok a s → Ex μ H μ' H' → Rs g μ' H' s → Rel1 μ' H' a b → runsS g W μ' H' De (f a s) → Q1 b H') : runs g W σ μ H Rel1 Q1 r := by
  cases r with
  | ok a s => exact fun μ' H' b x y z => k a s μ' H' b rfl x y z (runsS_mono x h)
  | err c fs s => exact fun μ' H' C dx x y z => h μ' H' σ C dx x y (he.mono x) z
  | bad => exact h
/-- nothing is done -/
theorem runs_pure {Rel : List Addr → Hp → α → β → Prop} {Q : β → Hp → Prop} {a : α} {b : β} {s : S} (h : runs g W σ μ H Rel Q (.ok a s)) (hs : Rs g μ H s) (r : Rel μ H a b) : Q b H := h μ H b (Ex.refl μ H) hs r
end
end Ev

namespace Ev
open PySem PySem.Spec PyProof.Rows L2
/-! ### combinators of expressions -/
def varE (i : Nat) : E := fun ρ s => match ρ[i]? with | some (some d) => .ok d s | _ => .bad
def conE (d : D) : E := fun _ s => .ok d s
def binE (o : D → D → S → R D) (a b : E) : E := fun ρ s => (a ρ s).bind fun x s => (b ρ s).bind fun y s => o x y s
def unE (o : D → S → R D) (a : E) : E := fun ρ s => (a ρ s).bind o
def nilA : As := fun _ s => .ok [] s
def consA (a : E) (r : As) : As := fun ρ s => (a ρ s).bind fun x s => (r ρ s).bind fun xs s => .ok (x :: xs) s
def callE (f : Fn) (a : As) : E := fun ρ s => (a ρ s).bind f
def seqOf (s : S) : D → Option (List D)
  | .tup xs => some xs
  | .ref a => match s[a]? with | some (.lst xs) => some xs | some (.flst xs) => some xs | _ => none
  | _ => none
def starA (a : E) (r : As) : As := fun ρ s => (a ρ s).bind fun x s => match seqOf s x with | some xs => (r ρ s).bind fun ys s => .ok (xs ++ ys) s | none => .bad
def szl (n : Nat) : Bool := decide (n ≤ sizeLine)
def tupE (a : As) : E := fun ρ s => (a ρ s).bind fun xs s => if szl xs.length then .ok (.tup xs) s else .bad
def lstE (a : As) : E := fun ρ s => (a ρ s).bind fun xs s => if szl xs.length then .ok (.ref s.length) (s ++ [.lst xs]) else .bad
def truth (d : D) (s : S) : R Bool := match d with
  | .non => .ok false s
  | .bl b => .ok b s
  | .int i => .ok (i != 0) s
  | .str x => if szl x.length then .ok ((x.length : Int) != 0) s else .bad
  | .tup xs => .ok (!xs.isEmpty) s
  | .ref a => match s[a]? with
    | some (.lst xs) => .ok (!xs.isEmpty) s
    | some (.flst xs) => .ok (!xs.isEmpty) s
    | some (.dct kvs) => .ok (!kvs.isEmpty) s
    | _ => .bad
  | _ => .bad
def truE (a : E) : T := fun ρ s => (a ρ s).bind truth
def boolE (d : D) (s : S) : R Bool := match d with | .bl b => .ok b s | _ => .bad
def tstE (a : E) : T := fun ρ s => (a ρ s).bind boolE
def andE (a b : E) : E := fun ρ s => (a ρ s).bind fun x s => (truth x s).bind fun k s => if k then b ρ s else .ok x s
def orE (a b : E) : E := fun ρ s => (a ρ s).bind fun x s => (truth x s).bind fun k s => if k then .ok x s else b ρ s
def notE (a : E) : E := fun ρ s => (a ρ s).bind fun x s => (truth x s).bind fun k s => .ok (.bl (!k)) s
def andT (a b : T) : T := fun ρ s => (a ρ s).bind fun k s => if k then b ρ s else .ok false s
def orT (a b : T) : T := fun ρ s => (a ρ s).bind fun k s => if k then .ok true s else b ρ s
def notT (a : T) : T := fun ρ s => (a ρ s).bind fun k s => .ok (!k) s
def ifE (t : T) (a b : E) : E := fun ρ s => (t ρ s).bind fun k s => if k then a ρ s else b ρ s
def chainE (o1 o2 : D → D → S → R D) (a b c : E) : E := fun ρ s => (a ρ s).bind fun x s => (b ρ s).bind fun y s => (o1 x y s).bind fun z s => (boolE z s).bind fun k s =>
  if k then (c ρ s).bind fun w s => o2 y w s else .ok (.bl false) s

/-! ### rules -/
section
variable {X : Cx} {W : WX} {pos : Pos} {e a b : Expr} {es : List Expr} {m ma mb : E} {ms : As} {t ta tb : T}
theorem pe_imp {t1 t2 : TE} (h : PE X e t1) (k : ∀ σ H Q, t2 σ H Q → t1 σ H Q) : PE X e t2 := ⟨fun pins s σ H Q I q => h.run pins s σ H Q I (k σ H Q q)⟩
theorem pt_imp {t1 t2 : TT} (h : PT X e t1) (k : ∀ σ H Q, t2 σ H Q → t1 σ H Q) : PT X e t2 := ⟨fun pins s σ H Q I q => h.run pins s σ H Q I (k σ H Q q)⟩
theorem pw_imp {t1 t2 : TT} (h : PW X e t1) (k : ∀ σ H Q, t2 σ H Q → t1 σ H Q) : PW X e t2 := ⟨fun wh pins s σ H Q I q => h.run wh pins s σ H Q I (k σ H Q q)⟩
theorem pa_imp {t1 t2 : TA} (h : PA X es t1) (k : ∀ σ H Q, t2 σ H Q → t1 σ H Q) : PA X es t2 := ⟨fun p pins s σ H Q I q => h.run p pins s σ H Q I (k σ H Q q)⟩
theorem qv (i : Nat) {x : Str} (hN : X.N[i]? = some x := by rfl) (hv : Vis X.env.scope x := by first | exact Or.inl rfl | exact Or.inr (Or.inl rfl) | exact Or.inr (Or.inr rfl)) (hd : (x == ("__debug__" : Str)) = false := by decide)
    (hcd : (x == ("__classdict__" : Str)) = false := by decide) : PE X (.Name x pos) (liftE (wd X) W (varE i)) := by
  refine pe_imp (pe_var hN hv hd hcd) fun σ H Q ⟨μ, ρ, s, he, hs, h⟩ => ?_
  unfold varE at h
  split at h
  · rename_i d ei
    obtain ⟨v, ev, r⟩ := he.2 i d ei
    exact ⟨v, ev, runs_pure h hs r⟩
  · exact h.elim
theorem q_con {d : D} {v : V} (h : PE X e (tC v)) (r : ∀ μ H, RV (wd X) μ H d v) : PE X e (liftE (wd X) W (conE d)) :=
  pe_imp h fun σ H Q ⟨μ, ρ, s, he, hs, h⟩ => runs_pure (show runs (wd X) W σ μ H (RV (wd X)) Q (.ok d s) from h) hs (r μ H)
theorem q_int {i : Int} {j} : PE X (.Constant (.int i) j pos) (liftE (wd X) W (conE (.int i))) := q_con pe_int fun _ _ => by simp only [RV]
theorem q_bl {i : Bool} {j} : PE X (.Constant (.bool i) j pos) (liftE (wd X) W (conE (.bl i))) := q_con pe_bl fun _ _ => by simp only [RV]
theorem q_non {j} : PE X (.Constant .none j pos) (liftE (wd X) W (conE .non)) := q_con pe_non fun _ _ => by simp only [RV]
theorem q_str {x : Str} {j} : PE X (.Constant (.str x) j pos) (liftE (wd X) W (conE (.str x))) := q_con pe_str fun _ _ => by simp only [RV]
theorem q_gl {x : Str} {f : Addr} (hm : X.mg x = some (.ref f)) (hg : Gl X x := by rfl) (hd : (x == ("__debug__" : Str)) = false := by decide) : PE X (.Name x pos) (liftE (wd X) W (conE (.gl x))) :=
  q_con (pe_glob (v := .ref f) hg hm rfl hd) fun _ _ => by simp only [RV]; exact ⟨f, hm, rfl⟩
theorem q_ty {x : Str} {n : String} (hm : X.mg x = none) (hv : bootBuiltins x = some (.type n)) (hg : Gl X x := by rfl) (hn : x ≠ "__name__" := by decide) (hd : (x == ("__debug__" : Str)) = false := by decide) : PE X (.Name x pos) (liftE (wd X) W (conE (.ty n))) :=
  q_con (pe_bltn (v := .ty n) hg hm hv rfl hn hd) fun _ _ => by simp only [RV]
theorem q_gint {x : Str} {i : Int} {tk : Tok} (hm : X.mg x = some (.int i tk)) (hg : Gl X x := by rfl) (hd : (x == ("__debug__" : Str)) = false := by decide) : PE X (.Name x pos) (liftE (wd X) W (conE (.int i))) :=
  q_con (pe_glob (v := .int i) hg hm ⟨tk, rfl⟩ hd) fun _ _ => by simp only [RV]

/-- an operation by values -/
def rL (g : Wd) (o : D → D → S → R D) : R2 := fun x y H Q => ∃ μ s d e, Rs g μ H s ∧ RV g μ H d x ∧ RV g μ H e y ∧ ∃ W σ, runs g W σ μ H (RV g) Q (o d e s)
abbrev QOp (X : Cx) (f : Value → Value → Sem Value) (o : D → D → S → R D) : Prop := OpR X f (rL (wd X) o)
theorem bin_sound {g : Wd} {o : D → D → S → R D} {σ : L2.St} {H : Hp} {Q : VK} (h : liftE g W (binE o ma mb) σ H Q) : tOp (rL g o) (liftE g W ma) (liftE g W mb) σ H Q := by
  obtain ⟨μ, ρ, s, he, hs, h⟩ := h
  refine ⟨μ, ρ, s, he, hs, runs_bind (Rel1 := RV g) h fun d s1 μ1 H1 x e1 x1 hs1 r1 h1 => ?_⟩
  refine ⟨μ1, ρ, s1, he.mono x1, hs1, runs_bind (Rel1 := RV g) h1 fun d2 s2 μ2 H2 y e2 x2 hs2 r2 h2 => ?_⟩
  exact ⟨μ2, s2, d, d2, hs2, r1.mono x2, r2, W, σ, h2⟩
theorem q_bin {op : Operator} {o : D → D → S → R D} (ho : QOp X (binaryOp op) o) (ha : PE X a (liftE (wd X) W ma)) (hb : PE X b (liftE (wd X) W mb)) : PE X (.BinOp a op b pos) (liftE (wd X) W (binE o ma mb)) :=
  pe_imp (pe_op ho ha hb) fun _ _ _ => bin_sound
theorem q_cmp {op : CmpOp} {o : D → D → S → R D} (ho : QOp X (compareOp op) o) (ha : PE X a (liftE (wd X) W ma)) (hb : PE X b (liftE (wd X) W mb)) (hm : behindInMarks op b = false := by first | exact nobehind _ (by decide) (by decide) | rfl) : PE X (.Compare a [op] [b] pos) (liftE (wd X) W (binE o ma mb)) :=
  pe_imp (pe_cmpR ho ha hb hm) fun _ _ _ => bin_sound
theorem tst_sound {g : Wd} {σ : L2.St} {H : Hp} {Q : Bool → Hp → Prop} (h : liftT g W (tstE m) σ H Q) : tTest (liftE g W m) σ H Q := by
  obtain ⟨μ, ρ, s, he, hs, h⟩ := h
  refine ⟨μ, ρ, s, he, hs, runs_bind (Rel1 := RV g) h fun d s1 μ1 H1 x e1 x1 hs1 r1 h1 => ?_⟩
  cases d with
  | bl c =>
    simp only [RV] at r1
    exact ⟨c, r1, runs_pure (show runs g W σ μ1 H1 RB Q (.ok c s1) from h1) hs1 rfl⟩
  | _ => exact h1.elim
theorem q_cmpT {op : CmpOp} {o : D → D → S → R D} (ho : QOp X (compareOp op) o) (ha : PE X a (liftE (wd X) W ma)) (hb : PE X b (liftE (wd X) W mb)) (hm : behindInMarks op b = false := by first | exact nobehind _ (by decide) (by decide) | rfl) : PT X (.Compare a [op] [b] pos) (liftT (wd X) W (tstE (binE o ma mb))) :=
  pt_imp (pt_cmpR ho ha hb hm) fun σ H Q h => by
    have := tst_sound h
    obtain ⟨μ, ρ, s, he, hs, h⟩ := this
    exact bin_sound ⟨μ, ρ, s, he, hs, h⟩
theorem chain_sound {g : Wd} {c : Expr} {mc : E} {o o' : D → D → S → R D} {σ : L2.St} {H : Hp} {Q : VK} (h : liftE g W (chainE o o' ma mb mc) σ H Q) : tChain (rL g o) (rL g o') (liftE g W ma) (liftE g W mb) (liftE g W mc) σ H Q := by
  obtain ⟨μ, ρ, s, he, hs, h⟩ := h
  refine ⟨μ, ρ, s, he, hs, runs_bind (Rel1 := RV g) h fun d s1 μ1 H1 x e1 x1 hs1 r1 h1 => ?_⟩
  refine ⟨μ1, ρ, s1, he.mono x1, hs1, runs_bind (Rel1 := RV g) h1 fun d2 s2 μ2 H2 y e2 x2 hs2 r2 h2 => ?_⟩
  refine ⟨μ2, s2, d, d2, hs2, r1.mono x2, r2, W, σ, runs_bind (Rel1 := RV g) h2 fun d3 s3 μ3 H3 z e3 x3 hs3 r3 h3 => ?_⟩
  cases d3 with
  | bl k =>
    simp only [RV] at r3
    refine ⟨k, r3, ?_⟩
    have h4 : runs g W σ μ3 H3 (RV g) Q (if k = true then (mc ρ s3).bind fun w s => o' d2 w s else .ok (.bl false) s3) := h3
    cases k with
    | true =>
      refine ⟨μ3, ρ, s3, ((he.mono x1).mono x2).mono x3, hs3, runs_bind (Rel1 := RV g) h4 fun d4 s4 μ4 H4 u e4 x4 hs4 r4 h5 => ?_⟩
      exact ⟨μ4, s4, d2, d4, hs4, (r2.mono x3).mono x4, r4, W, σ, h5⟩
    | false => exact runs_pure h4 hs3 (by simp only [RV])
  | _ => exact h3.elim
theorem q_chain {op op' : CmpOp} {c : Expr} {mc : E} {o o' : D → D → S → R D} (ho : QOp X (compareOp op) o) (ho' : QOp X (compareOp op') o') (ha : PE X a (liftE (wd X) W ma)) (hb : PE X b (liftE (wd X) W mb)) (hc : PE X c (liftE (wd X) W mc)) (hm : lastMarks [op, op'] [b, c] = false := by rfl) :
    PE X (.Compare a [op, op'] [b, c] pos) (liftE (wd X) W (chainE o o' ma mb mc)) := pe_imp (pe_chain ho ho' ha hb hc hm) fun _ _ _ => chain_sound (c := c)
theorem q_chainT {op op' : CmpOp} {c : Expr} {mc : E} {o o' : D → D → S → R D} (ho : QOp X (compareOp op) o) (ho' : QOp X (compareOp op') o') (ha : PE X a (liftE (wd X) W ma)) (hb : PE X b (liftE (wd X) W mb)) (hc : PE X c (liftE (wd X) W mc)) (hm : lastMarks [op, op'] [b, c] = false := by rfl) :
    PT X (.Compare a [op, op'] [b, c] pos) (liftT (wd X) W (tstE (chainE o o' ma mb mc))) := pt_imp (pt_chain ho ho' ha hb hc hm) fun σ H Q h => by
    obtain ⟨μ, ρ, s, he, hs, h⟩ := tst_sound h
    exact chain_sound (c := c) ⟨μ, ρ, s, he, hs, h⟩
/-- truth -/
theorem truth_sound {g : Wd} {σ : L2.St} {μ : List Addr} {H : Hp} {s s' : S} {d : D} {x : V} {k : Bool} (hs : Rs g μ H s) (r : RV g μ H d x) (e : truth d s = .ok k s') : TruV g.K x H k ∧ s' = s := by
  cases d with
  | non => simp only [RV] at r; subst r; simp only [truth, R.ok.injEq] at e; exact ⟨e.1.symm, e.2.symm⟩
  | bl c => simp only [RV] at r; subst r; simp only [truth, R.ok.injEq] at e; exact ⟨e.1.symm, e.2.symm⟩
  | int i => simp only [RV] at r; subst r; simp only [truth, R.ok.injEq] at e; exact ⟨e.1.symm, e.2.symm⟩
  | str y =>
    simp only [RV] at r; subst r
    simp only [truth] at e
    split at e
    · rename_i hz
      simp only [R.ok.injEq] at e
      exact ⟨⟨of_decide_eq_true hz, e.1.symm⟩, e.2.symm⟩
    · cases e
  | tup xs =>
    simp only [RV] at r
    obtain ⟨p, ys, rfl, q, rr⟩ := r
    simp only [truth, R.ok.injEq] at e
    refine ⟨.inr (.inl ⟨ys, q, ?_⟩), e.2.symm⟩
    rw [← e.1]
    have := rr.length
    cases xs <;> cases ys <;> simp_all
  | ref a =>
    simp only [RV] at r
    obtain ⟨p, ep, rfl⟩ := r
    simp only [truth] at e
    split at e
    · rename_i xs ei
      obtain ⟨ys, hp, rr⟩ := hs.at_ _ _ _ ei ep
      simp only [R.ok.injEq] at e
      refine ⟨.inl ⟨ys, .inl (.inl hp), ?_⟩, e.2.symm⟩
      rw [← e.1]
      have := rr.length
      cases xs <;> cases ys <;> simp_all
    · rename_i xs ei
      obtain ⟨o, ys, hp, rr⟩ := hs.at_ _ _ _ ei ep
      simp only [R.ok.injEq] at e
      refine ⟨.inl ⟨ys, .inl (.inr ⟨o, hp⟩), ?_⟩, e.2.symm⟩
      rw [← e.1]
      have := rr.length
      cases xs <;> cases ys <;> simp_all
    · rename_i xs ei
      obtain ⟨ys, hp, rr⟩ := hs.at_ _ _ _ ei ep
      simp only [R.ok.injEq] at e
      refine ⟨.inr (.inr ⟨ys, hp, ?_⟩), e.2.symm⟩
      rw [← e.1]
      cases xs with
      | nil => simp only [RKV] at rr; subst rr; rfl
      | cons p r => obtain ⟨k, d⟩ := p; obtain ⟨_, _, rfl, _⟩ := rr; rfl
    · cases e
  | ty n => cases e
  | gl n => cases e
  | fl n => cases e
theorem runs_truth {g : Wd} {σ : L2.St} {μ : List Addr} {H : Hp} {s : S} {d : D} {x : V} {α β : Type} {Rel : List Addr → Hp → α → β → Prop} {Q : β → Hp → Prop} {f : Bool → S → R α} (hs : Rs g μ H s) (r : RV g μ H d x)
    (h : runs g W σ μ H Rel Q ((truth d s).bind f)) : ∃ k, TruV g.K x H k ∧ runs g W σ μ H Rel Q (f k s) := by
  cases e : truth d s with
  | ok k s' =>
    obtain ⟨t, rfl⟩ := truth_sound (σ := σ) hs r e
    rw [e] at h
    exact ⟨k, t, h⟩
  | err c fs s' =>
    exfalso
    cases d <;> simp only [truth] at e <;> (try split at e) <;> cases e
  | bad => rw [e] at h; exact h.elim
theorem q_truT (ha : PE X a (liftE (wd X) W ma)) (he : ∀ whole, isTrue a X.env whole = (do let v ← whole; standAt a.pos; holding [v] (truthy v)) := by intro _; rfl) : PT X a (liftT (wd X) W (truE ma)) :=
  pt_imp (pt_truth ha he) fun σ H Q ⟨μ, ρ, s, he, hs, h⟩ => ⟨μ, ρ, s, he, hs, runs_bind (Rel1 := RV (wd X)) h fun d s1 μ1 H1 x e1 x1 hs1 r1 h1 => by
    have h2 : runs (wd X) W σ μ1 H1 RB Q ((truth d s1).bind fun k s => .ok k s) := by
      cases q : truth d s1 <;> rw [q] at h1 <;> exact h1
    obtain ⟨k, t, h3⟩ := runs_truth hs1 r1 h2
    exact ⟨k, t, runs_pure h3 hs1 rfl⟩⟩
theorem q_and {rest : List Expr} (ha : PE X a (liftE (wd X) W ma)) (hb : PE X (.BoolOp .And (b :: rest) pos) (liftE (wd X) W mb)) : PE X (.BoolOp .And (a :: b :: rest) pos) (liftE (wd X) W (andE ma mb)) :=
  pe_imp (pe_andT ha hb) fun σ H Q ⟨μ, ρ, s, he, hs, h⟩ => ⟨μ, ρ, s, he, hs, runs_bind (Rel1 := RV (wd X)) h fun d s1 μ1 H1 x e1 x1 hs1 r1 h1 => by
    obtain ⟨k, t, h3⟩ := runs_truth hs1 r1 h1
    refine ⟨k, t, ?_⟩
    cases k with
    | true => exact ⟨μ1, ρ, s1, he.mono x1, hs1, h3⟩
    | false => exact runs_pure h3 hs1 r1⟩
theorem q_or {rest : List Expr} (ha : PE X a (liftE (wd X) W ma)) (hb : PE X (.BoolOp .Or (b :: rest) pos) (liftE (wd X) W mb)) : PE X (.BoolOp .Or (a :: b :: rest) pos) (liftE (wd X) W (orE ma mb)) :=
  pe_imp (pe_orT ha hb) fun σ H Q ⟨μ, ρ, s, he, hs, h⟩ => ⟨μ, ρ, s, he, hs, runs_bind (Rel1 := RV (wd X)) h fun d s1 μ1 H1 x e1 x1 hs1 r1 h1 => by
    obtain ⟨k, t, h3⟩ := runs_truth hs1 r1 h1
    refine ⟨k, t, ?_⟩
    cases k with
    | true => exact runs_pure h3 hs1 r1
    | false => exact ⟨μ1, ρ, s1, he.mono x1, hs1, h3⟩⟩
theorem q_one {op} (ha : PE X a (liftE (wd X) W ma)) : PE X (.BoolOp op [a] pos) (liftE (wd X) W ma) := pe_one ha
theorem q_not (ha : PE X a (liftE (wd X) W ma)) : PE X (.UnaryOp .Not a pos) (liftE (wd X) W (notE ma)) :=
  pe_imp (pe_notT ha) fun σ H Q ⟨μ, ρ, s, he, hs, h⟩ => ⟨μ, ρ, s, he, hs, runs_bind (Rel1 := RV (wd X)) h fun d s1 μ1 H1 x e1 x1 hs1 r1 h1 => by
    obtain ⟨k, t, h3⟩ := runs_truth hs1 r1 h1
    exact ⟨k, t, runs_pure h3 hs1 (by simp only [RV])⟩⟩
/-- tests -/
theorem q_and1T (ha : PT X a (liftT (wd X) W ta)) : PW X (.BoolOp .And [a] pos) (liftT (wd X) W ta) := pw_and1 ha
theorem q_or1T (ha : PT X a (liftT (wd X) W ta)) : PW X (.BoolOp .Or [a] pos) (liftT (wd X) W ta) := pw_or1 ha
theorem q_andT {rest : List Expr} (ha : PT X a (liftT (wd X) W ta)) (hb : PW X (.BoolOp .And (b :: rest) pos) (liftT (wd X) W tb)) : PW X (.BoolOp .And (a :: b :: rest) pos) (liftT (wd X) W (andT ta tb)) :=
  pw_imp (pw_and ha hb) fun σ H Q ⟨μ, ρ, s, he, hs, h⟩ => ⟨μ, ρ, s, he, hs, runs_bind (Rel1 := RB) h fun d s1 μ1 H1 x e1 x1 hs1 r1 h1 => by
    have r1 : d = x := r1
    subst r1
    cases d with
    | true => exact ⟨μ1, ρ, s1, he.mono x1, hs1, h1⟩
    | false => exact runs_pure h1 hs1 rfl⟩
theorem q_orT {rest : List Expr} (ha : PT X a (liftT (wd X) W ta)) (hb : PW X (.BoolOp .Or (b :: rest) pos) (liftT (wd X) W tb)) : PW X (.BoolOp .Or (a :: b :: rest) pos) (liftT (wd X) W (orT ta tb)) :=
  pw_imp (pw_or ha hb) fun σ H Q ⟨μ, ρ, s, he, hs, h⟩ => ⟨μ, ρ, s, he, hs, runs_bind (Rel1 := RB) h fun d s1 μ1 H1 x e1 x1 hs1 r1 h1 => by
    have r1 : d = x := r1
    subst r1
    cases d with
    | true => exact runs_pure h1 hs1 rfl
    | false => exact ⟨μ1, ρ, s1, he.mono x1, hs1, h1⟩⟩
theorem q_notT (ha : PT X a (liftT (wd X) W ta)) : PT X (.UnaryOp .Not a pos) (liftT (wd X) W (notT ta)) :=
  pt_imp (pt_not ha) fun σ H Q ⟨μ, ρ, s, he, hs, h⟩ => ⟨μ, ρ, s, he, hs, runs_bind (Rel1 := RB) h fun d s1 μ1 H1 x e1 x1 hs1 r1 h1 => by
    have r1 : d = x := r1
    subst r1
    exact runs_pure h1 hs1 rfl⟩
theorem q_if {c : Expr} (hc : PT X c (liftT (wd X) W t)) (ha : PE X a (liftE (wd X) W ma)) (hb : PE X b (liftE (wd X) W mb)) : PE X (.IfExp c a b pos) (liftE (wd X) W (ifE t ma mb)) :=
  pe_imp (pe_ifExp hc ha hb) fun σ H Q ⟨μ, ρ, s, he, hs, h⟩ => ⟨μ, ρ, s, he, hs, runs_bind (Rel1 := RB) h fun d s1 μ1 H1 x e1 x1 hs1 r1 h1 => by
    have r1 : d = x := r1
    subst r1
    cases d with
    | true => exact ⟨μ1, ρ, s1, he.mono x1, hs1, h1⟩
    | false => exact ⟨μ1, ρ, s1, he.mono x1, hs1, h1⟩⟩
/-- arguments -/
theorem qa_nil : PA X [] (liftA (wd X) W nilA) := pa_imp pa_nil fun σ H Q ⟨μ, ρ, s, he, hs, h⟩ => runs_pure (show runs (wd X) W σ μ H (RVs (wd X)) Q (.ok [] s) from h) hs (by simp only [RVs])
theorem qa_cons (ha : PE X e (liftE (wd X) W ma)) (hr : PA X es (liftA (wd X) W ms)) (hs : starEach (e :: es) X.env = (false, eval e X.env) :: starEach es X.env := by rfl) : PA X (e :: es) (liftA (wd X) W (consA ma ms)) :=
  pa_imp (pa_cons ha hr hs) fun σ H Q ⟨μ, ρ, s, he, hs, h⟩ => ⟨μ, ρ, s, he, hs, runs_bind (Rel1 := RV (wd X)) h fun d s1 μ1 H1 x e1 x1 hs1 r1 h1 =>
    ⟨μ1, ρ, s1, he.mono x1, hs1, runs_bind (Rel1 := RVs (wd X)) h1 fun ds s2 μ2 H2 xs e2 x2 hs2 r2 h2 => runs_pure h2 hs2 (by simp only [RVs]; exact ⟨x, xs, rfl, r1.mono x2, r2⟩)⟩⟩
theorem seqOf_sound {g : Wd} {μ : List Addr} {H : Hp} {s : S} {d : D} {x : V} {xs : List D} (hs : Rs g μ H s) (r : RV g μ H d x) (e : seqOf s d = some xs) : ∃ p ys, x = .ref p ∧ (SqT g.K H p ys ∨ SqL g.K H p ys) ∧ RVs g μ H xs ys := by
  cases d with
  | tup ds =>
    simp only [RV] at r
    obtain ⟨p, ys, rfl, q, rr⟩ := r
    simp only [seqOf, Option.some.injEq] at e
    subst e
    exact ⟨p, ys, rfl, .inl q, rr⟩
  | ref a =>
    simp only [RV] at r
    obtain ⟨p, ep, rfl⟩ := r
    simp only [seqOf] at e
    split at e
    · rename_i zs ei
      cases e
      obtain ⟨ys, hp, rr⟩ := hs.at_ _ _ _ ei ep
      exact ⟨p, ys, rfl, .inr (.inl (.inl hp)), rr⟩
    · rename_i zs ei
      cases e
      obtain ⟨o, ys, hp, rr⟩ := hs.at_ _ _ _ ei ep
      exact ⟨p, ys, rfl, .inr (.inl (.inr ⟨o, hp⟩)), rr⟩
    · cases e
  | _ => cases e
theorem qa_star {p : Pos} (ha : PE X e (liftE (wd X) W ma)) (hr : PA X es (liftA (wd X) W ms)) (hs : starEach (.Starred e p :: es) X.env = (true, eval e X.env) :: starEach es X.env := by rfl) : PA X (.Starred e p :: es) (liftA (wd X) W (starA ma ms)) :=
  pa_imp (StX.pa_star ha hr hs) fun σ H Q ⟨μ, ρ, s, he, hs, h⟩ => ⟨μ, ρ, s, he, hs, runs_bind (Rel1 := RV (wd X)) h fun d s1 μ1 H1 x e1 x1 hs1 r1 h1 => by
    split at h1
    · rename_i zs ez
      obtain ⟨p, ys, rfl, q, rr⟩ := seqOf_sound hs1 r1 ez
      exact ⟨p, ys, rfl, q, μ1, ρ, s1, he.mono x1, hs1, runs_bind (Rel1 := RVs (wd X)) h1 fun ds s2 μ2 H2 xs e2 x2 hs2 r2 h2 => runs_pure h2 hs2 ((rr.mono x2).append r2)⟩
    · exact h1.elim⟩
/-- displays -/
theorem rv_new {g : Wd} {μ : List Addr} {H : Hp} {p : Addr} {ds : List D} {xs : List V} (e : H p = none) (r : RVs g μ H ds xs) : RV g μ (upd H p (.tup xs)) (.tup ds) (.ref p) := by
  simp only [RV]
  exact ⟨p, xs, rfl, SqT.of upd_same, r.mono (ex_new0 e)⟩
theorem runs_tup {g : Wd} {σ : L2.St} {μ : List Addr} {H : Hp} {s : S} {ds : List D} {xs : List V} {Q : VK} (hs : Rs g μ H s) (r : RVs g μ H ds xs) (h : runs g W σ μ H (RV g) Q (.ok (.tup ds) s)) : ∀ p, H p = none → Q (.ref p) (upd H p (.tup xs)) :=
  fun p hp => h μ _ _ (ex_new0 hp) (hs.other hp) (rv_new hp r)
theorem runs_lst {g : Wd} {σ : L2.St} {μ : List Addr} {H : Hp} {s : S} {ds : List D} {xs : List V} {Q : VK} (hs : Rs g μ H s) (r : RVs g μ H ds xs) (h : runs g W σ μ H (RV g) Q (.ok (.ref s.length) (s ++ [.lst ds]))) : ∀ p, H p = none → Q (.ref p) (upd H p (.lst xs)) :=
  fun p hp => h (μ ++ [p]) _ _ (ex_new hp [p]) (hs.laid hp ⟨xs, upd_same, r.mono (ex_new hp [p])⟩) (by
    simp only [RV]
    exact ⟨p, by rw [← hs.len, List.getElem?_append_right (Nat.le_refl _)]; simp, rfl⟩)
theorem q_tup {k : Nat} (ha : PA X es (liftA (wd X) W ms)) : PE X (.Tuple es k pos) (liftE (wd X) W (tupE ms)) :=
  pe_imp (pe_tup ha) fun σ H Q ⟨μ, ρ, s, he, hs, h⟩ => ⟨μ, ρ, s, he, hs, runs_bind (Rel1 := RVs (wd X)) h fun ds s1 μ1 H1 xs e1 x1 hs1 r1 h1 => by
    split at h1
    · rename_i hz
      exact ⟨by rw [← r1.length]; exact of_decide_eq_true hz, runs_tup hs1 r1 h1⟩
    · exact h1.elim⟩
theorem q_lst (ha : PA X es (liftA (wd X) W ms)) : PE X (.List es pos) (liftE (wd X) W (lstE ms)) :=
  pe_imp (pe_lst ha) fun σ H Q ⟨μ, ρ, s, he, hs, h⟩ => ⟨μ, ρ, s, he, hs, runs_bind (Rel1 := RVs (wd X)) h fun ds s1 μ1 H1 xs e1 x1 hs1 r1 h1 => by
    split at h1
    · rename_i hz
      exact ⟨by rw [← r1.length]; exact of_decide_eq_true hz, runs_lst hs1 r1 h1⟩
    · exact h1.elim⟩
end
end Ev

namespace Ev
open PySem PySem.Spec PyProof.Rows L2
/-! ### operations -/
def lstAt (s : S) (a : Nat) : Option (List D) := match s[a]? with | some (.lst xs) => some xs | some (.flst xs) => some xs | _ => none
def newL (xs : List D) (s : S) : R D := .ok (.ref s.length) (s ++ [.lst xs])
def addD (x y : D) (s : S) : R D := match x, y with
  | .int i, .int j => .ok (.int (i + j)) s
  | .str a, .str b => if szl (a.length + b.length) then .ok (.str (a ++ b)) s else .bad
  | .tup xs, .tup ys => if szl (xs.length + ys.length) then .ok (.tup (xs ++ ys)) s else .bad
  | .ref a, .ref b => match s[a]?, s[b]? with
    | some (.lst xs), some (.lst ys) => if szl (xs.length + ys.length) then newL (xs ++ ys) s else .bad
    | _, _ => .bad
  | _, _ => .bad
def subD (x y : D) (s : S) : R D := match x, y with
  | .int i, .int j => .ok (.int (i - j)) s
  | _, _ => .bad
def mulOk (i j : Int) : Bool := decide (i.natAbs.log2 + j.natAbs.log2 < 1000000)
def mulD (x y : D) (s : S) : R D := match x, y with
  | .int i, .int j => if mulOk i j then .ok (.int (i * j)) s else .bad
  | .ref a, .int k => match s[a]? with
    | some (.lst xs) => if decide (-(2 ^ 63) ≤ k ∧ k < 2 ^ 63) && szl (xs.length * k.toNat) then newL (List.replicate k.toNat xs).flatten s else .bad
    | _ => .bad
  | _, _ => .bad
def divOk (j : Int) : Bool := decide (0 < j ∧ j.natAbs.log2 < 9000)
def fdivD (x y : D) (s : S) : R D := match x, y with
  | .int i, .int j => if divOk j then .ok (.int (i / j)) s else .bad
  | _, _ => .bad
def modD (x y : D) (s : S) : R D := match x, y with
  | .int i, .int j => if decide (0 < j) then .ok (.int (i % j)) s else .bad
  | _, _ => .bad
def powD (x y : D) (s : S) : R D := match x, y with
  | .int i, .int j => if decide (0 ≤ j ∧ j ≤ 1000000 ∧ i.natAbs < 2 ^ 64) then .ok (.int (i ^ j.toNat)) s else .bad
  | _, _ => .bad
def strLt (x y : Tx) : Bool := decide (x.cps.toList < y.cps.toList)
def ltD (x y : D) (s : S) : R D := match x, y with
  | .int i, .int j => .ok (.bl (decide (i < j))) s
  | .str a, .str b => .ok (.bl (strLt a b)) s
  | _, _ => .bad
def leD (x y : D) (s : S) : R D := match x, y with
  | .int i, .int j => .ok (.bl (decide (i ≤ j))) s
  | .str a, .str b => .ok (.bl (!strLt b a)) s
  | _, _ => .bad
def gtD (x y : D) (s : S) : R D := match x, y with
  | .int i, .int j => .ok (.bl (decide (j < i))) s
  | .str a, .str b => .ok (.bl (strLt b a)) s
  | _, _ => .bad
def geD (x y : D) (s : S) : R D := match x, y with
  | .int i, .int j => .ok (.bl (decide (j ≤ i))) s
  | .str a, .str b => .ok (.bl (!strLt a b)) s
  | _, _ => .bad
def isNone : D → Bool | .non => true | _ => false
def isD (x y : D) (s : S) : R D := match x, y with
  | x, .non => .ok (.bl (isNone x)) s
  | .bl a, .bl b => .ok (.bl (a == b)) s
  | _, _ => .bad
def isnotD (x y : D) (s : S) : R D := match x, y with
  | x, .non => .ok (.bl (!isNone x)) s
  | .bl a, .bl b => .ok (.bl (!(a == b))) s
  | _, _ => .bad
def negD (x : D) (s : S) : R D := match x with | .int i => .ok (.int (-i)) s | _ => .bad
/-! as plain data -/
mutual
def toPw (rf : Nat → Option PyData) : D → Option PyData
  | .non => some .none
  | .bl b => some (.bool b)
  | .int i => some (.int i)
  | .str s => some (.str s)
  | .tup ds => (toPws rf ds).map .tuple
  | .ref a => rf a
  | .ty _ => none
  | .gl _ => none
  | .fl _ => none
def toPws (rf : Nat → Option PyData) : List D → Option (List PyData)
  | [] => some []
  | d :: ds => match toPw rf d, toPws rf ds with
    | some p, some ps => some (p :: ps)
    | _, _ => none
end
def rfN : Nat → S → Nat → Option PyData
  | 0, _, _ => none
  | n + 1, s, a => (lstAt s a).bind fun xs => (toPws (rfN n s) xs).map .list
def toP (s : S) (d : D) : Option PyData := toPw (rfN 60 s) d
/-- == where both are none, bools, ints, texts -/
def scE : D → D → Option Bool
  | .non, .non => some true | .non, .int _ => some false | .int _, .non => some false | .non, .bl _ => some false | .bl _, .non => some false | .non, .str _ => some false | .str _, .non => some false
  | .int i, .int j => some (i == j) | .bl a, .bl b => some (a == b) | .str x, .str y => some (x == y)
  | .int _, .str _ => some false | .str _, .int _ => some false | .bl _, .str _ => some false | .str _, .bl _ => some false
  | _, _ => none
def eqB (s : S) (x y : D) : Option Bool := match scE x y with
  | some b => some b
  | none => match toP s x, toP s y with
    | some p, some q => if SeqAt.shaped p && SeqAt.shaped q then some (PyData.eqv p q) else none
    | _, _ => none
def eqD (x y : D) (s : S) : R D := match eqB s x y with | some b => .ok (.bl b) s | none => .bad
def neD (x y : D) (s : S) : R D := match eqB s x y with | some b => .ok (.bl (!b)) s | none => .bad
section
variable {X : Cx}
theorem lstAt_sound {g : Wd} {μ : List Addr} {H : Hp} {s : S} {a : Nat} {p : Addr} {xs : List D} (hs : Rs g μ H s) (ep : μ[a]? = some p) (e : lstAt s a = some xs) : ∃ ys, SqL g.K H p ys ∧ RVs g μ H xs ys := by
  unfold lstAt at e
  split at e
  · rename_i zs ei
    cases e
    obtain ⟨ys, hp, rr⟩ := hs.at_ _ _ _ ei ep
    exact ⟨ys, .inl (.inl hp), rr⟩
  · rename_i zs ei
    cases e
    obtain ⟨o, ys, hp, rr⟩ := hs.at_ _ _ _ ei ep
    exact ⟨ys, .inl (.inr ⟨o, hp⟩), rr⟩
  · cases e
mutual
theorem toPw_sound {g : Wd} {μ : List Addr} {H : Hp} {rf : Nat → Option PyData} (hr : ∀ a p d, μ[a]? = some p → rf a = some d → Dp g.K H (.ref p) d) : ∀ {d : D} {x : V} {p : PyData}, RV g μ H d x → toPw rf d = some p → Dp g.K H x p
  | .non, _, _, r, e => by simp only [RV] at r; subst r; simp only [toPw, Option.some.injEq] at e; subst e; exact .non
  | .bl _, _, _, r, e => by simp only [RV] at r; subst r; simp only [toPw, Option.some.injEq] at e; subst e; exact .bl _
  | .int _, _, _, r, e => by simp only [RV] at r; subst r; simp only [toPw, Option.some.injEq] at e; subst e; exact .int _
  | .str _, _, _, r, e => by simp only [RV] at r; subst r; simp only [toPw, Option.some.injEq] at e; subst e; exact .str _
  | .ty _, _, _, _, e => by simp only [toPw] at e; cases e
  | .gl _, _, _, _, e => by simp only [toPw] at e; cases e
  | .fl _, _, _, _, e => by simp only [toPw] at e; cases e
  | .ref a, _, _, r, e => by
    simp only [RV] at r
    obtain ⟨q, eq, rfl⟩ := r
    simp only [toPw] at e
    exact hr a q _ eq e
  | .tup ds, _, _, r, e => by
    simp only [RV] at r
    obtain ⟨q, ys, rfl, sq, rr⟩ := r
    simp only [toPw, Option.map_eq_some_iff] at e
    obtain ⟨ps, e1, rfl⟩ := e
    exact .tup sq (toPws_sound hr rr e1)
theorem toPws_sound {g : Wd} {μ : List Addr} {H : Hp} {rf : Nat → Option PyData} (hr : ∀ a p d, μ[a]? = some p → rf a = some d → Dp g.K H (.ref p) d) : ∀ {ds : List D} {xs : List V} {ps : List PyData}, RVs g μ H ds xs → toPws rf ds = some ps → DpAll g.K H xs ps
  | [], _, _, r, e => by simp only [RVs] at r; subst r; simp only [toPws, Option.some.injEq] at e; subst e; exact .nil
  | d :: ds, _, _, r, e => by
    simp only [RVs] at r
    obtain ⟨y, r', rfl, a, b⟩ := r
    simp only [toPws] at e
    split at e
    · rename_i p ps e1 e2
      cases e
      exact .cons (toPw_sound hr a e1) (toPws_sound hr b e2)
    · cases e
end
theorem rfN_sound {g : Wd} {μ : List Addr} {H : Hp} {s : S} (hs : Rs g μ H s) : ∀ (n : Nat) (a : Nat) (p : Addr) (d : PyData), μ[a]? = some p → rfN n s a = some d → Dp g.K H (.ref p) d
  | 0, _, _, _, _, e => by cases e
  | n + 1, a, p, d, ep, e => by
    simp only [rfN, Option.bind_eq_some_iff, Option.map_eq_some_iff] at e
    obtain ⟨xs, e1, ps, e2, rfl⟩ := e
    obtain ⟨ys, q, rr⟩ := lstAt_sound hs ep e1
    exact .lst q (toPws_sound (rfN_sound hs n) rr e2)
theorem toP_sound {g : Wd} {μ : List Addr} {H : Hp} {s : S} {d : D} {x : V} {p : PyData} (hs : Rs g μ H s) (r : RV g μ H d x) (e : toP s d = some p) : Dp g.K H x p := toPw_sound (rfN_sound hs 60) r e
theorem qo_add : QOp X (binaryOp .Add) addD := by
  intro pins sh σ H x y v u Q I rx ry ⟨μ, s, d, e, hs, r1, r2, W, σ', h⟩
  cases d <;> cases e <;> try exact h.elim
  · simp only [RV] at r1 r2; subst r1; subst r2
    exact op_add pins sh σ H _ _ v u Q I rx ry ⟨_, _, rfl, rfl, runs_pure h hs (by simp only [RV])⟩
  · simp only [RV] at r1 r2; subst r1; subst r2
    simp only [addD] at h
    split at h
    · rename_i hz
      exact op_add_str pins sh σ H _ _ v u Q I rx ry ⟨_, _, rfl, rfl, of_decide_eq_true hz, runs_pure h hs (by simp only [RV])⟩
    · exact h.elim
  · rename_i xs ys
    simp only [RV] at r1 r2
    obtain ⟨p, vs, rfl, q1, rr1⟩ := id r1
    obtain ⟨q, us, rfl, q2, rr2⟩ := id r2
    simp only [addD] at h
    split at h
    · rename_i hz
      refine op_catA pins sh σ H _ _ v u Q I rx ry ⟨p, q, vs, us, rfl, rfl, q1, q2, by rw [← rr1.length, ← rr2.length]; exact of_decide_eq_true hz, fun e0 => ?_, fun _ e0 => ?_, fun _ _ => runs_tup hs (rr1.append rr2) h⟩
      · have : xs = [] := by
          have := rr1.length
          rw [e0] at this
          exact List.length_eq_zero_iff.mp this
        subst this
        exact runs_pure h hs (by simp only [RV]; exact r2)
      · have : ys = [] := by
          have := rr2.length
          rw [e0] at this
          exact List.length_eq_zero_iff.mp this
        subst this
        rw [List.append_nil] at h
        exact runs_pure h hs (by simp only [RV]; exact r1)
    · exact h.elim
  · rename_i a b
    simp only [RV] at r1 r2
    obtain ⟨p, e1, rfl⟩ := r1
    obtain ⟨q, e2, rfl⟩ := r2
    simp only [addD] at h
    split at h
    · rename_i xs ys h1 h2
      split at h
      · rename_i hz
        obtain ⟨vs, hp, rr1⟩ := hs.at_ _ _ _ h1 e1
        obtain ⟨us, hq, rr2⟩ := hs.at_ _ _ _ h2 e2
        exact op_cat pins sh σ H _ _ v u Q I rx ry ⟨p, q, vs, us, rfl, rfl, hp, hq, by rw [← rr1.length, ← rr2.length]; exact of_decide_eq_true hz, runs_lst hs (rr1.append rr2) h⟩
      · exact h.elim
    · exact h.elim
theorem qo_sub : QOp X (binaryOp .Sub) subD := by
  intro pins sh σ H x y v u Q I rx ry ⟨μ, s, d, e, hs, r1, r2, W, σ', h⟩
  cases d <;> cases e <;> try exact h.elim
  simp only [RV] at r1 r2; subst r1; subst r2
  exact op_sub pins sh σ H _ _ v u Q I rx ry ⟨_, _, rfl, rfl, runs_pure h hs (by simp only [RV])⟩
theorem rep_rvs {g : Wd} {μ : List Addr} {H : Hp} {xs : List D} {vs : List V} (r : RVs g μ H xs vs) : ∀ n, RVs g μ H (List.replicate n xs).flatten (List.replicate n vs).flatten
  | 0 => by simp [RVs]
  | n + 1 => by simpa [List.replicate_succ] using r.append (rep_rvs r n)
theorem qo_mul : QOp X (binaryOp .Mult) mulD := by
  intro pins sh σ H x y v u Q I rx ry ⟨μ, s, d, e, hs, r1, r2, W, σ', h⟩
  cases d <;> cases e <;> try exact h.elim
  · simp only [RV] at r1 r2; subst r1; subst r2
    simp only [mulD] at h
    split at h
    · rename_i hz
      have hz' := of_decide_eq_true (p := _ < _) hz
      exact op_mulW pins sh σ H _ _ v u Q I rx ry ⟨_, _, rfl, rfl, hz', runs_pure h hs (by simp only [RV])⟩
    · exact h.elim
  · simp only [RV] at r1 r2; subst r2
    obtain ⟨p, e1, rfl⟩ := r1
    simp only [mulD] at h
    split at h
    · rename_i xs h1
      split at h
      · rename_i hz
        simp only [Bool.and_eq_true, decide_eq_true_eq] at hz
        obtain ⟨vs, hp, rr1⟩ := hs.at_ _ _ _ h1 e1
        exact op_rep pins sh σ H _ _ v u Q I rx ry ⟨p, _, vs, rfl, rfl, hp, hz.1.1, hz.1.2, by rw [← rr1.length]; exact of_decide_eq_true hz.2, runs_lst hs (rep_rvs rr1 _) h⟩
      · exact h.elim
    · exact h.elim
theorem qo_fdiv : QOp X (binaryOp .FloorDiv) fdivD := by
  intro pins sh σ H x y v u Q I rx ry ⟨μ, s, d, e, hs, r1, r2, W, σ', h⟩
  cases d <;> cases e <;> try exact h.elim
  simp only [RV] at r1 r2; subst r1; subst r2
  simp only [fdivD] at h
  split at h
  · rename_i hz
    have hz' := of_decide_eq_true (p := _ ∧ _) hz
    exact op_fdivW pins sh σ H _ _ v u Q I rx ry ⟨_, _, rfl, rfl, hz', runs_pure h hs (by simp only [RV])⟩
  · exact h.elim
theorem qo_mod : QOp X (binaryOp .Mod) modD := by
  intro pins sh σ H x y v u Q I rx ry ⟨μ, s, d, e, hs, r1, r2, W, σ', h⟩
  cases d <;> cases e <;> try exact h.elim
  simp only [RV] at r1 r2; subst r1; subst r2
  simp only [modD] at h
  split at h
  · rename_i hz
    exact op_mod pins sh σ H _ _ v u Q I rx ry ⟨_, _, rfl, rfl, of_decide_eq_true hz, runs_pure h hs (by simp only [RV])⟩
  · exact h.elim
theorem qo_pow : QOp X (binaryOp .Pow) powD := by
  intro pins sh σ H x y v u Q I rx ry ⟨μ, s, d, e, hs, r1, r2, W, σ', h⟩
  cases d <;> cases e <;> try exact h.elim
  simp only [RV] at r1 r2; subst r1; subst r2
  simp only [powD] at h
  split at h
  · rename_i hz
    have hz' := of_decide_eq_true (p := _ ∧ _ ∧ _) hz
    exact op_pow pins sh σ H _ _ v u Q I rx ry ⟨_, _, rfl, rfl, hz', runs_pure h hs (by simp only [RV])⟩
  · exact h.elim
theorem qo_lt : QOp X (compareOp .Lt) ltD := by
  intro pins sh σ H x y v u Q I rx ry ⟨μ, s, d, e, hs, r1, r2, W, σ', h⟩
  cases d <;> cases e <;> try exact h.elim
  · simp only [RV] at r1 r2; subst r1; subst r2
    exact op_lt pins sh σ H _ _ v u Q I rx ry ⟨_, _, rfl, rfl, runs_pure h hs (by simp only [RV])⟩
  · simp only [RV] at r1 r2; subst r1; subst r2
    exact op_lt_str pins sh σ H _ _ v u Q I rx ry ⟨_, _, rfl, rfl, runs_pure h hs (by simp only [RV, strLt])⟩
theorem qo_le : QOp X (compareOp .LtE) leD := by
  intro pins sh σ H x y v u Q I rx ry ⟨μ, s, d, e, hs, r1, r2, W, σ', h⟩
  cases d <;> cases e <;> try exact h.elim
  · simp only [RV] at r1 r2; subst r1; subst r2
    exact op_le pins sh σ H _ _ v u Q I rx ry ⟨_, _, rfl, rfl, runs_pure h hs (by simp only [RV])⟩
  · simp only [RV] at r1 r2; subst r1; subst r2
    exact op_le_str pins sh σ H _ _ v u Q I rx ry ⟨_, _, rfl, rfl, runs_pure h hs (by simp only [RV, strLt])⟩
theorem qo_gt : QOp X (compareOp .Gt) gtD := by
  intro pins sh σ H x y v u Q I rx ry ⟨μ, s, d, e, hs, r1, r2, W, σ', h⟩
  cases d <;> cases e <;> try exact h.elim
  · simp only [RV] at r1 r2; subst r1; subst r2
    exact op_gt pins sh σ H _ _ v u Q I rx ry ⟨_, _, rfl, rfl, runs_pure h hs (by simp only [RV])⟩
  · simp only [RV] at r1 r2; subst r1; subst r2
    exact op_gt_str pins sh σ H _ _ v u Q I rx ry ⟨_, _, rfl, rfl, runs_pure h hs (by simp only [RV, strLt])⟩
theorem qo_ge : QOp X (compareOp .GtE) geD := by
  intro pins sh σ H x y v u Q I rx ry ⟨μ, s, d, e, hs, r1, r2, W, σ', h⟩
  cases d <;> cases e <;> try exact h.elim
  · simp only [RV] at r1 r2; subst r1; subst r2
    exact op_ge pins sh σ H _ _ v u Q I rx ry ⟨_, _, rfl, rfl, runs_pure h hs (by simp only [RV])⟩
  · simp only [RV] at r1 r2; subst r1; subst r2
    exact op_ge_str pins sh σ H _ _ v u Q I rx ry ⟨_, _, rfl, rfl, runs_pure h hs (by simp only [RV, strLt])⟩
theorem isNone_sound {g : Wd} {μ : List Addr} {H : Hp} {d : D} {x : V} (r : RV g μ H d x) : isNone d = decide (x = .non) := by
  cases d <;> simp only [RV] at r
  · subst r; rfl
  · subst r; rfl
  · subst r; rfl
  · subst r; rfl
  · obtain ⟨_, _, rfl, _⟩ := r; rfl
  · obtain ⟨_, _, rfl⟩ := r; rfl
  · subst r; rfl
  · obtain ⟨_, _, rfl⟩ := r; rfl
  · obtain ⟨_, _, rfl, _⟩ := r; rfl
theorem qo_is : QOp X (compareOp .Is) isD := by
  intro pins sh σ H x y v u Q I rx ry ⟨μ, s, d, e, hs, r1, r2, W, σ', h⟩
  cases e with
  | non =>
    have h' : runs (wd X) W σ' μ H (RV (wd X)) Q (.ok (.bl (isNone d)) s) := by cases d <;> exact h
    simp only [RV] at r2; subst r2
    exact op_isN pins sh σ H _ _ v u Q I rx ry ⟨rfl, runs_pure h' hs (by simp only [RV, isNone_sound r1])⟩
  | bl b =>
    cases d <;> try exact h.elim
    simp only [RV] at r1 r2; subst r1; subst r2
    exact op_is_bl pins sh σ H _ _ v u Q I rx ry ⟨_, _, rfl, rfl, runs_pure h hs (by simp only [RV, V.bl.injEq]; exact (Bool.beq_eq_decide_eq _ _).symm)⟩
  | _ => cases d <;> exact h.elim
theorem qo_isnot : QOp X (compareOp .IsNot) isnotD := by
  intro pins sh σ H x y v u Q I rx ry ⟨μ, s, d, e, hs, r1, r2, W, σ', h⟩
  cases e with
  | non =>
    have h' : runs (wd X) W σ' μ H (RV (wd X)) Q (.ok (.bl (!isNone d)) s) := by cases d <;> exact h
    simp only [RV] at r2; subst r2
    exact op_notN pins sh σ H _ _ v u Q I rx ry ⟨rfl, runs_pure h' hs (by simp only [RV, isNone_sound r1])⟩
  | bl b =>
    cases d <;> try exact h.elim
    simp only [RV] at r1 r2; subst r1; subst r2
    exact op_isnot_bl pins sh σ H _ _ v u Q I rx ry ⟨_, _, rfl, rfl, runs_pure h hs (by simp only [RV, V.bl.injEq]; rw [Bool.beq_eq_decide_eq])⟩
  | _ => cases d <;> exact h.elim
theorem scE_sound {g : Wd} {μ : List Addr} {H : Hp} {d e : D} {x y : V} {b : Bool} (r1 : RV g μ H d x) (r2 : RV g μ H e y) (h : scE d e = some b) : scal x y = true ∧ b = decide (x = y) := by
  cases d <;> cases e <;> simp only [scE, Option.some.injEq, reduceCtorEq] at h <;> simp only [RV] at r1 r2 <;> subst r1 <;> subst r2 <;> subst h <;> refine ⟨rfl, ?_⟩
  all_goals first | rfl | (rw [dec_bl]) | (rw [dec_int]) | (rw [dec_str])
theorem eqB_sound {g : Wd} {μ : List Addr} {H : Hp} {s : S} {d e : D} {x y : V} {b : Bool} (hs : Rs g μ H s) (r1 : RV g μ H d x) (r2 : RV g μ H e y) (h : eqB s d e = some b) :
    (scal x y = true ∧ b = decide (x = y)) ∨ ∃ p q, Dp g.K H x p ∧ Dp g.K H y q ∧ SeqAt.shaped p = true ∧ SeqAt.shaped q = true ∧ b = PyData.eqv p q := by
  unfold eqB at h
  split at h
  · rename_i c hc
    cases h
    exact .inl (scE_sound r1 r2 hc)
  · split at h
    · rename_i p q e1 e2
      split at h
      · rename_i hz
        cases h
        simp only [Bool.and_eq_true] at hz
        exact .inr ⟨p, q, toP_sound hs r1 e1, toP_sound hs r2 e2, hz.1, hz.2, rfl⟩
      · cases h
    · cases h
theorem qo_eq (hu : X.A.units + 64 < cLine) : QOp X (compareOp .Eq) eqD := by
  intro pins sh σ H x y v u Q I rx ry ⟨μ, s, d, e, hs, r1, r2, W, σ', h⟩
  simp only [eqD] at h
  split at h
  · rename_i b hb
    have q : Q (.bl b) H := runs_pure h hs (by simp only [RV])
    rcases eqB_sound hs r1 r2 hb with ⟨z, rfl⟩ | ⟨p, p2, z1, z2, z3, z4, rfl⟩
    · exact op_eq pins sh σ H _ _ v u Q I rx ry ⟨z, q⟩
    · exact op_eqD hu pins sh σ H _ _ v u Q I rx ry ⟨p, p2, z1, z2, z3, z4, q⟩
  · exact h.elim
theorem qo_ne (hu : X.A.units + 64 < cLine) : QOp X (compareOp .NotEq) neD := by
  intro pins sh σ H x y v u Q I rx ry ⟨μ, s, d, e, hs, r1, r2, W, σ', h⟩
  simp only [neD] at h
  split at h
  · rename_i b hb
    have q : Q (.bl (!b)) H := runs_pure h hs (by simp only [RV])
    rcases eqB_sound hs r1 r2 hb with ⟨z, rfl⟩ | ⟨p, p2, z1, z2, z3, z4, rfl⟩
    · exact op_ne pins sh σ H _ _ v u Q I rx ry ⟨z, q⟩
    · exact op_neD hu pins sh σ H _ _ v u Q I rx ry ⟨p, p2, z1, z2, z3, z4, q⟩
  · exact h.elim
/-- one place -/
def rL1 (g : Wd) (o : D → S → R D) : V → Hp → VK → Prop := fun x H Q => ∃ μ s d, Rs g μ H s ∧ RV g μ H d x ∧ ∃ W σ, runs g W σ μ H (RV g) Q (o d s)
theorem q_un {W : WX} {pos : Pos} {a : Expr} {ma : E} {op : UnaryOp} {o : D → S → R D} (ho : UnR X (unaryOp op) (rL1 (wd X) o)) (ha : PE X a (liftE (wd X) W ma)) : PE X (.UnaryOp op a pos) (liftE (wd X) W (unE o ma)) :=
  pe_imp (pe_un ho ha) fun σ H Q ⟨μ, ρ, s, he, hs, h⟩ => ⟨μ, ρ, s, he, hs, runs_bind (Rel1 := RV (wd X)) h fun d s1 μ1 H1 x e1 x1 hs1 r1 h1 => ⟨μ1, s1, d, hs1, r1, W, σ, h1⟩⟩
theorem qo_neg : UnR X (unaryOp .USub) (rL1 (wd X) negD) := by
  intro pins sh σ H x v Q I rx ⟨μ, s, d, hs, r1, W, σ', h⟩
  cases d <;> try exact h.elim
  simp only [RV] at r1; subst r1
  exact un_neg pins sh σ H _ v Q I rx ⟨_, rfl, runs_pure h hs (by simp only [RV])⟩
end
end Ev

namespace Ev
open PySem PySem.Spec PyProof.Rows L2
/-! ### statements -/
def RS.next (r : RS) (f : En → S → RS) : RS := match r with
  | .nx ρ s => f ρ s
  | r => r
def passS : C := fun ρ s => .nx ρ s
def brkS : C := fun ρ s => .bk ρ s
def ctS : C := fun ρ s => .ct ρ s
def seqS (a b : C) : C := fun ρ s => (a ρ s).next b
def retS (e : E) : C := fun ρ s => (e ρ s).stm ρ fun d s => .rt d s
def retN : C := fun _ s => .rt .non s
def exprS (e : E) : C := fun ρ s => (e ρ s).stm ρ fun _ s => .nx ρ s
def ifS (t : T) (a b : C) : C := fun ρ s => (t ρ s).stm ρ fun k s => if k then a ρ s else b ρ s
def setS (i : Nat) (e : E) : C := fun ρ s => (e ρ s).stm ρ fun d s => .nx (ρ.set i (some d)) s
/-- targets: a name, a tuple of names -/
inductive Tg where | nm (i : Nat) | tp (is : List Nat)
def setAll : List Nat → List D → En → En
  | i :: is, d :: ds, ρ => setAll is ds (ρ.set i (some d))
  | _, _, ρ => ρ
def asg : Tg → D → En → Option En
  | .nm i, d, ρ => some (ρ.set i (some d))
  | .tp is, .tup ds, ρ => if ds.length = is.length then some (setAll is ds ρ) else none
  | _, _, _ => none
def asgS (t : Tg) (e : E) : C := fun ρ s => (e ρ s).stm ρ fun d s => match asg t d ρ with | some ρ' => .nx ρ' s | none => .bad
/-- what is walked -/
structure It where
  items : List D
  keep : S → Bool
abbrev Is := En → S → R It
def forL (keep : S → Bool) (t : Tg) (body : C) : List D → C
  | [], ρ, s => if keep s then .nx ρ s else .bad
  | d :: ds, ρ, s => if keep s then match asg t d ρ with
    | none => .bad
    | some ρ1 => match body ρ1 s with
      | .nx ρ2 s2 => forL keep t body ds ρ2 s2
      | .ct ρ2 s2 => forL keep t body ds ρ2 s2
      | .bk ρ2 s2 => .nx ρ2 s2
      | r => r
    else .bad
def forS (it : Is) (t : Tg) (body : C) : C := fun ρ s => (it ρ s).stm ρ fun J s => forL J.keep t body J.items ρ s
def whileL (t : T) (body : C) : Nat → C
  | 0, _, _ => .bad
  | n + 1, ρ, s => (t ρ s).stm ρ fun k s => if k then match body ρ s with
      | .nx ρ2 s2 => whileL t body n ρ2 s2
      | .ct ρ2 s2 => whileL t body n ρ2 s2
      | .bk ρ2 s2 => .nx ρ2 s2
      | r => r
    else .nx ρ s
def gas : Nat := 1000000
def whileS (t : T) (body : C) : C := whileL t body gas
/-- comprehensions -/
def R.noerr {α : Type} : R α → R α
  | .err _ _ _ => .bad
  | r => r
def wipeD : En → List Nat → En
  | ρ, [] => ρ
  | ρ, v :: vs => (wipeD ρ vs).set v none
def yesT : T := fun _ s => .ok true s
def lcL (keep : S → Bool) (t : Tg) (c : T) (e : E) (id : Nat) (ρ : En) : List D → S → R D
  | [], s => if keep s then .ok (.ref id) s else .bad
  | d :: ds, s => if keep s then match asg t d ρ with
    | none => .bad
    | some ρ1 => (c ρ1 s).noerr.bind fun k s => if k then (e ρ1 s).noerr.bind fun y s => match s[id]? with
        | some (.lst acc) => if decide (acc.length < sizeLine) then lcL keep t c e id ρ ds (s.set id (.lst (acc ++ [y]))) else .bad
        | _ => .bad
      else lcL keep t c e id ρ ds s
    else .bad
def lcE (it : Is) (vs : List Nat) (t : Tg) (c : T) (e : E) : E := fun ρ s => (it ρ s).bind fun J s => lcL J.keep t c e s.length (wipeD ρ vs) J.items (s ++ [.lst []])

/-! ### the rules of statements -/
section
variable {X : Cx} {W : WX} {pos : Pos} {e : Expr} {st : Stmt} {sts : List Stmt} {m : E} {a b : C} {t : T}
theorem ps_imp {t1 t2 : TS} (h : PS X st t1) (k : ∀ De σ H, t2 De σ H → t1 De σ H) : PS X st t2 := ⟨fun pins s σ H De I q => h.run pins s σ H De I (k De σ H q)⟩
theorem pss_imp {t1 t2 : TS} (h : PSs X sts t1) (k : ∀ De σ H, t2 De σ H → t1 De σ H) : PSs X sts t2 := ⟨fun pins s σ H De I q => h.run pins s σ H De I (k De σ H q)⟩
abbrev QS (X : Cx) (W : WX) (st : Stmt) (m : C) : Prop := PS X st (liftS (wd X) W m)
abbrev QSs (X : Cx) (W : WX) (st : List Stmt) (m : C) : Prop := PSs X st (liftS (wd X) W m)
theorem qs_nil : QSs X W [] passS := pss_imp pss_nil fun De σ H ⟨μ, ρ, s, he, hs, h⟩ => h μ H σ (Ex.refl _ _) hs he
theorem qs_cons (h1 : QS X W st a) (h2 : QSs X W sts b) : QSs X W (st :: sts) (seqS a b) := pss_imp (pss_cons h1 h2) fun De σ H ⟨μ, ρ, s, he, hs, h⟩ => by
  refine ⟨μ, ρ, s, he, hs, ?_⟩
  simp only [seqS] at h
  cases q : a ρ s <;> rw [q] at h
  · exact fun μ' H' σ' x y z => ⟨μ', _, _, z, y, runsS_mono x h⟩
  · exact h
  · exact h
  · exact h
  · exact h
  · exact h
theorem qs_one (h1 : QS X W st a) : QSs X W [st] a := pss_one h1
theorem qs_pass : QS X W (.Pass pos) passS := ps_imp ps_pass fun De σ H ⟨μ, ρ, s, he, hs, h⟩ => h μ H σ (Ex.refl _ _) hs he
theorem qs_break : QS X W (.Break pos) brkS := ps_imp ps_break fun De σ H ⟨μ, ρ, s, he, hs, h⟩ => h μ H σ (Ex.refl _ _) hs he
theorem qs_continue : QS X W (.Continue pos) ctS := ps_imp ps_continue fun De σ H ⟨μ, ρ, s, he, hs, h⟩ => h μ H σ (Ex.refl _ _) hs he
theorem qs_ret (he : PE X e (liftE (wd X) W m)) : QS X W (.Return (some e) pos) (retS m) := ps_imp (ps_ret he) fun De σ H ⟨μ, ρ, s, he, hs, h⟩ => ⟨μ, ρ, s, he, hs, runs_stm (Rel1 := RV (wd X)) he h fun d s1 μ1 H1 x e1 x1 hs1 r1 h1 => h1 μ1 H1 x (Ex.refl _ _) hs1 r1⟩
theorem qs_retN : QS X W (.Return none pos) retN := ps_imp ps_retN fun De σ H ⟨μ, ρ, s, he, hs, h⟩ => h μ H .non (Ex.refl _ _) hs (by simp only [RV])
theorem qs_expr (he : PE X e (liftE (wd X) W m)) (hw : swapsWith e none pos.line X.env = pure false := by rfl) : QS X W (.Expr e pos) (exprS m) := ps_imp (ps_expr he hw) fun De σ H ⟨μ, ρ, s, he, hs, h⟩ => ⟨μ, ρ, s, he, hs, runs_stm (Rel1 := RV (wd X)) he h fun d s1 μ1 H1 x e1 x1 hs1 r1 h1 => h1 μ1 H1 σ (Ex.refl _ _) hs1 (he.mono x1)⟩
theorem qs_doc {x j pos'} : QS X W (.Expr (.Constant (.str x) j pos) pos') passS := ps_imp ps_doc fun De σ H ⟨μ, ρ, s, he, hs, h⟩ => h μ H σ (Ex.refl _ _) hs he
theorem qs_if {c : Expr} {l r : List Stmt} (hc : PT X c (liftT (wd X) W t)) (ha : QSs X W l a) (hb : QSs X W r b) : QS X W (.If c l r pos) (ifS t a b) := ps_imp (ps_if hc ha hb) fun De σ H ⟨μ, ρ, s, he, hs, h⟩ => ⟨μ, ρ, s, he, hs, runs_stm (Rel1 := RB) he h fun d s1 μ1 H1 x e1 x1 hs1 r1 h1 => by
  have r1 : d = x := r1
  subst r1
  cases d with
  | true => exact ⟨μ1, ρ, s1, he.mono x1, hs1, h1⟩
  | false => exact ⟨μ1, ρ, s1, he.mono x1, hs1, h1⟩⟩
theorem qs_set {i : Nat} {x : Str} {pos' : Pos} (he : PE X e (liftE (wd X) W m)) (hN : X.N.Nodup) (hi : X.N[i]? = some x := by rfl) (hx : Loc X.env.scope x := by first | exact .inl rfl | exact .inr rfl) (hw : swapsWith e (some (.Name x pos')) pos.line X.env = pure false := by rfl)
    (hf : X.fn x = true ∨ X.env.scope.names.lookup x = some .local := by first | exact .inl rfl | exact .inr rfl | assumption) : QS X W (.Assign [.Name x pos'] e pos) (setS i m) :=
  ps_imp (ps_set hN hi hx he hw hf) fun De σ H ⟨μ, ρ, s, he, hs, h⟩ => ⟨μ, ρ, s, he, hs, runs_stm (Rel1 := RV (wd X)) he h fun d s1 μ1 H1 x e1 x1 hs1 r1 h1 => h1 μ1 H1 _ (Ex.refl _ _) hs1 ((he.mono x1).set r1)⟩
/-- targets -/
def gNames : List Nat → TGs
  | [] => gNil
  | i :: is => gCons (gName i) (gNames is)
def gOf (K : PySem.W.Frag) : Tg → TG
  | .nm i => gName i
  | .tp is => gTup K is.length (gNames is)
def setAllV : List Nat → List V → L2.St → L2.St
  | i :: is, d :: ds, σ => setAllV is ds (σ.set i (some d))
  | _, _, σ => σ
theorem setAll_ren {g : Wd} {μ : List Addr} {H : Hp} : ∀ {is : List Nat} {ds : List D} {vs : List V} {ρ : En} {σ : L2.St}, RVs g μ H ds vs → REn g μ H ρ σ → REn g μ H (setAll is ds ρ) (setAllV is vs σ)
  | [], _, _, _, _, _, h => by unfold setAll setAllV; exact h
  | i :: is, [], vs, ρ, σ, r, h => by simp only [RVs] at r; subst r; unfold setAll setAllV; exact h
  | i :: is, d :: ds, vs, ρ, σ, r, h => by
    simp only [RVs] at r
    obtain ⟨y, r', rfl, a, b⟩ := r
    unfold setAll setAllV
    exact setAll_ren b (h.set a)
theorem gNames_run : ∀ {is : List Nat} {vs : List V} {σ : L2.St} {H : Hp} {Q : L2.St → Hp → Prop}, vs.length = is.length → Q (setAllV is vs σ) H → gNames is vs σ H Q
  | [], vs, σ, H, Q, hl, h => ⟨List.length_eq_zero_iff.mp hl, by cases vs with | nil => exact h | cons _ _ => cases hl⟩
  | i :: is, [], σ, H, Q, hl, h => by cases hl
  | i :: is, v :: vs, σ, H, Q, hl, h => ⟨v, vs, rfl, gNames_run (by simpa using hl) h⟩
/-- the slots behind a target -/
def slV : Tg → V → List V → L2.St → L2.St
  | .nm i, v, _, σ => σ.set i (some v)
  | .tp is, _, vs, σ => setAllV is vs σ
theorem asg_sound {g : Wd} {μ : List Addr} {H : Hp} {t : Tg} {d : D} {ρ ρ' : En} {v : V} (r : RV g μ H d v) (e : asg t d ρ = some ρ') :
    ∃ vs, (∀ σ Q, Q (slV t v vs σ) H → gOf g.K t v σ H Q) ∧ ∀ σ, REn g μ H ρ σ → REn g μ H ρ' (slV t v vs σ) := by
  cases t with
  | nm i =>
    simp only [asg, Option.some.injEq] at e
    subst e
    exact ⟨[], fun σ Q h => h, fun σ h => h.set r⟩
  | tp is =>
    cases d with
    | tup ds =>
      simp only [asg] at e
      split at e
      · rename_i hl
        cases e
        simp only [RV] at r
        obtain ⟨p, ys, rfl, q, rr⟩ := r
        refine ⟨ys, fun σ Q h => ⟨p, ys, rfl, q, by rw [← rr.length]; exact hl, gNames_run (by rw [← rr.length]; exact hl) h⟩, fun σ h => setAll_ren rr h⟩
      · cases e
    | _ => simp only [asg] at e <;> cases e
theorem qs_asg {tg : Expr} {tt : Tg} (he : PE X e (liftE (wd X) W m)) (hg : PG X tg (gOf X.K tt)) (hw0 : swapsWithSole [tg] e pos.line X.env = pure false := by rfl) (hw : swappedStores [tg] e X.env = pure none := by rfl)
    (h1 : (assignEach [tg] X.env).map (·.2) = [assign tg X.env] := by rfl) : QS X W (.Assign [tg] e pos) (asgS tt m) :=
  ps_imp (ps_asg he hg hw0 hw h1) fun De σ H ⟨μ, ρ, s, he, hs, h⟩ => ⟨μ, ρ, s, he, hs, runs_stm (Rel1 := RV (wd X)) he h fun d s1 μ1 H1 x e1 x1 hs1 r1 h1 => by
    cases q : asg tt d ρ with
    | none => rw [q] at h1; exact h1.elim
    | some ρ' =>
      rw [q] at h1
      obtain ⟨vs, k1, k2⟩ := asg_sound r1 q
      exact k1 σ _ (h1 μ1 H1 _ (Ex.refl _ _) hs1 (k2 σ (he.mono x1)))⟩
/-! ### for -/
def ItR (g : Wd) (μ0 : List Addr) (H0 : Hp) (J : L2.It) (I : It) : Prop := ∀ μ H s, Ex μ0 H0 μ H → Rs g μ H s → I.keep s = true → ∀ i : Nat,
  (∀ d, I.items[i]? = some d → J.go i H ∧ ∀ x H', J.yld i H x H' → Ex μ H μ H' ∧ Rs g μ H' s ∧ RV g μ H' d x) ∧ (I.items.length ≤ i → J.stop i H)
def liftI (g : Wd) (W : WX) (m : Is) : TI := fun σ H Rr => ∃ μ ρ s, REn g μ H ρ σ ∧ Rs g μ H s ∧ runs g W σ μ H (fun μ' H' (a : It) (J : L2.It) => ItR g μ' H' J a) Rr (m ρ s)
abbrev QI (X : Cx) (W : WX) (tg iter : Expr) (m : Is) : Prop := PI X tg iter (liftI (wd X) W m)
theorem pi_imp {tg iter : Expr} {t1 t2 : TI} (h : PI X tg iter t1) (k : ∀ σ H Q, t2 σ H Q → t1 σ H Q) : PI X tg iter t2 := ⟨fun pins s σ H Q I q => h.run pins s σ H Q I (k σ H Q q)⟩
theorem drop_cons {ds : List D} {i : Nat} {d : D} (h : ds[i]? = some d) : ds.drop i = d :: ds.drop (i + 1) := by
  obtain ⟨hi, e⟩ := List.getElem?_eq_some_iff.mp h
  rw [List.drop_eq_getElem_cons hi, e]
theorem qs_for {tg iter : Expr} {body : List Stmt} {it : Is} {tt : Tg} {tb : C} (hp : PassesOwn (model X.prog X.w) X.A X.env X.xe) (hc : X.calm = true) (hi : QI X W tg iter it) (hg : PG X tg (gOf X.K tt)) (hb : QSs X W body tb)
    (hs : ∀ x, foldedSetIterable iter X.env x = pure x := by intro _; rfl) : QS X W (.For tg iter body [] pos) (forS it tt tb) :=
  ps_imp (ps_for hp hc hi hg hb hs) fun De σ H ⟨μ, ρ, s, he, hs, h⟩ => ⟨μ, ρ, s, he, hs, runs_stm he h fun J0 s1 μ1 H1 J e1 x1 hs1 r1 h1 => by
    refine ⟨fun i m σ H => m = J0.items.length - i ∧ ∃ μ' ρ' s', Ex μ1 H1 μ' H ∧ REn (wd X) μ' H ρ' σ ∧ Rs (wd X) μ' H s' ∧ runsS (wd X) W μ' H De (forL J0.keep tt tb (J0.items.drop i) ρ' s'),
      ⟨_, rfl, μ1, ρ, s1, Ex.refl _ _, he.mono x1, hs1, h1⟩, ?_⟩
    rintro i m σ2 H2 ⟨rfl, μ2, ρ2, s2, x2, he2, hs2, h2⟩
    by_cases hlt : i < J0.items.length
    · have ed : J0.items[i]? = some J0.items[i] := List.getElem?_eq_getElem hlt
      rw [drop_cons ed] at h2
      simp only [forL] at h2
      split at h2
      · rename_i hk
        obtain ⟨go, yl⟩ := (r1 μ2 H2 s2 x2 hs2 hk i).1 _ ed
        refine .inr ⟨go, fun σ' H' => ∃ μ' ρ' s', Ex μ1 H1 μ' H' ∧ REn (wd X) μ' H' ρ' σ' ∧ Rs (wd X) μ' H' s' ∧ runsS (wd X) W μ' H' De (forL J0.keep tt tb (J0.items.drop (i + 1)) ρ' s'), fun σ' H' n => ⟨_, by omega, rfl, n⟩, fun x H3 y => ?_⟩
        obtain ⟨x3, hs3, r3⟩ := yl x H3 y
        split at h2
        · exact h2.elim
        · rename_i ρ3 q
          obtain ⟨vs, k1, k2⟩ := asg_sound r3 q
          refine k1 σ2 _ ⟨μ2, ρ3, s2, k2 σ2 (he2.mono x3), hs3, ?_⟩
          have h3 := runsS_mono x3 h2
          cases qb : tb ρ3 s2 <;> rw [qb] at h3
          · exact fun μ' H' σ' x4 y4 z4 => ⟨μ', _, _, (x2.trans x3).trans x4, z4, y4, runsS_mono x4 h3⟩
          · exact h3
          · exact h3
          · exact fun μ' H' σ' x4 y4 z4 => ⟨μ', _, _, (x2.trans x3).trans x4, z4, y4, runsS_mono x4 h3⟩
          · exact h3
          · exact h3
      · exact h2.elim
    · rw [List.drop_eq_nil_of_le (by omega)] at h2
      simp only [forL] at h2
      split at h2
      · rename_i hk
        exact .inl ⟨(r1 μ2 H2 s2 x2 hs2 hk i).2 (by omega), h2 μ2 H2 σ2 (Ex.refl _ _) hs2 he2⟩
      · exact h2.elim⟩
theorem qs_while {c : Expr} {body : List Stmt} {tb : C} (hp : PassesOwn (model X.prog X.w) X.A X.env X.xe) (hc : PT X c (liftT (wd X) W t)) (hb : QSs X W body tb) : QS X W (.While c body [] pos) (whileS t tb) :=
  ps_imp (ps_while hp hc hb) fun De σ H ⟨μ, ρ, s, he, hs, h⟩ => by
    refine ⟨fun m σ H => ∃ μ' ρ' s', REn (wd X) μ' H ρ' σ ∧ Rs (wd X) μ' H s' ∧ runsS (wd X) W μ' H De (whileL t tb m ρ' s'), ⟨gas, μ, ρ, s, he, hs, h⟩, ?_⟩
    rintro m σ2 H2 ⟨μ2, ρ2, s2, he2, hs2, h2⟩
    cases m with
    | zero => exact h2.elim
    | succ m =>
      refine ⟨μ2, ρ2, s2, he2, hs2, runs_stm (Rel1 := RB) he2 h2 fun k s3 μ3 H3 b e3 x3 hs3 r3 h3 => ?_⟩
      have r3 : k = b := r3
      subst r3
      cases k with
      | false => exact h3 μ3 H3 σ2 (Ex.refl _ _) hs3 (he2.mono x3)
      | true =>
        refine ⟨fun σ' H' => ∃ μ' ρ' s', REn (wd X) μ' H' ρ' σ' ∧ Rs (wd X) μ' H' s' ∧ runsS (wd X) W μ' H' De (whileL t tb m ρ' s'), fun σ' H' n => ⟨m, Nat.lt_succ_self _, n⟩, μ3, ρ2, s3, he2.mono x3, hs3, ?_⟩
        have h4 : runsS (wd X) W μ3 H3 De (match tb ρ2 s3 with | .nx ρ2 s2 => whileL t tb m ρ2 s2 | .ct ρ2 s2 => whileL t tb m ρ2 s2 | .bk ρ2 s2 => .nx ρ2 s2 | r => r) := h3
        cases qb : tb ρ2 s3 <;> rw [qb] at h4
        · exact fun μ' H' σ' x4 y4 z4 => ⟨μ', _, _, z4, y4, runsS_mono x4 h4⟩
        · exact h4
        · exact h4
        · exact fun μ' H' σ' x4 y4 z4 => ⟨μ', _, _, z4, y4, runsS_mono x4 h4⟩
        · exact h4
        · exact h4
/-! ### list comprehensions -/
def Tg.within : Tg → List Nat → Bool
  | .nm i, vs => vs.contains i
  | .tp is, vs => is.all vs.contains
theorem wipe_set {σ : L2.St} {vs : List Nat} {i : Nat} {x : Option V} (h : i ∈ vs) : wipe (σ.set i x) vs = wipe σ vs := by
  apply List.ext_getElem?
  intro j
  have key : ∀ {us : List Nat} {τ : L2.St}, (wipe τ us)[j]? = if j ∈ us then (if j < τ.length then some none else none) else τ[j]? := by
    intro us τ
    induction us with
    | nil => simp [wipe]
    | cons v us ih =>
      unfold wipe
      rw [List.getElem?_set, ih]
      by_cases hv : v = j
      · subst hv
        simp [wipe_length]
      · have hv' : ¬ j = v := fun z => hv z.symm
        simp [hv, hv']
  rw [key, key]
  by_cases hj : j ∈ vs
  · simp [hj]
  · simp only [hj, if_false]
    have : i ≠ j := fun z => hj (z ▸ h)
    rw [List.getElem?_set_ne this]
theorem wipe_all {vs : List Nat} : ∀ {is : List Nat} {ys : List V} {σ : L2.St}, (∀ i ∈ is, i ∈ vs) → wipe (setAllV is ys σ) vs = wipe σ vs
  | [], _, _, _ => by unfold setAllV; rfl
  | i :: is, [], _, _ => by unfold setAllV; rfl
  | i :: is, y :: ys, σ, h => by
    unfold setAllV
    rw [wipe_all fun j hj => h j (List.mem_cons_of_mem _ hj), wipe_set (h i (List.mem_cons_self ..))]
theorem wipe_sl {t : Tg} {vs : List Nat} (h : t.within vs = true) (v : V) (ys : List V) (σ : L2.St) : wipe (slV t v ys σ) vs = wipe σ vs := by
  cases t with
  | nm i => exact wipe_set (by simpa [Tg.within] using h)
  | tp is => exact wipe_all (by simpa [Tg.within] using h)
theorem wipe_wipe (σ : L2.St) (vs : List Nat) : wipe (wipe σ vs) vs = wipe σ vs := by
  have key : ∀ (us : List Nat) (τ : L2.St) (ws : List Nat), (∀ u ∈ us, u ∈ ws) → wipe (wipe τ us) ws = wipe τ ws := by
    intro us
    induction us with
    | nil => intro τ ws _; rfl
    | cons u us ih =>
      intro τ ws h
      show wipe ((wipe τ us).set u none) ws = _
      rw [wipe_set (h u (List.mem_cons_self ..)), ih τ ws fun v hv => h v (List.mem_cons_of_mem _ hv)]
  exact key vs σ vs fun _ h => h
theorem wipe_ren {g : Wd} {μ : List Addr} {H : Hp} {ρ : En} {σ : L2.St} (h : REn g μ H ρ σ) : ∀ vs, REn g μ H (wipeD ρ vs) (wipe σ vs)
  | [] => h
  | v :: vs => (wipe_ren h vs).setN
theorem noerr_runs {g : Wd} {W W' : WX} {σ σ' : L2.St} {μ : List Addr} {H : Hp} {α β γ δ : Type} {Rel1 : List Addr → Hp → α → β → Prop} {Rel2 : List Addr → Hp → γ → δ → Prop} {Q1 : β → Hp → Prop} {Q2 : δ → Hp → Prop} {r : R α} {f : α → S → R γ}
    (h : runs g W σ μ H Rel2 Q2 (r.noerr.bind f)) (k : ∀ a s μ' H' b, Ex μ H μ' H' → Rs g μ' H' s → Rel1 μ' H' a b → runs g W σ μ' H' Rel2 Q2 (f a s) → Q1 b H') : runs g W' σ' μ H Rel1 Q1 r := by
  cases r with
  | ok a s => exact fun μ' H' b x y z => k a s μ' H' b x y z (runs_mono x h)
  | err c fs s => exact h.elim
  | bad => exact h
theorem lc_sound {g : Wd} {own : List (Str × Nat)} {it : Is} {tt : Tg} {tc : T} {me : E} {σ : L2.St} {H : Hp} {Q : VK} (hv : tt.within (own.map (·.2)) = true) (h : liftE g W (lcE it (own.map (·.2)) tt tc me) σ H Q) :
    tLc (liftI g W it) (gOf g.K tt) (liftT g (fun _ _ _ _ => False) tc) (liftE g (fun _ _ _ _ => False) me) (own.map (·.2)) σ H Q := by
  obtain ⟨μ, ρ, s, he, hs, h⟩ := h
  exact ⟨μ, ρ, s, he, hs, runs_bind h fun J0 s1 μ1 H1 J e1 x1 hs1 r1 h1 => by
    intro A hA
    have hs0 := hs1.laid (o := .lst []) hA (ho := .lst []) ⟨[], upd_same, by simp only [RVs]⟩
    have x0 : Ex μ1 H1 (μ1 ++ [A]) (upd H1 A (.lst [])) := ex_new hA [A]
    have ea : (μ1 ++ [A])[s1.length]? = some A := by rw [← hs1.len, List.getElem?_append_right (Nat.le_refl _)]; simp
    refine ⟨fun i m H => m = J0.items.length - i ∧ ∃ μ' s', Ex (μ1 ++ [A]) (upd H1 A (.lst [])) μ' H ∧ Rs g μ' H s' ∧ runs g W σ μ' H (RV g) Q (lcL J0.keep tt tc me s1.length (wipeD ρ (own.map (·.2))) (J0.items.drop i) s'),
      ⟨_, rfl, μ1 ++ [A], _, Ex.refl _ _, hs0, runs_mono x0 h1⟩, ?_⟩
    rintro i m H2 ⟨rfl, μ2, s2, x2, hs2, h2⟩
    by_cases hlt : i < J0.items.length
    · have ed : J0.items[i]? = some J0.items[i] := List.getElem?_eq_getElem hlt
      rw [drop_cons ed] at h2
      simp only [lcL] at h2
      split at h2
      · rename_i hk
        obtain ⟨go, yl⟩ := (r1 μ2 H2 s2 (x0.trans x2) hs2 hk i).1 _ ed
        refine .inr ⟨go, fun H' => ∃ μ' s', Ex (μ1 ++ [A]) (upd H1 A (.lst [])) μ' H' ∧ Rs g μ' H' s' ∧ runs g W σ μ' H' (RV g) Q (lcL J0.keep tt tc me s1.length (wipeD ρ (own.map (·.2))) (J0.items.drop (i + 1)) s'), fun H' n => ⟨_, by omega, rfl, n⟩, fun x H3 y => ?_⟩
        obtain ⟨x3, hs3, r3⟩ := yl x H3 y
        split at h2
        · exact h2.elim
        · rename_i ρ3 q
          obtain ⟨vs, k1, k2⟩ := asg_sound r3 q
          have hren := wipe_ren (he.mono ((x1.trans x0).trans (x2.trans x3))) (own.map (·.2))
          refine k1 (wipe σ (own.map (·.2))) _ ?_
          refine ⟨by rw [wipe_sl hv, wipe_wipe], μ2, ρ3, s2, k2 _ hren, hs3, noerr_runs (Rel1 := RB) (runs_mono x3 h2) fun k s4 μ4 H4 b x4 hs4 r4 h4 => ?_⟩
          have r4 : k = b := r4
          subst r4
          cases k with
          | false => exact ⟨μ4, s4, (x2.trans x3).trans x4, hs4, h4⟩
          | true =>
            refine ⟨μ4, ρ3, s4, (k2 _ hren).mono x4, hs4, noerr_runs (Rel1 := RV g) h4 fun d s5 μ5 H5 z x5 hs5 r5 h5 => ?_⟩
            split at h5
            · rename_i acc eacc
              split at h5
              · rename_i hz
                have ea5 : μ5[s1.length]? = some A := x5.get (x4.get (x3.get (x2.get ea)))
                obtain ⟨ys, hp, rr⟩ := hs5.at_ _ _ _ eacc ea5
                have xp : Ex μ5 H5 μ5 (upd H5 A (.lst (ys ++ [z]))) := ex_put hp (fun _ w => nomatch w) (fun _ _ w => nomatch w)
                exact ⟨ys, hp, by rw [← rr.length]; exact of_decide_eq_true hz, μ5, _, ((x2.trans x3).trans (x4.trans x5)).trans xp,
                  hs5.put (o := .lst (acc ++ [d])) ea5 hp (fun _ w => nomatch w) (fun _ _ w => nomatch w) ⟨_, upd_same, (rr.mono xp).append (.one (r5.mono xp))⟩, runs_mono xp h5⟩
              · exact h5.elim
            · exact h5.elim
      · exact h2.elim
    · rw [List.drop_eq_nil_of_le (by omega)] at h2
      simp only [lcL] at h2
      split at h2
      · rename_i hk
        refine .inl ⟨(r1 μ2 H2 s2 (x0.trans x2) hs2 hk i).2 (by omega), runs_pure h2 hs2 (by simp only [RV]; exact ⟨A, x2.get ea, rfl⟩)⟩
      · exact h2.elim⟩
theorem q_lc {elt tg iter : Expr} {ifs : List Expr} {scope : Scope} {own : List (Str × Nat)} {it : Is} {tt : Tg} {tc : T} {me : E} (hc : X.calm = true) (hN : X.N.Nodup) (hi : QI X W tg iter it) (ok : BlkOk X.N X.env.scope scope own) (hv : tt.within (own.map (·.2)) = true)
    (hg : ∀ (s : Shared) (H : Hp) (C : Addr) (cl : List (Str × Addr)) (fp : List Addr), PG (X.blk s H scope (compEnvC scope cl C X.env) fp) tg (gOf X.K tt))
    (ht : ∀ (s : Shared) (H : Hp) (C : Addr) (cl : List (Str × Addr)) (fp : List Addr), PTs (X.blk s H scope (compEnvC scope cl C X.env) fp) ifs (liftT (wd X) (fun _ _ _ _ => False) tc))
    (he : ∀ (s : Shared) (H : Hp) (C : Addr) (cl : List (Str × Addr)) (fp : List Addr), PE (X.blk s H scope (compEnvC scope cl C X.env) fp) elt (liftE (wd X) (fun _ _ _ _ => False) me)) (hs : ∀ x, foldedSetIterable iter X.env x = pure x := by intro _; rfl) :
    PE X (.ListComp elt [⟨tg, iter, ifs, 0⟩] scope pos) (liftE (wd X) W (lcE it (own.map (·.2)) tt tc me)) :=
  pe_imp (pe_lc hc hN hi ok hg ht he hs) fun σ H Q h => lc_sound hv h
theorem qs_setLc {i : Nat} {y : Str} {py : Pos} {elt tg iter : Expr} {ifs : List Expr} {scope : Scope} {own : List (Str × Nat)} {it : Is} {tt : Tg} {tc : T} {me : E} {lpos : Pos} (hc : X.calm = true) (hN : X.N.Nodup) (hi : QI X W tg iter it) (ok : BlkOk X.N X.env.scope scope own) (hv : tt.within (own.map (·.2)) = true)
    (hg : ∀ (s : Shared) (H : Hp) (C : Addr) (cl : List (Str × Addr)) (fp : List Addr), PG (X.blk s H scope (compEnvC scope cl C X.env) fp) tg (gOf X.K tt))
    (ht : ∀ (s : Shared) (H : Hp) (C : Addr) (cl : List (Str × Addr)) (fp : List Addr), PTs (X.blk s H scope (compEnvC scope cl C X.env) fp) ifs (liftT (wd X) (fun _ _ _ _ => False) tc))
    (he : ∀ (s : Shared) (H : Hp) (C : Addr) (cl : List (Str × Addr)) (fp : List Addr), PE (X.blk s H scope (compEnvC scope cl C X.env) fp) elt (liftE (wd X) (fun _ _ _ _ => False) me))
    (hy : X.N[i]? = some y := by rfl) (hyl : X.env.scope.names.lookup y = some .local := by rfl) (hsw : swapsWith (.ListComp elt [⟨tg, iter, ifs, 0⟩] scope lpos) (some (.Name y py)) pos.line X.env = pure true := by exact sw_true rfl rfl rfl (by decide +kernel)) (hs : ∀ x, foldedSetIterable iter X.env x = pure x := by intro _; rfl) :
    QS X W (.Assign [.Name y py] (.ListComp elt [⟨tg, iter, ifs, 0⟩] scope lpos) pos) (setS i (lcE it (own.map (·.2)) tt tc me)) :=
  ps_imp (ps_setLc hc hN hy hyl hsw hi ok hg ht he hs) fun De σ H ⟨μ, ρ, s, he, hs, h⟩ => lc_sound hv ⟨μ, ρ, s, he, hs, runs_stm (Rel1 := RV (wd X)) he h fun d s1 μ1 H1 x e1 x1 hs1 r1 h1 => h1 μ1 H1 _ (Ex.refl _ _) hs1 ((he.mono x1).set r1)⟩
theorem qts_nil : PTs X [] (liftT (wd X) W yesT) := ⟨fun pins s σ H Q I ⟨μ, ρ, st, he, hs, h⟩ => (pts_nil (X := X)).run pins s σ H Q I (runs_pure (show runs (wd X) W σ μ H RB Q (.ok true st) from h) hs rfl)⟩
theorem qts_one {c : Expr} (h : PT X c (liftT (wd X) W t)) : PTs X [c] (liftT (wd X) W t) := pts_one h
end
end Ev

namespace Ev
open PySem PySem.Spec PyProof.Rows L2
/-! ### items and slices -/
def ch (c : Nat) : Tx := ⟨#[c]⟩
def idxD (x y : D) (s : S) : R D := match y with
  | .int i => match x with
    | .str z => if szl z.length then (match atI z.cps.toList i with | some c => .ok (.str (ch c)) s | none => .bad) else .bad
    | x => match seqOf s x with
      | some xs => (match atI xs i with | some v => .ok v s | none => .bad)
      | none => .bad
  | _ => .bad
def optInt : Option D → Option (Option Int)
  | none => some none
  | some (.int i) => some (some i)
  | _ => none
def cutD (xs : List D) (lo hi : Option Int) : List D := (xs.drop (HT.sIx xs.length 0 lo)).take (HT.sIx xs.length xs.length hi - HT.sIx xs.length 0 lo)
def sliceD (x : D) (lo hi : Option Int) (s : S) : R D := match x with
  | .str z => if szl z.length then .ok (.str (cutS z lo hi)) s else .bad
  | .tup xs => .ok (.tup (cutD xs lo hi)) s
  | .ref a => match lstAt s a with | some xs => newL (cutD xs lo hi) s | none => .bad
  | .fl xs => newL (cutD xs lo hi) s
  | _ => .bad
abbrev Os := En → S → R (Option Int)
def noO : Os := fun _ s => .ok none s
def someO (a : E) : Os := fun ρ s => (a ρ s).bind fun d s => match d with | .int i => .ok (some i) s | _ => .bad
def sliceE (x : E) (lo hi : Os) : E := fun ρ s => (x ρ s).bind fun d s => (lo ρ s).bind fun l s => (hi ρ s).bind fun h s => sliceD d l h s
section
variable {X : Cx} {W : WX} {pos : Pos} {a b : Expr} {ma mb : E}
theorem atI_rvs {g : Wd} {μ : List Addr} {H : Hp} {xs : List D} {vs : List V} (r : RVs g μ H xs vs) {i : Int} {d : D} (h : atI xs i = some d) : ∃ v, atI vs i = some v ∧ RV g μ H d v := by
  unfold atI at h ⊢
  rw [← r.length]
  cases q : ixN xs.length i with
  | none => rw [q] at h; cases h
  | some j =>
    rw [q] at h
    exact r.get h
theorem qx_idx : IxR X (rL (wd X) idxD) := by
  intro value slice pins sh σ H x y v u Q I rx ry ⟨μ, s, d, e, hs, r1, r2, W, σ', h⟩ hsub
  have key : ∀ {xs : List D} {i : Int}, e = .int i → seqOf s d = some xs → runs (wd X) W σ' μ H (RV (wd X)) Q (match atI xs i with | some v => .ok v s | none => .bad) → rIx X.K x y H Q := by
    intro xs i ei es hh
    subst ei
    simp only [RV] at r2; subst r2
    obtain ⟨p, ys, rfl, q, rr⟩ := seqOf_sound hs r1 es
    split at hh
    · rename_i d' hd
      obtain ⟨w, e1, e2⟩ := atI_rvs rr hd
      rcases q with q | q
      · exact .inr (.inl ⟨p, ys, _, w, rfl, rfl, q, e1, runs_pure hh hs e2⟩)
      · exact .inl ⟨p, ys, _, w, rfl, rfl, q, e1, runs_pure hh hs e2⟩
    · exact hh.elim
  refine ix_seq value slice pins sh σ H x y v u Q I rx ry ?_ hsub
  cases e <;> try exact h.elim
  rename_i i
  cases d with
  | str z =>
    simp only [RV] at r1 r2; subst r1; subst r2
    simp only [idxD] at h
    split at h
    · rename_i hz
      split at h
      · rename_i c hc
        exact .inr (.inr ⟨z, i, c, rfl, rfl, of_decide_eq_true hz, hc, runs_pure h hs (by simp only [RV, ch])⟩)
      · exact h.elim
    · exact h.elim
  | tup xs => exact key (xs := xs) rfl rfl h
  | ref a =>
    simp only [idxD] at h
    split at h
    · rename_i xs es
      exact key rfl es h
    · exact h.elim
  | _ => simp only [idxD, seqOf] at h <;> exact h.elim
theorem q_idx (ha : PE X a (liftE (wd X) W ma)) (hb : PE X b (liftE (wd X) W mb)) (hs : PlainIx b := by exact fun _ _ => rfl) : PE X (.Subscript a b pos) (liftE (wd X) W (binE idxD ma mb)) :=
  pe_imp (pe_ix qx_idx ha hb hs) fun _ _ _ => bin_sound
theorem cut_rvs {g : Wd} {μ : List Addr} {H : Hp} {xs : List D} {vs : List V} (r : RVs g μ H xs vs) (lo hi : Option Int) : RVs g μ H (cutD xs lo hi) (cutV vs lo hi) := by
  unfold cutD cutV
  rw [r.length]
  exact (r.drop _).take _
def rS (g : Wd) (o : D → Option Int → Option Int → S → R D) : V → Option Int → Option Int → Hp → VK → Prop := fun x lo hi H Q => ∃ μ s d, Rs g μ H s ∧ RV g μ H d x ∧ ∃ W σ, runs g W σ μ H (RV g) Q (o d lo hi s)
theorem cutD_all {xs : List D} {lo hi : Option Int} (h : HT.sIx xs.length 0 lo = 0 ∧ HT.sIx xs.length xs.length hi = xs.length) : cutD xs lo hi = xs := by
  unfold cutD
  rw [h.1, h.2, List.drop_zero, Nat.sub_zero, List.take_length]
theorem qs_slice : SlR X (rS (wd X) sliceD) := by
  intro pins sh σ H x v vl vu lo hi sl Q I rx hsl pl pu ⟨μ, s, d, hs, r1, W, σ', h⟩
  refine (SlR.or (SlR.or sl_str sl_tupA) sl_list) pins sh σ H x v vl vu lo hi sl Q I rx hsl pl pu ?_
  cases d with
  | str z =>
    simp only [RV] at r1; subst r1
    simp only [sliceD] at h
    split at h
    · rename_i hz
      exact .inl (.inl ⟨z, rfl, of_decide_eq_true hz, runs_pure h hs (by simp only [RV])⟩)
    · exact h.elim
  | tup xs =>
    simp only [RV] at r1
    obtain ⟨p, ys, rfl, q, rr⟩ := id r1
    refine .inl (.inr ⟨p, ys, rfl, q, fun hw => ?_, fun _ => runs_tup hs (cut_rvs rr lo hi) h⟩)
    rw [← rr.length] at hw
    have h' : runs (wd X) W σ' μ H (RV (wd X)) Q (.ok (.tup (cutD xs lo hi)) s) := h
    rw [cutD_all hw] at h'
    exact runs_pure h' hs (by simp only [RV]; exact r1)
  | ref a =>
    simp only [RV] at r1
    obtain ⟨p, ep, rfl⟩ := r1
    simp only [sliceD] at h
    split at h
    · rename_i xs es
      obtain ⟨ys, q, rr⟩ := lstAt_sound hs ep es
      exact .inr ⟨p, ys, rfl, q, runs_lst hs (cut_rvs rr lo hi) h⟩
    · exact h.elim
  | fl xs =>
    simp only [RV] at r1
    obtain ⟨p, ys, rfl, q, rr⟩ := r1
    exact .inr ⟨p, ys, rfl, q.sq, runs_lst hs (cut_rvs rr lo hi) h⟩
  | _ => exact h.elim
def liftO (g : Wd) (W : WX) (m : Os) : L2.St → Hp → (Option Int → Hp → Prop) → Prop := fun σ H Q => ∃ μ ρ s, REn g μ H ρ σ ∧ Rs g μ H s ∧ runs g W σ μ H (fun _ _ a b => a = b) Q (m ρ s)
theorem qo_none : PO X none (liftO (wd X) W noO) := ⟨fun pins s σ H Q I ⟨μ, ρ, st, he, hs, h⟩ => po_none.run pins s σ H Q I (runs_pure (show runs (wd X) W σ μ H (fun _ _ a b => a = b) Q (.ok none st) from h) hs rfl)⟩
theorem qo_some (ha : PE X a (liftE (wd X) W ma)) : PO X (some a) (liftO (wd X) W (someO ma)) := ⟨fun pins s σ H Q I ⟨μ, ρ, st, he, hs, h⟩ => (po_some ha).run pins s σ H Q I ⟨μ, ρ, st, he, hs, runs_bind (Rel1 := RV (wd X)) h fun d s1 μ1 H1 x e1 x1 hs1 r1 h1 => by
  cases d <;> try exact h1.elim
  simp only [RV] at r1
  exact ⟨_, r1, runs_pure h1 hs1 rfl⟩⟩⟩
theorem q_slice {lo hi : Option Expr} {p2 : Pos} {ml mh : Os} (ha : PE X a (liftE (wd X) W ma)) (hl : PO X lo (liftO (wd X) W ml)) (hh : PO X hi (liftO (wd X) W mh)) : PE X (.Subscript a (.Slice lo hi none p2) pos) (liftE (wd X) W (sliceE ma ml mh)) :=
  pe_imp (pe_slice qs_slice ha hl hh) fun σ H Q ⟨μ, ρ, s, he, hs, h⟩ => ⟨μ, ρ, s, he, hs, runs_bind (Rel1 := RV (wd X)) h fun d s1 μ1 H1 x e1 x1 hs1 r1 h1 =>
    ⟨μ1, ρ, s1, he.mono x1, hs1, runs_bind (Rel1 := fun _ _ a b => a = b) h1 fun l s2 μ2 H2 l' e2 x2 hs2 r2 h2 => by
      subst r2
      exact ⟨μ2, ρ, s2, (he.mono x1).mono x2, hs2, runs_bind (Rel1 := fun _ _ a b => a = b) h2 fun u s3 μ3 H3 u' e3 x3 hs3 r3 h3 => by
        subst r3
        exact ⟨μ3, s3, d, hs3, (r1.mono x2).mono x3, W, σ, h3⟩⟩⟩⟩

/-! ### calls of built-in things -/
def rC (g : Wd) (f : Fn) : List V → Hp → VK → Prop := fun xs H Q => ∃ μ s ds, Rs g μ H s ∧ RVs g μ H ds xs ∧ ∃ W σ, runs g W σ μ H (RV g) Q (f ds s)
theorem call_sound {g : Wd} {f : Fn} {ms : As} {σ : L2.St} {H : Hp} {Q : VK} (h : liftE g W (callE f ms) σ H Q) : tCB (rC g f) (liftA g W ms) σ H Q := by
  obtain ⟨μ, ρ, s, he, hs, h⟩ := h
  exact ⟨μ, ρ, s, he, hs, runs_bind (Rel1 := RVs g) h fun d s1 μ1 H1 x e1 x1 hs1 r1 h1 => ⟨μ1, s1, d, hs1, r1, W, σ, h1⟩⟩
theorem q_callB {x : Str} {p : Pos} {e : Expr} {es : List Expr} {id : String} {f : Fn} {ms : As} (hc : CallR X (.builtin id) (rC (wd X) f)) (hm : X.mg x = none) (hv : bootBuiltins x = some (.builtin id)) (ha : PA X (e :: es) (liftA (wd X) W ms)) (hg : Gl X x := by rfl)
    (hn : x ≠ "__name__" := by decide) (hdb : (x == ("__debug__" : Str)) = false := by decide) (he : starEach (e :: es) X.env = (false, eval e X.env) :: starEach es X.env := by rfl) (hpl : (backTo pos (starEach es X.env)).any (·.1) = false := by rfl) :
    PE X (.Call (.Name x p) (e :: es) [] pos) (liftE (wd X) W (callE f ms)) := pe_imp (pe_callB hc hg hm hv ha hn hdb he hpl) fun _ _ _ => call_sound
theorem q_callT {x : Str} {p : Pos} {e : Expr} {es : List Expr} {id : String} {f : Fn} {ms : As} (hc : CallR X (.type id) (rC (wd X) f)) (hm : X.mg x = none) (hv : bootBuiltins x = some (.type id)) (ha : PA X (e :: es) (liftA (wd X) W ms)) (hg : Gl X x := by rfl)
    (hn : x ≠ "__name__" := by decide) (hdb : (x == ("__debug__" : Str)) = false := by decide) (he : starEach (e :: es) X.env = (false, eval e X.env) :: starEach es X.env := by rfl) (hpl : (backTo pos (starEach es X.env)).any (·.1) = false := by rfl) :
    PE X (.Call (.Name x p) (e :: es) [] pos) (liftE (wd X) W (callE f ms)) := pe_imp (pe_callTy hc hg hm hv ha hn hdb he hpl) fun _ _ _ => call_sound
def lenF : Fn := fun ds s => match ds with
  | [.str z] => if szl z.length then .ok (.int z.length) s else .bad
  | [d] => match seqOf s d with
    | some xs => .ok (.int xs.length) s
    | none => match d with
      | .ref a => (match s[a]? with | some (.dct kvs) => .ok (.int kvs.length) s | _ => .bad)
      | _ => .bad
  | _ => .bad
theorem RVs.inv1 {g : Wd} {μ : List Addr} {H : Hp} {d : D} {xs : List V} (h : RVs g μ H [d] xs) : ∃ x, xs = [x] ∧ RV g μ H d x := by
  simp only [RVs] at h
  obtain ⟨y, r, rfl, a, rfl⟩ := h
  exact ⟨y, rfl, a⟩
theorem RVs.inv2 {g : Wd} {μ : List Addr} {H : Hp} {d e : D} {xs : List V} (h : RVs g μ H [d, e] xs) : ∃ x y, xs = [x, y] ∧ RV g μ H d x ∧ RV g μ H e y := by
  simp only [RVs] at h
  obtain ⟨y, r, rfl, a, z, r', rfl, b, rfl⟩ := h
  exact ⟨y, z, rfl, a, b⟩
theorem RKV.length {g : Wd} {μ : List Addr} {H : Hp} : ∀ {ds : List (Key × D)} {vs : List (Key × V)}, RKV g μ H ds vs → ds.length = vs.length
  | [], _, h => by simp only [RKV] at h; subst h; rfl
  | (k, d) :: ds, vs, ⟨y, r, e, a, b⟩ => by subst e; simp [RKV.length b]
theorem qc_len : CallR X (.builtin "len") (rC (wd X) lenF) := by
  intro pins sh σ H xs us Q I rv ⟨μ, s, ds, hs, r, W, σ', h⟩
  match ds, r, h with
  | [], _, h => exact h.elim
  | _ :: _ :: _, _, h => exact absurd h (by simp only [lenF]; exact id)
  | [d], r, h =>
    obtain ⟨x, rfl, r1⟩ := r.inv1
    cases d with
    | str z =>
      simp only [RV] at r1; subst r1
      simp only [lenF] at h
      split at h
      · rename_i hz
        exact call_len pins sh σ H _ us Q I rv ⟨_, _, rfl, ⟨of_decide_eq_true hz, rfl⟩, runs_pure h hs (by simp only [RV])⟩
      · exact h.elim
    | tup zs =>
      obtain ⟨p, ys, rfl, q, rr⟩ := seqOf_sound (xs := zs) hs r1 rfl
      have h' : runs (wd X) W σ' μ H (RV (wd X)) Q (.ok (.int zs.length) s) := h
      rw [rr.length] at h'
      exact call_len pins sh σ H _ us Q I rv ⟨_, _, rfl, q.elim (fun q => .inr ⟨ys, q, rfl⟩) (fun q => .inl ⟨ys, q, rfl⟩), runs_pure h' hs (by simp only [RV])⟩
    | ref a =>
      simp only [lenF] at h
      split at h
      · rename_i zs es
        obtain ⟨p, ys, rfl, q, rr⟩ := seqOf_sound hs r1 es
        rw [rr.length] at h
        exact call_len pins sh σ H _ us Q I rv ⟨_, _, rfl, q.elim (fun q => .inr ⟨ys, q, rfl⟩) (fun q => .inl ⟨ys, q, rfl⟩), runs_pure h hs (by simp only [RV])⟩
      · simp only [RV] at r1
        obtain ⟨p, ep, rfl⟩ := r1
        split at h
        · rename_i kvs ek
          obtain ⟨ys, hp, rr⟩ := hs.at_ _ _ _ ek ep
          rw [rr.length] at h
          exact call_lenD pins sh σ H _ us Q I rv ⟨p, ys, rfl, hp, runs_pure h hs (by simp only [RV])⟩
        · exact h.elim
    | _ => simp only [lenF, seqOf] at h <;> exact h.elim
def absF : Fn := fun ds s => match ds with | [.int i] => .ok (.int (if i < 0 then -i else i)) s | _ => .bad
theorem qc_abs : CallR X (.builtin "abs") (rC (wd X) absF) := by
  intro pins sh σ H xs us Q I rv ⟨μ, s, ds, hs, r, W, σ', h⟩
  unfold absF at h
  split at h
  · obtain ⟨x, rfl, r1⟩ := r.inv1
    simp only [RV] at r1; subst r1
    exact call_abs pins sh σ H _ us Q I rv ⟨_, rfl, runs_pure h hs (by simp only [RV])⟩
  · exact h.elim
def intF : Fn := fun ds s => match ds with | [.int i] => .ok (.int i) s | [.bl k] => .ok (.int (if k then 1 else 0)) s | _ => .bad
theorem qc_int : CallR X (.type "int") (rC (wd X) intF) := by
  intro pins sh σ H xs us Q I rv ⟨μ, s, ds, hs, r, W, σ', h⟩
  unfold intF at h
  split at h
  · obtain ⟨x, rfl, r1⟩ := r.inv1
    simp only [RV] at r1; subst r1
    exact call_int1 pins sh σ H _ us Q I rv (.inl ⟨_, rfl, runs_pure h hs (by simp only [RV])⟩)
  · obtain ⟨x, rfl, r1⟩ := r.inv1
    simp only [RV] at r1; subst r1
    exact call_int1 pins sh σ H _ us Q I rv (.inr ⟨_, rfl, runs_pure h hs (by simp only [RV])⟩)
  · exact h.elim
def maxF : Fn := fun ds s => match ds with | [.int i, .int j] => .ok (.int (if j > i then j else i)) s | _ => .bad
theorem qc_max (hc : X.calm = true) : CallR X (.builtin "max") (rC (wd X) maxF) := by
  intro pins sh σ H xs us Q I rv ⟨μ, s, ds, hs, r, W, σ', h⟩
  unfold maxF at h
  split at h
  · obtain ⟨x, y, rfl, r1, r2⟩ := r.inv2
    simp only [RV] at r1 r2; subst r1; subst r2
    exact call_max2 hc pins sh σ H _ us Q I rv ⟨_, _, rfl, runs_pure h hs (by simp only [RV])⟩
  · exact h.elim
/-- bools of a list -/
def blsOf : List D → Option (List Bool)
  | [] => some []
  | .bl b :: r => (blsOf r).map (b :: ·)
  | _ => none
def allF : Fn := fun ds s => match ds with
  | [.ref a] => match (lstAt s a).bind blsOf with | some bs => .ok (.bl (bs.all id)) s | none => .bad
  | _ => .bad
theorem bls_rvs {g : Wd} {μ : List Addr} {H : Hp} : ∀ {xs : List D} {vs : List V} {bs : List Bool}, RVs g μ H xs vs → blsOf xs = some bs → vs = bs.map V.bl
  | [], _, _, r, e => by simp only [RVs] at r; subst r; simp only [blsOf, Option.some.injEq] at e; subst e; rfl
  | d :: ds, _, _, r, e => by
    simp only [RVs] at r
    obtain ⟨y, r', rfl, a, b⟩ := r
    cases d <;> simp only [blsOf, reduceCtorEq, Option.map_eq_some_iff] at e
    obtain ⟨bs, e1, rfl⟩ := e
    simp only [RV] at a; subst a
    rw [bls_rvs b e1]; rfl
theorem qc_all (hc : X.calm = true) : CallR X (.builtin "all") (rC (wd X) allF) := by
  intro pins sh σ H xs us Q I rv ⟨μ, s, ds, hs, r, W, σ', h⟩
  unfold allF at h
  split at h
  · obtain ⟨x, rfl, r1⟩ := r.inv1
    simp only [RV] at r1
    obtain ⟨p, ep, rfl⟩ := r1
    split at h
    · rename_i bs eb
      simp only [Option.bind_eq_some_iff] at eb
      obtain ⟨zs, e1, e2⟩ := eb
      obtain ⟨ys, q, rr⟩ := lstAt_sound hs ep e1
      have := bls_rvs rr e2
      subst this
      exact cr_all hc pins sh σ H _ us Q I rv ⟨p, bs, rfl, q, runs_pure h hs (by simp only [RV])⟩
    · exact h.elim
  · exact h.elim
/-- repr -/
def reprF : Fn := fun ds s => match ds with
  | [d] => match toP s d with
    | some p => if p.showable && !p.hasDict && szl p.shown.length && decide (p.depth ≤ 60) then .ok (.str p.shown) s else .bad
    | none => .bad
  | _ => .bad
mutual
theorem dp_noSys {K : PySem.W.Frag} {H : Hp} : ∀ {d : PyData} {x : V}, Dp K H x d → d.hasDict = false
  | .none, _, _ => by simp only [PyData.hasDict]
  | .bool _, _, _ => by simp only [PyData.hasDict]
  | .int _, _, _ => by simp only [PyData.hasDict]
  | .str _, _, _ => by simp only [PyData.hasDict]
  | .list ds, _, h => by
    cases h with
    | lst _ a => simpa only [PyData.hasDict] using dp_noSyss a
  | .tuple ds, _, h => by
    cases h with
    | tup _ a => simpa only [PyData.hasDict] using dp_noSyss a
  | .dict _, _, h => by cases h
theorem dp_noSyss {K : PySem.W.Frag} {H : Hp} : ∀ {ds : List PyData} {xs : List V}, DpAll K H xs ds → PyData.hasDictAll ds = false
  | [], _, _ => by simp only [PyData.hasDictAll]
  | d :: ds, _, h => by
    cases h with
    | cons a b => simp only [PyData.hasDictAll, dp_noSys a, dp_noSyss b, Bool.or_self]
end
theorem qc_repr (hg : X.A.guards = some []) (hu : X.A.units + 64 < cLine) : CallR X (.builtin "repr") (rC (wd X) reprF) := by
  intro pins sh σ H xs us Q I rv ⟨μ, s, ds, hs, r, W, σ', h⟩
  unfold reprF at h
  split at h
  · rename_i d
    obtain ⟨x, rfl, r1⟩ := r.inv1
    obtain ⟨u, rfl, ru⟩ := vals1 rv
    split at h
    · rename_i p ep
      split at h
      · rename_i hz
        simp only [Bool.and_eq_true, Bool.not_eq_true', decide_eq_true_eq] at hz
        obtain ⟨⟨⟨z1, z2⟩, z3⟩, z4⟩ := hz
        have z3 : p.shown.length ≤ sizeLine := of_decide_eq_true z3
        have q : Q (.str p.shown) H := runs_pure h hs (by simp only [RV])
        obtain ⟨as, rd⟩ := Dp.reads I p x u (toP_sound hs r1 ep) ru
        cases d with
        | non =>
          simp only [toP, toPw, Option.some.injEq] at ep; subst ep
          simp only [RV] at r1; subst r1; obtain rfl : u = Value.none := ru
          exact PySem.P.repr_of_none ⟨.str _, H, I.tok _, ⟨_, rfl⟩, q⟩
        | bl b =>
          simp only [toP, toPw, Option.some.injEq] at ep; subst ep
          simp only [RV] at r1; subst r1; obtain rfl : u = Value.bool b := ru
          exact PySem.P.repr_of_bool ⟨.str _, H, I.tok _, ⟨_, rfl⟩, q⟩
        | int i =>
          simp only [toP, toPw, Option.some.injEq] at ep; subst ep
          simp only [RV] at r1; subst r1; obtain ⟨t, rfl⟩ := ru
          exact PySem.P.repr_of_int (of_decide_eq_true (by simpa only [PyData.showable] using z1)) ⟨.str _, H, I.tok _, ⟨_, rfl⟩, q⟩
        | str z =>
          simp only [toP, toPw, Option.some.injEq] at ep; subst ep
          simp only [RV] at r1; subst r1; obtain ⟨t, rfl⟩ := ru
          exact PySem.P.repr_of_str ⟨.str _, H, I.tok _, ⟨_, rfl⟩, q⟩ z3
        | tup zs =>
          simp only [RV] at r1
          obtain ⟨a, ys, rfl, _, _⟩ := r1
          obtain rfl : u = Value.ref a := ru
          exact repr_of_reads' rd z1 (fun hd => absurd hd (by rw [z2]; exact Bool.false_ne_true)) hg (by omega) (fun _ _ e => e) (fun h' u tk hk => ⟨.str _, H, I.kept (t' := tk) hk, ⟨_, rfl⟩, q⟩) z3
        | ref zs =>
          simp only [RV] at r1
          obtain ⟨a, _, rfl⟩ := r1
          obtain rfl : u = Value.ref a := ru
          exact repr_of_reads' rd z1 (fun hd => absurd hd (by rw [z2]; exact Bool.false_ne_true)) hg (by omega) (fun _ _ e => e) (fun h' u tk hk => ⟨.str _, H, I.kept (t' := tk) hk, ⟨_, rfl⟩, q⟩) z3
        | _ => cases ep
      · exact h.elim
    · exact h.elim
  · exact h.elim
end
end Ev

namespace Ev
open PySem PySem.Spec PyProof.Rows L2
/-! ### defs -/
structure Rm (k : Nat) (A : Around) : Prop where
  r : Room k A
  g : A.guards = some []
theorem Rm.mono {j k : Nat} {A : Around} (r : Rm k A) (h : j ≤ k) : Rm j A := ⟨r.r.mono h, r.g⟩
theorem Rm.units {k : Nat} {A : Around} (r : Rm k A) : A.units + 64 < cLine := r.r.units
/-- the promise of a function of trees -/
def spF (g : Wd) (f : Fn) : Sp := fun vs H Q E => ∃ μ ds s, RVs g μ H ds vs ∧ Rs g μ H s ∧ runs g (fun c d _ H => E c d H) [] μ H (RV g) Q (f ds s)
/-- the def at fa keeps it -/
def FnG (P : Program) (w : World) (K : PySem.W.Frag) (mg : Str → Option Value) (base : Heap) (k : Nat) (fa : Addr) (sp : Sp) : Prop :=
  ∀ (A : Around) (outer : List PySem.Env) (s : Shared) (H : Hp) (us : List Value) (vs : List V) (Q : VK) (E : XK), Rm k A → Env0 P w K mg base A outer s H → Vals vs us → sp vs H Q E →
    codeAny (model P w) A (.call (.ref fa) ⟨us, []⟩) (CR (L2.CX P w) outer P w H s Q E) s
structure DefOk (P : Program) (w : World) (K : PySem.W.Frag) (mg : Str → Option Value) (base : Heap) (k : Nat) (x : Str) (f : Fn) : Prop where
  ex : ∃ fa, mg x = some (.ref fa) ∧ PySem.W.keepIn K (.ref fa) = true ∧ FnG P w K mg base k fa (spF ⟨K, mg⟩ f)
theorem DefOk.mono {P : Program} {w : World} {K : PySem.W.Frag} {mg : Str → Option Value} {base : Heap} {j k : Nat} {x : Str} {f : Fn} (d : DefOk P w K mg base j x f) (h : j ≤ k) : DefOk P w K mg base k x f := by
  obtain ⟨fa, a, b, c⟩ := d.ex
  exact ⟨fa, a, b, fun A outer s H us vs Q E r => c A outer s H us vs Q E (r.mono h)⟩
def fin (r : RS) : R D := match r with
  | .nx _ s => .ok .non s
  | .rt d s => .ok d s
  | .err c fs _ s => .err c fs s
  | _ => .bad
/-- a def by its body: n parameters, the defaults, N names -/
def mkFn (n N : Nat) (dfl : List D) (body : C) : Fn := fun ds s => if decide (ds.length ≤ n ∧ n ≤ ds.length + dfl.length) then
    let as := ds ++ dfl.drop (ds.length + dfl.length - n)
    fin (body (as.map some ++ List.replicate (N - n) none) s)
  else .bad
/-- with a last starred parameter -/
def mkFnS (n N : Nat) (body : C) : Fn := fun ds s => if decide (n ≤ ds.length) && szl (ds.length - n) then
    fin (body ((ds.take n ++ [D.tup (ds.drop n)]).map some ++ List.replicate (N - (n + 1)) none) s)
  else .bad
section
variable {P : Program} {w : World} {K : PySem.W.Frag} {mg : Str → Option Value} {base : Heap} {k : Nat}
theorem ren_start {g : Wd} {μ : List Addr} {H : Hp} {N : List Str} {ds : List D} {vs : List V} {n : Nat} (r : RVs g μ H ds vs) (hn : N.length = n) : REn g μ H (ds.map some ++ List.replicate (n - ds.length) none) (L2.start N vs) := by
  unfold L2.start
  refine ⟨by simp [r.length, hn], fun i d e => ?_⟩
  by_cases hi : i < ds.length
  · rw [List.getElem?_append_left (by simpa using hi), List.getElem?_map] at e
    rw [List.getElem?_append_left (by rw [List.length_map, ← r.length]; exact hi), List.getElem?_map]
    cases q : ds[i]? with
    | none => rw [q] at e; cases e
    | some d' =>
      rw [q] at e
      cases e
      obtain ⟨v, a, b⟩ := r.get q
      exact ⟨v, by rw [a]; rfl, b⟩
  · rw [List.getElem?_append_right (by simpa using Nat.le_of_not_lt hi), List.getElem?_replicate] at e
    split at e <;> cases e
theorem fin_sound {g : Wd} {W : WX} {μ : List Addr} {H : Hp} {Q : VK} {E : XK} {r : RS} (h : runs g (fun c d _ H => E c d H) [] μ H (RV g) Q (fin r)) : runsS g (fun c d _ H => E c d H) μ H { nx := fun _ H' => Q .non H', rt := Q } r := by
  cases r with
  | nx ρ s => exact fun μ' H' σ' x y z => h μ' H' .non x y (by simp only [RV])
  | rt d s => exact h
  | err c fs ρ s => exact fun μ' H' σ' C dx x y z => h μ' H' C dx x y
  | _ => exact (show False from h).elim
/-- THE RULE of a def -/
theorem def_g {x qual : Str} {st : Stmt} {fa : Addr} {fd : FuncData} {N ps : List Str} {n nN : Nat} {dfl : List D} {body : C} (F : Fun K x qual st fa fd) (S : FnScope N ps (defScope st)) (hnN : N.length = nN) (hn : ps.length = n)
    (hb : ∀ (s : Shared) (us : List Value), K.In s.heap → us.length = ps.length → BindsTo s fd ⟨us, []⟩ (ps.zip us)) (hd : dfl = [])
    (hbody : ∀ (cdv : Value) (A : Around) (outer : List PySem.Env) (s : Shared) (H : Hp) (E : XK), Rm k (A.deeper (envOfC qual (defScope st) s.heap.objs.size fa cdv)) →
      QSs (cxOf (L2.CX P w) P w K mg base N qual (defScope st) fa cdv A outer s H E) (fun c d _ H => E c d H) (defBody st) body) : FnG P w K mg base (k + 1) fa (spF ⟨K, mg⟩ (mkFn n nN dfl body)) := by
  intro A outer s H us vs Q E hr e0 r hsp
  obtain ⟨oc, od, kV, doc, pm, an, cdv, ct, osl, rfl, lk, hcd⟩ := F.ex
  obtain ⟨μ, ds, st', rr, hs, h⟩ := hsp
  subst hd
  unfold mkFn at h
  split at h
  · rename_i hl
    simp only [decide_eq_true_eq, List.length_nil, Nat.add_zero] at hl
    have hln : ds.length = n := by omega
    simp only [List.drop_nil, List.append_nil] at h
    have hus : us.length = ps.length := by rw [← r.length, ← rr.length, hln, hn]
    have KX : K.In s.heap := e0.mod.kin.keeps fun b o e => (e0.bs b o e).1
    refine StX.run_bnd (E := E) lk hcd S hr.r e0 (G := fun xs H2 => xs = vs ∧ H2 = H) (fun A' Ex Q' hq => ?_) fun s2 H2 xs ⟨ex, eH⟩ hr' => ?_
    · exact hb s us KX hus _ A' _ _ (hq s H vs us e0 Un.refl rfl (fun _ _ z => z) r (by rw [← rr.length, hln, hn]) ⟨rfl, rfl⟩)
    · subst ex; subst eH
      refine ⟨_, hbody cdv A outer s2 _ E ⟨hr', hr.g⟩, μ, _, st', ren_start rr hnN, hs, ?_⟩
      rw [hln]
      exact fin_sound (W := fun _ _ _ _ => True) h
  · exact h.elim
theorem def_ok {x qual : Str} {st : Stmt} {fa : Addr} {fd : FuncData} {N ps : List Str} {n nN : Nat} {dfl : List D} {dvals : List V} {body : C} (F : Fun K x qual st fa fd) (S : FnScope N ps (defScope st)) (hmg : mg x = some (.ref fa)) (hnN : N.length = nN) (hn : ps.length = n)
    (hb : ∀ (s : Shared) (us : List Value), K.In s.heap → us.length = ps.length → BindsTo s fd ⟨us, []⟩ (ps.zip us)) (hd : dfl = [])
    (hbody : ∀ (cdv : Value) (A : Around) (outer : List PySem.Env) (s : Shared) (H : Hp) (E : XK), Rm k (A.deeper (envOfC qual (defScope st) s.heap.objs.size fa cdv)) →
      QSs (cxOf (L2.CX P w) P w K mg base N qual (defScope st) fa cdv A outer s H E) (fun c d _ H => E c d H) (defBody st) body) : DefOk P w K mg base (k + 1) x (mkFn n nN dfl body) :=
  ⟨fa, hmg, F.kp, def_g F S hnN hn hb hd hbody⟩
theorem defS_ok {x qual : Str} {st : Stmt} {fa : Addr} {fd : FuncData} {N ps : List Str} {n nN : Nat} {pv : Str} {body : C} (F : Fun K x qual st fa fd) (S : FnScope N (ps ++ [pv]) (defScope st)) (hmg : mg x = some (.ref fa)) (hnN : N.length = nN) (hn : ps.length = n)
    (hb : ∀ (kV doc pm : Value) (an : Option Addr) (cdv ct : Value) (us rest : List Value), us.length = ps.length → bindArgs (PySem.W.fnOf x qual (defArgs st) (defBody st) (defScope st) .none kV doc pm an cdv ct) ⟨us ++ rest, []⟩ = (newTuple rest >>= fun t => pure (ps.zip us ++ [(pv, t)])))
    (hbody : ∀ (cdv : Value) (A : Around) (outer : List PySem.Env) (s : Shared) (H : Hp) (E : XK), Rm k (A.deeper (envOfC qual (defScope st) s.heap.objs.size fa cdv)) →
      QSs (cxOf (L2.CX P w) P w K mg base N qual (defScope st) fa cdv A outer s H E) (fun c d _ H => E c d H) (defBody st) body) : DefOk P w K mg base (k + 1) x (mkFnS n nN body) := by
  refine ⟨fa, hmg, F.kp, fun A outer s H us vs Q E hr e0 r hsp => ?_⟩
  obtain ⟨oc, od, kV, doc, pm, an, cdv, ct, osl, rfl, lk, hcd⟩ := F.ex
  obtain ⟨μ, ds, st', rr, hs, h⟩ := hsp
  unfold mkFnS at h
  split at h
  · rename_i hl
    simp only [Bool.and_eq_true, decide_eq_true_eq] at hl
    have e1 := rr.take n
    have e2 := rr.drop n
    have r1 := r.take n
    have r2 := r.drop n
    have hus : (us.take n).length = ps.length := by rw [List.length_take, ← r.length, ← rr.length, hn]; omega
    have hvs : (vs.take n).length = ps.length := by rw [List.length_take, ← rr.length, hn]; omega
    have hz : (vs.drop n).length ≤ sizeLine := by rw [List.length_drop, ← rr.length]; exact of_decide_eq_true hl.2
    have hz2 : (us.drop n).length ≤ sizeLine := by rw [← r2.length]; exact hz
    have hf : H s.heap.objs.size = none := e0.hok.fresh (Nat.le_refl _)
    refine StX.run_bnd (E := E) lk hcd S hr.r e0 (G := fun xs H2 => ∃ p, H p = none ∧ xs = vs.take n ++ [.ref p] ∧ H2 = upd H p (.tup (vs.drop n))) (fun A' Ex Q' hq => ?_) fun s2 H2 xs hG hr' => ?_
    · have eu : us = us.take n ++ us.drop n := (List.take_append_drop n us).symm
      rw [eu, hb kV doc pm an cdv ct _ _ hus]
      refine wpAny_bind (wpAny_newTuple (wpAny_pure ?_) hz2)
      have ob : ObjOk P w (upd H s.heap.objs.size (.tup (vs.drop n))) (s.heap.push ({ cls := .type "tuple", data := .seq (us.drop n).toArray } : Obj)) s.heap.objs.size (.tup (vs.drop n)) := ⟨hz, us.drop n, r2, ⟨_, Heap.get?_push_size _ rfl, rfl, _, rfl⟩⟩
      have un := StX.un_laid (fs := frs outer) (s := s) (o := ({ cls := .type "tuple", data := .seq (us.drop n).toArray } : Obj)) (u := .tup (vs.drop n)) hf
      have fin := hq _ _ (vs.take n ++ [V.ref s.heap.objs.size]) (us.take n ++ [Value.ref s.heap.objs.size]) (StX.env0_laid e0 ob) un rfl (fun e s' => StX.cxUp outer s H _ _ E e s' un (fun b o q => Heap.get?_push_of_some _ q) rfl) (r1.append (.cons rfl .nil))
        (by rw [List.length_append, List.length_append, hvs] <;> rfl) ⟨_, hf, rfl, rfl⟩
      rw [List.zip_append hus.symm] at fin
      exact fin
    · obtain ⟨p, hp, ex, eH⟩ := hG
      subst ex; subst eH
      have hx := ex_new0 (μ := μ) (ho := .tup (vs.drop n)) hp
      have rall : RVs ⟨K, mg⟩ μ (upd H p (.tup (vs.drop n))) (ds.take n ++ [.tup (ds.drop n)]) (vs.take n ++ [.ref p]) := (e1.mono hx).append (.one (rv_new hp e2))
      refine ⟨_, hbody cdv A outer s2 _ E ⟨hr', hr.g⟩, μ, _, st', ren_start rall hnN, hs.other hp, ?_⟩
      have hlen : (ds.take n ++ [D.tup (ds.drop n)]).length = n + 1 := by simp; omega
      rw [hlen]
      exact fin_sound (W := fun _ _ _ _ => True) (runs_mono hx h)
  · exact h.elim
end
section
variable {X : Cx} {W : WX} {k : Nat} {x : Str} {f : Fn} {p pos : Pos} {e : Expr} {es : List Expr} {ms : As}
abbrev DefX (X : Cx) (k : Nat) (x : Str) (f : Fn) : Prop := DefOk X.prog X.w X.K X.mg X.base k x f
theorem run_def {fa : Addr} {pins : List (Addr × Obj)} {σ : L2.St} {H : Hp} {sh : Shared} {Q : VK} {us : List Value} {vs : List V} (F : FnG X.prog X.w X.K X.mg X.base k fa (spF (wd X) f)) (hr : Rm k X.A) (tk : Takes X W)
    (I : Inv X pins σ H sh) (r : Vals vs us) (h : spF (wd X) f vs H Q (fun c d H => W c d σ H)) : wpAny (model X.prog X.w) X.A (call (.ref fa) us) (EP X pins σ Q) X.xe sh := by
  refine wpAny_call (codeAny_mono (F X.A X.stack sh H us vs Q _ hr I.env0 r h) fun res s' hq => ?_)
  cases res with
  | error e => exact passAt tk σ pins H sh e s' I hq
  | ok fl =>
    cases fl with
    | ret u => exact I.after hq
    | next => exact False.elim hq
    | brk => exact False.elim hq
    | cont => exact False.elim hq
theorem spF_of {g : Wd} {σ : L2.St} {μ : List Addr} {H : Hp} {s : S} {ds : List D} {vs : List V} {Q : VK} (r : RVs g μ H ds vs) (hs : Rs g μ H s) (h : runs g W σ μ H (RV g) Q (f ds s)) : spF g f vs H Q (fun c d H => W c d σ H) := by
  refine ⟨μ, ds, s, r, hs, ?_⟩
  cases q : f ds s with
  | ok a s' => rw [q] at h; exact h
  | err c fs s' => rw [q] at h; exact h
  | bad => rw [q] at h; exact h
theorem q_call (d : DefX X k x f) (hr : Rm k X.A) (tk : Takes X W) (ha : PA X (e :: es) (liftA (wd X) W ms)) (hg : Gl X x := by rfl) (hdb : (x == ("__debug__" : Str)) = false := by decide) (he : starEach (e :: es) X.env = (false, eval e X.env) :: starEach es X.env := by rfl)
    (hpl : (backTo pos (starEach es X.env)).any (·.1) = false := by rfl) : PE X (.Call (.Name x p) (e :: es) [] pos) (liftE (wd X) W (callE f ms)) := by
  obtain ⟨fa, hm, hk, F⟩ := d.ex
  refine ⟨fun pins sh σ H Q I ⟨μ, ρ, s, he', hs, h⟩ => ?_⟩
  refine wpAny_Call_Name_kw (ld_glob I hg hm ?_ hdb)
  have hq : liftA (wd X) W ms σ H fun vs H1 => spF (wd X) f vs H1 Q (fun c d H => W c d σ H) := ⟨μ, ρ, s, he', hs, runs_bind (Rel1 := RVs (wd X)) h fun ds s1 μ1 H1 vs e1 x1 hs1 r1 h1 => spF_of r1 hs1 h1⟩
  exact PySem.W.callWith_K (h₀ := X.base) I.ok.mod.kin hk (thn (ha.run pos pins sh σ H _ I hq) fun us s1 ⟨vs, H1, I1, r, q⟩ => ⟨I1.kIn, run_def F hr tk I1 r q⟩) he hpl
theorem q_call0 (d : DefX X k x f) (hr : Rm k X.A) (tk : Takes X W) (hg : Gl X x := by rfl) (hdb : (x == ("__debug__" : Str)) = false := by decide) : PE X (.Call (.Name x p) [] [] pos) (liftE (wd X) W (callE f nilA)) := by
  obtain ⟨fa, hm, hk, F⟩ := d.ex
  refine ⟨fun pins sh σ H Q I ⟨μ, ρ, s, he', hs, h⟩ => ?_⟩
  refine wpAny_Call_Name_kw (ld_glob I hg hm ?_ hdb)
  exact PySem.W.callWith_K0 I.kIn hk (run_def F hr tk I .nil (spF_of (ds := []) (by simp only [RVs]) hs h))
end
/-! ### what is walked -/
def allK : S → Bool := fun _ => true
mutual
def D.same : D → D → Bool
  | .non, .non => true
  | .bl a, .bl b => a == b
  | .int a, .int b => a == b
  | .str a, .str b => a == b
  | .tup xs, .tup ys => D.sames xs ys
  | .ref a, .ref b => a == b
  | .ty a, .ty b => a == b
  | .gl a, .gl b => a == b
  | .fl xs, .fl ys => D.sames xs ys
  | _, _ => false
def D.sames : List D → List D → Bool
  | [], [] => true
  | x :: xs, y :: ys => D.same x y && D.sames xs ys
  | _, _ => false
end
mutual
theorem D.same_eq : ∀ {a b : D}, D.same a b = true → a = b
  | .non, b, h => by cases b <;> simp_all [D.same]
  | .bl _, b, h => by cases b <;> simp_all [D.same]
  | .int _, b, h => by cases b <;> simp_all [D.same]
  | .str _, b, h => by cases b <;> simp_all [D.same]
  | .ref _, b, h => by cases b <;> simp_all [D.same]
  | .ty _, b, h => by cases b <;> simp_all [D.same]
  | .gl _, b, h => by cases b <;> simp_all [D.same]
  | .tup xs, b, h => by
    cases b <;> simp only [D.same, Bool.false_eq_true] at h
    rw [D.sames_eq h]
  | .fl xs, b, h => by
    cases b <;> simp only [D.same, Bool.false_eq_true] at h
    rw [D.sames_eq h]
theorem D.sames_eq : ∀ {a b : List D}, D.sames a b = true → a = b
  | [], b, h => by cases b <;> simp_all [D.sames]
  | x :: xs, b, h => by
    cases b with
    | nil => simp [D.sames] at h
    | cons y ys =>
      simp only [D.sames, Bool.and_eq_true] at h
      rw [D.same_eq h.1, D.sames_eq h.2]
end
mutual
theorem D.same_refl : ∀ (a : D), D.same a a = true
  | .non => rfl
  | .bl _ => by simp [D.same]
  | .int _ => by simp [D.same]
  | .str _ => by simp [D.same]
  | .ref _ => by simp [D.same]
  | .ty _ => by simp [D.same]
  | .gl _ => by simp [D.same]
  | .tup xs => by simp only [D.same]; exact D.sames_refl xs
  | .fl xs => by simp only [D.same]; exact D.sames_refl xs
theorem D.sames_refl : ∀ (a : List D), D.sames a a = true
  | [] => rfl
  | x :: xs => by simp only [D.sames, D.same_refl x, D.sames_refl xs, Bool.and_self]
end
def keepL (a : Nat) (xs : List D) : S → Bool := fun s => match lstAt s a with | some ys => D.sames ys xs | none => false
def iterD (d : D) (s : S) : R It := match d with
  | .tup xs => .ok ⟨xs, allK⟩ s
  | .ref a => match lstAt s a with | some xs => .ok ⟨xs, keepL a xs⟩ s | none => .bad
  | .str z => .ok ⟨z.cps.toList.map fun c => .str (ch c), allK⟩ s
  | _ => .bad
def iterE (e : E) : Is := fun ρ s => (e ρ s).bind iterD
def intsL (lo : Int) (n : Nat) : List D := (List.range n).map fun i => .int (lo + (i : Nat))
def small62 (i : Int) : Bool := decide (-(2 ^ 62) ≤ i ∧ i < 2 ^ 62)
def range1 (a : E) : Is := fun ρ s => (a ρ s).bind fun d s => match d with | .int j => if small62 j then .ok ⟨intsL 0 j.toNat, allK⟩ s else .bad | _ => .bad
def range2 (a b : E) : Is := fun ρ s => (a ρ s).bind fun d s => (b ρ s).bind fun e s => match d, e with | .int i, .int j => if small62 i && small62 j then .ok ⟨intsL i (j - i).toNat, allK⟩ s else .bad | _, _ => .bad
section
variable {X : Cx} {W : WX} {pos p : Pos} {tg e a b : Expr} {m ma mb : E}
theorem pi_or {tg iter : Expr} {t1 t2 : TI} (h1 : PI X tg iter t1) (h2 : PI X tg iter t2) : PI X tg iter (fun σ H Q => t1 σ H Q ∨ t2 σ H Q) := ⟨fun pins s σ H Q I q => q.elim (h1.run pins s σ H Q I) (h2.run pins s σ H Q I)⟩
theorem itr_ints {g : Wd} {μ : List Addr} {H : Hp} {lo : Int} {n : Nat} : ItR g μ H (Itr lo n) ⟨intsL lo n, allK⟩ := by
  intro μ1 H1 s x hs _ i
  have hl : (intsL lo n).length = n := by simp [intsL]
  refine ⟨fun d e => ?_, fun h => by rw [hl] at h; exact h⟩
  have hi : i < n := by have := (List.getElem?_eq_some_iff.mp e).1; rw [hl] at this; exact this
  have ed : d = .int (lo + (i : Nat)) := by
    simp only [intsL, List.getElem?_map, List.getElem?_range hi, Option.map_some, Option.some.injEq] at e
    exact e.symm
  subst ed
  exact ⟨hi, fun x H' ⟨e1, e2⟩ => by subst e1; subst e2; exact ⟨Ex.refl _ _, hs, by simp only [RV]⟩⟩
theorem qi_range1 (ha : PE X a (liftE (wd X) W ma)) (hm : X.mg "range" = none) (hg : Gl X "range" := by rfl) (hs : starEach [a] X.env = [(false, eval a X.env)] := by rfl) (hs2 : starEach (a :: []) X.env = (false, eval a X.env) :: starEach [] X.env := by rfl) :
    QI X W tg (.Call (.Name "range" p) [a] [] pos) (range1 ma) :=
  pi_imp (pi_range1 hg hm (qa_cons ha qa_nil hs2) hs) fun σ H Q ⟨μ, ρ, s, he, hs, h⟩ => ⟨μ, ρ, s, he, hs, by
    have h' : runs (wd X) W σ μ H (fun μ' H' a J => ItR (wd X) μ' H' J a) Q ((consA ma nilA ρ s).bind fun ds s => match ds with | [.int j] => if small62 j then .ok ⟨intsL 0 j.toNat, allK⟩ s else .bad | _ => .bad) := by
      simp only [consA, nilA, R.bind]
      simp only [range1] at h
      cases q : ma ρ s with
      | ok d s' => rw [q] at h; cases d <;> exact h
      | err c fs s' => rw [q] at h; exact h
      | bad => rw [q] at h; exact h
    refine runs_bind (Rel1 := RVs (wd X)) h' fun ds s1 μ1 H1 vs e1 x1 hs1 r1 h1 => ?_
    split at h1
    · rename_i j
      obtain ⟨x, rfl, r2⟩ := r1.inv1
      simp only [RV] at r2; subst r2
      split at h1
      · rename_i hz
        have hz := of_decide_eq_true (p := _ ∧ _) hz
        exact ⟨j, rfl, hz.1, hz.2, runs_pure h1 hs1 itr_ints⟩
      · exact h1.elim
    · exact h1.elim⟩
theorem qi_range2 (ha : PE X a (liftE (wd X) W ma)) (hb : PE X b (liftE (wd X) W mb)) (hm : X.mg "range" = none) (hg : Gl X "range" := by rfl) (hs : starEach [a, b] X.env = [(false, eval a X.env), (false, eval b X.env)] := by rfl) (hs2 : starEach [b] X.env = [(false, eval b X.env)] := by rfl)
    (hs3 : starEach (a :: [b]) X.env = (false, eval a X.env) :: starEach [b] X.env := by rfl) (hs4 : starEach (b :: []) X.env = (false, eval b X.env) :: starEach [] X.env := by rfl) :
    QI X W tg (.Call (.Name "range" p) [a, b] [] pos) (range2 ma mb) :=
  pi_imp (pi_range2 hg hm (qa_cons ha (qa_cons hb qa_nil hs4) hs3) hs hs2) fun σ H Q ⟨μ, ρ, s, he, hs, h⟩ => ⟨μ, ρ, s, he, hs, by
    have h' : runs (wd X) W σ μ H (fun μ' H' a J => ItR (wd X) μ' H' J a) Q ((consA ma (consA mb nilA) ρ s).bind fun ds s => match ds with | [.int i, .int j] => if small62 i && small62 j then .ok ⟨intsL i (j - i).toNat, allK⟩ s else .bad | _ => .bad) := by
      simp only [consA, nilA]
      simp only [range2] at h
      cases q : ma ρ s with
      | ok d s' =>
        rw [q] at h
        simp only [R.bind] at h ⊢
        cases q2 : mb ρ s' with
        | ok d2 s2 =>
          rw [q2] at h
          cases d <;> cases d2 <;> exact h
        | err c fs s' => rw [q2] at h; exact h
        | bad => rw [q2] at h; exact h
      | err c fs s' => rw [q] at h; exact h
      | bad => rw [q] at h; exact h
    refine runs_bind (Rel1 := RVs (wd X)) h' fun ds s1 μ1 H1 vs e1 x1 hs1 r1 h1 => ?_
    split at h1
    · rename_i i j
      obtain ⟨x, y, rfl, r2, r3⟩ := r1.inv2
      simp only [RV] at r2 r3; subst r2; subst r3
      split at h1
      · rename_i hz
        simp only [Bool.and_eq_true] at hz
        have hz1 := of_decide_eq_true (p := _ ∧ _) hz.1
        have hz2 := of_decide_eq_true (p := _ ∧ _) hz.2
        exact ⟨i, j, rfl, ⟨hz1.1, hz1.2, hz2.1, hz2.2⟩, runs_pure h1 hs1 itr_ints⟩
      · exact h1.elim
    · exact h1.elim⟩
theorem qi_val (he : PE X e (liftE (wd X) W m)) : QI X W tg e (iterE m) :=
  pi_imp (pi_or (pi_list he) (pi_or (pi_tup he) (pi_str he))) fun σ H Q ⟨μ, ρ, s, he, hs, h⟩ => by
    have nope : ∀ {d : D} {s' : S}, m ρ s = .ok d s' → iterD d s' = .bad → False := fun {d s'} e1 e2 => by
      have h2 : runs (wd X) W σ μ H (fun μ' H' a J => ItR (wd X) μ' H' J a) Q (iterD d s') := by
        have h3 := h
        simp only [iterE] at h3
        rw [e1] at h3
        exact h3
      rw [e2] at h2
      exact h2
    have cont : ∀ {tt : TI} (k : ∀ d s1 μ1 H1 v, m ρ s = .ok d s1 → Ex μ H μ1 H1 → Rs (wd X) μ1 H1 s1 → RV (wd X) μ1 H1 d v → runs (wd X) W σ μ1 H1 (fun μ' H' a J => ItR (wd X) μ' H' J a) Q (iterD d s1) → True), True := fun _ => trivial
    have lstC : ∀ a s1, m ρ s = .ok (.ref a) s1 → iList X.K (liftE (wd X) W m) σ H Q := fun a s1 em => ⟨μ, ρ, s, he, hs, runs_bind (Rel1 := RV (wd X)) h fun d s2 μ1 H1 x e1 x1 hs1 r1 h1 => by
      rw [em] at e1; cases e1
      simp only [iterD] at h1
      split at h1
      · rename_i xs es
        have r2 := r1
        simp only [RV] at r2
        obtain ⟨pp, ep, rfl⟩ := r2
        obtain ⟨ys, q, rr⟩ := lstAt_sound hs1 ep es
        refine ⟨pp, rfl, ⟨ys, q⟩, runs_pure h1 hs1 fun μ2 H2 s2 x2 hs2 hk i => ?_⟩
        have kk : lstAt s2 a = some xs := by
          simp only [keepL] at hk
          split at hk
          · rename_i zs ez
            rw [ez, D.sames_eq hk]
          · cases hk
        obtain ⟨zs, q2, rr2⟩ := lstAt_sound hs2 (x2.get ep) kk
        refine ⟨fun d ed => ?_, fun hl => ⟨zs, q2, by rw [← rr2.length]; exact hl⟩⟩
        obtain ⟨v, e1, e2⟩ := rr2.get ed
        exact ⟨⟨zs, v, q2, e1⟩, fun y H' ⟨e3, e4⟩ => by
          subst e3
          have := e4 zs q2
          rw [e1] at this; cases this
          exact ⟨Ex.refl _ _, hs2, e2⟩⟩
      · exact h1.elim⟩
    cases em : m ρ s with
    | ok d s1 =>
      cases d with
      | ref a => exact .inl (lstC a s1 em)
      | tup zs =>
        refine .inr (.inl ⟨μ, ρ, s, he, hs, runs_bind (Rel1 := RV (wd X)) h fun d s2 μ1 H1 x e1 x1 hs1 r1 h1 => ?_⟩)
        rw [em] at e1; cases e1
        have r2 := r1
        simp only [RV] at r2
        obtain ⟨pp, ys, rfl, q, rr⟩ := r2
        refine ⟨pp, rfl, ⟨ys, q⟩, runs_pure (show runs (wd X) W σ μ1 H1 (fun μ' H' a J => ItR (wd X) μ' H' J a) Q (.ok ⟨zs, allK⟩ s1) from h1) hs1 fun μ2 H2 s2 x2 hs2 hk i => ?_⟩
        have q2 := x2.sqt (g := wd X) q
        have rr2 := rr.mono x2
        refine ⟨fun d ed => ?_, fun hl => ⟨ys, q2, by rw [← rr2.length]; exact hl⟩⟩
        obtain ⟨v, e1, e2⟩ := rr2.get ed
        exact ⟨⟨ys, v, q2, e1⟩, fun y H' ⟨e3, e4⟩ => by
          subst e3
          have := e4 ys q2
          rw [e1] at this; cases this
          exact ⟨Ex.refl _ _, hs2, e2⟩⟩
      | str z =>
        refine .inr (.inr ⟨μ, ρ, s, he, hs, runs_bind (Rel1 := RV (wd X)) h fun d s2 μ1 H1 x e1 x1 hs1 r1 h1 => ?_⟩)
        rw [em] at e1; cases e1
        simp only [RV] at r1
        refine ⟨z, r1, runs_pure (show runs (wd X) W σ μ1 H1 (fun μ' H' a J => ItR (wd X) μ' H' J a) Q (.ok ⟨z.cps.toList.map fun c => .str (ch c), allK⟩ s1) from h1) hs1 fun μ2 H2 s2 x2 hs2 hk i => ?_⟩
        refine ⟨fun d ed => ?_, fun hl => (show z.cps.size ≤ i by simpa using hl)⟩
        simp only [List.getElem?_map, Option.map_eq_some_iff] at ed
        obtain ⟨c, ec, rfl⟩ := ed
        have ec' : z.cps[i]? = some c := by simpa using ec
        refine ⟨(Array.getElem?_eq_some_iff.mp ec').1, fun y H' ⟨e3, c', e4, e5⟩ => ?_⟩
        subst e3
        rw [ec'] at e4; cases e4
        subst e5
        exact ⟨Ex.refl _ _, hs2, by simp only [RV, ch]⟩
      | non => exact (nope em rfl).elim
      | bl _ => exact (nope em rfl).elim
      | int _ => exact (nope em rfl).elim
      | ty _ => exact (nope em rfl).elim
      | gl _ => exact (nope em rfl).elim
      | fl _ => exact (nope em rfl).elim
    | err c fs s1 =>
      refine .inl ⟨μ, ρ, s, he, hs, ?_⟩
      have h3 := h
      simp only [iterE] at h3
      rw [em] at h3 ⊢
      exact h3
    | bad =>
      have h3 := h
      simp only [iterE] at h3
      rw [em] at h3
      exact h3.elim
end
end Ev

namespace Ev
open PySem PySem.Spec PyProof.Rows L2
/-! ### methods of built-in types -/
def isTyD (T : String) (d : D) (s : S) : Bool := match d with
  | .str _ => T == "str"
  | .int _ => T == "int"
  | .ref a => (T == "list" && (lstAt s a).isSome) || (T == "dict" && (match s[a]? with | some (.dct _) => true | _ => false))
  | _ => false
def methE (T : String) (f : Fn) (o : E) (a : As) : E := fun ρ s => (o ρ s).bind fun d s => if isTyD T d s then (a ρ s).bind fun ds s => f (d :: ds) s else .bad
def rM (g : Wd) (f : Fn) : V → List V → Hp → VK → Prop := fun x xs H Q => ∃ μ s d ds, Rs g μ H s ∧ RV g μ H d x ∧ RVs g μ H ds xs ∧ ∃ W σ, runs g W σ μ H (RV g) Q (f (d :: ds) s)
abbrev QM (X : Cx) (id : String) (f : Fn) : Prop := MtR X id (rM (wd X) f)
section
variable {X : Cx} {W : WX} {pos apos : Pos} {o e : Expr} {es : List Expr} {mo m : E} {ms : As} {T : String} {name : Str} {id : String} {f : Fn}
theorem isTyD_sound {g : Wd} {μ : List Addr} {H : Hp} {s : S} {d : D} {x : V} (hs : Rs g μ H s) (r : RV g μ H d x) (h : isTyD T d s = true) : tyV g.K T x H := by
  cases d with
  | str z => simp only [RV] at r; subst r; simpa [isTyD, tyV] using h
  | int z => simp only [RV] at r; subst r; simpa [isTyD, tyV] using h
  | ref a =>
    simp only [RV] at r
    obtain ⟨p, ep, rfl⟩ := r
    simp only [isTyD, Bool.or_eq_true, Bool.and_eq_true, beq_iff_eq] at h
    rcases h with ⟨e1, e2⟩ | ⟨e1, e2⟩
    · obtain ⟨xs, ex⟩ := Option.isSome_iff_exists.mp e2
      obtain ⟨ys, q, _⟩ := lstAt_sound hs ep ex
      exact .inl ⟨e1, ys, q⟩
    · split at e2
      · rename_i kvs ek
        obtain ⟨ys, q, _⟩ := hs.at_ _ _ _ ek ep
        exact .inr (.inr (.inl ⟨e1, .inl ⟨ys, q⟩⟩))
      · cases e2
  | _ => cases h
theorem q_meth (pa : PlainAttrs T) (slot : Slot T name id) (hty : typeOf (.builtin id) = pure (.type "method_descriptor")) (hm : QM X id f) (ho : PE X o (liftE (wd X) W mo)) (ha : PA X (e :: es) (liftA (wd X) W ms))
    (hbase : attributeBase o name X.env (eval o X.env) = eval o X.env := by rfl)
    (hfew : ((backTo pos (starEach (e :: es) X.env)).all (fun x => !x.1) && (backToKw pos (keywordEach [] X.env)).all (fun x => x.1.isSome) && decide ((e :: es).length + ([] : List Keyword).length + (if ([] : List Keyword).isEmpty then 0 else 1) < 30)) = true := by rfl)
    (hline : (apos.endLine == pos.line) = true := by rfl) (hs : starEach (e :: es) X.env = (false, eval e X.env) :: starEach es X.env := by rfl) (hplain : (backTo pos (starEach es X.env)).any (·.1) = false := by rfl) :
    PE X (.Call (.Attribute o name apos) (e :: es) [] pos) (liftE (wd X) W (methE T f mo ms)) :=
  pe_imp (pe_bm pa slot hty hm ho ha hbase hfew hline hs hplain) fun σ H Q ⟨μ, ρ, s, he, hs, h⟩ => ⟨μ, ρ, s, he, hs, runs_bind (Rel1 := RV (wd X)) h fun d s1 μ1 H1 x e1 x1 hs1 r1 h1 => by
    split at h1
    · rename_i ht
      exact ⟨isTyD_sound hs1 r1 ht, μ1, ρ, s1, he.mono x1, hs1, runs_bind (Rel1 := RVs (wd X)) h1 fun ds s2 μ2 H2 xs e2 x2 hs2 r2 h2 => ⟨μ2, s2, d, ds, hs2, r1.mono x2, r2, W, σ, h2⟩⟩
    · exact h1.elim⟩
theorem q_meth0 (pa : PlainAttrs T) (slot : Slot T name id) (hty : typeOf (.builtin id) = pure (.type "method_descriptor")) (hm : QM X id f) (ho : PE X o (liftE (wd X) W mo))
    (hbase : attributeBase o name X.env (eval o X.env) = eval o X.env := by rfl) (hline : (apos.endLine == pos.line) = true := by rfl) : PE X (.Call (.Attribute o name apos) [] [] pos) (liftE (wd X) W (methE T f mo nilA)) :=
  pe_imp (pe_bm0 pa slot hty hm ho hbase hline) fun σ H Q ⟨μ, ρ, s, he, hs, h⟩ => ⟨μ, ρ, s, he, hs, runs_bind (Rel1 := RV (wd X)) h fun d s1 μ1 H1 x e1 x1 hs1 r1 h1 => by
    split at h1
    · rename_i ht
      exact ⟨isTyD_sound hs1 r1 ht, μ1, s1, d, [], hs1, r1, by simp only [RVs], W, σ, h1⟩
    · exact h1.elim⟩
/-- methods of texts -/
def strF0 (g : Tx → D) : Fn := fun ds s => match ds with | [.str z] => .ok (g z) s | _ => .bad
theorem qm_str0 {g : Tx → D} {v : Tx → V} (h : MtR X id (fun x xs H Q => ∃ a, x = .str a ∧ xs = [] ∧ True ∧ Q (v a) H)) (r : ∀ a μ H, RV (wd X) μ H (g a) (v a)) : QM X id (strF0 g) := by
  intro pins sh σ H x xs u us Q I rx rs ⟨μ, s, d, ds, hs, r1, r2, W, σ', hh⟩
  unfold strF0 at hh
  split at hh
  · rename_i z e
    cases e
    simp only [RV] at r1; subst r1
    simp only [RVs] at r2; subst r2
    exact h pins sh σ H _ _ u us Q I rx rs ⟨z, rfl, rfl, trivial, runs_pure hh hs (r z μ H)⟩
  · exact hh.elim
def strF1 (g : Tx → Tx → D) : Fn := fun ds s => match ds with | [.str z, .str y] => .ok (g z y) s | _ => .bad
theorem qm_str1 {g : Tx → Tx → D} {v : Tx → Tx → V} (h : MtR X id (fun x xs H Q => ∃ a b, x = .str a ∧ xs = [.str b] ∧ Q (v a b) H)) (r : ∀ a b μ H, RV (wd X) μ H (g a b) (v a b)) : QM X id (strF1 g) := by
  intro pins sh σ H x xs u us Q I rx rs ⟨μ, s, d, ds, hs, r1, r2, W, σ', hh⟩
  unfold strF1 at hh
  split at hh
  · rename_i z y e
    cases e
    simp only [RV] at r1; subst r1
    obtain ⟨x2, rfl, r3⟩ := r2.inv1
    simp only [RV] at r3; subst r3
    exact h pins sh σ H _ _ u us Q I rx rs ⟨z, y, rfl, rfl, runs_pure hh hs (r z y μ H)⟩
  · exact hh.elim
def isdigitF : Fn := strF0 fun z => .bl (Txt.isdigit z)
def isalphaF : Fn := strF0 fun z => .bl (Txt.isalpha z)
def isalnumF : Fn := strF0 fun z => .bl (Txt.isalnum z)
def isasciiF : Fn := strF0 fun z => .bl (Txt.isascii z)
def islowerF : Fn := strF0 fun z => .bl (Txt.islower z)
def countF : Fn := strF1 fun z y => .int (Txt.count z y)
def startsF : Fn := strF1 fun z y => .bl (Txt.startswith z y)
def endsF : Fn := strF1 fun z y => .bl (Txt.endswith z y)
theorem qm_isdigit : QM X "str.isdigit" isdigitF := qm_str0 mt_isdigit fun _ _ _ => by simp only [RV]
theorem qm_isalpha : QM X "str.isalpha" isalphaF := qm_str0 mt_isalpha fun _ _ _ => by simp only [RV]
theorem qm_isalnum : QM X "str.isalnum" isalnumF := qm_str0 mt_isalnum fun _ _ _ => by simp only [RV]
theorem qm_isascii : QM X "str.isascii" isasciiF := qm_str0 mt_isascii fun _ _ _ => by simp only [RV]
theorem qm_islower : QM X "str.islower" islowerF := qm_str0 mt_islower fun _ _ _ => by simp only [RV]
theorem qm_count : QM X "str.count" countF := qm_str1 mt_count fun _ _ _ _ => by simp only [RV]
theorem qm_starts : QM X "str.startswith" startsF := qm_str1 mt_startswith fun _ _ _ _ => by simp only [RV]
theorem qm_ends : QM X "str.endswith" endsF := qm_str1 mt_endswith fun _ _ _ _ => by simp only [RV]
def splitF : Fn := fun ds s => match ds with
  | [.str z, .str y] => if (y.length == 0) || !szl (z.length + 2) then .bad else newL ((Txt.split z y).map .str) s
  | _ => .bad
theorem strs_rvs {g : Wd} {μ : List Addr} {H : Hp} : ∀ (l : List Tx), RVs g μ H (l.map D.str) (l.map V.str)
  | [] => by simp [RVs]
  | x :: l => ⟨_, _, rfl, by simp only [RV], strs_rvs l⟩
theorem qm_split : QM X "str.split" splitF := by
  intro pins sh σ H x xs u us Q I rx rs ⟨μ, s, d, ds, hs, r1, r2, W, σ', hh⟩
  unfold splitF at hh
  split at hh
  · rename_i z y e
    cases e
    simp only [RV] at r1; subst r1
    obtain ⟨x2, rfl, r3⟩ := r2.inv1
    simp only [RV] at r3; subst r3
    split at hh
    · exact hh.elim
    · rename_i hz
      simp only [Bool.or_eq_true, Bool.not_eq_true', not_or, Bool.not_eq_true, Bool.not_eq_false] at hz
      exact mt_split pins sh σ H _ _ u us Q I rx rs ⟨z, y, rfl, rfl, hz.1, of_decide_eq_true hz.2, runs_lst hs (strs_rvs _) hh⟩
  · exact hh.elim
def strsOf : List D → Option (List Tx)
  | [] => some []
  | .str x :: r => (strsOf r).map (x :: ·)
  | _ => none
theorem strsOf_eq : ∀ {l : List D} {ys : List Tx}, strsOf l = some ys → l = ys.map D.str
  | [], ys, h => by simp only [strsOf, Option.some.injEq] at h; subst h; rfl
  | d :: l, ys, h => by
    cases d <;> simp only [strsOf, reduceCtorEq, Option.map_eq_some_iff] at h
    obtain ⟨zs, e, rfl⟩ := h
    rw [strsOf_eq e]; rfl
theorem strs_vals {g : Wd} {μ : List Addr} {H : Hp} : ∀ {ys : List Tx} {vs : List V}, RVs g μ H (ys.map D.str) vs → vs = ys.map V.str
  | [], _, r => by simpa [RVs] using r
  | y :: ys, _, r => by
    simp only [List.map_cons, RVs] at r
    obtain ⟨v, r', rfl, a, b⟩ := r
    simp only [RV] at a; subst a
    rw [strs_vals b]; rfl
theorem strsOf_map : ∀ (l : List Tx), strsOf (l.map D.str) = some l
  | [] => rfl
  | x :: l => by simp [strsOf, strsOf_map l]
def joinF : Fn := fun ds s => match ds with
  | [.str z, d] => match (seqOf s d).bind strsOf with
    | some ys => if decide ((ys.map (·.length)).sum + ys.length * z.length ≤ 16777216) then .ok (.str (Txt.join z ys)) s else .bad
    | none => .bad
  | _ => .bad
theorem qm_join : QM X "str.join" joinF := by
  intro pins sh σ H x xs u us Q I rx rs ⟨μ, s, d, ds, hs, r1, r2, W, σ', hh⟩
  unfold joinF at hh
  split at hh
  · rename_i z y e
    cases e
    simp only [RV] at r1; subst r1
    obtain ⟨x2, rfl, r3⟩ := r2.inv1
    split at hh
    · rename_i ys ey
      simp only [Option.bind_eq_some_iff] at ey
      obtain ⟨zs, e1, e2⟩ := ey
      split at hh
      · rename_i hz
        obtain ⟨p, vs, rfl, q, rr⟩ := seqOf_sound hs r3 e1
        have := strsOf_eq e2
        subst this
        have := strs_vals rr
        subst this
        exact mt_join pins sh σ H _ _ u us Q I rx rs ⟨z, p, ys, rfl, rfl, q.symm, of_decide_eq_true hz, runs_pure hh hs (by simp only [RV])⟩
      · exact hh.elim
    · exact hh.elim
  · exact hh.elim
def appendF : Fn := fun ds s => match ds with
  | [.ref a, d] => match s[a]? with
    | some (.lst xs) => if decide (xs.length < sizeLine) then .ok .non (s.set a (.lst (xs ++ [d]))) else .bad
    | _ => .bad
  | _ => .bad
theorem lst_put {g : Wd} {W : WX} {σ : L2.St} {μ : List Addr} {H : Hp} {s : S} {a : Nat} {p : Addr} {vs ys : List V} {zs : List D} {d : D} {v : V} {Q : VK} (hs : Rs g μ H s) (ep : μ[a]? = some p) (hp : H p = some (.lst vs)) (rr : RVs g μ H zs ys) (rd : ∀ H', RV g μ H' d v)
    (h : runs g W σ μ H (RV g) Q (.ok d (s.set a (.lst zs)))) : Q v (upd H p (.lst ys)) := by
  have xp : Ex μ H μ (upd H p (.lst ys)) := ex_put hp (fun _ w => nomatch w) (fun _ _ w => nomatch w)
  exact h μ _ _ xp (hs.put (o := .lst zs) ep hp (fun _ w => nomatch w) (fun _ _ w => nomatch w) ⟨_, upd_same, rr.mono xp⟩) (rd _)
theorem qm_append : QM X "list.append" appendF := by
  intro pins sh σ H x xs u us Q I rx rs ⟨μ, s, d, ds, hs, r1, r2, W, σ', hh⟩
  unfold appendF at hh
  split at hh
  · rename_i a d' e
    cases e
    simp only [RV] at r1
    obtain ⟨p, ep, rfl⟩ := r1
    obtain ⟨y, rfl, r3⟩ := r2.inv1
    split at hh
    · rename_i zs ez
      split at hh
      · rename_i hz
        obtain ⟨vs, hp, rr⟩ := hs.at_ _ _ _ ez ep
        exact mt_append pins sh σ H _ _ u us Q I rx rs ⟨p, vs, y, rfl, rfl, hp, by rw [← rr.length]; exact of_decide_eq_true hz, lst_put hs ep hp (rr.append (.one r3)) (fun _ => by simp only [RV]) hh⟩
      · exact hh.elim
    · exact hh.elim
  · exact hh.elim
/-! ### stores to items -/
def setD (o i v : D) (s : S) : Option S := match o, i with
  | .ref a, .int k => match s[a]? with
    | some (.lst xs) => (ixN xs.length k).map fun j => s.set a (.lst (xs.set j v))
    | _ => none
  | _, _ => none
def setItS (e o i : E) : C := fun ρ s => (e ρ s).stm ρ fun v s => (o ρ s).stm ρ fun x s => (i ρ s).stm ρ fun k s => match setD x k v s with | some s' => .nx ρ s' | none => .bad
theorem setD_sound {g : Wd} {μ : List Addr} {H : Hp} {od kd v : D} {ov kv x : V} {s s' : S} (hs : Rs g μ H s) (r2 : RV g μ H od ov) (r3 : RV g μ H kd kv) (r1 : RV g μ H v x) (h : setD od kd v s = some s') :
    ∃ (p : Addr) (vs : List V) (k : Int) (j : Nat), ov = .ref p ∧ kv = .int k ∧ H p = some (.lst vs) ∧ ixN vs.length k = some j ∧ Ex μ H μ (upd H p (.lst (vs.set j x))) ∧ Rs g μ (upd H p (.lst (vs.set j x))) s' := by
  unfold setD at h
  split at h
  · rename_i a k
    simp only [RV] at r2 r3; subst r3
    obtain ⟨p, ep, rfl⟩ := r2
    split at h
    · rename_i zs ez
      simp only [Option.map_eq_some_iff] at h
      obtain ⟨j, ej, rfl⟩ := h
      obtain ⟨vs, hp, rr⟩ := hs.at_ _ _ _ ez ep
      have xp : Ex μ H μ (upd H p (.lst (vs.set j x))) := ex_put hp (fun _ w => nomatch w) (fun _ _ w => nomatch w)
      exact ⟨p, vs, k, j, rfl, rfl, hp, by rw [← rr.length]; exact ej, xp, hs.put (o := .lst (zs.set j v)) ep hp (fun _ w => nomatch w) (fun _ _ w => nomatch w) ⟨_, upd_same, (rr.mono xp).set (r1.mono xp) j⟩⟩
    · cases h
  · cases h
theorem qs_setIt {i : Expr} {mi : E} {p : Pos} (he : PE X e (liftE (wd X) W m)) (ho : PE X o (liftE (wd X) W mo)) (hi : PE X i (liftE (wd X) W mi))
    (ha : ∀ v, assign (.Subscript o i p) X.env v = (do
      let ov ← holding [v] (eval o X.env); let iv ← holding [v, ov] (eval i X.env); standAt p; holding [v, ov, iv] (setItem ov iv v); release [v, ov, iv] []) := by intro _; rfl)
    (hw0 : swapsWithSole [.Subscript o i p] e pos.line X.env = pure false := by rfl) (hw : swappedStores [.Subscript o i p] e X.env = pure none := by rfl)
    (h1 : (assignEach [.Subscript o i p] X.env).map (·.2) = [assign (.Subscript o i p) X.env] := by rfl) : QS X W (.Assign [.Subscript o i p] e pos) (setItS m mo mi) :=
  ps_imp (ps_asg he (pg_sub ho hi set_list ha) hw0 hw h1) fun De σ H ⟨μ, ρ, s, he, hs, h⟩ => ⟨μ, ρ, s, he, hs, runs_stm (Rel1 := RV (wd X)) he h fun v s1 μ1 H1 x e1 x1 hs1 r1 h1 =>
    ⟨μ1, ρ, s1, he.mono x1, hs1, runs_stm (Rel1 := RV (wd X)) (he.mono x1) h1 fun od s2 μ2 H2 ov e2 x2 hs2 r2 h2 =>
      ⟨μ2, ρ, s2, (he.mono x1).mono x2, hs2, runs_stm (Rel1 := RV (wd X)) ((he.mono x1).mono x2) h2 fun kd s3 μ3 H3 kv e3 x3 hs3 r3 h3 => by
        cases q : setD od kd v s3 with
        | none => rw [q] at h3; exact h3.elim
        | some s' =>
          rw [q] at h3
          obtain ⟨p, vs, k, j, e1, e2, hp, ej, xp, hs'⟩ := setD_sound hs3 (r2.mono x3) r3 ((r1.mono x2).mono x3) q
          exact ⟨p, vs, k, j, e1, e2, hp, ej, h3 μ3 _ σ xp hs' ((((he.mono x1).mono x2).mono x3).mono xp)⟩⟩⟩⟩
/-! ### a, b = x, y -/
def parS (i j : Nat) (a : As) : C := fun ρ s => (a ρ s).stm ρ fun ds s => match ds with | [x, y] => .nx ((ρ.set i (some x)).set j (some y)) s | _ => .bad
def par3S (i j k : Nat) (a : As) : C := fun ρ s => (a ρ s).stm ρ fun ds s => match ds with | [x, y, z] => .nx (((ρ.set i (some x)).set j (some y)).set k (some z)) s | _ => .bad
theorem qs_par {i j : Nat} {x y : Str} {a b : Expr} {px py pt : Pos} {kt k2 pt2} (ha : PA X [a, b] (liftA (wd X) W ms)) (hN : X.N.Nodup) (hc : X.calm = true := by rfl) (hi : X.N[i]? = some x := by rfl) (hj : X.N[j]? = some y := by rfl) (hij : i ≠ j := by decide)
    (hx : X.env.scope.names.lookup x = some .local := by rfl) (hy : X.env.scope.names.lookup y = some .local := by rfl) (h1 : swappedStores [.Tuple [.Name x px, .Name y py] kt pt] (.Tuple [a, b] k2 pt2) X.env = pure (some [x, y]) := by rfl) (h2 : swapsWithSole [.Tuple [.Name x px, .Name y py] kt pt] (.Tuple [a, b] k2 pt2) pos.line X.env = pure false := by rfl) : QS X W (.Assign [.Tuple [.Name x px, .Name y py] kt pt] (.Tuple [a, b] k2 pt2) pos) (parS i j ms) :=
  ps_imp (ps_par hc hN hi hj hij hx hy ha h1 h2) fun De σ H ⟨μ, ρ, s, he, hs, h⟩ => ⟨μ, ρ, s, he, hs, runs_stm (Rel1 := RVs (wd X)) he h fun ds s1 μ1 H1 vs e1 x1 hs1 r1 h1 => by
    split at h1
    · rename_i d1 d2
      obtain ⟨v, w, rfl, r2, r3⟩ := r1.inv2
      exact ⟨v, w, rfl, h1 μ1 H1 _ (Ex.refl _ _) hs1 (((he.mono x1).set r2).set r3)⟩
    · exact h1.elim⟩
theorem qs_par3 {i j l : Nat} {x y z : Str} {a b c : Expr} {px py pz pt : Pos} {kt k2 pt2} (ha : PA X [a, b, c] (liftA (wd X) W ms)) (hN : X.N.Nodup) (hc : X.calm = true := by rfl) (hi : X.N[i]? = some x := by rfl) (hj : X.N[j]? = some y := by rfl) (hl : X.N[l]? = some z := by rfl)
    (hij : i ≠ j := by decide) (hil : i ≠ l := by decide) (hjl : j ≠ l := by decide) (hx : X.env.scope.names.lookup x = some .local := by rfl) (hy : X.env.scope.names.lookup y = some .local := by rfl) (hz : X.env.scope.names.lookup z = some .local := by rfl)
    (h1 : swappedStores [.Tuple [.Name x px, .Name y py, .Name z pz] kt pt] (.Tuple [a, b, c] k2 pt2) X.env = pure (some [x, y, z]) := by rfl) (h2 : swapsWithSole [.Tuple [.Name x px, .Name y py, .Name z pz] kt pt] (.Tuple [a, b, c] k2 pt2) pos.line X.env = pure false := by rfl) :
    QS X W (.Assign [.Tuple [.Name x px, .Name y py, .Name z pz] kt pt] (.Tuple [a, b, c] k2 pt2) pos) (par3S i j l ms) :=
  ps_imp (ps_par3 hc hN hi hj hl hij hil hjl hx hy hz ha h1 h2) fun De σ H ⟨μ, ρ, s, he, hs, h⟩ => ⟨μ, ρ, s, he, hs, runs_stm (Rel1 := RVs (wd X)) he h fun ds s1 μ1 H1 vs e1 x1 hs1 r1 h1 => by
    split at h1
    · simp only [RVs] at r1
      obtain ⟨v1, _, rfl, r2, v2, _, rfl, r3, v3, _, rfl, r4, rfl⟩ := r1
      exact ⟨v1, v2, v3, rfl, h1 μ1 H1 _ (Ex.refl _ _) hs1 ((((he.mono x1).set r2).set r3).set r4)⟩
    · exact h1.elim⟩
end
end Ev

namespace Ev
open PySem PySem.Spec PyProof.Rows L2
/-! ### what is not walked -/
def badE : E := fun _ _ => .bad
def badS : C := fun _ _ => .bad
def badT : T := fun _ _ => .bad
section
variable {X : Cx} {W : WX} {pos : Pos} {e : Expr} {es : List Expr} {st : Stmt} {m : E} {ms : As}
theorem q_bad : PE X e (liftE (wd X) W badE) := ⟨fun _ _ _ _ _ _ ⟨_, _, _, _, _, h⟩ => h.elim⟩
theorem q_badT : PT X e (liftT (wd X) W badT) := ⟨fun _ _ _ _ _ _ ⟨_, _, _, _, _, h⟩ => h.elim⟩
theorem qs_bad : QS X W st badS := ⟨fun _ _ _ _ _ _ ⟨_, _, _, _, _, h⟩ => h.elim⟩
theorem qss_bad {sts : List Stmt} : QSs X W sts badS := ⟨fun _ _ _ _ _ _ ⟨_, _, _, _, _, h⟩ => h.elim⟩
/-! ### f-strings -/
def fmtE (a : E) : E := fun ρ s => (a ρ s).bind fun d s => match d with
  | .str y => if szl y.length then .ok (.str y) s else .bad
  | .int i => if decide (i.natAbs.log2 < 1920) then .ok (.str (toString i : String)) s else .bad
  | _ => .bad
def jsL : List E → Tx → E
  | [], acc, _, s => .ok (.str acc) s
  | t :: ts, acc, ρ, s => (t ρ s).bind fun d s => match d with
    | .str y => if szl (acc ++ y).length then jsL ts (acc ++ y) ρ s else .bad
    | _ => .bad
def joinedE (l : List E) : E := jsL l Str.empty
theorem q_fmt (ha : PE X e (liftE (wd X) W m)) : PE X (.FormattedValue e (-1) none pos) (liftE (wd X) W (fmtE m)) :=
  pe_imp (pe_fmt ha) fun σ H Q ⟨μ, ρ, s, he, hs, h⟩ => ⟨μ, ρ, s, he, hs, runs_bind (Rel1 := RV (wd X)) h fun d s1 μ1 H1 x e1 x1 hs1 r1 h1 => by
    cases d <;> try exact h1.elim
    · simp only [RV] at r1; subst r1
      have h1 : runs (wd X) W σ μ1 H1 (RV (wd X)) Q (if decide (_ < 1920) = true then .ok (.str (toString _ : String)) s1 else .bad) := h1
      split at h1
      · rename_i hz
        exact .inr ⟨_, rfl, of_decide_eq_true hz, runs_pure h1 hs1 (by simp only [RV])⟩
      · exact h1.elim
    · simp only [RV] at r1; subst r1
      have h1 : runs (wd X) W σ μ1 H1 (RV (wd X)) Q (if szl _ = true then .ok (.str _) s1 else .bad) := h1
      split at h1
      · rename_i hz
        exact .inl ⟨_, rfl, of_decide_eq_true hz, runs_pure h1 hs1 (by simp only [RV])⟩
      · exact h1.elim⟩
inductive QJ (X : Cx) (W : WX) : List Expr → List E → Prop where
  | nil : QJ X W [] []
  | cons {e : Expr} {m : E} {es : List Expr} {ms : List E} (h : PE X e (liftE (wd X) W m)) (r : QJ X W es ms) : QJ X W (e :: es) (m :: ms)
theorem QJ.pj {es : List Expr} {ms : List E} (h : QJ X W es ms) : PJ X es (ms.map (liftE (wd X) W)) := by
  induction h with
  | nil => exact .nil
  | cons h r ih => exact .cons h ih
theorem js_sound {σ : L2.St} {Q : VK} : ∀ {ms : List E} {acc : Tx} {μ : List Addr} {ρ : En} {s : S} {H : Hp}, REn (wd X) μ H ρ σ → Rs (wd X) μ H s → runs (wd X) W σ μ H (RV (wd X)) Q (jsL ms acc ρ s) → tJs (ms.map (liftE (wd X) W)) acc σ H fun out H1 => Q (.str out) H1
  | [], acc, μ, ρ, s, H, he, hs, h => runs_pure (show runs (wd X) W σ μ H (RV (wd X)) Q (.ok (.str acc) s) from h) hs (by simp only [RV])
  | m :: ms, acc, μ, ρ, s, H, he, hs, h => ⟨μ, ρ, s, he, hs, runs_bind (Rel1 := RV (wd X)) h fun d s1 μ1 H1 x e1 x1 hs1 r1 h1 => by
    cases d <;> try exact h1.elim
    simp only [RV] at r1; subst r1
    have h1 : runs (wd X) W σ μ1 H1 (RV (wd X)) Q (if szl (acc ++ _).length = true then jsL ms (acc ++ _) ρ s1 else .bad) := h1
    split at h1
    · rename_i hz
      exact ⟨_, rfl, of_decide_eq_true hz, js_sound (he.mono x1) hs1 h1⟩
    · exact h1.elim⟩
theorem q_joined {v1 v2 : Expr} {rest : List Expr} {ms : List E} (h : QJ X W (v1 :: v2 :: rest) ms) : PE X (.JoinedStr (v1 :: v2 :: rest) pos) (liftE (wd X) W (joinedE ms)) :=
  pe_imp (pe_joined h.pj) fun σ H Q ⟨μ, ρ, s, he, hs, hh⟩ => js_sound he hs hh
theorem q_joined1 (h : PE X e (liftE (wd X) W m)) : PE X (.JoinedStr [e] pos) (liftE (wd X) W m) := pe_joined1 h
/-! ### isinstance of built-in kinds -/
def kindD (d : D) (s : S) : Option String := match d with
  | .non => some "NoneType"
  | .bl _ => some "bool"
  | .int _ => some "int"
  | .str _ => some "str"
  | .tup _ => some "tuple"
  | .ref a => match s[a]? with | some (.lst _) => some "list" | some (.flst _) => some "list" | some (.dct _) => some "dict" | _ => none
  | _ => none
def isaB (t c : String) : Bool := t == c || (t == "bool" && c == "int")
def tyNames : List String := ["int", "str", "bool", "list", "tuple", "dict"]
theorem kit_bb {K : PySem.W.Frag} {t c : String} (ht : t ∈ ["NoneType", "bool", "int", "str", "tuple", "list", "dict"]) (hc : c ∈ tyNames) : PySem.W.kitOne K (.type t) (.type c) = some (isaB t c) := by
  simp only [tyNames, List.mem_cons, List.not_mem_nil, or_false] at ht hc
  rcases ht with rfl | rfl | rfl | rfl | rfl | rfl | rfl <;> rcases hc with rfl | rfl | rfl | rfl | rfl | rfl <;> rfl
theorem kind_sound {g : Wd} {μ : List Addr} {H : Hp} {s : S} {d : D} {x : V} {t : String} (hs : Rs g μ H s) (r : RV g μ H d x) (h : kindD d s = some t) : TyX g.K H x (.type t) ∧ t ∈ ["NoneType", "bool", "int", "str", "tuple", "list", "dict"] := by
  cases d with
  | non => simp only [RV] at r; subst r; cases h; exact ⟨.base .non, by simp⟩
  | bl b => simp only [RV] at r; subst r; cases h; exact ⟨.base (.bl b), by simp⟩
  | int b => simp only [RV] at r; subst r; cases h; exact ⟨.base (.int b), by simp⟩
  | str b => simp only [RV] at r; subst r; cases h; exact ⟨.base (.str b), by simp⟩
  | tup ds =>
    simp only [RV] at r
    obtain ⟨p, ys, rfl, q, _⟩ := r
    cases h
    refine ⟨?_, by simp⟩
    rcases q with (q | ⟨o, q⟩) | ⟨o, its, n, e, c, _⟩
    · exact .base (.tup q)
    · exact .fTuple q
    · exact .kTuple e c
  | ref a =>
    simp only [RV] at r
    obtain ⟨p, ep, rfl⟩ := r
    simp only [kindD] at h
    split at h
    · rename_i zs ez
      cases h
      obtain ⟨ys, hp, _⟩ := hs.at_ _ _ _ ez ep
      exact ⟨.base (.lst hp), by simp⟩
    · rename_i zs ez
      cases h
      obtain ⟨o, ys, hp, _⟩ := hs.at_ _ _ _ ez ep
      exact ⟨.base (.frz hp), by simp⟩
    · rename_i zs ez
      cases h
      obtain ⟨ys, hp, _⟩ := hs.at_ _ _ _ ez ep
      exact ⟨.base (.dK hp), by simp⟩
    · cases h
  | _ => cases h
def isaF : Fn := fun ds s => match ds with
  | [d, .ty c] => match kindD d s with
    | some t => if tyNames.contains c then .ok (.bl (isaB t c)) s else .bad
    | none => .bad
  | _ => .bad
theorem qc_isa : CallR X (.builtin "isinstance") (rC (wd X) isaF) := by
  intro pins sh σ H xs us Q I rv ⟨μ, s, ds, hs, r, W, σ', h⟩
  unfold isaF at h
  split at h
  · rename_i d c
    obtain ⟨x, y, rfl, r1, r2⟩ := r.inv2
    simp only [RV] at r2; subst r2
    split at h
    · rename_i t ht
      split at h
      · rename_i hc
        obtain ⟨k1, k2⟩ := kind_sound hs r1 ht
        exact call_isi pins sh σ H _ us Q I rv ⟨x, .ty c, _, _, _, rfl, .ty c, k1, kit_bb k2 (by simpa using hc), runs_pure h hs (by simp only [RV])⟩
      · exact h.elim
    · exact h.elim
  · exact h.elim
end
end Ev

namespace Ev
open PySem PySem.Spec PyProof.Rows L2
/-! ### exceptions that are made -/
theorem exd_frz {e : Addr} {fs : List (Str × V)} {o : Obj} {u : HO} : exd e fs ≠ .frz o u := fun z => by
  have z' : HO.ext _ = HO.frz o u := z
  cases z'
/-- what the written part says of the classes whose makers are walked -/
def ExcK (K : PySem.W.Frag) (mg : Str → Option Value) (cs : List Tx) (f : Str) : Prop := ∀ c ∈ cs, ∀ C, mg c = some (.ref C) → OexC K C ∧ PySem.W.findIn K (.ref C) f = some none
/-- the builtin maker, by an own class's name -/
def vinitE (cs : List Tx) (ms : As) : E := fun ρ s => (ms ρ s).bind fun ds s => match ds with
  | .ref a :: r => match s[a]? with
    | some (.exc c none) => if c ∈ cs ∧ r.length ≤ 1000 then .ok .non s else .bad
    | _ => .bad
  | _ => .bad
section
variable {X : Cx} {W : WX} {o e : Expr} {es : List Expr} {to te : TE} {ta : TA} {ms : As} {f : Str} {cs : List Tx} {p p' p1 p2 pos : Pos}
theorem pe_binit {pl : Sem Bool} {y : Str} {C0 : Addr} (hm : X.mg y = some (.ref C0)) (hs : PySem.W.specialIn X.K (.ref C0) "__getattribute__" = some (some (.builtin "type.__getattribute__"))) (hr : PySem.W.readsIn X.K C0 (.type "type") = true)
    (vV : PySem.W.findCls X.K (.ref C0) (.type "type") "__init__" = some (.val (.builtin "ValueError.__init__"))) (ha : PA X (e :: es) ta) (hg : Gl X y := by rfl) (hdb : (y == ("__debug__" : Str)) = false := by decide)
    (hc : eval (.Call (.Attribute (.Name y p1) "__init__" p2) (e :: es) [] pos) X.env = (do
      let ov ← eval (.Name y p1) X.env
      standAt p2.atName
      let (f, first) ← holding [ov] (getMethod ov "__init__" pl)
      callWith pos f first (backTo pos (starEach (e :: es) X.env)) (backToKw pos (keywordEach [] X.env))) := by rfl)
    (he : starEach (e :: es) X.env = (false, eval e X.env) :: starEach es X.env := by rfl) (hpl : (backTo pos (starEach es X.env)).any (·.1) = false := by rfl) :
    PE X (.Call (.Attribute (.Name y p1) "__init__" p2) (e :: es) [] pos) (tVeI X.K ta) := by
  refine ⟨fun pins s σ H Q I h => ?_⟩
  refine PySem.W.methodCall_KW (ld_glob I hg hm ?_ hdb) hc
  refine PySem.W.method_cls I.kIn hs (PySem.W.cls_value I.kIn hr vV (by decide +kernel) ?_)
  show wpAny _ _ (callWith pos (Value.builtin "ValueError.__init__") [] (backTo pos (starEach (e :: es) X.env)) []) _ _ _
  refine PyProof.Rows.callWith_method1 (thn (ha.run pos pins _ σ H _ (I.tok _) h) fun us s1 ⟨vs, H1, I1, r1, a, C, ws, ev, hl, T, ea, q⟩ => ?_) he hpl
  subst ev
  cases r1 with
  | @cons _ u0 _ ur ra rw' =>
    obtain rfl : u0 = Value.ref a := ra
    have hlen : ur.length ≤ sizeLine := by
      rw [← Paired.length rw', sizeLine_eq]
      omega
    exact oinit_ok T I1 ea hlen fun s' J => ⟨.non, H1, J, rfl, q⟩
theorem q_vinit {pl : Sem Bool} {y : Str} {C0 : Addr} (hk : ∀ c ∈ cs, ∀ C, X.mg c = some (.ref C) → OexC X.K C) (hm : X.mg y = some (.ref C0)) (hs : PySem.W.specialIn X.K (.ref C0) "__getattribute__" = some (some (.builtin "type.__getattribute__"))) (hr : PySem.W.readsIn X.K C0 (.type "type") = true)
    (vV : PySem.W.findCls X.K (.ref C0) (.type "type") "__init__" = some (.val (.builtin "ValueError.__init__"))) (ha : PA X (e :: es) (liftA (wd X) W ms)) (hg : Gl X y := by rfl) (hdb : (y == ("__debug__" : Str)) = false := by decide)
    (hc : eval (.Call (.Attribute (.Name y p1) "__init__" p2) (e :: es) [] pos) X.env = (do
      let ov ← eval (.Name y p1) X.env
      standAt p2.atName
      let (f, first) ← holding [ov] (getMethod ov "__init__" pl)
      callWith pos f first (backTo pos (starEach (e :: es) X.env)) (backToKw pos (keywordEach [] X.env))) := by rfl)
    (he : starEach (e :: es) X.env = (false, eval e X.env) :: starEach es X.env := by rfl) (hpl : (backTo pos (starEach es X.env)).any (·.1) = false := by rfl) :
    PE X (.Call (.Attribute (.Name y p1) "__init__" p2) (e :: es) [] pos) (liftE (wd X) W (vinitE cs ms)) :=
  pe_imp (pe_binit hm hs hr vV ha hg hdb hc he hpl) fun σ H Q ⟨μ, ρ, s, he, hst, h⟩ => ⟨μ, ρ, s, he, hst, runs_bind (Rel1 := RVs (wd X)) h fun ds s1 μ1 H1 vs e1 x1 hs1 r1 h1 => by
    split at h1
    · rename_i a r
      split at h1
      · rename_i c ei
        split at h1
        · rename_i hz
          simp only [RVs] at r1
          obtain ⟨x, ws, rfl, rx, rw'⟩ := r1
          simp only [RV] at rx
          obtain ⟨q, eq, rfl⟩ := rx
          have ro := hs1.at_ _ _ _ ei eq
          obtain ⟨C, mC, ⟨_, ea⟩ | ⟨_, _, z, _⟩⟩ := ro
          · exact ⟨q, C, ws, rfl, by rw [← rw'.length]; exact hz.2, hk c hz.1 C mC, ea, runs_pure h1 hs1 (by simp only [RV])⟩
          · cases z
        · exact h1.elim
      · exact h1.elim
    · exact h1.elim⟩
/-- o.f = e -/
def ostS (cs : List Tx) (f : Tx) (mo me : E) : C := fun ρ s => (me ρ s).stm ρ fun d s => (mo ρ s).stm ρ fun o s => match o with
  | .ref a => match s[a]? with
    | some (.exc c none) => if c ∈ cs then .nx ρ (List.set (s ++ [O.xn [(f, d)]]) a (O.exc c (some s.length))) else .bad
    | some (.exc c (some j)) => if c ∈ cs then match s[j]? with
      | some (.xn fs) => if fs.length ≤ 900 then .nx ρ (s.set j (.xn ((f, d) :: fs))) else .bad
      | _ => .bad
      else .bad
    | _ => .bad
  | _ => .bad
theorem RFs.length {g : Wd} {μ : List Addr} {H : Hp} : ∀ {fs : List (Tx × D)} {gs : List (Tx × V)}, RFs g μ H fs gs → fs.length = gs.length
  | [], _, h => by simp only [RFs] at h; subst h; rfl
  | (k, d) :: fs, _, ⟨y, r, e, _, b⟩ => by subst e; simp [RFs.length b]
theorem qs_ost {mo me : E} (hk : ExcK X.K X.mg cs f) (ho : PE X o (liftE (wd X) W mo)) (he : PE X e (liftE (wd X) W me)) (hw : swapsWith e (some (.Attribute o f p')) pos.line X.env = pure false := by rfl) :
    QS X W (.Assign [.Attribute o f p'] e pos) (ostS cs f mo me) :=
  ps_imp (ps_ost ho he hw) fun De σ H ⟨μ, ρ, s, hρ, hst, h⟩ => ⟨μ, ρ, s, hρ, hst, runs_stm (Rel1 := RV (wd X)) hρ h fun d s1 μ1 H1 y e1 x1 hs1 r1 h1 =>
    ⟨μ1, ρ, s1, hρ.mono x1, hs1, runs_stm (Rel1 := RV (wd X)) (hρ.mono x1) h1 fun oD s2 μ2 H2 x e2 x2 hs2 r2 h2 => by
      split at h2
      · rename_i a
        simp only [RV] at r2
        obtain ⟨q, eq, rfl⟩ := r2
        split at h2
        · rename_i c ei
          split at h2
          · rename_i hc
            obtain ⟨C, mC, ⟨_, ea⟩ | ⟨_, _, z, _⟩⟩ := hs2.at_ _ _ _ ei eq
            · obtain ⟨T, hno⟩ := hk c hc C mC
              refine ⟨q, C, rfl, T, hno, .inl ⟨ea, fun dx hd hne => ?_⟩⟩
              have xa : Ex μ2 H2 (μ2 ++ [dx]) (upd H2 dx (exd dx [(f, y)])) := ex_new hd [dx] (by simp [hd])
              have hs3 : Rs (wd X) (μ2 ++ [dx]) (upd H2 dx (exd dx [(f, y)])) (s2 ++ [.xn [(f, d)]]) := hs2.laid hd ⟨_, upd_same, y, [], rfl, (r1.mono x2).mono xa, rfl⟩
              have ea' : upd H2 dx (exd dx [(f, y)]) q = some (exo q C none) := by rw [upd_ne (fun z => hne z.symm)]; exact ea
              have xb : Ex (μ2 ++ [dx]) (upd H2 dx (exd dx [(f, y)])) (μ2 ++ [dx]) (upd (upd H2 dx (exd dx [(f, y)])) q (exo q C (some dx))) := ex_put ea' (fun _ => exo_tup) fun _ _ => exo_frz
              have hlt : a < μ2.length := (List.getElem?_eq_some_iff.mp eq).1
              have hs4 := hs3.put (i := a) (o := .exc c (some s2.length)) (by rw [List.getElem?_append_left hlt]; exact eq) ea' (fun _ => exo_tup) (fun _ _ => exo_frz) (ho := exo q C (some dx))
                ⟨C, mC, .inr ⟨s2.length, dx, rfl, by rw [← hs2.len]; simp, upd_same⟩⟩
              exact h2 _ _ _ (xa.trans xb) hs4 ((hρ.mono x1).mono x2 |>.mono (xa.trans xb))
            · cases z
          · exact h2.elim
        · rename_i c j ei
          split at h2
          · rename_i hc
            split at h2
            · rename_i fs ej
              split at h2
              · rename_i hl
                obtain ⟨C, mC, ⟨z, _⟩ | ⟨j', dx, z, edx, ea⟩⟩ := hs2.at_ _ _ _ ei eq
                · cases z
                · cases z
                  obtain ⟨T, hno⟩ := hk c hc C mC
                  obtain ⟨gs, ed, rf⟩ := hs2.at_ _ _ _ ej edx
                  refine ⟨q, C, rfl, T, hno, .inr ⟨dx, gs, ea, ed, by rw [← RFs.length rf]; exact hl, ?_⟩⟩
                  have xb : Ex μ2 H2 μ2 (upd H2 dx (exd dx ((f, y) :: gs))) := ex_put ed (fun _ => exd_tup) fun _ _ => exd_frz
                  have hs4 := hs2.put (i := j) (o := .xn ((f, d) :: fs)) edx ed (fun _ => exd_tup) (fun _ _ => exd_frz) (ho := exd dx ((f, y) :: gs)) ⟨_, upd_same, y, gs, rfl, (r1.mono x2).mono xb, RFs.mono xb rf⟩
                  exact h2 _ _ _ xb hs4 ((hρ.mono x1).mono x2 |>.mono xb)
              · exact h2.elim
            · exact h2.elim
          · exact h2.elim
        · exact h2.elim
      · exact h2.elim⟩⟩
end
end Ev

namespace Ev
open PySem PySem.Spec PyProof.Rows L2
/-! ### raise: the store is cut back -/
mutual
theorem RV.back {g : Wd} {μ ν : List Addr} {H H2 H' : Hp} (hT : ∀ p ys, SqT g.K H2 p ys → SqT g.K H' p ys) (hF : ∀ p ys, SqF g.K H2 p ys → SqF g.K H' p ys) : ∀ {d : D} {v1 v2 : V}, RV g μ H d v1 → RV g (μ ++ ν) H2 d v2 → RV g μ H' d v2
  | .non, _, _, _, h => by simpa only [RV] using h
  | .bl _, _, _, _, h => by simpa only [RV] using h
  | .int _, _, _, _, h => by simpa only [RV] using h
  | .str _, _, _, _, h => by simpa only [RV] using h
  | .ty _, _, _, _, h => by simpa only [RV] using h
  | .gl _, _, _, _, h => by simpa only [RV] using h
  | .ref a, v1, v2, h1, h2 => by
    simp only [RV] at h1 h2 ⊢
    obtain ⟨p, e, r⟩ := h1
    obtain ⟨q, e2, r2⟩ := h2
    have hl : a < μ.length := (List.getElem?_eq_some_iff.mp e).1
    rw [List.getElem?_append_left hl] at e2
    exact ⟨q, e2, r2⟩
  | .tup ds, v1, v2, h1, h2 => by
    simp only [RV] at h1 h2 ⊢
    obtain ⟨p, ys, _, _, r⟩ := h1
    obtain ⟨p2, ys2, e, q, r2⟩ := h2
    exact ⟨p2, ys2, e, hT _ _ q, RVs.back hT hF r r2⟩
  | .fl ds, v1, v2, h1, h2 => by
    simp only [RV] at h1 h2 ⊢
    obtain ⟨p, ys, _, _, r⟩ := h1
    obtain ⟨p2, ys2, e, q, r2⟩ := h2
    exact ⟨p2, ys2, e, hF _ _ q, RVs.back hT hF r r2⟩
theorem RVs.back {g : Wd} {μ ν : List Addr} {H H2 H' : Hp} (hT : ∀ p ys, SqT g.K H2 p ys → SqT g.K H' p ys) (hF : ∀ p ys, SqF g.K H2 p ys → SqF g.K H' p ys) : ∀ {ds : List D} {v1 v2 : List V}, RVs g μ H ds v1 → RVs g (μ ++ ν) H2 ds v2 → RVs g μ H' ds v2
  | [], _, _, _, h => by simpa only [RVs] using h
  | d :: ds, v1, v2, h1, h2 => by
    simp only [RVs] at h1 h2 ⊢
    obtain ⟨y, r, e, a, b⟩ := h1
    obtain ⟨y2, r2, e2, a2, b2⟩ := h2
    exact ⟨y2, r2, e2, RV.back hT hF a a2, RVs.back hT hF b b2⟩
end
theorem RKV.back {g : Wd} {μ ν : List Addr} {H H2 H' : Hp} (hT : ∀ p ys, SqT g.K H2 p ys → SqT g.K H' p ys) (hF : ∀ p ys, SqF g.K H2 p ys → SqF g.K H' p ys) : ∀ {ds : List (Key × D)} {v1 v2 : List (Key × V)}, RKV g μ H ds v1 → RKV g (μ ++ ν) H2 ds v2 → RKV g μ H' ds v2
  | [], _, _, _, h => h
  | (k, d) :: ds, v1, v2, ⟨y, r, e, a, b⟩, ⟨y2, r2, e2, a2, b2⟩ => ⟨y2, r2, e2, RV.back hT hF a a2, RKV.back hT hF b b2⟩
theorem RFs.back {g : Wd} {μ ν : List Addr} {H H2 H' : Hp} (hT : ∀ p ys, SqT g.K H2 p ys → SqT g.K H' p ys) (hF : ∀ p ys, SqF g.K H2 p ys → SqF g.K H' p ys) : ∀ {ds : List (Tx × D)} {v1 v2 : List (Tx × V)}, RFs g μ H ds v1 → RFs g (μ ++ ν) H2 ds v2 → RFs g μ H' ds v2
  | [], _, _, _, h => h
  | (k, d) :: ds, v1, v2, ⟨y, r, e, a, b⟩, ⟨y2, r2, e2, a2, b2⟩ => ⟨y2, r2, e2, RV.back hT hF a a2, RFs.back hT hF b b2⟩
theorem RO.back {g : Wd} {μ ν : List Addr} {H H2 H' : Hp} {p : Addr} {o : O} (hT : ∀ p ys, SqT g.K H2 p ys → SqT g.K H' p ys) (hF : ∀ p ys, SqF g.K H2 p ys → SqF g.K H' p ys) (e : H' p = H2 p) (h1 : RO g μ H p o) (h2 : RO g (μ ++ ν) H2 p o) : RO g μ H' p o := by
  have back : ∀ {j : Nat} {x y : Addr}, μ[j]? = some x → (μ ++ ν)[j]? = some y → μ[j]? = some y := fun {j x y} a b => by
    have hl : j < μ.length := (List.getElem?_eq_some_iff.mp a).1
    rw [List.getElem?_append_left hl] at b
    exact b
  cases o with
  | lst ds => obtain ⟨_, _, b1⟩ := h1; obtain ⟨ys, a, b⟩ := h2; exact ⟨ys, by rw [e]; exact a, b1.back hT hF b⟩
  | flst ds => obtain ⟨_, _, _, b1⟩ := h1; obtain ⟨o, ys, a, b⟩ := h2; exact ⟨o, ys, by rw [e]; exact a, b1.back hT hF b⟩
  | dct ds => obtain ⟨_, _, b1⟩ := h1; obtain ⟨ys, a, b⟩ := h2; exact ⟨ys, by rw [e]; exact a, b1.back hT hF b⟩
  | ins c fs => obtain ⟨_, _, _, _, _, b1⟩ := h1; obtain ⟨C, dx, gs, m, a, b⟩ := h2; exact ⟨C, dx, gs, m, by rw [e]; exact a, b1.back hT hF b⟩
  | exc c d =>
    obtain ⟨C, m, ⟨d0, a⟩ | ⟨j, dx, d0, ej, a⟩⟩ := h2
    · exact ⟨C, m, .inl ⟨d0, by rw [e]; exact a⟩⟩
    · obtain ⟨_, _, ⟨z, _⟩ | ⟨j', dx', d0', ej', _⟩⟩ := h1
      · rw [d0] at z; cases z
      · rw [d0] at d0'; cases d0'
        exact ⟨C, m, .inr ⟨j, dx, d0, back ej' ej, by rw [e]; exact a⟩⟩
  | exh c j =>
    obtain ⟨_, _, _, ej', _⟩ := h1
    obtain ⟨C, dx, m, ej, a⟩ := h2
    exact ⟨C, dx, m, back ej' ej, by rw [e]; exact a⟩
  | xd fs => obtain ⟨_, _, b1⟩ := h1; obtain ⟨gs, a, b⟩ := h2; exact ⟨gs, by rw [e]; exact a, b1.back hT hF b⟩
  | xn fs => obtain ⟨_, _, b1⟩ := h1; obtain ⟨gs, a, b⟩ := h2; exact ⟨gs, by rw [e]; exact a, b1.back hT hF b⟩
mutual
def D.inB (n : Nat) : D → Bool
  | .ref a => decide (a < n)
  | .tup xs => D.inBs n xs
  | .fl xs => D.inBs n xs
  | _ => true
def D.inBs (n : Nat) : List D → Bool
  | [] => true
  | x :: xs => D.inB n x && D.inBs n xs
end
mutual
theorem RV.cut {g : Wd} {μ ν : List Addr} {H2 H' : Hp} (hT : ∀ p ys, SqT g.K H2 p ys → SqT g.K H' p ys) (hF : ∀ p ys, SqF g.K H2 p ys → SqF g.K H' p ys) : ∀ {d : D} {v : V}, D.inB μ.length d = true → RV g (μ ++ ν) H2 d v → RV g μ H' d v
  | .non, _, _, h => by simpa only [RV] using h
  | .bl _, _, _, h => by simpa only [RV] using h
  | .int _, _, _, h => by simpa only [RV] using h
  | .str _, _, _, h => by simpa only [RV] using h
  | .ty _, _, _, h => by simpa only [RV] using h
  | .gl _, _, _, h => by simpa only [RV] using h
  | .ref a, v, hb, h => by
    simp only [RV] at h ⊢
    simp only [D.inB, decide_eq_true_eq] at hb
    obtain ⟨q, e2, r2⟩ := h
    rw [List.getElem?_append_left hb] at e2
    exact ⟨q, e2, r2⟩
  | .tup ds, v, hb, h => by
    simp only [RV] at h ⊢
    simp only [D.inB] at hb
    obtain ⟨p, ys, e, q, r⟩ := h
    exact ⟨p, ys, e, hT _ _ q, RVs.cut hT hF hb r⟩
  | .fl ds, v, hb, h => by
    simp only [RV] at h ⊢
    simp only [D.inB] at hb
    obtain ⟨p, ys, e, q, r⟩ := h
    exact ⟨p, ys, e, hF _ _ q, RVs.cut hT hF hb r⟩
theorem RVs.cut {g : Wd} {μ ν : List Addr} {H2 H' : Hp} (hT : ∀ p ys, SqT g.K H2 p ys → SqT g.K H' p ys) (hF : ∀ p ys, SqF g.K H2 p ys → SqF g.K H' p ys) : ∀ {ds : List D} {vs : List V}, D.inBs μ.length ds = true → RVs g (μ ++ ν) H2 ds vs → RVs g μ H' ds vs
  | [], _, _, h => by simpa only [RVs] using h
  | d :: ds, vs, hb, h => by
    simp only [RVs] at h ⊢
    simp only [D.inBs, Bool.and_eq_true] at hb
    obtain ⟨y, r, e, a, b⟩ := h
    exact ⟨y, r, e, RV.cut hT hF hb.1 a, RVs.cut hT hF hb.2 b⟩
end
def fsB (n : Nat) : List (Tx × D) → Bool
  | [] => true
  | (_, d) :: r => D.inB n d && fsB n r
theorem RFs.cut {g : Wd} {μ ν : List Addr} {H2 H' : Hp} (hT : ∀ p ys, SqT g.K H2 p ys → SqT g.K H' p ys) (hF : ∀ p ys, SqF g.K H2 p ys → SqF g.K H' p ys) : ∀ {ds : List (Tx × D)} {vs : List (Tx × V)}, fsB μ.length ds = true → RFs g (μ ++ ν) H2 ds vs → RFs g μ H' ds vs
  | [], _, _, h => h
  | (k, d) :: ds, vs, hb, ⟨y, r, e, a, b⟩ => by
    simp only [fsB, Bool.and_eq_true] at hb
    exact ⟨y, r, e, RV.cut hT hF hb.1 a, RFs.cut hT hF hb.2 b⟩
/-- what is left of a maker's run: n what stood there -/
structure Mk1 (c : Tx) (s1 s2 : S) (fs : List (Tx × D)) : Prop where
  h : s2 = s1 ++ [O.exc c (some (s1.length + 1)), O.xn fs]
  hb : fsB s1.length fs = true
open Classical in
noncomputable def made (c : Tx) (s1 : S) (ρ : En) : R D → RS
  | .ok .non s2 => if h : ∃ fs, Mk1 c s1 s2 fs then .err c h.choose ρ s1 else .bad
  | _ => .bad
theorem made_eq {c : Tx} {s1 : S} {ρ : En} {fs : List (Tx × D)} (hb : fsB s1.length fs = true) : made c s1 ρ (.ok .non (s1 ++ [O.exc c (some (s1.length + 1)), O.xn fs])) = .err c fs ρ s1 := by
  have h : ∃ fs', Mk1 c s1 (s1 ++ [O.exc c (some (s1.length + 1)), O.xn fs]) fs' := ⟨fs, ⟨rfl, hb⟩⟩
  have e : h.choose = fs := by
    obtain ⟨h1, _⟩ := h.choose_spec
    have := List.append_cancel_left h1
    simp at this
    exact this.symm
  simp only [made]
  rw [dif_pos h, e]
/-- raise C(..) -/
noncomputable def raiseS (c : Tx) (f : Fn) (ms : As) : C := fun ρ s => (ms ρ s).stm ρ fun ds s1 => if ds.length ≤ 1000 then made c s1 ρ (f (.ref s1.length :: ds) (s1 ++ [.exc c none])) else .bad
section
variable {X : Cx} {W : WX} {e : Expr} {es : List Expr} {ta : TA} {ms : As} {f : Fn} {k : Nat} {p pos pos2 : Pos}
theorem pmk_gen {x : Str} {C fI : Addr} (T : OexC X.K C) (iC : PySem.W.findIn X.K (.ref C) "__init__" = some (some (.ref fI))) (tI : PySem.W.typeIn X.K (.ref fI) = some (.type "function"))
    (F1 : FnG X.prog X.w X.K X.mg X.base k fI (spF (wd X) f)) (hr : Rm (k + 1) X.A) (hm : X.mg x = some (.ref C)) (ha : PA X (e :: es) ta) (hg : Gl X x := by rfl)
    (hdb : (x == ("__debug__" : Str)) = false := by decide) (he : starEach (e :: es) X.env = (false, eval e X.env) :: starEach es X.env := by rfl) (hpl : (backTo pos (starEach es X.env)).any (·.1) = false := by rfl) :
    PMk X (.Call (.Name x p) (e :: es) [] pos) (tMkO C (spF (wd X) f) [] ta) := by
  intro pins s σ H Q I h
  obtain ⟨nm, q, N, bs, bm, sn, sub, ab, col, dd, k0, k1, k2, k3, k5, hC, hbm⟩ := T.cls
  refine wpAny_Call_Name_kw (ld_glob I hg hm ?_ hdb)
  refine PySem.W.callWith_K (h₀ := X.base) I.ok.mod.kin T.kC (thn (ha.run pos pins s σ H _ I h) fun us s1 ⟨vs, H1, I1, r1, hz, q1⟩ => ⟨I1.kIn, ?_⟩) he hpl
  show wpAny _ _ (call (.ref C) us) _ _ _
  obtain ⟨hp, g, dr, tk, os⟩ := s1
  have hsz : hp.objs.size ≤ hp.objs.size + 1 := Nat.le_succ _
  have hn : H1 (hp.objs.size + 1) = none := I1.hok.fresh hsz
  have hq := q1 (hp.objs.size + 1) hn
  have kk : ∀ b o, hp.get? b = some o → ((hp.push (PySem.W.kdv_tup us)).push (PySem.HandSPX.excO C hp.objs.size)).get? b = some o := fun b o e => Heap.get?_push_of_some _ (Heap.get?_push_of_some _ e)
  have hget : ((hp.push (PySem.W.kdv_tup us)).push (PySem.HandSPX.excO C hp.objs.size)).get? (hp.objs.size + 1) = some (PySem.HandSPX.excO C hp.objs.size) := by heap_get
  have I2 : Inv X pins σ (upd H1 (hp.objs.size + 1) (exo (hp.objs.size + 1) C none)) ⟨(hp.push (PySem.W.kdv_tup us)).push (PySem.HandSPX.excO C hp.objs.size), g, dr, tk, os⟩ :=
    I1.laid (t' := tk) (a := hp.objs.size + 1) (o := exo (hp.objs.size + 1) C none) (h' := (hp.push (PySem.W.kdv_tup us)).push (PySem.HandSPX.excO C hp.objs.size)) kk hsz (exo_ok hget)
  have r2 : Vals (V.ref (hp.objs.size + 1) :: (vs ++ [])) (Value.ref (hp.objs.size + 1) :: us) := by rw [List.append_nil]; exact .cons rfl r1
  have hus : us.length ≤ sizeLine := by
    rw [← Paired.length r1, sizeLine_eq]
    omega
  refine wpAny_call (PySem.HandSPX.call_own F.excBase_ValueError (fun Y => PySem.HandSPX.refsVE_contains Y bm hbm) (I1.kIn _ _ hC) (PySem.W.looks_findIn I1.kIn iC) (fun self => PySem.W.bind_fn I1.kIn self tI) hus
    (codeAny_mono (F1 _ X.stack _ _ (Value.ref (hp.objs.size + 1) :: us) _ _ (fun _ _ _ => False) ⟨hr.r.make C us [], hr.g⟩ (I2.env0.make C us []) r2 hq) fun r s' hq' => ?_))
  cases r with
  | error er =>
    obtain ⟨_, _, _, _, _, _, _, _, _, _, _, _, hE⟩ := hq'
    exact hE.elim
  | ok fl =>
    cases fl with
    | ret u =>
      obtain ⟨v, H2, os2, bare2, un2, hok2, rv, ev, d, fs, ea, ed, hd1, q2⟩ := hq'
      subst ev
      obtain ⟨h2, g2, d2, t2, os'⟩ := s'
      exact ⟨rv, mk_end (raises_own T.exC T.tyC) I1 hsz kk un2 hok2 os2 bare2 ea ed hd1 q2⟩
    | next => exact False.elim hq'
    | brk => exact False.elim hq'
    | cont => exact False.elim hq'
theorem qs_raise {x : Str} {C fI : Addr} (hc : X.calm = true) (tk : Takes X W) (T : OexC X.K C) (iC : PySem.W.findIn X.K (.ref C) "__init__" = some (some (.ref fI))) (tI : PySem.W.typeIn X.K (.ref fI) = some (.type "function"))
    (F1 : FnG X.prog X.w X.K X.mg X.base k fI (spF (wd X) f)) (hr : Rm (k + 1) X.A) (hm : X.mg x = some (.ref C)) (ha : PA X (e :: es) (liftA (wd X) W ms)) (hg : Gl X x := by rfl)
    (hdb : (x == ("__debug__" : Str)) = false := by decide) (he : starEach (e :: es) X.env = (false, eval e X.env) :: starEach es X.env := by rfl) (hpl : (backTo pos (starEach es X.env)).any (·.1) = false := by rfl) :
    QS X W (.Raise (some (.Call (.Name x p) (e :: es) [] pos)) none pos2) (raiseS x f ms) :=
  ps_imp (ps_raise hc tk (pmk_gen T iC tI F1 hr hm ha hg hdb he hpl)) fun De σ H ⟨μ, ρ, s, hρ, hst, h⟩ => ⟨μ, ρ, s, hρ, hst, runs_stm (Rel1 := RVs (wd X)) hρ h fun ds s1 μ1 H1 vs e1 x1 hs1 r1 h1 => by
    split at h1
    · rename_i hl
      refine ⟨by rw [← r1.length]; exact hl, fun a ha0 => ?_⟩
      have xa : Ex μ1 H1 (μ1 ++ [a]) (upd H1 a (exo a C none)) := ex_new ha0 [a] (by simp [ha0])
      have hs2 : Rs (wd X) (μ1 ++ [a]) (upd H1 a (exo a C none)) (s1 ++ [.exc x none]) := hs1.laid ha0 ⟨C, hm, .inl ⟨rfl, upd_same⟩⟩
      refine ⟨μ1 ++ [a], .ref s1.length :: ds, s1 ++ [.exc x none], ?_, hs2, ?_⟩
      · rw [List.append_nil]
        exact ⟨.ref a, vs, rfl, ⟨a, by rw [← hs1.len]; simp, rfl⟩, r1.mono xa⟩
      · cases q : f (.ref s1.length :: ds) (s1 ++ [.exc x none]) with
        | bad => rw [q] at h1; exact h1.elim
        | err c fs s => rw [q] at h1; exact h1.elim
        | ok v s2 =>
          rw [q] at h1
          cases v with
          | non =>
            unfold made at h1
            simp only at h1
            split at h1
            · rename_i hex
              obtain ⟨e2, hb⟩ := hex.choose_spec
              generalize hex.choose = fs at e2 hb h1
              intro μ2 H2 b x2 hs3 rb
              simp only [RV] at rb
              refine ⟨rb, ?_⟩
              obtain ⟨ν, eν, hν⟩ := x2.pre
              subst e2
              have hlen := hs3.len
              simp only [List.length_append, List.length_cons, List.length_nil] at hlen
              have l1 : μ1.length = s1.length := hs1.len
              have hν1 : ν.length = 1 := by
                rw [eν] at hlen
                simp only [List.length_append, List.length_cons, List.length_nil] at hlen
                omega
              obtain ⟨d, rfl⟩ : ∃ d, ν = [d] := by
                match ν, hν1 with
                | [d], _ => exact ⟨d, rfl⟩
              have eμ : μ2 = μ1 ++ [a, d] := by rw [eν]; simp
              subst eμ
              have ia : (μ1 ++ [a, d])[s1.length]? = some a := by rw [← l1]; simp
              have id' : (μ1 ++ [a, d])[s1.length + 1]? = some d := by rw [← l1]; simp
              obtain ⟨C', mC, ⟨z, _⟩ | ⟨j, dx, z, ej, ea⟩⟩ := hs3.at_ s1.length (O.exc x (some (s1.length + 1))) a (by simp) ia
              · cases z
              · cases z
                rw [show (wd X).mg x = some (.ref C) from hm] at mC
                cases mC
                rw [id'] at ej
                cases ej
                obtain ⟨gs, ed, rf⟩ := hs3.at_ (s1.length + 1) (O.xn fs) d (by simp) id'
                have hda : d ≠ a := fun z => by
                  have nd := hs3.nd
                  rw [z, List.nodup_append] at nd
                  simp at nd
                have hd1 : H1 d = none := by
                  have z := hν d (by simp)
                  rw [upd_ne hda] at z
                  exact z
                refine ⟨d, gs, ea, ed, hd1, ?_⟩
                have hT : ∀ p ys, SqT (wd X).K H2 p ys → SqT (wd X).K (upd (del H2 a) d (.xd gs)) p ys := fun p ys hh => by
                  rcases hh with (hh | ⟨o, hh⟩) | hh
                  · exact .inl (.inl (by rw [upd_ne (at_ne ed hh exd_tup), del_ne (at_ne ea hh exo_tup)]; exact hh))
                  · exact .inl (.inr ⟨o, by rw [upd_ne (at_ne ed hh exd_frz), del_ne (at_ne ea hh exo_frz)]; exact hh⟩)
                  · exact .inr hh
                have hF : ∀ p ys, SqF (wd X).K H2 p ys → SqF (wd X).K (upd (del H2 a) d (.xd gs)) p ys := fun p ys hh => by
                  rcases hh with ⟨o, hh⟩ | hh
                  · exact .inl ⟨o, by rw [upd_ne (at_ne ed hh exd_frz), del_ne (at_ne ea hh exo_frz)]; exact hh⟩
                  · exact .inr hh
                have nd := hs3.nd
                have hmem : ∀ q ∈ μ1, q ≠ a ∧ q ≠ d := fun q hq => by
                  rw [List.nodup_append] at nd
                  exact ⟨nd.2.2 q hq a (by simp), nd.2.2 q hq d (by simp)⟩
                have hs' : Rs (wd X) μ1 (upd (del H2 a) d (.xd gs)) s1 := ⟨hs1.len, hs1.nd, fun i o q ei eq => by
                  have hq := hmem q (List.mem_of_getElem? eq)
                  have hi : i < s1.length := (List.getElem?_eq_some_iff.mp ei).1
                  exact RO.back (ν := [a, d]) hT hF (by rw [upd_ne hq.2, del_ne hq.1]) (hs1.at_ i o q ei eq) (hs3.at_ i o q (by rw [List.getElem?_append_left hi]; exact ei) (by rw [List.getElem?_append_left (by rw [l1]; exact hi)]; exact eq))⟩
                have xx : Ex μ1 H1 μ1 (upd (del H2 a) d (.xd gs)) := by
                  have x3 := xa.trans x2
                  refine ⟨⟨[], by simp⟩, fun p hp => ?_, fun p ys hp => ?_, fun p o u hp => ?_⟩
                  · by_cases hpa : p = a
                    · rw [hpa]; exact ha0
                    · have hpd : p ≠ d := fun z => by rw [z, upd_same] at hp; cases hp
                      rw [upd_ne hpd, del_ne hpa] at hp
                      exact x3.trk p hp
                  · have z := x3.tup p ys hp
                    rw [upd_ne (at_ne ed z exd_tup), del_ne (at_ne ea z exo_tup)]; exact z
                  · have z := x3.frz p o u hp
                    rw [upd_ne (at_ne ed z exd_frz), del_ne (at_ne ea z exo_frz)]; exact z
                exact h1 μ1 _ σ C d xx hs' ((hρ.mono x1).mono xx) hm ⟨hd1, fun z => (hmem d z).2 rfl, gs, upd_same, RFs.cut (ν := [a, d]) hT hF (by rw [l1]; exact hb) rf⟩
            · exact h1.elim
          | _ => exact h1.elim
    · exact h1.elim⟩
end
end Ev

namespace Ev
open PySem PySem.Spec PyProof.Rows L2
/-! ### try: body, except X as e: suite; what is caught stands in the store -/
/-- an object of ours that stood untracked is tracked from now on; sI: the state without it -/
theorem adopt {X : Cx} {pins : List (Addr × Obj)} {σ : L2.St} {H : Hp} {sI s : Shared} {a : Addr} {o : HO} (J : Inv X pins σ H sI) (I : Inv X pins σ H s) (hn : sI.heap.get? a = none) (na : H a = none) (nL : a ≠ X.env.locals)
    (ob : ObjOk X.prog X.w (upd H a o) s.heap a o) : Inv X pins σ (upd H a o) s := by
  have old : ∀ b u, X.s_0.heap.get? b = some u → b ∉ X.ex → b ≠ a := fun b u e hx z => by
    obtain ⟨v, q⟩ := J.base.there b u e hx
    rw [z, hn] at q; cases q
  have nonz : ∀ {b : Addr} {u : HO}, H b = some u → b ≠ a := fun {b u} e => ne_of_none e na
  refine ⟨I.ok, I.os, I.bare, ⟨I.base.keep, I.base.slot, fun b u e n hx => ?_, I.base.there, fun b xs e => ?_, fun b u v e => ?_, fun b ps e => ?_⟩, I.loc, I.cell, ?_, fun x c e => ?_, fun p hp => ?_, fun b u e => ?_, I.len⟩
  · rw [upd_ne (old b u e hx)]
    exact I.base.free b u e n hx
  · have z := I.base.tups b xs e
    rw [upd_ne (nonz z)]; exact z
  · have z := I.base.frzs b u v e
    rw [upd_ne (nonz z)]; exact z
  · obtain ⟨m, z⟩ := I.base.tbls b ps e
    exact ⟨m, by rw [upd_ne (nonz z)]; exact z⟩
  · rw [upd_ne (Ne.symm nL)]; exact I.free
  · obtain ⟨v, u, ho, _⟩ := J.cell x c e
    rw [upd_ne (fun z => by rw [z, hn] at ho; cases ho)]
    exact I.freeC x c e
  · obtain ⟨e1, e2, e3⟩ := I.pin p hp
    have ne : p.1 ≠ a := fun z => by
      have q := (J.pin p hp).1
      rw [z, hn] at q; cases q
    exact ⟨e1, by rw [upd_ne ne]; exact e2, e3⟩
  · by_cases hb : b = a
    · subst hb
      rw [upd_same] at e; cases e
      exact ob
    · rw [upd_ne hb] at e
      exact (I.hok b u e).stay (fun _ _ _ q => q) (fun c q => by rw [upd_ne (nonz q)]; exact q) fun c xs q => by rw [upd_ne (nonz q)]; exact q
theorem exh_ok {P : Program} {w : World} {H : Hp} {h : Heap} {a C d : Addr} {oe : Obj} {vs : Array Value} (he : h.get? a = some oe) (hz : Zc (.ref C) (some d) oe) (hd : oe.data = .fields vs) : ObjOk P w H h a (exh a C d) :=
  ⟨⟨oe, vs, he, hz, hd⟩, ⟨_, he⟩, fun h1 h2 z k => by
    obtain ⟨o1, v1, e1, z1, d1⟩ := z
    exact ⟨o1, v1, k _ e1, z1, d1⟩⟩
theorem exh_at {P : Program} {w : World} {H : Hp} {h : Heap} {a C d : Addr} (hok : HOk P w H h) (e : H a = some (exh a C d)) : ∃ (oe : Obj) (vs : Array Value), h.get? a = some oe ∧ Zc (.ref C) (some d) oe ∧ oe.data = .fields vs := by
  have x : ObjOk P w H h a (.ext fun h => ∃ (oe : Obj) (vs : Array Value), h.get? a = some oe ∧ Zc (.ref C) (some d) oe ∧ oe.data = .fields vs) := hok a _ e
  exact x.1
/-- the wish of the clause -/
def wT (K : PySem.W.Frag) (c : Value) (i : Nat) (ts : TS) (Wout : WX) (De : Ends) : WX := fun cls d σ H =>
  ∃ (b : Bool) (C dx : Addr), cls = .ref C ∧ d = some dx ∧ PySem.W.exmOne K cls c = some b ∧
    (b = true → ∀ a, H a = none → ts { nx := fun σ' H' => De.nx (σ'.set i none) H', rt := De.rt, bk := fun σ' H' => De.bk (σ'.set i none) H', ct := fun σ' H' => De.ct (σ'.set i none) H' } (σ.set i (some (.ref a))) (upd H a (exh a C dx))) ∧ (b = false → Wout cls d σ H)
theorem unsuite' {X : Cx} {pins pn' : List (Addr × Obj)} {σ : L2.St} {H : Hp} {s : Shared} {a : Addr} (I : Inv (X.suite a (X.pn ++ pins)) pn' σ H s) (ok : X.Ok) : Inv X pins σ H s :=
  { ok := ok, os := I.os, bare := I.bare, base := I.base, loc := I.loc, cell := I.cell, free := I.free, freeC := I.freeC, pin := fun p hp => I.pin p (List.mem_append_left _ hp), hok := I.hok, len := I.len }
theorem intoSuite {X : Cx} {pins : List (Addr × Obj)} {σ : L2.St} {H : Hp} {s : Shared} (I : Inv X pins σ H s) (a : Addr) : Inv (X.suite a (X.pn ++ pins)) [] σ H s :=
  { ok := I.ok.suite _ _, os := I.os, bare := I.bare, base := I.base, loc := I.loc, cell := I.cell, free := I.free, freeC := I.freeC, pin := fun p hp => I.pin p (by rw [List.append_nil] at hp; exact hp), hok := I.hok, len := I.len }
section
variable {X : Cx} {x n : Str} {c : Value} {i : Nat} {body suite : List Stmt} {b₀ : Stmt} {np pos pos' : Pos} {tb : WX → TS} {ts : TS} {Wout : WX}
/-- the clause, looked at -/
theorem clause_ok {pins : List (Addr × Obj)} {σ : L2.St} {H : Hp} {s' sI : Shared} {D : Ends} {a : Addr} {B : Heap} {cls : Value} {d : Option Addr} (ok : X.Ok) (hs : X.stack = X.env :: X.outer) (hf : X.env.frame = some X.env.locals) (hN : X.N.Nodup) (hi : X.N[i]? = some n) (hln : X.env.kindOf n = some .local) (hc : Names X x c)
    (tk : Takes X Wout) (hsu : ∀ (a : Addr) (pn : List (Addr × Obj)), PSs (X.suite a pn) (b₀ :: suite) ts)
    (J : Inv X pins σ H sI) (nb : ∀ b o, sI.heap.get? b = some o → b ∉ frs X.stack → B.get? b = some o) (up : sI.heap.UpToSlots s'.heap) (sky : Sky B X.stack a (Zc cls d) X.env.locals s'.heap) (na : H a = none) (os : s'.os = sI.os) (ag : AllBare s'.gens) (ww : wT X.K c i ts Wout D cls d σ H) :
    wpAny (model X.prog X.w) X.A (noteFrame (.ref a) X.env) (fun _ s₂ => wpAny (model X.prog X.w) X.A (setFlight (.ref a) none) (fun _ s₃ =>
      wpAny (model X.prog X.w) X.A (handleBy (.ref a) X.env [.ExceptHandler (some (.Name x np)) (some n) (b₀ :: suite) pos']) (SP X pins D) X.xe s₃) X.xe s₂) X.xe s' := by
  obtain ⟨b, C, dx, rfl, rfl, hb1, hyes, hno⟩ := ww
  have frm : X.A.frames = some (X.env :: X.outer) := ok.frames.trans (congrArg some hs)
  rw [hs] at sky
  refine Sky.land Zc.steady frm hf sky fun h3 fl up3 => ?_
  have landed : ∀ {h : Heap}, B.StaysIn h → sI.heap.UpToSlots h → Inv X pins σ H { s' with heap := h } := fun st u => J.landed nb st u os ag
  obtain ⟨o3, v3, g3, z3, dt3⟩ := fl.there
  -- where it stands: in no frame
  have away : ∀ L, L ∈ frs (X.env :: X.outer) → a ≠ L := fun L hL z => by
    obtain ⟨_, o', e', nf⟩ := fl.2.2.1.mem hL
    rw [← z, g3] at e'
    cases e'
    exact nf _ dt3
  have nL : a ≠ X.env.locals := away _ (List.mem_filterMap.mpr ⟨X.env, List.mem_cons_self, hf⟩)
  have hn : sI.heap.get? a = none := by
    cases q : sI.heap.get? a with
    | none => rfl
    | some o =>
      have z := nb a o q (by rw [hs]; exact fun hm => away a hm rfl)
      rw [fl.2.1] at z; cases z
  have into : ∀ {h : Heap} {oe : Obj} {vs : Array Value}, Inv X pins σ H { s' with heap := h } → h.get? a = some oe → Zc (.ref C) (some dx) oe → oe.data = .fields vs → Inv (X.suite a (X.pn ++ pins)) [] σ (upd H a (exh a C dx)) { s' with heap := h } :=
    fun I e1 e2 e3 => intoSuite (adopt J I hn na nL (exh_ok e1 e2 e3)) a
  have S3 := into (landed fl.1 (up.trans up3)) g3 z3 dt3
  refine wpAny_handleBy_cons (codeAny_handlers_test ?_) (by intro q; cases q)
  have LT : PySem.W.Looks (model X.prog X.w) h3 (typeOf (.ref a)) (.ref C) := fun A Q E s k q => wpAny_typeOf_ref (k _ _ g3) (by rw [z3.1]; exact q)
  have LM := PySem.W.exm_one (M := model X.prog X.w) S3.kIn LT hb1
  have clause : ∀ {Q E : Value → Shared → Prop}, Q c { s' with heap := h3 } → wpAny (model X.prog X.w) (X.A.mark (some (.ref a))) (eval (.Name x np) X.env) Q E { s' with heap := h3 } := fun {Q E} q => by
    obtain ⟨hg, hdbg, hm | ⟨hm, hv, hnn⟩⟩ := hc
    · exact ld_glob (X := X.suite a (X.pn ++ pins)) S3 hg hm q hdbg
    · exact ld_blt (X := X.suite a (X.pn ++ pins)) S3 hg hm hv q hnn hdbg
  refine clause (LM.here ?_)
  cases b with
  | false =>
    refine wpAny_handleBy_nil (E := X.xe) ?_
    obtain ⟨_, _, _, oe, vs, T, _, _, he, _, hd, h1, _⟩ := id fl
    unfold PySem.passOn
    refine wpAny_bind (wpAny_field he hd h1 ?_)
    rw [if_neg (show ¬ ((Value.ref T == Value.none) = true) from by simp)]
    have out : wpAny (model X.prog X.w) X.A (setFlight (.ref a) X.env.frame) (fun _ s4 => wpAny (model X.prog X.w) X.A (throw (.ref a) : Sem Flow) (SP X pins D) X.xe s4) X.xe { s' with heap := h3 } := by
      rw [hf]
      refine HandSPX.setFlight_upZ fl fun h4 hh4 up4 => wpAny_throw (tk _ _ ?_)
      exact ⟨a, B, sI, pins, σ, H, .ref C, some dx, rfl, J, nb, (up.trans up3).trans up4, .inr (.inr (by rw [hs]; exact hh4)), na, os, ag, hno rfl⟩
    first
      | exact wpAny_bind (wpAny_pure (wpAny_bind out))
      | exact wpAny_bind out
  | true =>
    refine codeAny_handlers_suite_as ?_
    refine HandSPX.lands_againZ fl fun h4 fl4 up4 => ?_
    obtain ⟨o4, v4, g4, z4, dt4⟩ := fl4.there
    have S4 := into (landed fl4.1 ((up.trans up3).trans up4)) g4 z4 dt4
    refine store_ok (X := X.suite a (X.pn ++ pins)) (v := .ref a) S4 hN hi (.inl hln) rfl (fun s5 S5 => ?_) (.inr hln)
    refine wpAny_mono ((hsu a (X.pn ++ pins)).run [] s5 _ _ _ S5 (hyes rfl a na)) (fun fl6 s6 sp => ?_) (fun _ _ z => z.elim)
    have leave : ∀ {σ6 : L2.St} {H6 : Hp} {Q : Shared → Prop}, Inv (X.suite a (X.pn ++ pins)) [] σ6 H6 s6 → (∀ s7, Inv X pins (σ6.set i none) H6 s7 → Q s7) →
        wpAny (model X.prog X.w) X.A (do bindName X.env n .none; unbindBehindTheSuite X.env n pos') (fun _ s7 => Q s7) X.xe s6 := fun S6 hq => gone_ok (unsuite' S6 ok) hN hi hln hq
    cases fl6 with
    | next =>
      obtain ⟨_, _, S6, q6⟩ := sp
      exact leave S6 fun s7 J7 => ⟨_, _, J7, q6⟩
    | brk =>
      obtain ⟨_, _, S6, q6⟩ := sp
      exact leave S6 fun s7 J7 => ⟨_, _, J7, q6⟩
    | cont =>
      obtain ⟨_, _, S6, q6⟩ := sp
      exact leave S6 fun s7 J7 => ⟨_, _, J7, q6⟩
    | ret u =>
      obtain ⟨_, _, _, S6, r6, q6⟩ := sp
      exact leave S6 fun s7 J7 => ⟨_, _, _, J7, r6, q6⟩
theorem ps_try_own (hs : X.stack = X.env :: X.outer) (hf : X.env.frame = some X.env.locals) (hN : X.N.Nodup) (hi : X.N[i]? = some n) (hln : X.env.kindOf n = some .local) (hc : Names X x c) (tk : Takes X Wout)
    (hb : ∀ (W : WX) (pn : List (Addr × Obj)) (xe : Value → Shared → Prop), Takes (X.tr pn xe) W → PassesOwn (model X.prog X.w) X.A X.env xe → PSs (X.tr pn xe) body (tb W)) (hsu : ∀ (a : Addr) (pn : List (Addr × Obj)), PSs (X.suite a pn) (b₀ :: suite) ts) :
    PS X (.Try body [.ExceptHandler (some (.Name x np)) (some n) (b₀ :: suite) pos'] [] [] pos) (fun D σ H => tb (wT X.K c i ts Wout D) D σ H) := by
  refine ⟨fun pins s σ H D I h => wpAny_Try_except ?_⟩
  have ok := I.ok
  refine wpAny_mono ((hb (wT X.K c i ts Wout D) (X.pn ++ pins) (fun u s₁ => wpAny (model X.prog X.w) X.A (noteFrame u X.env) (fun _ s₂ => wpAny (model X.prog X.w) X.A (setFlight u none) (fun _ s₃ =>
      wpAny (model X.prog X.w) X.A (handleBy u X.env [.ExceptHandler (some (.Name x np)) (some n) (b₀ :: suite) pos']) (SP X pins D) X.xe s₃) X.xe s₂) X.xe s₁) (fun u s' xx => ?_) PassesOwn.looking).run [] s σ H D (I.toTry _) h) (fun f s1 sp => ?_) (fun e s1 he => he)
  · obtain ⟨a, B, sI, pins', σ', H', cls, d, rfl, J, nb, up, sky, na, os, ag, ww⟩ := xx
    exact clause_ok ok hs hf hN hi hln hc tk hsu (J.ofTry ok) nb up sky na os ag ww
  · cases f with
    | next =>
      obtain ⟨_, _, J, q⟩ := sp
      exact wpAny_execs_nil ⟨_, _, J.ofTry ok, q⟩
    | brk =>
      obtain ⟨_, _, J, q⟩ := sp
      exact ⟨_, _, J.ofTry ok, q⟩
    | cont =>
      obtain ⟨_, _, J, q⟩ := sp
      exact ⟨_, _, J.ofTry ok, q⟩
    | ret u =>
      obtain ⟨_, _, _, J, r, q⟩ := sp
      exact ⟨_, _, _, J.ofTry ok, r, q⟩
end
end Ev

namespace Ev
open PySem PySem.Spec PyProof.Rows L2
/-! ### more addresses -/
mutual
theorem RV.grow {g : Wd} {μ : List Addr} {H : Hp} (ν : List Addr) : ∀ {d : D} {v : V}, RV g μ H d v → RV g (μ ++ ν) H d v
  | .non, _, h => by simpa only [RV] using h
  | .bl _, _, h => by simpa only [RV] using h
  | .int _, _, h => by simpa only [RV] using h
  | .str _, _, h => by simpa only [RV] using h
  | .ty _, _, h => by simpa only [RV] using h
  | .gl _, _, h => by simpa only [RV] using h
  | .ref a, v, h => by
    simp only [RV] at h ⊢
    obtain ⟨p, e, r⟩ := h
    exact ⟨p, by rw [List.getElem?_append_left (List.getElem?_eq_some_iff.mp e).1]; exact e, r⟩
  | .tup ds, v, h => by
    simp only [RV] at h ⊢
    obtain ⟨p, ys, e, q, r⟩ := h
    exact ⟨p, ys, e, q, RVs.grow ν r⟩
  | .fl ds, v, h => by
    simp only [RV] at h ⊢
    obtain ⟨p, ys, e, q, r⟩ := h
    exact ⟨p, ys, e, q, RVs.grow ν r⟩
theorem RVs.grow {g : Wd} {μ : List Addr} {H : Hp} (ν : List Addr) : ∀ {ds : List D} {vs : List V}, RVs g μ H ds vs → RVs g (μ ++ ν) H ds vs
  | [], _, h => by simpa only [RVs] using h
  | d :: ds, vs, h => by
    simp only [RVs] at h ⊢
    obtain ⟨y, r, e, a, b⟩ := h
    exact ⟨y, r, e, RV.grow ν a, RVs.grow ν b⟩
end
theorem RKV.grow {g : Wd} {μ : List Addr} {H : Hp} (ν : List Addr) : ∀ {ds : List (Key × D)} {vs : List (Key × V)}, RKV g μ H ds vs → RKV g (μ ++ ν) H ds vs
  | [], _, h => h
  | (k, d) :: ds, vs, ⟨y, r, e, a, b⟩ => ⟨y, r, e, a.grow ν, RKV.grow ν b⟩
theorem RFs.grow {g : Wd} {μ : List Addr} {H : Hp} (ν : List Addr) : ∀ {ds : List (Tx × D)} {vs : List (Tx × V)}, RFs g μ H ds vs → RFs g (μ ++ ν) H ds vs
  | [], _, h => h
  | (k, d) :: ds, vs, ⟨y, r, e, a, b⟩ => ⟨y, r, e, a.grow ν, RFs.grow ν b⟩
theorem RO.grow {g : Wd} {μ : List Addr} {H : Hp} {p : Addr} {o : O} (ν : List Addr) (h : RO g μ H p o) : RO g (μ ++ ν) H p o := by
  have more : ∀ {j : Nat} {q : Addr}, μ[j]? = some q → (μ ++ ν)[j]? = some q := fun {j q} e => by
    rw [List.getElem?_append_left (List.getElem?_eq_some_iff.mp e).1]; exact e
  cases o with
  | lst ds => obtain ⟨ys, a, b⟩ := h; exact ⟨ys, a, b.grow ν⟩
  | flst ds => obtain ⟨o, ys, a, b⟩ := h; exact ⟨o, ys, a, b.grow ν⟩
  | dct ds => obtain ⟨ys, a, b⟩ := h; exact ⟨ys, a, b.grow ν⟩
  | ins c fs => obtain ⟨C, dx, gs, m, a, b⟩ := h; exact ⟨C, dx, gs, m, a, b.grow ν⟩
  | exc c d =>
    obtain ⟨C, m, ⟨d0, a⟩ | ⟨j, dx, d0, ej, a⟩⟩ := h
    · exact ⟨C, m, .inl ⟨d0, a⟩⟩
    · exact ⟨C, m, .inr ⟨j, dx, d0, more ej, a⟩⟩
  | exh c j => obtain ⟨C, dx, m, ej, a⟩ := h; exact ⟨C, dx, m, more ej, a⟩
  | xd fs => obtain ⟨gs, a, b⟩ := h; exact ⟨gs, a, b.grow ν⟩
  | xn fs => obtain ⟨gs, a, b⟩ := h; exact ⟨gs, a, b.grow ν⟩
/-! ### try .. except as, by trees -/
def outS (i : Nat) : RS → RS
  | .nx ρ s => .nx (ρ.set i none) s
  | .bk ρ s => .bk (ρ.set i none) s
  | .ct ρ s => .ct (ρ.set i none) s
  | .rt d s => .rt d s
  | _ => .bad
/-- tbl: the classes that may come, and whether the clause takes them -/
def tryS (i : Nat) (tbl : List (Tx × Bool)) (body suite : C) : C := fun ρ s => match body ρ s with
  | .err c fs ρ' s' => match tbl.lookup c with
    | some true => outS i (suite (ρ'.set i (some (.ref (s'.length + 1)))) (s' ++ [O.xd fs, O.exh c s'.length]))
    | some false => .err c fs ρ' s'
    | none => .bad
  | r => r
/-- what the written part says of the clause -/
def ExmT (K : PySem.W.Frag) (mg : Str → Option Value) (cv : Value) (tbl : List (Tx × Bool)) : Prop := ∀ c b, tbl.lookup c = some b → ∀ C, mg c = some (.ref C) → PySem.W.exmOne K (.ref C) cv = some b
section
variable {X : Cx} {W : WX} {x n : Str} {cv : Value} {i : Nat} {body suite : List Stmt} {b₀ : Stmt} {np pos pos' : Pos} {mb ms : C} {tbl : List (Tx × Bool)}
theorem lift_out {g : Wd} {W0 : WX} {μ : List Addr} {H : Hp} {De : Ends} {r : RS} (h : runsS g W0 μ H De (outS i r)) :
    runsS g (fun _ _ _ _ => False) μ H { nx := fun σ' H' => De.nx (σ'.set i none) H', rt := De.rt, bk := fun σ' H' => De.bk (σ'.set i none) H', ct := fun σ' H' => De.ct (σ'.set i none) H' } r := by
  cases r with
  | nx ρ s => exact fun μ' H' σ' a b c => h μ' H' _ a b c.setN
  | bk ρ s => exact fun μ' H' σ' a b c => h μ' H' _ a b c.setN
  | ct ρ s => exact fun μ' H' σ' a b c => h μ' H' _ a b c.setN
  | rt d s => exact h
  | err c fs ρ s => exact h.elim
  | bad => exact h.elim
theorem qs_try (hN : X.N.Nodup) (tk : Takes X W) (hE : ExmT X.K X.mg cv tbl) (hc : Names X x cv)
    (hb : ∀ (W : WX) (pn : List (Addr × Obj)) (xe : Value → Shared → Prop), Takes (X.tr pn xe) W → PassesOwn (model X.prog X.w) X.A X.env xe → QSs (X.tr pn xe) W body mb)
    (hsu : ∀ (a : Addr) (pn : List (Addr × Obj)), QSs (X.suite a pn) (fun _ _ _ _ => False) (b₀ :: suite) ms) (hs : X.stack = X.env :: X.outer := by rfl) (hf : X.env.frame = some X.env.locals := by rfl) (hi : X.N[i]? = some n := by rfl) (hln : X.env.kindOf n = some .local := by rfl) :
    QS X W (.Try body [.ExceptHandler (some (.Name x np)) (some n) (b₀ :: suite) pos'] [] [] pos) (tryS i tbl mb ms) :=
  ps_imp (ps_try_own (tb := fun W => liftS (wd X) W mb) (ts := liftS (wd X) (fun _ _ _ _ => False) ms) hs hf hN hi hln hc tk hb hsu) fun De σ H ⟨μ, ρ, s, hρ, hst, h⟩ => ⟨μ, ρ, s, hρ, hst, by
    unfold tryS at h
    cases q : mb ρ s with
    | nx ρ' s' => rw [q] at h; exact h
    | bk ρ' s' => rw [q] at h; exact h
    | ct ρ' s' => rw [q] at h; exact h
    | rt d s' => rw [q] at h; exact h
    | bad => rw [q] at h; exact h
    | err c fs ρ' s' =>
      rw [q] at h
      simp only at h
      intro μ' H' σ' C dx x1 hs1 hρ1 mC ⟨hd0, rx⟩
      split at h
      · rename_i hl
        refine ⟨true, C, dx, rfl, rfl, hE c true hl C mC, fun _ a na => ?_, fun z => nomatch z⟩
        obtain ⟨hdm, gs, ed, rf⟩ := rx
        have hda : dx ≠ a := fun z => by rw [z, na] at ed; cases ed
        -- the dict is tracked
        have hs2 : Rs (wd X) (μ' ++ [dx]) H' (s' ++ [O.xd fs]) := by
          refine ⟨by simp [hs1.len], ?_, fun i o q ei eq => ?_⟩
          · rw [List.nodup_append]
            exact ⟨hs1.nd, by simp, fun u hu v hv => by
              simp at hv; subst hv
              exact fun z => hdm (z ▸ hu)⟩
          · by_cases hi : i < s'.length
            · rw [List.getElem?_append_left hi] at ei
              rw [List.getElem?_append_left (by rw [hs1.len]; exact hi)] at eq
              exact (hs1.at_ i o q ei eq).grow [dx]
            · have hi' : i = s'.length := by
                have := (List.getElem?_eq_some_iff.mp ei).1
                simp at this
                omega
              subst hi'
              rw [List.getElem?_append_right (Nat.le_refl _)] at ei
              rw [← hs1.len, List.getElem?_append_right (Nat.le_refl _)] at eq
              simp at ei eq
              subst ei eq
              exact ⟨gs, ed, RFs.grow [dx] rf⟩
        have hs3 : Rs (wd X) (μ' ++ [dx] ++ [a]) (upd H' a (exh a C dx)) (s' ++ [O.xd fs] ++ [O.exh c s'.length]) :=
          hs2.laid na ⟨C, dx, mC, by rw [← hs1.len]; simp, upd_same⟩
        have e1 : μ' ++ [dx] ++ [a] = μ' ++ [dx, a] := by simp
        have e2 : s' ++ [O.xd fs] ++ [O.exh c s'.length] = s' ++ [O.xd fs, O.exh c s'.length] := by simp
        rw [e1, e2] at hs3
        have x2 : Ex μ H (μ' ++ [dx, a]) (upd H' a (exh a C dx)) := by
          obtain ⟨ν, eν, hν⟩ := x1.pre
          refine ⟨⟨ν ++ [dx, a], by rw [eν]; simp, fun p hp => ?_⟩, fun p hp => x1.trk p (upd_trk p hp), fun p ys hp => ?_, fun p o u hp => ?_⟩
          · rcases List.mem_append.mp hp with hp | hp
            · exact hν p hp
            · simp only [List.mem_cons, List.not_mem_nil, or_false] at hp
              rcases hp with rfl | rfl
              · exact hd0
              · exact x1.trk _ na
          · have z := x1.tup p ys hp
            rw [upd_ne (ne_of_none z na)]; exact z
          · have z := x1.frz p o u hp
            rw [upd_ne (ne_of_none z na)]; exact z
        refine ⟨μ' ++ [dx, a], _, _, ?_, hs3, lift_out (runsS_mono x2 h)⟩
        have hρ2 : REn (wd X) (μ' ++ [dx, a]) (upd H' a (exh a C dx)) ρ' σ' := by
          refine ⟨hρ1.1, fun i d e => ?_⟩
          obtain ⟨v, q1, q2⟩ := hρ1.2 i d e
          exact ⟨v, q1, (RV.grow [dx, a] q2).mono (ex_new0 na)⟩
        exact hρ2.set (by simp only [RV]; exact ⟨a, by rw [← hs1.len]; simp, rfl⟩)
      · rename_i hl
        exact ⟨false, C, dx, rfl, rfl, hE c false hl C mC, (fun z => nomatch z), fun _ => h μ' H' σ' C dx x1 hs1 hρ1 mC ⟨hd0, rx⟩⟩
      · exact h.elim⟩
end
end Ev

namespace Ev
open PySem PySem.Spec PyProof.Rows L2
/-! ### what a caught error tells -/
def xfE (cs : List Tx) (f : Tx) (m : E) : E := fun ρ s => (m ρ s).bind fun d s => match d with
  | .ref a => match s[a]? with
    | some (.exh c j) => if c ∈ cs then match s[j]? with
      | some (.xd fs) => match fs.lookup f with | some v => .ok v s | none => .bad
      | _ => .bad
      else .bad
    | _ => .bad
  | _ => .bad
def XfK (K : PySem.W.Frag) (mg : Str → Option Value) (cs : List Tx) (f : Str) : Prop := ∀ c ∈ cs, ∀ C, mg c = some (.ref C) → XfC K C ∧ PySem.W.findIn K (.ref C) f = some none
theorem lk {β : Type} (f g : Tx) (y : β) (fs : List (Tx × β)) : ((f, y) :: fs).lookup g = if g = f then some y else fs.lookup g := by
  by_cases h : g = f
  · subst h; simp [List.lookup]
  · have e : (g == f) = false := by simpa using h
    simp [List.lookup, e, h]
theorem RFs.look {g : Wd} {μ : List Addr} {H : Hp} {f : Tx} {d : D} : ∀ {fs : List (Tx × D)} {gs : List (Tx × V)}, RFs g μ H fs gs → fs.lookup f = some d → ∃ v, gs.lookup f = some v ∧ RV g μ H d v
  | [], _, _, e => by simp at e
  | (k, x) :: fs, _, ⟨y, r, e, a, b⟩, l => by
    subst e
    rw [lk] at l
    by_cases h : f = k
    · rw [if_pos h] at l
      cases l
      exact ⟨y, by rw [lk, if_pos h], a⟩
    · rw [if_neg h] at l
      obtain ⟨v, e1, e2⟩ := RFs.look b l
      exact ⟨v, by rw [lk, if_neg h]; exact e1, e2⟩
section
variable {X : Cx} {W : WX} {e : Expr} {m : E} {pos : Pos} {cs : List Tx} {f : Str}
/-- the object, as OpenK looks at it -/
theorem exh_inst {pins : List (Addr × Obj)} {σ : L2.St} {H : Hp} {s : Shared} {μ : List Addr} {st : S} {c : Tx} {j i : Nat} {p : Addr} {fs : List (Tx × D)} (I : Inv X pins σ H s) (hs : Rs (wd X) μ H st) (ei : st[i]? = some (.exh c j)) (ej : st[j]? = some (.xd fs)) (ep : μ[i]? = some p) :
    ∃ (C : Addr) (oe od : Obj), X.mg c = some (.ref C) ∧ PySem.W.InstAt s.heap p oe C (some od) ∧ (∃ (gs : List (Tx × V)) (mA : Str → Option Value), RFs (wd X) μ H fs gs ∧ (∀ y, RelO (gs.lookup y) (mA y)) ∧ ∀ y, PySem.W.lookIn y od = some (mA y)) := by
  obtain ⟨C, dx, mC, ed, ea⟩ := hs.at_ _ _ _ ei ep
  obtain ⟨gs, hd, rf⟩ := hs.at_ _ _ _ ej ed
  obtain ⟨oe, vs, he, hz, hdat⟩ := exh_at I.hok ea
  have hx : ObjOk X.prog X.w H s.heap dx (.xd gs) := I.hok dx _ hd
  obtain ⟨mA, hns, hr⟩ := hx
  obtain ⟨od, ho, hl⟩ := lookIn_ns hns
  exact ⟨C, oe, od, mC, ⟨he, hz.1, by unfold PySem.W.notCls; rw [hdat] <;> rfl, by rw [hz.2]; exact ho⟩, gs, mA, rf, hr, hl⟩
theorem q_xf (hk : XfK X.K X.mg cs f) (he : PE X e (liftE (wd X) W m)) (hb : attributeBase e f X.env (eval e X.env) = eval e X.env := by rfl) : PE X (.Attribute e f pos) (liftE (wd X) W (xfE cs f m)) := by
  refine ⟨fun pins s σ H Q I ⟨μ, ρ, st, hρ, hst, h⟩ => ?_⟩
  refine attr_of hb (thn (he.run pins s σ H (fun x H1 => ∃ (c : Tx) (j a : Nat) (p : Addr) (μ1 : List Addr) (s1 : S) (fs : List (Tx × D)) (v : D), x = .ref p ∧ μ1[a]? = some p ∧ Rs (wd X) μ1 H1 s1 ∧ s1[a]? = some (.exh c j) ∧ c ∈ cs ∧ s1[j]? = some (.xd fs) ∧ fs.lookup f = some v ∧ runs (wd X) W σ μ1 H1 (RV (wd X)) Q (.ok v s1)) I
    ⟨μ, ρ, st, hρ, hst, runs_bind (Rel1 := RV (wd X)) h fun d s1 μ1 H1 x e1 x1 hs1 r1 h1 => ?_⟩) fun u s1 ⟨x, H1, I1, rx, c, j, a, p, μ1, st1, fs, v, ex, ep, hs1, ei, hc, ej, l, q⟩ => ?_)
  · split at h1
    · rename_i a
      simp only [RV] at r1
      obtain ⟨p, ep, rfl⟩ := r1
      split at h1
      · rename_i c j ei
        split at h1
        · rename_i hc
          split at h1
          · rename_i fs ej
            split at h1
            · rename_i v l
              exact ⟨c, j, a, p, μ1, s1, fs, v, rfl, ep, hs1, ei, hc, ej, l, h1⟩
            · exact h1.elim
          · exact h1.elim
        · exact h1.elim
      · exact h1.elim
    · exact h1.elim
  · subst ex
    obtain rfl : u = Value.ref p := rx
    obtain ⟨C, oe, od, mC, J, gs, mA, rf, hr, hl⟩ := exh_inst I1 hs1 ei ej ep
    obtain ⟨T, hno⟩ := hk c hc C mC
    obtain ⟨y, ly, ry⟩ := RFs.look rf l
    obtain ⟨u, hu, ru⟩ := RelO.some_of (v := y) (o := mA f) (by rw [← ly]; exact hr f)
    exact HandSPX.exc_get I1.kIn J T.ga T.gg T.exC (PySem.W.findObj_own T.hdC hno rfl (by rw [hl, hu])) (handed_of ru) ⟨y, H1, I1.tok _, ru, runs_pure q hs1 ry⟩
/-- isinstance of it -/
def isxF (tbl : List ((Tx × Tx) × Bool)) : Fn := fun ds s => match ds with
  | [.ref a, .gl y] => match s[a]? with
    | some (.exh c j) => match s[j]? with
      | some (.xd _) => match tbl.lookup (c, y) with | some b => .ok (.bl b) s | none => .bad
      | _ => .bad
    | _ => .bad
  | _ => .bad
def IsxT (K : PySem.W.Frag) (mg : Str → Option Value) (tbl : List ((Tx × Tx) × Bool)) : Prop := ∀ c y b, tbl.lookup (c, y) = some b → ∀ C D, mg c = some (.ref C) → mg y = some (.ref D) → ExcC K C ∧ PySem.W.kitOne K (.ref C) (.ref D) = some b
theorem qc_isx {tbl : List ((Tx × Tx) × Bool)} (hk : IsxT X.K X.mg tbl) : CallR X (.builtin "isinstance") (rC (wd X) (isxF tbl)) := by
  intro pins sh σ H xs us Q I rv ⟨μ, s, ds, hs, r, W, σ', h⟩
  unfold isxF at h
  split at h
  · rename_i a y
    obtain ⟨x, z, rfl, r1, r2⟩ := r.inv2
    simp only [RV] at r1 r2
    obtain ⟨p, ep, rfl⟩ := r1
    obtain ⟨D, mD, rfl⟩ := r2
    split at h
    · rename_i c j ei
      split at h
      · rename_i fs ej
        split at h
        · rename_i b l
          obtain ⟨C, oe, od, mC, J, _⟩ := exh_inst I hs ei ej ep
          obtain ⟨T, hb⟩ := hk c y b l C D mC mD
          cases rv with
          | cons rx rr =>
            cases rr with
            | cons rt rr =>
              cases rr
              cases rx
              cases rt
              obtain ⟨cd, hcd, _⟩ := PySem.W.any_some T.hd
              exact PySem.W.kia_one (PySem.W.kitx_exc (by rw [hcd]; rfl) T.hg T.hk T.hs T.ha T.hn T.ht T.hm) I.kIn J hb (fun z => nomatch z) fun tk => ⟨.bl b, H, I.kept (t' := tk) fun _ _ z => z, rfl, runs_pure h hs (by simp only [RV])⟩
        · exact h.elim
      · exact h.elim
    · exact h.elim
  · exact h.elim
end
/-! ### the law's own call -/
def spLaw (g : Wd) (f : Fn) (zs : List Int) : Sp := fun vs H Q E => ∃ (a : Addr), vs = [.ref a] ∧ SqF g.K H a (zs.map V.int)
theorem rvs_ints {g : Wd} {μ : List Addr} {H : Hp} : ∀ (zs : List Int), RVs g μ H (zs.map D.int) (zs.map V.int)
  | [] => by simp only [List.map_nil, RVs]
  | z :: zs => ⟨.int z, zs.map V.int, rfl, by simp only [RV], rvs_ints zs⟩
/-- the law is said of the tree -/
def Says (f : Fn) (zs : List Int) : Prop := ∃ s, f [.fl (zs.map D.int)] [] = .ok (.bl true) s
theorem spF_law {g : Wd} {f : Fn} {zs : List Int} {a : Addr} {H : Hp} (h : Says f zs) (hS : SqF g.K H a (zs.map V.int)) : spF g f [.ref a] H (fun v _ => v = .bl true) fun _ _ _ => False := by
  obtain ⟨s, e⟩ := h
  refine ⟨[], [.fl (zs.map D.int)], [], .one (by simp only [RV]; exact ⟨a, _, rfl, hS, rvs_ints zs⟩), ⟨rfl, List.nodup_nil, fun i o p e => by simp at e⟩, ?_⟩
  rw [e]
  intro μ' H' b _ _ r
  simpa only [RV] using r
section
variable {P : Program} {w : World} {K : PySem.W.Frag} {mg mb : Str → Option Value} {k : Nat} {fa a : Addr} {f : Fn} {s₁ : Shared} {vs : List Value} {ns : List Int}
/-- over an abstract heap that has nothing, or the script alone -/
theorem lawAt {H : Hp} (KX : K.In s₁.heap) (hns : s₁.heap.Ns mainGlobals mg) (hb : s₁.heap.Ns builtinsNs mb) (hbb : ∀ x : Str, x ≠ "__name__" → mb x = bootBuiltins x) (hlim : s₁.heap.NoLimit) (hg : s₁.gens = #[])
    (ha : s₁.heap.get? a = some { cls := .type "list", data := .seq vs.toArray }) (hr : Rm k callerA) (F : ∀ base : Heap, K.In base → base.Ns mainGlobals mg → FnG P w K mg base k fa (spF ⟨K, mg⟩ f)) (hsay : Says f ns)
    (hfz : ∀ b u, H b = some u → b = a ∧ K.lookup a = none ∧ ∃ o xs, u = .frz o (.lst xs)) (hS : SqF K H a (ns.map V.int)) (hok : HOk P w H s₁.heap) :
    codeAny (model P w) callerA (.call (.ref fa) ⟨[.ref a], []⟩) (fun r s' => r = .ok (.ret (.bool true)) ∧ OldK s₁.heap s'.heap ∧ s'.os = s₁.os ∧ AllBare s'.gens) s₁ := by
  have free : ∀ {b : Addr} {o : Obj}, s₁.heap.get? b = some o → b ≠ a ∨ K.lookup a ≠ none → H b = none := fun {b o} e ne => by
    cases q : H b with
    | none => rfl
    | some u =>
      obtain ⟨e1, e2, _⟩ := hfz b u q
      rcases ne with ne | ne
      · exact absurd e1 ne
      · exact absurd e2 ne
  have dicts : ∀ {b : Addr} {m : Str → Option Value}, s₁.heap.Ns b m → (hidT s₁.heap H).Ns b m := fun {b m} ⟨o, es, ep, e, d, r⟩ => ⟨o, es, ep, hidT_get e (free e (.inl fun z => by
    rw [z, ha] at e
    cases e
    have d' : Data.seq vs.toArray _ = Data.dict es ep := d
    cases d')), d, r⟩
  have hK : K.In (hidT s₁.heap H) := fun b o e => hidT_get (KX b o e) (free (KX b o e) (by
    by_cases hb : b = a
    · rw [hb] at e
      exact .inr fun z => by rw [e] at z; cases z
    · exact .inl hb))
  have hM : Mod K mg (hidT s₁.heap H) := ⟨hK, dicts hns, ⟨mb, dicts hb, hbb⟩, let ⟨mc, h1, h2⟩ := hlim; ⟨mc, dicts h1, h2⟩⟩
  have e0 : Env0 P w K mg (hidT s₁.heap H) callerA [] s₁ H := ⟨rfl, hM, fun b o e => of_hidT e, Nat.le_of_eq (hidT_size _ _), trivial, fun b hb => absurd (show b ∈ ([] : List Addr) from hb) (by simp), hok, .of_eq hg⟩
  refine codeAny_mono (F _ hK (dicts hns) callerA [] s₁ H [.ref a] [.ref a] _ _ hr e0 (.cons rfl .nil) (spF_law hsay hS)) fun r s' h => ?_
  cases r with
  | error e =>
    obtain ⟨_, _, _, _, _, _, _, _, _, _, _, _, hE⟩ := h
    exact hE.elim
  | ok fl =>
    cases fl with
    | ret u =>
      obtain ⟨v, H', os, bare, un, hok', r', q⟩ := h
      obtain rfl : v = .bl true := q
      obtain rfl : u = Value.bool true := r'
      refine ⟨rfl, OldK.of_keep fun b o e => ?_, os, bare⟩
      cases q : H b with
      | none => exact un.keep b o e q (fun z => by cases z) (by simp)
      | some u =>
        obtain ⟨_, _, ob, xs, rfl⟩ := hfz b u q
        obtain ⟨e1, _⟩ := hok b _ q
        obtain ⟨e2, _⟩ := hok' b _ (un.frzs b ob _ q)
        rw [e] at e1; cases e1
        exact e2
    | _ => exact False.elim h
theorem lawCall (KX : K.In s₁.heap) (hns : s₁.heap.Ns mainGlobals mg) (hb : s₁.heap.Ns builtinsNs mb) (hbb : ∀ x : Str, x ≠ "__name__" → mb x = bootBuiltins x) (hlim : s₁.heap.NoLimit) (hg : s₁.gens = #[])
    (ha : s₁.heap.get? a = some { cls := .type "list", data := .seq vs.toArray }) (hi : IntsAre vs ns) (hl : ns.length ≤ sizeLine) (hr : Rm k callerA) (F : ∀ base : Heap, K.In base → base.Ns mainGlobals mg → FnG P w K mg base k fa (spF ⟨K, mg⟩ f)) (hsay : Says f ns) :
    codeAny (model P w) callerA (.call (.ref fa) ⟨[.ref a], []⟩) (fun r s' => r = .ok (.ret (.bool true)) ∧ OldK s₁.heap s'.heap ∧ s'.os = s₁.os ∧ AllBare s'.gens) s₁ := by
  have rv := vals_ints hi
  cases hk : K.lookup a with
  | some o =>
    have e := KX a o hk
    rw [ha] at e
    cases e
    exact lawAt (H := fun _ => none) KX hns hb hbb hlim hg ha hr F hsay (fun b u z => nomatch z) (.inr ⟨_, vs.toArray, _, hk, rfl, rfl, rfl, by rw [List.size_toArray, hi.length]; exact hl, by simpa using rv⟩) (fun b u z => nomatch z)
  | none =>
    have at1 : ∀ {b : Addr} {u : HO}, upd (fun _ => none) a (.frz { cls := .type "list", data := .seq vs.toArray } (.lst (ns.map V.int))) b = some u → b = a ∧ u = .frz { cls := .type "list", data := .seq vs.toArray } (.lst (ns.map V.int)) := fun {b u} z => by
      by_cases hb : b = a
      · subst hb
        rw [upd_same] at z
        exact ⟨rfl, (Option.some.inj z).symm⟩
      · rw [upd_ne hb] at z; cases z
    refine lawAt (H := upd (fun _ => none) a (.frz { cls := .type "list", data := .seq vs.toArray } (.lst (ns.map V.int)))) KX hns hb hbb hlim hg ha hr F hsay (fun b u z => ?_) (.inl ⟨_, upd_same⟩) fun b u z => ?_
    · obtain ⟨e1, e2⟩ := at1 z
      exact ⟨e1, hk, _, _, e2⟩
    · obtain ⟨rfl, rfl⟩ := at1 z
      exact ⟨ha, by rw [List.length_map]; exact hl, vs, _, rv, ha⟩
end
theorem lawWalk {l : PySem.W.OpenLaw} {n k : Nat} {q : Program} {loose : List Str} {XP : (Str → Option Value) → Heap → Prop} {YP : World → Heap → Prop} {d : DefRec} {K : Params → PySem.W.Frag} {f : Fn}
    (hn : l.most = some n) (hn2 : n ≤ sizeLine) (hdf : d.params.defaults = []) (hr : Rm k callerA) (hY : ∀ (w : World) (h : Heap), YP w h → (K w.params).In h)
    (F : ∀ (w : World) (mg : Str → Option Value) (h : Heap), (K w.params).In h → h.Ns mainGlobals mg → ∀ base : Heap, (K w.params).In base → base.Ns mainGlobals mg → DefOk l.prog w (K w.params) mg base k d.name f)
    (hsay : ∀ ns : List Int, ns.length ≤ n → Says f ns) : PySem.W.WalkO q loose XP YP l.row.toRowW d [] (fun f vs => PySem.call f vs) := by
  refine Att.attach_call hn hdf fun w s₀ s₁ mg mb fa o pm cd doc a vs ns G Y ho hd hcd hmg hobj hints hlen hg => ?_
  have KX := hY w _ Y
  refine lawCall KX G.T.g G.T.b G.T.builtins G.T.nolimit hg hobj hints (Nat.le_trans hlen hn2) hr (fun base h1 h2 => ?_) (hsay ns hlen)
  obtain ⟨fa', e, _, FF⟩ := (F w mg _ KX G.T.g base h1 h2).ex
  rw [hmg] at e
  cases e
  exact FF
end Ev

namespace Ev
open PySem PySem.Spec PyProof.Rows L2
def strF : Fn := fun ds s => match ds with
  | [.int i] => if decide (i.natAbs.log2 < 1920) then .ok (.str (toString i : String)) s else .bad
  | [.str y] => .ok (.str y) s
  | _ => .bad
theorem qc_str {X : Cx} : CallR X (.type "str") (rC (wd X) strF) := by
  intro pins sh σ H xs us Q I rv ⟨μ, s, ds, hs, r, W, σ', h⟩
  unfold strF at h
  split at h
  · obtain ⟨x, rfl, r1⟩ := r.inv1
    simp only [RV] at r1; subst r1
    split at h
    · rename_i hz
      exact call_str_int pins sh σ H _ us Q I rv ⟨_, rfl, of_decide_eq_true hz, runs_pure h hs (by simp only [RV])⟩
    · exact h.elim
  · obtain ⟨x, rfl, r1⟩ := r.inv1
    simp only [RV] at r1; subst r1
    exact SkE.call_str_str pins sh σ H _ us Q I rv ⟨_, rfl, runs_pure h hs (by simp only [RV])⟩
  · exact h.elim
/-! ### what the top has written -/
structure DefAt (K : PySem.W.Frag) (mg : Str → Option Value) (x : Str) (st : Stmt) (ps : List Str) : Prop where
  ex : ∃ (fa : Addr) (fd : FuncData), mg x = some (.ref fa) ∧ Fun K x x st fa fd ∧ Binds K fd ps []
theorem binds_zip {K : PySem.W.Frag} {fd : FuncData} {ps : List Str} (b : Binds K fd ps []) (s : Shared) (us : List Value) (h : K.In s.heap) (hl : us.length = ps.length) : BindsTo s fd ⟨us, []⟩ (ps.zip us) := by
  have z := b s us h (by rw [List.append_nil]; exact hl)
  rw [List.append_nil] at z
  exact z
section
variable {P : Program} {w : World} {K : PySem.W.Frag} {mg : Str → Option Value} {base : Heap} {k : Nat} {x : Str} {st : Stmt} {ps N : List Str} {n nN : Nat} {body : C}
theorem DefAt.ok (T : DefAt K mg x st ps) (S : FnScope N ps (defScope st)) (hnN : N.length = nN) (hn : ps.length = n)
    (hbody : ∀ (fa : Addr) (cdv : Value) (A : Around) (outer : List PySem.Env) (s : Shared) (H : Hp) (E : XK), Rm k (A.deeper (envOfC x (defScope st) s.heap.objs.size fa cdv)) →
      QSs (cxOf (L2.CX P w) P w K mg base N x (defScope st) fa cdv A outer s H E) (fun c d _ H => E c d H) (defBody st) body) : DefOk P w K mg base (k + 1) x (mkFn n nN [] body) := by
  obtain ⟨fa, fd, hm, F, b⟩ := T.ex
  exact ⟨fa, hm, F.kp, def_g F S hnN hn (binds_zip b) rfl (hbody fa)⟩
structure DefAtS (K : PySem.W.Frag) (mg : Str → Option Value) (x : Str) (st : Stmt) : Prop where
  ex : ∃ (fa : Addr) (fd : FuncData), mg x = some (.ref fa) ∧ Fun K x x st fa fd
theorem DefAtS.ok {pv : Str} (T : DefAtS K mg x st) (S : FnScope N (ps ++ [pv]) (defScope st)) (hnN : N.length = nN) (hn : ps.length = n)
    (hb : ∀ (kV doc pm : Value) (an : Option Addr) (cdv ct : Value) (us rest : List Value), us.length = ps.length → bindArgs (PySem.W.fnOf x x (defArgs st) (defBody st) (defScope st) .none kV doc pm an cdv ct) ⟨us ++ rest, []⟩ = (newTuple rest >>= fun t => pure (ps.zip us ++ [(pv, t)])))
    (hbody : ∀ (fa : Addr) (cdv : Value) (A : Around) (outer : List PySem.Env) (s : Shared) (H : Hp) (E : XK), Rm k (A.deeper (envOfC x (defScope st) s.heap.objs.size fa cdv)) →
      QSs (cxOf (L2.CX P w) P w K mg base N x (defScope st) fa cdv A outer s H E) (fun c d _ H => E c d H) (defBody st) body) : DefOk P w K mg base (k + 1) x (mkFnS n nN body) := by
  obtain ⟨fa, fd, hm, F⟩ := T.ex
  exact defS_ok F S hm hnN hn hb (hbody fa)
/-- an own exception class with its own maker -/
structure ExcAt (K : PySem.W.Frag) (mg : Str → Option Value) (c qual : Str) (st : Stmt) (ps : List Str) (C : Addr) : Prop where
  gC : mg c = some (.ref C)
  T : OexC K C
  no : ∀ f ∈ ps, PySem.W.findIn K (.ref C) f = some none
  ini : ∃ (fI : Addr) (fd : FuncData), PySem.W.findIn K (.ref C) "__init__" = some (some (.ref fI)) ∧ PySem.W.typeIn K (.ref fI) = some (.type "function") ∧ Fun K "__init__" qual st fI fd ∧ Binds K fd (("self" : Str) :: ps) []
  X : ExcC K C
structure BaseAt (K : PySem.W.Frag) (mg : Str → Option Value) (c : Str) (C0 : Addr) : Prop where
  gC : mg c = some (.ref C0)
  sp : PySem.W.specialIn K (.ref C0) "__getattribute__" = some (some (.builtin "type.__getattribute__"))
  rd : PySem.W.readsIn K C0 (.type "type") = true
  vV : PySem.W.findCls K (.ref C0) (.type "type") "__init__" = some (.val (.builtin "ValueError.__init__"))
theorem ExcAt.xf {c qual : Str} {st : Stmt} {C : Addr} (T : ExcAt K mg c qual st ps C) : XfC K C := ⟨T.X.hg, T.X.hk, T.X.hs, T.X.hd⟩
theorem ExcAt.made {c qual : Str} {st : Stmt} {C : Addr} (T : ExcAt K mg c qual st ps C) (S : FnScope N (("self" : Str) :: ps) (defScope st)) (hnN : N.length = nN) (hn : (("self" : Str) :: ps).length = n)
    (hbody : ∀ (fa : Addr) (cdv : Value) (A : Around) (outer : List PySem.Env) (s : Shared) (H : Hp) (E : XK), Rm k (A.deeper (envOfC qual (defScope st) s.heap.objs.size fa cdv)) →
      QSs (cxOf (L2.CX P w) P w K mg base N qual (defScope st) fa cdv A outer s H E) (fun c d _ H => E c d H) (defBody st) body) :
    ∃ fI, PySem.W.findIn K (.ref C) "__init__" = some (some (.ref fI)) ∧ PySem.W.typeIn K (.ref fI) = some (.type "function") ∧ FnG P w K mg base (k + 1) fI (spF ⟨K, mg⟩ (mkFn n nN [] body)) := by
  obtain ⟨fI, fd, h1, h2, F, b⟩ := T.ini
  exact ⟨fI, h1, h2, def_g F S hnN hn (binds_zip b) rfl (hbody fI)⟩
/-- one class named c alone -/
theorem one_cls {c : Tx} {C : Addr} {p : Addr → Prop} (hC : mg c = some (.ref C)) (h : p C) : ∀ c' ∈ [c], ∀ C', mg c' = some (.ref C') → p C' := fun c' hc C' e => by
  simp only [List.mem_cons, List.not_mem_nil, or_false] at hc
  subst hc
  rw [hC] at e; cases e
  exact h
theorem exm_one_cls {c : Tx} {C : Addr} {cv : Value} {b : Bool} (hC : mg c = some (.ref C)) (h : PySem.W.exmOne K (.ref C) cv = some b) : ExmT K mg cv [(c, b)] := fun c' b' l C' e => by
  rw [lk] at l
  by_cases hc : c' = c
  · subst hc
    rw [if_pos rfl] at l; cases l
    rw [hC] at e; cases e
    exact h
  · rw [if_neg hc] at l; cases l
theorem isx_one {c y : Tx} {C D : Addr} {b : Bool} (hC : mg c = some (.ref C)) (hD : mg y = some (.ref D)) (X : ExcC K C) (h : PySem.W.kitOne K (.ref C) (.ref D) = some b) : IsxT K mg [((c, y), b)] := fun c' y' b' l C' D' e1 e2 => by
  simp only [List.lookup] at l
  split at l
  · rename_i hq
    cases l
    have hq' := eq_of_beq hq
    obtain ⟨rfl, rfl⟩ := Prod.mk.inj hq'
    rw [hC] at e1; cases e1
    rw [hD] at e2; cases e2
    exact ⟨X, h⟩
  · cases l
end
end Ev

namespace Ev
open PySem PySem.Spec PyProof.Rows L2
/-! ### dict displays -/
def keyD : D → Option Key
  | .int i => some (.inl i)
  | .str y => some (.inr y)
  | _ => none
def keysD : List (D × D) → Option (List (Key × D))
  | [] => some []
  | (k, v) :: r => (keyD k).bind fun k => (keysD r).map ((k, v) :: ·)
def putD (kvs : List (Key × D)) (k : Key) (v : D) : List (Key × D) := if (kvs.any fun kv => decide (kv.1 = k)) = true then kvs.map (fun kv => if kv.1 = k then (kv.1, v) else kv) else kvs ++ [(k, v)]
def mergeD (kvs more : List (Key × D)) : List (Key × D) := more.foldl (fun acc kv => putD acc kv.1 kv.2) kvs
def prsL : List (E × E) → En → S → R (List (D × D))
  | [], _, s => .ok [] s
  | (k, v) :: r, ρ, s => (k ρ s).bind fun x s => (v ρ s).bind fun y s => (prsL r ρ s).bind fun l s => .ok ((x, y) :: l) s
def dispE (l : List (E × E)) : E := fun ρ s => (prsL l ρ (s ++ [.dct []])).bind fun ps s2 => match s2[s.length]? with
  | some (.dct []) => match keysD ps with
    | some kvs => if kvs.length ≤ 15 then .ok (.ref s.length) (s2.set s.length (.dct (mergeD [] kvs))) else .bad
    | none => .bad
  | _ => .bad
def dct0E : E := fun _ s => .ok (.ref s.length) (s ++ [.dct []])
def RPs (g : Wd) (μ : List Addr) (H : Hp) : List (D × D) → List (V × V) → Prop
  | [], ys => ys = []
  | (k, d) :: ds, ys => ∃ x y r, ys = (x, y) :: r ∧ RV g μ H k x ∧ RV g μ H d y ∧ RPs g μ H ds r
theorem RKV.put {g : Wd} {μ : List Addr} {H : Hp} {k : Key} {d : D} {v : V} (r : RV g μ H d v) : ∀ {ds : List (Key × D)} {vs : List (Key × V)}, RKV g μ H ds vs → RKV g μ H (putD ds k d) (putK vs k v) := by
  have any : ∀ {ds : List (Key × D)} {vs : List (Key × V)}, RKV g μ H ds vs → (ds.any fun kv => decide (kv.1 = k)) = (vs.any fun kv => decide (kv.1 = k)) := by
    intro ds
    induction ds with
    | nil => intro vs h; simp only [RKV] at h; subst h; rfl
    | cons p ds ih =>
      obtain ⟨k', d'⟩ := p
      rintro vs ⟨y, r, rfl, a, b⟩
      simp only [List.any_cons, ih b]
  have mp : ∀ {ds : List (Key × D)} {vs : List (Key × V)}, RKV g μ H ds vs → RKV g μ H (ds.map (fun kv => if kv.1 = k then (kv.1, d) else kv)) (vs.map (fun kv => if kv.1 = k then (kv.1, v) else kv)) := by
    intro ds
    induction ds with
    | nil => intro vs h; simp only [RKV] at h; subst h; rfl
    | cons p ds ih =>
      obtain ⟨k', d'⟩ := p
      rintro vs ⟨y, r', rfl, a, b⟩
      simp only [List.map_cons]
      by_cases hk : k' = k
      · rw [if_pos hk, if_pos hk]; exact ⟨v, _, rfl, r, ih b⟩
      · rw [if_neg hk, if_neg hk]; exact ⟨y, _, rfl, a, ih b⟩
  have app : ∀ {ds : List (Key × D)} {vs : List (Key × V)}, RKV g μ H ds vs → RKV g μ H (ds ++ [(k, d)]) (vs ++ [(k, v)]) := by
    intro ds
    induction ds with
    | nil => intro vs h; simp only [RKV] at h; subst h; exact ⟨v, [], rfl, r, rfl⟩
    | cons p ds ih =>
      obtain ⟨k', d'⟩ := p
      rintro vs ⟨y, r', rfl, a, b⟩
      exact ⟨y, _, rfl, a, ih b⟩
  intro ds vs h
  unfold putD putK
  rw [any h]
  split
  · exact mp h
  · exact app h
theorem RKV.merge {g : Wd} {μ : List Addr} {H : Hp} : ∀ {more : List (Key × D)} {ms : List (Key × V)} {ds : List (Key × D)} {vs : List (Key × V)}, RKV g μ H more ms → RKV g μ H ds vs → RKV g μ H (mergeD ds more) (mergeK vs ms)
  | [], ms, ds, vs, h, k => by simp only [RKV] at h; subst h; exact k
  | (k0, d0) :: more, ms, ds, vs, ⟨y, r, e, a, b⟩, k => by
    subst e
    show RKV g μ H (mergeD (putD ds k0 d0) more) (mergeK (putK vs k0 y) r)
    exact RKV.merge (more := more) b (RKV.put (k := k0) a k)
theorem keysD_sound {g : Wd} {μ : List Addr} {H : Hp} : ∀ {ps : List (D × D)} {vs : List (V × V)} {kvs : List (Key × D)}, RPs g μ H ps vs → keysD ps = some kvs → ∃ ms : List (Key × V), RKV g μ H kvs ms ∧ vs = ms.map fun kv => (kV kv.1, kv.2)
  | [], vs, kvs, h, e => by simp only [RPs] at h; subst h; simp only [keysD, Option.some.injEq] at e; subst e; exact ⟨[], rfl, rfl⟩
  | (k, d) :: ps, vs, kvs, ⟨x, y, r, e0, rx, ry, rr⟩, e => by
    subst e0
    simp only [keysD, Option.bind_eq_some_iff, Option.map_eq_some_iff] at e
    obtain ⟨k', ek, l, el, rfl⟩ := e
    obtain ⟨ms, h1, h2⟩ := keysD_sound rr el
    refine ⟨(k', y) :: ms, ⟨y, ms, rfl, ry, h1⟩, ?_⟩
    have : x = kV k' := by
      cases k <;> simp only [keyD, Option.some.injEq, reduceCtorEq] at ek
      · subst ek; simp only [RV] at rx; exact rx
      · subst ek; simp only [RV] at rx; exact rx
    subst this; subst h2
    rfl
section
variable {X : Cx} {W : WX} {pos : Pos}
inductive QPs (X : Cx) (W : WX) (pos : Pos) : List (Option Expr) → List Expr → List (E × E) → Prop where
  | nil : QPs X W pos [] [] []
  | cons {k v : Expr} {mk mv : E} {ks : List (Option Expr)} {vs : List Expr} {l : List (E × E)} (hk : PE X k (liftE (wd X) W mk)) (hv : PE X v (liftE (wd X) W mv)) (hr : QPs X W pos ks vs l) : QPs X W pos (some k :: ks) (v :: vs) ((mk, mv) :: l)
def trsOf (g : Wd) (W : WX) (l : List (E × E)) : List (TE × TE) := l.map fun p => (liftE g W p.1, liftE g W p.2)
theorem QPs.pps {ks : List (Option Expr)} {vs : List Expr} {l : List (E × E)} (h : QPs X W pos ks vs l) : PPs X pos ks vs (trsOf (wd X) W l) := by
  induction h with
  | nil => exact pps_nil
  | cons hk hv _ ih => exact pps_cons hk hv ih
theorem QPs.len {ks : List (Option Expr)} {vs : List Expr} {l : List (E × E)} (h : QPs X W pos ks vs l) : ks.length = vs.length := by
  induction h with
  | nil => rfl
  | cons _ _ _ ih => simp [ih]
theorem RPs.mono {g : Wd} {μ μ' : List Addr} {H H' : Hp} (x : Ex μ H μ' H') : ∀ {ds : List (D × D)} {vs : List (V × V)}, RPs g μ H ds vs → RPs g μ' H' ds vs
  | [], _, h => h
  | (k, d) :: ds, vs, ⟨y, z, r, e, a, b, c⟩ => ⟨y, z, r, e, RV.mono x a, RV.mono x b, RPs.mono x c⟩
theorem prs_sound {σ : L2.St} {Q : List (V × V) → Hp → Prop} : ∀ {l : List (E × E)} {μ : List Addr} {ρ : En} {s : S} {H : Hp}, REn (wd X) μ H ρ σ → Rs (wd X) μ H s → runs (wd X) W σ μ H (fun μ H => RPs (wd X) μ H) Q (prsL l ρ s) → tPairs (trsOf (wd X) W l) σ H Q
  | [], μ, ρ, s, H, he, hs, h => runs_pure (show runs (wd X) W σ μ H (fun μ H => RPs (wd X) μ H) Q (.ok [] s) from h) hs rfl
  | (k, v) :: l, μ, ρ, s, H, he, hs, h => ⟨μ, ρ, s, he, hs, runs_bind (Rel1 := RV (wd X)) h fun d s1 μ1 H1 x e1 x1 hs1 r1 h1 => ⟨μ1, ρ, s1, he.mono x1, hs1, runs_bind (Rel1 := RV (wd X)) h1 fun d2 s2 μ2 H2 y e2 x2 hs2 r2 h2 =>
    prs_sound (l := l) ((he.mono x1).mono x2) hs2 (runs_bind (Rel1 := fun μ H => RPs (wd X) μ H) h2 fun ps s3 μ3 H3 vs e3 x3 hs3 r3 h3 => runs_pure h3 hs3 ⟨x, y, vs, rfl, (r1.mono x2).mono x3, r2.mono x3, r3⟩)⟩⟩
theorem q_disp {keys : List (Option Expr)} {values : List Expr} {l : List (E × E)} (h : QPs X W pos keys values l) (hall : keys.all (·.isSome) = true := by rfl) (h0 : keys ≠ [] := by decide) (h15 : keys.length ≤ 15 := by decide) : PE X (.Dict keys values pos) (liftE (wd X) W (dispE l)) :=
  pe_imp (pe_disp h.pps hall h.len h0 h15) fun σ H Q ⟨μ, ρ, s, hρ, hs, hh⟩ p hp => by
    have xp : Ex μ H (μ ++ [p]) (upd H p (.dK [])) := ex_new hp [p] (by simp [hp])
    have hs1 : Rs (wd X) (μ ++ [p]) (upd H p (.dK [])) (s ++ [.dct []]) := hs.laid hp ⟨[], upd_same, rfl⟩
    refine prs_sound (hρ.mono xp) hs1 (runs_bind (Rel1 := fun μ H => RPs (wd X) μ H) (runs_mono xp hh) fun ps s2 μ2 H2 vs e2 x2 hs2 r2 h2 => ?_)
    have ep : μ2[s.length]? = some p := by
      refine x2.get ?_
      rw [← hs.len]; simp
    split at h2
    · rename_i ei
      obtain ⟨ys, hy, ry⟩ := hs2.at_ _ _ _ ei ep
      simp only [RKV] at ry; subst ry
      split at h2
      · rename_i kvs ek
        split at h2
        · rename_i hl
          obtain ⟨ms, h3, h4⟩ := keysD_sound r2 ek
          have xq : Ex μ2 H2 μ2 (upd H2 p (.dK (mergeK [] ms))) := ex_put hy (fun _ z => nomatch z) (fun _ _ z => nomatch z)
          have hs3 := hs2.put (i := s.length) (o := .dct (mergeD [] kvs)) ep hy (fun _ z => nomatch z) (fun _ _ z => nomatch z) (ho := .dK (mergeK [] ms)) ⟨_, upd_same, RKV.mono xq (RKV.merge (ds := []) (vs := []) h3 rfl)⟩
          exact ⟨hy, ms, h4, by rw [← RKV.length h3]; exact hl, h2 μ2 _ _ xq hs3 (by simp only [RV]; exact ⟨p, ep, rfl⟩)⟩
        · exact h2.elim
      · exact h2.elim
    · exact h2.elim
theorem q_disp0 : PE X (.Dict [] [] pos) (liftE (wd X) W dct0E) := pe_imp pe_dnewK fun σ H Q ⟨μ, ρ, s, hρ, hs, hh⟩ p hp => by
  have hs1 : Rs (wd X) (μ ++ [p]) (upd H p (.dK [])) (s ++ [.dct []]) := hs.laid hp ⟨[], upd_same, rfl⟩
  exact hh _ _ _ (ex_new hp [p] (by simp [hp])) hs1 (by simp only [RV]; exact ⟨p, by rw [← hs.len]; simp, rfl⟩)
theorem kit_own {K : PySem.W.Frag} {C D : Addr} (h1 : PySem.W.isClsIn K D = true) (h2 : PySem.W.typeIn K (.ref D) = some (.type "type")) (h3 : PySem.W.subIn K (.ref C) (.ref D) = some true) : PySem.W.kitOne K (.ref C) (.ref D) = some true := by
  unfold PySem.W.kitOne
  split
  · rfl
  · show (if ((PySem.W.clsIn K D).isSome && PySem.W.typeIn K (.ref D) == some (.type "type")) = true then PySem.W.subIn K (.ref C) (.ref D) else none) = some true
    have h1' : (PySem.W.clsIn K D).isSome = true := h1
    rw [h1', h2, if_pos (by decide +kernel)]
    exact h3
theorem nm_of {x : Str} {C : Addr} (h : X.mg x = some (.ref C)) (hg : Gl X x) (hd : (x == ("__debug__" : Str)) = false) : Names X x (.ref C) := ⟨hg, hd, .inl h⟩
end
end Ev

namespace Ev
open PySem PySem.Spec L2
open Builtin.Str in
/-! ### texts as lists of signs; cut at dots -/
abbrev mkS (l : List Nat) : Tx := ⟨l.toArray⟩
abbrev dot : Tx := "."
theorem dot_cps : dot.cps = #[46] := by decide +kernel
theorem dot_len : dot.length = 1 := by decide +kernel
def sp1 : List Nat → List Nat × List (List Nat)
  | [] => ([], [])
  | c :: r => if c = 46 then ([], (sp1 r).1 :: (sp1 r).2) else (c :: (sp1 r).1, (sp1 r).2)
def sp (l : List Nat) : List (List Nat) := (sp1 l).1 :: (sp1 l).2
def dots : Nat → List Nat → List Nat
  | _, [] => []
  | k, c :: r => if c = 46 then k :: dots (k + 1) r else dots (k + 1) r
theorem dots_len : ∀ (l : List Nat) (k : Nat), (dots k l).length = (sp1 l).2.length
  | [], _ => rfl
  | c :: r, k => by
    simp only [dots, sp1]
    split
    · simp [dots_len r]
    · exact dots_len r _
theorem sub_one {pre r : List Nat} {c : Nat} : Builtin.Str.subAt (mkS (pre ++ c :: r)) dot pre.length = (c == 46) := by
  unfold Builtin.Str.subAt
  rw [dot_len, dot_cps]
  have e : (mkS (pre ++ c :: r)).cps.extract pre.length (pre.length + 1) = #[c] := by
    show (pre ++ c :: r).toArray.extract pre.length (pre.length + 1) = #[c]
    simp
  rw [e]
  by_cases h : c = 46
  · subst h; rfl
  · have e2 : (c == 46) = false := by simpa using h
    rw [e2]
    apply beq_eq_false_iff_ne.mpr
    intro z
    have z2 := congrArg Array.toList z
    simp at z2
    exact h z2
theorem occ_run {L : List Nat} : ∀ (l pre : List Nat) (found : Array Nat) (free : Nat), L = pre ++ l → free ≤ pre.length → found.size ≤ pre.length →
    (forIn (List.range' pre.length (l.length + 1)) (found, free) (StrLaws.occBody (mkS L) dot L.length (L.length + 1))).run.fst.toList = found.toList ++ dots pre.length l
  | [], pre, found, free, hL, hf, hs => by
    have hl : L.length = pre.length := by rw [hL]; simp
    rw [show List.range' pre.length (([] : List Nat).length + 1) = [pre.length] from rfl, List.forIn_cons]
    unfold StrLaws.occBody
    rw [if_neg (by rw [dot_len]; omega)]
    simp [dots]
  | c :: r, pre, found, free, hL, hf, hs => by
    have hl : L.length = pre.length + (r.length + 1) := by rw [hL]; simp
    have er : List.range' pre.length ((c :: r).length + 1) = pre.length :: List.range' (pre.length + 1) (r.length + 1) := by simp [List.range'_succ]
    rw [er, List.forIn_cons]
    have hsub : Builtin.Str.subAt (mkS L) dot pre.length = (c == 46) := by rw [hL]; exact sub_one
    have ep : (pre ++ [c]).length = pre.length + 1 := by simp
    unfold StrLaws.occBody
    rw [hsub, dot_len]
    by_cases h : c = 46
    · rw [if_pos ⟨⟨⟨by show found.size < L.length + 1; omega, hf⟩, by omega⟩, by simpa using h⟩]
      have ih := occ_run (L := L) r (pre ++ [c]) (found.push pre.length) (pre.length + 1) (by rw [hL]; simp) (by simp) (by simp; omega)
      rw [ep] at ih
      simp only [dots, h, if_true]
      show (forIn (List.range' (pre.length + 1) (r.length + 1)) (found.push pre.length, pre.length + 1) (StrLaws.occBody (mkS L) dot L.length (L.length + 1))).run.fst.toList = _
      rw [ih]
      simp
    · rw [if_neg (by simp [h])]
      have ih := occ_run (L := L) r (pre ++ [c]) found free (by rw [hL]; simp) (by simp; omega) (by simp; omega)
      rw [ep] at ih
      simp only [dots, h, if_false]
      show (forIn (List.range' (pre.length + 1) (r.length + 1)) (found, free) (StrLaws.occBody (mkS L) dot L.length (L.length + 1))).run.fst.toList = _
      rw [ih]
theorem occ_dots (L : List Nat) : Builtin.Str.occurrences (mkS L) dot 0 (mkS L).length ((mkS L).length + 1) = dots 0 L := by
  have hl : (mkS L).length = L.length := by simp [Str.length, mkS]
  rw [hl, StrLaws.occ_eq]
  have z := occ_run (L := L) L [] #[] 0 rfl (Nat.le_refl _) (Nat.le_refl _)
  simpa using z
theorem count_dots (L : List Nat) : Txt.count (mkS L) dot = ((sp1 L).2.length : Int) := by
  unfold Txt.count
  rw [occ_dots, dots_len]
theorem sub_mk (L : List Nat) (i j : Nat) : Builtin.Str.strSub (mkS L) i j = mkS ((L.drop i).take (j - i)) := by
  unfold Builtin.Str.strSub
  simp [mkS]
theorem parts_run {L : List Nat} : ∀ (l pre : List Nat) (a : Nat), L = pre ++ l → a ≤ pre.length →
    ((a :: (dots pre.length l).map (· + 1)).zip (dots pre.length l ++ [L.length])).map (fun p => Builtin.Str.strSub (mkS L) p.1 p.2) = mkS ((L.drop a).take (pre.length - a) ++ (sp1 l).1) :: (sp1 l).2.map mkS
  | [], pre, a, hL, ha => by
    have hl : L.length = pre.length := by rw [hL]; simp
    simp [dots, sp1, sub_mk, hl]
  | c :: r, pre, a, hL, ha => by
    have ep : (pre ++ [c]).length = pre.length + 1 := by simp
    by_cases h : c = 46
    · have ih := parts_run (L := L) r (pre ++ [c]) (pre.length + 1) (by rw [hL]; simp) (by simp)
      rw [ep] at ih
      simp only [dots, sp1, h, if_true, List.map_cons, List.cons_append, List.zip_cons_cons, sub_mk] at ih ⊢
      rw [ih]
      simp
    · have ih := parts_run (L := L) r (pre ++ [c]) a (by rw [hL]; simp) (by simp; omega)
      rw [ep] at ih
      simp only [dots, sp1, h, if_false] at ih ⊢
      rw [ih]
      have e : (L.drop a).take (pre.length + 1 - a) = (L.drop a).take (pre.length - a) ++ [c] := by
        have e1 : pre.length + 1 - a = (pre.length - a) + 1 := by omega
        have e2 : (L.drop a)[pre.length - a]? = some c := by
          rw [List.getElem?_drop, hL, show a + (pre.length - a) = pre.length by omega]
          simp
        rw [e1, List.take_add_one, e2]
        rfl
      rw [e]
      simp
theorem split_dots (L : List Nat) : Txt.split (mkS L) dot = (sp L).map mkS := by
  have hl : (mkS L).length = L.length := by simp [Str.length, mkS]
  have pr := parts_run (L := L) L [] 0 rfl (Nat.le_refl _)
  have key : Builtin.Str.partsBetween (mkS L) (dots 0 L) 1 = (sp L).map mkS := by
    unfold Builtin.Str.partsBetween
    simp only [hl]
    simpa [sp] using pr
  unfold Txt.split
  rw [occ_dots, dot_len, hl]
  split
  · rename_i h
    simp only [Bool.or_eq_true, decide_eq_true_eq] at h
    rcases h with h | h
    · have : L = [] := List.length_eq_zero_iff.mp (by omega)
      subst this
      rfl
    · exfalso
      have h1 : Builtin.Str.strKind dot = 1 := by decide +kernel
      rw [h1] at h
      unfold Builtin.Str.strKind at h
      split at h
      · omega
      · split at h <;> omega
  · split
    · rename_i h
      have hd : dots 0 L = [] := List.isEmpty_iff.mp h
      rw [← key, hd]
      simp [Builtin.Str.partsBetween, sub_mk, hl]
    · exact key
/-! ### joined -/
def jn : List (List Nat) → List Nat
  | [] => []
  | [x] => x
  | x :: y :: r => x ++ 46 :: jn (y :: r)
theorem app_mk (a b : List Nat) : (mkS a ++ mkS b : Tx) = mkS (a ++ b) := by
  show Str.append (mkS a) (mkS b) = _
  simp [Str.append, mkS]
theorem dot_mk : dot = mkS [46] := by decide +kernel
theorem join_dots : ∀ ps : List (List Nat), Txt.join dot (ps.map mkS) = mkS (jn ps) := by
  intro ps
  unfold Txt.join
  rw [StrLaws.glued_eq_join]
  induction ps with
  | nil => rfl
  | cons x r ih =>
    cases r with
    | nil => rfl
    | cons y r =>
      simp only [List.map_cons] at ih ⊢
      show mkS x ++ dot ++ Str.join dot (mkS y :: r.map mkS) = _
      rw [ih, dot_mk, app_mk, app_mk]
      simp [jn]
theorem join_none : ∀ ps : List (List Nat), Txt.join "" (ps.map mkS) = mkS ps.flatten := by
  intro ps
  unfold Txt.join
  rw [StrLaws.glued_eq_join]
  have e0 : ((("" : String) : Tx)) = mkS [] := by decide +kernel
  induction ps with
  | nil => rfl
  | cons x r ih =>
    cases r with
    | nil => simp [Str.join]
    | cons y r =>
      simp only [List.map_cons] at ih ⊢
      show mkS x ++ (("" : String) : Tx) ++ Str.join "" (mkS y :: r.map mkS) = _
      rw [ih, e0, app_mk, app_mk]
      simp
theorem sp1_app {x : List Nat} (h : 46 ∉ x) (r : List Nat) : sp1 (x ++ 46 :: r) = (x, sp r) := by
  induction x with
  | nil => simp [sp1, sp]
  | cons c x ih =>
    have hc : c ≠ 46 := fun z => h (by simp [z])
    have := ih fun z => h (List.mem_cons_of_mem _ z)
    simp [sp1, hc, this]
theorem sp1_none {x : List Nat} (h : 46 ∉ x) : sp1 x = (x, []) := by
  induction x with
  | nil => rfl
  | cons c x ih =>
    have hc : c ≠ 46 := fun z => h (by simp [z])
    have := ih fun z => h (List.mem_cons_of_mem _ z)
    simp [sp1, hc, this]
theorem sp_jn : ∀ {ps : List (List Nat)}, ps ≠ [] → (∀ p ∈ ps, 46 ∉ p) → sp (jn ps) = ps
  | [], h, _ => absurd rfl h
  | [x], _, h => by simp [jn, sp, sp1_none (h x (by simp))]
  | x :: y :: r, _, h => by
    have ih := sp_jn (ps := y :: r) (by simp) fun p hp => h p (List.mem_cons_of_mem _ hp)
    show (sp1 (x ++ 46 :: jn (y :: r))).1 :: (sp1 (x ++ 46 :: jn (y :: r))).2 = _
    rw [sp1_app (h x (by simp)), ih]
theorem jn_app : ∀ {a b : List (List Nat)}, a ≠ [] → b ≠ [] → jn (a ++ b) = jn a ++ 46 :: jn b
  | [], _, h, _ => absurd rfl h
  | [x], [], _, h => absurd rfl h
  | [x], y :: r, _, _ => rfl
  | x :: y :: r, b, _, hb => by
    have ih := jn_app (a := y :: r) (b := b) (by simp) hb
    show x ++ 46 :: jn (y :: (r ++ b)) = _
    simp only [List.cons_append] at ih
    rw [ih]
    simp [jn]
/-! ### signs -/
def low (c : Nat) : Bool := decide (97 ≤ c ∧ c ≤ 122)
def ld (c : Nat) : Bool := decide (97 ≤ c ∧ c ≤ 122) || decide (48 ≤ c ∧ c ≤ 57)
theorem u_alnum : ∀ c : Fin 128, (Unicode.isAlnum c.val = decide ((48 ≤ c.val ∧ c.val ≤ 57) ∨ (65 ≤ c.val ∧ c.val ≤ 90) ∨ (97 ≤ c.val ∧ c.val ≤ 122))) := by decide +kernel
theorem u_alpha : ∀ c : Fin 128, (Unicode.isAlpha c.val = decide ((65 ≤ c.val ∧ c.val ≤ 90) ∨ (97 ≤ c.val ∧ c.val ≤ 122))) := by decide +kernel
theorem u_lower : ∀ c : Fin 128, (Unicode.isLower c.val = decide (97 ≤ c.val ∧ c.val ≤ 122)) := by decide +kernel
theorem u_upper : ∀ c : Fin 128, ((Unicode.isUpper c.val || Unicode.isTitle c.val) = decide (65 ≤ c.val ∧ c.val ≤ 90)) := by decide +kernel
/-- a stem but for its length -/
def stemL (l : List Nat) : Bool := match l with
  | [] => false
  | c :: r => low c && r.all ld
theorem signs_ok (c : Nat) (r : List Nat) : (Txt.isascii (mkS (c :: r)) && (Txt.isalnum (mkS (c :: r)) && (Txt.islower (mkS (c :: r)) && Txt.isalpha (ch c)))) = stemL (c :: r) := by
  have hall : ∀ (p : Nat → Bool) (l : List Nat), (mkS l).cps.all p = l.all p := fun p l => by simp [mkS]
  have hany : ∀ (p : Nat → Bool) (l : List Nat), (mkS l).cps.any p = l.any p := fun p l => by simp [mkS]
  have hlen : ((mkS (c :: r)).length > 0) = True := by simp [Str.length, mkS]
  have hch : Txt.isalpha (ch c) = Unicode.isAlpha c := by simp [Txt.isalpha, ch, Str.length]
  rw [Bool.eq_iff_iff]
  simp only [Txt.isascii, Txt.isalnum, Txt.islower, hch, hall, hany, hlen, decide_true, Bool.true_and, stemL, Bool.and_eq_true, List.all_cons, List.any_cons, List.all_eq_true, decide_eq_true_eq, Bool.not_eq_true', Bool.or_eq_true]
  constructor
  · rintro ⟨⟨a0, a1⟩, ⟨b0, b1⟩, ⟨_, c1⟩, d⟩
    have up : ∀ x ∈ c :: r, (Unicode.isUpper x || Unicode.isTitle x) = false := by
      intro x hx
      rw [Bool.or_eq_false_iff] at c1
      rcases List.mem_cons.mp hx with rfl | hx
      · exact c1.1
      · have := c1.2
        rw [List.any_eq_false] at this
        simpa using this x hx
    have key : ∀ x ∈ c :: r, x < 128 → Unicode.isAlnum x = true → ld x = true := by
      intro x hx h1 h2
      have e1 := u_alnum ⟨x, h1⟩
      have e2 := u_upper ⟨x, h1⟩
      simp only at e1 e2
      rw [e1] at h2
      rw [up x hx] at e2
      have h2' := of_decide_eq_true h2
      have h3 := of_decide_eq_false e2.symm
      simp only [ld, Bool.or_eq_true, decide_eq_true_eq]
      omega
    refine ⟨?_, fun x hx => key x (List.mem_cons_of_mem _ hx) (a1 x hx) (b1 x hx)⟩
    have e1 := u_alpha ⟨c, a0⟩
    have e2 := u_upper ⟨c, a0⟩
    simp only at e1 e2
    rw [e1] at d
    rw [up c (by simp)] at e2
    have d' := of_decide_eq_true d
    have h3 := of_decide_eq_false e2.symm
    simp only [low, decide_eq_true_eq]
    omega
  · rintro ⟨h1, h2⟩
    simp only [low, decide_eq_true_eq] at h1
    have hl : ∀ x ∈ c :: r, x < 128 ∧ ((48 ≤ x ∧ x ≤ 57) ∨ (97 ≤ x ∧ x ≤ 122)) := by
      intro x hx
      rcases List.mem_cons.mp hx with rfl | hx
      · omega
      · have := h2 x hx
        simp only [ld, Bool.or_eq_true, decide_eq_true_eq] at this
        omega
    have al : ∀ x ∈ c :: r, Unicode.isAlnum x = true := fun x hx => by
      obtain ⟨k1, k2⟩ := hl x hx
      have e := u_alnum ⟨x, k1⟩
      simp only at e
      rw [e, decide_eq_true_eq]
      omega
    have up : ∀ x ∈ c :: r, (Unicode.isUpper x || Unicode.isTitle x) = false := fun x hx => by
      obtain ⟨k1, k2⟩ := hl x hx
      have e := u_upper ⟨x, k1⟩
      simp only at e
      rw [e, decide_eq_false_iff_not]
      omega
    have k1 := (hl c (by simp)).1
    refine ⟨⟨k1, fun x hx => (hl x (List.mem_cons_of_mem _ hx)).1⟩, ⟨al c (by simp), fun x hx => al x (List.mem_cons_of_mem _ hx)⟩, ⟨.inl ?_, ?_⟩, ?_⟩
    · have e := u_lower ⟨c, k1⟩
      simp only at e
      rw [e, decide_eq_true_eq]
      omega
    · rw [Bool.or_eq_false_iff]
      refine ⟨up c (by simp), ?_⟩
      rw [List.any_eq_false]
      intro x hx
      have := up x (List.mem_cons_of_mem _ hx)
      simpa using this
    · have e := u_alpha ⟨c, k1⟩
      simp only at e
      rw [e, decide_eq_true_eq]
      omega
end Ev

namespace Ev
open PySem PySem.Spec L2
/-! ### plain facts -/
theorem seq_nx {a b : C} {ρ ρ' : En} {s s' : S} (h : a ρ s = .nx ρ' s') : seqS a b ρ s = b ρ' s' := by simp only [seqS, h, RS.next]
theorem seq_rt {a b : C} {ρ : En} {s s' : S} {d : D} (h : a ρ s = .rt d s') : seqS a b ρ s = .rt d s' := by simp only [seqS, h, RS.next]
theorem mulS {i j : Int} (h : i.natAbs < 2 ^ 200) (k : j.natAbs < 2 ^ 200) : mulOk i j = true := by
  have a : i.natAbs.log2 < 250 := by
    by_cases z : i.natAbs = 0
    · rw [z]; decide
    · exact (Nat.log2_lt z).mpr (Nat.lt_of_lt_of_le h (Nat.pow_le_pow_right (by decide) (by decide)))
  have b : j.natAbs.log2 < 250 := by
    by_cases z : j.natAbs = 0
    · rw [z]; decide
    · exact (Nat.log2_lt z).mpr (Nat.lt_of_lt_of_le k (Nat.pow_le_pow_right (by decide) (by decide)))
  simp only [mulOk, decide_eq_true_eq]
  omega
theorem szlS {n : Nat} (h : n ≤ 16777216) : szl n = true := by
  simp only [szl, decide_eq_true_eq]
  exact Nat.le_trans h (by decide)
theorem toPws_ints (rf : Nat → Option PyData) : ∀ zs : List Int, toPws rf (zs.map D.int) = some (zs.map PyData.int)
  | [] => rfl
  | z :: zs => by simp [toPws, toPw, toPws_ints rf zs]
theorem lay_ints : ∀ zs : List Int, PyData.canLayAll0 (zs.map PyData.int) = true ∧ PyData.depthAll (zs.map PyData.int) = 0
  | [] => by simp [PyData.canLayAll0, PyData.depthAll]
  | z :: zs => by simp [PyData.canLayAll0, PyData.depthAll, PyData.canLay0, PyData.depth, lay_ints zs]
theorem shaped_ints (zs : List Int) : SeqAt.shaped (.list (zs.map PyData.int)) = true := by
  simp [SeqAt.shaped, PyData.canLay0, PyData.depth, lay_ints zs]
theorem ne_nil {s : S} {c e : Nat} {zs : List Int} (h : s[c]? = some (.lst (zs.map D.int))) (k : s[e]? = some (.lst [])) : neD (.ref c) (.ref e) s = .ok (.bl (decide (zs ≠ []))) s := by
  have t1 : toP s (.ref c) = some (.list (zs.map PyData.int)) := by simp [toP, toPw, rfN, lstAt, h, toPws_ints]
  have t2 : toP s (.ref e) = some (.list []) := by simp [toP, toPw, rfN, lstAt, k, toPws]
  have s1 := shaped_ints zs
  have s2 : SeqAt.shaped (.list []) = true := shaped_ints []
  simp only [neD, eqB, scE, t1, t2, s1, s2, Bool.and_self, if_true]
  cases zs <;> simp [PyData.eqv, PyData.eqvAll]
theorem at_nat {α : Type} {xs : List α} {i : Int} (h0 : 0 ≤ i) (h1 : i < xs.length) : ∃ v, xs[i.toNat]? = some v ∧ atI xs i = some v := by
  have hl : i.toNat < xs.length := by omega
  refine ⟨xs[i.toNat], List.getElem?_eq_getElem hl, ?_⟩
  have z := atI_nat (xs := xs) (j := i.toNat) (List.getElem?_eq_getElem hl)
  rwa [Int.toNat_of_nonneg h0] at z
/-! ### comprehensions, by trees -/
theorem set_last (base : List O) (a b : O) : (base ++ [a]).set base.length b = base ++ [b] := by
  rw [List.set_append_right _ _ (Nat.le_refl _)]
  simp
theorem lc_pure {keep : S → Bool} {i : Nat} {e : E} {ρ : En} {base : S} (g : D → D) : ∀ (ds acc : List D), (∀ acc, keep (base ++ [O.lst acc]) = true) → (∀ d ∈ ds, ∀ s, e (ρ.set i (some d)) s = .ok (g d) s) → acc.length + ds.length ≤ 1000000 →
    lcL keep (.nm i) yesT e base.length ρ ds (base ++ [O.lst acc]) = .ok (.ref base.length) (base ++ [O.lst (acc ++ ds.map g)])
  | [], acc, hk, _, _ => by simp [lcL, hk]
  | d :: ds, acc, hk, he, hl => by
    have e1 := he d (by simp) (base ++ [O.lst acc])
    have ga : (base ++ [O.lst acc])[base.length]? = some (O.lst acc) := by simp
    have hlt : decide (acc.length < sizeLine) = true := decide_eq_true (Nat.lt_of_le_of_lt (by simp at hl; omega : acc.length ≤ 1000000) (by decide))
    have st : (base ++ [O.lst acc]).set base.length (O.lst (acc ++ [g d])) = base ++ [O.lst (acc ++ [g d])] := set_last base _ _
    have ih := lc_pure g (keep := keep) (i := i) (e := e) (ρ := ρ) (base := base) ds (acc ++ [g d]) hk (fun x hx => he x (List.mem_cons_of_mem _ hx)) (by simp at hl ⊢; omega)
    simp only [lcL, hk, if_true, asg, yesT, R.noerr, R.bind, e1, ga, hlt, st]
    rw [ih]
    simp
/-- where each item draws: J holds from step to step, Q of each item that is made -/
theorem lc_gen {keep : S → Bool} {i id : Nat} {e : E} {ρ : En} (N : Nat) (J : Nat → S → Prop) (Q : D → Prop) (hk : ∀ k s, J k s → keep s = true) (hj : ∀ k s acc, J k s → J k (s.set id (O.lst acc)))
    (hs : ∀ k d s acc, k < N → J k s → s[id]? = some (O.lst acc) → ∃ (y : D) (s' : S), e (ρ.set i (some d)) s = .ok y s' ∧ Q y ∧ J (k + 1) s' ∧ s'[id]? = some (O.lst acc)) :
    ∀ (ds : List D) (k : Nat) (s : S) (acc : List D), k + ds.length ≤ N → J k s → s[id]? = some (O.lst acc) → acc.length + ds.length ≤ 1000000 →
      ∃ (ys : List D) (s' : S), lcL keep (.nm i) yesT e id ρ ds s = .ok (.ref id) s' ∧ J (k + ds.length) s' ∧ s'[id]? = some (O.lst (acc ++ ys)) ∧ ys.length = ds.length ∧ ∀ y ∈ ys, Q y
  | [], k, s, acc, _, h, ha, _ => ⟨[], s, by simp [lcL, hk k s h], h, by simpa using ha, rfl, by simp⟩
  | d :: ds, k, s, acc, hN, h, ha, hl => by
    simp only [List.length_cons] at hN hl
    obtain ⟨y, s1, e1, q, h1, ha1⟩ := hs k d s acc (by omega) h ha
    have hlt : decide (acc.length < sizeLine) = true := decide_eq_true (Nat.lt_of_le_of_lt (by omega : acc.length ≤ 1000000) (by decide))
    have ha2 : (s1.set id (O.lst (acc ++ [y])))[id]? = some (O.lst (acc ++ [y])) := List.getElem?_set_self (List.getElem?_eq_some_iff.mp ha1).1
    obtain ⟨ys, s2, e2, h2, ha3, hl2, hq⟩ := lc_gen N J Q hk hj hs ds (k + 1) _ (acc ++ [y]) (by omega) (hj _ _ _ h1) ha2 (by simp; omega)
    refine ⟨y :: ys, s2, ?_, by rw [show k + (d :: ds).length = k + 1 + ds.length by simp; omega]; exact h2, by simpa using ha3, by simp [hl2], by
      intro z hz
      rcases List.mem_cons.mp hz with rfl | hz
      · exact q
      · exact hq z hz⟩
    simp only [lcL, hk k s h, if_true, asg, yesT, R.noerr, R.bind, e1, ha1, hlt]
    exact e2

/-! ### steps -/
section
variable {f : Fn} {as r : As} {a b e o : E} {ρ : En} {s s1 s2 : S} {d x y : D} {ds : List D} {R1 : R D} {i : Nat} {t u : T} {c1 c2 : C} {it : Is} {J : It}
theorem call_ok (h : as ρ s = .ok ds s1) (h2 : f ds s1 = R1) : callE f as ρ s = R1 := by simp only [callE, h, R.bind, h2]
theorem cons_ok (h : a ρ s = .ok d s1) (h2 : r ρ s1 = .ok ds s2) : consA a r ρ s = .ok (d :: ds) s2 := by simp only [consA, h, R.bind, h2]
theorem bin_ok {op : D → D → S → R D} (h : a ρ s = .ok x s1) (h2 : b ρ s1 = .ok y s2) (h3 : op x y s2 = R1) : binE op a b ρ s = R1 := by simp only [binE, h, R.bind, h2, h3]
theorem un_ok {op : D → S → R D} (h : a ρ s = .ok x s1) (h3 : op x s1 = R1) : unE op a ρ s = R1 := by simp only [unE, h, R.bind, h3]
theorem tup_ok (h : as ρ s = .ok ds s1) (hz : szl ds.length = true) : tupE as ρ s = .ok (.tup ds) s1 := by simp only [tupE, h, R.bind, hz, if_true]
theorem lst_ok (h : as ρ s = .ok ds s1) (hz : szl ds.length = true) : lstE as ρ s = .ok (.ref s1.length) (s1 ++ [.lst ds]) := by simp only [lstE, h, R.bind, hz, if_true]
theorem meth_ok {T0 : String} (h : o ρ s = .ok d s1) (ht : isTyD T0 d s1 = true) (h2 : as ρ s1 = .ok ds s2) (h3 : f (d :: ds) s2 = R1) : methE T0 f o as ρ s = R1 := by simp only [methE, h, R.bind, ht, if_true, h2, h3]
theorem set_ok (h : e ρ s = .ok d s1) : setS i e ρ s = .nx (ρ.set i (some d)) s1 := by simp only [setS, h, R.stm]
theorem ret_ok (h : e ρ s = .ok d s1) : retS e ρ s = .rt d s1 := by simp only [retS, h, R.stm]
theorem expr_ok (h : e ρ s = .ok d s1) : exprS e ρ s = .nx ρ s1 := by simp only [exprS, h, R.stm]
theorem if_t {r : RS} (h : t ρ s = .ok true s1) (h2 : c1 ρ s1 = r) : ifS t c1 c2 ρ s = r := by simp only [ifS, h, R.stm, if_true, h2]
theorem if_f {r : RS} (h : t ρ s = .ok false s1) (h2 : c2 ρ s1 = r) : ifS t c1 c2 ρ s = r := by simp only [ifS, h, R.stm, Bool.false_eq_true, if_false, h2]
theorem tst_ok {k : Bool} (h : e ρ s = .ok (.bl k) s1) : tstE e ρ s = .ok k s1 := by simp only [tstE, h, R.bind, boolE]
theorem tru_ok {k : Bool} (h : e ρ s = .ok (.bl k) s1) : truE e ρ s = .ok k s1 := by simp only [truE, h, R.bind, truth]
theorem not_ok {k : Bool} (h : t ρ s = .ok k s1) : notT t ρ s = .ok (!k) s1 := by simp only [notT, h, R.bind]
theorem notE_ok {k : Bool} (h : e ρ s = .ok (.bl k) s1) : notE e ρ s = .ok (.bl (!k)) s1 := by simp only [notE, h, R.bind, truth]
theorem and_t {r : R Bool} (h : t ρ s = .ok true s1) (h2 : u ρ s1 = r) : andT t u ρ s = r := by simp only [andT, h, R.bind, if_true, h2]
theorem and_f (h : t ρ s = .ok false s1) : andT t u ρ s = .ok false s1 := by simp only [andT, h, R.bind, Bool.false_eq_true, if_false]
theorem or_t (h : t ρ s = .ok true s1) : orT t u ρ s = .ok true s1 := by simp only [orT, h, R.bind, if_true]
theorem or_f {r : R Bool} (h : t ρ s = .ok false s1) (h2 : u ρ s1 = r) : orT t u ρ s = r := by simp only [orT, h, R.bind, Bool.false_eq_true, if_false, h2]
theorem andE_t (h : a ρ s = .ok (.bl true) s1) (h2 : b ρ s1 = R1) : andE a b ρ s = R1 := by simp only [andE, h, R.bind, truth, if_true, h2]
theorem andE_f (h : a ρ s = .ok (.bl false) s1) : andE a b ρ s = .ok (.bl false) s1 := by simp only [andE, h, R.bind, truth, Bool.false_eq_true, if_false]
theorem andE_b {k l : Bool} (h : a ρ s = .ok (.bl k) s1) (h2 : k = true → b ρ s1 = .ok (.bl l) s1) : andE a b ρ s = .ok (.bl (k && l)) s1 := by
  cases k with
  | true => rw [andE_t h (h2 rfl)]; rfl
  | false => rw [andE_f h]; rfl
theorem orE_t (h : a ρ s = .ok (.bl true) s1) : orE a b ρ s = .ok (.bl true) s1 := by simp only [orE, h, R.bind, truth, if_true]
theorem orE_f (h : a ρ s = .ok (.bl false) s1) (h2 : b ρ s1 = R1) : orE a b ρ s = R1 := by simp only [orE, h, R.bind, truth, Bool.false_eq_true, if_false, h2]
theorem orE_b {k l : Bool} (h : a ρ s = .ok (.bl k) s1) (h2 : k = false → b ρ s1 = .ok (.bl l) s1) : orE a b ρ s = .ok (.bl (k || l)) s1 := by
  cases k with
  | true => rw [orE_t h]; rfl
  | false => rw [orE_f h (h2 rfl)]; rfl
theorem range1_ok {j : Int} (h : a ρ s = .ok (.int j) s1) (hj : small62 j = true) : range1 a ρ s = .ok ⟨intsL 0 j.toNat, allK⟩ s1 := by simp only [range1, h, R.bind, hj, if_true]
theorem iter_ok {r : R It} (h : a ρ s = .ok d s1) (h2 : iterD d s1 = r) : iterE a ρ s = r := by simp only [iterE, h, R.bind, h2]
theorem lc_ok {vs : List Nat} {tg : Tg} {r : R D} (h : it ρ s = .ok J s1) (h2 : lcL J.keep tg t e s1.length (wipeD ρ vs) J.items (s1 ++ [.lst []]) = r) : lcE it vs tg t e ρ s = r := by simp only [lcE, h, R.bind, h2]
theorem for_ok {tg : Tg} {r : RS} (h : it ρ s = .ok J s1) (h2 : forL J.keep tg c1 J.items ρ s1 = r) : forS it tg c1 ρ s = r := by simp only [forS, h, R.stm, h2]
theorem par_ok {j : Nat} (h : as ρ s = .ok [x, y] s1) : parS i j as ρ s = .nx ((ρ.set i (some x)).set j (some y)) s1 := by simp only [parS, h, R.stm]
end
/-! ### the pool that a law draws from -/
/-- the pool at p with its cells at c, asked at most m times -/
structure Pool (s : S) (p c : Nat) (zs : List Int) (m : Int) : Prop where
  ex : ∃ (t r : Int), s[p]? = some (.lst [.ref c, .int t, .int r]) ∧ s[c]? = some (.lst (zs.map D.int)) ∧ c ≠ p ∧ 0 ≤ t ∧ t ≤ m ∧ 0 ≤ r
/-- all but the pool stays -/
def Kp (p : Nat) (s s' : S) : Prop := s.length ≤ s'.length ∧ ∀ i, i < s.length → i ≠ p → s'[i]? = s[i]?
theorem Kp.refl (p : Nat) (s : S) : Kp p s s := ⟨Nat.le_refl _, fun _ _ _ => rfl⟩
theorem Kp.trans {p : Nat} {a b c : S} (h : Kp p a b) (k : Kp p b c) : Kp p a c := ⟨Nat.le_trans h.1 k.1, fun i hi hp => (k.2 i (Nat.lt_of_lt_of_le hi h.1) hp).trans (h.2 i hi hp)⟩
theorem Kp.set {p : Nat} {s : S} {o : O} : Kp p s (s.set p o) := ⟨by simp, fun i _ h => List.getElem?_set_ne (Ne.symm h)⟩
theorem Kp.app {p : Nat} {s t : S} : Kp p s (s ++ t) := ⟨by simp, fun i h _ => List.getElem?_append_left h⟩
/-- a thing that came later changes -/
theorem Kp.new {p i : Nat} {s s' : S} {o : O} (h : Kp p s s') (hi : s.length ≤ i) : Kp p s (s'.set i o) := ⟨by simpa using h.1, fun j hj hp => by rw [List.getElem?_set_ne (by omega)]; exact h.2 j hj hp⟩
theorem Kp.at {p i : Nat} {s s' : S} {o : O} (h : Kp p s s') (e : s[i]? = some o) (hp : i ≠ p) : s'[i]? = some o := by rw [h.2 i (List.getElem?_eq_some_iff.mp e).1 hp]; exact e
section
variable {s : S} {p c : Nat} {zs : List Int} {m : Int}
theorem Pool.pl (h : Pool s p c zs m) : p < s.length := by obtain ⟨t, r, e, _⟩ := h.ex; exact (List.getElem?_eq_some_iff.mp e).1
theorem Pool.cl (h : Pool s p c zs m) : c < s.length := by obtain ⟨t, r, _, e, _⟩ := h.ex; exact (List.getElem?_eq_some_iff.mp e).1
theorem Pool.app (h : Pool s p c zs m) {t : S} : Pool (s ++ t) p c zs m := by
  have pl := h.pl
  have cl := h.cl
  obtain ⟨t', r, e1, e2, h3⟩ := h.ex
  exact ⟨t', r, by rw [List.getElem?_append_left pl]; exact e1, by rw [List.getElem?_append_left cl]; exact e2, h3⟩
theorem Pool.set {i : Nat} {o : O} (h : Pool s p c zs m) (hp : i ≠ p) (hc : i ≠ c) : Pool (s.set i o) p c zs m := by
  obtain ⟨t', r, e1, e2, h3⟩ := h.ex
  exact ⟨t', r, by rw [List.getElem?_set_ne hp]; exact e1, by rw [List.getElem?_set_ne hc]; exact e2, h3⟩
theorem Pool.le (h : Pool s p c zs m) {m' : Int} (k : m ≤ m') : Pool s p c zs m' := by
  obtain ⟨t', r, e1, e2, h3, h4, h5, h6⟩ := h.ex
  exact ⟨t', r, e1, e2, h3, h4, by omega, h6⟩
theorem Pool.np (h : Pool s p c zs m) : c ≠ p := by obtain ⟨_, _, _, _, e, _⟩ := h.ex; exact e
end
end Ev

namespace K01
open PySem PySem.Spec PyProof.Rows L2 Ev
def top (i : Nat) : Stmt := PySem.Challenge.pw_sayable_k01_names_taken_apart.main.body.getD i (.Pass ⟨0, 0, 0, 0⟩)
def clsBody : Stmt → List Stmt
  | .ClassDef _ _ _ b _ _ _ _ _ _ _ => b
  | _ => []
structure Txt (K : PySem.W.Frag) (mg : Str → Option Value) where
  d_shown : DefAt K mg "_shown" (top 1) ["value"]
  a_SayError : Addr
  C_SayError : BaseAt K mg "SayError" a_SayError
  a_TooMany : Addr
  C_TooMany : ExcAt K mg "TooMany" "TooMany.__init__" ((clsBody (top 3)).getD 0 (.Pass ⟨0, 0, 0, 0⟩)) ["what", "most"] a_TooMany
  d_is_integer : DefAt K mg "is_integer" (top 7) ["value"]
  d_is_within : DefAt K mg "is_within" (top 8) ["value", "least", "most"]
  d_is_stem : DefAt K mg "is_stem" (top 9) ["value"]
  d_is_name : DefAt K mg "is_name" (top 10) ["value"]
  d_joined_name : DefAtS K mg "joined_name" (top 11)
  d_l_pool : DefAt K mg "_law_pool" (top 13) ["_law_script"]
  d_l_ladle : DefAt K mg "_law_ladle" (top 14) ["_law_pool_here", "_law_many"]
  d_l_of : DefAt K mg "_law_of" (top 15) ["_law_pool_here", "_law_things"]
  d_l_stem : DefAt K mg "_law_stem" (top 16) ["_law_pool_here", "_law_most"]
  d_l_bent : DefAt K mg "_law_bent" (top 17) ["_law_pool_here", "_law_text"]
  d_l_walked : DefAt K mg "_law_walked" (top 18) ["_law_text"]
  d_l_text_right : DefAt K mg "_law_text_right" (top 19) ["_law_pool_here"]
  d_l_number_right : DefAt K mg "_law_number_right" (top 20) ["_law_pool_here"]
  d_l_odd_right : DefAt K mg "_law_odd_right" (top 21) ["_law_pool_here"]
  d_l_joined : DefAt K mg "_law_joined" (top 22) ["_law_names"]
  d_l_joined_right : DefAt K mg "_law_joined_right" (top 23) ["_law_pool_here"]
  d_law : DefAt K mg "law" (top 24) ["_law_script"]
  b_abs : mg "abs" = none
  b_all : mg "all" = none
  b_bool : mg "bool" = none
  b_int : mg "int" = none
  b_isinstance : mg "isinstance" = none
  b_len : mg "len" = none
  b_max : mg "max" = none
  b_range : mg "range" = none
  b_repr : mg "repr" = none
  b_str : mg "str" = none
  c_LONGEST_STEM : ∃ tk, mg "LONGEST_STEM" = some (.int 12 tk)
  c_MOST_STEMS : ∃ tk, mg "MOST_STEMS" = some (.int 6 tk)
  k_TooMany_SayError : PySem.W.kitOne K (.ref a_TooMany) (.ref a_SayError) = some true
  e_TooMany : PySem.W.exmOne K (.ref a_TooMany) (.ref a_TooMany) = some true
theorem xf_TooMany {K : PySem.W.Frag} {mg : Str → Option Value} {c qual : Str} {st : Stmt} {ps : List Str} {C : Addr} {f : Str} (T : ExcAt K mg c qual st ps C) (hf : f ∈ ps) : XfK K mg [c] f := one_cls T.gC ⟨T.xf, T.no f hf⟩
theorem ost_TooMany {K : PySem.W.Frag} {mg : Str → Option Value} {c qual : Str} {st : Stmt} {ps : List Str} {C : Addr} {f : Str} (T : ExcAt K mg c qual st ps C) (hf : f ∈ ps) : ExcK K mg [c] f := one_cls T.gC ⟨T.T, T.no f hf⟩
theorem isx_TooMany_SayError {K : PySem.W.Frag} {mg : Str → Option Value} (T : Txt K mg) : IsxT K mg [(("TooMany", "SayError"), true)] := isx_one T.C_TooMany.gC T.C_SayError.gC T.C_TooMany.X T.k_TooMany_SayError
theorem exm_TooMany {K : PySem.W.Frag} {mg : Str → Option Value} (T : Txt K mg) : ExmT K mg (.ref T.a_TooMany) [("TooMany", true)] := exm_one_cls T.C_TooMany.gC T.e_TooMany
abbrev st_shown : Stmt := top 1
noncomputable def b_shown_0 : C :=
  (ifS (truE (callE isaF (consA (varE 0) (consA (conE (.ty "str")) nilA)))) (retS (varE 0)) passS)
noncomputable def b_shown_1 : C :=
  (ifS (andT (truE (callE isaF (consA (varE 0) (consA (conE (.ty "int")) nilA)))) (tstE (chainE ltD ltD (unE negD (conE (.int 1000000000))) (varE 0) (conE (.int 1000000000))))) (retS (callE strF (consA (varE 0) nilA))) passS)
noncomputable def b_shown_2 : C :=
  badS
theorem sc_shown : FnScope ["value"] ["value"] (defScope st_shown) := ⟨rfl, rfl, rfl, by decide +kernel, rfl, by decide +kernel, by decide +kernel⟩
noncomputable def b_shown : C :=
  (seqS b_shown_0 (seqS b_shown_1 b_shown_2))
noncomputable def f_shown : Fn := mkFn 1 1 [] b_shown
set_option maxHeartbeats 8000000 in
theorem ok_shown {P : Program} {w : World} {K : PySem.W.Frag} {mg : Str → Option Value} {base : Heap} (T : Txt K mg) : DefOk P w K mg base 1 "_shown" f_shown :=
  T.d_shown.ok sc_shown rfl rfl fun fa cdv A outer s H E hr => (by exact (qs_cons (qs_if (q_truT (q_callB qc_isa T.b_isinstance (by decide +kernel) (qa_cons (qv 0) (qa_cons (q_ty T.b_str (by decide +kernel)) qa_nil)))) (qs_one (qs_ret (qv 0))) qs_nil)
  (qs_cons (qs_if ((q_andT (q_truT (q_callB qc_isa T.b_isinstance (by decide +kernel) (qa_cons (qv 0) (qa_cons (q_ty T.b_int (by decide +kernel)) qa_nil)))) (q_and1T (q_chainT qo_lt qo_lt (q_un qo_neg q_int) (qv 0) q_int)))).pt (qs_one (qs_ret (q_callT qc_str T.b_str (by decide +kernel) (qa_cons (qv 0) qa_nil)))) qs_nil)
  (qs_one qs_bad))))
abbrev st_TooMany : Stmt := (clsBody (top 3)).getD 0 (.Pass ⟨0, 0, 0, 0⟩)
noncomputable def b_TooMany_0 : C :=
  (exprS (vinitE ["TooMany"] (consA (varE 0) (consA (joinedE [(conE (.str "too many: ")), (fmtE (callE f_shown (consA (varE 1) nilA))), (conE (.str ", at most ")), (fmtE (callE f_shown (consA (varE 2) nilA)))]) nilA))))
noncomputable def b_TooMany_1 : C :=
  (ostS ["TooMany"] "what" (varE 0) (varE 1))
noncomputable def b_TooMany_2 : C :=
  (ostS ["TooMany"] "most" (varE 0) (varE 2))
theorem sc_TooMany : FnScope ["self", "what", "most"] ["self", "what", "most"] (defScope st_TooMany) := ⟨rfl, rfl, rfl, by decide +kernel, rfl, by decide +kernel, by decide +kernel⟩
noncomputable def b_TooMany : C :=
  (seqS b_TooMany_0 (seqS b_TooMany_1 b_TooMany_2))
noncomputable def f_TooMany : Fn := mkFn 3 3 [] b_TooMany
set_option maxHeartbeats 8000000 in
theorem mk_TooMany {P : Program} {w : World} {K : PySem.W.Frag} {mg : Str → Option Value} {base : Heap} (T : Txt K mg) : ∃ fI, PySem.W.findIn K (.ref T.a_TooMany) "__init__" = some (some (.ref fI)) ∧ PySem.W.typeIn K (.ref fI) = some (.type "function") ∧ FnG P w K mg base 2 fI (spF ⟨K, mg⟩ f_TooMany) :=
  T.C_TooMany.made sc_TooMany rfl rfl fun fa cdv A outer s H E hr => (by exact (qs_cons (qs_expr (q_vinit (one_cls (p := fun C => OexC _ C) T.C_TooMany.gC T.C_TooMany.T) T.C_SayError.gC T.C_SayError.sp T.C_SayError.rd T.C_SayError.vV (qa_cons (qv 0) (qa_cons (q_joined (.cons q_str (.cons (q_fmt (q_call ((ok_shown T).mono (by decide)) hr (takes_of rfl rfl rfl rfl) (qa_cons (qv 1) qa_nil))) (.cons q_str (.cons (q_fmt (q_call ((ok_shown T).mono (by decide)) hr (takes_of rfl rfl rfl rfl) (qa_cons (qv 2) qa_nil))) .nil))))) qa_nil))))
  (qs_cons (qs_ost (ost_TooMany T.C_TooMany (by decide)) (qv 0) (qv 1))
  (qs_one (qs_ost (ost_TooMany T.C_TooMany (by decide)) (qv 0) (qv 2))))))
abbrev st_is_integer : Stmt := top 7
theorem sc_is_integer : FnScope ["value"] ["value"] (defScope st_is_integer) := ⟨rfl, rfl, rfl, by decide +kernel, rfl, by decide +kernel, by decide +kernel⟩
noncomputable def b_is_integer : C :=
  (retS (andE (callE isaF (consA (varE 0) (consA (conE (.ty "int")) nilA))) (notE (callE isaF (consA (varE 0) (consA (conE (.ty "bool")) nilA))))))
noncomputable def f_is_integer : Fn := mkFn 1 1 [] b_is_integer
set_option maxHeartbeats 8000000 in
theorem ok_is_integer {P : Program} {w : World} {K : PySem.W.Frag} {mg : Str → Option Value} {base : Heap} (T : Txt K mg) : DefOk P w K mg base 1 "is_integer" f_is_integer :=
  T.d_is_integer.ok sc_is_integer rfl rfl fun fa cdv A outer s H E hr => (by exact (qs_one (qs_ret (q_and (q_callB qc_isa T.b_isinstance (by decide +kernel) (qa_cons (qv 0) (qa_cons (q_ty T.b_int (by decide +kernel)) qa_nil))) (q_one (q_not (q_callB qc_isa T.b_isinstance (by decide +kernel) (qa_cons (qv 0) (qa_cons (q_ty T.b_bool (by decide +kernel)) qa_nil)))))))))
abbrev st_is_within : Stmt := top 8
noncomputable def b_is_within_0 : C :=
  (ifS (notT (truE (callE f_is_integer (consA (varE 0) nilA)))) (retS (conE (.bl false))) passS)
noncomputable def b_is_within_1 : C :=
  (retS (andE (orE (binE isD (varE 1) (conE .non)) (binE leD (varE 1) (varE 0))) (orE (binE isD (varE 2) (conE .non)) (binE leD (varE 0) (varE 2)))))
theorem sc_is_within : FnScope ["value", "least", "most"] ["value", "least", "most"] (defScope st_is_within) := ⟨rfl, rfl, rfl, by decide +kernel, rfl, by decide +kernel, by decide +kernel⟩
noncomputable def b_is_within : C :=
  (seqS b_is_within_0 b_is_within_1)
noncomputable def f_is_within : Fn := mkFn 3 3 [] b_is_within
set_option maxHeartbeats 8000000 in
theorem ok_is_within {P : Program} {w : World} {K : PySem.W.Frag} {mg : Str → Option Value} {base : Heap} (T : Txt K mg) : DefOk P w K mg base 2 "is_within" f_is_within :=
  T.d_is_within.ok sc_is_within rfl rfl fun fa cdv A outer s H E hr => (by exact (qs_cons (qs_if (q_notT (q_truT (q_call ((ok_is_integer T).mono (by decide)) hr (takes_of rfl rfl rfl rfl) (qa_cons (qv 0) qa_nil)))) (qs_one (qs_ret q_bl)) qs_nil)
  (qs_one (qs_ret (q_and (q_or (q_cmp qo_is (qv 1) q_non) (q_one (q_cmp qo_le (qv 1) (qv 0)))) (q_one (q_or (q_cmp qo_is (qv 2) q_non) (q_one (q_cmp qo_le (qv 0) (qv 2))))))))))
abbrev st_is_stem : Stmt := top 9
noncomputable def b_is_stem_0 : C :=
  (ifS (orT (notT (truE (callE isaF (consA (varE 0) (consA (conE (.ty "str")) nilA))))) (notT (tstE (chainE leD leD (conE (.int 1)) (callE lenF (consA (varE 0) nilA)) (conE (.int 12)))))) (retS (conE (.bl false))) passS)
noncomputable def b_is_stem_1 : C :=
  (retS (andE (methE "str" isasciiF (varE 0) nilA) (andE (methE "str" isalnumF (varE 0) nilA) (andE (methE "str" islowerF (varE 0) nilA) (methE "str" isalphaF (binE idxD (varE 0) (conE (.int 0))) nilA)))))
theorem sc_is_stem : FnScope ["value"] ["value"] (defScope st_is_stem) := ⟨rfl, rfl, rfl, by decide +kernel, rfl, by decide +kernel, by decide +kernel⟩
noncomputable def b_is_stem : C :=
  (seqS b_is_stem_0 b_is_stem_1)
noncomputable def f_is_stem : Fn := mkFn 1 1 [] b_is_stem
set_option maxHeartbeats 8000000 in
theorem ok_is_stem {P : Program} {w : World} {K : PySem.W.Frag} {mg : Str → Option Value} {base : Heap} (T : Txt K mg) : DefOk P w K mg base 1 "is_stem" f_is_stem :=
  T.d_is_stem.ok sc_is_stem rfl rfl fun fa cdv A outer s H E hr => (by exact (qs_cons (qs_if ((q_orT (q_notT (q_truT (q_callB qc_isa T.b_isinstance (by decide +kernel) (qa_cons (qv 0) (qa_cons (q_ty T.b_str (by decide +kernel)) qa_nil))))) (q_or1T (q_notT (q_chainT qo_le qo_le q_int (q_callB qc_len T.b_len (by decide +kernel) (qa_cons (qv 0) qa_nil)) (let ⟨_, h⟩ := T.c_LONGEST_STEM; q_gint h)))))).pt (qs_one (qs_ret q_bl)) qs_nil)
  (qs_one (qs_ret (q_and (q_meth0 PySem.F.plainAttrs_str PySem.F.slot_str_isascii PySem.F.type_str_isascii qm_isascii (qv 0)) (q_and (q_meth0 PySem.F.plainAttrs_str PySem.F.slot_str_isalnum PySem.F.type_str_isalnum qm_isalnum (qv 0)) (q_and (q_meth0 PySem.F.plainAttrs_str PySem.F.slot_str_islower PySem.F.type_str_islower qm_islower (qv 0)) (q_one (q_meth0 PySem.F.plainAttrs_str PySem.F.slot_str_isalpha PySem.F.type_str_isalpha qm_isalpha (q_idx (qv 0) q_int))))))))))
abbrev st_is_name : Stmt := top 10
noncomputable def b_is_name_0 : C :=
  (ifS (orT (notT (truE (callE isaF (consA (varE 0) (consA (conE (.ty "str")) nilA))))) (tstE (binE geD (methE "str" countF (varE 0) (consA (conE (.str ".")) nilA)) (conE (.int 6))))) (retS (conE (.bl false))) passS)
noncomputable def b_is_name_1 : C :=
  (retS (callE allF (consA (lcE (iterE (methE "str" splitF (varE 0) (consA (conE (.str ".")) nilA))) [1] (.nm 1) yesT (callE f_is_stem (consA (varE 1) nilA))) nilA)))
theorem sc_is_name : FnScope ["value", "stem"] ["value"] (defScope st_is_name) := ⟨rfl, rfl, rfl, by decide +kernel, rfl, by decide +kernel, by decide +kernel⟩
noncomputable def b_is_name : C :=
  (seqS b_is_name_0 b_is_name_1)
noncomputable def f_is_name : Fn := mkFn 1 2 [] b_is_name
set_option maxHeartbeats 8000000 in
theorem ok_is_name {P : Program} {w : World} {K : PySem.W.Frag} {mg : Str → Option Value} {base : Heap} (T : Txt K mg) : DefOk P w K mg base 2 "is_name" f_is_name :=
  T.d_is_name.ok sc_is_name rfl rfl fun fa cdv A outer s H E hr => (by exact (qs_cons (qs_if ((q_orT (q_notT (q_truT (q_callB qc_isa T.b_isinstance (by decide +kernel) (qa_cons (qv 0) (qa_cons (q_ty T.b_str (by decide +kernel)) qa_nil))))) (q_or1T (q_cmpT qo_ge (q_meth PySem.F.plainAttrs_str PySem.F.slot_str_count PySem.F.type_str_count qm_count (qv 0) (qa_cons q_str qa_nil)) (let ⟨_, h⟩ := T.c_MOST_STEMS; q_gint h))))).pt (qs_one (qs_ret q_bl)) qs_nil)
  (qs_one (qs_ret (q_callB (qc_all rfl) T.b_all (by decide +kernel) (qa_cons (q_lc rfl sc_is_name.nd (qi_val (q_meth PySem.F.plainAttrs_str PySem.F.slot_str_split PySem.F.type_str_split qm_split (qv 0) (qa_cons q_str qa_nil))) (own := [("stem", 1)]) (⟨rfl, by decide +kernel, by decide +kernel, by decide +kernel, by decide +kernel⟩ : BlkOk ["value", "stem"] (defScope st_is_name) _ [("stem", 1)]) rfl (fun _ _ _ _ _ => (pg_name (i := 1) sc_is_name.nd rfl (by first | exact Or.inl rfl | exact Or.inr rfl))) (fun _ _ _ _ _ => qts_nil) (fun _ _ _ _ _ => (q_call ((ok_is_stem T).mono (by decide)) hr takes0 (qa_cons (qv 1) qa_nil)))) qa_nil))))))
abbrev st_joined_name : Stmt := top 11
noncomputable def b_joined_name_0 : C :=
  (setS 1 (methE "str" joinF (conE (.str ".")) (consA (varE 0) nilA)))
noncomputable def b_joined_name_1 : C :=
  (ifS (tstE (binE geD (methE "str" countF (varE 1) (consA (conE (.str ".")) nilA)) (conE (.int 6)))) (raiseS "TooMany" f_TooMany (consA (conE (.str "stems")) (consA (conE (.int 6)) nilA))) passS)
noncomputable def b_joined_name_2 : C :=
  (retS (varE 1))
theorem sc_joined_name : FnScope ["names", "name"] ["names"] (defScope st_joined_name) := ⟨rfl, rfl, rfl, by decide +kernel, rfl, by decide +kernel, by decide +kernel⟩
noncomputable def b_joined_name : C :=
  (seqS b_joined_name_0 (seqS b_joined_name_1 b_joined_name_2))
noncomputable def f_joined_name : Fn := mkFnS 0 2 b_joined_name
set_option maxHeartbeats 8000000 in
theorem ok_joined_name {P : Program} {w : World} {K : PySem.W.Frag} {mg : Str → Option Value} {base : Heap} (T : Txt K mg) : DefOk P w K mg base 4 "joined_name" f_joined_name :=
  T.d_joined_name.ok (ps := []) sc_joined_name rfl rfl (fun _ _ _ _ _ _ us rest hl => match us, rest, hl with | [], [], _ => rfl | [], _ :: _, _ => rfl) fun fa cdv A outer s H E hr => (by exact (qs_cons (qs_set (i := 1) (q_meth PySem.F.plainAttrs_str PySem.F.slot_str_join PySem.F.type_str_join qm_join q_str (qa_cons (qv 0) qa_nil)) sc_joined_name.nd)
  (qs_cons (qs_if (q_cmpT qo_ge (q_meth PySem.F.plainAttrs_str PySem.F.slot_str_count PySem.F.type_str_count qm_count (qv 1) (qa_cons q_str qa_nil)) (let ⟨_, h⟩ := T.c_MOST_STEMS; q_gint h)) (qs_one (by obtain ⟨_, h1, h2, h3⟩ := mk_TooMany (P := P) (w := w) (base := base) T; exact qs_raise rfl (takes_of rfl rfl rfl rfl) T.C_TooMany.T h1 h2 h3 (hr.mono (by decide)) T.C_TooMany.gC (qa_cons q_str (qa_cons (let ⟨_, h⟩ := T.c_MOST_STEMS; q_gint h) qa_nil)))) qs_nil)
  (qs_one (qs_ret (qv 1))))))
abbrev st_l_pool : Stmt := top 13
theorem sc_l_pool : FnScope ["_law_script", "_law_cell"] ["_law_script"] (defScope st_l_pool) := ⟨rfl, rfl, rfl, by decide +kernel, rfl, by decide +kernel, by decide +kernel⟩
noncomputable def b_l_pool : C :=
  (retS (lstE (consA (lcE (iterE (sliceE (varE 0) noO (someO (conE (.int 63))))) [1] (.nm 1) yesT (callE intF (consA (varE 1) nilA))) (consA (conE (.int 0)) (consA (conE (.int 0)) nilA)))))
noncomputable def f_l_pool : Fn := mkFn 1 2 [] b_l_pool
set_option maxHeartbeats 8000000 in
theorem ok_l_pool {P : Program} {w : World} {K : PySem.W.Frag} {mg : Str → Option Value} {base : Heap} (T : Txt K mg) : DefOk P w K mg base 1 "_law_pool" f_l_pool :=
  T.d_l_pool.ok sc_l_pool rfl rfl fun fa cdv A outer s H E hr => (by exact (qs_one (qs_ret (q_lst (qa_cons (q_lc rfl sc_l_pool.nd (qi_val (q_slice (qv 0) qo_none (qo_some q_int))) (own := [("_law_cell", 1)]) (⟨rfl, by decide +kernel, by decide +kernel, by decide +kernel, by decide +kernel⟩ : BlkOk ["_law_script", "_law_cell"] (defScope st_l_pool) _ [("_law_cell", 1)]) rfl (fun _ _ _ _ _ => (pg_name (i := 1) sc_l_pool.nd rfl (by first | exact Or.inl rfl | exact Or.inr rfl))) (fun _ _ _ _ _ => qts_nil) (fun _ _ _ _ _ => (q_callT qc_int T.b_int (by decide +kernel) (qa_cons (qv 1) qa_nil)))) (qa_cons q_int (qa_cons q_int qa_nil)))))))
abbrev st_l_ladle : Stmt := top 14
noncomputable def b_l_ladle_0 : C :=
  (ifS (tstE (binE gtD (binE idxD (varE 0) (conE (.int 2))) (conE (.int 0)))) (seqS (setS 2 (binE idxD (varE 0) (conE (.int 2))))
  (seqS (setItS (binE fdivD (callE intF (consA (varE 2) nilA)) (varE 1)) (varE 0) (conE (.int 2)))
  (retS (binE modD (callE intF (consA (varE 2) nilA)) (varE 1))))) passS)
noncomputable def b_l_ladle_1 : C :=
  (setS 3 (binE idxD (varE 0) (conE (.int 1))))
noncomputable def b_l_ladle_2 : C :=
  (setItS (binE addD (varE 3) (conE (.int 1))) (varE 0) (conE (.int 1)))
noncomputable def b_l_ladle_3 : C :=
  (setS 4 (binE addD (binE mulD (conE (.int 36787)) (varE 3)) (conE (.int 2113))))
noncomputable def b_l_ladle_4 : C :=
  (ifS (tstE (binE neD (binE idxD (varE 0) (conE (.int 0))) (lstE nilA))) (setS 4 (binE idxD (binE idxD (varE 0) (conE (.int 0))) (binE modD (callE intF (consA (varE 3) nilA)) (callE lenF (consA (binE idxD (varE 0) (conE (.int 0))) nilA))))) passS)
noncomputable def b_l_ladle_5 : C :=
  (ifS (andT (tstE (binE ltD (varE 3) (callE lenF (consA (binE idxD (varE 0) (conE (.int 0))) nilA)))) (tstE (binE geD (callE absF (consA (varE 4) nilA)) (binE powD (conE (.int 10)) (conE (.int 18)))))) (seqS (setS 2 (binE subD (callE absF (consA (varE 4) nilA)) (binE powD (conE (.int 10)) (conE (.int 18)))))
  (seqS (setItS (binE fdivD (callE intF (consA (varE 2) nilA)) (varE 1)) (varE 0) (conE (.int 2)))
  (retS (binE modD (callE intF (consA (varE 2) nilA)) (varE 1))))) passS)
noncomputable def b_l_ladle_6 : C :=
  (setS 5 (binE modD (callE intF (consA (binE powD (binE addD (binE addD (binE modD (callE intF (consA (varE 4) nilA)) (conE (.int 2147483549))) (binE mulD (conE (.int 50101)) (varE 3))) (conE (.int 2113))) (conE (.int 5))) nilA)) (conE (.int 2147483647))))
noncomputable def b_l_ladle_7 : C :=
  (setS 5 (binE modD (callE intF (consA (binE powD (binE addD (binE addD (binE mulD (varE 5) (binE addD (binE mulD (conE (.int 2)) (varE 3)) (conE (.int 1409)))) (binE mulD (binE mulD (conE (.int 36787)) (varE 3)) (varE 3))) (conE (.int 2113))) (conE (.int 3))) nilA)) (conE (.int 2147483563))))
noncomputable def b_l_ladle_8 : C :=
  (retS (binE modD (callE intF (consA (binE fdivD (varE 5) (conE (.int 64))) nilA)) (varE 1)))
theorem sc_l_ladle : FnScope ["_law_pool_here", "_law_many", "_law_rest", "_law_turn", "_law_cell", "_law_mixed"] ["_law_pool_here", "_law_many"] (defScope st_l_ladle) := ⟨rfl, rfl, rfl, by decide +kernel, rfl, by decide +kernel, by decide +kernel⟩
noncomputable def b_l_ladle : C :=
  (seqS b_l_ladle_0 (seqS b_l_ladle_1 (seqS b_l_ladle_2 (seqS b_l_ladle_3 (seqS b_l_ladle_4 (seqS b_l_ladle_5 (seqS b_l_ladle_6 (seqS b_l_ladle_7 b_l_ladle_8))))))))
noncomputable def f_l_ladle : Fn := mkFn 2 6 [] b_l_ladle
set_option maxHeartbeats 8000000 in
theorem ok_l_ladle {P : Program} {w : World} {K : PySem.W.Frag} {mg : Str → Option Value} {base : Heap} (T : Txt K mg) : DefOk P w K mg base 1 "_law_ladle" f_l_ladle :=
  T.d_l_ladle.ok sc_l_ladle rfl rfl fun fa cdv A outer s H E hr => (by exact (qs_cons (qs_if (q_cmpT qo_gt (q_idx (qv 0) q_int) q_int) (qs_cons (qs_set (i := 2) (q_idx (qv 0) q_int) sc_l_ladle.nd)
  (qs_cons (qs_setIt (q_bin qo_fdiv (q_callT qc_int T.b_int (by decide +kernel) (qa_cons (qv 2) qa_nil)) (qv 1)) (qv 0) q_int)
  (qs_one (qs_ret (q_bin qo_mod (q_callT qc_int T.b_int (by decide +kernel) (qa_cons (qv 2) qa_nil)) (qv 1)))))) qs_nil)
  (qs_cons (qs_set (i := 3) (q_idx (qv 0) q_int) sc_l_ladle.nd)
  (qs_cons (qs_setIt (q_bin qo_add (qv 3) q_int) (qv 0) q_int)
  (qs_cons (qs_set (i := 4) (q_bin qo_add (q_bin qo_mul q_int (qv 3)) q_int) sc_l_ladle.nd)
  (qs_cons (qs_if (q_cmpT (qo_ne hr.units) (q_idx (qv 0) q_int) (q_lst qa_nil)) (qs_one (qs_set (i := 4) (q_idx (q_idx (qv 0) q_int) (q_bin qo_mod (q_callT qc_int T.b_int (by decide +kernel) (qa_cons (qv 3) qa_nil)) (q_callB qc_len T.b_len (by decide +kernel) (qa_cons (q_idx (qv 0) q_int) qa_nil)))) sc_l_ladle.nd)) qs_nil)
  (qs_cons (qs_if ((q_andT (q_cmpT qo_lt (qv 3) (q_callB qc_len T.b_len (by decide +kernel) (qa_cons (q_idx (qv 0) q_int) qa_nil))) (q_and1T (q_cmpT qo_ge (q_callB qc_abs T.b_abs (by decide +kernel) (qa_cons (qv 4) qa_nil)) (q_bin qo_pow q_int q_int))))).pt (qs_cons (qs_set (i := 2) (q_bin qo_sub (q_callB qc_abs T.b_abs (by decide +kernel) (qa_cons (qv 4) qa_nil)) (q_bin qo_pow q_int q_int)) sc_l_ladle.nd)
  (qs_cons (qs_setIt (q_bin qo_fdiv (q_callT qc_int T.b_int (by decide +kernel) (qa_cons (qv 2) qa_nil)) (qv 1)) (qv 0) q_int)
  (qs_one (qs_ret (q_bin qo_mod (q_callT qc_int T.b_int (by decide +kernel) (qa_cons (qv 2) qa_nil)) (qv 1)))))) qs_nil)
  (qs_cons (qs_set (i := 5) (q_bin qo_mod (q_callT qc_int T.b_int (by decide +kernel) (qa_cons (q_bin qo_pow (q_bin qo_add (q_bin qo_add (q_bin qo_mod (q_callT qc_int T.b_int (by decide +kernel) (qa_cons (qv 4) qa_nil)) q_int) (q_bin qo_mul q_int (qv 3))) q_int) q_int) qa_nil)) q_int) sc_l_ladle.nd)
  (qs_cons (qs_set (i := 5) (q_bin qo_mod (q_callT qc_int T.b_int (by decide +kernel) (qa_cons (q_bin qo_pow (q_bin qo_add (q_bin qo_add (q_bin qo_mul (qv 5) (q_bin qo_add (q_bin qo_mul q_int (qv 3)) q_int)) (q_bin qo_mul (q_bin qo_mul q_int (qv 3)) (qv 3))) q_int) q_int) qa_nil)) q_int) sc_l_ladle.nd)
  (qs_one (qs_ret (q_bin qo_mod (q_callT qc_int T.b_int (by decide +kernel) (qa_cons (q_bin qo_fdiv (qv 5) q_int) qa_nil)) (qv 1)))))))))))))
abbrev st_l_of : Stmt := top 15
theorem sc_l_of : FnScope ["_law_pool_here", "_law_things"] ["_law_pool_here", "_law_things"] (defScope st_l_of) := ⟨rfl, rfl, rfl, by decide +kernel, rfl, by decide +kernel, by decide +kernel⟩
noncomputable def b_l_of : C :=
  (retS (binE idxD (varE 1) (callE f_l_ladle (consA (varE 0) (consA (callE lenF (consA (varE 1) nilA)) nilA)))))
noncomputable def f_l_of : Fn := mkFn 2 2 [] b_l_of
set_option maxHeartbeats 8000000 in
theorem ok_l_of {P : Program} {w : World} {K : PySem.W.Frag} {mg : Str → Option Value} {base : Heap} (T : Txt K mg) : DefOk P w K mg base 2 "_law_of" f_l_of :=
  T.d_l_of.ok sc_l_of rfl rfl fun fa cdv A outer s H E hr => (by exact (qs_one (qs_ret (q_idx (qv 1) (q_call ((ok_l_ladle T).mono (by decide)) hr (takes_of rfl rfl rfl rfl) (qa_cons (qv 0) (qa_cons (q_callB qc_len T.b_len (by decide +kernel) (qa_cons (qv 1) qa_nil)) qa_nil)))))))
abbrev st_l_stem : Stmt := top 16
noncomputable def b_l_stem_0 : C :=
  (setS 2 (conE (.str "abcdefghijklmnopqrstuvwxyz")))
noncomputable def b_l_stem_1 : C :=
  (setS 3 (lcE (range1 (callE f_l_of (consA (varE 0) (consA (lstE (consA (conE (.int 0)) (consA (conE (.int 1)) (consA (conE (.int 3)) (consA (conE (.int 10)) (consA (conE (.int 11)) (consA (binE subD (varE 1) (conE (.int 1))) nilA))))))) nilA)))) [4] (.nm 4) yesT (callE f_l_of (consA (varE 0) (consA (binE addD (conE (.str "0123456789")) (varE 2)) nilA)))))
noncomputable def b_l_stem_2 : C :=
  (retS (binE addD (callE f_l_of (consA (varE 0) (consA (varE 2) nilA))) (methE "str" joinF (conE (.str "")) (consA (varE 3) nilA))))
theorem sc_l_stem : FnScope ["_law_pool_here", "_law_most", "_law_letters", "_law_more", "_law_at"] ["_law_pool_here", "_law_most"] (defScope st_l_stem) := ⟨rfl, rfl, rfl, by decide +kernel, rfl, by decide +kernel, by decide +kernel⟩
noncomputable def b_l_stem : C :=
  (seqS b_l_stem_0 (seqS b_l_stem_1 b_l_stem_2))
noncomputable def f_l_stem : Fn := mkFn 2 5 [] b_l_stem
set_option maxHeartbeats 8000000 in
theorem ok_l_stem {P : Program} {w : World} {K : PySem.W.Frag} {mg : Str → Option Value} {base : Heap} (T : Txt K mg) : DefOk P w K mg base 3 "_law_stem" f_l_stem :=
  T.d_l_stem.ok sc_l_stem rfl rfl fun fa cdv A outer s H E hr => (by exact (qs_cons (qs_set (i := 2) q_str sc_l_stem.nd)
  (qs_cons (qs_setLc (i := 3) rfl sc_l_stem.nd (qi_range1 (q_call ((ok_l_of T).mono (by decide)) hr (takes_of rfl rfl rfl rfl) (qa_cons (qv 0) (qa_cons (q_lst (qa_cons q_int (qa_cons q_int (qa_cons q_int (qa_cons q_int (qa_cons q_int (qa_cons (q_bin qo_sub (qv 1) q_int) qa_nil))))))) qa_nil))) T.b_range) (own := [("_law_at", 4)]) (⟨rfl, by decide +kernel, by decide +kernel, by decide +kernel, by decide +kernel⟩ : BlkOk ["_law_pool_here", "_law_most", "_law_letters", "_law_more", "_law_at"] (defScope st_l_stem) _ [("_law_at", 4)]) rfl (fun _ _ _ _ _ => (pg_name (i := 4) sc_l_stem.nd rfl (by first | exact Or.inl rfl | exact Or.inr rfl))) (fun _ _ _ _ _ => qts_nil) (fun _ _ _ _ _ => (q_call ((ok_l_of T).mono (by decide)) hr takes0 (qa_cons (qv 0) (qa_cons (q_bin qo_add q_str (qv 2)) qa_nil)))))
  (qs_one (qs_ret (q_bin qo_add (q_call ((ok_l_of T).mono (by decide)) hr (takes_of rfl rfl rfl rfl) (qa_cons (qv 0) (qa_cons (qv 2) qa_nil))) (q_meth PySem.F.plainAttrs_str PySem.F.slot_str_join PySem.F.type_str_join qm_join q_str (qa_cons (qv 3) qa_nil))))))))
abbrev st_l_bent : Stmt := top 17
noncomputable def b_l_bent_0 : C :=
  (setS 2 (conE (.str " !#$&()*+,-./0123456789:;<=>?@AZ[]^_az{|}~\n")))
noncomputable def b_l_bent_1 : C :=
  (parS 3 4 (consA (callE f_l_ladle (consA (varE 0) (consA (conE (.int 6)) nilA))) (consA (callE f_l_ladle (consA (varE 0) (consA (binE addD (callE lenF (consA (varE 1) nilA)) (conE (.int 1))) nilA))) nilA)))
noncomputable def b_l_bent_2 : C :=
  (ifS (tstE (binE eqD (varE 3) (conE (.int 0)))) (retS (binE addD (binE addD (sliceE (varE 1) noO (someO (varE 4))) (callE f_l_of (consA (varE 0) (consA (varE 2) nilA)))) (sliceE (varE 1) (someO (varE 4)) noO))) passS)
noncomputable def b_l_bent_3 : C :=
  (ifS (tstE (binE eqD (varE 3) (conE (.int 1)))) (retS (binE addD (binE addD (sliceE (varE 1) noO (someO (varE 4))) (callE f_l_of (consA (varE 0) (consA (varE 2) nilA)))) (sliceE (varE 1) (someO (binE addD (varE 4) (conE (.int 1)))) noO))) passS)
noncomputable def b_l_bent_4 : C :=
  (ifS (tstE (binE eqD (varE 3) (conE (.int 2)))) (retS (binE addD (sliceE (varE 1) noO (someO (varE 4))) (sliceE (varE 1) (someO (binE addD (varE 4) (conE (.int 1)))) noO))) passS)
noncomputable def b_l_bent_5 : C :=
  (retS (varE 1))
theorem sc_l_bent : FnScope ["_law_pool_here", "_law_text", "_law_signs", "_law_way", "_law_place"] ["_law_pool_here", "_law_text"] (defScope st_l_bent) := ⟨rfl, rfl, rfl, by decide +kernel, rfl, by decide +kernel, by decide +kernel⟩
noncomputable def b_l_bent : C :=
  (seqS b_l_bent_0 (seqS b_l_bent_1 (seqS b_l_bent_2 (seqS b_l_bent_3 (seqS b_l_bent_4 b_l_bent_5)))))
noncomputable def f_l_bent : Fn := mkFn 2 5 [] b_l_bent
set_option maxHeartbeats 8000000 in
theorem ok_l_bent {P : Program} {w : World} {K : PySem.W.Frag} {mg : Str → Option Value} {base : Heap} (T : Txt K mg) : DefOk P w K mg base 3 "_law_bent" f_l_bent :=
  T.d_l_bent.ok sc_l_bent rfl rfl fun fa cdv A outer s H E hr => (by exact (qs_cons (qs_set (i := 2) q_str sc_l_bent.nd)
  (qs_cons (qs_par (i := 3) (j := 4) (qa_cons (q_call ((ok_l_ladle T).mono (by decide)) hr (takes_of rfl rfl rfl rfl) (qa_cons (qv 0) (qa_cons q_int qa_nil))) (qa_cons (q_call ((ok_l_ladle T).mono (by decide)) hr (takes_of rfl rfl rfl rfl) (qa_cons (qv 0) (qa_cons (q_bin qo_add (q_callB qc_len T.b_len (by decide +kernel) (qa_cons (qv 1) qa_nil)) q_int) qa_nil))) qa_nil)) sc_l_bent.nd)
  (qs_cons (qs_if (q_cmpT (qo_eq hr.units) (qv 3) q_int) (qs_one (qs_ret (q_bin qo_add (q_bin qo_add (q_slice (qv 1) qo_none (qo_some (qv 4))) (q_call ((ok_l_of T).mono (by decide)) hr (takes_of rfl rfl rfl rfl) (qa_cons (qv 0) (qa_cons (qv 2) qa_nil)))) (q_slice (qv 1) (qo_some (qv 4)) qo_none)))) qs_nil)
  (qs_cons (qs_if (q_cmpT (qo_eq hr.units) (qv 3) q_int) (qs_one (qs_ret (q_bin qo_add (q_bin qo_add (q_slice (qv 1) qo_none (qo_some (qv 4))) (q_call ((ok_l_of T).mono (by decide)) hr (takes_of rfl rfl rfl rfl) (qa_cons (qv 0) (qa_cons (qv 2) qa_nil)))) (q_slice (qv 1) (qo_some (q_bin qo_add (qv 4) q_int)) qo_none)))) qs_nil)
  (qs_cons (qs_if (q_cmpT (qo_eq hr.units) (qv 3) q_int) (qs_one (qs_ret (q_bin qo_add (q_slice (qv 1) qo_none (qo_some (qv 4))) (q_slice (qv 1) (qo_some (q_bin qo_add (qv 4) q_int)) qo_none)))) qs_nil)
  (qs_one (qs_ret (qv 1)))))))))
abbrev st_l_walked : Stmt := top 18
noncomputable def b_l_walked_0 : C :=
  (asgS (.tp [1, 2, 3]) (tupE (consA (conE (.int 1)) (consA (conE (.int 0)) (consA (conE (.int 0)) nilA)))))
noncomputable def b_l_walked_1 : C :=
  (forS (iterE (varE 0)) (.nm 4) (ifS (tstE (binE eqD (varE 4) (conE (.str ".")))) (seqS (ifS (tstE (binE eqD (varE 2) (conE (.int 0)))) (retS (conE .non)) passS)
  (parS 1 2 (consA (binE addD (varE 1) (conE (.int 1))) (consA (conE (.int 0)) nilA)))) (ifS (orT (tstE (chainE leD leD (conE (.str "a")) (varE 4) (conE (.str "z")))) (andT (tstE (binE gtD (varE 2) (conE (.int 0)))) (tstE (chainE leD leD (conE (.str "0")) (varE 4) (conE (.str "9")))))) (seqS (setS 2 (binE addD (varE 2) (conE (.int 1))))
  (setS 3 (callE maxF (consA (varE 3) (consA (varE 2) nilA))))) (retS (conE .non)))))
noncomputable def b_l_walked_2 : C :=
  (retS (ifE (tstE (binE eqD (varE 2) (conE (.int 0)))) (conE .non) (tupE (consA (varE 1) (consA (varE 3) nilA)))))
theorem sc_l_walked : FnScope ["_law_text", "_law_stems", "_law_run", "_law_longest", "_law_sign"] ["_law_text"] (defScope st_l_walked) := ⟨rfl, rfl, rfl, by decide +kernel, rfl, by decide +kernel, by decide +kernel⟩
noncomputable def b_l_walked : C :=
  (seqS b_l_walked_0 (seqS b_l_walked_1 b_l_walked_2))
noncomputable def f_l_walked : Fn := mkFn 1 5 [] b_l_walked
set_option maxHeartbeats 8000000 in
theorem ok_l_walked {P : Program} {w : World} {K : PySem.W.Frag} {mg : Str → Option Value} {base : Heap} (T : Txt K mg) : DefOk P w K mg base 1 "_law_walked" f_l_walked :=
  T.d_l_walked.ok sc_l_walked rfl rfl fun fa cdv A outer s H E hr => (by exact (qs_cons (qs_asg (q_tup (qa_cons q_int (qa_cons q_int (qa_cons q_int qa_nil)))) (tt := .tp [1, 2, 3]) (pg_tup rfl (pgs_cons (pg_name (i := 1) sc_l_walked.nd rfl (by first | exact Or.inl rfl | exact Or.inr rfl)) (pgs_cons (pg_name (i := 2) sc_l_walked.nd rfl (by first | exact Or.inl rfl | exact Or.inr rfl)) (pgs_cons (pg_name (i := 3) sc_l_walked.nd rfl (by first | exact Or.inl rfl | exact Or.inr rfl)) pgs_nil)))))
  (qs_cons (qs_for (passes_of rfl) rfl (qi_val (qv 0)) (pg_name (i := 4) sc_l_walked.nd rfl (by first | exact Or.inl rfl | exact Or.inr rfl)) (qs_one (qs_if (q_cmpT (qo_eq hr.units) (qv 4) q_str) (qs_cons (qs_if (q_cmpT (qo_eq hr.units) (qv 2) q_int) (qs_one (qs_ret q_non)) qs_nil)
  (qs_one (qs_par (i := 1) (j := 2) (qa_cons (q_bin qo_add (qv 1) q_int) (qa_cons q_int qa_nil)) sc_l_walked.nd))) (qs_one (qs_if ((q_orT (q_chainT qo_le qo_le q_str (qv 4) q_str) (q_or1T ((q_andT (q_cmpT qo_gt (qv 2) q_int) (q_and1T (q_chainT qo_le qo_le q_str (qv 4) q_str)))).pt))).pt (qs_cons (qs_set (i := 2) (q_bin qo_add (qv 2) q_int) sc_l_walked.nd)
  (qs_one (qs_set (i := 3) (q_callB (qc_max rfl) T.b_max (by decide +kernel) (qa_cons (qv 3) (qa_cons (qv 2) qa_nil))) sc_l_walked.nd))) (qs_one (qs_ret q_non)))))))
  (qs_one (qs_ret (q_if (q_cmpT (qo_eq hr.units) (qv 2) q_int) q_non (q_tup (qa_cons (qv 1) (qa_cons (qv 3) qa_nil)))))))))
abbrev st_l_text_right : Stmt := top 19
noncomputable def b_l_text_right_0 : C :=
  (setS 1 (callE f_l_bent (consA (varE 0) (consA (methE "str" joinF (conE (.str ".")) (consA (lcE (range1 (callE f_l_of (consA (varE 0) (consA (lstE (consA (conE (.int 1)) (consA (conE (.int 1)) (consA (conE (.int 2)) (consA (conE (.int 3)) (consA (conE (.int 5)) (consA (conE (.int 6)) (consA (conE (.int 7)) nilA)))))))) nilA)))) [5] (.nm 5) yesT (callE f_l_stem (consA (varE 0) (consA (conE (.int 13)) nilA)))) nilA)) nilA))))
noncomputable def b_l_text_right_1 : C :=
  (setS 2 (callE f_l_walked (consA (varE 1) nilA)))
noncomputable def b_l_text_right_2 : C :=
  (setS 3 (andE (binE isnotD (varE 2) (conE .non)) (binE leD (binE idxD (varE 2) (conE (.int 1))) (conE (.int 12)))))
noncomputable def b_l_text_right_3 : C :=
  (setS 4 (tupE (consA (andE (varE 3) (binE eqD (binE idxD (varE 2) (conE (.int 0))) (conE (.int 1)))) (consA (andE (varE 3) (binE leD (binE idxD (varE 2) (conE (.int 0))) (conE (.int 6)))) (consA (conE (.bl false)) (consA (conE (.bl false)) nilA))))))
noncomputable def b_l_text_right_4 : C :=
  (retS (binE eqD (callE reprF (consA (tupE (consA (callE f_is_stem (consA (varE 1) nilA)) (consA (callE f_is_name (consA (varE 1) nilA)) (consA (callE f_is_integer (consA (varE 1) nilA)) (consA (callE f_is_within (consA (varE 1) (consA (conE .non) (consA (conE .non) nilA)))) nilA))))) nilA)) (callE reprF (consA (varE 4) nilA))))
theorem sc_l_text_right : FnScope ["_law_pool_here", "_law_text", "_law_walked_here", "_law_sound", "_law_due", "_law_turn"] ["_law_pool_here"] (defScope st_l_text_right) := ⟨rfl, rfl, rfl, by decide +kernel, rfl, by decide +kernel, by decide +kernel⟩
noncomputable def b_l_text_right : C :=
  (seqS b_l_text_right_0 (seqS b_l_text_right_1 (seqS b_l_text_right_2 (seqS b_l_text_right_3 b_l_text_right_4))))
noncomputable def f_l_text_right : Fn := mkFn 1 6 [] b_l_text_right
set_option maxHeartbeats 8000000 in
theorem ok_l_text_right {P : Program} {w : World} {K : PySem.W.Frag} {mg : Str → Option Value} {base : Heap} (T : Txt K mg) : DefOk P w K mg base 4 "_law_text_right" f_l_text_right :=
  T.d_l_text_right.ok sc_l_text_right rfl rfl fun fa cdv A outer s H E hr => (by exact (qs_cons (qs_set (i := 1) (q_call ((ok_l_bent T).mono (by decide)) hr (takes_of rfl rfl rfl rfl) (qa_cons (qv 0) (qa_cons (q_meth PySem.F.plainAttrs_str PySem.F.slot_str_join PySem.F.type_str_join qm_join q_str (qa_cons (q_lc rfl sc_l_text_right.nd (qi_range1 (q_call ((ok_l_of T).mono (by decide)) hr (takes_of rfl rfl rfl rfl) (qa_cons (qv 0) (qa_cons (q_lst (qa_cons q_int (qa_cons q_int (qa_cons q_int (qa_cons q_int (qa_cons q_int (qa_cons q_int (qa_cons q_int qa_nil)))))))) qa_nil))) T.b_range) (own := [("_law_turn", 5)]) (⟨rfl, by decide +kernel, by decide +kernel, by decide +kernel, by decide +kernel⟩ : BlkOk ["_law_pool_here", "_law_text", "_law_walked_here", "_law_sound", "_law_due", "_law_turn"] (defScope st_l_text_right) _ [("_law_turn", 5)]) rfl (fun _ _ _ _ _ => (pg_name (i := 5) sc_l_text_right.nd rfl (by first | exact Or.inl rfl | exact Or.inr rfl))) (fun _ _ _ _ _ => qts_nil) (fun _ _ _ _ _ => (q_call ((ok_l_stem T).mono (by decide)) hr takes0 (qa_cons (qv 0) (qa_cons q_int qa_nil))))) qa_nil)) qa_nil))) sc_l_text_right.nd)
  (qs_cons (qs_set (i := 2) (q_call ((ok_l_walked T).mono (by decide)) hr (takes_of rfl rfl rfl rfl) (qa_cons (qv 1) qa_nil)) sc_l_text_right.nd)
  (qs_cons (qs_set (i := 3) (q_and (q_cmp qo_isnot (qv 2) q_non) (q_one (q_cmp qo_le (q_idx (qv 2) q_int) q_int))) sc_l_text_right.nd)
  (qs_cons (qs_set (i := 4) (q_tup (qa_cons (q_and (qv 3) (q_one (q_cmp (qo_eq hr.units) (q_idx (qv 2) q_int) q_int))) (qa_cons (q_and (qv 3) (q_one (q_cmp qo_le (q_idx (qv 2) q_int) q_int))) (qa_cons q_bl (qa_cons q_bl qa_nil))))) sc_l_text_right.nd)
  (qs_one (qs_ret (q_cmp (qo_eq hr.units) (q_callB (qc_repr hr.g hr.units) T.b_repr (by decide +kernel) (qa_cons (q_tup (qa_cons (q_call ((ok_is_stem T).mono (by decide)) hr (takes_of rfl rfl rfl rfl) (qa_cons (qv 1) qa_nil)) (qa_cons (q_call ((ok_is_name T).mono (by decide)) hr (takes_of rfl rfl rfl rfl) (qa_cons (qv 1) qa_nil)) (qa_cons (q_call ((ok_is_integer T).mono (by decide)) hr (takes_of rfl rfl rfl rfl) (qa_cons (qv 1) qa_nil)) (qa_cons (q_call ((ok_is_within T).mono (by decide)) hr (takes_of rfl rfl rfl rfl) (qa_cons (qv 1) (qa_cons q_non (qa_cons q_non qa_nil)))) qa_nil))))) qa_nil)) (q_callB (qc_repr hr.g hr.units) T.b_repr (by decide +kernel) (qa_cons (qv 4) qa_nil))))))))))
abbrev st_l_number_right : Stmt := top 20
noncomputable def b_l_number_right_0 : C :=
  (setS 1 (binE mulD (callE f_l_of (consA (varE 0) (consA (lstE (consA (unE negD (conE (.int 1))) (consA (conE (.int 1)) nilA))) nilA))) (callE f_l_ladle (consA (varE 0) (consA (callE f_l_of (consA (varE 0) (consA (lstE (consA (conE (.int 3)) (consA (conE (.int 100)) (consA (binE powD (conE (.int 10)) (conE (.int 60))) nilA)))) nilA))) nilA)))))
noncomputable def b_l_number_right_1 : C :=
  (setS 2 (callE f_l_of (consA (varE 0) (consA (lstE (consA (conE .non) (consA (binE subD (varE 1) (conE (.int 1))) (consA (varE 1) (consA (binE addD (varE 1) (conE (.int 1))) (consA (conE (.int 0)) nilA)))))) nilA))))
noncomputable def b_l_number_right_2 : C :=
  (setS 3 (callE f_l_of (consA (varE 0) (consA (lstE (consA (conE .non) (consA (binE addD (varE 1) (conE (.int 1))) (consA (varE 1) (consA (binE subD (varE 1) (conE (.int 1))) (consA (conE (.int 9)) nilA)))))) nilA))))
noncomputable def b_l_number_right_3 : C :=
  (setS 4 (tupE (consA (conE (.bl true)) (consA (andE (orE (binE isD (varE 2) (conE .non)) (binE leD (varE 2) (varE 1))) (orE (binE isD (varE 3) (conE .non)) (binE leD (varE 1) (varE 3)))) (consA (conE (.bl false)) (consA (conE (.bl false)) nilA))))))
noncomputable def b_l_number_right_4 : C :=
  (retS (binE eqD (callE reprF (consA (tupE (consA (callE f_is_integer (consA (varE 1) nilA)) (consA (callE f_is_within (consA (varE 1) (consA (varE 2) (consA (varE 3) nilA)))) (consA (callE f_is_stem (consA (varE 1) nilA)) (consA (callE f_is_name (consA (varE 1) nilA)) nilA))))) nilA)) (callE reprF (consA (varE 4) nilA))))
theorem sc_l_number_right : FnScope ["_law_pool_here", "_law_number", "_law_least", "_law_most", "_law_due"] ["_law_pool_here"] (defScope st_l_number_right) := ⟨rfl, rfl, rfl, by decide +kernel, rfl, by decide +kernel, by decide +kernel⟩
noncomputable def b_l_number_right : C :=
  (seqS b_l_number_right_0 (seqS b_l_number_right_1 (seqS b_l_number_right_2 (seqS b_l_number_right_3 b_l_number_right_4))))
noncomputable def f_l_number_right : Fn := mkFn 1 5 [] b_l_number_right
set_option maxHeartbeats 8000000 in
theorem ok_l_number_right {P : Program} {w : World} {K : PySem.W.Frag} {mg : Str → Option Value} {base : Heap} (T : Txt K mg) : DefOk P w K mg base 3 "_law_number_right" f_l_number_right :=
  T.d_l_number_right.ok sc_l_number_right rfl rfl fun fa cdv A outer s H E hr => (by exact (qs_cons (qs_set (i := 1) (q_bin qo_mul (q_call ((ok_l_of T).mono (by decide)) hr (takes_of rfl rfl rfl rfl) (qa_cons (qv 0) (qa_cons (q_lst (qa_cons (q_un qo_neg q_int) (qa_cons q_int qa_nil))) qa_nil))) (q_call ((ok_l_ladle T).mono (by decide)) hr (takes_of rfl rfl rfl rfl) (qa_cons (qv 0) (qa_cons (q_call ((ok_l_of T).mono (by decide)) hr (takes_of rfl rfl rfl rfl) (qa_cons (qv 0) (qa_cons (q_lst (qa_cons q_int (qa_cons q_int (qa_cons (q_bin qo_pow q_int q_int) qa_nil)))) qa_nil))) qa_nil)))) sc_l_number_right.nd)
  (qs_cons (qs_set (i := 2) (q_call ((ok_l_of T).mono (by decide)) hr (takes_of rfl rfl rfl rfl) (qa_cons (qv 0) (qa_cons (q_lst (qa_cons q_non (qa_cons (q_bin qo_sub (qv 1) q_int) (qa_cons (qv 1) (qa_cons (q_bin qo_add (qv 1) q_int) (qa_cons q_int qa_nil)))))) qa_nil))) sc_l_number_right.nd)
  (qs_cons (qs_set (i := 3) (q_call ((ok_l_of T).mono (by decide)) hr (takes_of rfl rfl rfl rfl) (qa_cons (qv 0) (qa_cons (q_lst (qa_cons q_non (qa_cons (q_bin qo_add (qv 1) q_int) (qa_cons (qv 1) (qa_cons (q_bin qo_sub (qv 1) q_int) (qa_cons q_int qa_nil)))))) qa_nil))) sc_l_number_right.nd)
  (qs_cons (qs_set (i := 4) (q_tup (qa_cons q_bl (qa_cons (q_and (q_or (q_cmp qo_is (qv 2) q_non) (q_one (q_cmp qo_le (qv 2) (qv 1)))) (q_one (q_or (q_cmp qo_is (qv 3) q_non) (q_one (q_cmp qo_le (qv 1) (qv 3)))))) (qa_cons q_bl (qa_cons q_bl qa_nil))))) sc_l_number_right.nd)
  (qs_one (qs_ret (q_cmp (qo_eq hr.units) (q_callB (qc_repr hr.g hr.units) T.b_repr (by decide +kernel) (qa_cons (q_tup (qa_cons (q_call ((ok_is_integer T).mono (by decide)) hr (takes_of rfl rfl rfl rfl) (qa_cons (qv 1) qa_nil)) (qa_cons (q_call ((ok_is_within T).mono (by decide)) hr (takes_of rfl rfl rfl rfl) (qa_cons (qv 1) (qa_cons (qv 2) (qa_cons (qv 3) qa_nil)))) (qa_cons (q_call ((ok_is_stem T).mono (by decide)) hr (takes_of rfl rfl rfl rfl) (qa_cons (qv 1) qa_nil)) (qa_cons (q_call ((ok_is_name T).mono (by decide)) hr (takes_of rfl rfl rfl rfl) (qa_cons (qv 1) qa_nil)) qa_nil))))) qa_nil)) (q_callB (qc_repr hr.g hr.units) T.b_repr (by decide +kernel) (qa_cons (qv 4) qa_nil))))))))))
abbrev st_l_odd_right : Stmt := top 21
noncomputable def b_l_odd_right_0 : C :=
  (setS 1 (callE f_l_of (consA (varE 0) (consA (lstE (consA (conE .non) (consA (conE (.bl true)) (consA (conE (.bl false)) (consA (lstE nilA) (consA (lstE (consA (conE (.str "a")) nilA)) (consA (tupE nilA) (consA (tupE (consA (conE (.str "a")) nilA)) (consA (tupE (consA (conE (.int 1)) nilA)) (consA dct0E (consA (dispE [((conE (.str "a")), (conE (.int 1)))]) (consA (lstE (consA (conE (.int 1)) nilA)) (consA (conE (.str "")) (consA (conE (.str ".")) nilA)))))))))))))) nilA))))
noncomputable def b_l_odd_right_1 : C :=
  (setS 2 (lstE (consA (callE f_is_integer (consA (varE 1) nilA)) (consA (callE f_is_within (consA (varE 1) (consA (conE (.int 0)) (consA (conE (.int 1)) nilA)))) (consA (callE f_is_within (consA (varE 1) (consA (conE .non) (consA (conE .non) nilA)))) (consA (callE f_is_stem (consA (varE 1) nilA)) (consA (callE f_is_name (consA (varE 1) nilA)) nilA)))))))
noncomputable def b_l_odd_right_2 : C :=
  (retS (binE eqD (callE reprF (consA (varE 2) nilA)) (callE reprF (consA (lstE (consA (conE (.bl false)) (consA (conE (.bl false)) (consA (conE (.bl false)) (consA (conE (.bl false)) (consA (conE (.bl false)) nilA)))))) nilA))))
theorem sc_l_odd_right : FnScope ["_law_pool_here", "_law_odd", "_law_told"] ["_law_pool_here"] (defScope st_l_odd_right) := ⟨rfl, rfl, rfl, by decide +kernel, rfl, by decide +kernel, by decide +kernel⟩
noncomputable def b_l_odd_right : C :=
  (seqS b_l_odd_right_0 (seqS b_l_odd_right_1 b_l_odd_right_2))
noncomputable def f_l_odd_right : Fn := mkFn 1 3 [] b_l_odd_right
set_option maxHeartbeats 8000000 in
theorem ok_l_odd_right {P : Program} {w : World} {K : PySem.W.Frag} {mg : Str → Option Value} {base : Heap} (T : Txt K mg) : DefOk P w K mg base 3 "_law_odd_right" f_l_odd_right :=
  T.d_l_odd_right.ok sc_l_odd_right rfl rfl fun fa cdv A outer s H E hr => (by exact (qs_cons (qs_set (i := 1) (q_call ((ok_l_of T).mono (by decide)) hr (takes_of rfl rfl rfl rfl) (qa_cons (qv 0) (qa_cons (q_lst (qa_cons q_non (qa_cons q_bl (qa_cons q_bl (qa_cons (q_lst qa_nil) (qa_cons (q_lst (qa_cons q_str qa_nil)) (qa_cons (q_tup qa_nil) (qa_cons (q_tup (qa_cons q_str qa_nil)) (qa_cons (q_tup (qa_cons q_int qa_nil)) (qa_cons q_disp0 (qa_cons (q_disp (.cons q_str q_int .nil)) (qa_cons (q_lst (qa_cons q_int qa_nil)) (qa_cons q_str (qa_cons q_str qa_nil)))))))))))))) qa_nil))) sc_l_odd_right.nd)
  (qs_cons (qs_set (i := 2) (q_lst (qa_cons (q_call ((ok_is_integer T).mono (by decide)) hr (takes_of rfl rfl rfl rfl) (qa_cons (qv 1) qa_nil)) (qa_cons (q_call ((ok_is_within T).mono (by decide)) hr (takes_of rfl rfl rfl rfl) (qa_cons (qv 1) (qa_cons q_int (qa_cons q_int qa_nil)))) (qa_cons (q_call ((ok_is_within T).mono (by decide)) hr (takes_of rfl rfl rfl rfl) (qa_cons (qv 1) (qa_cons q_non (qa_cons q_non qa_nil)))) (qa_cons (q_call ((ok_is_stem T).mono (by decide)) hr (takes_of rfl rfl rfl rfl) (qa_cons (qv 1) qa_nil)) (qa_cons (q_call ((ok_is_name T).mono (by decide)) hr (takes_of rfl rfl rfl rfl) (qa_cons (qv 1) qa_nil)) qa_nil)))))) sc_l_odd_right.nd)
  (qs_one (qs_ret (q_cmp (qo_eq hr.units) (q_callB (qc_repr hr.g hr.units) T.b_repr (by decide +kernel) (qa_cons (qv 2) qa_nil)) (q_callB (qc_repr hr.g hr.units) T.b_repr (by decide +kernel) (qa_cons (q_lst (qa_cons q_bl (qa_cons q_bl (qa_cons q_bl (qa_cons q_bl (qa_cons q_bl qa_nil)))))) qa_nil))))))))
abbrev st_l_joined : Stmt := top 22
noncomputable def b_l_joined_0 : C :=
  (ifS (tstE (binE eqD (callE lenF (consA (varE 0) nilA)) (conE (.int 1)))) (retS (callE f_joined_name (consA (binE idxD (varE 0) (conE (.int 0))) nilA))) passS)
noncomputable def b_l_joined_1 : C :=
  (ifS (tstE (binE eqD (callE lenF (consA (varE 0) nilA)) (conE (.int 2)))) (retS (callE f_joined_name (consA (binE idxD (varE 0) (conE (.int 0))) (consA (binE idxD (varE 0) (conE (.int 1))) nilA)))) passS)
noncomputable def b_l_joined_2 : C :=
  (ifS (tstE (binE eqD (callE lenF (consA (varE 0) nilA)) (conE (.int 3)))) (retS (callE f_joined_name (consA (binE idxD (varE 0) (conE (.int 0))) (consA (binE idxD (varE 0) (conE (.int 1))) (consA (binE idxD (varE 0) (conE (.int 2))) nilA))))) passS)
noncomputable def b_l_joined_3 : C :=
  (retS (callE f_joined_name (consA (binE idxD (varE 0) (conE (.int 0))) (consA (binE idxD (varE 0) (conE (.int 1))) (consA (binE idxD (varE 0) (conE (.int 2))) (consA (binE idxD (varE 0) (conE (.int 3))) nilA))))))
theorem sc_l_joined : FnScope ["_law_names"] ["_law_names"] (defScope st_l_joined) := ⟨rfl, rfl, rfl, by decide +kernel, rfl, by decide +kernel, by decide +kernel⟩
noncomputable def b_l_joined : C :=
  (seqS b_l_joined_0 (seqS b_l_joined_1 (seqS b_l_joined_2 b_l_joined_3)))
noncomputable def f_l_joined : Fn := mkFn 1 1 [] b_l_joined
set_option maxHeartbeats 8000000 in
theorem ok_l_joined {P : Program} {w : World} {K : PySem.W.Frag} {mg : Str → Option Value} {base : Heap} (T : Txt K mg) : DefOk P w K mg base 5 "_law_joined" f_l_joined :=
  T.d_l_joined.ok sc_l_joined rfl rfl fun fa cdv A outer s H E hr => (by exact (qs_cons (qs_if (q_cmpT (qo_eq hr.units) (q_callB qc_len T.b_len (by decide +kernel) (qa_cons (qv 0) qa_nil)) q_int) (qs_one (qs_ret (q_call ((ok_joined_name T).mono (by decide)) hr (takes_of rfl rfl rfl rfl) (qa_cons (q_idx (qv 0) q_int) qa_nil)))) qs_nil)
  (qs_cons (qs_if (q_cmpT (qo_eq hr.units) (q_callB qc_len T.b_len (by decide +kernel) (qa_cons (qv 0) qa_nil)) q_int) (qs_one (qs_ret (q_call ((ok_joined_name T).mono (by decide)) hr (takes_of rfl rfl rfl rfl) (qa_cons (q_idx (qv 0) q_int) (qa_cons (q_idx (qv 0) q_int) qa_nil))))) qs_nil)
  (qs_cons (qs_if (q_cmpT (qo_eq hr.units) (q_callB qc_len T.b_len (by decide +kernel) (qa_cons (qv 0) qa_nil)) q_int) (qs_one (qs_ret (q_call ((ok_joined_name T).mono (by decide)) hr (takes_of rfl rfl rfl rfl) (qa_cons (q_idx (qv 0) q_int) (qa_cons (q_idx (qv 0) q_int) (qa_cons (q_idx (qv 0) q_int) qa_nil)))))) qs_nil)
  (qs_one (qs_ret (q_call ((ok_joined_name T).mono (by decide)) hr (takes_of rfl rfl rfl rfl) (qa_cons (q_idx (qv 0) q_int) (qa_cons (q_idx (qv 0) q_int) (qa_cons (q_idx (qv 0) q_int) (qa_cons (q_idx (qv 0) q_int) qa_nil)))))))))))
abbrev st_l_joined_right : Stmt := top 23
noncomputable def b_l_joined_right_0 : C :=
  (parS 1 2 (consA (lstE nilA) (consA (lstE nilA) nilA)))
noncomputable def b_l_joined_right_1 : C :=
  (forS (range1 (binE addD (conE (.int 1)) (callE f_l_ladle (consA (varE 0) (consA (conE (.int 4)) nilA))))) (.nm 3) (seqS (setS 4 (lcE (range1 (callE f_l_of (consA (varE 0) (consA (lstE (consA (conE (.int 1)) (consA (conE (.int 1)) (consA (conE (.int 2)) (consA (conE (.int 3)) nilA))))) nilA)))) [8] (.nm 8) yesT (callE f_l_stem (consA (varE 0) (consA (conE (.int 12)) nilA)))))
  (seqS (setS 1 (binE addD (varE 1) (varE 4)))
  (exprS (methE "list" appendF (varE 2) (consA (methE "str" joinF (conE (.str ".")) (consA (varE 4) nilA)) nilA))))))
noncomputable def b_l_joined_right_2 : C :=
  (asgS (.tp [5, 6]) (tupE (consA (conE (.str "")) (consA (tupE nilA) nilA))))
noncomputable def b_l_joined_right_3 : C :=
  (tryS 7 [("TooMany", true)] (setS 5 (callE f_l_joined (consA (varE 2) nilA))) (setS 6 (tupE (consA (xfE ["TooMany"] "what" (varE 7)) (consA (xfE ["TooMany"] "most" (varE 7)) (consA (callE (isxF [(("TooMany", "SayError"), true)]) (consA (varE 7) (consA (conE (.gl "SayError")) nilA))) nilA))))))
noncomputable def b_l_joined_right_4 : C :=
  (ifS (tstE (binE gtD (callE lenF (consA (varE 1) nilA)) (conE (.int 6)))) (retS (andE (binE eqD (callE reprF (consA (varE 6) nilA)) (callE reprF (consA (tupE (consA (conE (.str "stems")) (consA (conE (.int 6)) (consA (conE (.bl true)) nilA)))) nilA))) (binE eqD (varE 5) (conE (.str ""))))) passS)
noncomputable def b_l_joined_right_5 : C :=
  (retS (andE (binE eqD (varE 6) (tupE nilA)) (andE (callE isaF (consA (varE 5) (consA (conE (.ty "str")) nilA))) (andE (binE eqD (methE "str" splitF (varE 5) (consA (conE (.str ".")) nilA)) (varE 1)) (binE isD (callE f_is_name (consA (varE 5) nilA)) (conE (.bl true)))))))
theorem sc_l_joined_right : FnScope ["_law_pool_here", "_law_stems", "_law_names", "_law_turn", "_law_some", "_law_made", "_law_found", "error", "_law_at"] ["_law_pool_here"] (defScope st_l_joined_right) := ⟨rfl, rfl, rfl, by decide +kernel, rfl, by decide +kernel, by decide +kernel⟩
noncomputable def b_l_joined_right : C :=
  (seqS b_l_joined_right_0 (seqS b_l_joined_right_1 (seqS b_l_joined_right_2 (seqS b_l_joined_right_3 (seqS b_l_joined_right_4 b_l_joined_right_5)))))
noncomputable def f_l_joined_right : Fn := mkFn 1 9 [] b_l_joined_right
set_option maxHeartbeats 8000000 in
theorem ok_l_joined_right {P : Program} {w : World} {K : PySem.W.Frag} {mg : Str → Option Value} {base : Heap} (T : Txt K mg) : DefOk P w K mg base 6 "_law_joined_right" f_l_joined_right :=
  T.d_l_joined_right.ok sc_l_joined_right rfl rfl fun fa cdv A outer s H E hr => (by exact (qs_cons (qs_par (i := 1) (j := 2) (qa_cons (q_lst qa_nil) (qa_cons (q_lst qa_nil) qa_nil)) sc_l_joined_right.nd)
  (qs_cons (qs_for (passes_of rfl) rfl (qi_range1 (q_bin qo_add q_int (q_call ((ok_l_ladle T).mono (by decide)) hr (takes_of rfl rfl rfl rfl) (qa_cons (qv 0) (qa_cons q_int qa_nil)))) T.b_range) (pg_name (i := 3) sc_l_joined_right.nd rfl (by first | exact Or.inl rfl | exact Or.inr rfl)) (qs_cons (qs_setLc (i := 4) rfl sc_l_joined_right.nd (qi_range1 (q_call ((ok_l_of T).mono (by decide)) hr (takes_of rfl rfl rfl rfl) (qa_cons (qv 0) (qa_cons (q_lst (qa_cons q_int (qa_cons q_int (qa_cons q_int (qa_cons q_int qa_nil))))) qa_nil))) T.b_range) (own := [("_law_at", 8)]) (⟨rfl, by decide +kernel, by decide +kernel, by decide +kernel, by decide +kernel⟩ : BlkOk ["_law_pool_here", "_law_stems", "_law_names", "_law_turn", "_law_some", "_law_made", "_law_found", "error", "_law_at"] (defScope st_l_joined_right) _ [("_law_at", 8)]) rfl (fun _ _ _ _ _ => (pg_name (i := 8) sc_l_joined_right.nd rfl (by first | exact Or.inl rfl | exact Or.inr rfl))) (fun _ _ _ _ _ => qts_nil) (fun _ _ _ _ _ => (q_call ((ok_l_stem T).mono (by decide)) hr takes0 (qa_cons (qv 0) (qa_cons q_int qa_nil)))))
  (qs_cons (qs_set (i := 1) (q_bin qo_add (qv 1) (qv 4)) sc_l_joined_right.nd)
  (qs_one (qs_expr (q_meth PySem.F.plainAttrs_list PySem.F.slot_list_append PySem.F.type_list_append qm_append (qv 2) (qa_cons (q_meth PySem.F.plainAttrs_str PySem.F.slot_str_join PySem.F.type_str_join qm_join q_str (qa_cons (qv 4) qa_nil)) qa_nil)))))))
  (qs_cons (qs_asg (q_tup (qa_cons q_str (qa_cons (q_tup qa_nil) qa_nil))) (tt := .tp [5, 6]) (pg_tup rfl (pgs_cons (pg_name (i := 5) sc_l_joined_right.nd rfl (by first | exact Or.inl rfl | exact Or.inr rfl)) (pgs_cons (pg_name (i := 6) sc_l_joined_right.nd rfl (by first | exact Or.inl rfl | exact Or.inr rfl)) pgs_nil))))
  (qs_cons (qs_try (i := 7) sc_l_joined_right.nd (takes_of rfl rfl rfl rfl) (exm_TooMany T) (nm_of T.C_TooMany.gC rfl (by decide)) (fun W pn xe tk po => (qs_one (qs_set (i := 5) (q_call ((ok_l_joined T).mono (by decide)) hr tk (qa_cons (qv 2) qa_nil)) sc_l_joined_right.nd))) (fun a pn => (qs_one (qs_set (i := 6) (q_tup (qa_cons (q_xf (xf_TooMany T.C_TooMany (by decide)) (qv 7)) (qa_cons (q_xf (xf_TooMany T.C_TooMany (by decide)) (qv 7)) (qa_cons (q_callB (qc_isx (isx_TooMany_SayError T)) T.b_isinstance (by decide +kernel) (qa_cons (qv 7) (qa_cons (q_gl T.C_SayError.gC) qa_nil))) qa_nil)))) sc_l_joined_right.nd))))
  (qs_cons (qs_if (q_cmpT qo_gt (q_callB qc_len T.b_len (by decide +kernel) (qa_cons (qv 1) qa_nil)) q_int) (qs_one (qs_ret (q_and (q_cmp (qo_eq hr.units) (q_callB (qc_repr hr.g hr.units) T.b_repr (by decide +kernel) (qa_cons (qv 6) qa_nil)) (q_callB (qc_repr hr.g hr.units) T.b_repr (by decide +kernel) (qa_cons (q_tup (qa_cons q_str (qa_cons q_int (qa_cons q_bl qa_nil)))) qa_nil))) (q_one (q_cmp (qo_eq hr.units) (qv 5) q_str))))) qs_nil)
  (qs_one (qs_ret (q_and (q_cmp (qo_eq hr.units) (qv 6) (q_tup qa_nil)) (q_and (q_callB qc_isa T.b_isinstance (by decide +kernel) (qa_cons (qv 5) (qa_cons (q_ty T.b_str (by decide +kernel)) qa_nil))) (q_and (q_cmp (qo_eq hr.units) (q_meth PySem.F.plainAttrs_str PySem.F.slot_str_split PySem.F.type_str_split qm_split (qv 5) (qa_cons q_str qa_nil)) (qv 1)) (q_one (q_cmp qo_is (q_call ((ok_is_name T).mono (by decide)) hr (takes_of rfl rfl rfl rfl) (qa_cons (qv 5) qa_nil)) q_bl)))))))))))))
abbrev st_law : Stmt := top 24
noncomputable def b_law_0 : C :=
  (setS 1 (callE f_l_pool (consA (varE 0) nilA)))
noncomputable def b_law_1 : C :=
  (forS (range1 (conE (.int 9))) (.nm 2) (seqS (ifS (orT (notT (truE (callE f_l_text_right (consA (varE 1) nilA)))) (notT (truE (callE f_l_number_right (consA (varE 1) nilA))))) (retS (conE (.bl false))) passS)
  (ifS (orT (notT (truE (callE f_l_odd_right (consA (varE 1) nilA)))) (notT (truE (callE f_l_joined_right (consA (varE 1) nilA))))) (retS (conE (.bl false))) passS)))
noncomputable def b_law_2 : C :=
  (retS (conE (.bl true)))
theorem sc_law : FnScope ["_law_script", "_law_pool_here", "_law_turn"] ["_law_script"] (defScope st_law) := ⟨rfl, rfl, rfl, by decide +kernel, rfl, by decide +kernel, by decide +kernel⟩
noncomputable def b_law : C :=
  (seqS b_law_0 (seqS b_law_1 b_law_2))
noncomputable def f_law : Fn := mkFn 1 3 [] b_law
set_option maxHeartbeats 8000000 in
theorem ok_law {P : Program} {w : World} {K : PySem.W.Frag} {mg : Str → Option Value} {base : Heap} (T : Txt K mg) : DefOk P w K mg base 7 "law" f_law :=
  T.d_law.ok sc_law rfl rfl fun fa cdv A outer s H E hr => (by exact (qs_cons (qs_set (i := 1) (q_call ((ok_l_pool T).mono (by decide)) hr (takes_of rfl rfl rfl rfl) (qa_cons (qv 0) qa_nil)) sc_law.nd)
  (qs_cons (qs_for (passes_of rfl) rfl (qi_range1 q_int T.b_range) (pg_name (i := 2) sc_law.nd rfl (by first | exact Or.inl rfl | exact Or.inr rfl)) (qs_cons (qs_if ((q_orT (q_notT (q_truT (q_call ((ok_l_text_right T).mono (by decide)) hr (takes_of rfl rfl rfl rfl) (qa_cons (qv 1) qa_nil)))) (q_or1T (q_notT (q_truT (q_call ((ok_l_number_right T).mono (by decide)) hr (takes_of rfl rfl rfl rfl) (qa_cons (qv 1) qa_nil))))))).pt (qs_one (qs_ret q_bl)) qs_nil)
  (qs_one (qs_if ((q_orT (q_notT (q_truT (q_call ((ok_l_odd_right T).mono (by decide)) hr (takes_of rfl rfl rfl rfl) (qa_cons (qv 1) qa_nil)))) (q_or1T (q_notT (q_truT (q_call ((ok_l_joined_right T).mono (by decide)) hr (takes_of rfl rfl rfl rfl) (qa_cons (qv 1) qa_nil))))))).pt (qs_one (qs_ret q_bl)) qs_nil))))
  (qs_one (qs_ret q_bl)))))
end K01

namespace K01
open PySem PySem.Spec L2 Ev
theorem ladle_ok {s : S} {p c : Nat} {zs : List Int} {m n : Int} (hP : Pool s p c zs m) (hm : m < 100000) (hn : 0 < n) (hn2 : n.natAbs.log2 < 9000) : ∃ v s', f_l_ladle [.ref p, .int n] s = .ok (.int v) s' ∧ 0 ≤ v ∧ v < n ∧ Pool s' p c zs (m + 1) ∧ Kp p s s' := by
  obtain ⟨t, r, hp, hc, hcp, ht, htm, hr⟩ := hP.ex
  have i0 : ∀ a b d : D, atI [a, b, d] 0 = some a := fun a b d => rfl
  have i1 : ∀ a b d : D, atI [a, b, d] 1 = some b := fun a b d => rfl
  have i2 : ∀ a b d : D, atI [a, b, d] 2 = some d := fun a b d => rfl
  have dv : divOk n = true := by simp [divOk, hn, hn2]
  have pl : p < s.length := (List.getElem?_eq_some_iff.mp hp).1
  have start : f_l_ladle [.ref p, .int n] s = fin (b_l_ladle [some (.ref p), some (.int n), none, none, none, none] s) := rfl
  have j1 : ixN 3 1 = some 1 := rfl
  have j2 : ixN 3 2 = some 2 := rfl
  have m1 : mulOk 36787 t = true := mulS (by decide) (by omega)
  have z0 : szl 0 = true := szlS (by decide)
  rw [start]
  unfold b_l_ladle
  by_cases h0 : 0 < r
  · have e0 : b_l_ladle_0 [some (.ref p), some (.int n), none, none, none, none] s = .rt (.int (r % n)) (s.set p (.lst [.ref c, .int t, .int (r / n)])) := by
      simp [b_l_ladle_0, seqS, ifS, setS, retS, retN, exprS, passS, setItS, tstE, truE, binE, varE, conE, callE, consA, nilA, notT, andT, orT, notE, andE, orE, ifE, tupE, lstE, unE, chainE, R.bind, R.stm, RS.next, fin, boolE, addD, subD, mulD, fdivD, modD, powD, ltD, leD, gtD, geD, idxD, seqOf, intF, absF, setD, hp, i0, i1, i2, j1, j2, h0, dv, hn]
    rw [seq_rt e0]
    refine ⟨_, _, rfl, Int.emod_nonneg _ (by omega), Int.emod_lt_of_pos _ hn, ⟨t, r / n, List.getElem?_set_self pl, by rw [List.getElem?_set_ne (Ne.symm hcp)]; exact hc, hcp, ht, by omega, Int.ediv_nonneg hr (by omega)⟩, Kp.set⟩
  · have e0 : b_l_ladle_0 [some (.ref p), some (.int n), none, none, none, none] s = .nx [some (.ref p), some (.int n), none, none, none, none] s := by
      simp [b_l_ladle_0, seqS, ifS, setS, retS, retN, exprS, passS, setItS, tstE, truE, binE, varE, conE, callE, consA, nilA, notT, andT, orT, notE, andE, orE, ifE, tupE, lstE, unE, chainE, R.bind, R.stm, RS.next, fin, boolE, addD, subD, mulD, fdivD, modD, powD, ltD, leD, gtD, geD, idxD, seqOf, intF, absF, setD, hp, i0, i1, i2, j1, j2, h0, dv, hn]
    have e1 : b_l_ladle_1 [some (.ref p), some (.int n), none, none, none, none] s = .nx [some (.ref p), some (.int n), none, some (.int t), none, none] s := by
      simp [b_l_ladle_1, seqS, ifS, setS, retS, retN, exprS, passS, setItS, tstE, truE, binE, varE, conE, callE, consA, nilA, notT, andT, orT, notE, andE, orE, ifE, tupE, lstE, unE, chainE, R.bind, R.stm, RS.next, fin, boolE, addD, subD, mulD, fdivD, modD, powD, ltD, leD, gtD, geD, idxD, seqOf, intF, absF, setD, hp, i0, i1, i2, j1, j2]
    have e2 : b_l_ladle_2 [some (.ref p), some (.int n), none, some (.int t), none, none] s = .nx [some (.ref p), some (.int n), none, some (.int t), none, none] (s.set p (.lst [.ref c, .int (t + 1), .int r])) := by
      simp [b_l_ladle_2, seqS, ifS, setS, retS, retN, exprS, passS, setItS, tstE, truE, binE, varE, conE, callE, consA, nilA, notT, andT, orT, notE, andE, orE, ifE, tupE, lstE, unE, chainE, R.bind, R.stm, RS.next, fin, boolE, addD, subD, mulD, fdivD, modD, powD, ltD, leD, gtD, geD, idxD, seqOf, intF, absF, setD, hp, i0, i1, i2, j1, j2]
    have e3 : ∀ s : S, b_l_ladle_3 [some (.ref p), some (.int n), none, some (.int t), none, none] s = .nx [some (.ref p), some (.int n), none, some (.int t), some (.int (36787 * t + 2113)), none] s := fun s => by
      simp [b_l_ladle_3, seqS, ifS, setS, retS, retN, exprS, passS, setItS, tstE, truE, binE, varE, conE, callE, consA, nilA, notT, andT, orT, notE, andE, orE, ifE, tupE, lstE, unE, chainE, R.bind, R.stm, RS.next, fin, boolE, addD, subD, mulD, fdivD, modD, powD, ltD, leD, gtD, geD, idxD, seqOf, intF, absF, setD, m1]
    rw [seq_nx e0, seq_nx e1, seq_nx e2, seq_nx (e3 _)]
    have cp : (s.set p (.lst [.ref c, .int (t + 1), .int r]))[c]? = some (.lst (zs.map D.int)) := by rw [List.getElem?_set_ne (Ne.symm hcp)]; exact hc
    have pp : (s.set p (.lst [.ref c, .int (t + 1), .int r]))[p]? = some (.lst [.ref c, .int (t + 1), .int r]) := List.getElem?_set_self pl
    have kp : Kp p s (s.set p (.lst [.ref c, .int (t + 1), .int r])) := Kp.set
    generalize s.set p (.lst [.ref c, .int (t + 1), .int r]) = s1 at cp pp kp
    have pl1 : p < s1.length := (List.getElem?_eq_some_iff.mp pp).1
    have cl1 : c < s1.length := (List.getElem?_eq_some_iff.mp cp).1
    have cp2 : (s1 ++ [O.lst []])[c]? = some (.lst (zs.map D.int)) := by rw [List.getElem?_append_left cl1]; exact cp
    have pp2 : (s1 ++ [O.lst []])[p]? = some (.lst [.ref c, .int (t + 1), .int r]) := by rw [List.getElem?_append_left pl1]; exact pp
    have kp2 : Kp p s (s1 ++ [O.lst []]) := kp.trans Kp.app
    have hne := ne_nil (s := s1 ++ [O.lst []]) (e := s1.length) cp2 (by simp)
    obtain ⟨cell, e4⟩ : ∃ cell : Int, b_l_ladle_4 [some (.ref p), some (.int n), none, some (.int t), some (.int (36787 * t + 2113)), none] s1 = .nx [some (.ref p), some (.int n), none, some (.int t), some (.int cell), none] (s1 ++ [O.lst []]) := by
      by_cases hz : zs = []
      · exact ⟨36787 * t + 2113, by simp [b_l_ladle_4, seqS, ifS, setS, retS, retN, exprS, passS, setItS, tstE, truE, binE, varE, conE, callE, consA, nilA, notT, andT, orT, notE, andE, orE, ifE, tupE, lstE, unE, chainE, R.bind, R.stm, RS.next, fin, boolE, addD, subD, mulD, fdivD, modD, powD, ltD, leD, gtD, geD, idxD, seqOf, intF, absF, setD, pp, i0, z0, hne, hz]⟩
      · have hl' : 0 < zs.length := List.length_pos_iff.mpr hz
        have hl : (0 : Int) < zs.length := by omega
        obtain ⟨v, g1, g2⟩ := at_nat (xs := zs.map D.int) (i := t % zs.length) (Int.emod_nonneg _ (by omega)) (by rw [List.length_map]; exact Int.emod_lt_of_pos _ hl)
        rw [List.getElem?_map] at g1
        obtain ⟨y, _, rfl⟩ := Option.map_eq_some_iff.mp g1
        exact ⟨y, by simp [b_l_ladle_4, seqS, ifS, setS, retS, retN, exprS, passS, setItS, tstE, truE, binE, varE, conE, callE, consA, nilA, notT, andT, orT, notE, andE, orE, ifE, tupE, lstE, unE, chainE, R.bind, R.stm, RS.next, fin, boolE, addD, subD, mulD, fdivD, modD, powD, ltD, leD, gtD, geD, idxD, seqOf, intF, absF, setD, pp, pp2, cp2, i0, z0, hne, hz, lenF, hl', g2]⟩
    rw [seq_nx e4]
    have hP2 : ∀ r' : Int, 0 ≤ r' → Pool ((s1 ++ [O.lst []]).set p (.lst [.ref c, .int (t + 1), .int r'])) p c zs (m + 1) := fun r' h => ⟨t + 1, r', List.getElem?_set_self (by simp; omega), by rw [List.getElem?_set_ne (Ne.symm hcp)]; exact cp2, hcp, by omega, by omega, h⟩
    have hab : 0 ≤ (if cell < 0 then -cell else cell) := by split <;> omega
    have p18 : (10 : Int) ^ (18 : Int).toNat = 1000000000000000000 := by decide
    have q18 : decide ((0 : Int) ≤ 18 ∧ (18 : Int) ≤ 1000000 ∧ (10 : Int).natAbs < 2 ^ 64) = true := by decide
    generalize hs2 : s1 ++ [O.lst []] = s2 at cp2 pp2 kp2 hP2 e4
    by_cases hq : t < (zs.length : Int) ∧ 1000000000000000000 ≤ (if cell < 0 then -cell else cell)
    · have e5 : b_l_ladle_5 [some (.ref p), some (.int n), none, some (.int t), some (.int cell), none] s2 = .rt (.int (((if cell < 0 then -cell else cell) - 1000000000000000000) % n)) (s2.set p (.lst [.ref c, .int (t + 1), .int (((if cell < 0 then -cell else cell) - 1000000000000000000) / n)])) := by
        simp only [b_l_ladle_5, seqS, ifS, setS, retS, retN, exprS, passS, setItS, tstE, truE, binE, varE, conE, callE, consA, nilA, notT, andT, orT, notE, andE, orE, ifE, tupE, lstE, unE, chainE, R.bind, R.stm, RS.next, fin, boolE, addD, subD, mulD, fdivD, modD, powD, ltD, leD, gtD, geD, idxD, seqOf, intF, absF, setD, lenF, pp2, cp2, i0, List.length_map, hq.1, hq.2, p18, q18, decide_true, if_true, j2, dv, hn, List.getElem?_cons_zero, List.getElem?_cons_succ, List.set_cons_zero, List.set_cons_succ, Option.map_some, List.length_cons, List.length_nil]
      rw [seq_rt e5]
      exact ⟨_, _, rfl, Int.emod_nonneg _ (by omega), Int.emod_lt_of_pos _ hn, hP2 _ (Int.ediv_nonneg (by omega) (by omega)), kp2.trans Kp.set⟩
    · have e5 : b_l_ladle_5 [some (.ref p), some (.int n), none, some (.int t), some (.int cell), none] s2 = .nx [some (.ref p), some (.int n), none, some (.int t), some (.int cell), none] s2 := by
        by_cases h1 : t < (zs.length : Int)
        · have h2 : ¬ 1000000000000000000 ≤ (if cell < 0 then -cell else cell) := fun z => hq ⟨h1, z⟩
          simp only [b_l_ladle_5, seqS, ifS, setS, retS, retN, exprS, passS, setItS, tstE, truE, binE, varE, conE, callE, consA, nilA, notT, andT, orT, notE, andE, orE, ifE, tupE, lstE, unE, chainE, R.bind, R.stm, RS.next, fin, boolE, addD, subD, mulD, fdivD, modD, powD, ltD, leD, gtD, geD, idxD, seqOf, intF, absF, setD, lenF, pp2, cp2, i0, List.length_map, h1, h2, p18, q18, decide_true, decide_false, if_true, if_false, Bool.false_eq_true, List.getElem?_cons_zero, List.getElem?_cons_succ]
        · simp only [b_l_ladle_5, seqS, ifS, setS, retS, retN, exprS, passS, setItS, tstE, truE, binE, varE, conE, callE, consA, nilA, notT, andT, orT, notE, andE, orE, ifE, tupE, lstE, unE, chainE, R.bind, R.stm, RS.next, fin, boolE, addD, subD, mulD, fdivD, modD, powD, ltD, leD, gtD, geD, idxD, seqOf, intF, absF, setD, lenF, pp2, cp2, i0, List.length_map, h1, p18, q18, decide_true, decide_false, if_true, if_false, Bool.false_eq_true, List.getElem?_cons_zero, List.getElem?_cons_succ]
      rw [seq_nx e5]
      have hc0 := Int.emod_nonneg cell (show (2147483549 : Int) ≠ 0 by decide)
      have hc1 := Int.emod_lt_of_pos cell (show (0 : Int) < 2147483549 by decide)
      have m2 : mulOk 50101 t = true := mulS (by decide) (by omega)
      have w1 : (cell % 2147483549 + 50101 * t + 2113).natAbs < 18446744073709551616 := by omega
      obtain ⟨x1, e6, hx0, hx1⟩ : ∃ x1 : Int, b_l_ladle_6 [some (.ref p), some (.int n), none, some (.int t), some (.int cell), none] s2 = .nx [some (.ref p), some (.int n), none, some (.int t), some (.int cell), some (.int x1)] s2 ∧ 0 ≤ x1 ∧ x1 < 2147483647 := by
        refine ⟨(cell % 2147483549 + 50101 * t + 2113) ^ 5 % 2147483647, ?_, Int.emod_nonneg _ (by decide), Int.emod_lt_of_pos _ (by decide)⟩
        simp [b_l_ladle_6, seqS, ifS, setS, retS, retN, exprS, passS, setItS, tstE, truE, binE, varE, conE, callE, consA, nilA, notT, andT, orT, notE, andE, orE, ifE, tupE, lstE, unE, chainE, R.bind, R.stm, RS.next, fin, boolE, addD, subD, mulD, fdivD, modD, powD, ltD, leD, gtD, geD, idxD, seqOf, intF, absF, setD, m2, w1]
      rw [seq_nx e6]
      have y0 : 0 ≤ x1 * (2 * t + 1409) := Int.mul_nonneg hx0 (by omega)
      have y1 : x1 * (2 * t + 1409) ≤ 2147483647 * 201409 := Int.mul_le_mul (by omega) (by omega) (by omega) (by decide)
      have y2 : 0 ≤ 36787 * t * t := Int.mul_nonneg (by omega) ht
      have y3 : 36787 * t * t ≤ (36787 * 100000) * 100000 := Int.mul_le_mul (by omega) (by omega) ht (by decide)
      have m3 : mulOk 2 t = true := mulS (by decide) (by omega)
      have m4 : mulOk x1 (2 * t + 1409) = true := mulS (by omega) (by omega)
      have m5 : mulOk (36787 * t) t = true := mulS (by omega) (by omega)
      generalize hA : x1 * (2 * t + 1409) = A at y0 y1
      generalize hB : 36787 * t * t = B at y2 y3
      have w2 : (A + B + 2113).natAbs < 18446744073709551616 := by omega
      obtain ⟨x2, e7⟩ : ∃ x2 : Int, b_l_ladle_7 [some (.ref p), some (.int n), none, some (.int t), some (.int cell), some (.int x1)] s2 = .nx [some (.ref p), some (.int n), none, some (.int t), some (.int cell), some (.int x2)] s2 :=
        ⟨(A + B + 2113) ^ 3 % 2147483563, by simp [b_l_ladle_7, seqS, ifS, setS, retS, retN, exprS, passS, setItS, tstE, truE, binE, varE, conE, callE, consA, nilA, notT, andT, orT, notE, andE, orE, ifE, tupE, lstE, unE, chainE, R.bind, R.stm, RS.next, fin, boolE, addD, subD, mulD, fdivD, modD, powD, ltD, leD, gtD, geD, idxD, seqOf, intF, absF, setD, m1, m3, m4, m5, hA, hB, w2]⟩
      rw [seq_nx e7]
      have d64 : divOk 64 = true := by decide
      have e8 : b_l_ladle_8 [some (.ref p), some (.int n), none, some (.int t), some (.int cell), some (.int x2)] s2 = .rt (.int (x2 / 64 % n)) s2 := by
        simp [b_l_ladle_8, seqS, ifS, setS, retS, retN, exprS, passS, setItS, tstE, truE, binE, varE, conE, callE, consA, nilA, notT, andT, orT, notE, andE, orE, ifE, tupE, lstE, unE, chainE, R.bind, R.stm, RS.next, fin, boolE, addD, subD, mulD, fdivD, modD, powD, ltD, leD, gtD, geD, idxD, seqOf, intF, absF, setD, d64, hn]
      rw [e8]
      exact ⟨_, _, rfl, Int.emod_nonneg _ (by omega), Int.emod_lt_of_pos _ hn, ⟨t + 1, r, pp2, cp2, hcp, by omega, by omega, hr⟩, kp2⟩
/-- one of some things -/
theorem of_lst {s : S} {p c a : Nat} {zs : List Int} {m : Int} {xs : List D} (hP : Pool s p c zs m) (hm : m < 100000) (ha : s[a]? = some (.lst xs)) (hap : a ≠ p) (h0 : xs ≠ []) (hl : xs.length < 1000) : ∃ (i : Nat) (d : D) (s' : S), f_l_of [.ref p, .ref a] s = .ok d s' ∧ xs[i]? = some d ∧ Pool s' p c zs (m + 1) ∧ Kp p s s' := by
  have l0 : 0 < xs.length := List.length_pos_iff.mpr h0
  obtain ⟨v, s', e, v0, v1, hP', kp⟩ := ladle_ok (n := (xs.length : Int)) hP hm (by omega) (by
    have z : ((xs.length : Int)).natAbs = xs.length := by omega
    rw [z]
    exact Nat.lt_trans ((Nat.log2_lt (by omega)).mpr (Nat.lt_trans hl (by decide : 1000 < 2 ^ 10))) (by decide))
  have ha' : s'[a]? = some (.lst xs) := by rw [kp.2 a (List.getElem?_eq_some_iff.mp ha).1 hap]; exact ha
  obtain ⟨d, g1, g2⟩ := at_nat (xs := xs) v0 (by omega)
  have start : f_l_of [.ref p, .ref a] s = fin (b_l_of [some (.ref p), some (.ref a)] s) := rfl
  refine ⟨v.toNat, d, s', ?_, g1, hP', kp⟩
  rw [start]
  simp [b_l_of, seqS, ifS, setS, retS, retN, exprS, passS, setItS, tstE, truE, binE, varE, conE, callE, consA, nilA, notT, andT, orT, notE, andE, orE, ifE, tupE, lstE, unE, chainE, R.bind, R.stm, RS.next, fin, boolE, addD, subD, mulD, fdivD, modD, powD, ltD, leD, gtD, geD, idxD, seqOf, intF, absF, setD, lenF, ha, e, ha', g2]
theorem of_str {s : S} {p c : Nat} {zs : List Int} {m : Int} {z : Tx} (hP : Pool s p c zs m) (hm : m < 100000) (h0 : 0 < z.length) (hl : z.length < 1000) : ∃ (i k : Nat) (s' : S), f_l_of [.ref p, .str z] s = .ok (.str (ch k)) s' ∧ z.cps.toList[i]? = some k ∧ Pool s' p c zs (m + 1) ∧ Kp p s s' := by
  have hz : z.cps.toList.length = z.length := by simp [Str.length]
  obtain ⟨v, s', e, v0, v1, hP', kp⟩ := ladle_ok (n := (z.length : Int)) hP hm (by omega) (by
    have z : ((z.length : Int)).natAbs = z.length := by omega
    rw [z]
    exact Nat.lt_trans ((Nat.log2_lt (by omega)).mpr (Nat.lt_trans hl (by decide : 1000 < 2 ^ 10))) (by decide))
  obtain ⟨d, g1, g2⟩ := at_nat (xs := z.cps.toList) v0 (by omega)
  have zl : szl z.length = true := szlS (by omega)
  have start : f_l_of [.ref p, .str z] s = fin (b_l_of [some (.ref p), some (.str z)] s) := rfl
  refine ⟨v.toNat, d, s', ?_, g1, hP', kp⟩
  rw [start]
  simp [b_l_of, seqS, ifS, setS, retS, retN, exprS, passS, setItS, tstE, truE, binE, varE, conE, callE, consA, nilA, notT, andT, orT, notE, andE, orE, ifE, tupE, lstE, unE, chainE, R.bind, R.stm, RS.next, fin, boolE, addD, subD, mulD, fdivD, modD, powD, ltD, leD, gtD, geD, idxD, seqOf, intF, absF, setD, lenF, zl, e, g2]
end K01

namespace K01
open PySem PySem.Spec L2 Ev
/-! ### the checks -/
def okStem (l : List Nat) : Bool := stemL l && decide (l.length ≤ 12)
def okName (l : List Nat) : Bool := decide ((sp1 l).2.length < 6) && (sp l).all okStem
theorem len_mk (l : List Nat) : (mkS l).length = l.length := by simp [Str.length, mkS]
theorem isa_ok {s : S} {d : D} {t c : String} (h : kindD d s = some t) (hc : tyNames.contains c = true) : isaF [d, .ty c] s = .ok (.bl (isaB t c)) s := by
  simp only [isaF, h, hc, if_true]
theorem c_str : tyNames.contains "str" = true := by decide
theorem c_int : tyNames.contains "int" = true := by decide
theorem c_bool : tyNames.contains "bool" = true := by decide
theorem is_stem_str (l : List Nat) (s : S) (h : l.length ≤ 100000) : f_is_stem [.str (mkS l)] s = .ok (.bl (okStem l)) s := by
  have start : f_is_stem [.str (mkS l)] s = fin (b_is_stem [some (.str (mkS l))] s) := rfl
  have k1 : isaF [.str (mkS l), .ty "str"] s = .ok (.bl true) s := isa_ok (t := "str") rfl c_str
  have z1 : szl l.length = true := szlS (by omega)
  rw [start]
  unfold b_is_stem
  by_cases h1 : 1 ≤ l.length ∧ l.length ≤ 12
  · obtain ⟨c, r, rfl⟩ : ∃ c r, l = c :: r := by
      cases l with
      | nil => simp at h1
      | cons c r => exact ⟨c, r, rfl⟩
    have a1 : (1 : Int) ≤ ((c :: r).length : Nat) := by omega
    have a2 : (((c :: r).length : Nat) : Int) ≤ 12 := by omega
    have e0 : b_is_stem_0 [some (.str (mkS (c :: r)))] s = .nx [some (.str (mkS (c :: r)))] s := by
      simp only [b_is_stem_0, seqS, ifS, setS, retS, retN, exprS, passS, setItS, tstE, truE, binE, varE, conE, callE, consA, nilA, notT, andT, orT, notE, andE, orE, ifE, tupE, lstE, unE, chainE, R.bind, R.stm, RS.next, fin, boolE, addD, subD, mulD, fdivD, modD, powD, ltD, leD, gtD, geD, idxD, seqOf, intF, absF, setD, lenF, truth, k1, z1, len_mk, a1, a2, decide_true, if_true, if_false, Bool.not_true, Bool.false_eq_true, List.getElem?_cons_zero]
    rw [seq_nx e0]
    have i0 : atI (mkS (c :: r)).cps.toList 0 = some c := by
      have e : (mkS (c :: r)).cps.toList = c :: r := by simp [mkS]
      rw [e]
      exact atI_nat (j := 0) rfl
    have sg := signs_ok c r
    have hst : okStem (c :: r) = stemL (c :: r) := by unfold okStem; rw [decide_eq_true h1.2, Bool.and_true]
    rw [hst, ← sg]
    cases q1 : Txt.isascii (mkS (c :: r)) <;> cases q2 : Txt.isalnum (mkS (c :: r)) <;> cases q3 : Txt.islower (mkS (c :: r)) <;>
      simp [b_is_stem_1, seqS, ifS, setS, retS, retN, exprS, passS, setItS, tstE, truE, binE, varE, conE, callE, consA, nilA, notT, andT, orT, notE, andE, orE, ifE, tupE, lstE, unE, chainE, R.bind, R.stm, RS.next, fin, boolE, addD, subD, mulD, fdivD, modD, powD, ltD, leD, gtD, geD, idxD, seqOf, intF, absF, setD, methE, isTyD, truth, isasciiF, isalnumF, islowerF, isalphaF, strF0, q1, q2, q3, len_mk, z1, i0] <;> simp_all [szlS]
  · have e0 : b_is_stem_0 [some (.str (mkS l))] s = .rt (.bl false) s := by
      by_cases a1 : (1 : Int) ≤ (l.length : Nat)
      · have a2 : ¬ ((l.length : Nat) : Int) ≤ 12 := by omega
        simp only [b_is_stem_0, seqS, ifS, setS, retS, retN, exprS, passS, setItS, tstE, truE, binE, varE, conE, callE, consA, nilA, notT, andT, orT, notE, andE, orE, ifE, tupE, lstE, unE, chainE, R.bind, R.stm, RS.next, fin, boolE, addD, subD, mulD, fdivD, modD, powD, ltD, leD, gtD, geD, idxD, seqOf, intF, absF, setD, lenF, truth, k1, z1, len_mk, a1, a2, decide_true, decide_false, if_true, if_false, Bool.not_true, Bool.not_false, Bool.false_eq_true, List.getElem?_cons_zero]
      · simp only [b_is_stem_0, seqS, ifS, setS, retS, retN, exprS, passS, setItS, tstE, truE, binE, varE, conE, callE, consA, nilA, notT, andT, orT, notE, andE, orE, ifE, tupE, lstE, unE, chainE, R.bind, R.stm, RS.next, fin, boolE, addD, subD, mulD, fdivD, modD, powD, ltD, leD, gtD, geD, idxD, seqOf, intF, absF, setD, lenF, truth, k1, z1, len_mk, a1, decide_true, decide_false, if_true, if_false, Bool.not_true, Bool.not_false, Bool.false_eq_true, List.getElem?_cons_zero]
    rw [seq_rt e0]
    have : okStem l = false := by
      unfold okStem
      cases l with
      | nil => rfl
      | cons c r =>
        have : ¬ (c :: r).length ≤ 12 := by simp at h1 ⊢; omega
        rw [decide_eq_false this, Bool.and_false]
    rw [this]
    rfl
theorem bls_map (g : D → Bool) : ∀ l : List D, blsOf (l.map fun d => .bl (g d)) = some (l.map g)
  | [] => rfl
  | d :: l => by simp [blsOf, bls_map g l]
def strB (f : List Nat → Bool) : D → Bool
  | .str z => f z.cps.toList
  | _ => false
theorem is_name_str (l : List Nat) (s : S) (h : l.length ≤ 100000) : ∃ t, f_is_name [.str (mkS l)] s = .ok (.bl (okName l)) (s ++ t) := by
  have start : f_is_name [.str (mkS l)] s = fin (b_is_name [some (.str (mkS l)), none] s) := rfl
  have k1 : isaF [.str (mkS l), .ty "str"] s = .ok (.bl true) s := isa_ok (t := "str") rfl c_str
  have z2 : szl (l.length + 2) = true := szlS (by omega)
  have ty : isTyD "str" (.str (mkS l)) s = true := rfl
  rw [start]
  unfold b_is_name
  by_cases h1 : (6 : Int) ≤ ((sp1 l).2.length : Nat)
  · have e0 : b_is_name_0 [some (.str (mkS l)), none] s = .rt (.bl false) s := by
      simp only [b_is_name_0, seqS, ifS, setS, retS, retN, exprS, passS, setItS, tstE, truE, binE, varE, conE, callE, consA, nilA, notT, andT, orT, notE, andE, orE, ifE, tupE, lstE, unE, chainE, R.bind, R.stm, RS.next, fin, boolE, addD, subD, mulD, fdivD, modD, powD, ltD, leD, gtD, geD, idxD, seqOf, intF, absF, setD, methE, ty, countF, strF1, truth, k1, count_dots, h1, decide_true, if_true, if_false, Bool.not_true, Bool.false_eq_true, List.getElem?_cons_zero]
    rw [seq_rt e0]
    have : okName l = false := by unfold okName; rw [decide_eq_false (by omega), Bool.false_and]
    rw [this]
    exact ⟨[], by simp [fin]⟩
  · have e0 : b_is_name_0 [some (.str (mkS l)), none] s = .nx [some (.str (mkS l)), none] s := by
      simp only [b_is_name_0, seqS, ifS, setS, retS, retN, exprS, passS, setItS, tstE, truE, binE, varE, conE, callE, consA, nilA, notT, andT, orT, notE, andE, orE, ifE, tupE, lstE, unE, chainE, R.bind, R.stm, RS.next, fin, boolE, addD, subD, mulD, fdivD, modD, powD, ltD, leD, gtD, geD, idxD, seqOf, intF, absF, setD, methE, ty, countF, strF1, truth, k1, count_dots, h1, decide_false, if_true, if_false, Bool.not_true, Bool.false_eq_true, List.getElem?_cons_zero]
    rw [seq_nx e0]
    have hsl : ∀ (l : List Nat), (sp1 l).1.length ≤ l.length ∧ ∀ p ∈ (sp1 l).2, p.length ≤ l.length := by
      intro l
      induction l with
      | nil => simp [sp1]
      | cons c r ih =>
        simp only [sp1]
        split
        · exact ⟨by simp, fun p hp => by
            rcases List.mem_cons.mp hp with rfl | hp
            · have := ih.1; simp; omega
            · have := ih.2 p hp; simp; omega⟩
        · exact ⟨by have := ih.1; simp; omega, fun p hp => by have := ih.2 p hp; simp; omega⟩
    have hn : (sp l).length ≤ 6 := by simp [sp]; omega
    have parts : ∀ d ∈ (sp l).map (fun p => D.str (mkS p)), ∀ s, (callE f_is_stem (consA (varE 1) nilA)) ([some (.str (mkS l)), none].set 1 (some d)) s = .ok ((fun d => D.bl (strB okStem d)) d) s := by
      intro d hd s
      obtain ⟨p, hp, rfl⟩ := List.mem_map.mp hd
      have hpl : p.length ≤ 100000 := by
        rcases List.mem_cons.mp hp with rfl | hp
        · exact Nat.le_trans (hsl l).1 h
        · exact Nat.le_trans ((hsl l).2 p hp) h
      have e := is_stem_str p s hpl
      have e2 : strB okStem (.str (mkS p)) = okStem p := by simp [strB, mkS]
      simp only [callE, consA, varE, nilA, R.bind, List.set_cons_succ, List.set_cons_zero, List.getElem?_cons_succ, List.getElem?_cons_zero, e, e2]
    have run := lc_pure (keep := keepL s.length ((sp l).map fun p => D.str (mkS p))) (i := 1) (e := callE f_is_stem (consA (varE 1) nilA)) (ρ := [some (.str (mkS l)), none]) (base := s ++ [O.lst ((sp l).map fun p => D.str (mkS p))]) (fun d => D.bl (strB okStem d))
      ((sp l).map fun p => D.str (mkS p)) [] (fun acc => by
        have e : lstAt (s ++ [O.lst ((sp l).map fun p => D.str (mkS p))] ++ [O.lst acc]) s.length = some ((sp l).map fun p => D.str (mkS p)) := by
          simp [lstAt]
        simp only [keepL, e, D.sames_refl]) parts (by simp; omega)
    refine ⟨[O.lst ((sp l).map fun p => D.str (mkS p)), O.lst (((sp l).map fun p => D.str (mkS p)).map fun d => D.bl (strB okStem d))], ?_⟩
    have hid : okName l = ((((sp l).map fun p => D.str (mkS p)).map (strB okStem)).all id) := by
      unfold okName
      rw [decide_eq_true (by omega), Bool.true_and, List.map_map, List.all_map]
      rfl
    rw [hid]
    have la : lstAt (s ++ [O.lst ((sp l).map fun p => D.str (mkS p))] ++ [O.lst ([] ++ ((sp l).map fun p => D.str (mkS p)).map fun d => D.bl (strB okStem d))]) (s ++ [O.lst ((sp l).map fun p => D.str (mkS p))]).length = some (((sp l).map fun p => D.str (mkS p)).map fun d => D.bl (strB okStem d)) := by
      simp [lstAt]
    have hm : (List.map (fun x : List Nat => D.str (mkS x)) (sp l)) = List.map D.str (List.map mkS (sp l)) := by simp
    have e1 : b_is_name_1 [some (.str (mkS l)), none] s = .rt (.bl ((((sp l).map fun p => D.str (mkS p)).map (strB okStem)).all id)) (s ++ [O.lst ((sp l).map fun p => D.str (mkS p))] ++ [O.lst ([] ++ ((sp l).map fun p => D.str (mkS p)).map fun d => D.bl (strB okStem d))]) := by
      have ei : iterD (.ref s.length) (s ++ [O.lst ((sp l).map fun p => D.str (mkS p))]) = .ok ⟨(sp l).map fun p => D.str (mkS p), keepL s.length ((sp l).map fun p => D.str (mkS p))⟩ (s ++ [O.lst ((sp l).map fun p => D.str (mkS p))]) := by
        have e : lstAt (s ++ [O.lst ((sp l).map fun p => D.str (mkS p))]) s.length = some ((sp l).map fun p => D.str (mkS p)) := by simp [lstAt]
        simp only [iterD, e]
      have es : splitF [.str (mkS l), .str "."] s = .ok (.ref s.length) (s ++ [O.lst ((sp l).map fun p => D.str (mkS p))]) := by
        have d1 : ((("." : String) : Tx).length == 0) = false := by decide +kernel
        simp only [splitF, d1, len_mk, z2, Bool.not_true, Bool.or_self, Bool.false_eq_true, if_false, newL]
        rw [show (("." : String) : Tx) = dot from rfl, split_dots, ← hm]
      have it : (iterE (methE "str" splitF (varE 0) (consA (conE (.str ".")) nilA))) [some (.str (mkS l)), none] s = .ok ⟨(sp l).map fun p => D.str (mkS p), keepL s.length ((sp l).map fun p => D.str (mkS p))⟩ (s ++ [O.lst ((sp l).map fun p => D.str (mkS p))]) := by
        simp only [iterE, methE, varE, conE, consA, nilA, R.bind, List.getElem?_cons_zero, ty, if_true, es, ei]
      have wp : wipeD [some (.str (mkS l)), none] [1] = [some (.str (mkS l)), none] := rfl
      simp only [b_is_name_1, retS, callE, consA, nilA, lcE, it, R.bind, R.stm, wp, run, allF, la, Option.bind_some, bls_map]
    rw [e1]
    simp [fin]
/-! of other kinds -/
theorem is_integer_ok {d : D} {s : S} {t : String} (h : kindD d s = some t) : f_is_integer [d] s = .ok (.bl (isaB t "int" && !isaB t "bool")) s := by
  have start : f_is_integer [d] s = fin (b_is_integer [some d] s) := rfl
  rw [start]
  cases q : isaB t "int" <;> cases q2 : isaB t "bool" <;> simp [b_is_integer, seqS, ifS, setS, retS, retN, exprS, passS, setItS, tstE, truE, binE, varE, conE, callE, consA, nilA, notT, andT, orT, notE, andE, orE, ifE, tupE, lstE, unE, chainE, R.bind, R.stm, RS.next, fin, boolE, addD, subD, mulD, fdivD, modD, powD, ltD, leD, gtD, geD, idxD, seqOf, intF, absF, setD, truth, isa_ok h c_int, isa_ok h c_bool, q, q2]
theorem is_stem_no {d : D} {s : S} {t : String} (h : kindD d s = some t) (ht : isaB t "str" = false) : f_is_stem [d] s = .ok (.bl false) s := by
  have start : f_is_stem [d] s = fin (b_is_stem [some d] s) := rfl
  have e0 : b_is_stem_0 [some d] s = .rt (.bl false) s := by
    simp [b_is_stem_0, seqS, ifS, setS, retS, retN, exprS, passS, setItS, tstE, truE, binE, varE, conE, callE, consA, nilA, notT, andT, orT, notE, andE, orE, ifE, tupE, lstE, unE, chainE, R.bind, R.stm, RS.next, fin, boolE, addD, subD, mulD, fdivD, modD, powD, ltD, leD, gtD, geD, idxD, seqOf, intF, absF, setD, truth, isa_ok h c_str, ht]
  rw [start]
  unfold b_is_stem
  rw [seq_rt e0]
  rfl
theorem is_name_no {d : D} {s : S} {t : String} (h : kindD d s = some t) (ht : isaB t "str" = false) : f_is_name [d] s = .ok (.bl false) s := by
  have start : f_is_name [d] s = fin (b_is_name [some d, none] s) := rfl
  have e0 : b_is_name_0 [some d, none] s = .rt (.bl false) s := by
    simp [b_is_name_0, seqS, ifS, setS, retS, retN, exprS, passS, setItS, tstE, truE, binE, varE, conE, callE, consA, nilA, notT, andT, orT, notE, andE, orE, ifE, tupE, lstE, unE, chainE, R.bind, R.stm, RS.next, fin, boolE, addD, subD, mulD, fdivD, modD, powD, ltD, leD, gtD, geD, idxD, seqOf, intF, absF, setD, truth, isa_ok h c_str, ht]
  rw [start]
  unfold b_is_name
  rw [seq_rt e0]
  rfl
theorem is_within_no {d a b : D} {s : S} {t : String} (h : kindD d s = some t) (ht : (isaB t "int" && !isaB t "bool") = false) : f_is_within [d, a, b] s = .ok (.bl false) s := by
  have start : f_is_within [d, a, b] s = fin (b_is_within [some d, some a, some b] s) := rfl
  have e0 : b_is_within_0 [some d, some a, some b] s = .rt (.bl false) s := by
    simp [b_is_within_0, seqS, ifS, setS, retS, retN, exprS, passS, setItS, tstE, truE, binE, varE, conE, callE, consA, nilA, notT, andT, orT, notE, andE, orE, ifE, tupE, lstE, unE, chainE, R.bind, R.stm, RS.next, fin, boolE, addD, subD, mulD, fdivD, modD, powD, ltD, leD, gtD, geD, idxD, seqOf, intF, absF, setD, truth, is_integer_ok h, ht]
  rw [start]
  unfold b_is_within
  rw [seq_rt e0]
  rfl
/-- a bound: None or an integer -/
inductive Bd : D → Option Int → Prop where
  | non : Bd .non none
  | int (i : Int) : Bd (.int i) (some i)
def leB (a : Option Int) (n : Int) : Bool := match a with | none => true | some i => decide (i ≤ n)
def geB (a : Option Int) (n : Int) : Bool := match a with | none => true | some i => decide (n ≤ i)
theorem is_within_int {n : Int} {a b : D} {x y : Option Int} {s : S} (ha : Bd a x) (hb : Bd b y) : f_is_within [.int n, a, b] s = .ok (.bl (leB x n && geB y n)) s := by
  have start : f_is_within [.int n, a, b] s = fin (b_is_within [some (.int n), some a, some b] s) := rfl
  have e0 : b_is_within_0 [some (.int n), some a, some b] s = .nx [some (.int n), some a, some b] s := by
    simp [b_is_within_0, seqS, ifS, setS, retS, retN, exprS, passS, setItS, tstE, truE, binE, varE, conE, callE, consA, nilA, notT, andT, orT, notE, andE, orE, ifE, tupE, lstE, unE, chainE, R.bind, R.stm, RS.next, fin, boolE, addD, subD, mulD, fdivD, modD, powD, ltD, leD, gtD, geD, idxD, seqOf, intF, absF, setD, truth, is_integer_ok (d := .int n) (t := "int") rfl, isaB]
  rw [start]
  unfold b_is_within
  rw [seq_nx e0]
  cases ha with
  | non =>
    cases hb with
    | non => simp [b_is_within_1, seqS, ifS, setS, retS, retN, exprS, passS, setItS, tstE, truE, binE, varE, conE, callE, consA, nilA, notT, andT, orT, notE, andE, orE, ifE, tupE, lstE, unE, chainE, R.bind, R.stm, RS.next, fin, boolE, addD, subD, mulD, fdivD, modD, powD, ltD, leD, gtD, geD, idxD, seqOf, intF, absF, setD, truth, isD, isNone, leB, geB]
    | int j => by_cases q : n ≤ j <;> simp [b_is_within_1, seqS, ifS, setS, retS, retN, exprS, passS, setItS, tstE, truE, binE, varE, conE, callE, consA, nilA, notT, andT, orT, notE, andE, orE, ifE, tupE, lstE, unE, chainE, R.bind, R.stm, RS.next, fin, boolE, addD, subD, mulD, fdivD, modD, powD, ltD, leD, gtD, geD, idxD, seqOf, intF, absF, setD, truth, isD, isNone, leB, geB, q]
  | int i =>
    by_cases q0 : i ≤ n
    · cases hb with
      | non => simp [b_is_within_1, seqS, ifS, setS, retS, retN, exprS, passS, setItS, tstE, truE, binE, varE, conE, callE, consA, nilA, notT, andT, orT, notE, andE, orE, ifE, tupE, lstE, unE, chainE, R.bind, R.stm, RS.next, fin, boolE, addD, subD, mulD, fdivD, modD, powD, ltD, leD, gtD, geD, idxD, seqOf, intF, absF, setD, truth, isD, isNone, leB, geB, q0]
      | int j => by_cases q : n ≤ j <;> simp [b_is_within_1, seqS, ifS, setS, retS, retN, exprS, passS, setItS, tstE, truE, binE, varE, conE, callE, consA, nilA, notT, andT, orT, notE, andE, orE, ifE, tupE, lstE, unE, chainE, R.bind, R.stm, RS.next, fin, boolE, addD, subD, mulD, fdivD, modD, powD, ltD, leD, gtD, geD, idxD, seqOf, intF, absF, setD, truth, isD, isNone, leB, geB, q, q0]
    · cases hb with
      | non => simp [b_is_within_1, seqS, ifS, setS, retS, retN, exprS, passS, setItS, tstE, truE, binE, varE, conE, callE, consA, nilA, notT, andT, orT, notE, andE, orE, ifE, tupE, lstE, unE, chainE, R.bind, R.stm, RS.next, fin, boolE, addD, subD, mulD, fdivD, modD, powD, ltD, leD, gtD, geD, idxD, seqOf, intF, absF, setD, truth, isD, isNone, leB, geB, q0]
      | int j => by_cases q : n ≤ j <;> simp [b_is_within_1, seqS, ifS, setS, retS, retN, exprS, passS, setItS, tstE, truE, binE, varE, conE, callE, consA, nilA, notT, andT, orT, notE, andE, orE, ifE, tupE, lstE, unE, chainE, R.bind, R.stm, RS.next, fin, boolE, addD, subD, mulD, fdivD, modD, powD, ltD, leD, gtD, geD, idxD, seqOf, intF, absF, setD, truth, isD, isNone, leB, geB, q, q0]
/-! ### the law's own walk -/
/-- what is walked: stems, run, longest -/
def stepW : Option (Int × Int × Int) → Nat → Option (Int × Int × Int)
  | none, _ => none
  | some (st, rn, lg), c => if c = 46 then (if rn = 0 then none else some (st + 1, 0, lg)) else if low c = true ∨ (0 < rn ∧ 48 ≤ c ∧ c ≤ 57) then some (st, rn + 1, if rn + 1 > lg then rn + 1 else lg) else none
def walk (l : List Nat) : Option (Int × Int) := match l.foldl stepW (some (1, 0, 0)) with
  | some (st, rn, lg) => if rn = 0 then none else some (st, lg)
  | none => none
theorem lt_one (c d : Nat) : strLt (ch c) (ch d) = decide (c < d) := by
  simp [strLt, ch, List.cons_lt_cons_iff]
end K01

namespace K01
open PySem PySem.Spec L2 Ev
theorem fold_none : ∀ l : List Nat, l.foldl stepW none = none
  | [] => rfl
  | _ :: l => fold_none l
def vp (rn : Int) (h : List Nat) : Bool := if rn = 0 then stemL h else h.all ld
theorem ld_iff (c : Nat) : ld c = true ↔ low c = true ∨ (48 ≤ c ∧ c ≤ 57) := by
  simp only [ld, low, Bool.or_eq_true, decide_eq_true_eq]
theorem walk_run : ∀ (l : List Nat) (st rn lg : Int), 0 ≤ rn → rn ≤ lg →
    ((vp rn (sp1 l).1 && (sp1 l).2.all stemL) = true → ∃ rn' lg' : Int, l.foldl stepW (some (st, rn, lg)) = some (st + (sp1 l).2.length, rn', lg') ∧ 0 < rn' ∧ (lg' ≤ 12 ↔ lg ≤ 12 ∧ rn + (sp1 l).1.length ≤ 12 ∧ ∀ t ∈ (sp1 l).2, t.length ≤ 12)) ∧
    ((vp rn (sp1 l).1 && (sp1 l).2.all stemL) = false → l.foldl stepW (some (st, rn, lg)) = none ∨ ∃ st' lg' : Int, l.foldl stepW (some (st, rn, lg)) = some (st', 0, lg'))
  | [], st, rn, lg, h0, h1 => by
    constructor
    · intro h
      have hr : rn ≠ 0 := fun z => by simp [sp1, vp, z, stemL] at h
      exact ⟨rn, lg, by simp [sp1], by omega, by simp [sp1]; omega⟩
    · intro h
      have hr : rn = 0 := by
        by_cases z : rn = 0
        · exact z
        · simp [sp1, vp, z] at h
      exact .inr ⟨st, lg, by simp [hr]⟩
  | c :: r, st, rn, lg, h0, h1 => by
    by_cases hc : c = 46
    · subst hc
      have es : sp1 (46 :: r) = ([], (sp1 r).1 :: (sp1 r).2) := by simp [sp1]
      rw [es]
      simp only [List.foldl_cons]
      by_cases hr : rn = 0
      · have e : stepW (some (st, rn, lg)) 46 = none := by simp [stepW, hr]
        rw [e, fold_none]
        have hv : vp rn [] = false := by simp [vp, hr, stemL]
        simp [hv]
      · have e : stepW (some (st, rn, lg)) 46 = some (st + 1, 0, lg) := by simp [stepW, hr]
        rw [e]
        obtain ⟨ih1, ih2⟩ := walk_run r (st + 1) 0 lg (Int.le_refl _) (by omega)
        have hv : (vp rn [] && ((sp1 r).1 :: (sp1 r).2).all stemL) = (vp 0 (sp1 r).1 && (sp1 r).2.all stemL) := by simp [vp, hr]
        rw [hv]
        refine ⟨fun h => ?_, ih2⟩
        obtain ⟨rn', lg', k1, k2, k3⟩ := ih1 h
        refine ⟨rn', lg', by rw [k1]; simp; omega, k2, ?_⟩
        rw [k3]
        simp only [List.length_nil, List.mem_cons, forall_eq_or_imp]
        constructor
        · rintro ⟨a, b, d⟩; exact ⟨a, by omega, by omega, d⟩
        · rintro ⟨a, b, d, e⟩; exact ⟨a, by omega, e⟩
    · have es : sp1 (c :: r) = (c :: (sp1 r).1, (sp1 r).2) := by simp [sp1, hc]
      rw [es]
      simp only [List.foldl_cons]
      by_cases ok : low c = true ∨ (0 < rn ∧ 48 ≤ c ∧ c ≤ 57)
      · have e : stepW (some (st, rn, lg)) c = some (st, rn + 1, if rn + 1 > lg then rn + 1 else lg) := by simp only [stepW, if_neg hc, if_pos ok]
        rw [e]
        obtain ⟨ih1, ih2⟩ := walk_run r st (rn + 1) (if rn + 1 > lg then rn + 1 else lg) (by omega) (by split <;> omega)
        have hv : vp rn (c :: (sp1 r).1) = vp (rn + 1) (sp1 r).1 := by
          have n1 : ¬ rn + 1 = 0 := by omega
          unfold vp
          rw [if_neg n1]
          by_cases hr : rn = 0
          · rw [if_pos hr]
            have : low c = true := by
              rcases ok with h | h
              · exact h
              · omega
            simp [stemL, this]
          · rw [if_neg hr]
            have : ld c = true := (ld_iff c).mpr (ok.imp id fun h => h.2)
            simp [this]
        rw [hv]
        refine ⟨fun h => ?_, ih2⟩
        obtain ⟨rn', lg', k1, k2, k3⟩ := ih1 h
        refine ⟨rn', lg', k1, k2, ?_⟩
        rw [k3]
        simp only [List.length_cons]
        constructor
        · rintro ⟨a, b, d⟩
          refine ⟨?_, by omega, d⟩
          split at a <;> omega
        · rintro ⟨a, b, d⟩
          refine ⟨?_, by omega, d⟩
          split <;> omega
      · have e : stepW (some (st, rn, lg)) c = none := by simp only [stepW, if_neg hc, if_neg ok]
        rw [e, fold_none]
        have hv : vp rn (c :: (sp1 r).1) = false := by
          unfold vp
          by_cases hr : rn = 0
          · rw [if_pos hr]
            have : low c = false := by
              cases q : low c
              · rfl
              · exact absurd (.inl q) ok
            simp [stemL, this]
          · rw [if_neg hr]
            have : ld c = false := by
              cases q : ld c
              · rfl
              · exact absurd (((ld_iff c).mp q).imp id fun h => ⟨by omega, h⟩) ok
            simp [this]
        simp [hv]
theorem okStem_all (l : List Nat) : (sp l).all okStem = ((sp l).all stemL && (sp l).all fun p => decide (p.length ≤ 12)) := by
  induction sp l with
  | nil => rfl
  | cons a r ih => simp only [List.all_cons, ih, okStem]; cases stemL a <;> cases decide (a.length ≤ 12) <;> cases r.all stemL <;> rfl
/-- what the walk tells -/
theorem walk_tells (l : List Nat) : match walk l with
    | none => (sp l).all stemL = false
    | some (st, lg) => st = 1 + ((sp1 l).2.length : Int) ∧ (sp l).all okStem = decide (lg ≤ 12) := by
  obtain ⟨h1, h2⟩ := walk_run l 1 0 0 (Int.le_refl _) (Int.le_refl _)
  have hv : (vp 0 (sp1 l).1 && (sp1 l).2.all stemL) = (sp l).all stemL := by simp [vp, sp]
  rw [hv] at h1 h2
  unfold walk
  cases q : (sp l).all stemL with
  | true =>
    obtain ⟨rn, lg, e, hr, hl⟩ := h1 q
    rw [e]
    have : ¬ rn = 0 := by omega
    simp only [this, if_false]
    refine ⟨trivial, ?_⟩
    rw [okStem_all, q, Bool.true_and]
    rw [Bool.eq_iff_iff, decide_eq_true_eq, hl]
    simp [sp]
    intro _
    omega
  | false =>
    rcases h2 q with e | ⟨st, lg, e⟩
    · rw [e]
    · rw [e]; simp
theorem sp_one {l : List Nat} (h : (sp1 l).2 = []) : (sp1 l).1 = l := by
  induction l with
  | nil => rfl
  | cons c r ih =>
    simp only [sp1] at h ⊢
    split at h
    · cases h
    · rename_i hc
      rw [if_neg hc]
      simp only at h ⊢
      rw [ih h]
theorem no_dot {l : List Nat} (h : stemL l = true) : 46 ∉ l := by
  cases l with
  | nil => simp
  | cons c r =>
    simp only [stemL, Bool.and_eq_true, List.all_eq_true, low, decide_eq_true_eq] at h
    intro hm
    rcases List.mem_cons.mp hm with e | hm
    · omega
    · have := h.2 46 hm
      revert this; decide
theorem okStem_is (l : List Nat) : okStem l = ((sp l).all okStem && decide ((sp1 l).2.length = 0)) := by
  by_cases h : (sp1 l).2 = []
  · have e : sp l = [l] := by simp [sp, h, sp_one h]
    simp [e, h]
  · have h2 : ¬ (sp1 l).2.length = 0 := fun z => h (List.length_eq_zero_iff.mp z)
    have h3 : okStem l = false := by
      cases q : stemL l with
      | false => simp [okStem, q]
      | true => exact absurd (by rw [sp1_none (no_dot q)]) h
    rw [h3]
    simp [h]
/-! ### the walk, run -/
theorem ch_eq (c d : Nat) : (ch c == ch d) = decide (c = d) := by
  by_cases h : c = d
  · subst h; simp
  · rw [decide_eq_false h]
    apply beq_eq_false_iff_ne.mpr
    intro z
    have z2 := congrArg (fun s : Tx => s.cps.toList) z
    simp [ch] at z2
    exact h z2
theorem s_dot : (("." : String) : Tx) = ch 46 := by decide +kernel
theorem s_a : (("a" : String) : Tx) = ch 97 := by decide +kernel
theorem s_z : (("z" : String) : Tx) = ch 122 := by decide +kernel
theorem s_0 : (("0" : String) : Tx) = ch 48 := by decide +kernel
theorem s_9 : (("9" : String) : Tx) = ch 57 := by decide +kernel
theorem eq_ch {c d : Nat} {s : S} : eqD (.str (ch c)) (.str (ch d)) s = .ok (.bl (decide (c = d))) s := by simp [eqD, eqB, scE, ch_eq]
theorem eq_int {i j : Int} {s : S} : eqD (.int i) (.int j) s = .ok (.bl (i == j)) s := by simp [eqD, eqB, scE]
noncomputable def bodyW : C := (ifS (tstE (binE eqD (varE 4) (conE (.str ".")))) (seqS (ifS (tstE (binE eqD (varE 2) (conE (.int 0)))) (retS (conE .non)) passS)
  (parS 1 2 (consA (binE addD (varE 1) (conE (.int 1))) (consA (conE (.int 0)) nilA)))) (ifS (orT (tstE (chainE leD leD (conE (.str "a")) (varE 4) (conE (.str "z")))) (andT (tstE (binE gtD (varE 2) (conE (.int 0)))) (tstE (chainE leD leD (conE (.str "0")) (varE 4) (conE (.str "9")))))) (seqS (setS 2 (binE addD (varE 2) (conE (.int 1))))
  (setS 3 (callE maxF (consA (varE 3) (consA (varE 2) nilA))))) (retS (conE .non))))
theorem bodyW_ok (x : Option D) (st rn lg : Int) (c : Nat) (s : S) : bodyW [x, some (.int st), some (.int rn), some (.int lg), some (.str (ch c))] s = match stepW (some (st, rn, lg)) c with
    | none => .rt .non s
    | some (a, b, d) => .nx [x, some (.int a), some (.int b), some (.int d), some (.str (ch c))] s := by
  unfold bodyW
  rw [s_dot, s_a, s_z, s_0, s_9]
  by_cases hc : c = 46
  · by_cases hr : rn = 0
    · simp [seqS, ifS, setS, retS, retN, exprS, passS, setItS, tstE, truE, binE, varE, conE, callE, consA, nilA, notT, andT, orT, notE, andE, orE, ifE, tupE, lstE, unE, chainE, R.bind, R.stm, RS.next, fin, boolE, addD, subD, mulD, fdivD, modD, powD, ltD, leD, gtD, geD, idxD, seqOf, intF, absF, setD, parS, eq_ch, eq_int, hc, hr, stepW]
    · simp [seqS, ifS, setS, retS, retN, exprS, passS, setItS, tstE, truE, binE, varE, conE, callE, consA, nilA, notT, andT, orT, notE, andE, orE, ifE, tupE, lstE, unE, chainE, R.bind, R.stm, RS.next, fin, boolE, addD, subD, mulD, fdivD, modD, powD, ltD, leD, gtD, geD, idxD, seqOf, intF, absF, setD, parS, eq_ch, eq_int, hc, hr, stepW]
  · by_cases h1 : 97 ≤ c
    · by_cases h2 : c ≤ 122
      · have hl : low c = true := by simp [low, h1, h2]
        by_cases hm : rn + 1 > lg <;> simp [seqS, ifS, setS, retS, retN, exprS, passS, setItS, tstE, truE, binE, varE, conE, callE, consA, nilA, notT, andT, orT, notE, andE, orE, ifE, tupE, lstE, unE, chainE, R.bind, R.stm, RS.next, fin, boolE, addD, subD, mulD, fdivD, modD, powD, ltD, leD, gtD, geD, idxD, seqOf, intF, absF, setD, parS, eq_ch, eq_int, hc, lt_one, h1, h2, stepW, hl, maxF, hm, Nat.not_lt]
      · have hl : low c = false := by simp [low, h2]
        have g1 : ¬ c ≤ 57 := by omega
        have g0 : 48 ≤ c := by omega
        by_cases hr : 0 < rn <;> simp [seqS, ifS, setS, retS, retN, exprS, passS, setItS, tstE, truE, binE, varE, conE, callE, consA, nilA, notT, andT, orT, notE, andE, orE, ifE, tupE, lstE, unE, chainE, R.bind, R.stm, RS.next, fin, boolE, addD, subD, mulD, fdivD, modD, powD, ltD, leD, gtD, geD, idxD, seqOf, intF, absF, setD, parS, eq_ch, eq_int, hc, lt_one, h1, h2, stepW, hl, Nat.not_lt, g0, g1, hr]
    · have hl : low c = false := by simp [low, h1]
      by_cases hr : 0 < rn
      · by_cases g0 : 48 ≤ c
        · by_cases g1 : c ≤ 57
          · by_cases hm : rn + 1 > lg <;> simp [seqS, ifS, setS, retS, retN, exprS, passS, setItS, tstE, truE, binE, varE, conE, callE, consA, nilA, notT, andT, orT, notE, andE, orE, ifE, tupE, lstE, unE, chainE, R.bind, R.stm, RS.next, fin, boolE, addD, subD, mulD, fdivD, modD, powD, ltD, leD, gtD, geD, idxD, seqOf, intF, absF, setD, parS, eq_ch, eq_int, hc, lt_one, h1, stepW, hl, maxF, hm, Nat.not_lt, g0, g1, hr]
          · simp [seqS, ifS, setS, retS, retN, exprS, passS, setItS, tstE, truE, binE, varE, conE, callE, consA, nilA, notT, andT, orT, notE, andE, orE, ifE, tupE, lstE, unE, chainE, R.bind, R.stm, RS.next, fin, boolE, addD, subD, mulD, fdivD, modD, powD, ltD, leD, gtD, geD, idxD, seqOf, intF, absF, setD, parS, eq_ch, eq_int, hc, lt_one, h1, stepW, hl, Nat.not_lt, g0, g1, hr]
        · simp [seqS, ifS, setS, retS, retN, exprS, passS, setItS, tstE, truE, binE, varE, conE, callE, consA, nilA, notT, andT, orT, notE, andE, orE, ifE, tupE, lstE, unE, chainE, R.bind, R.stm, RS.next, fin, boolE, addD, subD, mulD, fdivD, modD, powD, ltD, leD, gtD, geD, idxD, seqOf, intF, absF, setD, parS, eq_ch, eq_int, hc, lt_one, h1, stepW, hl, Nat.not_lt, g0, hr]
      · simp [seqS, ifS, setS, retS, retN, exprS, passS, setItS, tstE, truE, binE, varE, conE, callE, consA, nilA, notT, andT, orT, notE, andE, orE, ifE, tupE, lstE, unE, chainE, R.bind, R.stm, RS.next, fin, boolE, addD, subD, mulD, fdivD, modD, powD, ltD, leD, gtD, geD, idxD, seqOf, intF, absF, setD, parS, eq_ch, eq_int, hc, lt_one, h1, stepW, hl, Nat.not_lt, hr]
theorem loopW (x : Option D) (s : S) : ∀ (l : List Nat) (st rn lg : Int) (y : Option D), ∃ y', forL allK (.nm 4) bodyW (l.map fun c => D.str (ch c)) [x, some (.int st), some (.int rn), some (.int lg), y] s = match l.foldl stepW (some (st, rn, lg)) with
    | none => .rt .non s
    | some (a, b, d) => .nx [x, some (.int a), some (.int b), some (.int d), y'] s
  | [], st, rn, lg, y => ⟨y, by simp [forL, allK]⟩
  | c :: l, st, rn, lg, y => by
    have e := bodyW_ok x st rn lg c s
    simp only [List.map_cons, forL, allK, if_true, asg, List.set_cons_succ, List.set_cons_zero, List.foldl_cons]
    rw [e]
    cases q : stepW (some (st, rn, lg)) c with
    | none => exact ⟨none, by simp [fold_none]⟩
    | some z =>
      obtain ⟨a, b, d⟩ := z
      exact loopW x s l a b d (some (.str (ch c)))
def walkD (l : List Nat) : D := match walk l with
  | none => .non
  | some (a, b) => .tup [.int a, .int b]
theorem walked_ok (l : List Nat) (s : S) : f_l_walked [.str (mkS l)] s = .ok (walkD l) s := by
  have start : f_l_walked [.str (mkS l)] s = fin (b_l_walked [some (.str (mkS l)), none, none, none, none] s) := rfl
  have z3 : szl 3 = true := szlS (by decide)
  have z2 : szl 2 = true := szlS (by decide)
  have e0 : b_l_walked_0 [some (.str (mkS l)), none, none, none, none] s = .nx [some (.str (mkS l)), some (.int 1), some (.int 0), some (.int 0), none] s := by
    simp [b_l_walked_0, asgS, asg, setAll, seqS, ifS, setS, retS, retN, exprS, passS, setItS, tstE, truE, binE, varE, conE, callE, consA, nilA, notT, andT, orT, notE, andE, orE, ifE, tupE, lstE, unE, chainE, R.bind, R.stm, RS.next, fin, boolE, addD, subD, mulD, fdivD, modD, powD, ltD, leD, gtD, geD, idxD, seqOf, intF, absF, setD, z3]
  rw [start]
  unfold b_l_walked
  rw [seq_nx e0]
  obtain ⟨y, e1⟩ := loopW (some (.str (mkS l))) s l 1 0 0 none
  have e1' : b_l_walked_1 [some (.str (mkS l)), some (.int 1), some (.int 0), some (.int 0), none] s = forL allK (.nm 4) bodyW (l.map fun c => D.str (ch c)) [some (.str (mkS l)), some (.int 1), some (.int 0), some (.int 0), none] s := by
    have ec : (mkS l).cps.toList = l := by simp [mkS]
    show (forS (iterE (varE 0)) (.nm 4) bodyW) _ s = _
    simp only [forS, iterE, varE, List.getElem?_cons_zero, R.bind, iterD, R.stm, ec]
  rw [e1] at e1'
  unfold walkD walk
  cases q : l.foldl stepW (some (1, 0, 0)) with
  | none =>
    rw [q] at e1'
    rw [seq_rt e1']
    rfl
  | some z =>
    obtain ⟨a, b, d⟩ := z
    rw [q] at e1'
    rw [seq_nx e1']
    by_cases hb : b = 0
    · simp [b_l_walked_2, seqS, ifS, setS, retS, retN, exprS, passS, setItS, tstE, truE, binE, varE, conE, callE, consA, nilA, notT, andT, orT, notE, andE, orE, ifE, tupE, lstE, unE, chainE, R.bind, R.stm, RS.next, fin, boolE, addD, subD, mulD, fdivD, modD, powD, ltD, leD, gtD, geD, idxD, seqOf, intF, absF, setD, eq_int, hb, z2]
    · simp [b_l_walked_2, seqS, ifS, setS, retS, retN, exprS, passS, setItS, tstE, truE, binE, varE, conE, callE, consA, nilA, notT, andT, orT, notE, andE, orE, ifE, tupE, lstE, unE, chainE, R.bind, R.stm, RS.next, fin, boolE, addD, subD, mulD, fdivD, modD, powD, ltD, leD, gtD, geD, idxD, seqOf, intF, absF, setD, eq_int, hb, z2]
end K01

namespace K01
open PySem PySem.Spec L2 Ev
/-! ### drawn stems -/
theorem str_codes (Q : Nat → Bool) : ∀ {ys : List D}, (∀ y ∈ ys, ∃ c, y = D.str (ch c) ∧ Q c = true) → ∃ cs : List Nat, ys = cs.map (fun c => D.str (ch c)) ∧ cs.all Q = true
  | [], _ => ⟨[], rfl, rfl⟩
  | y :: ys, h => by
    obtain ⟨c, rfl, q⟩ := h y (by simp)
    obtain ⟨cs, rfl, qs⟩ := str_codes Q (ys := ys) fun z hz => h z (List.mem_cons_of_mem _ hz)
    exact ⟨c :: cs, rfl, by simp [q, qs]⟩
theorem strs_ch : ∀ cs : List Nat, strsOf (cs.map fun c => D.str (ch c)) = some (cs.map ch)
  | [] => rfl
  | c :: r => by simp [strsOf, strs_ch r]
theorem flat_one : ∀ cs : List Nat, (cs.map fun c => [c]).flatten = cs
  | [] => rfl
  | c :: r => by simp [flat_one r]
theorem join_ch (cs : List Nat) : Txt.join "" (cs.map ch) = mkS cs := by
  have e : cs.map ch = (cs.map fun c => [c]).map mkS := by rw [List.map_map]; rfl
  rw [e, join_none, flat_one]
theorem sum_ch : ∀ cs : List Nat, ((cs.map ch).map (·.length)).sum = cs.length
  | [] => rfl
  | c :: r => by
    have := sum_ch r
    have e : (ch c).length = 1 := rfl
    simp only [List.map_cons, List.sum_cons, this, e, List.length_cons]
    omega
theorem ints_len (lo : Int) (n : Nat) : (intsL lo n).length = n := by simp [intsL]
theorem small_ok {j : Int} (h : 0 ≤ j) (k : j ≤ 1000000) : small62 j = true := decide_eq_true ⟨by omega, by omega⟩
theorem empty_len : ((("" : String) : Tx)).length = 0 := by decide +kernel
theorem stem_ok {s : S} {p c : Nat} {zs : List Int} {m most : Int} (hP : Pool s p c zs m) (hm : m + 20 < 100000) (h0 : 12 ≤ most) (h1 : most ≤ 13) :
    ∃ (l : List Nat) (s' : S), f_l_stem [.ref p, .int most] s = .ok (.str (mkS l)) s' ∧ stemL l = true ∧ (l.length : Int) ≤ most ∧ Pool s' p c zs (m + 14) ∧ Kp p s s' := by
  have start : f_l_stem [.ref p, .int most] s = fin (b_l_stem [some (.ref p), some (.int most), none, none, none] s) := rfl
  have pl := hP.pl
  have cl := hP.cl
  have z6 : szl 6 = true := szlS (by decide)
  rw [start]
  unfold b_l_stem
  have hls : (s ++ [O.lst [.int 0, .int 1, .int 3, .int 10, .int 11, .int (most - 1)]])[s.length]? = some (O.lst [.int 0, .int 1, .int 3, .int 10, .int 11, .int (most - 1)]) := by simp
  obtain ⟨i, d, s2, e1, hd, hP2, k2⟩ := of_lst (a := s.length) (hP.app (t := [O.lst [.int 0, .int 1, .int 3, .int 10, .int 11, .int (most - 1)]])) (by omega) hls (by omega) (by simp) (by simp)
  obtain ⟨j, rfl, j0, j1⟩ : ∃ j : Int, d = .int j ∧ 0 ≤ j ∧ j ≤ most - 1 := by
    have := List.mem_of_getElem? hd
    simp only [List.mem_cons, List.not_mem_nil, or_false] at this
    rcases this with rfl | rfl | rfl | rfl | rfl | rfl <;> exact ⟨_, rfl, by omega, by omega⟩
  have k02 : Kp p s s2 := Kp.app.trans k2
  have l2 : s.length ≤ s2.length := k02.1
  have pl2 := hP2.pl
  have cl2 := hP2.cl
  obtain ⟨ys, s3, e2, ⟨hP3, k3⟩, g3, hl3, hq⟩ := lc_gen (keep := allK) (i := 4) (id := s2.length) (e := callE f_l_of (consA (varE 0) (consA (binE addD (conE (.str "0123456789")) (varE 2)) nilA)))
    (ρ := [some (.ref p), some (.int most), some (.str "abcdefghijklmnopqrstuvwxyz"), none, none]) 12 (fun k s' => Pool s' p c zs (m + 1 + k) ∧ Kp p s s') (fun y => ∃ c, y = D.str (ch c) ∧ ld c = true) (fun _ _ _ => rfl)
    (fun k s' acc ⟨h, g⟩ => ⟨h.set (by omega) (by omega), g.new l2⟩)
    (fun k d s' acc hk ⟨h, g⟩ ha => by
      obtain ⟨i, x, s'', e, hx, h', g'⟩ := of_str (z := (("0123456789" : String) : Tx) ++ (("abcdefghijklmnopqrstuvwxyz" : String) : Tx)) h (by omega) (by decide +kernel) (by decide +kernel)
      have za : szl ((("0123456789" : String) : Tx).length + (("abcdefghijklmnopqrstuvwxyz" : String) : Tx).length) = true := by decide +kernel
      have all : ∀ c ∈ ((("0123456789" : String) : Tx) ++ (("abcdefghijklmnopqrstuvwxyz" : String) : Tx)).cps.toList, ld c = true := by decide +kernel
      have ad : ∀ s : S, addD (.str "0123456789") (.str "abcdefghijklmnopqrstuvwxyz") s = .ok (.str ((("0123456789" : String) : Tx) ++ (("abcdefghijklmnopqrstuvwxyz" : String) : Tx))) s := fun s => by simp only [addD, za, if_true]
      refine ⟨_, s'', call_ok (cons_ok rfl (cons_ok (bin_ok rfl rfl (ad _)) rfl)) e, ⟨x, rfl, all x (List.mem_of_getElem? hx)⟩, ⟨h'.le (by omega), g.trans g'⟩, g'.at ha (by omega)⟩)
    (intsL 0 j.toNat) 0 (s2 ++ [.lst []]) [] (by rw [ints_len]; omega) ⟨hP2.app.le (by omega), k02.trans Kp.app⟩ (by simp) (by rw [ints_len]; simp; omega)
  rw [ints_len] at hP3 hl3
  have e0 : b_l_stem_0 [some (.ref p), some (.int most), none, none, none] s = .nx [some (.ref p), some (.int most), some (.str "abcdefghijklmnopqrstuvwxyz"), none, none] s := rfl
  have e3 : b_l_stem_1 [some (.ref p), some (.int most), some (.str "abcdefghijklmnopqrstuvwxyz"), none, none] s = .nx [some (.ref p), some (.int most), some (.str "abcdefghijklmnopqrstuvwxyz"), some (.ref s2.length), none] s3 :=
    set_ok (lc_ok (range1_ok (call_ok (cons_ok rfl (cons_ok (lst_ok rfl z6) rfl)) e1) (small_ok j0 (by omega))) e2)
  rw [seq_nx e0, seq_nx e3]
  obtain ⟨cs, rfl, hcs⟩ := str_codes ld hq
  simp only [List.length_map] at hl3
  obtain ⟨i, x, s4, e4, hx, hP4, k4⟩ := of_str (z := (("abcdefghijklmnopqrstuvwxyz" : String) : Tx)) hP3 (by omega) (by decide +kernel) (by decide +kernel)
  have hlow : ∀ c ∈ ((("abcdefghijklmnopqrstuvwxyz" : String) : Tx)).cps.toList, low c = true := by decide +kernel
  have g4 : s4[s2.length]? = some (O.lst (cs.map fun c => D.str (ch c))) := k4.at (by simpa using g3) (by omega)
  have sq : seqOf s4 (.ref s2.length) = some (cs.map fun c => D.str (ch c)) := by simp only [seqOf, g4]
  have jo : joinF [.str "", .ref s2.length] s4 = .ok (.str (mkS cs)) s4 := by
    have hz : decide (((cs.map ch).map (·.length)).sum + (cs.map ch).length * ((("" : String) : Tx)).length ≤ 16777216) = true := by
      rw [sum_ch, empty_len]
      exact decide_eq_true (by omega)
    simp only [joinF, sq, Option.bind_some, strs_ch, hz, if_true, join_ch]
  have hxl : (ch x).length = 1 := rfl
  have ad : addD (.str (ch x)) (.str (mkS cs)) s4 = .ok (.str (mkS (x :: cs))) s4 := by
    have z : szl ((ch x).length + (mkS cs).length) = true := szlS (by rw [hxl, len_mk]; omega)
    have e : (ch x ++ mkS cs : Tx) = mkS (x :: cs) := app_mk [x] cs
    simp only [addD, z, if_true, e]
  have e5 : b_l_stem_2 [some (.ref p), some (.int most), some (.str "abcdefghijklmnopqrstuvwxyz"), some (.ref s2.length), none] s3 = .rt (.str (mkS (x :: cs))) s4 :=
    ret_ok (bin_ok (call_ok rfl e4) (meth_ok rfl rfl rfl jo) ad)
  rw [e5]
  refine ⟨x :: cs, s4, rfl, ?_, ?_, hP4.le (by omega), k3.trans k4⟩
  · simp only [stemL, hlow x (List.mem_of_getElem? hx), Bool.true_and]
    exact hcs
  · simp only [List.length_cons]; omega
/-! ### a text bent -/
theorem cut_len (z : Tx) (lo hi : Option Int) : (cutS z lo hi).length ≤ z.length := by
  have h : z.cps.toList.length = z.length := by simp [Str.length]
  simp only [cutS, Str.length, List.size_toArray, List.length_take, List.length_drop] at h ⊢
  omega
theorem app_len (a b : Tx) : (a ++ b : Tx).length = a.length + b.length := by
  show (Str.append a b).length = _
  simp [Str.append, Str.length]
theorem bent_ok {s : S} {p c : Nat} {zs : List Int} {m : Int} {z : Tx} (hP : Pool s p c zs m) (hm : m + 20 < 100000) (hz : z.length ≤ 500) :
    ∃ (y : Tx) (s' : S), f_l_bent [.ref p, .str z] s = .ok (.str y) s' ∧ y.length ≤ 1100 ∧ Pool s' p c zs (m + 3) ∧ Kp p s s' := by
  have start : f_l_bent [.ref p, .str z] s = fin (b_l_bent [some (.ref p), some (.str z), none, none, none] s) := rfl
  have zl : szl z.length = true := szlS (by omega)
  rw [start]
  unfold b_l_bent
  obtain ⟨v, s1, e1, v0, v1, hP1, k1⟩ := ladle_ok (n := 6) hP (by omega) (by decide) (by decide)
  obtain ⟨w, s2, e2, w0, w1, hP2, k2⟩ := ladle_ok (n := (z.length : Int) + 1) hP1 (by omega) (by omega) (by
    have q : ((z.length : Int) + 1).natAbs = z.length + 1 := by omega
    rw [q]
    exact Nat.lt_trans ((Nat.log2_lt (by omega)).mpr (Nat.lt_of_le_of_lt (by omega : z.length + 1 ≤ 501) (by decide : 501 < 2 ^ 10))) (by decide))
  have e0 : b_l_bent_0 [some (.ref p), some (.str z), none, none, none] s = .nx [some (.ref p), some (.str z), some (.str " !#$&()*+,-./0123456789:;<=>?@AZ[]^_az{|}~\n"), none, none] s := rfl
  have ln : lenF [.str z] s1 = .ok (.int z.length) s1 := by simp only [lenF, zl, if_true]
  have e3 : b_l_bent_1 [some (.ref p), some (.str z), some (.str " !#$&()*+,-./0123456789:;<=>?@AZ[]^_az{|}~\n"), none, none] s = .nx [some (.ref p), some (.str z), some (.str " !#$&()*+,-./0123456789:;<=>?@AZ[]^_az{|}~\n"), some (.int v), some (.int w)] s2 :=
    par_ok (cons_ok (call_ok rfl e1) (cons_ok (call_ok (cons_ok rfl (cons_ok (bin_ok (call_ok rfl ln) rfl rfl) rfl)) e2) rfl))
  rw [seq_nx e0, seq_nx e3]
  obtain ⟨i, x, s3, e4, _, hP3, k3⟩ := of_str (z := ((" !#$&()*+,-./0123456789:;<=>?@AZ[]^_az{|}~\n" : String) : Tx)) hP2 (by omega) (by decide +kernel) (by decide +kernel)
  have hxl : (ch x).length = 1 := rfl
  have sl : ∀ (lo hi : Option Int) (s : S), sliceD (.str z) lo hi s = .ok (.str (cutS z lo hi)) s := fun lo hi s => by simp only [sliceD, zl, if_true]
  have add1 : ∀ (a b : Tx) (s : S), a.length + b.length ≤ 5000 → addD (.str a) (.str b) s = .ok (.str (a ++ b)) s := fun a b s h => by
    have q : szl (a.length + b.length) = true := szlS (by omega)
    simp only [addD, q, if_true]
  have c1 := fun lo hi => cut_len z lo hi
  have eq0 : ∀ (k : Int) (s : S), eqD (.int v) (.int k) s = .ok (.bl (v == k)) s := fun k s => eq_int
  by_cases h0 : v = 0
  · subst h0
    have sl1 : (sliceE (varE 1) noO (someO (varE 4))) [some (.ref p), some (.str z), some (.str " !#$&()*+,-./0123456789:;<=>?@AZ[]^_az{|}~\n"), some (.int 0), some (.int w)] s2 = .ok (.str (cutS z none (some w))) s2 := sl _ _ _
    have sl2 : (sliceE (varE 1) (someO (varE 4)) noO) [some (.ref p), some (.str z), some (.str " !#$&()*+,-./0123456789:;<=>?@AZ[]^_az{|}~\n"), some (.int 0), some (.int w)] s3 = .ok (.str (cutS z (some w) none)) s3 := sl _ _ _
    have e5 : b_l_bent_2 [some (.ref p), some (.str z), some (.str " !#$&()*+,-./0123456789:;<=>?@AZ[]^_az{|}~\n"), some (.int 0), some (.int w)] s2 = .rt (.str (cutS z none (some w) ++ ch x ++ cutS z (some w) none)) s3 :=
      if_t (tst_ok (bin_ok rfl rfl (eq0 _ _))) (ret_ok (bin_ok (bin_ok sl1 (call_ok rfl e4) (add1 _ _ _ (by have := c1 none (some w); omega))) sl2 (add1 _ _ _ (by have := c1 none (some w); have := c1 (some w) none; rw [app_len]; omega))))
    rw [seq_rt e5]
    exact ⟨_, s3, rfl, by have := c1 none (some w); have := c1 (some w) none; rw [app_len, app_len]; omega, hP3.le (by omega), (k1.trans k2).trans k3⟩
  · have e5 : b_l_bent_2 [some (.ref p), some (.str z), some (.str " !#$&()*+,-./0123456789:;<=>?@AZ[]^_az{|}~\n"), some (.int v), some (.int w)] s2 = .nx [some (.ref p), some (.str z), some (.str " !#$&()*+,-./0123456789:;<=>?@AZ[]^_az{|}~\n"), some (.int v), some (.int w)] s2 :=
      if_f (tst_ok (bin_ok rfl rfl (by rw [eq0]; simp [h0]))) rfl
    rw [seq_nx e5]
    have sl1 : (sliceE (varE 1) noO (someO (varE 4))) [some (.ref p), some (.str z), some (.str " !#$&()*+,-./0123456789:;<=>?@AZ[]^_az{|}~\n"), some (.int v), some (.int w)] s2 = .ok (.str (cutS z none (some w))) s2 := sl _ _ _
    have sl2 : ∀ s, (sliceE (varE 1) (someO (binE addD (varE 4) (conE (.int 1)))) noO) [some (.ref p), some (.str z), some (.str " !#$&()*+,-./0123456789:;<=>?@AZ[]^_az{|}~\n"), some (.int v), some (.int w)] s = .ok (.str (cutS z (some (w + 1)) none)) s := fun s => sl _ _ _
    by_cases h1 : v = 1
    · subst h1
      have e6 : b_l_bent_3 [some (.ref p), some (.str z), some (.str " !#$&()*+,-./0123456789:;<=>?@AZ[]^_az{|}~\n"), some (.int 1), some (.int w)] s2 = .rt (.str (cutS z none (some w) ++ ch x ++ cutS z (some (w + 1)) none)) s3 :=
        if_t (tst_ok (bin_ok rfl rfl (eq0 _ _))) (ret_ok (bin_ok (bin_ok sl1 (call_ok rfl e4) (add1 _ _ _ (by have := c1 none (some w); omega))) (sl2 _) (add1 _ _ _ (by have := c1 none (some w); have := c1 (some (w + 1)) none; rw [app_len]; omega))))
      rw [seq_rt e6]
      exact ⟨_, s3, rfl, by have := c1 none (some w); have := c1 (some (w + 1)) none; rw [app_len, app_len]; omega, hP3.le (by omega), (k1.trans k2).trans k3⟩
    · have e6 : b_l_bent_3 [some (.ref p), some (.str z), some (.str " !#$&()*+,-./0123456789:;<=>?@AZ[]^_az{|}~\n"), some (.int v), some (.int w)] s2 = .nx [some (.ref p), some (.str z), some (.str " !#$&()*+,-./0123456789:;<=>?@AZ[]^_az{|}~\n"), some (.int v), some (.int w)] s2 :=
        if_f (tst_ok (bin_ok rfl rfl (by rw [eq0]; simp [h1]))) rfl
      rw [seq_nx e6]
      by_cases h2 : v = 2
      · subst h2
        have e7 : b_l_bent_4 [some (.ref p), some (.str z), some (.str " !#$&()*+,-./0123456789:;<=>?@AZ[]^_az{|}~\n"), some (.int 2), some (.int w)] s2 = .rt (.str (cutS z none (some w) ++ cutS z (some (w + 1)) none)) s2 :=
          if_t (tst_ok (bin_ok rfl rfl (eq0 _ _))) (ret_ok (bin_ok sl1 (sl2 _) (add1 _ _ _ (by have := c1 none (some w); have := c1 (some (w + 1)) none; omega))))
        rw [seq_rt e7]
        exact ⟨_, s2, rfl, by have := c1 none (some w); have := c1 (some (w + 1)) none; rw [app_len]; omega, hP2.le (by omega), k1.trans k2⟩
      · have e7 : b_l_bent_4 [some (.ref p), some (.str z), some (.str " !#$&()*+,-./0123456789:;<=>?@AZ[]^_az{|}~\n"), some (.int v), some (.int w)] s2 = .nx [some (.ref p), some (.str z), some (.str " !#$&()*+,-./0123456789:;<=>?@AZ[]^_az{|}~\n"), some (.int v), some (.int w)] s2 :=
          if_f (tst_ok (bin_ok rfl rfl (by rw [eq0]; simp [h2]))) rfl
        rw [seq_nx e7]
        exact ⟨z, s2, rfl, by omega, hP2.le (by omega), k1.trans k2⟩
end K01

namespace K01
open PySem PySem.Spec L2 Ev
/-! ### rows of stems -/
theorem stems_lc {s : S} {p c i : Nat} {zs : List Int} {m most : Int} {ρ : En} (hP : Pool s p c zs m) (n : Nat) (hn : n ≤ 7) (hm : m + 200 < 100000) (h0 : 12 ≤ most) (h1 : most ≤ 13) (hi : i ≠ 0) (hρ : ρ[0]? = some (some (.ref p))) :
    ∃ (ls : List (List Nat)) (s' : S), lcL allK (.nm i) yesT (callE f_l_stem (consA (varE 0) (consA (conE (.int most)) nilA))) s.length ρ (intsL 0 n) (s ++ [.lst []]) = .ok (.ref s.length) s' ∧
      s'[s.length]? = some (.lst (ls.map fun l => D.str (mkS l))) ∧ ls.length = n ∧ (∀ l ∈ ls, stemL l = true ∧ (l.length : Int) ≤ most) ∧ Pool s' p c zs (m + 14 * n) ∧ Kp p s s' := by
  have pl := hP.pl
  have cl := hP.cl
  obtain ⟨ys, s3, e2, ⟨hP3, k3⟩, g3, hl3, hq⟩ := lc_gen (keep := allK) (i := i) (id := s.length) (e := callE f_l_stem (consA (varE 0) (consA (conE (.int most)) nilA)))
    (ρ := ρ) n (fun k s' => Pool s' p c zs (m + 14 * k) ∧ Kp p s s') (fun y => ∃ l, y = D.str (mkS l) ∧ stemL l = true ∧ (l.length : Int) ≤ most) (fun _ _ _ => rfl)
    (fun k s' acc ⟨h, g⟩ => ⟨h.set (by omega) (by omega), g.new (Nat.le_refl _)⟩)
    (fun k d s' acc hk ⟨h, g⟩ ha => by
      obtain ⟨l, s'', e, q1, q2, h', g'⟩ := stem_ok (most := most) h (by omega) h0 h1
      have v0 : varE 0 (ρ.set i (some d)) s' = .ok (.ref p) s' := by simp only [varE, List.getElem?_set_ne hi, hρ]
      exact ⟨_, s'', call_ok (cons_ok v0 (cons_ok rfl rfl)) e, ⟨l, rfl, q1, q2⟩, ⟨h'.le (by omega), g.trans g'⟩, g'.at ha (by omega)⟩)
    (intsL 0 n) 0 (s ++ [.lst []]) [] (by rw [ints_len]; omega) ⟨hP.app.le (by omega), Kp.app⟩ (by simp) (by rw [ints_len]; simp; omega)
  rw [ints_len] at hP3 hl3
  have : ∀ ys : List D, (∀ y ∈ ys, ∃ l, y = D.str (mkS l) ∧ stemL l = true ∧ (l.length : Int) ≤ most) → ∃ ls : List (List Nat), ys = ls.map (fun l => D.str (mkS l)) ∧ ∀ l ∈ ls, stemL l = true ∧ (l.length : Int) ≤ most := by
    intro ys
    induction ys with
    | nil => exact fun _ => ⟨[], rfl, by simp⟩
    | cons y ys ih =>
      intro h
      obtain ⟨l, rfl, q⟩ := h y (by simp)
      obtain ⟨ls, rfl, qs⟩ := ih fun z hz => h z (List.mem_cons_of_mem _ hz)
      exact ⟨l :: ls, rfl, fun z hz => by
        rcases List.mem_cons.mp hz with rfl | hz
        · exact q
        · exact qs z hz⟩
  obtain ⟨ls, rfl, hls⟩ := this ys hq
  refine ⟨ls, s3, e2, by simpa using g3, by simpa using hl3, hls, by simpa using hP3, k3⟩
theorem strs_mk : ∀ ls : List (List Nat), strsOf (ls.map fun l => D.str (mkS l)) = some (ls.map mkS)
  | [] => rfl
  | c :: r => by simp [strsOf, strs_mk r]
theorem sum_mk (b : Nat) : ∀ ls : List (List Nat), (∀ l ∈ ls, l.length ≤ b) → ((ls.map mkS).map (·.length)).sum ≤ b * ls.length
  | [], _ => by simp
  | c :: r, h => by
    have := sum_mk b r fun l hl => h l (List.mem_cons_of_mem _ hl)
    have hc := h c (by simp)
    simp only [List.map_cons, List.sum_cons, len_mk, List.length_cons, Nat.mul_add, Nat.mul_one]
    omega
theorem jn_len (b : Nat) : ∀ ls : List (List Nat), (∀ l ∈ ls, l.length ≤ b) → (jn ls).length ≤ (b + 1) * ls.length
  | [], _ => by simp [jn]
  | [x], h => by have := h x (by simp); simp [jn]; omega
  | x :: y :: r, h => by
    have := jn_len b (y :: r) fun l hl => h l (List.mem_cons_of_mem _ hl)
    have hx := h x (by simp)
    simp only [jn, List.length_append, List.length_cons, Nat.mul_add, Nat.mul_one] at this ⊢
    omega
theorem join_ok {s : S} {d : D} {ls : List (List Nat)} (b : Nat) (hd : seqOf s d = some (ls.map fun l => D.str (mkS l))) (hb : ∀ l ∈ ls, l.length ≤ b) (hz : (b + 1) * ls.length ≤ 100000) : joinF [.str ".", d] s = .ok (.str (mkS (jn ls))) s := by
  have h1 := sum_mk b ls hb
  have hz : decide (((ls.map mkS).map (·.length)).sum + (ls.map mkS).length * dot.length ≤ 16777216) = true := by
    rw [dot_len, List.length_map]
    rw [Nat.add_mul] at hz
    exact decide_eq_true (by omega)
  simp only [joinF, hd, Option.bind_some, strs_mk]
  rw [if_pos hz, join_dots]
theorem repr_ok {s : S} {d : D} {q : PyData} (h : toP s d = some q) (hz : (q.showable && !q.hasDict && szl q.shown.length && decide (q.depth ≤ 60)) = true) : reprF [d] s = .ok (.str q.shown) s := by
  simp only [reprF, h, hz, if_true]
theorem repr4 (a b c d : Bool) (s : S) : reprF [.tup [.bl a, .bl b, .bl c, .bl d]] s = .ok (.str (PyData.shown (.tuple [.bool a, .bool b, .bool c, .bool d]))) s :=
  repr_ok (by rfl) (by cases a <;> cases b <;> cases c <;> cases d <;> decide +kernel)
theorem eq_str {x y : Tx} {s : S} : eqD (.str x) (.str y) s = .ok (.bl (x == y)) s := rfl
theorem tx_mk (y : Tx) : mkS y.cps.toList = y := by cases y; rfl
theorem z4 : szl 4 = true := szlS (by decide)
theorem z7 : szl 7 = true := szlS (by decide)
theorem z5 : szl 5 = true := szlS (by decide)
theorem z3 : szl 3 = true := szlS (by decide)
theorem z2 : szl 2 = true := szlS (by decide)
theorem z1 : szl 1 = true := szlS (by decide)
theorem z0 : szl 0 = true := szlS (by decide)
/-- what the law holds due of a text -/
def dueW : Option (Int × Int) → Bool × Bool × Bool
  | none => (false, false, false)
  | some (a, b) => (decide (b ≤ 12), decide (b ≤ 12) && a == 1, decide (b ≤ 12) && decide (a ≤ 6))
theorem due_ok (l : List Nat) : (dueW (walk l)).2.1 = okStem l ∧ (dueW (walk l)).2.2 = okName l := by
  have h := walk_tells l
  rw [okStem_is]
  unfold okName
  cases q : walk l with
  | none =>
    rw [q] at h
    have h2 : (sp l).all okStem = false := by rw [okStem_all, h, Bool.false_and]
    simp [dueW, h2]
  | some w =>
    obtain ⟨a, b⟩ := w
    rw [q] at h
    obtain ⟨h1, h2⟩ := h
    rw [h2]
    simp only [dueW]
    constructor
    · congr 1
      rw [Bool.eq_iff_iff, beq_iff_eq, decide_eq_true_eq]
      omega
    · rw [Bool.and_comm]
      congr 1
      rw [Bool.eq_iff_iff, decide_eq_true_eq, decide_eq_true_eq]
      omega
theorem text_right_ok {s : S} {p c : Nat} {zs : List Int} {m : Int} (hP : Pool s p c zs m) (hm : m + 300 < 100000) :
    ∃ s' : S, f_l_text_right [.ref p] s = .ok (.bl true) s' ∧ Pool s' p c zs (m + 110) ∧ Kp p s s' := by
  have start : f_l_text_right [.ref p] s = fin (b_l_text_right [some (.ref p), none, none, none, none, none] s) := rfl
  have pl := hP.pl
  have cl := hP.cl
  rw [start]
  unfold b_l_text_right
  have hls : (s ++ [O.lst [.int 1, .int 1, .int 2, .int 3, .int 5, .int 6, .int 7]])[s.length]? = some (O.lst [.int 1, .int 1, .int 2, .int 3, .int 5, .int 6, .int 7]) := by simp
  obtain ⟨i, d, s2, e1, hd, hP2, k2⟩ := of_lst (a := s.length) (hP.app (t := [O.lst [.int 1, .int 1, .int 2, .int 3, .int 5, .int 6, .int 7]])) (by omega) hls (by omega) (by simp) (by simp)
  obtain ⟨j, rfl, j0, j1⟩ : ∃ j : Int, d = .int j ∧ 1 ≤ j ∧ j ≤ 7 := by
    have := List.mem_of_getElem? hd
    simp only [List.mem_cons, List.not_mem_nil, or_false] at this
    rcases this with rfl | rfl | rfl | rfl | rfl | rfl | rfl <;> exact ⟨_, rfl, by decide, by decide⟩
  have k02 : Kp p s s2 := Kp.app.trans k2
  obtain ⟨ls, s3, e2, g3, hl3, hq, hP3, k3⟩ := stems_lc (i := 5) (most := 13) (ρ := [some (.ref p), none, none, none, none, none]) hP2 j.toNat (by omega) (by omega) (by decide) (by decide) (by decide) rfl
  have hb : ∀ l ∈ ls, l.length ≤ 13 := fun l hl => by have := (hq l hl).2; omega
  have jo := join_ok (s := s3) (d := .ref s2.length) 13 (by simp only [seqOf, g3]) hb (by rw [hl3]; omega)
  have hjl := jn_len 13 ls hb
  rw [hl3] at hjl
  obtain ⟨y, s4, e4, hy, hP4, k4⟩ := bent_ok (z := mkS (jn ls)) hP3 (by omega) (by rw [len_mk]; omega)
  have e5 : b_l_text_right_0 [some (.ref p), none, none, none, none, none] s = .nx [some (.ref p), some (.str y), none, none, none, none] s4 :=
    set_ok (call_ok (cons_ok rfl (cons_ok (meth_ok rfl rfl (cons_ok (lc_ok (range1_ok (call_ok (cons_ok rfl (cons_ok (lst_ok rfl z7) rfl)) e1) (small_ok (by omega) (by omega))) e2) rfl) jo) rfl)) e4)
  rw [seq_nx e5]
  rw [← tx_mk y]
  have hyl : y.cps.toList.length ≤ 1100 := by simpa [Str.length] using hy
  generalize y.cps.toList = l at hyl
  have e6 : b_l_text_right_1 [some (.ref p), some (.str (mkS l)), none, none, none, none] s4 = .nx [some (.ref p), some (.str (mkS l)), some (walkD l), none, none, none] s4 :=
    set_ok (call_ok rfl (walked_ok l s4))
  rw [seq_nx e6]
  obtain ⟨d1, d2⟩ := due_ok l
  have e7 : b_l_text_right_2 [some (.ref p), some (.str (mkS l)), some (walkD l), none, none, none] s4 = .nx [some (.ref p), some (.str (mkS l)), some (walkD l), some (.bl (dueW (walk l)).1), none, none] s4 := by
    refine set_ok ?_
    unfold walkD
    cases q : walk l with
    | none => exact andE_f (bin_ok rfl rfl rfl)
    | some w => exact andE_t (bin_ok rfl rfl rfl) (bin_ok (bin_ok rfl rfl rfl) rfl rfl)
  rw [seq_nx e7]
  have e8 : b_l_text_right_3 [some (.ref p), some (.str (mkS l)), some (walkD l), some (.bl (dueW (walk l)).1), none, none] s4 = .nx [some (.ref p), some (.str (mkS l)), some (walkD l), some (.bl (dueW (walk l)).1), some (.tup [.bl (dueW (walk l)).2.1, .bl (dueW (walk l)).2.2, .bl false, .bl false]), none] s4 := by
    refine set_ok (tup_ok (cons_ok (s1 := s4) ?_ (cons_ok (s1 := s4) ?_ (cons_ok rfl (cons_ok rfl rfl)))) z4)
    · unfold walkD
      cases q : walk l with
      | none => exact andE_f rfl
      | some w => exact andE_b rfl fun _ => bin_ok (bin_ok rfl rfl rfl) rfl eq_int
    · unfold walkD
      cases q : walk l with
      | none => exact andE_f rfl
      | some w => exact andE_b rfl fun _ => bin_ok (bin_ok rfl rfl rfl) rfl rfl
  rw [seq_nx e8]
  rw [d1, d2]
  obtain ⟨t, en⟩ := is_name_str l s4 (by omega)
  have ei : ∀ s, f_is_integer [.str (mkS l)] s = .ok (.bl false) s := fun s => is_integer_ok (t := "str") rfl
  have ew : ∀ s, f_is_within [.str (mkS l), .non, .non] s = .ok (.bl false) s := fun s => is_within_no (t := "str") rfl rfl
  have e9 : b_l_text_right_4 [some (.ref p), some (.str (mkS l)), some (walkD l), some (.bl (dueW (walk l)).1), some (.tup [.bl (okStem l), .bl (okName l), .bl false, .bl false]), none] s4 = .rt (.bl true) (s4 ++ t) := by
    refine ret_ok (bin_ok (call_ok (cons_ok (tup_ok (cons_ok (call_ok rfl (is_stem_str l s4 (by omega))) (cons_ok (call_ok rfl en) (cons_ok (call_ok rfl (ei _)) (cons_ok (call_ok rfl (ew _)) rfl)))) z4) rfl) (repr4 _ _ _ _ _)) (call_ok rfl (repr4 _ _ _ _ _)) ?_)
    rw [eq_str, beq_self_eq_true]
  rw [e9]
  exact ⟨_, rfl, hP4.app.le (by omega), ((k02.trans k3).trans k4).trans Kp.app⟩
/-! ### numbers -/
theorem or_le {d : D} {x : Option Int} {i : Nat} {n : Int} {ρ : En} {s : S} (h : Bd d x) (hi : ρ[i]? = some (some d)) (h1 : ρ[1]? = some (some (.int n))) : orE (binE isD (varE i) (conE .non)) (binE leD (varE i) (varE 1)) ρ s = .ok (.bl (leB x n)) s := by
  have vi : varE i ρ s = .ok d s := by simp only [varE, hi]
  have v1 : varE 1 ρ s = .ok (.int n) s := by simp only [varE, h1]
  cases h with
  | non => exact orE_t (bin_ok vi rfl rfl)
  | int k => exact orE_f (bin_ok vi rfl rfl) (bin_ok vi v1 rfl)
theorem or_ge {d : D} {x : Option Int} {i : Nat} {n : Int} {ρ : En} {s : S} (h : Bd d x) (hi : ρ[i]? = some (some d)) (h1 : ρ[1]? = some (some (.int n))) : orE (binE isD (varE i) (conE .non)) (binE leD (varE 1) (varE i)) ρ s = .ok (.bl (geB x n)) s := by
  have vi : varE i ρ s = .ok d s := by simp only [varE, hi]
  have v1 : varE 1 ρ s = .ok (.int n) s := by simp only [varE, h1]
  cases h with
  | non => exact orE_t (bin_ok vi rfl rfl)
  | int k => exact orE_f (bin_ok vi rfl rfl) (bin_ok v1 vi rfl)
theorem pow60 (s : S) : powD (.int 10) (.int 60) s = .ok (.int (10 ^ 60)) s := by
  have h : decide ((0 : Int) ≤ 60 ∧ (60 : Int) ≤ 1000000 ∧ (10 : Int).natAbs < 2 ^ 64) = true := by decide
  simp only [powD, h, if_true]
  rfl
theorem number_right_ok {s : S} {p c : Nat} {zs : List Int} {m : Int} (hP : Pool s p c zs m) (hm : m + 300 < 100000) :
    ∃ s' : S, f_l_number_right [.ref p] s = .ok (.bl true) s' ∧ Pool s' p c zs (m + 10) ∧ Kp p s s' := by
  have start : f_l_number_right [.ref p] s = fin (b_l_number_right [some (.ref p), none, none, none, none] s) := rfl
  have pl := hP.pl
  rw [start]
  unfold b_l_number_right
  have hls : (s ++ [O.lst [.int (-1), .int 1]])[s.length]? = some (O.lst [.int (-1), .int 1]) := by simp
  obtain ⟨_, d, s1, e1, hd, hP1, k1⟩ := of_lst (a := s.length) (hP.app (t := [O.lst [.int (-1), .int 1]])) (by omega) hls (by omega) (by simp) (by simp)
  obtain ⟨g, rfl, g0⟩ : ∃ j : Int, d = .int j ∧ j.natAbs = 1 := by
    have := List.mem_of_getElem? hd
    simp only [List.mem_cons, List.not_mem_nil, or_false] at this
    rcases this with rfl | rfl <;> exact ⟨_, rfl, by decide⟩
  have pl1 := hP1.pl
  have hls2 : (s1 ++ [O.lst [.int 3, .int 100, .int (10 ^ 60)]])[s1.length]? = some (O.lst [.int 3, .int 100, .int (10 ^ 60)]) := by simp
  obtain ⟨_, d, s2, e2, hd, hP2, k2⟩ := of_lst (a := s1.length) (hP1.app (t := [O.lst [.int 3, .int 100, .int (10 ^ 60)]])) (by omega) hls2 (by omega) (by simp) (by simp)
  obtain ⟨n, rfl, n0, n1⟩ : ∃ j : Int, d = .int j ∧ 0 < j ∧ j ≤ 10 ^ 60 := by
    have := List.mem_of_getElem? hd
    simp only [List.mem_cons, List.not_mem_nil, or_false] at this
    rcases this with rfl | rfl | rfl <;> exact ⟨_, rfl, by decide, by decide⟩
  obtain ⟨v, s3, e3, v0, v1, hP3, k3⟩ := ladle_ok (n := n) hP2 (by omega) n0 (Nat.lt_trans ((Nat.log2_lt (by omega)).mpr (by omega : n.natAbs < 2 ^ 200)) (by decide))
  have mu : mulD (.int g) (.int v) s3 = .ok (.int (g * v)) s3 := by
    have z : mulOk g v = true := mulS (by omega) (by omega)
    simp only [mulD, z, if_true]
  have e4 : b_l_number_right_0 [some (.ref p), none, none, none, none] s = .nx [some (.ref p), some (.int (g * v)), none, none, none] s3 :=
    set_ok (bin_ok (call_ok (cons_ok rfl (cons_ok (lst_ok rfl z2) rfl)) e1) (call_ok (cons_ok rfl (cons_ok (call_ok (cons_ok rfl (cons_ok (lst_ok (cons_ok rfl (cons_ok rfl (cons_ok (bin_ok rfl rfl (pow60 _)) rfl))) z3) rfl)) e2) rfl)) e3) mu)
  rw [seq_nx e4]
  generalize g * v = N
  have pl3 := hP3.pl
  have hls3 : (s3 ++ [O.lst [.non, .int (N - 1), .int N, .int (N + 1), .int 0]])[s3.length]? = some (O.lst [.non, .int (N - 1), .int N, .int (N + 1), .int 0]) := by simp
  obtain ⟨_, a, s4, e5, hd, hP4, k4⟩ := of_lst (a := s3.length) (hP3.app (t := [O.lst [.non, .int (N - 1), .int N, .int (N + 1), .int 0]])) (by omega) hls3 (by omega) (by simp) (by simp)
  obtain ⟨x, hx⟩ : ∃ x, Bd a x := by
    have := List.mem_of_getElem? hd
    simp only [List.mem_cons, List.not_mem_nil, or_false] at this
    rcases this with rfl | rfl | rfl | rfl | rfl
    · exact ⟨_, .non⟩
    all_goals exact ⟨_, .int _⟩
  have e6 : b_l_number_right_1 [some (.ref p), some (.int N), none, none, none] s3 = .nx [some (.ref p), some (.int N), some a, none, none] s4 :=
    set_ok (call_ok (cons_ok rfl (cons_ok (lst_ok rfl z5) rfl)) e5)
  rw [seq_nx e6]
  have pl4 := hP4.pl
  have hls4 : (s4 ++ [O.lst [.non, .int (N + 1), .int N, .int (N - 1), .int 9]])[s4.length]? = some (O.lst [.non, .int (N + 1), .int N, .int (N - 1), .int 9]) := by simp
  obtain ⟨_, b, s5, e7, hd, hP5, k5⟩ := of_lst (a := s4.length) (hP4.app (t := [O.lst [.non, .int (N + 1), .int N, .int (N - 1), .int 9]])) (by omega) hls4 (by omega) (by simp) (by simp)
  obtain ⟨y, hy⟩ : ∃ x, Bd b x := by
    have := List.mem_of_getElem? hd
    simp only [List.mem_cons, List.not_mem_nil, or_false] at this
    rcases this with rfl | rfl | rfl | rfl | rfl
    · exact ⟨_, .non⟩
    all_goals exact ⟨_, .int _⟩
  have e8 : b_l_number_right_2 [some (.ref p), some (.int N), some a, none, none] s4 = .nx [some (.ref p), some (.int N), some a, some b, none] s5 :=
    set_ok (call_ok (cons_ok rfl (cons_ok (lst_ok rfl z5) rfl)) e7)
  rw [seq_nx e8]
  have e9 : b_l_number_right_3 [some (.ref p), some (.int N), some a, some b, none] s5 = .nx [some (.ref p), some (.int N), some a, some b, some (.tup [.bl true, .bl (leB x N && geB y N), .bl false, .bl false])] s5 :=
    set_ok (tup_ok (cons_ok rfl (cons_ok (andE_b (or_le hx rfl rfl) fun _ => or_ge hy rfl rfl) (cons_ok rfl (cons_ok rfl rfl)))) z4)
  rw [seq_nx e9]
  have ki : ∀ s, kindD (.int N) s = some "int" := fun s => rfl
  have e10 : b_l_number_right_4 [some (.ref p), some (.int N), some a, some b, some (.tup [.bl true, .bl (leB x N && geB y N), .bl false, .bl false])] s5 = .rt (.bl true) s5 := by
    refine ret_ok (bin_ok (call_ok (cons_ok (tup_ok (cons_ok (call_ok rfl (is_integer_ok (ki _))) (cons_ok (call_ok rfl (is_within_int hx hy)) (cons_ok (call_ok rfl (is_stem_no (ki _) rfl)) (cons_ok (call_ok rfl (is_name_no (ki _) rfl)) rfl)))) z4) rfl) (repr4 _ _ _ _ _)) (call_ok rfl (repr4 _ _ _ _ _)) ?_)
    have hi : (isaB "int" "int" && !isaB "int" "bool") = true := by decide
    rw [hi, eq_str, beq_self_eq_true]
  rw [e10]
  exact ⟨_, rfl, hP5.le (by omega), ((((Kp.app.trans k1).trans (Kp.app.trans k2)).trans k3).trans (Kp.app.trans k4)).trans (Kp.app.trans k5)⟩
end K01

namespace K01
open PySem PySem.Spec L2 Ev
/-! ### odd values -/
theorem disp_a (ρ : En) (s : S) : dispE [((conE (.str "a")), (conE (.int 1)))] ρ s = .ok (.ref s.length) (s ++ [.dct [(.inr (("a" : String) : Tx), .int 1)]]) := by
  simp [dispE, prsL, conE, R.bind, keysD, keyD, mergeD, putD, set_last]
def Odd (s : S) (d : D) : Prop := (∃ t, kindD d s = some t ∧ isaB t "str" = false ∧ (isaB t "int" && !isaB t "bool") = false) ∨ ∃ l, d = .str (mkS l) ∧ l.length ≤ 5 ∧ okStem l = false ∧ okName l = false
theorem z13 : szl 13 = true := szlS (by decide)
theorem odd_told {s : S} {d x y : D} {p : Nat} (h : Odd s d) : ∃ t : S, lstE (consA (callE f_is_integer (consA (varE 1) nilA)) (consA (callE f_is_within (consA (varE 1) (consA (conE (.int 0)) (consA (conE (.int 1)) nilA)))) (consA (callE f_is_within (consA (varE 1) (consA (conE .non) (consA (conE .non) nilA)))) (consA (callE f_is_stem (consA (varE 1) nilA)) (consA (callE f_is_name (consA (varE 1) nilA)) nilA))))) [some (.ref p), some d, none] s
    = .ok (.ref (s ++ t).length) (s ++ t ++ [O.lst [.bl false, .bl false, .bl false, .bl false, .bl false]]) := by
  rcases h with ⟨t, h1, h2, h3⟩ | ⟨l, rfl, h1, h2, h3⟩
  · refine ⟨[], ?_⟩
    have ei := is_integer_ok h1
    rw [h3] at ei
    rw [List.append_nil]
    exact lst_ok (cons_ok (call_ok rfl ei) (cons_ok (call_ok rfl (is_within_no h1 h3)) (cons_ok (call_ok rfl (is_within_no h1 h3)) (cons_ok (call_ok rfl (is_stem_no h1 h2)) (cons_ok (call_ok rfl (is_name_no h1 h2)) rfl))))) z5
  · obtain ⟨t, en⟩ := is_name_str l s (by omega)
    have es := is_stem_str l s (by omega)
    have ei : f_is_integer [.str (mkS l)] s = .ok (.bl false) s := is_integer_ok (t := "str") rfl
    have ew : ∀ a b, f_is_within [.str (mkS l), a, b] s = .ok (.bl false) s := fun a b => is_within_no (t := "str") rfl rfl
    rw [h2] at es
    rw [h3] at en
    exact ⟨t, lst_ok (cons_ok (call_ok rfl ei) (cons_ok (call_ok rfl (ew _ _)) (cons_ok (call_ok rfl (ew _ _)) (cons_ok (call_ok rfl es) (cons_ok (call_ok rfl en) rfl))))) z5⟩
theorem toP_five {s : S} {a : Nat} (h : s[a]? = some (.lst [.bl false, .bl false, .bl false, .bl false, .bl false])) : toP s (.ref a) = some (.list [.bool false, .bool false, .bool false, .bool false, .bool false]) := by
  simp [toP, toPw, rfN, lstAt, h, toPws]
theorem repr5 {s : S} {a : Nat} (h : s[a]? = some (.lst [.bl false, .bl false, .bl false, .bl false, .bl false])) : reprF [.ref a] s = .ok (.str (PyData.shown (.list [.bool false, .bool false, .bool false, .bool false, .bool false]))) s :=
  repr_ok (toP_five h) (by decide +kernel)
theorem odd_right_ok {s : S} {p c : Nat} {zs : List Int} {m : Int} (hP : Pool s p c zs m) (hm : m + 300 < 100000) :
    ∃ s' : S, f_l_odd_right [.ref p] s = .ok (.bl true) s' ∧ Pool s' p c zs (m + 10) ∧ Kp p s s' := by
  have start : f_l_odd_right [.ref p] s = fin (b_l_odd_right [some (.ref p), none, none] s) := rfl
  have pl := hP.pl
  rw [start]
  unfold b_l_odd_right
  have e0 : ∃ (items : List D) (s5 : S), (lstE (consA (conE .non) (consA (conE (.bl true)) (consA (conE (.bl false)) (consA (lstE nilA) (consA (lstE (consA (conE (.str "a")) nilA)) (consA (tupE nilA) (consA (tupE (consA (conE (.str "a")) nilA)) (consA (tupE (consA (conE (.int 1)) nilA)) (consA dct0E (consA (dispE [((conE (.str "a")), (conE (.int 1)))]) (consA (lstE (consA (conE (.int 1)) nilA)) (consA (conE (.str "")) (consA (conE (.str ".")) nilA)))))))))))))) [some (.ref p), none, none] s = .ok (.ref s5.length) (s5 ++ [.lst items])
      ∧ s5 = s ++ [.lst [], .lst [.str "a"], .dct [], .dct [(.inr (("a" : String) : Tx), .int 1)], .lst [.int 1]]
      ∧ items = [.non, .bl true, .bl false, .ref s.length, .ref (s.length + 1), .tup [], .tup [.str "a"], .tup [.int 1], .ref (s.length + 2), .ref (s.length + 3), .ref (s.length + 4), .str "", .str "."] :=
    ⟨_, _, lst_ok (cons_ok rfl (cons_ok rfl (cons_ok rfl (cons_ok (lst_ok rfl z0) (cons_ok (lst_ok rfl z1) (cons_ok (tup_ok rfl z0) (cons_ok (tup_ok rfl z1) (cons_ok (tup_ok rfl z1) (cons_ok rfl (cons_ok (disp_a _ _) (cons_ok (lst_ok rfl z1) (cons_ok rfl (cons_ok rfl rfl))))))))))))) z13, by simp, by simp⟩
  obtain ⟨items, s5, e0, h5, hit⟩ := e0
  have hls : (s5 ++ [O.lst items])[s5.length]? = some (O.lst items) := by simp
  have l5 : s.length ≤ s5.length := by rw [h5]; simp
  have k5 : Kp p s (s5 ++ [O.lst items]) := by rw [h5]; exact Kp.app.trans Kp.app
  have P5 : Pool (s5 ++ [O.lst items]) p c zs m := by rw [h5]; exact hP.app.app
  obtain ⟨_, d, s6, e1, hd, hP6, k6⟩ := of_lst (a := s5.length) P5 (by omega) hls (by omega) (by rw [hit]; simp) (by rw [hit]; simp)
  have at_ : ∀ (k : Nat) (o : O), ([O.lst [], .lst [.str "a"], .dct [], .dct [(.inr (("a" : String) : Tx), .int 1)], .lst [.int 1]] : S)[k]? = some o → s6[s.length + k]? = some o := fun k o h => by
    have hk := (List.getElem?_eq_some_iff.mp h).1
    refine k6.at ?_ (by omega)
    rw [h5, List.append_assoc, List.getElem?_append_right (by omega), Nat.add_sub_cancel_left, List.getElem?_append_left hk]
    exact h
  have odd : Odd s6 d := by
    have hm := List.mem_of_getElem? hd
    rw [hit] at hm
    simp only [List.mem_cons, List.not_mem_nil, or_false] at hm
    rcases hm with rfl | rfl | rfl | rfl | rfl | rfl | rfl | rfl | rfl | rfl | rfl | rfl | rfl
    · exact .inl ⟨"NoneType", rfl, by decide, by decide⟩
    · exact .inl ⟨"bool", rfl, by decide, by decide⟩
    · exact .inl ⟨"bool", rfl, by decide, by decide⟩
    · exact .inl ⟨"list", by simp only [kindD, show s6[s.length]? = some (O.lst []) from at_ 0 _ rfl], by decide, by decide⟩
    · exact .inl ⟨"list", by simp only [kindD, at_ 1 _ rfl], by decide, by decide⟩
    · exact .inl ⟨"tuple", rfl, by decide, by decide⟩
    · exact .inl ⟨"tuple", rfl, by decide, by decide⟩
    · exact .inl ⟨"tuple", rfl, by decide, by decide⟩
    · exact .inl ⟨"dict", by simp only [kindD, at_ 2 _ rfl], by decide, by decide⟩
    · exact .inl ⟨"dict", by simp only [kindD, at_ 3 _ rfl], by decide, by decide⟩
    · exact .inl ⟨"list", by simp only [kindD, at_ 4 _ rfl], by decide, by decide⟩
    · exact .inr ⟨[], by have : (("" : String) : Tx) = mkS [] := by decide +kernel
                         rw [this], by decide, by decide, by decide⟩
    · exact .inr ⟨[46], by have : (("." : String) : Tx) = mkS [46] := by decide +kernel
                           rw [this], by decide, by decide, by decide⟩
  have e2 : b_l_odd_right_0 [some (.ref p), none, none] s = .nx [some (.ref p), some d, none] s6 := set_ok (call_ok (cons_ok rfl (cons_ok e0 rfl)) e1)
  obtain ⟨t, e3⟩ := odd_told (p := p) (x := .non) (y := .non) odd
  have e4 : b_l_odd_right_1 [some (.ref p), some d, none] s6 = .nx [some (.ref p), some d, some (.ref (s6 ++ t).length)] (s6 ++ t ++ [O.lst [.bl false, .bl false, .bl false, .bl false, .bl false]]) := set_ok e3
  rw [seq_nx e2, seq_nx e4]
  have r1 := repr5 (s := s6 ++ t ++ [O.lst [.bl false, .bl false, .bl false, .bl false, .bl false]]) (a := (s6 ++ t).length) (by simp)
  have r2 := repr5 (s := s6 ++ t ++ [O.lst [.bl false, .bl false, .bl false, .bl false, .bl false]] ++ [O.lst [.bl false, .bl false, .bl false, .bl false, .bl false]]) (a := (s6 ++ t ++ [O.lst [.bl false, .bl false, .bl false, .bl false, .bl false]]).length) (by simp)
  have e5 : b_l_odd_right_2 [some (.ref p), some d, some (.ref (s6 ++ t).length)] (s6 ++ t ++ [O.lst [.bl false, .bl false, .bl false, .bl false, .bl false]]) = .rt (.bl true) (s6 ++ t ++ [O.lst [.bl false, .bl false, .bl false, .bl false, .bl false]] ++ [O.lst [.bl false, .bl false, .bl false, .bl false, .bl false]]) := by
    refine ret_ok (bin_ok (call_ok rfl r1) (call_ok (cons_ok (lst_ok rfl z5) rfl) r2) ?_)
    rw [eq_str, beq_self_eq_true]
  rw [e5]
  exact ⟨_, rfl, hP6.app.app.app.le (by omega), (((k5.trans k6).trans Kp.app).trans Kp.app).trans Kp.app⟩
/-! ### names joined -/
theorem jn_flat : ∀ gs : List (List (List Nat)), (∀ g ∈ gs, g ≠ []) → jn (gs.map jn) = jn gs.flatten
  | [], _ => rfl
  | [g], _ => by simp [jn]
  | g :: h :: r, hg => by
    have ih := jn_flat (h :: r) fun x hx => hg x (List.mem_cons_of_mem _ hx)
    have h1 : h ≠ [] := hg h (by simp)
    have e : (g :: h :: r).flatten = g ++ (h :: r).flatten := rfl
    rw [e, jn_app (hg g (by simp)) (by simp [h1]), ← ih]
    rfl
theorem shown_str (z : Tx) (s : S) : f_shown [.str z] s = .ok (.str z) s := by
  have start : f_shown [.str z] s = fin (b_shown [some (.str z)] s) := rfl
  have e0 : b_shown_0 [some (.str z)] s = .rt (.str z) s := if_t (tru_ok (call_ok rfl (isa_ok (t := "str") rfl c_str))) (ret_ok rfl)
  rw [start]
  unfold b_shown
  rw [seq_rt e0]
  rfl
theorem shown_six (s : S) : f_shown [.int 6] s = .ok (.str (toString (6 : Int) : String)) s := by
  have start : f_shown [.int 6] s = fin (b_shown [some (.int 6)] s) := rfl
  have e0 : b_shown_0 [some (.int 6)] s = .nx [some (.int 6)] s := if_f (tru_ok (call_ok rfl (isa_ok (t := "int") rfl c_str))) rfl
  have e1 : b_shown_1 [some (.int 6)] s = .rt (.str (toString (6 : Int) : String)) s := by
    refine if_t (s1 := s) (and_t (s1 := s) (tru_ok (call_ok rfl (isa_ok (t := "int") rfl c_int))) (tst_ok (s1 := s) (k := true) ?_)) (ret_ok (call_ok (s1 := s) rfl ?_))
    · rfl
    · have h : decide ((6 : Int).natAbs.log2 < 1920) = true := by decide
      simp only [strF, h, if_true]
  rw [start]
  unfold b_shown
  rw [seq_nx e0, seq_rt e1]
  rfl
theorem made_six (s : S) : f_TooMany [.ref s.length, .str "stems", .int 6] (s ++ [.exc "TooMany" none]) = .ok .non (s ++ [.exc "TooMany" (some (s.length + 1)), .xn [("most", .int 6), ("what", .str "stems")]]) := by
  have start : f_TooMany [.ref s.length, .str "stems", .int 6] (s ++ [.exc "TooMany" none]) = fin (b_TooMany [some (.ref s.length), some (.str "stems"), some (.int 6)] (s ++ [.exc "TooMany" none])) := rfl
  have jo : ∃ z, joinedE [(conE (.str "too many: ")), (fmtE (callE f_shown (consA (varE 1) nilA))), (conE (.str ", at most ")), (fmtE (callE f_shown (consA (varE 2) nilA)))] [some (.ref s.length), some (.str "stems"), some (.int 6)] (s ++ [.exc "TooMany" none]) = .ok (.str z) (s ++ [.exc "TooMany" none]) := by
    have c1 : ∀ s' : S, (callE f_shown (consA (varE 1) nilA)) [some (.ref s.length), some (.str "stems"), some (.int 6)] s' = .ok (.str "stems") s' := fun s' => call_ok rfl (shown_str _ _)
    have c2 : ∀ s' : S, (callE f_shown (consA (varE 2) nilA)) [some (.ref s.length), some (.str "stems"), some (.int 6)] s' = .ok (.str (toString (6 : Int) : String)) s' := fun s' => call_ok rfl (shown_six _)
    refine ⟨((((Str.empty ++ (("too many: " : String) : Tx)) ++ (("stems" : String) : Tx)) ++ ((", at most " : String) : Tx)) ++ ((toString (6 : Int) : String) : Tx)), ?_⟩
    simp only [joinedE, jsL, conE, R.bind, fmtE, c1, c2]
    rw [if_pos (by decide +kernel), if_pos (by decide +kernel)]
    simp only []
    rw [if_pos (by decide +kernel), if_pos (by decide +kernel), if_pos (by decide +kernel)]
    simp only []
    rw [if_pos (by decide +kernel)]
  obtain ⟨z, jo⟩ := jo
  have e0 : b_TooMany_0 [some (.ref s.length), some (.str "stems"), some (.int 6)] (s ++ [.exc "TooMany" none]) = .nx [some (.ref s.length), some (.str "stems"), some (.int 6)] (s ++ [.exc "TooMany" none]) := by
    refine expr_ok (d := .non) ?_
    have ar : (consA (varE 0) (consA (joinedE [(conE (.str "too many: ")), (fmtE (callE f_shown (consA (varE 1) nilA))), (conE (.str ", at most ")), (fmtE (callE f_shown (consA (varE 2) nilA)))]) nilA)) [some (.ref s.length), some (.str "stems"), some (.int 6)] (s ++ [.exc "TooMany" none]) = .ok [.ref s.length, .str z] (s ++ [.exc "TooMany" none]) := cons_ok rfl (cons_ok jo rfl)
    simp only [vinitE, ar, R.bind]
    simp
  have e1 : b_TooMany_1 [some (.ref s.length), some (.str "stems"), some (.int 6)] (s ++ [.exc "TooMany" none]) = .nx [some (.ref s.length), some (.str "stems"), some (.int 6)] (s ++ [.exc "TooMany" (some (s.length + 1)), .xn [("what", .str "stems")]]) := by
    simp [b_TooMany_1, ostS, varE, R.stm]
  have e2 : b_TooMany_2 [some (.ref s.length), some (.str "stems"), some (.int 6)] (s ++ [.exc "TooMany" (some (s.length + 1)), .xn [("what", .str "stems")]]) = .nx [some (.ref s.length), some (.str "stems"), some (.int 6)] (s ++ [.exc "TooMany" (some (s.length + 1)), .xn [("most", .int 6), ("what", .str "stems")]]) := by
    simp [b_TooMany_2, ostS, varE, R.stm]
  rw [start]
  unfold b_TooMany
  rw [seq_nx e0, seq_nx e1, e2]
  rfl
theorem joined_ok {s : S} {ls : List (List Nat)} (b : Nat) (hb : ∀ l ∈ ls, l.length ≤ b) (hz : (b + 1) * ls.length ≤ 100000) : f_joined_name (ls.map fun l => D.str (mkS l)) s = if (sp1 (jn ls)).2.length < 6 then .ok (.str (mkS (jn ls))) s else .err "TooMany" [("most", .int 6), ("what", .str "stems")] s := by
  have hl : ls.length ≤ 100000 := by
    have : ls.length ≤ (b + 1) * ls.length := Nat.le_mul_of_pos_left _ (by omega)
    omega
  have start : f_joined_name (ls.map fun l => D.str (mkS l)) s = fin (b_joined_name [some (.tup (ls.map fun l => D.str (mkS l))), none] s) := by
    have h : (decide (0 ≤ (ls.map fun l => D.str (mkS l)).length) && szl ((ls.map fun l => D.str (mkS l)).length - 0)) = true := by
      rw [Bool.and_eq_true]
      exact ⟨by simp, szlS (by simp; omega)⟩
    simp only [f_joined_name, mkFnS, h, if_true]
    rfl
  have jo := join_ok (s := s) (d := .tup (ls.map fun l => D.str (mkS l))) b rfl hb hz
  have e0 : b_joined_name_0 [some (.tup (ls.map fun l => D.str (mkS l))), none] s = .nx [some (.tup (ls.map fun l => D.str (mkS l))), some (.str (mkS (jn ls)))] s := set_ok (meth_ok rfl rfl rfl jo)
  have co : countF [.str (mkS (jn ls)), .str "."] s = .ok (.int ((sp1 (jn ls)).2.length : Int)) s := by
    simp only [countF, strF1]
    rw [show (("." : String) : Tx) = dot from rfl, count_dots]
  rw [start]
  unfold b_joined_name
  rw [seq_nx e0]
  by_cases h : (sp1 (jn ls)).2.length < 6
  · rw [if_pos h]
    have hh : ¬ ((6 : Int) ≤ (sp1 (jn ls)).2.length) := by omega
    have ge : geD (.int ((sp1 (jn ls)).2.length : Int)) (.int 6) s = .ok (.bl false) s := by simp only [geD, decide_eq_false hh]
    have e1 : b_joined_name_1 [some (.tup (ls.map fun l => D.str (mkS l))), some (.str (mkS (jn ls)))] s = .nx [some (.tup (ls.map fun l => D.str (mkS l))), some (.str (mkS (jn ls)))] s :=
      if_f (tst_ok (bin_ok (meth_ok rfl rfl rfl co) rfl ge)) rfl
    rw [seq_nx e1]
    rfl
  · rw [if_neg h]
    have hh : ((6 : Int) ≤ (sp1 (jn ls)).2.length) := by omega
    have ge : geD (.int ((sp1 (jn ls)).2.length : Int)) (.int 6) s = .ok (.bl true) s := by simp only [geD, decide_eq_true hh]
    have e1 : b_joined_name_1 [some (.tup (ls.map fun l => D.str (mkS l))), some (.str (mkS (jn ls)))] s = .err "TooMany" [("most", .int 6), ("what", .str "stems")] [some (.tup (ls.map fun l => D.str (mkS l))), some (.str (mkS (jn ls)))] s := by
      refine if_t (tst_ok (bin_ok (meth_ok rfl rfl rfl co) rfl ge)) ?_
      have ar : (consA (conE (.str "stems")) (consA (conE (.int 6)) nilA)) [some (.tup (ls.map fun l => D.str (mkS l))), some (.str (mkS (jn ls)))] s = .ok [.str "stems", .int 6] s := rfl
      have h2 : [D.str "stems", D.int 6].length ≤ 1000 := by decide
      simp only [raiseS, ar, R.stm, h2, if_true]
      rw [made_six, made_eq (by rfl)]
    have e2 : ∀ k, seqS b_joined_name_1 k [some (.tup (ls.map fun l => D.str (mkS l))), some (.str (mkS (jn ls)))] s = .err "TooMany" [("most", .int 6), ("what", .str "stems")] [some (.tup (ls.map fun l => D.str (mkS l))), some (.str (mkS (jn ls)))] s := fun k => by
      simp only [seqS, e1, RS.next]
    rw [e2]
    rfl
end K01

namespace K01
open PySem PySem.Spec L2 Ev
theorem for_inv {t : Tg} {body : C} (N : Nat) (J : Nat → En → S → Prop) (hs : ∀ k d ρ s, k < N → J k ρ s → ∃ ρ1 ρ' s', asg t d ρ = some ρ1 ∧ body ρ1 s = .nx ρ' s' ∧ J (k + 1) ρ' s') :
    ∀ (ds : List D) (k : Nat) (ρ : En) (s : S), k + ds.length ≤ N → J k ρ s → ∃ ρ' s', forL allK t body ds ρ s = .nx ρ' s' ∧ J (k + ds.length) ρ' s'
  | [], k, ρ, s, _, h => ⟨ρ, s, by simp [forL, allK], h⟩
  | d :: ds, k, ρ, s, hN, h => by
    simp only [List.length_cons] at hN
    obtain ⟨ρ1, ρ2, s2, e1, e2, h2⟩ := hs k d ρ s (by omega) h
    obtain ⟨ρ3, s3, e3, h3⟩ := for_inv N J hs ds (k + 1) ρ2 s2 (by omega) h2
    refine ⟨ρ3, s3, ?_, by rw [show k + (d :: ds).length = k + 1 + ds.length by simp; omega]; exact h3⟩
    simp only [forL, allK, if_true, e1, e2, e3]
theorem fin_ret {e : E} {ρ : En} {s : S} : fin (retS e ρ s) = e ρ s := by
  simp only [retS]
  cases e ρ s <;> rfl
theorem seq_ret {a b : C} {e : E} {ρ : En} {s : S} (h : a ρ s = retS e ρ s) : fin (seqS a b ρ s) = e ρ s := by
  simp only [seqS, h, retS]
  cases e ρ s <;> rfl
abbrev strL (ls : List (List Nat)) : List D := ls.map fun l => D.str (mkS l)
structure Grp (gs : List (List (List Nat))) : Prop where
  g : ∀ g ∈ gs, 1 ≤ g.length ∧ g.length ≤ 3 ∧ ∀ l ∈ g, stemL l = true ∧ l.length ≤ 12
theorem Grp.app {gs : List (List (List Nat))} {g : List (List Nat)} (h : Grp gs) (k : 1 ≤ g.length ∧ g.length ≤ 3 ∧ ∀ l ∈ g, stemL l = true ∧ l.length ≤ 12) : Grp (gs ++ [g]) := ⟨fun x hx => by
  rcases List.mem_append.mp hx with hx | hx
  · exact h.g x hx
  · simp only [List.mem_cons, List.not_mem_nil, or_false] at hx
    subst hx
    exact k⟩
theorem Grp.flat {gs : List (List (List Nat))} (h : Grp gs) : ∀ l ∈ gs.flatten, stemL l = true ∧ l.length ≤ 12 := fun l hl => by
  obtain ⟨g, hg, hl⟩ := List.mem_flatten.mp hl
  exact (h.g g hg).2.2 l hl
theorem Grp.len : ∀ {gs : List (List (List Nat))}, Grp gs → gs.flatten.length ≤ 3 * gs.length
  | [], _ => by simp
  | g :: gs, h => by
    have := Grp.len (gs := gs) ⟨fun x hx => h.g x (List.mem_cons_of_mem _ hx)⟩
    have h1 := (h.g g (by simp)).2.1
    simp only [List.flatten_cons, List.length_append, List.length_cons]
    omega
theorem Grp.jnl {gs : List (List (List Nat))} (h : Grp gs) : ∀ l ∈ gs.map jn, l.length ≤ 39 := fun l hl => by
  obtain ⟨g, hg, rfl⟩ := List.mem_map.mp hl
  obtain ⟨_, h2, h3⟩ := h.g g hg
  have := jn_len 12 g fun l hl => (h3 l hl).2
  omega
def J1 (s : S) (p c : Nat) (zs : List Int) (m : Int) (k : Nat) (ρ : En) (s' : S) : Prop := ∃ (a : Nat) (o3 o4 : Option D) (gs : List (List (List Nat))), ρ = [some (.ref p), some (.ref a), some (.ref (s.length + 1)), o3, o4, none, none, none, none] ∧
  s'[a]? = some (.lst (strL gs.flatten)) ∧ s'[s.length + 1]? = some (.lst (strL (gs.map jn))) ∧ gs.length = k ∧ Grp gs ∧ Pool s' p c zs (m + 50 * k) ∧ Kp p s s' ∧ s.length ≤ a ∧ a ≠ s.length + 1
theorem add_lst {s : S} {a b : Nat} {xs ys : List D} (ha : s[a]? = some (.lst xs)) (hb : s[b]? = some (.lst ys)) (hl : xs.length + ys.length ≤ 100000) : addD (.ref a) (.ref b) s = .ok (.ref s.length) (s ++ [.lst (xs ++ ys)]) := by
  have z : szl (xs.length + ys.length) = true := szlS (by omega)
  simp only [addD, ha, hb, z, if_true, newL]
theorem joined_step {s : S} {p c : Nat} {zs : List Int} {m : Int} (hpl : p < s.length) (hcl : c < s.length) (hm : m + 500 < 100000) (k : Nat) (d : D) (ρ : En) (s' : S) (hk : k < 4) (h : J1 s p c zs m k ρ s') :
    ∃ ρ1 ρ' s'', asg (.nm 3) d ρ = some ρ1 ∧ (seqS (setS 4 (lcE (range1 (callE f_l_of (consA (varE 0) (consA (lstE (consA (conE (.int 1)) (consA (conE (.int 1)) (consA (conE (.int 2)) (consA (conE (.int 3)) nilA))))) nilA)))) [8] (.nm 8) yesT (callE f_l_stem (consA (varE 0) (consA (conE (.int 12)) nilA)))))
  (seqS (setS 1 (binE addD (varE 1) (varE 4)))
  (exprS (methE "list" appendF (varE 2) (consA (methE "str" joinF (conE (.str ".")) (consA (varE 4) nilA)) nilA))))) ρ1 s' = .nx ρ' s'' ∧ J1 s p c zs m (k + 1) ρ' s'' := by
  obtain ⟨a, o3, o4, gs, rfl, ha, hb, hgl, hg, hP, kp, hal, hab⟩ := h
  refine ⟨[some (.ref p), some (.ref a), some (.ref (s.length + 1)), some d, o4, none, none, none, none], ?_⟩
  have hsl := kp.1
  have hls : (s' ++ [O.lst [.int 1, .int 1, .int 2, .int 3]])[s'.length]? = some (O.lst [.int 1, .int 1, .int 2, .int 3]) := by simp
  obtain ⟨_, x, s2, e1, hd, hP2, k2⟩ := of_lst (a := s'.length) (hP.app (t := [O.lst [.int 1, .int 1, .int 2, .int 3]])) (by omega) hls (by omega) (by simp) (by simp)
  obtain ⟨j, rfl, j0, j1⟩ : ∃ j : Int, x = .int j ∧ 1 ≤ j ∧ j ≤ 3 := by
    have := List.mem_of_getElem? hd
    simp only [List.mem_cons, List.not_mem_nil, or_false] at this
    rcases this with rfl | rfl | rfl | rfl <;> exact ⟨_, rfl, by decide, by decide⟩
  have k02 : Kp p s' s2 := Kp.app.trans k2
  obtain ⟨g, s3, e2, g3, hl3, hq, hP3, k3⟩ := stems_lc (i := 8) (most := 12) (ρ := [some (.ref p), some (.ref a), some (.ref (s.length + 1)), some d, o4, none, none, none, none]) hP2 j.toNat (by omega) (by omega) (by decide) (by decide) (by decide) rfl
  have hg1 : 1 ≤ g.length ∧ g.length ≤ 3 ∧ ∀ l ∈ g, stemL l = true ∧ l.length ≤ 12 := ⟨by omega, by omega, fun l hl => ⟨(hq l hl).1, by have := (hq l hl).2; omega⟩⟩
  have k03 := k02.trans k3
  have ha3 : s3[a]? = some (.lst (strL gs.flatten)) := k03.at ha (by omega)
  have hb3 : s3[s.length + 1]? = some (.lst (strL (gs.map jn))) := k03.at hb (by omega)
  have l3 := k3.1
  have l2 := k02.1
  have i3 : s2.length < s3.length := (List.getElem?_eq_some_iff.mp g3).1
  have b3 : s.length + 1 < s'.length := (List.getElem?_eq_some_iff.mp hb).1
  have ad : addD (.ref a) (.ref s2.length) s3 = .ok (.ref s3.length) (s3 ++ [O.lst (strL gs.flatten ++ strL g)]) := add_lst ha3 g3 (by
    have := hg.len
    simp only [List.length_map]
    omega)
  have sq : seqOf (s3 ++ [O.lst (strL gs.flatten ++ strL g)]) (.ref s2.length) = some (strL g) := by simp only [seqOf, List.getElem?_append_left i3, g3]
  have jo := join_ok (ls := g) 12 sq (fun l hl => (hg1.2.2 l hl).2) (by omega)
  have hb4 : (s3 ++ [O.lst (strL gs.flatten ++ strL g)])[s.length + 1]? = some (O.lst (strL (gs.map jn))) := by rw [List.getElem?_append_left (by omega)]; exact hb3
  have ap : appendF [.ref (s.length + 1), .str (mkS (jn g))] (s3 ++ [O.lst (strL gs.flatten ++ strL g)]) = .ok .non ((s3 ++ [O.lst (strL gs.flatten ++ strL g)]).set (s.length + 1) (O.lst (strL (gs.map jn) ++ [D.str (mkS (jn g))]))) := by
    have z : decide ((strL (gs.map jn)).length < sizeLine) = true := decide_eq_true (Nat.lt_of_le_of_lt (by simp; omega : (strL (gs.map jn)).length ≤ 4) (by decide))
    simp only [appendF, hb4, z, if_true]
  have ty : isTyD "list" (.ref (s.length + 1)) (s3 ++ [O.lst (strL gs.flatten ++ strL g)]) = true := by simp only [isTyD, lstAt, hb4]; rfl
  refine ⟨_, _, rfl, (seq_nx (set_ok (lc_ok (range1_ok (call_ok (cons_ok rfl (cons_ok (lst_ok (ds := [.int 1, .int 1, .int 2, .int 3]) rfl z4) rfl)) e1) (small_ok (by omega) (by omega))) e2))).trans ((seq_nx (set_ok (bin_ok rfl rfl ad))).trans (expr_ok (meth_ok rfl ty (cons_ok (meth_ok rfl rfl rfl jo) rfl) ap))), ?_⟩
  refine ⟨s3.length, some d, some (.ref s2.length), gs ++ [g], rfl, ?_, ?_, by simp; omega, hg.app hg1, ?_, ?_, by omega, by omega⟩
  · rw [List.getElem?_set_ne (by omega)]
    simp
  · rw [List.getElem?_set_self (by simp; omega)]
    simp
  · exact ((hP3.app).set (by omega) (by omega)).le (by omega)
  · exact ((kp.trans k03).trans Kp.app).new (by omega)
theorem lj_ok {s : S} {b n : Nat} {xs : List D} (h : s[b]? = some (.lst xs)) (h1 : 1 ≤ xs.length) (h4 : xs.length ≤ 4) : f_l_joined [.ref b] s = f_joined_name xs s := by
  have start : f_l_joined [.ref b] s = fin (b_l_joined [some (.ref b)] s) := rfl
  have ln : (callE lenF (consA (varE 0) nilA)) [some (.ref b)] s = .ok (.int xs.length) s := call_ok rfl (by simp only [lenF, seqOf, h])
  have eqv : ∀ k : Int, (tstE (binE eqD (callE lenF (consA (varE 0) nilA)) (conE (.int k)))) [some (.ref b)] s = .ok ((xs.length : Int) == k) s := fun k => tst_ok (bin_ok ln rfl eq_int)
  have ix : ∀ (k : Nat) (x : D), xs[k]? = some x → (binE idxD (varE 0) (conE (.int (k : Int)))) [some (.ref b)] s = .ok x s := fun k x hx => bin_ok rfl rfl (by simp only [idxD, seqOf, h, atI_nat hx])
  have no : ∀ (k : Int) (u : C), ((xs.length : Int) == k) = false → (ifS (tstE (binE eqD (callE lenF (consA (varE 0) nilA)) (conE (.int k)))) u passS) [some (.ref b)] s = .nx [some (.ref b)] s := fun k u hk => if_f (by rw [eqv, hk]) rfl
  have yes : ∀ (k : Int) (e : E), ((xs.length : Int) == k) = true → (ifS (tstE (binE eqD (callE lenF (consA (varE 0) nilA)) (conE (.int k)))) (retS e) passS) [some (.ref b)] s = retS e [some (.ref b)] s := fun k e hk => if_t (by rw [eqv, hk]) rfl
  rw [start]
  unfold b_l_joined b_l_joined_0 b_l_joined_1 b_l_joined_2
  match xs, h1, h4 with
  | [x], _, _ =>
    rw [seq_ret (yes 1 _ rfl)]
    exact call_ok (cons_ok (ix 0 x rfl) rfl) rfl
  | [x, y], _, _ =>
    rw [seq_nx (no 1 _ rfl), seq_ret (yes 2 _ rfl)]
    exact call_ok (cons_ok (ix 0 x rfl) (cons_ok (ix 1 y rfl) rfl)) rfl
  | [x, y, z], _, _ =>
    rw [seq_nx (no 1 _ rfl), seq_nx (no 2 _ rfl), seq_ret (yes 3 _ rfl)]
    exact call_ok (cons_ok (ix 0 x rfl) (cons_ok (ix 1 y rfl) (cons_ok (ix 2 z rfl) rfl))) rfl
  | [x, y, z, w], _, _ =>
    rw [seq_nx (no 1 _ rfl), seq_nx (no 2 _ rfl), seq_nx (no 3 _ rfl)]
    unfold b_l_joined_3
    rw [fin_ret]
    exact call_ok (cons_ok (ix 0 x rfl) (cons_ok (ix 1 y rfl) (cons_ok (ix 2 z rfl) (cons_ok (ix 3 w rfl) rfl)))) rfl
theorem strOk_stem {l : List Nat} (h : stemL l = true) : PyData.strOk (mkS l) = true := by
  have hl : ∀ c ∈ l, c < 0x110000 := by
    cases l with
    | nil => simp
    | cons c r =>
      simp only [stemL, Bool.and_eq_true, List.all_eq_true, low, decide_eq_true_eq] at h
      intro x hx
      rcases List.mem_cons.mp hx with rfl | hx
      · omega
      · have := h.2 x hx
        simp only [ld, Bool.or_eq_true, decide_eq_true_eq] at this
        omega
  simp only [PyData.strOk]
  simpa [mkS] using hl
theorem lay_strs : ∀ ls : List (List Nat), (∀ l ∈ ls, stemL l = true) → PyData.canLayAll0 (ls.map fun l => PyData.str (mkS l)) = true ∧ PyData.depthAll (ls.map fun l => PyData.str (mkS l)) = 0 ∧ PyData.eqvAll (ls.map fun l => PyData.str (mkS l)) (ls.map fun l => PyData.str (mkS l)) = true
  | [], _ => by simp [PyData.canLayAll0, PyData.depthAll, PyData.eqvAll]
  | l :: ls, h => by
    obtain ⟨h1, h2, h3⟩ := lay_strs ls fun x hx => h x (List.mem_cons_of_mem _ hx)
    simp [PyData.canLayAll0, PyData.depthAll, PyData.eqvAll, PyData.canLay0, PyData.depth, PyData.eqv, strOk_stem (h l (by simp)), h1, h2, h3]
theorem toPws_strs (rf : Nat → Option PyData) : ∀ ls : List (List Nat), toPws rf (strL ls) = some (ls.map fun l => PyData.str (mkS l))
  | [] => rfl
  | l :: ls => by
    have := toPws_strs rf ls
    simp only [strL, List.map_cons, toPws, toPw] at this ⊢
    rw [this]
theorem eq_strs {s : S} {a b : Nat} {ls : List (List Nat)} (ha : s[a]? = some (.lst (strL ls))) (hb : s[b]? = some (.lst (strL ls))) (h : ∀ l ∈ ls, stemL l = true) : eqD (.ref a) (.ref b) s = .ok (.bl true) s := by
  obtain ⟨h1, h2, h3⟩ := lay_strs ls h
  have t1 : toP s (.ref a) = some (.list (ls.map fun l => PyData.str (mkS l))) := by simp only [toP, toPw, rfN, lstAt, ha, Option.bind_some, toPws_strs, Option.map_some]
  have t2 : toP s (.ref b) = some (.list (ls.map fun l => PyData.str (mkS l))) := by simp only [toP, toPw, rfN, lstAt, hb, Option.bind_some, toPws_strs, Option.map_some]
  have sh : SeqAt.shaped (.list (ls.map fun l => PyData.str (mkS l))) = true := by
    simp only [SeqAt.shaped, PyData.canLay0, PyData.depth, h1, h2]
    decide
  simp only [eqD, eqB, scE, t1, t2, sh, Bool.and_self, if_true, PyData.eqv, h3]
theorem repr_found {s : S} : reprF [.tup [.str "stems", .int 6, .bl true]] s = .ok (.str (PyData.shown (.tuple [.str "stems", .int 6, .bool true]))) s :=
  repr_ok (by rfl) (by decide +kernel)
theorem joined_right_ok {s : S} {p c : Nat} {zs : List Int} {m : Int} (hP : Pool s p c zs m) (hm : m + 600 < 100000) :
    ∃ s' : S, f_l_joined_right [.ref p] s = .ok (.bl true) s' ∧ Pool s' p c zs (m + 210) ∧ Kp p s s' := by
  have start : f_l_joined_right [.ref p] s = fin (b_l_joined_right [some (.ref p), none, none, none, none, none, none, none, none] s) := rfl
  have pl := hP.pl
  have cl := hP.cl
  rw [start]
  unfold b_l_joined_right
  have e0 : b_l_joined_right_0 [some (.ref p), none, none, none, none, none, none, none, none] s = .nx [some (.ref p), some (.ref s.length), some (.ref (s.length + 1)), none, none, none, none, none, none] (s ++ [O.lst []] ++ [O.lst []]) := by
    have e := par_ok (i := 1) (j := 2) (ρ := [some (.ref p), none, none, none, none, none, none, none, none]) (cons_ok (lst_ok rfl z0) (cons_ok (lst_ok rfl z0) rfl) : (consA (lstE nilA) (consA (lstE nilA) nilA)) [some (.ref p), none, none, none, none, none, none, none, none] s = _)
    have hl : (s ++ [O.lst []]).length = s.length + 1 := by simp
    rw [hl] at e
    exact e
  rw [seq_nx e0]
  obtain ⟨v, s1, e1, v0, v1, hP1, k1⟩ := ladle_ok (n := 4) (hP.app.app (t := [O.lst []]) : Pool (s ++ [O.lst []] ++ [O.lst []]) p c zs m) (by omega) (by decide) (by decide)
  have hJ : J1 s p c zs (m + 1) 0 [some (.ref p), some (.ref s.length), some (.ref (s.length + 1)), none, none, none, none, none, none] s1 :=
    ⟨s.length, none, none, [], rfl, k1.at (by simp) (by omega), k1.at (by simp) (by omega), rfl, ⟨by simp⟩, hP1.le (by omega), (Kp.app.trans Kp.app).trans k1, Nat.le_refl _, by omega⟩
  obtain ⟨ρ2, s2, e2, a, o3, o4, gs, rfl, ha, hb, hgl, hg, hP2, k2, hal, hab⟩ := for_inv 4 (J1 s p c zs (m + 1)) (joined_step pl cl (by omega)) (intsL 0 (1 + v).toNat) 0 _ s1 (by rw [ints_len]; omega) hJ
  rw [ints_len] at hgl hP2
  have e3 : b_l_joined_right_1 [some (.ref p), some (.ref s.length), some (.ref (s.length + 1)), none, none, none, none, none, none] (s ++ [O.lst []] ++ [O.lst []]) = .nx [some (.ref p), some (.ref a), some (.ref (s.length + 1)), o3, o4, none, none, none, none] s2 :=
    for_ok (range1_ok (bin_ok rfl (call_ok rfl e1) rfl) (small_ok (by omega) (by omega))) e2
  rw [seq_nx e3]
  have e4 : b_l_joined_right_2 [some (.ref p), some (.ref a), some (.ref (s.length + 1)), o3, o4, none, none, none, none] s2 = .nx [some (.ref p), some (.ref a), some (.ref (s.length + 1)), o3, o4, some (.str ""), some (.tup []), none, none] s2 := by
    have e : (tupE (consA (conE (.str "")) (consA (tupE nilA) nilA))) [some (.ref p), some (.ref a), some (.ref (s.length + 1)), o3, o4, none, none, none, none] s2 = .ok (.tup [.str "", .tup []]) s2 := tup_ok (cons_ok rfl (cons_ok (tup_ok rfl z0) rfl)) z2
    simp only [b_l_joined_right_2, asgS, e, R.stm]
    rfl
  rw [seq_nx e4]
  have hlen : (strL (gs.map jn)).length = gs.length := by simp
  have lj := lj_ok (n := 0) hb (by rw [hlen]; omega) (by rw [hlen]; omega)
  rw [joined_ok (ls := gs.map jn) 39 hg.jnl (by simp; omega), jn_flat gs fun g hg' => by
    have := (hg.g g hg').1
    intro z; subst z; simp at this] at lj
  have hfl := hg.flat
  have hne : gs.flatten ≠ [] := by
    intro z
    cases gs with
    | nil => simp at hgl; omega
    | cons g gs =>
      have := (hg.g g (by simp)).1
      simp only [List.flatten_cons, List.append_eq_nil_iff] at z
      rw [z.1] at this
      simp at this
  have hsp : sp (jn gs.flatten) = gs.flatten := sp_jn hne fun x hx => no_dot (hfl x hx).1
  have hcount : (sp1 (jn gs.flatten)).2.length + 1 = gs.flatten.length := by
    have := congrArg List.length hsp
    simpa [sp] using this
  have hfll := hg.len
  have ln : (callE lenF (consA (varE 1) nilA)) = (callE lenF (consA (varE 1) nilA)) := rfl
  by_cases h6 : (sp1 (jn gs.flatten)).2.length < 6
  · rw [if_pos h6] at lj
    have e5 : b_l_joined_right_3 [some (.ref p), some (.ref a), some (.ref (s.length + 1)), o3, o4, some (.str ""), some (.tup []), none, none] s2 = .nx [some (.ref p), some (.ref a), some (.ref (s.length + 1)), o3, o4, some (.str (mkS (jn gs.flatten))), some (.tup []), none, none] s2 := by
      have e : (setS 5 (callE f_l_joined (consA (varE 2) nilA))) [some (.ref p), some (.ref a), some (.ref (s.length + 1)), o3, o4, some (.str ""), some (.tup []), none, none] s2 = .nx [some (.ref p), some (.ref a), some (.ref (s.length + 1)), o3, o4, some (.str (mkS (jn gs.flatten))), some (.tup []), none, none] s2 := set_ok (call_ok rfl lj)
      simp only [b_l_joined_right_3, tryS, e]
    rw [seq_nx e5]
    have hn : ¬ ((6 : Int) < (gs.flatten.length : Nat)) := by omega
    have le1 : lenF [.ref a] s2 = .ok (.int gs.flatten.length) s2 := by simp only [lenF, seqOf, ha, List.length_map]
    have gt : gtD (.int (gs.flatten.length : Int)) (.int 6) s2 = .ok (.bl false) s2 := by simp only [gtD, decide_eq_false hn]
    have e6 : b_l_joined_right_4 [some (.ref p), some (.ref a), some (.ref (s.length + 1)), o3, o4, some (.str (mkS (jn gs.flatten))), some (.tup []), none, none] s2 = .nx [some (.ref p), some (.ref a), some (.ref (s.length + 1)), o3, o4, some (.str (mkS (jn gs.flatten))), some (.tup []), none, none] s2 :=
      if_f (tst_ok (bin_ok (call_ok rfl le1) rfl gt)) rfl
    rw [seq_nx e6]
    have eq0 : eqD (.tup []) (.tup []) s2 = .ok (.bl true) s2 := by
      have sh : SeqAt.shaped (.tuple []) = true := by decide
      have t : toP s2 (.tup []) = some (.tuple []) := rfl
      have q : PyData.eqv (.tuple []) (.tuple []) = true := by simp [PyData.eqv, PyData.eqvAll]
      simp only [eqD, eqB, scE, t, sh, Bool.and_self, if_true, q]
    have hL : (jn gs.flatten).length ≤ 156 := by
      have := jn_len 12 gs.flatten fun l hl => (hfl l hl).2
      omega
    have sf : splitF [.str (mkS (jn gs.flatten)), .str "."] s2 = .ok (.ref s2.length) (s2 ++ [.lst (strL gs.flatten)]) := by
      have d1 : ((("." : String) : Tx).length == 0) = false := by decide +kernel
      have zz : szl ((jn gs.flatten).length + 2) = true := szlS (by omega)
      simp only [splitF, d1, len_mk, zz, Bool.not_true, Bool.or_self, Bool.false_eq_true, if_false, newL]
      rw [show (("." : String) : Tx) = dot from rfl, split_dots, hsp, List.map_map]
      rfl
    have al : a < s2.length := (List.getElem?_eq_some_iff.mp ha).1
    have eq1 : eqD (.ref s2.length) (.ref a) (s2 ++ [.lst (strL gs.flatten)]) = .ok (.bl true) (s2 ++ [.lst (strL gs.flatten)]) :=
      eq_strs (ls := gs.flatten) (by simp) (by rw [List.getElem?_append_left al]; exact ha) fun l hl => (hfl l hl).1
    have okn : okName (jn gs.flatten) = true := by
      unfold okName
      rw [decide_eq_true h6, Bool.true_and, hsp, List.all_eq_true]
      intro l hl
      unfold okStem
      rw [(hfl l hl).1, decide_eq_true (hfl l hl).2]
      rfl
    obtain ⟨t, en⟩ := is_name_str (jn gs.flatten) (s2 ++ [.lst (strL gs.flatten)]) (by omega)
    rw [okn] at en
    have e7 : b_l_joined_right_5 [some (.ref p), some (.ref a), some (.ref (s.length + 1)), o3, o4, some (.str (mkS (jn gs.flatten))), some (.tup []), none, none] s2 = .rt (.bl true) (s2 ++ [.lst (strL gs.flatten)] ++ t) :=
      ret_ok (andE_t (bin_ok rfl (tup_ok rfl z0) eq0) (andE_t (call_ok rfl (isa_ok (t := "str") rfl c_str)) (andE_t (bin_ok (meth_ok rfl rfl rfl sf) rfl eq1) (bin_ok (call_ok rfl en) rfl rfl))))
    rw [e7]
    exact ⟨_, rfl, hP2.app.app.le (by omega), (k2.trans Kp.app).trans Kp.app⟩
  · rw [if_neg h6] at lj
    have e5 : b_l_joined_right_3 [some (.ref p), some (.ref a), some (.ref (s.length + 1)), o3, o4, some (.str ""), some (.tup []), none, none] s2 = .nx [some (.ref p), some (.ref a), some (.ref (s.length + 1)), o3, o4, some (.str ""), some (.tup [.str "stems", .int 6, .bl true]), none, none] (s2 ++ [O.xd [("most", .int 6), ("what", .str "stems")], O.exh "TooMany" s2.length]) := by
      have e : (setS 5 (callE f_l_joined (consA (varE 2) nilA))) [some (.ref p), some (.ref a), some (.ref (s.length + 1)), o3, o4, some (.str ""), some (.tup []), none, none] s2 = .err "TooMany" [("most", .int 6), ("what", .str "stems")] [some (.ref p), some (.ref a), some (.ref (s.length + 1)), o3, o4, some (.str ""), some (.tup []), none, none] s2 := by
        simp only [setS, callE, consA, varE, nilA, R.bind, List.getElem?_cons_zero, List.getElem?_cons_succ, lj, R.stm]
      have lk1 : List.lookup (("TooMany" : String) : Tx) [((("TooMany" : String) : Tx), true)] = some true := by simp
      simp only [b_l_joined_right_3, tryS, e, lk1]
      have x1 : (s2 ++ [O.xd [((("most" : String) : Tx), .int 6), ((("what" : String) : Tx), .str "stems")], O.exh "TooMany" s2.length])[s2.length + 1]? = some (O.exh "TooMany" s2.length) := by simp
      have x0 : (s2 ++ [O.xd [((("most" : String) : Tx), .int 6), ((("what" : String) : Tx), .str "stems")], O.exh "TooMany" s2.length])[s2.length]? = some (O.xd [((("most" : String) : Tx), .int 6), ((("what" : String) : Tx), .str "stems")]) := by simp
      have f1 : List.lookup (("what" : String) : Tx) [((("most" : String) : Tx), D.int 6), ((("what" : String) : Tx), .str "stems")] = some (.str "stems") := by rw [lk, if_neg (by decide +kernel), lk, if_pos rfl]
      have f2 : List.lookup (("most" : String) : Tx) [((("most" : String) : Tx), D.int 6), ((("what" : String) : Tx), .str "stems")] = some (.int 6) := by rw [lk, if_pos rfl]
      have hin : (("TooMany" : String) : Tx) ∈ [(("TooMany" : String) : Tx)] := by simp
      have u1 : ∀ ρ : En, ρ[7]? = some (some (.ref (s2.length + 1))) → (xfE ["TooMany"] "what" (varE 7)) ρ (s2 ++ [O.xd [((("most" : String) : Tx), .int 6), ((("what" : String) : Tx), .str "stems")], O.exh "TooMany" s2.length]) = .ok (.str "stems") (s2 ++ [O.xd [((("most" : String) : Tx), .int 6), ((("what" : String) : Tx), .str "stems")], O.exh "TooMany" s2.length]) := fun ρ h => by
        simp only [xfE, varE, h, R.bind, x1, hin, if_true, x0, f1]
      have u2 : ∀ ρ : En, ρ[7]? = some (some (.ref (s2.length + 1))) → (xfE ["TooMany"] "most" (varE 7)) ρ (s2 ++ [O.xd [((("most" : String) : Tx), .int 6), ((("what" : String) : Tx), .str "stems")], O.exh "TooMany" s2.length]) = .ok (.int 6) (s2 ++ [O.xd [((("most" : String) : Tx), .int 6), ((("what" : String) : Tx), .str "stems")], O.exh "TooMany" s2.length]) := fun ρ h => by
        simp only [xfE, varE, h, R.bind, x1, hin, if_true, x0, f2]
      have lk2 : List.lookup ((("TooMany" : String) : Tx), (("SayError" : String) : Tx)) [(((("TooMany" : String) : Tx), (("SayError" : String) : Tx)), true)] = some true := by simp
      have u3 : isxF [(("TooMany", "SayError"), true)] [.ref (s2.length + 1), .gl "SayError"] (s2 ++ [O.xd [((("most" : String) : Tx), .int 6), ((("what" : String) : Tx), .str "stems")], O.exh "TooMany" s2.length]) = .ok (.bl true) (s2 ++ [O.xd [((("most" : String) : Tx), .int 6), ((("what" : String) : Tx), .str "stems")], O.exh "TooMany" s2.length]) := by
        simp only [isxF, x1, x0, lk2]
      have su : (setS 6 (tupE (consA (xfE ["TooMany"] "what" (varE 7)) (consA (xfE ["TooMany"] "most" (varE 7)) (consA (callE (isxF [(("TooMany", "SayError"), true)]) (consA (varE 7) (consA (conE (.gl "SayError")) nilA))) nilA))))) [some (.ref p), some (.ref a), some (.ref (s.length + 1)), o3, o4, some (.str ""), some (.tup []), some (.ref (s2.length + 1)), none] (s2 ++ [O.xd [((("most" : String) : Tx), .int 6), ((("what" : String) : Tx), .str "stems")], O.exh "TooMany" s2.length]) = .nx [some (.ref p), some (.ref a), some (.ref (s.length + 1)), o3, o4, some (.str ""), some (.tup [.str "stems", .int 6, .bl true]), some (.ref (s2.length + 1)), none] (s2 ++ [O.xd [((("most" : String) : Tx), .int 6), ((("what" : String) : Tx), .str "stems")], O.exh "TooMany" s2.length]) :=
        set_ok (tup_ok (cons_ok (u1 _ rfl) (cons_ok (u2 _ rfl) (cons_ok (call_ok rfl u3) rfl))) z3)
      exact congrArg (outS 7) su
    rw [seq_nx e5]
    generalize hs3 : s2 ++ [O.xd [((("most" : String) : Tx), .int 6), ((("what" : String) : Tx), .str "stems")], O.exh "TooMany" s2.length] = s3
    have hP3 : Pool s3 p c zs (m + 1 + 50 * ((0 : Nat) + (1 + v).toNat : Nat)) := by rw [← hs3]; exact hP2.app
    have k3 : Kp p s s3 := by rw [← hs3]; exact k2.trans Kp.app
    have al : a < s2.length := (List.getElem?_eq_some_iff.mp ha).1
    have ha3 : s3[a]? = some (.lst (strL gs.flatten)) := by rw [← hs3, List.getElem?_append_left al]; exact ha
    have hn : ((6 : Int) < (gs.flatten.length : Nat)) := by omega
    have le1 : lenF [.ref a] s3 = .ok (.int gs.flatten.length) s3 := by simp only [lenF, seqOf, ha3, List.length_map]
    have gt : gtD (.int (gs.flatten.length : Int)) (.int 6) s3 = .ok (.bl true) s3 := by simp only [gtD, decide_eq_true hn]
    have eqe : eqD (.str "") (.str "") s3 = .ok (.bl true) s3 := by rw [eq_str, beq_self_eq_true]
    have eqr : eqD (.str (PyData.shown (.tuple [.str "stems", .int 6, .bool true]))) (.str (PyData.shown (.tuple [.str "stems", .int 6, .bool true]))) s3 = .ok (.bl true) s3 := by rw [eq_str, beq_self_eq_true]
    have e6 : b_l_joined_right_4 [some (.ref p), some (.ref a), some (.ref (s.length + 1)), o3, o4, some (.str ""), some (.tup [.str "stems", .int 6, .bl true]), none, none] s3 = .rt (.bl true) s3 :=
      if_t (tst_ok (bin_ok (call_ok rfl le1) rfl gt)) (ret_ok (andE_t (bin_ok (call_ok rfl repr_found) (call_ok (cons_ok (tup_ok rfl z3) rfl) repr_found) eqr) (bin_ok rfl rfl eqe)))
    rw [seq_rt e6]
    exact ⟨_, rfl, hP3.le (by omega), k3⟩
/-! ### the law -/
def J2 (p c : Nat) (zs : List Int) (o : Option D) (k : Nat) (ρ : En) (s : S) : Prop := ∃ o2, ρ = [o, some (.ref p), o2] ∧ Pool s p c zs (400 * k)
theorem law_step {p c : Nat} {zs : List Int} {o : Option D} (k : Nat) (d : D) (ρ : En) (s : S) (hk : k < 9) (h : J2 p c zs o k ρ s) :
    ∃ ρ1 ρ' s', asg (.nm 2) d ρ = some ρ1 ∧ (seqS (ifS (orT (notT (truE (callE f_l_text_right (consA (varE 1) nilA)))) (notT (truE (callE f_l_number_right (consA (varE 1) nilA))))) (retS (conE (.bl false))) passS)
  (ifS (orT (notT (truE (callE f_l_odd_right (consA (varE 1) nilA)))) (notT (truE (callE f_l_joined_right (consA (varE 1) nilA))))) (retS (conE (.bl false))) passS)) ρ1 s = .nx ρ' s' ∧ J2 p c zs o (k + 1) ρ' s' := by
  obtain ⟨o2, rfl, hP⟩ := h
  obtain ⟨s1, e1, hP1, _⟩ := text_right_ok hP (by omega)
  obtain ⟨s2, e2, hP2, _⟩ := number_right_ok hP1 (by omega)
  obtain ⟨s3, e3, hP3, _⟩ := odd_right_ok hP2 (by omega)
  obtain ⟨s4, e4, hP4, _⟩ := joined_right_ok hP3 (by omega)
  refine ⟨_, [o, some (.ref p), some d], s4, rfl, ?_, some d, rfl, hP4.le (by omega)⟩
  exact (seq_nx (if_f (or_f (not_ok (tru_ok (call_ok rfl e1))) (not_ok (tru_ok (call_ok rfl e2)))) rfl)).trans (if_f (or_f (not_ok (tru_ok (call_ok rfl e3))) (not_ok (tru_ok (call_ok rfl e4)))) rfl)
theorem pool_ok (ns : List Int) (hl : ns.length ≤ 63) : f_l_pool [.fl (ns.map D.int)] [] = .ok (.ref 2) [.lst (ns.map D.int), .lst (ns.map D.int), .lst [.ref 1, .int 0, .int 0]] := by
  have start : f_l_pool [.fl (ns.map D.int)] [] = fin (b_l_pool [some (.fl (ns.map D.int)), none] []) := rfl
  have hc : cutD (ns.map D.int) none (some 63) = ns.map D.int := by
    have h63 : HT.sIx (ns.map D.int).length (ns.map D.int).length (some 63) = (ns.map D.int).length := by
      have := HT.sIx_nat (ns.map D.int).length (ns.map D.int).length 63
      rw [List.length_map] at this ⊢
      rw [show ((63 : Nat) : Int) = 63 from rfl] at this
      rw [this]
      omega
    unfold cutD
    rw [h63]
    show List.take ((ns.map D.int).length - 0) (List.drop 0 (ns.map D.int)) = _
    rw [List.drop_zero, Nat.sub_zero, List.take_length]
  have sl : (sliceE (varE 0) noO (someO (conE (.int 63)))) [some (.fl (ns.map D.int)), none] [] = .ok (.ref 0) [.lst (ns.map D.int)] := by
    show sliceD (.fl (ns.map D.int)) none (some 63) [] = _
    simp only [sliceD, hc, newL]
    rfl
  have it : (iterE (sliceE (varE 0) noO (someO (conE (.int 63))))) [some (.fl (ns.map D.int)), none] [] = .ok ⟨ns.map D.int, keepL 0 (ns.map D.int)⟩ [.lst (ns.map D.int)] := iter_ok sl rfl
  have run := lc_pure (keep := keepL 0 (ns.map D.int)) (i := 1) (e := callE intF (consA (varE 1) nilA)) (ρ := [some (.fl (ns.map D.int)), none]) (base := [.lst (ns.map D.int)]) id (ns.map D.int) [] (fun acc => by
      have e : lstAt ([O.lst (ns.map D.int)] ++ [O.lst acc]) 0 = some (ns.map D.int) := rfl
      simp only [keepL, e, D.sames_refl])
    (fun d hd s => by
      obtain ⟨i, _, rfl⟩ := List.mem_map.mp hd
      exact call_ok rfl rfl) (by simp; omega)
  rw [start]
  have e : b_l_pool [some (.fl (ns.map D.int)), none] [] = .rt (.ref 2) [.lst (ns.map D.int), .lst (ns.map D.int), .lst [.ref 1, .int 0, .int 0]] := by
    have r := lst_ok (cons_ok (lc_ok it run) (cons_ok rfl (cons_ok rfl rfl)) : (consA (lcE (iterE (sliceE (varE 0) noO (someO (conE (.int 63))))) [1] (.nm 1) yesT (callE intF (consA (varE 1) nilA))) (consA (conE (.int 0)) (consA (conE (.int 0)) nilA))) [some (.fl (ns.map D.int)), none] [] = _) z3
    have r2 := ret_ok r
    simp only [List.nil_append, List.map_id] at r2
    exact r2
  rw [e]
  rfl
theorem says (ns : List Int) (hl : ns.length ≤ 63) : Says f_law ns := by
  have start : f_law [.fl (ns.map D.int)] [] = fin (b_law [some (.fl (ns.map D.int)), none, none] []) := rfl
  have e0 : b_law_0 [some (.fl (ns.map D.int)), none, none] [] = .nx [some (.fl (ns.map D.int)), some (.ref 2), none] [.lst (ns.map D.int), .lst (ns.map D.int), .lst [.ref 1, .int 0, .int 0]] := set_ok (call_ok rfl (pool_ok ns hl))
  have hP : Pool [.lst (ns.map D.int), .lst (ns.map D.int), .lst [.ref 1, .int 0, .int 0]] 2 1 ns 0 := ⟨0, 0, rfl, rfl, by decide, by decide, by decide, by decide⟩
  obtain ⟨ρ', s', e1, o2, rfl, _⟩ := for_inv 9 (J2 2 1 ns (some (.fl (ns.map D.int)))) (fun k d ρ s hk h => law_step k d ρ s hk h) (intsL 0 9) 0 _ _ (by rw [ints_len]; decide) ⟨none, rfl, hP⟩
  have e2 : b_law_1 [some (.fl (ns.map D.int)), some (.ref 2), none] [.lst (ns.map D.int), .lst (ns.map D.int), .lst [.ref 1, .int 0, .int 0]] = .nx [some (.fl (ns.map D.int)), some (.ref 2), o2] s' :=
    for_ok (range1_ok rfl (small_ok (by decide) (by decide))) e1
  refine ⟨s', ?_⟩
  rw [start]
  unfold b_law
  rw [seq_nx e0, seq_nx e2]
  rfl
end K01

namespace K01
open PySem PySem.Spec PyProof.Rows L2 Ev
def txt_mk {K : PySem.W.Frag} {h : Heap} {mg : Str → Option Value} (X : K.In h) (G : h.Ns mainGlobals mg)
    {od_shown an_shown : Option Addr} {sl_shown : Array (Option Value)} {oc_shown kV_shown dc_shown pm_shown cd_shown ct_shown : Value} {f_shown : Addr} {C_SayError : Addr} {C_TooMany N_TooMany i_TooMany : Addr} {nm_TooMany q_TooMany : Str} {bs_TooMany : List Value} {sn_TooMany : List Str} {sub_TooMany : List Value} {ab_TooMany : Bool} {col_TooMany : Option Bool} {dd_TooMany : Option Addr} {m0_TooMany m1_TooMany m2_TooMany m3_TooMany m5_TooMany : Option Value} {od_TooMany an_TooMany : Option Addr} {sl_TooMany : Array (Option Value)} {oc_TooMany kV_TooMany dc_TooMany pm_TooMany cd_TooMany ct_TooMany : Value} {od_is_integer an_is_integer : Option Addr} {sl_is_integer : Array (Option Value)} {oc_is_integer kV_is_integer dc_is_integer pm_is_integer cd_is_integer ct_is_integer : Value} {f_is_integer : Addr} {od_is_within an_is_within : Option Addr} {sl_is_within : Array (Option Value)} {oc_is_within kV_is_within dc_is_within pm_is_within cd_is_within ct_is_within : Value} {f_is_within : Addr} {od_is_stem an_is_stem : Option Addr} {sl_is_stem : Array (Option Value)} {oc_is_stem kV_is_stem dc_is_stem pm_is_stem cd_is_stem ct_is_stem : Value} {f_is_stem : Addr} {od_is_name an_is_name : Option Addr} {sl_is_name : Array (Option Value)} {oc_is_name kV_is_name dc_is_name pm_is_name cd_is_name ct_is_name : Value} {f_is_name : Addr} {od_joined_name an_joined_name : Option Addr} {sl_joined_name : Array (Option Value)} {oc_joined_name kV_joined_name dc_joined_name pm_joined_name cd_joined_name ct_joined_name : Value} {f_joined_name : Addr} {od_l_pool an_l_pool : Option Addr} {sl_l_pool : Array (Option Value)} {oc_l_pool kV_l_pool dc_l_pool pm_l_pool cd_l_pool ct_l_pool : Value} {f_l_pool : Addr} {od_l_ladle an_l_ladle : Option Addr} {sl_l_ladle : Array (Option Value)} {oc_l_ladle kV_l_ladle dc_l_ladle pm_l_ladle cd_l_ladle ct_l_ladle : Value} {f_l_ladle : Addr} {od_l_of an_l_of : Option Addr} {sl_l_of : Array (Option Value)} {oc_l_of kV_l_of dc_l_of pm_l_of cd_l_of ct_l_of : Value} {f_l_of : Addr} {od_l_stem an_l_stem : Option Addr} {sl_l_stem : Array (Option Value)} {oc_l_stem kV_l_stem dc_l_stem pm_l_stem cd_l_stem ct_l_stem : Value} {f_l_stem : Addr} {od_l_bent an_l_bent : Option Addr} {sl_l_bent : Array (Option Value)} {oc_l_bent kV_l_bent dc_l_bent pm_l_bent cd_l_bent ct_l_bent : Value} {f_l_bent : Addr} {od_l_walked an_l_walked : Option Addr} {sl_l_walked : Array (Option Value)} {oc_l_walked kV_l_walked dc_l_walked pm_l_walked cd_l_walked ct_l_walked : Value} {f_l_walked : Addr} {od_l_text_right an_l_text_right : Option Addr} {sl_l_text_right : Array (Option Value)} {oc_l_text_right kV_l_text_right dc_l_text_right pm_l_text_right cd_l_text_right ct_l_text_right : Value} {f_l_text_right : Addr} {od_l_number_right an_l_number_right : Option Addr} {sl_l_number_right : Array (Option Value)} {oc_l_number_right kV_l_number_right dc_l_number_right pm_l_number_right cd_l_number_right ct_l_number_right : Value} {f_l_number_right : Addr} {od_l_odd_right an_l_odd_right : Option Addr} {sl_l_odd_right : Array (Option Value)} {oc_l_odd_right kV_l_odd_right dc_l_odd_right pm_l_odd_right cd_l_odd_right ct_l_odd_right : Value} {f_l_odd_right : Addr} {od_l_joined an_l_joined : Option Addr} {sl_l_joined : Array (Option Value)} {oc_l_joined kV_l_joined dc_l_joined pm_l_joined cd_l_joined ct_l_joined : Value} {f_l_joined : Addr} {od_l_joined_right an_l_joined_right : Option Addr} {sl_l_joined_right : Array (Option Value)} {oc_l_joined_right kV_l_joined_right dc_l_joined_right pm_l_joined_right cd_l_joined_right ct_l_joined_right : Value} {f_l_joined_right : Addr} {od_law an_law : Option Addr} {sl_law : Array (Option Value)} {oc_law kV_law dc_law pm_law cd_law ct_law : Value} {f_law : Addr} {tk_LONGEST_STEM : Tok} {tk_MOST_STEMS : Tok}
    (a_shown : PySem.W.nsIn K mainGlobals "_shown" = some (some (.ref f_shown)))
    (l_shown : K.lookup f_shown = some ⟨oc_shown, od_shown, .func (PySem.W.fnOf "_shown" "_shown" (defArgs (top 1)) (defBody (top 1)) (defScope (top 1)) .none kV_shown dc_shown pm_shown an_shown cd_shown ct_shown), sl_shown⟩)
    (c_shown : PySem.W.codeIn K cd_shown "_shown" = true)
    (k_shown : PySem.W.keepIn K (.ref f_shown) = true)
    (a_SayError : PySem.W.nsIn K mainGlobals "SayError" = some (some (.ref C_SayError)))
    (sp_SayError : PySem.W.specialIn K (.ref C_SayError) "__getattribute__" = some (some (.builtin "type.__getattribute__")))
    (rd_SayError : PySem.W.readsIn K C_SayError (.type "type") = true)
    (v_SayError : PySem.W.findCls K (.ref C_SayError) (.type "type") "__init__" = some (.val (.builtin "ValueError.__init__")))
    (a_TooMany : PySem.W.nsIn K mainGlobals "TooMany" = some (some (.ref C_TooMany)))
    (x_TooMany : K.lookup C_TooMany = some (excClassObj nm_TooMany q_TooMany C_TooMany N_TooMany bs_TooMany [.ref C_SayError, .type "ValueError", .type "Exception", .type "BaseException", .type "object"] true sn_TooMany sub_TooMany ab_TooMany col_TooMany dd_TooMany m0_TooMany m1_TooMany m2_TooMany m3_TooMany m5_TooMany "ValueError.__new__"))
    (sa_TooMany : PySem.W.findIn K (.ref C_TooMany) "__setattr__" = some (some (.builtin "object.__setattr__")))
    (ga_TooMany : PySem.W.findIn K (.ref C_TooMany) "__getattribute__" = some (some (.builtin "BaseException.__getattribute__")))
    (gg_TooMany : PySem.W.findIn K (.ref C_TooMany) "__getattr__" = some none)
    (n_TooMany_what : PySem.W.findIn K (.ref C_TooMany) "what" = some none)
    (n_TooMany_most : PySem.W.findIn K (.ref C_TooMany) "most" = some none)
    (i1_TooMany : PySem.W.findIn K (.ref C_TooMany) "__init__" = some (some (.ref i_TooMany)))
    (i2_TooMany : PySem.W.typeIn K (.ref i_TooMany) = some (.type "function"))
    (l_TooMany : K.lookup i_TooMany = some ⟨oc_TooMany, od_TooMany, .func (PySem.W.fnOf "__init__" "TooMany.__init__" (defArgs ((clsBody (top 3)).getD 0 (.Pass ⟨0, 0, 0, 0⟩))) (defBody ((clsBody (top 3)).getD 0 (.Pass ⟨0, 0, 0, 0⟩))) (defScope ((clsBody (top 3)).getD 0 (.Pass ⟨0, 0, 0, 0⟩))) .none kV_TooMany dc_TooMany pm_TooMany an_TooMany cd_TooMany ct_TooMany), sl_TooMany⟩)
    (c_TooMany : PySem.W.codeIn K cd_TooMany "TooMany.__init__" = true)
    (ki_TooMany : PySem.W.keepIn K (.ref i_TooMany) = true)
    (kc_TooMany : PySem.W.keepIn K (.ref C_TooMany) = true)
    (e_TooMany : PySem.W.subIn K (.ref C_TooMany) (.type "BaseException") = some true)
    (t_TooMany : PySem.W.typeIn K (.ref C_TooMany) = some (.type "type"))
    (h_TooMany : PySem.W.hasDictIn K C_TooMany = true)
    (s_TooMany : PySem.W.subIn K (.ref C_TooMany) (.ref C_TooMany) = some true)
    (cl_TooMany : PySem.W.findIn K (.ref C_TooMany) "__class__" = some (some (.builtin "object.__class__")))
    (m_TooMany : PySem.W.mroIn K C_TooMany (.type "object") = some true)
    (a_is_integer : PySem.W.nsIn K mainGlobals "is_integer" = some (some (.ref f_is_integer)))
    (l_is_integer : K.lookup f_is_integer = some ⟨oc_is_integer, od_is_integer, .func (PySem.W.fnOf "is_integer" "is_integer" (defArgs (top 7)) (defBody (top 7)) (defScope (top 7)) .none kV_is_integer dc_is_integer pm_is_integer an_is_integer cd_is_integer ct_is_integer), sl_is_integer⟩)
    (c_is_integer : PySem.W.codeIn K cd_is_integer "is_integer" = true)
    (k_is_integer : PySem.W.keepIn K (.ref f_is_integer) = true)
    (a_is_within : PySem.W.nsIn K mainGlobals "is_within" = some (some (.ref f_is_within)))
    (l_is_within : K.lookup f_is_within = some ⟨oc_is_within, od_is_within, .func (PySem.W.fnOf "is_within" "is_within" (defArgs (top 8)) (defBody (top 8)) (defScope (top 8)) .none kV_is_within dc_is_within pm_is_within an_is_within cd_is_within ct_is_within), sl_is_within⟩)
    (c_is_within : PySem.W.codeIn K cd_is_within "is_within" = true)
    (k_is_within : PySem.W.keepIn K (.ref f_is_within) = true)
    (a_is_stem : PySem.W.nsIn K mainGlobals "is_stem" = some (some (.ref f_is_stem)))
    (l_is_stem : K.lookup f_is_stem = some ⟨oc_is_stem, od_is_stem, .func (PySem.W.fnOf "is_stem" "is_stem" (defArgs (top 9)) (defBody (top 9)) (defScope (top 9)) .none kV_is_stem dc_is_stem pm_is_stem an_is_stem cd_is_stem ct_is_stem), sl_is_stem⟩)
    (c_is_stem : PySem.W.codeIn K cd_is_stem "is_stem" = true)
    (k_is_stem : PySem.W.keepIn K (.ref f_is_stem) = true)
    (a_is_name : PySem.W.nsIn K mainGlobals "is_name" = some (some (.ref f_is_name)))
    (l_is_name : K.lookup f_is_name = some ⟨oc_is_name, od_is_name, .func (PySem.W.fnOf "is_name" "is_name" (defArgs (top 10)) (defBody (top 10)) (defScope (top 10)) .none kV_is_name dc_is_name pm_is_name an_is_name cd_is_name ct_is_name), sl_is_name⟩)
    (c_is_name : PySem.W.codeIn K cd_is_name "is_name" = true)
    (k_is_name : PySem.W.keepIn K (.ref f_is_name) = true)
    (a_joined_name : PySem.W.nsIn K mainGlobals "joined_name" = some (some (.ref f_joined_name)))
    (l_joined_name : K.lookup f_joined_name = some ⟨oc_joined_name, od_joined_name, .func (PySem.W.fnOf "joined_name" "joined_name" (defArgs (top 11)) (defBody (top 11)) (defScope (top 11)) .none kV_joined_name dc_joined_name pm_joined_name an_joined_name cd_joined_name ct_joined_name), sl_joined_name⟩)
    (c_joined_name : PySem.W.codeIn K cd_joined_name "joined_name" = true)
    (k_joined_name : PySem.W.keepIn K (.ref f_joined_name) = true)
    (a_l_pool : PySem.W.nsIn K mainGlobals "_law_pool" = some (some (.ref f_l_pool)))
    (l_l_pool : K.lookup f_l_pool = some ⟨oc_l_pool, od_l_pool, .func (PySem.W.fnOf "_law_pool" "_law_pool" (defArgs (top 13)) (defBody (top 13)) (defScope (top 13)) .none kV_l_pool dc_l_pool pm_l_pool an_l_pool cd_l_pool ct_l_pool), sl_l_pool⟩)
    (c_l_pool : PySem.W.codeIn K cd_l_pool "_law_pool" = true)
    (k_l_pool : PySem.W.keepIn K (.ref f_l_pool) = true)
    (a_l_ladle : PySem.W.nsIn K mainGlobals "_law_ladle" = some (some (.ref f_l_ladle)))
    (l_l_ladle : K.lookup f_l_ladle = some ⟨oc_l_ladle, od_l_ladle, .func (PySem.W.fnOf "_law_ladle" "_law_ladle" (defArgs (top 14)) (defBody (top 14)) (defScope (top 14)) .none kV_l_ladle dc_l_ladle pm_l_ladle an_l_ladle cd_l_ladle ct_l_ladle), sl_l_ladle⟩)
    (c_l_ladle : PySem.W.codeIn K cd_l_ladle "_law_ladle" = true)
    (k_l_ladle : PySem.W.keepIn K (.ref f_l_ladle) = true)
    (a_l_of : PySem.W.nsIn K mainGlobals "_law_of" = some (some (.ref f_l_of)))
    (l_l_of : K.lookup f_l_of = some ⟨oc_l_of, od_l_of, .func (PySem.W.fnOf "_law_of" "_law_of" (defArgs (top 15)) (defBody (top 15)) (defScope (top 15)) .none kV_l_of dc_l_of pm_l_of an_l_of cd_l_of ct_l_of), sl_l_of⟩)
    (c_l_of : PySem.W.codeIn K cd_l_of "_law_of" = true)
    (k_l_of : PySem.W.keepIn K (.ref f_l_of) = true)
    (a_l_stem : PySem.W.nsIn K mainGlobals "_law_stem" = some (some (.ref f_l_stem)))
    (l_l_stem : K.lookup f_l_stem = some ⟨oc_l_stem, od_l_stem, .func (PySem.W.fnOf "_law_stem" "_law_stem" (defArgs (top 16)) (defBody (top 16)) (defScope (top 16)) .none kV_l_stem dc_l_stem pm_l_stem an_l_stem cd_l_stem ct_l_stem), sl_l_stem⟩)
    (c_l_stem : PySem.W.codeIn K cd_l_stem "_law_stem" = true)
    (k_l_stem : PySem.W.keepIn K (.ref f_l_stem) = true)
    (a_l_bent : PySem.W.nsIn K mainGlobals "_law_bent" = some (some (.ref f_l_bent)))
    (l_l_bent : K.lookup f_l_bent = some ⟨oc_l_bent, od_l_bent, .func (PySem.W.fnOf "_law_bent" "_law_bent" (defArgs (top 17)) (defBody (top 17)) (defScope (top 17)) .none kV_l_bent dc_l_bent pm_l_bent an_l_bent cd_l_bent ct_l_bent), sl_l_bent⟩)
    (c_l_bent : PySem.W.codeIn K cd_l_bent "_law_bent" = true)
    (k_l_bent : PySem.W.keepIn K (.ref f_l_bent) = true)
    (a_l_walked : PySem.W.nsIn K mainGlobals "_law_walked" = some (some (.ref f_l_walked)))
    (l_l_walked : K.lookup f_l_walked = some ⟨oc_l_walked, od_l_walked, .func (PySem.W.fnOf "_law_walked" "_law_walked" (defArgs (top 18)) (defBody (top 18)) (defScope (top 18)) .none kV_l_walked dc_l_walked pm_l_walked an_l_walked cd_l_walked ct_l_walked), sl_l_walked⟩)
    (c_l_walked : PySem.W.codeIn K cd_l_walked "_law_walked" = true)
    (k_l_walked : PySem.W.keepIn K (.ref f_l_walked) = true)
    (a_l_text_right : PySem.W.nsIn K mainGlobals "_law_text_right" = some (some (.ref f_l_text_right)))
    (l_l_text_right : K.lookup f_l_text_right = some ⟨oc_l_text_right, od_l_text_right, .func (PySem.W.fnOf "_law_text_right" "_law_text_right" (defArgs (top 19)) (defBody (top 19)) (defScope (top 19)) .none kV_l_text_right dc_l_text_right pm_l_text_right an_l_text_right cd_l_text_right ct_l_text_right), sl_l_text_right⟩)
    (c_l_text_right : PySem.W.codeIn K cd_l_text_right "_law_text_right" = true)
    (k_l_text_right : PySem.W.keepIn K (.ref f_l_text_right) = true)
    (a_l_number_right : PySem.W.nsIn K mainGlobals "_law_number_right" = some (some (.ref f_l_number_right)))
    (l_l_number_right : K.lookup f_l_number_right = some ⟨oc_l_number_right, od_l_number_right, .func (PySem.W.fnOf "_law_number_right" "_law_number_right" (defArgs (top 20)) (defBody (top 20)) (defScope (top 20)) .none kV_l_number_right dc_l_number_right pm_l_number_right an_l_number_right cd_l_number_right ct_l_number_right), sl_l_number_right⟩)
    (c_l_number_right : PySem.W.codeIn K cd_l_number_right "_law_number_right" = true)
    (k_l_number_right : PySem.W.keepIn K (.ref f_l_number_right) = true)
    (a_l_odd_right : PySem.W.nsIn K mainGlobals "_law_odd_right" = some (some (.ref f_l_odd_right)))
    (l_l_odd_right : K.lookup f_l_odd_right = some ⟨oc_l_odd_right, od_l_odd_right, .func (PySem.W.fnOf "_law_odd_right" "_law_odd_right" (defArgs (top 21)) (defBody (top 21)) (defScope (top 21)) .none kV_l_odd_right dc_l_odd_right pm_l_odd_right an_l_odd_right cd_l_odd_right ct_l_odd_right), sl_l_odd_right⟩)
    (c_l_odd_right : PySem.W.codeIn K cd_l_odd_right "_law_odd_right" = true)
    (k_l_odd_right : PySem.W.keepIn K (.ref f_l_odd_right) = true)
    (a_l_joined : PySem.W.nsIn K mainGlobals "_law_joined" = some (some (.ref f_l_joined)))
    (l_l_joined : K.lookup f_l_joined = some ⟨oc_l_joined, od_l_joined, .func (PySem.W.fnOf "_law_joined" "_law_joined" (defArgs (top 22)) (defBody (top 22)) (defScope (top 22)) .none kV_l_joined dc_l_joined pm_l_joined an_l_joined cd_l_joined ct_l_joined), sl_l_joined⟩)
    (c_l_joined : PySem.W.codeIn K cd_l_joined "_law_joined" = true)
    (k_l_joined : PySem.W.keepIn K (.ref f_l_joined) = true)
    (a_l_joined_right : PySem.W.nsIn K mainGlobals "_law_joined_right" = some (some (.ref f_l_joined_right)))
    (l_l_joined_right : K.lookup f_l_joined_right = some ⟨oc_l_joined_right, od_l_joined_right, .func (PySem.W.fnOf "_law_joined_right" "_law_joined_right" (defArgs (top 23)) (defBody (top 23)) (defScope (top 23)) .none kV_l_joined_right dc_l_joined_right pm_l_joined_right an_l_joined_right cd_l_joined_right ct_l_joined_right), sl_l_joined_right⟩)
    (c_l_joined_right : PySem.W.codeIn K cd_l_joined_right "_law_joined_right" = true)
    (k_l_joined_right : PySem.W.keepIn K (.ref f_l_joined_right) = true)
    (a_law : PySem.W.nsIn K mainGlobals "law" = some (some (.ref f_law)))
    (l_law : K.lookup f_law = some ⟨oc_law, od_law, .func (PySem.W.fnOf "law" "law" (defArgs (top 24)) (defBody (top 24)) (defScope (top 24)) .none kV_law dc_law pm_law an_law cd_law ct_law), sl_law⟩)
    (c_law : PySem.W.codeIn K cd_law "law" = true)
    (k_law : PySem.W.keepIn K (.ref f_law) = true)
    (gs1 : PySem.W.specialIn K (.builtin "object.__class__") "__get__" = some (some (.builtin "getset_descriptor.__get__")))
    (gs2 : PySem.W.takesIn K (.builtin "object.__class__") = some true)
    (kb1_TooMany : PySem.W.isClsIn K C_SayError = true)
    (kb2_TooMany : PySem.W.typeIn K (.ref C_SayError) = some (.type "type"))
    (kb3_TooMany : PySem.W.subIn K (.ref C_TooMany) (.ref C_SayError) = some true)
    (b_abs : PySem.W.nsIn K mainGlobals "abs" = some none)
    (b_all : PySem.W.nsIn K mainGlobals "all" = some none)
    (b_bool : PySem.W.nsIn K mainGlobals "bool" = some none)
    (b_int : PySem.W.nsIn K mainGlobals "int" = some none)
    (b_isinstance : PySem.W.nsIn K mainGlobals "isinstance" = some none)
    (b_len : PySem.W.nsIn K mainGlobals "len" = some none)
    (b_max : PySem.W.nsIn K mainGlobals "max" = some none)
    (b_range : PySem.W.nsIn K mainGlobals "range" = some none)
    (b_repr : PySem.W.nsIn K mainGlobals "repr" = some none)
    (b_str : PySem.W.nsIn K mainGlobals "str" = some none)
    (z_LONGEST_STEM : PySem.W.nsIn K mainGlobals "LONGEST_STEM" = some (some (.int 12 tk_LONGEST_STEM)))
    (z_MOST_STEMS : PySem.W.nsIn K mainGlobals "MOST_STEMS" = some (some (.int 6 tk_MOST_STEMS))) : Txt K mg where
  d_shown := ⟨_, _, PySem.W.mg_of X G a_shown, fun_mk l_shown c_shown k_shown, (fun_mk (st := (top 1)) l_shown c_shown k_shown).binds fun _ _ _ _ _ _ us hl => match us, hl with | [_], _ => rfl⟩
  a_SayError := C_SayError
  C_SayError := ⟨PySem.W.mg_of X G a_SayError, sp_SayError, rd_SayError, v_SayError⟩
  a_TooMany := C_TooMany
  C_TooMany := { gC := PySem.W.mg_of X G a_TooMany, T := ⟨⟨_, _, _, _, _, _, _, _, _, _, _, _, _, _, _, x_TooMany, rfl⟩, sa_TooMany, e_TooMany, t_TooMany, kc_TooMany⟩, no := (fun f hf => by simp only [List.mem_cons, List.not_mem_nil, or_false] at hf; rcases hf with rfl | rfl <;> assumption), ini := ⟨_, _, i1_TooMany, i2_TooMany, fun_mk (st := ((clsBody (top 3)).getD 0 (.Pass ⟨0, 0, 0, 0⟩))) l_TooMany c_TooMany ki_TooMany, (fun_mk (st := ((clsBody (top 3)).getD 0 (.Pass ⟨0, 0, 0, 0⟩))) l_TooMany c_TooMany ki_TooMany).binds fun _ _ _ _ _ _ us hl => match us, hl with | [_, _, _], _ => rfl⟩, X := ⟨ga_TooMany, gg_TooMany, e_TooMany, h_TooMany, cl_TooMany, gs1, gs2, m_TooMany⟩ }
  e_TooMany := PySem.W.exm_ref e_TooMany h_TooMany t_TooMany s_TooMany
  d_is_integer := ⟨_, _, PySem.W.mg_of X G a_is_integer, fun_mk l_is_integer c_is_integer k_is_integer, (fun_mk (st := (top 7)) l_is_integer c_is_integer k_is_integer).binds fun _ _ _ _ _ _ us hl => match us, hl with | [_], _ => rfl⟩
  d_is_within := ⟨_, _, PySem.W.mg_of X G a_is_within, fun_mk l_is_within c_is_within k_is_within, (fun_mk (st := (top 8)) l_is_within c_is_within k_is_within).binds fun _ _ _ _ _ _ us hl => match us, hl with | [_, _, _], _ => rfl⟩
  d_is_stem := ⟨_, _, PySem.W.mg_of X G a_is_stem, fun_mk l_is_stem c_is_stem k_is_stem, (fun_mk (st := (top 9)) l_is_stem c_is_stem k_is_stem).binds fun _ _ _ _ _ _ us hl => match us, hl with | [_], _ => rfl⟩
  d_is_name := ⟨_, _, PySem.W.mg_of X G a_is_name, fun_mk l_is_name c_is_name k_is_name, (fun_mk (st := (top 10)) l_is_name c_is_name k_is_name).binds fun _ _ _ _ _ _ us hl => match us, hl with | [_], _ => rfl⟩
  d_joined_name := ⟨_, _, PySem.W.mg_of X G a_joined_name, fun_mk l_joined_name c_joined_name k_joined_name⟩
  d_l_pool := ⟨_, _, PySem.W.mg_of X G a_l_pool, fun_mk l_l_pool c_l_pool k_l_pool, (fun_mk (st := (top 13)) l_l_pool c_l_pool k_l_pool).binds fun _ _ _ _ _ _ us hl => match us, hl with | [_], _ => rfl⟩
  d_l_ladle := ⟨_, _, PySem.W.mg_of X G a_l_ladle, fun_mk l_l_ladle c_l_ladle k_l_ladle, (fun_mk (st := (top 14)) l_l_ladle c_l_ladle k_l_ladle).binds fun _ _ _ _ _ _ us hl => match us, hl with | [_, _], _ => rfl⟩
  d_l_of := ⟨_, _, PySem.W.mg_of X G a_l_of, fun_mk l_l_of c_l_of k_l_of, (fun_mk (st := (top 15)) l_l_of c_l_of k_l_of).binds fun _ _ _ _ _ _ us hl => match us, hl with | [_, _], _ => rfl⟩
  d_l_stem := ⟨_, _, PySem.W.mg_of X G a_l_stem, fun_mk l_l_stem c_l_stem k_l_stem, (fun_mk (st := (top 16)) l_l_stem c_l_stem k_l_stem).binds fun _ _ _ _ _ _ us hl => match us, hl with | [_, _], _ => rfl⟩
  d_l_bent := ⟨_, _, PySem.W.mg_of X G a_l_bent, fun_mk l_l_bent c_l_bent k_l_bent, (fun_mk (st := (top 17)) l_l_bent c_l_bent k_l_bent).binds fun _ _ _ _ _ _ us hl => match us, hl with | [_, _], _ => rfl⟩
  d_l_walked := ⟨_, _, PySem.W.mg_of X G a_l_walked, fun_mk l_l_walked c_l_walked k_l_walked, (fun_mk (st := (top 18)) l_l_walked c_l_walked k_l_walked).binds fun _ _ _ _ _ _ us hl => match us, hl with | [_], _ => rfl⟩
  d_l_text_right := ⟨_, _, PySem.W.mg_of X G a_l_text_right, fun_mk l_l_text_right c_l_text_right k_l_text_right, (fun_mk (st := (top 19)) l_l_text_right c_l_text_right k_l_text_right).binds fun _ _ _ _ _ _ us hl => match us, hl with | [_], _ => rfl⟩
  d_l_number_right := ⟨_, _, PySem.W.mg_of X G a_l_number_right, fun_mk l_l_number_right c_l_number_right k_l_number_right, (fun_mk (st := (top 20)) l_l_number_right c_l_number_right k_l_number_right).binds fun _ _ _ _ _ _ us hl => match us, hl with | [_], _ => rfl⟩
  d_l_odd_right := ⟨_, _, PySem.W.mg_of X G a_l_odd_right, fun_mk l_l_odd_right c_l_odd_right k_l_odd_right, (fun_mk (st := (top 21)) l_l_odd_right c_l_odd_right k_l_odd_right).binds fun _ _ _ _ _ _ us hl => match us, hl with | [_], _ => rfl⟩
  d_l_joined := ⟨_, _, PySem.W.mg_of X G a_l_joined, fun_mk l_l_joined c_l_joined k_l_joined, (fun_mk (st := (top 22)) l_l_joined c_l_joined k_l_joined).binds fun _ _ _ _ _ _ us hl => match us, hl with | [_], _ => rfl⟩
  d_l_joined_right := ⟨_, _, PySem.W.mg_of X G a_l_joined_right, fun_mk l_l_joined_right c_l_joined_right k_l_joined_right, (fun_mk (st := (top 23)) l_l_joined_right c_l_joined_right k_l_joined_right).binds fun _ _ _ _ _ _ us hl => match us, hl with | [_], _ => rfl⟩
  d_law := ⟨_, _, PySem.W.mg_of X G a_law, fun_mk l_law c_law k_law, (fun_mk (st := (top 24)) l_law c_law k_law).binds fun _ _ _ _ _ _ us hl => match us, hl with | [_], _ => rfl⟩
  k_TooMany_SayError := kit_own kb1_TooMany kb2_TooMany kb3_TooMany
  b_abs := PySem.W.mg_none_of X G b_abs
  b_all := PySem.W.mg_none_of X G b_all
  b_bool := PySem.W.mg_none_of X G b_bool
  b_int := PySem.W.mg_none_of X G b_int
  b_isinstance := PySem.W.mg_none_of X G b_isinstance
  b_len := PySem.W.mg_none_of X G b_len
  b_max := PySem.W.mg_none_of X G b_max
  b_range := PySem.W.mg_none_of X G b_range
  b_repr := PySem.W.mg_none_of X G b_repr
  b_str := PySem.W.mg_none_of X G b_str
  c_LONGEST_STEM := ⟨_, PySem.W.mg_of X G z_LONGEST_STEM⟩
  c_MOST_STEMS := ⟨_, PySem.W.mg_of X G z_MOST_STEMS⟩
end K01
open PySem PySem.W PyProof.Rows
set_option maxRecDepth 100000 in
set_option maxHeartbeats 0 in
theorem PySem.Challenge.cw_sayable_k01_names_taken_apart_holds : PySem.Challenge.rw_sayable_k01_names_taken_apart.Holds := by
  w_on; o_law; k_head; (case hw => w_witness2)
  k_fill
  refine Ev.lawWalk (l := PySem.Challenge.rw_sayable_k01_names_taken_apart) (n := 63) (k := 7) rfl (by decide) rfl ⟨⟨rfl, by decide, by decide⟩, rfl⟩ (fun w h Y => PySem.W.kIn_of Y) ?F (fun ns hl => K01.says ns hl)
  case F =>
    intro w mg h KX G base _ _
    refine' K01.ok_law (K01.txt_mk KX G ?a_shown ?l_shown ?c_shown ?k_shown ?a_SayError ?sp_SayError ?rd_SayError ?v_SayError ?a_TooMany ?x_TooMany ?sa_TooMany ?ga_TooMany ?gg_TooMany ?n_TooMany_what ?n_TooMany_most ?i1_TooMany ?i2_TooMany ?l_TooMany ?c_TooMany ?ki_TooMany ?kc_TooMany ?e_TooMany ?t_TooMany ?h_TooMany ?s_TooMany ?cl_TooMany ?m_TooMany ?a_is_integer ?l_is_integer ?c_is_integer ?k_is_integer ?a_is_within ?l_is_within ?c_is_within ?k_is_within ?a_is_stem ?l_is_stem ?c_is_stem ?k_is_stem ?a_is_name ?l_is_name ?c_is_name ?k_is_name ?a_joined_name ?l_joined_name ?c_joined_name ?k_joined_name ?a_l_pool ?l_l_pool ?c_l_pool ?k_l_pool ?a_l_ladle ?l_l_ladle ?c_l_ladle ?k_l_ladle ?a_l_of ?l_l_of ?c_l_of ?k_l_of ?a_l_stem ?l_l_stem ?c_l_stem ?k_l_stem ?a_l_bent ?l_l_bent ?c_l_bent ?k_l_bent ?a_l_walked ?l_l_walked ?c_l_walked ?k_l_walked ?a_l_text_right ?l_l_text_right ?c_l_text_right ?k_l_text_right ?a_l_number_right ?l_l_number_right ?c_l_number_right ?k_l_number_right ?a_l_odd_right ?l_l_odd_right ?c_l_odd_right ?k_l_odd_right ?a_l_joined ?l_l_joined ?c_l_joined ?k_l_joined ?a_l_joined_right ?l_l_joined_right ?c_l_joined_right ?k_l_joined_right ?a_law ?l_law ?c_law ?k_law ?gs1 ?gs2 ?kb1_TooMany ?kb2_TooMany ?kb3_TooMany ?b_abs ?b_all ?b_bool ?b_int ?b_isinstance ?b_len ?b_max ?b_range ?b_repr ?b_str ?z_LONGEST_STEM ?z_MOST_STEMS)
    (case a_shown => k_is)
    (case l_shown => k_is)
    (case c_shown => k_is)
    (case k_shown => k_is)
    (case a_SayError => k_is)
    (case sp_SayError => k_is)
    (case rd_SayError => k_is)
    (case v_SayError => k_is)
    (case a_TooMany => k_is)
    (case x_TooMany => k_is)
    (case sa_TooMany => k_is)
    (case ga_TooMany => k_is)
    (case gg_TooMany => k_is)
    (case n_TooMany_what => k_is)
    (case n_TooMany_most => k_is)
    (case i1_TooMany => k_is)
    (case i2_TooMany => k_is)
    (case l_TooMany => k_is)
    (case c_TooMany => k_is)
    (case ki_TooMany => k_is)
    (case kc_TooMany => k_is)
    (case e_TooMany => k_is)
    (case t_TooMany => k_is)
    (case h_TooMany => k_is)
    (case s_TooMany => k_is)
    (case cl_TooMany => k_is)
    (case m_TooMany => k_is)
    (case a_is_integer => k_is)
    (case l_is_integer => k_is)
    (case c_is_integer => k_is)
    (case k_is_integer => k_is)
    (case a_is_within => k_is)
    (case l_is_within => k_is)
    (case c_is_within => k_is)
    (case k_is_within => k_is)
    (case a_is_stem => k_is)
    (case l_is_stem => k_is)
    (case c_is_stem => k_is)
    (case k_is_stem => k_is)
    (case a_is_name => k_is)
    (case l_is_name => k_is)
    (case c_is_name => k_is)
    (case k_is_name => k_is)
    (case a_joined_name => k_is)
    (case l_joined_name => k_is)
    (case c_joined_name => k_is)
    (case k_joined_name => k_is)
    (case a_l_pool => k_is)
    (case l_l_pool => k_is)
    (case c_l_pool => k_is)
    (case k_l_pool => k_is)
    (case a_l_ladle => k_is)
    (case l_l_ladle => k_is)
    (case c_l_ladle => k_is)
    (case k_l_ladle => k_is)
    (case a_l_of => k_is)
    (case l_l_of => k_is)
    (case c_l_of => k_is)
    (case k_l_of => k_is)
    (case a_l_stem => k_is)
    (case l_l_stem => k_is)
    (case c_l_stem => k_is)
    (case k_l_stem => k_is)
    (case a_l_bent => k_is)
    (case l_l_bent => k_is)
    (case c_l_bent => k_is)
    (case k_l_bent => k_is)
    (case a_l_walked => k_is)
    (case l_l_walked => k_is)
    (case c_l_walked => k_is)
    (case k_l_walked => k_is)
    (case a_l_text_right => k_is)
    (case l_l_text_right => k_is)
    (case c_l_text_right => k_is)
    (case k_l_text_right => k_is)
    (case a_l_number_right => k_is)
    (case l_l_number_right => k_is)
    (case c_l_number_right => k_is)
    (case k_l_number_right => k_is)
    (case a_l_odd_right => k_is)
    (case l_l_odd_right => k_is)
    (case c_l_odd_right => k_is)
    (case k_l_odd_right => k_is)
    (case a_l_joined => k_is)
    (case l_l_joined => k_is)
    (case c_l_joined => k_is)
    (case k_l_joined => k_is)
    (case a_l_joined_right => k_is)
    (case l_l_joined_right => k_is)
    (case c_l_joined_right => k_is)
    (case k_l_joined_right => k_is)
    (case a_law => k_is)
    (case l_law => k_is)
    (case c_law => k_is)
    (case k_law => k_is)
    (case gs1 => k_is)
    (case gs2 => k_is)
    (case kb1_TooMany => k_is)
    (case kb2_TooMany => k_is)
    (case kb3_TooMany => k_is)
    (case b_abs => k_is)
    (case b_all => k_is)
    (case b_bool => k_is)
    (case b_int => k_is)
    (case b_isinstance => k_is)
    (case b_len => k_is)
    (case b_max => k_is)
    (case b_range => k_is)
    (case b_repr => k_is)
    (case b_str => k_is)
    (case z_LONGEST_STEM => k_is)
    (case z_MOST_STEMS => k_is)
