import PyProof.Rows.All
import Wide.All
import OpenK.AllK
import Wide.FinOn
import HandS.ForMost
import HandS.ForExc
import HandS.ExcInit
import HandS.Star
import HandS.IsInst
import HandS.FStr
import HandS.Flow
import HandS.Wide
import HandS.StrMore
import HandS.Deep
import HandS.TupLe
import HandS.Set
import PyProof.ReprRoads
import HandS.TupAny
import HandS.WideBits
import HandS.RaiseMore
import HandS.Dict
import HandS.Zip
import HandS.Iter
import HandS.Style
import HandS.ExcField
import HandS.ExcIs
import KE.KExcIs
import KE.KTypeName
import HandS.Ends
import HandS.ExcValue
import PyProof.Rows.FloatCmp
import PyProof.Rows.RuleB_bool
import PyProof.TwoTypesSub
import PySem.Challenge.RW_sayable_k00_errors_keep_their_fields
set_option Elab.async false
set_option linter.all false
set_option maxRecDepth 100000
set_option maxHeartbeats 4000000
/-! ### values as trees: what nobody changes any more is a tree, what one name alone holds is that name's, the rest stands in a store -/
namespace Fv
open PySem PySem.Spec PyProof.Rows L2
abbrev Tx := PySem.Str
/-- a value: lst, dct, set, obj: of which nobody changes anything any more -/
inductive D where
  | non | bl (b : Bool) | int (i : Int) | str (s : Tx) | tup (xs : List D) | ktup (xs : List D) | lst (xs : List D) | fl (xs : List D)
  | dct (ks vs : List D) | dtt (ks vs : List D) | set (xs : List D) | obj (c : Tx) (ns : List Tx) (vs : List D)
  | exc (c : Tx) (d : Option Nat) | xn (ns : List Tx) (vs : List D) | exh (c : Tx) (ns : List Tx) (vs : List D) | exq (c : Tx)
  | ref (a : Nat) | ty (n : String) | gl (x : Tx)
  deriving Inhabited
abbrev S := List D
inductive R (α : Type) where
  | ok (a : α) (s : S) | err (c : Tx) (ns : List Tx) (vs : List D) (s : S) | bad
/-- a slot: a value, or what the slot alone holds -/
inductive Sl where | v (d : D) | o (d : D)
abbrev En := List (Option Sl)
abbrev E := En → S → R D
abbrev T := En → S → R Bool
abbrev As := En → S → R (List D)
inductive RS where
  | nx (ρ : En) (s : S) | rt (d : D) (s : S) | bk (ρ : En) (s : S) | ct (ρ : En) (s : S) | err (c : Tx) (ns : List Tx) (vs : List D) (ρ : En) (s : S) | bad
abbrev C := En → S → RS
abbrev Fn := List D → S → R D
def R.bind {α β : Type} : R α → (α → S → R β) → R β
  | .ok a s, f => f a s
  | .err c ns vs s, _ => .err c ns vs s
  | .bad, _ => .bad
/-- an expression's value in a statement at ρ -/
def R.stm {α : Type} (ρ : En) : R α → (α → S → RS) → RS
  | .ok a s, f => f a s
  | .err c ns vs s, _ => .err c ns vs ρ s
  | .bad, _ => .bad

/-! ### keys -/
def keyD : D → Option Key
  | .int i => some (.inl i)
  | .str y => some (.inr y)
  | _ => none
def keysD : List D → Option (List Key)
  | [] => some []
  | d :: r => (keyD d).bind fun k => (keysD r).map (k :: ·)
def keyT : D → Option (List Key)
  | .tup xs => keysD xs
  | _ => none
def keysT : List D → Option (List (List Key))
  | [] => some []
  | d :: r => (keyT d).bind fun k => (keysT r).map (k :: ·)

/-! ### what a tree stands for -/
structure Wd where
  K : PySem.W.Frag
  mg : Str → Option Value
  P : Program
  w : World
abbrev wd (X : Cx) : Wd := ⟨X.K, X.mg, X.prog, X.w⟩
/-- the addresses of the store; the objects that stay as they are -/
structure M where
  m : List Addr
  z : Addr → Prop
  zm : ∀ p, z p → p ∉ m
/-- a list that nobody changes, of the written part or the script -/
def SqF (K : PySem.W.Frag) (H : Hp) (a : Addr) (xs : List V) : Prop :=
  (∃ o, H a = some (.frz o (.lst xs))) ∨ ∃ (o : Obj) (its : Array Value) (n : Nat), K.lookup a = some o ∧ o.cls = .type "list" ∧ o.dict = none ∧ o.data = .seq its n ∧ its.size ≤ sizeLine ∧ Vals xs its.toList
theorem SqF.sq {K : PySem.W.Frag} {H : Hp} {a : Addr} {xs : List V} (h : SqF K H a xs) : SqL K H a xs := h.imp (fun ⟨o, e⟩ => .inr ⟨o, e⟩) id
/-- a set of keys: its members in some order, its table can be walked -/
def SetRK (w : World) (h : Heap) (a : Addr) (kk : List Key) : Prop :=
  ∃ (o : Obj) (es : Array (Int × Value)) (ep : Nat) (t : SetTable) (ks : List Key), h.get? a = some o ∧ o.ExactSet ∧ o.data = .set es ep t ∧ Paired (fun (k : Key) (e : Int × Value) => keyIs k e.2 = true ∧ e.1 = keyH w k) ks es.toList ∧ ks.Perm kk ∧ kk.Nodup ∧
    es.size < scanBound ∧ t.fits es.size = true ∧ Ris t.place.toList ∧ (w.params.followText "set-order" = true ∨ t.led = true)
def SetH (w : World) (p : Addr) (kk : List Key) : HO := .ext fun h => SetRK w h p kk
/-- an exception without fields -/
def exq (e : Addr) (C : Addr) : HO := .ext fun h => ∃ (oe : Obj) (vs : Array Value), h.get? e = some oe ∧ Zc (.ref C) none oe ∧ oe.data = .fields vs
/-- a caught exception at e -/
def exh (e : Addr) (C : Addr) (d : Addr) : HO := .ext fun h => ∃ (oe : Obj) (vs : Array Value), h.get? e = some oe ∧ Zc (.ref C) (some d) oe ∧ oe.data = .fields vs
/-- what stands at p, but for the values in it -/
def Dk (H : Hp) (p : Addr) (ks : List D) (ys : List V) : Prop := ∃ kk, keysD ks = some kk ∧ H p = some (.dK (kk.zip ys))
def Dt (H : Hp) (p : Addr) (ks : List D) (ys : List V) : Prop := ∃ kk, keysT ks = some kk ∧ H p = some (.dT (kk.zip ys))
def Ik (g : Wd) (H : Hp) (p : Addr) (c : Tx) (ns : List Tx) (ys : List V) : Prop := ∃ C dx, g.mg c = some (.ref C) ∧ H p = some (.ins C dx (ns.zip ys))
def Sk (g : Wd) (H : Hp) (p : Addr) (ks : List D) : Prop := ∃ kk, keysD ks = some kk ∧ H p = some (SetH g.w p kk)
mutual
def RV (g : Wd) (μ : M) (H : Hp) : D → V → Prop
  | .non, x => x = .non
  | .bl b, x => x = .bl b
  | .int i, x => x = .int i
  | .str s, x => x = .str s
  | .ty n, x => x = .ty n
  | .gl y, x => ∃ f, g.mg y = some (.ref f) ∧ x = .ref f
  | .ref a, x => ∃ p, μ.m[a]? = some p ∧ x = .ref p
  | .tup ds, x => ∃ p ys, x = .ref p ∧ H p = some (.tup ys) ∧ RVs g μ H ds ys
  | .ktup ds, x => ∃ p ys, x = .ref p ∧ (∀ H', SqT g.K H' p ys) ∧ RVs g μ H ds ys
  | .lst ds, x => ∃ p ys, x = .ref p ∧ μ.z p ∧ H p = some (.lst ys) ∧ RVs g μ H ds ys
  | .fl ds, x => ∃ p ys, x = .ref p ∧ SqF g.K H p ys ∧ RVs g μ H ds ys
  | .dct ks ds, x => ∃ p ys, x = .ref p ∧ μ.z p ∧ Dk H p ks ys ∧ ks.length = ys.length ∧ RVs g μ H ds ys
  | .dtt ks ds, x => ∃ p ys, x = .ref p ∧ μ.z p ∧ Dt H p ks ys ∧ ks.length = ys.length ∧ RVs g μ H ds ys
  | .set ks, x => ∃ p, x = .ref p ∧ μ.z p ∧ Sk g H p ks
  | .obj c ns ds, x => ∃ p ys, x = .ref p ∧ μ.z p ∧ Ik g H p c ns ys ∧ ns.length = ys.length ∧ RVs g μ H ds ys
  | .exc _ _, _ => False
  | .xn _ _, _ => False
  | .exq c, x => ∃ p C, x = .ref p ∧ μ.z p ∧ g.mg c = some (.ref C) ∧ H p = some (exq p C)
  | .exh c ns ds, x => ∃ p C dx ys, x = .ref p ∧ μ.z p ∧ μ.z dx ∧ g.mg c = some (.ref C) ∧ H p = some (exh p C dx) ∧ H dx = some (.xd (ns.zip ys)) ∧ ns.length = ys.length ∧ RVs g μ H ds ys
def RVs (g : Wd) (μ : M) (H : Hp) : List D → List V → Prop
  | [], ys => ys = []
  | d :: ds, ys => ∃ y r, ys = y :: r ∧ RV g μ H d y ∧ RVs g μ H ds r
end
/-- what stands at p -/
def Ce (g : Wd) (μ : M) (H : Hp) (p : Addr) : D → Prop
  | .lst ds => ∃ ys, H p = some (.lst ys) ∧ RVs g μ H ds ys
  | .dct ks ds => ∃ ys, Dk H p ks ys ∧ ks.length = ys.length ∧ RVs g μ H ds ys
  | .dtt ks ds => ∃ ys, Dt H p ks ys ∧ ks.length = ys.length ∧ RVs g μ H ds ys
  | .set ks => Sk g H p ks
  | .obj c ns ds => ∃ ys, Ik g H p c ns ys ∧ ns.length = ys.length ∧ RVs g μ H ds ys
  | .exc c d => ∃ C, g.mg c = some (.ref C) ∧ ((d = none ∧ H p = some (exo p C none)) ∨ ∃ j dx, d = some j ∧ μ.m[j]? = some dx ∧ H p = some (exo p C (some dx)))
  | .xn ns ds => ∃ ys, H p = some (exd p (ns.zip ys)) ∧ ns.length = ys.length ∧ RVs g μ H ds ys
  | _ => False
/-- more objects; Fr: what may be changed although the store has it not -/
structure Ex (Fr : Addr → Prop) (μ : M) (H : Hp) (μ' : M) (H' : Hp) : Prop where
  pre : ∃ ν, μ'.m = μ.m ++ ν ∧ ∀ p ∈ ν, H p = none
  trk : ∀ p, H' p = none → H p = none
  tup : ∀ p ys, H p = some (.tup ys) → H' p = some (.tup ys)
  frz : ∀ p o u, H p = some (.frz o u) → H' p = some (.frz o u)
  oth : ∀ p u, H p = some u → p ∉ μ.m → (μ.z p ∨ ¬ Fr p) → H' p = some u
  zs : ∀ p, μ.z p → μ'.z p
  zn : ∀ p, μ'.z p → μ.z p ∨ Fr p ∨ H p = none
/-- nothing that stood is changed but the store's -/
abbrev Fn0 : Addr → Prop := fun _ => False
section
variable {Fr : Addr → Prop} {g : Wd} {μ μ' μ1 μ2 : M} {H H' H1 H2 : Hp}
theorem Ex.refl : Ex Fr μ H μ H := ⟨⟨[], by simp⟩, fun _ h => h, fun _ _ h => h, fun _ _ _ h => h, fun _ _ h _ _ => h, fun _ h => h, fun _ h => .inl h⟩
theorem Ex.nm (a : Ex Fr μ H μ1 H1) {p : Addr} {u : HO} (e : H p = some u) (h : p ∉ μ.m) : p ∉ μ1.m := by
  obtain ⟨ν, e1, n1⟩ := a.pre
  rw [e1]
  intro hp
  rcases List.mem_append.mp hp with hp | hp
  · exact h hp
  · rw [n1 p hp] at e; cases e
theorem Ex.trans (a : Ex Fr μ H μ1 H1) (b : Ex Fr μ1 H1 μ2 H2) : Ex Fr μ H μ2 H2 := by
  obtain ⟨ν, e1, n1⟩ := a.pre
  obtain ⟨ν', e2, n2⟩ := b.pre
  refine ⟨⟨ν ++ ν', by rw [e2, e1, List.append_assoc], fun p hp => (List.mem_append.mp hp).elim (n1 p) fun h => a.trk p (n2 p h)⟩, fun p h => a.trk p (b.trk p h), fun p ys h => b.tup _ _ (a.tup _ _ h), fun p o u h => b.frz _ _ _ (a.frz _ _ _ h),
    fun p u h hm hz => ?_, fun p h => b.zs p (a.zs p h), fun p h => ?_⟩
  · exact b.oth p u (a.oth p u h hm hz) (a.nm h hm) (hz.imp (a.zs p) id)
  · rcases b.zn p h with h | h | h
    · exact a.zn p h
    · exact .inr (.inl h)
    · exact .inr (.inr (a.trk p h))
theorem Ex.wide {Fr' : Addr → Prop} (a : Ex Fr μ H μ1 H1) (h : ∀ p, Fr p → Fr' p) : Ex Fr' μ H μ1 H1 :=
  ⟨a.pre, a.trk, a.tup, a.frz, fun p u e hm hz => a.oth p u e hm (hz.imp id fun n q => n (h p q)), a.zs, fun p q => (a.zn p q).imp id (Or.imp (h p) id)⟩
theorem Ex.s (a : Ex Fn0 μ H μ1 H1) : Ex Fr μ H μ1 H1 := a.wide fun _ h => h.elim
theorem Ex.get (x : Ex Fr μ H μ' H') {i : Nat} {p : Addr} (h : μ.m[i]? = some p) : μ'.m[i]? = some p := by
  obtain ⟨ν, e, _⟩ := x.pre
  rw [e, List.getElem?_append_left (List.getElem?_eq_some_iff.mp h).1]
  exact h
theorem Ex.z (x : Ex Fr μ H μ' H') {p : Addr} {u : HO} (h : μ.z p) (e : H p = some u) : H' p = some u := x.oth p u e (μ.zm p h) (.inl h)
theorem Ex.sqf (x : Ex Fr μ H μ' H') {p : Addr} {ys : List V} (h : SqF g.K H p ys) : SqF g.K H' p ys := h.imp (fun ⟨o, e⟩ => ⟨o, x.frz _ _ _ e⟩) id
theorem Ex.sqt (x : Ex Fr μ H μ' H') {p : Addr} {ys : List V} (h : SqT g.K H p ys) : SqT g.K H' p ys := by
  rcases h with (h | ⟨o, h⟩) | h
  · exact .inl (.inl (x.tup _ _ h))
  · exact .inl (.inr ⟨o, x.frz _ _ _ h⟩)
  · exact .inr h
theorem Dk.at {p : Addr} {ks : List D} {ys : List V} (k : ∀ u, H p = some u → H' p = some u) (h : Dk H p ks ys) : Dk H' p ks ys := let ⟨kk, a, b⟩ := h; ⟨kk, a, k _ b⟩
theorem Dt.at {p : Addr} {ks : List D} {ys : List V} (k : ∀ u, H p = some u → H' p = some u) (h : Dt H p ks ys) : Dt H' p ks ys := let ⟨kk, a, b⟩ := h; ⟨kk, a, k _ b⟩
theorem Ik.at {p : Addr} {c : Tx} {ns : List Tx} {ys : List V} (k : ∀ u, H p = some u → H' p = some u) (h : Ik g H p c ns ys) : Ik g H' p c ns ys := let ⟨C, dx, a, b⟩ := h; ⟨C, dx, a, k _ b⟩
theorem Sk.at {p : Addr} {ks : List D} (k : ∀ u, H p = some u → H' p = some u) (h : Sk g H p ks) : Sk g H' p ks := let ⟨kk, a, b⟩ := h; ⟨kk, a, k _ b⟩
mutual
theorem RV.mono (x : Ex Fr μ H μ' H') : ∀ {d : D} {v : V}, RV g μ H d v → RV g μ' H' d v
  | .non, _, h => by simpa only [RV] using h
  | .bl _, _, h => by simpa only [RV] using h
  | .int _, _, h => by simpa only [RV] using h
  | .str _, _, h => by simpa only [RV] using h
  | .ty _, _, h => by simpa only [RV] using h
  | .gl _, _, h => by simpa only [RV] using h
  | .exc _ _, _, h => by simp only [RV] at h
  | .xn _ _, _, h => by simp only [RV] at h
  | .ref a, v, h => by
    simp only [RV] at h ⊢
    obtain ⟨p, e, r⟩ := h
    exact ⟨p, x.get e, r⟩
  | .tup ds, v, h => by
    simp only [RV] at h ⊢
    obtain ⟨p, ys, e, q, r⟩ := h
    exact ⟨p, ys, e, x.tup _ _ q, RVs.mono x r⟩
  | .ktup ds, v, h => by
    simp only [RV] at h ⊢
    obtain ⟨p, ys, e, q, r⟩ := h
    exact ⟨p, ys, e, q, RVs.mono x r⟩
  | .lst ds, v, h => by
    simp only [RV] at h ⊢
    obtain ⟨p, ys, e, z, q, r⟩ := h
    exact ⟨p, ys, e, x.zs p z, x.z z q, RVs.mono x r⟩
  | .fl ds, v, h => by
    simp only [RV] at h ⊢
    obtain ⟨p, ys, e, q, r⟩ := h
    exact ⟨p, ys, e, x.sqf q, RVs.mono x r⟩
  | .dct ks ds, v, h => by
    simp only [RV] at h ⊢
    obtain ⟨p, ys, e, z, q, l, r⟩ := h
    exact ⟨p, ys, e, x.zs p z, q.at fun u => x.z z, l, RVs.mono x r⟩
  | .dtt ks ds, v, h => by
    simp only [RV] at h ⊢
    obtain ⟨p, ys, e, z, q, l, r⟩ := h
    exact ⟨p, ys, e, x.zs p z, q.at fun u => x.z z, l, RVs.mono x r⟩
  | .set ks, v, h => by
    simp only [RV] at h ⊢
    obtain ⟨p, e, z, q⟩ := h
    exact ⟨p, e, x.zs p z, q.at fun u => x.z z⟩
  | .obj c ns ds, v, h => by
    simp only [RV] at h ⊢
    obtain ⟨p, ys, e, z, q, l, r⟩ := h
    exact ⟨p, ys, e, x.zs p z, q.at fun u => x.z z, l, RVs.mono x r⟩
  | .exq c, v, h => by
    simp only [RV] at h ⊢
    obtain ⟨p, C, e, z1, m, a⟩ := h
    exact ⟨p, C, e, x.zs p z1, m, x.z z1 a⟩
  | .exh c ns ds, v, h => by
    simp only [RV] at h ⊢
    obtain ⟨p, C, dx, ys, e, z1, z2, m, a, b, l, r⟩ := h
    exact ⟨p, C, dx, ys, e, x.zs p z1, x.zs dx z2, m, x.z z1 a, x.z z2 b, l, RVs.mono x r⟩
theorem RVs.mono (x : Ex Fr μ H μ' H') : ∀ {ds : List D} {vs : List V}, RVs g μ H ds vs → RVs g μ' H' ds vs
  | [], _, h => by simpa only [RVs] using h
  | d :: ds, vs, h => by
    simp only [RVs] at h ⊢
    obtain ⟨y, r, e, a, b⟩ := h
    exact ⟨y, r, e, RV.mono x a, RVs.mono x b⟩
end
theorem RVs.length : ∀ {ds : List D} {vs : List V}, RVs g μ H ds vs → ds.length = vs.length
  | [], _, h => by simp only [RVs] at h; subst h; rfl
  | d :: ds, vs, h => by
    simp only [RVs] at h
    obtain ⟨y, r, rfl, _, b⟩ := h
    simp [RVs.length b]
theorem RVs.get : ∀ {ds : List D} {vs : List V} {i : Nat} {d : D}, RVs g μ H ds vs → ds[i]? = some d → ∃ v, vs[i]? = some v ∧ RV g μ H d v
  | [], _, _, _, _, e => by simp at e
  | a :: ds, vs, i, d, h, e => by
    simp only [RVs] at h
    obtain ⟨y, r, rfl, q, b⟩ := h
    cases i with
    | zero => simp at e; subst e; exact ⟨y, rfl, q⟩
    | succ i => simpa using RVs.get b (by simpa using e)
theorem RVs.getV {ds : List D} {vs : List V} {i : Nat} {v : V} (h : RVs g μ H ds vs) (e : vs[i]? = some v) : ∃ d, ds[i]? = some d ∧ RV g μ H d v := by
  have hi : i < vs.length := (List.getElem?_eq_some_iff.mp e).1
  have hd : i < ds.length := by rw [h.length]; exact hi
  obtain ⟨w, e2, r⟩ := h.get (List.getElem?_eq_getElem hd)
  rw [e] at e2; cases e2
  exact ⟨_, List.getElem?_eq_getElem hd, r⟩
theorem RVs.append : ∀ {ds es : List D} {vs us : List V}, RVs g μ H ds vs → RVs g μ H es us → RVs g μ H (ds ++ es) (vs ++ us)
  | [], _, _, _, h, k => by simp only [RVs] at h; subst h; exact k
  | d :: ds, es, vs, us, h, k => by
    simp only [RVs] at h
    obtain ⟨y, r, rfl, q, b⟩ := h
    exact ⟨y, r ++ us, rfl, q, RVs.append b k⟩
theorem RVs.drop : ∀ (n : Nat) {ds : List D} {vs : List V}, RVs g μ H ds vs → RVs g μ H (ds.drop n) (vs.drop n)
  | 0, _, _, h => by simpa using h
  | n + 1, [], _, h => by simp only [RVs] at h; subst h; simp [RVs]
  | n + 1, d :: ds, vs, h => by
    simp only [RVs] at h
    obtain ⟨y, r, rfl, q, b⟩ := h
    simpa using RVs.drop n b
theorem RVs.take : ∀ (n : Nat) {ds : List D} {vs : List V}, RVs g μ H ds vs → RVs g μ H (ds.take n) (vs.take n)
  | 0, _, _, h => by simp [RVs]
  | n + 1, [], _, h => by simp only [RVs] at h; subst h; simp [RVs]
  | n + 1, d :: ds, vs, h => by
    simp only [RVs] at h
    obtain ⟨y, r, rfl, q, b⟩ := h
    exact ⟨y, r.take n, rfl, q, RVs.take n b⟩
theorem RVs.set {d : D} {v : V} (q : RV g μ H d v) : ∀ (n : Nat) {ds : List D} {vs : List V}, RVs g μ H ds vs → RVs g μ H (ds.set n d) (vs.set n v)
  | _, [], _, h => by simp only [RVs] at h; subst h; simp [RVs]
  | 0, d' :: ds, vs, h => by
    simp only [RVs] at h
    obtain ⟨y, r, rfl, q', b⟩ := h
    exact ⟨v, r, rfl, q, b⟩
  | n + 1, d' :: ds, vs, h => by
    simp only [RVs] at h
    obtain ⟨y, r, rfl, q', b⟩ := h
    exact ⟨y, r.set n v, rfl, q', RVs.set q n b⟩
theorem RVs.one {d : D} {v : V} (h : RV g μ H d v) : RVs g μ H [d] [v] := ⟨v, [], rfl, h, rfl⟩
theorem RVs.inv1 {d : D} {xs : List V} (h : RVs g μ H [d] xs) : ∃ x, xs = [x] ∧ RV g μ H d x := by
  simp only [RVs] at h
  obtain ⟨y, r, rfl, a, rfl⟩ := h
  exact ⟨y, rfl, a⟩
theorem RVs.inv2 {d e : D} {xs : List V} (h : RVs g μ H [d, e] xs) : ∃ x y, xs = [x, y] ∧ RV g μ H d x ∧ RV g μ H e y := by
  simp only [RVs] at h
  obtain ⟨y, r, rfl, a, z, r', rfl, b, rfl⟩ := h
  exact ⟨y, z, rfl, a, b⟩
theorem RVs.inv3 {d e f : D} {xs : List V} (h : RVs g μ H [d, e, f] xs) : ∃ x y z, xs = [x, y, z] ∧ RV g μ H d x ∧ RV g μ H e y ∧ RV g μ H f z := by
  simp only [RVs] at h
  obtain ⟨y, r, rfl, a, z, r', rfl, b, u, r2, rfl, c, rfl⟩ := h
  exact ⟨y, z, u, rfl, a, b, c⟩
/-- what stands at p, where it stays -/
theorem Ce.mono (x : Ex Fr μ H μ' H') {p : Addr} {d : D} (k : ∀ u, H p = some u → H' p = some u) (h : Ce g μ H p d) : Ce g μ' H' p d := by
  cases d <;> simp only [Ce] at h ⊢
  · obtain ⟨ys, a, b⟩ := h
    exact ⟨ys, k _ a, b.mono x⟩
  · obtain ⟨ys, a, l, b⟩ := h
    exact ⟨ys, a.at k, l, b.mono x⟩
  · obtain ⟨ys, a, l, b⟩ := h
    exact ⟨ys, a.at k, l, b.mono x⟩
  · exact h.at k
  · obtain ⟨ys, a, l, b⟩ := h
    exact ⟨ys, a.at k, l, b.mono x⟩
  · obtain ⟨C, m, ⟨d0, a⟩ | ⟨j, dx, d0, ej, a⟩⟩ := h
    · exact ⟨C, m, .inl ⟨d0, k _ a⟩⟩
    · exact ⟨C, m, .inr ⟨j, dx, d0, x.get ej, k _ a⟩⟩
  · obtain ⟨ys, a, l, b⟩ := h
    exact ⟨ys, k _ a, l, b.mono x⟩
theorem exd_frz {e : Addr} {fs : List (Str × V)} {o : Obj} {u : HO} : exd e fs ≠ .frz o u := fun z => by
  have z' : HO.ext _ = HO.frz o u := z
  cases z'
theorem ext_tup {φ : Heap → Prop} {u : HO} (e : u = .ext φ) (ys : List V) : u ≠ .tup ys := fun z => by rw [e] at z; cases z
theorem ext_frz {φ : Heap → Prop} {u : HO} (e : u = .ext φ) (o : Obj) (w : HO) : u ≠ .frz o w := fun z => by rw [e] at z; cases z
theorem Ce.there {p : Addr} {d : D} (h : Ce g μ H p d) : ∃ u, H p = some u ∧ (∀ ys, u ≠ .tup ys) ∧ ∀ o w, u ≠ .frz o w := by
  cases d <;> simp only [Ce] at h
  · obtain ⟨ys, a, _⟩ := h; exact ⟨_, a, (fun _ z => by cases z), fun _ _ z => by cases z⟩
  · obtain ⟨ys, a, _⟩ := h
    obtain ⟨_, _, a⟩ := a
    exact ⟨_, a, (fun _ z => by cases z), fun _ _ z => by cases z⟩
  · obtain ⟨ys, a, _⟩ := h
    obtain ⟨_, _, a⟩ := a
    exact ⟨_, a, (fun _ z => by cases z), fun _ _ z => by cases z⟩
  · obtain ⟨kk, _, a⟩ := h; exact ⟨_, a, ext_tup rfl, ext_frz rfl⟩
  · obtain ⟨ys, ⟨C, dx, _, a⟩, _⟩ := h; exact ⟨_, a, (fun _ z => by cases z), fun _ _ z => by cases z⟩
  · obtain ⟨C, _, ⟨_, a⟩ | ⟨j, dx, _, _, a⟩⟩ := h <;> exact ⟨_, a, (fun _ z => exo_tup z), fun _ _ z => exo_frz z⟩
  · obtain ⟨ys, a, _⟩ := h; exact ⟨_, a, (fun _ z => exd_tup z), fun _ _ z => exd_frz z⟩
end
/-! ### the store -/
structure Rs (g : Wd) (μ : M) (H : Hp) (s : S) : Prop where
  len : μ.m.length = s.length
  nd : μ.m.Nodup
  zt : ∀ p, μ.z p → ∃ u, H p = some u
  at_ : ∀ (i : Nat) (o : D) (p : Addr), s[i]? = some o → μ.m[i]? = some p → Ce g μ H p o
/-- one more address of the store -/
def M.push (μ : M) (p : Addr) (h : ¬ μ.z p) : M := ⟨μ.m ++ [p], μ.z, fun q hq hm => by
  rcases List.mem_append.mp hm with hm | hm
  · exact μ.zm q hq hm
  · simp at hm; subst hm; exact h hq⟩
/-- p stays as it is from now on -/
def M.frz (μ : M) (p : Addr) (h : p ∉ μ.m) : M := ⟨μ.m, fun q => μ.z q ∨ q = p, fun q hq => hq.elim (μ.zm q) fun e => e ▸ h⟩
section
variable {Fr : Addr → Prop} {g : Wd} {μ μ' : M} {H H' : Hp} {s : S} {p : Addr} {o : D} {ho : HO}
theorem Rs.adr (h : Rs g μ H s) {i : Nat} (e : s[i]? = some o) : ∃ p, μ.m[i]? = some p ∧ Ce g μ H p o := by
  have hp : i < μ.m.length := by rw [h.len]; exact (List.getElem?_eq_some_iff.mp e).1
  exact ⟨μ.m[i], List.getElem?_eq_getElem hp, h.at_ i o _ e (List.getElem?_eq_getElem hp)⟩
theorem Rs.nmem (h : Rs g μ H s) (e : H p = none) : p ∉ μ.m := fun hp => by
  obtain ⟨i, hi, q⟩ := List.getElem_of_mem hp
  have hs : i < s.length := by rw [← h.len]; exact hi
  obtain ⟨u, a, _⟩ := (h.at_ i _ p (List.getElem?_eq_getElem hs) (by rw [List.getElem?_eq_getElem hi, q])).there
  rw [e] at a; cases a
theorem Rs.nz (h : Rs g μ H s) (e : H p = none) : ¬ μ.z p := fun hp => by
  obtain ⟨u, q⟩ := h.zt p hp
  rw [e] at q; cases q
theorem upd_trk (q : Addr) (h : upd H p ho q = none) : H q = none := by
  by_cases z : q = p
  · subst z; rw [upd_same] at h; cases h
  · rw [upd_ne z] at h; exact h
/-- a new thing, of no one so far -/
theorem ex_new (e : H p = none) : Ex Fr μ H μ (upd H p ho) :=
  ⟨⟨[], by simp⟩, upd_trk, fun q ys h => by rw [upd_ne (ne_of_none h e)]; exact h, fun q o u h => by rw [upd_ne (ne_of_none h e)]; exact h, fun q u h _ _ => by rw [upd_ne (ne_of_none h e)]; exact h, fun _ h => h, fun _ h => .inl h⟩
theorem Rs.new (h : Rs g μ H s) (e : H p = none) : Rs g μ (upd H p ho) s :=
  ⟨h.len, h.nd, fun q hq => let ⟨u, a⟩ := h.zt q hq; ⟨u, by rw [upd_ne (ne_of_none a e)]; exact a⟩, fun i o q ei eq => (h.at_ i o q ei eq).mono (ex_new (Fr := Fn0) e) fun u a => by rw [upd_ne (ne_of_none a e)]; exact a⟩
mutual
theorem RV.push (h : ¬ μ.z p) : ∀ {d : D} {v : V}, RV g μ H d v → RV g (μ.push p h) H d v
  | .non, _, r => by simpa only [RV] using r
  | .bl _, _, r => by simpa only [RV] using r
  | .int _, _, r => by simpa only [RV] using r
  | .str _, _, r => by simpa only [RV] using r
  | .ty _, _, r => by simpa only [RV] using r
  | .gl _, _, r => by simpa only [RV] using r
  | .exc _ _, _, r => by simp only [RV] at r
  | .xn _ _, _, r => by simp only [RV] at r
  | .ref a, v, r => by
    simp only [RV] at r ⊢
    obtain ⟨q, e, r⟩ := r
    refine ⟨q, ?_, r⟩
    show (μ.m ++ [p])[a]? = some q
    rw [List.getElem?_append_left (List.getElem?_eq_some_iff.mp e).1]; exact e
  | .tup ds, v, r => by
    simp only [RV] at r ⊢
    obtain ⟨q, ys, e, a, r⟩ := r
    exact ⟨q, ys, e, a, RVs.push h r⟩
  | .ktup ds, v, r => by
    simp only [RV] at r ⊢
    obtain ⟨q, ys, e, a, r⟩ := r
    exact ⟨q, ys, e, a, RVs.push h r⟩
  | .lst ds, v, r => by
    simp only [RV] at r ⊢
    obtain ⟨q, ys, e, z, a, r⟩ := r
    exact ⟨q, ys, e, z, a, RVs.push h r⟩
  | .fl ds, v, r => by
    simp only [RV] at r ⊢
    obtain ⟨q, ys, e, a, r⟩ := r
    exact ⟨q, ys, e, a, RVs.push h r⟩
  | .dct ks ds, v, r => by
    simp only [RV] at r ⊢
    obtain ⟨q, ys, e, z, a, l, r⟩ := r
    exact ⟨q, ys, e, z, a, l, RVs.push h r⟩
  | .dtt ks ds, v, r => by
    simp only [RV] at r ⊢
    obtain ⟨q, ys, e, z, a, l, r⟩ := r
    exact ⟨q, ys, e, z, a, l, RVs.push h r⟩
  | .set ks, v, r => by
    simp only [RV] at r ⊢
    exact r
  | .obj c ns ds, v, r => by
    simp only [RV] at r ⊢
    obtain ⟨q, ys, e, z, a, l, r⟩ := r
    exact ⟨q, ys, e, z, a, l, RVs.push h r⟩
  | .exq c, v, r => by
    simp only [RV] at r ⊢
    exact r
  | .exh c ns ds, v, r => by
    simp only [RV] at r ⊢
    obtain ⟨q, C, dx, ys, e, z1, z2, m, a, b, l, r⟩ := r
    exact ⟨q, C, dx, ys, e, z1, z2, m, a, b, l, RVs.push h r⟩
theorem RVs.push (h : ¬ μ.z p) : ∀ {ds : List D} {vs : List V}, RVs g μ H ds vs → RVs g (μ.push p h) H ds vs
  | [], _, r => by simpa only [RVs] using r
  | d :: ds, vs, r => by
    simp only [RVs] at r ⊢
    obtain ⟨y, r, e, a, b⟩ := r
    exact ⟨y, r, e, RV.push h a, RVs.push h b⟩
end
theorem Ce.push (h : ¬ μ.z p) {q : Addr} {d : D} (c : Ce g μ H q d) : Ce g (μ.push p h) H q d := by
  cases d <;> simp only [Ce] at c ⊢
  · obtain ⟨ys, a, b⟩ := c
    exact ⟨ys, a, b.push h⟩
  · obtain ⟨ys, a, l, b⟩ := c
    exact ⟨ys, a, l, b.push h⟩
  · obtain ⟨ys, a, l, b⟩ := c
    exact ⟨ys, a, l, b.push h⟩
  · exact c
  · obtain ⟨ys, a, l, b⟩ := c
    exact ⟨ys, a, l, b.push h⟩
  · obtain ⟨C, m, ⟨d0, a⟩ | ⟨j, dx, d0, ej, a⟩⟩ := c
    · exact ⟨C, m, .inl ⟨d0, a⟩⟩
    · refine ⟨C, m, .inr ⟨j, dx, d0, ?_, a⟩⟩
      show (μ.m ++ [p])[j]? = some dx
      rw [List.getElem?_append_left (List.getElem?_eq_some_iff.mp ej).1]; exact ej
  · obtain ⟨ys, a, l, b⟩ := c
    exact ⟨ys, a, l, b.push h⟩
/-- what stands already becomes the store's -/
theorem Rs.adopt (h : Rs g μ H s) (hm : p ∉ μ.m) (hz : ¬ μ.z p) (c : Ce g μ H p o) : Rs g (μ.push p hz) H (s ++ [o]) ∧ RV g (μ.push p hz) H (.ref s.length) (.ref p) := by
  refine ⟨⟨by simp [M.push, h.len], ?_, h.zt, fun i o' q ei eq => ?_⟩, ?_⟩
  · show (μ.m ++ [p]).Nodup
    rw [List.nodup_append]
    exact ⟨h.nd, by simp, fun a ha b hb => by
      simp at hb; subst hb
      exact fun z => hm (z ▸ ha)⟩
  · have eq : (μ.m ++ [p])[i]? = some q := eq
    by_cases hi : i < s.length
    · rw [List.getElem?_append_left hi] at ei
      rw [List.getElem?_append_left (by rw [h.len]; exact hi)] at eq
      exact (h.at_ i o' q ei eq).push hz
    · have hi' : i = s.length := by
        have := (List.getElem?_eq_some_iff.mp ei).1
        simp at this
        omega
      subst hi'
      rw [List.getElem?_append_right (Nat.le_refl _)] at ei
      rw [← h.len, List.getElem?_append_right (Nat.le_refl _)] at eq
      simp at ei eq
      subst ei eq
      exact c.push hz
  · simp only [RV]
    refine ⟨p, ?_, rfl⟩
    show (μ.m ++ [p])[s.length]? = some p
    rw [← h.len, List.getElem?_append_right (Nat.le_refl _)]; simp
/-- it stays as it is from now on -/
theorem ex_frz (h : p ∉ μ.m) (f : Fr p ∨ H p = none) : Ex Fr μ H (μ.frz p h) H :=
  ⟨⟨[], by simp [M.frz]⟩, fun _ h => h, fun _ _ h => h, fun _ _ _ h => h, fun _ _ h _ _ => h, fun _ h => .inl h, fun q hq => hq.elim .inl fun e => e ▸ .inr f⟩
theorem Rs.frz (h : Rs g μ H s) (hp : p ∉ μ.m) (t : ∃ u, H p = some u) : Rs g (μ.frz p hp) H s :=
  ⟨h.len, h.nd, fun q hq => hq.elim (h.zt q) fun e => e ▸ t, fun i o q ei eq => (h.at_ i o q ei eq).mono (ex_frz (Fr := fun q => q = p) hp (.inl rfl)) fun _ a => a⟩
/-- an object of the store changes -/
theorem ex_put {ho' : HO} (hm : p ∈ μ.m) (e : H p = some ho') (nt : ∀ ys, ho' ≠ .tup ys) (nf : ∀ o u, ho' ≠ .frz o u) : Ex Fr μ H μ (upd H p ho) :=
  ⟨⟨[], by simp⟩, upd_trk, fun q ys h => by
    rw [upd_ne (fun z => by subst z; rw [e] at h; exact nt _ (Option.some.inj h))]; exact h, fun q o u h => by
    rw [upd_ne (fun z => by subst z; rw [e] at h; exact nf _ _ (Option.some.inj h))]; exact h, fun q u h n _ => by rw [upd_ne (show q ≠ p from fun z => n (z ▸ hm))]; exact h, fun _ h => h, fun _ h => .inl h⟩
theorem Rs.put (h : Rs g μ H s) {i : Nat} (ei : μ.m[i]? = some p) {ho' : HO} (e : H p = some ho') (nt : ∀ ys, ho' ≠ .tup ys) (nf : ∀ o u, ho' ≠ .frz o u) (new : Ce g μ (upd H p ho) p o) : Rs g μ (upd H p ho) (s.set i o) := by
  have hm := List.mem_of_getElem? ei
  refine ⟨by simp [h.len], h.nd, fun q hq => ?_, fun j o' q ej eq => ?_⟩
  · obtain ⟨u, a⟩ := h.zt q hq
    exact ⟨u, by rw [upd_ne (show q ≠ p from fun z => μ.zm q hq (z ▸ hm))]; exact a⟩
  · by_cases hj : j = i
    · subst hj
      rw [ei] at eq; cases eq
      have hl : j < s.length := by have := (List.getElem?_eq_some_iff.mp ei).1; rw [h.len] at this; exact this
      rw [List.getElem?_set_self hl] at ej
      cases ej
      exact new
    · rw [List.getElem?_set_ne (Ne.symm hj)] at ej
      have qp : q ≠ p := fun z => by
        subst z
        exact hj (nd_ix h.nd eq ei)
      exact (h.at_ j o' q ej eq).mono (ex_put (Fr := Fn0) hm e nt nf) fun u a => by rw [upd_ne qp]; exact a
/-- what a slot alone holds changes -/
theorem ex_own {ho' : HO} (hz : ¬ μ.z p) (f : Fr p) (e : H p = some ho') (nt : ∀ ys, ho' ≠ .tup ys) (nf : ∀ o u, ho' ≠ .frz o u) : Ex Fr μ H μ (upd H p ho) :=
  ⟨⟨[], by simp⟩, upd_trk, fun q ys h => by
    rw [upd_ne (fun z => by subst z; rw [e] at h; exact nt _ (Option.some.inj h))]; exact h, fun q o u h => by
    rw [upd_ne (fun z => by subst z; rw [e] at h; exact nf _ _ (Option.some.inj h))]; exact h, fun q u h n c => by rw [upd_ne (show q ≠ p from fun z => c.elim (fun w => hz (z ▸ w)) fun w => w (z ▸ f))]; exact h, fun _ h => h, fun _ h => .inl h⟩
theorem Rs.own (h : Rs g μ H s) {ho' : HO} (hm : p ∉ μ.m) (hz : ¬ μ.z p) (e : H p = some ho') (nt : ∀ ys, ho' ≠ .tup ys) (nf : ∀ o u, ho' ≠ .frz o u) : Rs g μ (upd H p ho) s :=
  ⟨h.len, h.nd, fun q hq => let ⟨u, a⟩ := h.zt q hq; ⟨u, by rw [upd_ne (show q ≠ p from fun z => hz (z ▸ hq))]; exact a⟩, fun i o q ei eq => (h.at_ i o q ei eq).mono (ex_own (Fr := fun q => q = p) hz rfl e nt nf) fun u a => by rw [upd_ne (show q ≠ p from fun z => hm (z ▸ List.mem_of_getElem? eq))]; exact a⟩
end
/-! ### slots -/
structure REn (g : Wd) (Fr : Addr → Prop) (μ : M) (H : Hp) (ρ : En) (σ : L2.St) : Prop where
  len : ρ.length = σ.length
  v : ∀ (i : Nat) (d : D), ρ[i]? = some (some (Sl.v d)) → ∃ x, σ[i]? = some (some x) ∧ RV g μ H d x
  o : ∀ (i : Nat) (d : D), ρ[i]? = some (some (Sl.o d)) → ∃ p, σ[i]? = some (some (V.ref p)) ∧ Ce g μ H p d ∧ p ∉ μ.m ∧ ¬ μ.z p ∧ Fr p
  inj : ∀ (i j : Nat) (d e : D) (p : Addr), ρ[i]? = some (some (Sl.o d)) → ρ[j]? = some (some (Sl.o e)) → σ[i]? = some (some (V.ref p)) → σ[j]? = some (some (V.ref p)) → i = j
section
variable {Fr : Addr → Prop} {g : Wd} {μ μ' : M} {H H' : Hp} {s : S} {p : Addr} {d : D} {ho : HO} {ρ : En} {σ : L2.St} {i : Nat}
/-- where nothing that stood is changed but the store's -/
theorem REn.mono (x : Ex Fn0 μ H μ' H') (h : REn g Fr μ H ρ σ) : REn g Fr μ' H' ρ σ :=
  ⟨h.len, fun i d e => let ⟨v, a, b⟩ := h.v i d e; ⟨v, a, b.mono x⟩, fun i d e => by
    obtain ⟨p, a, b, hm, hz, f⟩ := h.o i d e
    obtain ⟨u, eu, _⟩ := b.there
    exact ⟨p, a, b.mono x (fun u e => x.oth p u e hm (.inr id)), x.nm eu hm, (fun w => by
      rcases x.zn p w with w | w | w
      · exact hz w
      · exact w
      · rw [eu] at w; cases w), f⟩, h.inj⟩
theorem get_set {α : Type} {l : List α} {i j : Nat} {a b : α} (h : (l.set i a)[j]? = some b) : (j = i ∧ b = a ∧ i < l.length) ∨ (j ≠ i ∧ l[j]? = some b) := by
  by_cases hj : i = j
  · subst hj
    rw [List.getElem?_set] at h
    simp only [if_true] at h
    split at h
    · cases h; exact .inl ⟨rfl, rfl, by assumption⟩
    · cases h
  · rw [List.getElem?_set_ne hj] at h
    exact .inr ⟨Ne.symm hj, h⟩
theorem REn.gen (h : REn g Fr μ H ρ σ) {sl : Option Sl} {x : Option V} (hv : ∀ d, sl = some (Sl.v d) → ∃ y, x = some y ∧ RV g μ H d y) (ho : ∀ d, sl = some (Sl.o d) → ∃ p, x = some (.ref p) ∧ Ce g μ H p d ∧ p ∉ μ.m ∧ ¬ μ.z p ∧ Fr p ∧
    ∀ (j : Nat) (e : D), j ≠ i → ρ[j]? = some (some (Sl.o e)) → σ[j]? ≠ some (some (V.ref p))) : REn g Fr μ H (ρ.set i sl) (σ.set i x) := by
  have at_ : ∀ {j : Nat} {q : Option V}, j ≠ i → σ[j]? = some q → (σ.set i x)[j]? = some q := fun {j q} hj e => by rw [List.getElem?_set_ne (Ne.symm hj)]; exact e
  have self : i < ρ.length → (σ.set i x)[i]? = some x := fun hl => List.getElem?_set_self (by rw [← h.len]; exact hl)
  refine ⟨by simp [h.len], fun j d e => ?_, fun j d e => ?_, fun j k d e p e1 e2 e3 e4 => ?_⟩
  · rcases get_set e with ⟨rfl, q, hl⟩ | ⟨hj, q⟩
    · obtain ⟨y, rfl, r⟩ := hv d q.symm
      exact ⟨y, self hl, r⟩
    · obtain ⟨y, a, b⟩ := h.v j d q
      exact ⟨y, at_ hj a, b⟩
  · rcases get_set e with ⟨rfl, q, hl⟩ | ⟨hj, q⟩
    · obtain ⟨y, rfl, a, b, c, f, _⟩ := ho d q.symm
      exact ⟨y, self hl, a, b, c, f⟩
    · obtain ⟨y, a, b⟩ := h.o j d q
      exact ⟨y, at_ hj a, b⟩
  · rcases get_set e1 with ⟨rfl, q1, hl⟩ | ⟨hj, q1⟩
    · rcases get_set e2 with ⟨rfl, q2, _⟩ | ⟨hk, q2⟩
      · rfl
      · obtain ⟨y, ey, _, _, _, _, no⟩ := ho d q1.symm
        rw [self hl, ey] at e3
        cases e3
        rw [List.getElem?_set_ne (Ne.symm hk)] at e4
        exact absurd e4 (no k e hk q2)
    · rcases get_set e2 with ⟨rfl, q2, hl⟩ | ⟨hk, q2⟩
      · obtain ⟨y, ey, _, _, _, _, no⟩ := ho e q2.symm
        rw [self hl, ey] at e4
        cases e4
        rw [List.getElem?_set_ne (Ne.symm hj)] at e3
        exact absurd e3 (no j d hj q1)
      · rw [List.getElem?_set_ne (Ne.symm hj)] at e3
        rw [List.getElem?_set_ne (Ne.symm hk)] at e4
        exact h.inj j k d e p q1 q2 e3 e4
theorem REn.setV {x : V} (h : REn g Fr μ H ρ σ) (r : RV g μ H d x) : REn g Fr μ H (ρ.set i (some (.v d))) (σ.set i (some x)) := h.gen (fun e q => by cases q; exact ⟨x, rfl, r⟩) fun e q => nomatch q
theorem REn.setN {x : Option V} (h : REn g Fr μ H ρ σ) : REn g Fr μ H (ρ.set i none) (σ.set i x) := h.gen (fun e q => nomatch q) fun e q => nomatch q
/-- no slot holds it -/
def REn.free (ρ : En) (σ : L2.St) (p : Addr) : Prop := ∀ (j : Nat) (e : D), ρ[j]? = some (some (Sl.o e)) → σ[j]? ≠ some (some (V.ref p))
theorem REn.fr (h : REn g Fr μ H ρ σ) (e : H p = none) : REn.free ρ σ p := fun j d ej es => by
  obtain ⟨q, a, b, _⟩ := h.o j d ej
  rw [a] at es; cases es
  obtain ⟨u, eu, _⟩ := b.there
  rw [e] at eu; cases eu
theorem REn.setO (h : REn g Fr μ H ρ σ) (c : Ce g μ H p d) (hm : p ∉ μ.m) (hz : ¬ μ.z p) (f : Fr p) (n : REn.free ρ σ p) : REn g Fr μ H (ρ.set i (some (.o d))) (σ.set i (some (.ref p))) :=
  h.gen (fun e q => nomatch q) fun e q => by cases q; exact ⟨p, rfl, c, hm, hz, f, fun j e _ => n j e⟩
/-- what slot i holds stays as it is from now on -/
theorem REn.frz (h : REn g Fr μ H ρ σ) (e : ρ[i]? = some (some (Sl.o d))) (ep : σ[i]? = some (some (V.ref p))) (hm : p ∉ μ.m) (r : RV g (μ.frz p hm) H d (.ref p)) : REn g Fr (μ.frz p hm) H (ρ.set i (some (.v d))) σ := by
  obtain ⟨q, eq, c, _, hz, f⟩ := h.o i d e
  rw [ep] at eq; cases eq
  have x : Ex (fun q => q = p) μ H (μ.frz p hm) H := ex_frz hm (.inl rfl)
  refine ⟨by simp [h.len], fun j d' ej => ?_, fun j d' ej => ?_, fun j k d' e' p' e1 e2 e3 e4 => ?_⟩
  · rcases get_set ej with ⟨rfl, q, _⟩ | ⟨hj, q⟩
    · cases q; exact ⟨_, ep, r⟩
    · obtain ⟨y, a, b⟩ := h.v j d' q
      exact ⟨y, a, b.mono x⟩
  · rcases get_set ej with ⟨rfl, q, _⟩ | ⟨hj, q⟩
    · cases q
    · obtain ⟨y, a, b, m, z, f'⟩ := h.o j d' q
      have ne : y ≠ p := fun w => by subst w; exact hj (h.inj j i d' d y q e a ep)
      exact ⟨y, a, b.mono x (fun _ e => e), m, fun zz => zz.elim z ne, f'⟩
  · rcases get_set e1 with ⟨rfl, q1, _⟩ | ⟨hj, q1⟩
    · cases q1
    · rcases get_set e2 with ⟨rfl, q2, _⟩ | ⟨hk, q2⟩
      · cases q2
      · exact h.inj j k d' e' p' q1 q2 e3 e4
end
end Fv

namespace Fv
open PySem PySem.Spec PyProof.Rows L2
/-! ### readings -/
def RX (g : Wd) (μ : M) (H : Hp) (ns : List Tx) (ds : List D) (dx : Addr) : Prop := dx ∉ μ.m ∧ ¬ μ.z dx ∧ ∃ ys, H dx = some (.xd (ns.zip ys)) ∧ ns.length = ys.length ∧ RVs g μ H ds ys
def runs (g : Wd) (W : WX) (σ : L2.St) (μ : M) (H : Hp) {α β : Type} (Rel : M → Hp → α → β → Prop) (Q : β → Hp → Prop) : R α → Prop
  | .ok a s => ∀ μ' H' b, Ex Fn0 μ H μ' H' → Rs g μ' H' s → Rel μ' H' a b → Q b H'
  | .err c ns vs s => ∀ μ' H' C dx, Ex Fn0 μ H μ' H' → Rs g μ' H' s → g.mg c = some (.ref C) → (H dx = none ∧ RX g μ' H' ns vs dx) → W (.ref C) (some dx) σ H'
  | .bad => False
abbrev RB : M → Hp → Bool → Bool → Prop := fun _ _ a b => a = b
/-- new, of no one so far -/
def Nw (g : Wd) (H0 : Hp) (μ : M) (H : Hp) (d : D) (x : V) : Prop := ∃ p, x = .ref p ∧ H0 p = none ∧ p ∉ μ.m ∧ ¬ μ.z p ∧ Ce g μ H p d
def D.heavy : D → Bool
  | .lst _ => true | .dct _ _ => true | .dtt _ _ => true | .set _ => true | .obj _ _ _ => true | _ => false
/-- a value, or what is new -/
def RF (g : Wd) (H0 : Hp) (μ : M) (H : Hp) (d : D) (x : V) : Prop := if d.heavy then Nw g H0 μ H d x else RV g μ H d x
/-- a value, or what a slot alone holds, to be read -/
def RW (g : Wd) (μ : M) (H : Hp) (d : D) (x : V) : Prop := RV g μ H d x ∨ (d.heavy = true ∧ ∃ p, x = .ref p ∧ p ∉ μ.m ∧ Ce g μ H p d)
def RWs (g : Wd) (μ : M) (H : Hp) : List D → List V → Prop
  | [], ys => ys = []
  | d :: ds, ys => ∃ y r, ys = y :: r ∧ RW g μ H d y ∧ RWs g μ H ds r
def liftE (g : Wd) (W : WX) (m : E) : TE := fun σ H Q => ∃ Fr μ ρ s, REn g Fr μ H ρ σ ∧ Rs g μ H s ∧ runs g W σ μ H (RV g) Q (m ρ s)
def liftF (g : Wd) (W : WX) (m : E) : TE := fun σ H Q => ∃ Fr μ ρ s, REn g Fr μ H ρ σ ∧ Rs g μ H s ∧ runs g W σ μ H (RF g H) Q (m ρ s)
def liftB (g : Wd) (W : WX) (m : E) : TE := fun σ H Q => ∃ Fr μ ρ s, REn g Fr μ H ρ σ ∧ Rs g μ H s ∧ runs g W σ μ H (RW g) Q (m ρ s)
def liftT (g : Wd) (W : WX) (m : T) : TT := fun σ H Q => ∃ Fr μ ρ s, REn g Fr μ H ρ σ ∧ Rs g μ H s ∧ runs g W σ μ H RB Q (m ρ s)
def liftA (g : Wd) (W : WX) (m : As) : TA := fun σ H Q => ∃ Fr μ ρ s, REn g Fr μ H ρ σ ∧ Rs g μ H s ∧ runs g W σ μ H (RVs g) Q (m ρ s)
def liftAB (g : Wd) (W : WX) (m : As) : TA := fun σ H Q => ∃ Fr μ ρ s, REn g Fr μ H ρ σ ∧ Rs g μ H s ∧ runs g W σ μ H (RWs g) Q (m ρ s)
def runsS (g : Wd) (W : WX) (Fr : Addr → Prop) (μ : M) (H : Hp) (De : Ends) : RS → Prop
  | .nx ρ s => ∀ μ' H' σ', Ex Fr μ H μ' H' → Rs g μ' H' s → REn g Fr μ' H' ρ σ' → De.nx σ' H'
  | .rt d s => ∀ μ' H' x, Ex Fr μ H μ' H' → Rs g μ' H' s → RV g μ' H' d x → De.rt x H'
  | .bk ρ s => ∀ μ' H' σ', Ex Fr μ H μ' H' → Rs g μ' H' s → REn g Fr μ' H' ρ σ' → De.bk σ' H'
  | .ct ρ s => ∀ μ' H' σ', Ex Fr μ H μ' H' → Rs g μ' H' s → REn g Fr μ' H' ρ σ' → De.ct σ' H'
  | .err c ns vs ρ s => ∀ μ' H' σ' C dx, Ex Fr μ H μ' H' → Rs g μ' H' s → REn g Fr μ' H' ρ σ' → g.mg c = some (.ref C) → (H dx = none ∧ RX g μ' H' ns vs dx) → W (.ref C) (some dx) σ' H'
  | .bad => False
/-- what is new may be changed -/
abbrev Fz (Fr : Addr → Prop) (H : Hp) : Prop := ∀ p, H p = none → Fr p
def liftS (g : Wd) (W : WX) (Fr : Addr → Prop) (m : C) : TS := fun De σ H => ∃ μ ρ s, Fz Fr H ∧ REn g Fr μ H ρ σ ∧ Rs g μ H s ∧ runsS g W Fr μ H De (m ρ s)
section
variable {Fr : Addr → Prop} {g : Wd} {W : WX} {σ : L2.St} {μ μ1 : M} {H H1 : Hp} {α β γ δ : Type}
theorem Fz.at {Fr' : Addr → Prop} {μ' : M} {H' : Hp} (h : Fz Fr H) (x : Ex Fr' μ H μ' H') : Fz Fr H' := fun p e => h p (x.trk p e)
theorem runs_mono {Rel : M → Hp → α → β → Prop} {Q : β → Hp → Prop} {r : R α} (x : Ex Fn0 μ H μ1 H1) (h : runs g W σ μ H Rel Q r) : runs g W σ μ1 H1 Rel Q r := by
  cases r with
  | ok a s => exact fun μ' H' b y => h μ' H' b (x.trans y)
  | err c ns vs s => exact fun μ' H' C dx y r m ⟨n, q⟩ => h μ' H' C dx (x.trans y) r m ⟨x.trk _ n, q⟩
  | bad => exact h
theorem runsS_mono {De : Ends} {r : RS} (x : Ex Fr μ H μ1 H1) (h : runsS g W Fr μ H De r) : runsS g W Fr μ1 H1 De r := by
  cases r with
  | nx ρ s => exact fun μ' H' b y => h μ' H' b (x.trans y)
  | rt ρ s => exact fun μ' H' b y => h μ' H' b (x.trans y)
  | bk ρ s => exact fun μ' H' b y => h μ' H' b (x.trans y)
  | ct ρ s => exact fun μ' H' b y => h μ' H' b (x.trans y)
  | err c ns vs ρ s => exact fun μ' H' σ' C dx y r e m ⟨n, q⟩ => h μ' H' σ' C dx (x.trans y) r e m ⟨x.trk _ n, q⟩
  | bad => exact h
theorem runs_bind {Rel1 : M → Hp → α → β → Prop} {Rel2 : M → Hp → γ → δ → Prop} {Q1 : β → Hp → Prop} {Q2 : δ → Hp → Prop} {r : R α} {f : α → S → R γ}
    (h : runs g W σ μ H Rel2 Q2 (r.bind f)) (k : ∀ a s μ' H' b, r = .ok a s → Ex Fn0 μ H μ' H' → Rs g μ' H' s → Rel1 μ' H' a b → runs g W σ μ' H' Rel2 Q2 (f a s) → Q1 b H') : runs g W σ μ H Rel1 Q1 r := by
  cases r with
  | ok a s => exact fun μ' H' b x y z => k a s μ' H' b rfl x y z (runs_mono x h)
  | err c ns vs s => exact h
  | bad => exact h
theorem runs_stm {Rel1 : M → Hp → α → β → Prop} {Q1 : β → Hp → Prop} {De : Ends} {ρ : En} {r : R α} {f : α → S → RS} (he : REn g Fr μ H ρ σ)
    (h : runsS g W Fr μ H De (r.stm ρ f)) (k : ∀ a s μ' H' b, r = .ok a s → Ex Fn0 μ H μ' H' → Rs g μ' H' s → Rel1 μ' H' a b → runsS g W Fr μ' H' De (f a s) → Q1 b H') : runs g W σ μ H Rel1 Q1 r := by
  cases r with
  | ok a s => exact fun μ' H' b x y z => k a s μ' H' b rfl x y z (runsS_mono x.s h)
  | err c ns vs s => exact fun μ' H' C dx x y z => h μ' H' σ C dx x.s y (he.mono x) z
  | bad => exact h
/-- nothing is done -/
theorem runs_pure {Rel : M → Hp → α → β → Prop} {Q : β → Hp → Prop} {a : α} {b : β} {s : S} (h : runs g W σ μ H Rel Q (.ok a s)) (hs : Rs g μ H s) (r : Rel μ H a b) : Q b H := h μ H b Ex.refl hs r
/-- another reading of what comes -/
theorem runs_rel {Rel1 Rel2 : M → Hp → α → β → Prop} {Q : β → Hp → Prop} {r : R α} (h : runs g W σ μ H Rel2 Q r) (k : ∀ a s μ' H' b, r = .ok a s → Ex Fn0 μ H μ' H' → Rs g μ' H' s → Rel1 μ' H' a b → ∃ μ'', Ex Fn0 μ H μ'' H' ∧ Rs g μ'' H' s ∧ Rel2 μ'' H' a b) : runs g W σ μ H Rel1 Q r := by
  cases r with
  | ok a s =>
    intro μ' H' b x y z
    obtain ⟨μ2, a1, a2, a3⟩ := k a s μ' H' b rfl x y z
    exact h μ2 H' b a1 a2 a3
  | err c ns vs s => exact h
  | bad => exact h
theorem RV.w {d : D} {x : V} (h : RV g μ H d x) : RW g μ H d x := .inl h
theorem RVs.w : ∀ {ds : List D} {xs : List V}, RVs g μ H ds xs → RWs g μ H ds xs
  | [], _, h => h
  | d :: ds, xs, h => by
    simp only [RVs] at h
    obtain ⟨y, r, e, a, b⟩ := h
    exact ⟨y, r, e, a.w, b.w⟩
theorem RW.mono {d : D} {x : V} (y : Ex Fn0 μ H μ1 H1) (h : RW g μ H d x) : RW g μ1 H1 d x :=
  h.imp (RV.mono y) fun ⟨v, p, e, n, c⟩ => by
    obtain ⟨u, eu, _⟩ := c.there
    exact ⟨v, p, e, y.nm eu n, c.mono y fun u e => y.oth p u e n (.inr id)⟩
theorem RWs.mono (y : Ex Fn0 μ H μ1 H1) : ∀ {ds : List D} {xs : List V}, RWs g μ H ds xs → RWs g μ1 H1 ds xs
  | [], _, h => h
  | d :: ds, xs, ⟨x, r, e, a, b⟩ => ⟨x, r, e, a.mono y, b.mono y⟩
theorem RWs.inv1 {d : D} {xs : List V} (h : RWs g μ H [d] xs) : ∃ x, xs = [x] ∧ RW g μ H d x := let ⟨y, r, e, a, b⟩ := h; ⟨y, by rw [e, show r = [] from b], a⟩
theorem RWs.inv2 {d e : D} {xs : List V} (h : RWs g μ H [d, e] xs) : ∃ x y, xs = [x, y] ∧ RW g μ H d x ∧ RW g μ H e y := by
  obtain ⟨y, r, e1, a, z, r', e2, b, e3⟩ := h
  subst e1; subst e2; subst e3
  exact ⟨y, z, rfl, a, b⟩
theorem RWs.inv3 {d e f : D} {xs : List V} (h : RWs g μ H [d, e, f] xs) : ∃ x y z, xs = [x, y, z] ∧ RW g μ H d x ∧ RW g μ H e y ∧ RW g μ H f z := by
  obtain ⟨y, r, e1, a, z, r', e2, b, u, r2, e3, c, e4⟩ := h
  subst e1; subst e2; subst e3; subst e4
  exact ⟨y, z, u, rfl, a, b, c⟩
theorem RW.light {d : D} {x : V} (h : RW g μ H d x) (n : d.heavy = false) : RV g μ H d x := h.elim id fun ⟨v, _⟩ => by rw [n] at v; cases v
/-- what is new stays as it is from now on -/
theorem Nw.frz {H0 : Hp} {d : D} {x : V} {s : S} (hd : d.heavy = true) (h : Nw g H0 μ1 H1 d x) (y : Ex Fn0 μ H0 μ1 H1) (hs : Rs g μ1 H1 s) : ∃ μ2, Ex Fn0 μ H0 μ2 H1 ∧ Rs g μ2 H1 s ∧ RV g μ2 H1 d x := by
  obtain ⟨p, rfl, e0, hm, hz, c⟩ := h
  obtain ⟨u, eu, _⟩ := c.there
  have q : Ex (fun q => q = p) μ1 H1 (μ1.frz p hm) H1 := ex_frz hm (.inl rfl)
  have c2 : Ce g (μ1.frz p hm) H1 p d := c.mono q fun _ e => e
  refine ⟨μ1.frz p hm, ⟨y.pre, y.trk, y.tup, y.frz, y.oth, fun r hr => .inl (y.zs r hr), fun r hr => ?_⟩, hs.frz hm ⟨u, eu⟩, ?_⟩
  · rcases hr with hr | hr
    · exact y.zn r hr
    · subst hr; exact .inr (.inr e0)
  · have zp : (μ1.frz p hm).z p := .inr rfl
    cases d <;> simp only [D.heavy, Bool.false_eq_true] at hd <;> simp only [Ce] at c2 <;> simp only [RV]
    · obtain ⟨ys, a, b⟩ := c2
      exact ⟨p, ys, rfl, zp, a, b⟩
    · obtain ⟨ys, a, l, b⟩ := c2
      exact ⟨p, ys, rfl, zp, a, l, b⟩
    · obtain ⟨ys, a, l, b⟩ := c2
      exact ⟨p, ys, rfl, zp, a, l, b⟩
    · exact ⟨p, rfl, zp, c2⟩
    · obtain ⟨ys, a, l, b⟩ := c2
      exact ⟨p, ys, rfl, zp, a, l, b⟩
theorem runs_fz {Q : VK} {r : R D} (h : runs g W σ μ H (RV g) Q r) : runs g W σ μ H (RF g H) Q r := runs_rel h fun a s μ' H' b _ x y z => by
  unfold RF at z
  split at z
  · rename_i hd
    exact z.frz hd x y
  · exact ⟨μ', x, y, z⟩
theorem runs_post {Rel : M → Hp → α → β → Prop} {Q1 Q2 : β → Hp → Prop} {r : R α} (h : runs g W σ μ H Rel Q1 r) (k : ∀ b H', Q1 b H' → Q2 b H') : runs g W σ μ H Rel Q2 r := by
  cases r with
  | ok a s => exact fun μ' H' b x y z => k b H' (h μ' H' b x y z)
  | err c ns vs s => exact h
  | bad => exact h
/-- what is new, of a step behind -/
theorem RF.back {H0 : Hp} {d : D} {x : V} {μ2 : M} {H2 : Hp} (y : Ex Fn0 μ H0 μ1 H1) (h : RF g H1 μ2 H2 d x) : RF g H0 μ2 H2 d x := by
  unfold RF at h ⊢
  split
  · rename_i hd
    rw [if_pos hd] at h
    obtain ⟨p, e, e0, r⟩ := h
    exact ⟨p, e, y.trk p e0, r⟩
  · rename_i hd
    rw [if_neg hd] at h
    exact h
end
section
variable {X : Cx} {W : WX} {pos : Pos} {e : Expr} {es : List Expr} {m : E} {ms : As}
theorem pe_imp {t1 t2 : TE} (h : PE X e t1) (k : ∀ σ H Q, t2 σ H Q → t1 σ H Q) : PE X e t2 := ⟨fun pins s σ H Q I q => h.run pins s σ H Q I (k σ H Q q)⟩
theorem pt_imp {t1 t2 : TT} (h : PT X e t1) (k : ∀ σ H Q, t2 σ H Q → t1 σ H Q) : PT X e t2 := ⟨fun pins s σ H Q I q => h.run pins s σ H Q I (k σ H Q q)⟩
theorem pw_imp {t1 t2 : TT} (h : PW X e t1) (k : ∀ σ H Q, t2 σ H Q → t1 σ H Q) : PW X e t2 := ⟨fun wh pins s σ H Q I q => h.run wh pins s σ H Q I (k σ H Q q)⟩
theorem pa_imp {t1 t2 : TA} (h : PA X es t1) (k : ∀ σ H Q, t2 σ H Q → t1 σ H Q) : PA X es t2 := ⟨fun p pins s σ H Q I q => h.run p pins s σ H Q I (k σ H Q q)⟩
/-- to be read alone -/
theorem q_B (h : PE X e (liftE (wd X) W m)) : PE X e (liftB (wd X) W m) := pe_imp h fun σ H Q ⟨Fr, μ, ρ, s, he, hs, r⟩ => ⟨Fr, μ, ρ, s, he, hs, runs_rel r fun a s μ' H' b _ x y z => ⟨μ', x, y, z.w⟩⟩
/-- what is new stays as it is -/
theorem q_fz (h : PE X e (liftF (wd X) W m)) : PE X e (liftE (wd X) W m) := pe_imp h fun σ H Q ⟨Fr, μ, ρ, s, he, hs, r⟩ => ⟨Fr, μ, ρ, s, he, hs, runs_rel r fun a s μ' H' b _ x y z => by
  unfold RF at z
  split at z
  · rename_i hd
    exact z.frz hd x y
  · exact ⟨μ', x, y, z⟩⟩
/-- what is new comes into the store -/
def liveE (m : E) : E := fun ρ s => (m ρ s).bind fun d s => if d.heavy then .ok (.ref s.length) (s ++ [d]) else .bad
theorem q_live (h : PE X e (liftF (wd X) W m)) : PE X e (liftE (wd X) W (liveE m)) := pe_imp h fun σ H Q ⟨Fr, μ, ρ, s, he, hs, r⟩ => ⟨Fr, μ, ρ, s, he, hs, by
  unfold liveE at r
  cases q : m ρ s with
  | err c ns vs s1 => rw [q] at r; exact r
  | bad => rw [q] at r; exact r
  | ok d s1 =>
    rw [q] at r
    have r : runs (wd X) W σ μ H (RV (wd X)) Q (if d.heavy then .ok (.ref s1.length) (s1 ++ [d]) else .bad) := r
    split at r
    · rename_i hd
      intro μ1 H1 b x y z
      unfold RF at z
      rw [if_pos hd] at z
      obtain ⟨p, rfl, e0, hm, hz, c⟩ := z
      obtain ⟨u, eu, nt, nf⟩ := c.there
      have x2 : Ex Fn0 μ H (μ1.push p hz) H1 := by
        obtain ⟨ν, eν, hν⟩ := x.pre
        refine ⟨⟨ν ++ [p], by show μ1.m ++ [p] = _; rw [eν, List.append_assoc], fun q hq => ?_⟩, x.trk, x.tup, x.frz, x.oth, x.zs, x.zn⟩
        rcases List.mem_append.mp hq with hq | hq
        · exact hν q hq
        · simp at hq; subst hq; exact e0
      obtain ⟨y2, rv⟩ := y.adopt hm hz c
      exact r _ _ _ x2 y2 rv
    · exact r.elim⟩
end
end Fv

namespace Fv
open PySem PySem.Spec PyProof.Rows L2
/-! ### combinators of expressions -/
def varE (i : Nat) : E := fun ρ s => match ρ[i]? with | some (some (.v d)) => .ok d s | _ => .bad
/-- to be read alone -/
def borE (i : Nat) : E := fun ρ s => match ρ[i]? with | some (some (.v d)) => .ok d s | some (some (.o d)) => if d.heavy then .ok d s else .bad | _ => .bad
def conE (d : D) : E := fun _ s => .ok d s
def binE (o : D → D → S → R D) (a b : E) : E := fun ρ s => (a ρ s).bind fun x s => (b ρ s).bind fun y s => o x y s
def unE (o : D → S → R D) (a : E) : E := fun ρ s => (a ρ s).bind o
def nilA : As := fun _ s => .ok [] s
def consA (a : E) (r : As) : As := fun ρ s => (a ρ s).bind fun x s => (r ρ s).bind fun xs s => .ok (x :: xs) s
def callE (f : Fn) (a : As) : E := fun ρ s => (a ρ s).bind f
def seqOf (s : S) : D → Option (List D)
  | .tup xs => some xs
  | .ktup xs => some xs
  | .lst xs => some xs
  | .fl xs => some xs
  | .ref a => match s[a]? with | some (.lst xs) => some xs | _ => none
  | _ => none
def dctOf (s : S) : D → Option (List D × List D)
  | .dct ks vs => some (ks, vs)
  | .ref a => match s[a]? with | some (.dct ks vs) => some (ks, vs) | _ => none
  | _ => none
def starA (a : E) (r : As) : As := fun ρ s => (a ρ s).bind fun x s => match seqOf s x with | some xs => (r ρ s).bind fun ys s => .ok (xs ++ ys) s | none => .bad
def szl (n : Nat) : Bool := decide (n ≤ sizeLine)
def tupE (a : As) : E := fun ρ s => (a ρ s).bind fun xs s => if szl xs.length then .ok (.tup xs) s else .bad
def lstE (a : As) : E := fun ρ s => (a ρ s).bind fun xs s => if szl xs.length then .ok (.lst xs) s else .bad
def truthB (d : D) (s : S) : Option Bool := match d with
  | .non => some false
  | .bl b => some b
  | .int i => some (i != 0)
  | .str x => if szl x.length then some ((x.length : Int) != 0) else none
  | .tup xs => some (!xs.isEmpty)
  | .ktup xs => some (!xs.isEmpty)
  | .lst xs => some (!xs.isEmpty)
  | .fl xs => some (!xs.isEmpty)
  | .dct ks _ => some (!ks.isEmpty)
  | .ref a => match s[a]? with
    | some (.lst xs) => some (!xs.isEmpty)
    | some (.dct ks _) => some (!ks.isEmpty)
    | _ => none
  | _ => none
def truth (d : D) (s : S) : R Bool := match truthB d s with | some b => .ok b s | none => .bad
def truE (a : E) : T := fun ρ s => (a ρ s).bind truth
def boolE (d : D) (s : S) : R Bool := match d with | .bl b => .ok b s | _ => .bad
def tstE (a : E) : T := fun ρ s => (a ρ s).bind boolE
def andE (a b : E) : E := fun ρ s => (a ρ s).bind fun x s => (truth x s).bind fun k s => if k then b ρ s else .ok x s
def orE (a b : E) : E := fun ρ s => (a ρ s).bind fun x s => (truth x s).bind fun k s => if k then .ok x s else b ρ s
def notE (a : E) : E := fun ρ s => (a ρ s).bind fun x s => (truth x s).bind fun k s => .ok (.bl (!k)) s
def andT (a b : T) : T := fun ρ s => (a ρ s).bind fun k s => if k then b ρ s else .ok false s
def orT (a b : T) : T := fun ρ s => (a ρ s).bind fun k s => if k then .ok true s else b ρ s
def notT (a : T) : T := fun ρ s => (a ρ s).bind fun k s => .ok (!k) s
def ifE (t : T) (a b : E) : E := fun ρ s => (t ρ s).bind fun k s => if k then a ρ s else b ρ s
def chainE (o1 o2 : D → D → S → R D) (a b c : E) : E := fun ρ s => (a ρ s).bind fun x s => (b ρ s).bind fun y s => (o1 x y s).bind fun z s => (boolE z s).bind fun k s =>
  if k then (c ρ s).bind fun w s => o2 y w s else .ok (.bl false) s

/-! ### rules -/
section
variable {X : Cx} {W : WX} {pos : Pos} {e a b : Expr} {es : List Expr} {m ma mb : E} {ms : As} {t ta tb : T}
theorem qv (i : Nat) {x : Str} (hN : X.N[i]? = some x := by rfl) (hv : Vis X.env.scope x := by first | exact Or.inl rfl | exact Or.inr (Or.inl rfl) | exact Or.inr (Or.inr rfl)) (hd : (x == ("__debug__" : Str)) = false := by decide)
    (hcd : (x == ("__classdict__" : Str)) = false := by decide) : PE X (.Name x pos) (liftE (wd X) W (varE i)) := by
  refine pe_imp (pe_var hN hv hd hcd) fun σ H Q ⟨Fr, μ, ρ, s, he, hs, h⟩ => ?_
  unfold varE at h
  split at h
  · rename_i d ei
    obtain ⟨v, ev, r⟩ := he.v i d ei
    exact ⟨v, ev, runs_pure h hs r⟩
  · exact h.elim
theorem qb (i : Nat) {x : Str} (hN : X.N[i]? = some x := by rfl) (hv : Vis X.env.scope x := by first | exact Or.inl rfl | exact Or.inr (Or.inl rfl) | exact Or.inr (Or.inr rfl)) (hd : (x == ("__debug__" : Str)) = false := by decide)
    (hcd : (x == ("__classdict__" : Str)) = false := by decide) : PE X (.Name x pos) (liftB (wd X) W (borE i)) := by
  refine pe_imp (pe_var hN hv hd hcd) fun σ H Q ⟨Fr, μ, ρ, s, he, hs, h⟩ => ?_
  unfold borE at h
  split at h
  · rename_i d ei
    obtain ⟨v, ev, r⟩ := he.v i d ei
    exact ⟨v, ev, runs_pure h hs r.w⟩
  · rename_i d ei
    split at h
    · rename_i hd
      obtain ⟨p, ev, c, hm, hz, _⟩ := he.o i d ei
      exact ⟨_, ev, runs_pure h hs (.inr ⟨hd, p, rfl, hm, c⟩)⟩
    · exact h.elim
  · exact h.elim
theorem q_con {d : D} {v : V} (h : PE X e (tC v)) (r : ∀ μ H, RV (wd X) μ H d v) : PE X e (liftE (wd X) W (conE d)) :=
  pe_imp h fun σ H Q ⟨Fr, μ, ρ, s, he, hs, h⟩ => runs_pure (show runs (wd X) W σ μ H (RV (wd X)) Q (.ok d s) from h) hs (r μ H)
theorem q_int {i : Int} {j} : PE X (.Constant (.int i) j pos) (liftE (wd X) W (conE (.int i))) := q_con pe_int fun _ _ => by simp only [RV]
theorem q_bl {i : Bool} {j} : PE X (.Constant (.bool i) j pos) (liftE (wd X) W (conE (.bl i))) := q_con pe_bl fun _ _ => by simp only [RV]
theorem q_non {j} : PE X (.Constant .none j pos) (liftE (wd X) W (conE .non)) := q_con pe_non fun _ _ => by simp only [RV]
theorem q_str {x : Str} {j} : PE X (.Constant (.str x) j pos) (liftE (wd X) W (conE (.str x))) := q_con pe_str fun _ _ => by simp only [RV]
theorem q_gl {x : Str} {f : Addr} (hm : X.mg x = some (.ref f)) (hg : Gl X x := by rfl) (hd : (x == ("__debug__" : Str)) = false := by decide) : PE X (.Name x pos) (liftE (wd X) W (conE (.gl x))) :=
  q_con (pe_glob (v := .ref f) hg hm rfl hd) fun _ _ => by simp only [RV]; exact ⟨f, hm, rfl⟩
theorem q_ty {x : Str} {n : String} (hm : X.mg x = none) (hv : bootBuiltins x = some (.type n)) (hg : Gl X x := by rfl) (hn : x ≠ "__name__" := by decide) (hd : (x == ("__debug__" : Str)) = false := by decide) : PE X (.Name x pos) (liftE (wd X) W (conE (.ty n))) :=
  q_con (pe_bltn (v := .ty n) hg hm hv rfl hn hd) fun _ _ => by simp only [RV]
theorem q_gint {x : Str} {i : Int} {tk : Tok} (hm : X.mg x = some (.int i tk)) (hg : Gl X x := by rfl) (hd : (x == ("__debug__" : Str)) = false := by decide) : PE X (.Name x pos) (liftE (wd X) W (conE (.int i))) :=
  q_con (pe_glob (v := .int i) hg hm ⟨tk, rfl⟩ hd) fun _ _ => by simp only [RV]
/-- a name of the module that stands for a tuple of the written part -/
theorem q_gtup {x : Str} {p : Addr} {ds : List D} {ys : List V} (hm : X.mg x = some (.ref p)) (hk : ∀ H, SqT X.K H p ys) (hr : ∀ μ H, RVs (wd X) μ H ds ys) (hg : Gl X x := by rfl) (hd : (x == ("__debug__" : Str)) = false := by decide) : PE X (.Name x pos) (liftE (wd X) W (conE (.ktup ds))) :=
  q_con (pe_glob (v := .ref p) hg hm rfl hd) fun μ H => by simp only [RV]; exact ⟨p, ys, rfl, hk, hr μ H⟩

/-- an operation by values -/
def rL (g : Wd) (o : D → D → S → R D) : R2 := fun x y H Q => ∃ μ s d e, Rs g μ H s ∧ RW g μ H d x ∧ RW g μ H e y ∧ ∃ W σ, runs g W σ μ H (RF g H) Q (o d e s)
abbrev QOp (X : Cx) (f : Value → Value → Sem Value) (o : D → D → S → R D) : Prop := OpR X f (rL (wd X) o)
theorem runs_back {g : Wd} {σ : L2.St} {μ μ1 : M} {H H1 : Hp} {Q : VK} {r : R D} (x : Ex Fn0 μ H μ1 H1) (h : runs g W σ μ1 H1 (RF g H) Q r) : runs g W σ μ1 H1 (RF g H1) Q r :=
  runs_rel h fun a s μ' H' b _ y z w => ⟨μ', y, z, RF.back x w⟩
theorem bin_sound {g : Wd} {o : D → D → S → R D} {σ : L2.St} {H : Hp} {Q : VK} (h : liftF g W (binE o ma mb) σ H Q) : tOp (rL g o) (liftB g W ma) (liftB g W mb) σ H Q := by
  obtain ⟨Fr, μ, ρ, s, he, hs, h⟩ := h
  refine ⟨Fr, μ, ρ, s, he, hs, runs_bind (Rel1 := RW g) h fun d s1 μ1 H1 x e1 x1 hs1 r1 h1 => ?_⟩
  refine ⟨Fr, μ1, ρ, s1, he.mono x1, hs1, runs_bind (Rel1 := RW g) h1 fun d2 s2 μ2 H2 y e2 x2 hs2 r2 h2 => ?_⟩
  exact ⟨μ2, s2, d, d2, hs2, r1.mono x2, r2, W, σ, runs_back (x1.trans x2) h2⟩
theorem q_bin {op : Operator} {o : D → D → S → R D} (ho : QOp X (binaryOp op) o) (ha : PE X a (liftB (wd X) W ma)) (hb : PE X b (liftB (wd X) W mb)) : PE X (.BinOp a op b pos) (liftF (wd X) W (binE o ma mb)) :=
  pe_imp (pe_op ho ha hb) fun _ _ _ => bin_sound
theorem q_cmp {op : CmpOp} {o : D → D → S → R D} (ho : QOp X (compareOp op) o) (ha : PE X a (liftB (wd X) W ma)) (hb : PE X b (liftB (wd X) W mb)) (hm : behindInMarks op b = false := by first | exact nobehind _ (by decide) (by decide) | rfl) : PE X (.Compare a [op] [b] pos) (liftF (wd X) W (binE o ma mb)) :=
  pe_imp (pe_cmpR ho ha hb hm) fun _ _ _ => bin_sound
theorem tst_sound {g : Wd} {σ : L2.St} {H : Hp} {Q : Bool → Hp → Prop} (h : liftT g W (tstE m) σ H Q) : tTest (liftF g W m) σ H Q := by
  obtain ⟨Fr, μ, ρ, s, he, hs, h⟩ := h
  refine ⟨Fr, μ, ρ, s, he, hs, runs_bind (Rel1 := RF g H) h fun d s1 μ1 H1 x e1 x1 hs1 r1 h1 => ?_⟩
  cases d with
  | bl c =>
    have r1 : RV g μ1 H1 (.bl c) x := r1
    simp only [RV] at r1
    exact ⟨c, r1, runs_pure (show runs g W σ μ1 H1 RB Q (.ok c s1) from h1) hs1 rfl⟩
  | _ => exact h1.elim
theorem q_cmpT {op : CmpOp} {o : D → D → S → R D} (ho : QOp X (compareOp op) o) (ha : PE X a (liftB (wd X) W ma)) (hb : PE X b (liftB (wd X) W mb)) (hm : behindInMarks op b = false := by first | exact nobehind _ (by decide) (by decide) | rfl) : PT X (.Compare a [op] [b] pos) (liftT (wd X) W (tstE (binE o ma mb))) :=
  pt_imp (pt_cmpR ho ha hb hm) fun σ H Q h => bin_sound (tst_sound h)
theorem chain_sound {g : Wd} {mc : E} {o o' : D → D → S → R D} {σ : L2.St} {H : Hp} {Q : VK} (h : liftF g W (chainE o o' ma mb mc) σ H Q) : tChain (rL g o) (rL g o') (liftB g W ma) (liftB g W mb) (liftB g W mc) σ H Q := by
  obtain ⟨Fr, μ, ρ, s, he, hs, h⟩ := h
  refine ⟨Fr, μ, ρ, s, he, hs, runs_bind (Rel1 := RW g) h fun d s1 μ1 H1 x e1 x1 hs1 r1 h1 => ?_⟩
  refine ⟨Fr, μ1, ρ, s1, he.mono x1, hs1, runs_bind (Rel1 := RW g) h1 fun d2 s2 μ2 H2 y e2 x2 hs2 r2 h2 => ?_⟩
  refine ⟨μ2, s2, d, d2, hs2, r1.mono x2, r2, W, σ, runs_bind (Rel1 := RF g H2) h2 fun d3 s3 μ3 H3 z e3 x3 hs3 r3 h3 => ?_⟩
  cases d3 with
  | bl k =>
    have r3 : RV g μ3 H3 (.bl k) z := r3
    simp only [RV] at r3
    refine ⟨k, r3, ?_⟩
    have h4 : runs g W σ μ3 H3 (RF g H) Q (if k = true then (mc ρ s3).bind fun w s => o' d2 w s else .ok (.bl false) s3) := h3
    cases k with
    | true =>
      refine ⟨Fr, μ3, ρ, s3, ((he.mono x1).mono x2).mono x3, hs3, runs_bind (Rel1 := RW g) h4 fun d4 s4 μ4 H4 u e4 x4 hs4 r4 h5 => ?_⟩
      exact ⟨μ4, s4, d2, d4, hs4, (r2.mono x3).mono x4, r4, W, σ, runs_back (((x1.trans x2).trans x3).trans x4) h5⟩
    | false => exact runs_pure h4 hs3 (show RV g μ3 H3 (.bl false) _ by simp only [RV])
  | _ => exact h3.elim
theorem q_chain {op op' : CmpOp} {c : Expr} {mc : E} {o o' : D → D → S → R D} (ho : QOp X (compareOp op) o) (ho' : QOp X (compareOp op') o') (ha : PE X a (liftB (wd X) W ma)) (hb : PE X b (liftB (wd X) W mb)) (hc : PE X c (liftB (wd X) W mc)) (hm : lastMarks [op, op'] [b, c] = false := by rfl) :
    PE X (.Compare a [op, op'] [b, c] pos) (liftF (wd X) W (chainE o o' ma mb mc)) := pe_imp (pe_chain ho ho' ha hb hc hm) fun _ _ _ => chain_sound
theorem q_chainT {op op' : CmpOp} {c : Expr} {mc : E} {o o' : D → D → S → R D} (ho : QOp X (compareOp op) o) (ho' : QOp X (compareOp op') o') (ha : PE X a (liftB (wd X) W ma)) (hb : PE X b (liftB (wd X) W mb)) (hc : PE X c (liftB (wd X) W mc)) (hm : lastMarks [op, op'] [b, c] = false := by rfl) :
    PT X (.Compare a [op, op'] [b, c] pos) (liftT (wd X) W (tstE (chainE o o' ma mb mc))) := pt_imp (pt_chain ho ho' ha hb hc hm) fun σ H Q h => chain_sound (tst_sound h)
/-- truth -/
theorem len_iff {α β : Type} {xs : List α} {ys : List β} (h : xs.length = ys.length) : xs.isEmpty = ys.isEmpty := by cases xs <;> cases ys <;> simp_all
theorem keysD_len : ∀ {ks : List D} {kk : List Key}, keysD ks = some kk → ks.length = kk.length
  | [], kk, e => by simp only [keysD, Option.some.injEq] at e; subst e; rfl
  | k :: ks, kk, e => by
    simp only [keysD, Option.bind_eq_some_iff, Option.map_eq_some_iff] at e
    obtain ⟨k', _, r, e2, rfl⟩ := e
    simp [keysD_len e2]
theorem dk_tru {K : PySem.W.Frag} {H : Hp} {p : Addr} {ks : List D} {ys : List V} {k : Bool} (q : Dk H p ks ys) (l : ks.length = ys.length) (e : some (!ks.isEmpty) = some k) : TruV K (.ref p) H k := by
  obtain ⟨kk, ek, q⟩ := q
  cases e
  refine .inr (.inr ⟨_, q, ?_⟩)
  rw [len_iff (xs := ks) (ys := kk.zip ys) (by rw [List.length_zip, ← l, ← keysD_len ek]; simp)]
theorem truth_sound {g : Wd} {μ : M} {H : Hp} {s : S} {d : D} {x : V} {k : Bool} (hs : Rs g μ H s) (r : RW g μ H d x) (e : truthB d s = some k) : TruV g.K x H k := by
  rcases r with r | ⟨hd, p, rfl, hm, c⟩
  · cases d with
    | non => simp only [RV] at r; subst r; simp only [truthB, Option.some.injEq] at e; exact e.symm
    | bl c => simp only [RV] at r; subst r; simp only [truthB, Option.some.injEq] at e; exact e.symm
    | int i => simp only [RV] at r; subst r; simp only [truthB, Option.some.injEq] at e; exact e.symm
    | str y =>
      simp only [RV] at r; subst r
      simp only [truthB] at e
      split at e
      · rename_i hz
        cases e
        exact ⟨of_decide_eq_true hz, rfl⟩
      · cases e
    | tup xs =>
      simp only [RV] at r
      obtain ⟨p, ys, rfl, q, rr⟩ := r
      simp only [truthB, Option.some.injEq] at e
      refine .inr (.inl ⟨ys, SqT.of q, ?_⟩)
      rw [← e, len_iff rr.length]
    | ktup xs =>
      simp only [RV] at r
      obtain ⟨p, ys, rfl, q, rr⟩ := r
      simp only [truthB, Option.some.injEq] at e
      refine .inr (.inl ⟨ys, q H, ?_⟩)
      rw [← e, len_iff rr.length]
    | lst xs =>
      simp only [RV] at r
      obtain ⟨p, ys, rfl, _, q, rr⟩ := r
      simp only [truthB, Option.some.injEq] at e
      refine .inl ⟨ys, .inl (.inl q), ?_⟩
      rw [← e, len_iff rr.length]
    | fl xs =>
      simp only [RV] at r
      obtain ⟨p, ys, rfl, q, rr⟩ := r
      simp only [truthB, Option.some.injEq] at e
      refine .inl ⟨ys, q.sq, ?_⟩
      rw [← e, len_iff rr.length]
    | dct ks xs =>
      simp only [RV] at r
      obtain ⟨p, ys, rfl, _, q, l, _⟩ := r
      exact dk_tru q l e
    | ref a =>
      simp only [RV] at r
      obtain ⟨p, ep, rfl⟩ := r
      simp only [truthB] at e
      split at e
      · rename_i xs ei
        obtain ⟨ys, hp, rr⟩ := hs.at_ _ _ _ ei ep
        simp only [Option.some.injEq] at e
        refine .inl ⟨ys, .inl (.inl hp), ?_⟩
        rw [← e, len_iff rr.length]
      · rename_i ks xs ei
        obtain ⟨ys, q, l, _⟩ := hs.at_ _ _ _ ei ep
        exact dk_tru q l e
      · cases e
    | _ => cases e
  · cases d with
    | lst xs =>
      obtain ⟨ys, hp, rr⟩ := c
      simp only [truthB, Option.some.injEq] at e
      refine .inl ⟨ys, .inl (.inl hp), ?_⟩
      rw [← e, len_iff rr.length]
    | dct ks xs =>
      obtain ⟨ys, q, l, _⟩ := c
      exact dk_tru q l e
    | dtt _ _ => cases e
    | set _ => cases e
    | obj _ _ _ => cases e
    | _ => cases hd
theorem runs_truth {g : Wd} {σ : L2.St} {μ : M} {H : Hp} {s : S} {d : D} {x : V} {α β : Type} {Rel : M → Hp → α → β → Prop} {Q : β → Hp → Prop} {f : Bool → S → R α} (hs : Rs g μ H s) (r : RW g μ H d x)
    (h : runs g W σ μ H Rel Q ((truth d s).bind f)) : ∃ k, TruV g.K x H k ∧ runs g W σ μ H Rel Q (f k s) := by
  unfold truth at h
  cases e : truthB d s with
  | some k =>
    rw [e] at h
    exact ⟨k, truth_sound hs r e, h⟩
  | none => rw [e] at h; exact h.elim
theorem q_truT (ha : PE X a (liftB (wd X) W ma)) (he : ∀ whole, isTrue a X.env whole = (do let v ← whole; standAt a.pos; holding [v] (truthy v)) := by intro _; rfl) : PT X a (liftT (wd X) W (truE ma)) :=
  pt_imp (pt_truth ha he) fun σ H Q ⟨Fr, μ, ρ, s, he, hs, h⟩ => ⟨Fr, μ, ρ, s, he, hs, runs_bind (Rel1 := RW (wd X)) h fun d s1 μ1 H1 x e1 x1 hs1 r1 h1 => by
    have h2 : runs (wd X) W σ μ1 H1 RB Q ((truth d s1).bind fun k s => .ok k s) := by
      cases q : truth d s1 <;> rw [q] at h1 <;> exact h1
    obtain ⟨k, t, h3⟩ := runs_truth hs1 r1 h2
    exact ⟨k, t, runs_pure h3 hs1 rfl⟩⟩
theorem q_and {rest : List Expr} (ha : PE X a (liftE (wd X) W ma)) (hb : PE X (.BoolOp .And (b :: rest) pos) (liftE (wd X) W mb)) : PE X (.BoolOp .And (a :: b :: rest) pos) (liftE (wd X) W (andE ma mb)) :=
  pe_imp (pe_andT ha hb) fun σ H Q ⟨Fr, μ, ρ, s, he, hs, h⟩ => ⟨Fr, μ, ρ, s, he, hs, runs_bind (Rel1 := RV (wd X)) h fun d s1 μ1 H1 x e1 x1 hs1 r1 h1 => by
    obtain ⟨k, t, h3⟩ := runs_truth hs1 r1.w h1
    refine ⟨k, t, ?_⟩
    cases k with
    | true => exact ⟨Fr, μ1, ρ, s1, he.mono x1, hs1, h3⟩
    | false => exact runs_pure h3 hs1 r1⟩
theorem q_or {rest : List Expr} (ha : PE X a (liftE (wd X) W ma)) (hb : PE X (.BoolOp .Or (b :: rest) pos) (liftE (wd X) W mb)) : PE X (.BoolOp .Or (a :: b :: rest) pos) (liftE (wd X) W (orE ma mb)) :=
  pe_imp (pe_orT ha hb) fun σ H Q ⟨Fr, μ, ρ, s, he, hs, h⟩ => ⟨Fr, μ, ρ, s, he, hs, runs_bind (Rel1 := RV (wd X)) h fun d s1 μ1 H1 x e1 x1 hs1 r1 h1 => by
    obtain ⟨k, t, h3⟩ := runs_truth hs1 r1.w h1
    refine ⟨k, t, ?_⟩
    cases k with
    | true => exact runs_pure h3 hs1 r1
    | false => exact ⟨Fr, μ1, ρ, s1, he.mono x1, hs1, h3⟩⟩
theorem q_one {op} (ha : PE X a (liftE (wd X) W ma)) : PE X (.BoolOp op [a] pos) (liftE (wd X) W ma) := pe_one ha
theorem q_not (ha : PE X a (liftB (wd X) W ma)) : PE X (.UnaryOp .Not a pos) (liftE (wd X) W (notE ma)) :=
  pe_imp (pe_notT ha) fun σ H Q ⟨Fr, μ, ρ, s, he, hs, h⟩ => ⟨Fr, μ, ρ, s, he, hs, runs_bind (Rel1 := RW (wd X)) h fun d s1 μ1 H1 x e1 x1 hs1 r1 h1 => by
    obtain ⟨k, t, h3⟩ := runs_truth hs1 r1 h1
    exact ⟨k, t, runs_pure h3 hs1 (by simp only [RV])⟩⟩
/-- tests -/
theorem q_and1T (ha : PT X a (liftT (wd X) W ta)) : PW X (.BoolOp .And [a] pos) (liftT (wd X) W ta) := pw_and1 ha
theorem q_or1T (ha : PT X a (liftT (wd X) W ta)) : PW X (.BoolOp .Or [a] pos) (liftT (wd X) W ta) := pw_or1 ha
theorem q_andT {rest : List Expr} (ha : PT X a (liftT (wd X) W ta)) (hb : PW X (.BoolOp .And (b :: rest) pos) (liftT (wd X) W tb)) : PW X (.BoolOp .And (a :: b :: rest) pos) (liftT (wd X) W (andT ta tb)) :=
  pw_imp (pw_and ha hb) fun σ H Q ⟨Fr, μ, ρ, s, he, hs, h⟩ => ⟨Fr, μ, ρ, s, he, hs, runs_bind (Rel1 := RB) h fun d s1 μ1 H1 x e1 x1 hs1 r1 h1 => by
    obtain rfl : d = x := r1
    cases d with
    | true => exact ⟨Fr, μ1, ρ, s1, he.mono x1, hs1, h1⟩
    | false => exact runs_pure h1 hs1 rfl⟩
theorem q_orT {rest : List Expr} (ha : PT X a (liftT (wd X) W ta)) (hb : PW X (.BoolOp .Or (b :: rest) pos) (liftT (wd X) W tb)) : PW X (.BoolOp .Or (a :: b :: rest) pos) (liftT (wd X) W (orT ta tb)) :=
  pw_imp (pw_or ha hb) fun σ H Q ⟨Fr, μ, ρ, s, he, hs, h⟩ => ⟨Fr, μ, ρ, s, he, hs, runs_bind (Rel1 := RB) h fun d s1 μ1 H1 x e1 x1 hs1 r1 h1 => by
    obtain rfl : d = x := r1
    cases d with
    | true => exact runs_pure h1 hs1 rfl
    | false => exact ⟨Fr, μ1, ρ, s1, he.mono x1, hs1, h1⟩⟩
theorem q_notT (ha : PT X a (liftT (wd X) W ta)) : PT X (.UnaryOp .Not a pos) (liftT (wd X) W (notT ta)) :=
  pt_imp (pt_not ha) fun σ H Q ⟨Fr, μ, ρ, s, he, hs, h⟩ => ⟨Fr, μ, ρ, s, he, hs, runs_bind (Rel1 := RB) h fun d s1 μ1 H1 x e1 x1 hs1 r1 h1 => by
    obtain rfl : d = x := r1
    exact runs_pure h1 hs1 rfl⟩
theorem q_if {c : Expr} (hc : PT X c (liftT (wd X) W t)) (ha : PE X a (liftE (wd X) W ma)) (hb : PE X b (liftE (wd X) W mb)) : PE X (.IfExp c a b pos) (liftE (wd X) W (ifE t ma mb)) :=
  pe_imp (pe_ifExp hc ha hb) fun σ H Q ⟨Fr, μ, ρ, s, he, hs, h⟩ => ⟨Fr, μ, ρ, s, he, hs, runs_bind (Rel1 := RB) h fun d s1 μ1 H1 x e1 x1 hs1 r1 h1 => by
    obtain rfl : d = x := r1
    cases d with
    | true => exact ⟨Fr, μ1, ρ, s1, he.mono x1, hs1, h1⟩
    | false => exact ⟨Fr, μ1, ρ, s1, he.mono x1, hs1, h1⟩⟩
/-- arguments -/
theorem qa_nil : PA X [] (liftA (wd X) W nilA) := pa_imp pa_nil fun σ H Q ⟨Fr, μ, ρ, s, he, hs, h⟩ => runs_pure (show runs (wd X) W σ μ H (RVs (wd X)) Q (.ok [] s) from h) hs (by simp only [RVs])
theorem qa_cons (ha : PE X e (liftE (wd X) W ma)) (hr : PA X es (liftA (wd X) W ms)) (hs : starEach (e :: es) X.env = (false, eval e X.env) :: starEach es X.env := by rfl) : PA X (e :: es) (liftA (wd X) W (consA ma ms)) :=
  pa_imp (pa_cons ha hr hs) fun σ H Q ⟨Fr, μ, ρ, s, he, hs, h⟩ => ⟨Fr, μ, ρ, s, he, hs, runs_bind (Rel1 := RV (wd X)) h fun d s1 μ1 H1 x e1 x1 hs1 r1 h1 =>
    ⟨Fr, μ1, ρ, s1, he.mono x1, hs1, runs_bind (Rel1 := RVs (wd X)) h1 fun ds s2 μ2 H2 xs e2 x2 hs2 r2 h2 => runs_pure h2 hs2 (by simp only [RVs]; exact ⟨x, xs, rfl, r1.mono x2, r2⟩)⟩⟩
theorem qab_nil : PA X [] (liftAB (wd X) W nilA) := pa_imp pa_nil fun σ H Q ⟨Fr, μ, ρ, s, he, hs, h⟩ => runs_pure (show runs (wd X) W σ μ H (RWs (wd X)) Q (.ok [] s) from h) hs rfl
theorem qab_cons (ha : PE X e (liftB (wd X) W ma)) (hr : PA X es (liftAB (wd X) W ms)) (hs : starEach (e :: es) X.env = (false, eval e X.env) :: starEach es X.env := by rfl) : PA X (e :: es) (liftAB (wd X) W (consA ma ms)) :=
  pa_imp (pa_cons ha hr hs) fun σ H Q ⟨Fr, μ, ρ, s, he, hs, h⟩ => ⟨Fr, μ, ρ, s, he, hs, runs_bind (Rel1 := RW (wd X)) h fun d s1 μ1 H1 x e1 x1 hs1 r1 h1 =>
    ⟨Fr, μ1, ρ, s1, he.mono x1, hs1, runs_bind (Rel1 := RWs (wd X)) h1 fun ds s2 μ2 H2 xs e2 x2 hs2 r2 h2 => runs_pure h2 hs2 ⟨x, xs, rfl, r1.mono x2, r2⟩⟩⟩
theorem seqOf_sound {g : Wd} {μ : M} {H : Hp} {s : S} {d : D} {x : V} {xs : List D} (hs : Rs g μ H s) (r : RW g μ H d x) (e : seqOf s d = some xs) : ∃ p ys, x = .ref p ∧ (SqT g.K H p ys ∨ SqL g.K H p ys) ∧ RVs g μ H xs ys := by
  rcases r with r | ⟨hd, p, rfl, hm, c⟩
  · cases d with
    | tup ds =>
      simp only [RV] at r
      obtain ⟨p, ys, rfl, q, rr⟩ := r
      simp only [seqOf, Option.some.injEq] at e
      subst e
      exact ⟨p, ys, rfl, .inl (SqT.of q), rr⟩
    | ktup ds =>
      simp only [RV] at r
      obtain ⟨p, ys, rfl, q, rr⟩ := r
      simp only [seqOf, Option.some.injEq] at e
      subst e
      exact ⟨p, ys, rfl, .inl (q H), rr⟩
    | lst ds =>
      simp only [RV] at r
      obtain ⟨p, ys, rfl, _, q, rr⟩ := r
      simp only [seqOf, Option.some.injEq] at e
      subst e
      exact ⟨p, ys, rfl, .inr (.inl (.inl q)), rr⟩
    | fl ds =>
      simp only [RV] at r
      obtain ⟨p, ys, rfl, q, rr⟩ := r
      simp only [seqOf, Option.some.injEq] at e
      subst e
      exact ⟨p, ys, rfl, .inr q.sq, rr⟩
    | ref a =>
      simp only [RV] at r
      obtain ⟨p, ep, rfl⟩ := r
      simp only [seqOf] at e
      split at e
      · rename_i zs ei
        cases e
        obtain ⟨ys, hp, rr⟩ := hs.at_ _ _ _ ei ep
        exact ⟨p, ys, rfl, .inr (.inl (.inl hp)), rr⟩
      · cases e
    | _ => cases e
  · cases d with
    | lst ds =>
      obtain ⟨ys, hp, rr⟩ := c
      simp only [seqOf, Option.some.injEq] at e
      subst e
      exact ⟨p, ys, rfl, .inr (.inl (.inl hp)), rr⟩
    | tup _ => cases hd
    | ktup _ => cases hd
    | fl _ => cases hd
    | ref _ => cases hd
    | _ => cases e
theorem qa_star {p : Pos} (ha : PE X e (liftB (wd X) W ma)) (hr : PA X es (liftA (wd X) W ms)) (hs : starEach (.Starred e p :: es) X.env = (true, eval e X.env) :: starEach es X.env := by rfl) : PA X (.Starred e p :: es) (liftA (wd X) W (starA ma ms)) :=
  pa_imp (StX.pa_star ha hr hs) fun σ H Q ⟨Fr, μ, ρ, s, he, hs, h⟩ => ⟨Fr, μ, ρ, s, he, hs, runs_bind (Rel1 := RW (wd X)) h fun d s1 μ1 H1 x e1 x1 hs1 r1 h1 => by
    split at h1
    · rename_i zs ez
      obtain ⟨p, ys, rfl, q, rr⟩ := seqOf_sound hs1 r1 ez
      exact ⟨p, ys, rfl, q, Fr, μ1, ρ, s1, he.mono x1, hs1, runs_bind (Rel1 := RVs (wd X)) h1 fun ds s2 μ2 H2 xs e2 x2 hs2 r2 h2 => runs_pure h2 hs2 ((rr.mono x2).append r2)⟩
    · exact h1.elim⟩
/-- displays -/
theorem rv_new {g : Wd} {μ : M} {H : Hp} {p : Addr} {ds : List D} {xs : List V} (e : H p = none) (r : RVs g μ H ds xs) : RV g μ (upd H p (.tup xs)) (.tup ds) (.ref p) := by
  simp only [RV]
  exact ⟨p, xs, rfl, upd_same, r.mono (ex_new (Fr := Fn0) e)⟩
theorem rv_tup {g : Wd} {σ : L2.St} {μ : M} {H H0 : Hp} {s : S} {ds : List D} {xs : List V} {Q : VK} (hs : Rs g μ H s) (r : RVs g μ H ds xs) (h : runs g W σ μ H (RF g H0) Q (.ok (.tup ds) s)) : ∀ p, H p = none → Q (.ref p) (upd H p (.tup xs)) :=
  fun p hp => h μ _ _ (ex_new hp) (hs.new hp) (show RV g μ _ (.tup ds) _ from rv_new hp r)
theorem runs_tup {g : Wd} {σ : L2.St} {μ : M} {H : Hp} {s : S} {ds : List D} {xs : List V} {Q : VK} (hs : Rs g μ H s) (r : RVs g μ H ds xs) (h : runs g W σ μ H (RV g) Q (.ok (.tup ds) s)) : ∀ p, H p = none → Q (.ref p) (upd H p (.tup xs)) :=
  fun p hp => h μ _ _ (ex_new hp) (hs.new hp) (rv_new hp r)
theorem nw_new {g : Wd} {μ : M} {H H0 : Hp} {s : S} {d : D} {p : Addr} {ho : HO} (hs : Rs g μ H s) (hp : H p = none) (h0 : H0 p = none) (hd : d.heavy = true) (c : Ce g μ (upd H p ho) p d) : RF g H0 μ (upd H p ho) d (.ref p) := by
  unfold RF
  rw [if_pos hd]
  exact ⟨p, rfl, h0, hs.nmem hp, hs.nz hp, c⟩
theorem runs_lst {g : Wd} {σ : L2.St} {μ0 μ : M} {H0 H : Hp} {s : S} {ds : List D} {xs : List V} {Q : VK} (hs : Rs g μ H s) (x : Ex Fn0 μ0 H0 μ H) (r : RVs g μ H ds xs) (h : runs g W σ μ H (RF g H0) Q (.ok (.lst ds) s)) : ∀ p, H p = none → Q (.ref p) (upd H p (.lst xs)) :=
  fun p hp => h μ _ _ (ex_new hp) (hs.new hp) (nw_new hs hp (x.trk p hp) rfl ⟨xs, upd_same, r.mono (ex_new (Fr := Fn0) hp)⟩)
theorem q_tup {k : Nat} (ha : PA X es (liftA (wd X) W ms)) : PE X (.Tuple es k pos) (liftE (wd X) W (tupE ms)) :=
  pe_imp (pe_tup ha) fun σ H Q ⟨Fr, μ, ρ, s, he, hs, h⟩ => ⟨Fr, μ, ρ, s, he, hs, runs_bind (Rel1 := RVs (wd X)) h fun ds s1 μ1 H1 xs e1 x1 hs1 r1 h1 => by
    split at h1
    · rename_i hz
      exact ⟨by rw [← r1.length]; exact of_decide_eq_true hz, runs_tup hs1 r1 h1⟩
    · exact h1.elim⟩
theorem q_lst (ha : PA X es (liftA (wd X) W ms)) : PE X (.List es pos) (liftF (wd X) W (lstE ms)) :=
  pe_imp (pe_lst ha) fun σ H Q ⟨Fr, μ, ρ, s, he, hs, h⟩ => ⟨Fr, μ, ρ, s, he, hs, runs_bind (Rel1 := RVs (wd X)) h fun ds s1 μ1 H1 xs e1 x1 hs1 r1 h1 => by
    split at h1
    · rename_i hz
      exact ⟨by rw [← r1.length]; exact of_decide_eq_true hz, runs_lst hs1 x1 r1 h1⟩
    · exact h1.elim⟩
end
end Fv

namespace Fv
open PySem PySem.Spec PyProof.Rows L2
/-! ### operations -/
/-- a list that stands as such -/
def lstOf (s : S) : D → Option (List D)
  | .lst xs => some xs
  | .ref a => match s[a]? with | some (.lst xs) => some xs | _ => none
  | _ => none
def tupOf : D → Option (List D)
  | .tup xs => some xs
  | .ktup xs => some xs
  | _ => none
def b2I (b : Bool) : Int := if b then 1 else 0
def addD (x y : D) (s : S) : R D := match x, y with
  | .int i, .int j => .ok (.int (i + j)) s
  | .int i, .bl j => .ok (.int (i + b2I j)) s
  | .str a, .str b => if szl (a.length + b.length) then .ok (.str (a ++ b)) s else .bad
  | x, y => match lstOf s x, lstOf s y with
    | some xs, some ys => if szl (xs.length + ys.length) then .ok (.lst (xs ++ ys)) s else .bad
    | _, _ => match tupOf x, tupOf y with
      | some xs, some ys => if szl (xs.length + ys.length) then .ok (if xs = [] then y else if ys = [] then x else .tup (xs ++ ys)) s else .bad
      | _, _ => .bad
def subD (x y : D) (s : S) : R D := match x, y with
  | .int i, .int j => .ok (.int (i - j)) s
  | _, _ => .bad
def mulOk (i j : Int) : Bool := decide (i.natAbs.log2 + j.natAbs.log2 < 1000000)
def mulD (x y : D) (s : S) : R D := match x, y with
  | .int i, .int j => if mulOk i j then .ok (.int (i * j)) s else .bad
  | x, .int k => match lstOf s x with
    | some xs => if decide (-(2 ^ 63) ≤ k ∧ k < 2 ^ 63) && szl (xs.length * k.toNat) then .ok (.lst (List.replicate k.toNat xs).flatten) s else .bad
    | _ => .bad
  | _, _ => .bad
def divOk (j : Int) : Bool := decide (0 < j ∧ j.natAbs.log2 < 9000)
def fdivD (x y : D) (s : S) : R D := match x, y with
  | .int i, .int j => if divOk j then .ok (.int (i / j)) s else .bad
  | _, _ => .bad
def modD (x y : D) (s : S) : R D := match x, y with
  | .int i, .int j => if decide (0 < j) then .ok (.int (i % j)) s else .bad
  | _, _ => .bad
def powOk (i j : Int) : Bool := decide (0 ≤ j ∧ j ≤ 1000000 ∧ i.natAbs < 2 ^ 64)
def powD (x y : D) (s : S) : R D := match x, y with
  | .int i, .int j => if powOk i j then .ok (.int (i ^ j.toNat)) s else .bad
  | _, _ => .bad
def shlD (x y : D) (s : S) : R D := match x, y with
  | .int i, .int j => if powOk i j then .ok (.int (i * 2 ^ j.toNat)) s else .bad
  | _, _ => .bad
def shrD (x y : D) (s : S) : R D := match x, y with
  | .int i, .int j => if decide (0 ≤ j) then .ok (.int (i / 2 ^ j.toNat)) s else .bad
  | _, _ => .bad
def bandD (x y : D) (s : S) : R D := match x, y with
  | .int i, .int j => .ok (.int (Builtin.bitAnd i j)) s
  | _, _ => .bad
def borD (x y : D) (s : S) : R D := match x, y with
  | .int i, .int j => .ok (.int (Builtin.bitOr i j)) s
  | _, _ => .bad
def bxorD (x y : D) (s : S) : R D := match x, y with
  | .int i, .int j => .ok (.int (Builtin.bitXor i j)) s
  | _, _ => .bad
def strLt (x y : Tx) : Bool := decide (x.cps.toList < y.cps.toList)
def ltD (x y : D) (s : S) : R D := match x, y with
  | .int i, .int j => .ok (.bl (decide (i < j))) s
  | .str a, .str b => .ok (.bl (strLt a b)) s
  | _, _ => .bad
def leD (x y : D) (s : S) : R D := match x, y with
  | .int i, .int j => .ok (.bl (decide (i ≤ j))) s
  | .str a, .str b => .ok (.bl (!strLt b a)) s
  | _, _ => .bad
def gtD (x y : D) (s : S) : R D := match x, y with
  | .int i, .int j => .ok (.bl (decide (j < i))) s
  | .str a, .str b => .ok (.bl (strLt b a)) s
  | _, _ => .bad
def geD (x y : D) (s : S) : R D := match x, y with
  | .int i, .int j => .ok (.bl (decide (j ≤ i))) s
  | .str a, .str b => .ok (.bl (!strLt a b)) s
  | _, _ => .bad
def isNone : D → Bool | .non => true | _ => false
def isD (x y : D) (s : S) : R D := match x, y with
  | x, .non => .ok (.bl (isNone x)) s
  | .bl a, .bl b => .ok (.bl (a == b)) s
  | _, _ => .bad
def isnotD (x y : D) (s : S) : R D := match x, y with
  | x, .non => .ok (.bl (!isNone x)) s
  | .bl a, .bl b => .ok (.bl (!(a == b))) s
  | _, _ => .bad
def negD (x : D) (s : S) : R D := match x with | .int i => .ok (.int (-i)) s | _ => .bad
def invD (x : D) (s : S) : R D := match x with | .int i => .ok (.int (Builtin.bitNot i)) s | _ => .bad
/-! as plain data -/
mutual
def toPw (rf : Nat → Option PyData) : D → Option PyData
  | .non => some .none
  | .bl b => some (.bool b)
  | .int i => some (.int i)
  | .str s => some (.str s)
  | .tup ds => (toPws rf ds).map .tuple
  | .ktup ds => (toPws rf ds).map .tuple
  | .lst ds => (toPws rf ds).map .list
  | .fl ds => (toPws rf ds).map .list
  | .ref a => rf a
  | _ => none
def toPws (rf : Nat → Option PyData) : List D → Option (List PyData)
  | [] => some []
  | d :: ds => match toPw rf d, toPws rf ds with
    | some p, some ps => some (p :: ps)
    | _, _ => none
end
def rfN : Nat → S → Nat → Option PyData
  | 0, _, _ => none
  | n + 1, s, a => match s[a]? with
    | some (.lst xs) => (toPws (rfN n s) xs).map .list
    | _ => none
def toP (s : S) (d : D) : Option PyData := toPw (rfN 60 s) d
/-- == where both are none, bools, ints, texts -/
def scE : D → D → Option Bool
  | .non, .non => some true | .non, .int _ => some false | .int _, .non => some false | .non, .bl _ => some false | .bl _, .non => some false | .non, .str _ => some false | .str _, .non => some false
  | .int i, .int j => some (i == j) | .bl a, .bl b => some (a == b) | .str x, .str y => some (x == y)
  | .int _, .str _ => some false | .str _, .int _ => some false | .bl _, .str _ => some false | .str _, .bl _ => some false
  | _, _ => none
def eqB (s : S) (x y : D) : Option Bool := match scE x y with
  | some b => some b
  | none => match toP s x, toP s y with
    | some p, some q => if SeqAt.shaped p && SeqAt.shaped q then some (PyData.eqv p q) else none
    | _, _ => none
def eqD (x y : D) (s : S) : R D := match eqB s x y with | some b => .ok (.bl b) s | none => .bad
def neD (x y : D) (s : S) : R D := match eqB s x y with | some b => .ok (.bl (!b)) s | none => .bad
section
variable {g : Wd} {W : WX} {σ : L2.St} {μ : M} {H H0 : Hp} {s : S} {Q : VK}
/-- a light answer -/
theorem rf_pure {d : D} {x : V} (h : runs g W σ μ H (RF g H) Q (.ok d s)) (hs : Rs g μ H s) (hd : d.heavy = false) (r : RV g μ H d x) : Q x H := runs_pure h hs (by unfold RF; rw [hd]; exact r)
theorem rf_bl {k : Bool} (h : runs g W σ μ H (RF g H) Q (.ok (.bl k) s)) (hs : Rs g μ H s) : Q (.bl k) H := rf_pure h hs rfl (by simp only [RV])
theorem rf_int {k : Int} (h : runs g W σ μ H (RF g H) Q (.ok (.int k) s)) (hs : Rs g μ H s) : Q (.int k) H := rf_pure h hs rfl (by simp only [RV])
theorem rf_str {k : Tx} (h : runs g W σ μ H (RF g H) Q (.ok (.str k) s)) (hs : Rs g μ H s) : Q (.str k) H := rf_pure h hs rfl (by simp only [RV])
theorem rf_lst {ds : List D} {xs : List V} (h : runs g W σ μ H (RF g H) Q (.ok (.lst ds) s)) (hs : Rs g μ H s) (r : RVs g μ H ds xs) : ∀ p, H p = none → Q (.ref p) (upd H p (.lst xs)) := runs_lst hs Ex.refl r h
theorem w_int {i : Int} {x : V} (r : RW g μ H (.int i) x) : x = .int i := by have := r.light rfl; simpa only [RV] using this
theorem w_str {i : Tx} {x : V} (r : RW g μ H (.str i) x) : x = .str i := by have := r.light rfl; simpa only [RV] using this
theorem w_bl {i : Bool} {x : V} (r : RW g μ H (.bl i) x) : x = .bl i := by have := r.light rfl; simpa only [RV] using this
theorem w_non {x : V} (r : RW g μ H .non x) : x = .non := by have := r.light rfl; simpa only [RV] using this
theorem w_ty {n : String} {x : V} (r : RW g μ H (.ty n) x) : x = .ty n := by have := r.light rfl; simpa only [RV] using this
theorem lstOf_sound {d : D} {x : V} {xs : List D} (hs : Rs g μ H s) (r : RW g μ H d x) (e : lstOf s d = some xs) : ∃ p ys, x = .ref p ∧ H p = some (.lst ys) ∧ RVs g μ H xs ys := by
  rcases r with r | ⟨hd, p, rfl, hm, c⟩
  · cases d with
    | lst ds =>
      simp only [RV] at r
      obtain ⟨p, ys, rfl, _, q, rr⟩ := r
      simp only [lstOf, Option.some.injEq] at e
      subst e
      exact ⟨p, ys, rfl, q, rr⟩
    | ref a =>
      simp only [RV] at r
      obtain ⟨p, ep, rfl⟩ := r
      simp only [lstOf] at e
      split at e
      · rename_i zs ei
        cases e
        obtain ⟨ys, hp, rr⟩ := hs.at_ _ _ _ ei ep
        exact ⟨p, ys, rfl, hp, rr⟩
      · cases e
    | _ => cases e
  · cases d with
    | lst ds =>
      obtain ⟨ys, hp, rr⟩ := c
      simp only [lstOf, Option.some.injEq] at e
      subst e
      exact ⟨p, ys, rfl, hp, rr⟩
    | ref a => cases hd
    | _ => cases e
theorem tupOf_light {d : D} {xs : List D} (e : tupOf d = some xs) : d.heavy = false := by cases d <;> first | rfl | cases e
theorem tupOf_sound {d : D} {x : V} {xs : List D} (r : RW g μ H d x) (e : tupOf d = some xs) : ∃ p ys, x = .ref p ∧ SqT g.K H p ys ∧ RVs g μ H xs ys := by
  have r := r.light (tupOf_light e)
  cases d with
  | tup ds =>
    simp only [RV] at r
    obtain ⟨p, ys, rfl, q, rr⟩ := r
    simp only [tupOf, Option.some.injEq] at e
    subst e
    exact ⟨p, ys, rfl, SqT.of q, rr⟩
  | ktup ds =>
    simp only [RV] at r
    obtain ⟨p, ys, rfl, q, rr⟩ := r
    simp only [tupOf, Option.some.injEq] at e
    subst e
    exact ⟨p, ys, rfl, q H, rr⟩
  | _ => cases e
theorem RVs.nil_iff {xs : List D} {ys : List V} (r : RVs g μ H xs ys) : xs = [] ↔ ys = [] := by
  have := r.length
  cases xs <;> cases ys <;> simp_all
mutual
theorem toPw_sound {rf : Nat → Option PyData} (hr : ∀ a p d, μ.m[a]? = some p → rf a = some d → Dp g.K H (.ref p) d) : ∀ {d : D} {x : V} {p : PyData}, RV g μ H d x → toPw rf d = some p → Dp g.K H x p
  | .non, _, _, r, e => by simp only [RV] at r; subst r; simp only [toPw, Option.some.injEq] at e; subst e; exact .non
  | .bl _, _, _, r, e => by simp only [RV] at r; subst r; simp only [toPw, Option.some.injEq] at e; subst e; exact .bl _
  | .int _, _, _, r, e => by simp only [RV] at r; subst r; simp only [toPw, Option.some.injEq] at e; subst e; exact .int _
  | .str _, _, _, r, e => by simp only [RV] at r; subst r; simp only [toPw, Option.some.injEq] at e; subst e; exact .str _
  | .ref a, _, _, r, e => by
    simp only [RV] at r
    obtain ⟨q, eq, rfl⟩ := r
    simp only [toPw] at e
    exact hr a q _ eq e
  | .tup ds, _, _, r, e => by
    simp only [RV] at r
    obtain ⟨q, ys, rfl, sq, rr⟩ := r
    simp only [toPw, Option.map_eq_some_iff] at e
    obtain ⟨ps, e1, rfl⟩ := e
    exact .tup (SqT.of sq) (toPws_sound hr rr e1)
  | .ktup ds, _, _, r, e => by
    simp only [RV] at r
    obtain ⟨q, ys, rfl, sq, rr⟩ := r
    simp only [toPw, Option.map_eq_some_iff] at e
    obtain ⟨ps, e1, rfl⟩ := e
    exact .tup (sq H) (toPws_sound hr rr e1)
  | .lst ds, _, _, r, e => by
    simp only [RV] at r
    obtain ⟨q, ys, rfl, _, sq, rr⟩ := r
    simp only [toPw, Option.map_eq_some_iff] at e
    obtain ⟨ps, e1, rfl⟩ := e
    exact .lst (.inl (.inl sq)) (toPws_sound hr rr e1)
  | .fl ds, _, _, r, e => by
    simp only [RV] at r
    obtain ⟨q, ys, rfl, sq, rr⟩ := r
    simp only [toPw, Option.map_eq_some_iff] at e
    obtain ⟨ps, e1, rfl⟩ := e
    exact .lst sq.sq (toPws_sound hr rr e1)
  | .ty _, _, _, _, e => by simp only [toPw] at e; cases e
  | .gl _, _, _, _, e => by simp only [toPw] at e; cases e
  | .dct _ _, _, _, _, e => by simp only [toPw] at e; cases e
  | .dtt _ _, _, _, _, e => by simp only [toPw] at e; cases e
  | .set _, _, _, _, e => by simp only [toPw] at e; cases e
  | .obj _ _ _, _, _, _, e => by simp only [toPw] at e; cases e
  | .exc _ _, _, _, _, e => by simp only [toPw] at e; cases e
  | .xn _ _, _, _, _, e => by simp only [toPw] at e; cases e
  | .exh _ _ _, _, _, _, e => by simp only [toPw] at e; cases e
  | .exq _, _, _, _, e => by simp only [toPw] at e; cases e
theorem toPws_sound {rf : Nat → Option PyData} (hr : ∀ a p d, μ.m[a]? = some p → rf a = some d → Dp g.K H (.ref p) d) : ∀ {ds : List D} {xs : List V} {ps : List PyData}, RVs g μ H ds xs → toPws rf ds = some ps → DpAll g.K H xs ps
  | [], _, _, r, e => by simp only [RVs] at r; subst r; simp only [toPws, Option.some.injEq] at e; subst e; exact .nil
  | d :: ds, _, _, r, e => by
    simp only [RVs] at r
    obtain ⟨y, r', rfl, a, b⟩ := r
    simp only [toPws] at e
    split at e
    · rename_i p ps e1 e2
      cases e
      exact .cons (toPw_sound hr a e1) (toPws_sound hr b e2)
    · cases e
end
theorem rfN_sound (hs : Rs g μ H s) : ∀ (n : Nat) (a : Nat) (p : Addr) (d : PyData), μ.m[a]? = some p → rfN n s a = some d → Dp g.K H (.ref p) d
  | 0, _, _, _, _, e => by cases e
  | n + 1, a, p, d, ep, e => by
    simp only [rfN] at e
    split at e
    · rename_i xs ei
      simp only [Option.map_eq_some_iff] at e
      obtain ⟨ps, e2, rfl⟩ := e
      obtain ⟨ys, q, rr⟩ := hs.at_ _ _ _ ei ep
      exact .lst (.inl (.inl q)) (toPws_sound (rfN_sound hs n) rr e2)
    · cases e
theorem toP_sound {d : D} {x : V} {p : PyData} (hs : Rs g μ H s) (r : RW g μ H d x) (e : toP s d = some p) : Dp g.K H x p := by
  rcases r with r | ⟨hd, q, rfl, hm, c⟩
  · exact toPw_sound (rfN_sound hs 60) r e
  · unfold toP at e
    cases d with
    | lst ds =>
      obtain ⟨ys, hp, rr⟩ := c
      simp only [toPw, Option.map_eq_some_iff] at e
      obtain ⟨ps, e1, rfl⟩ := e
      exact .lst (.inl (.inl hp)) (toPws_sound (rfN_sound hs 60) rr e1)
    | dct _ _ => simp only [toPw] at e; cases e
    | dtt _ _ => simp only [toPw] at e; cases e
    | set _ => simp only [toPw] at e; cases e
    | obj _ _ _ => simp only [toPw] at e; cases e
    | _ => cases hd
theorem scE_sound {d e : D} {x y : V} {b : Bool} (r1 : RW g μ H d x) (r2 : RW g μ H e y) (h : scE d e = some b) : scal x y = true ∧ b = decide (x = y) := by
  have l1 : d.heavy = false := by cases d <;> first | rfl | (cases e <;> cases h)
  have l2 : e.heavy = false := by cases e <;> first | rfl | (cases d <;> cases h)
  have r1 := r1.light l1
  have r2 := r2.light l2
  cases d <;> cases e <;> simp only [scE, Option.some.injEq, reduceCtorEq] at h <;> simp only [RV] at r1 r2 <;> subst r1 <;> subst r2 <;> subst h <;> refine ⟨rfl, ?_⟩
  all_goals first | rfl | (rw [dec_bl]) | (rw [dec_int]) | (rw [dec_str])
theorem eqB_sound {d e : D} {x y : V} {b : Bool} (hs : Rs g μ H s) (r1 : RW g μ H d x) (r2 : RW g μ H e y) (h : eqB s d e = some b) :
    (scal x y = true ∧ b = decide (x = y)) ∨ ∃ p q, Dp g.K H x p ∧ Dp g.K H y q ∧ SeqAt.shaped p = true ∧ SeqAt.shaped q = true ∧ b = PyData.eqv p q := by
  unfold eqB at h
  split at h
  · rename_i c hc
    cases h
    exact .inl (scE_sound r1 r2 hc)
  · split at h
    · rename_i p q e1 e2
      split at h
      · rename_i hz
        cases h
        simp only [Bool.and_eq_true] at hz
        exact .inr ⟨p, q, toP_sound hs r1 e1, toP_sound hs r2 e2, hz.1, hz.2, rfl⟩
      · cases h
    · cases h
theorem isNone_sound {d : D} {x : V} (r : RW g μ H d x) : isNone d = decide (x = .non) := by
  rcases r with r | ⟨hd, q, rfl, _⟩
  · cases d <;> simp only [RV] at r <;> (try obtain ⟨_, rfl, _⟩ := r) <;> (try obtain ⟨_, _, rfl, _⟩ := r) <;> (try obtain ⟨_, _, rfl⟩ := r) <;> (try obtain ⟨_, _, _, _, rfl, _⟩ := r) <;> (try subst r) <;> first | rfl | exact r.elim
  · cases d <;> first | rfl | cases hd
end
section
variable {X : Cx}
theorem qo_add : QOp X (binaryOp .Add) addD := by
  intro pins sh σ H x y v u Q I rx ry ⟨μ, s, d, e, hs, r1, r2, W, σ', h⟩
  unfold addD at h
  split at h
  · obtain rfl := w_int r1; obtain rfl := w_int r2
    exact op_add pins sh σ H _ _ v u Q I rx ry ⟨_, _, rfl, rfl, rf_int h hs⟩
  · rename_i i j
    obtain rfl := w_int r1; obtain rfl := w_bl r2
    exact op_add_ib pins sh σ H _ _ v u Q I rx ry ⟨_, _, rfl, rfl, by have := rf_int h hs; cases j <;> exact this⟩
  · obtain rfl := w_str r1; obtain rfl := w_str r2
    split at h
    · rename_i hz
      exact op_add_str pins sh σ H _ _ v u Q I rx ry ⟨_, _, rfl, rfl, of_decide_eq_true hz, rf_str h hs⟩
    · exact h.elim
  · split at h
    · rename_i xs ys h1 h2
      split at h
      · rename_i hz
        obtain ⟨p, vs, rfl, hp, rr1⟩ := lstOf_sound hs r1 h1
        obtain ⟨q, us, rfl, hq, rr2⟩ := lstOf_sound hs r2 h2
        exact op_cat pins sh σ H _ _ v u Q I rx ry ⟨p, q, vs, us, rfl, rfl, hp, hq, by rw [← rr1.length, ← rr2.length]; exact of_decide_eq_true hz, rf_lst h hs (rr1.append rr2)⟩
      · exact h.elim
    · split at h
      · rename_i xs ys h1 h2
        split at h
        · rename_i hz
          obtain ⟨p, vs, rfl, q1, rr1⟩ := tupOf_sound r1 h1
          obtain ⟨q, us, rfl, q2, rr2⟩ := tupOf_sound r2 h2
          refine op_catA pins sh σ H _ _ v u Q I rx ry ⟨p, q, vs, us, rfl, rfl, q1, q2, by rw [← rr1.length, ← rr2.length]; exact of_decide_eq_true hz, fun e0 => ?_, fun n0 e0 => ?_, fun n0 n1 => ?_⟩
          · rw [if_pos (rr1.nil_iff.mpr e0)] at h
            exact rf_pure h hs (tupOf_light h2) (r2.light (tupOf_light h2))
          · rw [if_neg (fun z => n0 (rr1.nil_iff.mp z)), if_pos (rr2.nil_iff.mpr e0)] at h
            exact rf_pure h hs (tupOf_light h1) (r1.light (tupOf_light h1))
          · rw [if_neg (fun z => n0 (rr1.nil_iff.mp z)), if_neg (fun z => n1 (rr2.nil_iff.mp z))] at h
            exact rv_tup hs (rr1.append rr2) h
        · exact h.elim
      · exact h.elim
theorem qo_sub : QOp X (binaryOp .Sub) subD := by
  intro pins sh σ H x y v u Q I rx ry ⟨μ, s, d, e, hs, r1, r2, W, σ', h⟩
  unfold subD at h
  split at h
  · obtain rfl := w_int r1; obtain rfl := w_int r2
    exact op_sub pins sh σ H _ _ v u Q I rx ry ⟨_, _, rfl, rfl, rf_int h hs⟩
  · exact h.elim
theorem rep_rvs {g : Wd} {μ : M} {H : Hp} {xs : List D} {vs : List V} (r : RVs g μ H xs vs) : ∀ n, RVs g μ H (List.replicate n xs).flatten (List.replicate n vs).flatten
  | 0 => by simp [RVs]
  | n + 1 => by simpa [List.replicate_succ] using r.append (rep_rvs r n)
theorem qo_mul : QOp X (binaryOp .Mult) mulD := by
  intro pins sh σ H x y v u Q I rx ry ⟨μ, s, d, e, hs, r1, r2, W, σ', h⟩
  unfold mulD at h
  split at h
  · obtain rfl := w_int r1; obtain rfl := w_int r2
    split at h
    · rename_i hz
      exact op_mulW pins sh σ H _ _ v u Q I rx ry ⟨_, _, rfl, rfl, of_decide_eq_true (p := _ < _) hz, rf_int h hs⟩
    · exact h.elim
  · obtain rfl := w_int r2
    split at h
    · rename_i xs h1
      split at h
      · rename_i hz
        simp only [Bool.and_eq_true, decide_eq_true_eq] at hz
        obtain ⟨p, vs, rfl, hp, rr1⟩ := lstOf_sound hs r1 h1
        exact op_rep pins sh σ H _ _ v u Q I rx ry ⟨p, _, vs, rfl, rfl, hp, hz.1.1, hz.1.2, by rw [← rr1.length]; exact of_decide_eq_true hz.2, rf_lst h hs (rep_rvs rr1 _)⟩
      · exact h.elim
    · exact h.elim
  · exact h.elim
theorem qo_fdiv : QOp X (binaryOp .FloorDiv) fdivD := by
  intro pins sh σ H x y v u Q I rx ry ⟨μ, s, d, e, hs, r1, r2, W, σ', h⟩
  unfold fdivD at h
  split at h
  · obtain rfl := w_int r1; obtain rfl := w_int r2
    split at h
    · rename_i hz
      exact op_fdivW pins sh σ H _ _ v u Q I rx ry ⟨_, _, rfl, rfl, of_decide_eq_true (p := _ ∧ _) hz, rf_int h hs⟩
    · exact h.elim
  · exact h.elim
theorem qo_mod : QOp X (binaryOp .Mod) modD := by
  intro pins sh σ H x y v u Q I rx ry ⟨μ, s, d, e, hs, r1, r2, W, σ', h⟩
  unfold modD at h
  split at h
  · obtain rfl := w_int r1; obtain rfl := w_int r2
    split at h
    · rename_i hz
      exact op_mod pins sh σ H _ _ v u Q I rx ry ⟨_, _, rfl, rfl, of_decide_eq_true hz, rf_int h hs⟩
    · exact h.elim
  · exact h.elim
theorem qo_pow : QOp X (binaryOp .Pow) powD := by
  intro pins sh σ H x y v u Q I rx ry ⟨μ, s, d, e, hs, r1, r2, W, σ', h⟩
  unfold powD at h
  split at h
  · obtain rfl := w_int r1; obtain rfl := w_int r2
    split at h
    · rename_i hz
      exact op_pow pins sh σ H _ _ v u Q I rx ry ⟨_, _, rfl, rfl, of_decide_eq_true (p := _ ∧ _ ∧ _) hz, rf_int h hs⟩
    · exact h.elim
  · exact h.elim
theorem qo_shl : QOp X (binaryOp .LShift) shlD := by
  intro pins sh σ H x y v u Q I rx ry ⟨μ, s, d, e, hs, r1, r2, W, σ', h⟩
  unfold shlD at h
  split at h
  · obtain rfl := w_int r1; obtain rfl := w_int r2
    split at h
    · rename_i hz
      exact op_shl pins sh σ H _ _ v u Q I rx ry ⟨_, _, rfl, rfl, of_decide_eq_true (p := _ ∧ _ ∧ _) hz, rf_int h hs⟩
    · exact h.elim
  · exact h.elim
theorem qo_shr : QOp X (binaryOp .RShift) shrD := by
  intro pins sh σ H x y v u Q I rx ry ⟨μ, s, d, e, hs, r1, r2, W, σ', h⟩
  unfold shrD at h
  split at h
  · obtain rfl := w_int r1; obtain rfl := w_int r2
    split at h
    · rename_i hz
      exact op_shr pins sh σ H _ _ v u Q I rx ry ⟨_, _, rfl, rfl, of_decide_eq_true hz, rf_int h hs⟩
    · exact h.elim
  · exact h.elim
theorem qo_band : QOp X (binaryOp .BitAnd) bandD := by
  intro pins sh σ H x y v u Q I rx ry ⟨μ, s, d, e, hs, r1, r2, W, σ', h⟩
  unfold bandD at h
  split at h
  · obtain rfl := w_int r1; obtain rfl := w_int r2
    exact op_and pins sh σ H _ _ v u Q I rx ry ⟨_, _, rfl, rfl, rf_int h hs⟩
  · exact h.elim
theorem qo_bor : QOp X (binaryOp .BitOr) borD := by
  intro pins sh σ H x y v u Q I rx ry ⟨μ, s, d, e, hs, r1, r2, W, σ', h⟩
  unfold borD at h
  split at h
  · obtain rfl := w_int r1; obtain rfl := w_int r2
    exact op_or pins sh σ H _ _ v u Q I rx ry ⟨_, _, rfl, rfl, rf_int h hs⟩
  · exact h.elim
theorem qo_bxor : QOp X (binaryOp .BitXor) bxorD := by
  intro pins sh σ H x y v u Q I rx ry ⟨μ, s, d, e, hs, r1, r2, W, σ', h⟩
  unfold bxorD at h
  split at h
  · obtain rfl := w_int r1; obtain rfl := w_int r2
    exact op_xor pins sh σ H _ _ v u Q I rx ry ⟨_, _, rfl, rfl, rf_int h hs⟩
  · exact h.elim
theorem qo_lt : QOp X (compareOp .Lt) ltD := by
  intro pins sh σ H x y v u Q I rx ry ⟨μ, s, d, e, hs, r1, r2, W, σ', h⟩
  unfold ltD at h
  split at h
  · obtain rfl := w_int r1; obtain rfl := w_int r2
    exact op_lt pins sh σ H _ _ v u Q I rx ry ⟨_, _, rfl, rfl, rf_bl h hs⟩
  · obtain rfl := w_str r1; obtain rfl := w_str r2
    exact op_lt_str pins sh σ H _ _ v u Q I rx ry ⟨_, _, rfl, rfl, rf_bl h hs⟩
  · exact h.elim
theorem qo_le : QOp X (compareOp .LtE) leD := by
  intro pins sh σ H x y v u Q I rx ry ⟨μ, s, d, e, hs, r1, r2, W, σ', h⟩
  unfold leD at h
  split at h
  · obtain rfl := w_int r1; obtain rfl := w_int r2
    exact op_le pins sh σ H _ _ v u Q I rx ry ⟨_, _, rfl, rfl, rf_bl h hs⟩
  · obtain rfl := w_str r1; obtain rfl := w_str r2
    exact op_le_str pins sh σ H _ _ v u Q I rx ry ⟨_, _, rfl, rfl, rf_bl h hs⟩
  · exact h.elim
theorem qo_gt : QOp X (compareOp .Gt) gtD := by
  intro pins sh σ H x y v u Q I rx ry ⟨μ, s, d, e, hs, r1, r2, W, σ', h⟩
  unfold gtD at h
  split at h
  · obtain rfl := w_int r1; obtain rfl := w_int r2
    exact op_gt pins sh σ H _ _ v u Q I rx ry ⟨_, _, rfl, rfl, rf_bl h hs⟩
  · obtain rfl := w_str r1; obtain rfl := w_str r2
    exact op_gt_str pins sh σ H _ _ v u Q I rx ry ⟨_, _, rfl, rfl, rf_bl h hs⟩
  · exact h.elim
theorem qo_ge : QOp X (compareOp .GtE) geD := by
  intro pins sh σ H x y v u Q I rx ry ⟨μ, s, d, e, hs, r1, r2, W, σ', h⟩
  unfold geD at h
  split at h
  · obtain rfl := w_int r1; obtain rfl := w_int r2
    exact op_ge pins sh σ H _ _ v u Q I rx ry ⟨_, _, rfl, rfl, rf_bl h hs⟩
  · obtain rfl := w_str r1; obtain rfl := w_str r2
    exact op_ge_str pins sh σ H _ _ v u Q I rx ry ⟨_, _, rfl, rfl, rf_bl h hs⟩
  · exact h.elim
theorem qo_is : QOp X (compareOp .Is) isD := by
  intro pins sh σ H x y v u Q I rx ry ⟨μ, s, d, e, hs, r1, r2, W, σ', h⟩
  unfold isD at h
  split at h
  · obtain rfl := w_non r2
    have q := rf_bl h hs
    rw [isNone_sound r1] at q
    exact op_isN pins sh σ H _ _ v u Q I rx ry ⟨rfl, q⟩
  · obtain rfl := w_bl r1; obtain rfl := w_bl r2
    have q := rf_bl h hs
    exact op_is_bl pins sh σ H _ _ v u Q I rx ry ⟨_, _, rfl, rfl, by rw [Bool.beq_eq_decide_eq] at q; exact q⟩
  · exact h.elim
theorem qo_isnot : QOp X (compareOp .IsNot) isnotD := by
  intro pins sh σ H x y v u Q I rx ry ⟨μ, s, d, e, hs, r1, r2, W, σ', h⟩
  unfold isnotD at h
  split at h
  · obtain rfl := w_non r2
    have q := rf_bl h hs
    rw [isNone_sound r1] at q
    exact op_notN pins sh σ H _ _ v u Q I rx ry ⟨rfl, q⟩
  · obtain rfl := w_bl r1; obtain rfl := w_bl r2
    have q := rf_bl h hs
    exact op_isnot_bl pins sh σ H _ _ v u Q I rx ry ⟨_, _, rfl, rfl, by rw [Bool.beq_eq_decide_eq] at q; exact q⟩
  · exact h.elim
theorem qo_eq (hu : X.A.units + 64 < cLine) : QOp X (compareOp .Eq) eqD := by
  intro pins sh σ H x y v u Q I rx ry ⟨μ, s, d, e, hs, r1, r2, W, σ', h⟩
  simp only [eqD] at h
  split at h
  · rename_i b hb
    have q := rf_bl h hs
    rcases eqB_sound hs r1 r2 hb with ⟨z, rfl⟩ | ⟨p, p2, z1, z2, z3, z4, rfl⟩
    · exact op_eq pins sh σ H _ _ v u Q I rx ry ⟨z, q⟩
    · exact op_eqD hu pins sh σ H _ _ v u Q I rx ry ⟨p, p2, z1, z2, z3, z4, q⟩
  · exact h.elim
theorem qo_ne (hu : X.A.units + 64 < cLine) : QOp X (compareOp .NotEq) neD := by
  intro pins sh σ H x y v u Q I rx ry ⟨μ, s, d, e, hs, r1, r2, W, σ', h⟩
  simp only [neD] at h
  split at h
  · rename_i b hb
    have q := rf_bl h hs
    rcases eqB_sound hs r1 r2 hb with ⟨z, rfl⟩ | ⟨p, p2, z1, z2, z3, z4, rfl⟩
    · exact op_ne pins sh σ H _ _ v u Q I rx ry ⟨z, q⟩
    · exact op_neD hu pins sh σ H _ _ v u Q I rx ry ⟨p, p2, z1, z2, z3, z4, q⟩
  · exact h.elim
/-- one place -/
def rL1 (g : Wd) (o : D → S → R D) : V → Hp → VK → Prop := fun x H Q => ∃ μ s d, Rs g μ H s ∧ RW g μ H d x ∧ ∃ W σ, runs g W σ μ H (RF g H) Q (o d s)
theorem q_un {W : WX} {pos : Pos} {a : Expr} {ma : E} {op : UnaryOp} {o : D → S → R D} (ho : UnR X (unaryOp op) (rL1 (wd X) o)) (ha : PE X a (liftB (wd X) W ma)) : PE X (.UnaryOp op a pos) (liftF (wd X) W (unE o ma)) :=
  pe_imp (pe_un ho ha) fun σ H Q ⟨Fr, μ, ρ, s, he, hs, h⟩ => ⟨Fr, μ, ρ, s, he, hs, runs_bind (Rel1 := RW (wd X)) h fun d s1 μ1 H1 x e1 x1 hs1 r1 h1 => ⟨μ1, s1, d, hs1, r1, W, σ, runs_back x1 h1⟩⟩
theorem qo_neg : UnR X (unaryOp .USub) (rL1 (wd X) negD) := by
  intro pins sh σ H x v Q I rx ⟨μ, s, d, hs, r1, W, σ', h⟩
  unfold negD at h
  split at h
  · obtain rfl := w_int r1
    exact un_neg pins sh σ H _ v Q I rx ⟨_, rfl, rf_int h hs⟩
  · exact h.elim
theorem qo_inv : UnR X (unaryOp .Invert) (rL1 (wd X) invD) := by
  intro pins sh σ H x v Q I rx ⟨μ, s, d, hs, r1, W, σ', h⟩
  unfold invD at h
  split at h
  · obtain rfl := w_int r1
    exact un_inv pins sh σ H _ v Q I rx ⟨_, rfl, rf_int h hs⟩
  · exact h.elim
end
end Fv

namespace Fv
open PySem PySem.Spec PyProof.Rows L2
/-! ### statements -/
def RS.next (r : RS) (f : En → S → RS) : RS := match r with
  | .nx ρ s => f ρ s
  | r => r
def passS : C := fun ρ s => .nx ρ s
def brkS : C := fun ρ s => .bk ρ s
def ctS : C := fun ρ s => .ct ρ s
def seqS (a b : C) : C := fun ρ s => (a ρ s).next b
def retS (e : E) : C := fun ρ s => (e ρ s).stm ρ fun d s => .rt d s
def retN : C := fun _ s => .rt .non s
def exprS (e : E) : C := fun ρ s => (e ρ s).stm ρ fun _ s => .nx ρ s
def ifS (t : T) (a b : C) : C := fun ρ s => (t ρ s).stm ρ fun k s => if k then a ρ s else b ρ s
def setS (i : Nat) (e : E) : C := fun ρ s => (e ρ s).stm ρ fun d s => .nx (ρ.set i (some (.v d))) s
/-- what is new becomes what the slot alone holds -/
def ownS (i : Nat) (e : E) : C := fun ρ s => (e ρ s).stm ρ fun d s => if d.heavy then .nx (ρ.set i (some (.o d))) s else .nx (ρ.set i (some (.v d))) s
/-- it stays as it is from now on: no statement of Python's -/
def frzS (i : Nat) : C := fun ρ s => match ρ[i]? with
  | some (some (.o d)) => if d.heavy then .nx (ρ.set i (some (.v d))) s else .bad
  | _ => .nx ρ s
/-- targets: a name, a tuple of names -/
inductive Tg where | nm (i : Nat) | tp (is : List Nat)
def setAll : List Nat → List D → En → En
  | i :: is, d :: ds, ρ => setAll is ds (ρ.set i (some (.v d)))
  | _, _, ρ => ρ
def asg : Tg → D → En → Option En
  | .nm i, d, ρ => some (ρ.set i (some (.v d)))
  | .tp is, d, ρ => match tupOf d with
    | some ds => if ds.length = is.length then some (setAll is ds ρ) else none
    | none => none
def asgS (t : Tg) (e : E) : C := fun ρ s => (e ρ s).stm ρ fun d s => match asg t d ρ with | some ρ' => .nx ρ' s | none => .bad
/-- what is walked -/
structure It where
  items : List D
  keep : S → Bool
abbrev Is := En → S → R It
def forL (keep : S → Bool) (t : Tg) (body : C) : List D → C
  | [], ρ, s => if keep s then .nx ρ s else .bad
  | d :: ds, ρ, s => if keep s then match asg t d ρ with
    | none => .bad
    | some ρ1 => match body ρ1 s with
      | .nx ρ2 s2 => forL keep t body ds ρ2 s2
      | .ct ρ2 s2 => forL keep t body ds ρ2 s2
      | .bk ρ2 s2 => .nx ρ2 s2
      | r => r
    else .bad
def forS (it : Is) (t : Tg) (body : C) : C := fun ρ s => (it ρ s).stm ρ fun J s => forL J.keep t body J.items ρ s
def whileL (t : T) (body : C) : Nat → C
  | 0, _, _ => .bad
  | n + 1, ρ, s => (t ρ s).stm ρ fun k s => if k then match body ρ s with
      | .nx ρ2 s2 => whileL t body n ρ2 s2
      | .ct ρ2 s2 => whileL t body n ρ2 s2
      | .bk ρ2 s2 => .nx ρ2 s2
      | r => r
    else .nx ρ s
def gas : Nat := 1000000
def whileS (t : T) (body : C) : C := whileL t body gas
/-- comprehensions -/
def R.noerr {α : Type} : R α → R α
  | .err _ _ _ _ => .bad
  | r => r
def wipeD : En → List Nat → En
  | ρ, [] => ρ
  | ρ, v :: vs => (wipeD ρ vs).set v none
def yesT : T := fun _ s => .ok true s
def lcL (keep : S → Bool) (t : Tg) (c : T) (e : E) (ρ : En) : List D → List D → S → R (List D)
  | [], acc, s => if keep s then .ok acc s else .bad
  | d :: ds, acc, s => if keep s then match asg t d ρ with
    | none => .bad
    | some ρ1 => (c ρ1 s).noerr.bind fun k s => if k then (e ρ1 s).noerr.bind fun y s =>
        if decide (acc.length < sizeLine) then lcL keep t c e ρ ds (acc ++ [y]) s else .bad
      else lcL keep t c e ρ ds acc s
    else .bad
def lcE (it : Is) (vs : List Nat) (t : Tg) (c : T) (e : E) : E := fun ρ s => (it ρ s).bind fun J s => (lcL J.keep t c e (wipeD ρ vs) J.items [] s).bind fun ys s => .ok (.lst ys) s

/-! ### the rules of statements -/
section
variable {X : Cx} {W : WX} {Fr : Addr → Prop} {pos : Pos} {e : Expr} {st : Stmt} {sts : List Stmt} {m : E} {a b : C} {t : T}
theorem ps_imp {t1 t2 : TS} (h : PS X st t1) (k : ∀ De σ H, t2 De σ H → t1 De σ H) : PS X st t2 := ⟨fun pins s σ H De I q => h.run pins s σ H De I (k De σ H q)⟩
theorem pss_imp {t1 t2 : TS} (h : PSs X sts t1) (k : ∀ De σ H, t2 De σ H → t1 De σ H) : PSs X sts t2 := ⟨fun pins s σ H De I q => h.run pins s σ H De I (k De σ H q)⟩
abbrev QS (X : Cx) (W : WX) (Fr : Addr → Prop) (st : Stmt) (m : C) : Prop := PS X st (liftS (wd X) W Fr m)
abbrev QSs (X : Cx) (W : WX) (Fr : Addr → Prop) (st : List Stmt) (m : C) : Prop := PSs X st (liftS (wd X) W Fr m)
theorem qs_nil : QSs X W Fr [] passS := pss_imp pss_nil fun De σ H ⟨μ, ρ, s, hf, he, hs, h⟩ => h μ H σ Ex.refl hs he
theorem qs_cons (h1 : QS X W Fr st a) (h2 : QSs X W Fr sts b) : QSs X W Fr (st :: sts) (seqS a b) := pss_imp (pss_cons h1 h2) fun De σ H ⟨μ, ρ, s, hf, he, hs, h⟩ => by
  refine ⟨μ, ρ, s, hf, he, hs, ?_⟩
  simp only [seqS] at h
  cases q : a ρ s <;> rw [q] at h
  · exact fun μ' H' σ' x y z => ⟨μ', _, _, hf.at x, z, y, runsS_mono x h⟩
  · exact h
  · exact h
  · exact h
  · exact h
  · exact h
theorem qs_one (h1 : QS X W Fr st a) : QSs X W Fr [st] a := pss_one h1
theorem qs_pass : QS X W Fr (.Pass pos) passS := ps_imp ps_pass fun De σ H ⟨μ, ρ, s, hf, he, hs, h⟩ => h μ H σ Ex.refl hs he
theorem qs_break : QS X W Fr (.Break pos) brkS := ps_imp ps_break fun De σ H ⟨μ, ρ, s, hf, he, hs, h⟩ => h μ H σ Ex.refl hs he
theorem qs_continue : QS X W Fr (.Continue pos) ctS := ps_imp ps_continue fun De σ H ⟨μ, ρ, s, hf, he, hs, h⟩ => h μ H σ Ex.refl hs he
theorem qs_ret (he : PE X e (liftE (wd X) W m)) : QS X W Fr (.Return (some e) pos) (retS m) := ps_imp (ps_ret he) fun De σ H ⟨μ, ρ, s, hf, he, hs, h⟩ => ⟨Fr, μ, ρ, s, he, hs, runs_stm (Rel1 := RV (wd X)) he h fun d s1 μ1 H1 x e1 x1 hs1 r1 h1 => h1 μ1 H1 x Ex.refl hs1 r1⟩
theorem qs_retN : QS X W Fr (.Return none pos) retN := ps_imp ps_retN fun De σ H ⟨μ, ρ, s, hf, he, hs, h⟩ => h μ H .non Ex.refl hs (by simp only [RV])
theorem qs_expr (he : PE X e (liftE (wd X) W m)) (hw : swapsWith e none pos.line X.env = pure false := by rfl) : QS X W Fr (.Expr e pos) (exprS m) := ps_imp (ps_expr he hw) fun De σ H ⟨μ, ρ, s, hf, he, hs, h⟩ => ⟨Fr, μ, ρ, s, he, hs, runs_stm (Rel1 := RV (wd X)) he h fun d s1 μ1 H1 x e1 x1 hs1 r1 h1 => h1 μ1 H1 σ Ex.refl hs1 (he.mono x1)⟩
theorem qs_doc {x j pos'} : QS X W Fr (.Expr (.Constant (.str x) j pos) pos') passS := ps_imp ps_doc fun De σ H ⟨μ, ρ, s, hf, he, hs, h⟩ => h μ H σ Ex.refl hs he
theorem qs_if {c : Expr} {l r : List Stmt} (hc : PT X c (liftT (wd X) W t)) (ha : QSs X W Fr l a) (hb : QSs X W Fr r b) : QS X W Fr (.If c l r pos) (ifS t a b) := ps_imp (ps_if hc ha hb) fun De σ H ⟨μ, ρ, s, hf, he, hs, h⟩ => ⟨Fr, μ, ρ, s, he, hs, runs_stm (Rel1 := RB) he h fun d s1 μ1 H1 x e1 x1 hs1 r1 h1 => by
  obtain rfl : d = x := r1
  cases d with
  | true => exact ⟨μ1, ρ, s1, hf.at x1, he.mono x1, hs1, h1⟩
  | false => exact ⟨μ1, ρ, s1, hf.at x1, he.mono x1, hs1, h1⟩⟩
theorem qs_set {i : Nat} {x : Str} {pos' : Pos} (he : PE X e (liftE (wd X) W m)) (hN : X.N.Nodup) (hi : X.N[i]? = some x := by rfl) (hx : Loc X.env.scope x := by first | exact .inl rfl | exact .inr rfl) (hw : swapsWith e (some (.Name x pos')) pos.line X.env = pure false := by rfl)
    (hf : X.fn x = true ∨ X.env.scope.names.lookup x = some .local := by first | exact .inl rfl | exact .inr rfl | assumption) : QS X W Fr (.Assign [.Name x pos'] e pos) (setS i m) :=
  ps_imp (ps_set hN hi hx he hw hf) fun De σ H ⟨μ, ρ, s, hf, he, hs, h⟩ => ⟨Fr, μ, ρ, s, he, hs, runs_stm (Rel1 := RV (wd X)) he h fun d s1 μ1 H1 x e1 x1 hs1 r1 h1 => h1 μ1 H1 _ Ex.refl hs1 ((he.mono x1).setV r1)⟩
/-- a slot that holds alone -/
theorem own_set {g : Wd} {μ μ1 : M} {H H1 : Hp} {ρ : En} {σ : L2.St} {i : Nat} {d : D} {x : V} (hf : Fz Fr H) (he : REn g Fr μ H ρ σ) (x1 : Ex Fn0 μ H μ1 H1) (r : RF g H μ1 H1 d x) : REn g Fr μ1 H1 (if d.heavy then ρ.set i (some (.o d)) else ρ.set i (some (.v d))) (σ.set i (some x)) := by
  unfold RF at r
  split
  · rename_i hd
    rw [if_pos hd] at r
    obtain ⟨p, rfl, e0, hm, hz, c⟩ := r
    exact (he.mono x1).setO c hm hz (hf p e0) (he.fr e0)
  · rename_i hd
    rw [if_neg hd] at r
    exact (he.mono x1).setV r
theorem qs_own {i : Nat} {x : Str} {pos' : Pos} (he : PE X e (liftF (wd X) W m)) (hN : X.N.Nodup) (hi : X.N[i]? = some x := by rfl) (hx : Loc X.env.scope x := by first | exact .inl rfl | exact .inr rfl) (hw : swapsWith e (some (.Name x pos')) pos.line X.env = pure false := by rfl)
    (hf : X.fn x = true ∨ X.env.scope.names.lookup x = some .local := by first | exact .inl rfl | exact .inr rfl | assumption) : QS X W Fr (.Assign [.Name x pos'] e pos) (ownS i m) :=
  ps_imp (ps_set hN hi hx he hw hf) fun De σ H ⟨μ, ρ, s, hf, he, hs, h⟩ => ⟨Fr, μ, ρ, s, he, hs, runs_stm (Rel1 := RF (wd X) H) he h fun d s1 μ1 H1 x e1 x1 hs1 r1 h1 => by
    have q := own_set (i := i) hf he x1 r1
    split at h1
    · rename_i hd
      rw [if_pos hd] at q
      exact h1 μ1 H1 _ Ex.refl hs1 q
    · rename_i hd
      rw [if_neg hd] at q
      exact h1 μ1 H1 _ Ex.refl hs1 q⟩
theorem frz_sound {g : Wd} {De : Ends} {σ : L2.St} {H : Hp} {i : Nat} {c : C} (h : liftS g W Fr (seqS (frzS i) c) De σ H) : liftS g W Fr c De σ H := by
  obtain ⟨μ, ρ, s, hf, he, hs, h⟩ := h
  simp only [seqS, frzS] at h
  split at h
  · rename_i d ei
    split at h
    · rename_i hd
      obtain ⟨p, ep, ce, hm, hz, f⟩ := he.o i d ei
      obtain ⟨u, eu, _⟩ := ce.there
      have x : Ex Fr μ H (μ.frz p hm) H := ex_frz hm (.inl f)
      have c2 : Ce g (μ.frz p hm) H p d := ce.mono x fun _ e => e
      have zp : (μ.frz p hm).z p := .inr rfl
      have rv : RV g (μ.frz p hm) H d (.ref p) := by
        cases d <;> simp only [D.heavy, Bool.false_eq_true] at hd <;> simp only [Ce] at c2 <;> simp only [RV]
        · obtain ⟨ys, a, b⟩ := c2
          exact ⟨p, ys, rfl, zp, a, b⟩
        · obtain ⟨ys, a, l, b⟩ := c2
          exact ⟨p, ys, rfl, zp, a, l, b⟩
        · obtain ⟨ys, a, l, b⟩ := c2
          exact ⟨p, ys, rfl, zp, a, l, b⟩
        · exact ⟨p, rfl, zp, c2⟩
        · obtain ⟨ys, a, l, b⟩ := c2
          exact ⟨p, ys, rfl, zp, a, l, b⟩
      exact ⟨μ.frz p hm, ρ.set i (some (.v d)), s, hf, he.frz ei ep hm rv, hs.frz hm ⟨u, eu⟩, runsS_mono x h⟩
    · exact h.elim
  · exact ⟨μ, ρ, s, hf, he, hs, h⟩
theorem qs_frzs {i : Nat} (h : QSs X W Fr sts b) : QSs X W Fr sts (seqS (frzS i) b) := pss_imp h fun _ _ _ => frz_sound
theorem qs_frz {i : Nat} (h : QS X W Fr st b) : QS X W Fr st (seqS (frzS i) b) := ps_imp h fun _ _ _ => frz_sound
/-- targets -/
def gNames : List Nat → TGs
  | [] => gNil
  | i :: is => gCons (gName i) (gNames is)
def gOf (K : PySem.W.Frag) : Tg → TG
  | .nm i => gName i
  | .tp is => gTup K is.length (gNames is)
def setAllV : List Nat → List V → L2.St → L2.St
  | i :: is, d :: ds, σ => setAllV is ds (σ.set i (some d))
  | _, _, σ => σ
theorem setAll_ren {g : Wd} {μ : M} {H : Hp} : ∀ {is : List Nat} {ds : List D} {vs : List V} {ρ : En} {σ : L2.St}, RVs g μ H ds vs → REn g Fr μ H ρ σ → REn g Fr μ H (setAll is ds ρ) (setAllV is vs σ)
  | [], _, _, _, _, _, h => by unfold setAll setAllV; exact h
  | i :: is, [], vs, ρ, σ, r, h => by simp only [RVs] at r; subst r; unfold setAll setAllV; exact h
  | i :: is, d :: ds, vs, ρ, σ, r, h => by
    simp only [RVs] at r
    obtain ⟨y, r', rfl, a, b⟩ := r
    unfold setAll setAllV
    exact setAll_ren b (h.setV a)
theorem gNames_run : ∀ {is : List Nat} {vs : List V} {σ : L2.St} {H : Hp} {Q : L2.St → Hp → Prop}, vs.length = is.length → Q (setAllV is vs σ) H → gNames is vs σ H Q
  | [], vs, σ, H, Q, hl, h => ⟨List.length_eq_zero_iff.mp hl, by cases vs with | nil => exact h | cons _ _ => cases hl⟩
  | i :: is, [], σ, H, Q, hl, h => by cases hl
  | i :: is, v :: vs, σ, H, Q, hl, h => ⟨v, vs, rfl, gNames_run (by simpa using hl) h⟩
/-- the slots behind a target -/
def slV : Tg → V → List V → L2.St → L2.St
  | .nm i, v, _, σ => σ.set i (some v)
  | .tp is, _, vs, σ => setAllV is vs σ
theorem asg_sound {g : Wd} {μ : M} {H : Hp} {t : Tg} {d : D} {ρ ρ' : En} {v : V} (r : RV g μ H d v) (e : asg t d ρ = some ρ') :
    ∃ vs, (∀ σ Q, Q (slV t v vs σ) H → gOf g.K t v σ H Q) ∧ ∀ Fr σ, REn g Fr μ H ρ σ → REn g Fr μ H ρ' (slV t v vs σ) := by
  cases t with
  | nm i =>
    simp only [asg, Option.some.injEq] at e
    subst e
    exact ⟨[], fun σ Q h => h, fun Fr σ h => h.setV r⟩
  | tp is =>
    simp only [asg] at e
    split at e
    · rename_i ds ed
      split at e
      · rename_i hl
        cases e
        obtain ⟨p, ys, rfl, q, rr⟩ := tupOf_sound r.w ed
        refine ⟨ys, fun σ Q h => ⟨p, ys, rfl, q, by rw [← rr.length]; exact hl, gNames_run (by rw [← rr.length]; exact hl) h⟩, fun Fr σ h => setAll_ren rr h⟩
      · cases e
    · cases e
theorem qs_asg {tg : Expr} {tt : Tg} (he : PE X e (liftE (wd X) W m)) (hg : PG X tg (gOf X.K tt)) (hw0 : swapsWithSole [tg] e pos.line X.env = pure false := by rfl) (hw : swappedStores [tg] e X.env = pure none := by rfl)
    (h1 : (assignEach [tg] X.env).map (·.2) = [assign tg X.env] := by rfl) : QS X W Fr (.Assign [tg] e pos) (asgS tt m) :=
  ps_imp (ps_asg he hg hw0 hw h1) fun De σ H ⟨μ, ρ, s, hf, he, hs, h⟩ => ⟨Fr, μ, ρ, s, he, hs, runs_stm (Rel1 := RV (wd X)) he h fun d s1 μ1 H1 x e1 x1 hs1 r1 h1 => by
    cases q : asg tt d ρ with
    | none => rw [q] at h1; exact h1.elim
    | some ρ' =>
      rw [q] at h1
      obtain ⟨vs, k1, k2⟩ := asg_sound r1 q
      exact k1 σ _ (h1 μ1 H1 _ Ex.refl hs1 (k2 Fr σ (he.mono x1)))⟩
/-! ### for -/
def ItR (g : Wd) (Fr : Addr → Prop) (μ0 : M) (H0 : Hp) (J : L2.It) (I : It) : Prop := ∀ μ H s, Ex Fr μ0 H0 μ H → Rs g μ H s → I.keep s = true → ∀ i : Nat,
  (∀ d, I.items[i]? = some d → J.go i H ∧ ∀ x H', J.yld i H x H' → ∃ μ', Ex Fn0 μ H μ' H' ∧ Rs g μ' H' s ∧ RV g μ' H' d x) ∧ (I.items.length ≤ i → J.stop i H)
def liftI (g : Wd) (W : WX) (Fr : Addr → Prop) (m : Is) : TI := fun σ H Rr => ∃ Fr0 μ ρ s, REn g Fr0 μ H ρ σ ∧ Rs g μ H s ∧ runs g W σ μ H (fun μ' H' (a : It) (J : L2.It) => ItR g Fr μ' H' J a) Rr (m ρ s)
abbrev QI (X : Cx) (W : WX) (Fr : Addr → Prop) (tg iter : Expr) (m : Is) : Prop := PI X tg iter (liftI (wd X) W Fr m)
theorem pi_imp {tg iter : Expr} {t1 t2 : TI} (h : PI X tg iter t1) (k : ∀ σ H Q, t2 σ H Q → t1 σ H Q) : PI X tg iter t2 := ⟨fun pins s σ H Q I q => h.run pins s σ H Q I (k σ H Q q)⟩
theorem drop_cons {ds : List D} {i : Nat} {d : D} (h : ds[i]? = some d) : ds.drop i = d :: ds.drop (i + 1) := by
  obtain ⟨hi, e⟩ := List.getElem?_eq_some_iff.mp h
  rw [List.drop_eq_getElem_cons hi, e]
theorem qs_for {tg iter : Expr} {body : List Stmt} {it : Is} {tt : Tg} {tb : C} (hp : PassesOwn (model X.prog X.w) X.A X.env X.xe) (hc : X.calm = true) (hi : QI X W Fr tg iter it) (hg : PG X tg (gOf X.K tt)) (hb : QSs X W Fr body tb)
    (hs : ∀ x, foldedSetIterable iter X.env x = pure x := by intro _; rfl) : QS X W Fr (.For tg iter body [] pos) (forS it tt tb) :=
  ps_imp (ps_for hp hc hi hg hb hs) fun De σ H ⟨μ, ρ, s, hf, he, hs, h⟩ => ⟨Fr, μ, ρ, s, he, hs, runs_stm he h fun J0 s1 μ1 H1 J e1 x1 hs1 r1 h1 => by
    refine ⟨fun i m σ H => m = J0.items.length - i ∧ ∃ μ' ρ' s', Ex Fr μ1 H1 μ' H ∧ REn (wd X) Fr μ' H ρ' σ ∧ Rs (wd X) μ' H s' ∧ runsS (wd X) W Fr μ' H De (forL J0.keep tt tb (J0.items.drop i) ρ' s'),
      ⟨_, rfl, μ1, ρ, s1, Ex.refl, he.mono x1, hs1, h1⟩, ?_⟩
    rintro i m σ2 H2 ⟨rfl, μ2, ρ2, s2, x2, he2, hs2, h2⟩
    have hf1 : Fz Fr H1 := hf.at x1
    have hf2 : Fz Fr H2 := hf1.at x2
    by_cases hlt : i < J0.items.length
    · have ed : J0.items[i]? = some J0.items[i] := List.getElem?_eq_getElem hlt
      rw [drop_cons ed] at h2
      simp only [forL] at h2
      split at h2
      · rename_i hk
        obtain ⟨go, yl⟩ := (r1 μ2 H2 s2 x2 hs2 hk i).1 _ ed
        refine .inr ⟨go, fun σ' H' => ∃ μ' ρ' s', Ex Fr μ1 H1 μ' H' ∧ REn (wd X) Fr μ' H' ρ' σ' ∧ Rs (wd X) μ' H' s' ∧ runsS (wd X) W Fr μ' H' De (forL J0.keep tt tb (J0.items.drop (i + 1)) ρ' s'), fun σ' H' n => ⟨_, by omega, rfl, n⟩, fun x H3 y => ?_⟩
        obtain ⟨μ3, x3, hs3, r3⟩ := yl x H3 y
        split at h2
        · exact h2.elim
        · rename_i ρ3 q
          obtain ⟨vs, k1, k2⟩ := asg_sound r3 q
          refine k1 σ2 _ ⟨μ3, ρ3, s2, hf2.at x3, ?_, hs3, ?_⟩
          · exact k2 Fr σ2 (he2.mono x3)
          have h3 := runsS_mono x3.s h2
          cases qb : tb ρ3 s2 <;> rw [qb] at h3
          · exact fun μ' H' σ' x4 y4 z4 => ⟨μ', _, _, (x2.trans x3.s).trans x4, z4, y4, runsS_mono x4 h3⟩
          · exact h3
          · exact h3
          · exact fun μ' H' σ' x4 y4 z4 => ⟨μ', _, _, (x2.trans x3.s).trans x4, z4, y4, runsS_mono x4 h3⟩
          · exact h3
          · exact h3
      · exact h2.elim
    · rw [List.drop_eq_nil_of_le (by omega)] at h2
      simp only [forL] at h2
      split at h2
      · rename_i hk
        exact .inl ⟨(r1 μ2 H2 s2 x2 hs2 hk i).2 (by omega), h2 μ2 H2 σ2 Ex.refl hs2 he2⟩
      · exact h2.elim⟩
theorem qs_while {c : Expr} {body : List Stmt} {tb : C} (hp : PassesOwn (model X.prog X.w) X.A X.env X.xe) (hc : PT X c (liftT (wd X) W t)) (hb : QSs X W Fr body tb) : QS X W Fr (.While c body [] pos) (whileS t tb) :=
  ps_imp (ps_while hp hc hb) fun De σ H ⟨μ, ρ, s, hf, he, hs, h⟩ => by
    refine ⟨fun m σ H => ∃ μ' ρ' s', Fz Fr H ∧ REn (wd X) Fr μ' H ρ' σ ∧ Rs (wd X) μ' H s' ∧ runsS (wd X) W Fr μ' H De (whileL t tb m ρ' s'), ⟨gas, μ, ρ, s, hf, he, hs, h⟩, ?_⟩
    rintro m σ2 H2 ⟨μ2, ρ2, s2, hf2, he2, hs2, h2⟩
    cases m with
    | zero => exact h2.elim
    | succ m =>
      refine ⟨Fr, μ2, ρ2, s2, he2, hs2, runs_stm (Rel1 := RB) he2 h2 fun k s3 μ3 H3 b e3 x3 hs3 r3 h3 => ?_⟩
      obtain rfl : k = b := r3
      cases k with
      | false => exact h3 μ3 H3 σ2 Ex.refl hs3 (he2.mono x3)
      | true =>
        refine ⟨fun σ' H' => ∃ μ' ρ' s', Fz Fr H' ∧ REn (wd X) Fr μ' H' ρ' σ' ∧ Rs (wd X) μ' H' s' ∧ runsS (wd X) W Fr μ' H' De (whileL t tb m ρ' s'), fun σ' H' n => ⟨m, Nat.lt_succ_self _, n⟩, μ3, ρ2, s3, hf2.at x3, he2.mono x3, hs3, ?_⟩
        have h4 : runsS (wd X) W Fr μ3 H3 De (match tb ρ2 s3 with | .nx ρ2 s2 => whileL t tb m ρ2 s2 | .ct ρ2 s2 => whileL t tb m ρ2 s2 | .bk ρ2 s2 => .nx ρ2 s2 | r => r) := h3
        have hf3 : Fz Fr H3 := hf2.at x3
        cases qb : tb ρ2 s3 <;> rw [qb] at h4
        · exact fun μ' H' σ' x4 y4 z4 => ⟨μ', _, _, hf3.at x4, z4, y4, runsS_mono x4 h4⟩
        · exact h4
        · exact h4
        · exact fun μ' H' σ' x4 y4 z4 => ⟨μ', _, _, hf3.at x4, z4, y4, runsS_mono x4 h4⟩
        · exact h4
        · exact h4
/-! ### list comprehensions -/
def Tg.within : Tg → List Nat → Bool
  | .nm i, vs => vs.contains i
  | .tp is, vs => is.all vs.contains
theorem wipe_set {σ : L2.St} {vs : List Nat} {i : Nat} {x : Option V} (h : i ∈ vs) : wipe (σ.set i x) vs = wipe σ vs := by
  apply List.ext_getElem?
  intro j
  have key : ∀ {us : List Nat} {τ : L2.St}, (wipe τ us)[j]? = if j ∈ us then (if j < τ.length then some none else none) else τ[j]? := by
    intro us τ
    induction us with
    | nil => simp [wipe]
    | cons v us ih =>
      unfold wipe
      rw [List.getElem?_set, ih]
      by_cases hv : v = j
      · subst hv
        simp [wipe_length]
      · have hv' : ¬ j = v := fun z => hv z.symm
        simp [hv, hv']
  rw [key, key]
  by_cases hj : j ∈ vs
  · simp [hj]
  · simp only [hj, if_false]
    have : i ≠ j := fun z => hj (z ▸ h)
    rw [List.getElem?_set_ne this]
theorem wipe_all {vs : List Nat} : ∀ {is : List Nat} {ys : List V} {σ : L2.St}, (∀ i ∈ is, i ∈ vs) → wipe (setAllV is ys σ) vs = wipe σ vs
  | [], _, _, _ => by unfold setAllV; rfl
  | i :: is, [], _, _ => by unfold setAllV; rfl
  | i :: is, y :: ys, σ, h => by
    unfold setAllV
    rw [wipe_all fun j hj => h j (List.mem_cons_of_mem _ hj), wipe_set (h i (List.mem_cons_self ..))]
theorem wipe_sl {t : Tg} {vs : List Nat} (h : t.within vs = true) (v : V) (ys : List V) (σ : L2.St) : wipe (slV t v ys σ) vs = wipe σ vs := by
  cases t with
  | nm i => exact wipe_set (by simpa [Tg.within] using h)
  | tp is => exact wipe_all (by simpa [Tg.within] using h)
theorem wipe_wipe (σ : L2.St) (vs : List Nat) : wipe (wipe σ vs) vs = wipe σ vs := by
  have key : ∀ (us : List Nat) (τ : L2.St) (ws : List Nat), (∀ u ∈ us, u ∈ ws) → wipe (wipe τ us) ws = wipe τ ws := by
    intro us
    induction us with
    | nil => intro τ ws _; rfl
    | cons u us ih =>
      intro τ ws h
      show wipe ((wipe τ us).set u none) ws = _
      rw [wipe_set (h u (List.mem_cons_self ..)), ih τ ws fun v hv => h v (List.mem_cons_of_mem _ hv)]
  exact key vs σ vs fun _ h => h
theorem wipe_ren {g : Wd} {μ : M} {H : Hp} {ρ : En} {σ : L2.St} (h : REn g Fr μ H ρ σ) : ∀ vs, REn g Fr μ H (wipeD ρ vs) (wipe σ vs)
  | [] => h
  | v :: vs => (wipe_ren h vs).setN
theorem noerr_runs {g : Wd} {W W' : WX} {σ σ' : L2.St} {μ : M} {H : Hp} {α β γ δ : Type} {Rel1 : M → Hp → α → β → Prop} {Rel2 : M → Hp → γ → δ → Prop} {Q1 : β → Hp → Prop} {Q2 : δ → Hp → Prop} {r : R α} {f : α → S → R γ}
    (h : runs g W σ μ H Rel2 Q2 (r.noerr.bind f)) (k : ∀ a s μ' H' b, Ex Fn0 μ H μ' H' → Rs g μ' H' s → Rel1 μ' H' a b → runs g W σ μ' H' Rel2 Q2 (f a s) → Q1 b H') : runs g W' σ' μ H Rel1 Q1 r := by
  cases r with
  | ok a s => exact fun μ' H' b x y z => k a s μ' H' b x y z (runs_mono x h)
  | err c ns vs s => exact h.elim
  | bad => exact h
theorem lc_sound {g : Wd} {own : List (Str × Nat)} {it : Is} {tt : Tg} {tc : T} {me : E} {σ : L2.St} {H : Hp} {Q : VK} (hv : tt.within (own.map (·.2)) = true) (h : liftF g W (lcE it (own.map (·.2)) tt tc me) σ H Q) :
    tLc (liftI g W Fn0 it) (gOf g.K tt) (liftT g (fun _ _ _ _ => False) tc) (liftE g (fun _ _ _ _ => False) me) (own.map (·.2)) σ H Q := by
  obtain ⟨F0, μ, ρ, s, he, hs, h⟩ := h
  exact ⟨F0, μ, ρ, s, he, hs, runs_bind h fun J0 s1 μ1 H1 J e1 x1 hs1 r1 h1 => by
    intro A hA
    have x0 : Ex Fn0 μ1 H1 μ1 (upd H1 A (.lst [])) := ex_new hA
    have hs0 := hs1.new (ho := .lst []) hA
    refine ⟨fun i m H2 => m = J0.items.length - i ∧ ∃ μ' s' acc ys, Ex (fun q => q = A) μ1 (upd H1 A (.lst [])) μ' H2 ∧ Ex Fn0 μ1 H1 μ' H2 ∧ Rs g μ' H2 s' ∧ A ∉ μ'.m ∧ ¬ μ'.z A ∧ H2 A = some (.lst ys) ∧ RVs g μ' H2 acc ys ∧
        runs g W σ μ1 H1 (RF g H) Q ((lcL J0.keep tt tc me (wipeD ρ (own.map (·.2))) (J0.items.drop i) acc s').bind fun ys s => .ok (.lst ys) s),
      ⟨_, rfl, μ1, s1, [], [], Ex.refl, x0, hs0, hs1.nmem hA, hs1.nz hA, upd_same, by simp only [RVs], h1⟩, ?_⟩
    rintro i m H2 ⟨rfl, μ2, s2, acc, ys, x2, x2', hs2, hm2, hz2, hA2, ra2, h2⟩
    by_cases hlt : i < J0.items.length
    · have ed : J0.items[i]? = some J0.items[i] := List.getElem?_eq_getElem hlt
      rw [drop_cons ed] at h2
      simp only [lcL] at h2
      split at h2
      · rename_i hk
        obtain ⟨go, yl⟩ := (r1 μ2 H2 s2 x2' hs2 hk i).1 _ ed
        refine .inr ⟨go, fun H' => ∃ μ' s' acc ys, Ex (fun q => q = A) μ1 (upd H1 A (.lst [])) μ' H' ∧ Ex Fn0 μ1 H1 μ' H' ∧ Rs g μ' H' s' ∧ A ∉ μ'.m ∧ ¬ μ'.z A ∧ H' A = some (.lst ys) ∧ RVs g μ' H' acc ys ∧
          runs g W σ μ1 H1 (RF g H) Q ((lcL J0.keep tt tc me (wipeD ρ (own.map (·.2))) (J0.items.drop (i + 1)) acc s').bind fun ys s => .ok (.lst ys) s), fun H' n => ⟨_, by omega, rfl, n⟩, fun x H3 y => ?_⟩
        obtain ⟨μ3, x3, hs3, r3⟩ := yl x H3 y
        -- what stands at A, behind a step
        have keepA : ∀ {μ' : M} {H' : Hp}, Ex Fn0 μ2 H2 μ' H' → A ∉ μ'.m ∧ ¬ μ'.z A ∧ H' A = some (.lst ys) := fun {μ' H'} x => ⟨x.nm hA2 hm2, fun q => (x.zn A q).elim hz2 fun q => q.elim id (fun q => by rw [hA2] at q; cases q), x.oth A _ hA2 hm2 (.inr id)⟩
        split at h2
        · exact h2.elim
        · rename_i ρ3 q
          obtain ⟨vs, k1, k2⟩ := asg_sound r3 q
          have hren := wipe_ren (he.mono (x1.trans (x2'.trans x3))) (own.map (·.2))
          refine k1 (wipe σ (own.map (·.2))) _ ?_
          have h3 := h2
          refine ⟨by rw [wipe_sl hv, wipe_wipe], F0, μ3, ρ3, s2, k2 _ _ hren, hs3, ?_⟩
          cases qc : tc ρ3 s2 with
          | err c ns vs s => rw [qc] at h3; exact h3.elim
          | bad => rw [qc] at h3; exact h3.elim
          | ok k s4 =>
            rw [qc] at h3
            intro μ4 H4 b x4 hs4 r4
            obtain rfl : k = b := r4
            have h4 := h3
            cases k with
            | false =>
              have kA := keepA (x3.trans x4)
              exact ⟨μ4, s4, acc, ys, x2.trans (x3.trans x4).s, x2'.trans (x3.trans x4), hs4, kA.1, kA.2.1, kA.2.2, ra2.mono (x3.trans x4), h4⟩
            | true =>
              refine ⟨F0, μ4, ρ3, s4, (k2 _ _ hren).mono x4, hs4, ?_⟩
              have h4 : runs g W σ μ1 H1 (RF g H) Q ((R.bind (me ρ3 s4).noerr fun y s => if decide (acc.length < sizeLine) = true then lcL J0.keep tt tc me (wipeD ρ (own.map (·.2))) (J0.items.drop (i + 1)) (acc ++ [y]) s else .bad).bind fun ys s => .ok (.lst ys) s) := h4
              cases qe : me ρ3 s4 with
              | err c ns vs s => rw [qe] at h4; exact h4.elim
              | bad => rw [qe] at h4; exact h4.elim
              | ok d s5 =>
                rw [qe] at h4
                intro μ5 H5 z x5 hs5 r5
                have h5 : runs g W σ μ1 H1 (RF g H) Q ((if decide (acc.length < sizeLine) = true then lcL J0.keep tt tc me (wipeD ρ (own.map (·.2))) (J0.items.drop (i + 1)) (acc ++ [d]) s5 else .bad).bind fun ys s => .ok (.lst ys) s) := h4
                split at h5
                · rename_i hz
                  have x35 := (x3.trans x4).trans x5
                  obtain ⟨a1, a2, a3⟩ := keepA x35
                  have ra5 := ra2.mono x35
                  have xp : Ex (fun q => q = A) μ5 H5 μ5 (upd H5 A (.lst (ys ++ [z]))) := ex_own a2 rfl a3 (fun _ w => nomatch w) (fun _ _ w => nomatch w)
                  have xq : Ex Fn0 μ1 H1 μ5 (upd H5 A (.lst (ys ++ [z]))) := by
                    have xx := x2'.trans x35
                    refine ⟨xx.pre, fun q hq => xx.trk q (upd_trk q hq), fun q zs hq => ?_, fun q o u hq => ?_, fun q u hq n c => ?_, xx.zs, xx.zn⟩
                    · rw [upd_ne (ne_of_none hq hA)]; exact xx.tup q zs hq
                    · rw [upd_ne (ne_of_none hq hA)]; exact xx.frz q o u hq
                    · rw [upd_ne (ne_of_none hq hA)]; exact xx.oth q u hq n c
                  refine ⟨ys, a3, by rw [← ra5.length]; exact of_decide_eq_true hz, μ5, s5, acc ++ [d], ys ++ [z], (x2.trans x35.s).trans xp, xq, hs5.own a1 a2 a3 (fun _ w => nomatch w) (fun _ _ w => nomatch w), a1, a2, upd_same, (ra5.mono xp).append (.one (r5.mono xp)), h5⟩
                · exact h5.elim
      · exact h2.elim
    · rw [List.drop_eq_nil_of_le (by omega)] at h2
      simp only [lcL] at h2
      split at h2
      · rename_i hk
        exact .inl ⟨(r1 μ2 H2 s2 x2' hs2 hk i).2 (by omega), h2 μ2 H2 _ x2' hs2 (by
          unfold RF
          exact ⟨A, rfl, x1.trk A hA, hm2, hz2, ys, hA2, ra2⟩)⟩
      · exact h2.elim⟩
theorem q_lc {elt tg iter : Expr} {ifs : List Expr} {scope : Scope} {own : List (Str × Nat)} {it : Is} {tt : Tg} {tc : T} {me : E} (hc : X.calm = true) (hN : X.N.Nodup) (hi : QI X W Fn0 tg iter it) (ok : BlkOk X.N X.env.scope scope own) (hv : tt.within (own.map (·.2)) = true)
    (hg : ∀ (s : Shared) (H : Hp) (C : Addr) (cl : List (Str × Addr)) (fp : List Addr), PG (X.blk s H scope (compEnvC scope cl C X.env) fp) tg (gOf X.K tt))
    (ht : ∀ (s : Shared) (H : Hp) (C : Addr) (cl : List (Str × Addr)) (fp : List Addr), PTs (X.blk s H scope (compEnvC scope cl C X.env) fp) ifs (liftT (wd X) (fun _ _ _ _ => False) tc))
    (he : ∀ (s : Shared) (H : Hp) (C : Addr) (cl : List (Str × Addr)) (fp : List Addr), PE (X.blk s H scope (compEnvC scope cl C X.env) fp) elt (liftE (wd X) (fun _ _ _ _ => False) me)) (hs : ∀ x, foldedSetIterable iter X.env x = pure x := by intro _; rfl) :
    PE X (.ListComp elt [⟨tg, iter, ifs, 0⟩] scope pos) (liftF (wd X) W (lcE it (own.map (·.2)) tt tc me)) :=
  pe_imp (pe_lc hc hN hi ok hg ht he hs) fun σ H Q h => lc_sound hv h
theorem qs_setLc {i : Nat} {y : Str} {py : Pos} {elt tg iter : Expr} {ifs : List Expr} {scope : Scope} {own : List (Str × Nat)} {it : Is} {tt : Tg} {tc : T} {me : E} {lpos : Pos} (hc : X.calm = true) (hN : X.N.Nodup) (hi : QI X W Fn0 tg iter it) (ok : BlkOk X.N X.env.scope scope own) (hv : tt.within (own.map (·.2)) = true)
    (hg : ∀ (s : Shared) (H : Hp) (C : Addr) (cl : List (Str × Addr)) (fp : List Addr), PG (X.blk s H scope (compEnvC scope cl C X.env) fp) tg (gOf X.K tt))
    (ht : ∀ (s : Shared) (H : Hp) (C : Addr) (cl : List (Str × Addr)) (fp : List Addr), PTs (X.blk s H scope (compEnvC scope cl C X.env) fp) ifs (liftT (wd X) (fun _ _ _ _ => False) tc))
    (he : ∀ (s : Shared) (H : Hp) (C : Addr) (cl : List (Str × Addr)) (fp : List Addr), PE (X.blk s H scope (compEnvC scope cl C X.env) fp) elt (liftE (wd X) (fun _ _ _ _ => False) me))
    (hy : X.N[i]? = some y := by rfl) (hyl : X.env.scope.names.lookup y = some .local := by rfl) (hsw : swapsWith (.ListComp elt [⟨tg, iter, ifs, 0⟩] scope lpos) (some (.Name y py)) pos.line X.env = pure true := by exact sw_true rfl rfl rfl (by decide +kernel)) (hs : ∀ x, foldedSetIterable iter X.env x = pure x := by intro _; rfl) :
    QS X W Fr (.Assign [.Name y py] (.ListComp elt [⟨tg, iter, ifs, 0⟩] scope lpos) pos) (setS i (lcE it (own.map (·.2)) tt tc me)) :=
  ps_imp (ps_setLc hc hN hy hyl hsw hi ok hg ht he hs) fun De σ H ⟨μ, ρ, s, hf, he, hs, h⟩ => lc_sound hv ⟨Fr, μ, ρ, s, he, hs, runs_fz (runs_stm (Rel1 := RV (wd X)) he h fun d s1 μ1 H1 x e1 x1 hs1 r1 h1 => h1 μ1 H1 _ Ex.refl hs1 ((he.mono x1).setV r1))⟩
theorem qs_ownLc {i : Nat} {y : Str} {py : Pos} {elt tg iter : Expr} {ifs : List Expr} {scope : Scope} {own : List (Str × Nat)} {it : Is} {tt : Tg} {tc : T} {me : E} {lpos : Pos} (hc : X.calm = true) (hN : X.N.Nodup) (hi : QI X W Fn0 tg iter it) (ok : BlkOk X.N X.env.scope scope own) (hv : tt.within (own.map (·.2)) = true)
    (hg : ∀ (s : Shared) (H : Hp) (C : Addr) (cl : List (Str × Addr)) (fp : List Addr), PG (X.blk s H scope (compEnvC scope cl C X.env) fp) tg (gOf X.K tt))
    (ht : ∀ (s : Shared) (H : Hp) (C : Addr) (cl : List (Str × Addr)) (fp : List Addr), PTs (X.blk s H scope (compEnvC scope cl C X.env) fp) ifs (liftT (wd X) (fun _ _ _ _ => False) tc))
    (he : ∀ (s : Shared) (H : Hp) (C : Addr) (cl : List (Str × Addr)) (fp : List Addr), PE (X.blk s H scope (compEnvC scope cl C X.env) fp) elt (liftE (wd X) (fun _ _ _ _ => False) me))
    (hy : X.N[i]? = some y := by rfl) (hyl : X.env.scope.names.lookup y = some .local := by rfl) (hsw : swapsWith (.ListComp elt [⟨tg, iter, ifs, 0⟩] scope lpos) (some (.Name y py)) pos.line X.env = pure true := by exact sw_true rfl rfl rfl (by decide +kernel)) (hs : ∀ x, foldedSetIterable iter X.env x = pure x := by intro _; rfl) :
    QS X W Fr (.Assign [.Name y py] (.ListComp elt [⟨tg, iter, ifs, 0⟩] scope lpos) pos) (ownS i (lcE it (own.map (·.2)) tt tc me)) :=
  ps_imp (ps_setLc hc hN hy hyl hsw hi ok hg ht he hs) fun De σ H ⟨μ, ρ, s, hf, he, hs, h⟩ => lc_sound hv ⟨Fr, μ, ρ, s, he, hs, runs_stm (Rel1 := RF (wd X) H) he h fun d s1 μ1 H1 x e1 x1 hs1 r1 h1 => by
    have q := own_set (i := i) hf he x1 r1
    split at h1
    · rename_i hd
      rw [if_pos hd] at q
      exact h1 μ1 H1 _ Ex.refl hs1 q
    · rename_i hd
      rw [if_neg hd] at q
      exact h1 μ1 H1 _ Ex.refl hs1 q⟩
theorem qts_nil : PTs X [] (liftT (wd X) W yesT) := ⟨fun pins s σ H Q I ⟨Fr, μ, ρ, st, he, hs, h⟩ => (pts_nil (X := X)).run pins s σ H Q I (runs_pure (show runs (wd X) W σ μ H RB Q (.ok true st) from h) hs rfl)⟩
theorem qts_one {c : Expr} (h : PT X c (liftT (wd X) W t)) : PTs X [c] (liftT (wd X) W t) := pts_one h
end
end Fv

namespace Fv
open PySem PySem.Spec PyProof.Rows L2
/-! ### dicts, by trees -/
def getK {κ : Type} [DecidableEq κ] : List κ → List D → κ → Option D
  | k :: ks, v :: vs, x => if k = x then some v else getK ks vs x
  | _, _, _ => none
theorem getK_sound {κ : Type} [DecidableEq κ] {g : Wd} {μ : M} {H : Hp} {x : κ} : ∀ {kk : List κ} {vs : List D} {ys : List V}, RVs g μ H vs ys →
    (∀ d, getK kk vs x = some d → ∃ v, valV (kk.zip ys) x = some v ∧ RV g μ H d v) ∧ (getK kk vs x = none → valV (kk.zip ys) x = none)
  | [], vs, ys, r => ⟨fun d e => by simp [getK] at e, fun _ => by simp [valV]⟩
  | k :: ks, [], ys, r => by
    simp only [RVs] at r; subst r
    exact ⟨fun d e => by simp [getK] at e, fun _ => by simp [valV]⟩
  | k :: ks, v :: vs, ys, r => by
    simp only [RVs] at r
    obtain ⟨y, r', rfl, a, b⟩ := r
    by_cases h : k = x
    · refine ⟨fun d e => ?_, fun e => ?_⟩
      · rw [getK, if_pos h] at e; cases e
        exact ⟨y, by simp [valV, h], a⟩
      · rw [getK, if_pos h] at e; cases e
    · obtain ⟨h1, h2⟩ := getK_sound (x := x) (kk := ks) b
      have e0 : valV ((k :: ks).zip (y :: r')) x = valV (ks.zip r') x := by simp [valV, h]
      rw [getK, if_neg h, e0]
      exact ⟨h1, h2⟩
/-- what a dict has for a key: none, where it is no such dict or key -/
def dGet (s : S) (d k : D) : Option (Option D) := match d with
  | .dct ks vs => (keysD ks).bind fun kk => (keyD k).map fun x => getK kk vs x
  | .dtt ks vs => match k with
    | .tup _ => (keysT ks).bind fun kk => (keyT k).map fun x => getK kk vs x
    | _ => none
  | .ref a => match s[a]? with
    | some (.dct ks vs) => (keysD ks).bind fun kk => (keyD k).map fun x => getK kk vs x
    | some (.dtt ks vs) => match k with
      | .tup _ => (keysT ks).bind fun kk => (keyT k).map fun x => getK kk vs x
      | _ => none
    | _ => none
  | _ => none
theorem keyD_val {g : Wd} {μ : M} {H : Hp} {d : D} {x : V} {k : Key} (r : RW g μ H d x) (e : keyD d = some k) : x = kV k := by
  cases d <;> simp only [keyD, Option.some.injEq, reduceCtorEq] at e
  · subst e; exact w_int r
  · subst e; exact w_str r
theorem keysD_vals {g : Wd} {μ : M} {H : Hp} : ∀ {ds : List D} {ys : List V} {kk : List Key}, RVs g μ H ds ys → keysD ds = some kk → ys = kk.map kV
  | [], ys, kk, r, e => by simp only [RVs] at r; simp only [keysD, Option.some.injEq] at e; subst r; subst e; rfl
  | d :: ds, ys, kk, r, e => by
    simp only [RVs] at r
    obtain ⟨y, r', rfl, a, b⟩ := r
    simp only [keysD, Option.bind_eq_some_iff, Option.map_eq_some_iff] at e
    obtain ⟨k, e1, r2, e2, rfl⟩ := e
    rw [keyD_val a.w e1, keysD_vals b e2]; rfl
theorem keyT_val {g : Wd} {μ : M} {H : Hp} {ds : List D} {x : V} {k : List Key} (r : RW g μ H (.tup ds) x) (e : keyT (.tup ds) = some k) : ∃ p, x = .ref p ∧ H p = some (.tup (k.map kV)) := by
  have r := r.light rfl
  simp only [RV] at r
  obtain ⟨p, ys, rfl, q, rr⟩ := r
  simp only [keyT] at e
  rw [keysD_vals rr e] at q
  exact ⟨p, rfl, q⟩
theorem Rd_of {H : Hp} {p : Addr} {u : HO} (h : H p = some u) : Rd H p u := .inl h
theorem dGet_sound {g : Wd} {μ : M} {H : Hp} {s : S} {d k : D} {x y : V} {o : Option D} (hs : Rs g μ H s) (r : RW g μ H d x) (rk : RW g μ H k y) (e : dGet s d k = some o) :
    ∃ p r, x = .ref p ∧ DGet H p y r ∧ (∀ v, o = some v → ∃ w, r = some w ∧ RV g μ H v w) ∧ (o = none → r = none) := by
  have dk : ∀ {p : Addr} {ks vs : List D} {ys : List V}, Dk H p ks ys → RVs g μ H vs ys → ((keysD ks).bind fun kk => (keyD k).map fun x => getK kk vs x) = some o → ∃ r, DGet H p y r ∧ (∀ v, o = some v → ∃ w, r = some w ∧ RV g μ H v w) ∧ (o = none → r = none) := by
    intro p ks vs ys ⟨kk, e1, q⟩ rv e
    simp only [Option.bind_eq_some_iff, Option.map_eq_some_iff] at e
    obtain ⟨kk', e2, x, e3, e4⟩ := e
    rw [e1] at e2; cases e2
    obtain ⟨g1, g2⟩ := getK_sound (x := x) (kk := kk) rv
    exact ⟨_, .inl ⟨_, x, Rd_of q, keyD_val rk e3, rfl⟩, fun v hv => g1 v (by rw [e4, hv]), fun hv => g2 (by rw [e4, hv])⟩
  have dt : ∀ {p : Addr} {ks vs ds : List D} {ys : List V}, k = .tup ds → Dt H p ks ys → RVs g μ H vs ys → ((keysT ks).bind fun kk => (keyT k).map fun x => getK kk vs x) = some o → ∃ r, DGet H p y r ∧ (∀ v, o = some v → ∃ w, r = some w ∧ RV g μ H v w) ∧ (o = none → r = none) := by
    intro p ks vs ds ys ek ⟨kk, e1, q⟩ rv e
    subst ek
    simp only [Option.bind_eq_some_iff, Option.map_eq_some_iff] at e
    obtain ⟨kk', e2, x, e3, e4⟩ := e
    rw [e1] at e2; cases e2
    obtain ⟨g1, g2⟩ := getK_sound (x := x) (kk := kk) rv
    obtain ⟨b, eb, hb⟩ := keyT_val rk e3
    exact ⟨_, .inr ⟨_, x, b, Rd_of q, eb, hb, rfl⟩, fun v hv => g1 v (by rw [e4, hv]), fun hv => g2 (by rw [e4, hv])⟩
  rcases r with r | ⟨hd, p, rfl, hm, c⟩
  · cases d with
    | dct ks vs =>
      simp only [RV] at r
      obtain ⟨p, ys, rfl, _, q, _, rv⟩ := r
      obtain ⟨r, h⟩ := dk q rv e
      exact ⟨p, r, rfl, h⟩
    | dtt ks vs =>
      simp only [RV] at r
      obtain ⟨p, ys, rfl, _, q, _, rv⟩ := r
      cases k <;> simp only [dGet, reduceCtorEq] at e
      obtain ⟨r, h⟩ := dt rfl q rv e
      exact ⟨p, r, rfl, h⟩
    | ref a =>
      simp only [RV] at r
      obtain ⟨p, ep, rfl⟩ := r
      simp only [dGet] at e
      split at e
      · rename_i ks vs ei
        obtain ⟨ys, q, _, rv⟩ := hs.at_ _ _ _ ei ep
        obtain ⟨r, h⟩ := dk q rv e
        exact ⟨p, r, rfl, h⟩
      · rename_i ks vs ei
        obtain ⟨ys, q, _, rv⟩ := hs.at_ _ _ _ ei ep
        split at e
        · obtain ⟨r, h⟩ := dt rfl q rv e
          exact ⟨p, r, rfl, h⟩
        · cases e
      · cases e
    | _ => cases e
  · cases d with
    | dct ks vs =>
      obtain ⟨ys, q, _, rv⟩ := c
      obtain ⟨r, h⟩ := dk q rv e
      exact ⟨p, r, rfl, h⟩
    | dtt ks vs =>
      obtain ⟨ys, q, _, rv⟩ := c
      cases k <;> simp only [dGet, reduceCtorEq] at e
      obtain ⟨r, h⟩ := dt rfl q rv e
      exact ⟨p, r, rfl, h⟩
    | lst _ => cases e
    | set _ => cases e
    | obj _ _ _ => cases e
    | _ => cases hd
section
variable {X : Cx} {W : WX} {pos : Pos} {a b : Expr} {ma mb : E}
/-- d[k], there, behind its operands -/
theorem dictTail {value slice : Expr} {pins : List (Addr × Obj)} {σ : L2.St} {H : Hp} {sh : Shared} {p : Addr} {y v : V} {u : Value} {Q : VK} (hu : X.A.units + 1 < cLine) (I : Inv X pins σ H sh) (dg : DGet H p y (some v)) (ry : RelV y u) (q : Q v H)
    (hsub : subscripted slice false (.ref p) u = operate [.ref p, u] (getItem (.ref p) u)) : wpAny (model X.prog X.w) X.A (subscriptTail value slice (.ref p) u) (EP X pins σ Q) X.xe sh := by
  have ty := dict_typeIs I dg
  have got : wpAny (model X.prog X.w) X.A (getItem (.ref p) u) (EP X pins σ Q) X.xe sh := d_getItem hu I dg ry fun w' s' I' rw' => ⟨v, H, I', rw', q⟩
  have last : wpAny (model X.prog X.w) X.A (subscripted slice false (.ref p) u) (fun r s₃ => wpAny (model X.prog X.w) X.A (letTemporaryGo value (.ref p) r >>= fun _ => pure r) (EP X pins σ Q) X.xe s₃) X.xe sh := by
    rw [hsub]
    exact wpAny_operating (wpAny_mono got (fun r s₃ k => wpAny_bind (wpAny_letTemporaryGo (wpAny_pure k))) fun _ _ z => z)
  unfold subscriptTail
  refine wpAny_bind (?_)
  rw [getitemInPython_of_ne (ty).not_modules]
  refine wpAny_bind (wpAny_specialOf ty PySem.F.slot_dict_getitem.lookup ?_)
  first
    | exact (wpAny_pure (wpAny_bind last))
    | exact (wpAny_bind (wpAny_pure (wpAny_bind last)))
    | exact (wpAny_bind last)
/-! ### items and slices -/
def ch (c : Nat) : Tx := ⟨#[c]⟩
def idxS (s : S) (x y : D) : Option D := match seqOf s x with
  | some xs => match y with | .int i => atI xs i | _ => none
  | none => match x, y with
    | .str z, .int i => if szl z.length then (atI z.cps.toList i).map fun c => .str (ch c) else none
    | x, y => (dGet s x y).bind id
def idxD (x y : D) (s : S) : R D := match idxS s x y with | some v => .ok v s | none => .bad
def optInt : Option D → Option (Option Int)
  | none => some none
  | some (.int i) => some (some i)
  | _ => none
def cutD (xs : List D) (lo hi : Option Int) : List D := (xs.drop (HT.sIx xs.length 0 lo)).take (HT.sIx xs.length xs.length hi - HT.sIx xs.length 0 lo)
def lsOf (s : S) : D → Option (List D)
  | .lst xs => some xs
  | .fl xs => some xs
  | .ref a => match s[a]? with | some (.lst xs) => some xs | _ => none
  | _ => none
def sliceD (x : D) (lo hi : Option Int) (s : S) : R D := match x with
  | .str z => if szl z.length then .ok (.str (cutS z lo hi)) s else .bad
  | .tup xs => .ok (if HT.sIx xs.length 0 lo = 0 ∧ HT.sIx xs.length xs.length hi = xs.length then x else .tup (cutD xs lo hi)) s
  | .ktup xs => .ok (if HT.sIx xs.length 0 lo = 0 ∧ HT.sIx xs.length xs.length hi = xs.length then x else .tup (cutD xs lo hi)) s
  | x => match lsOf s x with
    | some xs => .ok (.lst (cutD xs lo hi)) s
    | none => .bad
abbrev Os := En → S → R (Option Int)
def noO : Os := fun _ s => .ok none s
def someO (a : E) : Os := fun ρ s => (a ρ s).bind fun d s => match d with | .int i => .ok (some i) s | _ => .bad
def sliceE (x : E) (lo hi : Os) : E := fun ρ s => (x ρ s).bind fun d s => (lo ρ s).bind fun l s => (hi ρ s).bind fun h s => sliceD d l h s
theorem atI_rvs {g : Wd} {μ : M} {H : Hp} {xs : List D} {vs : List V} (r : RVs g μ H xs vs) {i : Int} {d : D} (h : atI xs i = some d) : ∃ v, atI vs i = some v ∧ RV g μ H d v := by
  unfold atI at h ⊢
  rw [← r.length]
  cases q : ixN xs.length i with
  | none => rw [q] at h; cases h
  | some j =>
    rw [q] at h
    exact r.get h
/-- what is read is a value -/
def rI (g : Wd) (o : S → D → D → Option D) : R2 := fun x y H Q => ∃ μ s d e v, Rs g μ H s ∧ RW g μ H d x ∧ RW g μ H e y ∧ o s d e = some v ∧ ∀ w, RV g μ H v w → Q w H
theorem qx_idx (hu : X.A.units + 1 < cLine) : IxR X (rI (wd X) idxS) := by
  intro value slice pins sh σ H x y v u Q I rx ry ⟨μ, s, d, e, w, hs, r1, r2, ho, h⟩ hsub
  unfold idxS at ho
  split at ho
  · rename_i xs es
    split at ho
    · rename_i i
      obtain rfl := w_int r2
      obtain ⟨p, ys, rfl, q, rr⟩ := seqOf_sound hs r1 es
      obtain ⟨z, e1, e2⟩ := atI_rvs rr ho
      refine ix_seq value slice pins sh σ H _ _ v u Q I rx ry ?_ hsub
      rcases q with q | q
      · exact .inr (.inl ⟨p, ys, _, z, rfl, rfl, q, e1, h z e2⟩)
      · exact .inl ⟨p, ys, _, z, rfl, rfl, q, e1, h z e2⟩
    · cases ho
  · split at ho
    · rename_i z i _
      obtain rfl := w_str r1; obtain rfl := w_int r2
      split at ho
      · rename_i hz
        simp only [Option.map_eq_some_iff] at ho
        obtain ⟨c, hc, rfl⟩ := ho
        exact ix_seq value slice pins sh σ H _ _ v u Q I rx ry (.inr (.inr ⟨z, i, c, rfl, rfl, of_decide_eq_true hz, hc, h _ (by simp only [RV, ch])⟩)) hsub
      · cases ho
    · simp only [Option.bind_eq_some_iff, id] at ho
      obtain ⟨o, ho, rfl⟩ := ho
      obtain ⟨p, r, rfl, dg, k1, _⟩ := dGet_sound hs r1 r2 ho
      obtain ⟨z, rfl, rz⟩ := k1 _ rfl
      obtain rfl : v = Value.ref p := rx
      exact dictTail hu I dg ry (h z rz) hsub
theorem q_idx (hu : X.A.units + 1 < cLine) (ha : PE X a (liftB (wd X) W ma)) (hb : PE X b (liftB (wd X) W mb)) (hs : PlainIx b := by exact fun _ _ => rfl) : PE X (.Subscript a b pos) (liftE (wd X) W (binE idxD ma mb)) :=
  pe_imp (pe_ix (qx_idx hu) ha hb hs) fun σ H Q ⟨Fr, μ, ρ, s, he, hs, h⟩ => by
    refine ⟨Fr, μ, ρ, s, he, hs, runs_bind (Rel1 := RW (wd X)) h fun d s1 μ1 H1 x e1 x1 hs1 r1 h1 => ?_⟩
    refine ⟨Fr, μ1, ρ, s1, he.mono x1, hs1, runs_bind (Rel1 := RW (wd X)) h1 fun d2 s2 μ2 H2 y e2 x2 hs2 r2 h2 => ?_⟩
    unfold idxD at h2
    split at h2
    · rename_i v hv
      exact ⟨μ2, s2, d, d2, v, hs2, r1.mono x2, r2, hv, fun w rw' => runs_pure h2 hs2 rw'⟩
    · exact h2.elim
theorem cut_rvs {g : Wd} {μ : M} {H : Hp} {xs : List D} {vs : List V} (r : RVs g μ H xs vs) (lo hi : Option Int) : RVs g μ H (cutD xs lo hi) (cutV vs lo hi) := by
  unfold cutD cutV
  rw [r.length]
  exact (r.drop _).take _
def rS (g : Wd) (o : D → Option Int → Option Int → S → R D) : V → Option Int → Option Int → Hp → VK → Prop := fun x lo hi H Q => ∃ μ s d, Rs g μ H s ∧ RW g μ H d x ∧ ∃ W σ, runs g W σ μ H (RF g H) Q (o d lo hi s)
theorem lsOf_sound {g : Wd} {μ : M} {H : Hp} {s : S} {d : D} {x : V} {xs : List D} (hs : Rs g μ H s) (r : RW g μ H d x) (e : lsOf s d = some xs) : ∃ p ys, x = .ref p ∧ SqL g.K H p ys ∧ RVs g μ H xs ys := by
  by_cases hf : ∃ zs, d = .fl zs
  · obtain ⟨zs, rfl⟩ := hf
    have r := r.light rfl
    simp only [RV] at r
    obtain ⟨p, ys, rfl, q, rr⟩ := r
    simp only [lsOf, Option.some.injEq] at e
    subst e
    exact ⟨p, ys, rfl, q.sq, rr⟩
  · have e' : lstOf s d = some xs := by
      cases d <;> simp only [lsOf, reduceCtorEq] at e <;> simp only [lstOf]
      · exact e
      · exact (hf ⟨_, rfl⟩).elim
      · exact e
    obtain ⟨p, ys, rfl, q, rr⟩ := lstOf_sound hs r e'
    exact ⟨p, ys, rfl, .inl (.inl q), rr⟩
theorem qs_slice : SlR X (rS (wd X) sliceD) := by
  intro pins sh σ H x v vl vu lo hi sl Q I rx hsl pl pu ⟨μ, s, d, hs, r1, W, σ', h⟩
  refine (SlR.or (SlR.or sl_str sl_tupA) sl_list) pins sh σ H x v vl vu lo hi sl Q I rx hsl pl pu ?_
  have tup : ∀ {xs : List D}, tupOf d = some xs → runs (wd X) W σ' μ H (RF (wd X) H) Q (.ok (if HT.sIx xs.length 0 lo = 0 ∧ HT.sIx xs.length xs.length hi = xs.length then d else .tup (cutD xs lo hi)) s) → rSlA X.K x lo hi H Q := by
    intro xs et h
    obtain ⟨p, ys, rfl, q, rr⟩ := tupOf_sound r1 et
    refine ⟨p, ys, rfl, q, fun hw => ?_, fun hw => ?_⟩
    · rw [← rr.length] at hw
      rw [if_pos hw] at h
      exact rf_pure h hs (tupOf_light et) (r1.light (tupOf_light et))
    · rw [← rr.length] at hw
      rw [if_neg hw] at h
      exact rv_tup hs (cut_rvs rr lo hi) h
  unfold sliceD at h
  split at h
  · obtain rfl := w_str r1
    split at h
    · rename_i z hz
      exact .inl (.inl ⟨z, rfl, of_decide_eq_true hz, rf_str h hs⟩)
    · exact h.elim
  · exact .inl (.inr (tup rfl h))
  · exact .inl (.inr (tup rfl h))
  · split at h
    · rename_i xs es
      obtain ⟨p, ys, rfl, q, rr⟩ := lsOf_sound hs r1 es
      exact .inr ⟨p, ys, rfl, q, rf_lst h hs (cut_rvs rr lo hi)⟩
    · exact h.elim
def liftO (g : Wd) (W : WX) (m : Os) : L2.St → Hp → (Option Int → Hp → Prop) → Prop := fun σ H Q => ∃ Fr μ ρ s, REn g Fr μ H ρ σ ∧ Rs g μ H s ∧ runs g W σ μ H (fun _ _ a b => a = b) Q (m ρ s)
theorem qo_none : PO X none (liftO (wd X) W noO) := ⟨fun pins s σ H Q I ⟨Fr, μ, ρ, st, he, hs, h⟩ => po_none.run pins s σ H Q I (runs_pure (show runs (wd X) W σ μ H (fun _ _ a b => a = b) Q (.ok none st) from h) hs rfl)⟩
theorem qo_some (ha : PE X a (liftB (wd X) W ma)) : PO X (some a) (liftO (wd X) W (someO ma)) := ⟨fun pins s σ H Q I ⟨Fr, μ, ρ, st, he, hs, h⟩ => (po_some ha).run pins s σ H Q I ⟨Fr, μ, ρ, st, he, hs, runs_bind (Rel1 := RW (wd X)) h fun d s1 μ1 H1 x e1 x1 hs1 r1 h1 => by
  cases d <;> try exact h1.elim
  exact ⟨_, w_int r1, runs_pure h1 hs1 rfl⟩⟩⟩
theorem q_slice {lo hi : Option Expr} {p2 : Pos} {ml mh : Os} (ha : PE X a (liftB (wd X) W ma)) (hl : PO X lo (liftO (wd X) W ml)) (hh : PO X hi (liftO (wd X) W mh)) : PE X (.Subscript a (.Slice lo hi none p2) pos) (liftF (wd X) W (sliceE ma ml mh)) :=
  pe_imp (pe_slice qs_slice ha hl hh) fun σ H Q ⟨Fr, μ, ρ, s, he, hs, h⟩ => ⟨Fr, μ, ρ, s, he, hs, runs_bind (Rel1 := RW (wd X)) h fun d s1 μ1 H1 x e1 x1 hs1 r1 h1 =>
    ⟨Fr, μ1, ρ, s1, he.mono x1, hs1, runs_bind (Rel1 := fun _ _ a b => a = b) h1 fun l s2 μ2 H2 l' e2 x2 hs2 r2 h2 => by
      subst r2
      exact ⟨Fr, μ2, ρ, s2, (he.mono x1).mono x2, hs2, runs_bind (Rel1 := fun _ _ a b => a = b) h2 fun u s3 μ3 H3 u' e3 x3 hs3 r3 h3 => by
        subst r3
        exact ⟨μ3, s3, d, hs3, (r1.mono x2).mono x3, W, σ, runs_back ((x1.trans x2).trans x3) h3⟩⟩⟩⟩

/-! ### calls of built-in things -/
def rC (g : Wd) (f : Fn) : List V → Hp → VK → Prop := fun xs H Q => ∃ μ s ds, Rs g μ H s ∧ RWs g μ H ds xs ∧ ∃ W σ, runs g W σ μ H (RF g H) Q (f ds s)
theorem call_sound {g : Wd} {f : Fn} {ms : As} {σ : L2.St} {H : Hp} {Q : VK} (h : liftF g W (callE f ms) σ H Q) : tCB (rC g f) (liftAB g W ms) σ H Q := by
  obtain ⟨Fr, μ, ρ, s, he, hs, h⟩ := h
  exact ⟨Fr, μ, ρ, s, he, hs, runs_bind (Rel1 := RWs g) h fun d s1 μ1 H1 x e1 x1 hs1 r1 h1 => ⟨μ1, s1, d, hs1, r1, W, σ, runs_back x1 h1⟩⟩
theorem q_callB {x : Str} {p : Pos} {e : Expr} {es : List Expr} {id : String} {f : Fn} {ms : As} (hc : CallR X (.builtin id) (rC (wd X) f)) (hm : X.mg x = none) (hv : bootBuiltins x = some (.builtin id)) (ha : PA X (e :: es) (liftAB (wd X) W ms)) (hg : Gl X x := by rfl)
    (hn : x ≠ "__name__" := by decide) (hdb : (x == ("__debug__" : Str)) = false := by decide) (he : starEach (e :: es) X.env = (false, eval e X.env) :: starEach es X.env := by rfl) (hpl : (backTo pos (starEach es X.env)).any (·.1) = false := by rfl) :
    PE X (.Call (.Name x p) (e :: es) [] pos) (liftF (wd X) W (callE f ms)) := pe_imp (pe_callB hc hg hm hv ha hn hdb he hpl) fun _ _ _ => call_sound
theorem q_callT {x : Str} {p : Pos} {e : Expr} {es : List Expr} {id : String} {f : Fn} {ms : As} (hc : CallR X (.type id) (rC (wd X) f)) (hm : X.mg x = none) (hv : bootBuiltins x = some (.type id)) (ha : PA X (e :: es) (liftAB (wd X) W ms)) (hg : Gl X x := by rfl)
    (hn : x ≠ "__name__" := by decide) (hdb : (x == ("__debug__" : Str)) = false := by decide) (he : starEach (e :: es) X.env = (false, eval e X.env) :: starEach es X.env := by rfl) (hpl : (backTo pos (starEach es X.env)).any (·.1) = false := by rfl) :
    PE X (.Call (.Name x p) (e :: es) [] pos) (liftF (wd X) W (callE f ms)) := pe_imp (pe_callTy hc hg hm hv ha hn hdb he hpl) fun _ _ _ => call_sound
def lenO (s : S) (d : D) : Option Nat := match seqOf s d with
  | some xs => some xs.length
  | none => match d with
    | .str z => if szl z.length then some z.length else none
    | .dct ks _ => some ks.length
    | .ref a => match s[a]? with | some (.dct ks _) => some ks.length | _ => none
    | _ => none
def lenF : Fn := fun ds s => match ds with
  | [d] => match lenO s d with | some n => .ok (.int n) s | none => .bad
  | _ => .bad
theorem zip_len {ks : List D} {kk : List Key} {ys : List V} (e : keysD ks = some kk) (l : ks.length = ys.length) : (kk.zip ys).length = ks.length := by rw [List.length_zip, ← keysD_len e, ← l]; simp
theorem qc_len : CallR X (.builtin "len") (rC (wd X) lenF) := by
  intro pins sh σ H xs us Q I rv ⟨μ, s, ds, hs, r, W, σ', h⟩
  unfold lenF at h
  split at h
  · rename_i d
    obtain ⟨x, rfl, r1⟩ := r.inv1
    split at h
    · rename_i n hn
      have q := rf_int h hs
      unfold lenO at hn
      split at hn
      · rename_i zs es
        cases hn
        obtain ⟨p, ys, rfl, qq, rr⟩ := seqOf_sound hs r1 es
        rw [rr.length] at q
        exact call_len pins sh σ H _ us Q I rv ⟨_, _, rfl, qq.elim (fun q => .inr ⟨ys, q, rfl⟩) (fun q => .inl ⟨ys, q, rfl⟩), q⟩
      · have dk : ∀ {p : Addr} {ks : List D} {ys : List V}, x = .ref p → Dk H p ks ys → ks.length = ys.length → n = ks.length → wpAny (model X.prog X.w) X.A (call (.builtin "len") us) (EP X pins σ Q) X.xe sh := by
          intro p ks ys ex ⟨kk, ek, hp⟩ l en
          subst ex; subst en
          rw [← zip_len ek l] at q
          exact call_lenD pins sh σ H _ us Q I rv ⟨p, _, rfl, hp, q⟩
        split at hn
        · split at hn
          · rename_i z hz
            cases hn
            obtain rfl := w_str r1
            exact call_len pins sh σ H _ us Q I rv ⟨_, _, rfl, ⟨of_decide_eq_true hz, rfl⟩, q⟩
          · cases hn
        · cases hn
          rcases r1 with r1 | ⟨_, p, rfl, _, c⟩
          · simp only [RV] at r1
            obtain ⟨p, ys, ex, _, qq, l, _⟩ := r1
            exact dk ex qq l rfl
          · obtain ⟨ys, qq, l, _⟩ := c
            exact dk rfl qq l rfl
        · have r1 := r1.light rfl
          simp only [RV] at r1
          obtain ⟨p, ep, rfl⟩ := r1
          split at hn
          · rename_i ks vs ei
            cases hn
            obtain ⟨ys, qq, l, _⟩ := hs.at_ _ _ _ ei ep
            exact dk rfl qq l rfl
          · cases hn
        · cases hn
    · exact h.elim
  · exact h.elim
def absF : Fn := fun ds s => match ds with | [.int i] => .ok (.int (if i < 0 then -i else i)) s | _ => .bad
theorem qc_abs : CallR X (.builtin "abs") (rC (wd X) absF) := by
  intro pins sh σ H xs us Q I rv ⟨μ, s, ds, hs, r, W, σ', h⟩
  unfold absF at h
  split at h
  · obtain ⟨x, rfl, r1⟩ := r.inv1
    obtain rfl := w_int r1
    exact call_abs pins sh σ H _ us Q I rv ⟨_, rfl, rf_int h hs⟩
  · exact h.elim
def intF : Fn := fun ds s => match ds with | [.int i] => .ok (.int i) s | [.bl k] => .ok (.int (if k then 1 else 0)) s | _ => .bad
theorem qc_int : CallR X (.type "int") (rC (wd X) intF) := by
  intro pins sh σ H xs us Q I rv ⟨μ, s, ds, hs, r, W, σ', h⟩
  unfold intF at h
  split at h
  · obtain ⟨x, rfl, r1⟩ := r.inv1
    obtain rfl := w_int r1
    exact call_int1 pins sh σ H _ us Q I rv (.inl ⟨_, rfl, rf_int h hs⟩)
  · obtain ⟨x, rfl, r1⟩ := r.inv1
    obtain rfl := w_bl r1
    exact call_int1 pins sh σ H _ us Q I rv (.inr ⟨_, rfl, rf_int h hs⟩)
  · exact h.elim
/-- ints of a list -/
def intsOf : List D → Option (List Int)
  | [] => some []
  | .int b :: r => (intsOf r).map (b :: ·)
  | _ => none
theorem ints_rvs {g : Wd} {μ : M} {H : Hp} : ∀ {xs : List D} {vs : List V} {bs : List Int}, RVs g μ H xs vs → intsOf xs = some bs → vs = bs.map V.int
  | [], _, _, r, e => by simp only [RVs] at r; subst r; simp only [intsOf, Option.some.injEq] at e; subst e; rfl
  | d :: ds, _, _, r, e => by
    simp only [RVs] at r
    obtain ⟨y, r', rfl, a, b⟩ := r
    cases d <;> simp only [intsOf, reduceCtorEq, Option.map_eq_some_iff] at e
    obtain ⟨bs, e1, rfl⟩ := e
    simp only [RV] at a; subst a
    rw [ints_rvs b e1]; rfl
/-- bools of a list -/
def blsOf : List D → Option (List Bool)
  | [] => some []
  | .bl b :: r => (blsOf r).map (b :: ·)
  | _ => none
def allF : Fn := fun ds s => match ds with
  | [d] => match (lsOf s d).bind blsOf with | some bs => .ok (.bl (bs.all id)) s | none => .bad
  | _ => .bad
theorem bls_rvs {g : Wd} {μ : M} {H : Hp} : ∀ {xs : List D} {vs : List V} {bs : List Bool}, RVs g μ H xs vs → blsOf xs = some bs → vs = bs.map V.bl
  | [], _, _, r, e => by simp only [RVs] at r; subst r; simp only [blsOf, Option.some.injEq] at e; subst e; rfl
  | d :: ds, _, _, r, e => by
    simp only [RVs] at r
    obtain ⟨y, r', rfl, a, b⟩ := r
    cases d <;> simp only [blsOf, reduceCtorEq, Option.map_eq_some_iff] at e
    obtain ⟨bs, e1, rfl⟩ := e
    simp only [RV] at a; subst a
    rw [bls_rvs b e1]; rfl
theorem qc_all (hc : X.calm = true) : CallR X (.builtin "all") (rC (wd X) allF) := by
  intro pins sh σ H xs us Q I rv ⟨μ, s, ds, hs, r, W, σ', h⟩
  unfold allF at h
  split at h
  · obtain ⟨x, rfl, r1⟩ := r.inv1
    split at h
    · rename_i bs eb
      simp only [Option.bind_eq_some_iff] at eb
      obtain ⟨zs, e1, e2⟩ := eb
      obtain ⟨p, ys, rfl, q, rr⟩ := lsOf_sound hs r1 e1
      have := bls_rvs rr e2
      subst this
      exact cr_all hc pins sh σ H _ us Q I rv ⟨p, bs, rfl, q, rf_bl h hs⟩
    · exact h.elim
  · exact h.elim
end
end Fv

namespace Fv
open PySem PySem.Spec PyProof.Rows L2
/-! ### defs -/
structure Rm (k : Nat) (A : Around) : Prop where
  r : Room k A
  g : A.guards = some []
theorem Rm.mono {j k : Nat} {A : Around} (r : Rm k A) (h : j ≤ k) : Rm j A := ⟨r.r.mono h, r.g⟩
theorem Rm.units {k : Nat} {A : Around} (r : Rm k A) : A.units + 64 < cLine := r.r.units
theorem Rm.u1 {k : Nat} {A : Around} (r : Rm k A) : A.units + 1 < cLine := by have := r.r.units; omega
/-- the promise of a function of trees -/
def spF (g : Wd) (f : Fn) : Sp := fun vs H Q E => ∃ μ ds s, RVs g μ H ds vs ∧ Rs g μ H s ∧ runs g (fun c d _ H => E c d H) [] μ H (RV g) Q (f ds s)
/-- the def at fa keeps it -/
def FnG (P : Program) (w : World) (K : PySem.W.Frag) (mg : Str → Option Value) (base : Heap) (k : Nat) (fa : Addr) (sp : Sp) : Prop :=
  ∀ (A : Around) (outer : List PySem.Env) (s : Shared) (H : Hp) (us : List Value) (vs : List V) (Q : VK) (E : XK), Rm k A → Env0 P w K mg base A outer s H → Vals vs us → sp vs H Q E →
    codeAny (model P w) A (.call (.ref fa) ⟨us, []⟩) (CR (L2.CX P w) outer P w H s Q E) s
structure DefOk (P : Program) (w : World) (K : PySem.W.Frag) (mg : Str → Option Value) (base : Heap) (k : Nat) (x : Str) (f : Fn) : Prop where
  ex : ∃ fa, mg x = some (.ref fa) ∧ PySem.W.keepIn K (.ref fa) = true ∧ FnG P w K mg base k fa (spF ⟨K, mg, P, w⟩ f)
theorem FnG.mono {P : Program} {w : World} {K : PySem.W.Frag} {mg : Str → Option Value} {base : Heap} {j k : Nat} {fa : Addr} {sp : Sp} (c : FnG P w K mg base j fa sp) (h : j ≤ k) : FnG P w K mg base k fa sp := fun A outer s H us vs Q E r => c A outer s H us vs Q E (r.mono h)
theorem DefOk.mono {P : Program} {w : World} {K : PySem.W.Frag} {mg : Str → Option Value} {base : Heap} {j k : Nat} {x : Str} {f : Fn} (d : DefOk P w K mg base j x f) (h : j ≤ k) : DefOk P w K mg base k x f := by
  obtain ⟨fa, a, b, c⟩ := d.ex
  exact ⟨fa, a, b, c.mono h⟩
def fin (r : RS) : R D := match r with
  | .nx _ s => .ok .non s
  | .rt d s => .ok d s
  | .err c ns vs _ s => .err c ns vs s
  | _ => .bad
def vals (ds : List D) : En := ds.map fun d => some (.v d)
/-- a def by its body: n parameters, N names -/
def mkFn (n N : Nat) (body : C) : Fn := fun ds s => if decide (ds.length = n) then fin (body (vals ds ++ List.replicate (N - n) none) s) else .bad
/-- with a last starred parameter -/
def mkFnS (n N : Nat) (body : C) : Fn := fun ds s => if decide (n ≤ ds.length) && szl (ds.length - n) then
    fin (body (vals (ds.take n ++ [D.tup (ds.drop n)]) ++ List.replicate (N - (n + 1)) none) s)
  else .bad
section
variable {P : Program} {w : World} {K : PySem.W.Frag} {mg : Str → Option Value} {base : Heap} {k : Nat}
theorem ren_start {g : Wd} {Fr : Addr → Prop} {μ : M} {H : Hp} {N : List Str} {ds : List D} {vs : List V} {n : Nat} (r : RVs g μ H ds vs) (hn : N.length = n) : REn g Fr μ H (vals ds ++ List.replicate (n - ds.length) none) (L2.start N vs) := by
  unfold L2.start
  have at_ : ∀ {i : Nat} {sl : Sl}, (vals ds ++ List.replicate (n - ds.length) (none : Option Sl))[i]? = some (some sl) → ∃ d, sl = .v d ∧ ds[i]? = some d := by
    intro i sl e
    by_cases hi : i < ds.length
    · rw [List.getElem?_append_left (by simpa [vals] using hi)] at e
      simp only [vals, List.getElem?_map, Option.map_eq_some_iff] at e
      obtain ⟨d, e1, e2⟩ := e
      cases e2
      exact ⟨d, rfl, e1⟩
    · rw [List.getElem?_append_right (by simpa [vals] using Nat.le_of_not_lt hi), List.getElem?_replicate] at e
      split at e <;> cases e
  refine ⟨by simp [vals, r.length, hn], fun i d e => ?_, fun i d e => ?_, fun i j d e p e1 => ?_⟩
  · obtain ⟨d', e1, e2⟩ := at_ e
    cases e1
    obtain ⟨v, a, b⟩ := r.get e2
    exact ⟨v, by rw [List.getElem?_append_left (by rw [List.length_map]; exact (List.getElem?_eq_some_iff.mp a).1), List.getElem?_map, a]; rfl, b⟩
  · obtain ⟨d', e1, _⟩ := at_ e
    cases e1
  · obtain ⟨d', e1, _⟩ := at_ e1
    cases e1
theorem ex_call {μ μ' : M} {H H' : Hp} (x : Ex (fun p => H p = none) μ H μ' H') : Ex Fn0 μ H μ' H' :=
  ⟨x.pre, x.trk, x.tup, x.frz, fun p u e n _ => x.oth p u e n (.inr fun z => by rw [e] at z; cases z), x.zs, fun p h => (x.zn p h).elim .inl fun h => .inr (.inr (h.elim id id))⟩
theorem fin_sound {g : Wd} {μ : M} {H : Hp} {Q : VK} {E : XK} {r : RS} (h : runs g (fun c d _ H => E c d H) [] μ H (RV g) Q (fin r)) : runsS g (fun c d _ H => E c d H) (fun p => H p = none) μ H { nx := fun _ H' => Q .non H', rt := Q } r := by
  cases r with
  | nx ρ s => exact fun μ' H' σ' x y z => h μ' H' .non (ex_call x) y (by simp only [RV])
  | rt d s => exact fun μ' H' b x y z => h μ' H' b (ex_call x) y z
  | err c ns vs ρ s => exact fun μ' H' σ' C dx x y z => h μ' H' C dx (ex_call x) y
  | _ => exact (show False from h).elim
/-- THE RULE of a def -/
theorem def_g {x qual : Str} {st : Stmt} {fa : Addr} {fd : FuncData} {N ps : List Str} {n nN : Nat} {body : C} (F : Fun K x qual st fa fd) (S : FnScope N ps (defScope st)) (hnN : N.length = nN) (hn : ps.length = n)
    (hb : ∀ (s : Shared) (us : List Value), K.In s.heap → us.length = ps.length → BindsTo s fd ⟨us, []⟩ (ps.zip us))
    (hbody : ∀ (cdv : Value) (A : Around) (outer : List PySem.Env) (s : Shared) (H : Hp) (E : XK) (Fr : Addr → Prop), Rm k (A.deeper (envOfC qual (defScope st) s.heap.objs.size fa cdv)) →
      QSs (cxOf (L2.CX P w) P w K mg base N qual (defScope st) fa cdv A outer s H E) (fun c d _ H => E c d H) Fr (defBody st) body) : FnG P w K mg base (k + 1) fa (spF ⟨K, mg, P, w⟩ (mkFn n nN body)) := by
  intro A outer s H us vs Q E hr e0 r hsp
  obtain ⟨oc, od, kV, doc, pm, an, cdv, ct, osl, rfl, lk, hcd⟩ := F.ex
  obtain ⟨μ, ds, st', rr, hs, h⟩ := hsp
  unfold mkFn at h
  split at h
  · rename_i hl
    have hln : ds.length = n := of_decide_eq_true hl
    have hus : us.length = ps.length := by rw [← r.length, ← rr.length, hln, hn]
    have KX : K.In s.heap := e0.mod.kin.keeps fun b o e => (e0.bs b o e).1
    refine StX.run_bnd (E := E) lk hcd S hr.r e0 (G := fun xs H2 => xs = vs ∧ H2 = H) (fun A' Ex Q' hq => ?_) fun s2 H2 xs ⟨ex, eH⟩ hr' => ?_
    · exact hb s us KX hus _ A' _ _ (hq s H vs us e0 Un.refl rfl (fun _ _ z => z) r (by rw [← rr.length, hln, hn]) ⟨rfl, rfl⟩)
    · subst ex; subst eH
      refine ⟨_, hbody cdv A outer s2 _ E (fun p => H2 p = none) ⟨hr', hr.g⟩, μ, _, st', fun p e => e, ren_start rr hnN, hs, ?_⟩
      rw [hln]
      exact fin_sound h
  · exact h.elim
theorem defS_g {x qual : Str} {st : Stmt} {fa : Addr} {fd : FuncData} {N ps : List Str} {n nN : Nat} {pv : Str} {body : C} (F : Fun K x qual st fa fd) (S : FnScope N (ps ++ [pv]) (defScope st)) (hnN : N.length = nN) (hn : ps.length = n)
    (hb : ∀ (kV doc pm : Value) (an : Option Addr) (cdv ct : Value) (us rest : List Value), us.length = ps.length → bindArgs (PySem.W.fnOf x qual (defArgs st) (defBody st) (defScope st) .none kV doc pm an cdv ct) ⟨us ++ rest, []⟩ = (newTuple rest >>= fun t => pure (ps.zip us ++ [(pv, t)])))
    (hbody : ∀ (cdv : Value) (A : Around) (outer : List PySem.Env) (s : Shared) (H : Hp) (E : XK) (Fr : Addr → Prop), Rm k (A.deeper (envOfC qual (defScope st) s.heap.objs.size fa cdv)) →
      QSs (cxOf (L2.CX P w) P w K mg base N qual (defScope st) fa cdv A outer s H E) (fun c d _ H => E c d H) Fr (defBody st) body) : FnG P w K mg base (k + 1) fa (spF ⟨K, mg, P, w⟩ (mkFnS n nN body)) := by
  intro A outer s H us vs Q E hr e0 r hsp
  obtain ⟨oc, od, kV, doc, pm, an, cdv, ct, osl, rfl, lk, hcd⟩ := F.ex
  obtain ⟨μ, ds, st', rr, hs, h⟩ := hsp
  unfold mkFnS at h
  split at h
  · rename_i hl
    simp only [Bool.and_eq_true, decide_eq_true_eq] at hl
    have e1 := rr.take n
    have e2 := rr.drop n
    have r1 := r.take n
    have r2 := r.drop n
    have hus : (us.take n).length = ps.length := by rw [List.length_take, ← r.length, ← rr.length, hn]; omega
    have hvs : (vs.take n).length = ps.length := by rw [List.length_take, ← rr.length, hn]; omega
    have hz : (vs.drop n).length ≤ sizeLine := by rw [List.length_drop, ← rr.length]; exact of_decide_eq_true hl.2
    have hz2 : (us.drop n).length ≤ sizeLine := by rw [← r2.length]; exact hz
    have hf : H s.heap.objs.size = none := e0.hok.fresh (Nat.le_refl _)
    refine StX.run_bnd (E := E) lk hcd S hr.r e0 (G := fun xs H2 => ∃ p, H p = none ∧ xs = vs.take n ++ [.ref p] ∧ H2 = upd H p (.tup (vs.drop n))) (fun A' Ex Q' hq => ?_) fun s2 H2 xs hG hr' => ?_
    · have eu : us = us.take n ++ us.drop n := (List.take_append_drop n us).symm
      rw [eu, hb kV doc pm an cdv ct _ _ hus]
      refine wpAny_bind (wpAny_newTuple (wpAny_pure ?_) hz2)
      have ob : ObjOk P w (upd H s.heap.objs.size (.tup (vs.drop n))) (s.heap.push ({ cls := .type "tuple", data := .seq (us.drop n).toArray } : Obj)) s.heap.objs.size (.tup (vs.drop n)) := ⟨hz, us.drop n, r2, ⟨_, Heap.get?_push_size _ rfl, rfl, _, rfl⟩⟩
      have un := StX.un_laid (fs := frs outer) (s := s) (o := ({ cls := .type "tuple", data := .seq (us.drop n).toArray } : Obj)) (u := .tup (vs.drop n)) hf
      have fin := hq _ _ (vs.take n ++ [V.ref s.heap.objs.size]) (us.take n ++ [Value.ref s.heap.objs.size]) (StX.env0_laid e0 ob) un rfl (fun e s' => StX.cxUp outer s H _ _ E e s' un (fun b o q => Heap.get?_push_of_some _ q) rfl) (r1.append (.cons rfl .nil))
        (by rw [List.length_append, List.length_append, hvs] <;> rfl) ⟨_, hf, rfl, rfl⟩
      rw [List.zip_append hus.symm] at fin
      exact fin
    · obtain ⟨p, hp, ex, eH⟩ := hG
      subst ex; subst eH
      have hx : Ex Fn0 μ H μ (upd H p (.tup (vs.drop n))) := ex_new hp
      have rall : RVs ⟨K, mg, P, w⟩ μ (upd H p (.tup (vs.drop n))) (ds.take n ++ [.tup (ds.drop n)]) (vs.take n ++ [.ref p]) := (e1.mono hx).append (.one (rv_new hp e2))
      refine ⟨_, hbody cdv A outer s2 _ E (fun q => upd H p (.tup (vs.drop n)) q = none) ⟨hr', hr.g⟩, μ, _, st', fun p e => e, ren_start rall hnN, hs.new hp, ?_⟩
      have hlen : (ds.take n ++ [D.tup (ds.drop n)]).length = n + 1 := by simp; omega
      rw [hlen]
      exact fin_sound (runs_mono hx h)
  · exact h.elim
end
section
variable {X : Cx} {W : WX} {k : Nat} {x : Str} {f : Fn} {p pos : Pos} {e : Expr} {es : List Expr} {ms : As}
abbrev DefX (X : Cx) (k : Nat) (x : Str) (f : Fn) : Prop := DefOk X.prog X.w X.K X.mg X.base k x f
theorem run_def {fa : Addr} {pins : List (Addr × Obj)} {σ : L2.St} {H : Hp} {sh : Shared} {Q : VK} {us : List Value} {vs : List V} (F : FnG X.prog X.w X.K X.mg X.base k fa (spF (wd X) f)) (hr : Rm k X.A) (tk : Takes X W)
    (I : Inv X pins σ H sh) (r : Vals vs us) (h : spF (wd X) f vs H Q (fun c d H => W c d σ H)) : wpAny (model X.prog X.w) X.A (call (.ref fa) us) (EP X pins σ Q) X.xe sh := by
  refine wpAny_call (codeAny_mono (F X.A X.stack sh H us vs Q _ hr I.env0 r h) fun res s' hq => ?_)
  cases res with
  | error e => exact passAt tk σ pins H sh e s' I hq
  | ok fl =>
    cases fl with
    | ret u => exact I.after hq
    | next => exact False.elim hq
    | brk => exact False.elim hq
    | cont => exact False.elim hq
theorem spF_of {g : Wd} {σ : L2.St} {μ : M} {H : Hp} {s : S} {ds : List D} {vs : List V} {Q : VK} (r : RVs g μ H ds vs) (hs : Rs g μ H s) (h : runs g W σ μ H (RV g) Q (f ds s)) : spF g f vs H Q (fun c d H => W c d σ H) := by
  refine ⟨μ, ds, s, r, hs, ?_⟩
  cases q : f ds s with
  | ok a s' => rw [q] at h; exact h
  | err c ns vs s' => rw [q] at h; exact h
  | bad => rw [q] at h; exact h
theorem q_call (d : DefX X k x f) (hr : Rm k X.A) (tk : Takes X W) (ha : PA X (e :: es) (liftA (wd X) W ms)) (hg : Gl X x := by rfl) (hdb : (x == ("__debug__" : Str)) = false := by decide) (he : starEach (e :: es) X.env = (false, eval e X.env) :: starEach es X.env := by rfl)
    (hpl : (backTo pos (starEach es X.env)).any (·.1) = false := by rfl) : PE X (.Call (.Name x p) (e :: es) [] pos) (liftE (wd X) W (callE f ms)) := by
  obtain ⟨fa, hm, hk, F⟩ := d.ex
  refine ⟨fun pins sh σ H Q I ⟨Fr, μ, ρ, s, he', hs, h⟩ => ?_⟩
  refine wpAny_Call_Name_kw (ld_glob I hg hm ?_ hdb)
  have hq : liftA (wd X) W ms σ H fun vs H1 => spF (wd X) f vs H1 Q (fun c d H => W c d σ H) := ⟨Fr, μ, ρ, s, he', hs, runs_bind (Rel1 := RVs (wd X)) h fun ds s1 μ1 H1 vs e1 x1 hs1 r1 h1 => spF_of r1 hs1 h1⟩
  exact PySem.W.callWith_K (h₀ := X.base) I.ok.mod.kin hk (thn (ha.run pos pins sh σ H _ I hq) fun us s1 ⟨vs, H1, I1, r, q⟩ => ⟨I1.kIn, run_def F hr tk I1 r q⟩) he hpl
theorem q_call0 (d : DefX X k x f) (hr : Rm k X.A) (tk : Takes X W) (hg : Gl X x := by rfl) (hdb : (x == ("__debug__" : Str)) = false := by decide) : PE X (.Call (.Name x p) [] [] pos) (liftE (wd X) W (callE f nilA)) := by
  obtain ⟨fa, hm, hk, F⟩ := d.ex
  refine ⟨fun pins sh σ H Q I ⟨Fr, μ, ρ, s, he', hs, h⟩ => ?_⟩
  refine wpAny_Call_Name_kw (ld_glob I hg hm ?_ hdb)
  exact PySem.W.callWith_K0 I.kIn hk (run_def F hr tk I .nil (spF_of (ds := []) (by simp only [RVs]) hs h))
end
/-! ### what is walked -/
def allK : S → Bool := fun _ => true
open Classical in
noncomputable def keepL (a : Nat) (xs : List D) : S → Bool := fun s => decide (s[a]? = some (.lst xs))
noncomputable def iterD (d : D) (s : S) : R It := match d with
  | .tup xs => .ok ⟨xs, allK⟩ s
  | .ktup xs => .ok ⟨xs, allK⟩ s
  | .lst xs => .ok ⟨xs, allK⟩ s
  | .fl xs => .ok ⟨xs, allK⟩ s
  | .ref a => match s[a]? with | some (.lst xs) => .ok ⟨xs, keepL a xs⟩ s | _ => .bad
  | .str z => .ok ⟨z.cps.toList.map fun c => .str (ch c), allK⟩ s
  | _ => .bad
noncomputable def iterE (e : E) : Is := fun ρ s => (e ρ s).bind iterD
def intsL (lo : Int) (n : Nat) : List D := (List.range n).map fun i => .int (lo + (i : Nat))
def small62 (i : Int) : Bool := decide (-(2 ^ 62) ≤ i ∧ i < 2 ^ 62)
def range1 (a : E) : Is := fun ρ s => (a ρ s).bind fun d s => match d with | .int j => if small62 j then .ok ⟨intsL 0 j.toNat, allK⟩ s else .bad | _ => .bad
def range2 (a b : E) : Is := fun ρ s => (a ρ s).bind fun d s => (b ρ s).bind fun e s => match d, e with | .int i, .int j => if small62 i && small62 j then .ok ⟨intsL i (j - i).toNat, allK⟩ s else .bad | _, _ => .bad
section
variable {X : Cx} {W : WX} {Fr : Addr → Prop} {pos p : Pos} {tg e a b : Expr} {m ma mb : E}
theorem pi_or {tg iter : Expr} {t1 t2 : TI} (h1 : PI X tg iter t1) (h2 : PI X tg iter t2) : PI X tg iter (fun σ H Q => t1 σ H Q ∨ t2 σ H Q) := ⟨fun pins s σ H Q I q => q.elim (h1.run pins s σ H Q I) (h2.run pins s σ H Q I)⟩
theorem itr_ints {g : Wd} {μ : M} {H : Hp} {lo : Int} {n : Nat} : ItR g Fr μ H (Itr lo n) ⟨intsL lo n, allK⟩ := by
  intro μ1 H1 s x hs _ i
  have hl : (intsL lo n).length = n := by simp [intsL]
  refine ⟨fun d e => ?_, fun h => by rw [hl] at h; exact h⟩
  have hi : i < n := by have := (List.getElem?_eq_some_iff.mp e).1; rw [hl] at this; exact this
  have ed : d = .int (lo + (i : Nat)) := by
    simp only [intsL, List.getElem?_map, List.getElem?_range hi, Option.map_some, Option.some.injEq] at e
    exact e.symm
  subst ed
  exact ⟨hi, fun x H' ⟨e1, e2⟩ => by subst e1; subst e2; exact ⟨μ1, Ex.refl, hs, by simp only [RV]⟩⟩
theorem qi_range1 (ha : PE X a (liftB (wd X) W ma)) (hm : X.mg "range" = none) (hg : Gl X "range" := by rfl) (hs : starEach [a] X.env = [(false, eval a X.env)] := by rfl) (hs2 : starEach (a :: []) X.env = (false, eval a X.env) :: starEach [] X.env := by rfl) :
    QI X W Fr tg (.Call (.Name "range" p) [a] [] pos) (range1 ma) :=
  pi_imp (pi_range1 hg hm (qab_cons ha qab_nil hs2) hs) fun σ H Q ⟨F0, μ, ρ, s, he, hs, h⟩ => ⟨F0, μ, ρ, s, he, hs, by
    have h' : runs (wd X) W σ μ H (fun μ' H' a J => ItR (wd X) Fr μ' H' J a) Q ((consA ma nilA ρ s).bind fun ds s => match ds with | [.int j] => if small62 j then .ok ⟨intsL 0 j.toNat, allK⟩ s else .bad | _ => .bad) := by
      simp only [consA, nilA, R.bind]
      simp only [range1] at h
      cases q : ma ρ s with
      | ok d s' => rw [q] at h; cases d <;> exact h
      | err c ns vs s' => rw [q] at h; exact h
      | bad => rw [q] at h; exact h
    refine runs_bind (Rel1 := RWs (wd X)) h' fun ds s1 μ1 H1 vs e1 x1 hs1 r1 h1 => ?_
    split at h1
    · rename_i j
      obtain ⟨x, rfl, r2⟩ := r1.inv1
      obtain rfl := w_int r2
      split at h1
      · rename_i hz
        have hz := of_decide_eq_true (p := _ ∧ _) hz
        exact ⟨j, rfl, hz.1, hz.2, runs_pure h1 hs1 itr_ints⟩
      · exact h1.elim
    · exact h1.elim⟩
theorem qi_range2 (ha : PE X a (liftB (wd X) W ma)) (hb : PE X b (liftB (wd X) W mb)) (hm : X.mg "range" = none) (hg : Gl X "range" := by rfl) (hs : starEach [a, b] X.env = [(false, eval a X.env), (false, eval b X.env)] := by rfl) (hs2 : starEach [b] X.env = [(false, eval b X.env)] := by rfl)
    (hs3 : starEach (a :: [b]) X.env = (false, eval a X.env) :: starEach [b] X.env := by rfl) (hs4 : starEach (b :: []) X.env = (false, eval b X.env) :: starEach [] X.env := by rfl) :
    QI X W Fr tg (.Call (.Name "range" p) [a, b] [] pos) (range2 ma mb) :=
  pi_imp (pi_range2 hg hm (qab_cons ha (qab_cons hb qab_nil hs4) hs3) hs hs2) fun σ H Q ⟨F0, μ, ρ, s, he, hs, h⟩ => ⟨F0, μ, ρ, s, he, hs, by
    have h' : runs (wd X) W σ μ H (fun μ' H' a J => ItR (wd X) Fr μ' H' J a) Q ((consA ma (consA mb nilA) ρ s).bind fun ds s => match ds with | [.int i, .int j] => if small62 i && small62 j then .ok ⟨intsL i (j - i).toNat, allK⟩ s else .bad | _ => .bad) := by
      simp only [consA, nilA]
      simp only [range2] at h
      cases q : ma ρ s with
      | ok d s' =>
        rw [q] at h
        simp only [R.bind] at h ⊢
        cases q2 : mb ρ s' with
        | ok d2 s2 =>
          rw [q2] at h
          cases d <;> cases d2 <;> exact h
        | err c ns vs s' => rw [q2] at h; exact h
        | bad => rw [q2] at h; exact h
      | err c ns vs s' => rw [q] at h; exact h
      | bad => rw [q] at h; exact h
    refine runs_bind (Rel1 := RWs (wd X)) h' fun ds s1 μ1 H1 vs e1 x1 hs1 r1 h1 => ?_
    split at h1
    · rename_i i j
      obtain ⟨x, y, rfl, r2, r3⟩ := r1.inv2
      obtain rfl := w_int r2; obtain rfl := w_int r3
      split at h1
      · rename_i hz
        simp only [Bool.and_eq_true] at hz
        have hz1 := of_decide_eq_true (p := _ ∧ _) hz.1
        have hz2 := of_decide_eq_true (p := _ ∧ _) hz.2
        exact ⟨i, j, rfl, ⟨hz1.1, hz1.2, hz2.1, hz2.2⟩, runs_pure h1 hs1 itr_ints⟩
      · exact h1.elim
    · exact h1.elim⟩
/-- a walk's items, wherever what is walked stands as it did -/
theorem itl_of {g : Wd} {μ : M} {H : Hp} {p : Addr} {xs : List D} {keep : S → Bool} (h : ∀ μ1 H1 s, Ex Fr μ H μ1 H1 → Rs g μ1 H1 s → keep s = true → ∃ ys, SqL g.K H1 p ys ∧ RVs g μ1 H1 xs ys) : ItR g Fr μ H (Itl g.K p) ⟨xs, keep⟩ := by
  intro μ1 H1 s x hs hk i
  obtain ⟨ys, q, rr⟩ := h μ1 H1 s x hs hk
  refine ⟨fun d ed => ?_, fun hl => ⟨ys, q, by rw [← rr.length]; exact hl⟩⟩
  obtain ⟨v, e1, e2⟩ := rr.get ed
  exact ⟨⟨ys, v, q, e1⟩, fun y H' ⟨e3, e4⟩ => by
    subst e3
    have := e4 ys q
    rw [e1] at this; cases this
    exact ⟨μ1, Ex.refl, hs, e2⟩⟩
theorem itt_of {g : Wd} {μ : M} {H : Hp} {p : Addr} {xs : List D} {keep : S → Bool} (h : ∀ μ1 H1 s, Ex Fr μ H μ1 H1 → Rs g μ1 H1 s → keep s = true → ∃ ys, SqT g.K H1 p ys ∧ RVs g μ1 H1 xs ys) : ItR g Fr μ H (Itt g.K p) ⟨xs, keep⟩ := by
  intro μ1 H1 s x hs hk i
  obtain ⟨ys, q, rr⟩ := h μ1 H1 s x hs hk
  refine ⟨fun d ed => ?_, fun hl => ⟨ys, q, by rw [← rr.length]; exact hl⟩⟩
  obtain ⟨v, e1, e2⟩ := rr.get ed
  exact ⟨⟨ys, v, q, e1⟩, fun y H' ⟨e3, e4⟩ => by
    subst e3
    have := e4 ys q
    rw [e1] at this; cases this
    exact ⟨μ1, Ex.refl, hs, e2⟩⟩
theorem its_of {g : Wd} {μ : M} {H : Hp} {z : Str} : ItR g Fr μ H (Its z) ⟨z.cps.toList.map fun c => .str (ch c), allK⟩ := by
  intro μ2 H2 s2 x2 hs2 hk i
  refine ⟨fun d ed => ?_, fun hl => (show z.cps.size ≤ i by simpa using hl)⟩
  simp only [List.getElem?_map, Option.map_eq_some_iff] at ed
  obtain ⟨c, ec, rfl⟩ := ed
  have ec' : z.cps[i]? = some c := by simpa using ec
  refine ⟨(Array.getElem?_eq_some_iff.mp ec').1, fun y H' ⟨e3, c', e4, e5⟩ => ?_⟩
  subst e3
  rw [ec'] at e4; cases e4
  subst e5
  exact ⟨μ2, Ex.refl, hs2, by simp only [RV, ch]⟩
/-- what iterD gives, and how it is walked -/
theorem iter_sound {g : Wd} {μ : M} {H : Hp} {s : S} {d : D} {x : V} {Q : L2.It → Hp → Prop} {σ : L2.St} (hs : Rs g μ H s) (r : RV g μ H d x) (h : runs g W σ μ H (fun μ' H' a J => ItR g Fr μ' H' J a) Q (iterD d s)) :
    (∃ a, x = .ref a ∧ (∃ xs, SqL g.K H a xs) ∧ Q (Itl g.K a) H) ∨ (∃ a, x = .ref a ∧ (∃ xs, SqT g.K H a xs) ∧ Q (Itt g.K a) H) ∨ ∃ z, x = .str z ∧ Q (Its z) H := by
  cases d with
  | tup zs =>
    have r0 := r
    simp only [RV] at r
    obtain ⟨pp, ys, rfl, q, rr⟩ := r
    refine .inr (.inl ⟨pp, rfl, ⟨ys, SqT.of q⟩, runs_pure (show runs g W σ μ H (fun μ' H' a J => ItR g Fr μ' H' J a) Q (.ok ⟨zs, allK⟩ s) from h) hs (itt_of fun μ1 H1 s1 x1 hs1 _ => ?_)⟩)
    exact ⟨ys, SqT.of (x1.tup _ _ q), rr.mono x1⟩
  | ktup zs =>
    simp only [RV] at r
    obtain ⟨pp, ys, rfl, q, rr⟩ := r
    refine .inr (.inl ⟨pp, rfl, ⟨ys, q H⟩, runs_pure (show runs g W σ μ H (fun μ' H' a J => ItR g Fr μ' H' J a) Q (.ok ⟨zs, allK⟩ s) from h) hs (itt_of fun μ1 H1 s1 x1 hs1 _ => ?_)⟩)
    exact ⟨ys, q H1, rr.mono x1⟩
  | lst zs =>
    simp only [RV] at r
    obtain ⟨pp, ys, rfl, z, q, rr⟩ := r
    refine .inl ⟨pp, rfl, ⟨ys, .inl (.inl q)⟩, runs_pure (show runs g W σ μ H (fun μ' H' a J => ItR g Fr μ' H' J a) Q (.ok ⟨zs, allK⟩ s) from h) hs (itl_of fun μ1 H1 s1 x1 hs1 _ => ?_)⟩
    exact ⟨ys, .inl (.inl (x1.z z q)), rr.mono x1⟩
  | fl zs =>
    simp only [RV] at r
    obtain ⟨pp, ys, rfl, q, rr⟩ := r
    refine .inl ⟨pp, rfl, ⟨ys, q.sq⟩, runs_pure (show runs g W σ μ H (fun μ' H' a J => ItR g Fr μ' H' J a) Q (.ok ⟨zs, allK⟩ s) from h) hs (itl_of fun μ1 H1 s1 x1 hs1 _ => ?_)⟩
    exact ⟨ys, (x1.sqf q).sq, rr.mono x1⟩
  | ref a =>
    simp only [RV] at r
    obtain ⟨pp, ep, rfl⟩ := r
    simp only [iterD] at h
    split at h
    · rename_i zs ei
      obtain ⟨ys, q, rr⟩ := hs.at_ _ _ _ ei ep
      refine .inl ⟨pp, rfl, ⟨ys, .inl (.inl q)⟩, runs_pure h hs (itl_of fun μ1 H1 s1 x1 hs1 hk => ?_)⟩
      have hk : s1[a]? = some (.lst zs) := by simpa [keepL] using hk
      obtain ⟨ys1, q1, rr1⟩ := hs1.at_ _ _ _ hk (x1.get ep)
      exact ⟨ys1, .inl (.inl q1), rr1⟩
    · exact h.elim
  | str z =>
    simp only [RV] at r
    exact .inr (.inr ⟨z, r, runs_pure (show runs g W σ μ H (fun μ' H' a J => ItR g Fr μ' H' J a) Q (.ok ⟨z.cps.toList.map fun c => .str (ch c), allK⟩ s) from h) hs its_of⟩)
  | _ => exact h.elim
/-- in a comprehension also what a slot alone holds -/
theorem iter_soundB {g : Wd} {μ : M} {H : Hp} {s : S} {d : D} {x : V} {Q : L2.It → Hp → Prop} {σ : L2.St} (hs : Rs g μ H s) (r : RW g μ H d x) (h : runs g W σ μ H (fun μ' H' a J => ItR g Fn0 μ' H' J a) Q (iterD d s)) :
    (∃ a, x = .ref a ∧ (∃ xs, SqL g.K H a xs) ∧ Q (Itl g.K a) H) ∨ (∃ a, x = .ref a ∧ (∃ xs, SqT g.K H a xs) ∧ Q (Itt g.K a) H) ∨ ∃ z, x = .str z ∧ Q (Its z) H := by
  rcases r with r | ⟨hd, p, rfl, hm, c⟩
  · exact iter_sound hs r h
  · cases d with
    | lst zs =>
      obtain ⟨ys, q, rr⟩ := c
      refine .inl ⟨p, rfl, ⟨ys, .inl (.inl q)⟩, runs_pure (show runs g W σ μ H (fun μ' H' a J => ItR g Fn0 μ' H' J a) Q (.ok ⟨zs, allK⟩ s) from h) hs (itl_of fun μ1 H1 s1 x1 hs1 _ => ?_)⟩
      exact ⟨ys, .inl (.inl (x1.oth _ _ q hm (.inr id))), rr.mono x1⟩
    | dct _ _ => exact h.elim
    | dtt _ _ => exact h.elim
    | set _ => exact h.elim
    | obj _ _ _ => exact h.elim
    | _ => cases hd
theorem iter_err {g : Wd} {μ : M} {H : Hp} {Q : L2.It → Hp → Prop} {σ : L2.St} {r : R D} {Rel : M → Hp → D → V → Prop} {Q1 : VK} (h : runs g W σ μ H (fun μ' H' a J => ItR g Fr μ' H' J a) Q (r.bind iterD)) (k : ∀ d s1 μ1 H1 v, r = .ok d s1 → Ex Fn0 μ H μ1 H1 → Rs g μ1 H1 s1 → Rel μ1 H1 d v → runs g W σ μ1 H1 (fun μ' H' a J => ItR g Fr μ' H' J a) Q (iterD d s1) → Q1 v H1) : runs g W σ μ H Rel Q1 r := runs_bind h k
/-- three ways of one walk -/
theorem pi_three {te : TE} (he : PE X e te) : PI X tg e (fun σ H R => te σ H fun x H1 => (∃ a, x = .ref a ∧ (∃ xs, SqL X.K H1 a xs) ∧ R (Itl X.K a) H1) ∨ (∃ a, x = .ref a ∧ (∃ xs, SqT X.K H1 a xs) ∧ R (Itt X.K a) H1) ∨ ∃ z, x = .str z ∧ R (Its z) H1) := by
  refine ⟨fun pins s σ H R I h => ?_⟩
  refine thn (he.run pins s σ H _ I h) fun v s1 ⟨y, H1, I1, r1, q⟩ => ?_
  rcases q with ⟨a, rfl, ⟨xs, hq⟩, q⟩ | ⟨a, rfl, ⟨xs, hq⟩, q⟩ | ⟨z, rfl, q⟩
  · obtain rfl : v = Value.ref a := r1
    obtain ⟨its, _, pl, _⟩ := I1.list hq
    exact wpAny_pyIter_list (pl).isList (pi_one (tk := s1.toks) I1 _ (turn_list a _) ⟨_, Heap.get?_push_size _ rfl, rfl, rfl⟩ q)
  · obtain rfl : v = Value.ref a := r1
    obtain ⟨its, _, pl, _⟩ := I1.tuple hq
    exact wpAny_pyIter_tuple (show s1.heap.IsTuple a _ from pl) (pi_one (tk := s1.toks) I1 _ (turn_tuple a _) ⟨_, Heap.get?_push_size _ rfl, rfl, rfl⟩ q)
  · obtain ⟨t, rfl⟩ := r1
    cases hw : z.cps.all (· < 128)
    · exact wpAny_pyIter_wide hw (pi_one (tk := s1.toks) I1 _ (turn_str _ z t _ (.inr rfl)) ⟨_, Heap.get?_push_size _ rfl, rfl, rfl⟩ q)
    · exact wpAny_pyIter_ascii hw (pi_one (tk := s1.toks) I1 _ (turn_str _ z t _ (.inl rfl)) ⟨_, Heap.get?_push_size _ rfl, rfl, rfl⟩ q)
theorem qi_val (he : PE X e (liftE (wd X) W m)) : QI X W Fr tg e (iterE m) :=
  pi_imp (pi_three he) fun σ H Q ⟨F0, μ, ρ, s, hρ, hs, h⟩ => ⟨F0, μ, ρ, s, hρ, hs, runs_bind (Rel1 := RV (wd X)) h fun d s1 μ1 H1 x e1 x1 hs1 r1 h1 => iter_sound hs1 r1 h1⟩
theorem qi_bor (he : PE X e (liftB (wd X) W m)) : QI X W Fn0 tg e (iterE m) :=
  pi_imp (pi_three he) fun σ H Q ⟨F0, μ, ρ, s, hρ, hs, h⟩ => ⟨F0, μ, ρ, s, hρ, hs, runs_bind (Rel1 := RW (wd X)) h fun d s1 μ1 H1 x e1 x1 hs1 r1 h1 => iter_soundB hs1 r1 h1⟩
/-! ### zip, enumerate -/
noncomputable def pairs (xs ys : List D) : List D := (xs.zip ys).map fun p => .tup [p.1, p.2]
noncomputable def zipI (a : As) : Is := fun ρ s => (a ρ s).bind fun ds s => match ds with
  | [x, y] => match tupOf x, tupOf y with
    | some xs, some ys => .ok ⟨pairs xs ys, allK⟩ s
    | _, _ => match x, y with
      | .lst xs, .lst ys => .ok ⟨pairs xs ys, allK⟩ s
      | _, _ => .bad
  | _ => .bad
noncomputable def enumI (a : As) : Is := fun ρ s => (a ρ s).bind fun ds s => match ds with
  | [.lst xs] => .ok ⟨pairs (intsL 0 xs.length) xs, allK⟩ s
  | _ => .bad
/-- what stands as it does in any later state -/
def Stay (g : Wd) (Fr : Addr → Prop) (μ : M) (H : Hp) (Sq : Hp → List V → Prop) (xs : List D) : Prop := ∀ μ1 H1 s, Ex Fr μ H μ1 H1 → Rs g μ1 H1 s → ∃ ys, Sq H1 ys ∧ RVs g μ1 H1 xs ys
theorem pairs_get {xs ys : List D} {i : Nat} {d : D} (h : (pairs xs ys)[i]? = some d) : ∃ a b, xs[i]? = some a ∧ ys[i]? = some b ∧ d = .tup [a, b] := by
  simp only [pairs, List.getElem?_map, Option.map_eq_some_iff] at h
  obtain ⟨p, h1, rfl⟩ := h
  rw [List.getElem?_zip_eq_some] at h1
  exact ⟨p.1, p.2, h1.1, h1.2, rfl⟩
theorem pair_new {g : Wd} {μ : M} {H : Hp} {s : S} {T : Addr} {a b : D} {x y : V} (hs : Rs g μ H s) (hT : H T = none) (ra : RV g μ H a x) (rb : RV g μ H b y) : ∃ μ', Ex Fn0 μ H μ' (upd H T (.tup [x, y])) ∧ Rs g μ' (upd H T (.tup [x, y])) s ∧ RV g μ' (upd H T (.tup [x, y])) (.tup [a, b]) (.ref T) :=
  ⟨μ, ex_new hT, hs.new hT, rv_new hT ⟨x, [y], rfl, ra, y, [], rfl, rb, rfl⟩⟩
theorem zip_it {g : Wd} {μ : M} {H : Hp} {J : L2.It} {xs ys : List D} {A B : Hp → List V → Prop} (hx : Stay g Fr μ H A xs) (hy : Stay g Fr μ H B ys)
    (go : ∀ i H, (∃ (xs ys : List V) (x y : V), A H xs ∧ B H ys ∧ xs[i]? = some x ∧ ys[i]? = some y) → J.go i H)
    (yld : ∀ i H v H', J.yld i H v H' → ∃ T x y, v = .ref T ∧ H T = none ∧ H' = upd H T (.tup [x, y]) ∧ (∀ xs, A H xs → xs[i]? = some x) ∧ ∀ ys, B H ys → ys[i]? = some y)
    (stop : ∀ i H, (∃ xs ys : List V, A H xs ∧ B H ys ∧ (xs.length ≤ i ∨ ys.length ≤ i)) → J.stop i H) : ItR g Fr μ H J ⟨pairs xs ys, allK⟩ := by
  intro μ1 H1 s x1 hs hk i
  obtain ⟨vs, a1, r1⟩ := hx μ1 H1 s x1 hs
  obtain ⟨us, b1, r2⟩ := hy μ1 H1 s x1 hs
  refine ⟨fun d ed => ?_, fun hl => stop i H1 ⟨vs, us, a1, b1, ?_⟩⟩
  · obtain ⟨a, b, ea, eb, rfl⟩ := pairs_get ed
    obtain ⟨v, ev, rv⟩ := r1.get ea
    obtain ⟨u, eu, ru⟩ := r2.get eb
    refine ⟨go i H1 ⟨vs, us, v, u, a1, b1, ev, eu⟩, fun z H' hy => ?_⟩
    obtain ⟨T, x, y, rfl, hT, rfl, k1, k2⟩ := yld i H1 z H' hy
    have e1 := k1 vs a1
    rw [ev] at e1; cases e1
    have e2 := k2 us b1
    rw [eu] at e2; cases e2
    exact pair_new hs hT rv ru
  · have hl : (pairs xs ys).length ≤ i := hl
    simp only [pairs, List.length_map, List.length_zip] at hl
    rw [← r1.length, ← r2.length]
    omega
theorem stay_tup {g : Wd} {μ : M} {H : Hp} {d : D} {xs : List D} {x : V} (r : RV g μ H d x) (e : tupOf d = some xs) : ∃ p ys, x = .ref p ∧ SqT g.K H p ys ∧ Stay g Fr μ H (fun H => SqT g.K H p) xs := by
  cases d <;> simp only [tupOf, Option.some.injEq, reduceCtorEq] at e <;> subst e <;> simp only [RV] at r <;> obtain ⟨p, ys, rfl, q, rr⟩ := r
  · exact ⟨p, ys, rfl, SqT.of q, fun μ1 H1 s1 x1 _ => ⟨ys, SqT.of (x1.tup _ _ q), rr.mono x1⟩⟩
  · exact ⟨p, ys, rfl, q H, fun μ1 H1 s1 x1 _ => ⟨ys, q H1, rr.mono x1⟩⟩
theorem stay_lst {g : Wd} {μ : M} {H : Hp} {xs : List D} {x : V} (r : RV g μ H (.lst xs) x) : ∃ p ys, x = .ref p ∧ SqL g.K H p ys ∧ ys.length = xs.length ∧ Stay g Fr μ H (fun H => SqL g.K H p) xs := by
  simp only [RV] at r
  obtain ⟨p, ys, rfl, z, q, rr⟩ := r
  exact ⟨p, ys, rfl, .inl (.inl q), rr.length.symm, fun μ1 H1 s1 x1 _ => ⟨ys, .inl (.inl (x1.z z q)), rr.mono x1⟩⟩
theorem qi_zip {e2 : Expr} {ms : As} {tpos : Pos} {elts : List Expr} {kk : Nat} (ha : PA X [e, e2] (liftA (wd X) W ms)) (hm : X.mg "zip" = none) (hg : Gl X "zip" := by rfl)
    (hs : starEach [e, e2] X.env = (false, eval e X.env) :: starEach [e2] X.env := by rfl) (hpl : (backTo pos (starEach [e2] X.env)).any (·.1) = false := by rfl) : QI X W Fr (.Tuple elts kk tpos) (.Call (.Name "zip" p) [e, e2] [] pos) (zipI ms) :=
  pi_imp (RZ.pi_zipA hg hm ha hs hpl) fun σ H Q ⟨F0, μ, ρ, s, hρ, hs, h⟩ => ⟨F0, μ, ρ, s, hρ, hs, runs_bind (Rel1 := RVs (wd X)) h fun ds s1 μ1 H1 xs e1 x1 hs1 r1 h1 => by
    split at h1
    · rename_i x y
      obtain ⟨v, u, rfl, rx, ry⟩ := r1.inv2
      split at h1
      · rename_i xs ys ex ey
        obtain ⟨p, vs, rfl, q1, s1'⟩ := stay_tup (Fr := Fr) rx ex
        obtain ⟨q, us, rfl, q2, s2'⟩ := stay_tup (Fr := Fr) ry ey
        exact ⟨p, q, vs, us, rfl, .inr ⟨q1, q2, runs_pure h1 hs1 (zip_it s1' s2' (fun _ _ z => z) (fun _ _ _ _ z => z) fun _ _ z => z)⟩⟩
      · split at h1
        · obtain ⟨p, vs, rfl, q1, _, s1'⟩ := stay_lst (Fr := Fr) rx
          obtain ⟨q, us, rfl, q2, _, s2'⟩ := stay_lst (Fr := Fr) ry
          exact ⟨p, q, vs, us, rfl, .inl ⟨q1, q2, runs_pure h1 hs1 (zip_it s1' s2' (fun _ _ z => z) (fun _ _ _ _ z => z) fun _ _ z => z)⟩⟩
        · exact h1.elim
    · exact h1.elim⟩
theorem qi_enum {ms : As} {tpos : Pos} {elts : List Expr} {kk : Nat} (ha : PA X [e] (liftA (wd X) W ms)) (hm : X.mg "enumerate" = none) (hg : Gl X "enumerate" := by rfl) (hs : starEach [e] X.env = [(false, eval e X.env)] := by rfl) :
    QI X W Fr (.Tuple elts kk tpos) (.Call (.Name "enumerate" p) [e] [] pos) (enumI ms) :=
  pi_imp (pi_enum hg hm ha hs) fun σ H Q ⟨F0, μ, ρ, s, hρ, hs, h⟩ => ⟨F0, μ, ρ, s, hρ, hs, runs_bind (Rel1 := RVs (wd X)) h fun ds s1 μ1 H1 xs e1 x1 hs1 r1 h1 => by
    split at h1
    · rename_i xs
      obtain ⟨v, rfl, rx⟩ := r1.inv1
      obtain ⟨p, vs, rfl, q1, l1, s1'⟩ := stay_lst (Fr := Fr) rx
      refine ⟨p, vs, rfl, q1, runs_pure h1 hs1 ?_⟩
      intro μ2 H2 s2 x2 hs2 hk i
      obtain ⟨ys, a1, r2⟩ := s1' μ2 H2 s2 x2 hs2
      refine ⟨fun d ed => ?_, fun hl => ⟨ys, a1, ?_⟩⟩
      · obtain ⟨a, b, ea, eb, rfl⟩ := pairs_get ed
        obtain ⟨v, ev, rv⟩ := r2.get eb
        refine ⟨⟨ys, v, a1, ev⟩, fun z H' ⟨T, x, ez, hT, eH, k⟩ => ?_⟩
        subst ez; subst eH
        have e2 := k ys a1
        rw [ev] at e2; cases e2
        have ea' : a = .int (i : Nat) := by
          have hi : i < xs.length := (List.getElem?_eq_some_iff.mp eb).1
          simp only [intsL, List.getElem?_map, List.getElem?_range hi, Option.map_some, Option.some.injEq] at ea
          rw [← ea]; simp
        subst ea'
        exact pair_new hs2 hT (by simp only [RV]) rv
      · have hl : (pairs (intsL 0 xs.length) xs).length ≤ i := hl
        simp only [pairs, List.length_map, List.length_zip, intsL, List.length_range, Nat.min_self] at hl
        show ys.length ≤ i
        rw [← r2.length]; exact hl
    · exact h1.elim⟩
end
end Fv

namespace Fv
open PySem PySem.Spec PyProof.Rows L2
/-! ### methods of built-in types -/
def isTyD (T : String) (d : D) (s : S) : Bool := match d with
  | .str _ => T == "str"
  | .int _ => T == "int"
  | .dct _ _ => T == "dict"
  | .dtt _ _ => T == "dict"
  | .ref a => (T == "dict" && (match s[a]? with | some (.dct _ _) => true | some (.dtt _ _) => true | _ => false)) || (T == "list" && (lsOf s d).isSome)
  | d => T == "list" && (lsOf s d).isSome
def methE (T : String) (f : Fn) (o : E) (a : As) : E := fun ρ s => (o ρ s).bind fun d s => if isTyD T d s then (a ρ s).bind fun ds s => f (d :: ds) s else .bad
def rM (g : Wd) (f : Fn) : V → List V → Hp → VK → Prop := fun x xs H Q => ∃ μ s d ds, Rs g μ H s ∧ RW g μ H d x ∧ RWs g μ H ds xs ∧ ∃ W σ, runs g W σ μ H (RF g H) Q (f (d :: ds) s)
abbrev QM (X : Cx) (id : String) (f : Fn) : Prop := MtR X id (rM (wd X) f)
section
variable {X : Cx} {W : WX} {pos apos : Pos} {o e : Expr} {es : List Expr} {mo m : E} {ms : As} {T : String} {name : Str} {id : String} {f : Fn}
theorem isTyD_sound {g : Wd} {μ : M} {H : Hp} {s : S} {d : D} {x : V} (hs : Rs g μ H s) (r : RW g μ H d x) (h : isTyD T d s = true) : tyV g.K T x H := by
  have lst : (T == "list" && (lsOf s d).isSome) = true → tyV g.K T x H := fun h => by
    simp only [Bool.and_eq_true, beq_iff_eq] at h
    obtain ⟨xs, ex⟩ := Option.isSome_iff_exists.mp h.2
    obtain ⟨p, ys, rfl, q, _⟩ := lsOf_sound hs r ex
    exact .inl ⟨h.1, ys, q⟩
  cases d with
  | str z => obtain rfl := w_str r; simpa [isTyD, tyV] using h
  | int z => obtain rfl := w_int r; simpa [isTyD, tyV] using h
  | dct ks vs =>
    simp only [isTyD, beq_iff_eq] at h
    rcases r with r | ⟨_, p, rfl, _, c⟩
    · simp only [RV] at r
      obtain ⟨p, ys, rfl, _, ⟨kk, _, q⟩, _⟩ := r
      exact .inr (.inr (.inl ⟨h, .inl ⟨_, q⟩⟩))
    · obtain ⟨ys, ⟨kk, _, q⟩, _⟩ := c
      exact .inr (.inr (.inl ⟨h, .inl ⟨_, q⟩⟩))
  | dtt ks vs =>
    simp only [isTyD, beq_iff_eq] at h
    rcases r with r | ⟨_, p, rfl, _, c⟩
    · simp only [RV] at r
      obtain ⟨p, ys, rfl, _, ⟨kk, _, q⟩, _⟩ := r
      exact .inr (.inr (.inl ⟨h, .inr ⟨_, q⟩⟩))
    · obtain ⟨ys, ⟨kk, _, q⟩, _⟩ := c
      exact .inr (.inr (.inl ⟨h, .inr ⟨_, q⟩⟩))
  | ref a =>
    simp only [isTyD, Bool.or_eq_true] at h
    rcases h with h | h
    · simp only [Bool.and_eq_true, beq_iff_eq] at h
      have r := r.light rfl
      simp only [RV] at r
      obtain ⟨p, ep, rfl⟩ := r
      have h2 := h.2
      split at h2
      · rename_i ks vs ek
        obtain ⟨ys, ⟨kk, _, q⟩, _⟩ := hs.at_ _ _ _ ek ep
        exact .inr (.inr (.inl ⟨h.1, .inl ⟨_, q⟩⟩))
      · rename_i ks vs ek
        obtain ⟨ys, ⟨kk, _, q⟩, _⟩ := hs.at_ _ _ _ ek ep
        exact .inr (.inr (.inl ⟨h.1, .inr ⟨_, q⟩⟩))
      · cases h2
    · exact lst h
  | _ => exact lst h
theorem q_meth (pa : PlainAttrs T) (slot : Slot T name id) (hty : typeOf (.builtin id) = pure (.type "method_descriptor")) (hm : QM X id f) (ho : PE X o (liftB (wd X) W mo)) (ha : PA X (e :: es) (liftAB (wd X) W ms))
    (hbase : attributeBase o name X.env (eval o X.env) = eval o X.env := by rfl)
    (hfew : ((backTo pos (starEach (e :: es) X.env)).all (fun x => !x.1) && (backToKw pos (keywordEach [] X.env)).all (fun x => x.1.isSome) && decide ((e :: es).length + ([] : List Keyword).length + (if ([] : List Keyword).isEmpty then 0 else 1) < 30)) = true := by rfl)
    (hline : (apos.endLine == pos.line) = true := by rfl) (hs : starEach (e :: es) X.env = (false, eval e X.env) :: starEach es X.env := by rfl) (hplain : (backTo pos (starEach es X.env)).any (·.1) = false := by rfl) :
    PE X (.Call (.Attribute o name apos) (e :: es) [] pos) (liftF (wd X) W (methE T f mo ms)) :=
  pe_imp (pe_bm pa slot hty hm ho ha hbase hfew hline hs hplain) fun σ H Q ⟨Fr, μ, ρ, s, he, hs, h⟩ => ⟨Fr, μ, ρ, s, he, hs, runs_bind (Rel1 := RW (wd X)) h fun d s1 μ1 H1 x e1 x1 hs1 r1 h1 => by
    split at h1
    · rename_i ht
      exact ⟨isTyD_sound hs1 r1 ht, Fr, μ1, ρ, s1, he.mono x1, hs1, runs_bind (Rel1 := RWs (wd X)) h1 fun ds s2 μ2 H2 xs e2 x2 hs2 r2 h2 => ⟨μ2, s2, d, ds, hs2, r1.mono x2, r2, W, σ, runs_back (x1.trans x2) h2⟩⟩
    · exact h1.elim⟩
theorem q_meth0 (pa : PlainAttrs T) (slot : Slot T name id) (hty : typeOf (.builtin id) = pure (.type "method_descriptor")) (hm : QM X id f) (ho : PE X o (liftB (wd X) W mo))
    (hbase : attributeBase o name X.env (eval o X.env) = eval o X.env := by rfl) (hline : (apos.endLine == pos.line) = true := by rfl) : PE X (.Call (.Attribute o name apos) [] [] pos) (liftF (wd X) W (methE T f mo nilA)) :=
  pe_imp (pe_bm0 pa slot hty hm ho hbase hline) fun σ H Q ⟨Fr, μ, ρ, s, he, hs, h⟩ => ⟨Fr, μ, ρ, s, he, hs, runs_bind (Rel1 := RW (wd X)) h fun d s1 μ1 H1 x e1 x1 hs1 r1 h1 => by
    split at h1
    · rename_i ht
      exact ⟨isTyD_sound hs1 r1 ht, μ1, s1, d, [], hs1, r1, rfl, W, σ, runs_back x1 h1⟩
    · exact h1.elim⟩
/-- methods of texts -/
def strF0 (g : Tx → D) : Fn := fun ds s => match ds with | [.str z] => .ok (g z) s | _ => .bad
theorem qm_str0 {g : Tx → D} {v : Tx → V} (h : MtR X id (fun x xs H Q => ∃ a, x = .str a ∧ xs = [] ∧ True ∧ Q (v a) H)) (hl : ∀ a, (g a).heavy = false) (r : ∀ a μ H, RV (wd X) μ H (g a) (v a)) : QM X id (strF0 g) := by
  intro pins sh σ H x xs u us Q I rx rs ⟨μ, s, d, ds, hs, r1, r2, W, σ', hh⟩
  unfold strF0 at hh
  split at hh
  · rename_i z e
    cases e
    obtain rfl := w_str r1
    obtain rfl : xs = [] := r2
    exact h pins sh σ H _ _ u us Q I rx rs ⟨z, rfl, rfl, trivial, rf_pure hh hs (hl z) (r z μ H)⟩
  · exact hh.elim
def strF1 (g : Tx → Tx → D) : Fn := fun ds s => match ds with | [.str z, .str y] => .ok (g z y) s | _ => .bad
theorem qm_str1 {g : Tx → Tx → D} {v : Tx → Tx → V} (h : MtR X id (fun x xs H Q => ∃ a b, x = .str a ∧ xs = [.str b] ∧ Q (v a b) H)) (hl : ∀ a b, (g a b).heavy = false) (r : ∀ a b μ H, RV (wd X) μ H (g a b) (v a b)) : QM X id (strF1 g) := by
  intro pins sh σ H x xs u us Q I rx rs ⟨μ, s, d, ds, hs, r1, r2, W, σ', hh⟩
  unfold strF1 at hh
  split at hh
  · rename_i z y e
    cases e
    obtain rfl := w_str r1
    obtain ⟨x2, rfl, r3⟩ := r2.inv1
    obtain rfl := w_str r3
    exact h pins sh σ H _ _ u us Q I rx rs ⟨z, y, rfl, rfl, rf_pure hh hs (hl z y) (r z y μ H)⟩
  · exact hh.elim
/-- texts within the line -/
def strF1z (g : Tx → Tx → D) : Fn := fun ds s => match ds with | [.str z, .str y] => if szl z.length then .ok (g z y) s else .bad | _ => .bad
theorem qm_str1z {g : Tx → Tx → D} {v : Tx → Tx → V} (h : MtR X id (fun x xs H Q => ∃ a b, x = .str a ∧ xs = [.str b] ∧ a.length ≤ sizeLine ∧ Q (v a b) H)) (hl : ∀ a b, (g a b).heavy = false) (r : ∀ a b μ H, RV (wd X) μ H (g a b) (v a b)) : QM X id (strF1z g) := by
  intro pins sh σ H x xs u us Q I rx rs ⟨μ, s, d, ds, hs, r1, r2, W, σ', hh⟩
  unfold strF1z at hh
  split at hh
  · rename_i z y e
    cases e
    obtain rfl := w_str r1
    obtain ⟨x2, rfl, r3⟩ := r2.inv1
    obtain rfl := w_str r3
    split at hh
    · rename_i hz
      exact h pins sh σ H _ _ u us Q I rx rs ⟨z, y, rfl, rfl, of_decide_eq_true hz, rf_pure hh hs (hl z y) (r z y μ H)⟩
    · exact hh.elim
  · exact hh.elim
def isdigitF : Fn := strF0 fun z => .bl (Txt.isdigit z)
def isalphaF : Fn := strF0 fun z => .bl (Txt.isalpha z)
def isalnumF : Fn := strF0 fun z => .bl (Txt.isalnum z)
def isasciiF : Fn := strF0 fun z => .bl (Txt.isascii z)
def islowerF : Fn := strF0 fun z => .bl (Txt.islower z)
def countF : Fn := strF1 fun z y => .int (Txt.count z y)
def startsF : Fn := strF1 fun z y => .bl (Txt.startswith z y)
def endsF : Fn := strF1 fun z y => .bl (Txt.endswith z y)
def rmpreF : Fn := strF1z fun z y => .str (Txt.removeprefix z y)
def rmsufF : Fn := strF1z fun z y => .str (Txt.removesuffix z y)
theorem qm_isdigit : QM X "str.isdigit" isdigitF := qm_str0 mt_isdigit (fun _ => rfl) fun _ _ _ => by simp only [RV]
theorem qm_isalpha : QM X "str.isalpha" isalphaF := qm_str0 mt_isalpha (fun _ => rfl) fun _ _ _ => by simp only [RV]
theorem qm_isalnum : QM X "str.isalnum" isalnumF := qm_str0 mt_isalnum (fun _ => rfl) fun _ _ _ => by simp only [RV]
theorem qm_isascii : QM X "str.isascii" isasciiF := qm_str0 mt_isascii (fun _ => rfl) fun _ _ _ => by simp only [RV]
theorem qm_islower : QM X "str.islower" islowerF := qm_str0 mt_islower (fun _ => rfl) fun _ _ _ => by simp only [RV]
theorem qm_count : QM X "str.count" countF := qm_str1 mt_count (fun _ _ => rfl) fun _ _ _ _ => by simp only [RV]
theorem qm_starts : QM X "str.startswith" startsF := qm_str1 mt_startswith (fun _ _ => rfl) fun _ _ _ _ => by simp only [RV]
theorem qm_ends : QM X "str.endswith" endsF := qm_str1 mt_endswith (fun _ _ => rfl) fun _ _ _ _ => by simp only [RV]
theorem qm_rmpre : QM X "str.removeprefix" rmpreF := qm_str1z mt_removeprefix (fun _ _ => rfl) fun _ _ _ _ => by simp only [RV]
theorem qm_rmsuf : QM X "str.removesuffix" rmsufF := qm_str1z mt_removesuffix (fun _ _ => rfl) fun _ _ _ _ => by simp only [RV]
def splitF : Fn := fun ds s => match ds with
  | [.str z, .str y] => if (y.length == 0) || !szl (z.length + 2) then .bad else .ok (.lst ((Txt.split z y).map .str)) s
  | _ => .bad
theorem strs_rvs {g : Wd} {μ : M} {H : Hp} : ∀ (l : List Tx), RVs g μ H (l.map D.str) (l.map V.str)
  | [] => by simp [RVs]
  | x :: l => ⟨_, _, rfl, by simp only [RV], strs_rvs l⟩
theorem qm_split : QM X "str.split" splitF := by
  intro pins sh σ H x xs u us Q I rx rs ⟨μ, s, d, ds, hs, r1, r2, W, σ', hh⟩
  unfold splitF at hh
  split at hh
  · rename_i z y e
    cases e
    obtain rfl := w_str r1
    obtain ⟨x2, rfl, r3⟩ := r2.inv1
    obtain rfl := w_str r3
    split at hh
    · exact hh.elim
    · rename_i hz
      simp only [Bool.or_eq_true, Bool.not_eq_true', not_or, Bool.not_eq_true, Bool.not_eq_false] at hz
      exact mt_split pins sh σ H _ _ u us Q I rx rs ⟨z, y, rfl, rfl, hz.1, of_decide_eq_true hz.2, rf_lst hh hs (strs_rvs _)⟩
  · exact hh.elim
def strsOf : List D → Option (List Tx)
  | [] => some []
  | .str x :: r => (strsOf r).map (x :: ·)
  | _ => none
theorem strsOf_eq : ∀ {l : List D} {ys : List Tx}, strsOf l = some ys → l = ys.map D.str
  | [], ys, h => by simp only [strsOf, Option.some.injEq] at h; subst h; rfl
  | d :: l, ys, h => by
    cases d <;> simp only [strsOf, reduceCtorEq, Option.map_eq_some_iff] at h
    obtain ⟨zs, e, rfl⟩ := h
    rw [strsOf_eq e]; rfl
theorem strs_vals {g : Wd} {μ : M} {H : Hp} : ∀ {ys : List Tx} {vs : List V}, RVs g μ H (ys.map D.str) vs → vs = ys.map V.str
  | [], _, r => by simpa [RVs] using r
  | y :: ys, _, r => by
    simp only [List.map_cons, RVs] at r
    obtain ⟨v, r', rfl, a, b⟩ := r
    simp only [RV] at a; subst a
    rw [strs_vals b]; rfl
theorem strsOf_map : ∀ (l : List Tx), strsOf (l.map D.str) = some l
  | [] => rfl
  | x :: l => by simp [strsOf, strsOf_map l]
def joinF : Fn := fun ds s => match ds with
  | [.str z, d] => match (seqOf s d).bind strsOf with
    | some ys => if decide ((ys.map (·.length)).sum + ys.length * z.length ≤ 16777216) then .ok (.str (Txt.join z ys)) s else .bad
    | none => .bad
  | _ => .bad
theorem qm_join : QM X "str.join" joinF := by
  intro pins sh σ H x xs u us Q I rx rs ⟨μ, s, d, ds, hs, r1, r2, W, σ', hh⟩
  unfold joinF at hh
  split at hh
  · rename_i z y e
    cases e
    obtain rfl := w_str r1
    obtain ⟨x2, rfl, r3⟩ := r2.inv1
    split at hh
    · rename_i ys ey
      simp only [Option.bind_eq_some_iff] at ey
      obtain ⟨zs, e1, e2⟩ := ey
      split at hh
      · rename_i hz
        obtain ⟨p, vs, rfl, q, rr⟩ := seqOf_sound hs r3 e1
        have := strsOf_eq e2
        subst this
        have := strs_vals rr
        subst this
        exact mt_join pins sh σ H _ _ u us Q I rx rs ⟨z, p, ys, rfl, rfl, q.symm, of_decide_eq_true hz, rf_str hh hs⟩
      · exact hh.elim
    · exact hh.elim
  · exact hh.elim
/-! ### what changes a list of the store -/
def appendF : Fn := fun ds s => match ds with
  | [.ref a, d] => match s[a]? with
    | some (.lst xs) => if decide (xs.length < sizeLine) && !d.heavy then .ok .non (s.set a (.lst (xs ++ [d]))) else .bad
    | _ => .bad
  | _ => .bad
/-! ### what changes a thing that a slot alone holds -/
theorem REn.upd {g : Wd} {Fr : Addr → Prop} {μ : M} {H : Hp} {ρ : En} {σ : L2.St} {i : Nat} {d d' : D} {p : Addr} {ho ho' : HO} (h : REn g Fr μ H ρ σ) (e : ρ[i]? = some (some (.o d))) (ep : σ[i]? = some (some (V.ref p))) (eh : H p = some ho') (nt : ∀ ys, ho' ≠ .tup ys) (nf : ∀ o u, ho' ≠ .frz o u)
    (hz : ¬ μ.z p) (c : Ce g μ (L2.upd H p ho) p d') : REn g Fr μ (L2.upd H p ho) (ρ.set i (some (.o d'))) σ := by
  have x : Ex (fun q => q = p) μ H μ (L2.upd H p ho) := ex_own hz rfl eh nt nf
  refine ⟨by simp [h.len], fun j d' ej => ?_, fun j d' ej => ?_, fun j k d' e' p' e1 e2 e3 e4 => ?_⟩
  · rcases get_set ej with ⟨rfl, q, _⟩ | ⟨hj, q⟩
    · cases q
    · obtain ⟨y, a, b⟩ := h.v j d' q
      exact ⟨y, a, b.mono x⟩
  · rcases get_set ej with ⟨rfl, q, _⟩ | ⟨hj, q⟩
    · cases q
      obtain ⟨y, a, _, m, z, f⟩ := h.o j d e
      rw [ep] at a; cases a
      exact ⟨p, ep, c, m, z, f⟩
    · obtain ⟨y, a, b, m, z, f'⟩ := h.o j d' q
      have ne : y ≠ p := fun w => by subst w; exact hj (h.inj j i d' d y q e a ep)
      exact ⟨y, a, b.mono x (fun u e => by rw [upd_ne ne]; exact e), m, z, f'⟩
  · have conv : ∀ {l : Nat} {dd : D}, (ρ.set i (some (.o d')))[l]? = some (some (Sl.o dd)) → ∃ dd', ρ[l]? = some (some (Sl.o dd')) := fun {l dd} q => by
      rcases get_set q with ⟨rfl, _, _⟩ | ⟨_, q⟩
      · exact ⟨d, e⟩
      · exact ⟨dd, q⟩
    rename_i dj
    have conv : ∀ {l : Nat} {dd dz : D}, (ρ.set i (some (.o dz)))[l]? = some (some (Sl.o dd)) → ∃ dd', ρ[l]? = some (some (Sl.o dd')) := fun {l dd dz} q => by
      rcases get_set q with ⟨rfl, _, _⟩ | ⟨_, q⟩
      · exact ⟨d, e⟩
      · exact ⟨dd, q⟩
    obtain ⟨a, e1'⟩ := conv e1
    obtain ⟨b, e2'⟩ := conv e2
    exact h.inj j k a b p' e1' e2' e3 e4
abbrev Ow := D → List D → Option (D × D)
/-- a method that changes what it is called of -/
def rOw (g : Wd) (f : Ow) : V → List V → Hp → VK → Prop := fun x xs H Q => ∃ μ p d ds d' r, x = .ref p ∧ Ce g μ H p d ∧ ¬ μ.z p ∧ RVs g μ H ds xs ∧ f d ds = some (d', r) ∧
  ∀ ho y, Ce g μ (L2.upd H p ho) p d' → RV g μ (L2.upd H p ho) r y → Q y (L2.upd H p ho)
abbrev QW (X : Cx) (id : String) (f : Ow) : Prop := MtR X id (rOw (wd X) f)
def appO : Ow := fun d ds => match d, ds with
  | .lst xs, [y] => if decide (xs.length < sizeLine) then some (.lst (xs ++ [y]), .non) else none
  | _, _ => none
def extO : Ow := fun d ds => match d, ds with
  | .lst xs, [.lst ys] => if szl (xs.length + ys.length) then some (.lst (xs ++ ys), .non) else none
  | _, _ => none
def popO : Ow := fun d ds => match d, ds with
  | .lst xs, [] => (xs[xs.length - 1]?).map fun y => (.lst xs.dropLast, y)
  | _, _ => none
theorem dropLast_rvs {g : Wd} {μ : M} {H : Hp} {xs : List D} {ys : List V} (r : RVs g μ H xs ys) : RVs g μ H xs.dropLast ys.dropLast := by
  rw [List.dropLast_eq_take, List.dropLast_eq_take, r.length]
  exact r.take _
theorem qw_append : QW X "list.append" appO := by
  intro pins sh σ H x xs u us Q I rx rs ⟨μ, p, d, ds, d', r, ex, c, hz, rv, ef, k⟩
  unfold appO at ef
  split at ef
  · rename_i zs y
    split at ef
    · rename_i hl
      cases ef
      obtain ⟨ys, hp, rr⟩ := c
      obtain ⟨v, rfl, ry⟩ := rv.inv1
      have xo : Ex (fun q => q = p) μ H μ (L2.upd H p (.lst (ys ++ [v]))) := ex_own hz rfl hp (fun _ z => nomatch z) fun _ _ z => nomatch z
      exact mt_append pins sh σ H _ _ u us Q I rx rs ⟨p, ys, v, ex, rfl, hp, by rw [← rr.length]; exact of_decide_eq_true hl, k _ _ ⟨_, upd_same, (rr.mono xo).append (.one (ry.mono xo))⟩ (by simp only [RV])⟩
    · cases ef
  · cases ef
theorem qw_extend : QW X "list.extend" extO := by
  intro pins sh σ H x xs u us Q I rx rs ⟨μ, p, d, ds, d', r, ex, c, hz, rv, ef, k⟩
  unfold extO at ef
  split at ef
  · rename_i zs ys0
    split at ef
    · rename_i hl
      cases ef
      obtain ⟨ys, hp, rr⟩ := c
      obtain ⟨v, rfl, ry⟩ := rv.inv1
      have ry0 := ry
      simp only [RV] at ry
      obtain ⟨q, ws, rfl, zq, hq, r2⟩ := ry
      have xo : Ex (fun q => q = p) μ H μ (L2.upd H p (.lst (ys ++ ws))) := ex_own hz rfl hp (fun _ z => nomatch z) fun _ _ z => nomatch z
      exact mt_extend pins sh σ H _ _ u us Q I rx rs ⟨p, q, ys, ws, ex, rfl, hp, hq, by rw [← rr.length, ← r2.length]; exact of_decide_eq_true hl, k _ _ ⟨_, upd_same, (rr.mono xo).append (r2.mono xo)⟩ (by simp only [RV])⟩
    · cases ef
  · cases ef
theorem qw_pop : QW X "list.pop" popO := by
  intro pins sh σ H x xs u us Q I rx rs ⟨μ, p, d, ds, d', r, ex, c, hz, rv, ef, k⟩
  unfold popO at ef
  split at ef
  · rename_i zs
    simp only [Option.map_eq_some_iff] at ef
    obtain ⟨y, ey, ee⟩ := ef
    cases ee
    obtain ⟨ys, hp, rr⟩ := c
    obtain rfl : xs = [] := by simpa only [RVs] using rv
    obtain ⟨v, ev, r1⟩ := rr.get ey
    rw [rr.length] at ev
    have xo : Ex (fun q => q = p) μ H μ (L2.upd H p (.lst ys.dropLast)) := ex_own hz rfl hp (fun _ z => nomatch z) fun _ _ z => nomatch z
    exact mt_pop pins sh σ H _ _ u us Q I rx rs ⟨p, ys, v, ex, rfl, hp, ev, k _ _ ⟨_, upd_same, (dropLast_rvs rr).mono xo⟩ (r1.mono xo)⟩
  · cases ef
def owTy (T : String) (d : D) : Bool := match d with
  | .lst _ => T == "list"
  | .dct _ _ => T == "dict"
  | .dtt _ _ => T == "dict"
  | _ => false
theorem owTy_sound {g : Wd} {μ : M} {H : Hp} {d : D} {p : Addr} (c : Ce g μ H p d) (h : owTy T d = true) : tyV g.K T (.ref p) H := by
  cases d <;> simp only [owTy, beq_iff_eq, Bool.false_eq_true] at h
  · obtain ⟨ys, q, _⟩ := c; exact .inl ⟨h, ys, .inl (.inl q)⟩
  · obtain ⟨ys, ⟨kk, _, q⟩, _⟩ := c; exact .inr (.inr (.inl ⟨h, .inl ⟨_, q⟩⟩))
  · obtain ⟨ys, ⟨kk, _, q⟩, _⟩ := c; exact .inr (.inr (.inl ⟨h, .inr ⟨_, q⟩⟩))
/-- x.m(args), x a slot that holds alone; the value goes to k -/
def owE (i : Nat) (T : String) (f : Ow) (a : As) (k : D → En → S → RS) : C := fun ρ s => match ρ[i]? with
  | some (some (.o d0)) => if owTy T d0 then (a ρ s).stm ρ fun ds s => match f d0 ds with
    | some (d', r) => k r (ρ.set i (some (.o d'))) s
    | none => .bad
    else .bad
  | _ => .bad
def owS (i : Nat) (T : String) (f : Ow) (a : As) : C := owE i T f a fun _ ρ s => .nx ρ s
def owSetS (j i : Nat) (T : String) (f : Ow) (a : As) : C := owE i T f a fun r ρ s => .nx (ρ.set j (some (.v r))) s
variable {Fr : Addr → Prop}
theorem ow_sound {i : Nat} {f : Ow} {a : As} {De : Ends} {μ : M} {H : Hp} {ρ : En} {σ : L2.St} {s : S} {κ : D → En → S → RS} (hf : Fz Fr H) (he : REn (wd X) Fr μ H ρ σ) (hs : Rs (wd X) μ H s) (h : runsS (wd X) W Fr μ H De (owE i T f a κ ρ s)) :
    ∃ p d0, σ[i]? = some (some (V.ref p)) ∧ Ce (wd X) μ H p d0 ∧ tyV X.K T (.ref p) H ∧ runs (wd X) W σ μ H (RVs (wd X)) (fun xs H2 => rOw (wd X) f (.ref p) xs H2 fun y H3 => ∃ μ2 ρ2 s2 r, Fz Fr H3 ∧ REn (wd X) Fr μ2 H3 ρ2 σ ∧ Rs (wd X) μ2 H3 s2 ∧ RV (wd X) μ2 H3 r y ∧ runsS (wd X) W Fr μ2 H3 De (κ r ρ2 s2)) (a ρ s) := by
  unfold owE at h
  split at h
  · rename_i d0 ei
    split at h
    · rename_i ht
      obtain ⟨p, ep, c, hm, hz, fr⟩ := he.o i d0 ei
      refine ⟨p, d0, ep, c, owTy_sound c ht, runs_stm (Rel1 := RVs (wd X)) he h fun ds s1 μ1 H1 xs e1 x1 hs1 r1 h1 => ?_⟩
      split at h1
      · rename_i d' r ef
        obtain ⟨p', ep', c1, hm1, hz1, _⟩ := (he.mono x1).o i d0 ei
        rw [ep] at ep'; cases ep'
        obtain ⟨u, eu, nt, nf⟩ := c1.there
        refine ⟨μ1, p, d0, ds, d', r, rfl, c1, hz1, r1, ef, fun ho y c2 ry => ?_⟩
        have x2 : Ex Fr μ1 H1 μ1 (L2.upd H1 p ho) := ex_own hz1 fr eu nt nf
        exact ⟨μ1, _, s1, r, (hf.at x1).at x2, (he.mono x1).upd ei ep eu nt nf hz1 c2, hs1.own hm1 hz1 eu nt nf, ry, runsS_mono x2 h1⟩
      · exact h1.elim
    · exact h.elim
  · exact h.elim
theorem qs_ow {x : Str} {p2 : Pos} (i : Nat) {f : Ow} (pa : PlainAttrs T) (slot : Slot T name id) (hty : typeOf (.builtin id) = pure (.type "method_descriptor")) (hm : QW X id f) (ha : PA X (e :: es) (liftA (wd X) W ms)) (hN : X.N[i]? = some x := by rfl) (hv : Vis X.env.scope x := by first | exact Or.inl rfl | exact Or.inr (Or.inl rfl) | exact Or.inr (Or.inr rfl)) (hd : (x == ("__debug__" : Str)) = false := by decide)
    (hcd : (x == ("__classdict__" : Str)) = false := by decide) {px : Pos} (hw : swapsWith (.Call (.Attribute (.Name x px) name apos) (e :: es) [] pos) none p2.line X.env = pure false := by rfl)
    (hbase : attributeBase (.Name x px) name X.env (eval (.Name x px) X.env) = eval (.Name x px) X.env := by rfl)
    (hfew : ((backTo pos (starEach (e :: es) X.env)).all (fun x => !x.1) && (backToKw pos (keywordEach [] X.env)).all (fun x => x.1.isSome) && decide ((e :: es).length + ([] : List Keyword).length + (if ([] : List Keyword).isEmpty then 0 else 1) < 30)) = true := by rfl)
    (hline : (apos.endLine == pos.line) = true := by rfl) (hs : starEach (e :: es) X.env = (false, eval e X.env) :: starEach es X.env := by rfl) (hplain : (backTo pos (starEach es X.env)).any (·.1) = false := by rfl) :
    QS X W Fr (.Expr (.Call (.Attribute (.Name x px) name apos) (e :: es) [] pos) p2) (owS i T f ms) :=
  ps_imp (ps_expr (pe_bm pa slot hty hm (pe_var hN hv hd hcd) ha hbase hfew hline hs hplain) hw) fun De σ H ⟨μ, ρ, s, hf, he, hst, h⟩ => by
    obtain ⟨p, d0, ep, c, ty, r⟩ := ow_sound hf he hst h
    refine ⟨_, ep, ty, Fr, μ, ρ, s, he, hst, ?_⟩
    refine runs_post r fun xs H2 q => ?_
    obtain ⟨μ1, p1, d1, ds, d', r', e1, c1, z1, rv, ef, k⟩ := q
    refine ⟨μ1, p1, d1, ds, d', r', e1, c1, z1, rv, ef, fun ho y c2 ry => ?_⟩
    obtain ⟨μ2, ρ2, s2, r2, f2, he2, hs2, rr, h2⟩ := k ho y c2 ry
    exact h2 μ2 _ σ Ex.refl hs2 he2
end
end Fv

namespace Fv
open PySem PySem.Spec PyProof.Rows L2
/-! ### what is not walked -/
def badE : E := fun _ _ => .bad
def badS : C := fun _ _ => .bad
def badT : T := fun _ _ => .bad
section
variable {X : Cx} {W : WX} {Fr : Addr → Prop} {pos apos : Pos} {o e : Expr} {es : List Expr} {st : Stmt} {m mo : E} {ms : As} {T : String} {name : Str} {id : String}
theorem q_bad : PE X e (liftE (wd X) W badE) := ⟨fun _ _ _ _ _ _ ⟨_, _, _, _, _, _, h⟩ => h.elim⟩
theorem q_badT : PT X e (liftT (wd X) W badT) := ⟨fun _ _ _ _ _ _ ⟨_, _, _, _, _, _, h⟩ => h.elim⟩
theorem qs_bad : QS X W Fr st badS := ⟨fun _ _ _ _ _ _ ⟨_, _, _, _, _, _, h⟩ => h.elim⟩
theorem qss_bad {sts : List Stmt} : QSs X W Fr sts badS := ⟨fun _ _ _ _ _ _ ⟨_, _, _, _, _, _, h⟩ => h.elim⟩
/-! ### methods without arguments, on what a slot alone holds -/
theorem qs_ow0 {x : Str} {p2 : Pos} (i : Nat) {f : Ow} (pa : PlainAttrs T) (slot : Slot T name id) (hty : typeOf (.builtin id) = pure (.type "method_descriptor")) (hm : QW X id f) (hN : X.N[i]? = some x := by rfl) (hv : Vis X.env.scope x := by first | exact Or.inl rfl | exact Or.inr (Or.inl rfl) | exact Or.inr (Or.inr rfl)) (hd : (x == ("__debug__" : Str)) = false := by decide)
    (hcd : (x == ("__classdict__" : Str)) = false := by decide) {px : Pos} (hw : swapsWith (.Call (.Attribute (.Name x px) name apos) [] [] pos) none p2.line X.env = pure false := by rfl)
    (hbase : attributeBase (.Name x px) name X.env (eval (.Name x px) X.env) = eval (.Name x px) X.env := by rfl) (hline : (apos.endLine == pos.line) = true := by rfl) :
    QS X W Fr (.Expr (.Call (.Attribute (.Name x px) name apos) [] [] pos) p2) (owS i T f nilA) :=
  ps_imp (ps_expr (pe_bm0 pa slot hty hm (pe_var hN hv hd hcd) hbase hline) hw) fun De σ H ⟨μ, ρ, s, hf, he, hst, h⟩ => by
    obtain ⟨p, d0, ep, c, ty, r⟩ := ow_sound hf he hst h
    refine ⟨_, ep, ty, ?_⟩
    obtain ⟨μ1, p1, d1, ds, d', r', e1, c1, z1, rv, ef, k⟩ := runs_pure (b := []) (show runs (wd X) W σ μ H (RVs (wd X)) _ (.ok [] s) from r) hst (by simp only [RVs])
    refine ⟨μ1, p1, d1, ds, d', r', e1, c1, z1, rv, ef, fun ho y c2 ry => ?_⟩
    obtain ⟨μ2, ρ2, s2, r2, f2, he2, hs2, rr, h2⟩ := k ho y c2 ry
    exact h2 μ2 _ σ Ex.refl hs2 he2
theorem qs_owSet0 {x y : Str} {py : Pos} (j i : Nat) {f : Ow} (pa : PlainAttrs T) (slot : Slot T name id) (hty : typeOf (.builtin id) = pure (.type "method_descriptor")) (hm : QW X id f) (hNd : X.N.Nodup) (hN : X.N[i]? = some x := by rfl) (hv : Vis X.env.scope x := by first | exact Or.inl rfl | exact Or.inr (Or.inl rfl) | exact Or.inr (Or.inr rfl)) (hd : (x == ("__debug__" : Str)) = false := by decide)
    (hcd : (x == ("__classdict__" : Str)) = false := by decide) (hj : X.N[j]? = some y := by rfl) (hy : Loc X.env.scope y := by first | exact .inl rfl | exact .inr rfl) {px : Pos} (hw : swapsWith (.Call (.Attribute (.Name x px) name apos) [] [] pos) (some (.Name y py)) pos.line X.env = pure false := by rfl)
    (hfl : X.fn y = true ∨ X.env.scope.names.lookup y = some .local := by first | exact .inl rfl | exact .inr rfl | assumption)
    (hbase : attributeBase (.Name x px) name X.env (eval (.Name x px) X.env) = eval (.Name x px) X.env := by rfl) (hline : (apos.endLine == pos.line) = true := by rfl) :
    QS X W Fr (.Assign [.Name y py] (.Call (.Attribute (.Name x px) name apos) [] [] pos) pos) (owSetS j i T f nilA) :=
  ps_imp (ps_set hNd hj hy (pe_bm0 pa slot hty hm (pe_var hN hv hd hcd) hbase hline) hw hfl) fun De σ H ⟨μ, ρ, s, hf, he, hst, h⟩ => by
    obtain ⟨p, d0, ep, c, ty, r⟩ := ow_sound hf he hst h
    refine ⟨_, ep, ty, ?_⟩
    obtain ⟨μ1, p1, d1, ds, d', r', e1, c1, z1, rv, ef, k⟩ := runs_pure (b := []) (show runs (wd X) W σ μ H (RVs (wd X)) _ (.ok [] s) from r) hst (by simp only [RVs])
    refine ⟨μ1, p1, d1, ds, d', r', e1, c1, z1, rv, ef, fun ho y c2 ry => ?_⟩
    obtain ⟨μ2, ρ2, s2, r2, f2, he2, hs2, rr, h2⟩ := k ho y c2 ry
    exact h2 μ2 _ _ Ex.refl hs2 (he2.setV rr)
/-! ### stores to items: a list of the store -/
def setD (o i v : D) (s : S) : Option S := match o, i with
  | .ref a, .int k => match s[a]? with
    | some (.lst xs) => (ixN xs.length k).map fun j => s.set a (.lst (xs.set j v))
    | _ => none
  | _, _ => none
def setItS (e o i : E) : C := fun ρ s => (e ρ s).stm ρ fun v s => (o ρ s).stm ρ fun x s => (i ρ s).stm ρ fun k s => match setD x k v s with | some s' => .nx ρ s' | none => .bad
theorem setD_sound {g : Wd} {μ : M} {H : Hp} {od kd v : D} {ov kv x : V} {s s' : S} (hs : Rs g μ H s) (r2 : RV g μ H od ov) (r3 : RW g μ H kd kv) (r1 : RV g μ H v x) (h : setD od kd v s = some s') :
    ∃ (p : Addr) (vs : List V) (k : Int) (j : Nat), ov = .ref p ∧ kv = .int k ∧ H p = some (.lst vs) ∧ ixN vs.length k = some j ∧ Ex Fn0 μ H μ (upd H p (.lst (vs.set j x))) ∧ Rs g μ (upd H p (.lst (vs.set j x))) s' := by
  unfold setD at h
  split at h
  · rename_i a k
    obtain rfl := w_int r3
    simp only [RV] at r2
    obtain ⟨p, ep, rfl⟩ := r2
    split at h
    · rename_i zs ez
      simp only [Option.map_eq_some_iff] at h
      obtain ⟨j, ej, rfl⟩ := h
      obtain ⟨vs, hp, rr⟩ := hs.at_ _ _ _ ez ep
      have xp : Ex Fn0 μ H μ (upd H p (.lst (vs.set j x))) := ex_put (List.mem_of_getElem? ep) hp (fun _ w => nomatch w) (fun _ _ w => nomatch w)
      exact ⟨p, vs, k, j, rfl, rfl, hp, by rw [← rr.length]; exact ej, xp, hs.put (o := .lst (zs.set j v)) ep hp (fun _ w => nomatch w) (fun _ _ w => nomatch w) ⟨_, upd_same, (rr.mono xp).set (r1.mono xp) j⟩⟩
    · cases h
  · cases h
theorem qs_setIt {i : Expr} {mi : E} {p : Pos} (he : PE X e (liftE (wd X) W m)) (ho : PE X o (liftE (wd X) W mo)) (hi : PE X i (liftB (wd X) W mi))
    (ha : ∀ v, assign (.Subscript o i p) X.env v = (do
      let ov ← holding [v] (eval o X.env); let iv ← holding [v, ov] (eval i X.env); standAt p; holding [v, ov, iv] (setItem ov iv v); release [v, ov, iv] []) := by intro _; rfl)
    (hw0 : swapsWithSole [.Subscript o i p] e pos.line X.env = pure false := by rfl) (hw : swappedStores [.Subscript o i p] e X.env = pure none := by rfl)
    (h1 : (assignEach [.Subscript o i p] X.env).map (·.2) = [assign (.Subscript o i p) X.env] := by rfl) : QS X W Fr (.Assign [.Subscript o i p] e pos) (setItS m mo mi) :=
  ps_imp (ps_asg he (pg_sub ho hi set_list ha) hw0 hw h1) fun De σ H ⟨μ, ρ, s, hf, he, hs, h⟩ => ⟨Fr, μ, ρ, s, he, hs, runs_stm (Rel1 := RV (wd X)) he h fun v s1 μ1 H1 x e1 x1 hs1 r1 h1 =>
    ⟨Fr, μ1, ρ, s1, he.mono x1, hs1, runs_stm (Rel1 := RV (wd X)) (he.mono x1) h1 fun od s2 μ2 H2 ov e2 x2 hs2 r2 h2 =>
      ⟨Fr, μ2, ρ, s2, (he.mono x1).mono x2, hs2, runs_stm (Rel1 := RW (wd X)) ((he.mono x1).mono x2) h2 fun kd s3 μ3 H3 kv e3 x3 hs3 r3 h3 => by
        cases q : setD od kd v s3 with
        | none => rw [q] at h3; exact h3.elim
        | some s' =>
          rw [q] at h3
          obtain ⟨p, vs, k, j, e1, e2, hp, ej, xp, hs'⟩ := setD_sound hs3 (r2.mono x3) r3 ((r1.mono x2).mono x3) q
          exact ⟨p, vs, k, j, e1, e2, hp, ej, h3 μ3 _ σ xp.s hs' ((((he.mono x1).mono x2).mono x3).mono xp)⟩⟩⟩⟩
/-! ### a thing that a slot alone holds -/
def putL {κ : Type} [DecidableEq κ] (kk : List κ) (vs : List D) (x : κ) (v : D) : List D := if x ∈ kk then (kk.zip vs).map (fun p => if p.1 = x then v else p.2) else vs ++ [v]
/-- d[k] = v: the keys and values behind it -/
def putKD {κ : Type} [DecidableEq κ] (ks : List D) (kk : List κ) (vs : List D) (k : D) (x : κ) (v : D) : List D × List D := (if x ∈ kk then ks else ks ++ [k], putL kk vs x v)
def putO (d k v : D) : Option D := match d with
  | .dct ks vs => (keysD ks).bind fun kk => (keyD k).bind fun x => if ks.length < sizeLine then some (.dct (putKD ks kk vs k x v).1 (putKD ks kk vs k x v).2) else none
  | .dtt ks vs => match k with
    | .tup _ => (keysT ks).bind fun kk => (keyT k).bind fun x => if ks.length < sizeLine then some (.dtt (putKD ks kk vs k x v).1 (putKD ks kk vs k x v).2) else none
    | _ => none
  | _ => none
theorem keysD_app : ∀ {ks : List D} {kk : List Key} {k : D} {x : Key}, keysD ks = some kk → keyD k = some x → keysD (ks ++ [k]) = some (kk ++ [x])
  | [], kk, k, x, e, f => by simp only [keysD, Option.some.injEq] at e; subst e; simp [keysD, f]
  | a :: ks, kk, k, x, e, f => by
    simp only [keysD, Option.bind_eq_some_iff, Option.map_eq_some_iff] at e
    obtain ⟨y, e1, r, e2, rfl⟩ := e
    simp [keysD, e1, keysD_app e2 f]
theorem keysT_app : ∀ {ks : List D} {kk : List (List Key)} {k : D} {x : List Key}, keysT ks = some kk → keyT k = some x → keysT (ks ++ [k]) = some (kk ++ [x])
  | [], kk, k, x, e, f => by simp only [keysT, Option.some.injEq] at e; subst e; simp [keysT, f]
  | a :: ks, kk, k, x, e, f => by
    simp only [keysT, Option.bind_eq_some_iff, Option.map_eq_some_iff] at e
    obtain ⟨y, e1, r, e2, rfl⟩ := e
    simp [keysT, e1, keysT_app e2 f]
theorem keysT_len : ∀ {ks : List D} {kk : List (List Key)}, keysT ks = some kk → ks.length = kk.length
  | [], kk, e => by simp only [keysT, Option.some.injEq] at e; subst e; rfl
  | k :: ks, kk, e => by
    simp only [keysT, Option.bind_eq_some_iff, Option.map_eq_some_iff] at e
    obtain ⟨k', _, r, e2, rfl⟩ := e
    simp [keysT_len e2]
theorem putL_sound {κ : Type} [DecidableEq κ] {g : Wd} {μ : M} {H : Hp} {kk : List κ} {vs : List D} {ys : List V} {x : κ} {v : D} {y : V} (r : RVs g μ H vs ys) (rv : RV g μ H v y) (l : kk.length = ys.length) :
    ∃ zs, putK (kk.zip ys) x y = ((if x ∈ kk then kk else kk ++ [x]).zip zs) ∧ RVs g μ H (putL kk vs x v) zs ∧ (if x ∈ kk then kk else kk ++ [x]).length = zs.length := by
  have mem : ∀ {kk : List κ} {ys : List V}, kk.length = ys.length → ((kk.zip ys).any fun kv => decide (kv.1 = x)) = decide (x ∈ kk) := by
    intro kk
    induction kk with
    | nil => intro ys _; simp
    | cons k kk ih =>
      intro ys l
      cases ys with
      | nil => cases l
      | cons y ys =>
        simp only [List.zip_cons_cons, List.any_cons, ih (Nat.succ.inj l)]
        by_cases h : k = x
        · subst h; simp
        · have h' : ¬ x = k := fun z => h z.symm
          simp [h, h']
  unfold putK putL
  rw [mem l]
  by_cases hx : x ∈ kk
  · simp only [hx, decide_true, if_true]
    have go : ∀ {kk : List κ} {vs : List D} {ys : List V}, RVs g μ H vs ys → kk.length = ys.length → ∃ zs, (kk.zip ys).map (fun kv => if kv.1 = x then (kv.1, y) else kv) = kk.zip zs ∧ RVs g μ H ((kk.zip vs).map (fun p => if p.1 = x then v else p.2)) zs ∧ kk.length = zs.length := by
      intro kk
      induction kk with
      | nil => intro vs ys r l; exact ⟨[], by simp, by simp [RVs], rfl⟩
      | cons k kk ih =>
        intro vs ys r l
        cases ys with
        | nil => cases l
        | cons y0 ys =>
          cases vs with
          | nil => simp only [RVs] at r; cases r
          | cons v0 vs =>
            simp only [RVs] at r
            obtain ⟨y1, r', e, a, b⟩ := r
            cases e
            obtain ⟨zs, e1, e2, e3⟩ := ih b (Nat.succ.inj l)
            by_cases h : k = x
            · exact ⟨y :: zs, by simp [h, e1], ⟨y, zs, rfl, by simp [h]; exact rv, e2⟩, by simp [e3]⟩
            · exact ⟨y0 :: zs, by simp [h, e1], ⟨y0, zs, rfl, by simp [h]; exact a, e2⟩, by simp [e3]⟩
    exact go r l
  · simp only [hx, decide_false, if_false, Bool.false_eq_true]
    exact ⟨ys ++ [y], by rw [List.zip_append l]; rfl, r.append (.one rv), by simp [l]⟩
theorem putO_sound {g : Wd} {μ : M} {H : Hp} {p : Addr} {d k v d' : D} {kv vv : V} (c : Ce g μ H p d) (hz : ¬ μ.z p) (rk : RW g μ H k kv) (rv : RV g μ H v vv) (e : putO d k v = some d') : ∃ ho, DPut H p kv vv (upd H p ho) ∧ Ce g μ (upd H p ho) p d' := by
  unfold putO at e
  split at e
  · rename_i ks vs
    simp only [Option.bind_eq_some_iff] at e
    obtain ⟨kk, e1, x, e2, e3⟩ := e
    split at e3
    · rename_i hl
      cases e3
      obtain ⟨ys, ⟨kk', e4, hp⟩, l, rr⟩ := c
      rw [e1] at e4; cases e4
      have lk := keysD_len e1
      obtain ⟨zs, q1, q2, q3⟩ := putL_sound (x := x) rr rv (by rw [← lk]; exact l)
      have xo : ∀ ho, Ex (fun q => q = p) μ H μ (upd H p ho) := fun ho => ex_own hz rfl hp (fun _ z => nomatch z) fun _ _ z => nomatch z
      refine ⟨.dK (putK (kk.zip ys) x vv), ?_, zs, ⟨_, ?_, by rw [q1]; exact upd_same⟩, ?_, q2.mono (xo _)⟩
      · rw [keyD_val rk e2]; exact DPut.k hp (by rw [List.length_zip, ← lk, ← l]; simpa using hl)
      · simp only [putKD]; split
        · exact e1
        · exact keysD_app e1 e2
      · simp only [putKD]
        rw [← q3]
        split <;> simp [lk]
    · cases e3
  · rename_i ks vs
    split at e
    · rename_i ds
      simp only [Option.bind_eq_some_iff] at e
      obtain ⟨kk, e1, x, e2, e3⟩ := e
      split at e3
      · rename_i hl
        cases e3
        obtain ⟨ys, ⟨kk', e4, hp⟩, l, rr⟩ := c
        rw [e1] at e4; cases e4
        have lk := keysT_len e1
        obtain ⟨zs, q1, q2, q3⟩ := putL_sound (x := x) rr rv (by rw [← lk]; exact l)
        have xo : ∀ ho, Ex (fun q => q = p) μ H μ (upd H p ho) := fun ho => ex_own hz rfl hp (fun _ z => nomatch z) fun _ _ z => nomatch z
        obtain ⟨b, rfl, hb⟩ := keyT_val rk e2
        refine ⟨.dT (putK (kk.zip ys) x vv), DPut.t hp hb (by rw [List.length_zip, ← lk, ← l]; simpa using hl), zs, ⟨_, ?_, by rw [q1]; exact upd_same⟩, ?_, q2.mono (xo _)⟩
        · simp only [putKD]; split
          · exact e1
          · exact keysT_app e1 e2
        · simp only [putKD]
          rw [← q3]
          split <;> simp [lk]
      · cases e3
    · cases e
  · cases e
def putS (i : Nat) (k v : E) : C := fun ρ s => match ρ[i]? with
  | some (some (.o d)) => (v ρ s).stm ρ fun x s => (k ρ s).stm ρ fun y s => match putO d y x with | some d' => .nx (ρ.set i (some (.o d'))) s | none => .bad
  | _ => .bad
theorem qs_put {x : Str} (i : Nat) {k : Expr} {mk mv : E} {px p : Pos} (hu : X.A.units + 1 < cLine) (hv : PE X e (liftE (wd X) W mv)) (hk : PE X k (liftB (wd X) W mk)) (hN : X.N[i]? = some x := by rfl) (hvis : Vis X.env.scope x := by first | exact Or.inl rfl | exact Or.inr (Or.inl rfl) | exact Or.inr (Or.inr rfl)) (hd : (x == ("__debug__" : Str)) = false := by decide)
    (hcd : (x == ("__classdict__" : Str)) = false := by decide) (hs : swapsWith e (some (.Subscript (.Name x px) k p)) pos.line X.env = pure false := by rfl) : QS X W Fr (.Assign [.Subscript (.Name x px) k p] e pos) (putS i mk mv) :=
  ps_imp (ps_dput hu (pe_var hN hvis hd hcd) hk hv hs) fun De σ H ⟨μ, ρ, s, hf, he, hst, h⟩ => by
    unfold putS at h
    split at h
    · rename_i d0 ei
      exact ⟨Fr, μ, ρ, s, he, hst, runs_stm (Rel1 := RV (wd X)) he h fun v s1 μ1 H1 vv e1 x1 hs1 r1 h1 => by
        obtain ⟨q, eq, _⟩ := he.o i d0 ei
        refine ⟨_, eq, Fr, μ1, ρ, s1, he.mono x1, hs1, runs_stm (Rel1 := RW (wd X)) (he.mono x1) h1 fun y s2 μ2 H2 kv e2 x2 hs2 r2 h2 => ?_⟩
        have he2 := (he.mono x1).mono x2
        obtain ⟨q', eq', c, hm, hz, fr⟩ := he2.o i d0 ei
        rw [eq] at eq'; cases eq'
        split at h2
        · rename_i d' ep
          obtain ⟨ho, dp, c2⟩ := putO_sound c hz r2 (r1.mono x2) ep
          obtain ⟨u, eu, nt, nf⟩ := c.there
          exact ⟨q, _, rfl, dp, h2 μ2 _ σ (ex_own hz fr eu nt nf) (hs2.own hm hz eu nt nf) (he2.upd ei eq eu nt nf hz c2)⟩
        · exact h2.elim⟩
    · exact h.elim
/-! ### a, b = x, y -/
def parS (i j : Nat) (a : As) : C := fun ρ s => (a ρ s).stm ρ fun ds s => match ds with | [x, y] => .nx ((ρ.set i (some (.v x))).set j (some (.v y))) s | _ => .bad
def par3S (i j k : Nat) (a : As) : C := fun ρ s => (a ρ s).stm ρ fun ds s => match ds with | [x, y, z] => .nx (((ρ.set i (some (.v x))).set j (some (.v y))).set k (some (.v z))) s | _ => .bad
theorem qs_par {i j : Nat} {x y : Str} {a b : Expr} {px py pt : Pos} {kt k2 pt2} (ha : PA X [a, b] (liftA (wd X) W ms)) (hN : X.N.Nodup) (hc : X.calm = true := by rfl) (hi : X.N[i]? = some x := by rfl) (hj : X.N[j]? = some y := by rfl) (hij : i ≠ j := by decide)
    (hx : X.env.scope.names.lookup x = some .local := by rfl) (hy : X.env.scope.names.lookup y = some .local := by rfl) (h1 : swappedStores [.Tuple [.Name x px, .Name y py] kt pt] (.Tuple [a, b] k2 pt2) X.env = pure (some [x, y]) := by rfl) (h2 : swapsWithSole [.Tuple [.Name x px, .Name y py] kt pt] (.Tuple [a, b] k2 pt2) pos.line X.env = pure false := by rfl) : QS X W Fr (.Assign [.Tuple [.Name x px, .Name y py] kt pt] (.Tuple [a, b] k2 pt2) pos) (parS i j ms) :=
  ps_imp (ps_par hc hN hi hj hij hx hy ha h1 h2) fun De σ H ⟨μ, ρ, s, hf, he, hs, h⟩ => ⟨Fr, μ, ρ, s, he, hs, runs_stm (Rel1 := RVs (wd X)) he h fun ds s1 μ1 H1 vs e1 x1 hs1 r1 h1 => by
    split at h1
    · rename_i d1 d2
      obtain ⟨v, w, rfl, r2, r3⟩ := r1.inv2
      exact ⟨v, w, rfl, h1 μ1 H1 _ Ex.refl hs1 (((he.mono x1).setV r2).setV r3)⟩
    · exact h1.elim⟩
theorem qs_par3 {i j l : Nat} {x y z : Str} {a b c : Expr} {px py pz pt : Pos} {kt k2 pt2} (ha : PA X [a, b, c] (liftA (wd X) W ms)) (hN : X.N.Nodup) (hc : X.calm = true := by rfl) (hi : X.N[i]? = some x := by rfl) (hj : X.N[j]? = some y := by rfl) (hl : X.N[l]? = some z := by rfl)
    (hij : i ≠ j := by decide) (hil : i ≠ l := by decide) (hjl : j ≠ l := by decide) (hx : X.env.scope.names.lookup x = some .local := by rfl) (hy : X.env.scope.names.lookup y = some .local := by rfl) (hz : X.env.scope.names.lookup z = some .local := by rfl)
    (h1 : swappedStores [.Tuple [.Name x px, .Name y py, .Name z pz] kt pt] (.Tuple [a, b, c] k2 pt2) X.env = pure (some [x, y, z]) := by rfl) (h2 : swapsWithSole [.Tuple [.Name x px, .Name y py, .Name z pz] kt pt] (.Tuple [a, b, c] k2 pt2) pos.line X.env = pure false := by rfl) :
    QS X W Fr (.Assign [.Tuple [.Name x px, .Name y py, .Name z pz] kt pt] (.Tuple [a, b, c] k2 pt2) pos) (par3S i j l ms) :=
  ps_imp (ps_par3 hc hN hi hj hl hij hil hjl hx hy hz ha h1 h2) fun De σ H ⟨μ, ρ, s, hf, he, hs, h⟩ => ⟨Fr, μ, ρ, s, he, hs, runs_stm (Rel1 := RVs (wd X)) he h fun ds s1 μ1 H1 vs e1 x1 hs1 r1 h1 => by
    split at h1
    · obtain ⟨v1, v2, v3, rfl, r2, r3, r4⟩ := r1.inv3
      exact ⟨v1, v2, v3, rfl, h1 μ1 H1 _ Ex.refl hs1 ((((he.mono x1).setV r2).setV r3).setV r4)⟩
    · exact h1.elim⟩
/-! ### f-strings -/
def fmtE (a : E) : E := fun ρ s => (a ρ s).bind fun d s => match d with
  | .str y => if szl y.length then .ok (.str y) s else .bad
  | .int i => if decide (i.natAbs.log2 < 1920) then .ok (.str (toString i : String)) s else .bad
  | _ => .bad
def jsL : List E → Tx → E
  | [], acc, _, s => .ok (.str acc) s
  | t :: ts, acc, ρ, s => (t ρ s).bind fun d s => match d with
    | .str y => if szl (acc ++ y).length then jsL ts (acc ++ y) ρ s else .bad
    | _ => .bad
def joinedE (l : List E) : E := jsL l Str.empty
theorem q_fmt (ha : PE X e (liftE (wd X) W m)) : PE X (.FormattedValue e (-1) none pos) (liftE (wd X) W (fmtE m)) :=
  pe_imp (pe_fmt ha) fun σ H Q ⟨F0, μ, ρ, s, he, hs, h⟩ => ⟨F0, μ, ρ, s, he, hs, runs_bind (Rel1 := RV (wd X)) h fun d s1 μ1 H1 x e1 x1 hs1 r1 h1 => by
    cases d <;> try exact h1.elim
    · simp only [RV] at r1; subst r1
      have h1 : runs (wd X) W σ μ1 H1 (RV (wd X)) Q (if decide (_ < 1920) = true then .ok (.str (toString _ : String)) s1 else .bad) := h1
      split at h1
      · rename_i hz
        exact .inr ⟨_, rfl, of_decide_eq_true hz, runs_pure h1 hs1 (by simp only [RV])⟩
      · exact h1.elim
    · simp only [RV] at r1; subst r1
      have h1 : runs (wd X) W σ μ1 H1 (RV (wd X)) Q (if szl _ = true then .ok (.str _) s1 else .bad) := h1
      split at h1
      · rename_i hz
        exact .inl ⟨_, rfl, of_decide_eq_true hz, runs_pure h1 hs1 (by simp only [RV])⟩
      · exact h1.elim⟩
inductive QJ (X : Cx) (W : WX) : List Expr → List E → Prop where
  | nil : QJ X W [] []
  | cons {e : Expr} {m : E} {es : List Expr} {ms : List E} (h : PE X e (liftE (wd X) W m)) (r : QJ X W es ms) : QJ X W (e :: es) (m :: ms)
theorem QJ.pj {es : List Expr} {ms : List E} (h : QJ X W es ms) : PJ X es (ms.map (liftE (wd X) W)) := by
  induction h with
  | nil => exact .nil
  | cons h r ih => exact .cons h ih
theorem js_sound {σ : L2.St} {Q : VK} {F0 : Addr → Prop} : ∀ {ms : List E} {acc : Tx} {μ : M} {ρ : En} {s : S} {H : Hp}, REn (wd X) F0 μ H ρ σ → Rs (wd X) μ H s → runs (wd X) W σ μ H (RV (wd X)) Q (jsL ms acc ρ s) → tJs (ms.map (liftE (wd X) W)) acc σ H fun out H1 => Q (.str out) H1
  | [], acc, μ, ρ, s, H, he, hs, h => runs_pure (show runs (wd X) W σ μ H (RV (wd X)) Q (.ok (.str acc) s) from h) hs (by simp only [RV])
  | m :: ms, acc, μ, ρ, s, H, he, hs, h => ⟨F0, μ, ρ, s, he, hs, runs_bind (Rel1 := RV (wd X)) h fun d s1 μ1 H1 x e1 x1 hs1 r1 h1 => by
    cases d <;> try exact h1.elim
    simp only [RV] at r1; subst r1
    have h1 : runs (wd X) W σ μ1 H1 (RV (wd X)) Q (if szl (acc ++ _).length = true then jsL ms (acc ++ _) ρ s1 else .bad) := h1
    split at h1
    · rename_i hz
      exact ⟨_, rfl, of_decide_eq_true hz, js_sound (he.mono x1) hs1 h1⟩
    · exact h1.elim⟩
theorem q_joined {v1 v2 : Expr} {rest : List Expr} {ms : List E} (h : QJ X W (v1 :: v2 :: rest) ms) : PE X (.JoinedStr (v1 :: v2 :: rest) pos) (liftE (wd X) W (joinedE ms)) :=
  pe_imp (pe_joined h.pj) fun σ H Q ⟨F0, μ, ρ, s, he, hs, hh⟩ => js_sound he hs hh
theorem q_joined1 (h : PE X e (liftE (wd X) W m)) : PE X (.JoinedStr [e] pos) (liftE (wd X) W m) := pe_joined1 h
/-! ### in -/
def flatD : D → Bool
  | .non => true | .bl _ => true | .int _ => true | .str _ => true | _ => false
def eqFl : D → D → Bool
  | .non, .non => true
  | .bl a, .bl b => a == b
  | .bl a, .int b => (if a then 1 else 0) == b
  | .int a, .bl b => a == (if b then 1 else 0)
  | .int a, .int b => a == b
  | .str a, .str b => a == b
  | _, _ => false
def inB (s : S) (x y : D) : Option Bool := match seqOf s y with
  | some ys => if flatD x && ys.all flatD then some (ys.any fun z => eqFl z x) else match lsOf s y with
    | some _ => match toP s x, toP s y with
      | some p, some (.list qs) => if SeqAt.shaped p && SeqAt.shaped (.list qs) then some (qs.any fun z => PyData.eqv z p) else none
      | _, _ => none
    | none => none
  | none => (dGet s y x).map Option.isSome
def inD (x y : D) (s : S) : R D := match inB s x y with | some b => .ok (.bl b) s | none => .bad
def notinD (x y : D) (s : S) : R D := match inB s x y with | some b => .ok (.bl (!b)) s | none => .bad
theorem flat_val {g : Wd} {μ : M} {H : Hp} {d : D} {x : V} (r : RW g μ H d x) (h : flatD d = true) : flatV x = true ∧ ∀ e y, RV g μ H e y → flatD e = true → eqV y x = eqFl e d := by
  cases d <;> simp only [flatD, Bool.false_eq_true] at h
  · obtain rfl := w_non r
    refine ⟨rfl, fun e y re he => ?_⟩
    cases e <;> simp only [flatD, Bool.false_eq_true] at he <;> simp only [RV] at re <;> subst re <;> rfl
  · obtain rfl := w_bl r
    refine ⟨rfl, fun e y re he => ?_⟩
    cases e <;> simp only [flatD, Bool.false_eq_true] at he <;> simp only [RV] at re <;> subst re <;> rfl
  · obtain rfl := w_int r
    refine ⟨rfl, fun e y re he => ?_⟩
    cases e <;> simp only [flatD, Bool.false_eq_true] at he <;> simp only [RV] at re <;> subst re <;> rfl
  · obtain rfl := w_str r
    refine ⟨rfl, fun e y re he => ?_⟩
    cases e <;> simp only [flatD, Bool.false_eq_true] at he <;> simp only [RV] at re <;> subst re <;> rfl
theorem flat_all {g : Wd} {μ : M} {H : Hp} {d : D} {x : V} (r : RW g μ H d x) (h : flatD d = true) : ∀ {ds : List D} {ys : List V}, RVs g μ H ds ys → ds.all flatD = true → ys.all flatV = true ∧ inV x ys = ds.any fun z => eqFl z d
  | [], ys, rr, _ => by simp only [RVs] at rr; subst rr; exact ⟨rfl, rfl⟩
  | e :: ds, ys, rr, ha => by
    simp only [RVs] at rr
    obtain ⟨y, r', rfl, re, rb⟩ := rr
    simp only [List.all_cons, Bool.and_eq_true] at ha
    obtain ⟨a, b⟩ := flat_all r h rb ha.2
    obtain ⟨_, k⟩ := flat_val r h
    refine ⟨?_, ?_⟩
    · simp only [List.all_cons, Bool.and_eq_true]
      exact ⟨(flat_val re.w ha.1).1, a⟩
    · unfold inV at b ⊢
      simp only [List.any_cons]
      rw [k e y re ha.1, b]
theorem in_sound {g : Wd} {μ : M} {H : Hp} {s : S} {d e : D} {x y : V} {k : Bool} (hs : Rs g μ H s) (r1 : RW g μ H d x) (r2 : RW g μ H e y) (h : inB s d e = some k) :
    (∃ p ys, y = .ref p ∧ (SqL g.K H p ys ∨ SqT g.K H p ys) ∧ flatV x = true ∧ ys.all flatV = true ∧ k = inV x ys) ∨ (∃ p ps, Dp g.K H x p ∧ Dp g.K H y (.list ps) ∧ SeqAt.shaped p = true ∧ SeqAt.shaped (.list ps) = true ∧ k = ps.any fun z => PyData.eqv z p) ∨ ∃ p o, y = .ref p ∧ DGet H p x o ∧ k = o.isSome := by
  unfold inB at h
  split at h
  · rename_i ys es
    split at h
    · rename_i hf
      simp only [Bool.and_eq_true] at hf
      cases h
      obtain ⟨p, vs, rfl, q, rr⟩ := seqOf_sound hs r2 es
      obtain ⟨a, b⟩ := flat_all r1 hf.1 rr hf.2
      exact .inl ⟨p, vs, rfl, q.symm, (flat_val r1 hf.1).1, a, b.symm⟩
    · split at h
      · split at h
        · rename_i p qs e1 e2
          split at h
          · rename_i hz
            cases h
            simp only [Bool.and_eq_true] at hz
            exact .inr (.inl ⟨p, qs, toP_sound hs r1 e1, toP_sound hs r2 e2, hz.1, hz.2, rfl⟩)
          · cases h
        · cases h
      · cases h
  · simp only [Option.map_eq_some_iff] at h
    obtain ⟨o, h1, rfl⟩ := h
    obtain ⟨p, r, rfl, dg, k1, k2⟩ := dGet_sound hs r2 r1 h1
    refine .inr (.inr ⟨p, r, rfl, dg, ?_⟩)
    cases o with
    | none => rw [k2 rfl]; rfl
    | some v => obtain ⟨w, rfl, _⟩ := k1 v rfl; rfl
theorem qo_in (hu : X.A.units + 65 < cLine) : QOp X (compareOp .In) inD := by
  intro pins sh σ H x y v u Q I rx ry ⟨μ, s, d, e, hs, r1, r2, W, σ', h⟩
  unfold inD at h
  split at h
  · rename_i b hb
    have q := rf_bl h hs
    rcases in_sound hs r1 r2 hb with ⟨p, ys, rfl, z1, z2, z3, rfl⟩ | ⟨p, ps, z1, z2, z3, z4, rfl⟩ | ⟨p, o, rfl, dg, rfl⟩
    · exact op_in_seq pins sh σ H _ _ v u Q I rx ry ⟨p, ys, rfl, z1, z2, z3, q⟩
    · exact op_inD hu pins sh σ H _ _ v u Q I rx ry ⟨p, ps, z1, z2, z3, z4, q⟩
    · obtain rfl : u = Value.ref p := ry
      exact d_in (by omega) I dg rx fun s' I' => ⟨.bl _, H, I', rfl, q⟩
  · exact h.elim
theorem qo_notin (hu : X.A.units + 65 < cLine) : QOp X (compareOp .NotIn) notinD := by
  intro pins sh σ H x y v u Q I rx ry ⟨μ, s, d, e, hs, r1, r2, W, σ', h⟩
  unfold notinD at h
  split at h
  · rename_i b hb
    have q := rf_bl h hs
    rcases in_sound hs r1 r2 hb with ⟨p, ys, rfl, z1, z2, z3, rfl⟩ | ⟨p, ps, z1, z2, z3, z4, rfl⟩ | ⟨p, o, rfl, dg, rfl⟩
    · exact op_notIn_seq pins sh σ H _ _ v u Q I rx ry ⟨p, ys, rfl, z1, z2, z3, q⟩
    · exact op_notInD hu pins sh σ H _ _ v u Q I rx ry ⟨p, ps, z1, z2, z3, z4, q⟩
    · obtain rfl : u = Value.ref p := ry
      exact d_notIn (by omega) I dg rx fun s' I' => ⟨.bl _, H, I', rfl, q⟩
  · exact h.elim
end
end Fv

namespace Fv
open PySem PySem.Spec PyProof.Rows L2
/-! ### own classes: fields -/
def lookN : List Tx → List D → Tx → Option D
  | n :: ns, v :: vs, f => if f = n then some v else lookN ns vs f
  | _, _, _ => none
def putN (f : Tx) (d : D) : List Tx → List D → List Tx × List D
  | n :: ns, v :: vs => if n = f then (n :: ns, d :: vs) else (n :: (putN f d ns vs).1, v :: (putN f d ns vs).2)
  | _, _ => ([f], [d])
/-- the class and the fields of an object -/
def objOf (s : S) : D → Option (Tx × List Tx × List D)
  | .obj c ns vs => some (c, ns, vs)
  | .ref a => match s[a]? with | some (.obj c ns vs) => some (c, ns, vs) | _ => none
  | _ => none
theorem lk {β : Type} (f g : Tx) (y : β) (fs : List (Tx × β)) : ((f, y) :: fs).lookup g = if g = f then some y else fs.lookup g := by
  by_cases h : g = f
  · subst h; simp [List.lookup]
  · have e : (g == f) = false := by simpa using h
    simp [List.lookup, e, h]
theorem lookN_sound {g : Wd} {μ : M} {H : Hp} {f : Tx} : ∀ {ns : List Tx} {vs : List D} {ys : List V}, RVs g μ H vs ys → ns.length = ys.length →
    (∀ d, lookN ns vs f = some d → ∃ y, (ns.zip ys).lookup f = some y ∧ RV g μ H d y) ∧ (lookN ns vs f = none → (ns.zip ys).lookup f = none)
  | [], vs, ys, r, l => ⟨fun d e => by simp [lookN] at e, fun _ => by simp⟩
  | n :: ns, vs, [], r, l => by cases l
  | n :: ns, [], y :: ys, r, l => by simp only [RVs] at r; cases r
  | n :: ns, v :: vs, y :: ys, r, l => by
    simp only [RVs] at r
    obtain ⟨y', r', e, a, b⟩ := r
    cases e
    obtain ⟨h1, h2⟩ := lookN_sound (f := f) b (Nat.succ.inj l)
    by_cases h : f = n
    · exact ⟨fun d e => by rw [lookN, if_pos h] at e; cases e; exact ⟨y, by rw [List.zip_cons_cons, lk, if_pos h], a⟩, fun e => by rw [lookN, if_pos h] at e; cases e⟩
    · exact ⟨fun d e => by rw [lookN, if_neg h] at e; rw [List.zip_cons_cons, lk, if_neg h]; exact h1 d e, fun e => by rw [lookN, if_neg h] at e; rw [List.zip_cons_cons, lk, if_neg h]; exact h2 e⟩
theorem putN_sound {g : Wd} {μ : M} {H : Hp} {f : Tx} {d : D} {y : V} (rd : RV g μ H d y) : ∀ {ns : List Tx} {vs : List D} {ys : List V}, RVs g μ H vs ys → ns.length = ys.length →
    ∃ zs, putF f y (ns.zip ys) = (putN f d ns vs).1.zip zs ∧ RVs g μ H (putN f d ns vs).2 zs ∧ (putN f d ns vs).1.length = zs.length
  | [], vs, ys, r, l => by
    have : ys = [] := List.length_eq_zero_iff.mp l.symm
    subst this
    exact ⟨[y], by simp [putN, putF], by simp only [putN]; exact .one rd, by simp [putN]⟩
  | n :: ns, vs, [], r, l => by cases l
  | n :: ns, [], y :: ys, r, l => by simp only [RVs] at r; cases r
  | n :: ns, v :: vs, y0 :: ys, r, l => by
    simp only [RVs] at r
    obtain ⟨y', r', e, a, b⟩ := r
    cases e
    obtain ⟨zs, h1, h2, h3⟩ := putN_sound (f := f) rd b (Nat.succ.inj l)
    by_cases h : n = f
    · exact ⟨y :: ys, by simp [putN, putF, h], by simp only [putN, if_pos h]; exact ⟨y, ys, rfl, rd, b⟩, by simp only [putN, if_pos h]; exact l⟩
    · exact ⟨y0 :: zs, by simp [putN, putF, h, h1], by simp only [putN, if_neg h]; exact ⟨y0, zs, rfl, a, h2⟩, by simp only [putN, if_neg h]; simpa using h3⟩
theorem objOf_sound {g : Wd} {μ : M} {H : Hp} {s : S} {d : D} {x : V} {c : Tx} {ns : List Tx} {vs : List D} (hs : Rs g μ H s) (r : RW g μ H d x) (e : objOf s d = some (c, ns, vs)) : ∃ p C dx ys, x = .ref p ∧ g.mg c = some (.ref C) ∧ H p = some (.ins C dx (ns.zip ys)) ∧ ns.length = ys.length ∧ RVs g μ H vs ys := by
  rcases r with r | ⟨hd, p, rfl, hm, k⟩
  · cases d with
    | obj c' ns' vs' =>
      simp only [objOf, Option.some.injEq, Prod.mk.injEq] at e
      obtain ⟨rfl, rfl, rfl⟩ := e
      simp only [RV] at r
      obtain ⟨p, ys, rfl, z, ⟨C, dx, m, q⟩, l, rr⟩ := r
      exact ⟨p, C, dx, ys, rfl, m, q, l, rr⟩
    | ref a =>
      simp only [RV] at r
      obtain ⟨p, ep, rfl⟩ := r
      simp only [objOf] at e
      split at e
      · rename_i c' ns' vs' ei
        cases e
        obtain ⟨ys, ⟨C, dx, m, q⟩, l, rr⟩ := hs.at_ _ _ _ ei ep
        exact ⟨p, C, dx, ys, rfl, m, q, l, rr⟩
      · cases e
    | _ => cases e
  · cases d with
    | obj c' ns' vs' =>
      simp only [objOf, Option.some.injEq, Prod.mk.injEq] at e
      obtain ⟨rfl, rfl, rfl⟩ := e
      obtain ⟨ys, ⟨C, dx, m, q⟩, l, rr⟩ := k
      exact ⟨p, C, dx, ys, rfl, m, q, l, rr⟩
    | ref a => cases hd
    | _ => cases e
def fldE (cs : List Tx) (f : Tx) (m : E) : E := fun ρ s => (m ρ s).bind fun d s => match objOf s d with
  | some (c, ns, vs) => match lookN ns vs f with | some v => if c ∈ cs then .ok v s else .bad | none => .bad
  | none => .bad
/-- what the written part says of classes whose objects have the field -/
def FldK (K : PySem.W.Frag) (mg : Str → Option Value) (cs : List Tx) (f : Str) : Prop := ∀ c ∈ cs, ∀ C, mg c = some (.ref C) → Cls K C ∧ NoAttr K C f
section
variable {X : Cx} {W : WX} {Fr : Addr → Prop} {pos p' : Pos} {o e : Expr} {es : List Expr} {m mo me : E} {ms : As} {f : Str} {cs : List Tx} {fn : Fn} {k : Nat}
theorem q_fld (hk : FldK X.K X.mg cs f) (he : PE X e (liftB (wd X) W m)) (hb : attributeBase e f X.env (eval e X.env) = eval e X.env := by rfl) : PE X (.Attribute e f pos) (liftE (wd X) W (fldE cs f m)) :=
  pe_imp (pe_fld he hb) fun σ H Q ⟨F0, μ, ρ, s, hρ, hs, h⟩ => ⟨F0, μ, ρ, s, hρ, hs, runs_bind (Rel1 := RW (wd X)) h fun d s1 μ1 H1 x e1 x1 hs1 r1 h1 => by
    split at h1
    · rename_i c ns vs eo
      split at h1
      · rename_i v ev
        split at h1
        · rename_i hc
          obtain ⟨p, C, dx, ys, rfl, mC, q, l, rr⟩ := objOf_sound hs1 r1 eo
          obtain ⟨y, ey, ry⟩ := (lookN_sound (f := f) rr l).1 v ev
          obtain ⟨k1, k2⟩ := hk c hc C mC
          exact ⟨p, C, dx, _, y, rfl, q, k1, k2, ey, runs_pure h1 hs1 ry⟩
        · exact h1.elim
      · exact h1.elim
    · exact h1.elim⟩
/-- o.f = e, o an object of the store -/
def fstD (cs : List Tx) (f : Tx) (o d : D) (s : S) : Option S := match o with
  | .ref a => match s[a]? with
    | some (.obj c ns vs) => if c ∈ cs ∧ ns.length < 1000 then some (s.set a (.obj c (putN f d ns vs).1 (putN f d ns vs).2)) else none
    | _ => none
  | _ => none
def fstS (cs : List Tx) (f : Tx) (mo me : E) : C := fun ρ s => (me ρ s).stm ρ fun d s => (mo ρ s).stm ρ fun o s => match fstD cs f o d s with | some s' => .nx ρ s' | none => .bad
theorem fstD_sound {g : Wd} {μ : M} {H : Hp} {s s' : S} {od d : D} {x y : V} {f : Str} (hk : FldK g.K g.mg cs f) (hs : Rs g μ H s) (ro : RV g μ H od x) (rd : RV g μ H d y) (e : fstD cs f od d s = some s') :
    ∃ p C dx fs, x = .ref p ∧ H p = some (.ins C dx fs) ∧ Cls g.K C ∧ NoAttr g.K C f ∧ fs.length < 1000 ∧ Ex Fn0 μ H μ (upd H p (.ins C dx (putF f y fs))) ∧ Rs g μ (upd H p (.ins C dx (putF f y fs))) s' := by
  unfold fstD at e
  split at e
  · rename_i a
    split at e
    · rename_i c ns vs ei
      split at e
      · rename_i hc
        cases e
        simp only [RV] at ro
        obtain ⟨p, ep, rfl⟩ := ro
        obtain ⟨ys, ⟨C, dx, mC, q⟩, l, rr⟩ := hs.at_ _ _ _ ei ep
        obtain ⟨k1, k2⟩ := hk c hc.1 C mC
        obtain ⟨zs, z1, z2, z3⟩ := putN_sound (f := f) rd rr l
        have xo : Ex Fn0 μ H μ (upd H p (.ins C dx (putF f y (ns.zip ys)))) := ex_put (List.mem_of_getElem? ep) q (fun _ z => nomatch z) fun _ _ z => nomatch z
        exact ⟨p, C, dx, _, rfl, q, k1, k2, by rw [List.length_zip, l]; have := hc.2; omega, xo, hs.put (o := .obj c _ _) ep q (fun _ z => nomatch z) (fun _ _ z => nomatch z) ⟨zs, ⟨C, dx, mC, by rw [← z1]; exact upd_same⟩, z3, z2.mono xo⟩⟩
      · cases e
    · cases e
  · cases e
theorem qs_fst (hk : FldK X.K X.mg cs f) (ho : PE X o (liftE (wd X) W mo)) (he : PE X e (liftE (wd X) W me)) (hw : swapsWith e (some (.Attribute o f p')) pos.line X.env = pure false := by rfl) :
    QS X W Fr (.Assign [.Attribute o f p'] e pos) (fstS cs f mo me) :=
  ps_imp (ps_fld ho he hw) fun De σ H ⟨μ, ρ, s, hf, hρ, hst, h⟩ => ⟨Fr, μ, ρ, s, hρ, hst, runs_stm (Rel1 := RV (wd X)) hρ h fun d s1 μ1 H1 y e1 x1 hs1 r1 h1 =>
    ⟨Fr, μ1, ρ, s1, hρ.mono x1, hs1, runs_stm (Rel1 := RV (wd X)) (hρ.mono x1) h1 fun od s2 μ2 H2 x e2 x2 hs2 r2 h2 => by
      split at h2
      · rename_i s' es
        obtain ⟨p, C, dx, fs, e3, q, k1, k2, l, xo, hs3⟩ := fstD_sound hk hs2 r2 (r1.mono x2) es
        exact ⟨p, C, dx, fs, e3, q, k1, k2, l, h2 μ2 _ σ xo.s hs3 (((hρ.mono x1).mono x2).mono xo)⟩
      · exact h2.elim⟩⟩
end
/-! ### the store is cut back -/
mutual
def D.inB (n : Nat) : D → Bool
  | .ref a => decide (a < n)
  | .tup xs => D.inBs n xs
  | .ktup xs => D.inBs n xs
  | .lst xs => D.inBs n xs
  | .fl xs => D.inBs n xs
  | .dct _ vs => D.inBs n vs
  | .dtt _ vs => D.inBs n vs
  | .obj _ _ vs => D.inBs n vs
  | .exh _ _ vs => D.inBs n vs
  | _ => true
def D.inBs (n : Nat) : List D → Bool
  | [] => true
  | x :: xs => D.inB n x && D.inBs n xs
end
mutual
theorem RV.inB {g : Wd} {μ : M} {H : Hp} : ∀ {d : D} {v : V}, RV g μ H d v → D.inB μ.m.length d = true
  | .non, _, _ => rfl
  | .bl _, _, _ => rfl
  | .int _, _, _ => rfl
  | .str _, _, _ => rfl
  | .ty _, _, _ => rfl
  | .gl _, _, _ => rfl
  | .exc _ _, _, r => by simp only [RV] at r
  | .xn _ _, _, r => by simp only [RV] at r
  | .set _, _, _ => rfl
  | .ref a, v, r => by
    simp only [RV] at r
    obtain ⟨p, e, _⟩ := r
    simp only [D.inB, decide_eq_true_eq]
    exact (List.getElem?_eq_some_iff.mp e).1
  | .tup ds, v, r => by simp only [RV] at r; obtain ⟨p, ys, _, _, r⟩ := r; simp only [D.inB]; exact RVs.inB r
  | .ktup ds, v, r => by simp only [RV] at r; obtain ⟨p, ys, _, _, r⟩ := r; simp only [D.inB]; exact RVs.inB r
  | .lst ds, v, r => by simp only [RV] at r; obtain ⟨p, ys, _, _, _, r⟩ := r; simp only [D.inB]; exact RVs.inB r
  | .fl ds, v, r => by simp only [RV] at r; obtain ⟨p, ys, _, _, r⟩ := r; simp only [D.inB]; exact RVs.inB r
  | .dct ks ds, v, r => by simp only [RV] at r; obtain ⟨p, ys, _, _, _, _, r⟩ := r; simp only [D.inB]; exact RVs.inB r
  | .dtt ks ds, v, r => by simp only [RV] at r; obtain ⟨p, ys, _, _, _, _, r⟩ := r; simp only [D.inB]; exact RVs.inB r
  | .obj c ns ds, v, r => by simp only [RV] at r; obtain ⟨p, ys, _, _, _, _, r⟩ := r; simp only [D.inB]; exact RVs.inB r
  | .exq _, _, _ => rfl
  | .exh c ns ds, v, r => by simp only [RV] at r; obtain ⟨p, C, dx, ys, _, _, _, _, _, _, _, r⟩ := r; simp only [D.inB]; exact RVs.inB r
theorem RVs.inB {g : Wd} {μ : M} {H : Hp} : ∀ {ds : List D} {vs : List V}, RVs g μ H ds vs → D.inBs μ.m.length ds = true
  | [], _, _ => rfl
  | d :: ds, vs, r => by
    simp only [RVs] at r
    obtain ⟨y, r', _, a, b⟩ := r
    simp only [D.inBs, RV.inB a, RVs.inB b, Bool.and_self]
end
mutual
theorem RV.cut {g : Wd} {μ μ' : M} {H H' : Hp} {ν : List Addr} (hm : μ.m = μ'.m ++ ν) (hz : ∀ p, μ.z p → μ'.z p) (hT : ∀ p ys, H p = some (.tup ys) → H' p = some (.tup ys)) (hF : ∀ p o u, H p = some (.frz o u) → H' p = some (.frz o u)) (hZ : ∀ p u, μ.z p → H p = some u → H' p = some u) :
    ∀ {d : D} {v : V}, D.inB μ'.m.length d = true → RV g μ H d v → RV g μ' H' d v
  | .non, _, _, h => by simpa only [RV] using h
  | .bl _, _, _, h => by simpa only [RV] using h
  | .int _, _, _, h => by simpa only [RV] using h
  | .str _, _, _, h => by simpa only [RV] using h
  | .ty _, _, _, h => by simpa only [RV] using h
  | .gl _, _, _, h => by simpa only [RV] using h
  | .exc _ _, _, _, h => by simp only [RV] at h
  | .xn _ _, _, _, h => by simp only [RV] at h
  | .ref a, v, hb, h => by
    simp only [RV] at h ⊢
    simp only [D.inB, decide_eq_true_eq] at hb
    obtain ⟨q, e2, r2⟩ := h
    rw [hm, List.getElem?_append_left hb] at e2
    exact ⟨q, e2, r2⟩
  | .tup ds, v, hb, h => by
    simp only [RV] at h ⊢
    simp only [D.inB] at hb
    obtain ⟨p, ys, e, q, r⟩ := h
    exact ⟨p, ys, e, hT _ _ q, RVs.cut hm hz hT hF hZ hb r⟩
  | .ktup ds, v, hb, h => by
    simp only [RV] at h ⊢
    simp only [D.inB] at hb
    obtain ⟨p, ys, e, q, r⟩ := h
    exact ⟨p, ys, e, q, RVs.cut hm hz hT hF hZ hb r⟩
  | .lst ds, v, hb, h => by
    simp only [RV] at h ⊢
    simp only [D.inB] at hb
    obtain ⟨p, ys, e, z, q, r⟩ := h
    exact ⟨p, ys, e, hz p z, hZ p _ z q, RVs.cut hm hz hT hF hZ hb r⟩
  | .fl ds, v, hb, h => by
    simp only [RV] at h ⊢
    simp only [D.inB] at hb
    obtain ⟨p, ys, e, q, r⟩ := h
    exact ⟨p, ys, e, q.imp (fun ⟨o, k⟩ => ⟨o, hF _ _ _ k⟩) id, RVs.cut hm hz hT hF hZ hb r⟩
  | .dct ks ds, v, hb, h => by
    simp only [RV] at h ⊢
    simp only [D.inB] at hb
    obtain ⟨p, ys, e, z, q, l, r⟩ := h
    exact ⟨p, ys, e, hz p z, q.at fun u => hZ p u z, l, RVs.cut hm hz hT hF hZ hb r⟩
  | .dtt ks ds, v, hb, h => by
    simp only [RV] at h ⊢
    simp only [D.inB] at hb
    obtain ⟨p, ys, e, z, q, l, r⟩ := h
    exact ⟨p, ys, e, hz p z, q.at fun u => hZ p u z, l, RVs.cut hm hz hT hF hZ hb r⟩
  | .set ks, v, hb, h => by
    simp only [RV] at h ⊢
    obtain ⟨p, e, z, q⟩ := h
    exact ⟨p, e, hz p z, q.at fun u => hZ p u z⟩
  | .obj c ns ds, v, hb, h => by
    simp only [RV] at h ⊢
    simp only [D.inB] at hb
    obtain ⟨p, ys, e, z, q, l, r⟩ := h
    exact ⟨p, ys, e, hz p z, q.at fun u => hZ p u z, l, RVs.cut hm hz hT hF hZ hb r⟩
  | .exq c, v, hb, h => by
    simp only [RV] at h ⊢
    obtain ⟨p, C, e, z1, m, a⟩ := h
    exact ⟨p, C, e, hz p z1, m, hZ p _ z1 a⟩
  | .exh c ns ds, v, hb, h => by
    simp only [RV] at h ⊢
    simp only [D.inB] at hb
    obtain ⟨p, C, dx, ys, e, z1, z2, m, a, b, l, r⟩ := h
    exact ⟨p, C, dx, ys, e, hz p z1, hz dx z2, m, hZ p _ z1 a, hZ dx _ z2 b, l, RVs.cut hm hz hT hF hZ hb r⟩
theorem RVs.cut {g : Wd} {μ μ' : M} {H H' : Hp} {ν : List Addr} (hm : μ.m = μ'.m ++ ν) (hz : ∀ p, μ.z p → μ'.z p) (hT : ∀ p ys, H p = some (.tup ys) → H' p = some (.tup ys)) (hF : ∀ p o u, H p = some (.frz o u) → H' p = some (.frz o u)) (hZ : ∀ p u, μ.z p → H p = some u → H' p = some u) :
    ∀ {ds : List D} {vs : List V}, D.inBs μ'.m.length ds = true → RVs g μ H ds vs → RVs g μ' H' ds vs
  | [], _, _, h => by simpa only [RVs] using h
  | d :: ds, vs, hb, h => by
    simp only [RVs] at h ⊢
    simp only [D.inBs, Bool.and_eq_true] at hb
    obtain ⟨y, r, e, a, b⟩ := h
    exact ⟨y, r, e, RV.cut hm hz hT hF hZ hb.1 a, RVs.cut hm hz hT hF hZ hb.2 b⟩
end
/-- what stands in the store -/
def D.inC (n : Nat) : D → Bool
  | .lst xs => D.inBs n xs
  | .dct _ vs => D.inBs n vs
  | .dtt _ vs => D.inBs n vs
  | .obj _ _ vs => D.inBs n vs
  | .exc _ (some j) => decide (j < n)
  | .xn _ vs => D.inBs n vs
  | _ => true
theorem Ce.inC {g : Wd} {μ : M} {H : Hp} {p : Addr} {d : D} (h : Ce g μ H p d) : D.inC μ.m.length d = true := by
  cases d <;> simp only [Ce] at h <;> simp only [D.inC]
  · obtain ⟨ys, _, r⟩ := h; exact r.inB
  · obtain ⟨ys, _, _, r⟩ := h; exact r.inB
  · obtain ⟨ys, _, _, r⟩ := h; exact r.inB
  · obtain ⟨ys, _, _, r⟩ := h; exact r.inB
  · rename_i c d
    cases d with
    | none => rfl
    | some j =>
      obtain ⟨C, _, ⟨z, _⟩ | ⟨j', dx, z, ej, _⟩⟩ := h
      · cases z
      · cases z
        simp only [D.inC, decide_eq_true_eq]
        exact (List.getElem?_eq_some_iff.mp ej).1
  · obtain ⟨ys, _, _, r⟩ := h; exact r.inB
theorem Ce.cut {g : Wd} {μ μ' : M} {H H' : Hp} {ν : List Addr} (hm : μ.m = μ'.m ++ ν) (hz : ∀ p, μ.z p → μ'.z p) (hT : ∀ p ys, H p = some (.tup ys) → H' p = some (.tup ys)) (hF : ∀ p o u, H p = some (.frz o u) → H' p = some (.frz o u)) (hZ : ∀ p u, μ.z p → H p = some u → H' p = some u)
    {p : Addr} {d : D} (k : ∀ u, H p = some u → H' p = some u) (hb : D.inC μ'.m.length d = true) (h : Ce g μ H p d) : Ce g μ' H' p d := by
  cases d <;> simp only [Ce] at h ⊢ <;> simp only [D.inC] at hb
  · obtain ⟨ys, a, r⟩ := h; exact ⟨ys, k _ a, r.cut hm hz hT hF hZ hb⟩
  · obtain ⟨ys, a, l, r⟩ := h; exact ⟨ys, a.at k, l, r.cut hm hz hT hF hZ hb⟩
  · obtain ⟨ys, a, l, r⟩ := h; exact ⟨ys, a.at k, l, r.cut hm hz hT hF hZ hb⟩
  · exact h.at k
  · obtain ⟨ys, a, l, r⟩ := h; exact ⟨ys, a.at k, l, r.cut hm hz hT hF hZ hb⟩
  · rename_i c d
    obtain ⟨C, m, ⟨d0, a⟩ | ⟨j, dx, d0, ej, a⟩⟩ := h
    · exact ⟨C, m, .inl ⟨d0, k _ a⟩⟩
    · subst d0
      simp only [D.inC, decide_eq_true_eq] at hb
      rw [hm, List.getElem?_append_left hb] at ej
      exact ⟨C, m, .inr ⟨j, dx, rfl, ej, k _ a⟩⟩
  · obtain ⟨ys, a, l, r⟩ := h; exact ⟨ys, k _ a, l, r.cut hm hz hT hF hZ hb⟩
/-- the last object of the store leaves it, and stays as it is -/
theorem cut_last {g : Wd} {μ1 μ2 : M} {H1 H2 : Hp} {s1 : S} {p : Addr} {o : D} (hs1 : Rs g μ1 H1 s1) (hm : μ2.m = μ1.m ++ [p]) (x : ∃ μ0 H0, Ex Fn0 μ0 H0 μ2 H2 ∧ μ0.m = μ1.m ++ [p] ∧ (∀ q, μ0.z q → μ1.z q) ∧ (∀ q, H0 q = none → H1 q = none) ∧ (∀ q u, H1 q = some u → H0 q = some u) ∧ (∀ q, μ1.z q → μ0.z q)) (hp : H1 p = none)
    (hs2 : Rs g μ2 H2 (s1 ++ [o])) (ho : D.inC s1.length o = true) : ∃ μ3, Ex Fn0 μ1 H1 μ3 H2 ∧ Rs g μ3 H2 s1 ∧ p ∉ μ3.m ∧ ¬ μ3.z p ∧ Ce g μ3 H2 p o ∧ μ3.m = μ1.m ∧ (∀ q, μ2.z q → μ3.z q) ∧ ∀ q, μ3.z q → μ2.z q := by
  obtain ⟨μ0, H0, x, em, ez, en, eo, ez'⟩ := x
  have np : p ∉ μ1.m := hs1.nmem hp
  have pm2 : p ∈ μ2.m := by rw [hm]; simp
  have zp2 : ¬ μ2.z p := fun z => μ2.zm p z pm2
  let μ3 : M := ⟨μ1.m, μ2.z, fun q hq h => μ2.zm q hq (by rw [hm]; exact List.mem_append_left _ h)⟩
  have hb : ∀ (i : Nat) (o' : D), s1[i]? = some o' → D.inC μ3.m.length o' = true := fun i o' e => by
    obtain ⟨q, _, c⟩ := hs1.adr e
    exact c.inC
  have ce : ∀ {q : Addr} {d : D}, D.inC μ1.m.length d = true → Ce g μ2 H2 q d → Ce g μ3 H2 q d := fun {q d} hb c => Ce.cut (μ' := μ3) hm (fun _ h => h) (fun _ _ h => h) (fun _ _ _ h => h) (fun _ _ _ h => h) (fun _ h => h) hb c
  have il : (s1 ++ [o])[s1.length]? = some o := by simp
  have ip : μ2.m[s1.length]? = some p := by rw [hm, ← hs1.len]; simp
  refine ⟨μ3, ⟨⟨[], by simp [μ3], by simp⟩, fun q h => en q (x.trk q h), fun q ys h => x.tup q ys (eo q _ h), fun q o u h => x.frz q o u (eo q _ h), fun q u h n _ => ?_, fun q h => x.zs q (ez' q h), fun q h => ?_⟩, ⟨hs1.len, hs1.nd, hs2.zt, fun i o' q ei eq => ?_⟩, np, zp2, ?_, rfl, fun _ h => h, fun _ h => h⟩
  · refine x.oth q u (eo q u h) ?_ (.inr id)
    rw [em]
    intro hq
    rcases List.mem_append.mp hq with hq | hq
    · exact n hq
    · simp at hq; subst hq; rw [hp] at h; cases h
  · rcases x.zn q h with h | h | h
    · exact .inl (ez q h)
    · exact .inr (.inl h)
    · exact .inr (.inr (en q h))
  · have hi : i < s1.length := (List.getElem?_eq_some_iff.mp ei).1
    exact ce (hb i o' ei) (hs2.at_ i o' q (by rw [List.getElem?_append_left hi]; exact ei) (by rw [hm, List.getElem?_append_left (by rw [hs1.len]; exact hi)]; exact eq))
  · exact ce (by rw [hs1.len]; exact ho) (hs2.at_ _ _ _ il ip)
end Fv

namespace Fv
open PySem PySem.Spec PyProof.Rows L2
/-! ### own classes: objects made -/
open Classical in
/-- C(..), by what __init__ does; the object stays as it is from then on -/
noncomputable def makeF (c : Tx) (f : Fn) : Fn := fun ds s1 => match f (.ref s1.length :: ds) (s1 ++ [.obj c [] []]) with
  | .ok .non s2 => match s2[s1.length]? with
    | some (.obj c' ns vs) => if s2 = s1 ++ [.obj c' ns vs] ∧ D.inBs s1.length vs = true then .ok (.obj c' ns vs) s1 else .bad
    | _ => .bad
  | .err c' ns vs s2 => match s2[s1.length]? with
    | some o => if s2 = s1 ++ [o] ∧ D.inC s1.length o = true ∧ D.inBs s1.length vs = true then .err c' ns vs s1 else .bad
    | none => .bad
  | _ => .bad
theorem makeF_ok {c : Tx} {f : Fn} {ds : List D} {s1 : S} {ns : List Tx} {vs : List D} (h : f (.ref s1.length :: ds) (s1 ++ [.obj c [] []]) = .ok .non (s1 ++ [.obj c ns vs])) (hb : D.inBs s1.length vs = true) : makeF c f ds s1 = .ok (.obj c ns vs) s1 := by
  have e : (s1 ++ [D.obj c ns vs])[s1.length]? = some (D.obj c ns vs) := by simp
  unfold makeF
  rw [h]
  simp only [e]
  simp only [hb, and_self, if_true]
theorem makeF_err {c c' : Tx} {f : Fn} {ds : List D} {s1 : S} {o : D} {ns : List Tx} {vs : List D} (h : f (.ref s1.length :: ds) (s1 ++ [.obj c [] []]) = .err c' ns vs (s1 ++ [o])) (ho : D.inC s1.length o = true) (hb : D.inBs s1.length vs = true) : makeF c f ds s1 = .err c' ns vs s1 := by
  have e : (s1 ++ [o])[s1.length]? = some o := by simp
  unfold makeF
  rw [h]
  simp only [e]
  simp only [ho, hb, and_self, if_true]
section
variable {X : Cx} {W : WX} {Fr : Addr → Prop} {k : Nat} {x c m : Str} {f : Fn} {p pos apos : Pos} {e o : Expr} {es : List Expr} {ms : As} {mo : E} {C fI : Addr}
theorem run_makeG {pins : List (Addr × Obj)} {σ : L2.St} {H : Hp} {s : Shared} {Q : VK} {us : List Value} {vs : List V} {sp : Sp} (Mk0 : Mk X.K C fI) (F : FnG X.prog X.w X.K X.mg X.base k fI sp) (hr : Rm (k + 1) X.A) (tk : Takes X W) (I : Inv X pins σ H s) (r : Vals vs us)
    (h : ∀ x dx, H x = none → H dx = none → dx ≠ x → sp (.ref x :: vs) (upd (upd H dx (.own x)) x (.ins C dx [])) (fun v H2 => v = .non ∧ Q (.ref x) H2) (fun c d H => W c d σ H)) :
    wpAny (model X.prog X.w) X.A (call (.ref C) us) (EP X pins σ Q) X.xe s := by
  have goal := h (s.heap.objs.size + 1) s.heap.objs.size (I.hok.fresh (Nat.le_succ _)) (I.hok.fresh (Nat.le_refl _)) (Nat.ne_of_lt (Nat.lt_succ_self _))
  have made := Inv.made (C := C) I
  have rr : Vals (V.ref (s.heap.objs.size + 1) :: vs) (Value.ref (s.heap.objs.size + 1) :: us) := .cons rfl r
  refine wpAny_call (make_map (f := fI) I.kIn Mk0.makes Mk0.init (beq_iff_eq.mp Mk0.fn) (codeAny_mono (F _ X.stack _ _ (Value.ref (s.heap.objs.size + 1) :: us) _ _ _ ⟨hr.r.make C us [], hr.g⟩ (made.env0.make C us []) rr goal) fun res s' hq => ?_))
  cases res with
  | error er => exact passAt tk σ pins _ _ er s' made hq
  | ok fl =>
    cases fl with
    | ret u =>
      obtain ⟨v, H', I3, rv, ev, q3⟩ := made.after hq
      subst ev
      exact ⟨rv, ⟨V.ref (s.heap.objs.size + 1), H', I3, rfl, q3⟩⟩
    | next => exact False.elim hq
    | brk => exact False.elim hq
    | cont => exact False.elim hq
/-- the new object in the store -/
theorem lay_obj {g : Wd} {μ : M} {H : Hp} {s : S} {x dx C : Addr} {c : Tx} (hs : Rs g μ H s) (mC : g.mg c = some (.ref C)) (hx : H x = none) (hd : H dx = none) (hne : dx ≠ x) :
    ∃ hz : ¬ μ.z x, Ex Fn0 μ H (μ.push x hz) (upd (upd H dx (.own x)) x (.ins C dx [])) ∧ Rs g (μ.push x hz) (upd (upd H dx (.own x)) x (.ins C dx [])) (s ++ [.obj c [] []]) ∧ RV g (μ.push x hz) (upd (upd H dx (.own x)) x (.ins C dx [])) (.ref s.length) (.ref x) := by
  have h1 : upd H dx (.own x) x = none := by rw [upd_ne (Ne.symm hne)]; exact hx
  have x1 : Ex Fn0 μ H μ (upd H dx (.own x)) := ex_new hd
  have s1 := hs.new (ho := .own x) hd
  have x2 : Ex Fn0 μ (upd H dx (.own x)) μ (upd (upd H dx (.own x)) x (.ins C dx [])) := ex_new h1
  have s2 := s1.new (ho := .ins C dx []) h1
  have nz : ¬ μ.z x := s1.nz h1
  have nm : x ∉ μ.m := s1.nmem h1
  obtain ⟨a, b⟩ := s2.adopt (o := .obj c [] []) nm nz ⟨[], ⟨C, dx, mC, upd_same⟩, rfl, by simp only [RVs]⟩
  have xx := x1.trans x2
  refine ⟨nz, ⟨?_, xx.trk, xx.tup, xx.frz, xx.oth, xx.zs, xx.zn⟩, a, b⟩
  exact ⟨[x], rfl, fun q hq => by simp at hq; subst hq; exact hx⟩
theorem one_more {μ1 μ2 : M} {x : Addr} {n : Nat} {ν : List Addr} (h : μ2.m = (μ1.m ++ [x]) ++ ν) (l1 : μ1.m.length = n) (l2 : μ2.m.length = n + 1) : μ2.m = μ1.m ++ [x] := by
  have : ν = [] := by
    rw [h] at l2
    simp only [List.length_append, List.length_cons, List.length_nil] at l2
    exact List.length_eq_zero_iff.mp (by omega)
  rw [h, this, List.append_nil]
theorem q_make (Mk0 : Mk X.K C fI) (F : FnG X.prog X.w X.K X.mg X.base k fI (spF (wd X) f)) (hr : Rm (k + 1) X.A) (tk : Takes X W) (hm : X.mg x = some (.ref C)) (ha : PA X (e :: es) (liftA (wd X) W ms)) (hg : Gl X x := by rfl) (hdb : (x == ("__debug__" : Str)) = false := by decide)
    (he : starEach (e :: es) X.env = (false, eval e X.env) :: starEach es X.env := by rfl) (hpl : (backTo pos (starEach es X.env)).any (·.1) = false := by rfl) : PE X (.Call (.Name x p) (e :: es) [] pos) (liftF (wd X) W (callE (makeF x f) ms)) := by
  refine ⟨fun pins sh σ H Q I ⟨F0, μ, ρ, s, hρ, hs, h⟩ => ?_⟩
  refine wpAny_Call_Name_kw (ld_glob I hg hm ?_ hdb)
  have hq : liftA (wd X) W ms σ H fun vs H1 => ∀ y dx, H1 y = none → H1 dx = none → dx ≠ y → spF (wd X) f (.ref y :: vs) (upd (upd H1 dx (.own y)) y (.ins C dx [])) (fun v H2 => v = .non ∧ Q (.ref y) H2) (fun c d H => W c d σ H) :=
    ⟨F0, μ, ρ, s, hρ, hs, runs_bind (Rel1 := RVs (wd X)) h fun ds s1 μ1 H1 vs e1 x1 hs1 r1 h1 y dx hy hd hne => by
      obtain ⟨hz, x2, hs2, rv⟩ := lay_obj (c := x) hs1 hm hy hd hne
      refine ⟨μ1.push y hz, .ref s1.length :: ds, s1 ++ [.obj x [] []], ⟨.ref y, vs, rfl, rv, r1.mono x2⟩, hs2, ?_⟩
      have cut : ∀ {μ2 : M} {H3 : Hp} {o : D}, Ex Fn0 (μ1.push y hz) (upd (upd H1 dx (.own y)) y (.ins C dx [])) μ2 H3 → Rs (wd X) μ2 H3 (s1 ++ [o]) → D.inC s1.length o = true →
          ∃ μ3, Ex Fn0 μ1 H1 μ3 H3 ∧ Rs (wd X) μ3 H3 s1 ∧ y ∉ μ3.m ∧ ¬ μ3.z y ∧ Ce (wd X) μ3 H3 y o ∧ μ3.m = μ1.m ∧ μ2.m = μ1.m ++ [y] ∧ (∀ q, μ2.z q → μ3.z q) ∧ ∀ q, μ3.z q → μ2.z q := by
        intro μ2 H3 o x3 hs3 ho
        obtain ⟨ν, eν, _⟩ := x3.pre
        have em := one_more (μ1 := μ1) (μ2 := μ2) (x := y) eν hs1.len (by rw [hs3.len]; simp)
        obtain ⟨μ3, a1, a2, a3, a4, a5, a6, a7, a8⟩ := cut_last hs1 em ⟨_, _, x3, rfl, fun _ h => h, fun q h => x2.trk q h, fun q u h => by
          have hq1 : q ≠ dx := ne_of_none h hd
          have hq2 : q ≠ y := ne_of_none h hy
          rw [upd_ne hq2, upd_ne hq1]; exact h, fun _ h => h⟩ hy hs3 ho
        exact ⟨μ3, a1, a2, a3, a4, a5, a6, em, a7, a8⟩
      unfold makeF at h1
      cases qf : f (.ref s1.length :: ds) (s1 ++ [.obj x [] []]) with
      | bad => rw [qf] at h1; exact h1.elim
      | err c' ns' vs' s2 =>
        rw [qf] at h1
        simp only at h1
        split at h1
        · rename_i o eo
          split at h1
          · rename_i hc
            intro μ2 H3 C' dx' x3 hs3 mC' ⟨hd', rx⟩
            rw [hc.1] at hs3
            obtain ⟨μ3, a1, a2, a3, a4, a5, a6, em, a7, a8⟩ := cut x3 hs3 hc.2.1
            obtain ⟨n1, n2, ys, q1, q2, q3⟩ := rx
            refine h1 μ3 H3 C' dx' a1 a2 mC' ⟨x2.trk _ hd', ?_, ?_, ys, q1, q2, ?_⟩
            · rw [a6]; intro hq; exact n1 (by rw [em]; exact List.mem_append_left _ hq)
            · exact fun hq => n2 (a8 _ hq)
            · exact RVs.cut (ν := [y]) (by rw [a6]; exact em) a7 (fun _ _ h => h) (fun _ _ _ h => h) (fun _ _ _ h => h) (by rw [a6, hs1.len]; exact hc.2.2) q3
          · exact h1.elim
        · exact h1.elim
      | ok v s2 =>
        rw [qf] at h1
        cases v with
        | non =>
          simp only at h1
          split at h1
          · rename_i c' ns' vs' eo
            split at h1
            · rename_i hc
              intro μ2 H3 b x3 hs3 rb
              simp only [RV] at rb
              refine ⟨rb, ?_⟩
              rw [hc.1] at hs3
              obtain ⟨μ3, a1, a2, a3, a4, a5, a6, em, a7, a8⟩ := cut x3 hs3 hc.2
              exact h1 μ3 H3 _ a1 a2 (by
                unfold RF
                exact ⟨y, rfl, x1.trk y hy, a3, a4, a5⟩)
            · exact h1.elim
          · exact h1.elim
        | _ => exact h1.elim⟩
  exact PySem.W.callWith_K (h₀ := X.base) I.ok.mod.kin Mk0.kp (thn (ha.run pos pins sh σ H _ I hq) fun us s1 ⟨vs, H1, I1, r, q⟩ => ⟨I1.kIn, run_makeG Mk0 F hr tk I1 r q⟩) he hpl
end
end Fv

/-! ### an own exception class called by place and by name -/
namespace PySem.HandSPX
open PySem PySem.Spec PyProof.Rows Builtin
section
variable {M : Model} {A : Around} {E : Value → Shared → Prop} {h : Heap} {g : Array GenState} {d : Drawn} {t : Nat} {os : OsState}
variable {nm q : Str} {C N : Addr} {bs bm bmB : List Value} {hdct : Bool} {sn : List Str} {sub : List Value} {ab : Bool} {col : Option Bool} {dd : Option Addr} {k0 k1 k2 k3 k5 : Option Value} {B newId initId : String} {rest : List Value} {kw : List (Str × Value)}
theorem fv_chk_call {Q : Unit → Shared → Prop} (hC : h.get? C = some (excClassObj nm q C N bs bm hdct sn sub ab col dd k0 k1 k2 k3 k5 newId)) (hq : Q () ⟨h, g, d, t, os⟩) :
    wpAny M A (checkBuiltinCall "type.__call__" ⟨.ref C :: rest, kw⟩) Q E ⟨h, g, d, t, os⟩ := by
  have s3 := tc_sub
  have isT : (⟨h, g, d, t, os⟩ : Shared).TypeIs (.ref C) "type" := ⟨_, hC, rfl⟩
  simp only [checkBuiltinCall, tc_kind, tc_split]
  repeat (any_goals (first | assumption | with_reducible refine wpAny_loadPart_at hC ?_ | with_reducible refine wpAny_onRaise ?_ | with_reducible refine wpAny_map ?_ | wp_step))
theorem fv_chk_new (F : ExcBaseFacts B newId initId bmB) (hT : ∀ X : String, bm.contains (.type X) = bmB.contains (.type X)) {Q : Unit → Shared → Prop}
    (hC : h.get? C = some (excClassObj nm q C N bs bm hdct sn sub ab col dd k0 k1 k2 k3 k5 newId)) (hq : Q () ⟨h, g, d, t, os⟩) : wpAny M A (checkBuiltinCall newId ⟨.ref C :: rest, kw⟩) Q E ⟨h, g, d, t, os⟩ := by
  have isB : (Value.ref C :: bm).contains (.type B) = true := by rw [List.contains_cons, hT, F.hasB, Bool.or_true]
  have ns := F.noStar
  simp only [checkBuiltinCall, F.newKind, F.newSplit, F.newRow]
  repeat (first | refine wpAny_loadPart_at hC ?_ | (refine wpAny_isSubtype_exc hC ?_; rw [isB]) | refine wpAny_staticBase_exc hC ?_ | refine wpAny_madeBy_exc hC ?_ | simp only [bne_self_eq_false, Bool.false_eq_true, if_false] | wp_step)
  exact hq
end
section
variable {prog : Program} {w : World} {A : Around} {E : Value → Shared → Prop} {R : Result → Shared → Prop} {h : Heap} {g : Array GenState} {d : Drawn} {t : Nat} {os : OsState}
variable {nm q : Str} {C N : Addr} {bs bm bmB : List Value} {hdct : Bool} {sn : List Str} {sub : List Value} {ab : Bool} {col : Option Bool} {dd : Option Addr} {k0 k1 k2 k3 k5 : Option Value} {B newId initId : String} {rest : List Value} {kw : List (Str × Value)} {fI : Addr}
theorem fv_new (F : ExcBaseFacts B newId initId bmB) (hT : ∀ X : String, bm.contains (.type X) = bmB.contains (.type X))
    (hC : h.get? C = some (excClassObj nm q C N bs bm hdct sn sub ab col dd k0 k1 k2 k3 k5 newId)) (hrest : rest.length ≤ sizeLine)
    (hq : R (.ok (.ret (.ref (h.objs.size + 1)))) ⟨(h.push (W.kdv_tup rest)).push (excO C h.objs.size), g, d, t, os⟩) :
    codeAny (model prog w) A (.builtin newId ⟨.ref C :: rest, kw⟩) R ⟨h, g, d, t, os⟩ := by
  have ends := F.ends
  have isB : (Value.ref C :: bm).contains (.type B) = true := by rw [List.contains_cons, hT, F.hasB, Bool.or_true]
  have noA : (Value.ref C :: bm).contains (.type "AttributeError") = false := by rw [List.contains_cons, hT, F.noAttr]; rfl
  have noN : (Value.ref C :: bm).contains (.type "NameError") = false := by rw [List.contains_cons, hT, F.noName]; rfl
  refine codeAny_builtinAt F.entry ?_
  unfold Builtin.«BaseException.__new__»
  refine wpAt_bind ?_
  show wpAt _ _ _ (stack >>= _) _ _ _
  refine wpAt_bind (wpAt_stack fun p below => wpAt_of_wpAny ?_)
  wp_walk
  refine wpAt_of_wpAny ?_
  rw [F.owner]
  repeat (first | with_reducible refine wpAny_madeHere_exc F.canon hC ?_ | with_reducible refine wpAny_loadPart_at hC ?_ | (with_reducible refine wpAny_isSubtype_exc hC ?_; first | rw [isB] | rw [noA] | rw [noN]) | wp_step)
  show R _ _
  rw [Heap.size_push]
  exact hq
theorem fv_type_call (F : ExcBaseFacts B newId initId bmB) (hT : ∀ X : String, bm.contains (.type X) = bmB.contains (.type X)) {Q : Fin → Shared → Prop}
    (hC : h.get? C = some (excClassObj nm q C N bs bm hdct sn sub ab col dd k0 k1 k2 k3 k5 newId))
    (hi : W.Looks (model prog w) h (typeLookup (.ref C) "__init__") (some (.ref fI))) (hb : ∀ self, W.Looks (model prog w) h (bindSpecial (.ref fI) self) (.ref fI, [self])) (hrest : rest.length ≤ sizeLine)
    (hq : codeAny (model prog w) A (.call (.ref fI) ⟨.ref (h.objs.size + 1) :: rest, kw⟩)
      (fun r s' => match r with | .ok (.ret v) => v = .none ∧ Q (.done (.ret (.ref (h.objs.size + 1)))) s' | .ok _ => False | .error e => E e s')
      ⟨(h.push (W.kdv_tup rest)).push (excO C h.objs.size), g, d, t, os⟩) :
    wpAny (model prog w) A (Builtin.«type.__call__» ⟨.ref C :: rest, kw⟩) Q E ⟨h, g, d, t, os⟩ := by
  repeat (first | with_reducible refine wpAny_loadPart_at hC ?_ | with_reducible refine wpAny_madeBy_exc hC ?_ | wp_step)
  refine codeAny_call_builtin_code (Code.quiet_builtin _ F.quiet) (fv_chk_new F hT hC (fv_new F hT hC hrest ?_))
  show wpAny _ _ _ _ _ _
  have up : ∀ b o, h.get? b = some o → ((h.push (W.kdv_tup rest)).push (excO C h.objs.size)).get? b = some o := fun b o e => Heap.get?_push_of_some _ (Heap.get?_push_of_some _ e)
  have hC2 := up _ _ hC
  have made : ((h.push (W.kdv_tup rest)).push (excO C h.objs.size)).get? (h.objs.size + 1) = some (excO C h.objs.size) := by heap_get
  have isC : (Value.ref C :: bm).contains (.ref C) = true := by simp
  have lI := hi.keeps up
  have lB := (hb (.ref (h.objs.size + 1))).keeps up
  unfold isInstance
  repeat (first | with_reducible refine wpAny_loadPart_at made ?_ | (with_reducible refine wpAny_isSubtype_exc hC2 ?_; rw [isC]) | wp_step)
  show wpAny _ _ (typeLookup (.ref C) _) _ _ _
  refine lI.at (wpAny_holding (wpAny_bind (lB.at (wpAny_bind (wpAny_call (codeAny_mono hq fun r s' z => ?_))))))
  rcases r with e | (v | _ | _ | _) <;> first | exact z | exact z.elim | skip
  obtain ⟨rfl, z2⟩ := z
  first
    | exact wpAny_pure (wpAny_pure z2)
    | (wp_walk; exact z2)
theorem fv_call (F : ExcBaseFacts B newId initId bmB) (hT : ∀ X : String, bm.contains (.type X) = bmB.contains (.type X))
    (hC : h.get? C = some (excClassObj nm q C N bs bm hdct sn sub ab col dd k0 k1 k2 k3 k5 newId))
    (hi : W.Looks (model prog w) h (typeLookup (.ref C) "__init__") (some (.ref fI))) (hb : ∀ self, W.Looks (model prog w) h (bindSpecial (.ref fI) self) (.ref fI, [self])) (hrest : rest.length ≤ sizeLine)
    (hq : codeAny (model prog w) (A.under (.builtin "type.__call__" ⟨.ref C :: rest, kw⟩)) (.call (.ref fI) ⟨.ref (h.objs.size + 1) :: rest, kw⟩) (W.InitBack (h.objs.size + 1) R)
      ⟨(h.push (W.kdv_tup rest)).push (excO C h.objs.size), g, d, t, os⟩) :
    codeAny (model prog w) A (.call (.ref C) ⟨rest, kw⟩) R ⟨h, g, d, t, os⟩ := by
  have e1 := tc_lookup
  have e2 := tc_bind (.ref C)
  have isT : (⟨h, g, d, t, os⟩ : Shared).TypeIs (.ref C) "type" := ⟨_, hC, rfl⟩
  refine codeAny_of_tree ?_
  show wpAny _ _ (callAny (.ref C) _) _ _ _
  repeat (any_goals (first | assumption | with_reducible refine wpAny_loadPart_at hC ?_ | wp_step))
  refine ⟨rfl, ?_⟩
  refine codeAny_call_builtin_at (Code.quiet_builtin _ (by decide +kernel)) entry_typeCall (fv_chk_call hC (fv_type_call F hT hC hi hb hrest (codeAny_mono hq fun r s' z => ?_)))
  rcases r with e | (v | _ | _ | _) <;> exact z
end
end PySem.HandSPX

namespace Fv
open PySem PySem.Spec PyProof.Rows L2
/-! ### a def, however its parameters are bound -/
def FnB (P : Program) (w : World) (K : PySem.W.Frag) (mg : Str → Option Value) (base : Heap) (k : Nat) (fa : Addr) (fd : FuncData) (ps : List Str) (sp : Sp) : Prop :=
  ∀ (A : Around) (outer : List PySem.Env) (s : Shared) (H : Hp) (args : Args) (us : List Value) (vs : List V) (Q : VK) (E : XK), Rm k A → Env0 P w K mg base A outer s H → BindsTo s fd args (ps.zip us) → us.length = ps.length → Vals vs us → sp vs H Q E →
    codeAny (model P w) A (.call (.ref fa) args) (CR (L2.CX P w) outer P w H s Q E) s
section
variable {P : Program} {w : World} {K : PySem.W.Frag} {mg : Str → Option Value} {base : Heap} {k : Nat}
theorem def_b {x qual : Str} {st : Stmt} {fa : Addr} {fd : FuncData} {N ps : List Str} {n nN : Nat} {body : C} (F : Fun K x qual st fa fd) (S : FnScope N ps (defScope st)) (hnN : N.length = nN) (hn : ps.length = n)
    (hbody : ∀ (cdv : Value) (A : Around) (outer : List PySem.Env) (s : Shared) (H : Hp) (E : XK) (Fr : Addr → Prop), Rm k (A.deeper (envOfC qual (defScope st) s.heap.objs.size fa cdv)) →
      QSs (cxOf (L2.CX P w) P w K mg base N qual (defScope st) fa cdv A outer s H E) (fun c d _ H => E c d H) Fr (defBody st) body) : FnB P w K mg base (k + 1) fa fd ps (spF ⟨K, mg, P, w⟩ (mkFn n nN body)) := by
  intro A outer s H args us vs Q E hr e0 hb hus r hsp
  obtain ⟨oc, od, kV, doc, pm, an, cdv, ct, osl, rfl, lk, hcd⟩ := F.ex
  obtain ⟨μ, ds, st', rr, hs, h⟩ := hsp
  unfold mkFn at h
  split at h
  · rename_i hl
    have hln : ds.length = n := of_decide_eq_true hl
    refine StX.run_bnd (E := E) lk hcd S hr.r e0 (G := fun xs H2 => xs = vs ∧ H2 = H) (fun A' Ex Q' hq => ?_) fun s2 H2 xs ⟨ex, eH⟩ hr' => ?_
    · exact hb _ A' _ _ (hq s H vs us e0 Un.refl rfl (fun _ _ z => z) r (r.length.trans hus) ⟨rfl, rfl⟩)
    · subst ex; subst eH
      refine ⟨_, hbody cdv A outer s2 _ E (fun p => H2 p = none) ⟨hr', hr.g⟩, μ, _, st', fun p e => e, ren_start rr hnN, hs, ?_⟩
      rw [hln]
      exact fin_sound h
  · exact h.elim
theorem FnB.g {fa : Addr} {fd : FuncData} {ps : List Str} {n : Nat} {f : Fn} (F : FnB P w K mg base k fa fd ps (spF ⟨K, mg, P, w⟩ f)) (b : Binds K fd ps []) (hl : ∀ ds s, f ds s ≠ .bad → ds.length = ps.length) : FnG P w K mg base k fa (spF ⟨K, mg, P, w⟩ f) := by
  intro A outer s H us vs Q E hr e0 r hsp
  have hus : us.length = ps.length := by
    obtain ⟨μ, ds, st', rr, hs, h⟩ := hsp
    rw [← r.length, ← rr.length]
    exact hl ds st' fun z => by rw [z] at h; exact h
  have KX : K.In s.heap := e0.mod.kin.keeps fun b o e => (e0.bs b o e).1
  have z := b s us KX (by rw [List.append_nil]; exact hus)
  rw [List.append_nil] at z
  exact F A outer s H ⟨us, []⟩ us vs Q E hr e0 z hus r hsp
end
/-! ### exceptions as values -/
/-- what is tracked at a is told in another way -/
theorem retag {X : Cx} {pins : List (Addr × Obj)} {σ : L2.St} {H : Hp} {s : Shared} {a : Addr} {φ : Heap → Prop} {o : HO} (I : Inv X pins σ H s) (e : H a = some (.ext φ)) (new : ObjOk X.prog X.w (upd H a o) s.heap a o) : Inv X pins σ (upd H a o) s := by
  have ne : ∀ {b : Addr} {u : HO}, H b = some u → (∀ ψ, u ≠ .ext ψ) → b ≠ a := fun {b u} q n z => by
    subst z
    rw [e] at q
    exact n φ (Option.some.inj q).symm
  exact I.un (t' := s.toks) (h' := s.heap) ⟨fun b u q _ _ _ => q, fun b u q _ _ _ => ⟨u.slots, q⟩, fun b u q n _ => by rw [upd_ne (fun z => by subst z; rw [e] at n; cases n)]; exact n, fun b u q _ => ⟨u, q⟩,
    fun b xs q => by rw [upd_ne (ne q fun _ z => nomatch z)]; exact q, fun b u v q => by rw [upd_ne (ne q fun _ z => nomatch z)]; exact q, fun b ps q => ⟨#[], by rw [upd_ne (ne q fun _ z => nomatch z)]; simpa using q⟩⟩
    fun b u q => by
      by_cases hb : b = a
      · subst hb
        rw [upd_same] at q; cases q
        exact new
      · rw [upd_ne hb] at q
        exact (I.hok b u q).stay (fun _ _ _ z => z) (fun c z => by rw [upd_ne (ne z fun _ z => nomatch z)]; exact z) fun c xs z => by rw [upd_ne (ne z fun _ z => nomatch z)]; exact z
theorem exh_ok {P : Program} {w : World} {H : Hp} {h : Heap} {a C d : Addr} {oe : Obj} {vs : Array Value} (he : h.get? a = some oe) (hz : Zc (.ref C) (some d) oe) (hd : oe.data = .fields vs) : ObjOk P w H h a (exh a C d) :=
  ⟨⟨oe, vs, he, hz, hd⟩, ⟨_, he⟩, fun h1 h2 z k => by
    obtain ⟨o1, v1, e1, z1, d1⟩ := z
    exact ⟨o1, v1, k _ e1, z1, d1⟩⟩
theorem exh_at {P : Program} {w : World} {H : Hp} {h : Heap} {a C d : Addr} (hok : HOk P w H h) (e : H a = some (exh a C d)) : ∃ (oe : Obj) (vs : Array Value), h.get? a = some oe ∧ Zc (.ref C) (some d) oe ∧ oe.data = .fields vs := by
  have x : ObjOk P w H h a (.ext fun h => ∃ (oe : Obj) (vs : Array Value), h.get? a = some oe ∧ Zc (.ref C) (some d) oe ∧ oe.data = .fields vs) := hok a _ e
  exact x.1
theorem exq_ok {P : Program} {w : World} {H : Hp} {h : Heap} {a C : Addr} {oe : Obj} {vs : Array Value} (he : h.get? a = some oe) (hz : Zc (.ref C) none oe) (hd : oe.data = .fields vs) : ObjOk P w H h a (exq a C) :=
  ⟨⟨oe, vs, he, hz, hd⟩, ⟨_, he⟩, fun h1 h2 z k => by
    obtain ⟨o1, v1, e1, z1, d1⟩ := z
    exact ⟨o1, v1, k _ e1, z1, d1⟩⟩
theorem exq_at {P : Program} {w : World} {H : Hp} {h : Heap} {a C : Addr} (hok : HOk P w H h) (e : H a = some (exq a C)) : ∃ (oe : Obj) (vs : Array Value), h.get? a = some oe ∧ Zc (.ref C) none oe ∧ oe.data = .fields vs := by
  have x : ObjOk P w H h a (.ext fun h => ∃ (oe : Obj) (vs : Array Value), h.get? a = some oe ∧ Zc (.ref C) none oe ∧ oe.data = .fields vs) := hok a _ e
  exact x.1
/-- the maker's promise, read from outside -/
def mkP (sp : Sp) (C : Addr) (Q : VK) (H : Hp) (vs : List V) : Prop :=
  ∀ a, H a = none → sp (.ref a :: vs) (upd H a (exo a C none)) (fun v H2 => v = .non ∧ ∃ d fs, H2 a = some (exo a C (some d)) ∧ H2 d = some (exd d fs) ∧ d ≠ a ∧ Q (.ref a) (upd (upd H2 a (exh a C d)) d (.xd fs))) (fun _ _ _ => False)
section
variable {X : Cx} {W : WX} {x : Str} {C fI : Addr} {fd : FuncData} {ps : List Str} {k : Nat} {sp : Sp}
theorem run_exc {pins : List (Addr × Obj)} {σ : L2.St} {H : Hp} {s : Shared} {Q : VK} {us ws : List Value} {kw : List (Str × Value)} {vs : List V} (T : OexC X.K C) (iC : PySem.W.findIn X.K (.ref C) "__init__" = some (some (.ref fI))) (tI : PySem.W.typeIn X.K (.ref fI) = some (.type "function"))
    (Fb : FnB X.prog X.w X.K X.mg X.base k fI fd ps sp) (hr : Rm (k + 1) X.A) (I : Inv X pins σ H s) (r : Vals vs us) (hl : us.length + 1 = ps.length) (hw : ws.length ≤ 1000)
    (hb : ∀ (s : Shared) (u : Value), X.K.In s.heap → BindsTo s fd ⟨u :: ws, kw⟩ (ps.zip (u :: us))) (q : mkP sp C Q H vs) : wpAny (model X.prog X.w) X.A (call (.ref C) ws kw) (EP X pins σ Q) X.xe s := by
  obtain ⟨nm, qn, N, bs, bm, sn, sub, ab, col, dd, k0, k1, k2, k3, k5, hC, hbm⟩ := T.cls
  obtain ⟨hp, g, dr, tk, os⟩ := s
  have hsz : hp.objs.size ≤ hp.objs.size + 1 := Nat.le_succ _
  have hn : H (hp.objs.size + 1) = none := I.hok.fresh hsz
  have hq := q (hp.objs.size + 1) hn
  have kk : ∀ b o, hp.get? b = some o → ((hp.push (PySem.W.kdv_tup ws)).push (PySem.HandSPX.excO C hp.objs.size)).get? b = some o := fun b o e => Heap.get?_push_of_some _ (Heap.get?_push_of_some _ e)
  have hget : ((hp.push (PySem.W.kdv_tup ws)).push (PySem.HandSPX.excO C hp.objs.size)).get? (hp.objs.size + 1) = some (PySem.HandSPX.excO C hp.objs.size) := by heap_get
  have I2 : Inv X pins σ (upd H (hp.objs.size + 1) (exo (hp.objs.size + 1) C none)) ⟨(hp.push (PySem.W.kdv_tup ws)).push (PySem.HandSPX.excO C hp.objs.size), g, dr, tk, os⟩ :=
    I.laid (t' := tk) (a := hp.objs.size + 1) (o := exo (hp.objs.size + 1) C none) (h' := (hp.push (PySem.W.kdv_tup ws)).push (PySem.HandSPX.excO C hp.objs.size)) kk hsz (exo_ok hget)
  have r2 : Vals (V.ref (hp.objs.size + 1) :: vs) (Value.ref (hp.objs.size + 1) :: us) := .cons rfl r
  have hus : ws.length ≤ sizeLine := by
    rw [sizeLine_eq]
    omega
  refine wpAny_call (PySem.HandSPX.fv_call F.excBase_ValueError (fun Y => PySem.HandSPX.refsVE_contains Y bm hbm) (I.kIn _ _ hC) (PySem.W.looks_findIn I.kIn iC) (fun self => PySem.W.bind_fn I.kIn self tI) hus
    (codeAny_mono (Fb _ X.stack _ _ ⟨Value.ref (hp.objs.size + 1) :: ws, kw⟩ (Value.ref (hp.objs.size + 1) :: us) _ _ (fun _ _ _ => False) ⟨hr.r.make C ws kw, hr.g⟩ (I2.env0.make C ws kw) (hb _ _ I2.kIn) (by simpa using hl) r2 hq) fun r s' hq' => ?_))
  cases r with
  | error er =>
    obtain ⟨_, _, _, _, _, _, _, _, _, _, _, _, hE⟩ := hq'
    exact hE.elim
  | ok fl =>
    cases fl with
    | ret u =>
      obtain ⟨v, H2, os2, bare2, un2, hok2, rv, ev, d, fs, ea, ed, hda, q2⟩ := hq'
      subst ev
      have J : Inv X pins σ H2 s' := I2.call' (ch := []) os2 un2 hok2 bare2 (fun b z => absurd z (by simp))
      obtain ⟨t0, hoe⟩ := exo_at J.hok ea
      have J1 := retag (o := exh (hp.objs.size + 1) C d) J ea (exh_ok hoe ⟨rfl, rfl⟩ rfl)
      obtain ⟨mA, hns, rel⟩ := exd_at J.hok ed
      have J2 := retag (a := d) (o := .xd fs) J1 (show upd H2 (hp.objs.size + 1) (exh (hp.objs.size + 1) C d) d = some (exd d fs) by rw [upd_ne hda]; exact ed) ⟨mA, hns, rel⟩
      exact ⟨rv, V.ref (hp.objs.size + 1), _, J2, rfl, q2⟩
    | next => exact False.elim hq'
    | brk => exact False.elim hq'
    | cont => exact False.elim hq'
end
end Fv

namespace Fv
open PySem PySem.Spec PyProof.Rows L2
/-! ### exceptions: made -/
/-- what the written part says of the classes whose makers are walked -/
def ExcK (K : PySem.W.Frag) (mg : Str → Option Value) (cs : List Tx) (f : Str) : Prop := ∀ c ∈ cs, ∀ C, mg c = some (.ref C) → OexC K C ∧ PySem.W.findIn K (.ref C) f = some none
/-- the builtin maker, by an own class's name -/
def vinitE (cs : List Tx) (ms : As) : E := fun ρ s => (ms ρ s).bind fun ds s => match ds with
  | .ref a :: r => match s[a]? with
    | some (.exc c none) => if c ∈ cs ∧ r.length ≤ 1000 then .ok .non s else .bad
    | _ => .bad
  | _ => .bad
section
variable {X : Cx} {W : WX} {Fr : Addr → Prop} {o e : Expr} {es : List Expr} {to te : TE} {ta : TA} {ms : As} {f : Str} {cs : List Tx} {p p' p1 p2 pos : Pos}
theorem pe_binit {pl : Sem Bool} {y : Str} {C0 : Addr} (hm : X.mg y = some (.ref C0)) (hs : PySem.W.specialIn X.K (.ref C0) "__getattribute__" = some (some (.builtin "type.__getattribute__"))) (hr : PySem.W.readsIn X.K C0 (.type "type") = true)
    (vV : PySem.W.findCls X.K (.ref C0) (.type "type") "__init__" = some (.val (.builtin "ValueError.__init__"))) (ha : PA X (e :: es) ta) (hg : Gl X y := by rfl) (hdb : (y == ("__debug__" : Str)) = false := by decide)
    (hc : eval (.Call (.Attribute (.Name y p1) "__init__" p2) (e :: es) [] pos) X.env = (do
      let ov ← eval (.Name y p1) X.env
      standAt p2.atName
      let (f, first) ← holding [ov] (getMethod ov "__init__" pl)
      callWith pos f first (backTo pos (starEach (e :: es) X.env)) (backToKw pos (keywordEach [] X.env))) := by rfl)
    (he : starEach (e :: es) X.env = (false, eval e X.env) :: starEach es X.env := by rfl) (hpl : (backTo pos (starEach es X.env)).any (·.1) = false := by rfl) :
    PE X (.Call (.Attribute (.Name y p1) "__init__" p2) (e :: es) [] pos) (tVeI X.K ta) := by
  refine ⟨fun pins s σ H Q I h => ?_⟩
  refine PySem.W.methodCall_KW (ld_glob I hg hm ?_ hdb) hc
  refine PySem.W.method_cls I.kIn hs (PySem.W.cls_value I.kIn hr vV (by decide +kernel) ?_)
  show wpAny _ _ (callWith pos (Value.builtin "ValueError.__init__") [] (backTo pos (starEach (e :: es) X.env)) []) _ _ _
  refine PyProof.Rows.callWith_method1 (thn (ha.run pos pins _ σ H _ (I.tok _) h) fun us s1 ⟨vs, H1, I1, r1, a, C, ws, ev, hl, T, ea, q⟩ => ?_) he hpl
  subst ev
  cases r1 with
  | @cons _ u0 _ ur ra rw' =>
    obtain rfl : u0 = Value.ref a := ra
    have hlen : ur.length ≤ sizeLine := by
      rw [← Paired.length rw', sizeLine_eq]
      omega
    exact oinit_ok T I1 ea hlen fun s' J => ⟨.non, H1, J, rfl, q⟩
theorem q_vinit {pl : Sem Bool} {y : Str} {C0 : Addr} (hk : ∀ c ∈ cs, ∀ C, X.mg c = some (.ref C) → OexC X.K C) (hm : X.mg y = some (.ref C0)) (hs : PySem.W.specialIn X.K (.ref C0) "__getattribute__" = some (some (.builtin "type.__getattribute__"))) (hr : PySem.W.readsIn X.K C0 (.type "type") = true)
    (vV : PySem.W.findCls X.K (.ref C0) (.type "type") "__init__" = some (.val (.builtin "ValueError.__init__"))) (ha : PA X (e :: es) (liftA (wd X) W ms)) (hg : Gl X y := by rfl) (hdb : (y == ("__debug__" : Str)) = false := by decide)
    (hc : eval (.Call (.Attribute (.Name y p1) "__init__" p2) (e :: es) [] pos) X.env = (do
      let ov ← eval (.Name y p1) X.env
      standAt p2.atName
      let (f, first) ← holding [ov] (getMethod ov "__init__" pl)
      callWith pos f first (backTo pos (starEach (e :: es) X.env)) (backToKw pos (keywordEach [] X.env))) := by rfl)
    (he : starEach (e :: es) X.env = (false, eval e X.env) :: starEach es X.env := by rfl) (hpl : (backTo pos (starEach es X.env)).any (·.1) = false := by rfl) :
    PE X (.Call (.Attribute (.Name y p1) "__init__" p2) (e :: es) [] pos) (liftE (wd X) W (vinitE cs ms)) :=
  pe_imp (pe_binit hm hs hr vV ha hg hdb hc he hpl) fun σ H Q ⟨F0, μ, ρ, s, he, hst, h⟩ => ⟨F0, μ, ρ, s, he, hst, runs_bind (Rel1 := RVs (wd X)) h fun ds s1 μ1 H1 vs e1 x1 hs1 r1 h1 => by
    split at h1
    · rename_i a r
      split at h1
      · rename_i c ei
        split at h1
        · rename_i hz
          simp only [RVs] at r1
          obtain ⟨x, ws, rfl, rx, rw'⟩ := r1
          simp only [RV] at rx
          obtain ⟨q, eq, rfl⟩ := rx
          have ro := hs1.at_ _ _ _ ei eq
          obtain ⟨C, mC, ⟨_, ea⟩ | ⟨_, _, z, _⟩⟩ := ro
          · exact ⟨q, C, ws, rfl, by rw [← rw'.length]; exact hz.2, hk c hz.1 C mC, ea, runs_pure h1 hs1 (by simp only [RV])⟩
          · cases z
        · exact h1.elim
      · exact h1.elim
    · exact h1.elim⟩
/-- e.f = v, e an exception that is being made -/
def ostS (cs : List Tx) (f : Tx) (mo me : E) : C := fun ρ s => (me ρ s).stm ρ fun d s => (mo ρ s).stm ρ fun o s => match o with
  | .ref a => match s[a]? with
    | some (.exc c none) => if c ∈ cs then .nx ρ (List.set (s ++ [D.xn [f] [d]]) a (D.exc c (some s.length))) else .bad
    | some (.exc c (some j)) => if c ∈ cs then match s[j]? with
      | some (.xn ns vs) => if ns.length ≤ 900 then .nx ρ (s.set j (.xn (f :: ns) (d :: vs))) else .bad
      | _ => .bad
      else .bad
    | _ => .bad
  | _ => .bad
theorem qs_ost {mo me : E} (hk : ExcK X.K X.mg cs f) (ho : PE X o (liftE (wd X) W mo)) (he : PE X e (liftE (wd X) W me)) (hw : swapsWith e (some (.Attribute o f p')) pos.line X.env = pure false := by rfl) :
    QS X W Fr (.Assign [.Attribute o f p'] e pos) (ostS cs f mo me) :=
  ps_imp (ps_ost ho he hw) fun De σ H ⟨μ, ρ, s, hf, hρ, hst, h⟩ => ⟨Fr, μ, ρ, s, hρ, hst, runs_stm (Rel1 := RV (wd X)) hρ h fun d s1 μ1 H1 y e1 x1 hs1 r1 h1 =>
    ⟨Fr, μ1, ρ, s1, hρ.mono x1, hs1, runs_stm (Rel1 := RV (wd X)) (hρ.mono x1) h1 fun oD s2 μ2 H2 x e2 x2 hs2 r2 h2 => by
      split at h2
      · rename_i a
        simp only [RV] at r2
        obtain ⟨q, eq, rfl⟩ := r2
        split at h2
        · rename_i c ei
          split at h2
          · rename_i hc
            obtain ⟨C, mC, ⟨_, ea⟩ | ⟨_, _, z, _⟩⟩ := hs2.at_ _ _ _ ei eq
            · obtain ⟨T, hno⟩ := hk c hc C mC
              refine ⟨q, C, rfl, T, hno, .inl ⟨ea, fun dx hd hne => ?_⟩⟩
              have xa : Ex Fn0 μ2 H2 μ2 (upd H2 dx (exd dx [(f, y)])) := ex_new hd
              have sa : Rs (wd X) μ2 (upd H2 dx (exd dx [(f, y)])) s2 := hs2.new hd
              have nz : ¬ μ2.z dx := hs2.nz hd
              have nm : dx ∉ μ2.m := hs2.nmem hd
              obtain ⟨hs3, _⟩ := sa.adopt (o := .xn [f] [d]) nm nz ⟨[y], upd_same, rfl, .one ((r1.mono x2).mono xa)⟩
              have xp : Ex Fn0 μ2 H2 (μ2.push dx nz) (upd H2 dx (exd dx [(f, y)])) := ⟨⟨[dx], rfl, fun q hq => by simp at hq; subst hq; exact hd⟩, xa.trk, xa.tup, xa.frz, xa.oth, xa.zs, xa.zn⟩
              have ea' : upd H2 dx (exd dx [(f, y)]) q = some (exo q C none) := by rw [upd_ne (fun z => hne z.symm)]; exact ea
              have hlt : a < μ2.m.length := (List.getElem?_eq_some_iff.mp eq).1
              have eq' : (μ2.push dx nz).m[a]? = some q := by
                show (μ2.m ++ [dx])[a]? = some q
                rw [List.getElem?_append_left hlt]; exact eq
              have xb : Ex Fn0 (μ2.push dx nz) (upd H2 dx (exd dx [(f, y)])) (μ2.push dx nz) (upd (upd H2 dx (exd dx [(f, y)])) q (exo q C (some dx))) := ex_put (List.mem_of_getElem? eq') ea' (fun _ => exo_tup) fun _ _ => exo_frz
              have hs4 := hs3.put (i := a) (o := .exc c (some s2.length)) eq' ea' (fun _ => exo_tup) (fun _ _ => exo_frz) (ho := exo q C (some dx))
                ⟨C, mC, .inr ⟨s2.length, dx, rfl, by show (μ2.m ++ [dx])[s2.length]? = some dx; rw [← hs2.len]; simp, upd_same⟩⟩
              exact h2 _ _ _ (xp.trans xb).s hs4 ((hρ.mono x1).mono x2 |>.mono (xp.trans xb))
            · cases z
          · exact h2.elim
        · rename_i c j ei
          split at h2
          · rename_i hc
            split at h2
            · rename_i ns vs ej
              split at h2
              · rename_i hl
                obtain ⟨C, mC, ⟨z, _⟩ | ⟨j', dx, z, edx, ea⟩⟩ := hs2.at_ _ _ _ ei eq
                · cases z
                · cases z
                  obtain ⟨T, hno⟩ := hk c hc C mC
                  obtain ⟨gs, ed, ll, rf⟩ := hs2.at_ _ _ _ ej edx
                  refine ⟨q, C, rfl, T, hno, .inr ⟨dx, ns.zip gs, ea, ed, by rw [List.length_zip]; omega, ?_⟩⟩
                  have xb : Ex Fn0 μ2 H2 μ2 (upd H2 dx (exd dx ((f, y) :: ns.zip gs))) := ex_put (List.mem_of_getElem? edx) ed (fun _ => exd_tup) fun _ _ => exd_frz
                  have hs4 := hs2.put (i := j) (o := .xn (f :: ns) (d :: vs)) edx ed (fun _ => exd_tup) (fun _ _ => exd_frz) (ho := exd dx ((f, y) :: ns.zip gs)) ⟨y :: gs, upd_same, by simp [ll], y, gs, rfl, (r1.mono x2).mono xb, RVs.mono xb rf⟩
                  exact h2 _ _ _ xb.s hs4 ((hρ.mono x1).mono x2 |>.mono xb)
              · exact h2.elim
            · exact h2.elim
          · exact h2.elim
        · exact h2.elim
      · exact h2.elim⟩⟩
end
open Classical in
/-- C(..) as a value, by what __init__ does -/
noncomputable def excF (c : Tx) (f : Fn) : Fn := fun ds s1 => if ds.length ≤ 1000 then match f (.ref s1.length :: ds) (s1 ++ [.exc c none]) with
  | .ok .non s2 => match s2[s1.length + 1]? with
    | some (.xn ns vs) => if s2 = s1 ++ [.exc c (some (s1.length + 1)), .xn ns vs] ∧ D.inBs s1.length vs = true then .ok (.exh c ns vs) s1 else .bad
    | _ => .bad
  | _ => .bad
  else .bad
theorem excF_ok {c : Tx} {f : Fn} {ds : List D} {s1 : S} {ns : List Tx} {vs : List D} (hl : ds.length ≤ 1000) (h : f (.ref s1.length :: ds) (s1 ++ [.exc c none]) = .ok .non (s1 ++ [.exc c (some (s1.length + 1)), .xn ns vs])) (hb : D.inBs s1.length vs = true) : excF c f ds s1 = .ok (.exh c ns vs) s1 := by
  have e : (s1 ++ [D.exc c (some (s1.length + 1)), D.xn ns vs])[s1.length + 1]? = some (D.xn ns vs) := by
    rw [List.getElem?_append_right (by omega)]; simp
  unfold excF
  rw [if_pos hl, h]
  simp only [e, hb, and_self, if_true]
/-- the new exception leaves the store, and stays as it is -/
theorem exc_end {g : Wd} {μ1 μ2 : M} {H1 H2 : Hp} {s1 : S} {a d C : Addr} {c : Tx} {ns : List Tx} {vs : List D} {gs : List V} {hz : ¬ μ1.z a} (hs1 : Rs g μ1 H1 s1) (ha : H1 a = none) (mC : g.mg c = some (.ref C))
    (x : Ex Fn0 (μ1.push a hz) (upd H1 a (exo a C none)) μ2 H2) (hs2 : Rs g μ2 H2 (s1 ++ [.exc c (some (s1.length + 1)), .xn ns vs])) (hm : μ2.m = μ1.m ++ [a, d]) (ea : H2 a = some (exo a C (some d))) (ed : H2 d = some (exd d (ns.zip gs))) (hda : d ≠ a) (hd : H1 d = none)
    (ll : ns.length = gs.length) (rf : RVs g μ2 H2 vs gs) (hb : D.inBs s1.length vs = true) :
    ∃ μ3, Ex Fn0 μ1 H1 μ3 (upd (upd H2 a (exh a C d)) d (.xd (ns.zip gs))) ∧ Rs g μ3 (upd (upd H2 a (exh a C d)) d (.xd (ns.zip gs))) s1 ∧ RV g μ3 (upd (upd H2 a (exh a C d)) d (.xd (ns.zip gs))) (.exh c ns vs) (.ref a) := by
  have na : a ∉ μ1.m := hs1.nmem ha
  have nd : d ∉ μ1.m := hs1.nmem hd
  let μ3 : M := ⟨μ1.m, fun q => μ2.z q ∨ q = a ∨ q = d, fun q hq h => by
    rcases hq with hq | hq | hq
    · exact μ2.zm q hq (by rw [hm]; exact List.mem_append_left _ h)
    · exact na (hq ▸ h)
    · exact nd (hq ▸ h)⟩
  have at_ : ∀ {q : Addr}, q ≠ a → q ≠ d → upd (upd H2 a (exh a C d)) d (.xd (ns.zip gs)) q = H2 q := fun {q} h1 h2 => by rw [upd_ne h2, upd_ne h1]
  have ax : upd (upd H2 a (exh a C d)) d (.xd (ns.zip gs)) a = some (exh a C d) := by rw [upd_ne (Ne.symm hda), upd_same]
  have hT : ∀ q ys, H2 q = some (.tup ys) → upd (upd H2 a (exh a C d)) d (.xd (ns.zip gs)) q = some (.tup ys) := fun q ys h => by
    rw [at_ (at_ne ea h exo_tup) (at_ne ed h exd_tup)]; exact h
  have hF : ∀ q o u, H2 q = some (.frz o u) → upd (upd H2 a (exh a C d)) d (.xd (ns.zip gs)) q = some (.frz o u) := fun q o u h => by
    rw [at_ (at_ne ea h exo_frz) (at_ne ed h exd_frz)]; exact h
  have zn : ∀ {q}, μ2.z q → q ≠ a ∧ q ≠ d := fun {q} h => ⟨fun z => μ2.zm q h (by rw [hm, z]; simp), fun z => μ2.zm q h (by rw [hm, z]; simp)⟩
  have hZ : ∀ q u, μ2.z q → H2 q = some u → upd (upd H2 a (exh a C d)) d (.xd (ns.zip gs)) q = some u := fun q u h e => by
    rw [at_ (zn h).1 (zn h).2]; exact e
  have lm : μ3.m.length = s1.length := hs1.len
  refine ⟨μ3, ⟨⟨[], by simp [μ3], by simp⟩, fun q h => ?_, fun q ys h => ?_, fun q o u h => ?_, fun q u h n _ => ?_, fun q h => .inl (x.zs q h), fun q h => ?_⟩, ⟨hs1.len, hs1.nd, fun q h => ?_, fun i o q ei eq => ?_⟩, ?_⟩
  · by_cases q1 : q = a
    · rw [q1, ax] at h; cases h
    · by_cases q2 : q = d
      · rw [q2, upd_same] at h; cases h
      · rw [at_ q1 q2] at h
        have z := x.trk q h
        rwa [upd_ne q1] at z
  · exact hT q ys (x.tup q ys (by rw [upd_ne (ne_of_none h ha)]; exact h))
  · exact hF q o u (x.frz q o u (by rw [upd_ne (ne_of_none h ha)]; exact h))
  · have q1 : q ≠ a := ne_of_none h ha
    have q2 : q ≠ d := ne_of_none h hd
    rw [at_ q1 q2]
    refine x.oth q u (by rw [upd_ne q1]; exact h) ?_ (.inr id)
    intro hq
    rcases List.mem_append.mp hq with hq | hq
    · exact n hq
    · simp at hq; exact q1 hq
  · rcases h with h | h | h
    · rcases x.zn q h with h | h | h
      · exact .inl h
      · exact h.elim
      · exact .inr (.inr (upd_trk q h))
    · exact .inr (.inr (h ▸ ha))
    · exact .inr (.inr (h ▸ hd))
  · rcases h with h | h | h
    · obtain ⟨u, e⟩ := hs2.zt q h
      exact ⟨u, hZ q u h e⟩
    · exact ⟨_, by rw [h]; exact ax⟩
    · exact ⟨_, by rw [h]; exact upd_same⟩
  · have hi : i < s1.length := (List.getElem?_eq_some_iff.mp ei).1
    obtain ⟨q', e', c'⟩ := hs1.adr ei
    have hb' : D.inC μ3.m.length o = true := c'.inC
    have hq : q ∈ μ1.m := List.mem_of_getElem? eq
    have q1 : q ≠ a := fun z => na (z ▸ hq)
    have q2 : q ≠ d := fun z => nd (z ▸ hq)
    exact Ce.cut (μ' := μ3) hm (fun _ h => .inl h) hT hF hZ (fun u e => by rw [at_ q1 q2]; exact e) hb' (hs2.at_ i o q (by rw [List.getElem?_append_left hi]; exact ei) (by rw [hm, List.getElem?_append_left (by rw [hs1.len]; exact hi)]; exact eq))
  · simp only [RV]
    exact ⟨a, C, d, gs, rfl, .inr (.inl rfl), .inr (.inr rfl), mC, ax, upd_same, ll, RVs.cut (μ' := μ3) hm (fun _ h => .inl h) hT hF hZ (by rw [lm]; exact hb) rf⟩
theorem exc_sound {g : Wd} {W : WX} {σ : L2.St} {μ1 : M} {H1 : Hp} {s1 : S} {C : Addr} {c : Tx} {f : Fn} {ds : List D} {vs : List V} {Q : VK} (mC : g.mg c = some (.ref C)) (hs1 : Rs g μ1 H1 s1) (r1 : RVs g μ1 H1 ds vs) (h : runs g W σ μ1 H1 (RV g) Q (excF c f ds s1)) :
    ds.length ≤ 1000 ∧ mkP (spF g f) C Q H1 vs := by
  unfold excF at h
  split at h
  · rename_i hl
    refine ⟨hl, fun a ha => ?_⟩
    have nz : ¬ μ1.z a := hs1.nz ha
    have nm : a ∉ μ1.m := hs1.nmem ha
    have xa : Ex Fn0 μ1 H1 μ1 (upd H1 a (exo a C none)) := ex_new ha
    have sa : Rs g μ1 (upd H1 a (exo a C none)) s1 := hs1.new ha
    obtain ⟨hs2, rr⟩ := sa.adopt (o := .exc c none) nm nz ⟨C, mC, .inl ⟨rfl, upd_same⟩⟩
    have xp : Ex Fn0 μ1 H1 (μ1.push a nz) (upd H1 a (exo a C none)) := ⟨⟨[a], rfl, fun q hq => by simp at hq; subst hq; exact ha⟩, xa.trk, xa.tup, xa.frz, xa.oth, xa.zs, xa.zn⟩
    refine ⟨μ1.push a nz, .ref s1.length :: ds, s1 ++ [.exc c none], ⟨.ref a, vs, rfl, rr, r1.mono xp⟩, hs2, ?_⟩
    cases qf : f (.ref s1.length :: ds) (s1 ++ [.exc c none]) with
    | bad => rw [qf] at h; exact h.elim
    | err c' ns' vs' s2 => rw [qf] at h; exact h.elim
    | ok v s2 =>
      rw [qf] at h
      cases v with
      | non =>
        simp only at h
        split at h
        · rename_i ns ws eo
          split at h
          · rename_i hc
            intro μ2 H2 b x2 hs3 rb
            simp only [RV] at rb
            refine ⟨rb, ?_⟩
            rw [hc.1] at hs3
            obtain ⟨ν, eν, hν⟩ := x2.pre
            have hlen := hs3.len
            have l1 : μ1.m.length = s1.length := hs1.len
            have ν1 : ν.length = 1 := by
              rw [eν] at hlen
              simp only [M.push, List.length_append, List.length_cons, List.length_nil] at hlen
              omega
            obtain ⟨d, rfl⟩ : ∃ d, ν = [d] := by
              match ν, ν1 with
              | [d], _ => exact ⟨d, rfl⟩
            have hm : μ2.m = μ1.m ++ [a, d] := by rw [eν]; simp [M.push]
            have ia : μ2.m[s1.length]? = some a := by rw [hm, ← l1]; simp
            have id' : μ2.m[s1.length + 1]? = some d := by rw [hm, ← l1]; simp
            obtain ⟨C', mC', ⟨z, _⟩ | ⟨j, dx, z, ej, ea⟩⟩ := hs3.at_ s1.length (.exc c (some (s1.length + 1))) a (by simp) ia
            · cases z
            · cases z
              rw [mC] at mC'; cases mC'
              rw [id'] at ej; cases ej
              obtain ⟨gs, ed, ll, rf⟩ := hs3.at_ (s1.length + 1) (.xn ns ws) d (by simp) id'
              have hda : d ≠ a := fun z => by
                have nd := hs3.nd
                rw [hm, z, List.nodup_append] at nd
                simp at nd
              have hd1 : H1 d = none := by
                have z := hν d (by simp)
                rwa [upd_ne hda] at z
              obtain ⟨μ3, x3, hs4, rv⟩ := exc_end (hz := nz) hs1 ha mC x2 hs3 hm ea ed hda hd1 ll rf hc.2
              exact ⟨d, ns.zip gs, ea, ed, hda, h μ3 _ _ x3 hs4 rv⟩
          · exact h.elim
        · exact h.elim
      | _ => exact h.elim
  · exact h.elim
end Fv

namespace Fv
open PySem PySem.Spec PyProof.Rows L2
/-! ### exceptions: called by place and by name -/
/-- the own exception class named c, whose maker is f of n values -/
structure ExOk (P : Program) (w : World) (K : PySem.W.Frag) (mg : Str → Option Value) (base : Heap) (k : Nat) (c : Str) (f : Fn) (qs : List Str) : Prop where
  ex : ∃ (C fI : Addr) (fd : FuncData), mg c = some (.ref C) ∧ OexC K C ∧ PySem.W.findIn K (.ref C) "__init__" = some (some (.ref fI)) ∧ PySem.W.typeIn K (.ref fI) = some (.type "function") ∧ FnB P w K mg base k fI fd (("self" : Str) :: qs) (spF ⟨K, mg, P, w⟩ f) ∧ Binds K fd (("self" : Str) :: qs) [] ∧
    (∀ (s : Shared) (u : Value) (ws : List Value), ws.length = qs.length → BindsTo s fd ⟨[u], qs.zip ws⟩ ((("self" : Str) :: qs).zip (u :: ws))) ∧
    ∀ (s : Shared) (u : Value) (ws : List Value), ws.length = qs.length → BindsTo s fd ⟨[u], qs.reverse.zip ws⟩ ((("self" : Str) :: qs).zip (u :: ws.reverse))
theorem ExOk.mono {P : Program} {w : World} {K : PySem.W.Frag} {mg : Str → Option Value} {base : Heap} {j k : Nat} {c : Str} {f : Fn} {qs : List Str} (d : ExOk P w K mg base j c f qs) (h : j ≤ k) : ExOk P w K mg base k c f qs := by
  obtain ⟨C, fI, fd, a, b, c1, d1, F, r⟩ := d.ex
  exact ⟨C, fI, fd, a, b, c1, d1, fun A outer s H args us vs Q E hr => F A outer s H args us vs Q E (hr.mono h), r⟩
/-- what is told by name, in the order of the parameters -/
def turnA (rv : Bool) (a : As) : As := fun ρ s => (a ρ s).bind fun ds s => .ok (if rv then ds.reverse else ds) s
theorem RVs.rev {g : Wd} {μ : M} {H : Hp} : ∀ {ds : List D} {vs : List V}, RVs g μ H ds vs → RVs g μ H ds.reverse vs.reverse
  | [], _, h => by simp only [RVs] at h; subst h; simp [RVs]
  | d :: ds, vs, h => by
    simp only [RVs] at h
    obtain ⟨y, r, rfl, a, b⟩ := h
    simp only [List.reverse_cons]
    exact (RVs.rev b).append (.one a)
theorem vals_rev : ∀ {vs : List V} {us : List Value}, Vals vs us → Vals vs.reverse us.reverse
  | _, _, .nil => .nil
  | _, _, .cons r t => by
    simp only [List.reverse_cons]
    exact (vals_rev t).append (.cons r .nil)
section
variable {X : Cx} {W : WX} {k : Nat} {x : Str} {f : Fn} {qs : List Str} {p pos kpos : Pos} {e : Expr} {es : List Expr} {ms : As} {kws : List Keyword} {me : E} {nm : Option Str}
abbrev ExX (X : Cx) (k : Nat) (x : Str) (f : Fn) (qs : List Str) : Prop := ExOk X.prog X.w X.K X.mg X.base k x f qs
theorem qk_nil : PK X [] (liftA (wd X) W nilA) := ⟨fun pos pins s σ H Q I h => (pk_nil (X := X)).run pos pins s σ H Q I (by
  obtain ⟨Fr, μ, ρ, s, he, hs, h⟩ := h
  exact runs_pure (show runs (wd X) W σ μ H (RVs (wd X)) Q (.ok [] s) from h) hs (by simp only [RVs]))⟩
theorem qk_cons (ha : PE X e (liftE (wd X) W me)) (hr : PK X kws (liftA (wd X) W ms)) : PK X (⟨nm, e, kpos⟩ :: kws) (liftA (wd X) W (consA me ms)) :=
  ⟨fun pos pins s σ H Q I h => (pk_cons (nm := nm) (kpos := kpos) ha hr).run pos pins s σ H Q I (by
    obtain ⟨Fr, μ, ρ, s, he, hs, h⟩ := h
    exact ⟨Fr, μ, ρ, s, he, hs, runs_bind (Rel1 := RV (wd X)) h fun d s1 μ1 H1 x e1 x1 hs1 r1 h1 =>
      ⟨Fr, μ1, ρ, s1, he.mono x1, hs1, runs_bind (Rel1 := RVs (wd X)) h1 fun ds s2 μ2 H2 xs e2 x2 hs2 r2 h2 => runs_pure h2 hs2 (by simp only [RVs]; exact ⟨x, xs, rfl, r1.mono x2, r2⟩)⟩⟩)⟩
theorem excF_len {c : Tx} {f : Fn} {ds : List D} {s : S} (h : excF c f ds s ≠ .bad) : ∃ s', f (.ref s.length :: ds) s' ≠ .bad := by
  refine ⟨s ++ [.exc c none], fun z => h ?_⟩
  unfold excF
  rw [z]
  split <;> rfl
theorem q_exc (d : ExX X k x f qs) (hr : Rm (k + 1) X.A) (hlen : ∀ ds s, f ds s ≠ .bad → ds.length = qs.length + 1) (ha : PA X (e :: es) (liftA (wd X) W ms)) (hg : Gl X x := by rfl) (hdb : (x == ("__debug__" : Str)) = false := by decide)
    (he : starEach (e :: es) X.env = (false, eval e X.env) :: starEach es X.env := by rfl) (hpl : (backTo pos (starEach es X.env)).any (·.1) = false := by rfl) : PE X (.Call (.Name x p) (e :: es) [] pos) (liftE (wd X) W (callE (excF x f) ms)) := by
  obtain ⟨C, fI, fd, hm, T, iC, tI, F, b, _⟩ := d.ex
  refine ⟨fun pins sh σ H Q I ⟨F0, μ, ρ, s, hρ, hs, h⟩ => ?_⟩
  refine wpAny_Call_Name_kw (ld_glob I hg hm ?_ hdb)
  have hq : liftA (wd X) W ms σ H fun vs H1 => vs.length = qs.length ∧ vs.length ≤ 1000 ∧ mkP (spF (wd X) f) C Q H1 vs :=
    ⟨F0, μ, ρ, s, hρ, hs, runs_bind (Rel1 := RVs (wd X)) h fun ds s1 μ1 H1 vs e1 x1 hs1 r1 h1 => by
      obtain ⟨s', hb⟩ := excF_len (c := x) (f := f) (ds := ds) (s := s1) (fun z => by rw [z] at h1; exact h1)
      have hl := hlen _ _ hb
      obtain ⟨l, q⟩ := exc_sound (c := x) hm hs1 r1 h1
      exact ⟨by rw [← r1.length]; simpa using hl, by rw [← r1.length]; exact l, q⟩⟩
  exact PySem.W.callWith_K (h₀ := X.base) I.ok.mod.kin T.kC (thn (ha.run pos pins sh σ H _ I hq) fun us s1 ⟨vs, H1, I1, r, l1, l2, q⟩ => ⟨I1.kIn, run_exc (ws := us) T iC tI F hr I1 r (by rw [← r.length, l1]; simp) (by rw [← r.length]; exact l2) (fun s u KX => by
    have z := b s (u :: us) KX (by rw [List.append_nil]; simp [← r.length, l1])
    rw [List.append_nil] at z
    exact z) q⟩) he hpl
theorem q_excK (rv : Bool) (d : ExX X k x f qs) (hr : Rm (k + 1) X.A) (hlen : ∀ ds s, f ds s ≠ .bad → ds.length = qs.length + 1) (ha : PK X kws (liftA (wd X) W ms)) (hks : (backToKw pos (keywordEach kws X.env)).filterMap (·.1) = (if rv then qs.reverse else qs) := by rfl) (hg : Gl X x := by rfl) (hdb : (x == ("__debug__" : Str)) = false := by decide)
    (hall : (backToKw pos (keywordEach kws X.env)).all (·.1.isSome) = true := by rfl) (hpl : ((backTo pos (starEach [] X.env)).any (·.1) || (backToKw pos (keywordEach kws X.env)).any (·.1.isNone)) = false := by rfl) :
    PE X (.Call (.Name x p) [] kws pos) (liftE (wd X) W (callE (excF x f) (turnA rv ms))) := by
  obtain ⟨C, fI, fd, hm, T, iC, tI, F, _, k1, k2⟩ := d.ex
  refine ⟨fun pins sh σ H Q I ⟨F0, μ, ρ, s, hρ, hs, h⟩ => ?_⟩
  refine wpAny_Call_Name_kw (ld_glob I hg hm ?_ hdb)
  have hq : liftA (wd X) W ms σ H fun vs H1 => vs.length = qs.length ∧ mkP (spF (wd X) f) C Q H1 (if rv then vs.reverse else vs) := by
    refine ⟨F0, μ, ρ, s, hρ, hs, ?_⟩
    unfold callE turnA at h
    cases e1 : ms ρ s with
    | bad => rw [e1] at h; exact h.elim
    | err c ns vs s' => rw [e1] at h; exact h
    | ok ds s1 =>
      rw [e1] at h
      intro μ1 H1 vs x1 hs1 r1
      have h1 := runs_mono x1 (show runs (wd X) W σ μ H (RV (wd X)) Q (excF x f (if rv then ds.reverse else ds) s1) from h)
      obtain ⟨s', hb⟩ := excF_len (c := x) (f := f) (s := s1) (fun z => by rw [z] at h1; exact h1)
      have hl := hlen _ _ hb
      have rr : RVs (wd X) μ1 H1 (if rv then ds.reverse else ds) (if rv then vs.reverse else vs) := by
        cases rv
        · exact r1
        · exact r1.rev
      obtain ⟨l, q⟩ := exc_sound (c := x) hm hs1 rr h1
      refine ⟨?_, q⟩
      rw [← r1.length]
      cases rv <;> simpa using hl
  refine PySem.W.callWith_KW0 (h₀ := X.base) I.ok.mod.kin T.kC hall (thn (ha.run pos pins sh σ H _ I hq) fun ws s1 ⟨vs, H1, I1, r, l1, q⟩ => ⟨I1.kIn, ?_⟩) hpl
  rw [hks]
  have lw : ws.length = qs.length := by rw [← r.length]; exact l1
  have rr : Vals (if rv then vs.reverse else vs) (if rv then ws.reverse else ws) := by
    cases rv
    · exact r
    · exact vals_rev r
  refine run_exc (us := if rv then ws.reverse else ws) (ws := []) T iC tI F hr I1 rr (by cases rv <;> simp [lw]) (by simp) (fun s u KX => ?_) q
  cases rv
  · exact k1 s u ws lw
  · exact k2 s u ws lw
end
end Fv

namespace Fv
open PySem PySem.Spec PyProof.Rows L2
/-! ### kinds -/
inductive Kd where | b (n : String) | o (c : Tx)
  deriving DecidableEq
def kdC (oc xc : List Tx) : D → Option Kd
  | .non => some (.b "NoneType") | .bl _ => some (.b "bool") | .int _ => some (.b "int") | .str _ => some (.b "str")
  | .tup _ => some (.b "tuple") | .ktup _ => some (.b "tuple") | .lst _ => some (.b "list") | .fl _ => some (.b "list")
  | .dct _ _ => some (.b "dict") | .dtt _ _ => some (.b "dict") | .set _ => some (.b "set")
  | .obj c _ _ => if oc.contains c then some (.o c) else none
  | .exh c _ _ => if xc.contains c then some (.o c) else none
  | .exq c => if xc.contains c then some (.o c) else none
  | _ => none
def kdOf (oc xc : List Tx) (s : S) : D → Option Kd
  | .ref a => match s[a]? with | some (.lst xs) => some (.b "list") | some (.dct _ _) => some (.b "dict") | some (.dtt _ _) => some (.b "dict") | some (.set _) => some (.b "set") | some (.obj c _ _) => if oc.contains c then some (.o c) else none | _ => none
  | d => kdC oc xc d
def clOf : D → Option Kd
  | .ty n => some (.b n) | .gl y => some (.o y) | _ => none
def clsOf : List D → Option (List Kd)
  | [] => some []
  | d :: r => (clOf d).bind fun k => (clsOf r).map (k :: ·)
/-- what a kind stands for -/
def KdV (mg : Str → Option Value) : Kd → Value → Prop
  | .b n, t => t = .type n
  | .o y, t => ∃ C, mg y = some (.ref C) ∧ t = .ref C
/-- an own class, of objects -/
structure OwnC (K : PySem.W.Frag) (C : Addr) : Prop where
  cl : Cls K C
  ha : PySem.W.findIn K (.ref C) "__class__" = some (some (.builtin "object.__class__"))
  hn : PySem.W.specialIn K (.builtin "object.__class__") "__get__" = some (some (.builtin "getset_descriptor.__get__"))
  ht : PySem.W.takesIn K (.builtin "object.__class__") = some true
  hm : PySem.W.mroIn K C (.type "object") = some true
/-- the classes whose instances may be asked -/
structure KdK (K : PySem.W.Frag) (mg : Str → Option Value) (oc xc : List Tx) : Prop where
  o : ∀ c ∈ oc, ∀ C, mg c = some (.ref C) → OwnC K C
  x : ∀ c ∈ xc, ∀ C, mg c = some (.ref C) → ExcC K C
def HasKit (K : PySem.W.Frag) (h : Heap) (u t : Value) : Prop := ∃ P : Heap → Prop, PySem.W.KitX K u t P ∧ P h ∧ u ≠ .builtin "__main__.__loader__#opaque"
section
variable {X : Cx} {pins : List (Addr × Obj)} {σ : L2.St} {H : Hp} {sh : Shared} {μ : M} {s : S} {d : D} {x : V} {u : Value} {k : Kd} {oc xc : List Tx}
theorem kit_set {p : Addr} {ks : List D} (I : Inv X pins σ H sh) (q : Sk (wd X) H p ks) : HasKit X.K sh.heap (.ref p) (.type "set") := by
  obtain ⟨kk, _, e⟩ := q
  have z : ObjOk X.prog X.w H sh.heap p (.ext fun h => SetRK X.w h p kk) := I.hok p _ e
  obtain ⟨⟨o, es, ep, t, ks', ho, ex, _⟩, _⟩ := z
  exact ⟨_, PySem.W.kitx_set, ⟨o, ho, ex.1⟩, fun z => nomatch z⟩
theorem kit_obj {p : Addr} {c : Tx} {ns : List Tx} {ys : List V} (I : Inv X pins σ H sh) (hk : KdK X.K X.mg oc xc) (hc : oc.contains c = true) (q : Ik (wd X) H p c ns ys) : ∃ t, KdV X.mg (.o c) t ∧ HasKit X.K sh.heap (.ref p) t := by
  obtain ⟨C, dx, mC, e⟩ := q
  refine ⟨.ref C, ⟨C, mC, rfl⟩, ?_⟩
  obtain ⟨mA, O, _⟩ := ins_get I.hok e
  obtain ⟨od, J, _⟩ := O.look
  have T := hk.o c (by simpa using hc) C mC
  exact ⟨_, PySem.W.kitx_own (T.cl.get _) T.cl.hd T.ha T.hn T.ht T.hm, J, fun z => nomatch z⟩
theorem inst_at {h : Heap} {p C : Addr} {od : Option Addr} {oe : Obj} {vs : Array Value} (e : h.get? p = some oe) (hz : Zc (.ref C) od oe) (hv : oe.data = .fields vs) : oe.dict = od ∧ oe.cls = .ref C ∧ h.get? p = some oe ∧ PySem.W.notCls oe = true := by
  obtain ⟨h1, h2⟩ := hz
  exact ⟨h2, h1, e, by unfold PySem.W.notCls; rw [hv] <;> rfl⟩
theorem kind_kit (I : Inv X pins σ H sh) (hk : KdK X.K X.mg oc xc) (hs : Rs (wd X) μ H s) (r : RW (wd X) μ H d x) (ru : RelV x u) (e : kdOf oc xc s d = some k) : ∃ t, KdV X.mg k t ∧ HasKit X.K sh.heap u t := by
  have ty : ∀ {n : String}, TyX X.K H x (.type n) → k = .b n → ∃ t, KdV X.mg k t ∧ HasKit X.K sh.heap u t := fun {n} z ek => ⟨.type n, by rw [ek]; rfl, kit_of I ru z⟩
  have heavy : ∀ {p : Addr} {o : D}, x = .ref p → Ce (wd X) μ H p o → kdC oc xc o = some k → ∃ t, KdV X.mg k t ∧ HasKit X.K sh.heap u t := by
    intro p o ex c e
    subst ex
    obtain rfl : u = Value.ref p := ru
    cases o <;> simp only [Ce] at c <;> simp only [kdC, Option.some.injEq, reduceCtorEq] at e
    · obtain ⟨ys, a, _⟩ := c; exact ty (.base (.lst a)) e.symm
    · obtain ⟨ys, ⟨kk, _, a⟩, _⟩ := c; exact ty (.base (.dK a)) e.symm
    · obtain ⟨ys, ⟨kk, _, a⟩, _⟩ := c; exact ty (.base (.dT a)) e.symm
    · subst e; exact ⟨_, rfl, kit_set I c⟩
    · obtain ⟨ys, a, _⟩ := c
      split at e
      · rename_i hc; cases e; exact kit_obj I hk hc a
      · cases e
  rcases r with r | ⟨hd, p, ex, _, c⟩
  · cases d with
    | non => simp only [RV] at r; subst r; cases e; exact ty (.base .non) rfl
    | bl b => simp only [RV] at r; subst r; cases e; exact ty (.base (.bl b)) rfl
    | int b => simp only [RV] at r; subst r; cases e; exact ty (.base (.int b)) rfl
    | str b => simp only [RV] at r; subst r; cases e; exact ty (.base (.str b)) rfl
    | tup ds => simp only [RV] at r; obtain ⟨p, ys, rfl, q, _⟩ := r; cases e; exact ty (.base (.tup q)) rfl
    | ktup ds =>
      simp only [RV] at r
      obtain ⟨p, ys, rfl, q, _⟩ := r
      cases e
      rcases q H with (q | ⟨o, q⟩) | ⟨o, its, n, e, c, _⟩
      · exact ty (.base (.tup q)) rfl
      · exact ty (.fTuple q) rfl
      · exact ty (.kTuple e c) rfl
    | lst ds => simp only [RV] at r; obtain ⟨p, ys, rfl, z, q, _⟩ := r; cases e; exact ty (.base (.lst q)) rfl
    | fl ds =>
      simp only [RV] at r
      obtain ⟨p, ys, rfl, q, _⟩ := r
      cases e
      rcases q with ⟨o, q⟩ | ⟨o, its, n, e, c, _⟩
      · exact ty (.base (.frz q)) rfl
      · exact ty (.kList e c) rfl
    | dct ks ds => simp only [RV] at r; obtain ⟨p, ys, rfl, z, ⟨kk, _, q⟩, _⟩ := r; cases e; exact ty (.base (.dK q)) rfl
    | dtt ks ds => simp only [RV] at r; obtain ⟨p, ys, rfl, z, ⟨kk, _, q⟩, _⟩ := r; cases e; exact ty (.base (.dT q)) rfl
    | set ks =>
      simp only [RV] at r
      obtain ⟨p, rfl, z, q⟩ := r
      obtain rfl : u = Value.ref p := ru
      cases e
      exact ⟨_, rfl, kit_set I q⟩
    | obj c ns ds =>
      simp only [RV] at r
      obtain ⟨p, ys, rfl, z, q, _⟩ := r
      obtain rfl : u = Value.ref p := ru
      simp only [kdOf, kdC] at e
      split at e
      · rename_i hc; cases e; exact kit_obj I hk hc q
      · cases e
    | exh c ns ds =>
      simp only [RV] at r
      obtain ⟨p, C, dx, ys, rfl, _, _, mC, q, qd, _⟩ := r
      obtain rfl : u = Value.ref p := ru
      simp only [kdOf, kdC] at e
      split at e
      case isFalse => cases e
      rename_i hc
      cases e
      obtain ⟨oe, vs, e1, hz, hv⟩ := exh_at I.hok q
      have hx : ObjOk X.prog X.w H sh.heap dx (.xd (ns.zip ys)) := I.hok dx _ qd
      obtain ⟨mA, hns, _⟩ := hx
      obtain ⟨od, ho, hl⟩ := lookIn_ns hns
      have J : PySem.W.InstAt sh.heap p oe C (some od) := ⟨e1, hz.1, by unfold PySem.W.notCls; rw [hv] <;> rfl, by rw [hz.2]; exact ho⟩
      have T := hk.x c (by simpa using hc) C mC
      obtain ⟨cd, hcd, _⟩ := PySem.W.any_some T.hd
      exact ⟨.ref C, ⟨C, mC, rfl⟩, _, PySem.W.kitx_exc (by rw [hcd]; rfl) T.hg T.hk T.hs T.ha T.hn T.ht T.hm, J, fun z => nomatch z⟩
    | exq c =>
      simp only [RV] at r
      obtain ⟨p, C, rfl, _, mC, q⟩ := r
      obtain rfl : u = Value.ref p := ru
      simp only [kdOf, kdC] at e
      split at e
      case isFalse => cases e
      rename_i hc
      cases e
      obtain ⟨oe, vs, e1, hz, hv⟩ := exq_at I.hok q
      have J : PySem.W.InstAt sh.heap p oe C none := by
        obtain ⟨oc, od, oda, osl⟩ := oe
        obtain ⟨h1, h2⟩ := hz
        dsimp only at h1 h2 hv
        subst h1 h2 hv
        exact ⟨e1, rfl, rfl, trivial⟩
      have T := hk.x c (by simpa using hc) C mC
      obtain ⟨cd, hcd, _⟩ := PySem.W.any_some T.hd
      exact ⟨.ref C, ⟨C, mC, rfl⟩, _, PySem.W.kitx_exc (by rw [hcd]; rfl) T.hg T.hk T.hs T.ha T.hn T.ht T.hm, J, fun z => nomatch z⟩
    | ref a =>
      simp only [RV] at r
      obtain ⟨p, ep, rfl⟩ := r
      simp only [kdOf] at e
      split at e <;> first | (rename_i ei; first | exact heavy rfl (hs.at_ _ _ _ ei ep) e | (cases e)) | cases e
    | exc _ _ => cases e
    | xn _ _ => cases e
    | ty _ => cases e
    | gl _ => cases e
  · cases d <;> first | exact heavy ex c e | cases hd
end
/-! ### isinstance -/
abbrev KT := Kd → Kd → Option Bool
def IsT (K : PySem.W.Frag) (mg : Str → Option Value) (T : KT) : Prop := ∀ k c b, T k c = some b → ∀ t u, KdV mg k t → KdV mg c u → PySem.W.kitOne K t u = some b
def anyT (T : KT) (k : Kd) : List Kd → Option Bool
  | [] => some false
  | c :: r => match T k c with | some true => some true | some false => anyT T k r | none => none
def isiF (oc xc : List Tx) (T : KT) : Fn := fun ds s => match ds with
  | [d, c] => match kdOf oc xc s d with
    | some k => match c with
      | .tup cs => match clsOf cs with | some us => (match anyT T k us with | some b => .ok (.bl b) s | none => .bad) | none => .bad
      | c => match clOf c with | some u => (match T k u with | some b => .ok (.bl b) s | none => .bad) | none => .bad
    | none => .bad
  | _ => .bad
section
variable {X : Cx} {oc xc : List Tx} {T : KT}
theorem cl_sound {g : Wd} {μ : M} {H : Hp} {c : D} {k : Kd} {x : V} (r : RV g μ H c x) (e : clOf c = some k) : ∃ u, ClsV x u ∧ KdV g.mg k u := by
  cases c <;> simp only [clOf, Option.some.injEq, reduceCtorEq] at e
  · subst e; simp only [RV] at r; subst r; exact ⟨_, .ty _, rfl⟩
  · subst e; simp only [RV] at r; obtain ⟨f, m, rfl⟩ := r; exact ⟨_, .own f, f, m, rfl⟩
theorem cls_sound {g : Wd} {μ : M} {H : Hp} : ∀ {cs : List D} {ks : List Kd} {xs : List V}, RVs g μ H cs xs → clsOf cs = some ks → ∃ us, Paired ClsV xs us ∧ Paired (KdV g.mg) ks us
  | [], ks, xs, r, e => by simp only [RVs] at r; subst r; simp only [clsOf, Option.some.injEq] at e; subst e; exact ⟨[], .nil, .nil⟩
  | c :: cs, ks, xs, r, e => by
    simp only [RVs] at r
    obtain ⟨y, r', rfl, a, b⟩ := r
    simp only [clsOf, Option.bind_eq_some_iff, Option.map_eq_some_iff] at e
    obtain ⟨k, ek, ks', eks, rfl⟩ := e
    obtain ⟨u, h1, h2⟩ := cl_sound a ek
    obtain ⟨us, h3, h4⟩ := cls_sound b eks
    exact ⟨u :: us, .cons h1 h3, .cons h2 h4⟩
theorem any_sound {K : PySem.W.Frag} {mg : Str → Option Value} (hT : IsT K mg T) {k : Kd} {t : Value} (kt : KdV mg k t) : ∀ {ks : List Kd} {us : List Value} {b : Bool}, Paired (KdV mg) ks us → anyT T k ks = some b → PySem.W.kitAny K t us = some b
  | _, _, b, .nil, e => e
  | _, _, b, .cons (a := c) (b := u) h r, e => by
    unfold anyT at e
    split at e
    · rename_i q
      cases e
      exact kitAny_cons (hT _ _ _ q _ _ kt h) (fun z => nomatch z) fun _ => rfl
    · rename_i q
      exact kitAny_cons (hT _ _ _ q _ _ kt h) (fun _ => any_sound hT kt r e) fun z => nomatch z
    · cases e
theorem qc_isi (hk : KdK X.K X.mg oc xc) (hT : IsT X.K X.mg T) : CallR X (.builtin "isinstance") (rC (wd X) (isiF oc xc T)) := by
  intro pins sh σ H xs us Q I rv ⟨μ, s, ds, hs, r, W, σ', h⟩
  unfold isiF at h
  split at h
  case h_2 => exact h.elim
  rename_i d c
  split at h
  case h_2 => exact h.elim
  rename_i k ek
  obtain ⟨x, y, rfl, r1, r2⟩ := r.inv2
  obtain ⟨u1, u2, rfl, v1, v2⟩ := vals2 rv
  obtain ⟨t, kt, P, Z, p, hx⟩ := kind_kit I hk hs r1 v1 ek
  have fin : ∀ {b : Bool}, runs (wd X) W σ' μ H (RF (wd X) H) Q (.ok (.bl b) s) → Q (.bl b) H := fun h => runs_pure h hs (by unfold RF; rw [if_neg (by simp [D.heavy])]; simp only [RV])
  split at h
  · rename_i cs
    split at h
    case h_2 => exact h.elim
    rename_i ks eks
    split at h
    case h_2 => exact h.elim
    rename_i b eb
    have r2' := r2.light rfl
    simp only [RV] at r2'
    obtain ⟨tp, ys, rfl, hT2, ry⟩ := r2'
    obtain ⟨ws, h3, h4⟩ := cls_sound ry eks
    obtain rfl : u2 = Value.ref tp := v2
    obtain ⟨_, its, rvs, o, e1, e2, n, e3⟩ := (show ObjOk X.prog X.w H sh.heap tp (.tup ys) from I.hok tp _ hT2)
    have e4 := ClsV.all h3 rvs
    subst e4
    obtain ⟨ocl, od, dt, sl⟩ := o
    simp only at e2 e3
    subst e2 e3
    exact PySem.W.kia_tup Z I.kIn p e1 (any_sound hT kt h4 eb) hx fun tk => ⟨.bl b, H, I.tok tk, rfl, fin h⟩
  · split at h
    case h_2 => exact h.elim
    rename_i u eu
    split at h
    case h_2 => exact h.elim
    rename_i b eb
    have nl : c.heavy = false := by cases c <;> simp only [clOf, reduceCtorEq] at eu <;> rfl
    obtain ⟨w, h3, h4⟩ := cl_sound (r2.light nl) eu
    have e2 := h3.eq v2
    subst e2
    exact PySem.W.kia_one Z I.kIn p (hT _ _ _ eb _ _ kt h4) hx fun tk => ⟨.bl b, H, I.tok tk, rfl, fin h⟩
end
/-! ### fields of exceptions -/
/-- what the written part says of exceptions whose instances have the field -/
def XfK (K : PySem.W.Frag) (mg : Str → Option Value) (cs : List Tx) (f : Str) : Prop := ∀ c ∈ cs, ∀ C, mg c = some (.ref C) → XfC K C ∧ PySem.W.findIn K (.ref C) f = some none
def xfE (cs : List Tx) (f : Tx) (m : E) : E := fun ρ s => (m ρ s).bind fun d s => match d with
  | .exh c ns vs => match lookN ns vs f with | some v => if c ∈ cs then .ok v s else .bad | none => .bad
  | _ => .bad
section
variable {X : Cx} {W : WX} {e : Expr} {m : E} {f : Str} {cs : List Tx} {pos : Pos}
theorem q_xf (hk : XfK X.K X.mg cs f) (he : PE X e (liftB (wd X) W m)) (hb : attributeBase e f X.env (eval e X.env) = eval e X.env := by rfl) : PE X (.Attribute e f pos) (liftE (wd X) W (xfE cs f m)) := by
  refine ⟨fun pins sh σ H Q I ⟨F0, μ, ρ, s, hρ, hs, h⟩ => ?_⟩
  have hq : liftB (wd X) W m σ H fun x H1 => ∃ p C dx fs v, x = .ref p ∧ H1 p = some (exh p C dx) ∧ H1 dx = some (.xd fs) ∧ XfC X.K C ∧ PySem.W.findIn X.K (.ref C) f = some none ∧ fs.lookup f = some v ∧ Q v H1 :=
    ⟨F0, μ, ρ, s, hρ, hs, runs_bind (Rel1 := RW (wd X)) h fun d s1 μ1 H1 x e1 x1 hs1 r1 h1 => by
      split at h1
      case h_2 => exact h1.elim
      rename_i c ns vs
      split at h1
      case h_2 => exact h1.elim
      rename_i v ev
      split at h1
      case isFalse => exact h1.elim
      rename_i hc
      have r := r1.light rfl
      simp only [RV] at r
      obtain ⟨p, C, dx, ys, rfl, _, _, mC, q, qd, l, rr⟩ := r
      obtain ⟨y, ey, ry⟩ := (lookN_sound (f := f) rr l).1 v ev
      obtain ⟨k1, k2⟩ := hk c hc C mC
      exact ⟨p, C, dx, _, y, rfl, q, qd, k1, k2, ey, runs_pure h1 hs1 ry⟩⟩
  refine attr_of hb (thn (he.run pins sh σ H _ I hq) fun u s1 hh => ?_)
  obtain ⟨x, H1, I1, rx, p, C, dx, fs, v, ex, q, qd, T, hno, l, q2⟩ := hh
  subst ex
  obtain rfl : u = Value.ref p := rx
  obtain ⟨oe, vs, e1, hz, hv⟩ := exh_at I1.hok q
  have hx : ObjOk X.prog X.w H1 s1.heap dx (.xd fs) := I1.hok dx _ qd
  obtain ⟨mA, hns, hr⟩ := hx
  obtain ⟨od, ho, hl⟩ := lookIn_ns hns
  obtain ⟨u, hu, ru⟩ := RelO.some_of (v := v) (o := mA f) (by rw [← l]; exact hr f)
  have J : PySem.W.InstAt s1.heap p oe C (some od) := ⟨e1, hz.1, by unfold PySem.W.notCls; rw [hv] <;> rfl, by rw [hz.2]; exact ho⟩
  exact HandSPX.exc_get I1.kIn J T.ga T.gg T.exC (PySem.W.findObj_own T.hdC hno rfl (by rw [hl, hu])) (handed_of ru) ⟨v, H1, I1.tok _, ru, q2⟩
end
end Fv

namespace PySem
open PySem PySem.Spec PyProof.Rows
/-! ### v.__class__.__name__ -/
section
variable {prog : Program} {w : World} {A : Around} {E : Value → Shared → Prop} {s : Shared} {Q : Value → Shared → Prop} {a : Addr} {o : Obj} {n : String} {h : Heap} {g : Array GenState} {d : Drawn} {t : Nat} {os : OsState}
theorem fvc_int {i : Int} {u : Tok} (hq : Q (.type "int") { s with toks := s.toks + 1 }) : wpAny (model prog w) A (getAttr (.int i u) "__class__" true) Q E s := by
  obtain ⟨h, g, d, t, os⟩ := s
  unfold getAttr
  have tyd := (rfl : (⟨h, g, d, t + 1, os⟩ : Shared).TypeIs (.int i u) "int")
  have lup := F.slot_int_getattribute.lookup
  have bnd := F.slot_int_getattribute.bind (.int i u)
  refine wpAny_bind (wpAny_mkText ?_)
  repeat (any_goals (first | assumption | wp_step))
  refine class_call_int ?_
  repeat (any_goals (first | assumption | wp_step))
theorem fvc_bool {b : Bool} (hq : Q (.type "bool") { s with toks := s.toks + 1 }) : wpAny (model prog w) A (getAttr (.bool b) "__class__" true) Q E s := by
  obtain ⟨h, g, d, t, os⟩ := s
  unfold getAttr
  have tyd := (rfl : (⟨h, g, d, t + 1, os⟩ : Shared).TypeIs (.bool b) "bool")
  have lup := F.slot_bool_getattribute.lookup
  have bnd := F.slot_bool_getattribute.bind (.bool b)
  refine wpAny_bind (wpAny_mkText ?_)
  repeat (any_goals (first | assumption | wp_step))
  refine class_call_bool ?_
  repeat (any_goals (first | assumption | wp_step))
theorem fvc_none (hq : Q (.type "NoneType") { s with toks := s.toks + 1 }) : wpAny (model prog w) A (getAttr .none "__class__" true) Q E s := by
  obtain ⟨h, g, d, t, os⟩ := s
  unfold getAttr
  have tyd := (rfl : (⟨h, g, d, t + 1, os⟩ : Shared).TypeIs .none "NoneType")
  have lup := F.slot_NoneType_getattribute.lookup
  have bnd := F.slot_NoneType_getattribute.bind .none
  refine wpAny_bind (wpAny_mkText ?_)
  repeat (any_goals (first | assumption | wp_step))
  refine class_call_none ?_
  repeat (any_goals (first | assumption | wp_step))
theorem fvc_str {x : Str} {u : Tok} (hq : Q (.type "str") { s with toks := s.toks + 1 }) : wpAny (model prog w) A (getAttr (.str x u) "__class__" true) Q E s := by
  obtain ⟨h, g, d, t, os⟩ := s
  unfold getAttr
  have tyd := (rfl : (⟨h, g, d, t + 1, os⟩ : Shared).TypeIs (.str x u) "str")
  have lup := F.slot_str_getattribute.lookup
  have bnd := F.slot_str_getattribute.bind (.str x u)
  refine wpAny_bind (wpAny_mkText ?_)
  repeat (any_goals (first | assumption | wp_step))
  refine class_call_str ?_
  repeat (any_goals (first | assumption | wp_step))
theorem fvc_list (hx : h.get? a = some o) (hc : o.cls = .type "list") (hq : Q (.type "list") ⟨h, g, d, t + 1, os⟩) : wpAny (model prog w) A (getAttr (.ref a) "__class__" true) Q E ⟨h, g, d, t, os⟩ := by
  have ty : (⟨h, g, d, t + 1, os⟩ : Shared).TypeIs (.ref a) "list" := ⟨o, hx, hc⟩
  unfold getAttr
  have tyd := ty
  have lup := F.slot_list_getattribute.lookup
  have bnd := F.slot_list_getattribute.bind (.ref a)
  refine wpAny_bind (wpAny_mkText ?_)
  repeat (any_goals (first | assumption | wp_step))
  refine class_call_list hx hc ?_
  repeat (any_goals (first | assumption | wp_step))
theorem fvc_tuple (hx : h.get? a = some o) (hc : o.cls = .type "tuple") (hq : Q (.type "tuple") ⟨h, g, d, t + 1, os⟩) : wpAny (model prog w) A (getAttr (.ref a) "__class__" true) Q E ⟨h, g, d, t, os⟩ := by
  have ty : (⟨h, g, d, t + 1, os⟩ : Shared).TypeIs (.ref a) "tuple" := ⟨o, hx, hc⟩
  unfold getAttr
  have tyd := ty
  have lup := F.slot_tuple_getattribute.lookup
  have bnd := F.slot_tuple_getattribute.bind (.ref a)
  refine wpAny_bind (wpAny_mkText ?_)
  repeat (any_goals (first | assumption | wp_step))
  refine class_call_tuple hx hc ?_
  repeat (any_goals (first | assumption | wp_step))
theorem fvc_dict (hx : h.get? a = some o) (hc : o.cls = .type "dict") (hq : Q (.type "dict") ⟨h, g, d, t + 1, os⟩) : wpAny (model prog w) A (getAttr (.ref a) "__class__" true) Q E ⟨h, g, d, t, os⟩ := by
  have ty : (⟨h, g, d, t + 1, os⟩ : Shared).TypeIs (.ref a) "dict" := ⟨o, hx, hc⟩
  unfold getAttr
  have tyd := ty
  have lup := F.slot_dict_getattribute.lookup
  have bnd := F.slot_dict_getattribute.bind (.ref a)
  refine wpAny_bind (wpAny_mkText ?_)
  repeat (any_goals (first | assumption | wp_step))
  refine class_call_dict hx hc ?_
  repeat (any_goals (first | assumption | wp_step))
end
namespace W
open PySem.Calls Builtin Builtin.ObjectAttr Builtin.Getset_descriptor
/-- the name of a built-in class -/
theorem fvn_attr {prog : Program} {w : World} {A : Around} {E : Value → Shared → Prop} {s : Shared} {K : Frag} {T q : String} {Q : Value → Shared → Prop} (X : K.In s.heap) (mt : kitMeta T = true) (st : Manifest.isStub T = false)
    (ef : findCls K (.type T) (.type "type") "__name__" = some (.get (.builtin "getset_descriptor.__get__") (.builtin "type.__name__") (.type T) (.type "type"))) (eq : ktynFast T = q) (hl : (Str.ofString q).length ≤ sizeLine)
    (fin : ∀ tk u, Q (.str (Str.ofString q) tk) { s with toks := u }) : wpAny (model prog w) A (getAttr (.type T) "__name__" true) Q E s := by
  have noStub : opaqueClassAbove (.type T) = pure none := by unfold opaqueClassAbove; dsimp only; rw [st]; rfl
  have lT : Looks (model prog w) s.heap (typeOf (.type T)) (.type "type") := Looks.of_pure (kitMeta_of mt)
  have lN : Looks (model prog w) s.heap (opaqueClassAbove (.type T)) none := Looks.of_pure noStub
  refine cls_open X lN lT (show findIn K (.type "type") "__getattribute__" = some (some (.builtin "type.__getattribute__")) from type_tga) (looks_hook X (r := none) (by rfl)) (by show subIn K _ _ = _; rfl) ef ?_
  show wpAny _ _ (do ret (← holding [Value.builtin "type.__name__"] (call (.builtin "getset_descriptor.__get__") [.builtin "type.__name__", .type T, .type "type"]))) _ _ _
  exact wpAny_bind (wpAny_holding (wpAny_call (ktyn_get (s := { s with toks := s.toks + 1 }) (kitMeta_of mt) eq hl (wpAny_pure (handed_on rfl (fin _ _))))))
end W
end PySem
namespace Fv
open PySem PySem.Spec PyProof.Rows L2
theorem cn_NoneType {K : PySem.W.Frag} {prog : Program} {w : World} {A : Around} {E : Value → Shared → Prop} {s : Shared} {Q : Value → Shared → Prop} (X : K.In s.heap) (fin : ∀ tk u, Q (.str (Str.ofString "NoneType") tk) { s with toks := u }) : wpAny (model prog w) A (getAttr (.type "NoneType") "__name__" true) Q E s :=
  PySem.W.fvn_attr (T := "NoneType") (q := "NoneType") X (by decide +kernel) (by decide +kernel) (by rfl) (by ktyn_q) (by decide +kernel) fin
theorem cn_bool {K : PySem.W.Frag} {prog : Program} {w : World} {A : Around} {E : Value → Shared → Prop} {s : Shared} {Q : Value → Shared → Prop} (X : K.In s.heap) (fin : ∀ tk u, Q (.str (Str.ofString "bool") tk) { s with toks := u }) : wpAny (model prog w) A (getAttr (.type "bool") "__name__" true) Q E s :=
  PySem.W.fvn_attr (T := "bool") (q := "bool") X (by decide +kernel) (by decide +kernel) (by rfl) (by ktyn_q) (by decide +kernel) fin
theorem cn_int {K : PySem.W.Frag} {prog : Program} {w : World} {A : Around} {E : Value → Shared → Prop} {s : Shared} {Q : Value → Shared → Prop} (X : K.In s.heap) (fin : ∀ tk u, Q (.str (Str.ofString "int") tk) { s with toks := u }) : wpAny (model prog w) A (getAttr (.type "int") "__name__" true) Q E s :=
  PySem.W.fvn_attr (T := "int") (q := "int") X (by decide +kernel) (by decide +kernel) (by rfl) (by ktyn_q) (by decide +kernel) fin
theorem cn_str {K : PySem.W.Frag} {prog : Program} {w : World} {A : Around} {E : Value → Shared → Prop} {s : Shared} {Q : Value → Shared → Prop} (X : K.In s.heap) (fin : ∀ tk u, Q (.str (Str.ofString "str") tk) { s with toks := u }) : wpAny (model prog w) A (getAttr (.type "str") "__name__" true) Q E s :=
  PySem.W.fvn_attr (T := "str") (q := "str") X (by decide +kernel) (by decide +kernel) (by rfl) (by ktyn_q) (by decide +kernel) fin
theorem cn_tuple {K : PySem.W.Frag} {prog : Program} {w : World} {A : Around} {E : Value → Shared → Prop} {s : Shared} {Q : Value → Shared → Prop} (X : K.In s.heap) (fin : ∀ tk u, Q (.str (Str.ofString "tuple") tk) { s with toks := u }) : wpAny (model prog w) A (getAttr (.type "tuple") "__name__" true) Q E s :=
  PySem.W.fvn_attr (T := "tuple") (q := "tuple") X (by decide +kernel) (by decide +kernel) (by rfl) (by ktyn_q) (by decide +kernel) fin
theorem cn_list {K : PySem.W.Frag} {prog : Program} {w : World} {A : Around} {E : Value → Shared → Prop} {s : Shared} {Q : Value → Shared → Prop} (X : K.In s.heap) (fin : ∀ tk u, Q (.str (Str.ofString "list") tk) { s with toks := u }) : wpAny (model prog w) A (getAttr (.type "list") "__name__" true) Q E s :=
  PySem.W.fvn_attr (T := "list") (q := "list") X (by decide +kernel) (by decide +kernel) (by rfl) (by ktyn_q) (by decide +kernel) fin
theorem cn_dict {K : PySem.W.Frag} {prog : Program} {w : World} {A : Around} {E : Value → Shared → Prop} {s : Shared} {Q : Value → Shared → Prop} (X : K.In s.heap) (fin : ∀ tk u, Q (.str (Str.ofString "dict") tk) { s with toks := u }) : wpAny (model prog w) A (getAttr (.type "dict") "__name__" true) Q E s :=
  PySem.W.fvn_attr (T := "dict") (q := "dict") X (by decide +kernel) (by decide +kernel) (by rfl) (by ktyn_q) (by decide +kernel) fin
def cnN : List String := ["NoneType", "bool", "int", "str", "tuple", "list", "dict"]
theorem cn_get {K : PySem.W.Frag} {prog : Program} {w : World} {A : Around} {E : Value → Shared → Prop} {s : Shared} {n : String} {Q : Value → Shared → Prop} (X : K.In s.heap) (hn : n ∈ cnN) (fin : ∀ tk u, Q (.str (Str.ofString n) tk) { s with toks := u }) :
    wpAny (model prog w) A (getAttr (.type n) "__name__" true) Q E s := by
  simp only [cnN, List.mem_cons, List.not_mem_nil, or_false] at hn
  rcases hn with rfl | rfl | rfl | rfl | rfl | rfl | rfl
  · exact cn_NoneType X fin
  · exact cn_bool X fin
  · exact cn_int X fin
  · exact cn_str X fin
  · exact cn_tuple X fin
  · exact cn_list X fin
  · exact cn_dict X fin
section
variable {X : Cx} {pins : List (Addr × Obj)} {σ : L2.St} {H : Hp} {sh : Shared} {μ : M} {s : S} {d : D} {x : V} {u : Value} {n : String}
theorem cls_ref {a : Addr} {o : Obj} {n : String} {Q : Value → Shared → Prop} (hn : n ∈ ["tuple", "list", "dict"]) (e : sh.heap.get? a = some o) (c : o.cls = .type n) (fin : Q (.type n) { sh with toks := sh.toks + 1 }) : wpAny (model X.prog X.w) X.A (getAttr (.ref a) "__class__" true) Q X.xe sh := by
  obtain ⟨h, g, d, t, os⟩ := sh
  simp only [List.mem_cons, List.not_mem_nil, or_false] at hn
  rcases hn with rfl | rfl | rfl
  · exact fvc_tuple e c fin
  · exact fvc_list e c fin
  · exact fvc_dict e c fin
theorem cls_get {Q : Value → Shared → Prop} (I : Inv X pins σ H sh) (ru : RelV x u) (ty : TyX X.K H x (.type n)) (hn : n ∈ cnN) (fin : Q (.type n) { sh with toks := sh.toks + 1 }) : wpAny (model X.prog X.w) X.A (getAttr u "__class__" true) Q X.xe sh := by
  generalize ht : Value.type n = t at ty
  cases ty with
  | base b =>
    cases b with
    | non => cases ht; cases (show u = Value.none from ru); exact fvc_none fin
    | bl y => cases ht; cases (show u = Value.bool y from ru); exact fvc_bool fin
    | int i => cases ht; obtain ⟨t, q⟩ := (show ∃ t, u = Value.int i t from ru); cases q; exact fvc_int fin
    | str y => cases ht; obtain ⟨t, q⟩ := (show ∃ t, u = Value.str y t from ru); cases q; exact fvc_str fin
    | flt y => cases ht; simp [cnN] at hn
    | @lst a xs ea =>
      cases ht
      cases (show u = Value.ref a from ru)
      obtain ⟨_, _, n, _, h1⟩ := (show ObjOk X.prog X.w H sh.heap a (.lst xs) from I.hok a _ ea)
      exact cls_ref (by simp) h1 rfl fin
    | @frz a ob xs ea =>
      cases ht
      cases (show u = Value.ref a from ru)
      obtain ⟨_, _, _, n, _, h1⟩ := (show ObjOk X.prog X.w H sh.heap a (.frz ob (.lst xs)) from I.hok a _ ea)
      exact cls_ref (by simp) h1 rfl fin
    | @tup a xs ea =>
      cases ht
      cases (show u = Value.ref a from ru)
      obtain ⟨_, _, _, o, h1, h2, _⟩ := (show ObjOk X.prog X.w H sh.heap a (.tup xs) from I.hok a _ ea)
      exact cls_ref (by simp) h1 h2 fin
    | @dK a kvs ea =>
      cases ht
      cases (show u = Value.ref a from ru)
      obtain ⟨_, _, vs, _, o, es, ep, h1, h2, _⟩ := (show ObjOk X.prog X.w H sh.heap a (.dK kvs) from I.hok a _ ea)
      exact cls_ref (by simp) h1 h2.1 fin
    | @dT a kvs ea =>
      cases ht
      cases (show u = Value.ref a from ru)
      obtain ⟨_, _, xs, _, o, es, ep, h1, h2, _⟩ := (show ObjOk X.prog X.w H sh.heap a (.dT kvs) from I.hok a _ ea)
      exact cls_ref (by simp) h1 h2.1 fin
    | ins ea cl ha hn htk hm => cases ht
  | byt y => cases ht; simp [cnN] at hn
  | set ea => cases ht; simp [cnN] at hn
  | @kList a o e c => cases ht; cases (show u = Value.ref a from ru); exact cls_ref (by simp) (I.kIn a o e) c fin
  | @kTuple a o e c => cases ht; cases (show u = Value.ref a from ru); exact cls_ref (by simp) (I.kIn a o e) c fin
  | @kDict a o e c => cases ht; cases (show u = Value.ref a from ru); exact cls_ref (by simp) (I.kIn a o e) c fin
  | @fTuple a ob xs ea =>
    cases ht
    cases (show u = Value.ref a from ru)
    obtain ⟨_, _, _, _, o, h1, h2, _⟩ := (show ObjOk X.prog X.w H sh.heap a (.frz ob (.tup xs)) from I.hok a _ ea)
    exact cls_ref (by simp) h1 h2 fin
  | @fDict a ob kvs ea =>
    cases ht
    cases (show u = Value.ref a from ru)
    obtain ⟨_, _, _, vs, _, o, es, ep, h1, h2, _⟩ := (show ObjOk X.prog X.w H sh.heap a (.frz ob (.dK kvs)) from I.hok a _ ea)
    exact cls_ref (by simp) h1 h2.1 fin
end
end Fv

namespace Fv
open PySem PySem.Spec PyProof.Rows L2
/-! ### v.__class__.__name__ of built-in kinds -/
theorem ce_ty {g : Wd} {μ : M} {H : Hp} {p : Addr} {o : D} {n : String} (c : Ce g μ H p o) (e : kdC [] [] o = some (.b n)) (hn : n ∈ cnN) : TyX g.K H (.ref p) (.type n) := by
  cases o <;> simp only [Ce] at c <;> simp only [kdC, Option.some.injEq, Kd.b.injEq, reduceCtorEq] at e
  · obtain ⟨ys, a, _⟩ := c; subst e; exact .base (.lst a)
  · obtain ⟨ys, ⟨kk, _, a⟩, _⟩ := c; subst e; exact .base (.dK a)
  · obtain ⟨ys, ⟨kk, _, a⟩, _⟩ := c; subst e; exact .base (.dT a)
  · subst e; simp [cnN] at hn
  · simp at e
theorem kind_ty {g : Wd} {μ : M} {H : Hp} {s : S} {d : D} {x : V} {n : String} (hs : Rs g μ H s) (r : RW g μ H d x) (e : kdOf [] [] s d = some (.b n)) (hn : n ∈ cnN) : TyX g.K H x (.type n) := by
  rcases r with r | ⟨hd, p, rfl, _, c⟩
  · cases d with
    | non => simp only [RV] at r; subst r; cases e; exact .base .non
    | bl b => simp only [RV] at r; subst r; cases e; exact .base (.bl b)
    | int b => simp only [RV] at r; subst r; cases e; exact .base (.int b)
    | str b => simp only [RV] at r; subst r; cases e; exact .base (.str b)
    | tup ds => simp only [RV] at r; obtain ⟨p, ys, rfl, q, _⟩ := r; cases e; exact .base (.tup q)
    | ktup ds =>
      simp only [RV] at r
      obtain ⟨p, ys, rfl, q, _⟩ := r
      cases e
      rcases q H with (q | ⟨o, q⟩) | ⟨o, its, n, e, c, _⟩
      · exact .base (.tup q)
      · exact .fTuple q
      · exact .kTuple e c
    | lst ds => simp only [RV] at r; obtain ⟨p, ys, rfl, z, q, _⟩ := r; cases e; exact .base (.lst q)
    | fl ds =>
      simp only [RV] at r
      obtain ⟨p, ys, rfl, q, _⟩ := r
      cases e
      rcases q with ⟨o, q⟩ | ⟨o, its, n, e, c, _⟩
      · exact .base (.frz q)
      · exact .kList e c
    | dct ks ds => simp only [RV] at r; obtain ⟨p, ys, rfl, z, ⟨kk, _, q⟩, _⟩ := r; cases e; exact .base (.dK q)
    | dtt ks ds => simp only [RV] at r; obtain ⟨p, ys, rfl, z, ⟨kk, _, q⟩, _⟩ := r; cases e; exact .base (.dT q)
    | set ks => cases e; simp [cnN] at hn
    | obj c ns ds => simp [kdOf, kdC] at e
    | exh c ns ds => simp [kdOf, kdC] at e
    | exq c => simp [kdOf, kdC] at e
    | ref a =>
      simp only [RV] at r
      obtain ⟨p, ep, rfl⟩ := r
      simp only [kdOf] at e
      split at e
      · rename_i ei; exact ce_ty (hs.at_ _ _ _ ei ep) e hn
      · rename_i ei; exact ce_ty (hs.at_ _ _ _ ei ep) e hn
      · rename_i ei; exact ce_ty (hs.at_ _ _ _ ei ep) e hn
      · rename_i ei; exact ce_ty (hs.at_ _ _ _ ei ep) e hn
      · simp at e
      · cases e
    | exc _ _ => cases e
    | xn _ _ => cases e
    | ty _ => cases e
    | gl _ => cases e
  · refine ce_ty c ?_ hn
    cases d <;> first | exact e | cases hd
def cnE (m : E) : E := fun ρ s => (m ρ s).bind fun d s => match kdOf [] [] s d with | some (.b n) => if n ∈ cnN then .ok (.str (Str.ofString n)) s else .bad | _ => .bad
theorem q_cn {X : Cx} {W : WX} {e : Expr} {m : E} {p1 p2 : Pos} (he : PE X e (liftB (wd X) W m)) (hb : attributeBase e "__class__" X.env (eval e X.env) = eval e X.env := by rfl)
    (hb2 : attributeBase (.Attribute e "__class__" p1) "__name__" X.env (eval (.Attribute e "__class__" p1) X.env) = eval (.Attribute e "__class__" p1) X.env := by rfl) : PE X (.Attribute (.Attribute e "__class__" p1) "__name__" p2) (liftE (wd X) W (cnE m)) := by
  refine ⟨fun pins sh σ H Q I ⟨F0, μ, ρ, s, hρ, hs, h⟩ => ?_⟩
  have hq : liftB (wd X) W m σ H fun x H1 => ∃ n, n ∈ cnN ∧ TyX X.K H1 x (.type n) ∧ Q (.str (Str.ofString n)) H1 :=
    ⟨F0, μ, ρ, s, hρ, hs, runs_bind (Rel1 := RW (wd X)) h fun d s1 μ1 H1 x e1 x1 hs1 r1 h1 => by
      split at h1
      case h_2 => exact h1.elim
      rename_i n en
      split at h1
      case isFalse => exact h1.elim
      rename_i hn
      exact ⟨n, hn, kind_ty hs1 r1 en hn, runs_pure h1 hs1 (by simp only [RV])⟩⟩
  refine attr_of hb2 (attr_of hb (thn (he.run pins sh σ H _ I hq) fun u s1 hh => ?_))
  obtain ⟨x, H1, I1, rx, n, hn, ty, q2⟩ := hh
  refine cls_get I1 rx ty hn (cn_get (I1.tok (s1.toks + 1)).kIn hn fun tk u => ⟨.str (Str.ofString n), H1, I1.tok u, ⟨tk, rfl⟩, q2⟩)
end Fv

namespace Fv
open PySem PySem.Spec PyProof.Rows L2
/-! ### repr -/
def pyK : Key → PyData
  | .inl i => .int i
  | .inr x => .str x
mutual
def pyD : D → Option PyData
  | .non => some .none | .bl b => some (.bool b) | .int i => some (.int i) | .str x => some (.str x)
  | .tup xs => (pyDs xs).map .tuple | .ktup xs => (pyDs xs).map .tuple
  | .lst xs => (pyDs xs).map .list | .fl xs => (pyDs xs).map .list
  | .dct ks vs => (keysD ks).bind fun kk => (pyDs vs).map fun ps => .dict ((kk.map pyK).zip ps)
  | _ => none
def pyDs : List D → Option (List PyData)
  | [] => some []
  | d :: r => (pyD d).bind fun p => (pyDs r).map (p :: ·)
end
/-- no tracked thing, no list and no tuple of the written part is the table of modules -/
structure NoSys (K : PySem.W.Frag) (H : Hp) : Prop where
  h : ∀ a o, H a = some o → a ≠ sysModules
  k : ∀ a o its n, K.lookup a = some o → o.data = .seq its n → a ≠ sysModules
section
variable {X : Cx} {pins : List (Addr × Obj)} {σ : L2.St} {H : Hp} {sh : Shared} {μ : M}
theorem keys_read {knd : PySem.KeyKind X.prog X.w Key} (hk : ∀ k v, knd.is k v = true → keyIs k v = true) : ∀ {es : List DictEntry} {kvs : List (Key × Value)}, Pairs knd es kvs → ReadsAll sh.heap (es.map (·.key)) (kvs.map fun p => pyK p.1) [] ∧ es.map (·.val) = kvs.map (·.2)
  | _, _, .nil => ⟨.nil, rfl⟩
  | _, _, .cons (e := e) (kv := kv) h1 h2 r => by
    obtain ⟨a, b⟩ := keys_read hk r
    refine ⟨?_, by simp [h2, b]⟩
    simp only [List.map_cons]
    rcases keyIs_shape (hk _ _ h1) with ⟨i, t, e1, e2⟩ | ⟨x, t, e1, e2⟩
    · rw [e1, e2]; exact ReadsAll.cons (.int i t) a
    · rw [e1, e2]; exact ReadsAll.cons (.str x t) a
mutual
theorem rv_reads (I : Inv X pins σ H sh) (N : NoSys X.K H) : ∀ {d : D} {x : V} {u : Value} {p : PyData}, RV (wd X) μ H d x → RelV x u → pyD d = some p → ∃ as, Reads sh.heap u p as ∧ sysModules ∉ as
  | .non, x, u, p, r, ru, e => by simp only [RV] at r; subst r; cases e; cases ru; exact ⟨_, .none, by simp⟩
  | .bl b, x, u, p, r, ru, e => by simp only [RV] at r; subst r; cases e; cases ru; exact ⟨_, .bool b, by simp⟩
  | .int i, x, u, p, r, ru, e => by
    simp only [RV] at r; subst r
    obtain ⟨t, rfl⟩ := (show ∃ t, u = Value.int i t from ru)
    cases e; exact ⟨_, .int i t, by simp⟩
  | .str y, x, u, p, r, ru, e => by
    simp only [RV] at r; subst r
    obtain ⟨t, rfl⟩ := (show ∃ t, u = Value.str y t from ru)
    cases e; exact ⟨_, .str y t, by simp⟩
  | .tup ds, x, u, p, r, ru, e => by
    simp only [RV] at r
    obtain ⟨a, ys, rfl, q, rr⟩ := r
    obtain rfl : u = Value.ref a := ru
    simp only [pyD, Option.map_eq_some_iff] at e
    obtain ⟨ps, ep, rfl⟩ := e
    obtain ⟨_, its, rv, o, h1, h2, n, h3⟩ := (show ObjOk X.prog X.w H sh.heap a (.tup ys) from I.hok a _ q)
    obtain ⟨as, ra, na⟩ := rvs_reads I N rr rv ep
    exact ⟨as, .tuple h1 h2 h3 ra, na⟩
  | .ktup ds, x, u, p, r, ru, e => by
    simp only [RV] at r
    obtain ⟨a, ys, rfl, q, rr⟩ := r
    obtain rfl : u = Value.ref a := ru
    simp only [pyD, Option.map_eq_some_iff] at e
    obtain ⟨ps, ep, rfl⟩ := e
    obtain ⟨its, rv, ⟨o, h1, h2, n, h3⟩, _⟩ := I.tuple (q H)
    obtain ⟨as, ra, na⟩ := rvs_reads I N rr rv ep
    exact ⟨as, .tuple h1 h2 h3 ra, na⟩
  | .lst ds, x, u, p, r, ru, e => by
    simp only [RV] at r
    obtain ⟨a, ys, rfl, _, q, rr⟩ := r
    obtain rfl : u = Value.ref a := ru
    simp only [pyD, Option.map_eq_some_iff] at e
    obtain ⟨ps, ep, rfl⟩ := e
    obtain ⟨_, its, n, rv, h1⟩ := (show ObjOk X.prog X.w H sh.heap a (.lst ys) from I.hok a _ q)
    obtain ⟨as, ra, na⟩ := rvs_reads I N rr rv ep
    refine ⟨_, .list h1 rfl rfl ra, ?_⟩
    simp only [List.mem_cons, not_or]
    exact ⟨Ne.symm (N.h a _ q), na⟩
  | .fl ds, x, u, p, r, ru, e => by
    simp only [RV] at r
    obtain ⟨a, ys, rfl, q, rr⟩ := r
    obtain rfl : u = Value.ref a := ru
    simp only [pyD, Option.map_eq_some_iff] at e
    obtain ⟨ps, ep, rfl⟩ := e
    obtain ⟨its, rv, ⟨o, n, ho, hc, _, hd⟩, _⟩ := I.list q.sq
    obtain ⟨as, ra, na⟩ := rvs_reads I N rr rv ep
    refine ⟨_, .list ho hc hd ra, ?_⟩
    simp only [List.mem_cons, not_or]
    refine ⟨?_, na⟩
    rcases q with ⟨o', q⟩ | ⟨o', its', n', e1, _, _, e2, _⟩
    · exact Ne.symm (N.h a _ q)
    · exact Ne.symm (N.k a _ _ _ e1 e2)
  | .dct ks ds, x, u, p, r, ru, e => by
    simp only [RV] at r
    obtain ⟨a, ys, rfl, _, ⟨kk, ek, q⟩, l, rr⟩ := r
    obtain rfl : u = Value.ref a := ru
    simp only [pyD, ek, Option.bind_some, Option.map_eq_some_iff] at e
    obtain ⟨ps, ep, rfl⟩ := e
    obtain ⟨_, hsys, vs, kv, o, es, ep', h1, h2, h3, _, h5, _⟩ := (show ObjOk X.prog X.w H sh.heap a (.dK (kk.zip ys)) from I.hok a _ q)
    have lk : kk.length = ys.length := by rw [← keysD_len ek, l]
    have split : ∀ {kk : List Key} {ys : List V} {vs : List (Key × Value)}, kk.length = ys.length → L2.KV (kk.zip ys) vs → vs.map (·.1) = kk ∧ Vals ys (vs.map (·.2)) := by
      intro kk
      induction kk with
      | nil =>
        intro ys vs l h
        have : ys = [] := List.length_eq_zero_iff.mp l.symm
        subst this
        cases h
        exact ⟨rfl, .nil⟩
      | cons k kk ih =>
        intro ys vs l h
        cases ys with
        | nil => cases l
        | cons y ys =>
          cases h with
          | cons r t =>
            obtain ⟨i1, i2⟩ := ih (Nat.succ.inj l) t
            exact ⟨by simp only [List.map_cons, i1]; rw [← r.1], .cons r.2 i2⟩
    obtain ⟨s1, s2⟩ := split lk kv
    obtain ⟨k1, k2⟩ := keys_read (sh := sh) (fun k v h => h) h5
    obtain ⟨as, ra, na⟩ := rvs_reads I N rr s2 ep
    have lp : kk.length = ps.length := by rw [lk, ← rr.length]; exact pyDs_len ep
    refine ⟨_, .dict (as := []) (bs := as) h1 h2.1 h3 ?_ ?_, ?_⟩
    · have z : ((kk.map pyK).zip ps).map (·.1) = vs.map fun p => pyK p.1 := by
        rw [List.map_fst_zip (by simp [lp]), ← s1, List.map_map]; rfl
      rw [z]; exact k1
    · rw [List.map_snd_zip (by simp [lp]), k2]; exact ra
    · simp only [List.cons_append, List.nil_append, List.mem_cons, not_or]
      exact ⟨Ne.symm (N.h a _ q), na⟩
  | .dtt _ _, _, _, _, _, _, e => by simp [pyD] at e
  | .set _, _, _, _, _, _, e => by simp [pyD] at e
  | .obj _ _ _, _, _, _, _, _, e => by simp [pyD] at e
  | .exc _ _, _, _, _, _, _, e => by simp [pyD] at e
  | .xn _ _, _, _, _, _, _, e => by simp [pyD] at e
  | .exh _ _ _, _, _, _, _, _, e => by simp [pyD] at e
  | .exq _, _, _, _, _, _, e => by simp [pyD] at e
  | .ref _, _, _, _, _, _, e => by simp [pyD] at e
  | .ty _, _, _, _, _, _, e => by simp [pyD] at e
  | .gl _, _, _, _, _, _, e => by simp [pyD] at e
theorem rvs_reads (I : Inv X pins σ H sh) (N : NoSys X.K H) : ∀ {ds : List D} {xs : List V} {us : List Value} {ps : List PyData}, RVs (wd X) μ H ds xs → Vals xs us → pyDs ds = some ps → ∃ as, ReadsAll sh.heap us ps as ∧ sysModules ∉ as
  | [], xs, us, ps, r, ru, e => by
    simp only [RVs] at r; subst r
    cases ru
    simp only [pyDs, Option.some.injEq] at e; subst e
    exact ⟨_, .nil, by simp⟩
  | d :: ds, xs, us, ps, r, ru, e => by
    simp only [RVs] at r
    obtain ⟨y, r', rfl, a, b⟩ := r
    simp only [pyDs, Option.bind_eq_some_iff, Option.map_eq_some_iff] at e
    obtain ⟨p, e1, ps', e2, rfl⟩ := e
    cases ru with
    | cons r1 r2 =>
      obtain ⟨as, h1, n1⟩ := rv_reads I N a r1 e1
      obtain ⟨bs, h2, n2⟩ := rvs_reads I N b r2 e2
      exact ⟨_, .cons h1 h2, by simp [n1, n2]⟩
theorem pyDs_len : ∀ {ds : List D} {ps : List PyData}, pyDs ds = some ps → ds.length = ps.length
  | [], _, e => by simp only [pyDs, Option.some.injEq] at e; subst e; rfl
  | d :: ds, _, e => by
    simp only [pyDs, Option.bind_eq_some_iff, Option.map_eq_some_iff] at e
    obtain ⟨p, e1, ps', e2, rfl⟩ := e
    simp [pyDs_len e2]
end
end
/-- a reading is a reading of what stays, for some M -/
theorem RW.some_rv {g : Wd} {μ : M} {H : Hp} {d : D} {x : V} (h : RW g μ H d x) : ∃ μ', RV g μ' H d x := by
  rcases h with h | ⟨hd, p, rfl, hm, c⟩
  · exact ⟨μ, h⟩
  · have q : Ex (fun q => q = p) μ H (μ.frz p hm) H := ex_frz hm (.inl rfl)
    have c2 : Ce g (μ.frz p hm) H p d := c.mono q fun _ e => e
    have zp : (μ.frz p hm).z p := .inr rfl
    refine ⟨μ.frz p hm, ?_⟩
    cases d <;> simp only [D.heavy, Bool.false_eq_true] at hd <;> simp only [Ce] at c2 <;> simp only [RV]
    · obtain ⟨ys, a, b⟩ := c2
      exact ⟨p, ys, rfl, zp, a, b⟩
    · obtain ⟨ys, a, l, b⟩ := c2
      exact ⟨p, ys, rfl, zp, a, l, b⟩
    · obtain ⟨ys, a, l, b⟩ := c2
      exact ⟨p, ys, rfl, zp, a, l, b⟩
    · exact ⟨p, rfl, zp, c2⟩
    · obtain ⟨ys, a, l, b⟩ := c2
      exact ⟨p, ys, rfl, zp, a, l, b⟩
def reprF : Fn := fun ds s => match ds with
  | [d] => match pyD d with
    | some p => if p.showable = true ∧ p.shown.length ≤ sizeLine ∧ p.depth ≤ 60 then .ok (.str p.shown) s else .bad
    | none => .bad
  | _ => .bad
/-- the table of modules stands at the base -/
def SysB (base : Heap) : Prop := ∃ mm, base.Ns sysModules mm
theorem noSys {X : Cx} {pins : List (Addr × Obj)} {σ : L2.St} {H : Hp} {sh : Shared} (I : Inv X pins σ H sh) (h : SysB X.base) : NoSys X.K H := by
  obtain ⟨mm, o, es, ep, e, d, _⟩ := h
  refine ⟨fun a u q z => ?_, fun a u its m q dd z => ?_⟩
  · have := (I.bs sysModules o e).2
    rw [z, this] at q; cases q
  · have w := I.ok.mod.kin _ _ q
    rw [z, e] at w; cases w
    rw [d] at dd; cases dd
theorem qc_repr {X : Cx} (hg : X.A.guards = some []) (hu : X.A.units + 64 < cLine) (sy : SysB X.base) : CallR X (.builtin "repr") (rC (wd X) reprF) := by
  intro pins sh σ H xs us Q I rv ⟨μ, s, ds, hs, r, W, σ', h⟩
  unfold reprF at h
  split at h
  case h_2 => exact h.elim
  rename_i d
  obtain ⟨x, rfl, r1⟩ := r.inv1
  obtain ⟨u, rfl, ru⟩ := vals1 rv
  split at h
  case h_2 => exact h.elim
  rename_i p ep
  split at h
  case isFalse => exact h.elim
  rename_i hz
  obtain ⟨z1, z3, z4⟩ := hz
  have q : Q (.str p.shown) H := runs_pure h hs (by unfold RF; rw [if_neg (by simp [D.heavy])]; simp only [RV])
  obtain ⟨μ', rr⟩ := r1.some_rv
  obtain ⟨as, rd, na⟩ := rv_reads I (noSys I sy) rr ru ep
  have rf : ∀ {a : Addr}, u = .ref a → wpAny (model X.prog X.w) X.A (call (.builtin "repr") [u]) (EP X pins σ Q) X.xe sh := by
    intro a eu
    subst eu
    exact repr_of_reads' rd z1 (fun _ => na) hg (by omega) (fun _ _ e => e) (fun h' u tk hk => ⟨.str _, H, I.kept (t' := tk) hk, ⟨_, rfl⟩, q⟩) z3
  cases rd with
  | none => simp only [PyData.shown] at q; exact PySem.P.repr_of_none ⟨.str _, H, I.tok _, ⟨_, rfl⟩, q⟩
  | bool b => simp only [PyData.shown] at q; exact PySem.P.repr_of_bool ⟨.str _, H, I.tok _, ⟨_, rfl⟩, q⟩
  | int i t => simp only [PyData.shown] at q; exact PySem.P.repr_of_int (of_decide_eq_true (by simpa only [PyData.showable] using z1)) ⟨.str _, H, I.tok _, ⟨_, rfl⟩, q⟩
  | str y t => simp only [PyData.shown] at q z3; exact PySem.P.repr_of_str ⟨.str _, H, I.tok _, ⟨_, rfl⟩, q⟩ z3
  | list _ _ _ _ => exact rf rfl
  | tuple _ _ _ _ => exact rf rfl
  | dict _ _ _ _ _ => exact rf rfl
end Fv

namespace Fv
open PySem PySem.Spec PyProof.Rows L2
/-! ### dict displays -/
def prsL : List (E × E) → En → S → R (List D × List D)
  | [], _, s => .ok ([], []) s
  | (k, v) :: r, ρ, s => (k ρ s).bind fun x s => (v ρ s).bind fun y s => (prsL r ρ s).bind fun l s => .ok (x :: l.1, y :: l.2) s
def dispE (l : List (E × E)) : E := fun ρ s => (prsL l ρ s).bind fun p s => match keysD p.1 with
  | some kk => if kk.Nodup ∧ kk.length ≤ 15 then .ok (.dct p.1 p.2) s else .bad
  | none => .bad
def dct0E : E := fun _ s => .ok (.dct [] []) s
def RPs (g : Wd) (μ : M) (H : Hp) (l : List D × List D) (ys : List (V × V)) : Prop := RVs g μ H l.1 (ys.map (·.1)) ∧ RVs g μ H l.2 (ys.map (·.2))
theorem any_not {k : Key} : ∀ {kvs : List (Key × V)}, k ∉ kvs.map (·.1) → (kvs.any fun kv => decide (kv.1 = k)) = false
  | [], _ => rfl
  | (k', v) :: r, h => by
    simp only [List.map_cons, List.mem_cons, not_or] at h
    simp only [List.any_cons, any_not h.2, Bool.or_false, decide_eq_false_iff_not]
    exact fun z => h.1 z.symm
theorem merge_new : ∀ {ms vs : List (Key × V)}, ((vs ++ ms).map (·.1)).Nodup → mergeK vs ms = vs ++ ms
  | [], vs, _ => by simp [mergeK]
  | (k, v) :: ms, vs, h => by
    have nk : k ∉ vs.map (·.1) := by
      rw [List.map_append, List.nodup_append] at h
      intro hk
      exact h.2.2 k hk k (by simp) rfl
    have e : putK vs k v = vs ++ [(k, v)] := by
      unfold putK
      rw [any_not nk]
      rfl
    show mergeK (putK vs k v) ms = _
    rw [e, merge_new (by simpa [List.append_assoc] using h), List.append_assoc]
    rfl
theorem keys_vals {g : Wd} {μ : M} {H : Hp} : ∀ {ks : List D} {kk : List Key} {xs : List V}, RVs g μ H ks xs → keysD ks = some kk → xs = kk.map kV
  | [], kk, xs, r, e => by simp only [RVs] at r; subst r; simp only [keysD, Option.some.injEq] at e; subst e; rfl
  | k :: ks, kk, xs, r, e => by
    simp only [RVs] at r
    obtain ⟨y, r', rfl, a, b⟩ := r
    simp only [keysD, Option.bind_eq_some_iff, Option.map_eq_some_iff] at e
    obtain ⟨k', e1, kk', e2, rfl⟩ := e
    rw [keys_vals b e2]
    cases k <;> simp only [keyD, Option.some.injEq, reduceCtorEq] at e1
    · subst e1; simp only [RV] at a; subst a; rfl
    · subst e1; simp only [RV] at a; subst a; rfl
theorem zip_pair {kk : List Key} : ∀ {ys : List (V × V)}, ys.map (·.1) = kk.map kV → ys = (kk.zip (ys.map (·.2))).map fun kv => (kV kv.1, kv.2) := by
  induction kk with
  | nil => intro ys h; simp at h; subst h; rfl
  | cons k kk ih =>
    intro ys h
    cases ys with
    | nil => cases h
    | cons y ys =>
      simp only [List.map_cons, List.cons.injEq] at h
      simp only [List.map_cons, List.zip_cons_cons]
      rw [← ih h.2, ← h.1]
/-- what was new changes once more -/
theorem ex_again {μ μ2 : M} {H H2 : Hp} {p : Addr} {ho ho' : HO} (x : Ex Fn0 μ H μ2 H2) (hp : H p = none) (e : H2 p = some ho') (nt : ∀ ys, ho' ≠ .tup ys) (nf : ∀ o u, ho' ≠ .frz o u) : Ex Fn0 μ H μ2 (upd H2 p ho) :=
  ⟨x.pre, fun q h => x.trk q (upd_trk q h), fun q ys h => by rw [upd_ne (ne_of_none h hp)]; exact x.tup q ys h, fun q o u h => by rw [upd_ne (ne_of_none h hp)]; exact x.frz q o u h, fun q u h n z => by rw [upd_ne (ne_of_none h hp)]; exact x.oth q u h n z, x.zs, x.zn⟩
section
variable {X : Cx} {W : WX} {pos : Pos}
inductive QPs (X : Cx) (W : WX) (pos : Pos) : List (Option Expr) → List Expr → List (E × E) → Prop where
  | nil : QPs X W pos [] [] []
  | cons {k v : Expr} {mk mv : E} {ks : List (Option Expr)} {vs : List Expr} {l : List (E × E)} (hk : PE X k (liftE (wd X) W mk)) (hv : PE X v (liftE (wd X) W mv)) (hr : QPs X W pos ks vs l) : QPs X W pos (some k :: ks) (v :: vs) ((mk, mv) :: l)
def trsOf (g : Wd) (W : WX) (l : List (E × E)) : List (TE × TE) := l.map fun p => (liftE g W p.1, liftE g W p.2)
theorem QPs.pps {ks : List (Option Expr)} {vs : List Expr} {l : List (E × E)} (h : QPs X W pos ks vs l) : PPs X pos ks vs (trsOf (wd X) W l) := by
  induction h with
  | nil => exact pps_nil
  | cons hk hv _ ih => exact pps_cons hk hv ih
theorem QPs.len {ks : List (Option Expr)} {vs : List Expr} {l : List (E × E)} (h : QPs X W pos ks vs l) : ks.length = vs.length := by
  induction h with
  | nil => rfl
  | cons _ _ _ ih => simp [ih]
theorem prs_sound {Fr : Addr → Prop} {σ : L2.St} {Q : List (V × V) → Hp → Prop} : ∀ {l : List (E × E)} {μ : M} {ρ : En} {s : S} {H : Hp}, REn (wd X) Fr μ H ρ σ → Rs (wd X) μ H s → runs (wd X) W σ μ H (RPs (wd X)) Q (prsL l ρ s) → tPairs (trsOf (wd X) W l) σ H Q
  | [], μ, ρ, s, H, he, hs, h => runs_pure (show runs (wd X) W σ μ H (RPs (wd X)) Q (.ok ([], []) s) from h) hs ⟨by simp only [List.map_nil, RVs], by simp only [List.map_nil, RVs]⟩
  | (k, v) :: l, μ, ρ, s, H, he, hs, h => ⟨Fr, μ, ρ, s, he, hs, runs_bind (Rel1 := RV (wd X)) h fun d s1 μ1 H1 x e1 x1 hs1 r1 h1 => ⟨Fr, μ1, ρ, s1, he.mono x1, hs1, runs_bind (Rel1 := RV (wd X)) h1 fun d2 s2 μ2 H2 y e2 x2 hs2 r2 h2 =>
    prs_sound (l := l) ((he.mono x1).mono x2) hs2 (runs_bind (Rel1 := RPs (wd X)) h2 fun ps s3 μ3 H3 vs e3 x3 hs3 r3 h3 => runs_pure h3 hs3 ⟨by simp only [List.map_cons, RVs]; exact ⟨x, _, rfl, (r1.mono x2).mono x3, r3.1⟩, by simp only [List.map_cons, RVs]; exact ⟨y, _, rfl, r2.mono x3, r3.2⟩⟩)⟩⟩
theorem q_disp {keys : List (Option Expr)} {values : List Expr} {l : List (E × E)} (h : QPs X W pos keys values l) (hall : keys.all (·.isSome) = true := by rfl) (h0 : keys ≠ [] := by decide) (h15 : keys.length ≤ 15 := by decide) : PE X (.Dict keys values pos) (liftF (wd X) W (dispE l)) :=
  pe_imp (pe_disp h.pps hall h.len h0 h15) fun σ H Q ⟨Fr, μ, ρ, s, hρ, hs, hh⟩ p hp => by
    have xp : Ex Fn0 μ H μ (upd H p (.dK [])) := ex_new hp
    have hs1 := hs.new (ho := .dK []) hp
    have nm : p ∉ μ.m := hs.nmem hp
    have nz : ¬ μ.z p := hs.nz hp
    refine prs_sound (hρ.mono xp) hs1 ?_
    unfold dispE at hh
    cases e1 : prsL l ρ s with
    | bad => rw [e1] at hh; exact hh.elim
    | err c ns vs s' => rw [e1] at hh; exact runs_mono (Rel := RPs (wd X)) xp (show runs (wd X) W σ μ H (RPs (wd X)) _ (.err c ns vs s') from hh)
    | ok ps s2 =>
      rw [e1] at hh
      have hh : runs (wd X) W σ μ H (RF (wd X) H) Q (match keysD ps.1 with | some kk => if kk.Nodup ∧ kk.length ≤ 15 then .ok (.dct ps.1 ps.2) s2 else .bad | none => .bad) := hh
      intro μ2 H2 ys x2 hs2 r2
      split at hh
      case h_2 => exact hh.elim
      rename_i kk ek
      split at hh
      case isFalse => exact hh.elim
      rename_i hc
      have hy : H2 p = some (.dK []) := x2.oth p _ upd_same nm (.inr id)
      have kv : ys.map (·.1) = kk.map kV := keys_vals r2.1 ek
      have lk : kk.length = ys.length := by have := congrArg List.length kv; simpa using this.symm
      have lz : kk.length = (ys.map (·.2)).length := by simp [lk]
      have fs : (kk.zip (ys.map (·.2))).map (·.1) = kk := List.map_fst_zip (by simp [lk])
      have nm2 : p ∉ μ2.m := x2.nm upd_same nm
      have nz2 : ¬ μ2.z p := fun z => by
        rcases x2.zn p z with z | z | z
        · exact nz z
        · exact z
        · rw [upd_same] at z; cases z
      have em : mergeK [] (kk.zip (ys.map (·.2))) = kk.zip (ys.map (·.2)) := by rw [merge_new (by simpa [fs] using hc.1)]; rfl
      refine ⟨hy, kk.zip (ys.map (·.2)), zip_pair kv, by rw [List.length_zip]; omega, ?_⟩
      rw [em]
      have xo : Ex (fun q => q = p) μ2 H2 μ2 (upd H2 p (.dK (kk.zip (ys.map (·.2))))) := ex_own nz2 rfl hy (fun _ z => nomatch z) fun _ _ z => nomatch z
      have lks : ps.1.length = (ys.map (·.2)).length := by rw [← lz]; exact keysD_len ek
      refine hh μ2 _ _ (ex_again (xp.trans x2) hp hy (fun _ z => nomatch z) fun _ _ z => nomatch z) (hs2.own nm2 nz2 hy (fun _ z => nomatch z) fun _ _ z => nomatch z) ?_
      unfold RF
      rw [if_pos (show (D.dct ps.1 ps.2).heavy = true from rfl)]
      exact ⟨p, rfl, hp, nm2, nz2, ys.map (·.2), ⟨kk, ek, upd_same⟩, lks, r2.2.mono xo⟩
theorem q_disp0 : PE X (.Dict [] [] pos) (liftF (wd X) W dct0E) := pe_imp pe_dnewK fun σ H Q ⟨Fr, μ, ρ, s, hρ, hs, hh⟩ p hp => by
  refine hh μ _ _ (ex_new hp) (hs.new hp) ?_
  unfold RF
  rw [if_pos (show (D.dct [] []).heavy = true from rfl)]
  exact ⟨p, rfl, hp, hs.nmem hp, hs.nz hp, [], ⟨[], rfl, upd_same⟩, rfl, by simp only [RVs]⟩
end
end Fv

namespace Fv
open PySem PySem.Spec PyProof.Rows L2
/-! ### the law's end -/
theorem rvs_ints {g : Wd} {μ : M} {H : Hp} : ∀ (zs : List Int), RVs g μ H (zs.map D.int) (zs.map V.int)
  | [] => by simp only [List.map_nil, RVs]
  | z :: zs => ⟨.int z, zs.map V.int, rfl, by simp only [RV], rvs_ints zs⟩
/-- the law is said of the tree -/
def Says (f : Fn) (zs : List Int) : Prop := ∃ s, f [.fl (zs.map D.int)] [] = .ok (.bl true) s
theorem spF_law {g : Wd} {f : Fn} {zs : List Int} {a : Addr} {H : Hp} (h : Says f zs) (hS : SqF g.K H a (zs.map V.int)) : spF g f [.ref a] H (fun v _ => v = .bl true) fun _ _ _ => False := by
  obtain ⟨s, e⟩ := h
  refine ⟨⟨[], fun _ => False, fun _ h => h.elim⟩, [.fl (zs.map D.int)], [], .one (by simp only [RV]; exact ⟨a, _, rfl, hS, rvs_ints zs⟩), ⟨rfl, List.nodup_nil, fun p h => h.elim, fun i o p e => by simp at e⟩, ?_⟩
  rw [e]
  intro μ' H' b _ _ r
  simpa only [RV] using r
section
variable {P : Program} {w : World} {K : PySem.W.Frag} {mg mb : Str → Option Value} {k : Nat} {fa a : Addr} {f : Fn} {s₁ : Shared} {vs : List Value} {ns : List Int}
/-- over an abstract heap that has nothing, or the script alone -/
theorem lawAt {H : Hp} (KX : K.In s₁.heap) (hns : s₁.heap.Ns mainGlobals mg) (hb : s₁.heap.Ns builtinsNs mb) (hbb : ∀ x : Str, x ≠ "__name__" → mb x = bootBuiltins x) (hlim : s₁.heap.NoLimit) (hsy : SysB s₁.heap) (hg : s₁.gens = #[])
    (ha : s₁.heap.get? a = some { cls := .type "list", data := .seq vs.toArray }) (hr : Rm k callerA) (F : ∀ base : Heap, K.In base → base.Ns mainGlobals mg → SysB base → FnG P w K mg base k fa (spF ⟨K, mg, P, w⟩ f)) (hsay : Says f ns)
    (hfz : ∀ b u, H b = some u → b = a ∧ K.lookup a = none ∧ ∃ o xs, u = .frz o (.lst xs)) (hS : SqF K H a (ns.map V.int)) (hok : HOk P w H s₁.heap) :
    codeAny (model P w) callerA (.call (.ref fa) ⟨[.ref a], []⟩) (fun r s' => r = .ok (.ret (.bool true)) ∧ OldK s₁.heap s'.heap ∧ s'.os = s₁.os ∧ AllBare s'.gens) s₁ := by
  have free : ∀ {b : Addr} {o : Obj}, s₁.heap.get? b = some o → b ≠ a ∨ K.lookup a ≠ none → H b = none := fun {b o} e ne => by
    cases q : H b with
    | none => rfl
    | some u =>
      obtain ⟨e1, e2, _⟩ := hfz b u q
      rcases ne with ne | ne
      · exact absurd e1 ne
      · exact absurd e2 ne
  have dicts : ∀ {b : Addr} {m : Str → Option Value}, s₁.heap.Ns b m → (hidT s₁.heap H).Ns b m := fun {b m} ⟨o, es, ep, e, d, r⟩ => ⟨o, es, ep, hidT_get e (free e (.inl fun z => by
    rw [z, ha] at e
    cases e
    have d' : Data.seq vs.toArray _ = Data.dict es ep := d
    cases d')), d, r⟩
  have hK : K.In (hidT s₁.heap H) := fun b o e => hidT_get (KX b o e) (free (KX b o e) (by
    by_cases hb : b = a
    · rw [hb] at e
      exact .inr fun z => by rw [e] at z; cases z
    · exact .inl hb))
  have hM : Mod K mg (hidT s₁.heap H) := ⟨hK, dicts hns, ⟨mb, dicts hb, hbb⟩, let ⟨mc, h1, h2⟩ := hlim; ⟨mc, dicts h1, h2⟩⟩
  have e0 : Env0 P w K mg (hidT s₁.heap H) callerA [] s₁ H := ⟨rfl, hM, fun b o e => of_hidT e, Nat.le_of_eq (hidT_size _ _), trivial, fun b hb => absurd (show b ∈ ([] : List Addr) from hb) (by simp), hok, .of_eq hg⟩
  refine codeAny_mono (F _ hK (dicts hns) (let ⟨mm, z⟩ := hsy; ⟨mm, dicts z⟩) callerA [] s₁ H [.ref a] [.ref a] _ _ hr e0 (.cons rfl .nil) (spF_law hsay hS)) fun r s' h => ?_
  cases r with
  | error e =>
    obtain ⟨_, _, _, _, _, _, _, _, _, _, _, _, hE⟩ := h
    exact hE.elim
  | ok fl =>
    cases fl with
    | ret u =>
      obtain ⟨v, H', os, bare, un, hok', r', q⟩ := h
      obtain rfl : v = .bl true := q
      obtain rfl : u = Value.bool true := r'
      refine ⟨rfl, OldK.of_keep fun b o e => ?_, os, bare⟩
      cases q : H b with
      | none => exact un.keep b o e q (fun z => by cases z) (by simp)
      | some u =>
        obtain ⟨_, _, ob, xs, rfl⟩ := hfz b u q
        obtain ⟨e1, _⟩ := hok b _ q
        obtain ⟨e2, _⟩ := hok' b _ (un.frzs b ob _ q)
        rw [e] at e1; cases e1
        exact e2
    | _ => exact False.elim h
theorem lawCall (KX : K.In s₁.heap) (hns : s₁.heap.Ns mainGlobals mg) (hb : s₁.heap.Ns builtinsNs mb) (hbb : ∀ x : Str, x ≠ "__name__" → mb x = bootBuiltins x) (hlim : s₁.heap.NoLimit) (hsy : SysB s₁.heap) (hg : s₁.gens = #[])
    (ha : s₁.heap.get? a = some { cls := .type "list", data := .seq vs.toArray }) (hi : IntsAre vs ns) (hl : ns.length ≤ sizeLine) (hr : Rm k callerA) (F : ∀ base : Heap, K.In base → base.Ns mainGlobals mg → SysB base → FnG P w K mg base k fa (spF ⟨K, mg, P, w⟩ f)) (hsay : Says f ns) :
    codeAny (model P w) callerA (.call (.ref fa) ⟨[.ref a], []⟩) (fun r s' => r = .ok (.ret (.bool true)) ∧ OldK s₁.heap s'.heap ∧ s'.os = s₁.os ∧ AllBare s'.gens) s₁ := by
  have rv := vals_ints hi
  cases hk : K.lookup a with
  | some o =>
    have e := KX a o hk
    rw [ha] at e
    cases e
    exact lawAt (H := fun _ => none) KX hns hb hbb hlim hsy hg ha hr F hsay (fun b u z => nomatch z) (.inr ⟨_, vs.toArray, _, hk, rfl, rfl, rfl, by rw [List.size_toArray, hi.length]; exact hl, by simpa using rv⟩) (fun b u z => nomatch z)
  | none =>
    have at1 : ∀ {b : Addr} {u : HO}, upd (fun _ => none) a (.frz { cls := .type "list", data := .seq vs.toArray } (.lst (ns.map V.int))) b = some u → b = a ∧ u = .frz { cls := .type "list", data := .seq vs.toArray } (.lst (ns.map V.int)) := fun {b u} z => by
      by_cases hb : b = a
      · subst hb
        rw [upd_same] at z
        exact ⟨rfl, (Option.some.inj z).symm⟩
      · rw [upd_ne hb] at z; cases z
    refine lawAt (H := upd (fun _ => none) a (.frz { cls := .type "list", data := .seq vs.toArray } (.lst (ns.map V.int)))) KX hns hb hbb hlim hsy hg ha hr F hsay (fun b u z => ?_) (.inl ⟨_, upd_same⟩) fun b u z => ?_
    · obtain ⟨e1, e2⟩ := at1 z
      exact ⟨e1, hk, _, _, e2⟩
    · obtain ⟨rfl, rfl⟩ := at1 z
      exact ⟨ha, by rw [List.length_map]; exact hl, vs, _, rv, ha⟩
end
theorem lawWalk {l : PySem.W.OpenLaw} {n k : Nat} {q : Program} {loose : List Str} {XP : (Str → Option Value) → Heap → Prop} {YP : World → Heap → Prop} {d : DefRec} {K : Params → PySem.W.Frag} {f : Fn}
    (hi : importsNone q = true) (hn : l.most = some n) (hn2 : n ≤ sizeLine) (hdf : d.params.defaults = []) (hr : Rm k callerA) (hY : ∀ (w : World) (h : Heap), YP w h → (K w.params).In h)
    (F : ∀ (w : World) (mg : Str → Option Value) (h : Heap), (K w.params).In h → h.Ns mainGlobals mg → ∀ base : Heap, (K w.params).In base → base.Ns mainGlobals mg → SysB base → DefOk l.prog w (K w.params) mg base k d.name f)
    (hsay : ∀ ns : List Int, ns.length ≤ n → Says f ns) : PySem.W.WalkO q loose XP YP l.row.toRowW d [] (fun f vs => PySem.call f vs) := by
  refine Att.attach_call hn hdf fun w s₀ s₁ mg mb fa o pm cd doc a vs ns G Y ho hd hcd hmg hobj hints hlen hg => ?_
  have KX := hY w _ Y
  refine lawCall KX G.T.g G.T.b G.T.builtins G.T.nolimit (let ⟨mm, z, _⟩ := (G.T.seer hi).mods; ⟨mm, z⟩) hg hobj hints (Nat.le_trans hlen hn2) hr (fun base h1 h2 h3 => ?_) (hsay ns hlen)
  obtain ⟨fa', e, _, FF⟩ := (F w mg _ KX G.T.g base h1 h2 h3).ex
  rw [hmg] at e
  cases e
  exact FF
end Fv

namespace Fv
open PySem PySem.Spec PyProof.Rows L2
/-! ### str() -/
def strF : Fn := fun ds s => match ds with
  | [.int i] => if decide (i.natAbs.log2 < 1920) then .ok (.str (toString i : String)) s else .bad
  | [.str y] => .ok (.str y) s
  | _ => .bad
theorem qc_str {X : Cx} : CallR X (.type "str") (rC (wd X) strF) := by
  intro pins sh σ H xs us Q I rv ⟨μ, s, ds, hs, r, W, σ', h⟩
  unfold strF at h
  split at h
  · obtain ⟨x, rfl, r1⟩ := r.inv1
    have r1 := r1.light rfl
    simp only [RV] at r1; subst r1
    split at h
    · rename_i hz
      exact call_str_int pins sh σ H _ us Q I rv ⟨_, rfl, of_decide_eq_true hz, rf_str h hs⟩
    · exact h.elim
  · obtain ⟨x, rfl, r1⟩ := r.inv1
    have r1 := r1.light rfl
    simp only [RV] at r1; subst r1
    exact SkE.call_str_str pins sh σ H _ us Q I rv ⟨_, rfl, rf_str h hs⟩
  · exact h.elim
/-! ### an exception class without a maker of its own, called with nothing -/
def exqE (c : Tx) : E := fun _ s => .ok (.exq c) s
structure ExqC (K : PySem.W.Frag) (C : Addr) : Prop where
  q : ∃ bmB, PySem.W.excIn K C bmB "ValueError.__new__" = true ∧ ExcBaseFacts "ValueError" "ValueError.__new__" "ValueError.__init__" bmB
  k : PySem.W.keepIn K (.ref C) = true
theorem q_exq {X : Cx} {W : WX} {x : Str} {C : Addr} {p pos : Pos} (T : ExqC X.K C) (hm : X.mg x = some (.ref C)) (hg : Gl X x := by rfl) (hdb : (x == ("__debug__" : Str)) = false := by decide) : PE X (.Call (.Name x p) [] [] pos) (liftE (wd X) W (exqE x)) := by
  obtain ⟨bmB, q, Fb⟩ := T.q
  refine ⟨fun pins sh σ H Q I ⟨F0, μ, ρ, s, hρ, hs, h⟩ => ?_⟩
  refine wpAny_Call_Name_kw (ld_glob I hg hm ?_ hdb)
  refine PySem.W.callWith_K0 I.kIn T.k ?_
  show wpAny _ _ (call (.ref C) []) _ _ _
  obtain ⟨bm, N, nm, qn, bs, hdct, sn, sub, ab, col, dd, k0, k1, k2, k3, k5, mN, hC, hN, hni, T2⟩ := exc_obj I.kIn q
  refine wpAny_call_exc_subT Fb T2 hC hN hni (fun h' a hm2 => ?_) (by show 0 ≤ sizeLine; exact Nat.zero_le _)
  have hn : H a = none := I.hok.gone hm2.new
  obtain ⟨t, ht, _, _⟩ := hm2.there
  have nm : a ∉ μ.m := hs.nmem hn
  have x1 : Ex Fn0 μ H μ (upd H a (exq a C)) := ex_new hn
  have xx : Ex Fn0 μ H (μ.frz a nm) (upd H a (exq a C)) := ⟨⟨[], by simp [M.frz]⟩, x1.trk, x1.tup, x1.frz, x1.oth, fun _ h => .inl h, fun q hq => hq.elim .inl fun e => .inr (.inr (e ▸ hn))⟩
  refine ⟨.ref a, upd H a (exq a C), I.laidN hm2.keeps hm2.new hn (exq_ok ht ⟨rfl, rfl⟩ rfl), rfl, ?_⟩
  exact (show runs (wd X) W σ μ H (RV (wd X)) Q (.ok (.exq x) s) from h) (μ.frz a nm) _ _ xx ((hs.new hn).frz nm ⟨_, upd_same⟩) (by simp only [RV]; exact ⟨a, C, rfl, .inr rfl, hm, upd_same⟩)
/-! ### what the top has written -/
structure DefAt (K : PySem.W.Frag) (mg : Str → Option Value) (x : Str) (st : Stmt) (ps : List Str) : Prop where
  ex : ∃ (fa : Addr) (fd : FuncData), mg x = some (.ref fa) ∧ Fun K x x st fa fd ∧ Binds K fd ps []
theorem binds_zip {K : PySem.W.Frag} {fd : FuncData} {ps : List Str} (b : Binds K fd ps []) (s : Shared) (us : List Value) (h : K.In s.heap) (hl : us.length = ps.length) : BindsTo s fd ⟨us, []⟩ (ps.zip us) := by
  have z := b s us h (by rw [List.append_nil]; exact hl)
  rw [List.append_nil] at z
  exact z
theorem mkFn_len {n N : Nat} {body : C} {ds : List D} {s : S} (h : mkFn n N body ds s ≠ .bad) : ds.length = n := by
  unfold mkFn at h
  split at h
  · rename_i e; exact of_decide_eq_true e
  · exact absurd rfl h
/-- an own exception class with a maker in the written part -/
structure ExcAt (K : PySem.W.Frag) (mg : Str → Option Value) (c qual : Str) (st : Stmt) (ps : List Str) (C : Addr) : Prop where
  gC : mg c = some (.ref C)
  T : OexC K C
  ini : ∃ (fI : Addr) (fd : FuncData), PySem.W.findIn K (.ref C) "__init__" = some (some (.ref fI)) ∧ PySem.W.typeIn K (.ref fI) = some (.type "function") ∧ Fun K "__init__" qual st fI fd ∧ Binds K fd (("self" : Str) :: ps) [] ∧
    (∀ (s : Shared) (u : Value) (ws : List Value), ws.length = ps.length → BindsTo s fd ⟨[u], ps.zip ws⟩ ((("self" : Str) :: ps).zip (u :: ws))) ∧
    ∀ (s : Shared) (u : Value) (ws : List Value), ws.length = ps.length → BindsTo s fd ⟨[u], ps.reverse.zip ws⟩ ((("self" : Str) :: ps).zip (u :: ws.reverse))
  X : ExcC K C
structure BaseAt (K : PySem.W.Frag) (mg : Str → Option Value) (c : Str) (C0 : Addr) : Prop where
  gC : mg c = some (.ref C0)
  sp : PySem.W.specialIn K (.ref C0) "__getattribute__" = some (some (.builtin "type.__getattribute__"))
  rd : PySem.W.readsIn K C0 (.type "type") = true
  vV : PySem.W.findCls K (.ref C0) (.type "type") "__init__" = some (.val (.builtin "ValueError.__init__"))
section
variable {P : Program} {w : World} {K : PySem.W.Frag} {mg : Str → Option Value} {base : Heap} {k : Nat} {x : Str} {st : Stmt} {ps N : List Str} {n nN : Nat} {body : C}
theorem DefAt.ok (T : DefAt K mg x st ps) (S : FnScope N ps (defScope st)) (hnN : N.length = nN) (hn : ps.length = n)
    (hbody : ∀ (fa : Addr) (cdv : Value) (A : Around) (outer : List PySem.Env) (s : Shared) (H : Hp) (E : XK) (Fr : Addr → Prop), Rm k (A.deeper (envOfC x (defScope st) s.heap.objs.size fa cdv)) →
      QSs (cxOf (L2.CX P w) P w K mg base N x (defScope st) fa cdv A outer s H E) (fun c d _ H => E c d H) Fr (defBody st) body) : DefOk P w K mg base (k + 1) x (mkFn n nN body) := by
  obtain ⟨fa, fd, hm, F, b⟩ := T.ex
  exact ⟨fa, hm, F.kp, def_g F S hnN hn (binds_zip b) (hbody fa)⟩
theorem ExcAt.made {c qual : Str} {C : Addr} (T : ExcAt K mg c qual st ps C) (S : FnScope N (("self" : Str) :: ps) (defScope st)) (hnN : N.length = nN) (hn : (("self" : Str) :: ps).length = n)
    (hbody : ∀ (fa : Addr) (cdv : Value) (A : Around) (outer : List PySem.Env) (s : Shared) (H : Hp) (E : XK) (Fr : Addr → Prop), Rm k (A.deeper (envOfC qual (defScope st) s.heap.objs.size fa cdv)) →
      QSs (cxOf (L2.CX P w) P w K mg base N qual (defScope st) fa cdv A outer s H E) (fun c d _ H => E c d H) Fr (defBody st) body) :
    ExOk P w K mg base (k + 1) c (mkFn n nN body) ps := by
  obtain ⟨fI, fd, h1, h2, F, b, k1, k2⟩ := T.ini
  exact ⟨C, fI, fd, T.gC, T.T, h1, h2, def_b F S hnN hn (hbody fI), b, k1, k2⟩
end
end Fv

namespace PyProof.Rows
open PySem
/-! ### a whole number and a truth compared -/
theorem fvlt_bi (p : Bool) (k : Int) (u : Tok) : Gives (Builtin.«int.__lt__» ⟨[.bool p, .int k u], []⟩) (.val (Value.bool (decide ((if p = true then (1 : Int) else 0) < k)))) :=
  .of_wp fun M A E s Q hyp => by obtain ⟨h, g, d, t, os⟩ := s; wp_walk; exact ⟨_, rfl, hyp⟩
theorem fvgt_bi (p : Bool) (k : Int) (u : Tok) : Gives (Builtin.«int.__gt__» ⟨[.bool p, .int k u], []⟩) (.val (Value.bool (decide ((if p = true then (1 : Int) else 0) > k)))) :=
  .of_wp fun M A E s Q hyp => by obtain ⟨h, g, d, t, os⟩ := s; wp_walk; exact ⟨_, rfl, hyp⟩
theorem sub_ib : isSubtype (.type "int") (.type "bool") = pure false := by kernel_rfl
section
variable {prog : Program} {w : World} {A : Around} {E : Value → Shared → Prop} {s : Shared} {p : Bool} {k : Int} {u : Tok} {Q : Value → Shared → Prop}
theorem lt_bi (hyp : Q (.bool (decide ((if p = true then (1 : Int) else 0) < k))) s) : wpAny (model prog w) A (compareOp .Lt (.bool p) (.int k u)) Q E s := by
  show wpAny _ A (richCompare .Lt _ _) Q E s
  exact wpAny_richCompare_left (typeIs_bool' s p) (typeIs_int s k u) (by decide) sub_ib F.slot_bool_lt
    (call_gives F.slot_bool_lt (typeIs_bool' s p) F.entry_int_lt (F.args_int_lt_2 _ _) (fvlt_bi p k u) ⟨nofun, hyp⟩)
/-- the truth's class is below the number's: it is asked first, the other way round -/
theorem lt_ib (hyp : Q (.bool (decide ((if p = true then (1 : Int) else 0) > k))) s) : wpAny (model prog w) A (compareOp .Lt (.int k u) (.bool p)) Q E s := by
  show wpAny _ A (richCompare .Lt _ _) Q E s
  have hv : [Value.int k u, Value.bool p].any Value.onHeap = false := rfl
  have ta := typeIs_int s k u
  have tb := typeIs_bool' s p
  simp only [richCompare, cmpInfo, ta.oneThing_none]
  try with_reducible refine wpAny_holding ?_
  simp only [cRoomFor, hv, Bool.false_eq_true, if_false, pure_bind]
  refine wpAny_bind (wpAny_typeOf ta (wpAny_bind (wpAny_typeOf tb ?_)))
  simp only [show (Value.type "int" != Value.type "bool") = true from by decide, if_true]
  refine wpAny_bind (wpAny_of_eq isSubtype_bool_int ?_)
  simp only [if_true]
  refine wpAny_bind (wpAny_tryCompare_slot tb F.slot_bool_gt (call_gives F.slot_bool_gt tb F.entry_int_gt (F.args_int_gt_2 _ _) (fvgt_bi p k u) ⟨nofun, ?_⟩))
  first
    | exact wpAny_pure hyp
    | exact wpAny_bind (wpAny_pure (wpAny_pure hyp))
    | (wp_walk; exact hyp)
end
end PyProof.Rows
namespace Fv
open PySem PySem.Spec PyProof.Rows L2
def ltbD (x y : D) (s : S) : R D := match x, y with
  | .int i, .bl j => .ok (.bl (decide (i < b2I j))) s
  | .bl i, .int j => .ok (.bl (decide (b2I i < j))) s
  | x, y => ltD x y s
theorem qo_ltb {X : Cx} : QOp X (compareOp .Lt) ltbD := by
  intro pins sh σ H x y v u Q I rx ry ⟨μ, s, d, e, hs, r1, r2, W, σ', h⟩
  unfold ltbD at h
  split at h
  · rename_i i j
    obtain rfl := w_int r1; obtain rfl := w_bl r2
    obtain ⟨t, rfl⟩ := (show ∃ t, v = Value.int i t from rx)
    obtain rfl : u = Value.bool j := ry
    have z := rf_bl h hs
    exact lt_ib ⟨.bl _, H, I, rfl, by cases j <;> simpa [b2I] using z⟩
  · rename_i i j
    obtain rfl := w_bl r1; obtain rfl := w_int r2
    obtain ⟨t, rfl⟩ := (show ∃ t, u = Value.int j t from ry)
    obtain rfl : v = Value.bool i := rx
    have z := rf_bl h hs
    exact lt_bi ⟨.bl _, H, I, rfl, by cases i <;> simpa [b2I] using z⟩
  · exact qo_lt pins sh σ H x y v u Q I rx ry ⟨μ, s, d, e, hs, r1, r2, W, σ', h⟩
def strbF : Fn := fun ds s => match ds with
  | [.bl b] => .ok (.str (if b then "True" else "False")) s
  | ds => strF ds s
theorem qc_strb {X : Cx} : CallR X (.type "str") (rC (wd X) strbF) := by
  intro pins sh σ H xs us Q I rv ⟨μ, s, ds, hs, r, W, σ', h⟩
  unfold strbF at h
  split at h
  · rename_i b
    obtain ⟨x, rfl, r1⟩ := r.inv1
    have r1 := r1.light rfl
    simp only [RV] at r1; subst r1
    obtain ⟨u, rfl, ru⟩ := vals1 rv
    obtain rfl : u = Value.bool b := ru
    exact PySem.P.str_of_bool ⟨.str _, H, I.tok _, ⟨_, by cases b <;> rfl⟩, rf_str h hs⟩
  · exact qc_str pins sh σ H xs us Q I rv ⟨μ, s, _, hs, r, W, σ', h⟩
end Fv

namespace Fv
open PySem PySem.Spec PyProof.Rows L2
/-! ### a table of kinds -/
def isaB (t c : String) : Bool := t == c || (t == "bool" && c == "int")
def tyNames : List String := ["int", "str", "bool", "list", "tuple", "dict"]
theorem kit_bb {K : PySem.W.Frag} {t c : String} (ht : t ∈ cnN) (hc : c ∈ tyNames) : PySem.W.kitOne K (.type t) (.type c) = some (isaB t c) := by
  simp only [tyNames, cnN, List.mem_cons, List.not_mem_nil, or_false] at ht hc
  rcases ht with rfl | rfl | rfl | rfl | rfl | rfl | rfl <;> rcases hc with rfl | rfl | rfl | rfl | rfl | rfl <;> rfl
/-- own classes cn: rows, which of them each one is below; brows: the same for the built-in ones bn -/
def matT (cn : List Tx) (rows : List (List Bool)) (bn : List String) (brows : List (List Bool)) : KT := fun k c => match k, c with
  | .b a, .b n => if a ∈ cnN ∧ n ∈ tyNames then some (isaB a n) else none
  | .o x, .o y => ((cn.zip rows).lookup x).bind fun r => (cn.zip r).lookup y
  | .o x, .b n => ((cn.zip brows).lookup x).bind fun r => (bn.zip r).lookup n
  | _, _ => none
theorem look3 {α β : Type} {x : Tx} : ∀ {cn : List Tx} {ca : List α} {rows : List β} {r : β}, cn.length = ca.length → (cn.zip rows).lookup x = some r → ∃ a, (x, a) ∈ cn.zip ca ∧ (a, r) ∈ ca.zip rows
  | [], _, _, _, _, h => by simp at h
  | c :: cn, [], _, _, l, _ => by cases l
  | c :: cn, a :: ca, [], _, _, h => by simp at h
  | c :: cn, a :: ca, q :: rows, r, l, h => by
    rw [List.zip_cons_cons, lk] at h
    by_cases hx : x = c
    · subst hx
      rw [if_pos rfl] at h; cases h
      exact ⟨a, by simp, by simp⟩
    · rw [if_neg hx] at h
      obtain ⟨b, h1, h2⟩ := look3 (Nat.succ.inj l) h
      exact ⟨b, by simp [h1], by simp [h2]⟩
theorem look2 {β : Type} {n : String} : ∀ {bn : List String} {r : List β} {b : β}, (bn.zip r).lookup n = some b → (n, b) ∈ bn.zip r
  | [], _, _, h => by simp at h
  | c :: bn, [], _, h => by simp at h
  | c :: bn, q :: r, b, h => by
    rw [List.zip_cons_cons, List.lookup_cons] at h
    by_cases hx : n = c
    · subst hx
      simp at h; subst h
      simp
    · have : (n == c) = false := by simpa using hx
      rw [this] at h
      simp [look2 h]
def matOk (K : PySem.W.Frag) (ca : List Addr) (rows : List (List Bool)) : Bool := (ca.zip rows).all fun r => (ca.zip r.2).all fun q => decide (PySem.W.kitOne K (.ref r.1) (.ref q.1) = some q.2)
def bmatOk (K : PySem.W.Frag) (ca : List Addr) (bn : List String) (rows : List (List Bool)) : Bool := (ca.zip rows).all fun r => (bn.zip r.2).all fun q => decide (PySem.W.kitOne K (.ref r.1) (.type q.1) = some q.2)
theorem isT_mat {K : PySem.W.Frag} {mg : Str → Option Value} {cn : List Tx} {ca : List Addr} {rows brows : List (List Bool)} {bn : List String} (hl : cn.length = ca.length) (hm : ∀ p ∈ cn.zip ca, mg p.1 = some (.ref p.2))
    (h1 : matOk K ca rows = true) (h2 : bmatOk K ca bn brows = true) : IsT K mg (matT cn rows bn brows) := by
  have at_ : ∀ {x : Tx} {a : Addr} {t : Value}, (x, a) ∈ cn.zip ca → KdV mg (.o x) t → t = .ref a := fun {x a t} h ⟨C, e, z⟩ => by
    have := hm _ h
    simp only at this
    rw [this] at e; cases e
    exact z
  intro k c b e t u kt ku
  cases k with
  | b a =>
    cases c with
    | b n =>
      simp only [matT] at e
      split at e
      · rename_i hc
        cases e
        obtain rfl : t = .type a := kt
        obtain rfl : u = .type n := ku
        exact kit_bb hc.1 hc.2
      · cases e
    | o y => simp [matT] at e
  | o x =>
    cases c with
    | b n =>
      simp only [matT, Option.bind_eq_some_iff] at e
      obtain ⟨r, e1, e2⟩ := e
      obtain ⟨a, m1, m2⟩ := look3 (ca := ca) hl e1
      have q := look2 e2
      obtain rfl := at_ m1 kt
      obtain rfl : u = .type n := ku
      have z := List.all_eq_true.mp (List.all_eq_true.mp h2 _ m2) _ q
      exact of_decide_eq_true z
    | o y =>
      simp only [matT, Option.bind_eq_some_iff] at e
      obtain ⟨r, e1, e2⟩ := e
      obtain ⟨a, m1, m2⟩ := look3 (ca := ca) hl e1
      obtain ⟨a', m3, m4⟩ := look3 (ca := ca) hl e2
      obtain rfl := at_ m1 kt
      obtain rfl := at_ m3 ku
      have z := List.all_eq_true.mp (List.all_eq_true.mp h1 _ m2) _ m4
      exact of_decide_eq_true z
theorem Rm.u65 {k : Nat} {A : Around} (r : Rm k A) : A.units + 65 < cLine := by have := r.r.un; omega
theorem XfC.of {K : PySem.W.Frag} {C : Addr} (T : ExcC K C) : XfC K C := ⟨T.hg, T.hk, T.hs, T.hd⟩
end Fv

namespace Fv
open PySem PySem.Spec L2
/-! ### plain facts -/
theorem seq_nx {a b : C} {ρ ρ' : En} {s s' : S} (h : a ρ s = .nx ρ' s') : seqS a b ρ s = b ρ' s' := by simp only [seqS, h, RS.next]
theorem seq_rt {a b : C} {ρ : En} {s s' : S} {d : D} (h : a ρ s = .rt d s') : seqS a b ρ s = .rt d s' := by simp only [seqS, h, RS.next]
theorem mulS {i j : Int} (h : i.natAbs < 2 ^ 200) (k : j.natAbs < 2 ^ 200) : mulOk i j = true := by
  have a : i.natAbs.log2 < 250 := by
    by_cases z : i.natAbs = 0
    · rw [z]; decide
    · exact (Nat.log2_lt z).mpr (Nat.lt_of_lt_of_le h (Nat.pow_le_pow_right (by decide) (by decide)))
  have b : j.natAbs.log2 < 250 := by
    by_cases z : j.natAbs = 0
    · rw [z]; decide
    · exact (Nat.log2_lt z).mpr (Nat.lt_of_lt_of_le k (Nat.pow_le_pow_right (by decide) (by decide)))
  simp only [mulOk, decide_eq_true_eq]
  omega
theorem szlS {n : Nat} (h : n ≤ 16777216) : szl n = true := by
  simp only [szl, decide_eq_true_eq]
  exact Nat.le_trans h (by decide)
theorem toPws_ints (rf : Nat → Option PyData) : ∀ zs : List Int, toPws rf (zs.map D.int) = some (zs.map PyData.int)
  | [] => rfl
  | z :: zs => by simp [toPws, toPw, toPws_ints rf zs]
theorem lay_ints : ∀ zs : List Int, PyData.canLayAll0 (zs.map PyData.int) = true ∧ PyData.depthAll (zs.map PyData.int) = 0
  | [] => by simp [PyData.canLayAll0, PyData.depthAll]
  | z :: zs => by simp [PyData.canLayAll0, PyData.depthAll, PyData.canLay0, PyData.depth, lay_ints zs]
theorem shaped_ints (zs : List Int) : SeqAt.shaped (.list (zs.map PyData.int)) = true := by
  simp [SeqAt.shaped, PyData.canLay0, PyData.depth, lay_ints zs]
theorem ne_nil {s : S} {zs : List Int} : neD (.lst (zs.map D.int)) (.lst []) s = .ok (.bl (decide (zs ≠ []))) s := by
  have t1 : toP s (.lst (zs.map D.int)) = some (.list (zs.map PyData.int)) := by simp [toP, toPw, toPws_ints]
  have t2 : toP s (.lst []) = some (.list []) := by simp [toP, toPw, toPws]
  have s1 := shaped_ints zs
  have s2 : SeqAt.shaped (.list []) = true := shaped_ints []
  simp only [neD, eqB, scE, t1, t2, s1, s2, Bool.and_self, if_true]
  cases zs <;> simp [PyData.eqv, PyData.eqvAll]
theorem at_nat {α : Type} {xs : List α} {i : Int} (h0 : 0 ≤ i) (h1 : i < xs.length) : ∃ v, xs[i.toNat]? = some v ∧ atI xs i = some v := by
  have hl : i.toNat < xs.length := by omega
  refine ⟨xs[i.toNat], List.getElem?_eq_getElem hl, ?_⟩
  have z := atI_nat (xs := xs) (j := i.toNat) (List.getElem?_eq_getElem hl)
  rwa [Int.toNat_of_nonneg h0] at z
/-! ### the pool that a law draws from: the first of the store -/
def Pl (zs : List Int) (t r : Int) (s : S) : S := .lst [.lst (zs.map D.int), .int t, .int r] :: s
theorem pl0 {zs : List Int} {t r : Int} {s : S} : (Pl zs t r s)[0]? = some (.lst [.lst (zs.map D.int), .int t, .int r]) := rfl
/-- drawn so far at most m times -/
def PlOk (m t r : Int) : Prop := 0 ≤ t ∧ t ≤ m ∧ 0 ≤ r
end Fv

namespace K00
open PySem PySem.Spec PyProof.Rows L2 Fv
def top (i : Nat) : Stmt := PySem.Challenge.pw_sayable_k00_errors_keep_their_fields.main.body.getD i (.Pass ⟨0, 0, 0, 0⟩)
def clsBody : Stmt → List Stmt
  | .ClassDef _ _ _ b _ _ _ _ _ _ _ => b
  | _ => []
theorem cls_cons {mg : Str → Option Value} {c : Tx} {C0 : Addr} {cs : List Tx} {p : Addr → Prop} (h : mg c = some (.ref C0)) (hp : p C0) (r : ∀ c ∈ cs, ∀ C, mg c = some (.ref C) → p C) : ∀ c' ∈ c :: cs, ∀ C, mg c' = some (.ref C) → p C := by
  intro c' hc C e
  rcases List.mem_cons.mp hc with hc | hc
  · subst hc
    rw [h] at e; cases e
    exact hp
  · exact r c' hc C e
def xrows : List (List Bool) := [[true, false, false, false, false, false, false, false, false, false, false, false, false, false, false, false, false, false, false, false, false, false, false, false, false, false, false], [true, true, false, false, false, false, false, false, false, false, false, false, false, false, false, false, false, false, false, false, false, false, false, false, false, false, false], [true, false, true, false, false, false, false, false, false, false, false, false, false, false, false, false, false, false, false, false, false, false, false, false, false, false, false], [true, false, false, true, false, false, false, false, false, false, false, false, false, false, false, false, false, false, false, false, false, false, false, false, false, false, false], [true, false, false, false, true, false, false, false, false, false, false, false, false, false, false, false, false, false, false, false, false, false, false, false, false, false, false], [true, false, false, false, false, true, false, false, false, false, false, false, false, false, false, false, false, false, false, false, false, false, false, false, false, false, false], [true, false, false, false, false, false, true, false, false, false, false, false, false, false, false, false, false, false, false, false, false, false, false, false, false, false, false], [true, false, false, false, false, false, false, true, false, false, false, false, false, false, false, false, false, false, false, false, false, false, false, false, false, false, false], [true, false, false, false, false, false, false, false, true, false, false, false, false, false, false, false, false, false, false, false, false, false, false, false, false, false, false], [true, false, false, false, false, false, false, false, false, true, false, false, false, false, false, false, false, false, false, false, false, false, false, false, false, false, false], [true, false, false, false, false, false, false, false, false, false, true, false, false, false, false, false, false, false, false, false, false, false, false, false, false, false, false], [true, false, false, false, false, false, false, false, false, false, false, true, false, false, false, false, false, false, false, false, false, false, false, false, false, false, false], [true, false, false, false, false, false, false, false, false, false, false, false, true, false, false, false, false, false, false, false, false, false, false, false, false, false, false], [true, false, false, false, false, false, false, false, false, false, false, false, false, true, false, false, false, false, false, false, false, false, false, false, false, false, false], [true, false, false, false, false, false, false, false, false, false, false, false, false, true, true, false, false, false, false, false, false, false, false, false, false, false, false], [true, false, false, false, false, false, false, false, false, false, false, false, false, true, false, true, false, false, false, false, false, false, false, false, false, false, false], [true, false, false, false, false, false, false, false, false, false, false, false, false, true, false, false, true, false, false, false, false, false, false, false, false, false, false], [true, false, false, false, false, false, false, false, false, false, false, false, false, true, false, false, false, true, false, false, false, false, false, false, false, false, false], [true, false, false, false, false, false, false, false, false, false, false, false, false, true, false, false, false, false, true, false, false, false, false, false, false, false, false], [true, false, false, false, false, false, false, false, false, false, false, false, false, true, false, false, false, false, false, true, false, false, false, false, false, false, false], [true, false, false, false, false, false, false, false, false, false, false, false, false, false, false, false, false, false, false, false, true, false, false, false, false, false, false], [true, false, false, false, false, false, false, false, false, false, false, false, false, false, false, false, false, false, false, false, false, true, false, false, false, false, false], [true, false, false, false, false, false, false, false, false, false, false, false, false, false, false, false, false, false, false, false, false, false, true, false, false, false, false], [true, false, false, false, false, false, false, false, false, false, false, false, false, false, false, false, false, false, false, false, false, false, false, true, false, false, false], [true, false, false, false, false, false, false, false, false, false, false, false, false, false, false, false, false, false, false, false, false, false, false, false, true, false, false], [true, false, false, false, false, false, false, false, false, false, false, false, false, false, false, false, false, false, false, false, false, false, false, false, false, true, false], [true, false, false, false, false, false, false, false, false, false, false, false, false, false, false, false, false, false, false, false, false, false, false, false, false, false, true]]
def brows : List (List Bool) := [[true, false, false, false, false, false], [true, false, false, false, false, false], [true, false, false, false, false, false], [true, false, false, false, false, false], [true, false, false, false, false, false], [true, false, false, false, false, false], [true, false, false, false, false, false], [true, false, false, false, false, false], [true, false, false, false, false, false], [true, false, false, false, false, false], [true, false, false, false, false, false], [true, false, false, false, false, false], [true, false, false, false, false, false], [true, false, false, false, false, false], [true, false, false, false, false, false], [true, false, false, false, false, false], [true, false, false, false, false, false], [true, false, false, false, false, false], [true, false, false, false, false, false], [true, false, false, false, false, false], [true, false, false, false, false, false], [true, false, false, false, false, false], [true, false, false, false, false, false], [true, false, false, false, false, false], [true, false, false, false, false, false], [true, false, false, false, false, false], [true, false, false, false, false, false]]
def xcs : List Tx := ["SayError", "BadRoom", "BadDeed", "BadLoose", "BadSaying", "BadBook", "BadPlace", "BadTie", "BadPriced", "BadTalk", "BadTeller", "BadTranslation", "BadNumbers", "Missing", "NoThing", "NoWord", "NoLink", "NoScale", "NoWay", "NoName", "NotLet", "Twice", "Unlike", "Nothing", "TooMany", "BadText", "BadLine"]
def xis : List Tx := ["BadRoom", "BadDeed", "BadLoose", "BadSaying", "BadBook", "BadPlace", "BadTie", "BadPriced", "BadTalk", "BadTeller", "BadTranslation", "BadNumbers", "Missing", "NoThing", "NoWord", "NoLink", "NoScale", "NoWay", "NoName", "NotLet", "Twice", "Unlike", "Nothing", "TooMany", "BadText", "BadLine"]
def bxs : List String := ["ValueError", "LookupError", "TypeError", "ArithmeticError", "RuntimeError", "AttributeError"]
def ktb : KT := matT xcs xrows bxs brows
def isiK : Fn := isiF [] xis ktb
def xc_part : List Tx := ["BadRoom", "BadDeed", "BadLoose", "BadSaying", "BadBook", "BadPlace", "BadTie", "BadPriced", "BadTalk", "BadTeller", "BadTranslation", "BadNumbers"]
def xc_name : List Tx := ["Missing", "NoThing", "NoWord", "NoLink", "NoScale", "NoWay", "NoName", "Twice"]
def xc_way : List Tx := ["NotLet"]
def xc_kind : List Tx := ["NotLet"]
def xc_what : List Tx := ["Unlike", "TooMany"]
def xc_most : List Tx := ["TooMany"]
def xc_line : List Tx := ["BadText", "BadLine"]
def xc_word : List Tx := ["BadText"]
def xc_error : List Tx := ["BadLine"]
def sh_BadRoom : List Tx := ["BadRoom"]
def sh_BadDeed : List Tx := ["BadDeed"]
def sh_BadLoose : List Tx := ["BadLoose"]
def sh_BadSaying : List Tx := ["BadSaying"]
def sh_BadBook : List Tx := ["BadBook"]
def sh_BadPlace : List Tx := ["BadPlace"]
def sh_BadTie : List Tx := ["BadTie"]
def sh_BadPriced : List Tx := ["BadPriced"]
def sh_BadTalk : List Tx := ["BadTalk"]
def sh_BadTeller : List Tx := ["BadTeller"]
def sh_BadTranslation : List Tx := ["BadTranslation"]
def sh_BadNumbers : List Tx := ["BadNumbers"]
def sh_Missing : List Tx := ["Missing", "NoThing", "NoWord", "NoLink", "NoScale", "NoWay", "NoName"]
def sh_NotLet : List Tx := ["NotLet"]
def sh_Twice : List Tx := ["Twice"]
def sh_Unlike : List Tx := ["Unlike"]
def sh_TooMany : List Tx := ["TooMany"]
def sh_BadText : List Tx := ["BadText"]
def sh_BadLine : List Tx := ["BadLine"]
structure Txt (K : PySem.W.Frag) (mg : Str → Option Value) where
  d_shown : DefAt K mg "_shown" (top 1) ["value"]
  a_SayError : Addr
  g_SayError : mg "SayError" = some (.ref a_SayError)
  C_SayError : BaseAt K mg "SayError" a_SayError
  a_BadRoom : Addr
  g_BadRoom : mg "BadRoom" = some (.ref a_BadRoom)
  C_BadRoom : ExcAt K mg "BadRoom" "BadRoom.__init__" ((clsBody (top 3)).getD 0 (.Pass ⟨0, 0, 0, 0⟩)) ["part"] a_BadRoom
  n_BadRoom_part : PySem.W.findIn K (.ref a_BadRoom) "part" = some none
  x_BadRoom : ExcC K a_BadRoom
  a_BadDeed : Addr
  g_BadDeed : mg "BadDeed" = some (.ref a_BadDeed)
  C_BadDeed : ExcAt K mg "BadDeed" "BadDeed.__init__" ((clsBody (top 4)).getD 0 (.Pass ⟨0, 0, 0, 0⟩)) ["part"] a_BadDeed
  n_BadDeed_part : PySem.W.findIn K (.ref a_BadDeed) "part" = some none
  x_BadDeed : ExcC K a_BadDeed
  a_BadLoose : Addr
  g_BadLoose : mg "BadLoose" = some (.ref a_BadLoose)
  C_BadLoose : ExcAt K mg "BadLoose" "BadLoose.__init__" ((clsBody (top 5)).getD 0 (.Pass ⟨0, 0, 0, 0⟩)) ["part"] a_BadLoose
  n_BadLoose_part : PySem.W.findIn K (.ref a_BadLoose) "part" = some none
  x_BadLoose : ExcC K a_BadLoose
  a_BadSaying : Addr
  g_BadSaying : mg "BadSaying" = some (.ref a_BadSaying)
  C_BadSaying : ExcAt K mg "BadSaying" "BadSaying.__init__" ((clsBody (top 6)).getD 0 (.Pass ⟨0, 0, 0, 0⟩)) ["part"] a_BadSaying
  n_BadSaying_part : PySem.W.findIn K (.ref a_BadSaying) "part" = some none
  x_BadSaying : ExcC K a_BadSaying
  a_BadBook : Addr
  g_BadBook : mg "BadBook" = some (.ref a_BadBook)
  C_BadBook : ExcAt K mg "BadBook" "BadBook.__init__" ((clsBody (top 7)).getD 0 (.Pass ⟨0, 0, 0, 0⟩)) ["part"] a_BadBook
  n_BadBook_part : PySem.W.findIn K (.ref a_BadBook) "part" = some none
  x_BadBook : ExcC K a_BadBook
  a_BadPlace : Addr
  g_BadPlace : mg "BadPlace" = some (.ref a_BadPlace)
  C_BadPlace : ExcAt K mg "BadPlace" "BadPlace.__init__" ((clsBody (top 8)).getD 0 (.Pass ⟨0, 0, 0, 0⟩)) ["part"] a_BadPlace
  n_BadPlace_part : PySem.W.findIn K (.ref a_BadPlace) "part" = some none
  x_BadPlace : ExcC K a_BadPlace
  a_BadTie : Addr
  g_BadTie : mg "BadTie" = some (.ref a_BadTie)
  C_BadTie : ExcAt K mg "BadTie" "BadTie.__init__" ((clsBody (top 9)).getD 0 (.Pass ⟨0, 0, 0, 0⟩)) ["part"] a_BadTie
  n_BadTie_part : PySem.W.findIn K (.ref a_BadTie) "part" = some none
  x_BadTie : ExcC K a_BadTie
  a_BadPriced : Addr
  g_BadPriced : mg "BadPriced" = some (.ref a_BadPriced)
  C_BadPriced : ExcAt K mg "BadPriced" "BadPriced.__init__" ((clsBody (top 10)).getD 0 (.Pass ⟨0, 0, 0, 0⟩)) ["part"] a_BadPriced
  n_BadPriced_part : PySem.W.findIn K (.ref a_BadPriced) "part" = some none
  x_BadPriced : ExcC K a_BadPriced
  a_BadTalk : Addr
  g_BadTalk : mg "BadTalk" = some (.ref a_BadTalk)
  C_BadTalk : ExcAt K mg "BadTalk" "BadTalk.__init__" ((clsBody (top 11)).getD 0 (.Pass ⟨0, 0, 0, 0⟩)) ["part"] a_BadTalk
  n_BadTalk_part : PySem.W.findIn K (.ref a_BadTalk) "part" = some none
  x_BadTalk : ExcC K a_BadTalk
  a_BadTeller : Addr
  g_BadTeller : mg "BadTeller" = some (.ref a_BadTeller)
  C_BadTeller : ExcAt K mg "BadTeller" "BadTeller.__init__" ((clsBody (top 12)).getD 0 (.Pass ⟨0, 0, 0, 0⟩)) ["part"] a_BadTeller
  n_BadTeller_part : PySem.W.findIn K (.ref a_BadTeller) "part" = some none
  x_BadTeller : ExcC K a_BadTeller
  a_BadTranslation : Addr
  g_BadTranslation : mg "BadTranslation" = some (.ref a_BadTranslation)
  C_BadTranslation : ExcAt K mg "BadTranslation" "BadTranslation.__init__" ((clsBody (top 13)).getD 0 (.Pass ⟨0, 0, 0, 0⟩)) ["part"] a_BadTranslation
  n_BadTranslation_part : PySem.W.findIn K (.ref a_BadTranslation) "part" = some none
  x_BadTranslation : ExcC K a_BadTranslation
  a_BadNumbers : Addr
  g_BadNumbers : mg "BadNumbers" = some (.ref a_BadNumbers)
  C_BadNumbers : ExcAt K mg "BadNumbers" "BadNumbers.__init__" ((clsBody (top 14)).getD 0 (.Pass ⟨0, 0, 0, 0⟩)) ["part"] a_BadNumbers
  n_BadNumbers_part : PySem.W.findIn K (.ref a_BadNumbers) "part" = some none
  x_BadNumbers : ExcC K a_BadNumbers
  a_Missing : Addr
  g_Missing : mg "Missing" = some (.ref a_Missing)
  C_Missing : ExcAt K mg "Missing" "Missing.__init__" ((clsBody (top 15)).getD 0 (.Pass ⟨0, 0, 0, 0⟩)) ["name"] a_Missing
  n_Missing_name : PySem.W.findIn K (.ref a_Missing) "name" = some none
  x_Missing : ExcC K a_Missing
  a_NoThing : Addr
  g_NoThing : mg "NoThing" = some (.ref a_NoThing)
  C_NoThing : ExcAt K mg "NoThing" "Missing.__init__" ((clsBody (top 15)).getD 0 (.Pass ⟨0, 0, 0, 0⟩)) ["name"] a_NoThing
  n_NoThing_name : PySem.W.findIn K (.ref a_NoThing) "name" = some none
  x_NoThing : ExcC K a_NoThing
  a_NoWord : Addr
  g_NoWord : mg "NoWord" = some (.ref a_NoWord)
  C_NoWord : ExcAt K mg "NoWord" "Missing.__init__" ((clsBody (top 15)).getD 0 (.Pass ⟨0, 0, 0, 0⟩)) ["name"] a_NoWord
  n_NoWord_name : PySem.W.findIn K (.ref a_NoWord) "name" = some none
  x_NoWord : ExcC K a_NoWord
  a_NoLink : Addr
  g_NoLink : mg "NoLink" = some (.ref a_NoLink)
  C_NoLink : ExcAt K mg "NoLink" "Missing.__init__" ((clsBody (top 15)).getD 0 (.Pass ⟨0, 0, 0, 0⟩)) ["name"] a_NoLink
  n_NoLink_name : PySem.W.findIn K (.ref a_NoLink) "name" = some none
  x_NoLink : ExcC K a_NoLink
  a_NoScale : Addr
  g_NoScale : mg "NoScale" = some (.ref a_NoScale)
  C_NoScale : ExcAt K mg "NoScale" "Missing.__init__" ((clsBody (top 15)).getD 0 (.Pass ⟨0, 0, 0, 0⟩)) ["name"] a_NoScale
  n_NoScale_name : PySem.W.findIn K (.ref a_NoScale) "name" = some none
  x_NoScale : ExcC K a_NoScale
  a_NoWay : Addr
  g_NoWay : mg "NoWay" = some (.ref a_NoWay)
  C_NoWay : ExcAt K mg "NoWay" "Missing.__init__" ((clsBody (top 15)).getD 0 (.Pass ⟨0, 0, 0, 0⟩)) ["name"] a_NoWay
  n_NoWay_name : PySem.W.findIn K (.ref a_NoWay) "name" = some none
  x_NoWay : ExcC K a_NoWay
  a_NoName : Addr
  g_NoName : mg "NoName" = some (.ref a_NoName)
  C_NoName : ExcAt K mg "NoName" "Missing.__init__" ((clsBody (top 15)).getD 0 (.Pass ⟨0, 0, 0, 0⟩)) ["name"] a_NoName
  n_NoName_name : PySem.W.findIn K (.ref a_NoName) "name" = some none
  x_NoName : ExcC K a_NoName
  a_NotLet : Addr
  g_NotLet : mg "NotLet" = some (.ref a_NotLet)
  C_NotLet : ExcAt K mg "NotLet" "NotLet.__init__" ((clsBody (top 22)).getD 0 (.Pass ⟨0, 0, 0, 0⟩)) ["way", "kind"] a_NotLet
  n_NotLet_way : PySem.W.findIn K (.ref a_NotLet) "way" = some none
  n_NotLet_kind : PySem.W.findIn K (.ref a_NotLet) "kind" = some none
  x_NotLet : ExcC K a_NotLet
  a_Twice : Addr
  g_Twice : mg "Twice" = some (.ref a_Twice)
  C_Twice : ExcAt K mg "Twice" "Twice.__init__" ((clsBody (top 23)).getD 0 (.Pass ⟨0, 0, 0, 0⟩)) ["name"] a_Twice
  n_Twice_name : PySem.W.findIn K (.ref a_Twice) "name" = some none
  x_Twice : ExcC K a_Twice
  a_Unlike : Addr
  g_Unlike : mg "Unlike" = some (.ref a_Unlike)
  C_Unlike : ExcAt K mg "Unlike" "Unlike.__init__" ((clsBody (top 24)).getD 0 (.Pass ⟨0, 0, 0, 0⟩)) ["what"] a_Unlike
  n_Unlike_what : PySem.W.findIn K (.ref a_Unlike) "what" = some none
  x_Unlike : ExcC K a_Unlike
  a_Nothing : Addr
  g_Nothing : mg "Nothing" = some (.ref a_Nothing)
  q_Nothing : ExqC K a_Nothing
  x_Nothing : ExcC K a_Nothing
  a_TooMany : Addr
  g_TooMany : mg "TooMany" = some (.ref a_TooMany)
  C_TooMany : ExcAt K mg "TooMany" "TooMany.__init__" ((clsBody (top 26)).getD 0 (.Pass ⟨0, 0, 0, 0⟩)) ["what", "most"] a_TooMany
  n_TooMany_what : PySem.W.findIn K (.ref a_TooMany) "what" = some none
  n_TooMany_most : PySem.W.findIn K (.ref a_TooMany) "most" = some none
  x_TooMany : ExcC K a_TooMany
  a_BadText : Addr
  g_BadText : mg "BadText" = some (.ref a_BadText)
  C_BadText : ExcAt K mg "BadText" "BadText.__init__" ((clsBody (top 27)).getD 0 (.Pass ⟨0, 0, 0, 0⟩)) ["line", "word"] a_BadText
  n_BadText_line : PySem.W.findIn K (.ref a_BadText) "line" = some none
  n_BadText_word : PySem.W.findIn K (.ref a_BadText) "word" = some none
  x_BadText : ExcC K a_BadText
  a_BadLine : Addr
  g_BadLine : mg "BadLine" = some (.ref a_BadLine)
  C_BadLine : ExcAt K mg "BadLine" "BadLine.__init__" ((clsBody (top 28)).getD 0 (.Pass ⟨0, 0, 0, 0⟩)) ["line", "error"] a_BadLine
  n_BadLine_line : PySem.W.findIn K (.ref a_BadLine) "line" = some none
  n_BadLine_error : PySem.W.findIn K (.ref a_BadLine) "error" = some none
  x_BadLine : ExcC K a_BadLine
  d_l_jar : DefAt K mg "_law_jar" (top 30) ["_law_script"]
  d_l_dip : DefAt K mg "_law_dip" (top 31) ["_law_jar_here", "_law_many"]
  d_l_some : DefAt K mg "_law_some" (top 32) ["_law_jar_here", "_law_things"]
  d_l_parts : DefAt K mg "_law_parts" (top 33) ["_law_part"]
  d_l_parts_turned : DefAt K mg "_law_parts_turned" (top 34) ["_law_part"]
  d_l_others : DefAt K mg "_law_others" (top 35) ["_law_one", "_law_two"]
  d_l_others_named : DefAt K mg "_law_others_named" (top 36) ["_law_one", "_law_two"]
  d_l_fields : DefAt K mg "_law_fields" (top 37) ["_law_error", "_law_place"]
  d_l_kin : DefAt K mg "_law_kin" (top 38) ["_law_error"]
  d_l_stands_right : DefAt K mg "_law_stands_right" (top 39) ["_law_error", "_law_place"]
  d_l_all_right : DefAt K mg "_law_all_right" (top 40) ["_law_one", "_law_two", "_law_made"]
  d_law : DefAt K mg "law" (top 41) ["_law_script"]
  b_ArithmeticError : mg "ArithmeticError" = none
  b_AttributeError : mg "AttributeError" = none
  b_LookupError : mg "LookupError" = none
  b_RuntimeError : mg "RuntimeError" = none
  b_TypeError : mg "TypeError" = none
  b_ValueError : mg "ValueError" = none
  b_abs : mg "abs" = none
  b_enumerate : mg "enumerate" = none
  b_int : mg "int" = none
  b_isinstance : mg "isinstance" = none
  b_len : mg "len" = none
  b_range : mg "range" = none
  b_repr : mg "repr" = none
  b_str : mg "str" = none
  kt1 : matOk K [a_SayError, a_BadRoom, a_BadDeed, a_BadLoose, a_BadSaying, a_BadBook, a_BadPlace, a_BadTie, a_BadPriced, a_BadTalk, a_BadTeller, a_BadTranslation, a_BadNumbers, a_Missing, a_NoThing, a_NoWord, a_NoLink, a_NoScale, a_NoWay, a_NoName, a_NotLet, a_Twice, a_Unlike, a_Nothing, a_TooMany, a_BadText, a_BadLine] xrows = true
  kt2 : bmatOk K [a_SayError, a_BadRoom, a_BadDeed, a_BadLoose, a_BadSaying, a_BadBook, a_BadPlace, a_BadTie, a_BadPriced, a_BadTalk, a_BadTeller, a_BadTranslation, a_BadNumbers, a_Missing, a_NoThing, a_NoWord, a_NoLink, a_NoScale, a_NoWay, a_NoName, a_NotLet, a_Twice, a_Unlike, a_Nothing, a_TooMany, a_BadText, a_BadLine] bxs brows = true
theorem kit {K : PySem.W.Frag} {mg : Str → Option Value} (T : Txt K mg) : IsT K mg ktb := isT_mat (ca := [T.a_SayError, T.a_BadRoom, T.a_BadDeed, T.a_BadLoose, T.a_BadSaying, T.a_BadBook, T.a_BadPlace, T.a_BadTie, T.a_BadPriced, T.a_BadTalk, T.a_BadTeller, T.a_BadTranslation, T.a_BadNumbers, T.a_Missing, T.a_NoThing, T.a_NoWord, T.a_NoLink, T.a_NoScale, T.a_NoWay, T.a_NoName, T.a_NotLet, T.a_Twice, T.a_Unlike, T.a_Nothing, T.a_TooMany, T.a_BadText, T.a_BadLine]) rfl (by
  intro p hp
  simp only [xcs, List.zip_cons_cons, List.zip_nil_right, List.mem_cons, List.not_mem_nil, or_false] at hp
  rcases hp with rfl | rfl | rfl | rfl | rfl | rfl | rfl | rfl | rfl | rfl | rfl | rfl | rfl | rfl | rfl | rfl | rfl | rfl | rfl | rfl | rfl | rfl | rfl | rfl | rfl | rfl | rfl
  · exact T.g_SayError
  · exact T.g_BadRoom
  · exact T.g_BadDeed
  · exact T.g_BadLoose
  · exact T.g_BadSaying
  · exact T.g_BadBook
  · exact T.g_BadPlace
  · exact T.g_BadTie
  · exact T.g_BadPriced
  · exact T.g_BadTalk
  · exact T.g_BadTeller
  · exact T.g_BadTranslation
  · exact T.g_BadNumbers
  · exact T.g_Missing
  · exact T.g_NoThing
  · exact T.g_NoWord
  · exact T.g_NoLink
  · exact T.g_NoScale
  · exact T.g_NoWay
  · exact T.g_NoName
  · exact T.g_NotLet
  · exact T.g_Twice
  · exact T.g_Unlike
  · exact T.g_Nothing
  · exact T.g_TooMany
  · exact T.g_BadText
  · exact T.g_BadLine) T.kt1 T.kt2
theorem kdx {K : PySem.W.Frag} {mg : Str → Option Value} (T : Txt K mg) : ∀ c ∈ (["BadRoom", "BadDeed", "BadLoose", "BadSaying", "BadBook", "BadPlace", "BadTie", "BadPriced", "BadTalk", "BadTeller", "BadTranslation", "BadNumbers", "Missing", "NoThing", "NoWord", "NoLink", "NoScale", "NoWay", "NoName", "NotLet", "Twice", "Unlike", "Nothing", "TooMany", "BadText", "BadLine"] : List Tx), ∀ C, mg c = some (.ref C) → ExcC K C := cls_cons (T.g_BadRoom) T.x_BadRoom (cls_cons (T.g_BadDeed) T.x_BadDeed (cls_cons (T.g_BadLoose) T.x_BadLoose (cls_cons (T.g_BadSaying) T.x_BadSaying (cls_cons (T.g_BadBook) T.x_BadBook (cls_cons (T.g_BadPlace) T.x_BadPlace (cls_cons (T.g_BadTie) T.x_BadTie (cls_cons (T.g_BadPriced) T.x_BadPriced (cls_cons (T.g_BadTalk) T.x_BadTalk (cls_cons (T.g_BadTeller) T.x_BadTeller (cls_cons (T.g_BadTranslation) T.x_BadTranslation (cls_cons (T.g_BadNumbers) T.x_BadNumbers (cls_cons (T.g_Missing) T.x_Missing (cls_cons (T.g_NoThing) T.x_NoThing (cls_cons (T.g_NoWord) T.x_NoWord (cls_cons (T.g_NoLink) T.x_NoLink (cls_cons (T.g_NoScale) T.x_NoScale (cls_cons (T.g_NoWay) T.x_NoWay (cls_cons (T.g_NoName) T.x_NoName (cls_cons (T.g_NotLet) T.x_NotLet (cls_cons (T.g_Twice) T.x_Twice (cls_cons (T.g_Unlike) T.x_Unlike (cls_cons (T.g_Nothing) T.x_Nothing (cls_cons (T.g_TooMany) T.x_TooMany (cls_cons (T.g_BadText) T.x_BadText (cls_cons (T.g_BadLine) T.x_BadLine (fun _ h => absurd h List.not_mem_nil))))))))))))))))))))))))))
theorem kdk {K : PySem.W.Frag} {mg : Str → Option Value} (T : Txt K mg) : KdK K mg [] xis := ⟨fun _ h => absurd h List.not_mem_nil, kdx T⟩
theorem xf_part {K : PySem.W.Frag} {mg : Str → Option Value} (T : Txt K mg) : ∀ c ∈ (["BadRoom", "BadDeed", "BadLoose", "BadSaying", "BadBook", "BadPlace", "BadTie", "BadPriced", "BadTalk", "BadTeller", "BadTranslation", "BadNumbers"] : List Tx), ∀ C, mg c = some (.ref C) → XfC K C ∧ PySem.W.findIn K (.ref C) "part" = some none := cls_cons (T.g_BadRoom) ⟨XfC.of T.x_BadRoom, T.n_BadRoom_part⟩ (cls_cons (T.g_BadDeed) ⟨XfC.of T.x_BadDeed, T.n_BadDeed_part⟩ (cls_cons (T.g_BadLoose) ⟨XfC.of T.x_BadLoose, T.n_BadLoose_part⟩ (cls_cons (T.g_BadSaying) ⟨XfC.of T.x_BadSaying, T.n_BadSaying_part⟩ (cls_cons (T.g_BadBook) ⟨XfC.of T.x_BadBook, T.n_BadBook_part⟩ (cls_cons (T.g_BadPlace) ⟨XfC.of T.x_BadPlace, T.n_BadPlace_part⟩ (cls_cons (T.g_BadTie) ⟨XfC.of T.x_BadTie, T.n_BadTie_part⟩ (cls_cons (T.g_BadPriced) ⟨XfC.of T.x_BadPriced, T.n_BadPriced_part⟩ (cls_cons (T.g_BadTalk) ⟨XfC.of T.x_BadTalk, T.n_BadTalk_part⟩ (cls_cons (T.g_BadTeller) ⟨XfC.of T.x_BadTeller, T.n_BadTeller_part⟩ (cls_cons (T.g_BadTranslation) ⟨XfC.of T.x_BadTranslation, T.n_BadTranslation_part⟩ (cls_cons (T.g_BadNumbers) ⟨XfC.of T.x_BadNumbers, T.n_BadNumbers_part⟩ (fun _ h => absurd h List.not_mem_nil))))))))))))
theorem xf_name {K : PySem.W.Frag} {mg : Str → Option Value} (T : Txt K mg) : ∀ c ∈ (["Missing", "NoThing", "NoWord", "NoLink", "NoScale", "NoWay", "NoName", "Twice"] : List Tx), ∀ C, mg c = some (.ref C) → XfC K C ∧ PySem.W.findIn K (.ref C) "name" = some none := cls_cons (T.g_Missing) ⟨XfC.of T.x_Missing, T.n_Missing_name⟩ (cls_cons (T.g_NoThing) ⟨XfC.of T.x_NoThing, T.n_NoThing_name⟩ (cls_cons (T.g_NoWord) ⟨XfC.of T.x_NoWord, T.n_NoWord_name⟩ (cls_cons (T.g_NoLink) ⟨XfC.of T.x_NoLink, T.n_NoLink_name⟩ (cls_cons (T.g_NoScale) ⟨XfC.of T.x_NoScale, T.n_NoScale_name⟩ (cls_cons (T.g_NoWay) ⟨XfC.of T.x_NoWay, T.n_NoWay_name⟩ (cls_cons (T.g_NoName) ⟨XfC.of T.x_NoName, T.n_NoName_name⟩ (cls_cons (T.g_Twice) ⟨XfC.of T.x_Twice, T.n_Twice_name⟩ (fun _ h => absurd h List.not_mem_nil))))))))
theorem xf_way {K : PySem.W.Frag} {mg : Str → Option Value} (T : Txt K mg) : ∀ c ∈ (["NotLet"] : List Tx), ∀ C, mg c = some (.ref C) → XfC K C ∧ PySem.W.findIn K (.ref C) "way" = some none := cls_cons (T.g_NotLet) ⟨XfC.of T.x_NotLet, T.n_NotLet_way⟩ (fun _ h => absurd h List.not_mem_nil)
theorem xf_kind {K : PySem.W.Frag} {mg : Str → Option Value} (T : Txt K mg) : ∀ c ∈ (["NotLet"] : List Tx), ∀ C, mg c = some (.ref C) → XfC K C ∧ PySem.W.findIn K (.ref C) "kind" = some none := cls_cons (T.g_NotLet) ⟨XfC.of T.x_NotLet, T.n_NotLet_kind⟩ (fun _ h => absurd h List.not_mem_nil)
theorem xf_what {K : PySem.W.Frag} {mg : Str → Option Value} (T : Txt K mg) : ∀ c ∈ (["Unlike", "TooMany"] : List Tx), ∀ C, mg c = some (.ref C) → XfC K C ∧ PySem.W.findIn K (.ref C) "what" = some none := cls_cons (T.g_Unlike) ⟨XfC.of T.x_Unlike, T.n_Unlike_what⟩ (cls_cons (T.g_TooMany) ⟨XfC.of T.x_TooMany, T.n_TooMany_what⟩ (fun _ h => absurd h List.not_mem_nil))
theorem xf_most {K : PySem.W.Frag} {mg : Str → Option Value} (T : Txt K mg) : ∀ c ∈ (["TooMany"] : List Tx), ∀ C, mg c = some (.ref C) → XfC K C ∧ PySem.W.findIn K (.ref C) "most" = some none := cls_cons (T.g_TooMany) ⟨XfC.of T.x_TooMany, T.n_TooMany_most⟩ (fun _ h => absurd h List.not_mem_nil)
theorem xf_line {K : PySem.W.Frag} {mg : Str → Option Value} (T : Txt K mg) : ∀ c ∈ (["BadText", "BadLine"] : List Tx), ∀ C, mg c = some (.ref C) → XfC K C ∧ PySem.W.findIn K (.ref C) "line" = some none := cls_cons (T.g_BadText) ⟨XfC.of T.x_BadText, T.n_BadText_line⟩ (cls_cons (T.g_BadLine) ⟨XfC.of T.x_BadLine, T.n_BadLine_line⟩ (fun _ h => absurd h List.not_mem_nil))
theorem xf_word {K : PySem.W.Frag} {mg : Str → Option Value} (T : Txt K mg) : ∀ c ∈ (["BadText"] : List Tx), ∀ C, mg c = some (.ref C) → XfC K C ∧ PySem.W.findIn K (.ref C) "word" = some none := cls_cons (T.g_BadText) ⟨XfC.of T.x_BadText, T.n_BadText_word⟩ (fun _ h => absurd h List.not_mem_nil)
theorem xf_error {K : PySem.W.Frag} {mg : Str → Option Value} (T : Txt K mg) : ∀ c ∈ (["BadLine"] : List Tx), ∀ C, mg c = some (.ref C) → XfC K C ∧ PySem.W.findIn K (.ref C) "error" = some none := cls_cons (T.g_BadLine) ⟨XfC.of T.x_BadLine, T.n_BadLine_error⟩ (fun _ h => absurd h List.not_mem_nil)
theorem oex_BadRoom {K : PySem.W.Frag} {mg : Str → Option Value} (T : Txt K mg) : ∀ c ∈ (["BadRoom"] : List Tx), ∀ C, mg c = some (.ref C) → OexC K C := cls_cons (T.g_BadRoom) T.C_BadRoom.T (fun _ h => absurd h List.not_mem_nil)
theorem ost_BadRoom_part {K : PySem.W.Frag} {mg : Str → Option Value} (T : Txt K mg) : ∀ c ∈ (["BadRoom"] : List Tx), ∀ C, mg c = some (.ref C) → OexC K C ∧ PySem.W.findIn K (.ref C) "part" = some none := cls_cons (T.g_BadRoom) ⟨T.C_BadRoom.T, T.n_BadRoom_part⟩ (fun _ h => absurd h List.not_mem_nil)
theorem oex_BadDeed {K : PySem.W.Frag} {mg : Str → Option Value} (T : Txt K mg) : ∀ c ∈ (["BadDeed"] : List Tx), ∀ C, mg c = some (.ref C) → OexC K C := cls_cons (T.g_BadDeed) T.C_BadDeed.T (fun _ h => absurd h List.not_mem_nil)
theorem ost_BadDeed_part {K : PySem.W.Frag} {mg : Str → Option Value} (T : Txt K mg) : ∀ c ∈ (["BadDeed"] : List Tx), ∀ C, mg c = some (.ref C) → OexC K C ∧ PySem.W.findIn K (.ref C) "part" = some none := cls_cons (T.g_BadDeed) ⟨T.C_BadDeed.T, T.n_BadDeed_part⟩ (fun _ h => absurd h List.not_mem_nil)
theorem oex_BadLoose {K : PySem.W.Frag} {mg : Str → Option Value} (T : Txt K mg) : ∀ c ∈ (["BadLoose"] : List Tx), ∀ C, mg c = some (.ref C) → OexC K C := cls_cons (T.g_BadLoose) T.C_BadLoose.T (fun _ h => absurd h List.not_mem_nil)
theorem ost_BadLoose_part {K : PySem.W.Frag} {mg : Str → Option Value} (T : Txt K mg) : ∀ c ∈ (["BadLoose"] : List Tx), ∀ C, mg c = some (.ref C) → OexC K C ∧ PySem.W.findIn K (.ref C) "part" = some none := cls_cons (T.g_BadLoose) ⟨T.C_BadLoose.T, T.n_BadLoose_part⟩ (fun _ h => absurd h List.not_mem_nil)
theorem oex_BadSaying {K : PySem.W.Frag} {mg : Str → Option Value} (T : Txt K mg) : ∀ c ∈ (["BadSaying"] : List Tx), ∀ C, mg c = some (.ref C) → OexC K C := cls_cons (T.g_BadSaying) T.C_BadSaying.T (fun _ h => absurd h List.not_mem_nil)
theorem ost_BadSaying_part {K : PySem.W.Frag} {mg : Str → Option Value} (T : Txt K mg) : ∀ c ∈ (["BadSaying"] : List Tx), ∀ C, mg c = some (.ref C) → OexC K C ∧ PySem.W.findIn K (.ref C) "part" = some none := cls_cons (T.g_BadSaying) ⟨T.C_BadSaying.T, T.n_BadSaying_part⟩ (fun _ h => absurd h List.not_mem_nil)
theorem oex_BadBook {K : PySem.W.Frag} {mg : Str → Option Value} (T : Txt K mg) : ∀ c ∈ (["BadBook"] : List Tx), ∀ C, mg c = some (.ref C) → OexC K C := cls_cons (T.g_BadBook) T.C_BadBook.T (fun _ h => absurd h List.not_mem_nil)
theorem ost_BadBook_part {K : PySem.W.Frag} {mg : Str → Option Value} (T : Txt K mg) : ∀ c ∈ (["BadBook"] : List Tx), ∀ C, mg c = some (.ref C) → OexC K C ∧ PySem.W.findIn K (.ref C) "part" = some none := cls_cons (T.g_BadBook) ⟨T.C_BadBook.T, T.n_BadBook_part⟩ (fun _ h => absurd h List.not_mem_nil)
theorem oex_BadPlace {K : PySem.W.Frag} {mg : Str → Option Value} (T : Txt K mg) : ∀ c ∈ (["BadPlace"] : List Tx), ∀ C, mg c = some (.ref C) → OexC K C := cls_cons (T.g_BadPlace) T.C_BadPlace.T (fun _ h => absurd h List.not_mem_nil)
theorem ost_BadPlace_part {K : PySem.W.Frag} {mg : Str → Option Value} (T : Txt K mg) : ∀ c ∈ (["BadPlace"] : List Tx), ∀ C, mg c = some (.ref C) → OexC K C ∧ PySem.W.findIn K (.ref C) "part" = some none := cls_cons (T.g_BadPlace) ⟨T.C_BadPlace.T, T.n_BadPlace_part⟩ (fun _ h => absurd h List.not_mem_nil)
theorem oex_BadTie {K : PySem.W.Frag} {mg : Str → Option Value} (T : Txt K mg) : ∀ c ∈ (["BadTie"] : List Tx), ∀ C, mg c = some (.ref C) → OexC K C := cls_cons (T.g_BadTie) T.C_BadTie.T (fun _ h => absurd h List.not_mem_nil)
theorem ost_BadTie_part {K : PySem.W.Frag} {mg : Str → Option Value} (T : Txt K mg) : ∀ c ∈ (["BadTie"] : List Tx), ∀ C, mg c = some (.ref C) → OexC K C ∧ PySem.W.findIn K (.ref C) "part" = some none := cls_cons (T.g_BadTie) ⟨T.C_BadTie.T, T.n_BadTie_part⟩ (fun _ h => absurd h List.not_mem_nil)
theorem oex_BadPriced {K : PySem.W.Frag} {mg : Str → Option Value} (T : Txt K mg) : ∀ c ∈ (["BadPriced"] : List Tx), ∀ C, mg c = some (.ref C) → OexC K C := cls_cons (T.g_BadPriced) T.C_BadPriced.T (fun _ h => absurd h List.not_mem_nil)
theorem ost_BadPriced_part {K : PySem.W.Frag} {mg : Str → Option Value} (T : Txt K mg) : ∀ c ∈ (["BadPriced"] : List Tx), ∀ C, mg c = some (.ref C) → OexC K C ∧ PySem.W.findIn K (.ref C) "part" = some none := cls_cons (T.g_BadPriced) ⟨T.C_BadPriced.T, T.n_BadPriced_part⟩ (fun _ h => absurd h List.not_mem_nil)
theorem oex_BadTalk {K : PySem.W.Frag} {mg : Str → Option Value} (T : Txt K mg) : ∀ c ∈ (["BadTalk"] : List Tx), ∀ C, mg c = some (.ref C) → OexC K C := cls_cons (T.g_BadTalk) T.C_BadTalk.T (fun _ h => absurd h List.not_mem_nil)
theorem ost_BadTalk_part {K : PySem.W.Frag} {mg : Str → Option Value} (T : Txt K mg) : ∀ c ∈ (["BadTalk"] : List Tx), ∀ C, mg c = some (.ref C) → OexC K C ∧ PySem.W.findIn K (.ref C) "part" = some none := cls_cons (T.g_BadTalk) ⟨T.C_BadTalk.T, T.n_BadTalk_part⟩ (fun _ h => absurd h List.not_mem_nil)
theorem oex_BadTeller {K : PySem.W.Frag} {mg : Str → Option Value} (T : Txt K mg) : ∀ c ∈ (["BadTeller"] : List Tx), ∀ C, mg c = some (.ref C) → OexC K C := cls_cons (T.g_BadTeller) T.C_BadTeller.T (fun _ h => absurd h List.not_mem_nil)
theorem ost_BadTeller_part {K : PySem.W.Frag} {mg : Str → Option Value} (T : Txt K mg) : ∀ c ∈ (["BadTeller"] : List Tx), ∀ C, mg c = some (.ref C) → OexC K C ∧ PySem.W.findIn K (.ref C) "part" = some none := cls_cons (T.g_BadTeller) ⟨T.C_BadTeller.T, T.n_BadTeller_part⟩ (fun _ h => absurd h List.not_mem_nil)
theorem oex_BadTranslation {K : PySem.W.Frag} {mg : Str → Option Value} (T : Txt K mg) : ∀ c ∈ (["BadTranslation"] : List Tx), ∀ C, mg c = some (.ref C) → OexC K C := cls_cons (T.g_BadTranslation) T.C_BadTranslation.T (fun _ h => absurd h List.not_mem_nil)
theorem ost_BadTranslation_part {K : PySem.W.Frag} {mg : Str → Option Value} (T : Txt K mg) : ∀ c ∈ (["BadTranslation"] : List Tx), ∀ C, mg c = some (.ref C) → OexC K C ∧ PySem.W.findIn K (.ref C) "part" = some none := cls_cons (T.g_BadTranslation) ⟨T.C_BadTranslation.T, T.n_BadTranslation_part⟩ (fun _ h => absurd h List.not_mem_nil)
theorem oex_BadNumbers {K : PySem.W.Frag} {mg : Str → Option Value} (T : Txt K mg) : ∀ c ∈ (["BadNumbers"] : List Tx), ∀ C, mg c = some (.ref C) → OexC K C := cls_cons (T.g_BadNumbers) T.C_BadNumbers.T (fun _ h => absurd h List.not_mem_nil)
theorem ost_BadNumbers_part {K : PySem.W.Frag} {mg : Str → Option Value} (T : Txt K mg) : ∀ c ∈ (["BadNumbers"] : List Tx), ∀ C, mg c = some (.ref C) → OexC K C ∧ PySem.W.findIn K (.ref C) "part" = some none := cls_cons (T.g_BadNumbers) ⟨T.C_BadNumbers.T, T.n_BadNumbers_part⟩ (fun _ h => absurd h List.not_mem_nil)
theorem oex_Missing {K : PySem.W.Frag} {mg : Str → Option Value} (T : Txt K mg) : ∀ c ∈ (["Missing", "NoThing", "NoWord", "NoLink", "NoScale", "NoWay", "NoName"] : List Tx), ∀ C, mg c = some (.ref C) → OexC K C := cls_cons (T.g_Missing) T.C_Missing.T (cls_cons (T.g_NoThing) T.C_NoThing.T (cls_cons (T.g_NoWord) T.C_NoWord.T (cls_cons (T.g_NoLink) T.C_NoLink.T (cls_cons (T.g_NoScale) T.C_NoScale.T (cls_cons (T.g_NoWay) T.C_NoWay.T (cls_cons (T.g_NoName) T.C_NoName.T (fun _ h => absurd h List.not_mem_nil)))))))
theorem ost_Missing_name {K : PySem.W.Frag} {mg : Str → Option Value} (T : Txt K mg) : ∀ c ∈ (["Missing", "NoThing", "NoWord", "NoLink", "NoScale", "NoWay", "NoName"] : List Tx), ∀ C, mg c = some (.ref C) → OexC K C ∧ PySem.W.findIn K (.ref C) "name" = some none := cls_cons (T.g_Missing) ⟨T.C_Missing.T, T.n_Missing_name⟩ (cls_cons (T.g_NoThing) ⟨T.C_NoThing.T, T.n_NoThing_name⟩ (cls_cons (T.g_NoWord) ⟨T.C_NoWord.T, T.n_NoWord_name⟩ (cls_cons (T.g_NoLink) ⟨T.C_NoLink.T, T.n_NoLink_name⟩ (cls_cons (T.g_NoScale) ⟨T.C_NoScale.T, T.n_NoScale_name⟩ (cls_cons (T.g_NoWay) ⟨T.C_NoWay.T, T.n_NoWay_name⟩ (cls_cons (T.g_NoName) ⟨T.C_NoName.T, T.n_NoName_name⟩ (fun _ h => absurd h List.not_mem_nil)))))))
theorem oex_NotLet {K : PySem.W.Frag} {mg : Str → Option Value} (T : Txt K mg) : ∀ c ∈ (["NotLet"] : List Tx), ∀ C, mg c = some (.ref C) → OexC K C := cls_cons (T.g_NotLet) T.C_NotLet.T (fun _ h => absurd h List.not_mem_nil)
theorem ost_NotLet_way {K : PySem.W.Frag} {mg : Str → Option Value} (T : Txt K mg) : ∀ c ∈ (["NotLet"] : List Tx), ∀ C, mg c = some (.ref C) → OexC K C ∧ PySem.W.findIn K (.ref C) "way" = some none := cls_cons (T.g_NotLet) ⟨T.C_NotLet.T, T.n_NotLet_way⟩ (fun _ h => absurd h List.not_mem_nil)
theorem ost_NotLet_kind {K : PySem.W.Frag} {mg : Str → Option Value} (T : Txt K mg) : ∀ c ∈ (["NotLet"] : List Tx), ∀ C, mg c = some (.ref C) → OexC K C ∧ PySem.W.findIn K (.ref C) "kind" = some none := cls_cons (T.g_NotLet) ⟨T.C_NotLet.T, T.n_NotLet_kind⟩ (fun _ h => absurd h List.not_mem_nil)
theorem oex_Twice {K : PySem.W.Frag} {mg : Str → Option Value} (T : Txt K mg) : ∀ c ∈ (["Twice"] : List Tx), ∀ C, mg c = some (.ref C) → OexC K C := cls_cons (T.g_Twice) T.C_Twice.T (fun _ h => absurd h List.not_mem_nil)
theorem ost_Twice_name {K : PySem.W.Frag} {mg : Str → Option Value} (T : Txt K mg) : ∀ c ∈ (["Twice"] : List Tx), ∀ C, mg c = some (.ref C) → OexC K C ∧ PySem.W.findIn K (.ref C) "name" = some none := cls_cons (T.g_Twice) ⟨T.C_Twice.T, T.n_Twice_name⟩ (fun _ h => absurd h List.not_mem_nil)
theorem oex_Unlike {K : PySem.W.Frag} {mg : Str → Option Value} (T : Txt K mg) : ∀ c ∈ (["Unlike"] : List Tx), ∀ C, mg c = some (.ref C) → OexC K C := cls_cons (T.g_Unlike) T.C_Unlike.T (fun _ h => absurd h List.not_mem_nil)
theorem ost_Unlike_what {K : PySem.W.Frag} {mg : Str → Option Value} (T : Txt K mg) : ∀ c ∈ (["Unlike"] : List Tx), ∀ C, mg c = some (.ref C) → OexC K C ∧ PySem.W.findIn K (.ref C) "what" = some none := cls_cons (T.g_Unlike) ⟨T.C_Unlike.T, T.n_Unlike_what⟩ (fun _ h => absurd h List.not_mem_nil)
theorem oex_TooMany {K : PySem.W.Frag} {mg : Str → Option Value} (T : Txt K mg) : ∀ c ∈ (["TooMany"] : List Tx), ∀ C, mg c = some (.ref C) → OexC K C := cls_cons (T.g_TooMany) T.C_TooMany.T (fun _ h => absurd h List.not_mem_nil)
theorem ost_TooMany_what {K : PySem.W.Frag} {mg : Str → Option Value} (T : Txt K mg) : ∀ c ∈ (["TooMany"] : List Tx), ∀ C, mg c = some (.ref C) → OexC K C ∧ PySem.W.findIn K (.ref C) "what" = some none := cls_cons (T.g_TooMany) ⟨T.C_TooMany.T, T.n_TooMany_what⟩ (fun _ h => absurd h List.not_mem_nil)
theorem ost_TooMany_most {K : PySem.W.Frag} {mg : Str → Option Value} (T : Txt K mg) : ∀ c ∈ (["TooMany"] : List Tx), ∀ C, mg c = some (.ref C) → OexC K C ∧ PySem.W.findIn K (.ref C) "most" = some none := cls_cons (T.g_TooMany) ⟨T.C_TooMany.T, T.n_TooMany_most⟩ (fun _ h => absurd h List.not_mem_nil)
theorem oex_BadText {K : PySem.W.Frag} {mg : Str → Option Value} (T : Txt K mg) : ∀ c ∈ (["BadText"] : List Tx), ∀ C, mg c = some (.ref C) → OexC K C := cls_cons (T.g_BadText) T.C_BadText.T (fun _ h => absurd h List.not_mem_nil)
theorem ost_BadText_line {K : PySem.W.Frag} {mg : Str → Option Value} (T : Txt K mg) : ∀ c ∈ (["BadText"] : List Tx), ∀ C, mg c = some (.ref C) → OexC K C ∧ PySem.W.findIn K (.ref C) "line" = some none := cls_cons (T.g_BadText) ⟨T.C_BadText.T, T.n_BadText_line⟩ (fun _ h => absurd h List.not_mem_nil)
theorem ost_BadText_word {K : PySem.W.Frag} {mg : Str → Option Value} (T : Txt K mg) : ∀ c ∈ (["BadText"] : List Tx), ∀ C, mg c = some (.ref C) → OexC K C ∧ PySem.W.findIn K (.ref C) "word" = some none := cls_cons (T.g_BadText) ⟨T.C_BadText.T, T.n_BadText_word⟩ (fun _ h => absurd h List.not_mem_nil)
theorem oex_BadLine {K : PySem.W.Frag} {mg : Str → Option Value} (T : Txt K mg) : ∀ c ∈ (["BadLine"] : List Tx), ∀ C, mg c = some (.ref C) → OexC K C := cls_cons (T.g_BadLine) T.C_BadLine.T (fun _ h => absurd h List.not_mem_nil)
theorem ost_BadLine_line {K : PySem.W.Frag} {mg : Str → Option Value} (T : Txt K mg) : ∀ c ∈ (["BadLine"] : List Tx), ∀ C, mg c = some (.ref C) → OexC K C ∧ PySem.W.findIn K (.ref C) "line" = some none := cls_cons (T.g_BadLine) ⟨T.C_BadLine.T, T.n_BadLine_line⟩ (fun _ h => absurd h List.not_mem_nil)
theorem ost_BadLine_error {K : PySem.W.Frag} {mg : Str → Option Value} (T : Txt K mg) : ∀ c ∈ (["BadLine"] : List Tx), ∀ C, mg c = some (.ref C) → OexC K C ∧ PySem.W.findIn K (.ref C) "error" = some none := cls_cons (T.g_BadLine) ⟨T.C_BadLine.T, T.n_BadLine_error⟩ (fun _ h => absurd h List.not_mem_nil)
abbrev st_shown : Stmt := top 1
noncomputable def b_shown_0 : C :=
  (ifS (truE (callE isiK (consA (borE 0) (consA (conE (.ty "str")) nilA)))) (retS (varE 0)) passS)
noncomputable def b_shown_1 : C :=
  (ifS (andT (truE (callE isiK (consA (borE 0) (consA (conE (.ty "int")) nilA)))) (tstE (chainE ltbD ltbD (unE negD (conE (.int 1000000000))) (borE 0) (conE (.int 1000000000))))) (retS (callE strbF (consA (borE 0) nilA))) passS)
noncomputable def b_shown_2 : C :=
  (retS (joinedE [(conE (.str "a value of the class ")), (fmtE (cnE (borE 0)))]))
theorem sc_shown : FnScope ["value"] ["value"] (defScope st_shown) := ⟨rfl, rfl, rfl, by decide +kernel, rfl, by decide +kernel, by decide +kernel⟩
noncomputable def b_shown : C :=
  (seqS b_shown_0 (seqS b_shown_1 b_shown_2))
noncomputable def f_shown : Fn := mkFn 1 1 b_shown
set_option maxHeartbeats 8000000 in
theorem ok_shown {P : Program} {w : World} {K : PySem.W.Frag} {mg : Str → Option Value} {base : Heap} (T : Txt K mg) (sy : SysB base) : DefOk P w K mg base 1 "_shown" f_shown :=
  T.d_shown.ok sc_shown rfl rfl fun fa cdv A outer s H E Fr hr => (by exact (qs_cons (qs_if (q_truT (q_B (q_fz (q_callB (qc_isi (kdk T) (kit T)) T.b_isinstance (by decide +kernel) (qab_cons (qb 0) (qab_cons (q_B (q_ty T.b_str (by decide +kernel))) qab_nil)))))) (qs_one (qs_ret (qv 0))) qs_nil)
  (qs_cons (qs_if ((q_andT (q_truT (q_B (q_fz (q_callB (qc_isi (kdk T) (kit T)) T.b_isinstance (by decide +kernel) (qab_cons (qb 0) (qab_cons (q_B (q_ty T.b_int (by decide +kernel))) qab_nil)))))) (q_and1T (q_chainT qo_ltb qo_ltb (q_B (q_fz (q_un qo_neg (q_B q_int)))) (qb 0) (q_B q_int))))).pt (qs_one (qs_ret (q_fz (q_callT qc_strb T.b_str (by decide +kernel) (qab_cons (qb 0) qab_nil))))) qs_nil)
  (qs_one (qs_ret (q_joined (.cons q_str (.cons (q_fmt (q_cn (qb 0))) .nil))))))))
abbrev st_BadRoom : Stmt := (clsBody (top 3)).getD 0 (.Pass ⟨0, 0, 0, 0⟩)
noncomputable def b_BadRoom_0 : C :=
  (exprS (vinitE sh_BadRoom (consA (varE 0) (consA (joinedE [(conE (.str "no room: ")), (fmtE (callE f_shown (consA (varE 1) nilA)))]) nilA))))
noncomputable def b_BadRoom_1 : C :=
  (ostS sh_BadRoom "part" (varE 0) (varE 1))
theorem sc_BadRoom : FnScope ["self", "part"] ["self", "part"] (defScope st_BadRoom) := ⟨rfl, rfl, rfl, by decide +kernel, rfl, by decide +kernel, by decide +kernel⟩
noncomputable def b_BadRoom : C :=
  (seqS b_BadRoom_0 b_BadRoom_1)
noncomputable def f_BadRoom : Fn := mkFn 2 2 b_BadRoom
set_option maxHeartbeats 8000000 in
theorem mk_BadRoom {P : Program} {w : World} {K : PySem.W.Frag} {mg : Str → Option Value} {base : Heap} (T : Txt K mg) (sy : SysB base) : ExOk P w K mg base 2 "BadRoom" f_BadRoom ["part"] :=
  T.C_BadRoom.made sc_BadRoom rfl rfl fun fa cdv A outer s H E Fr hr => (by exact (qs_cons (qs_expr (q_vinit (oex_BadRoom T) T.C_SayError.gC T.C_SayError.sp T.C_SayError.rd T.C_SayError.vV (qa_cons (qv 0) (qa_cons (q_joined (.cons q_str (.cons (q_fmt (q_call ((ok_shown T sy).mono (by decide)) hr (takes_of rfl rfl rfl rfl) (qa_cons (qv 1) qa_nil))) .nil))) qa_nil))))
  (qs_one (qs_ost (ost_BadRoom_part T) (qv 0) (qv 1)))))
abbrev st_BadDeed : Stmt := (clsBody (top 4)).getD 0 (.Pass ⟨0, 0, 0, 0⟩)
noncomputable def b_BadDeed_0 : C :=
  (exprS (vinitE sh_BadDeed (consA (varE 0) (consA (joinedE [(conE (.str "no deed that can be done: ")), (fmtE (callE f_shown (consA (varE 1) nilA)))]) nilA))))
noncomputable def b_BadDeed_1 : C :=
  (ostS sh_BadDeed "part" (varE 0) (varE 1))
theorem sc_BadDeed : FnScope ["self", "part"] ["self", "part"] (defScope st_BadDeed) := ⟨rfl, rfl, rfl, by decide +kernel, rfl, by decide +kernel, by decide +kernel⟩
noncomputable def b_BadDeed : C :=
  (seqS b_BadDeed_0 b_BadDeed_1)
noncomputable def f_BadDeed : Fn := mkFn 2 2 b_BadDeed
set_option maxHeartbeats 8000000 in
theorem mk_BadDeed {P : Program} {w : World} {K : PySem.W.Frag} {mg : Str → Option Value} {base : Heap} (T : Txt K mg) (sy : SysB base) : ExOk P w K mg base 2 "BadDeed" f_BadDeed ["part"] :=
  T.C_BadDeed.made sc_BadDeed rfl rfl fun fa cdv A outer s H E Fr hr => (by exact (qs_cons (qs_expr (q_vinit (oex_BadDeed T) T.C_SayError.gC T.C_SayError.sp T.C_SayError.rd T.C_SayError.vV (qa_cons (qv 0) (qa_cons (q_joined (.cons q_str (.cons (q_fmt (q_call ((ok_shown T sy).mono (by decide)) hr (takes_of rfl rfl rfl rfl) (qa_cons (qv 1) qa_nil))) .nil))) qa_nil))))
  (qs_one (qs_ost (ost_BadDeed_part T) (qv 0) (qv 1)))))
abbrev st_BadLoose : Stmt := (clsBody (top 5)).getD 0 (.Pass ⟨0, 0, 0, 0⟩)
noncomputable def b_BadLoose_0 : C :=
  (exprS (vinitE sh_BadLoose (consA (varE 0) (consA (joinedE [(conE (.str "no loose room: ")), (fmtE (callE f_shown (consA (varE 1) nilA)))]) nilA))))
noncomputable def b_BadLoose_1 : C :=
  (ostS sh_BadLoose "part" (varE 0) (varE 1))
theorem sc_BadLoose : FnScope ["self", "part"] ["self", "part"] (defScope st_BadLoose) := ⟨rfl, rfl, rfl, by decide +kernel, rfl, by decide +kernel, by decide +kernel⟩
noncomputable def b_BadLoose : C :=
  (seqS b_BadLoose_0 b_BadLoose_1)
noncomputable def f_BadLoose : Fn := mkFn 2 2 b_BadLoose
set_option maxHeartbeats 8000000 in
theorem mk_BadLoose {P : Program} {w : World} {K : PySem.W.Frag} {mg : Str → Option Value} {base : Heap} (T : Txt K mg) (sy : SysB base) : ExOk P w K mg base 2 "BadLoose" f_BadLoose ["part"] :=
  T.C_BadLoose.made sc_BadLoose rfl rfl fun fa cdv A outer s H E Fr hr => (by exact (qs_cons (qs_expr (q_vinit (oex_BadLoose T) T.C_SayError.gC T.C_SayError.sp T.C_SayError.rd T.C_SayError.vV (qa_cons (qv 0) (qa_cons (q_joined (.cons q_str (.cons (q_fmt (q_call ((ok_shown T sy).mono (by decide)) hr (takes_of rfl rfl rfl rfl) (qa_cons (qv 1) qa_nil))) .nil))) qa_nil))))
  (qs_one (qs_ost (ost_BadLoose_part T) (qv 0) (qv 1)))))
abbrev st_BadSaying : Stmt := (clsBody (top 6)).getD 0 (.Pass ⟨0, 0, 0, 0⟩)
noncomputable def b_BadSaying_0 : C :=
  (exprS (vinitE sh_BadSaying (consA (varE 0) (consA (joinedE [(conE (.str "no saying: ")), (fmtE (callE f_shown (consA (varE 1) nilA)))]) nilA))))
noncomputable def b_BadSaying_1 : C :=
  (ostS sh_BadSaying "part" (varE 0) (varE 1))
theorem sc_BadSaying : FnScope ["self", "part"] ["self", "part"] (defScope st_BadSaying) := ⟨rfl, rfl, rfl, by decide +kernel, rfl, by decide +kernel, by decide +kernel⟩
noncomputable def b_BadSaying : C :=
  (seqS b_BadSaying_0 b_BadSaying_1)
noncomputable def f_BadSaying : Fn := mkFn 2 2 b_BadSaying
set_option maxHeartbeats 8000000 in
theorem mk_BadSaying {P : Program} {w : World} {K : PySem.W.Frag} {mg : Str → Option Value} {base : Heap} (T : Txt K mg) (sy : SysB base) : ExOk P w K mg base 2 "BadSaying" f_BadSaying ["part"] :=
  T.C_BadSaying.made sc_BadSaying rfl rfl fun fa cdv A outer s H E Fr hr => (by exact (qs_cons (qs_expr (q_vinit (oex_BadSaying T) T.C_SayError.gC T.C_SayError.sp T.C_SayError.rd T.C_SayError.vV (qa_cons (qv 0) (qa_cons (q_joined (.cons q_str (.cons (q_fmt (q_call ((ok_shown T sy).mono (by decide)) hr (takes_of rfl rfl rfl rfl) (qa_cons (qv 1) qa_nil))) .nil))) qa_nil))))
  (qs_one (qs_ost (ost_BadSaying_part T) (qv 0) (qv 1)))))
abbrev st_BadBook : Stmt := (clsBody (top 7)).getD 0 (.Pass ⟨0, 0, 0, 0⟩)
noncomputable def b_BadBook_0 : C :=
  (exprS (vinitE sh_BadBook (consA (varE 0) (consA (joinedE [(conE (.str "no book: ")), (fmtE (callE f_shown (consA (varE 1) nilA)))]) nilA))))
noncomputable def b_BadBook_1 : C :=
  (ostS sh_BadBook "part" (varE 0) (varE 1))
theorem sc_BadBook : FnScope ["self", "part"] ["self", "part"] (defScope st_BadBook) := ⟨rfl, rfl, rfl, by decide +kernel, rfl, by decide +kernel, by decide +kernel⟩
noncomputable def b_BadBook : C :=
  (seqS b_BadBook_0 b_BadBook_1)
noncomputable def f_BadBook : Fn := mkFn 2 2 b_BadBook
set_option maxHeartbeats 8000000 in
theorem mk_BadBook {P : Program} {w : World} {K : PySem.W.Frag} {mg : Str → Option Value} {base : Heap} (T : Txt K mg) (sy : SysB base) : ExOk P w K mg base 2 "BadBook" f_BadBook ["part"] :=
  T.C_BadBook.made sc_BadBook rfl rfl fun fa cdv A outer s H E Fr hr => (by exact (qs_cons (qs_expr (q_vinit (oex_BadBook T) T.C_SayError.gC T.C_SayError.sp T.C_SayError.rd T.C_SayError.vV (qa_cons (qv 0) (qa_cons (q_joined (.cons q_str (.cons (q_fmt (q_call ((ok_shown T sy).mono (by decide)) hr (takes_of rfl rfl rfl rfl) (qa_cons (qv 1) qa_nil))) .nil))) qa_nil))))
  (qs_one (qs_ost (ost_BadBook_part T) (qv 0) (qv 1)))))
abbrev st_BadPlace : Stmt := (clsBody (top 8)).getD 0 (.Pass ⟨0, 0, 0, 0⟩)
noncomputable def b_BadPlace_0 : C :=
  (exprS (vinitE sh_BadPlace (consA (varE 0) (consA (joinedE [(conE (.str "no place of these rooms: ")), (fmtE (callE f_shown (consA (varE 1) nilA)))]) nilA))))
noncomputable def b_BadPlace_1 : C :=
  (ostS sh_BadPlace "part" (varE 0) (varE 1))
theorem sc_BadPlace : FnScope ["self", "part"] ["self", "part"] (defScope st_BadPlace) := ⟨rfl, rfl, rfl, by decide +kernel, rfl, by decide +kernel, by decide +kernel⟩
noncomputable def b_BadPlace : C :=
  (seqS b_BadPlace_0 b_BadPlace_1)
noncomputable def f_BadPlace : Fn := mkFn 2 2 b_BadPlace
set_option maxHeartbeats 8000000 in
theorem mk_BadPlace {P : Program} {w : World} {K : PySem.W.Frag} {mg : Str → Option Value} {base : Heap} (T : Txt K mg) (sy : SysB base) : ExOk P w K mg base 2 "BadPlace" f_BadPlace ["part"] :=
  T.C_BadPlace.made sc_BadPlace rfl rfl fun fa cdv A outer s H E Fr hr => (by exact (qs_cons (qs_expr (q_vinit (oex_BadPlace T) T.C_SayError.gC T.C_SayError.sp T.C_SayError.rd T.C_SayError.vV (qa_cons (qv 0) (qa_cons (q_joined (.cons q_str (.cons (q_fmt (q_call ((ok_shown T sy).mono (by decide)) hr (takes_of rfl rfl rfl rfl) (qa_cons (qv 1) qa_nil))) .nil))) qa_nil))))
  (qs_one (qs_ost (ost_BadPlace_part T) (qv 0) (qv 1)))))
abbrev st_BadTie : Stmt := (clsBody (top 9)).getD 0 (.Pass ⟨0, 0, 0, 0⟩)
noncomputable def b_BadTie_0 : C :=
  (exprS (vinitE sh_BadTie (consA (varE 0) (consA (joinedE [(conE (.str "no tie: ")), (fmtE (callE f_shown (consA (varE 1) nilA)))]) nilA))))
noncomputable def b_BadTie_1 : C :=
  (ostS sh_BadTie "part" (varE 0) (varE 1))
theorem sc_BadTie : FnScope ["self", "part"] ["self", "part"] (defScope st_BadTie) := ⟨rfl, rfl, rfl, by decide +kernel, rfl, by decide +kernel, by decide +kernel⟩
noncomputable def b_BadTie : C :=
  (seqS b_BadTie_0 b_BadTie_1)
noncomputable def f_BadTie : Fn := mkFn 2 2 b_BadTie
set_option maxHeartbeats 8000000 in
theorem mk_BadTie {P : Program} {w : World} {K : PySem.W.Frag} {mg : Str → Option Value} {base : Heap} (T : Txt K mg) (sy : SysB base) : ExOk P w K mg base 2 "BadTie" f_BadTie ["part"] :=
  T.C_BadTie.made sc_BadTie rfl rfl fun fa cdv A outer s H E Fr hr => (by exact (qs_cons (qs_expr (q_vinit (oex_BadTie T) T.C_SayError.gC T.C_SayError.sp T.C_SayError.rd T.C_SayError.vV (qa_cons (qv 0) (qa_cons (q_joined (.cons q_str (.cons (q_fmt (q_call ((ok_shown T sy).mono (by decide)) hr (takes_of rfl rfl rfl rfl) (qa_cons (qv 1) qa_nil))) .nil))) qa_nil))))
  (qs_one (qs_ost (ost_BadTie_part T) (qv 0) (qv 1)))))
abbrev st_BadPriced : Stmt := (clsBody (top 10)).getD 0 (.Pass ⟨0, 0, 0, 0⟩)
noncomputable def b_BadPriced_0 : C :=
  (exprS (vinitE sh_BadPriced (consA (varE 0) (consA (joinedE [(conE (.str "no priced list: ")), (fmtE (callE f_shown (consA (varE 1) nilA)))]) nilA))))
noncomputable def b_BadPriced_1 : C :=
  (ostS sh_BadPriced "part" (varE 0) (varE 1))
theorem sc_BadPriced : FnScope ["self", "part"] ["self", "part"] (defScope st_BadPriced) := ⟨rfl, rfl, rfl, by decide +kernel, rfl, by decide +kernel, by decide +kernel⟩
noncomputable def b_BadPriced : C :=
  (seqS b_BadPriced_0 b_BadPriced_1)
noncomputable def f_BadPriced : Fn := mkFn 2 2 b_BadPriced
set_option maxHeartbeats 8000000 in
theorem mk_BadPriced {P : Program} {w : World} {K : PySem.W.Frag} {mg : Str → Option Value} {base : Heap} (T : Txt K mg) (sy : SysB base) : ExOk P w K mg base 2 "BadPriced" f_BadPriced ["part"] :=
  T.C_BadPriced.made sc_BadPriced rfl rfl fun fa cdv A outer s H E Fr hr => (by exact (qs_cons (qs_expr (q_vinit (oex_BadPriced T) T.C_SayError.gC T.C_SayError.sp T.C_SayError.rd T.C_SayError.vV (qa_cons (qv 0) (qa_cons (q_joined (.cons q_str (.cons (q_fmt (q_call ((ok_shown T sy).mono (by decide)) hr (takes_of rfl rfl rfl rfl) (qa_cons (qv 1) qa_nil))) .nil))) qa_nil))))
  (qs_one (qs_ost (ost_BadPriced_part T) (qv 0) (qv 1)))))
abbrev st_BadTalk : Stmt := (clsBody (top 11)).getD 0 (.Pass ⟨0, 0, 0, 0⟩)
noncomputable def b_BadTalk_0 : C :=
  (exprS (vinitE sh_BadTalk (consA (varE 0) (consA (joinedE [(conE (.str "no talk: ")), (fmtE (callE f_shown (consA (varE 1) nilA)))]) nilA))))
noncomputable def b_BadTalk_1 : C :=
  (ostS sh_BadTalk "part" (varE 0) (varE 1))
theorem sc_BadTalk : FnScope ["self", "part"] ["self", "part"] (defScope st_BadTalk) := ⟨rfl, rfl, rfl, by decide +kernel, rfl, by decide +kernel, by decide +kernel⟩
noncomputable def b_BadTalk : C :=
  (seqS b_BadTalk_0 b_BadTalk_1)
noncomputable def f_BadTalk : Fn := mkFn 2 2 b_BadTalk
set_option maxHeartbeats 8000000 in
theorem mk_BadTalk {P : Program} {w : World} {K : PySem.W.Frag} {mg : Str → Option Value} {base : Heap} (T : Txt K mg) (sy : SysB base) : ExOk P w K mg base 2 "BadTalk" f_BadTalk ["part"] :=
  T.C_BadTalk.made sc_BadTalk rfl rfl fun fa cdv A outer s H E Fr hr => (by exact (qs_cons (qs_expr (q_vinit (oex_BadTalk T) T.C_SayError.gC T.C_SayError.sp T.C_SayError.rd T.C_SayError.vV (qa_cons (qv 0) (qa_cons (q_joined (.cons q_str (.cons (q_fmt (q_call ((ok_shown T sy).mono (by decide)) hr (takes_of rfl rfl rfl rfl) (qa_cons (qv 1) qa_nil))) .nil))) qa_nil))))
  (qs_one (qs_ost (ost_BadTalk_part T) (qv 0) (qv 1)))))
abbrev st_BadTeller : Stmt := (clsBody (top 12)).getD 0 (.Pass ⟨0, 0, 0, 0⟩)
noncomputable def b_BadTeller_0 : C :=
  (exprS (vinitE sh_BadTeller (consA (varE 0) (consA (joinedE [(conE (.str "no teller: ")), (fmtE (callE f_shown (consA (varE 1) nilA)))]) nilA))))
noncomputable def b_BadTeller_1 : C :=
  (ostS sh_BadTeller "part" (varE 0) (varE 1))
theorem sc_BadTeller : FnScope ["self", "part"] ["self", "part"] (defScope st_BadTeller) := ⟨rfl, rfl, rfl, by decide +kernel, rfl, by decide +kernel, by decide +kernel⟩
noncomputable def b_BadTeller : C :=
  (seqS b_BadTeller_0 b_BadTeller_1)
noncomputable def f_BadTeller : Fn := mkFn 2 2 b_BadTeller
set_option maxHeartbeats 8000000 in
theorem mk_BadTeller {P : Program} {w : World} {K : PySem.W.Frag} {mg : Str → Option Value} {base : Heap} (T : Txt K mg) (sy : SysB base) : ExOk P w K mg base 2 "BadTeller" f_BadTeller ["part"] :=
  T.C_BadTeller.made sc_BadTeller rfl rfl fun fa cdv A outer s H E Fr hr => (by exact (qs_cons (qs_expr (q_vinit (oex_BadTeller T) T.C_SayError.gC T.C_SayError.sp T.C_SayError.rd T.C_SayError.vV (qa_cons (qv 0) (qa_cons (q_joined (.cons q_str (.cons (q_fmt (q_call ((ok_shown T sy).mono (by decide)) hr (takes_of rfl rfl rfl rfl) (qa_cons (qv 1) qa_nil))) .nil))) qa_nil))))
  (qs_one (qs_ost (ost_BadTeller_part T) (qv 0) (qv 1)))))
abbrev st_BadTranslation : Stmt := (clsBody (top 13)).getD 0 (.Pass ⟨0, 0, 0, 0⟩)
noncomputable def b_BadTranslation_0 : C :=
  (exprS (vinitE sh_BadTranslation (consA (varE 0) (consA (joinedE [(conE (.str "no translation: ")), (fmtE (callE f_shown (consA (varE 1) nilA)))]) nilA))))
noncomputable def b_BadTranslation_1 : C :=
  (ostS sh_BadTranslation "part" (varE 0) (varE 1))
theorem sc_BadTranslation : FnScope ["self", "part"] ["self", "part"] (defScope st_BadTranslation) := ⟨rfl, rfl, rfl, by decide +kernel, rfl, by decide +kernel, by decide +kernel⟩
noncomputable def b_BadTranslation : C :=
  (seqS b_BadTranslation_0 b_BadTranslation_1)
noncomputable def f_BadTranslation : Fn := mkFn 2 2 b_BadTranslation
set_option maxHeartbeats 8000000 in
theorem mk_BadTranslation {P : Program} {w : World} {K : PySem.W.Frag} {mg : Str → Option Value} {base : Heap} (T : Txt K mg) (sy : SysB base) : ExOk P w K mg base 2 "BadTranslation" f_BadTranslation ["part"] :=
  T.C_BadTranslation.made sc_BadTranslation rfl rfl fun fa cdv A outer s H E Fr hr => (by exact (qs_cons (qs_expr (q_vinit (oex_BadTranslation T) T.C_SayError.gC T.C_SayError.sp T.C_SayError.rd T.C_SayError.vV (qa_cons (qv 0) (qa_cons (q_joined (.cons q_str (.cons (q_fmt (q_call ((ok_shown T sy).mono (by decide)) hr (takes_of rfl rfl rfl rfl) (qa_cons (qv 1) qa_nil))) .nil))) qa_nil))))
  (qs_one (qs_ost (ost_BadTranslation_part T) (qv 0) (qv 1)))))
abbrev st_BadNumbers : Stmt := (clsBody (top 14)).getD 0 (.Pass ⟨0, 0, 0, 0⟩)
noncomputable def b_BadNumbers_0 : C :=
  (exprS (vinitE sh_BadNumbers (consA (varE 0) (consA (joinedE [(conE (.str "no such number: ")), (fmtE (callE f_shown (consA (varE 1) nilA)))]) nilA))))
noncomputable def b_BadNumbers_1 : C :=
  (ostS sh_BadNumbers "part" (varE 0) (varE 1))
theorem sc_BadNumbers : FnScope ["self", "part"] ["self", "part"] (defScope st_BadNumbers) := ⟨rfl, rfl, rfl, by decide +kernel, rfl, by decide +kernel, by decide +kernel⟩
noncomputable def b_BadNumbers : C :=
  (seqS b_BadNumbers_0 b_BadNumbers_1)
noncomputable def f_BadNumbers : Fn := mkFn 2 2 b_BadNumbers
set_option maxHeartbeats 8000000 in
theorem mk_BadNumbers {P : Program} {w : World} {K : PySem.W.Frag} {mg : Str → Option Value} {base : Heap} (T : Txt K mg) (sy : SysB base) : ExOk P w K mg base 2 "BadNumbers" f_BadNumbers ["part"] :=
  T.C_BadNumbers.made sc_BadNumbers rfl rfl fun fa cdv A outer s H E Fr hr => (by exact (qs_cons (qs_expr (q_vinit (oex_BadNumbers T) T.C_SayError.gC T.C_SayError.sp T.C_SayError.rd T.C_SayError.vV (qa_cons (qv 0) (qa_cons (q_joined (.cons q_str (.cons (q_fmt (q_call ((ok_shown T sy).mono (by decide)) hr (takes_of rfl rfl rfl rfl) (qa_cons (qv 1) qa_nil))) .nil))) qa_nil))))
  (qs_one (qs_ost (ost_BadNumbers_part T) (qv 0) (qv 1)))))
abbrev st_Missing : Stmt := (clsBody (top 15)).getD 0 (.Pass ⟨0, 0, 0, 0⟩)
noncomputable def b_Missing_0 : C :=
  (exprS (vinitE sh_Missing (consA (varE 0) (consA (joinedE [(conE (.str "not here: ")), (fmtE (callE f_shown (consA (varE 1) nilA)))]) nilA))))
noncomputable def b_Missing_1 : C :=
  (ostS sh_Missing "name" (varE 0) (varE 1))
theorem sc_Missing : FnScope ["self", "name"] ["self", "name"] (defScope st_Missing) := ⟨rfl, rfl, rfl, by decide +kernel, rfl, by decide +kernel, by decide +kernel⟩
noncomputable def b_Missing : C :=
  (seqS b_Missing_0 b_Missing_1)
noncomputable def f_Missing : Fn := mkFn 2 2 b_Missing
set_option maxHeartbeats 8000000 in
theorem mk_Missing {P : Program} {w : World} {K : PySem.W.Frag} {mg : Str → Option Value} {base : Heap} (T : Txt K mg) (sy : SysB base) : ExOk P w K mg base 2 "Missing" f_Missing ["name"] :=
  T.C_Missing.made sc_Missing rfl rfl fun fa cdv A outer s H E Fr hr => (by exact (qs_cons (qs_expr (q_vinit (oex_Missing T) T.C_SayError.gC T.C_SayError.sp T.C_SayError.rd T.C_SayError.vV (qa_cons (qv 0) (qa_cons (q_joined (.cons q_str (.cons (q_fmt (q_call ((ok_shown T sy).mono (by decide)) hr (takes_of rfl rfl rfl rfl) (qa_cons (qv 1) qa_nil))) .nil))) qa_nil))))
  (qs_one (qs_ost (ost_Missing_name T) (qv 0) (qv 1)))))
set_option maxHeartbeats 8000000 in
theorem mk_NoThing {P : Program} {w : World} {K : PySem.W.Frag} {mg : Str → Option Value} {base : Heap} (T : Txt K mg) (sy : SysB base) : ExOk P w K mg base 2 "NoThing" f_Missing ["name"] :=
  T.C_NoThing.made sc_Missing rfl rfl fun fa cdv A outer s H E Fr hr => (by exact (qs_cons (qs_expr (q_vinit (oex_Missing T) T.C_SayError.gC T.C_SayError.sp T.C_SayError.rd T.C_SayError.vV (qa_cons (qv 0) (qa_cons (q_joined (.cons q_str (.cons (q_fmt (q_call ((ok_shown T sy).mono (by decide)) hr (takes_of rfl rfl rfl rfl) (qa_cons (qv 1) qa_nil))) .nil))) qa_nil))))
  (qs_one (qs_ost (ost_Missing_name T) (qv 0) (qv 1)))))
set_option maxHeartbeats 8000000 in
theorem mk_NoWord {P : Program} {w : World} {K : PySem.W.Frag} {mg : Str → Option Value} {base : Heap} (T : Txt K mg) (sy : SysB base) : ExOk P w K mg base 2 "NoWord" f_Missing ["name"] :=
  T.C_NoWord.made sc_Missing rfl rfl fun fa cdv A outer s H E Fr hr => (by exact (qs_cons (qs_expr (q_vinit (oex_Missing T) T.C_SayError.gC T.C_SayError.sp T.C_SayError.rd T.C_SayError.vV (qa_cons (qv 0) (qa_cons (q_joined (.cons q_str (.cons (q_fmt (q_call ((ok_shown T sy).mono (by decide)) hr (takes_of rfl rfl rfl rfl) (qa_cons (qv 1) qa_nil))) .nil))) qa_nil))))
  (qs_one (qs_ost (ost_Missing_name T) (qv 0) (qv 1)))))
set_option maxHeartbeats 8000000 in
theorem mk_NoLink {P : Program} {w : World} {K : PySem.W.Frag} {mg : Str → Option Value} {base : Heap} (T : Txt K mg) (sy : SysB base) : ExOk P w K mg base 2 "NoLink" f_Missing ["name"] :=
  T.C_NoLink.made sc_Missing rfl rfl fun fa cdv A outer s H E Fr hr => (by exact (qs_cons (qs_expr (q_vinit (oex_Missing T) T.C_SayError.gC T.C_SayError.sp T.C_SayError.rd T.C_SayError.vV (qa_cons (qv 0) (qa_cons (q_joined (.cons q_str (.cons (q_fmt (q_call ((ok_shown T sy).mono (by decide)) hr (takes_of rfl rfl rfl rfl) (qa_cons (qv 1) qa_nil))) .nil))) qa_nil))))
  (qs_one (qs_ost (ost_Missing_name T) (qv 0) (qv 1)))))
set_option maxHeartbeats 8000000 in
theorem mk_NoScale {P : Program} {w : World} {K : PySem.W.Frag} {mg : Str → Option Value} {base : Heap} (T : Txt K mg) (sy : SysB base) : ExOk P w K mg base 2 "NoScale" f_Missing ["name"] :=
  T.C_NoScale.made sc_Missing rfl rfl fun fa cdv A outer s H E Fr hr => (by exact (qs_cons (qs_expr (q_vinit (oex_Missing T) T.C_SayError.gC T.C_SayError.sp T.C_SayError.rd T.C_SayError.vV (qa_cons (qv 0) (qa_cons (q_joined (.cons q_str (.cons (q_fmt (q_call ((ok_shown T sy).mono (by decide)) hr (takes_of rfl rfl rfl rfl) (qa_cons (qv 1) qa_nil))) .nil))) qa_nil))))
  (qs_one (qs_ost (ost_Missing_name T) (qv 0) (qv 1)))))
set_option maxHeartbeats 8000000 in
theorem mk_NoWay {P : Program} {w : World} {K : PySem.W.Frag} {mg : Str → Option Value} {base : Heap} (T : Txt K mg) (sy : SysB base) : ExOk P w K mg base 2 "NoWay" f_Missing ["name"] :=
  T.C_NoWay.made sc_Missing rfl rfl fun fa cdv A outer s H E Fr hr => (by exact (qs_cons (qs_expr (q_vinit (oex_Missing T) T.C_SayError.gC T.C_SayError.sp T.C_SayError.rd T.C_SayError.vV (qa_cons (qv 0) (qa_cons (q_joined (.cons q_str (.cons (q_fmt (q_call ((ok_shown T sy).mono (by decide)) hr (takes_of rfl rfl rfl rfl) (qa_cons (qv 1) qa_nil))) .nil))) qa_nil))))
  (qs_one (qs_ost (ost_Missing_name T) (qv 0) (qv 1)))))
set_option maxHeartbeats 8000000 in
theorem mk_NoName {P : Program} {w : World} {K : PySem.W.Frag} {mg : Str → Option Value} {base : Heap} (T : Txt K mg) (sy : SysB base) : ExOk P w K mg base 2 "NoName" f_Missing ["name"] :=
  T.C_NoName.made sc_Missing rfl rfl fun fa cdv A outer s H E Fr hr => (by exact (qs_cons (qs_expr (q_vinit (oex_Missing T) T.C_SayError.gC T.C_SayError.sp T.C_SayError.rd T.C_SayError.vV (qa_cons (qv 0) (qa_cons (q_joined (.cons q_str (.cons (q_fmt (q_call ((ok_shown T sy).mono (by decide)) hr (takes_of rfl rfl rfl rfl) (qa_cons (qv 1) qa_nil))) .nil))) qa_nil))))
  (qs_one (qs_ost (ost_Missing_name T) (qv 0) (qv 1)))))
abbrev st_NotLet : Stmt := (clsBody (top 22)).getD 0 (.Pass ⟨0, 0, 0, 0⟩)
noncomputable def b_NotLet_0 : C :=
  (exprS (vinitE sh_NotLet (consA (varE 0) (consA (joinedE [(conE (.str "the way ")), (fmtE (callE f_shown (consA (varE 1) nilA))), (conE (.str " does not let ")), (fmtE (callE f_shown (consA (varE 2) nilA)))]) nilA))))
noncomputable def b_NotLet_1 : C :=
  (ostS sh_NotLet "way" (varE 0) (varE 1))
noncomputable def b_NotLet_2 : C :=
  (ostS sh_NotLet "kind" (varE 0) (varE 2))
theorem sc_NotLet : FnScope ["self", "way", "kind"] ["self", "way", "kind"] (defScope st_NotLet) := ⟨rfl, rfl, rfl, by decide +kernel, rfl, by decide +kernel, by decide +kernel⟩
noncomputable def b_NotLet : C :=
  (seqS b_NotLet_0 (seqS b_NotLet_1 b_NotLet_2))
noncomputable def f_NotLet : Fn := mkFn 3 3 b_NotLet
set_option maxHeartbeats 8000000 in
theorem mk_NotLet {P : Program} {w : World} {K : PySem.W.Frag} {mg : Str → Option Value} {base : Heap} (T : Txt K mg) (sy : SysB base) : ExOk P w K mg base 2 "NotLet" f_NotLet ["way", "kind"] :=
  T.C_NotLet.made sc_NotLet rfl rfl fun fa cdv A outer s H E Fr hr => (by exact (qs_cons (qs_expr (q_vinit (oex_NotLet T) T.C_SayError.gC T.C_SayError.sp T.C_SayError.rd T.C_SayError.vV (qa_cons (qv 0) (qa_cons (q_joined (.cons q_str (.cons (q_fmt (q_call ((ok_shown T sy).mono (by decide)) hr (takes_of rfl rfl rfl rfl) (qa_cons (qv 1) qa_nil))) (.cons q_str (.cons (q_fmt (q_call ((ok_shown T sy).mono (by decide)) hr (takes_of rfl rfl rfl rfl) (qa_cons (qv 2) qa_nil))) .nil))))) qa_nil))))
  (qs_cons (qs_ost (ost_NotLet_way T) (qv 0) (qv 1))
  (qs_one (qs_ost (ost_NotLet_kind T) (qv 0) (qv 2))))))
abbrev st_Twice : Stmt := (clsBody (top 23)).getD 0 (.Pass ⟨0, 0, 0, 0⟩)
noncomputable def b_Twice_0 : C :=
  (exprS (vinitE sh_Twice (consA (varE 0) (consA (joinedE [(conE (.str "twice: ")), (fmtE (callE f_shown (consA (varE 1) nilA)))]) nilA))))
noncomputable def b_Twice_1 : C :=
  (ostS sh_Twice "name" (varE 0) (varE 1))
theorem sc_Twice : FnScope ["self", "name"] ["self", "name"] (defScope st_Twice) := ⟨rfl, rfl, rfl, by decide +kernel, rfl, by decide +kernel, by decide +kernel⟩
noncomputable def b_Twice : C :=
  (seqS b_Twice_0 b_Twice_1)
noncomputable def f_Twice : Fn := mkFn 2 2 b_Twice
set_option maxHeartbeats 8000000 in
theorem mk_Twice {P : Program} {w : World} {K : PySem.W.Frag} {mg : Str → Option Value} {base : Heap} (T : Txt K mg) (sy : SysB base) : ExOk P w K mg base 2 "Twice" f_Twice ["name"] :=
  T.C_Twice.made sc_Twice rfl rfl fun fa cdv A outer s H E Fr hr => (by exact (qs_cons (qs_expr (q_vinit (oex_Twice T) T.C_SayError.gC T.C_SayError.sp T.C_SayError.rd T.C_SayError.vV (qa_cons (qv 0) (qa_cons (q_joined (.cons q_str (.cons (q_fmt (q_call ((ok_shown T sy).mono (by decide)) hr (takes_of rfl rfl rfl rfl) (qa_cons (qv 1) qa_nil))) .nil))) qa_nil))))
  (qs_one (qs_ost (ost_Twice_name T) (qv 0) (qv 1)))))
abbrev st_Unlike : Stmt := (clsBody (top 24)).getD 0 (.Pass ⟨0, 0, 0, 0⟩)
noncomputable def b_Unlike_0 : C :=
  (exprS (vinitE sh_Unlike (consA (varE 0) (consA (joinedE [(conE (.str "unlike: ")), (fmtE (callE f_shown (consA (varE 1) nilA)))]) nilA))))
noncomputable def b_Unlike_1 : C :=
  (ostS sh_Unlike "what" (varE 0) (varE 1))
theorem sc_Unlike : FnScope ["self", "what"] ["self", "what"] (defScope st_Unlike) := ⟨rfl, rfl, rfl, by decide +kernel, rfl, by decide +kernel, by decide +kernel⟩
noncomputable def b_Unlike : C :=
  (seqS b_Unlike_0 b_Unlike_1)
noncomputable def f_Unlike : Fn := mkFn 2 2 b_Unlike
set_option maxHeartbeats 8000000 in
theorem mk_Unlike {P : Program} {w : World} {K : PySem.W.Frag} {mg : Str → Option Value} {base : Heap} (T : Txt K mg) (sy : SysB base) : ExOk P w K mg base 2 "Unlike" f_Unlike ["what"] :=
  T.C_Unlike.made sc_Unlike rfl rfl fun fa cdv A outer s H E Fr hr => (by exact (qs_cons (qs_expr (q_vinit (oex_Unlike T) T.C_SayError.gC T.C_SayError.sp T.C_SayError.rd T.C_SayError.vV (qa_cons (qv 0) (qa_cons (q_joined (.cons q_str (.cons (q_fmt (q_call ((ok_shown T sy).mono (by decide)) hr (takes_of rfl rfl rfl rfl) (qa_cons (qv 1) qa_nil))) .nil))) qa_nil))))
  (qs_one (qs_ost (ost_Unlike_what T) (qv 0) (qv 1)))))
abbrev st_TooMany : Stmt := (clsBody (top 26)).getD 0 (.Pass ⟨0, 0, 0, 0⟩)
noncomputable def b_TooMany_0 : C :=
  (exprS (vinitE sh_TooMany (consA (varE 0) (consA (joinedE [(conE (.str "too many: ")), (fmtE (callE f_shown (consA (varE 1) nilA))), (conE (.str ", at most ")), (fmtE (callE f_shown (consA (varE 2) nilA)))]) nilA))))
noncomputable def b_TooMany_1 : C :=
  (ostS sh_TooMany "what" (varE 0) (varE 1))
noncomputable def b_TooMany_2 : C :=
  (ostS sh_TooMany "most" (varE 0) (varE 2))
theorem sc_TooMany : FnScope ["self", "what", "most"] ["self", "what", "most"] (defScope st_TooMany) := ⟨rfl, rfl, rfl, by decide +kernel, rfl, by decide +kernel, by decide +kernel⟩
noncomputable def b_TooMany : C :=
  (seqS b_TooMany_0 (seqS b_TooMany_1 b_TooMany_2))
noncomputable def f_TooMany : Fn := mkFn 3 3 b_TooMany
set_option maxHeartbeats 8000000 in
theorem mk_TooMany {P : Program} {w : World} {K : PySem.W.Frag} {mg : Str → Option Value} {base : Heap} (T : Txt K mg) (sy : SysB base) : ExOk P w K mg base 2 "TooMany" f_TooMany ["what", "most"] :=
  T.C_TooMany.made sc_TooMany rfl rfl fun fa cdv A outer s H E Fr hr => (by exact (qs_cons (qs_expr (q_vinit (oex_TooMany T) T.C_SayError.gC T.C_SayError.sp T.C_SayError.rd T.C_SayError.vV (qa_cons (qv 0) (qa_cons (q_joined (.cons q_str (.cons (q_fmt (q_call ((ok_shown T sy).mono (by decide)) hr (takes_of rfl rfl rfl rfl) (qa_cons (qv 1) qa_nil))) (.cons q_str (.cons (q_fmt (q_call ((ok_shown T sy).mono (by decide)) hr (takes_of rfl rfl rfl rfl) (qa_cons (qv 2) qa_nil))) .nil))))) qa_nil))))
  (qs_cons (qs_ost (ost_TooMany_what T) (qv 0) (qv 1))
  (qs_one (qs_ost (ost_TooMany_most T) (qv 0) (qv 2))))))
abbrev st_BadText : Stmt := (clsBody (top 27)).getD 0 (.Pass ⟨0, 0, 0, 0⟩)
noncomputable def b_BadText_0 : C :=
  (exprS (vinitE sh_BadText (consA (varE 0) (consA (joinedE [(conE (.str "line ")), (fmtE (callE f_shown (consA (varE 1) nilA))), (conE (.str ": word ")), (fmtE (callE f_shown (consA (varE 2) nilA))), (conE (.str " cannot stand"))]) nilA))))
noncomputable def b_BadText_1 : C :=
  (ostS sh_BadText "line" (varE 0) (varE 1))
noncomputable def b_BadText_2 : C :=
  (ostS sh_BadText "word" (varE 0) (varE 2))
theorem sc_BadText : FnScope ["self", "line", "word"] ["self", "line", "word"] (defScope st_BadText) := ⟨rfl, rfl, rfl, by decide +kernel, rfl, by decide +kernel, by decide +kernel⟩
noncomputable def b_BadText : C :=
  (seqS b_BadText_0 (seqS b_BadText_1 b_BadText_2))
noncomputable def f_BadText : Fn := mkFn 3 3 b_BadText
set_option maxHeartbeats 8000000 in
theorem mk_BadText {P : Program} {w : World} {K : PySem.W.Frag} {mg : Str → Option Value} {base : Heap} (T : Txt K mg) (sy : SysB base) : ExOk P w K mg base 2 "BadText" f_BadText ["line", "word"] :=
  T.C_BadText.made sc_BadText rfl rfl fun fa cdv A outer s H E Fr hr => (by exact (qs_cons (qs_expr (q_vinit (oex_BadText T) T.C_SayError.gC T.C_SayError.sp T.C_SayError.rd T.C_SayError.vV (qa_cons (qv 0) (qa_cons (q_joined (.cons q_str (.cons (q_fmt (q_call ((ok_shown T sy).mono (by decide)) hr (takes_of rfl rfl rfl rfl) (qa_cons (qv 1) qa_nil))) (.cons q_str (.cons (q_fmt (q_call ((ok_shown T sy).mono (by decide)) hr (takes_of rfl rfl rfl rfl) (qa_cons (qv 2) qa_nil))) (.cons q_str .nil)))))) qa_nil))))
  (qs_cons (qs_ost (ost_BadText_line T) (qv 0) (qv 1))
  (qs_one (qs_ost (ost_BadText_word T) (qv 0) (qv 2))))))
abbrev st_BadLine : Stmt := (clsBody (top 28)).getD 0 (.Pass ⟨0, 0, 0, 0⟩)
noncomputable def b_BadLine_0 : C :=
  (exprS (vinitE sh_BadLine (consA (varE 0) (consA (joinedE [(conE (.str "line ")), (fmtE (callE f_shown (consA (varE 1) nilA))), (conE (.str " raised ")), (fmtE (callE f_shown (consA (varE 2) nilA)))]) nilA))))
noncomputable def b_BadLine_1 : C :=
  (ostS sh_BadLine "line" (varE 0) (varE 1))
noncomputable def b_BadLine_2 : C :=
  (ostS sh_BadLine "error" (varE 0) (varE 2))
theorem sc_BadLine : FnScope ["self", "line", "error"] ["self", "line", "error"] (defScope st_BadLine) := ⟨rfl, rfl, rfl, by decide +kernel, rfl, by decide +kernel, by decide +kernel⟩
noncomputable def b_BadLine : C :=
  (seqS b_BadLine_0 (seqS b_BadLine_1 b_BadLine_2))
noncomputable def f_BadLine : Fn := mkFn 3 3 b_BadLine
set_option maxHeartbeats 8000000 in
theorem mk_BadLine {P : Program} {w : World} {K : PySem.W.Frag} {mg : Str → Option Value} {base : Heap} (T : Txt K mg) (sy : SysB base) : ExOk P w K mg base 2 "BadLine" f_BadLine ["line", "error"] :=
  T.C_BadLine.made sc_BadLine rfl rfl fun fa cdv A outer s H E Fr hr => (by exact (qs_cons (qs_expr (q_vinit (oex_BadLine T) T.C_SayError.gC T.C_SayError.sp T.C_SayError.rd T.C_SayError.vV (qa_cons (qv 0) (qa_cons (q_joined (.cons q_str (.cons (q_fmt (q_call ((ok_shown T sy).mono (by decide)) hr (takes_of rfl rfl rfl rfl) (qa_cons (qv 1) qa_nil))) (.cons q_str (.cons (q_fmt (q_call ((ok_shown T sy).mono (by decide)) hr (takes_of rfl rfl rfl rfl) (qa_cons (qv 2) qa_nil))) .nil))))) qa_nil))))
  (qs_cons (qs_ost (ost_BadLine_line T) (qv 0) (qv 1))
  (qs_one (qs_ost (ost_BadLine_error T) (qv 0) (qv 2))))))
abbrev st_l_jar : Stmt := top 30
theorem sc_l_jar : FnScope ["_law_script", "_law_cell"] ["_law_script"] (defScope st_l_jar) := ⟨rfl, rfl, rfl, by decide +kernel, rfl, by decide +kernel, by decide +kernel⟩
noncomputable def b_l_jar : C :=
  (retS (liveE (lstE (consA (lcE (iterE (sliceE (borE 0) noO (someO (conE (.int 63))))) [1] (.nm 1) yesT (callE intF (consA (borE 1) nilA))) (consA (conE (.int 0)) (consA (conE (.int 0)) nilA))))))
noncomputable def f_l_jar : Fn := mkFn 1 2 b_l_jar
set_option maxHeartbeats 8000000 in
theorem ok_l_jar {P : Program} {w : World} {K : PySem.W.Frag} {mg : Str → Option Value} {base : Heap} (T : Txt K mg) (sy : SysB base) : DefOk P w K mg base 1 "_law_jar" f_l_jar :=
  T.d_l_jar.ok sc_l_jar rfl rfl fun fa cdv A outer s H E Fr hr => (by exact (qs_one (qs_ret (q_live (q_lst (qa_cons (q_fz (q_lc rfl sc_l_jar.nd (qi_bor (q_B (q_fz (q_slice (qb 0) qo_none (qo_some (q_B q_int)))))) (own := [("_law_cell", 1)]) (⟨rfl, by decide +kernel, by decide +kernel, by decide +kernel, by decide +kernel⟩ : BlkOk ["_law_script", "_law_cell"] (defScope st_l_jar) _ [("_law_cell", 1)]) rfl (fun _ _ _ _ _ => (pg_name (i := 1) sc_l_jar.nd rfl (by first | exact Or.inl rfl | exact Or.inr rfl))) (fun _ _ _ _ _ => qts_nil) (fun _ _ _ _ _ => (q_fz (q_callT qc_int T.b_int (by decide +kernel) (qab_cons (qb 1) qab_nil)))))) (qa_cons q_int (qa_cons q_int qa_nil))))))))
abbrev st_l_dip : Stmt := top 31
noncomputable def b_l_dip_0 : C :=
  (ifS (tstE (binE gtD (binE idxD (borE 0) (conE (.int 2))) (conE (.int 0)))) (seqS (setS 2 (binE idxD (borE 0) (conE (.int 2))))
  (seqS (setItS (binE fdivD (callE intF (consA (borE 2) nilA)) (borE 1)) (varE 0) (conE (.int 2)))
  (retS (binE modD (callE intF (consA (borE 2) nilA)) (borE 1))))) passS)
noncomputable def b_l_dip_1 : C :=
  (setS 3 (binE idxD (borE 0) (conE (.int 1))))
noncomputable def b_l_dip_2 : C :=
  (setItS (binE addD (borE 3) (conE (.int 1))) (varE 0) (conE (.int 1)))
noncomputable def b_l_dip_3 : C :=
  (setS 4 (binE addD (binE mulD (conE (.int 31259)) (borE 3)) (conE (.int 1423))))
noncomputable def b_l_dip_4 : C :=
  (ifS (tstE (binE neD (binE idxD (borE 0) (conE (.int 0))) (lstE nilA))) (setS 4 (binE idxD (binE idxD (borE 0) (conE (.int 0))) (binE modD (callE intF (consA (borE 3) nilA)) (callE lenF (consA (binE idxD (borE 0) (conE (.int 0))) nilA))))) passS)
noncomputable def b_l_dip_5 : C :=
  (ifS (andT (tstE (binE ltbD (borE 3) (callE lenF (consA (binE idxD (borE 0) (conE (.int 0))) nilA)))) (tstE (binE geD (callE absF (consA (borE 4) nilA)) (binE powD (conE (.int 10)) (conE (.int 18)))))) (seqS (setS 2 (binE subD (callE absF (consA (borE 4) nilA)) (binE powD (conE (.int 10)) (conE (.int 18)))))
  (seqS (setItS (binE fdivD (callE intF (consA (borE 2) nilA)) (borE 1)) (varE 0) (conE (.int 2)))
  (retS (binE modD (callE intF (consA (borE 2) nilA)) (borE 1))))) passS)
noncomputable def b_l_dip_6 : C :=
  (setS 5 (binE modD (callE intF (consA (binE powD (binE addD (binE addD (binE modD (callE intF (consA (borE 4) nilA)) (conE (.int 2147483549))) (binE mulD (conE (.int 44111)) (borE 3))) (conE (.int 1423))) (conE (.int 5))) nilA)) (conE (.int 2147483647))))
noncomputable def b_l_dip_7 : C :=
  (setS 5 (binE modD (callE intF (consA (binE powD (binE addD (binE addD (binE mulD (borE 5) (binE addD (binE mulD (conE (.int 2)) (borE 3)) (conE (.int 1409)))) (binE mulD (binE mulD (conE (.int 31259)) (borE 3)) (borE 3))) (conE (.int 1423))) (conE (.int 3))) nilA)) (conE (.int 2147483563))))
noncomputable def b_l_dip_8 : C :=
  (retS (binE modD (callE intF (consA (binE fdivD (borE 5) (conE (.int 64))) nilA)) (borE 1)))
theorem sc_l_dip : FnScope ["_law_jar_here", "_law_many", "_law_rest", "_law_turn", "_law_cell", "_law_mixed"] ["_law_jar_here", "_law_many"] (defScope st_l_dip) := ⟨rfl, rfl, rfl, by decide +kernel, rfl, by decide +kernel, by decide +kernel⟩
noncomputable def b_l_dip : C :=
  (seqS b_l_dip_0 (seqS b_l_dip_1 (seqS b_l_dip_2 (seqS b_l_dip_3 (seqS b_l_dip_4 (seqS b_l_dip_5 (seqS b_l_dip_6 (seqS b_l_dip_7 b_l_dip_8))))))))
noncomputable def f_l_dip : Fn := mkFn 2 6 b_l_dip
set_option maxHeartbeats 8000000 in
theorem ok_l_dip {P : Program} {w : World} {K : PySem.W.Frag} {mg : Str → Option Value} {base : Heap} (T : Txt K mg) (sy : SysB base) : DefOk P w K mg base 1 "_law_dip" f_l_dip :=
  T.d_l_dip.ok sc_l_dip rfl rfl fun fa cdv A outer s H E Fr hr => (by exact (qs_cons (qs_if (q_cmpT qo_gt (q_B (q_idx hr.u1 (qb 0) (q_B q_int))) (q_B q_int)) (qs_cons (qs_set (i := 2) (q_idx hr.u1 (qb 0) (q_B q_int)) sc_l_dip.nd)
  (qs_cons (qs_setIt (q_fz (q_bin qo_fdiv (q_B (q_fz (q_callT qc_int T.b_int (by decide +kernel) (qab_cons (qb 2) qab_nil)))) (qb 1))) (qv 0) (q_B q_int))
  (qs_one (qs_ret (q_fz (q_bin qo_mod (q_B (q_fz (q_callT qc_int T.b_int (by decide +kernel) (qab_cons (qb 2) qab_nil)))) (qb 1))))))) qs_nil)
  (qs_cons (qs_set (i := 3) (q_idx hr.u1 (qb 0) (q_B q_int)) sc_l_dip.nd)
  (qs_cons (qs_setIt (q_fz (q_bin qo_add (qb 3) (q_B q_int))) (qv 0) (q_B q_int))
  (qs_cons (qs_set (i := 4) (q_fz (q_bin qo_add (q_B (q_fz (q_bin qo_mul (q_B q_int) (qb 3)))) (q_B q_int))) sc_l_dip.nd)
  (qs_cons (qs_if (q_cmpT (qo_ne hr.units) (q_B (q_idx hr.u1 (qb 0) (q_B q_int))) (q_B (q_fz (q_lst qa_nil)))) (qs_one (qs_set (i := 4) (q_idx hr.u1 (q_B (q_idx hr.u1 (qb 0) (q_B q_int))) (q_B (q_fz (q_bin qo_mod (q_B (q_fz (q_callT qc_int T.b_int (by decide +kernel) (qab_cons (qb 3) qab_nil)))) (q_B (q_fz (q_callB qc_len T.b_len (by decide +kernel) (qab_cons (q_B (q_idx hr.u1 (qb 0) (q_B q_int))) qab_nil)))))))) sc_l_dip.nd)) qs_nil)
  (qs_cons (qs_if ((q_andT (q_cmpT qo_ltb (qb 3) (q_B (q_fz (q_callB qc_len T.b_len (by decide +kernel) (qab_cons (q_B (q_idx hr.u1 (qb 0) (q_B q_int))) qab_nil))))) (q_and1T (q_cmpT qo_ge (q_B (q_fz (q_callB qc_abs T.b_abs (by decide +kernel) (qab_cons (qb 4) qab_nil)))) (q_B (q_fz (q_bin qo_pow (q_B q_int) (q_B q_int)))))))).pt (qs_cons (qs_set (i := 2) (q_fz (q_bin qo_sub (q_B (q_fz (q_callB qc_abs T.b_abs (by decide +kernel) (qab_cons (qb 4) qab_nil)))) (q_B (q_fz (q_bin qo_pow (q_B q_int) (q_B q_int)))))) sc_l_dip.nd)
  (qs_cons (qs_setIt (q_fz (q_bin qo_fdiv (q_B (q_fz (q_callT qc_int T.b_int (by decide +kernel) (qab_cons (qb 2) qab_nil)))) (qb 1))) (qv 0) (q_B q_int))
  (qs_one (qs_ret (q_fz (q_bin qo_mod (q_B (q_fz (q_callT qc_int T.b_int (by decide +kernel) (qab_cons (qb 2) qab_nil)))) (qb 1))))))) qs_nil)
  (qs_cons (qs_set (i := 5) (q_fz (q_bin qo_mod (q_B (q_fz (q_callT qc_int T.b_int (by decide +kernel) (qab_cons (q_B (q_fz (q_bin qo_pow (q_B (q_fz (q_bin qo_add (q_B (q_fz (q_bin qo_add (q_B (q_fz (q_bin qo_mod (q_B (q_fz (q_callT qc_int T.b_int (by decide +kernel) (qab_cons (qb 4) qab_nil)))) (q_B q_int)))) (q_B (q_fz (q_bin qo_mul (q_B q_int) (qb 3))))))) (q_B q_int)))) (q_B q_int)))) qab_nil)))) (q_B q_int))) sc_l_dip.nd)
  (qs_cons (qs_set (i := 5) (q_fz (q_bin qo_mod (q_B (q_fz (q_callT qc_int T.b_int (by decide +kernel) (qab_cons (q_B (q_fz (q_bin qo_pow (q_B (q_fz (q_bin qo_add (q_B (q_fz (q_bin qo_add (q_B (q_fz (q_bin qo_mul (qb 5) (q_B (q_fz (q_bin qo_add (q_B (q_fz (q_bin qo_mul (q_B q_int) (qb 3)))) (q_B q_int))))))) (q_B (q_fz (q_bin qo_mul (q_B (q_fz (q_bin qo_mul (q_B q_int) (qb 3)))) (qb 3))))))) (q_B q_int)))) (q_B q_int)))) qab_nil)))) (q_B q_int))) sc_l_dip.nd)
  (qs_one (qs_ret (q_fz (q_bin qo_mod (q_B (q_fz (q_callT qc_int T.b_int (by decide +kernel) (qab_cons (q_B (q_fz (q_bin qo_fdiv (qb 5) (q_B q_int)))) qab_nil)))) (qb 1))))))))))))))
abbrev st_l_some : Stmt := top 32
theorem sc_l_some : FnScope ["_law_jar_here", "_law_things"] ["_law_jar_here", "_law_things"] (defScope st_l_some) := ⟨rfl, rfl, rfl, by decide +kernel, rfl, by decide +kernel, by decide +kernel⟩
noncomputable def b_l_some : C :=
  (retS (binE idxD (borE 1) (callE f_l_dip (consA (varE 0) (consA (callE lenF (consA (borE 1) nilA)) nilA)))))
noncomputable def f_l_some : Fn := mkFn 2 2 b_l_some
set_option maxHeartbeats 8000000 in
theorem ok_l_some {P : Program} {w : World} {K : PySem.W.Frag} {mg : Str → Option Value} {base : Heap} (T : Txt K mg) (sy : SysB base) : DefOk P w K mg base 2 "_law_some" f_l_some :=
  T.d_l_some.ok sc_l_some rfl rfl fun fa cdv A outer s H E Fr hr => (by exact (qs_one (qs_ret (q_idx hr.u1 (qb 1) (q_B (q_call ((ok_l_dip T sy).mono (by decide)) hr (takes_of rfl rfl rfl rfl) (qa_cons (qv 0) (qa_cons (q_fz (q_callB qc_len T.b_len (by decide +kernel) (qab_cons (qb 1) qab_nil))) qa_nil))))))))
abbrev st_l_parts : Stmt := top 33
noncomputable def b_l_parts_0 : C :=
  (setS 1 (lstE (consA (callE (excF "BadRoom" f_BadRoom) (consA (varE 0) nilA)) (consA (callE (excF "BadDeed" f_BadDeed) (turnA false (consA (varE 0) nilA))) (consA (callE (excF "BadLoose" f_BadLoose) (consA (varE 0) nilA)) (consA (callE (excF "BadSaying" f_BadSaying) (turnA false (consA (varE 0) nilA))) (consA (callE (excF "BadBook" f_BadBook) (consA (varE 0) nilA)) nilA)))))))
noncomputable def b_l_parts_1 : C :=
  (setS 1 (binE addD (borE 1) (lstE (consA (callE (excF "BadPlace" f_BadPlace) (turnA false (consA (varE 0) nilA))) (consA (callE (excF "BadTie" f_BadTie) (consA (varE 0) nilA)) (consA (callE (excF "BadPriced" f_BadPriced) (turnA false (consA (varE 0) nilA))) (consA (callE (excF "BadTalk" f_BadTalk) (consA (varE 0) nilA)) nilA)))))))
noncomputable def b_l_parts_2 : C :=
  (retS (binE addD (borE 1) (lstE (consA (callE (excF "BadTeller" f_BadTeller) (turnA false (consA (varE 0) nilA))) (consA (callE (excF "BadTranslation" f_BadTranslation) (consA (varE 0) nilA)) (consA (callE (excF "BadNumbers" f_BadNumbers) (turnA false (consA (varE 0) nilA))) nilA))))))
theorem sc_l_parts : FnScope ["_law_part", "_law_made"] ["_law_part"] (defScope st_l_parts) := ⟨rfl, rfl, rfl, by decide +kernel, rfl, by decide +kernel, by decide +kernel⟩
noncomputable def b_l_parts : C :=
  (seqS b_l_parts_0 (seqS b_l_parts_1 b_l_parts_2))
noncomputable def f_l_parts : Fn := mkFn 1 2 b_l_parts
set_option maxHeartbeats 8000000 in
theorem ok_l_parts {P : Program} {w : World} {K : PySem.W.Frag} {mg : Str → Option Value} {base : Heap} (T : Txt K mg) (sy : SysB base) : DefOk P w K mg base 4 "_law_parts" f_l_parts :=
  T.d_l_parts.ok sc_l_parts rfl rfl fun fa cdv A outer s H E Fr hr => (by exact (qs_cons (qs_set (i := 1) (q_fz (q_lst (qa_cons (q_exc ((mk_BadRoom T sy).mono (by decide)) hr (fun _ _ h => mkFn_len h) (qa_cons (qv 0) qa_nil)) (qa_cons (q_excK false ((mk_BadDeed T sy).mono (by decide)) hr (fun _ _ h => mkFn_len h) (qk_cons (qv 0) qk_nil)) (qa_cons (q_exc ((mk_BadLoose T sy).mono (by decide)) hr (fun _ _ h => mkFn_len h) (qa_cons (qv 0) qa_nil)) (qa_cons (q_excK false ((mk_BadSaying T sy).mono (by decide)) hr (fun _ _ h => mkFn_len h) (qk_cons (qv 0) qk_nil)) (qa_cons (q_exc ((mk_BadBook T sy).mono (by decide)) hr (fun _ _ h => mkFn_len h) (qa_cons (qv 0) qa_nil)) qa_nil))))))) sc_l_parts.nd)
  (qs_cons (qs_set (i := 1) (q_fz (q_bin qo_add (qb 1) (q_B (q_fz (q_lst (qa_cons (q_excK false ((mk_BadPlace T sy).mono (by decide)) hr (fun _ _ h => mkFn_len h) (qk_cons (qv 0) qk_nil)) (qa_cons (q_exc ((mk_BadTie T sy).mono (by decide)) hr (fun _ _ h => mkFn_len h) (qa_cons (qv 0) qa_nil)) (qa_cons (q_excK false ((mk_BadPriced T sy).mono (by decide)) hr (fun _ _ h => mkFn_len h) (qk_cons (qv 0) qk_nil)) (qa_cons (q_exc ((mk_BadTalk T sy).mono (by decide)) hr (fun _ _ h => mkFn_len h) (qa_cons (qv 0) qa_nil)) qa_nil))))))))) sc_l_parts.nd)
  (qs_one (qs_ret (q_fz (q_bin qo_add (qb 1) (q_B (q_fz (q_lst (qa_cons (q_excK false ((mk_BadTeller T sy).mono (by decide)) hr (fun _ _ h => mkFn_len h) (qk_cons (qv 0) qk_nil)) (qa_cons (q_exc ((mk_BadTranslation T sy).mono (by decide)) hr (fun _ _ h => mkFn_len h) (qa_cons (qv 0) qa_nil)) (qa_cons (q_excK false ((mk_BadNumbers T sy).mono (by decide)) hr (fun _ _ h => mkFn_len h) (qk_cons (qv 0) qk_nil)) qa_nil)))))))))))))
abbrev st_l_parts_turned : Stmt := top 34
noncomputable def b_l_parts_turned_0 : C :=
  (setS 1 (lstE (consA (callE (excF "BadRoom" f_BadRoom) (turnA false (consA (varE 0) nilA))) (consA (callE (excF "BadDeed" f_BadDeed) (consA (varE 0) nilA)) (consA (callE (excF "BadLoose" f_BadLoose) (turnA false (consA (varE 0) nilA))) (consA (callE (excF "BadSaying" f_BadSaying) (consA (varE 0) nilA)) (consA (callE (excF "BadBook" f_BadBook) (turnA false (consA (varE 0) nilA))) nilA)))))))
noncomputable def b_l_parts_turned_1 : C :=
  (setS 1 (binE addD (borE 1) (lstE (consA (callE (excF "BadPlace" f_BadPlace) (consA (varE 0) nilA)) (consA (callE (excF "BadTie" f_BadTie) (turnA false (consA (varE 0) nilA))) (consA (callE (excF "BadPriced" f_BadPriced) (consA (varE 0) nilA)) (consA (callE (excF "BadTalk" f_BadTalk) (turnA false (consA (varE 0) nilA))) nilA)))))))
noncomputable def b_l_parts_turned_2 : C :=
  (retS (binE addD (borE 1) (lstE (consA (callE (excF "BadTeller" f_BadTeller) (consA (varE 0) nilA)) (consA (callE (excF "BadTranslation" f_BadTranslation) (turnA false (consA (varE 0) nilA))) (consA (callE (excF "BadNumbers" f_BadNumbers) (consA (varE 0) nilA)) nilA))))))
theorem sc_l_parts_turned : FnScope ["_law_part", "_law_made"] ["_law_part"] (defScope st_l_parts_turned) := ⟨rfl, rfl, rfl, by decide +kernel, rfl, by decide +kernel, by decide +kernel⟩
noncomputable def b_l_parts_turned : C :=
  (seqS b_l_parts_turned_0 (seqS b_l_parts_turned_1 b_l_parts_turned_2))
noncomputable def f_l_parts_turned : Fn := mkFn 1 2 b_l_parts_turned
set_option maxHeartbeats 8000000 in
theorem ok_l_parts_turned {P : Program} {w : World} {K : PySem.W.Frag} {mg : Str → Option Value} {base : Heap} (T : Txt K mg) (sy : SysB base) : DefOk P w K mg base 4 "_law_parts_turned" f_l_parts_turned :=
  T.d_l_parts_turned.ok sc_l_parts_turned rfl rfl fun fa cdv A outer s H E Fr hr => (by exact (qs_cons (qs_set (i := 1) (q_fz (q_lst (qa_cons (q_excK false ((mk_BadRoom T sy).mono (by decide)) hr (fun _ _ h => mkFn_len h) (qk_cons (qv 0) qk_nil)) (qa_cons (q_exc ((mk_BadDeed T sy).mono (by decide)) hr (fun _ _ h => mkFn_len h) (qa_cons (qv 0) qa_nil)) (qa_cons (q_excK false ((mk_BadLoose T sy).mono (by decide)) hr (fun _ _ h => mkFn_len h) (qk_cons (qv 0) qk_nil)) (qa_cons (q_exc ((mk_BadSaying T sy).mono (by decide)) hr (fun _ _ h => mkFn_len h) (qa_cons (qv 0) qa_nil)) (qa_cons (q_excK false ((mk_BadBook T sy).mono (by decide)) hr (fun _ _ h => mkFn_len h) (qk_cons (qv 0) qk_nil)) qa_nil))))))) sc_l_parts_turned.nd)
  (qs_cons (qs_set (i := 1) (q_fz (q_bin qo_add (qb 1) (q_B (q_fz (q_lst (qa_cons (q_exc ((mk_BadPlace T sy).mono (by decide)) hr (fun _ _ h => mkFn_len h) (qa_cons (qv 0) qa_nil)) (qa_cons (q_excK false ((mk_BadTie T sy).mono (by decide)) hr (fun _ _ h => mkFn_len h) (qk_cons (qv 0) qk_nil)) (qa_cons (q_exc ((mk_BadPriced T sy).mono (by decide)) hr (fun _ _ h => mkFn_len h) (qa_cons (qv 0) qa_nil)) (qa_cons (q_excK false ((mk_BadTalk T sy).mono (by decide)) hr (fun _ _ h => mkFn_len h) (qk_cons (qv 0) qk_nil)) qa_nil))))))))) sc_l_parts_turned.nd)
  (qs_one (qs_ret (q_fz (q_bin qo_add (qb 1) (q_B (q_fz (q_lst (qa_cons (q_exc ((mk_BadTeller T sy).mono (by decide)) hr (fun _ _ h => mkFn_len h) (qa_cons (qv 0) qa_nil)) (qa_cons (q_excK false ((mk_BadTranslation T sy).mono (by decide)) hr (fun _ _ h => mkFn_len h) (qk_cons (qv 0) qk_nil)) (qa_cons (q_exc ((mk_BadNumbers T sy).mono (by decide)) hr (fun _ _ h => mkFn_len h) (qa_cons (qv 0) qa_nil)) qa_nil)))))))))))))
abbrev st_l_others : Stmt := top 35
noncomputable def b_l_others_0 : C :=
  (setS 2 (lstE (consA (callE (excF "NoThing" f_Missing) (consA (varE 0) nilA)) (consA (callE (excF "NoWord" f_Missing) (consA (varE 0) nilA)) (consA (callE (excF "NoLink" f_Missing) (consA (varE 0) nilA)) (consA (callE (excF "NoScale" f_Missing) (consA (varE 0) nilA)) (consA (callE (excF "NoWay" f_Missing) (consA (varE 0) nilA)) (consA (callE (excF "NoName" f_Missing) (consA (varE 0) nilA)) nilA))))))))
noncomputable def b_l_others_1 : C :=
  (setS 2 (binE addD (borE 2) (lstE (consA (callE (excF "Twice" f_Twice) (consA (varE 0) nilA)) (consA (callE (excF "Unlike" f_Unlike) (consA (varE 0) nilA)) (consA (callE (excF "NotLet" f_NotLet) (consA (varE 0) (consA (varE 1) nilA))) (consA (callE (excF "TooMany" f_TooMany) (consA (varE 0) (consA (varE 1) nilA))) nilA)))))))
noncomputable def b_l_others_2 : C :=
  (retS (binE addD (borE 2) (lstE (consA (callE (excF "BadText" f_BadText) (consA (varE 0) (consA (varE 1) nilA))) (consA (callE (excF "BadLine" f_BadLine) (consA (varE 0) (consA (varE 1) nilA))) (consA (exqE "Nothing") nilA))))))
theorem sc_l_others : FnScope ["_law_one", "_law_two", "_law_made"] ["_law_one", "_law_two"] (defScope st_l_others) := ⟨rfl, rfl, rfl, by decide +kernel, rfl, by decide +kernel, by decide +kernel⟩
noncomputable def b_l_others : C :=
  (seqS b_l_others_0 (seqS b_l_others_1 b_l_others_2))
noncomputable def f_l_others : Fn := mkFn 2 3 b_l_others
set_option maxHeartbeats 8000000 in
theorem ok_l_others {P : Program} {w : World} {K : PySem.W.Frag} {mg : Str → Option Value} {base : Heap} (T : Txt K mg) (sy : SysB base) : DefOk P w K mg base 4 "_law_others" f_l_others :=
  T.d_l_others.ok sc_l_others rfl rfl fun fa cdv A outer s H E Fr hr => (by exact (qs_cons (qs_set (i := 2) (q_fz (q_lst (qa_cons (q_exc ((mk_NoThing T sy).mono (by decide)) hr (fun _ _ h => mkFn_len h) (qa_cons (qv 0) qa_nil)) (qa_cons (q_exc ((mk_NoWord T sy).mono (by decide)) hr (fun _ _ h => mkFn_len h) (qa_cons (qv 0) qa_nil)) (qa_cons (q_exc ((mk_NoLink T sy).mono (by decide)) hr (fun _ _ h => mkFn_len h) (qa_cons (qv 0) qa_nil)) (qa_cons (q_exc ((mk_NoScale T sy).mono (by decide)) hr (fun _ _ h => mkFn_len h) (qa_cons (qv 0) qa_nil)) (qa_cons (q_exc ((mk_NoWay T sy).mono (by decide)) hr (fun _ _ h => mkFn_len h) (qa_cons (qv 0) qa_nil)) (qa_cons (q_exc ((mk_NoName T sy).mono (by decide)) hr (fun _ _ h => mkFn_len h) (qa_cons (qv 0) qa_nil)) qa_nil)))))))) sc_l_others.nd)
  (qs_cons (qs_set (i := 2) (q_fz (q_bin qo_add (qb 2) (q_B (q_fz (q_lst (qa_cons (q_exc ((mk_Twice T sy).mono (by decide)) hr (fun _ _ h => mkFn_len h) (qa_cons (qv 0) qa_nil)) (qa_cons (q_exc ((mk_Unlike T sy).mono (by decide)) hr (fun _ _ h => mkFn_len h) (qa_cons (qv 0) qa_nil)) (qa_cons (q_exc ((mk_NotLet T sy).mono (by decide)) hr (fun _ _ h => mkFn_len h) (qa_cons (qv 0) (qa_cons (qv 1) qa_nil))) (qa_cons (q_exc ((mk_TooMany T sy).mono (by decide)) hr (fun _ _ h => mkFn_len h) (qa_cons (qv 0) (qa_cons (qv 1) qa_nil))) qa_nil))))))))) sc_l_others.nd)
  (qs_one (qs_ret (q_fz (q_bin qo_add (qb 2) (q_B (q_fz (q_lst (qa_cons (q_exc ((mk_BadText T sy).mono (by decide)) hr (fun _ _ h => mkFn_len h) (qa_cons (qv 0) (qa_cons (qv 1) qa_nil))) (qa_cons (q_exc ((mk_BadLine T sy).mono (by decide)) hr (fun _ _ h => mkFn_len h) (qa_cons (qv 0) (qa_cons (qv 1) qa_nil))) (qa_cons (q_exq T.q_Nothing T.g_Nothing) qa_nil)))))))))))))
abbrev st_l_others_named : Stmt := top 36
noncomputable def b_l_others_named_0 : C :=
  (setS 2 (lstE (consA (callE (excF "NoThing" f_Missing) (turnA false (consA (varE 0) nilA))) (consA (callE (excF "NoWord" f_Missing) (turnA false (consA (varE 0) nilA))) (consA (callE (excF "NoLink" f_Missing) (turnA false (consA (varE 0) nilA))) (consA (callE (excF "NoScale" f_Missing) (turnA false (consA (varE 0) nilA))) (consA (callE (excF "NoWay" f_Missing) (turnA false (consA (varE 0) nilA))) nilA)))))))
noncomputable def b_l_others_named_1 : C :=
  (setS 2 (binE addD (borE 2) (lstE (consA (callE (excF "NoName" f_Missing) (turnA false (consA (varE 0) nilA))) (consA (callE (excF "Twice" f_Twice) (turnA false (consA (varE 0) nilA))) (consA (callE (excF "Unlike" f_Unlike) (turnA false (consA (varE 0) nilA))) nilA))))))
noncomputable def b_l_others_named_2 : C :=
  (setS 2 (binE addD (borE 2) (lstE (consA (callE (excF "NotLet" f_NotLet) (turnA true (consA (varE 1) (consA (varE 0) nilA)))) (consA (callE (excF "TooMany" f_TooMany) (turnA true (consA (varE 1) (consA (varE 0) nilA)))) (consA (callE (excF "BadText" f_BadText) (turnA true (consA (varE 1) (consA (varE 0) nilA)))) nilA))))))
noncomputable def b_l_others_named_3 : C :=
  (retS (binE addD (borE 2) (lstE (consA (callE (excF "BadLine" f_BadLine) (turnA true (consA (varE 1) (consA (varE 0) nilA)))) (consA (exqE "Nothing") nilA)))))
theorem sc_l_others_named : FnScope ["_law_one", "_law_two", "_law_made"] ["_law_one", "_law_two"] (defScope st_l_others_named) := ⟨rfl, rfl, rfl, by decide +kernel, rfl, by decide +kernel, by decide +kernel⟩
noncomputable def b_l_others_named : C :=
  (seqS b_l_others_named_0 (seqS b_l_others_named_1 (seqS b_l_others_named_2 b_l_others_named_3)))
noncomputable def f_l_others_named : Fn := mkFn 2 3 b_l_others_named
set_option maxHeartbeats 8000000 in
theorem ok_l_others_named {P : Program} {w : World} {K : PySem.W.Frag} {mg : Str → Option Value} {base : Heap} (T : Txt K mg) (sy : SysB base) : DefOk P w K mg base 4 "_law_others_named" f_l_others_named :=
  T.d_l_others_named.ok sc_l_others_named rfl rfl fun fa cdv A outer s H E Fr hr => (by exact (qs_cons (qs_set (i := 2) (q_fz (q_lst (qa_cons (q_excK false ((mk_NoThing T sy).mono (by decide)) hr (fun _ _ h => mkFn_len h) (qk_cons (qv 0) qk_nil)) (qa_cons (q_excK false ((mk_NoWord T sy).mono (by decide)) hr (fun _ _ h => mkFn_len h) (qk_cons (qv 0) qk_nil)) (qa_cons (q_excK false ((mk_NoLink T sy).mono (by decide)) hr (fun _ _ h => mkFn_len h) (qk_cons (qv 0) qk_nil)) (qa_cons (q_excK false ((mk_NoScale T sy).mono (by decide)) hr (fun _ _ h => mkFn_len h) (qk_cons (qv 0) qk_nil)) (qa_cons (q_excK false ((mk_NoWay T sy).mono (by decide)) hr (fun _ _ h => mkFn_len h) (qk_cons (qv 0) qk_nil)) qa_nil))))))) sc_l_others_named.nd)
  (qs_cons (qs_set (i := 2) (q_fz (q_bin qo_add (qb 2) (q_B (q_fz (q_lst (qa_cons (q_excK false ((mk_NoName T sy).mono (by decide)) hr (fun _ _ h => mkFn_len h) (qk_cons (qv 0) qk_nil)) (qa_cons (q_excK false ((mk_Twice T sy).mono (by decide)) hr (fun _ _ h => mkFn_len h) (qk_cons (qv 0) qk_nil)) (qa_cons (q_excK false ((mk_Unlike T sy).mono (by decide)) hr (fun _ _ h => mkFn_len h) (qk_cons (qv 0) qk_nil)) qa_nil)))))))) sc_l_others_named.nd)
  (qs_cons (qs_set (i := 2) (q_fz (q_bin qo_add (qb 2) (q_B (q_fz (q_lst (qa_cons (q_excK true ((mk_NotLet T sy).mono (by decide)) hr (fun _ _ h => mkFn_len h) (qk_cons (qv 1) (qk_cons (qv 0) qk_nil))) (qa_cons (q_excK true ((mk_TooMany T sy).mono (by decide)) hr (fun _ _ h => mkFn_len h) (qk_cons (qv 1) (qk_cons (qv 0) qk_nil))) (qa_cons (q_excK true ((mk_BadText T sy).mono (by decide)) hr (fun _ _ h => mkFn_len h) (qk_cons (qv 1) (qk_cons (qv 0) qk_nil))) qa_nil)))))))) sc_l_others_named.nd)
  (qs_one (qs_ret (q_fz (q_bin qo_add (qb 2) (q_B (q_fz (q_lst (qa_cons (q_excK true ((mk_BadLine T sy).mono (by decide)) hr (fun _ _ h => mkFn_len h) (qk_cons (qv 1) (qk_cons (qv 0) qk_nil))) (qa_cons (q_exq T.q_Nothing T.g_Nothing) qa_nil)))))))))))))
abbrev st_l_fields : Stmt := top 37
noncomputable def b_l_fields_0 : C :=
  (ifS (tstE (binE ltbD (borE 1) (conE (.int 12)))) (retS (lstE (consA (xfE xc_part "part" (borE 0)) nilA))) passS)
noncomputable def b_l_fields_1 : C :=
  (ifS (tstE (binE ltbD (borE 1) (conE (.int 19)))) (retS (lstE (consA (xfE xc_name "name" (borE 0)) nilA))) passS)
noncomputable def b_l_fields_2 : C :=
  (ifS (tstE (binE ltbD (borE 1) (conE (.int 20)))) (retS (lstE (consA (xfE xc_what "what" (borE 0)) nilA))) passS)
noncomputable def b_l_fields_3 : C :=
  (ifS (tstE (binE ltbD (borE 1) (conE (.int 22)))) (retS (ifE (tstE (binE eqD (borE 1) (conE (.int 20)))) (lstE (consA (xfE xc_way "way" (borE 0)) (consA (xfE xc_kind "kind" (borE 0)) nilA))) (lstE (consA (xfE xc_what "what" (borE 0)) (consA (xfE xc_most "most" (borE 0)) nilA))))) passS)
noncomputable def b_l_fields_4 : C :=
  (ifS (tstE (binE ltbD (borE 1) (conE (.int 24)))) (retS (ifE (tstE (binE eqD (borE 1) (conE (.int 22)))) (lstE (consA (xfE xc_line "line" (borE 0)) (consA (xfE xc_word "word" (borE 0)) nilA))) (lstE (consA (xfE xc_line "line" (borE 0)) (consA (xfE xc_error "error" (borE 0)) nilA))))) passS)
noncomputable def b_l_fields_5 : C :=
  (retS (lstE nilA))
theorem sc_l_fields : FnScope ["_law_error", "_law_place"] ["_law_error", "_law_place"] (defScope st_l_fields) := ⟨rfl, rfl, rfl, by decide +kernel, rfl, by decide +kernel, by decide +kernel⟩
noncomputable def b_l_fields : C :=
  (seqS b_l_fields_0 (seqS b_l_fields_1 (seqS b_l_fields_2 (seqS b_l_fields_3 (seqS b_l_fields_4 b_l_fields_5)))))
noncomputable def f_l_fields : Fn := mkFn 2 2 b_l_fields
set_option maxHeartbeats 8000000 in
theorem ok_l_fields {P : Program} {w : World} {K : PySem.W.Frag} {mg : Str → Option Value} {base : Heap} (T : Txt K mg) (sy : SysB base) : DefOk P w K mg base 1 "_law_fields" f_l_fields :=
  T.d_l_fields.ok sc_l_fields rfl rfl fun fa cdv A outer s H E Fr hr => (by exact (qs_cons (qs_if (q_cmpT qo_ltb (qb 1) (q_B q_int)) (qs_one (qs_ret (q_fz (q_lst (qa_cons (q_xf (xf_part T) (qb 0)) qa_nil))))) qs_nil)
  (qs_cons (qs_if (q_cmpT qo_ltb (qb 1) (q_B q_int)) (qs_one (qs_ret (q_fz (q_lst (qa_cons (q_xf (xf_name T) (qb 0)) qa_nil))))) qs_nil)
  (qs_cons (qs_if (q_cmpT qo_ltb (qb 1) (q_B q_int)) (qs_one (qs_ret (q_fz (q_lst (qa_cons (q_xf (xf_what T) (qb 0)) qa_nil))))) qs_nil)
  (qs_cons (qs_if (q_cmpT qo_ltb (qb 1) (q_B q_int)) (qs_one (qs_ret (q_if (q_cmpT (qo_eq hr.units) (qb 1) (q_B q_int)) (q_fz (q_lst (qa_cons (q_xf (xf_way T) (qb 0)) (qa_cons (q_xf (xf_kind T) (qb 0)) qa_nil)))) (q_fz (q_lst (qa_cons (q_xf (xf_what T) (qb 0)) (qa_cons (q_xf (xf_most T) (qb 0)) qa_nil))))))) qs_nil)
  (qs_cons (qs_if (q_cmpT qo_ltb (qb 1) (q_B q_int)) (qs_one (qs_ret (q_if (q_cmpT (qo_eq hr.units) (qb 1) (q_B q_int)) (q_fz (q_lst (qa_cons (q_xf (xf_line T) (qb 0)) (qa_cons (q_xf (xf_word T) (qb 0)) qa_nil)))) (q_fz (q_lst (qa_cons (q_xf (xf_line T) (qb 0)) (qa_cons (q_xf (xf_error T) (qb 0)) qa_nil))))))) qs_nil)
  (qs_one (qs_ret (q_fz (q_lst qa_nil))))))))))
abbrev st_l_kin : Stmt := top 38
noncomputable def b_l_kin_0 : C :=
  (setS 1 (lstE (consA (callE isiK (consA (borE 0) (consA (conE (.gl "BadRoom")) nilA))) (consA (callE isiK (consA (borE 0) (consA (conE (.gl "BadDeed")) nilA))) (consA (callE isiK (consA (borE 0) (consA (conE (.gl "BadLoose")) nilA))) nilA)))))
noncomputable def b_l_kin_1 : C :=
  (setS 1 (binE addD (borE 1) (lstE (consA (callE isiK (consA (borE 0) (consA (conE (.gl "BadSaying")) nilA))) (consA (callE isiK (consA (borE 0) (consA (conE (.gl "BadBook")) nilA))) (consA (callE isiK (consA (borE 0) (consA (conE (.gl "BadPlace")) nilA))) nilA))))))
noncomputable def b_l_kin_2 : C :=
  (setS 1 (binE addD (borE 1) (lstE (consA (callE isiK (consA (borE 0) (consA (conE (.gl "BadTie")) nilA))) (consA (callE isiK (consA (borE 0) (consA (conE (.gl "BadPriced")) nilA))) (consA (callE isiK (consA (borE 0) (consA (conE (.gl "BadTalk")) nilA))) nilA))))))
noncomputable def b_l_kin_3 : C :=
  (setS 1 (binE addD (borE 1) (lstE (consA (callE isiK (consA (borE 0) (consA (conE (.gl "BadTeller")) nilA))) (consA (callE isiK (consA (borE 0) (consA (conE (.gl "BadTranslation")) nilA))) (consA (callE isiK (consA (borE 0) (consA (conE (.gl "BadNumbers")) nilA))) nilA))))))
noncomputable def b_l_kin_4 : C :=
  (setS 1 (binE addD (borE 1) (lstE (consA (callE isiK (consA (borE 0) (consA (conE (.gl "NoThing")) nilA))) (consA (callE isiK (consA (borE 0) (consA (conE (.gl "NoWord")) nilA))) (consA (callE isiK (consA (borE 0) (consA (conE (.gl "NoLink")) nilA))) nilA))))))
noncomputable def b_l_kin_5 : C :=
  (setS 1 (binE addD (borE 1) (lstE (consA (callE isiK (consA (borE 0) (consA (conE (.gl "NoScale")) nilA))) (consA (callE isiK (consA (borE 0) (consA (conE (.gl "NoWay")) nilA))) (consA (callE isiK (consA (borE 0) (consA (conE (.gl "NoName")) nilA))) nilA))))))
noncomputable def b_l_kin_6 : C :=
  (setS 1 (binE addD (borE 1) (lstE (consA (callE isiK (consA (borE 0) (consA (conE (.gl "Twice")) nilA))) (consA (callE isiK (consA (borE 0) (consA (conE (.gl "Unlike")) nilA))) (consA (callE isiK (consA (borE 0) (consA (conE (.gl "NotLet")) nilA))) nilA))))))
noncomputable def b_l_kin_7 : C :=
  (setS 1 (binE addD (borE 1) (lstE (consA (callE isiK (consA (borE 0) (consA (conE (.gl "TooMany")) nilA))) (consA (callE isiK (consA (borE 0) (consA (conE (.gl "BadText")) nilA))) (consA (callE isiK (consA (borE 0) (consA (conE (.gl "BadLine")) nilA))) nilA))))))
noncomputable def b_l_kin_8 : C :=
  (retS (binE addD (borE 1) (lstE (consA (callE isiK (consA (borE 0) (consA (conE (.gl "Nothing")) nilA))) nilA))))
theorem sc_l_kin : FnScope ["_law_error", "_law_kin_here"] ["_law_error"] (defScope st_l_kin) := ⟨rfl, rfl, rfl, by decide +kernel, rfl, by decide +kernel, by decide +kernel⟩
noncomputable def b_l_kin : C :=
  (seqS b_l_kin_0 (seqS b_l_kin_1 (seqS b_l_kin_2 (seqS b_l_kin_3 (seqS b_l_kin_4 (seqS b_l_kin_5 (seqS b_l_kin_6 (seqS b_l_kin_7 b_l_kin_8))))))))
noncomputable def f_l_kin : Fn := mkFn 1 2 b_l_kin
set_option maxHeartbeats 8000000 in
theorem ok_l_kin {P : Program} {w : World} {K : PySem.W.Frag} {mg : Str → Option Value} {base : Heap} (T : Txt K mg) (sy : SysB base) : DefOk P w K mg base 1 "_law_kin" f_l_kin :=
  T.d_l_kin.ok sc_l_kin rfl rfl fun fa cdv A outer s H E Fr hr => (by exact (qs_cons (qs_set (i := 1) (q_fz (q_lst (qa_cons (q_fz (q_callB (qc_isi (kdk T) (kit T)) T.b_isinstance (by decide +kernel) (qab_cons (qb 0) (qab_cons (q_B (q_gl T.g_BadRoom)) qab_nil)))) (qa_cons (q_fz (q_callB (qc_isi (kdk T) (kit T)) T.b_isinstance (by decide +kernel) (qab_cons (qb 0) (qab_cons (q_B (q_gl T.g_BadDeed)) qab_nil)))) (qa_cons (q_fz (q_callB (qc_isi (kdk T) (kit T)) T.b_isinstance (by decide +kernel) (qab_cons (qb 0) (qab_cons (q_B (q_gl T.g_BadLoose)) qab_nil)))) qa_nil))))) sc_l_kin.nd)
  (qs_cons (qs_set (i := 1) (q_fz (q_bin qo_add (qb 1) (q_B (q_fz (q_lst (qa_cons (q_fz (q_callB (qc_isi (kdk T) (kit T)) T.b_isinstance (by decide +kernel) (qab_cons (qb 0) (qab_cons (q_B (q_gl T.g_BadSaying)) qab_nil)))) (qa_cons (q_fz (q_callB (qc_isi (kdk T) (kit T)) T.b_isinstance (by decide +kernel) (qab_cons (qb 0) (qab_cons (q_B (q_gl T.g_BadBook)) qab_nil)))) (qa_cons (q_fz (q_callB (qc_isi (kdk T) (kit T)) T.b_isinstance (by decide +kernel) (qab_cons (qb 0) (qab_cons (q_B (q_gl T.g_BadPlace)) qab_nil)))) qa_nil)))))))) sc_l_kin.nd)
  (qs_cons (qs_set (i := 1) (q_fz (q_bin qo_add (qb 1) (q_B (q_fz (q_lst (qa_cons (q_fz (q_callB (qc_isi (kdk T) (kit T)) T.b_isinstance (by decide +kernel) (qab_cons (qb 0) (qab_cons (q_B (q_gl T.g_BadTie)) qab_nil)))) (qa_cons (q_fz (q_callB (qc_isi (kdk T) (kit T)) T.b_isinstance (by decide +kernel) (qab_cons (qb 0) (qab_cons (q_B (q_gl T.g_BadPriced)) qab_nil)))) (qa_cons (q_fz (q_callB (qc_isi (kdk T) (kit T)) T.b_isinstance (by decide +kernel) (qab_cons (qb 0) (qab_cons (q_B (q_gl T.g_BadTalk)) qab_nil)))) qa_nil)))))))) sc_l_kin.nd)
  (qs_cons (qs_set (i := 1) (q_fz (q_bin qo_add (qb 1) (q_B (q_fz (q_lst (qa_cons (q_fz (q_callB (qc_isi (kdk T) (kit T)) T.b_isinstance (by decide +kernel) (qab_cons (qb 0) (qab_cons (q_B (q_gl T.g_BadTeller)) qab_nil)))) (qa_cons (q_fz (q_callB (qc_isi (kdk T) (kit T)) T.b_isinstance (by decide +kernel) (qab_cons (qb 0) (qab_cons (q_B (q_gl T.g_BadTranslation)) qab_nil)))) (qa_cons (q_fz (q_callB (qc_isi (kdk T) (kit T)) T.b_isinstance (by decide +kernel) (qab_cons (qb 0) (qab_cons (q_B (q_gl T.g_BadNumbers)) qab_nil)))) qa_nil)))))))) sc_l_kin.nd)
  (qs_cons (qs_set (i := 1) (q_fz (q_bin qo_add (qb 1) (q_B (q_fz (q_lst (qa_cons (q_fz (q_callB (qc_isi (kdk T) (kit T)) T.b_isinstance (by decide +kernel) (qab_cons (qb 0) (qab_cons (q_B (q_gl T.g_NoThing)) qab_nil)))) (qa_cons (q_fz (q_callB (qc_isi (kdk T) (kit T)) T.b_isinstance (by decide +kernel) (qab_cons (qb 0) (qab_cons (q_B (q_gl T.g_NoWord)) qab_nil)))) (qa_cons (q_fz (q_callB (qc_isi (kdk T) (kit T)) T.b_isinstance (by decide +kernel) (qab_cons (qb 0) (qab_cons (q_B (q_gl T.g_NoLink)) qab_nil)))) qa_nil)))))))) sc_l_kin.nd)
  (qs_cons (qs_set (i := 1) (q_fz (q_bin qo_add (qb 1) (q_B (q_fz (q_lst (qa_cons (q_fz (q_callB (qc_isi (kdk T) (kit T)) T.b_isinstance (by decide +kernel) (qab_cons (qb 0) (qab_cons (q_B (q_gl T.g_NoScale)) qab_nil)))) (qa_cons (q_fz (q_callB (qc_isi (kdk T) (kit T)) T.b_isinstance (by decide +kernel) (qab_cons (qb 0) (qab_cons (q_B (q_gl T.g_NoWay)) qab_nil)))) (qa_cons (q_fz (q_callB (qc_isi (kdk T) (kit T)) T.b_isinstance (by decide +kernel) (qab_cons (qb 0) (qab_cons (q_B (q_gl T.g_NoName)) qab_nil)))) qa_nil)))))))) sc_l_kin.nd)
  (qs_cons (qs_set (i := 1) (q_fz (q_bin qo_add (qb 1) (q_B (q_fz (q_lst (qa_cons (q_fz (q_callB (qc_isi (kdk T) (kit T)) T.b_isinstance (by decide +kernel) (qab_cons (qb 0) (qab_cons (q_B (q_gl T.g_Twice)) qab_nil)))) (qa_cons (q_fz (q_callB (qc_isi (kdk T) (kit T)) T.b_isinstance (by decide +kernel) (qab_cons (qb 0) (qab_cons (q_B (q_gl T.g_Unlike)) qab_nil)))) (qa_cons (q_fz (q_callB (qc_isi (kdk T) (kit T)) T.b_isinstance (by decide +kernel) (qab_cons (qb 0) (qab_cons (q_B (q_gl T.g_NotLet)) qab_nil)))) qa_nil)))))))) sc_l_kin.nd)
  (qs_cons (qs_set (i := 1) (q_fz (q_bin qo_add (qb 1) (q_B (q_fz (q_lst (qa_cons (q_fz (q_callB (qc_isi (kdk T) (kit T)) T.b_isinstance (by decide +kernel) (qab_cons (qb 0) (qab_cons (q_B (q_gl T.g_TooMany)) qab_nil)))) (qa_cons (q_fz (q_callB (qc_isi (kdk T) (kit T)) T.b_isinstance (by decide +kernel) (qab_cons (qb 0) (qab_cons (q_B (q_gl T.g_BadText)) qab_nil)))) (qa_cons (q_fz (q_callB (qc_isi (kdk T) (kit T)) T.b_isinstance (by decide +kernel) (qab_cons (qb 0) (qab_cons (q_B (q_gl T.g_BadLine)) qab_nil)))) qa_nil)))))))) sc_l_kin.nd)
  (qs_one (qs_ret (q_fz (q_bin qo_add (qb 1) (q_B (q_fz (q_lst (qa_cons (q_fz (q_callB (qc_isi (kdk T) (kit T)) T.b_isinstance (by decide +kernel) (qab_cons (qb 0) (qab_cons (q_B (q_gl T.g_Nothing)) qab_nil)))) qa_nil)))))))))))))))))
abbrev st_l_stands_right : Stmt := top 39
noncomputable def b_l_stands_right_0 : C :=
  (ifS (tstE (binE neD (callE f_l_kin (consA (varE 0) nilA)) (lcE (range1 (conE (.int 25))) [2] (.nm 2) yesT (binE eqD (borE 1) (borE 2))))) (retS (conE (.bl false))) passS)
noncomputable def b_l_stands_right_1 : C :=
  (ifS (orT (notT (truE (callE isiK (consA (borE 0) (consA (conE (.gl "SayError")) nilA))))) (notT (truE (callE isiK (consA (borE 0) (consA (conE (.ty "ValueError")) nilA)))))) (retS (conE (.bl false))) passS)
noncomputable def b_l_stands_right_2 : C :=
  (ifS (tstE (binE neD (callE isiK (consA (borE 0) (consA (conE (.gl "Missing")) nilA))) (chainE leD ltbD (conE (.int 12)) (borE 1) (conE (.int 18))))) (retS (conE (.bl false))) passS)
noncomputable def b_l_stands_right_3 : C :=
  (ifS (orT (truE (callE isiK (consA (borE 0) (consA (conE (.ty "LookupError")) nilA)))) (orT (truE (callE isiK (consA (borE 0) (consA (conE (.ty "TypeError")) nilA)))) (truE (callE isiK (consA (borE 0) (consA (conE (.ty "ArithmeticError")) nilA)))))) (retS (conE (.bl false))) passS)
noncomputable def b_l_stands_right_4 : C :=
  (retS (andE (notE (callE isiK (consA (borE 0) (consA (conE (.ty "RuntimeError")) nilA)))) (notE (callE isiK (consA (borE 0) (consA (conE (.ty "AttributeError")) nilA))))))
theorem sc_l_stands_right : FnScope ["_law_error", "_law_place", "_law_at"] ["_law_error", "_law_place"] (defScope st_l_stands_right) := ⟨rfl, rfl, rfl, by decide +kernel, rfl, by decide +kernel, by decide +kernel⟩
noncomputable def b_l_stands_right : C :=
  (seqS b_l_stands_right_0 (seqS b_l_stands_right_1 (seqS b_l_stands_right_2 (seqS b_l_stands_right_3 b_l_stands_right_4))))
noncomputable def f_l_stands_right : Fn := mkFn 2 3 b_l_stands_right
set_option maxHeartbeats 8000000 in
theorem ok_l_stands_right {P : Program} {w : World} {K : PySem.W.Frag} {mg : Str → Option Value} {base : Heap} (T : Txt K mg) (sy : SysB base) : DefOk P w K mg base 2 "_law_stands_right" f_l_stands_right :=
  T.d_l_stands_right.ok sc_l_stands_right rfl rfl fun fa cdv A outer s H E Fr hr => (by exact (qs_cons (qs_if (q_cmpT (qo_ne hr.units) (q_B (q_call ((ok_l_kin T sy).mono (by decide)) hr (takes_of rfl rfl rfl rfl) (qa_cons (qv 0) qa_nil))) (q_B (q_fz (q_lc rfl sc_l_stands_right.nd (qi_range1 (q_B q_int) T.b_range) (own := [("_law_at", 2)]) (⟨rfl, by decide +kernel, by decide +kernel, by decide +kernel, by decide +kernel⟩ : BlkOk ["_law_error", "_law_place", "_law_at"] (defScope st_l_stands_right) _ [("_law_at", 2)]) rfl (fun _ _ _ _ _ => (pg_name (i := 2) sc_l_stands_right.nd rfl (by first | exact Or.inl rfl | exact Or.inr rfl))) (fun _ _ _ _ _ => qts_nil) (fun _ _ _ _ _ => (q_fz (q_cmp (qo_eq hr.units) (qb 1) (qb 2)))))))) (qs_one (qs_ret q_bl)) qs_nil)
  (qs_cons (qs_if ((q_orT (q_notT (q_truT (q_B (q_fz (q_callB (qc_isi (kdk T) (kit T)) T.b_isinstance (by decide +kernel) (qab_cons (qb 0) (qab_cons (q_B (q_gl T.g_SayError)) qab_nil))))))) (q_or1T (q_notT (q_truT (q_B (q_fz (q_callB (qc_isi (kdk T) (kit T)) T.b_isinstance (by decide +kernel) (qab_cons (qb 0) (qab_cons (q_B (q_ty T.b_ValueError (by decide +kernel))) qab_nil)))))))))).pt (qs_one (qs_ret q_bl)) qs_nil)
  (qs_cons (qs_if (q_cmpT (qo_ne hr.units) (q_B (q_fz (q_callB (qc_isi (kdk T) (kit T)) T.b_isinstance (by decide +kernel) (qab_cons (qb 0) (qab_cons (q_B (q_gl T.g_Missing)) qab_nil))))) (q_B (q_fz (q_chain qo_le qo_ltb (q_B q_int) (qb 1) (q_B q_int))))) (qs_one (qs_ret q_bl)) qs_nil)
  (qs_cons (qs_if ((q_orT (q_truT (q_B (q_fz (q_callB (qc_isi (kdk T) (kit T)) T.b_isinstance (by decide +kernel) (qab_cons (qb 0) (qab_cons (q_B (q_ty T.b_LookupError (by decide +kernel))) qab_nil)))))) (q_orT (q_truT (q_B (q_fz (q_callB (qc_isi (kdk T) (kit T)) T.b_isinstance (by decide +kernel) (qab_cons (qb 0) (qab_cons (q_B (q_ty T.b_TypeError (by decide +kernel))) qab_nil)))))) (q_or1T (q_truT (q_B (q_fz (q_callB (qc_isi (kdk T) (kit T)) T.b_isinstance (by decide +kernel) (qab_cons (qb 0) (qab_cons (q_B (q_ty T.b_ArithmeticError (by decide +kernel))) qab_nil)))))))))).pt (qs_one (qs_ret q_bl)) qs_nil)
  (qs_one (qs_ret (q_and (q_not (q_B (q_fz (q_callB (qc_isi (kdk T) (kit T)) T.b_isinstance (by decide +kernel) (qab_cons (qb 0) (qab_cons (q_B (q_ty T.b_RuntimeError (by decide +kernel))) qab_nil)))))) (q_one (q_not (q_B (q_fz (q_callB (qc_isi (kdk T) (kit T)) T.b_isinstance (by decide +kernel) (qab_cons (qb 0) (qab_cons (q_B (q_ty T.b_AttributeError (by decide +kernel))) qab_nil)))))))))))))))
abbrev st_l_all_right : Stmt := top 40
noncomputable def b_l_all_right_0 : C :=
  (forS (enumI (consA (varE 2) nilA)) (.tp [3, 4]) (seqS (setS 5 (ifE (tstE (binE ltbD (borE 3) (conE (.int 20)))) (lstE (consA (varE 0) nilA)) (ifE (tstE (binE ltbD (borE 3) (conE (.int 24)))) (lstE (consA (varE 0) (consA (varE 1) nilA))) (lstE nilA))))
  (ifS (orT (tstE (binE neD (callE reprF (consA (callE f_l_fields (consA (varE 4) (consA (varE 3) nilA))) nilA)) (callE reprF (consA (borE 5) nilA)))) (notT (truE (callE f_l_stands_right (consA (varE 4) (consA (varE 3) nilA)))))) (retS (conE (.bl false))) passS)))
noncomputable def b_l_all_right_1 : C :=
  (retS (binE eqD (callE lenF (consA (borE 2) nilA)) (conE (.int 25))))
theorem sc_l_all_right : FnScope ["_law_one", "_law_two", "_law_made", "_law_place", "_law_error", "_law_due"] ["_law_one", "_law_two", "_law_made"] (defScope st_l_all_right) := ⟨rfl, rfl, rfl, by decide +kernel, rfl, by decide +kernel, by decide +kernel⟩
noncomputable def b_l_all_right : C :=
  (seqS b_l_all_right_0 b_l_all_right_1)
noncomputable def f_l_all_right : Fn := mkFn 3 6 b_l_all_right
set_option maxHeartbeats 8000000 in
theorem ok_l_all_right {P : Program} {w : World} {K : PySem.W.Frag} {mg : Str → Option Value} {base : Heap} (T : Txt K mg) (sy : SysB base) : DefOk P w K mg base 3 "_law_all_right" f_l_all_right :=
  T.d_l_all_right.ok sc_l_all_right rfl rfl fun fa cdv A outer s H E Fr hr => (by exact (qs_cons (qs_for (passes_of rfl) rfl (qi_enum (qa_cons (qv 2) qa_nil) T.b_enumerate) (pg_tup rfl (pgs_cons (pg_name (i := 3) sc_l_all_right.nd rfl (by first | exact Or.inl rfl | exact Or.inr rfl)) (pgs_cons (pg_name (i := 4) sc_l_all_right.nd rfl (by first | exact Or.inl rfl | exact Or.inr rfl)) pgs_nil))) (qs_cons (qs_set (i := 5) (q_if (q_cmpT qo_ltb (qb 3) (q_B q_int)) (q_fz (q_lst (qa_cons (qv 0) qa_nil))) (q_if (q_cmpT qo_ltb (qb 3) (q_B q_int)) (q_fz (q_lst (qa_cons (qv 0) (qa_cons (qv 1) qa_nil)))) (q_fz (q_lst qa_nil)))) sc_l_all_right.nd)
  (qs_one (qs_if ((q_orT (q_cmpT (qo_ne hr.units) (q_B (q_fz (q_callB (qc_repr hr.g hr.units sy) T.b_repr (by decide +kernel) (qab_cons (q_B (q_call ((ok_l_fields T sy).mono (by decide)) hr (takes_of rfl rfl rfl rfl) (qa_cons (qv 4) (qa_cons (qv 3) qa_nil)))) qab_nil)))) (q_B (q_fz (q_callB (qc_repr hr.g hr.units sy) T.b_repr (by decide +kernel) (qab_cons (qb 5) qab_nil))))) (q_or1T (q_notT (q_truT (q_B (q_call ((ok_l_stands_right T sy).mono (by decide)) hr (takes_of rfl rfl rfl rfl) (qa_cons (qv 4) (qa_cons (qv 3) qa_nil))))))))).pt (qs_one (qs_ret q_bl)) qs_nil))))
  (qs_one (qs_ret (q_fz (q_cmp (qo_eq hr.units) (q_B (q_fz (q_callB qc_len T.b_len (by decide +kernel) (qab_cons (qb 2) qab_nil)))) (q_B q_int)))))))
abbrev st_law : Stmt := top 41
noncomputable def b_law_0 : C :=
  (setS 1 (callE f_l_jar (consA (varE 0) nilA)))
noncomputable def b_law_1 : C :=
  (setS 2 (binE mulD (callE f_l_some (consA (varE 1) (consA (lstE (consA (conE (.int 1)) (consA (unE negD (conE (.int 1))) nilA))) nilA))) (callE f_l_dip (consA (varE 1) (consA (binE powD (conE (.int 10)) (conE (.int 60))) nilA)))))
noncomputable def b_law_2 : C :=
  (setS 3 (lstE (consA (conE .non) (consA (conE (.bl true)) (consA (varE 2) (consA (conE (.str "part")) (consA (conE (.str "")) (consA (tupE (consA (conE (.str "a")) (consA (conE (.int 1)) nilA))) (consA (lstE (consA (varE 2) nilA)) (consA (dispE [((conE (.str "a")), (lstE (consA (conE (.int 1)) nilA)))]) nilA))))))))))
noncomputable def b_law_3 : C :=
  (parS 4 5 (consA (callE f_l_some (consA (varE 1) (consA (varE 3) nilA))) (consA (callE f_l_some (consA (varE 1) (consA (lstE (consA (conE (.int 0)) (consA (conE (.bl false)) (consA (conE (.str "room")) (consA (lstE nilA) (consA (tupE nilA) (consA (dispE [((conE (.int 1)), (conE (.int 2)))]) (consA (binE addD (borE 2) (conE (.int 1))) (consA (conE .non) nilA))))))))) nilA))) nilA)))
noncomputable def b_law_4 : C :=
  (ifS (notT (truE (callE f_l_all_right (consA (varE 4) (consA (varE 5) (consA (binE addD (callE f_l_parts (consA (varE 4) nilA)) (callE f_l_others (consA (varE 4) (consA (varE 5) nilA)))) nilA)))))) (retS (conE (.bl false))) passS)
noncomputable def b_law_5 : C :=
  (ifS (notT (truE (callE f_l_all_right (consA (varE 4) (consA (varE 5) (consA (binE addD (callE f_l_parts_turned (consA (varE 4) nilA)) (callE f_l_others_named (consA (varE 4) (consA (varE 5) nilA)))) nilA)))))) (retS (conE (.bl false))) passS)
noncomputable def b_law_6 : C :=
  (forS (iterE (lstE (consA (callE (excF "Missing" f_Missing) (consA (varE 4) nilA)) (consA (callE (excF "Missing" f_Missing) (turnA false (consA (varE 4) nilA))) nilA)))) (.nm 6) (seqS (ifS (orT (tstE (binE neD (callE reprF (consA (xfE xc_name "name" (borE 6)) nilA)) (callE reprF (consA (borE 4) nilA)))) (tstE (binE inD (conE (.bl true)) (callE f_l_kin (consA (varE 6) nilA))))) (retS (conE (.bl false))) passS)
  (ifS (orT (notT (truE (callE isiK (consA (borE 6) (consA (conE (.gl "SayError")) nilA))))) (notT (truE (callE isiK (consA (borE 6) (consA (conE (.ty "ValueError")) nilA)))))) (retS (conE (.bl false))) passS)))
noncomputable def b_law_7 : C :=
  (retS (conE (.bl true)))
theorem sc_law : FnScope ["_law_script", "_law_jar_here", "_law_number", "_law_plain", "_law_one", "_law_two", "_law_error"] ["_law_script"] (defScope st_law) := ⟨rfl, rfl, rfl, by decide +kernel, rfl, by decide +kernel, by decide +kernel⟩
noncomputable def b_law : C :=
  (seqS b_law_0 (seqS b_law_1 (seqS b_law_2 (seqS b_law_3 (seqS b_law_4 (seqS b_law_5 (seqS b_law_6 b_law_7)))))))
noncomputable def f_law : Fn := mkFn 1 7 b_law
set_option maxHeartbeats 8000000 in
theorem ok_law {P : Program} {w : World} {K : PySem.W.Frag} {mg : Str → Option Value} {base : Heap} (T : Txt K mg) (sy : SysB base) : DefOk P w K mg base 5 "law" f_law :=
  T.d_law.ok sc_law rfl rfl fun fa cdv A outer s H E Fr hr => (by exact (qs_cons (qs_set (i := 1) (q_call ((ok_l_jar T sy).mono (by decide)) hr (takes_of rfl rfl rfl rfl) (qa_cons (qv 0) qa_nil)) sc_law.nd)
  (qs_cons (qs_set (i := 2) (q_fz (q_bin qo_mul (q_B (q_call ((ok_l_some T sy).mono (by decide)) hr (takes_of rfl rfl rfl rfl) (qa_cons (qv 1) (qa_cons (q_fz (q_lst (qa_cons q_int (qa_cons (q_fz (q_un qo_neg (q_B q_int))) qa_nil)))) qa_nil)))) (q_B (q_call ((ok_l_dip T sy).mono (by decide)) hr (takes_of rfl rfl rfl rfl) (qa_cons (qv 1) (qa_cons (q_fz (q_bin qo_pow (q_B q_int) (q_B q_int))) qa_nil)))))) sc_law.nd)
  (qs_cons (qs_set (i := 3) (q_fz (q_lst (qa_cons q_non (qa_cons q_bl (qa_cons (qv 2) (qa_cons q_str (qa_cons q_str (qa_cons (q_tup (qa_cons q_str (qa_cons q_int qa_nil))) (qa_cons (q_fz (q_lst (qa_cons (qv 2) qa_nil))) (qa_cons (q_fz (q_disp (.cons q_str (q_fz (q_lst (qa_cons q_int qa_nil))) .nil))) qa_nil)))))))))) sc_law.nd)
  (qs_cons (qs_par (i := 4) (j := 5) (qa_cons (q_call ((ok_l_some T sy).mono (by decide)) hr (takes_of rfl rfl rfl rfl) (qa_cons (qv 1) (qa_cons (qv 3) qa_nil))) (qa_cons (q_call ((ok_l_some T sy).mono (by decide)) hr (takes_of rfl rfl rfl rfl) (qa_cons (qv 1) (qa_cons (q_fz (q_lst (qa_cons q_int (qa_cons q_bl (qa_cons q_str (qa_cons (q_fz (q_lst qa_nil)) (qa_cons (q_tup qa_nil) (qa_cons (q_fz (q_disp (.cons q_int q_int .nil))) (qa_cons (q_fz (q_bin qo_add (qb 2) (q_B q_int))) (qa_cons q_non qa_nil)))))))))) qa_nil))) qa_nil)) sc_law.nd)
  (qs_cons (qs_if (q_notT (q_truT (q_B (q_call ((ok_l_all_right T sy).mono (by decide)) hr (takes_of rfl rfl rfl rfl) (qa_cons (qv 4) (qa_cons (qv 5) (qa_cons (q_fz (q_bin qo_add (q_B (q_call ((ok_l_parts T sy).mono (by decide)) hr (takes_of rfl rfl rfl rfl) (qa_cons (qv 4) qa_nil))) (q_B (q_call ((ok_l_others T sy).mono (by decide)) hr (takes_of rfl rfl rfl rfl) (qa_cons (qv 4) (qa_cons (qv 5) qa_nil)))))) qa_nil))))))) (qs_one (qs_ret q_bl)) qs_nil)
  (qs_cons (qs_if (q_notT (q_truT (q_B (q_call ((ok_l_all_right T sy).mono (by decide)) hr (takes_of rfl rfl rfl rfl) (qa_cons (qv 4) (qa_cons (qv 5) (qa_cons (q_fz (q_bin qo_add (q_B (q_call ((ok_l_parts_turned T sy).mono (by decide)) hr (takes_of rfl rfl rfl rfl) (qa_cons (qv 4) qa_nil))) (q_B (q_call ((ok_l_others_named T sy).mono (by decide)) hr (takes_of rfl rfl rfl rfl) (qa_cons (qv 4) (qa_cons (qv 5) qa_nil)))))) qa_nil))))))) (qs_one (qs_ret q_bl)) qs_nil)
  (qs_cons (qs_for (passes_of rfl) rfl (qi_val (q_fz (q_lst (qa_cons (q_exc ((mk_Missing T sy).mono (by decide)) hr (fun _ _ h => mkFn_len h) (qa_cons (qv 4) qa_nil)) (qa_cons (q_excK false ((mk_Missing T sy).mono (by decide)) hr (fun _ _ h => mkFn_len h) (qk_cons (qv 4) qk_nil)) qa_nil))))) (pg_name (i := 6) sc_law.nd rfl (by first | exact Or.inl rfl | exact Or.inr rfl)) (qs_cons (qs_if ((q_orT (q_cmpT (qo_ne hr.units) (q_B (q_fz (q_callB (qc_repr hr.g hr.units sy) T.b_repr (by decide +kernel) (qab_cons (q_B (q_xf (xf_name T) (qb 6))) qab_nil)))) (q_B (q_fz (q_callB (qc_repr hr.g hr.units sy) T.b_repr (by decide +kernel) (qab_cons (qb 4) qab_nil))))) (q_or1T (q_cmpT (qo_in hr.u65) (q_B q_bl) (q_B (q_call ((ok_l_kin T sy).mono (by decide)) hr (takes_of rfl rfl rfl rfl) (qa_cons (qv 6) qa_nil))))))).pt (qs_one (qs_ret q_bl)) qs_nil)
  (qs_one (qs_if ((q_orT (q_notT (q_truT (q_B (q_fz (q_callB (qc_isi (kdk T) (kit T)) T.b_isinstance (by decide +kernel) (qab_cons (qb 6) (qab_cons (q_B (q_gl T.g_SayError)) qab_nil))))))) (q_or1T (q_notT (q_truT (q_B (q_fz (q_callB (qc_isi (kdk T) (kit T)) T.b_isinstance (by decide +kernel) (qab_cons (qb 6) (qab_cons (q_B (q_ty T.b_ValueError (by decide +kernel))) qab_nil)))))))))).pt (qs_one (qs_ret q_bl)) qs_nil))))
  (qs_one (qs_ret q_bl))))))))))
end K00

namespace K00
open PySem PySem.Spec L2 Fv
theorem dip_ok {zs : List Int} {s : S} {t r m n : Int} (hP : PlOk m t r) (hm : m < 100000) (hn : 0 < n) (hn2 : n.natAbs.log2 < 9000) : ∃ v t' r', f_l_dip [.ref 0, .int n] (Pl zs t r s) = .ok (.int v) (Pl zs t' r' s) ∧ 0 ≤ v ∧ v < n ∧ PlOk (m + 1) t' r' := by
  obtain ⟨ht, htm, hr⟩ := hP
  have i0 : ∀ a b d : D, atI [a, b, d] 0 = some a := fun a b d => rfl
  have i1 : ∀ a b d : D, atI [a, b, d] 1 = some b := fun a b d => rfl
  have i2 : ∀ a b d : D, atI [a, b, d] 2 = some d := fun a b d => rfl
  have dv : divOk n = true := by simp [divOk, hn, hn2]
  have start : ∀ s, f_l_dip [.ref 0, .int n] s = fin (b_l_dip [some (.v (.ref 0)), some (.v (.int n)), none, none, none, none] s) := fun _ => rfl
  have j1 : ixN 3 1 = some 1 := rfl
  have j2 : ixN 3 2 = some 2 := rfl
  have m1 : mulOk 31259 t = true := mulS (by decide) (by omega)
  rw [start]
  unfold b_l_dip
  by_cases h0 : 0 < r
  · have e0 : b_l_dip_0 [some (.v (.ref 0)), some (.v (.int n)), none, none, none, none] (Pl zs t r s) = .rt (.int (r % n)) (Pl zs t (r / n) s) := by
      simp [b_l_dip_0, Pl, seqS, ifS, setS, retS, retN, exprS, passS, setItS, tstE, truE, binE, varE, borE, conE, callE, consA, nilA, notT, andT, orT, notE, andE, orE, ifE, tupE, lstE, unE, chainE, R.bind, R.stm, RS.next, fin, boolE, addD, subD, mulD, fdivD, modD, powD, ltD, leD, gtD, geD, idxD, idxS, seqOf, intF, absF, setD, lenF, lenO, ltbD, i0, i1, i2, j1, j2, h0, dv, hn]
    rw [seq_rt e0]
    exact ⟨_, _, _, rfl, Int.emod_nonneg _ (by omega), Int.emod_lt_of_pos _ hn, ht, by omega, Int.ediv_nonneg hr (by omega)⟩
  · have e0 : b_l_dip_0 [some (.v (.ref 0)), some (.v (.int n)), none, none, none, none] (Pl zs t r s) = .nx [some (.v (.ref 0)), some (.v (.int n)), none, none, none, none] (Pl zs t r s) := by
      simp [b_l_dip_0, Pl, seqS, ifS, setS, retS, retN, exprS, passS, setItS, tstE, truE, binE, varE, borE, conE, callE, consA, nilA, notT, andT, orT, notE, andE, orE, ifE, tupE, lstE, unE, chainE, R.bind, R.stm, RS.next, fin, boolE, addD, subD, mulD, fdivD, modD, powD, ltD, leD, gtD, geD, idxD, idxS, seqOf, intF, absF, setD, lenF, lenO, ltbD, i0, i1, i2, j1, j2, h0, dv, hn]
    have e1 : b_l_dip_1 [some (.v (.ref 0)), some (.v (.int n)), none, none, none, none] (Pl zs t r s) = .nx [some (.v (.ref 0)), some (.v (.int n)), none, some (.v (.int t)), none, none] (Pl zs t r s) := by
      simp [b_l_dip_1, Pl, seqS, ifS, setS, retS, retN, exprS, passS, setItS, tstE, truE, binE, varE, borE, conE, callE, consA, nilA, notT, andT, orT, notE, andE, orE, ifE, tupE, lstE, unE, chainE, R.bind, R.stm, RS.next, fin, boolE, addD, subD, mulD, fdivD, modD, powD, ltD, leD, gtD, geD, idxD, idxS, seqOf, intF, absF, setD, lenF, lenO, ltbD, i0, i1, i2, j1, j2]
    have e2 : b_l_dip_2 [some (.v (.ref 0)), some (.v (.int n)), none, some (.v (.int t)), none, none] (Pl zs t r s) = .nx [some (.v (.ref 0)), some (.v (.int n)), none, some (.v (.int t)), none, none] (Pl zs (t + 1) r s) := by
      simp [b_l_dip_2, Pl, seqS, ifS, setS, retS, retN, exprS, passS, setItS, tstE, truE, binE, varE, borE, conE, callE, consA, nilA, notT, andT, orT, notE, andE, orE, ifE, tupE, lstE, unE, chainE, R.bind, R.stm, RS.next, fin, boolE, addD, subD, mulD, fdivD, modD, powD, ltD, leD, gtD, geD, idxD, idxS, seqOf, intF, absF, setD, lenF, lenO, ltbD, i0, i1, i2, j1, j2]
    have e3 : ∀ s : S, b_l_dip_3 [some (.v (.ref 0)), some (.v (.int n)), none, some (.v (.int t)), none, none] s = .nx [some (.v (.ref 0)), some (.v (.int n)), none, some (.v (.int t)), some (.v (.int (31259 * t + 1423))), none] s := fun s => by
      simp [b_l_dip_3, seqS, ifS, setS, retS, retN, exprS, passS, setItS, tstE, truE, binE, varE, borE, conE, callE, consA, nilA, notT, andT, orT, notE, andE, orE, ifE, tupE, lstE, unE, chainE, R.bind, R.stm, RS.next, fin, boolE, addD, subD, mulD, fdivD, modD, powD, ltD, leD, gtD, geD, idxD, idxS, seqOf, intF, absF, setD, lenF, lenO, ltbD, m1]
    rw [seq_nx e0, seq_nx e1, seq_nx e2, seq_nx (e3 _)]
    obtain ⟨cell, e4⟩ : ∃ cell : Int, b_l_dip_4 [some (.v (.ref 0)), some (.v (.int n)), none, some (.v (.int t)), some (.v (.int (31259 * t + 1423))), none] (Pl zs (t + 1) r s) = .nx [some (.v (.ref 0)), some (.v (.int n)), none, some (.v (.int t)), some (.v (.int cell)), none] (Pl zs (t + 1) r s) := by
      have z0 : szl 0 = true := szlS (by decide)
      by_cases hz : zs = []
      · have hne := @ne_nil (Pl zs (t + 1) r s) zs
        simp only [Pl] at hne
        exact ⟨31259 * t + 1423, by simp only [b_l_dip_4, Pl, seqS, ifS, setS, retS, retN, exprS, passS, setItS, tstE, truE, binE, varE, borE, conE, callE, consA, nilA, notT, andT, orT, notE, andE, orE, ifE, tupE, lstE, unE, chainE, R.bind, R.stm, RS.next, fin, boolE, addD, subD, mulD, fdivD, modD, powD, ltD, leD, gtD, geD, idxD, idxS, seqOf, intF, absF, setD, lenF, lenO, ltbD, i0, z0, List.length_nil, if_true, List.getElem?_cons_zero, List.getElem?_cons_succ]; rw [hne]; simp [hz, seqS, ifS, setS, retS, retN, exprS, passS, setItS, tstE, truE, binE, varE, borE, conE, callE, consA, nilA, notT, andT, orT, notE, andE, orE, ifE, tupE, lstE, unE, chainE, R.bind, R.stm, RS.next, fin, boolE, addD, subD, mulD, fdivD, modD, powD, ltD, leD, gtD, geD, idxD, idxS, seqOf, intF, absF, setD, lenF, lenO, ltbD]⟩
      · have hl' : 0 < zs.length := List.length_pos_iff.mpr hz
        have hl : (0 : Int) < zs.length := by omega
        obtain ⟨v, g1, g2⟩ := at_nat (xs := zs.map D.int) (i := t % zs.length) (Int.emod_nonneg _ (by omega)) (by rw [List.length_map]; exact Int.emod_lt_of_pos _ hl)
        rw [List.getElem?_map] at g1
        obtain ⟨y, _, rfl⟩ := Option.map_eq_some_iff.mp g1
        have hne := @ne_nil (Pl zs (t + 1) r s) zs
        simp only [Pl] at hne
        exact ⟨y, by simp only [b_l_dip_4, Pl, seqS, ifS, setS, retS, retN, exprS, passS, setItS, tstE, truE, binE, varE, borE, conE, callE, consA, nilA, notT, andT, orT, notE, andE, orE, ifE, tupE, lstE, unE, chainE, R.bind, R.stm, RS.next, fin, boolE, addD, subD, mulD, fdivD, modD, powD, ltD, leD, gtD, geD, idxD, idxS, seqOf, intF, absF, setD, lenF, lenO, ltbD, i0, z0, List.length_nil, if_true, List.getElem?_cons_zero, List.getElem?_cons_succ]; rw [hne]; simp [hz, seqS, ifS, setS, retS, retN, exprS, passS, setItS, tstE, truE, binE, varE, borE, conE, callE, consA, nilA, notT, andT, orT, notE, andE, orE, ifE, tupE, lstE, unE, chainE, R.bind, R.stm, RS.next, fin, boolE, addD, subD, mulD, fdivD, modD, powD, ltD, leD, gtD, geD, idxD, idxS, seqOf, intF, absF, setD, lenF, lenO, ltbD, i0, hl', g2]⟩
    rw [seq_nx e4]
    have hab : 0 ≤ (if cell < 0 then -cell else cell) := by split <;> omega
    have p18 : (10 : Int) ^ (18 : Int).toNat = 1000000000000000000 := by decide
    have q18 : powOk 10 18 = true := by decide
    have hP2 : ∀ r' : Int, 0 ≤ r' → PlOk (m + 1) (t + 1) r' := fun r' h => ⟨by omega, by omega, h⟩
    by_cases hq : t < (zs.length : Int) ∧ 1000000000000000000 ≤ (if cell < 0 then -cell else cell)
    · have e5 : b_l_dip_5 [some (.v (.ref 0)), some (.v (.int n)), none, some (.v (.int t)), some (.v (.int cell)), none] (Pl zs (t + 1) r s) = .rt (.int (((if cell < 0 then -cell else cell) - 1000000000000000000) % n)) (Pl zs (t + 1) (((if cell < 0 then -cell else cell) - 1000000000000000000) / n) s) := by
        simp only [b_l_dip_5, Pl, seqS, ifS, setS, retS, retN, exprS, passS, setItS, tstE, truE, binE, varE, borE, conE, callE, consA, nilA, notT, andT, orT, notE, andE, orE, ifE, tupE, lstE, unE, chainE, R.bind, R.stm, RS.next, fin, boolE, addD, subD, mulD, fdivD, modD, powD, ltD, leD, gtD, geD, idxD, idxS, seqOf, intF, absF, setD, lenF, lenO, ltbD, i0, List.length_map, hq.1, hq.2, p18, q18, decide_true, if_true, j2, dv, hn, List.getElem?_cons_zero, List.getElem?_cons_succ, List.set_cons_zero, List.set_cons_succ, Option.map_some, List.length_cons, List.length_nil]
      rw [seq_rt e5]
      exact ⟨_, _, _, rfl, Int.emod_nonneg _ (by omega), Int.emod_lt_of_pos _ hn, hP2 _ (Int.ediv_nonneg (by omega) (by omega))⟩
    · have e5 : b_l_dip_5 [some (.v (.ref 0)), some (.v (.int n)), none, some (.v (.int t)), some (.v (.int cell)), none] (Pl zs (t + 1) r s) = .nx [some (.v (.ref 0)), some (.v (.int n)), none, some (.v (.int t)), some (.v (.int cell)), none] (Pl zs (t + 1) r s) := by
        by_cases h1 : t < (zs.length : Int)
        · have h2 : ¬ 1000000000000000000 ≤ (if cell < 0 then -cell else cell) := fun z => hq ⟨h1, z⟩
          simp only [b_l_dip_5, Pl, seqS, ifS, setS, retS, retN, exprS, passS, setItS, tstE, truE, binE, varE, borE, conE, callE, consA, nilA, notT, andT, orT, notE, andE, orE, ifE, tupE, lstE, unE, chainE, R.bind, R.stm, RS.next, fin, boolE, addD, subD, mulD, fdivD, modD, powD, ltD, leD, gtD, geD, idxD, idxS, seqOf, intF, absF, setD, lenF, lenO, ltbD, i0, List.length_map, h1, h2, p18, q18, decide_true, decide_false, if_true, if_false, Bool.false_eq_true, List.getElem?_cons_zero, List.getElem?_cons_succ]
        · simp only [b_l_dip_5, Pl, seqS, ifS, setS, retS, retN, exprS, passS, setItS, tstE, truE, binE, varE, borE, conE, callE, consA, nilA, notT, andT, orT, notE, andE, orE, ifE, tupE, lstE, unE, chainE, R.bind, R.stm, RS.next, fin, boolE, addD, subD, mulD, fdivD, modD, powD, ltD, leD, gtD, geD, idxD, idxS, seqOf, intF, absF, setD, lenF, lenO, ltbD, i0, List.length_map, h1, p18, q18, decide_true, decide_false, if_true, if_false, Bool.false_eq_true, List.getElem?_cons_zero, List.getElem?_cons_succ]
      rw [seq_nx e5]
      have hc0 := Int.emod_nonneg cell (show (2147483549 : Int) ≠ 0 by decide)
      have hc1 := Int.emod_lt_of_pos cell (show (0 : Int) < 2147483549 by decide)
      have m2 : mulOk 44111 t = true := mulS (by decide) (by omega)
      have w1 : powOk (cell % 2147483549 + 44111 * t + 1423) 5 = true := by simp only [powOk, decide_eq_true_eq]; omega
      obtain ⟨x1, e6, hx0, hx1⟩ : ∃ x1 : Int, (∀ s, b_l_dip_6 [some (.v (.ref 0)), some (.v (.int n)), none, some (.v (.int t)), some (.v (.int cell)), none] s = .nx [some (.v (.ref 0)), some (.v (.int n)), none, some (.v (.int t)), some (.v (.int cell)), some (.v (.int x1))] s) ∧ 0 ≤ x1 ∧ x1 < 2147483647 := by
        refine ⟨(cell % 2147483549 + 44111 * t + 1423) ^ 5 % 2147483647, fun s => ?_, Int.emod_nonneg _ (by decide), Int.emod_lt_of_pos _ (by decide)⟩
        simp [b_l_dip_6, seqS, ifS, setS, retS, retN, exprS, passS, setItS, tstE, truE, binE, varE, borE, conE, callE, consA, nilA, notT, andT, orT, notE, andE, orE, ifE, tupE, lstE, unE, chainE, R.bind, R.stm, RS.next, fin, boolE, addD, subD, mulD, fdivD, modD, powD, ltD, leD, gtD, geD, idxD, idxS, seqOf, intF, absF, setD, lenF, lenO, ltbD, m2, w1]
      rw [seq_nx (e6 _)]
      have y0 : 0 ≤ x1 * (2 * t + 1409) := Int.mul_nonneg hx0 (by omega)
      have y1 : x1 * (2 * t + 1409) ≤ 2147483647 * 201409 := Int.mul_le_mul (by omega) (by omega) (by omega) (by decide)
      have y2 : 0 ≤ 31259 * t * t := Int.mul_nonneg (by omega) ht
      have y3 : 31259 * t * t ≤ (31259 * 100000) * 100000 := Int.mul_le_mul (by omega) (by omega) ht (by decide)
      have m3 : mulOk 2 t = true := mulS (by decide) (by omega)
      have m4 : mulOk x1 (2 * t + 1409) = true := mulS (by omega) (by omega)
      have m5 : mulOk (31259 * t) t = true := mulS (by omega) (by omega)
      generalize hA : x1 * (2 * t + 1409) = A at y0 y1
      generalize hB : 31259 * t * t = B at y2 y3
      have w2 : powOk (A + B + 1423) 3 = true := by simp only [powOk, decide_eq_true_eq]; omega
      obtain ⟨x2, e7⟩ : ∃ x2 : Int, ∀ s, b_l_dip_7 [some (.v (.ref 0)), some (.v (.int n)), none, some (.v (.int t)), some (.v (.int cell)), some (.v (.int x1))] s = .nx [some (.v (.ref 0)), some (.v (.int n)), none, some (.v (.int t)), some (.v (.int cell)), some (.v (.int x2))] s :=
        ⟨(A + B + 1423) ^ 3 % 2147483563, fun s => by simp [b_l_dip_7, seqS, ifS, setS, retS, retN, exprS, passS, setItS, tstE, truE, binE, varE, borE, conE, callE, consA, nilA, notT, andT, orT, notE, andE, orE, ifE, tupE, lstE, unE, chainE, R.bind, R.stm, RS.next, fin, boolE, addD, subD, mulD, fdivD, modD, powD, ltD, leD, gtD, geD, idxD, idxS, seqOf, intF, absF, setD, lenF, lenO, ltbD, m1, m3, m4, m5, hA, hB, w2]⟩
      rw [seq_nx (e7 _)]
      have d64 : divOk 64 = true := by decide
      have e8 : ∀ s, b_l_dip_8 [some (.v (.ref 0)), some (.v (.int n)), none, some (.v (.int t)), some (.v (.int cell)), some (.v (.int x2))] s = .rt (.int (x2 / 64 % n)) s := fun s => by
        simp [b_l_dip_8, seqS, ifS, setS, retS, retN, exprS, passS, setItS, tstE, truE, binE, varE, borE, conE, callE, consA, nilA, notT, andT, orT, notE, andE, orE, ifE, tupE, lstE, unE, chainE, R.bind, R.stm, RS.next, fin, boolE, addD, subD, mulD, fdivD, modD, powD, ltD, leD, gtD, geD, idxD, idxS, seqOf, intF, absF, setD, lenF, lenO, ltbD, d64, hn]
      rw [e8]
      exact ⟨_, _, _, rfl, Int.emod_nonneg _ (by omega), Int.emod_lt_of_pos _ hn, hP2 r hr⟩
/-- one of some things -/
theorem some_ok {zs : List Int} {s : S} {t r m : Int} {xs : List D} (hP : PlOk m t r) (hm : m < 100000) (h0 : xs ≠ []) (hl : xs.length < 1000) : ∃ (i : Nat) (d : D) (t' r' : Int), f_l_some [.ref 0, .lst xs] (Pl zs t r s) = .ok d (Pl zs t' r' s) ∧ xs[i]? = some d ∧ PlOk (m + 1) t' r' := by
  have l0 : 0 < xs.length := List.length_pos_iff.mpr h0
  obtain ⟨v, t', r', e, v0, v1, hP'⟩ := dip_ok (zs := zs) (s := s) (n := (xs.length : Int)) hP hm (by omega) (by
    have z : ((xs.length : Int)).natAbs = xs.length := by omega
    rw [z]
    exact Nat.lt_trans ((Nat.log2_lt (by omega)).mpr (Nat.lt_trans hl (by decide : 1000 < 2 ^ 10))) (by decide))
  obtain ⟨d, g1, g2⟩ := at_nat (xs := xs) v0 (by omega)
  have start : ∀ s, f_l_some [.ref 0, .lst xs] s = fin (b_l_some [some (.v (.ref 0)), some (.v (.lst xs))] s) := fun _ => rfl
  refine ⟨v.toNat, d, t', r', ?_, g1, hP'⟩
  rw [start]
  simp [b_l_some, seqS, ifS, setS, retS, retN, exprS, passS, setItS, tstE, truE, binE, varE, borE, conE, callE, consA, nilA, notT, andT, orT, notE, andE, orE, ifE, tupE, lstE, unE, chainE, R.bind, R.stm, RS.next, fin, boolE, addD, subD, mulD, fdivD, modD, powD, ltD, leD, gtD, geD, idxD, idxS, seqOf, intF, absF, setD, lenF, lenO, ltbD, e, g2]
end K00

namespace K00
open PySem PySem.Spec L2 Fv
/-! ### values that are shown -/
structure Sh (v : D) : Prop where
  ex : ∃ t : Tx, t.length ≤ 1000 ∧ ∀ s, f_shown [v] s = .ok (.str t) s
structure Gd (v : D) : Prop where
  sh : Sh v
  inb : ∀ n, D.inB n v = true
  py : ∃ p, pyD v = some p ∧ p.showable = true ∧ p.shown.length ≤ 1000 ∧ p.depth ≤ 10
theorem shown_int (k : Int) (hk : k.natAbs < 10 ^ 61) : Sh (.int k) := by
  have a0 : ∀ s, f_shown [.int k] s = fin (b_shown [some (.v (.int k))] s) := fun _ => rfl
  have e0 : ∀ s, b_shown_0 [some (.v (.int k))] s = .nx [some (.v (.int k))] s := fun _ => rfl
  have q1 : ∀ s, isiK [.int k, .ty "int"] s = .ok (.bl true) s := fun _ => rfl
  have lg : k.natAbs.log2 < 1920 := by
    by_cases z : k.natAbs = 0
    · rw [z]; decide
    · exact Nat.lt_trans ((Nat.log2_lt z).mpr (Nat.lt_trans hk (show 10 ^ 61 < 2 ^ 250 by decide))) (by decide)
  by_cases h : -1000000000 < k ∧ k < 1000000000
  · refine ⟨⟨Str.ofString (toString k), ?_, fun s => ?_⟩⟩
    · rw [PySem.ofString_length]
      exact Nat.le_trans (int_text_length_le10 (k := 61) (by decide) hk) (by decide)
    · rw [a0]
      unfold b_shown
      rw [seq_nx (e0 s)]
      have e1 : b_shown_1 [some (.v (.int k))] s = .rt (.str (Str.ofString (toString k))) s := by
        simp [b_shown_1, seqS, ifS, setS, retS, retN, exprS, passS, setItS, tstE, truE, binE, varE, borE, conE, callE, consA, nilA, notT, andT, orT, notE, andE, orE, ifE, tupE, lstE, unE, chainE, R.bind, R.stm, RS.next, fin, boolE, addD, subD, mulD, fdivD, modD, powD, ltD, leD, gtD, geD, idxD, idxS, seqOf, intF, absF, setD, lenF, lenO, ltbD, q1, truth, truthB, negD, h, strbF, strF, lg]
      rw [seq_rt e1]
      rfl
  · refine ⟨⟨Str.ofString "a value of the class int", by decide, fun s => ?_⟩⟩
    rw [a0]
    unfold b_shown
    rw [seq_nx (e0 s)]
    have e1 : b_shown_1 [some (.v (.int k))] s = .nx [some (.v (.int k))] s := by
      by_cases h1 : -1000000000 < k
      · have h2 : ¬ k < 1000000000 := fun z => h ⟨h1, z⟩
        simp [b_shown_1, seqS, ifS, setS, retS, retN, exprS, passS, setItS, tstE, truE, binE, varE, borE, conE, callE, consA, nilA, notT, andT, orT, notE, andE, orE, ifE, tupE, lstE, unE, chainE, R.bind, R.stm, RS.next, fin, boolE, addD, subD, mulD, fdivD, modD, powD, ltD, leD, gtD, geD, idxD, idxS, seqOf, intF, absF, setD, lenF, lenO, ltbD, q1, truth, truthB, negD, h1, h2]
      · simp [b_shown_1, seqS, ifS, setS, retS, retN, exprS, passS, setItS, tstE, truE, binE, varE, borE, conE, callE, consA, nilA, notT, andT, orT, notE, andE, orE, ifE, tupE, lstE, unE, chainE, R.bind, R.stm, RS.next, fin, boolE, addD, subD, mulD, fdivD, modD, powD, ltD, leD, gtD, geD, idxD, idxS, seqOf, intF, absF, setD, lenF, lenO, ltbD, q1, truth, truthB, negD, h1]
    rw [seq_nx e1]
    rfl
theorem py_int (k : Int) (hk : k.natAbs < 10 ^ 61) : ∃ p, pyD (.int k) = some p ∧ p.showable = true ∧ p.shown.length ≤ 100 ∧ p.depth ≤ 0 := by
  have lg : k.natAbs.log2 < 1920 := by
    by_cases z : k.natAbs = 0
    · rw [z]; decide
    · exact Nat.lt_trans ((Nat.log2_lt z).mpr (Nat.lt_trans hk (show 10 ^ 61 < 2 ^ 250 by decide))) (by decide)
  refine ⟨.int k, rfl, by simp only [PyData.showable, lg, decide_true], ?_, by simp [PyData.depth]⟩
  simp only [PyData.shown]
  rw [PySem.ofString_length]
  exact Nat.le_trans (int_text_length_le10 (k := 61) (by decide) hk) (by decide)
theorem gd_int (k : Int) (hk : k.natAbs < 10 ^ 61) : Gd (.int k) := by
  obtain ⟨p, a, b, c, d⟩ := py_int k hk
  exact ⟨shown_int k hk, fun _ => rfl, p, a, b, by omega, by omega⟩
theorem gd_lint (k : Int) (hk : k.natAbs < 10 ^ 61) : Gd (.lst [.int k]) := by
  obtain ⟨p, a, b, c, d⟩ := py_int k hk
  refine ⟨⟨⟨Str.ofString "a value of the class list", by decide, fun s => rfl⟩⟩, fun _ => rfl, .list [p], by simp only [pyD, pyDs, Option.some.injEq] at a ⊢; subst a; rfl, by simp [PyData.showable, PyData.showableAll, b], ?_, by simp [PyData.depth, PyData.depthAll]; omega⟩
  have z := listText_len_le [p.shown]
  simp only [PyData.shown, PyData.shownAll]
  simp at z
  omega
/-- values without a drawn number -/
def fix1 : List D := [.non, .bl true, .str "part", .str "", .tup [.str "a", .int 1], .dct [.str "a"] [.lst [.int 1]]]
def fix2 : List D := [.int 0, .bl false, .str "room", .lst [], .tup [], .dct [.int 1] [.int 2], .non]
theorem gd_fix : ∀ v ∈ fix1 ++ fix2, Gd v := by
  intro v hv
  simp only [fix1, fix2, List.cons_append, List.nil_append, List.mem_cons, List.not_mem_nil, or_false] at hv
  rcases hv with rfl | rfl | rfl | rfl | rfl | rfl | rfl | rfl | rfl | rfl | rfl | rfl | rfl
  · exact ⟨⟨⟨Str.ofString "a value of the class NoneType", by decide, fun s => rfl⟩⟩, fun _ => rfl, _, rfl, by decide, by decide +kernel, by decide⟩
  · exact ⟨⟨⟨Str.ofString "True", by decide, fun s => rfl⟩⟩, fun _ => rfl, _, rfl, by decide, by decide +kernel, by decide⟩
  · exact ⟨⟨⟨_, by decide, fun s => rfl⟩⟩, fun _ => rfl, _, rfl, by decide, by decide +kernel, by decide⟩
  · exact ⟨⟨⟨_, by decide, fun s => rfl⟩⟩, fun _ => rfl, _, rfl, by decide, by decide +kernel, by decide⟩
  · exact ⟨⟨⟨Str.ofString "a value of the class tuple", by decide, fun s => rfl⟩⟩, fun _ => rfl, _, rfl, by decide, by decide +kernel, by decide⟩
  · exact ⟨⟨⟨Str.ofString "a value of the class dict", by decide, fun s => rfl⟩⟩, fun _ => rfl, _, rfl, by decide, by decide +kernel, by decide⟩
  · exact gd_int 0 (by decide)
  · exact ⟨⟨⟨Str.ofString "False", by decide, fun s => rfl⟩⟩, fun _ => rfl, _, rfl, by decide, by decide +kernel, by decide⟩
  · exact ⟨⟨⟨_, by decide, fun s => rfl⟩⟩, fun _ => rfl, _, rfl, by decide, by decide +kernel, by decide⟩
  · exact ⟨⟨⟨Str.ofString "a value of the class list", by decide, fun s => rfl⟩⟩, fun _ => rfl, _, rfl, by decide, by decide +kernel, by decide⟩
  · exact ⟨⟨⟨Str.ofString "a value of the class tuple", by decide, fun s => rfl⟩⟩, fun _ => rfl, _, rfl, by decide, by decide +kernel, by decide⟩
  · exact ⟨⟨⟨Str.ofString "a value of the class dict", by decide, fun s => rfl⟩⟩, fun _ => rfl, _, rfl, by decide, by decide +kernel, by decide⟩
  · exact ⟨⟨⟨Str.ofString "a value of the class NoneType", by decide, fun s => rfl⟩⟩, fun _ => rfl, _, rfl, by decide, by decide +kernel, by decide⟩
end K00

namespace K00
open PySem PySem.Spec L2 Fv
/-! ### errors made -/
theorem js_ok {ρ : En} : ∀ (l : List E) (acc : Tx), (∀ e ∈ l, ∃ x : Tx, x.length ≤ 1000 ∧ ∀ s, e ρ s = .ok (.str x) s) → acc.length + 1000 * l.length ≤ 16777216 → ∃ y, ∀ s, jsL l acc ρ s = .ok (.str y) s
  | [], acc, _, _ => ⟨acc, fun _ => rfl⟩
  | e :: l, acc, h, hl => by
    obtain ⟨x, hx, ex⟩ := h e (by simp)
    have la : (acc ++ x).length = acc.length + x.length := Str.length_append _ _
    simp only [List.length_cons] at hl
    obtain ⟨y, hy⟩ := js_ok (ρ := ρ) l (acc ++ x) (fun e he => h e (by simp [he])) (by rw [la]; omega)
    refine ⟨y, fun s => ?_⟩
    have z : szl (acc ++ x).length = true := szlS (by rw [la]; omega)
    simp only [jsL, ex, R.bind, z, if_true, hy]
theorem fmt_ok {ρ : En} {i : Nat} {v : D} (h : Sh v) (hi : ρ[i]? = some (some (.v v))) : ∃ x : Tx, x.length ≤ 1000 ∧ ∀ s, fmtE (callE f_shown (consA (varE i) nilA)) ρ s = .ok (.str x) s := by
  obtain ⟨t, hl, e⟩ := h.ex
  refine ⟨t, hl, fun s => ?_⟩
  have z : szl t.length = true := szlS (by omega)
  simp only [fmtE, callE, consA, nilA, varE, hi, R.bind, e, z, if_true]
theorem con_ok {ρ : En} {x : Tx} (h : x.length ≤ 1000) : ∃ x' : Tx, x'.length ≤ 1000 ∧ ∀ s, conE (.str x) ρ s = .ok (.str x') s := ⟨x, h, fun _ => rfl⟩
/-- one field -/
theorem mk1 {cs : List Tx} {c f : Tx} {je : E} {v P : D} (hc : c ∈ cs) (hj : ∃ y, ∀ s, je [some (.v (.ref 1)), some (.v v)] s = .ok (.str y) s) :
    fin (seqS (exprS (vinitE cs (consA (varE 0) (consA je nilA)))) (ostS cs f (varE 0) (varE 1)) [some (.v (.ref 1)), some (.v v)] [P, .exc c none]) = .ok .non [P, .exc c (some 2), .xn [f] [v]] := by
  obtain ⟨y, hy⟩ := hj
  simp [seqS, exprS, vinitE, consA, nilA, varE, R.bind, R.stm, RS.next, hy, hc, ostS, fin]
/-- two fields -/
theorem mk2 {cs : List Tx} {c f g : Tx} {je : E} {v u P : D} (hc : c ∈ cs) (hj : ∃ y, ∀ s, je [some (.v (.ref 1)), some (.v v), some (.v u)] s = .ok (.str y) s) :
    fin (seqS (exprS (vinitE cs (consA (varE 0) (consA je nilA)))) (seqS (ostS cs f (varE 0) (varE 1)) (ostS cs g (varE 0) (varE 2))) [some (.v (.ref 1)), some (.v v), some (.v u)] [P, .exc c none]) = .ok .non [P, .exc c (some 2), .xn [g, f] [u, v]] := by
  obtain ⟨y, hy⟩ := hj
  simp [seqS, exprS, vinitE, consA, nilA, varE, R.bind, R.stm, RS.next, hy, hc, ostS, fin]
theorem ex1 {c f : Tx} {F : Fn} {v P : D} (hv : Gd v) (h : F [.ref 1, v] [P, .exc c none] = .ok .non [P, .exc c (some 2), .xn [f] [v]]) : excF c F [v] [P] = .ok (.exh c [f] [v]) [P] :=
  excF_ok (by simp) h (by simp only [D.inBs, hv.inb, Bool.and_self])
theorem ex2 {c f g : Tx} {F : Fn} {v u P : D} (hv : Gd v) (hu : Gd u) (h : F [.ref 1, v, u] [P, .exc c none] = .ok .non [P, .exc c (some 2), .xn [g, f] [u, v]]) : excF c F [v, u] [P] = .ok (.exh c [g, f] [u, v]) [P] :=
  excF_ok (by simp) h (by simp only [D.inBs, hv.inb, hu.inb, Bool.and_self])
section
variable {v u P : D}
theorem j1 {pre : Tx} (hv : Sh v) (hp : pre.length ≤ 1000) : ∃ y, ∀ s, joinedE [conE (.str pre), fmtE (callE f_shown (consA (varE 1) nilA))] [some (.v (.ref 1)), some (.v v)] s = .ok (.str y) s :=
  js_ok _ _ (by
    intro e he
    simp only [List.mem_cons, List.not_mem_nil, or_false] at he
    rcases he with rfl | rfl
    · exact con_ok hp
    · exact fmt_ok hv rfl) (by simp only [List.length_cons, List.length_nil]; decide)
theorem e_BadRoom (hv : Gd v) : excF "BadRoom" f_BadRoom [v] [P] = .ok (.exh "BadRoom" ["part"] [v]) [P] := ex1 hv (mk1 (by decide) (j1 hv.sh (by decide)))
theorem e_BadDeed (hv : Gd v) : excF "BadDeed" f_BadDeed [v] [P] = .ok (.exh "BadDeed" ["part"] [v]) [P] := ex1 hv (mk1 (by decide) (j1 hv.sh (by decide)))
theorem e_BadLoose (hv : Gd v) : excF "BadLoose" f_BadLoose [v] [P] = .ok (.exh "BadLoose" ["part"] [v]) [P] := ex1 hv (mk1 (by decide) (j1 hv.sh (by decide)))
theorem e_BadSaying (hv : Gd v) : excF "BadSaying" f_BadSaying [v] [P] = .ok (.exh "BadSaying" ["part"] [v]) [P] := ex1 hv (mk1 (by decide) (j1 hv.sh (by decide)))
theorem e_BadBook (hv : Gd v) : excF "BadBook" f_BadBook [v] [P] = .ok (.exh "BadBook" ["part"] [v]) [P] := ex1 hv (mk1 (by decide) (j1 hv.sh (by decide)))
theorem e_BadPlace (hv : Gd v) : excF "BadPlace" f_BadPlace [v] [P] = .ok (.exh "BadPlace" ["part"] [v]) [P] := ex1 hv (mk1 (by decide) (j1 hv.sh (by decide)))
theorem e_BadTie (hv : Gd v) : excF "BadTie" f_BadTie [v] [P] = .ok (.exh "BadTie" ["part"] [v]) [P] := ex1 hv (mk1 (by decide) (j1 hv.sh (by decide)))
theorem e_BadPriced (hv : Gd v) : excF "BadPriced" f_BadPriced [v] [P] = .ok (.exh "BadPriced" ["part"] [v]) [P] := ex1 hv (mk1 (by decide) (j1 hv.sh (by decide)))
theorem e_BadTalk (hv : Gd v) : excF "BadTalk" f_BadTalk [v] [P] = .ok (.exh "BadTalk" ["part"] [v]) [P] := ex1 hv (mk1 (by decide) (j1 hv.sh (by decide)))
theorem e_BadTeller (hv : Gd v) : excF "BadTeller" f_BadTeller [v] [P] = .ok (.exh "BadTeller" ["part"] [v]) [P] := ex1 hv (mk1 (by decide) (j1 hv.sh (by decide)))
theorem e_BadTranslation (hv : Gd v) : excF "BadTranslation" f_BadTranslation [v] [P] = .ok (.exh "BadTranslation" ["part"] [v]) [P] := ex1 hv (mk1 (by decide) (j1 hv.sh (by decide)))
theorem e_BadNumbers (hv : Gd v) : excF "BadNumbers" f_BadNumbers [v] [P] = .ok (.exh "BadNumbers" ["part"] [v]) [P] := ex1 hv (mk1 (by decide) (j1 hv.sh (by decide)))
theorem e_Missing (hv : Gd v) : excF "Missing" f_Missing [v] [P] = .ok (.exh "Missing" ["name"] [v]) [P] := ex1 hv (mk1 (by decide) (j1 hv.sh (by decide)))
theorem e_NoThing (hv : Gd v) : excF "NoThing" f_Missing [v] [P] = .ok (.exh "NoThing" ["name"] [v]) [P] := ex1 hv (mk1 (by decide) (j1 hv.sh (by decide)))
theorem e_NoWord (hv : Gd v) : excF "NoWord" f_Missing [v] [P] = .ok (.exh "NoWord" ["name"] [v]) [P] := ex1 hv (mk1 (by decide) (j1 hv.sh (by decide)))
theorem e_NoLink (hv : Gd v) : excF "NoLink" f_Missing [v] [P] = .ok (.exh "NoLink" ["name"] [v]) [P] := ex1 hv (mk1 (by decide) (j1 hv.sh (by decide)))
theorem e_NoScale (hv : Gd v) : excF "NoScale" f_Missing [v] [P] = .ok (.exh "NoScale" ["name"] [v]) [P] := ex1 hv (mk1 (by decide) (j1 hv.sh (by decide)))
theorem e_NoWay (hv : Gd v) : excF "NoWay" f_Missing [v] [P] = .ok (.exh "NoWay" ["name"] [v]) [P] := ex1 hv (mk1 (by decide) (j1 hv.sh (by decide)))
theorem e_NoName (hv : Gd v) : excF "NoName" f_Missing [v] [P] = .ok (.exh "NoName" ["name"] [v]) [P] := ex1 hv (mk1 (by decide) (j1 hv.sh (by decide)))
theorem e_Twice (hv : Gd v) : excF "Twice" f_Twice [v] [P] = .ok (.exh "Twice" ["name"] [v]) [P] := ex1 hv (mk1 (by decide) (j1 hv.sh (by decide)))
theorem e_Unlike (hv : Gd v) : excF "Unlike" f_Unlike [v] [P] = .ok (.exh "Unlike" ["what"] [v]) [P] := ex1 hv (mk1 (by decide) (j1 hv.sh (by decide)))
theorem j4 {a b : Tx} (hv : Sh v) (hu : Sh u) (ha : a.length ≤ 1000) (hb : b.length ≤ 1000) : ∃ y, ∀ s, joinedE [conE (.str a), fmtE (callE f_shown (consA (varE 1) nilA)), conE (.str b), fmtE (callE f_shown (consA (varE 2) nilA))] [some (.v (.ref 1)), some (.v v), some (.v u)] s = .ok (.str y) s :=
  js_ok _ _ (by
    intro e he
    simp only [List.mem_cons, List.not_mem_nil, or_false] at he
    rcases he with rfl | rfl | rfl | rfl
    · exact con_ok ha
    · exact fmt_ok hv rfl
    · exact con_ok hb
    · exact fmt_ok hu rfl) (by simp only [List.length_cons, List.length_nil]; decide)
theorem j5 {a b c : Tx} (hv : Sh v) (hu : Sh u) (ha : a.length ≤ 1000) (hb : b.length ≤ 1000) (hc : c.length ≤ 1000) : ∃ y, ∀ s, joinedE [conE (.str a), fmtE (callE f_shown (consA (varE 1) nilA)), conE (.str b), fmtE (callE f_shown (consA (varE 2) nilA)), conE (.str c)] [some (.v (.ref 1)), some (.v v), some (.v u)] s = .ok (.str y) s :=
  js_ok _ _ (by
    intro e he
    simp only [List.mem_cons, List.not_mem_nil, or_false] at he
    rcases he with rfl | rfl | rfl | rfl | rfl
    · exact con_ok ha
    · exact fmt_ok hv rfl
    · exact con_ok hb
    · exact fmt_ok hu rfl
    · exact con_ok hc) (by simp only [List.length_cons, List.length_nil]; decide)
theorem e_NotLet (hv : Gd v) (hu : Gd u) : excF "NotLet" f_NotLet [v, u] [P] = .ok (.exh "NotLet" ["kind", "way"] [u, v]) [P] := ex2 hv hu (mk2 (by decide) (j4 hv.sh hu.sh (by decide) (by decide)))
theorem e_TooMany (hv : Gd v) (hu : Gd u) : excF "TooMany" f_TooMany [v, u] [P] = .ok (.exh "TooMany" ["most", "what"] [u, v]) [P] := ex2 hv hu (mk2 (by decide) (j4 hv.sh hu.sh (by decide) (by decide)))
theorem e_BadText (hv : Gd v) (hu : Gd u) : excF "BadText" f_BadText [v, u] [P] = .ok (.exh "BadText" ["word", "line"] [u, v]) [P] := ex2 hv hu (mk2 (by decide) (j5 hv.sh hu.sh (by decide) (by decide) (by decide)))
theorem e_BadLine (hv : Gd v) (hu : Gd u) : excF "BadLine" f_BadLine [v, u] [P] = .ok (.exh "BadLine" ["error", "line"] [u, v]) [P] := ex2 hv hu (mk2 (by decide) (j4 hv.sh hu.sh (by decide) (by decide)))
end
end K00

namespace K00
open PySem PySem.Spec L2 Fv
/-! ### the rows of errors -/
def pl (v : D) : List D := [.exh "BadRoom" ["part"] [v], .exh "BadDeed" ["part"] [v], .exh "BadLoose" ["part"] [v], .exh "BadSaying" ["part"] [v], .exh "BadBook" ["part"] [v], .exh "BadPlace" ["part"] [v], .exh "BadTie" ["part"] [v], .exh "BadPriced" ["part"] [v], .exh "BadTalk" ["part"] [v], .exh "BadTeller" ["part"] [v], .exh "BadTranslation" ["part"] [v], .exh "BadNumbers" ["part"] [v]]
def ol (v u : D) : List D := [.exh "NoThing" ["name"] [v], .exh "NoWord" ["name"] [v], .exh "NoLink" ["name"] [v], .exh "NoScale" ["name"] [v], .exh "NoWay" ["name"] [v], .exh "NoName" ["name"] [v], .exh "Twice" ["name"] [v], .exh "Unlike" ["what"] [v], .exh "NotLet" ["kind", "way"] [u, v], .exh "TooMany" ["most", "what"] [u, v], .exh "BadText" ["word", "line"] [u, v], .exh "BadLine" ["error", "line"] [u, v], .exq "Nothing"]
theorem hz {n : Nat} (h : n ≤ 100) : szl n = true := szlS (by omega)
theorem add_lst {xs ys : List D} {s : S} : addD (.lst xs) (.lst ys) s = if szl (xs.length + ys.length) then .ok (.lst (xs ++ ys)) s else .bad := rfl
section
variable {v u P : D}
theorem parts_ok (hv : Gd v) : f_l_parts [v] [P] = .ok (.lst (pl v)) [P] := by
  show fin (b_l_parts [some (.v v), none] [P]) = _
  simp [b_l_parts, b_l_parts_0, b_l_parts_1, b_l_parts_2, seqS, setS, retS, lstE, consA, nilA, callE, varE, borE, binE, R.bind, R.stm, RS.next, fin, turnA, exqE, add_lst, hz, pl, e_BadRoom hv, e_BadDeed hv, e_BadLoose hv, e_BadSaying hv, e_BadBook hv, e_BadPlace hv, e_BadTie hv, e_BadPriced hv, e_BadTalk hv, e_BadTeller hv, e_BadTranslation hv, e_BadNumbers hv]
theorem partsT_ok (hv : Gd v) : f_l_parts_turned [v] [P] = .ok (.lst (pl v)) [P] := by
  show fin (b_l_parts_turned [some (.v v), none] [P]) = _
  simp [b_l_parts_turned, b_l_parts_turned_0, b_l_parts_turned_1, b_l_parts_turned_2, seqS, setS, retS, lstE, consA, nilA, callE, varE, borE, binE, R.bind, R.stm, RS.next, fin, turnA, exqE, add_lst, hz, pl, e_BadRoom hv, e_BadDeed hv, e_BadLoose hv, e_BadSaying hv, e_BadBook hv, e_BadPlace hv, e_BadTie hv, e_BadPriced hv, e_BadTalk hv, e_BadTeller hv, e_BadTranslation hv, e_BadNumbers hv]
theorem others_ok (hv : Gd v) (hu : Gd u) : f_l_others [v, u] [P] = .ok (.lst (ol v u)) [P] := by
  show fin (b_l_others [some (.v v), some (.v u), none] [P]) = _
  simp [b_l_others, b_l_others_0, b_l_others_1, b_l_others_2, seqS, setS, retS, lstE, consA, nilA, callE, varE, borE, binE, R.bind, R.stm, RS.next, fin, turnA, exqE, add_lst, hz, ol, e_NoThing hv, e_NoWord hv, e_NoLink hv, e_NoScale hv, e_NoWay hv, e_NoName hv, e_Twice hv, e_Unlike hv, e_NotLet hv hu, e_TooMany hv hu, e_BadText hv hu, e_BadLine hv hu]
theorem othersN_ok (hv : Gd v) (hu : Gd u) : f_l_others_named [v, u] [P] = .ok (.lst (ol v u)) [P] := by
  show fin (b_l_others_named [some (.v v), some (.v u), none] [P]) = _
  simp [b_l_others_named, b_l_others_named_0, b_l_others_named_1, b_l_others_named_2, b_l_others_named_3, seqS, setS, retS, lstE, consA, nilA, callE, varE, borE, binE, R.bind, R.stm, RS.next, fin, turnA, exqE, add_lst, hz, ol, e_NoThing hv, e_NoWord hv, e_NoLink hv, e_NoScale hv, e_NoWay hv, e_NoName hv, e_Twice hv, e_Unlike hv, e_NotLet hv hu, e_TooMany hv hu, e_BadText hv hu, e_BadLine hv hu]
end
end K00

namespace K00
open PySem PySem.Spec L2 Fv
/-! ### all of a row stand right -/
theorem for_all {tg : Tg} {body : C} {s : S} {J : En → Prop} : ∀ (ds : List D) (ρ : En), (∀ d ∈ ds, ∀ ρ, J ρ → ∃ ρ1 ρ2, asg tg d ρ = some ρ1 ∧ body ρ1 s = .nx ρ2 s ∧ J ρ2) → J ρ → ∃ ρ2, forL allK tg body ds ρ s = .nx ρ2 s ∧ J ρ2
  | [], ρ, _, h => ⟨ρ, rfl, h⟩
  | d :: ds, ρ, h, hj => by
    obtain ⟨ρ1, ρ2, e1, e2, j2⟩ := h d (by simp) ρ hj
    obtain ⟨ρ3, e3, j3⟩ := for_all ds ρ2 (fun d hd => h d (by simp [hd])) j2
    exact ⟨ρ3, by simp only [forL, allK, if_true, e1, e2, e3], j3⟩
noncomputable def bd : C :=
  (seqS (setS 5 (ifE (tstE (binE ltbD (borE 3) (conE (.int 20)))) (lstE (consA (varE 0) nilA)) (ifE (tstE (binE ltbD (borE 3) (conE (.int 24)))) (lstE (consA (varE 0) (consA (varE 1) nilA))) (lstE nilA))))
  (ifS (orT (tstE (binE neD (callE reprF (consA (callE f_l_fields (consA (varE 4) (consA (varE 3) nilA))) nilA)) (callE reprF (consA (borE 5) nilA)))) (notT (truE (callE f_l_stands_right (consA (varE 4) (consA (varE 3) nilA)))))) (retS (conE (.bl false))) passS))
section
variable {v u P : D}
theorem rep0 : ∃ t, ∀ s, reprF [.lst []] s = .ok (.str t) s := ⟨_, fun s => by
  have h : (PyData.list []).showable = true ∧ (PyData.list []).shown.length ≤ sizeLine ∧ (PyData.list []).depth ≤ 60 := ⟨by decide, by decide +kernel, by decide⟩
  simp only [reprF, pyD, pyDs, Option.map_some]
  rw [if_pos h]⟩
theorem rep1 (hv : Gd v) : ∃ t, ∀ s, reprF [.lst [v]] s = .ok (.str t) s := by
  obtain ⟨p, a, b, c, d⟩ := hv.py
  refine ⟨(PyData.list [p]).shown, fun s => ?_⟩
  have z := listText_len_le [p.shown]
  simp only [List.map_cons, List.map_nil, List.sum_cons, List.sum_nil, List.length_cons, List.length_nil] at z
  have h : (PyData.list [p]).showable = true ∧ (PyData.list [p]).shown.length ≤ sizeLine ∧ (PyData.list [p]).depth ≤ 60 := ⟨by simp [PyData.showable, PyData.showableAll, b], by simp only [PyData.shown, PyData.shownAll]; rw [sizeLine_eq]; omega, by simp [PyData.depth, PyData.depthAll]; omega⟩
  have e : pyD (.lst [v]) = some (.list [p]) := by simp only [pyD, pyDs, a, Option.bind_some, Option.map_some]
  simp only [reprF, e]
  rw [if_pos h]
theorem rep2 (hv : Gd v) (hu : Gd u) : ∃ t, ∀ s, reprF [.lst [v, u]] s = .ok (.str t) s := by
  obtain ⟨p, a, b, c, d⟩ := hv.py
  obtain ⟨q, a2, b2, c2, d2⟩ := hu.py
  refine ⟨(PyData.list [p, q]).shown, fun s => ?_⟩
  have z := listText_len_le [p.shown, q.shown]
  simp only [List.map_cons, List.map_nil, List.sum_cons, List.sum_nil, List.length_cons, List.length_nil] at z
  have h : (PyData.list [p, q]).showable = true ∧ (PyData.list [p, q]).shown.length ≤ sizeLine ∧ (PyData.list [p, q]).depth ≤ 60 := ⟨by simp [PyData.showable, PyData.showableAll, b, b2], by simp only [PyData.shown, PyData.shownAll]; rw [sizeLine_eq]; omega, by simp [PyData.depth, PyData.depthAll]; omega⟩
  have e : pyD (.lst [v, u]) = some (.list [p, q]) := by simp only [pyD, pyDs, a, a2, Option.bind_some, Option.map_some]
  simp only [reprF, e]
  rw [if_pos h]
theorem rep_v (hv : Gd v) : ∃ t, ∀ s, reprF [v] s = .ok (.str t) s := by
  obtain ⟨p, a, b, c, d⟩ := hv.py
  refine ⟨p.shown, fun s => ?_⟩
  have h : p.showable = true ∧ p.shown.length ≤ sizeLine ∧ p.depth ≤ 60 := ⟨b, by rw [sizeLine_eq]; omega, by omega⟩
  simp only [reprF, a]
  rw [if_pos h]
theorem ne_str {t : Tx} {s : S} : neD (.str t) (.str t) s = .ok (.bl false) s := by simp [neD, eqB, scE]
def It1 (v u P d : D) : Prop := ∀ m a b c, ∃ ρ1 a2 b2 c2, asg (.tp [3, 4]) d [some (.v v), some (.v u), m, a, b, c] = some ρ1 ∧ bd ρ1 [P] = .nx [some (.v v), some (.v u), m, a2, b2, c2] [P]
theorem step {i : Int} {e : D} {due : List D} (h1 : f_l_fields [e, .int i] [P] = .ok (.lst due) [P]) (h2 : f_l_stands_right [e, .int i] [P] = .ok (.bl true) [P])
    (h3 : ∀ m b c, (ifE (tstE (binE ltbD (borE 3) (conE (.int 20)))) (lstE (consA (varE 0) nilA)) (ifE (tstE (binE ltbD (borE 3) (conE (.int 24)))) (lstE (consA (varE 0) (consA (varE 1) nilA))) (lstE nilA))) [some (.v v), some (.v u), m, some (.v (.int i)), b, c] [P] = .ok (.lst due) [P])
    (h4 : ∃ t, ∀ s, reprF [.lst due] s = .ok (.str t) s) : It1 v u P (.tup [.int i, e]) := by
  intro m a b c
  obtain ⟨t, ht⟩ := h4
  refine ⟨[some (.v v), some (.v u), m, some (.v (.int i)), some (.v e), c], some (.v (.int i)), some (.v e), some (.v (.lst due)), rfl, ?_⟩
  show bd [some (.v v), some (.v u), m, some (.v (.int i)), some (.v e), c] [P] = _
  unfold bd
  have e1 : setS 5 (ifE (tstE (binE ltbD (borE 3) (conE (.int 20)))) (lstE (consA (varE 0) nilA)) (ifE (tstE (binE ltbD (borE 3) (conE (.int 24)))) (lstE (consA (varE 0) (consA (varE 1) nilA))) (lstE nilA))) [some (.v v), some (.v u), m, some (.v (.int i)), some (.v e), c] [P] = .nx [some (.v v), some (.v u), m, some (.v (.int i)), some (.v e), some (.v (.lst due))] [P] := by
    simp only [setS, h3, R.stm, List.set_cons_succ, List.set_cons_zero]
  rw [seq_nx e1]
  simp [ifS, orT, tstE, binE, callE, consA, nilA, varE, borE, R.bind, R.stm, h1, h2, ht, ne_str, boolE, notT, truE, truth, truthB, passS, D.heavy]
theorem it_0 (hv : Gd v) (hu : Gd u) : It1 v u P (.tup [.int 0, .exh "BadRoom" ["part"] [v]]) := step (due := [v]) rfl rfl (fun _ _ _ => rfl) (rep1 hv)
theorem it_1 (hv : Gd v) (hu : Gd u) : It1 v u P (.tup [.int 1, .exh "BadDeed" ["part"] [v]]) := step (due := [v]) rfl rfl (fun _ _ _ => rfl) (rep1 hv)
theorem it_2 (hv : Gd v) (hu : Gd u) : It1 v u P (.tup [.int 2, .exh "BadLoose" ["part"] [v]]) := step (due := [v]) rfl rfl (fun _ _ _ => rfl) (rep1 hv)
theorem it_3 (hv : Gd v) (hu : Gd u) : It1 v u P (.tup [.int 3, .exh "BadSaying" ["part"] [v]]) := step (due := [v]) rfl rfl (fun _ _ _ => rfl) (rep1 hv)
theorem it_4 (hv : Gd v) (hu : Gd u) : It1 v u P (.tup [.int 4, .exh "BadBook" ["part"] [v]]) := step (due := [v]) rfl rfl (fun _ _ _ => rfl) (rep1 hv)
theorem it_5 (hv : Gd v) (hu : Gd u) : It1 v u P (.tup [.int 5, .exh "BadPlace" ["part"] [v]]) := step (due := [v]) rfl rfl (fun _ _ _ => rfl) (rep1 hv)
theorem it_6 (hv : Gd v) (hu : Gd u) : It1 v u P (.tup [.int 6, .exh "BadTie" ["part"] [v]]) := step (due := [v]) rfl rfl (fun _ _ _ => rfl) (rep1 hv)
theorem it_7 (hv : Gd v) (hu : Gd u) : It1 v u P (.tup [.int 7, .exh "BadPriced" ["part"] [v]]) := step (due := [v]) rfl rfl (fun _ _ _ => rfl) (rep1 hv)
theorem it_8 (hv : Gd v) (hu : Gd u) : It1 v u P (.tup [.int 8, .exh "BadTalk" ["part"] [v]]) := step (due := [v]) rfl rfl (fun _ _ _ => rfl) (rep1 hv)
theorem it_9 (hv : Gd v) (hu : Gd u) : It1 v u P (.tup [.int 9, .exh "BadTeller" ["part"] [v]]) := step (due := [v]) rfl rfl (fun _ _ _ => rfl) (rep1 hv)
theorem it_10 (hv : Gd v) (hu : Gd u) : It1 v u P (.tup [.int 10, .exh "BadTranslation" ["part"] [v]]) := step (due := [v]) rfl rfl (fun _ _ _ => rfl) (rep1 hv)
theorem it_11 (hv : Gd v) (hu : Gd u) : It1 v u P (.tup [.int 11, .exh "BadNumbers" ["part"] [v]]) := step (due := [v]) rfl rfl (fun _ _ _ => rfl) (rep1 hv)
theorem it_12 (hv : Gd v) (hu : Gd u) : It1 v u P (.tup [.int 12, .exh "NoThing" ["name"] [v]]) := step (due := [v]) rfl rfl (fun _ _ _ => rfl) (rep1 hv)
theorem it_13 (hv : Gd v) (hu : Gd u) : It1 v u P (.tup [.int 13, .exh "NoWord" ["name"] [v]]) := step (due := [v]) rfl rfl (fun _ _ _ => rfl) (rep1 hv)
theorem it_14 (hv : Gd v) (hu : Gd u) : It1 v u P (.tup [.int 14, .exh "NoLink" ["name"] [v]]) := step (due := [v]) rfl rfl (fun _ _ _ => rfl) (rep1 hv)
theorem it_15 (hv : Gd v) (hu : Gd u) : It1 v u P (.tup [.int 15, .exh "NoScale" ["name"] [v]]) := step (due := [v]) rfl rfl (fun _ _ _ => rfl) (rep1 hv)
theorem it_16 (hv : Gd v) (hu : Gd u) : It1 v u P (.tup [.int 16, .exh "NoWay" ["name"] [v]]) := step (due := [v]) rfl rfl (fun _ _ _ => rfl) (rep1 hv)
theorem it_17 (hv : Gd v) (hu : Gd u) : It1 v u P (.tup [.int 17, .exh "NoName" ["name"] [v]]) := step (due := [v]) rfl rfl (fun _ _ _ => rfl) (rep1 hv)
theorem it_18 (hv : Gd v) (hu : Gd u) : It1 v u P (.tup [.int 18, .exh "Twice" ["name"] [v]]) := step (due := [v]) rfl rfl (fun _ _ _ => rfl) (rep1 hv)
theorem it_19 (hv : Gd v) (hu : Gd u) : It1 v u P (.tup [.int 19, .exh "Unlike" ["what"] [v]]) := step (due := [v]) rfl rfl (fun _ _ _ => rfl) (rep1 hv)
theorem it_20 (hv : Gd v) (hu : Gd u) : It1 v u P (.tup [.int 20, .exh "NotLet" ["kind", "way"] [u, v]]) := step (due := [v, u]) rfl rfl (fun _ _ _ => rfl) (rep2 hv hu)
theorem it_21 (hv : Gd v) (hu : Gd u) : It1 v u P (.tup [.int 21, .exh "TooMany" ["most", "what"] [u, v]]) := step (due := [v, u]) rfl rfl (fun _ _ _ => rfl) (rep2 hv hu)
theorem it_22 (hv : Gd v) (hu : Gd u) : It1 v u P (.tup [.int 22, .exh "BadText" ["word", "line"] [u, v]]) := step (due := [v, u]) rfl rfl (fun _ _ _ => rfl) (rep2 hv hu)
theorem it_23 (hv : Gd v) (hu : Gd u) : It1 v u P (.tup [.int 23, .exh "BadLine" ["error", "line"] [u, v]]) := step (due := [v, u]) rfl rfl (fun _ _ _ => rfl) (rep2 hv hu)
theorem it_24 (hv : Gd v) (hu : Gd u) : It1 v u P (.tup [.int 24, .exq "Nothing"]) := step (due := []) rfl rfl (fun _ _ _ => rfl) (rep0)
theorem all_ok (hv : Gd v) (hu : Gd u) : f_l_all_right [v, u, .lst (pl v ++ ol v u)] [P] = .ok (.bl true) [P] := by
  obtain ⟨ρ2, e, a, b, c, rfl⟩ := for_all (tg := .tp [3, 4]) (body := bd) (s := [P]) (J := fun ρ => ∃ a b c, ρ = [some (.v v), some (.v u), some (.v (.lst (pl v ++ ol v u))), a, b, c]) (pairs (intsL 0 25) (pl v ++ ol v u)) [some (.v v), some (.v u), some (.v (.lst (pl v ++ ol v u))), none, none, none] (by
    intro d hd ρ ⟨a, b, c, er⟩
    subst er
    have h : It1 v u P d := by
      have e : pairs (intsL 0 25) (pl v ++ ol v u) = [.tup [.int 0, .exh "BadRoom" ["part"] [v]], .tup [.int 1, .exh "BadDeed" ["part"] [v]], .tup [.int 2, .exh "BadLoose" ["part"] [v]], .tup [.int 3, .exh "BadSaying" ["part"] [v]], .tup [.int 4, .exh "BadBook" ["part"] [v]], .tup [.int 5, .exh "BadPlace" ["part"] [v]], .tup [.int 6, .exh "BadTie" ["part"] [v]], .tup [.int 7, .exh "BadPriced" ["part"] [v]], .tup [.int 8, .exh "BadTalk" ["part"] [v]], .tup [.int 9, .exh "BadTeller" ["part"] [v]], .tup [.int 10, .exh "BadTranslation" ["part"] [v]], .tup [.int 11, .exh "BadNumbers" ["part"] [v]], .tup [.int 12, .exh "NoThing" ["name"] [v]], .tup [.int 13, .exh "NoWord" ["name"] [v]], .tup [.int 14, .exh "NoLink" ["name"] [v]], .tup [.int 15, .exh "NoScale" ["name"] [v]], .tup [.int 16, .exh "NoWay" ["name"] [v]], .tup [.int 17, .exh "NoName" ["name"] [v]], .tup [.int 18, .exh "Twice" ["name"] [v]], .tup [.int 19, .exh "Unlike" ["what"] [v]], .tup [.int 20, .exh "NotLet" ["kind", "way"] [u, v]], .tup [.int 21, .exh "TooMany" ["most", "what"] [u, v]], .tup [.int 22, .exh "BadText" ["word", "line"] [u, v]], .tup [.int 23, .exh "BadLine" ["error", "line"] [u, v]], .tup [.int 24, .exq "Nothing"]] := rfl
      rw [e] at hd
      simp only [List.mem_cons, List.not_mem_nil, or_false] at hd
      rcases hd with rfl | rfl | rfl | rfl | rfl | rfl | rfl | rfl | rfl | rfl | rfl | rfl | rfl | rfl | rfl | rfl | rfl | rfl | rfl | rfl | rfl | rfl | rfl | rfl | rfl
      · exact it_0 hv hu
      · exact it_1 hv hu
      · exact it_2 hv hu
      · exact it_3 hv hu
      · exact it_4 hv hu
      · exact it_5 hv hu
      · exact it_6 hv hu
      · exact it_7 hv hu
      · exact it_8 hv hu
      · exact it_9 hv hu
      · exact it_10 hv hu
      · exact it_11 hv hu
      · exact it_12 hv hu
      · exact it_13 hv hu
      · exact it_14 hv hu
      · exact it_15 hv hu
      · exact it_16 hv hu
      · exact it_17 hv hu
      · exact it_18 hv hu
      · exact it_19 hv hu
      · exact it_20 hv hu
      · exact it_21 hv hu
      · exact it_22 hv hu
      · exact it_23 hv hu
      · exact it_24 hv hu
    obtain ⟨ρ1, a2, b2, c2, h1, h2⟩ := h (some (.v (.lst (pl v ++ ol v u)))) a b c
    exact ⟨ρ1, _, h1, h2, a2, b2, c2, rfl⟩) ⟨_, _, _, rfl⟩
  have e0 : b_l_all_right_0 [some (.v v), some (.v u), some (.v (.lst (pl v ++ ol v u))), none, none, none] [P] = .nx [some (.v v), some (.v u), some (.v (.lst (pl v ++ ol v u))), a, b, c] [P] := e
  show fin (b_l_all_right [some (.v v), some (.v u), some (.v (.lst (pl v ++ ol v u))), none, none, none] [P]) = _
  unfold b_l_all_right
  rw [seq_nx e0]
  rfl
end
end K00

namespace K00
open PySem PySem.Spec L2 Fv
/-! ### the law -/
theorem lc_pure {i : Nat} {e : E} {ρ : En} {s : S} (g : D → D) : ∀ (ds acc : List D), (∀ d ∈ ds, e (ρ.set i (some (.v d))) s = .ok (g d) s) → acc.length + ds.length ≤ 1000000 → lcL allK (.nm i) yesT e ρ ds acc s = .ok (acc ++ ds.map g) s
  | [], acc, _, _ => by simp [lcL, allK]
  | d :: ds, acc, he, hl => by
    have e1 := he d (by simp)
    have hlt : decide (acc.length < sizeLine) = true := decide_eq_true (Nat.lt_of_le_of_lt (by simp at hl; omega : acc.length ≤ 1000000) (by decide))
    have ih := lc_pure g (i := i) (e := e) (ρ := ρ) (s := s) ds (acc ++ [g d]) (fun x hx => he x (List.mem_cons_of_mem _ hx)) (by simp at hl ⊢; omega)
    simp only [lcL, allK, if_true, asg, yesT, R.noerr, R.bind, e1, hlt]
    show lcL allK (.nm i) yesT e ρ ds (acc ++ [g d]) s = _
    rw [ih]
    simp
theorem cut_all {xs : List D} {n : Int} (hn : ¬ n < 0) (h : (xs.length : Int) ≤ n) : cutD xs none (some n) = xs := by
  have h0 : HT.sIx xs.length 0 none = 0 := by simp [HT.sIx]
  have h1 : HT.sIx xs.length xs.length (some n) = xs.length := by simp [HT.sIx, hn]; omega
  simp only [cutD, h0, h1, List.drop_zero, Nat.sub_zero, List.take_length]
theorem jar_ok {zs : List Int} (hl : zs.length ≤ 63) : f_l_jar [.fl (zs.map D.int)] [] = .ok (.ref 0) (Pl zs 0 0 []) := by
  show fin (b_l_jar [some (.v (.fl (zs.map D.int))), none] []) = _
  have lc := lc_pure (i := 1) (e := callE intF (consA (borE 1) nilA)) (ρ := [some (.v (.fl (zs.map D.int))), none]) (s := []) id (zs.map D.int) [] (by
    intro d hd
    obtain ⟨z, _, rfl⟩ := List.mem_map.mp hd
    rfl) (by simp; omega)
  have ct : cutD (zs.map D.int) none (some 63) = zs.map D.int := cut_all (by decide) (by simp; omega)
  have z3 : szl 3 = true := szlS (by decide)
  simp [b_l_jar, retS, liveE, lstE, consA, nilA, lcE, iterE, sliceE, borE, noO, someO, conE, R.bind, R.stm, fin, sliceD, lsOf, ct, iterD, wipeD, z3, D.heavy, Pl]
  simp at lc
  simp [lc, z3, D.heavy]
theorem mul_lt {x v : Int} (hx : x = 1 ∨ x = -1) (h0 : 0 ≤ v) (h1 : v < 10 ^ 60) : (x * v).natAbs < 10 ^ 60 := by
  rcases hx with rfl | rfl <;> omega
noncomputable def bd6 : C :=
  (seqS (ifS (orT (tstE (binE neD (callE reprF (consA (xfE xc_name "name" (borE 6)) nilA)) (callE reprF (consA (borE 4) nilA)))) (tstE (binE inD (conE (.bl true)) (callE f_l_kin (consA (varE 6) nilA))))) (retS (conE (.bl false))) passS)
  (ifS (orT (notT (truE (callE isiK (consA (borE 6) (consA (conE (.gl "SayError")) nilA))))) (notT (truE (callE isiK (consA (borE 6) (consA (conE (.ty "ValueError")) nilA)))))) (retS (conE (.bl false))) passS))
theorem step6 {v P : D} {l j k n u : Option Sl} (hv : Gd v) : bd6 [l, j, k, n, some (.v v), u, some (.v (.exh "Missing" ["name"] [v]))] [P] = .nx [l, j, k, n, some (.v v), u, some (.v (.exh "Missing" ["name"] [v]))] [P] := by
  obtain ⟨t, ht⟩ := rep_v hv
  have k1 : f_l_kin [.exh "Missing" ["name"] [v]] [P] = .ok (.lst (List.replicate 25 (.bl false))) [P] := rfl
  have k2 : inD (.bl true) (.lst (List.replicate 25 (.bl false))) [P] = .ok (.bl false) [P] := rfl
  have k3 : isiK [.exh "Missing" ["name"] [v], .gl "SayError"] [P] = .ok (.bl true) [P] := rfl
  have k4 : isiK [.exh "Missing" ["name"] [v], .ty "ValueError"] [P] = .ok (.bl true) [P] := rfl
  have k5 : xfE xc_name "name" (borE 6) [l, j, k, n, some (.v v), u, some (.v (.exh "Missing" ["name"] [v]))] [P] = .ok v [P] := rfl
  unfold bd6
  simp only [seqS, ifS, orT, tstE, binE, callE, consA, nilA, varE, borE, conE, R.bind, R.stm, RS.next, k1, k2, k3, k4, k5, ht, ne_str, boolE, notT, truE, truth, truthB, passS, D.heavy, List.getElem?_cons_zero, List.getElem?_cons_succ, Bool.not_true, Bool.not_false, Bool.false_eq_true, if_true, if_false]
theorem says (zs : List Int) (hl : zs.length ≤ 63) : Says f_law zs := by
  show ∃ s, fin (b_law [some (.v (.fl (zs.map D.int))), none, none, none, none, none, none] []) = .ok (.bl true) s
  generalize hL : D.fl (zs.map D.int) = L
  have e0 : b_law_0 [some (.v L), none, none, none, none, none, none] [] = .nx [some (.v L), some (.v (.ref 0)), none, none, none, none, none] (Pl zs 0 0 []) := by
    subst hL
    simp only [b_law_0, setS, callE, consA, nilA, varE, R.bind, R.stm, jar_ok hl, List.getElem?_cons_zero, List.set_cons_succ, List.set_cons_zero]
  obtain ⟨i1, x, t1, r1, d1, g1, p1⟩ := some_ok (zs := zs) (s := []) (t := 0) (r := 0) (m := 0) (xs := [.int 1, .int (-1)]) ⟨by decide, by decide, by decide⟩ (by decide) (by decide) (by decide)
  have hx : ∃ y : Int, x = .int y ∧ (y = 1 ∨ y = -1) := by
    match i1, g1 with
    | 0, g1 => simp at g1; exact ⟨1, g1.symm, .inl rfl⟩
    | 1, g1 => simp at g1; exact ⟨-1, g1.symm, .inr rfl⟩
    | _ + 2, g1 => simp at g1
  obtain ⟨y, rfl, hy⟩ := hx
  obtain ⟨v, t2, r2, d2, v0, v1, p2⟩ := dip_ok (zs := zs) (s := []) (n := 10 ^ 60) p1 (by decide) (by decide) (by decide +kernel)
  have hk := mul_lt hy v0 v1
  have mk : mulOk y v = true := mulS (by rcases hy with rfl | rfl <;> decide) (by
    have z : v.natAbs < 10 ^ 60 := by omega
    exact Nat.lt_trans z (by decide))
  have pw : powD (.int 10) (.int 60) (Pl zs t1 r1 []) = .ok (.int (10 ^ 60)) (Pl zs t1 r1 []) := rfl
  generalize hK : y * v = k at hk
  have e1 : b_law_1 [some (.v L), some (.v (.ref 0)), none, none, none, none, none] (Pl zs 0 0 []) = .nx [some (.v L), some (.v (.ref 0)), some (.v (.int k)), none, none, none, none] (Pl zs t2 r2 []) := by
    have lst : lstE (consA (conE (.int 1)) (consA (unE negD (conE (.int 1))) nilA)) [some (.v L), some (.v (.ref 0)), none, none, none, none, none] (Pl zs 0 0 []) = .ok (.lst [.int 1, .int (-1)]) (Pl zs 0 0 []) := rfl
    have f1 : callE f_l_some (consA (varE 1) (consA (lstE (consA (conE (.int 1)) (consA (unE negD (conE (.int 1))) nilA))) nilA)) [some (.v L), some (.v (.ref 0)), none, none, none, none, none] (Pl zs 0 0 []) = .ok (.int y) (Pl zs t1 r1 []) := by
      show callE f_l_some _ _ _ = _
      simp only [callE, consA, varE, R.bind, List.getElem?_cons_zero, List.getElem?_cons_succ]
      rw [lst]
      simp only [R.bind, nilA, d1]
    have f2 : callE f_l_dip (consA (varE 1) (consA (binE powD (conE (.int 10)) (conE (.int 60))) nilA)) [some (.v L), some (.v (.ref 0)), none, none, none, none, none] (Pl zs t1 r1 []) = .ok (.int v) (Pl zs t2 r2 []) := by
      simp only [callE, consA, nilA, varE, binE, conE, R.bind, List.getElem?_cons_zero, List.getElem?_cons_succ, pw, d2]
    simp only [b_law_1, setS, R.stm]
    rw [show binE mulD _ _ [some (.v L), some (.v (.ref 0)), none, none, none, none, none] (Pl zs 0 0 []) = R.ok (.int (y * v)) (Pl zs t2 r2 []) from by
      simp only [binE, f1, f2, R.bind, mulD, mk, if_true]]
    simp only [hK, List.set_cons_succ, List.set_cons_zero]
  generalize hpl : [D.non, .bl true, .int k, .str "part", .str "", .tup [.str "a", .int 1], .lst [.int k], .dct [.str "a"] [.lst [.int 1]]] = plain
  have e2 : b_law_2 [some (.v L), some (.v (.ref 0)), some (.v (.int k)), none, none, none, none] (Pl zs t2 r2 []) = .nx [some (.v L), some (.v (.ref 0)), some (.v (.int k)), some (.v (.lst plain)), none, none, none] (Pl zs t2 r2 []) := by
    subst hpl; rfl
  obtain ⟨i3, one, t3, r3, d3, g3, p3⟩ := some_ok (zs := zs) (s := []) (xs := plain) p2 (by decide) (by subst hpl; simp) (by subst hpl; simp)
  generalize hp2 : [D.int 0, .bl false, .str "room", .lst [], .tup [], .dct [.int 1] [.int 2], .int (k + 1), .non] = plain2
  obtain ⟨i4, two, t4, r4, d4, g4, p4⟩ := some_ok (zs := zs) (s := []) (xs := plain2) p3 (by decide) (by subst hp2; simp) (by subst hp2; simp)
  have hv : Gd one := by
    have h := List.mem_of_getElem? g3
    subst hpl
    simp only [List.mem_cons, List.not_mem_nil, or_false] at h
    rcases h with rfl | rfl | rfl | rfl | rfl | rfl | rfl | rfl
    · exact gd_fix _ (by simp [fix1])
    · exact gd_fix _ (by simp [fix1])
    · exact gd_int k (by omega)
    · exact gd_fix _ (by simp [fix1])
    · exact gd_fix _ (by simp [fix1])
    · exact gd_fix _ (by simp [fix1])
    · exact gd_lint k (by omega)
    · exact gd_fix _ (by simp [fix1])
  have hu : Gd two := by
    have h := List.mem_of_getElem? g4
    subst hp2
    simp only [List.mem_cons, List.not_mem_nil, or_false] at h
    rcases h with rfl | rfl | rfl | rfl | rfl | rfl | rfl | rfl
    · exact gd_fix _ (by simp [fix2])
    · exact gd_fix _ (by simp [fix2])
    · exact gd_fix _ (by simp [fix2])
    · exact gd_fix _ (by simp [fix2])
    · exact gd_fix _ (by simp [fix2])
    · exact gd_fix _ (by simp [fix2])
    · exact gd_int (k + 1) (by omega)
    · exact gd_fix _ (by simp [fix2])
  have e3 : b_law_3 [some (.v L), some (.v (.ref 0)), some (.v (.int k)), some (.v (.lst plain)), none, none, none] (Pl zs t2 r2 []) = .nx [some (.v L), some (.v (.ref 0)), some (.v (.int k)), some (.v (.lst plain)), some (.v one), some (.v two), none] (Pl zs t4 r4 []) := by
    have f1 : callE f_l_some (consA (varE 1) (consA (varE 3) nilA)) [some (.v L), some (.v (.ref 0)), some (.v (.int k)), some (.v (.lst plain)), none, none, none] (Pl zs t2 r2 []) = .ok one (Pl zs t3 r3 []) := by
      simp only [callE, consA, nilA, varE, R.bind, List.getElem?_cons_zero, List.getElem?_cons_succ, d3]
    have ll : ∀ s, (lstE (consA (conE (.int 0)) (consA (conE (.bl false)) (consA (conE (.str "room")) (consA (lstE nilA) (consA (tupE nilA) (consA (dispE [((conE (.int 1)), (conE (.int 2)))]) (consA (binE addD (borE 2) (conE (.int 1))) (consA (conE .non) nilA))))))))) [some (.v L), some (.v (.ref 0)), some (.v (.int k)), some (.v (.lst plain)), none, none, none] s = .ok (.lst plain2) s := fun s => by subst hp2; rfl
    unfold b_law_3 parS
    generalize (lstE (consA (conE (.int 0)) (consA (conE (.bl false)) (consA (conE (.str "room")) (consA (lstE nilA) (consA (tupE nilA) (consA (dispE [((conE (.int 1)), (conE (.int 2)))]) (consA (binE addD (borE 2) (conE (.int 1))) (consA (conE .non) nilA))))))))) = ee at ll ⊢
    have f2 : callE f_l_some (consA (varE 1) (consA ee nilA)) [some (.v L), some (.v (.ref 0)), some (.v (.int k)), some (.v (.lst plain)), none, none, none] (Pl zs t3 r3 []) = .ok two (Pl zs t4 r4 []) := by
      simp only [callE, consA, nilA, varE, R.bind, List.getElem?_cons_zero, List.getElem?_cons_succ, ll, d4]
    generalize callE f_l_some (consA (varE 1) (consA ee nilA)) = e2' at f2 ⊢
    generalize callE f_l_some (consA (varE 1) (consA (varE 3) nilA)) = e1' at f1 ⊢
    simp only [consA, nilA, R.bind, R.stm, f1, f2, List.set_cons_succ, List.set_cons_zero]
  generalize hP : D.lst [.lst (zs.map D.int), .int t4, .int r4] = P
  have eP : Pl zs t4 r4 [] = [P] := by subst hP; rfl
  rw [eP] at e3
  have z25 : szl 25 = true := szlS (by decide)
  have l25 : ((pl one).length + (ol one two).length) = 25 := rfl
  have e4 : b_law_4 [some (.v L), some (.v (.ref 0)), some (.v (.int k)), some (.v (.lst plain)), some (.v one), some (.v two), none] [P] = .nx [some (.v L), some (.v (.ref 0)), some (.v (.int k)), some (.v (.lst plain)), some (.v one), some (.v two), none] [P] := by
    simp only [b_law_4, ifS, notT, truE, callE, consA, nilA, varE, binE, R.bind, R.stm, List.getElem?_cons_zero, List.getElem?_cons_succ, parts_ok hv, others_ok hv hu, add_lst, l25, z25, if_true, all_ok hv hu, truth, truthB, Bool.not_true, Bool.false_eq_true, if_false, passS]
  have e5 : b_law_5 [some (.v L), some (.v (.ref 0)), some (.v (.int k)), some (.v (.lst plain)), some (.v one), some (.v two), none] [P] = .nx [some (.v L), some (.v (.ref 0)), some (.v (.int k)), some (.v (.lst plain)), some (.v one), some (.v two), none] [P] := by
    simp only [b_law_5, ifS, notT, truE, callE, consA, nilA, varE, binE, R.bind, R.stm, List.getElem?_cons_zero, List.getElem?_cons_succ, partsT_ok hv, othersN_ok hv hu, add_lst, l25, z25, if_true, all_ok hv hu, truth, truthB, Bool.not_true, Bool.false_eq_true, if_false, passS]
  obtain ⟨ρ6, f6, c6, hc6⟩ := for_all (tg := .nm 6) (body := bd6) (s := [P]) (J := fun ρ => ∃ c, ρ = [some (.v L), some (.v (.ref 0)), some (.v (.int k)), some (.v (.lst plain)), some (.v one), some (.v two), c]) [.exh "Missing" ["name"] [one], .exh "Missing" ["name"] [one]] [some (.v L), some (.v (.ref 0)), some (.v (.int k)), some (.v (.lst plain)), some (.v one), some (.v two), none] (by
    intro d hd ρ ⟨c, er⟩
    subst er
    have : d = .exh "Missing" ["name"] [one] := by simpa using hd
    subst this
    exact ⟨_, _, rfl, step6 hv, _, rfl⟩) ⟨_, rfl⟩
  have e6 : b_law_6 [some (.v L), some (.v (.ref 0)), some (.v (.int k)), some (.v (.lst plain)), some (.v one), some (.v two), none] [P] = .nx ρ6 [P] := by
    have i6 : (iterE (lstE (consA (callE (excF "Missing" f_Missing) (consA (varE 4) nilA)) (consA (callE (excF "Missing" f_Missing) (turnA false (consA (varE 4) nilA))) nilA)))) [some (.v L), some (.v (.ref 0)), some (.v (.int k)), some (.v (.lst plain)), some (.v one), some (.v two), none] [P] = .ok ⟨[.exh "Missing" ["name"] [one], .exh "Missing" ["name"] [one]], allK⟩ [P] := by
      have z2 : szl 2 = true := szlS (by decide)
      simp only [iterE, lstE, callE, consA, nilA, varE, turnA, R.bind, List.getElem?_cons_zero, List.getElem?_cons_succ, e_Missing hv, List.length_cons, List.length_nil, z2, if_true, if_false, Bool.false_eq_true, iterD]
    show forS (iterE (lstE (consA (callE (excF "Missing" f_Missing) (consA (varE 4) nilA)) (consA (callE (excF "Missing" f_Missing) (turnA false (consA (varE 4) nilA))) nilA)))) (.nm 6) bd6 _ _ = _
    simp only [forS, i6, R.stm, f6]
  refine ⟨[P], ?_⟩
  unfold b_law
  rw [seq_nx e0, seq_nx e1, seq_nx e2, seq_nx e3, seq_nx e4, seq_nx e5, seq_nx e6]
  rfl
end K00

namespace K00
open PySem PySem.Spec PyProof.Rows L2 Fv
def txt_mk {K : PySem.W.Frag} {h : Heap} {mg : Str → Option Value} (X : K.In h) (G : h.Ns mainGlobals mg)
    {od_shown an_shown : Option Addr} {sl_shown : Array (Option Value)} {oc_shown kV_shown dc_shown pm_shown cd_shown ct_shown : Value} {f_shown : Addr} {C_SayError : Addr} {C_BadRoom : Addr} {N_BadRoom : Addr} {nm_BadRoom q_BadRoom : Str} {bs_BadRoom : List Value} {sn_BadRoom : List Str} {sub_BadRoom : List Value} {ab_BadRoom : Bool} {col_BadRoom : Option Bool} {dd_BadRoom : Option Addr} {m0_BadRoom m1_BadRoom m2_BadRoom m3_BadRoom m5_BadRoom : Option Value} {i_BadRoom : Addr} {od_BadRoom an_BadRoom : Option Addr} {sl_BadRoom : Array (Option Value)} {oc_BadRoom kV_BadRoom dc_BadRoom pm_BadRoom cd_BadRoom ct_BadRoom : Value} {C_BadDeed : Addr} {N_BadDeed : Addr} {nm_BadDeed q_BadDeed : Str} {bs_BadDeed : List Value} {sn_BadDeed : List Str} {sub_BadDeed : List Value} {ab_BadDeed : Bool} {col_BadDeed : Option Bool} {dd_BadDeed : Option Addr} {m0_BadDeed m1_BadDeed m2_BadDeed m3_BadDeed m5_BadDeed : Option Value} {i_BadDeed : Addr} {od_BadDeed an_BadDeed : Option Addr} {sl_BadDeed : Array (Option Value)} {oc_BadDeed kV_BadDeed dc_BadDeed pm_BadDeed cd_BadDeed ct_BadDeed : Value} {C_BadLoose : Addr} {N_BadLoose : Addr} {nm_BadLoose q_BadLoose : Str} {bs_BadLoose : List Value} {sn_BadLoose : List Str} {sub_BadLoose : List Value} {ab_BadLoose : Bool} {col_BadLoose : Option Bool} {dd_BadLoose : Option Addr} {m0_BadLoose m1_BadLoose m2_BadLoose m3_BadLoose m5_BadLoose : Option Value} {i_BadLoose : Addr} {od_BadLoose an_BadLoose : Option Addr} {sl_BadLoose : Array (Option Value)} {oc_BadLoose kV_BadLoose dc_BadLoose pm_BadLoose cd_BadLoose ct_BadLoose : Value} {C_BadSaying : Addr} {N_BadSaying : Addr} {nm_BadSaying q_BadSaying : Str} {bs_BadSaying : List Value} {sn_BadSaying : List Str} {sub_BadSaying : List Value} {ab_BadSaying : Bool} {col_BadSaying : Option Bool} {dd_BadSaying : Option Addr} {m0_BadSaying m1_BadSaying m2_BadSaying m3_BadSaying m5_BadSaying : Option Value} {i_BadSaying : Addr} {od_BadSaying an_BadSaying : Option Addr} {sl_BadSaying : Array (Option Value)} {oc_BadSaying kV_BadSaying dc_BadSaying pm_BadSaying cd_BadSaying ct_BadSaying : Value} {C_BadBook : Addr} {N_BadBook : Addr} {nm_BadBook q_BadBook : Str} {bs_BadBook : List Value} {sn_BadBook : List Str} {sub_BadBook : List Value} {ab_BadBook : Bool} {col_BadBook : Option Bool} {dd_BadBook : Option Addr} {m0_BadBook m1_BadBook m2_BadBook m3_BadBook m5_BadBook : Option Value} {i_BadBook : Addr} {od_BadBook an_BadBook : Option Addr} {sl_BadBook : Array (Option Value)} {oc_BadBook kV_BadBook dc_BadBook pm_BadBook cd_BadBook ct_BadBook : Value} {C_BadPlace : Addr} {N_BadPlace : Addr} {nm_BadPlace q_BadPlace : Str} {bs_BadPlace : List Value} {sn_BadPlace : List Str} {sub_BadPlace : List Value} {ab_BadPlace : Bool} {col_BadPlace : Option Bool} {dd_BadPlace : Option Addr} {m0_BadPlace m1_BadPlace m2_BadPlace m3_BadPlace m5_BadPlace : Option Value} {i_BadPlace : Addr} {od_BadPlace an_BadPlace : Option Addr} {sl_BadPlace : Array (Option Value)} {oc_BadPlace kV_BadPlace dc_BadPlace pm_BadPlace cd_BadPlace ct_BadPlace : Value} {C_BadTie : Addr} {N_BadTie : Addr} {nm_BadTie q_BadTie : Str} {bs_BadTie : List Value} {sn_BadTie : List Str} {sub_BadTie : List Value} {ab_BadTie : Bool} {col_BadTie : Option Bool} {dd_BadTie : Option Addr} {m0_BadTie m1_BadTie m2_BadTie m3_BadTie m5_BadTie : Option Value} {i_BadTie : Addr} {od_BadTie an_BadTie : Option Addr} {sl_BadTie : Array (Option Value)} {oc_BadTie kV_BadTie dc_BadTie pm_BadTie cd_BadTie ct_BadTie : Value} {C_BadPriced : Addr} {N_BadPriced : Addr} {nm_BadPriced q_BadPriced : Str} {bs_BadPriced : List Value} {sn_BadPriced : List Str} {sub_BadPriced : List Value} {ab_BadPriced : Bool} {col_BadPriced : Option Bool} {dd_BadPriced : Option Addr} {m0_BadPriced m1_BadPriced m2_BadPriced m3_BadPriced m5_BadPriced : Option Value} {i_BadPriced : Addr} {od_BadPriced an_BadPriced : Option Addr} {sl_BadPriced : Array (Option Value)} {oc_BadPriced kV_BadPriced dc_BadPriced pm_BadPriced cd_BadPriced ct_BadPriced : Value} {C_BadTalk : Addr} {N_BadTalk : Addr} {nm_BadTalk q_BadTalk : Str} {bs_BadTalk : List Value} {sn_BadTalk : List Str} {sub_BadTalk : List Value} {ab_BadTalk : Bool} {col_BadTalk : Option Bool} {dd_BadTalk : Option Addr} {m0_BadTalk m1_BadTalk m2_BadTalk m3_BadTalk m5_BadTalk : Option Value} {i_BadTalk : Addr} {od_BadTalk an_BadTalk : Option Addr} {sl_BadTalk : Array (Option Value)} {oc_BadTalk kV_BadTalk dc_BadTalk pm_BadTalk cd_BadTalk ct_BadTalk : Value} {C_BadTeller : Addr} {N_BadTeller : Addr} {nm_BadTeller q_BadTeller : Str} {bs_BadTeller : List Value} {sn_BadTeller : List Str} {sub_BadTeller : List Value} {ab_BadTeller : Bool} {col_BadTeller : Option Bool} {dd_BadTeller : Option Addr} {m0_BadTeller m1_BadTeller m2_BadTeller m3_BadTeller m5_BadTeller : Option Value} {i_BadTeller : Addr} {od_BadTeller an_BadTeller : Option Addr} {sl_BadTeller : Array (Option Value)} {oc_BadTeller kV_BadTeller dc_BadTeller pm_BadTeller cd_BadTeller ct_BadTeller : Value} {C_BadTranslation : Addr} {N_BadTranslation : Addr} {nm_BadTranslation q_BadTranslation : Str} {bs_BadTranslation : List Value} {sn_BadTranslation : List Str} {sub_BadTranslation : List Value} {ab_BadTranslation : Bool} {col_BadTranslation : Option Bool} {dd_BadTranslation : Option Addr} {m0_BadTranslation m1_BadTranslation m2_BadTranslation m3_BadTranslation m5_BadTranslation : Option Value} {i_BadTranslation : Addr} {od_BadTranslation an_BadTranslation : Option Addr} {sl_BadTranslation : Array (Option Value)} {oc_BadTranslation kV_BadTranslation dc_BadTranslation pm_BadTranslation cd_BadTranslation ct_BadTranslation : Value} {C_BadNumbers : Addr} {N_BadNumbers : Addr} {nm_BadNumbers q_BadNumbers : Str} {bs_BadNumbers : List Value} {sn_BadNumbers : List Str} {sub_BadNumbers : List Value} {ab_BadNumbers : Bool} {col_BadNumbers : Option Bool} {dd_BadNumbers : Option Addr} {m0_BadNumbers m1_BadNumbers m2_BadNumbers m3_BadNumbers m5_BadNumbers : Option Value} {i_BadNumbers : Addr} {od_BadNumbers an_BadNumbers : Option Addr} {sl_BadNumbers : Array (Option Value)} {oc_BadNumbers kV_BadNumbers dc_BadNumbers pm_BadNumbers cd_BadNumbers ct_BadNumbers : Value} {C_Missing : Addr} {N_Missing : Addr} {nm_Missing q_Missing : Str} {bs_Missing : List Value} {sn_Missing : List Str} {sub_Missing : List Value} {ab_Missing : Bool} {col_Missing : Option Bool} {dd_Missing : Option Addr} {m0_Missing m1_Missing m2_Missing m3_Missing m5_Missing : Option Value} {i_Missing : Addr} {od_Missing an_Missing : Option Addr} {sl_Missing : Array (Option Value)} {oc_Missing kV_Missing dc_Missing pm_Missing cd_Missing ct_Missing : Value} {C_NoThing : Addr} {N_NoThing : Addr} {nm_NoThing q_NoThing : Str} {bs_NoThing : List Value} {sn_NoThing : List Str} {sub_NoThing : List Value} {ab_NoThing : Bool} {col_NoThing : Option Bool} {dd_NoThing : Option Addr} {m0_NoThing m1_NoThing m2_NoThing m3_NoThing m5_NoThing : Option Value} {C_NoWord : Addr} {N_NoWord : Addr} {nm_NoWord q_NoWord : Str} {bs_NoWord : List Value} {sn_NoWord : List Str} {sub_NoWord : List Value} {ab_NoWord : Bool} {col_NoWord : Option Bool} {dd_NoWord : Option Addr} {m0_NoWord m1_NoWord m2_NoWord m3_NoWord m5_NoWord : Option Value} {C_NoLink : Addr} {N_NoLink : Addr} {nm_NoLink q_NoLink : Str} {bs_NoLink : List Value} {sn_NoLink : List Str} {sub_NoLink : List Value} {ab_NoLink : Bool} {col_NoLink : Option Bool} {dd_NoLink : Option Addr} {m0_NoLink m1_NoLink m2_NoLink m3_NoLink m5_NoLink : Option Value} {C_NoScale : Addr} {N_NoScale : Addr} {nm_NoScale q_NoScale : Str} {bs_NoScale : List Value} {sn_NoScale : List Str} {sub_NoScale : List Value} {ab_NoScale : Bool} {col_NoScale : Option Bool} {dd_NoScale : Option Addr} {m0_NoScale m1_NoScale m2_NoScale m3_NoScale m5_NoScale : Option Value} {C_NoWay : Addr} {N_NoWay : Addr} {nm_NoWay q_NoWay : Str} {bs_NoWay : List Value} {sn_NoWay : List Str} {sub_NoWay : List Value} {ab_NoWay : Bool} {col_NoWay : Option Bool} {dd_NoWay : Option Addr} {m0_NoWay m1_NoWay m2_NoWay m3_NoWay m5_NoWay : Option Value} {C_NoName : Addr} {N_NoName : Addr} {nm_NoName q_NoName : Str} {bs_NoName : List Value} {sn_NoName : List Str} {sub_NoName : List Value} {ab_NoName : Bool} {col_NoName : Option Bool} {dd_NoName : Option Addr} {m0_NoName m1_NoName m2_NoName m3_NoName m5_NoName : Option Value} {C_NotLet : Addr} {N_NotLet : Addr} {nm_NotLet q_NotLet : Str} {bs_NotLet : List Value} {sn_NotLet : List Str} {sub_NotLet : List Value} {ab_NotLet : Bool} {col_NotLet : Option Bool} {dd_NotLet : Option Addr} {m0_NotLet m1_NotLet m2_NotLet m3_NotLet m5_NotLet : Option Value} {i_NotLet : Addr} {od_NotLet an_NotLet : Option Addr} {sl_NotLet : Array (Option Value)} {oc_NotLet kV_NotLet dc_NotLet pm_NotLet cd_NotLet ct_NotLet : Value} {C_Twice : Addr} {N_Twice : Addr} {nm_Twice q_Twice : Str} {bs_Twice : List Value} {sn_Twice : List Str} {sub_Twice : List Value} {ab_Twice : Bool} {col_Twice : Option Bool} {dd_Twice : Option Addr} {m0_Twice m1_Twice m2_Twice m3_Twice m5_Twice : Option Value} {i_Twice : Addr} {od_Twice an_Twice : Option Addr} {sl_Twice : Array (Option Value)} {oc_Twice kV_Twice dc_Twice pm_Twice cd_Twice ct_Twice : Value} {C_Unlike : Addr} {N_Unlike : Addr} {nm_Unlike q_Unlike : Str} {bs_Unlike : List Value} {sn_Unlike : List Str} {sub_Unlike : List Value} {ab_Unlike : Bool} {col_Unlike : Option Bool} {dd_Unlike : Option Addr} {m0_Unlike m1_Unlike m2_Unlike m3_Unlike m5_Unlike : Option Value} {i_Unlike : Addr} {od_Unlike an_Unlike : Option Addr} {sl_Unlike : Array (Option Value)} {oc_Unlike kV_Unlike dc_Unlike pm_Unlike cd_Unlike ct_Unlike : Value} {C_Nothing : Addr} {C_TooMany : Addr} {N_TooMany : Addr} {nm_TooMany q_TooMany : Str} {bs_TooMany : List Value} {sn_TooMany : List Str} {sub_TooMany : List Value} {ab_TooMany : Bool} {col_TooMany : Option Bool} {dd_TooMany : Option Addr} {m0_TooMany m1_TooMany m2_TooMany m3_TooMany m5_TooMany : Option Value} {i_TooMany : Addr} {od_TooMany an_TooMany : Option Addr} {sl_TooMany : Array (Option Value)} {oc_TooMany kV_TooMany dc_TooMany pm_TooMany cd_TooMany ct_TooMany : Value} {C_BadText : Addr} {N_BadText : Addr} {nm_BadText q_BadText : Str} {bs_BadText : List Value} {sn_BadText : List Str} {sub_BadText : List Value} {ab_BadText : Bool} {col_BadText : Option Bool} {dd_BadText : Option Addr} {m0_BadText m1_BadText m2_BadText m3_BadText m5_BadText : Option Value} {i_BadText : Addr} {od_BadText an_BadText : Option Addr} {sl_BadText : Array (Option Value)} {oc_BadText kV_BadText dc_BadText pm_BadText cd_BadText ct_BadText : Value} {C_BadLine : Addr} {N_BadLine : Addr} {nm_BadLine q_BadLine : Str} {bs_BadLine : List Value} {sn_BadLine : List Str} {sub_BadLine : List Value} {ab_BadLine : Bool} {col_BadLine : Option Bool} {dd_BadLine : Option Addr} {m0_BadLine m1_BadLine m2_BadLine m3_BadLine m5_BadLine : Option Value} {i_BadLine : Addr} {od_BadLine an_BadLine : Option Addr} {sl_BadLine : Array (Option Value)} {oc_BadLine kV_BadLine dc_BadLine pm_BadLine cd_BadLine ct_BadLine : Value} {od_l_jar an_l_jar : Option Addr} {sl_l_jar : Array (Option Value)} {oc_l_jar kV_l_jar dc_l_jar pm_l_jar cd_l_jar ct_l_jar : Value} {f_l_jar : Addr} {od_l_dip an_l_dip : Option Addr} {sl_l_dip : Array (Option Value)} {oc_l_dip kV_l_dip dc_l_dip pm_l_dip cd_l_dip ct_l_dip : Value} {f_l_dip : Addr} {od_l_some an_l_some : Option Addr} {sl_l_some : Array (Option Value)} {oc_l_some kV_l_some dc_l_some pm_l_some cd_l_some ct_l_some : Value} {f_l_some : Addr} {od_l_parts an_l_parts : Option Addr} {sl_l_parts : Array (Option Value)} {oc_l_parts kV_l_parts dc_l_parts pm_l_parts cd_l_parts ct_l_parts : Value} {f_l_parts : Addr} {od_l_parts_turned an_l_parts_turned : Option Addr} {sl_l_parts_turned : Array (Option Value)} {oc_l_parts_turned kV_l_parts_turned dc_l_parts_turned pm_l_parts_turned cd_l_parts_turned ct_l_parts_turned : Value} {f_l_parts_turned : Addr} {od_l_others an_l_others : Option Addr} {sl_l_others : Array (Option Value)} {oc_l_others kV_l_others dc_l_others pm_l_others cd_l_others ct_l_others : Value} {f_l_others : Addr} {od_l_others_named an_l_others_named : Option Addr} {sl_l_others_named : Array (Option Value)} {oc_l_others_named kV_l_others_named dc_l_others_named pm_l_others_named cd_l_others_named ct_l_others_named : Value} {f_l_others_named : Addr} {od_l_fields an_l_fields : Option Addr} {sl_l_fields : Array (Option Value)} {oc_l_fields kV_l_fields dc_l_fields pm_l_fields cd_l_fields ct_l_fields : Value} {f_l_fields : Addr} {od_l_kin an_l_kin : Option Addr} {sl_l_kin : Array (Option Value)} {oc_l_kin kV_l_kin dc_l_kin pm_l_kin cd_l_kin ct_l_kin : Value} {f_l_kin : Addr} {od_l_stands_right an_l_stands_right : Option Addr} {sl_l_stands_right : Array (Option Value)} {oc_l_stands_right kV_l_stands_right dc_l_stands_right pm_l_stands_right cd_l_stands_right ct_l_stands_right : Value} {f_l_stands_right : Addr} {od_l_all_right an_l_all_right : Option Addr} {sl_l_all_right : Array (Option Value)} {oc_l_all_right kV_l_all_right dc_l_all_right pm_l_all_right cd_l_all_right ct_l_all_right : Value} {f_l_all_right : Addr} {od_law an_law : Option Addr} {sl_law : Array (Option Value)} {oc_law kV_law dc_law pm_law cd_law ct_law : Value} {f_law : Addr}
    (a_shown : PySem.W.nsIn K mainGlobals "_shown" = some (some (.ref f_shown)))
    (l_shown : K.lookup f_shown = some ⟨oc_shown, od_shown, .func (PySem.W.fnOf "_shown" "_shown" (defArgs (top 1)) (defBody (top 1)) (defScope (top 1)) .none kV_shown dc_shown pm_shown an_shown cd_shown ct_shown), sl_shown⟩)
    (c_shown : PySem.W.codeIn K cd_shown "_shown" = true)
    (k_shown : PySem.W.keepIn K (.ref f_shown) = true)
    (a_SayError : PySem.W.nsIn K mainGlobals "SayError" = some (some (.ref C_SayError)))
    (sp_SayError : PySem.W.specialIn K (.ref C_SayError) "__getattribute__" = some (some (.builtin "type.__getattribute__")))
    (rd_SayError : PySem.W.readsIn K C_SayError (.type "type") = true)
    (v_SayError : PySem.W.findCls K (.ref C_SayError) (.type "type") "__init__" = some (.val (.builtin "ValueError.__init__")))
    (a_BadRoom : PySem.W.nsIn K mainGlobals "BadRoom" = some (some (.ref C_BadRoom)))
    (ga_BadRoom : PySem.W.findIn K (.ref C_BadRoom) "__getattribute__" = some (some (.builtin "BaseException.__getattribute__")))
    (gg_BadRoom : PySem.W.findIn K (.ref C_BadRoom) "__getattr__" = some none)
    (e_BadRoom : PySem.W.subIn K (.ref C_BadRoom) (.type "BaseException") = some true)
    (h_BadRoom : PySem.W.hasDictIn K C_BadRoom = true)
    (cl_BadRoom : PySem.W.findIn K (.ref C_BadRoom) "__class__" = some (some (.builtin "object.__class__")))
    (m_BadRoom : PySem.W.mroIn K C_BadRoom (.type "object") = some true)
    (kc_BadRoom : PySem.W.keepIn K (.ref C_BadRoom) = true)
    (x_BadRoom : K.lookup C_BadRoom = some (excClassObj nm_BadRoom q_BadRoom C_BadRoom N_BadRoom bs_BadRoom [.ref C_SayError, .type "ValueError", .type "Exception", .type "BaseException", .type "object"] true sn_BadRoom sub_BadRoom ab_BadRoom col_BadRoom dd_BadRoom m0_BadRoom m1_BadRoom m2_BadRoom m3_BadRoom m5_BadRoom "ValueError.__new__"))
    (sa_BadRoom : PySem.W.findIn K (.ref C_BadRoom) "__setattr__" = some (some (.builtin "object.__setattr__")))
    (t_BadRoom : PySem.W.typeIn K (.ref C_BadRoom) = some (.type "type"))
    (n_BadRoom_part : PySem.W.findIn K (.ref C_BadRoom) "part" = some none)
    (i1_BadRoom : PySem.W.findIn K (.ref C_BadRoom) "__init__" = some (some (.ref i_BadRoom)))
    (i2_BadRoom : PySem.W.typeIn K (.ref i_BadRoom) = some (.type "function"))
    (l_BadRoom : K.lookup i_BadRoom = some ⟨oc_BadRoom, od_BadRoom, .func (PySem.W.fnOf "__init__" "BadRoom.__init__" (defArgs ((clsBody (top 3)).getD 0 (.Pass ⟨0, 0, 0, 0⟩))) (defBody ((clsBody (top 3)).getD 0 (.Pass ⟨0, 0, 0, 0⟩))) (defScope ((clsBody (top 3)).getD 0 (.Pass ⟨0, 0, 0, 0⟩))) .none kV_BadRoom dc_BadRoom pm_BadRoom an_BadRoom cd_BadRoom ct_BadRoom), sl_BadRoom⟩)
    (c_BadRoom : PySem.W.codeIn K cd_BadRoom "BadRoom.__init__" = true)
    (ki_BadRoom : PySem.W.keepIn K (.ref i_BadRoom) = true)
    (a_BadDeed : PySem.W.nsIn K mainGlobals "BadDeed" = some (some (.ref C_BadDeed)))
    (ga_BadDeed : PySem.W.findIn K (.ref C_BadDeed) "__getattribute__" = some (some (.builtin "BaseException.__getattribute__")))
    (gg_BadDeed : PySem.W.findIn K (.ref C_BadDeed) "__getattr__" = some none)
    (e_BadDeed : PySem.W.subIn K (.ref C_BadDeed) (.type "BaseException") = some true)
    (h_BadDeed : PySem.W.hasDictIn K C_BadDeed = true)
    (cl_BadDeed : PySem.W.findIn K (.ref C_BadDeed) "__class__" = some (some (.builtin "object.__class__")))
    (m_BadDeed : PySem.W.mroIn K C_BadDeed (.type "object") = some true)
    (kc_BadDeed : PySem.W.keepIn K (.ref C_BadDeed) = true)
    (x_BadDeed : K.lookup C_BadDeed = some (excClassObj nm_BadDeed q_BadDeed C_BadDeed N_BadDeed bs_BadDeed [.ref C_SayError, .type "ValueError", .type "Exception", .type "BaseException", .type "object"] true sn_BadDeed sub_BadDeed ab_BadDeed col_BadDeed dd_BadDeed m0_BadDeed m1_BadDeed m2_BadDeed m3_BadDeed m5_BadDeed "ValueError.__new__"))
    (sa_BadDeed : PySem.W.findIn K (.ref C_BadDeed) "__setattr__" = some (some (.builtin "object.__setattr__")))
    (t_BadDeed : PySem.W.typeIn K (.ref C_BadDeed) = some (.type "type"))
    (n_BadDeed_part : PySem.W.findIn K (.ref C_BadDeed) "part" = some none)
    (i1_BadDeed : PySem.W.findIn K (.ref C_BadDeed) "__init__" = some (some (.ref i_BadDeed)))
    (i2_BadDeed : PySem.W.typeIn K (.ref i_BadDeed) = some (.type "function"))
    (l_BadDeed : K.lookup i_BadDeed = some ⟨oc_BadDeed, od_BadDeed, .func (PySem.W.fnOf "__init__" "BadDeed.__init__" (defArgs ((clsBody (top 4)).getD 0 (.Pass ⟨0, 0, 0, 0⟩))) (defBody ((clsBody (top 4)).getD 0 (.Pass ⟨0, 0, 0, 0⟩))) (defScope ((clsBody (top 4)).getD 0 (.Pass ⟨0, 0, 0, 0⟩))) .none kV_BadDeed dc_BadDeed pm_BadDeed an_BadDeed cd_BadDeed ct_BadDeed), sl_BadDeed⟩)
    (c_BadDeed : PySem.W.codeIn K cd_BadDeed "BadDeed.__init__" = true)
    (ki_BadDeed : PySem.W.keepIn K (.ref i_BadDeed) = true)
    (a_BadLoose : PySem.W.nsIn K mainGlobals "BadLoose" = some (some (.ref C_BadLoose)))
    (ga_BadLoose : PySem.W.findIn K (.ref C_BadLoose) "__getattribute__" = some (some (.builtin "BaseException.__getattribute__")))
    (gg_BadLoose : PySem.W.findIn K (.ref C_BadLoose) "__getattr__" = some none)
    (e_BadLoose : PySem.W.subIn K (.ref C_BadLoose) (.type "BaseException") = some true)
    (h_BadLoose : PySem.W.hasDictIn K C_BadLoose = true)
    (cl_BadLoose : PySem.W.findIn K (.ref C_BadLoose) "__class__" = some (some (.builtin "object.__class__")))
    (m_BadLoose : PySem.W.mroIn K C_BadLoose (.type "object") = some true)
    (kc_BadLoose : PySem.W.keepIn K (.ref C_BadLoose) = true)
    (x_BadLoose : K.lookup C_BadLoose = some (excClassObj nm_BadLoose q_BadLoose C_BadLoose N_BadLoose bs_BadLoose [.ref C_SayError, .type "ValueError", .type "Exception", .type "BaseException", .type "object"] true sn_BadLoose sub_BadLoose ab_BadLoose col_BadLoose dd_BadLoose m0_BadLoose m1_BadLoose m2_BadLoose m3_BadLoose m5_BadLoose "ValueError.__new__"))
    (sa_BadLoose : PySem.W.findIn K (.ref C_BadLoose) "__setattr__" = some (some (.builtin "object.__setattr__")))
    (t_BadLoose : PySem.W.typeIn K (.ref C_BadLoose) = some (.type "type"))
    (n_BadLoose_part : PySem.W.findIn K (.ref C_BadLoose) "part" = some none)
    (i1_BadLoose : PySem.W.findIn K (.ref C_BadLoose) "__init__" = some (some (.ref i_BadLoose)))
    (i2_BadLoose : PySem.W.typeIn K (.ref i_BadLoose) = some (.type "function"))
    (l_BadLoose : K.lookup i_BadLoose = some ⟨oc_BadLoose, od_BadLoose, .func (PySem.W.fnOf "__init__" "BadLoose.__init__" (defArgs ((clsBody (top 5)).getD 0 (.Pass ⟨0, 0, 0, 0⟩))) (defBody ((clsBody (top 5)).getD 0 (.Pass ⟨0, 0, 0, 0⟩))) (defScope ((clsBody (top 5)).getD 0 (.Pass ⟨0, 0, 0, 0⟩))) .none kV_BadLoose dc_BadLoose pm_BadLoose an_BadLoose cd_BadLoose ct_BadLoose), sl_BadLoose⟩)
    (c_BadLoose : PySem.W.codeIn K cd_BadLoose "BadLoose.__init__" = true)
    (ki_BadLoose : PySem.W.keepIn K (.ref i_BadLoose) = true)
    (a_BadSaying : PySem.W.nsIn K mainGlobals "BadSaying" = some (some (.ref C_BadSaying)))
    (ga_BadSaying : PySem.W.findIn K (.ref C_BadSaying) "__getattribute__" = some (some (.builtin "BaseException.__getattribute__")))
    (gg_BadSaying : PySem.W.findIn K (.ref C_BadSaying) "__getattr__" = some none)
    (e_BadSaying : PySem.W.subIn K (.ref C_BadSaying) (.type "BaseException") = some true)
    (h_BadSaying : PySem.W.hasDictIn K C_BadSaying = true)
    (cl_BadSaying : PySem.W.findIn K (.ref C_BadSaying) "__class__" = some (some (.builtin "object.__class__")))
    (m_BadSaying : PySem.W.mroIn K C_BadSaying (.type "object") = some true)
    (kc_BadSaying : PySem.W.keepIn K (.ref C_BadSaying) = true)
    (x_BadSaying : K.lookup C_BadSaying = some (excClassObj nm_BadSaying q_BadSaying C_BadSaying N_BadSaying bs_BadSaying [.ref C_SayError, .type "ValueError", .type "Exception", .type "BaseException", .type "object"] true sn_BadSaying sub_BadSaying ab_BadSaying col_BadSaying dd_BadSaying m0_BadSaying m1_BadSaying m2_BadSaying m3_BadSaying m5_BadSaying "ValueError.__new__"))
    (sa_BadSaying : PySem.W.findIn K (.ref C_BadSaying) "__setattr__" = some (some (.builtin "object.__setattr__")))
    (t_BadSaying : PySem.W.typeIn K (.ref C_BadSaying) = some (.type "type"))
    (n_BadSaying_part : PySem.W.findIn K (.ref C_BadSaying) "part" = some none)
    (i1_BadSaying : PySem.W.findIn K (.ref C_BadSaying) "__init__" = some (some (.ref i_BadSaying)))
    (i2_BadSaying : PySem.W.typeIn K (.ref i_BadSaying) = some (.type "function"))
    (l_BadSaying : K.lookup i_BadSaying = some ⟨oc_BadSaying, od_BadSaying, .func (PySem.W.fnOf "__init__" "BadSaying.__init__" (defArgs ((clsBody (top 6)).getD 0 (.Pass ⟨0, 0, 0, 0⟩))) (defBody ((clsBody (top 6)).getD 0 (.Pass ⟨0, 0, 0, 0⟩))) (defScope ((clsBody (top 6)).getD 0 (.Pass ⟨0, 0, 0, 0⟩))) .none kV_BadSaying dc_BadSaying pm_BadSaying an_BadSaying cd_BadSaying ct_BadSaying), sl_BadSaying⟩)
    (c_BadSaying : PySem.W.codeIn K cd_BadSaying "BadSaying.__init__" = true)
    (ki_BadSaying : PySem.W.keepIn K (.ref i_BadSaying) = true)
    (a_BadBook : PySem.W.nsIn K mainGlobals "BadBook" = some (some (.ref C_BadBook)))
    (ga_BadBook : PySem.W.findIn K (.ref C_BadBook) "__getattribute__" = some (some (.builtin "BaseException.__getattribute__")))
    (gg_BadBook : PySem.W.findIn K (.ref C_BadBook) "__getattr__" = some none)
    (e_BadBook : PySem.W.subIn K (.ref C_BadBook) (.type "BaseException") = some true)
    (h_BadBook : PySem.W.hasDictIn K C_BadBook = true)
    (cl_BadBook : PySem.W.findIn K (.ref C_BadBook) "__class__" = some (some (.builtin "object.__class__")))
    (m_BadBook : PySem.W.mroIn K C_BadBook (.type "object") = some true)
    (kc_BadBook : PySem.W.keepIn K (.ref C_BadBook) = true)
    (x_BadBook : K.lookup C_BadBook = some (excClassObj nm_BadBook q_BadBook C_BadBook N_BadBook bs_BadBook [.ref C_SayError, .type "ValueError", .type "Exception", .type "BaseException", .type "object"] true sn_BadBook sub_BadBook ab_BadBook col_BadBook dd_BadBook m0_BadBook m1_BadBook m2_BadBook m3_BadBook m5_BadBook "ValueError.__new__"))
    (sa_BadBook : PySem.W.findIn K (.ref C_BadBook) "__setattr__" = some (some (.builtin "object.__setattr__")))
    (t_BadBook : PySem.W.typeIn K (.ref C_BadBook) = some (.type "type"))
    (n_BadBook_part : PySem.W.findIn K (.ref C_BadBook) "part" = some none)
    (i1_BadBook : PySem.W.findIn K (.ref C_BadBook) "__init__" = some (some (.ref i_BadBook)))
    (i2_BadBook : PySem.W.typeIn K (.ref i_BadBook) = some (.type "function"))
    (l_BadBook : K.lookup i_BadBook = some ⟨oc_BadBook, od_BadBook, .func (PySem.W.fnOf "__init__" "BadBook.__init__" (defArgs ((clsBody (top 7)).getD 0 (.Pass ⟨0, 0, 0, 0⟩))) (defBody ((clsBody (top 7)).getD 0 (.Pass ⟨0, 0, 0, 0⟩))) (defScope ((clsBody (top 7)).getD 0 (.Pass ⟨0, 0, 0, 0⟩))) .none kV_BadBook dc_BadBook pm_BadBook an_BadBook cd_BadBook ct_BadBook), sl_BadBook⟩)
    (c_BadBook : PySem.W.codeIn K cd_BadBook "BadBook.__init__" = true)
    (ki_BadBook : PySem.W.keepIn K (.ref i_BadBook) = true)
    (a_BadPlace : PySem.W.nsIn K mainGlobals "BadPlace" = some (some (.ref C_BadPlace)))
    (ga_BadPlace : PySem.W.findIn K (.ref C_BadPlace) "__getattribute__" = some (some (.builtin "BaseException.__getattribute__")))
    (gg_BadPlace : PySem.W.findIn K (.ref C_BadPlace) "__getattr__" = some none)
    (e_BadPlace : PySem.W.subIn K (.ref C_BadPlace) (.type "BaseException") = some true)
    (h_BadPlace : PySem.W.hasDictIn K C_BadPlace = true)
    (cl_BadPlace : PySem.W.findIn K (.ref C_BadPlace) "__class__" = some (some (.builtin "object.__class__")))
    (m_BadPlace : PySem.W.mroIn K C_BadPlace (.type "object") = some true)
    (kc_BadPlace : PySem.W.keepIn K (.ref C_BadPlace) = true)
    (x_BadPlace : K.lookup C_BadPlace = some (excClassObj nm_BadPlace q_BadPlace C_BadPlace N_BadPlace bs_BadPlace [.ref C_SayError, .type "ValueError", .type "Exception", .type "BaseException", .type "object"] true sn_BadPlace sub_BadPlace ab_BadPlace col_BadPlace dd_BadPlace m0_BadPlace m1_BadPlace m2_BadPlace m3_BadPlace m5_BadPlace "ValueError.__new__"))
    (sa_BadPlace : PySem.W.findIn K (.ref C_BadPlace) "__setattr__" = some (some (.builtin "object.__setattr__")))
    (t_BadPlace : PySem.W.typeIn K (.ref C_BadPlace) = some (.type "type"))
    (n_BadPlace_part : PySem.W.findIn K (.ref C_BadPlace) "part" = some none)
    (i1_BadPlace : PySem.W.findIn K (.ref C_BadPlace) "__init__" = some (some (.ref i_BadPlace)))
    (i2_BadPlace : PySem.W.typeIn K (.ref i_BadPlace) = some (.type "function"))
    (l_BadPlace : K.lookup i_BadPlace = some ⟨oc_BadPlace, od_BadPlace, .func (PySem.W.fnOf "__init__" "BadPlace.__init__" (defArgs ((clsBody (top 8)).getD 0 (.Pass ⟨0, 0, 0, 0⟩))) (defBody ((clsBody (top 8)).getD 0 (.Pass ⟨0, 0, 0, 0⟩))) (defScope ((clsBody (top 8)).getD 0 (.Pass ⟨0, 0, 0, 0⟩))) .none kV_BadPlace dc_BadPlace pm_BadPlace an_BadPlace cd_BadPlace ct_BadPlace), sl_BadPlace⟩)
    (c_BadPlace : PySem.W.codeIn K cd_BadPlace "BadPlace.__init__" = true)
    (ki_BadPlace : PySem.W.keepIn K (.ref i_BadPlace) = true)
    (a_BadTie : PySem.W.nsIn K mainGlobals "BadTie" = some (some (.ref C_BadTie)))
    (ga_BadTie : PySem.W.findIn K (.ref C_BadTie) "__getattribute__" = some (some (.builtin "BaseException.__getattribute__")))
    (gg_BadTie : PySem.W.findIn K (.ref C_BadTie) "__getattr__" = some none)
    (e_BadTie : PySem.W.subIn K (.ref C_BadTie) (.type "BaseException") = some true)
    (h_BadTie : PySem.W.hasDictIn K C_BadTie = true)
    (cl_BadTie : PySem.W.findIn K (.ref C_BadTie) "__class__" = some (some (.builtin "object.__class__")))
    (m_BadTie : PySem.W.mroIn K C_BadTie (.type "object") = some true)
    (kc_BadTie : PySem.W.keepIn K (.ref C_BadTie) = true)
    (x_BadTie : K.lookup C_BadTie = some (excClassObj nm_BadTie q_BadTie C_BadTie N_BadTie bs_BadTie [.ref C_SayError, .type "ValueError", .type "Exception", .type "BaseException", .type "object"] true sn_BadTie sub_BadTie ab_BadTie col_BadTie dd_BadTie m0_BadTie m1_BadTie m2_BadTie m3_BadTie m5_BadTie "ValueError.__new__"))
    (sa_BadTie : PySem.W.findIn K (.ref C_BadTie) "__setattr__" = some (some (.builtin "object.__setattr__")))
    (t_BadTie : PySem.W.typeIn K (.ref C_BadTie) = some (.type "type"))
    (n_BadTie_part : PySem.W.findIn K (.ref C_BadTie) "part" = some none)
    (i1_BadTie : PySem.W.findIn K (.ref C_BadTie) "__init__" = some (some (.ref i_BadTie)))
    (i2_BadTie : PySem.W.typeIn K (.ref i_BadTie) = some (.type "function"))
    (l_BadTie : K.lookup i_BadTie = some ⟨oc_BadTie, od_BadTie, .func (PySem.W.fnOf "__init__" "BadTie.__init__" (defArgs ((clsBody (top 9)).getD 0 (.Pass ⟨0, 0, 0, 0⟩))) (defBody ((clsBody (top 9)).getD 0 (.Pass ⟨0, 0, 0, 0⟩))) (defScope ((clsBody (top 9)).getD 0 (.Pass ⟨0, 0, 0, 0⟩))) .none kV_BadTie dc_BadTie pm_BadTie an_BadTie cd_BadTie ct_BadTie), sl_BadTie⟩)
    (c_BadTie : PySem.W.codeIn K cd_BadTie "BadTie.__init__" = true)
    (ki_BadTie : PySem.W.keepIn K (.ref i_BadTie) = true)
    (a_BadPriced : PySem.W.nsIn K mainGlobals "BadPriced" = some (some (.ref C_BadPriced)))
    (ga_BadPriced : PySem.W.findIn K (.ref C_BadPriced) "__getattribute__" = some (some (.builtin "BaseException.__getattribute__")))
    (gg_BadPriced : PySem.W.findIn K (.ref C_BadPriced) "__getattr__" = some none)
    (e_BadPriced : PySem.W.subIn K (.ref C_BadPriced) (.type "BaseException") = some true)
    (h_BadPriced : PySem.W.hasDictIn K C_BadPriced = true)
    (cl_BadPriced : PySem.W.findIn K (.ref C_BadPriced) "__class__" = some (some (.builtin "object.__class__")))
    (m_BadPriced : PySem.W.mroIn K C_BadPriced (.type "object") = some true)
    (kc_BadPriced : PySem.W.keepIn K (.ref C_BadPriced) = true)
    (x_BadPriced : K.lookup C_BadPriced = some (excClassObj nm_BadPriced q_BadPriced C_BadPriced N_BadPriced bs_BadPriced [.ref C_SayError, .type "ValueError", .type "Exception", .type "BaseException", .type "object"] true sn_BadPriced sub_BadPriced ab_BadPriced col_BadPriced dd_BadPriced m0_BadPriced m1_BadPriced m2_BadPriced m3_BadPriced m5_BadPriced "ValueError.__new__"))
    (sa_BadPriced : PySem.W.findIn K (.ref C_BadPriced) "__setattr__" = some (some (.builtin "object.__setattr__")))
    (t_BadPriced : PySem.W.typeIn K (.ref C_BadPriced) = some (.type "type"))
    (n_BadPriced_part : PySem.W.findIn K (.ref C_BadPriced) "part" = some none)
    (i1_BadPriced : PySem.W.findIn K (.ref C_BadPriced) "__init__" = some (some (.ref i_BadPriced)))
    (i2_BadPriced : PySem.W.typeIn K (.ref i_BadPriced) = some (.type "function"))
    (l_BadPriced : K.lookup i_BadPriced = some ⟨oc_BadPriced, od_BadPriced, .func (PySem.W.fnOf "__init__" "BadPriced.__init__" (defArgs ((clsBody (top 10)).getD 0 (.Pass ⟨0, 0, 0, 0⟩))) (defBody ((clsBody (top 10)).getD 0 (.Pass ⟨0, 0, 0, 0⟩))) (defScope ((clsBody (top 10)).getD 0 (.Pass ⟨0, 0, 0, 0⟩))) .none kV_BadPriced dc_BadPriced pm_BadPriced an_BadPriced cd_BadPriced ct_BadPriced), sl_BadPriced⟩)
    (c_BadPriced : PySem.W.codeIn K cd_BadPriced "BadPriced.__init__" = true)
    (ki_BadPriced : PySem.W.keepIn K (.ref i_BadPriced) = true)
    (a_BadTalk : PySem.W.nsIn K mainGlobals "BadTalk" = some (some (.ref C_BadTalk)))
    (ga_BadTalk : PySem.W.findIn K (.ref C_BadTalk) "__getattribute__" = some (some (.builtin "BaseException.__getattribute__")))
    (gg_BadTalk : PySem.W.findIn K (.ref C_BadTalk) "__getattr__" = some none)
    (e_BadTalk : PySem.W.subIn K (.ref C_BadTalk) (.type "BaseException") = some true)
    (h_BadTalk : PySem.W.hasDictIn K C_BadTalk = true)
    (cl_BadTalk : PySem.W.findIn K (.ref C_BadTalk) "__class__" = some (some (.builtin "object.__class__")))
    (m_BadTalk : PySem.W.mroIn K C_BadTalk (.type "object") = some true)
    (kc_BadTalk : PySem.W.keepIn K (.ref C_BadTalk) = true)
    (x_BadTalk : K.lookup C_BadTalk = some (excClassObj nm_BadTalk q_BadTalk C_BadTalk N_BadTalk bs_BadTalk [.ref C_SayError, .type "ValueError", .type "Exception", .type "BaseException", .type "object"] true sn_BadTalk sub_BadTalk ab_BadTalk col_BadTalk dd_BadTalk m0_BadTalk m1_BadTalk m2_BadTalk m3_BadTalk m5_BadTalk "ValueError.__new__"))
    (sa_BadTalk : PySem.W.findIn K (.ref C_BadTalk) "__setattr__" = some (some (.builtin "object.__setattr__")))
    (t_BadTalk : PySem.W.typeIn K (.ref C_BadTalk) = some (.type "type"))
    (n_BadTalk_part : PySem.W.findIn K (.ref C_BadTalk) "part" = some none)
    (i1_BadTalk : PySem.W.findIn K (.ref C_BadTalk) "__init__" = some (some (.ref i_BadTalk)))
    (i2_BadTalk : PySem.W.typeIn K (.ref i_BadTalk) = some (.type "function"))
    (l_BadTalk : K.lookup i_BadTalk = some ⟨oc_BadTalk, od_BadTalk, .func (PySem.W.fnOf "__init__" "BadTalk.__init__" (defArgs ((clsBody (top 11)).getD 0 (.Pass ⟨0, 0, 0, 0⟩))) (defBody ((clsBody (top 11)).getD 0 (.Pass ⟨0, 0, 0, 0⟩))) (defScope ((clsBody (top 11)).getD 0 (.Pass ⟨0, 0, 0, 0⟩))) .none kV_BadTalk dc_BadTalk pm_BadTalk an_BadTalk cd_BadTalk ct_BadTalk), sl_BadTalk⟩)
    (c_BadTalk : PySem.W.codeIn K cd_BadTalk "BadTalk.__init__" = true)
    (ki_BadTalk : PySem.W.keepIn K (.ref i_BadTalk) = true)
    (a_BadTeller : PySem.W.nsIn K mainGlobals "BadTeller" = some (some (.ref C_BadTeller)))
    (ga_BadTeller : PySem.W.findIn K (.ref C_BadTeller) "__getattribute__" = some (some (.builtin "BaseException.__getattribute__")))
    (gg_BadTeller : PySem.W.findIn K (.ref C_BadTeller) "__getattr__" = some none)
    (e_BadTeller : PySem.W.subIn K (.ref C_BadTeller) (.type "BaseException") = some true)
    (h_BadTeller : PySem.W.hasDictIn K C_BadTeller = true)
    (cl_BadTeller : PySem.W.findIn K (.ref C_BadTeller) "__class__" = some (some (.builtin "object.__class__")))
    (m_BadTeller : PySem.W.mroIn K C_BadTeller (.type "object") = some true)
    (kc_BadTeller : PySem.W.keepIn K (.ref C_BadTeller) = true)
    (x_BadTeller : K.lookup C_BadTeller = some (excClassObj nm_BadTeller q_BadTeller C_BadTeller N_BadTeller bs_BadTeller [.ref C_SayError, .type "ValueError", .type "Exception", .type "BaseException", .type "object"] true sn_BadTeller sub_BadTeller ab_BadTeller col_BadTeller dd_BadTeller m0_BadTeller m1_BadTeller m2_BadTeller m3_BadTeller m5_BadTeller "ValueError.__new__"))
    (sa_BadTeller : PySem.W.findIn K (.ref C_BadTeller) "__setattr__" = some (some (.builtin "object.__setattr__")))
    (t_BadTeller : PySem.W.typeIn K (.ref C_BadTeller) = some (.type "type"))
    (n_BadTeller_part : PySem.W.findIn K (.ref C_BadTeller) "part" = some none)
    (i1_BadTeller : PySem.W.findIn K (.ref C_BadTeller) "__init__" = some (some (.ref i_BadTeller)))
    (i2_BadTeller : PySem.W.typeIn K (.ref i_BadTeller) = some (.type "function"))
    (l_BadTeller : K.lookup i_BadTeller = some ⟨oc_BadTeller, od_BadTeller, .func (PySem.W.fnOf "__init__" "BadTeller.__init__" (defArgs ((clsBody (top 12)).getD 0 (.Pass ⟨0, 0, 0, 0⟩))) (defBody ((clsBody (top 12)).getD 0 (.Pass ⟨0, 0, 0, 0⟩))) (defScope ((clsBody (top 12)).getD 0 (.Pass ⟨0, 0, 0, 0⟩))) .none kV_BadTeller dc_BadTeller pm_BadTeller an_BadTeller cd_BadTeller ct_BadTeller), sl_BadTeller⟩)
    (c_BadTeller : PySem.W.codeIn K cd_BadTeller "BadTeller.__init__" = true)
    (ki_BadTeller : PySem.W.keepIn K (.ref i_BadTeller) = true)
    (a_BadTranslation : PySem.W.nsIn K mainGlobals "BadTranslation" = some (some (.ref C_BadTranslation)))
    (ga_BadTranslation : PySem.W.findIn K (.ref C_BadTranslation) "__getattribute__" = some (some (.builtin "BaseException.__getattribute__")))
    (gg_BadTranslation : PySem.W.findIn K (.ref C_BadTranslation) "__getattr__" = some none)
    (e_BadTranslation : PySem.W.subIn K (.ref C_BadTranslation) (.type "BaseException") = some true)
    (h_BadTranslation : PySem.W.hasDictIn K C_BadTranslation = true)
    (cl_BadTranslation : PySem.W.findIn K (.ref C_BadTranslation) "__class__" = some (some (.builtin "object.__class__")))
    (m_BadTranslation : PySem.W.mroIn K C_BadTranslation (.type "object") = some true)
    (kc_BadTranslation : PySem.W.keepIn K (.ref C_BadTranslation) = true)
    (x_BadTranslation : K.lookup C_BadTranslation = some (excClassObj nm_BadTranslation q_BadTranslation C_BadTranslation N_BadTranslation bs_BadTranslation [.ref C_SayError, .type "ValueError", .type "Exception", .type "BaseException", .type "object"] true sn_BadTranslation sub_BadTranslation ab_BadTranslation col_BadTranslation dd_BadTranslation m0_BadTranslation m1_BadTranslation m2_BadTranslation m3_BadTranslation m5_BadTranslation "ValueError.__new__"))
    (sa_BadTranslation : PySem.W.findIn K (.ref C_BadTranslation) "__setattr__" = some (some (.builtin "object.__setattr__")))
    (t_BadTranslation : PySem.W.typeIn K (.ref C_BadTranslation) = some (.type "type"))
    (n_BadTranslation_part : PySem.W.findIn K (.ref C_BadTranslation) "part" = some none)
    (i1_BadTranslation : PySem.W.findIn K (.ref C_BadTranslation) "__init__" = some (some (.ref i_BadTranslation)))
    (i2_BadTranslation : PySem.W.typeIn K (.ref i_BadTranslation) = some (.type "function"))
    (l_BadTranslation : K.lookup i_BadTranslation = some ⟨oc_BadTranslation, od_BadTranslation, .func (PySem.W.fnOf "__init__" "BadTranslation.__init__" (defArgs ((clsBody (top 13)).getD 0 (.Pass ⟨0, 0, 0, 0⟩))) (defBody ((clsBody (top 13)).getD 0 (.Pass ⟨0, 0, 0, 0⟩))) (defScope ((clsBody (top 13)).getD 0 (.Pass ⟨0, 0, 0, 0⟩))) .none kV_BadTranslation dc_BadTranslation pm_BadTranslation an_BadTranslation cd_BadTranslation ct_BadTranslation), sl_BadTranslation⟩)
    (c_BadTranslation : PySem.W.codeIn K cd_BadTranslation "BadTranslation.__init__" = true)
    (ki_BadTranslation : PySem.W.keepIn K (.ref i_BadTranslation) = true)
    (a_BadNumbers : PySem.W.nsIn K mainGlobals "BadNumbers" = some (some (.ref C_BadNumbers)))
    (ga_BadNumbers : PySem.W.findIn K (.ref C_BadNumbers) "__getattribute__" = some (some (.builtin "BaseException.__getattribute__")))
    (gg_BadNumbers : PySem.W.findIn K (.ref C_BadNumbers) "__getattr__" = some none)
    (e_BadNumbers : PySem.W.subIn K (.ref C_BadNumbers) (.type "BaseException") = some true)
    (h_BadNumbers : PySem.W.hasDictIn K C_BadNumbers = true)
    (cl_BadNumbers : PySem.W.findIn K (.ref C_BadNumbers) "__class__" = some (some (.builtin "object.__class__")))
    (m_BadNumbers : PySem.W.mroIn K C_BadNumbers (.type "object") = some true)
    (kc_BadNumbers : PySem.W.keepIn K (.ref C_BadNumbers) = true)
    (x_BadNumbers : K.lookup C_BadNumbers = some (excClassObj nm_BadNumbers q_BadNumbers C_BadNumbers N_BadNumbers bs_BadNumbers [.ref C_SayError, .type "ValueError", .type "Exception", .type "BaseException", .type "object"] true sn_BadNumbers sub_BadNumbers ab_BadNumbers col_BadNumbers dd_BadNumbers m0_BadNumbers m1_BadNumbers m2_BadNumbers m3_BadNumbers m5_BadNumbers "ValueError.__new__"))
    (sa_BadNumbers : PySem.W.findIn K (.ref C_BadNumbers) "__setattr__" = some (some (.builtin "object.__setattr__")))
    (t_BadNumbers : PySem.W.typeIn K (.ref C_BadNumbers) = some (.type "type"))
    (n_BadNumbers_part : PySem.W.findIn K (.ref C_BadNumbers) "part" = some none)
    (i1_BadNumbers : PySem.W.findIn K (.ref C_BadNumbers) "__init__" = some (some (.ref i_BadNumbers)))
    (i2_BadNumbers : PySem.W.typeIn K (.ref i_BadNumbers) = some (.type "function"))
    (l_BadNumbers : K.lookup i_BadNumbers = some ⟨oc_BadNumbers, od_BadNumbers, .func (PySem.W.fnOf "__init__" "BadNumbers.__init__" (defArgs ((clsBody (top 14)).getD 0 (.Pass ⟨0, 0, 0, 0⟩))) (defBody ((clsBody (top 14)).getD 0 (.Pass ⟨0, 0, 0, 0⟩))) (defScope ((clsBody (top 14)).getD 0 (.Pass ⟨0, 0, 0, 0⟩))) .none kV_BadNumbers dc_BadNumbers pm_BadNumbers an_BadNumbers cd_BadNumbers ct_BadNumbers), sl_BadNumbers⟩)
    (c_BadNumbers : PySem.W.codeIn K cd_BadNumbers "BadNumbers.__init__" = true)
    (ki_BadNumbers : PySem.W.keepIn K (.ref i_BadNumbers) = true)
    (a_Missing : PySem.W.nsIn K mainGlobals "Missing" = some (some (.ref C_Missing)))
    (ga_Missing : PySem.W.findIn K (.ref C_Missing) "__getattribute__" = some (some (.builtin "BaseException.__getattribute__")))
    (gg_Missing : PySem.W.findIn K (.ref C_Missing) "__getattr__" = some none)
    (e_Missing : PySem.W.subIn K (.ref C_Missing) (.type "BaseException") = some true)
    (h_Missing : PySem.W.hasDictIn K C_Missing = true)
    (cl_Missing : PySem.W.findIn K (.ref C_Missing) "__class__" = some (some (.builtin "object.__class__")))
    (m_Missing : PySem.W.mroIn K C_Missing (.type "object") = some true)
    (kc_Missing : PySem.W.keepIn K (.ref C_Missing) = true)
    (x_Missing : K.lookup C_Missing = some (excClassObj nm_Missing q_Missing C_Missing N_Missing bs_Missing [.ref C_SayError, .type "ValueError", .type "Exception", .type "BaseException", .type "object"] true sn_Missing sub_Missing ab_Missing col_Missing dd_Missing m0_Missing m1_Missing m2_Missing m3_Missing m5_Missing "ValueError.__new__"))
    (sa_Missing : PySem.W.findIn K (.ref C_Missing) "__setattr__" = some (some (.builtin "object.__setattr__")))
    (t_Missing : PySem.W.typeIn K (.ref C_Missing) = some (.type "type"))
    (n_Missing_name : PySem.W.findIn K (.ref C_Missing) "name" = some none)
    (i1_Missing : PySem.W.findIn K (.ref C_Missing) "__init__" = some (some (.ref i_Missing)))
    (i2_Missing : PySem.W.typeIn K (.ref i_Missing) = some (.type "function"))
    (l_Missing : K.lookup i_Missing = some ⟨oc_Missing, od_Missing, .func (PySem.W.fnOf "__init__" "Missing.__init__" (defArgs ((clsBody (top 15)).getD 0 (.Pass ⟨0, 0, 0, 0⟩))) (defBody ((clsBody (top 15)).getD 0 (.Pass ⟨0, 0, 0, 0⟩))) (defScope ((clsBody (top 15)).getD 0 (.Pass ⟨0, 0, 0, 0⟩))) .none kV_Missing dc_Missing pm_Missing an_Missing cd_Missing ct_Missing), sl_Missing⟩)
    (c_Missing : PySem.W.codeIn K cd_Missing "Missing.__init__" = true)
    (ki_Missing : PySem.W.keepIn K (.ref i_Missing) = true)
    (a_NoThing : PySem.W.nsIn K mainGlobals "NoThing" = some (some (.ref C_NoThing)))
    (ga_NoThing : PySem.W.findIn K (.ref C_NoThing) "__getattribute__" = some (some (.builtin "BaseException.__getattribute__")))
    (gg_NoThing : PySem.W.findIn K (.ref C_NoThing) "__getattr__" = some none)
    (e_NoThing : PySem.W.subIn K (.ref C_NoThing) (.type "BaseException") = some true)
    (h_NoThing : PySem.W.hasDictIn K C_NoThing = true)
    (cl_NoThing : PySem.W.findIn K (.ref C_NoThing) "__class__" = some (some (.builtin "object.__class__")))
    (m_NoThing : PySem.W.mroIn K C_NoThing (.type "object") = some true)
    (kc_NoThing : PySem.W.keepIn K (.ref C_NoThing) = true)
    (x_NoThing : K.lookup C_NoThing = some (excClassObj nm_NoThing q_NoThing C_NoThing N_NoThing bs_NoThing [.ref C_Missing, .ref C_SayError, .type "ValueError", .type "Exception", .type "BaseException", .type "object"] true sn_NoThing sub_NoThing ab_NoThing col_NoThing dd_NoThing m0_NoThing m1_NoThing m2_NoThing m3_NoThing m5_NoThing "ValueError.__new__"))
    (sa_NoThing : PySem.W.findIn K (.ref C_NoThing) "__setattr__" = some (some (.builtin "object.__setattr__")))
    (t_NoThing : PySem.W.typeIn K (.ref C_NoThing) = some (.type "type"))
    (n_NoThing_name : PySem.W.findIn K (.ref C_NoThing) "name" = some none)
    (i1_NoThing : PySem.W.findIn K (.ref C_NoThing) "__init__" = some (some (.ref i_Missing)))
    (a_NoWord : PySem.W.nsIn K mainGlobals "NoWord" = some (some (.ref C_NoWord)))
    (ga_NoWord : PySem.W.findIn K (.ref C_NoWord) "__getattribute__" = some (some (.builtin "BaseException.__getattribute__")))
    (gg_NoWord : PySem.W.findIn K (.ref C_NoWord) "__getattr__" = some none)
    (e_NoWord : PySem.W.subIn K (.ref C_NoWord) (.type "BaseException") = some true)
    (h_NoWord : PySem.W.hasDictIn K C_NoWord = true)
    (cl_NoWord : PySem.W.findIn K (.ref C_NoWord) "__class__" = some (some (.builtin "object.__class__")))
    (m_NoWord : PySem.W.mroIn K C_NoWord (.type "object") = some true)
    (kc_NoWord : PySem.W.keepIn K (.ref C_NoWord) = true)
    (x_NoWord : K.lookup C_NoWord = some (excClassObj nm_NoWord q_NoWord C_NoWord N_NoWord bs_NoWord [.ref C_Missing, .ref C_SayError, .type "ValueError", .type "Exception", .type "BaseException", .type "object"] true sn_NoWord sub_NoWord ab_NoWord col_NoWord dd_NoWord m0_NoWord m1_NoWord m2_NoWord m3_NoWord m5_NoWord "ValueError.__new__"))
    (sa_NoWord : PySem.W.findIn K (.ref C_NoWord) "__setattr__" = some (some (.builtin "object.__setattr__")))
    (t_NoWord : PySem.W.typeIn K (.ref C_NoWord) = some (.type "type"))
    (n_NoWord_name : PySem.W.findIn K (.ref C_NoWord) "name" = some none)
    (i1_NoWord : PySem.W.findIn K (.ref C_NoWord) "__init__" = some (some (.ref i_Missing)))
    (a_NoLink : PySem.W.nsIn K mainGlobals "NoLink" = some (some (.ref C_NoLink)))
    (ga_NoLink : PySem.W.findIn K (.ref C_NoLink) "__getattribute__" = some (some (.builtin "BaseException.__getattribute__")))
    (gg_NoLink : PySem.W.findIn K (.ref C_NoLink) "__getattr__" = some none)
    (e_NoLink : PySem.W.subIn K (.ref C_NoLink) (.type "BaseException") = some true)
    (h_NoLink : PySem.W.hasDictIn K C_NoLink = true)
    (cl_NoLink : PySem.W.findIn K (.ref C_NoLink) "__class__" = some (some (.builtin "object.__class__")))
    (m_NoLink : PySem.W.mroIn K C_NoLink (.type "object") = some true)
    (kc_NoLink : PySem.W.keepIn K (.ref C_NoLink) = true)
    (x_NoLink : K.lookup C_NoLink = some (excClassObj nm_NoLink q_NoLink C_NoLink N_NoLink bs_NoLink [.ref C_Missing, .ref C_SayError, .type "ValueError", .type "Exception", .type "BaseException", .type "object"] true sn_NoLink sub_NoLink ab_NoLink col_NoLink dd_NoLink m0_NoLink m1_NoLink m2_NoLink m3_NoLink m5_NoLink "ValueError.__new__"))
    (sa_NoLink : PySem.W.findIn K (.ref C_NoLink) "__setattr__" = some (some (.builtin "object.__setattr__")))
    (t_NoLink : PySem.W.typeIn K (.ref C_NoLink) = some (.type "type"))
    (n_NoLink_name : PySem.W.findIn K (.ref C_NoLink) "name" = some none)
    (i1_NoLink : PySem.W.findIn K (.ref C_NoLink) "__init__" = some (some (.ref i_Missing)))
    (a_NoScale : PySem.W.nsIn K mainGlobals "NoScale" = some (some (.ref C_NoScale)))
    (ga_NoScale : PySem.W.findIn K (.ref C_NoScale) "__getattribute__" = some (some (.builtin "BaseException.__getattribute__")))
    (gg_NoScale : PySem.W.findIn K (.ref C_NoScale) "__getattr__" = some none)
    (e_NoScale : PySem.W.subIn K (.ref C_NoScale) (.type "BaseException") = some true)
    (h_NoScale : PySem.W.hasDictIn K C_NoScale = true)
    (cl_NoScale : PySem.W.findIn K (.ref C_NoScale) "__class__" = some (some (.builtin "object.__class__")))
    (m_NoScale : PySem.W.mroIn K C_NoScale (.type "object") = some true)
    (kc_NoScale : PySem.W.keepIn K (.ref C_NoScale) = true)
    (x_NoScale : K.lookup C_NoScale = some (excClassObj nm_NoScale q_NoScale C_NoScale N_NoScale bs_NoScale [.ref C_Missing, .ref C_SayError, .type "ValueError", .type "Exception", .type "BaseException", .type "object"] true sn_NoScale sub_NoScale ab_NoScale col_NoScale dd_NoScale m0_NoScale m1_NoScale m2_NoScale m3_NoScale m5_NoScale "ValueError.__new__"))
    (sa_NoScale : PySem.W.findIn K (.ref C_NoScale) "__setattr__" = some (some (.builtin "object.__setattr__")))
    (t_NoScale : PySem.W.typeIn K (.ref C_NoScale) = some (.type "type"))
    (n_NoScale_name : PySem.W.findIn K (.ref C_NoScale) "name" = some none)
    (i1_NoScale : PySem.W.findIn K (.ref C_NoScale) "__init__" = some (some (.ref i_Missing)))
    (a_NoWay : PySem.W.nsIn K mainGlobals "NoWay" = some (some (.ref C_NoWay)))
    (ga_NoWay : PySem.W.findIn K (.ref C_NoWay) "__getattribute__" = some (some (.builtin "BaseException.__getattribute__")))
    (gg_NoWay : PySem.W.findIn K (.ref C_NoWay) "__getattr__" = some none)
    (e_NoWay : PySem.W.subIn K (.ref C_NoWay) (.type "BaseException") = some true)
    (h_NoWay : PySem.W.hasDictIn K C_NoWay = true)
    (cl_NoWay : PySem.W.findIn K (.ref C_NoWay) "__class__" = some (some (.builtin "object.__class__")))
    (m_NoWay : PySem.W.mroIn K C_NoWay (.type "object") = some true)
    (kc_NoWay : PySem.W.keepIn K (.ref C_NoWay) = true)
    (x_NoWay : K.lookup C_NoWay = some (excClassObj nm_NoWay q_NoWay C_NoWay N_NoWay bs_NoWay [.ref C_Missing, .ref C_SayError, .type "ValueError", .type "Exception", .type "BaseException", .type "object"] true sn_NoWay sub_NoWay ab_NoWay col_NoWay dd_NoWay m0_NoWay m1_NoWay m2_NoWay m3_NoWay m5_NoWay "ValueError.__new__"))
    (sa_NoWay : PySem.W.findIn K (.ref C_NoWay) "__setattr__" = some (some (.builtin "object.__setattr__")))
    (t_NoWay : PySem.W.typeIn K (.ref C_NoWay) = some (.type "type"))
    (n_NoWay_name : PySem.W.findIn K (.ref C_NoWay) "name" = some none)
    (i1_NoWay : PySem.W.findIn K (.ref C_NoWay) "__init__" = some (some (.ref i_Missing)))
    (a_NoName : PySem.W.nsIn K mainGlobals "NoName" = some (some (.ref C_NoName)))
    (ga_NoName : PySem.W.findIn K (.ref C_NoName) "__getattribute__" = some (some (.builtin "BaseException.__getattribute__")))
    (gg_NoName : PySem.W.findIn K (.ref C_NoName) "__getattr__" = some none)
    (e_NoName : PySem.W.subIn K (.ref C_NoName) (.type "BaseException") = some true)
    (h_NoName : PySem.W.hasDictIn K C_NoName = true)
    (cl_NoName : PySem.W.findIn K (.ref C_NoName) "__class__" = some (some (.builtin "object.__class__")))
    (m_NoName : PySem.W.mroIn K C_NoName (.type "object") = some true)
    (kc_NoName : PySem.W.keepIn K (.ref C_NoName) = true)
    (x_NoName : K.lookup C_NoName = some (excClassObj nm_NoName q_NoName C_NoName N_NoName bs_NoName [.ref C_Missing, .ref C_SayError, .type "ValueError", .type "Exception", .type "BaseException", .type "object"] true sn_NoName sub_NoName ab_NoName col_NoName dd_NoName m0_NoName m1_NoName m2_NoName m3_NoName m5_NoName "ValueError.__new__"))
    (sa_NoName : PySem.W.findIn K (.ref C_NoName) "__setattr__" = some (some (.builtin "object.__setattr__")))
    (t_NoName : PySem.W.typeIn K (.ref C_NoName) = some (.type "type"))
    (n_NoName_name : PySem.W.findIn K (.ref C_NoName) "name" = some none)
    (i1_NoName : PySem.W.findIn K (.ref C_NoName) "__init__" = some (some (.ref i_Missing)))
    (a_NotLet : PySem.W.nsIn K mainGlobals "NotLet" = some (some (.ref C_NotLet)))
    (ga_NotLet : PySem.W.findIn K (.ref C_NotLet) "__getattribute__" = some (some (.builtin "BaseException.__getattribute__")))
    (gg_NotLet : PySem.W.findIn K (.ref C_NotLet) "__getattr__" = some none)
    (e_NotLet : PySem.W.subIn K (.ref C_NotLet) (.type "BaseException") = some true)
    (h_NotLet : PySem.W.hasDictIn K C_NotLet = true)
    (cl_NotLet : PySem.W.findIn K (.ref C_NotLet) "__class__" = some (some (.builtin "object.__class__")))
    (m_NotLet : PySem.W.mroIn K C_NotLet (.type "object") = some true)
    (kc_NotLet : PySem.W.keepIn K (.ref C_NotLet) = true)
    (x_NotLet : K.lookup C_NotLet = some (excClassObj nm_NotLet q_NotLet C_NotLet N_NotLet bs_NotLet [.ref C_SayError, .type "ValueError", .type "Exception", .type "BaseException", .type "object"] true sn_NotLet sub_NotLet ab_NotLet col_NotLet dd_NotLet m0_NotLet m1_NotLet m2_NotLet m3_NotLet m5_NotLet "ValueError.__new__"))
    (sa_NotLet : PySem.W.findIn K (.ref C_NotLet) "__setattr__" = some (some (.builtin "object.__setattr__")))
    (t_NotLet : PySem.W.typeIn K (.ref C_NotLet) = some (.type "type"))
    (n_NotLet_way : PySem.W.findIn K (.ref C_NotLet) "way" = some none)
    (n_NotLet_kind : PySem.W.findIn K (.ref C_NotLet) "kind" = some none)
    (i1_NotLet : PySem.W.findIn K (.ref C_NotLet) "__init__" = some (some (.ref i_NotLet)))
    (i2_NotLet : PySem.W.typeIn K (.ref i_NotLet) = some (.type "function"))
    (l_NotLet : K.lookup i_NotLet = some ⟨oc_NotLet, od_NotLet, .func (PySem.W.fnOf "__init__" "NotLet.__init__" (defArgs ((clsBody (top 22)).getD 0 (.Pass ⟨0, 0, 0, 0⟩))) (defBody ((clsBody (top 22)).getD 0 (.Pass ⟨0, 0, 0, 0⟩))) (defScope ((clsBody (top 22)).getD 0 (.Pass ⟨0, 0, 0, 0⟩))) .none kV_NotLet dc_NotLet pm_NotLet an_NotLet cd_NotLet ct_NotLet), sl_NotLet⟩)
    (c_NotLet : PySem.W.codeIn K cd_NotLet "NotLet.__init__" = true)
    (ki_NotLet : PySem.W.keepIn K (.ref i_NotLet) = true)
    (a_Twice : PySem.W.nsIn K mainGlobals "Twice" = some (some (.ref C_Twice)))
    (ga_Twice : PySem.W.findIn K (.ref C_Twice) "__getattribute__" = some (some (.builtin "BaseException.__getattribute__")))
    (gg_Twice : PySem.W.findIn K (.ref C_Twice) "__getattr__" = some none)
    (e_Twice : PySem.W.subIn K (.ref C_Twice) (.type "BaseException") = some true)
    (h_Twice : PySem.W.hasDictIn K C_Twice = true)
    (cl_Twice : PySem.W.findIn K (.ref C_Twice) "__class__" = some (some (.builtin "object.__class__")))
    (m_Twice : PySem.W.mroIn K C_Twice (.type "object") = some true)
    (kc_Twice : PySem.W.keepIn K (.ref C_Twice) = true)
    (x_Twice : K.lookup C_Twice = some (excClassObj nm_Twice q_Twice C_Twice N_Twice bs_Twice [.ref C_SayError, .type "ValueError", .type "Exception", .type "BaseException", .type "object"] true sn_Twice sub_Twice ab_Twice col_Twice dd_Twice m0_Twice m1_Twice m2_Twice m3_Twice m5_Twice "ValueError.__new__"))
    (sa_Twice : PySem.W.findIn K (.ref C_Twice) "__setattr__" = some (some (.builtin "object.__setattr__")))
    (t_Twice : PySem.W.typeIn K (.ref C_Twice) = some (.type "type"))
    (n_Twice_name : PySem.W.findIn K (.ref C_Twice) "name" = some none)
    (i1_Twice : PySem.W.findIn K (.ref C_Twice) "__init__" = some (some (.ref i_Twice)))
    (i2_Twice : PySem.W.typeIn K (.ref i_Twice) = some (.type "function"))
    (l_Twice : K.lookup i_Twice = some ⟨oc_Twice, od_Twice, .func (PySem.W.fnOf "__init__" "Twice.__init__" (defArgs ((clsBody (top 23)).getD 0 (.Pass ⟨0, 0, 0, 0⟩))) (defBody ((clsBody (top 23)).getD 0 (.Pass ⟨0, 0, 0, 0⟩))) (defScope ((clsBody (top 23)).getD 0 (.Pass ⟨0, 0, 0, 0⟩))) .none kV_Twice dc_Twice pm_Twice an_Twice cd_Twice ct_Twice), sl_Twice⟩)
    (c_Twice : PySem.W.codeIn K cd_Twice "Twice.__init__" = true)
    (ki_Twice : PySem.W.keepIn K (.ref i_Twice) = true)
    (a_Unlike : PySem.W.nsIn K mainGlobals "Unlike" = some (some (.ref C_Unlike)))
    (ga_Unlike : PySem.W.findIn K (.ref C_Unlike) "__getattribute__" = some (some (.builtin "BaseException.__getattribute__")))
    (gg_Unlike : PySem.W.findIn K (.ref C_Unlike) "__getattr__" = some none)
    (e_Unlike : PySem.W.subIn K (.ref C_Unlike) (.type "BaseException") = some true)
    (h_Unlike : PySem.W.hasDictIn K C_Unlike = true)
    (cl_Unlike : PySem.W.findIn K (.ref C_Unlike) "__class__" = some (some (.builtin "object.__class__")))
    (m_Unlike : PySem.W.mroIn K C_Unlike (.type "object") = some true)
    (kc_Unlike : PySem.W.keepIn K (.ref C_Unlike) = true)
    (x_Unlike : K.lookup C_Unlike = some (excClassObj nm_Unlike q_Unlike C_Unlike N_Unlike bs_Unlike [.ref C_SayError, .type "ValueError", .type "Exception", .type "BaseException", .type "object"] true sn_Unlike sub_Unlike ab_Unlike col_Unlike dd_Unlike m0_Unlike m1_Unlike m2_Unlike m3_Unlike m5_Unlike "ValueError.__new__"))
    (sa_Unlike : PySem.W.findIn K (.ref C_Unlike) "__setattr__" = some (some (.builtin "object.__setattr__")))
    (t_Unlike : PySem.W.typeIn K (.ref C_Unlike) = some (.type "type"))
    (n_Unlike_what : PySem.W.findIn K (.ref C_Unlike) "what" = some none)
    (i1_Unlike : PySem.W.findIn K (.ref C_Unlike) "__init__" = some (some (.ref i_Unlike)))
    (i2_Unlike : PySem.W.typeIn K (.ref i_Unlike) = some (.type "function"))
    (l_Unlike : K.lookup i_Unlike = some ⟨oc_Unlike, od_Unlike, .func (PySem.W.fnOf "__init__" "Unlike.__init__" (defArgs ((clsBody (top 24)).getD 0 (.Pass ⟨0, 0, 0, 0⟩))) (defBody ((clsBody (top 24)).getD 0 (.Pass ⟨0, 0, 0, 0⟩))) (defScope ((clsBody (top 24)).getD 0 (.Pass ⟨0, 0, 0, 0⟩))) .none kV_Unlike dc_Unlike pm_Unlike an_Unlike cd_Unlike ct_Unlike), sl_Unlike⟩)
    (c_Unlike : PySem.W.codeIn K cd_Unlike "Unlike.__init__" = true)
    (ki_Unlike : PySem.W.keepIn K (.ref i_Unlike) = true)
    (a_Nothing : PySem.W.nsIn K mainGlobals "Nothing" = some (some (.ref C_Nothing)))
    (ga_Nothing : PySem.W.findIn K (.ref C_Nothing) "__getattribute__" = some (some (.builtin "BaseException.__getattribute__")))
    (gg_Nothing : PySem.W.findIn K (.ref C_Nothing) "__getattr__" = some none)
    (e_Nothing : PySem.W.subIn K (.ref C_Nothing) (.type "BaseException") = some true)
    (h_Nothing : PySem.W.hasDictIn K C_Nothing = true)
    (cl_Nothing : PySem.W.findIn K (.ref C_Nothing) "__class__" = some (some (.builtin "object.__class__")))
    (m_Nothing : PySem.W.mroIn K C_Nothing (.type "object") = some true)
    (kc_Nothing : PySem.W.keepIn K (.ref C_Nothing) = true)
    (q_Nothing : PySem.W.excIn K C_Nothing [.type "ValueError", .type "Exception", .type "BaseException", .type "object"] "ValueError.__new__" = true)
    (a_TooMany : PySem.W.nsIn K mainGlobals "TooMany" = some (some (.ref C_TooMany)))
    (ga_TooMany : PySem.W.findIn K (.ref C_TooMany) "__getattribute__" = some (some (.builtin "BaseException.__getattribute__")))
    (gg_TooMany : PySem.W.findIn K (.ref C_TooMany) "__getattr__" = some none)
    (e_TooMany : PySem.W.subIn K (.ref C_TooMany) (.type "BaseException") = some true)
    (h_TooMany : PySem.W.hasDictIn K C_TooMany = true)
    (cl_TooMany : PySem.W.findIn K (.ref C_TooMany) "__class__" = some (some (.builtin "object.__class__")))
    (m_TooMany : PySem.W.mroIn K C_TooMany (.type "object") = some true)
    (kc_TooMany : PySem.W.keepIn K (.ref C_TooMany) = true)
    (x_TooMany : K.lookup C_TooMany = some (excClassObj nm_TooMany q_TooMany C_TooMany N_TooMany bs_TooMany [.ref C_SayError, .type "ValueError", .type "Exception", .type "BaseException", .type "object"] true sn_TooMany sub_TooMany ab_TooMany col_TooMany dd_TooMany m0_TooMany m1_TooMany m2_TooMany m3_TooMany m5_TooMany "ValueError.__new__"))
    (sa_TooMany : PySem.W.findIn K (.ref C_TooMany) "__setattr__" = some (some (.builtin "object.__setattr__")))
    (t_TooMany : PySem.W.typeIn K (.ref C_TooMany) = some (.type "type"))
    (n_TooMany_what : PySem.W.findIn K (.ref C_TooMany) "what" = some none)
    (n_TooMany_most : PySem.W.findIn K (.ref C_TooMany) "most" = some none)
    (i1_TooMany : PySem.W.findIn K (.ref C_TooMany) "__init__" = some (some (.ref i_TooMany)))
    (i2_TooMany : PySem.W.typeIn K (.ref i_TooMany) = some (.type "function"))
    (l_TooMany : K.lookup i_TooMany = some ⟨oc_TooMany, od_TooMany, .func (PySem.W.fnOf "__init__" "TooMany.__init__" (defArgs ((clsBody (top 26)).getD 0 (.Pass ⟨0, 0, 0, 0⟩))) (defBody ((clsBody (top 26)).getD 0 (.Pass ⟨0, 0, 0, 0⟩))) (defScope ((clsBody (top 26)).getD 0 (.Pass ⟨0, 0, 0, 0⟩))) .none kV_TooMany dc_TooMany pm_TooMany an_TooMany cd_TooMany ct_TooMany), sl_TooMany⟩)
    (c_TooMany : PySem.W.codeIn K cd_TooMany "TooMany.__init__" = true)
    (ki_TooMany : PySem.W.keepIn K (.ref i_TooMany) = true)
    (a_BadText : PySem.W.nsIn K mainGlobals "BadText" = some (some (.ref C_BadText)))
    (ga_BadText : PySem.W.findIn K (.ref C_BadText) "__getattribute__" = some (some (.builtin "BaseException.__getattribute__")))
    (gg_BadText : PySem.W.findIn K (.ref C_BadText) "__getattr__" = some none)
    (e_BadText : PySem.W.subIn K (.ref C_BadText) (.type "BaseException") = some true)
    (h_BadText : PySem.W.hasDictIn K C_BadText = true)
    (cl_BadText : PySem.W.findIn K (.ref C_BadText) "__class__" = some (some (.builtin "object.__class__")))
    (m_BadText : PySem.W.mroIn K C_BadText (.type "object") = some true)
    (kc_BadText : PySem.W.keepIn K (.ref C_BadText) = true)
    (x_BadText : K.lookup C_BadText = some (excClassObj nm_BadText q_BadText C_BadText N_BadText bs_BadText [.ref C_SayError, .type "ValueError", .type "Exception", .type "BaseException", .type "object"] true sn_BadText sub_BadText ab_BadText col_BadText dd_BadText m0_BadText m1_BadText m2_BadText m3_BadText m5_BadText "ValueError.__new__"))
    (sa_BadText : PySem.W.findIn K (.ref C_BadText) "__setattr__" = some (some (.builtin "object.__setattr__")))
    (t_BadText : PySem.W.typeIn K (.ref C_BadText) = some (.type "type"))
    (n_BadText_line : PySem.W.findIn K (.ref C_BadText) "line" = some none)
    (n_BadText_word : PySem.W.findIn K (.ref C_BadText) "word" = some none)
    (i1_BadText : PySem.W.findIn K (.ref C_BadText) "__init__" = some (some (.ref i_BadText)))
    (i2_BadText : PySem.W.typeIn K (.ref i_BadText) = some (.type "function"))
    (l_BadText : K.lookup i_BadText = some ⟨oc_BadText, od_BadText, .func (PySem.W.fnOf "__init__" "BadText.__init__" (defArgs ((clsBody (top 27)).getD 0 (.Pass ⟨0, 0, 0, 0⟩))) (defBody ((clsBody (top 27)).getD 0 (.Pass ⟨0, 0, 0, 0⟩))) (defScope ((clsBody (top 27)).getD 0 (.Pass ⟨0, 0, 0, 0⟩))) .none kV_BadText dc_BadText pm_BadText an_BadText cd_BadText ct_BadText), sl_BadText⟩)
    (c_BadText : PySem.W.codeIn K cd_BadText "BadText.__init__" = true)
    (ki_BadText : PySem.W.keepIn K (.ref i_BadText) = true)
    (a_BadLine : PySem.W.nsIn K mainGlobals "BadLine" = some (some (.ref C_BadLine)))
    (ga_BadLine : PySem.W.findIn K (.ref C_BadLine) "__getattribute__" = some (some (.builtin "BaseException.__getattribute__")))
    (gg_BadLine : PySem.W.findIn K (.ref C_BadLine) "__getattr__" = some none)
    (e_BadLine : PySem.W.subIn K (.ref C_BadLine) (.type "BaseException") = some true)
    (h_BadLine : PySem.W.hasDictIn K C_BadLine = true)
    (cl_BadLine : PySem.W.findIn K (.ref C_BadLine) "__class__" = some (some (.builtin "object.__class__")))
    (m_BadLine : PySem.W.mroIn K C_BadLine (.type "object") = some true)
    (kc_BadLine : PySem.W.keepIn K (.ref C_BadLine) = true)
    (x_BadLine : K.lookup C_BadLine = some (excClassObj nm_BadLine q_BadLine C_BadLine N_BadLine bs_BadLine [.ref C_SayError, .type "ValueError", .type "Exception", .type "BaseException", .type "object"] true sn_BadLine sub_BadLine ab_BadLine col_BadLine dd_BadLine m0_BadLine m1_BadLine m2_BadLine m3_BadLine m5_BadLine "ValueError.__new__"))
    (sa_BadLine : PySem.W.findIn K (.ref C_BadLine) "__setattr__" = some (some (.builtin "object.__setattr__")))
    (t_BadLine : PySem.W.typeIn K (.ref C_BadLine) = some (.type "type"))
    (n_BadLine_line : PySem.W.findIn K (.ref C_BadLine) "line" = some none)
    (n_BadLine_error : PySem.W.findIn K (.ref C_BadLine) "error" = some none)
    (i1_BadLine : PySem.W.findIn K (.ref C_BadLine) "__init__" = some (some (.ref i_BadLine)))
    (i2_BadLine : PySem.W.typeIn K (.ref i_BadLine) = some (.type "function"))
    (l_BadLine : K.lookup i_BadLine = some ⟨oc_BadLine, od_BadLine, .func (PySem.W.fnOf "__init__" "BadLine.__init__" (defArgs ((clsBody (top 28)).getD 0 (.Pass ⟨0, 0, 0, 0⟩))) (defBody ((clsBody (top 28)).getD 0 (.Pass ⟨0, 0, 0, 0⟩))) (defScope ((clsBody (top 28)).getD 0 (.Pass ⟨0, 0, 0, 0⟩))) .none kV_BadLine dc_BadLine pm_BadLine an_BadLine cd_BadLine ct_BadLine), sl_BadLine⟩)
    (c_BadLine : PySem.W.codeIn K cd_BadLine "BadLine.__init__" = true)
    (ki_BadLine : PySem.W.keepIn K (.ref i_BadLine) = true)
    (a_l_jar : PySem.W.nsIn K mainGlobals "_law_jar" = some (some (.ref f_l_jar)))
    (l_l_jar : K.lookup f_l_jar = some ⟨oc_l_jar, od_l_jar, .func (PySem.W.fnOf "_law_jar" "_law_jar" (defArgs (top 30)) (defBody (top 30)) (defScope (top 30)) .none kV_l_jar dc_l_jar pm_l_jar an_l_jar cd_l_jar ct_l_jar), sl_l_jar⟩)
    (c_l_jar : PySem.W.codeIn K cd_l_jar "_law_jar" = true)
    (k_l_jar : PySem.W.keepIn K (.ref f_l_jar) = true)
    (a_l_dip : PySem.W.nsIn K mainGlobals "_law_dip" = some (some (.ref f_l_dip)))
    (l_l_dip : K.lookup f_l_dip = some ⟨oc_l_dip, od_l_dip, .func (PySem.W.fnOf "_law_dip" "_law_dip" (defArgs (top 31)) (defBody (top 31)) (defScope (top 31)) .none kV_l_dip dc_l_dip pm_l_dip an_l_dip cd_l_dip ct_l_dip), sl_l_dip⟩)
    (c_l_dip : PySem.W.codeIn K cd_l_dip "_law_dip" = true)
    (k_l_dip : PySem.W.keepIn K (.ref f_l_dip) = true)
    (a_l_some : PySem.W.nsIn K mainGlobals "_law_some" = some (some (.ref f_l_some)))
    (l_l_some : K.lookup f_l_some = some ⟨oc_l_some, od_l_some, .func (PySem.W.fnOf "_law_some" "_law_some" (defArgs (top 32)) (defBody (top 32)) (defScope (top 32)) .none kV_l_some dc_l_some pm_l_some an_l_some cd_l_some ct_l_some), sl_l_some⟩)
    (c_l_some : PySem.W.codeIn K cd_l_some "_law_some" = true)
    (k_l_some : PySem.W.keepIn K (.ref f_l_some) = true)
    (a_l_parts : PySem.W.nsIn K mainGlobals "_law_parts" = some (some (.ref f_l_parts)))
    (l_l_parts : K.lookup f_l_parts = some ⟨oc_l_parts, od_l_parts, .func (PySem.W.fnOf "_law_parts" "_law_parts" (defArgs (top 33)) (defBody (top 33)) (defScope (top 33)) .none kV_l_parts dc_l_parts pm_l_parts an_l_parts cd_l_parts ct_l_parts), sl_l_parts⟩)
    (c_l_parts : PySem.W.codeIn K cd_l_parts "_law_parts" = true)
    (k_l_parts : PySem.W.keepIn K (.ref f_l_parts) = true)
    (a_l_parts_turned : PySem.W.nsIn K mainGlobals "_law_parts_turned" = some (some (.ref f_l_parts_turned)))
    (l_l_parts_turned : K.lookup f_l_parts_turned = some ⟨oc_l_parts_turned, od_l_parts_turned, .func (PySem.W.fnOf "_law_parts_turned" "_law_parts_turned" (defArgs (top 34)) (defBody (top 34)) (defScope (top 34)) .none kV_l_parts_turned dc_l_parts_turned pm_l_parts_turned an_l_parts_turned cd_l_parts_turned ct_l_parts_turned), sl_l_parts_turned⟩)
    (c_l_parts_turned : PySem.W.codeIn K cd_l_parts_turned "_law_parts_turned" = true)
    (k_l_parts_turned : PySem.W.keepIn K (.ref f_l_parts_turned) = true)
    (a_l_others : PySem.W.nsIn K mainGlobals "_law_others" = some (some (.ref f_l_others)))
    (l_l_others : K.lookup f_l_others = some ⟨oc_l_others, od_l_others, .func (PySem.W.fnOf "_law_others" "_law_others" (defArgs (top 35)) (defBody (top 35)) (defScope (top 35)) .none kV_l_others dc_l_others pm_l_others an_l_others cd_l_others ct_l_others), sl_l_others⟩)
    (c_l_others : PySem.W.codeIn K cd_l_others "_law_others" = true)
    (k_l_others : PySem.W.keepIn K (.ref f_l_others) = true)
    (a_l_others_named : PySem.W.nsIn K mainGlobals "_law_others_named" = some (some (.ref f_l_others_named)))
    (l_l_others_named : K.lookup f_l_others_named = some ⟨oc_l_others_named, od_l_others_named, .func (PySem.W.fnOf "_law_others_named" "_law_others_named" (defArgs (top 36)) (defBody (top 36)) (defScope (top 36)) .none kV_l_others_named dc_l_others_named pm_l_others_named an_l_others_named cd_l_others_named ct_l_others_named), sl_l_others_named⟩)
    (c_l_others_named : PySem.W.codeIn K cd_l_others_named "_law_others_named" = true)
    (k_l_others_named : PySem.W.keepIn K (.ref f_l_others_named) = true)
    (a_l_fields : PySem.W.nsIn K mainGlobals "_law_fields" = some (some (.ref f_l_fields)))
    (l_l_fields : K.lookup f_l_fields = some ⟨oc_l_fields, od_l_fields, .func (PySem.W.fnOf "_law_fields" "_law_fields" (defArgs (top 37)) (defBody (top 37)) (defScope (top 37)) .none kV_l_fields dc_l_fields pm_l_fields an_l_fields cd_l_fields ct_l_fields), sl_l_fields⟩)
    (c_l_fields : PySem.W.codeIn K cd_l_fields "_law_fields" = true)
    (k_l_fields : PySem.W.keepIn K (.ref f_l_fields) = true)
    (a_l_kin : PySem.W.nsIn K mainGlobals "_law_kin" = some (some (.ref f_l_kin)))
    (l_l_kin : K.lookup f_l_kin = some ⟨oc_l_kin, od_l_kin, .func (PySem.W.fnOf "_law_kin" "_law_kin" (defArgs (top 38)) (defBody (top 38)) (defScope (top 38)) .none kV_l_kin dc_l_kin pm_l_kin an_l_kin cd_l_kin ct_l_kin), sl_l_kin⟩)
    (c_l_kin : PySem.W.codeIn K cd_l_kin "_law_kin" = true)
    (k_l_kin : PySem.W.keepIn K (.ref f_l_kin) = true)
    (a_l_stands_right : PySem.W.nsIn K mainGlobals "_law_stands_right" = some (some (.ref f_l_stands_right)))
    (l_l_stands_right : K.lookup f_l_stands_right = some ⟨oc_l_stands_right, od_l_stands_right, .func (PySem.W.fnOf "_law_stands_right" "_law_stands_right" (defArgs (top 39)) (defBody (top 39)) (defScope (top 39)) .none kV_l_stands_right dc_l_stands_right pm_l_stands_right an_l_stands_right cd_l_stands_right ct_l_stands_right), sl_l_stands_right⟩)
    (c_l_stands_right : PySem.W.codeIn K cd_l_stands_right "_law_stands_right" = true)
    (k_l_stands_right : PySem.W.keepIn K (.ref f_l_stands_right) = true)
    (a_l_all_right : PySem.W.nsIn K mainGlobals "_law_all_right" = some (some (.ref f_l_all_right)))
    (l_l_all_right : K.lookup f_l_all_right = some ⟨oc_l_all_right, od_l_all_right, .func (PySem.W.fnOf "_law_all_right" "_law_all_right" (defArgs (top 40)) (defBody (top 40)) (defScope (top 40)) .none kV_l_all_right dc_l_all_right pm_l_all_right an_l_all_right cd_l_all_right ct_l_all_right), sl_l_all_right⟩)
    (c_l_all_right : PySem.W.codeIn K cd_l_all_right "_law_all_right" = true)
    (k_l_all_right : PySem.W.keepIn K (.ref f_l_all_right) = true)
    (a_law : PySem.W.nsIn K mainGlobals "law" = some (some (.ref f_law)))
    (l_law : K.lookup f_law = some ⟨oc_law, od_law, .func (PySem.W.fnOf "law" "law" (defArgs (top 41)) (defBody (top 41)) (defScope (top 41)) .none kV_law dc_law pm_law an_law cd_law ct_law), sl_law⟩)
    (c_law : PySem.W.codeIn K cd_law "law" = true)
    (k_law : PySem.W.keepIn K (.ref f_law) = true)
    (gs1 : PySem.W.specialIn K (.builtin "object.__class__") "__get__" = some (some (.builtin "getset_descriptor.__get__")))
    (gs2 : PySem.W.takesIn K (.builtin "object.__class__") = some true)
    (kt1 : matOk K [C_SayError, C_BadRoom, C_BadDeed, C_BadLoose, C_BadSaying, C_BadBook, C_BadPlace, C_BadTie, C_BadPriced, C_BadTalk, C_BadTeller, C_BadTranslation, C_BadNumbers, C_Missing, C_NoThing, C_NoWord, C_NoLink, C_NoScale, C_NoWay, C_NoName, C_NotLet, C_Twice, C_Unlike, C_Nothing, C_TooMany, C_BadText, C_BadLine] xrows = true)
    (kt2 : bmatOk K [C_SayError, C_BadRoom, C_BadDeed, C_BadLoose, C_BadSaying, C_BadBook, C_BadPlace, C_BadTie, C_BadPriced, C_BadTalk, C_BadTeller, C_BadTranslation, C_BadNumbers, C_Missing, C_NoThing, C_NoWord, C_NoLink, C_NoScale, C_NoWay, C_NoName, C_NotLet, C_Twice, C_Unlike, C_Nothing, C_TooMany, C_BadText, C_BadLine] bxs brows = true)
    (b_ArithmeticError : PySem.W.nsIn K mainGlobals "ArithmeticError" = some none)
    (b_AttributeError : PySem.W.nsIn K mainGlobals "AttributeError" = some none)
    (b_LookupError : PySem.W.nsIn K mainGlobals "LookupError" = some none)
    (b_RuntimeError : PySem.W.nsIn K mainGlobals "RuntimeError" = some none)
    (b_TypeError : PySem.W.nsIn K mainGlobals "TypeError" = some none)
    (b_ValueError : PySem.W.nsIn K mainGlobals "ValueError" = some none)
    (b_abs : PySem.W.nsIn K mainGlobals "abs" = some none)
    (b_enumerate : PySem.W.nsIn K mainGlobals "enumerate" = some none)
    (b_int : PySem.W.nsIn K mainGlobals "int" = some none)
    (b_isinstance : PySem.W.nsIn K mainGlobals "isinstance" = some none)
    (b_len : PySem.W.nsIn K mainGlobals "len" = some none)
    (b_range : PySem.W.nsIn K mainGlobals "range" = some none)
    (b_repr : PySem.W.nsIn K mainGlobals "repr" = some none)
    (b_str : PySem.W.nsIn K mainGlobals "str" = some none) : Txt K mg where
  d_shown := ⟨_, _, PySem.W.mg_of X G a_shown, fun_mk l_shown c_shown k_shown, (fun_mk (st := (top 1)) l_shown c_shown k_shown).binds fun _ _ _ _ _ _ us hl => match us, hl with | [_], _ => rfl⟩
  a_SayError := C_SayError
  g_SayError := PySem.W.mg_of X G a_SayError
  C_SayError := ⟨PySem.W.mg_of X G a_SayError, sp_SayError, rd_SayError, v_SayError⟩
  a_BadRoom := C_BadRoom
  g_BadRoom := PySem.W.mg_of X G a_BadRoom
  x_BadRoom := ⟨ga_BadRoom, gg_BadRoom, e_BadRoom, h_BadRoom, cl_BadRoom, gs1, gs2, m_BadRoom⟩
  n_BadRoom_part := n_BadRoom_part
  C_BadRoom := { gC := PySem.W.mg_of X G a_BadRoom, T := ⟨⟨_, _, _, _, _, _, _, _, _, _, _, _, _, _, _, x_BadRoom, rfl⟩, sa_BadRoom, e_BadRoom, t_BadRoom, kc_BadRoom⟩, ini := ⟨_, _, i1_BadRoom, i2_BadRoom, (fun_mk (st := ((clsBody (top 3)).getD 0 (.Pass ⟨0, 0, 0, 0⟩))) l_BadRoom c_BadRoom ki_BadRoom), (fun_mk (st := ((clsBody (top 3)).getD 0 (.Pass ⟨0, 0, 0, 0⟩))) l_BadRoom c_BadRoom ki_BadRoom).binds fun _ _ _ _ _ _ us hl => match us, hl with | [_, _], _ => rfl, fun _ _ ws hl => match ws, hl with | [_], _ => BindsTo.of_eq rfl, fun _ _ ws hl => match ws, hl with | [_], _ => BindsTo.of_eq rfl⟩, X := ⟨ga_BadRoom, gg_BadRoom, e_BadRoom, h_BadRoom, cl_BadRoom, gs1, gs2, m_BadRoom⟩ }
  a_BadDeed := C_BadDeed
  g_BadDeed := PySem.W.mg_of X G a_BadDeed
  x_BadDeed := ⟨ga_BadDeed, gg_BadDeed, e_BadDeed, h_BadDeed, cl_BadDeed, gs1, gs2, m_BadDeed⟩
  n_BadDeed_part := n_BadDeed_part
  C_BadDeed := { gC := PySem.W.mg_of X G a_BadDeed, T := ⟨⟨_, _, _, _, _, _, _, _, _, _, _, _, _, _, _, x_BadDeed, rfl⟩, sa_BadDeed, e_BadDeed, t_BadDeed, kc_BadDeed⟩, ini := ⟨_, _, i1_BadDeed, i2_BadDeed, (fun_mk (st := ((clsBody (top 4)).getD 0 (.Pass ⟨0, 0, 0, 0⟩))) l_BadDeed c_BadDeed ki_BadDeed), (fun_mk (st := ((clsBody (top 4)).getD 0 (.Pass ⟨0, 0, 0, 0⟩))) l_BadDeed c_BadDeed ki_BadDeed).binds fun _ _ _ _ _ _ us hl => match us, hl with | [_, _], _ => rfl, fun _ _ ws hl => match ws, hl with | [_], _ => BindsTo.of_eq rfl, fun _ _ ws hl => match ws, hl with | [_], _ => BindsTo.of_eq rfl⟩, X := ⟨ga_BadDeed, gg_BadDeed, e_BadDeed, h_BadDeed, cl_BadDeed, gs1, gs2, m_BadDeed⟩ }
  a_BadLoose := C_BadLoose
  g_BadLoose := PySem.W.mg_of X G a_BadLoose
  x_BadLoose := ⟨ga_BadLoose, gg_BadLoose, e_BadLoose, h_BadLoose, cl_BadLoose, gs1, gs2, m_BadLoose⟩
  n_BadLoose_part := n_BadLoose_part
  C_BadLoose := { gC := PySem.W.mg_of X G a_BadLoose, T := ⟨⟨_, _, _, _, _, _, _, _, _, _, _, _, _, _, _, x_BadLoose, rfl⟩, sa_BadLoose, e_BadLoose, t_BadLoose, kc_BadLoose⟩, ini := ⟨_, _, i1_BadLoose, i2_BadLoose, (fun_mk (st := ((clsBody (top 5)).getD 0 (.Pass ⟨0, 0, 0, 0⟩))) l_BadLoose c_BadLoose ki_BadLoose), (fun_mk (st := ((clsBody (top 5)).getD 0 (.Pass ⟨0, 0, 0, 0⟩))) l_BadLoose c_BadLoose ki_BadLoose).binds fun _ _ _ _ _ _ us hl => match us, hl with | [_, _], _ => rfl, fun _ _ ws hl => match ws, hl with | [_], _ => BindsTo.of_eq rfl, fun _ _ ws hl => match ws, hl with | [_], _ => BindsTo.of_eq rfl⟩, X := ⟨ga_BadLoose, gg_BadLoose, e_BadLoose, h_BadLoose, cl_BadLoose, gs1, gs2, m_BadLoose⟩ }
  a_BadSaying := C_BadSaying
  g_BadSaying := PySem.W.mg_of X G a_BadSaying
  x_BadSaying := ⟨ga_BadSaying, gg_BadSaying, e_BadSaying, h_BadSaying, cl_BadSaying, gs1, gs2, m_BadSaying⟩
  n_BadSaying_part := n_BadSaying_part
  C_BadSaying := { gC := PySem.W.mg_of X G a_BadSaying, T := ⟨⟨_, _, _, _, _, _, _, _, _, _, _, _, _, _, _, x_BadSaying, rfl⟩, sa_BadSaying, e_BadSaying, t_BadSaying, kc_BadSaying⟩, ini := ⟨_, _, i1_BadSaying, i2_BadSaying, (fun_mk (st := ((clsBody (top 6)).getD 0 (.Pass ⟨0, 0, 0, 0⟩))) l_BadSaying c_BadSaying ki_BadSaying), (fun_mk (st := ((clsBody (top 6)).getD 0 (.Pass ⟨0, 0, 0, 0⟩))) l_BadSaying c_BadSaying ki_BadSaying).binds fun _ _ _ _ _ _ us hl => match us, hl with | [_, _], _ => rfl, fun _ _ ws hl => match ws, hl with | [_], _ => BindsTo.of_eq rfl, fun _ _ ws hl => match ws, hl with | [_], _ => BindsTo.of_eq rfl⟩, X := ⟨ga_BadSaying, gg_BadSaying, e_BadSaying, h_BadSaying, cl_BadSaying, gs1, gs2, m_BadSaying⟩ }
  a_BadBook := C_BadBook
  g_BadBook := PySem.W.mg_of X G a_BadBook
  x_BadBook := ⟨ga_BadBook, gg_BadBook, e_BadBook, h_BadBook, cl_BadBook, gs1, gs2, m_BadBook⟩
  n_BadBook_part := n_BadBook_part
  C_BadBook := { gC := PySem.W.mg_of X G a_BadBook, T := ⟨⟨_, _, _, _, _, _, _, _, _, _, _, _, _, _, _, x_BadBook, rfl⟩, sa_BadBook, e_BadBook, t_BadBook, kc_BadBook⟩, ini := ⟨_, _, i1_BadBook, i2_BadBook, (fun_mk (st := ((clsBody (top 7)).getD 0 (.Pass ⟨0, 0, 0, 0⟩))) l_BadBook c_BadBook ki_BadBook), (fun_mk (st := ((clsBody (top 7)).getD 0 (.Pass ⟨0, 0, 0, 0⟩))) l_BadBook c_BadBook ki_BadBook).binds fun _ _ _ _ _ _ us hl => match us, hl with | [_, _], _ => rfl, fun _ _ ws hl => match ws, hl with | [_], _ => BindsTo.of_eq rfl, fun _ _ ws hl => match ws, hl with | [_], _ => BindsTo.of_eq rfl⟩, X := ⟨ga_BadBook, gg_BadBook, e_BadBook, h_BadBook, cl_BadBook, gs1, gs2, m_BadBook⟩ }
  a_BadPlace := C_BadPlace
  g_BadPlace := PySem.W.mg_of X G a_BadPlace
  x_BadPlace := ⟨ga_BadPlace, gg_BadPlace, e_BadPlace, h_BadPlace, cl_BadPlace, gs1, gs2, m_BadPlace⟩
  n_BadPlace_part := n_BadPlace_part
  C_BadPlace := { gC := PySem.W.mg_of X G a_BadPlace, T := ⟨⟨_, _, _, _, _, _, _, _, _, _, _, _, _, _, _, x_BadPlace, rfl⟩, sa_BadPlace, e_BadPlace, t_BadPlace, kc_BadPlace⟩, ini := ⟨_, _, i1_BadPlace, i2_BadPlace, (fun_mk (st := ((clsBody (top 8)).getD 0 (.Pass ⟨0, 0, 0, 0⟩))) l_BadPlace c_BadPlace ki_BadPlace), (fun_mk (st := ((clsBody (top 8)).getD 0 (.Pass ⟨0, 0, 0, 0⟩))) l_BadPlace c_BadPlace ki_BadPlace).binds fun _ _ _ _ _ _ us hl => match us, hl with | [_, _], _ => rfl, fun _ _ ws hl => match ws, hl with | [_], _ => BindsTo.of_eq rfl, fun _ _ ws hl => match ws, hl with | [_], _ => BindsTo.of_eq rfl⟩, X := ⟨ga_BadPlace, gg_BadPlace, e_BadPlace, h_BadPlace, cl_BadPlace, gs1, gs2, m_BadPlace⟩ }
  a_BadTie := C_BadTie
  g_BadTie := PySem.W.mg_of X G a_BadTie
  x_BadTie := ⟨ga_BadTie, gg_BadTie, e_BadTie, h_BadTie, cl_BadTie, gs1, gs2, m_BadTie⟩
  n_BadTie_part := n_BadTie_part
  C_BadTie := { gC := PySem.W.mg_of X G a_BadTie, T := ⟨⟨_, _, _, _, _, _, _, _, _, _, _, _, _, _, _, x_BadTie, rfl⟩, sa_BadTie, e_BadTie, t_BadTie, kc_BadTie⟩, ini := ⟨_, _, i1_BadTie, i2_BadTie, (fun_mk (st := ((clsBody (top 9)).getD 0 (.Pass ⟨0, 0, 0, 0⟩))) l_BadTie c_BadTie ki_BadTie), (fun_mk (st := ((clsBody (top 9)).getD 0 (.Pass ⟨0, 0, 0, 0⟩))) l_BadTie c_BadTie ki_BadTie).binds fun _ _ _ _ _ _ us hl => match us, hl with | [_, _], _ => rfl, fun _ _ ws hl => match ws, hl with | [_], _ => BindsTo.of_eq rfl, fun _ _ ws hl => match ws, hl with | [_], _ => BindsTo.of_eq rfl⟩, X := ⟨ga_BadTie, gg_BadTie, e_BadTie, h_BadTie, cl_BadTie, gs1, gs2, m_BadTie⟩ }
  a_BadPriced := C_BadPriced
  g_BadPriced := PySem.W.mg_of X G a_BadPriced
  x_BadPriced := ⟨ga_BadPriced, gg_BadPriced, e_BadPriced, h_BadPriced, cl_BadPriced, gs1, gs2, m_BadPriced⟩
  n_BadPriced_part := n_BadPriced_part
  C_BadPriced := { gC := PySem.W.mg_of X G a_BadPriced, T := ⟨⟨_, _, _, _, _, _, _, _, _, _, _, _, _, _, _, x_BadPriced, rfl⟩, sa_BadPriced, e_BadPriced, t_BadPriced, kc_BadPriced⟩, ini := ⟨_, _, i1_BadPriced, i2_BadPriced, (fun_mk (st := ((clsBody (top 10)).getD 0 (.Pass ⟨0, 0, 0, 0⟩))) l_BadPriced c_BadPriced ki_BadPriced), (fun_mk (st := ((clsBody (top 10)).getD 0 (.Pass ⟨0, 0, 0, 0⟩))) l_BadPriced c_BadPriced ki_BadPriced).binds fun _ _ _ _ _ _ us hl => match us, hl with | [_, _], _ => rfl, fun _ _ ws hl => match ws, hl with | [_], _ => BindsTo.of_eq rfl, fun _ _ ws hl => match ws, hl with | [_], _ => BindsTo.of_eq rfl⟩, X := ⟨ga_BadPriced, gg_BadPriced, e_BadPriced, h_BadPriced, cl_BadPriced, gs1, gs2, m_BadPriced⟩ }
  a_BadTalk := C_BadTalk
  g_BadTalk := PySem.W.mg_of X G a_BadTalk
  x_BadTalk := ⟨ga_BadTalk, gg_BadTalk, e_BadTalk, h_BadTalk, cl_BadTalk, gs1, gs2, m_BadTalk⟩
  n_BadTalk_part := n_BadTalk_part
  C_BadTalk := { gC := PySem.W.mg_of X G a_BadTalk, T := ⟨⟨_, _, _, _, _, _, _, _, _, _, _, _, _, _, _, x_BadTalk, rfl⟩, sa_BadTalk, e_BadTalk, t_BadTalk, kc_BadTalk⟩, ini := ⟨_, _, i1_BadTalk, i2_BadTalk, (fun_mk (st := ((clsBody (top 11)).getD 0 (.Pass ⟨0, 0, 0, 0⟩))) l_BadTalk c_BadTalk ki_BadTalk), (fun_mk (st := ((clsBody (top 11)).getD 0 (.Pass ⟨0, 0, 0, 0⟩))) l_BadTalk c_BadTalk ki_BadTalk).binds fun _ _ _ _ _ _ us hl => match us, hl with | [_, _], _ => rfl, fun _ _ ws hl => match ws, hl with | [_], _ => BindsTo.of_eq rfl, fun _ _ ws hl => match ws, hl with | [_], _ => BindsTo.of_eq rfl⟩, X := ⟨ga_BadTalk, gg_BadTalk, e_BadTalk, h_BadTalk, cl_BadTalk, gs1, gs2, m_BadTalk⟩ }
  a_BadTeller := C_BadTeller
  g_BadTeller := PySem.W.mg_of X G a_BadTeller
  x_BadTeller := ⟨ga_BadTeller, gg_BadTeller, e_BadTeller, h_BadTeller, cl_BadTeller, gs1, gs2, m_BadTeller⟩
  n_BadTeller_part := n_BadTeller_part
  C_BadTeller := { gC := PySem.W.mg_of X G a_BadTeller, T := ⟨⟨_, _, _, _, _, _, _, _, _, _, _, _, _, _, _, x_BadTeller, rfl⟩, sa_BadTeller, e_BadTeller, t_BadTeller, kc_BadTeller⟩, ini := ⟨_, _, i1_BadTeller, i2_BadTeller, (fun_mk (st := ((clsBody (top 12)).getD 0 (.Pass ⟨0, 0, 0, 0⟩))) l_BadTeller c_BadTeller ki_BadTeller), (fun_mk (st := ((clsBody (top 12)).getD 0 (.Pass ⟨0, 0, 0, 0⟩))) l_BadTeller c_BadTeller ki_BadTeller).binds fun _ _ _ _ _ _ us hl => match us, hl with | [_, _], _ => rfl, fun _ _ ws hl => match ws, hl with | [_], _ => BindsTo.of_eq rfl, fun _ _ ws hl => match ws, hl with | [_], _ => BindsTo.of_eq rfl⟩, X := ⟨ga_BadTeller, gg_BadTeller, e_BadTeller, h_BadTeller, cl_BadTeller, gs1, gs2, m_BadTeller⟩ }
  a_BadTranslation := C_BadTranslation
  g_BadTranslation := PySem.W.mg_of X G a_BadTranslation
  x_BadTranslation := ⟨ga_BadTranslation, gg_BadTranslation, e_BadTranslation, h_BadTranslation, cl_BadTranslation, gs1, gs2, m_BadTranslation⟩
  n_BadTranslation_part := n_BadTranslation_part
  C_BadTranslation := { gC := PySem.W.mg_of X G a_BadTranslation, T := ⟨⟨_, _, _, _, _, _, _, _, _, _, _, _, _, _, _, x_BadTranslation, rfl⟩, sa_BadTranslation, e_BadTranslation, t_BadTranslation, kc_BadTranslation⟩, ini := ⟨_, _, i1_BadTranslation, i2_BadTranslation, (fun_mk (st := ((clsBody (top 13)).getD 0 (.Pass ⟨0, 0, 0, 0⟩))) l_BadTranslation c_BadTranslation ki_BadTranslation), (fun_mk (st := ((clsBody (top 13)).getD 0 (.Pass ⟨0, 0, 0, 0⟩))) l_BadTranslation c_BadTranslation ki_BadTranslation).binds fun _ _ _ _ _ _ us hl => match us, hl with | [_, _], _ => rfl, fun _ _ ws hl => match ws, hl with | [_], _ => BindsTo.of_eq rfl, fun _ _ ws hl => match ws, hl with | [_], _ => BindsTo.of_eq rfl⟩, X := ⟨ga_BadTranslation, gg_BadTranslation, e_BadTranslation, h_BadTranslation, cl_BadTranslation, gs1, gs2, m_BadTranslation⟩ }
  a_BadNumbers := C_BadNumbers
  g_BadNumbers := PySem.W.mg_of X G a_BadNumbers
  x_BadNumbers := ⟨ga_BadNumbers, gg_BadNumbers, e_BadNumbers, h_BadNumbers, cl_BadNumbers, gs1, gs2, m_BadNumbers⟩
  n_BadNumbers_part := n_BadNumbers_part
  C_BadNumbers := { gC := PySem.W.mg_of X G a_BadNumbers, T := ⟨⟨_, _, _, _, _, _, _, _, _, _, _, _, _, _, _, x_BadNumbers, rfl⟩, sa_BadNumbers, e_BadNumbers, t_BadNumbers, kc_BadNumbers⟩, ini := ⟨_, _, i1_BadNumbers, i2_BadNumbers, (fun_mk (st := ((clsBody (top 14)).getD 0 (.Pass ⟨0, 0, 0, 0⟩))) l_BadNumbers c_BadNumbers ki_BadNumbers), (fun_mk (st := ((clsBody (top 14)).getD 0 (.Pass ⟨0, 0, 0, 0⟩))) l_BadNumbers c_BadNumbers ki_BadNumbers).binds fun _ _ _ _ _ _ us hl => match us, hl with | [_, _], _ => rfl, fun _ _ ws hl => match ws, hl with | [_], _ => BindsTo.of_eq rfl, fun _ _ ws hl => match ws, hl with | [_], _ => BindsTo.of_eq rfl⟩, X := ⟨ga_BadNumbers, gg_BadNumbers, e_BadNumbers, h_BadNumbers, cl_BadNumbers, gs1, gs2, m_BadNumbers⟩ }
  a_Missing := C_Missing
  g_Missing := PySem.W.mg_of X G a_Missing
  x_Missing := ⟨ga_Missing, gg_Missing, e_Missing, h_Missing, cl_Missing, gs1, gs2, m_Missing⟩
  n_Missing_name := n_Missing_name
  C_Missing := { gC := PySem.W.mg_of X G a_Missing, T := ⟨⟨_, _, _, _, _, _, _, _, _, _, _, _, _, _, _, x_Missing, rfl⟩, sa_Missing, e_Missing, t_Missing, kc_Missing⟩, ini := ⟨_, _, i1_Missing, i2_Missing, (fun_mk (st := ((clsBody (top 15)).getD 0 (.Pass ⟨0, 0, 0, 0⟩))) l_Missing c_Missing ki_Missing), (fun_mk (st := ((clsBody (top 15)).getD 0 (.Pass ⟨0, 0, 0, 0⟩))) l_Missing c_Missing ki_Missing).binds fun _ _ _ _ _ _ us hl => match us, hl with | [_, _], _ => rfl, fun _ _ ws hl => match ws, hl with | [_], _ => BindsTo.of_eq rfl, fun _ _ ws hl => match ws, hl with | [_], _ => BindsTo.of_eq rfl⟩, X := ⟨ga_Missing, gg_Missing, e_Missing, h_Missing, cl_Missing, gs1, gs2, m_Missing⟩ }
  a_NoThing := C_NoThing
  g_NoThing := PySem.W.mg_of X G a_NoThing
  x_NoThing := ⟨ga_NoThing, gg_NoThing, e_NoThing, h_NoThing, cl_NoThing, gs1, gs2, m_NoThing⟩
  n_NoThing_name := n_NoThing_name
  C_NoThing := { gC := PySem.W.mg_of X G a_NoThing, T := ⟨⟨_, _, _, _, _, _, _, _, _, _, _, _, _, _, _, x_NoThing, rfl⟩, sa_NoThing, e_NoThing, t_NoThing, kc_NoThing⟩, ini := ⟨_, _, i1_NoThing, i2_Missing, (fun_mk (st := ((clsBody (top 15)).getD 0 (.Pass ⟨0, 0, 0, 0⟩))) l_Missing c_Missing ki_Missing), (fun_mk (st := ((clsBody (top 15)).getD 0 (.Pass ⟨0, 0, 0, 0⟩))) l_Missing c_Missing ki_Missing).binds fun _ _ _ _ _ _ us hl => match us, hl with | [_, _], _ => rfl, fun _ _ ws hl => match ws, hl with | [_], _ => BindsTo.of_eq rfl, fun _ _ ws hl => match ws, hl with | [_], _ => BindsTo.of_eq rfl⟩, X := ⟨ga_NoThing, gg_NoThing, e_NoThing, h_NoThing, cl_NoThing, gs1, gs2, m_NoThing⟩ }
  a_NoWord := C_NoWord
  g_NoWord := PySem.W.mg_of X G a_NoWord
  x_NoWord := ⟨ga_NoWord, gg_NoWord, e_NoWord, h_NoWord, cl_NoWord, gs1, gs2, m_NoWord⟩
  n_NoWord_name := n_NoWord_name
  C_NoWord := { gC := PySem.W.mg_of X G a_NoWord, T := ⟨⟨_, _, _, _, _, _, _, _, _, _, _, _, _, _, _, x_NoWord, rfl⟩, sa_NoWord, e_NoWord, t_NoWord, kc_NoWord⟩, ini := ⟨_, _, i1_NoWord, i2_Missing, (fun_mk (st := ((clsBody (top 15)).getD 0 (.Pass ⟨0, 0, 0, 0⟩))) l_Missing c_Missing ki_Missing), (fun_mk (st := ((clsBody (top 15)).getD 0 (.Pass ⟨0, 0, 0, 0⟩))) l_Missing c_Missing ki_Missing).binds fun _ _ _ _ _ _ us hl => match us, hl with | [_, _], _ => rfl, fun _ _ ws hl => match ws, hl with | [_], _ => BindsTo.of_eq rfl, fun _ _ ws hl => match ws, hl with | [_], _ => BindsTo.of_eq rfl⟩, X := ⟨ga_NoWord, gg_NoWord, e_NoWord, h_NoWord, cl_NoWord, gs1, gs2, m_NoWord⟩ }
  a_NoLink := C_NoLink
  g_NoLink := PySem.W.mg_of X G a_NoLink
  x_NoLink := ⟨ga_NoLink, gg_NoLink, e_NoLink, h_NoLink, cl_NoLink, gs1, gs2, m_NoLink⟩
  n_NoLink_name := n_NoLink_name
  C_NoLink := { gC := PySem.W.mg_of X G a_NoLink, T := ⟨⟨_, _, _, _, _, _, _, _, _, _, _, _, _, _, _, x_NoLink, rfl⟩, sa_NoLink, e_NoLink, t_NoLink, kc_NoLink⟩, ini := ⟨_, _, i1_NoLink, i2_Missing, (fun_mk (st := ((clsBody (top 15)).getD 0 (.Pass ⟨0, 0, 0, 0⟩))) l_Missing c_Missing ki_Missing), (fun_mk (st := ((clsBody (top 15)).getD 0 (.Pass ⟨0, 0, 0, 0⟩))) l_Missing c_Missing ki_Missing).binds fun _ _ _ _ _ _ us hl => match us, hl with | [_, _], _ => rfl, fun _ _ ws hl => match ws, hl with | [_], _ => BindsTo.of_eq rfl, fun _ _ ws hl => match ws, hl with | [_], _ => BindsTo.of_eq rfl⟩, X := ⟨ga_NoLink, gg_NoLink, e_NoLink, h_NoLink, cl_NoLink, gs1, gs2, m_NoLink⟩ }
  a_NoScale := C_NoScale
  g_NoScale := PySem.W.mg_of X G a_NoScale
  x_NoScale := ⟨ga_NoScale, gg_NoScale, e_NoScale, h_NoScale, cl_NoScale, gs1, gs2, m_NoScale⟩
  n_NoScale_name := n_NoScale_name
  C_NoScale := { gC := PySem.W.mg_of X G a_NoScale, T := ⟨⟨_, _, _, _, _, _, _, _, _, _, _, _, _, _, _, x_NoScale, rfl⟩, sa_NoScale, e_NoScale, t_NoScale, kc_NoScale⟩, ini := ⟨_, _, i1_NoScale, i2_Missing, (fun_mk (st := ((clsBody (top 15)).getD 0 (.Pass ⟨0, 0, 0, 0⟩))) l_Missing c_Missing ki_Missing), (fun_mk (st := ((clsBody (top 15)).getD 0 (.Pass ⟨0, 0, 0, 0⟩))) l_Missing c_Missing ki_Missing).binds fun _ _ _ _ _ _ us hl => match us, hl with | [_, _], _ => rfl, fun _ _ ws hl => match ws, hl with | [_], _ => BindsTo.of_eq rfl, fun _ _ ws hl => match ws, hl with | [_], _ => BindsTo.of_eq rfl⟩, X := ⟨ga_NoScale, gg_NoScale, e_NoScale, h_NoScale, cl_NoScale, gs1, gs2, m_NoScale⟩ }
  a_NoWay := C_NoWay
  g_NoWay := PySem.W.mg_of X G a_NoWay
  x_NoWay := ⟨ga_NoWay, gg_NoWay, e_NoWay, h_NoWay, cl_NoWay, gs1, gs2, m_NoWay⟩
  n_NoWay_name := n_NoWay_name
  C_NoWay := { gC := PySem.W.mg_of X G a_NoWay, T := ⟨⟨_, _, _, _, _, _, _, _, _, _, _, _, _, _, _, x_NoWay, rfl⟩, sa_NoWay, e_NoWay, t_NoWay, kc_NoWay⟩, ini := ⟨_, _, i1_NoWay, i2_Missing, (fun_mk (st := ((clsBody (top 15)).getD 0 (.Pass ⟨0, 0, 0, 0⟩))) l_Missing c_Missing ki_Missing), (fun_mk (st := ((clsBody (top 15)).getD 0 (.Pass ⟨0, 0, 0, 0⟩))) l_Missing c_Missing ki_Missing).binds fun _ _ _ _ _ _ us hl => match us, hl with | [_, _], _ => rfl, fun _ _ ws hl => match ws, hl with | [_], _ => BindsTo.of_eq rfl, fun _ _ ws hl => match ws, hl with | [_], _ => BindsTo.of_eq rfl⟩, X := ⟨ga_NoWay, gg_NoWay, e_NoWay, h_NoWay, cl_NoWay, gs1, gs2, m_NoWay⟩ }
  a_NoName := C_NoName
  g_NoName := PySem.W.mg_of X G a_NoName
  x_NoName := ⟨ga_NoName, gg_NoName, e_NoName, h_NoName, cl_NoName, gs1, gs2, m_NoName⟩
  n_NoName_name := n_NoName_name
  C_NoName := { gC := PySem.W.mg_of X G a_NoName, T := ⟨⟨_, _, _, _, _, _, _, _, _, _, _, _, _, _, _, x_NoName, rfl⟩, sa_NoName, e_NoName, t_NoName, kc_NoName⟩, ini := ⟨_, _, i1_NoName, i2_Missing, (fun_mk (st := ((clsBody (top 15)).getD 0 (.Pass ⟨0, 0, 0, 0⟩))) l_Missing c_Missing ki_Missing), (fun_mk (st := ((clsBody (top 15)).getD 0 (.Pass ⟨0, 0, 0, 0⟩))) l_Missing c_Missing ki_Missing).binds fun _ _ _ _ _ _ us hl => match us, hl with | [_, _], _ => rfl, fun _ _ ws hl => match ws, hl with | [_], _ => BindsTo.of_eq rfl, fun _ _ ws hl => match ws, hl with | [_], _ => BindsTo.of_eq rfl⟩, X := ⟨ga_NoName, gg_NoName, e_NoName, h_NoName, cl_NoName, gs1, gs2, m_NoName⟩ }
  a_NotLet := C_NotLet
  g_NotLet := PySem.W.mg_of X G a_NotLet
  x_NotLet := ⟨ga_NotLet, gg_NotLet, e_NotLet, h_NotLet, cl_NotLet, gs1, gs2, m_NotLet⟩
  n_NotLet_way := n_NotLet_way
  n_NotLet_kind := n_NotLet_kind
  C_NotLet := { gC := PySem.W.mg_of X G a_NotLet, T := ⟨⟨_, _, _, _, _, _, _, _, _, _, _, _, _, _, _, x_NotLet, rfl⟩, sa_NotLet, e_NotLet, t_NotLet, kc_NotLet⟩, ini := ⟨_, _, i1_NotLet, i2_NotLet, (fun_mk (st := ((clsBody (top 22)).getD 0 (.Pass ⟨0, 0, 0, 0⟩))) l_NotLet c_NotLet ki_NotLet), (fun_mk (st := ((clsBody (top 22)).getD 0 (.Pass ⟨0, 0, 0, 0⟩))) l_NotLet c_NotLet ki_NotLet).binds fun _ _ _ _ _ _ us hl => match us, hl with | [_, _, _], _ => rfl, fun _ _ ws hl => match ws, hl with | [_, _], _ => BindsTo.of_eq rfl, fun _ _ ws hl => match ws, hl with | [_, _], _ => BindsTo.of_eq rfl⟩, X := ⟨ga_NotLet, gg_NotLet, e_NotLet, h_NotLet, cl_NotLet, gs1, gs2, m_NotLet⟩ }
  a_Twice := C_Twice
  g_Twice := PySem.W.mg_of X G a_Twice
  x_Twice := ⟨ga_Twice, gg_Twice, e_Twice, h_Twice, cl_Twice, gs1, gs2, m_Twice⟩
  n_Twice_name := n_Twice_name
  C_Twice := { gC := PySem.W.mg_of X G a_Twice, T := ⟨⟨_, _, _, _, _, _, _, _, _, _, _, _, _, _, _, x_Twice, rfl⟩, sa_Twice, e_Twice, t_Twice, kc_Twice⟩, ini := ⟨_, _, i1_Twice, i2_Twice, (fun_mk (st := ((clsBody (top 23)).getD 0 (.Pass ⟨0, 0, 0, 0⟩))) l_Twice c_Twice ki_Twice), (fun_mk (st := ((clsBody (top 23)).getD 0 (.Pass ⟨0, 0, 0, 0⟩))) l_Twice c_Twice ki_Twice).binds fun _ _ _ _ _ _ us hl => match us, hl with | [_, _], _ => rfl, fun _ _ ws hl => match ws, hl with | [_], _ => BindsTo.of_eq rfl, fun _ _ ws hl => match ws, hl with | [_], _ => BindsTo.of_eq rfl⟩, X := ⟨ga_Twice, gg_Twice, e_Twice, h_Twice, cl_Twice, gs1, gs2, m_Twice⟩ }
  a_Unlike := C_Unlike
  g_Unlike := PySem.W.mg_of X G a_Unlike
  x_Unlike := ⟨ga_Unlike, gg_Unlike, e_Unlike, h_Unlike, cl_Unlike, gs1, gs2, m_Unlike⟩
  n_Unlike_what := n_Unlike_what
  C_Unlike := { gC := PySem.W.mg_of X G a_Unlike, T := ⟨⟨_, _, _, _, _, _, _, _, _, _, _, _, _, _, _, x_Unlike, rfl⟩, sa_Unlike, e_Unlike, t_Unlike, kc_Unlike⟩, ini := ⟨_, _, i1_Unlike, i2_Unlike, (fun_mk (st := ((clsBody (top 24)).getD 0 (.Pass ⟨0, 0, 0, 0⟩))) l_Unlike c_Unlike ki_Unlike), (fun_mk (st := ((clsBody (top 24)).getD 0 (.Pass ⟨0, 0, 0, 0⟩))) l_Unlike c_Unlike ki_Unlike).binds fun _ _ _ _ _ _ us hl => match us, hl with | [_, _], _ => rfl, fun _ _ ws hl => match ws, hl with | [_], _ => BindsTo.of_eq rfl, fun _ _ ws hl => match ws, hl with | [_], _ => BindsTo.of_eq rfl⟩, X := ⟨ga_Unlike, gg_Unlike, e_Unlike, h_Unlike, cl_Unlike, gs1, gs2, m_Unlike⟩ }
  a_Nothing := C_Nothing
  g_Nothing := PySem.W.mg_of X G a_Nothing
  x_Nothing := ⟨ga_Nothing, gg_Nothing, e_Nothing, h_Nothing, cl_Nothing, gs1, gs2, m_Nothing⟩
  q_Nothing := ⟨⟨_, q_Nothing, PySem.F.excBase_ValueError⟩, kc_Nothing⟩
  a_TooMany := C_TooMany
  g_TooMany := PySem.W.mg_of X G a_TooMany
  x_TooMany := ⟨ga_TooMany, gg_TooMany, e_TooMany, h_TooMany, cl_TooMany, gs1, gs2, m_TooMany⟩
  n_TooMany_what := n_TooMany_what
  n_TooMany_most := n_TooMany_most
  C_TooMany := { gC := PySem.W.mg_of X G a_TooMany, T := ⟨⟨_, _, _, _, _, _, _, _, _, _, _, _, _, _, _, x_TooMany, rfl⟩, sa_TooMany, e_TooMany, t_TooMany, kc_TooMany⟩, ini := ⟨_, _, i1_TooMany, i2_TooMany, (fun_mk (st := ((clsBody (top 26)).getD 0 (.Pass ⟨0, 0, 0, 0⟩))) l_TooMany c_TooMany ki_TooMany), (fun_mk (st := ((clsBody (top 26)).getD 0 (.Pass ⟨0, 0, 0, 0⟩))) l_TooMany c_TooMany ki_TooMany).binds fun _ _ _ _ _ _ us hl => match us, hl with | [_, _, _], _ => rfl, fun _ _ ws hl => match ws, hl with | [_, _], _ => BindsTo.of_eq rfl, fun _ _ ws hl => match ws, hl with | [_, _], _ => BindsTo.of_eq rfl⟩, X := ⟨ga_TooMany, gg_TooMany, e_TooMany, h_TooMany, cl_TooMany, gs1, gs2, m_TooMany⟩ }
  a_BadText := C_BadText
  g_BadText := PySem.W.mg_of X G a_BadText
  x_BadText := ⟨ga_BadText, gg_BadText, e_BadText, h_BadText, cl_BadText, gs1, gs2, m_BadText⟩
  n_BadText_line := n_BadText_line
  n_BadText_word := n_BadText_word
  C_BadText := { gC := PySem.W.mg_of X G a_BadText, T := ⟨⟨_, _, _, _, _, _, _, _, _, _, _, _, _, _, _, x_BadText, rfl⟩, sa_BadText, e_BadText, t_BadText, kc_BadText⟩, ini := ⟨_, _, i1_BadText, i2_BadText, (fun_mk (st := ((clsBody (top 27)).getD 0 (.Pass ⟨0, 0, 0, 0⟩))) l_BadText c_BadText ki_BadText), (fun_mk (st := ((clsBody (top 27)).getD 0 (.Pass ⟨0, 0, 0, 0⟩))) l_BadText c_BadText ki_BadText).binds fun _ _ _ _ _ _ us hl => match us, hl with | [_, _, _], _ => rfl, fun _ _ ws hl => match ws, hl with | [_, _], _ => BindsTo.of_eq rfl, fun _ _ ws hl => match ws, hl with | [_, _], _ => BindsTo.of_eq rfl⟩, X := ⟨ga_BadText, gg_BadText, e_BadText, h_BadText, cl_BadText, gs1, gs2, m_BadText⟩ }
  a_BadLine := C_BadLine
  g_BadLine := PySem.W.mg_of X G a_BadLine
  x_BadLine := ⟨ga_BadLine, gg_BadLine, e_BadLine, h_BadLine, cl_BadLine, gs1, gs2, m_BadLine⟩
  n_BadLine_line := n_BadLine_line
  n_BadLine_error := n_BadLine_error
  C_BadLine := { gC := PySem.W.mg_of X G a_BadLine, T := ⟨⟨_, _, _, _, _, _, _, _, _, _, _, _, _, _, _, x_BadLine, rfl⟩, sa_BadLine, e_BadLine, t_BadLine, kc_BadLine⟩, ini := ⟨_, _, i1_BadLine, i2_BadLine, (fun_mk (st := ((clsBody (top 28)).getD 0 (.Pass ⟨0, 0, 0, 0⟩))) l_BadLine c_BadLine ki_BadLine), (fun_mk (st := ((clsBody (top 28)).getD 0 (.Pass ⟨0, 0, 0, 0⟩))) l_BadLine c_BadLine ki_BadLine).binds fun _ _ _ _ _ _ us hl => match us, hl with | [_, _, _], _ => rfl, fun _ _ ws hl => match ws, hl with | [_, _], _ => BindsTo.of_eq rfl, fun _ _ ws hl => match ws, hl with | [_, _], _ => BindsTo.of_eq rfl⟩, X := ⟨ga_BadLine, gg_BadLine, e_BadLine, h_BadLine, cl_BadLine, gs1, gs2, m_BadLine⟩ }
  d_l_jar := ⟨_, _, PySem.W.mg_of X G a_l_jar, fun_mk l_l_jar c_l_jar k_l_jar, (fun_mk (st := (top 30)) l_l_jar c_l_jar k_l_jar).binds fun _ _ _ _ _ _ us hl => match us, hl with | [_], _ => rfl⟩
  d_l_dip := ⟨_, _, PySem.W.mg_of X G a_l_dip, fun_mk l_l_dip c_l_dip k_l_dip, (fun_mk (st := (top 31)) l_l_dip c_l_dip k_l_dip).binds fun _ _ _ _ _ _ us hl => match us, hl with | [_, _], _ => rfl⟩
  d_l_some := ⟨_, _, PySem.W.mg_of X G a_l_some, fun_mk l_l_some c_l_some k_l_some, (fun_mk (st := (top 32)) l_l_some c_l_some k_l_some).binds fun _ _ _ _ _ _ us hl => match us, hl with | [_, _], _ => rfl⟩
  d_l_parts := ⟨_, _, PySem.W.mg_of X G a_l_parts, fun_mk l_l_parts c_l_parts k_l_parts, (fun_mk (st := (top 33)) l_l_parts c_l_parts k_l_parts).binds fun _ _ _ _ _ _ us hl => match us, hl with | [_], _ => rfl⟩
  d_l_parts_turned := ⟨_, _, PySem.W.mg_of X G a_l_parts_turned, fun_mk l_l_parts_turned c_l_parts_turned k_l_parts_turned, (fun_mk (st := (top 34)) l_l_parts_turned c_l_parts_turned k_l_parts_turned).binds fun _ _ _ _ _ _ us hl => match us, hl with | [_], _ => rfl⟩
  d_l_others := ⟨_, _, PySem.W.mg_of X G a_l_others, fun_mk l_l_others c_l_others k_l_others, (fun_mk (st := (top 35)) l_l_others c_l_others k_l_others).binds fun _ _ _ _ _ _ us hl => match us, hl with | [_, _], _ => rfl⟩
  d_l_others_named := ⟨_, _, PySem.W.mg_of X G a_l_others_named, fun_mk l_l_others_named c_l_others_named k_l_others_named, (fun_mk (st := (top 36)) l_l_others_named c_l_others_named k_l_others_named).binds fun _ _ _ _ _ _ us hl => match us, hl with | [_, _], _ => rfl⟩
  d_l_fields := ⟨_, _, PySem.W.mg_of X G a_l_fields, fun_mk l_l_fields c_l_fields k_l_fields, (fun_mk (st := (top 37)) l_l_fields c_l_fields k_l_fields).binds fun _ _ _ _ _ _ us hl => match us, hl with | [_, _], _ => rfl⟩
  d_l_kin := ⟨_, _, PySem.W.mg_of X G a_l_kin, fun_mk l_l_kin c_l_kin k_l_kin, (fun_mk (st := (top 38)) l_l_kin c_l_kin k_l_kin).binds fun _ _ _ _ _ _ us hl => match us, hl with | [_], _ => rfl⟩
  d_l_stands_right := ⟨_, _, PySem.W.mg_of X G a_l_stands_right, fun_mk l_l_stands_right c_l_stands_right k_l_stands_right, (fun_mk (st := (top 39)) l_l_stands_right c_l_stands_right k_l_stands_right).binds fun _ _ _ _ _ _ us hl => match us, hl with | [_, _], _ => rfl⟩
  d_l_all_right := ⟨_, _, PySem.W.mg_of X G a_l_all_right, fun_mk l_l_all_right c_l_all_right k_l_all_right, (fun_mk (st := (top 40)) l_l_all_right c_l_all_right k_l_all_right).binds fun _ _ _ _ _ _ us hl => match us, hl with | [_, _, _], _ => rfl⟩
  d_law := ⟨_, _, PySem.W.mg_of X G a_law, fun_mk l_law c_law k_law, (fun_mk (st := (top 41)) l_law c_law k_law).binds fun _ _ _ _ _ _ us hl => match us, hl with | [_], _ => rfl⟩
  kt1 := kt1
  kt2 := kt2
  b_ArithmeticError := PySem.W.mg_none_of X G b_ArithmeticError
  b_AttributeError := PySem.W.mg_none_of X G b_AttributeError
  b_LookupError := PySem.W.mg_none_of X G b_LookupError
  b_RuntimeError := PySem.W.mg_none_of X G b_RuntimeError
  b_TypeError := PySem.W.mg_none_of X G b_TypeError
  b_ValueError := PySem.W.mg_none_of X G b_ValueError
  b_abs := PySem.W.mg_none_of X G b_abs
  b_enumerate := PySem.W.mg_none_of X G b_enumerate
  b_int := PySem.W.mg_none_of X G b_int
  b_isinstance := PySem.W.mg_none_of X G b_isinstance
  b_len := PySem.W.mg_none_of X G b_len
  b_range := PySem.W.mg_none_of X G b_range
  b_repr := PySem.W.mg_none_of X G b_repr
  b_str := PySem.W.mg_none_of X G b_str
end K00
open PySem PySem.W PyProof.Rows
set_option maxRecDepth 100000 in
set_option maxHeartbeats 0 in
theorem PySem.Challenge.cw_sayable_k00_errors_keep_their_fields_holds : PySem.Challenge.rw_sayable_k00_errors_keep_their_fields.Holds := by
  w_on; o_law; k_head; (case hw => w_witness2)
  k_fill
  refine Fv.lawWalk (l := PySem.Challenge.rw_sayable_k00_errors_keep_their_fields) (n := 63) (k := 5) (by kernel_rfl) rfl (by decide) rfl ⟨⟨rfl, by decide, by decide⟩, rfl⟩ (fun w h Y => PySem.W.kIn_of Y) ?F (fun ns hl => K00.says ns hl)
  case F =>
    intro w mg h KX G base _ _ sy
    refine' K00.ok_law (K00.txt_mk KX G ?a_shown ?l_shown ?c_shown ?k_shown ?a_SayError ?sp_SayError ?rd_SayError ?v_SayError ?a_BadRoom ?ga_BadRoom ?gg_BadRoom ?e_BadRoom ?h_BadRoom ?cl_BadRoom ?m_BadRoom ?kc_BadRoom ?x_BadRoom ?sa_BadRoom ?t_BadRoom ?n_BadRoom_part ?i1_BadRoom ?i2_BadRoom ?l_BadRoom ?c_BadRoom ?ki_BadRoom ?a_BadDeed ?ga_BadDeed ?gg_BadDeed ?e_BadDeed ?h_BadDeed ?cl_BadDeed ?m_BadDeed ?kc_BadDeed ?x_BadDeed ?sa_BadDeed ?t_BadDeed ?n_BadDeed_part ?i1_BadDeed ?i2_BadDeed ?l_BadDeed ?c_BadDeed ?ki_BadDeed ?a_BadLoose ?ga_BadLoose ?gg_BadLoose ?e_BadLoose ?h_BadLoose ?cl_BadLoose ?m_BadLoose ?kc_BadLoose ?x_BadLoose ?sa_BadLoose ?t_BadLoose ?n_BadLoose_part ?i1_BadLoose ?i2_BadLoose ?l_BadLoose ?c_BadLoose ?ki_BadLoose ?a_BadSaying ?ga_BadSaying ?gg_BadSaying ?e_BadSaying ?h_BadSaying ?cl_BadSaying ?m_BadSaying ?kc_BadSaying ?x_BadSaying ?sa_BadSaying ?t_BadSaying ?n_BadSaying_part ?i1_BadSaying ?i2_BadSaying ?l_BadSaying ?c_BadSaying ?ki_BadSaying ?a_BadBook ?ga_BadBook ?gg_BadBook ?e_BadBook ?h_BadBook ?cl_BadBook ?m_BadBook ?kc_BadBook ?x_BadBook ?sa_BadBook ?t_BadBook ?n_BadBook_part ?i1_BadBook ?i2_BadBook ?l_BadBook ?c_BadBook ?ki_BadBook ?a_BadPlace ?ga_BadPlace ?gg_BadPlace ?e_BadPlace ?h_BadPlace ?cl_BadPlace ?m_BadPlace ?kc_BadPlace ?x_BadPlace ?sa_BadPlace ?t_BadPlace ?n_BadPlace_part ?i1_BadPlace ?i2_BadPlace ?l_BadPlace ?c_BadPlace ?ki_BadPlace ?a_BadTie ?ga_BadTie ?gg_BadTie ?e_BadTie ?h_BadTie ?cl_BadTie ?m_BadTie ?kc_BadTie ?x_BadTie ?sa_BadTie ?t_BadTie ?n_BadTie_part ?i1_BadTie ?i2_BadTie ?l_BadTie ?c_BadTie ?ki_BadTie ?a_BadPriced ?ga_BadPriced ?gg_BadPriced ?e_BadPriced ?h_BadPriced ?cl_BadPriced ?m_BadPriced ?kc_BadPriced ?x_BadPriced ?sa_BadPriced ?t_BadPriced ?n_BadPriced_part ?i1_BadPriced ?i2_BadPriced ?l_BadPriced ?c_BadPriced ?ki_BadPriced ?a_BadTalk ?ga_BadTalk ?gg_BadTalk ?e_BadTalk ?h_BadTalk ?cl_BadTalk ?m_BadTalk ?kc_BadTalk ?x_BadTalk ?sa_BadTalk ?t_BadTalk ?n_BadTalk_part ?i1_BadTalk ?i2_BadTalk ?l_BadTalk ?c_BadTalk ?ki_BadTalk ?a_BadTeller ?ga_BadTeller ?gg_BadTeller ?e_BadTeller ?h_BadTeller ?cl_BadTeller ?m_BadTeller ?kc_BadTeller ?x_BadTeller ?sa_BadTeller ?t_BadTeller ?n_BadTeller_part ?i1_BadTeller ?i2_BadTeller ?l_BadTeller ?c_BadTeller ?ki_BadTeller ?a_BadTranslation ?ga_BadTranslation ?gg_BadTranslation ?e_BadTranslation ?h_BadTranslation ?cl_BadTranslation ?m_BadTranslation ?kc_BadTranslation ?x_BadTranslation ?sa_BadTranslation ?t_BadTranslation ?n_BadTranslation_part ?i1_BadTranslation ?i2_BadTranslation ?l_BadTranslation ?c_BadTranslation ?ki_BadTranslation ?a_BadNumbers ?ga_BadNumbers ?gg_BadNumbers ?e_BadNumbers ?h_BadNumbers ?cl_BadNumbers ?m_BadNumbers ?kc_BadNumbers ?x_BadNumbers ?sa_BadNumbers ?t_BadNumbers ?n_BadNumbers_part ?i1_BadNumbers ?i2_BadNumbers ?l_BadNumbers ?c_BadNumbers ?ki_BadNumbers ?a_Missing ?ga_Missing ?gg_Missing ?e_Missing ?h_Missing ?cl_Missing ?m_Missing ?kc_Missing ?x_Missing ?sa_Missing ?t_Missing ?n_Missing_name ?i1_Missing ?i2_Missing ?l_Missing ?c_Missing ?ki_Missing ?a_NoThing ?ga_NoThing ?gg_NoThing ?e_NoThing ?h_NoThing ?cl_NoThing ?m_NoThing ?kc_NoThing ?x_NoThing ?sa_NoThing ?t_NoThing ?n_NoThing_name ?i1_NoThing ?a_NoWord ?ga_NoWord ?gg_NoWord ?e_NoWord ?h_NoWord ?cl_NoWord ?m_NoWord ?kc_NoWord ?x_NoWord ?sa_NoWord ?t_NoWord ?n_NoWord_name ?i1_NoWord ?a_NoLink ?ga_NoLink ?gg_NoLink ?e_NoLink ?h_NoLink ?cl_NoLink ?m_NoLink ?kc_NoLink ?x_NoLink ?sa_NoLink ?t_NoLink ?n_NoLink_name ?i1_NoLink ?a_NoScale ?ga_NoScale ?gg_NoScale ?e_NoScale ?h_NoScale ?cl_NoScale ?m_NoScale ?kc_NoScale ?x_NoScale ?sa_NoScale ?t_NoScale ?n_NoScale_name ?i1_NoScale ?a_NoWay ?ga_NoWay ?gg_NoWay ?e_NoWay ?h_NoWay ?cl_NoWay ?m_NoWay ?kc_NoWay ?x_NoWay ?sa_NoWay ?t_NoWay ?n_NoWay_name ?i1_NoWay ?a_NoName ?ga_NoName ?gg_NoName ?e_NoName ?h_NoName ?cl_NoName ?m_NoName ?kc_NoName ?x_NoName ?sa_NoName ?t_NoName ?n_NoName_name ?i1_NoName ?a_NotLet ?ga_NotLet ?gg_NotLet ?e_NotLet ?h_NotLet ?cl_NotLet ?m_NotLet ?kc_NotLet ?x_NotLet ?sa_NotLet ?t_NotLet ?n_NotLet_way ?n_NotLet_kind ?i1_NotLet ?i2_NotLet ?l_NotLet ?c_NotLet ?ki_NotLet ?a_Twice ?ga_Twice ?gg_Twice ?e_Twice ?h_Twice ?cl_Twice ?m_Twice ?kc_Twice ?x_Twice ?sa_Twice ?t_Twice ?n_Twice_name ?i1_Twice ?i2_Twice ?l_Twice ?c_Twice ?ki_Twice ?a_Unlike ?ga_Unlike ?gg_Unlike ?e_Unlike ?h_Unlike ?cl_Unlike ?m_Unlike ?kc_Unlike ?x_Unlike ?sa_Unlike ?t_Unlike ?n_Unlike_what ?i1_Unlike ?i2_Unlike ?l_Unlike ?c_Unlike ?ki_Unlike ?a_Nothing ?ga_Nothing ?gg_Nothing ?e_Nothing ?h_Nothing ?cl_Nothing ?m_Nothing ?kc_Nothing ?q_Nothing ?a_TooMany ?ga_TooMany ?gg_TooMany ?e_TooMany ?h_TooMany ?cl_TooMany ?m_TooMany ?kc_TooMany ?x_TooMany ?sa_TooMany ?t_TooMany ?n_TooMany_what ?n_TooMany_most ?i1_TooMany ?i2_TooMany ?l_TooMany ?c_TooMany ?ki_TooMany ?a_BadText ?ga_BadText ?gg_BadText ?e_BadText ?h_BadText ?cl_BadText ?m_BadText ?kc_BadText ?x_BadText ?sa_BadText ?t_BadText ?n_BadText_line ?n_BadText_word ?i1_BadText ?i2_BadText ?l_BadText ?c_BadText ?ki_BadText ?a_BadLine ?ga_BadLine ?gg_BadLine ?e_BadLine ?h_BadLine ?cl_BadLine ?m_BadLine ?kc_BadLine ?x_BadLine ?sa_BadLine ?t_BadLine ?n_BadLine_line ?n_BadLine_error ?i1_BadLine ?i2_BadLine ?l_BadLine ?c_BadLine ?ki_BadLine ?a_l_jar ?l_l_jar ?c_l_jar ?k_l_jar ?a_l_dip ?l_l_dip ?c_l_dip ?k_l_dip ?a_l_some ?l_l_some ?c_l_some ?k_l_some ?a_l_parts ?l_l_parts ?c_l_parts ?k_l_parts ?a_l_parts_turned ?l_l_parts_turned ?c_l_parts_turned ?k_l_parts_turned ?a_l_others ?l_l_others ?c_l_others ?k_l_others ?a_l_others_named ?l_l_others_named ?c_l_others_named ?k_l_others_named ?a_l_fields ?l_l_fields ?c_l_fields ?k_l_fields ?a_l_kin ?l_l_kin ?c_l_kin ?k_l_kin ?a_l_stands_right ?l_l_stands_right ?c_l_stands_right ?k_l_stands_right ?a_l_all_right ?l_l_all_right ?c_l_all_right ?k_l_all_right ?a_law ?l_law ?c_law ?k_law ?gs1 ?gs2 ?kt1 ?kt2 ?b_ArithmeticError ?b_AttributeError ?b_LookupError ?b_RuntimeError ?b_TypeError ?b_ValueError ?b_abs ?b_enumerate ?b_int ?b_isinstance ?b_len ?b_range ?b_repr ?b_str) sy
    (case a_shown => k_is)
    (case l_shown => k_is)
    (case c_shown => k_is)
    (case k_shown => k_is)
    (case a_SayError => k_is)
    (case sp_SayError => k_is)
    (case rd_SayError => k_is)
    (case v_SayError => k_is)
    (case a_BadRoom => k_is)
    (case ga_BadRoom => k_is)
    (case gg_BadRoom => k_is)
    (case e_BadRoom => k_is)
    (case h_BadRoom => k_is)
    (case cl_BadRoom => k_is)
    (case m_BadRoom => k_is)
    (case kc_BadRoom => k_is)
    (case x_BadRoom => k_is)
    (case sa_BadRoom => k_is)
    (case t_BadRoom => k_is)
    (case n_BadRoom_part => k_is)
    (case i1_BadRoom => k_is)
    (case i2_BadRoom => k_is)
    (case l_BadRoom => k_is)
    (case c_BadRoom => k_is)
    (case ki_BadRoom => k_is)
    (case a_BadDeed => k_is)
    (case ga_BadDeed => k_is)
    (case gg_BadDeed => k_is)
    (case e_BadDeed => k_is)
    (case h_BadDeed => k_is)
    (case cl_BadDeed => k_is)
    (case m_BadDeed => k_is)
    (case kc_BadDeed => k_is)
    (case x_BadDeed => k_is)
    (case sa_BadDeed => k_is)
    (case t_BadDeed => k_is)
    (case n_BadDeed_part => k_is)
    (case i1_BadDeed => k_is)
    (case i2_BadDeed => k_is)
    (case l_BadDeed => k_is)
    (case c_BadDeed => k_is)
    (case ki_BadDeed => k_is)
    (case a_BadLoose => k_is)
    (case ga_BadLoose => k_is)
    (case gg_BadLoose => k_is)
    (case e_BadLoose => k_is)
    (case h_BadLoose => k_is)
    (case cl_BadLoose => k_is)
    (case m_BadLoose => k_is)
    (case kc_BadLoose => k_is)
    (case x_BadLoose => k_is)
    (case sa_BadLoose => k_is)
    (case t_BadLoose => k_is)
    (case n_BadLoose_part => k_is)
    (case i1_BadLoose => k_is)
    (case i2_BadLoose => k_is)
    (case l_BadLoose => k_is)
    (case c_BadLoose => k_is)
    (case ki_BadLoose => k_is)
    (case a_BadSaying => k_is)
    (case ga_BadSaying => k_is)
    (case gg_BadSaying => k_is)
    (case e_BadSaying => k_is)
    (case h_BadSaying => k_is)
    (case cl_BadSaying => k_is)
    (case m_BadSaying => k_is)
    (case kc_BadSaying => k_is)
    (case x_BadSaying => k_is)
    (case sa_BadSaying => k_is)
    (case t_BadSaying => k_is)
    (case n_BadSaying_part => k_is)
    (case i1_BadSaying => k_is)
    (case i2_BadSaying => k_is)
    (case l_BadSaying => k_is)
    (case c_BadSaying => k_is)
    (case ki_BadSaying => k_is)
    (case a_BadBook => k_is)
    (case ga_BadBook => k_is)
    (case gg_BadBook => k_is)
    (case e_BadBook => k_is)
    (case h_BadBook => k_is)
    (case cl_BadBook => k_is)
    (case m_BadBook => k_is)
    (case kc_BadBook => k_is)
    (case x_BadBook => k_is)
    (case sa_BadBook => k_is)
    (case t_BadBook => k_is)
    (case n_BadBook_part => k_is)
    (case i1_BadBook => k_is)
    (case i2_BadBook => k_is)
    (case l_BadBook => k_is)
    (case c_BadBook => k_is)
    (case ki_BadBook => k_is)
    (case a_BadPlace => k_is)
    (case ga_BadPlace => k_is)
    (case gg_BadPlace => k_is)
    (case e_BadPlace => k_is)
    (case h_BadPlace => k_is)
    (case cl_BadPlace => k_is)
    (case m_BadPlace => k_is)
    (case kc_BadPlace => k_is)
    (case x_BadPlace => k_is)
    (case sa_BadPlace => k_is)
    (case t_BadPlace => k_is)
    (case n_BadPlace_part => k_is)
    (case i1_BadPlace => k_is)
    (case i2_BadPlace => k_is)
    (case l_BadPlace => k_is)
    (case c_BadPlace => k_is)
    (case ki_BadPlace => k_is)
    (case a_BadTie => k_is)
    (case ga_BadTie => k_is)
    (case gg_BadTie => k_is)
    (case e_BadTie => k_is)
    (case h_BadTie => k_is)
    (case cl_BadTie => k_is)
    (case m_BadTie => k_is)
    (case kc_BadTie => k_is)
    (case x_BadTie => k_is)
    (case sa_BadTie => k_is)
    (case t_BadTie => k_is)
    (case n_BadTie_part => k_is)
    (case i1_BadTie => k_is)
    (case i2_BadTie => k_is)
    (case l_BadTie => k_is)
    (case c_BadTie => k_is)
    (case ki_BadTie => k_is)
    (case a_BadPriced => k_is)
    (case ga_BadPriced => k_is)
    (case gg_BadPriced => k_is)
    (case e_BadPriced => k_is)
    (case h_BadPriced => k_is)
    (case cl_BadPriced => k_is)
    (case m_BadPriced => k_is)
    (case kc_BadPriced => k_is)
    (case x_BadPriced => k_is)
    (case sa_BadPriced => k_is)
    (case t_BadPriced => k_is)
    (case n_BadPriced_part => k_is)
    (case i1_BadPriced => k_is)
    (case i2_BadPriced => k_is)
    (case l_BadPriced => k_is)
    (case c_BadPriced => k_is)
    (case ki_BadPriced => k_is)
    (case a_BadTalk => k_is)
    (case ga_BadTalk => k_is)
    (case gg_BadTalk => k_is)
    (case e_BadTalk => k_is)
    (case h_BadTalk => k_is)
    (case cl_BadTalk => k_is)
    (case m_BadTalk => k_is)
    (case kc_BadTalk => k_is)
    (case x_BadTalk => k_is)
    (case sa_BadTalk => k_is)
    (case t_BadTalk => k_is)
    (case n_BadTalk_part => k_is)
    (case i1_BadTalk => k_is)
    (case i2_BadTalk => k_is)
    (case l_BadTalk => k_is)
    (case c_BadTalk => k_is)
    (case ki_BadTalk => k_is)
    (case a_BadTeller => k_is)
    (case ga_BadTeller => k_is)
    (case gg_BadTeller => k_is)
    (case e_BadTeller => k_is)
    (case h_BadTeller => k_is)
    (case cl_BadTeller => k_is)
    (case m_BadTeller => k_is)
    (case kc_BadTeller => k_is)
    (case x_BadTeller => k_is)
    (case sa_BadTeller => k_is)
    (case t_BadTeller => k_is)
    (case n_BadTeller_part => k_is)
    (case i1_BadTeller => k_is)
    (case i2_BadTeller => k_is)
    (case l_BadTeller => k_is)
    (case c_BadTeller => k_is)
    (case ki_BadTeller => k_is)
    (case a_BadTranslation => k_is)
    (case ga_BadTranslation => k_is)
    (case gg_BadTranslation => k_is)
    (case e_BadTranslation => k_is)
    (case h_BadTranslation => k_is)
    (case cl_BadTranslation => k_is)
    (case m_BadTranslation => k_is)
    (case kc_BadTranslation => k_is)
    (case x_BadTranslation => k_is)
    (case sa_BadTranslation => k_is)
    (case t_BadTranslation => k_is)
    (case n_BadTranslation_part => k_is)
    (case i1_BadTranslation => k_is)
    (case i2_BadTranslation => k_is)
    (case l_BadTranslation => k_is)
    (case c_BadTranslation => k_is)
    (case ki_BadTranslation => k_is)
    (case a_BadNumbers => k_is)
    (case ga_BadNumbers => k_is)
    (case gg_BadNumbers => k_is)
    (case e_BadNumbers => k_is)
    (case h_BadNumbers => k_is)
    (case cl_BadNumbers => k_is)
    (case m_BadNumbers => k_is)
    (case kc_BadNumbers => k_is)
    (case x_BadNumbers => k_is)
    (case sa_BadNumbers => k_is)
    (case t_BadNumbers => k_is)
    (case n_BadNumbers_part => k_is)
    (case i1_BadNumbers => k_is)
    (case i2_BadNumbers => k_is)
    (case l_BadNumbers => k_is)
    (case c_BadNumbers => k_is)
    (case ki_BadNumbers => k_is)
    (case a_Missing => k_is)
    (case ga_Missing => k_is)
    (case gg_Missing => k_is)
    (case e_Missing => k_is)
    (case h_Missing => k_is)
    (case cl_Missing => k_is)
    (case m_Missing => k_is)
    (case kc_Missing => k_is)
    (case x_Missing => k_is)
    (case sa_Missing => k_is)
    (case t_Missing => k_is)
    (case n_Missing_name => k_is)
    (case i1_Missing => k_is)
    (case i2_Missing => k_is)
    (case l_Missing => k_is)
    (case c_Missing => k_is)
    (case ki_Missing => k_is)
    (case a_NoThing => k_is)
    (case ga_NoThing => k_is)
    (case gg_NoThing => k_is)
    (case e_NoThing => k_is)
    (case h_NoThing => k_is)
    (case cl_NoThing => k_is)
    (case m_NoThing => k_is)
    (case kc_NoThing => k_is)
    (case x_NoThing => k_is)
    (case sa_NoThing => k_is)
    (case t_NoThing => k_is)
    (case n_NoThing_name => k_is)
    (case i1_NoThing => k_is)
    (case a_NoWord => k_is)
    (case ga_NoWord => k_is)
    (case gg_NoWord => k_is)
    (case e_NoWord => k_is)
    (case h_NoWord => k_is)
    (case cl_NoWord => k_is)
    (case m_NoWord => k_is)
    (case kc_NoWord => k_is)
    (case x_NoWord => k_is)
    (case sa_NoWord => k_is)
    (case t_NoWord => k_is)
    (case n_NoWord_name => k_is)
    (case i1_NoWord => k_is)
    (case a_NoLink => k_is)
    (case ga_NoLink => k_is)
    (case gg_NoLink => k_is)
    (case e_NoLink => k_is)
    (case h_NoLink => k_is)
    (case cl_NoLink => k_is)
    (case m_NoLink => k_is)
    (case kc_NoLink => k_is)
    (case x_NoLink => k_is)
    (case sa_NoLink => k_is)
    (case t_NoLink => k_is)
    (case n_NoLink_name => k_is)
    (case i1_NoLink => k_is)
    (case a_NoScale => k_is)
    (case ga_NoScale => k_is)
    (case gg_NoScale => k_is)
    (case e_NoScale => k_is)
    (case h_NoScale => k_is)
    (case cl_NoScale => k_is)
    (case m_NoScale => k_is)
    (case kc_NoScale => k_is)
    (case x_NoScale => k_is)
    (case sa_NoScale => k_is)
    (case t_NoScale => k_is)
    (case n_NoScale_name => k_is)
    (case i1_NoScale => k_is)
    (case a_NoWay => k_is)
    (case ga_NoWay => k_is)
    (case gg_NoWay => k_is)
    (case e_NoWay => k_is)
    (case h_NoWay => k_is)
    (case cl_NoWay => k_is)
    (case m_NoWay => k_is)
    (case kc_NoWay => k_is)
    (case x_NoWay => k_is)
    (case sa_NoWay => k_is)
    (case t_NoWay => k_is)
    (case n_NoWay_name => k_is)
    (case i1_NoWay => k_is)
    (case a_NoName => k_is)
    (case ga_NoName => k_is)
    (case gg_NoName => k_is)
    (case e_NoName => k_is)
    (case h_NoName => k_is)
    (case cl_NoName => k_is)
    (case m_NoName => k_is)
    (case kc_NoName => k_is)
    (case x_NoName => k_is)
    (case sa_NoName => k_is)
    (case t_NoName => k_is)
    (case n_NoName_name => k_is)
    (case i1_NoName => k_is)
    (case a_NotLet => k_is)
    (case ga_NotLet => k_is)
    (case gg_NotLet => k_is)
    (case e_NotLet => k_is)
    (case h_NotLet => k_is)
    (case cl_NotLet => k_is)
    (case m_NotLet => k_is)
    (case kc_NotLet => k_is)
    (case x_NotLet => k_is)
    (case sa_NotLet => k_is)
    (case t_NotLet => k_is)
    (case n_NotLet_way => k_is)
    (case n_NotLet_kind => k_is)
    (case i1_NotLet => k_is)
    (case i2_NotLet => k_is)
    (case l_NotLet => k_is)
    (case c_NotLet => k_is)
    (case ki_NotLet => k_is)
    (case a_Twice => k_is)
    (case ga_Twice => k_is)
    (case gg_Twice => k_is)
    (case e_Twice => k_is)
    (case h_Twice => k_is)
    (case cl_Twice => k_is)
    (case m_Twice => k_is)
    (case kc_Twice => k_is)
    (case x_Twice => k_is)
    (case sa_Twice => k_is)
    (case t_Twice => k_is)
    (case n_Twice_name => k_is)
    (case i1_Twice => k_is)
    (case i2_Twice => k_is)
    (case l_Twice => k_is)
    (case c_Twice => k_is)
    (case ki_Twice => k_is)
    (case a_Unlike => k_is)
    (case ga_Unlike => k_is)
    (case gg_Unlike => k_is)
    (case e_Unlike => k_is)
    (case h_Unlike => k_is)
    (case cl_Unlike => k_is)
    (case m_Unlike => k_is)
    (case kc_Unlike => k_is)
    (case x_Unlike => k_is)
    (case sa_Unlike => k_is)
    (case t_Unlike => k_is)
    (case n_Unlike_what => k_is)
    (case i1_Unlike => k_is)
    (case i2_Unlike => k_is)
    (case l_Unlike => k_is)
    (case c_Unlike => k_is)
    (case ki_Unlike => k_is)
    (case a_Nothing => k_is)
    (case ga_Nothing => k_is)
    (case gg_Nothing => k_is)
    (case e_Nothing => k_is)
    (case h_Nothing => k_is)
    (case cl_Nothing => k_is)
    (case m_Nothing => k_is)
    (case kc_Nothing => k_is)
    (case q_Nothing => kernel_rfl)
    (case a_TooMany => k_is)
    (case ga_TooMany => k_is)
    (case gg_TooMany => k_is)
    (case e_TooMany => k_is)
    (case h_TooMany => k_is)
    (case cl_TooMany => k_is)
    (case m_TooMany => k_is)
    (case kc_TooMany => k_is)
    (case x_TooMany => k_is)
    (case sa_TooMany => k_is)
    (case t_TooMany => k_is)
    (case n_TooMany_what => k_is)
    (case n_TooMany_most => k_is)
    (case i1_TooMany => k_is)
    (case i2_TooMany => k_is)
    (case l_TooMany => k_is)
    (case c_TooMany => k_is)
    (case ki_TooMany => k_is)
    (case a_BadText => k_is)
    (case ga_BadText => k_is)
    (case gg_BadText => k_is)
    (case e_BadText => k_is)
    (case h_BadText => k_is)
    (case cl_BadText => k_is)
    (case m_BadText => k_is)
    (case kc_BadText => k_is)
    (case x_BadText => k_is)
    (case sa_BadText => k_is)
    (case t_BadText => k_is)
    (case n_BadText_line => k_is)
    (case n_BadText_word => k_is)
    (case i1_BadText => k_is)
    (case i2_BadText => k_is)
    (case l_BadText => k_is)
    (case c_BadText => k_is)
    (case ki_BadText => k_is)
    (case a_BadLine => k_is)
    (case ga_BadLine => k_is)
    (case gg_BadLine => k_is)
    (case e_BadLine => k_is)
    (case h_BadLine => k_is)
    (case cl_BadLine => k_is)
    (case m_BadLine => k_is)
    (case kc_BadLine => k_is)
    (case x_BadLine => k_is)
    (case sa_BadLine => k_is)
    (case t_BadLine => k_is)
    (case n_BadLine_line => k_is)
    (case n_BadLine_error => k_is)
    (case i1_BadLine => k_is)
    (case i2_BadLine => k_is)
    (case l_BadLine => k_is)
    (case c_BadLine => k_is)
    (case ki_BadLine => k_is)
    (case a_l_jar => k_is)
    (case l_l_jar => k_is)
    (case c_l_jar => k_is)
    (case k_l_jar => k_is)
    (case a_l_dip => k_is)
    (case l_l_dip => k_is)
    (case c_l_dip => k_is)
    (case k_l_dip => k_is)
    (case a_l_some => k_is)
    (case l_l_some => k_is)
    (case c_l_some => k_is)
    (case k_l_some => k_is)
    (case a_l_parts => k_is)
    (case l_l_parts => k_is)
    (case c_l_parts => k_is)
    (case k_l_parts => k_is)
    (case a_l_parts_turned => k_is)
    (case l_l_parts_turned => k_is)
    (case c_l_parts_turned => k_is)
    (case k_l_parts_turned => k_is)
    (case a_l_others => k_is)
    (case l_l_others => k_is)
    (case c_l_others => k_is)
    (case k_l_others => k_is)
    (case a_l_others_named => k_is)
    (case l_l_others_named => k_is)
    (case c_l_others_named => k_is)
    (case k_l_others_named => k_is)
    (case a_l_fields => k_is)
    (case l_l_fields => k_is)
    (case c_l_fields => k_is)
    (case k_l_fields => k_is)
    (case a_l_kin => k_is)
    (case l_l_kin => k_is)
    (case c_l_kin => k_is)
    (case k_l_kin => k_is)
    (case a_l_stands_right => k_is)
    (case l_l_stands_right => k_is)
    (case c_l_stands_right => k_is)
    (case k_l_stands_right => k_is)
    (case a_l_all_right => k_is)
    (case l_l_all_right => k_is)
    (case c_l_all_right => k_is)
    (case k_l_all_right => k_is)
    (case a_law => k_is)
    (case l_law => k_is)
    (case c_law => k_is)
    (case k_law => k_is)
    (case gs1 => k_is)
    (case gs2 => k_is)
    (case kt1 => kernel_rfl)
    (case kt2 => kernel_rfl)
    (case b_ArithmeticError => k_is)
    (case b_AttributeError => k_is)
    (case b_LookupError => k_is)
    (case b_RuntimeError => k_is)
    (case b_TypeError => k_is)
    (case b_ValueError => k_is)
    (case b_abs => k_is)
    (case b_enumerate => k_is)
    (case b_int => k_is)
    (case b_isinstance => k_is)
    (case b_len => k_is)
    (case b_range => k_is)
    (case b_repr => k_is)
    (case b_str => k_is)
