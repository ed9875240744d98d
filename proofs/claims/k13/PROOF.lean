import PyProof.Rows.All
import Wide.All
import OpenK.AllK
import Wide.FinOn
import HandS.ForMost
import HandS.ForExc
import HandS.ExcInit
import HandS.Star
import HandS.IsInst
import HandS.FStr
import HandS.Flow
import HandS.Wide
import HandS.StrMore
import HandS.Deep
import HandS.TupLe
import HandS.Set
import PyProof.ReprRoads
import HandS.TupAny
import HandS.WideBits
import HandS.RaiseMore
import HandS.Dict
import HandS.Zip
import HandS.Iter
import HandS.Style
import HandS.ExcField
import HandS.ExcIs
import KE.KExcIs
import KE.KTypeName
import HandS.Ends
import HandS.ExcValue
import PyProof.Rows.FloatCmp
import PyProof.Rows.RuleB_bool
import PyProof.TwoTypesSub
import HandS.SortInts
import PyProof.Rows.SortShellAny
import HandS.SetFor
import HandS.Strs
import HandS.SetBool
import HandS.DictTup
import KE.KDictPairs
import HandS.DictComp
import HandS.Comp
import OpenK.KOps
import OpenK.KMake
import PySem.Challenge.RW_sayable_k13_depths_names_kinds
set_option Elab.async false
set_option linter.all false
set_option maxRecDepth 100000
set_option maxHeartbeats 4000000
/-! ### values as trees: what nobody changes any more is a tree, what one name alone holds is that name's, the rest stands in a store -/
namespace Fv
open PySem PySem.Spec PyProof.Rows L2
abbrev Tx := PySem.Str
/-- a value: lst, dct, set, obj: of which nobody changes anything any more -/
inductive D where
  | non | bl (b : Bool) | int (i : Int) | str (s : Tx) | tup (xs : List D) | ktup (xs : List D) | lst (xs : List D) | fl (xs : List D)
  | dct (ks vs : List D) | dtt (ks vs : List D) | set (xs : List D) | obj (c : Tx) (ns : List Tx) (vs : List D)
  | exc (c : Tx) (d : Option Nat) | xn (ns : List Tx) (vs : List D) | exh (c : Tx) (ns : List Tx) (vs : List D) | exq (c : Tx)
  | ref (a : Nat) | ty (n : String) | gl (x : Tx)
  deriving Inhabited
abbrev S := List D
inductive R (α : Type) where
  | ok (a : α) (s : S) | err (c : Tx) (ns : List Tx) (vs : List D) (s : S) | bad
/-- a slot: a value, or what the slot alone holds -/
inductive Sl where | v (d : D) | o (d : D)
abbrev En := List (Option Sl)
abbrev E := En → S → R D
abbrev T := En → S → R Bool
abbrev As := En → S → R (List D)
inductive RS where
  | nx (ρ : En) (s : S) | rt (d : D) (s : S) | bk (ρ : En) (s : S) | ct (ρ : En) (s : S) | err (c : Tx) (ns : List Tx) (vs : List D) (ρ : En) (s : S) | bad
abbrev C := En → S → RS
abbrev Fn := List D → S → R D
def R.bind {α β : Type} : R α → (α → S → R β) → R β
  | .ok a s, f => f a s
  | .err c ns vs s, _ => .err c ns vs s
  | .bad, _ => .bad
/-- an expression's value in a statement at ρ -/
def R.stm {α : Type} (ρ : En) : R α → (α → S → RS) → RS
  | .ok a s, f => f a s
  | .err c ns vs s, _ => .err c ns vs ρ s
  | .bad, _ => .bad

/-! ### keys -/
def keyD : D → Option Key
  | .int i => some (.inl i)
  | .str y => some (.inr y)
  | _ => none
def keysD : List D → Option (List Key)
  | [] => some []
  | d :: r => (keyD d).bind fun k => (keysD r).map (k :: ·)
def keyT : D → Option (List Key)
  | .tup xs => keysD xs
  | _ => none
def keysT : List D → Option (List (List Key))
  | [] => some []
  | d :: r => (keyT d).bind fun k => (keysT r).map (k :: ·)

/-! ### what a tree stands for -/
structure Wd where
  K : PySem.W.Frag
  mg : Str → Option Value
  P : Program
  w : World
abbrev wd (X : Cx) : Wd := ⟨X.K, X.mg, X.prog, X.w⟩
/-- the addresses of the store; the objects that stay as they are -/
structure M where
  m : List Addr
  z : Addr → Prop
  zm : ∀ p, z p → p ∉ m
/-- a list that nobody changes, of the written part or the script -/
def SqF (K : PySem.W.Frag) (H : Hp) (a : Addr) (xs : List V) : Prop :=
  (∃ o, H a = some (.frz o (.lst xs))) ∨ ∃ (o : Obj) (its : Array Value) (n : Nat), K.lookup a = some o ∧ o.cls = .type "list" ∧ o.dict = none ∧ o.data = .seq its n ∧ its.size ≤ sizeLine ∧ Vals xs its.toList
theorem SqF.sq {K : PySem.W.Frag} {H : Hp} {a : Addr} {xs : List V} (h : SqF K H a xs) : SqL K H a xs := h.imp (fun ⟨o, e⟩ => .inr ⟨o, e⟩) id
/-- a tuple of the written part -/
structure KtS (K : PySem.W.Frag) (p : Addr) (xs : List V) : Prop where
  ex : ∃ (o : Obj) (its : Array Value) (n : Nat), K.lookup p = some o ∧ o.cls = .type "tuple" ∧ o.dict = none ∧ o.data = .seq its n ∧ its.size ≤ sizeLine ∧ Vals xs its.toList
theorem KtS.sq {K : PySem.W.Frag} {p : Addr} {xs : List V} (h : KtS K p xs) (H : Hp) : SqT K H p xs := by
  obtain ⟨o, its, n, a, b, _, c, d, e⟩ := h.ex
  exact .inr ⟨o, its, n, a, b, c, d, e⟩
instance {K : PySem.W.Frag} {p : Addr} {xs : List V} : CoeFun (KtS K p xs) (fun _ => ∀ H : Hp, SqT K H p xs) := ⟨KtS.sq⟩
/-- a set of keys: its members in some order, its table can be walked -/
def SetRK (w : World) (h : Heap) (a : Addr) (kk : List Key) : Prop :=
  ∃ (o : Obj) (es : Array (Int × Value)) (ep : Nat) (t : SetTable) (ks : List Key), h.get? a = some o ∧ o.ExactSet ∧ o.data = .set es ep t ∧ Paired (fun (k : Key) (e : Int × Value) => keyIs k e.2 = true ∧ e.1 = keyH w k) ks es.toList ∧ ks.Perm kk ∧ kk.Nodup ∧
    es.size < scanBound ∧ t.fits es.size = true ∧ Ris t.place.toList ∧ (w.params.followText "set-order" = true ∨ t.led = true)
def SetH (w : World) (p : Addr) (kk : List Key) : HO := .ext fun h => SetRK w h p kk
/-- an exception without fields -/
def exq (e : Addr) (C : Addr) : HO := .ext fun h => ∃ (oe : Obj) (vs : Array Value), h.get? e = some oe ∧ Zc (.ref C) none oe ∧ oe.data = .fields vs
/-- a caught exception at e -/
def exh (e : Addr) (C : Addr) (d : Addr) : HO := .ext fun h => ∃ (oe : Obj) (vs : Array Value), h.get? e = some oe ∧ Zc (.ref C) (some d) oe ∧ oe.data = .fields vs
/-- what stands at p, but for the values in it -/
def Dk (H : Hp) (p : Addr) (ks : List D) (ys : List V) : Prop := ∃ kk, keysD ks = some kk ∧ H p = some (.dK (kk.zip ys))
def Dt (H : Hp) (p : Addr) (ks : List D) (ys : List V) : Prop := ∃ kk, keysT ks = some kk ∧ H p = some (.dT (kk.zip ys))
def Ik (g : Wd) (H : Hp) (p : Addr) (c : Tx) (ns : List Tx) (ys : List V) : Prop := ∃ C dx, g.mg c = some (.ref C) ∧ H p = some (.ins C dx (ns.zip ys))
def Sk (g : Wd) (H : Hp) (p : Addr) (ks : List D) : Prop := ∃ kk, keysD ks = some kk ∧ H p = some (SetH g.w p kk)
mutual
def RV (g : Wd) (μ : M) (H : Hp) : D → V → Prop
  | .non, x => x = .non
  | .bl b, x => x = .bl b
  | .int i, x => x = .int i
  | .str s, x => x = .str s
  | .ty n, x => x = .ty n
  | .gl y, x => ∃ f, g.mg y = some (.ref f) ∧ x = .ref f
  | .ref a, x => ∃ p, μ.m[a]? = some p ∧ x = .ref p
  | .tup ds, x => ∃ p ys, x = .ref p ∧ H p = some (.tup ys) ∧ RVs g μ H ds ys
  | .ktup ds, x => ∃ p ys, x = .ref p ∧ KtS g.K p ys ∧ RVs g μ H ds ys
  | .lst ds, x => ∃ p ys, x = .ref p ∧ μ.z p ∧ H p = some (.lst ys) ∧ RVs g μ H ds ys
  | .fl ds, x => ∃ p ys, x = .ref p ∧ SqF g.K H p ys ∧ RVs g μ H ds ys
  | .dct ks ds, x => ∃ p ys, x = .ref p ∧ μ.z p ∧ Dk H p ks ys ∧ ks.length = ys.length ∧ RVs g μ H ds ys
  | .dtt ks ds, x => ∃ p ys, x = .ref p ∧ μ.z p ∧ Dt H p ks ys ∧ ks.length = ys.length ∧ RVs g μ H ds ys
  | .set ks, x => ∃ p, x = .ref p ∧ μ.z p ∧ Sk g H p ks
  | .obj c ns ds, x => ∃ p ys, x = .ref p ∧ μ.z p ∧ Ik g H p c ns ys ∧ ns.length = ys.length ∧ RVs g μ H ds ys
  | .exc _ _, _ => False
  | .xn _ _, _ => False
  | .exq c, x => ∃ p C, x = .ref p ∧ μ.z p ∧ g.mg c = some (.ref C) ∧ H p = some (exq p C)
  | .exh c ns ds, x => ∃ p C dx ys, x = .ref p ∧ μ.z p ∧ μ.z dx ∧ g.mg c = some (.ref C) ∧ H p = some (exh p C dx) ∧ H dx = some (.xd (ns.zip ys)) ∧ ns.length = ys.length ∧ RVs g μ H ds ys
def RVs (g : Wd) (μ : M) (H : Hp) : List D → List V → Prop
  | [], ys => ys = []
  | d :: ds, ys => ∃ y r, ys = y :: r ∧ RV g μ H d y ∧ RVs g μ H ds r
end
/-- what stands at p -/
def Ce (g : Wd) (μ : M) (H : Hp) (p : Addr) : D → Prop
  | .lst ds => ∃ ys, H p = some (.lst ys) ∧ RVs g μ H ds ys
  | .dct ks ds => ∃ ys, Dk H p ks ys ∧ ks.length = ys.length ∧ RVs g μ H ds ys
  | .dtt ks ds => ∃ ys, Dt H p ks ys ∧ ks.length = ys.length ∧ RVs g μ H ds ys
  | .set ks => Sk g H p ks
  | .obj c ns ds => ∃ ys, Ik g H p c ns ys ∧ ns.length = ys.length ∧ RVs g μ H ds ys
  | .exc c d => ∃ C, g.mg c = some (.ref C) ∧ ((d = none ∧ H p = some (exo p C none)) ∨ ∃ j dx, d = some j ∧ μ.m[j]? = some dx ∧ H p = some (exo p C (some dx)))
  | .xn ns ds => ∃ ys, H p = some (exd p (ns.zip ys)) ∧ ns.length = ys.length ∧ RVs g μ H ds ys
  | _ => False
/-- more objects; Fr: what may be changed although the store has it not -/
structure Ex (Fr : Addr → Prop) (μ : M) (H : Hp) (μ' : M) (H' : Hp) : Prop where
  pre : ∃ ν, μ'.m = μ.m ++ ν ∧ ∀ p ∈ ν, H p = none
  trk : ∀ p, H' p = none → H p = none
  tup : ∀ p ys, H p = some (.tup ys) → H' p = some (.tup ys)
  frz : ∀ p o u, H p = some (.frz o u) → H' p = some (.frz o u)
  oth : ∀ p u, H p = some u → p ∉ μ.m → (μ.z p ∨ ¬ Fr p) → H' p = some u
  zs : ∀ p, μ.z p → μ'.z p
  zn : ∀ p, μ'.z p → μ.z p ∨ Fr p ∨ H p = none
/-- nothing that stood is changed but the store's -/
abbrev Fn0 : Addr → Prop := fun _ => False
section
variable {Fr : Addr → Prop} {g : Wd} {μ μ' μ1 μ2 : M} {H H' H1 H2 : Hp}
theorem Ex.refl : Ex Fr μ H μ H := ⟨⟨[], by simp⟩, fun _ h => h, fun _ _ h => h, fun _ _ _ h => h, fun _ _ h _ _ => h, fun _ h => h, fun _ h => .inl h⟩
theorem Ex.nm (a : Ex Fr μ H μ1 H1) {p : Addr} {u : HO} (e : H p = some u) (h : p ∉ μ.m) : p ∉ μ1.m := by
  obtain ⟨ν, e1, n1⟩ := a.pre
  rw [e1]
  intro hp
  rcases List.mem_append.mp hp with hp | hp
  · exact h hp
  · rw [n1 p hp] at e; cases e
theorem Ex.trans (a : Ex Fr μ H μ1 H1) (b : Ex Fr μ1 H1 μ2 H2) : Ex Fr μ H μ2 H2 := by
  obtain ⟨ν, e1, n1⟩ := a.pre
  obtain ⟨ν', e2, n2⟩ := b.pre
  refine ⟨⟨ν ++ ν', by rw [e2, e1, List.append_assoc], fun p hp => (List.mem_append.mp hp).elim (n1 p) fun h => a.trk p (n2 p h)⟩, fun p h => a.trk p (b.trk p h), fun p ys h => b.tup _ _ (a.tup _ _ h), fun p o u h => b.frz _ _ _ (a.frz _ _ _ h),
    fun p u h hm hz => ?_, fun p h => b.zs p (a.zs p h), fun p h => ?_⟩
  · exact b.oth p u (a.oth p u h hm hz) (a.nm h hm) (hz.imp (a.zs p) id)
  · rcases b.zn p h with h | h | h
    · exact a.zn p h
    · exact .inr (.inl h)
    · exact .inr (.inr (a.trk p h))
theorem Ex.wide {Fr' : Addr → Prop} (a : Ex Fr μ H μ1 H1) (h : ∀ p, Fr p → Fr' p) : Ex Fr' μ H μ1 H1 :=
  ⟨a.pre, a.trk, a.tup, a.frz, fun p u e hm hz => a.oth p u e hm (hz.imp id fun n q => n (h p q)), a.zs, fun p q => (a.zn p q).imp id (Or.imp (h p) id)⟩
theorem Ex.s (a : Ex Fn0 μ H μ1 H1) : Ex Fr μ H μ1 H1 := a.wide fun _ h => h.elim
theorem Ex.get (x : Ex Fr μ H μ' H') {i : Nat} {p : Addr} (h : μ.m[i]? = some p) : μ'.m[i]? = some p := by
  obtain ⟨ν, e, _⟩ := x.pre
  rw [e, List.getElem?_append_left (List.getElem?_eq_some_iff.mp h).1]
  exact h
theorem Ex.z (x : Ex Fr μ H μ' H') {p : Addr} {u : HO} (h : μ.z p) (e : H p = some u) : H' p = some u := x.oth p u e (μ.zm p h) (.inl h)
theorem Ex.sqf (x : Ex Fr μ H μ' H') {p : Addr} {ys : List V} (h : SqF g.K H p ys) : SqF g.K H' p ys := h.imp (fun ⟨o, e⟩ => ⟨o, x.frz _ _ _ e⟩) id
theorem Ex.sqt (x : Ex Fr μ H μ' H') {p : Addr} {ys : List V} (h : SqT g.K H p ys) : SqT g.K H' p ys := by
  rcases h with (h | ⟨o, h⟩) | h
  · exact .inl (.inl (x.tup _ _ h))
  · exact .inl (.inr ⟨o, x.frz _ _ _ h⟩)
  · exact .inr h
theorem Dk.at {p : Addr} {ks : List D} {ys : List V} (k : ∀ u, H p = some u → H' p = some u) (h : Dk H p ks ys) : Dk H' p ks ys := let ⟨kk, a, b⟩ := h; ⟨kk, a, k _ b⟩
theorem Dt.at {p : Addr} {ks : List D} {ys : List V} (k : ∀ u, H p = some u → H' p = some u) (h : Dt H p ks ys) : Dt H' p ks ys := let ⟨kk, a, b⟩ := h; ⟨kk, a, k _ b⟩
theorem Ik.at {p : Addr} {c : Tx} {ns : List Tx} {ys : List V} (k : ∀ u, H p = some u → H' p = some u) (h : Ik g H p c ns ys) : Ik g H' p c ns ys := let ⟨C, dx, a, b⟩ := h; ⟨C, dx, a, k _ b⟩
theorem Sk.at {p : Addr} {ks : List D} (k : ∀ u, H p = some u → H' p = some u) (h : Sk g H p ks) : Sk g H' p ks := let ⟨kk, a, b⟩ := h; ⟨kk, a, k _ b⟩
mutual
theorem RV.mono (x : Ex Fr μ H μ' H') : ∀ {d : D} {v : V}, RV g μ H d v → RV g μ' H' d v
  | .non, _, h => by simpa only [RV] using h
  | .bl _, _, h => by simpa only [RV] using h
  | .int _, _, h => by simpa only [RV] using h
  | .str _, _, h => by simpa only [RV] using h
  | .ty _, _, h => by simpa only [RV] using h
  | .gl _, _, h => by simpa only [RV] using h
  | .exc _ _, _, h => by simp only [RV] at h
  | .xn _ _, _, h => by simp only [RV] at h
  | .ref a, v, h => by
    simp only [RV] at h ⊢
    obtain ⟨p, e, r⟩ := h
    exact ⟨p, x.get e, r⟩
  | .tup ds, v, h => by
    simp only [RV] at h ⊢
    obtain ⟨p, ys, e, q, r⟩ := h
    exact ⟨p, ys, e, x.tup _ _ q, RVs.mono x r⟩
  | .ktup ds, v, h => by
    simp only [RV] at h ⊢
    obtain ⟨p, ys, e, q, r⟩ := h
    exact ⟨p, ys, e, q, RVs.mono x r⟩
  | .lst ds, v, h => by
    simp only [RV] at h ⊢
    obtain ⟨p, ys, e, z, q, r⟩ := h
    exact ⟨p, ys, e, x.zs p z, x.z z q, RVs.mono x r⟩
  | .fl ds, v, h => by
    simp only [RV] at h ⊢
    obtain ⟨p, ys, e, q, r⟩ := h
    exact ⟨p, ys, e, x.sqf q, RVs.mono x r⟩
  | .dct ks ds, v, h => by
    simp only [RV] at h ⊢
    obtain ⟨p, ys, e, z, q, l, r⟩ := h
    exact ⟨p, ys, e, x.zs p z, q.at fun u => x.z z, l, RVs.mono x r⟩
  | .dtt ks ds, v, h => by
    simp only [RV] at h ⊢
    obtain ⟨p, ys, e, z, q, l, r⟩ := h
    exact ⟨p, ys, e, x.zs p z, q.at fun u => x.z z, l, RVs.mono x r⟩
  | .set ks, v, h => by
    simp only [RV] at h ⊢
    obtain ⟨p, e, z, q⟩ := h
    exact ⟨p, e, x.zs p z, q.at fun u => x.z z⟩
  | .obj c ns ds, v, h => by
    simp only [RV] at h ⊢
    obtain ⟨p, ys, e, z, q, l, r⟩ := h
    exact ⟨p, ys, e, x.zs p z, q.at fun u => x.z z, l, RVs.mono x r⟩
  | .exq c, v, h => by
    simp only [RV] at h ⊢
    obtain ⟨p, C, e, z1, m, a⟩ := h
    exact ⟨p, C, e, x.zs p z1, m, x.z z1 a⟩
  | .exh c ns ds, v, h => by
    simp only [RV] at h ⊢
    obtain ⟨p, C, dx, ys, e, z1, z2, m, a, b, l, r⟩ := h
    exact ⟨p, C, dx, ys, e, x.zs p z1, x.zs dx z2, m, x.z z1 a, x.z z2 b, l, RVs.mono x r⟩
theorem RVs.mono (x : Ex Fr μ H μ' H') : ∀ {ds : List D} {vs : List V}, RVs g μ H ds vs → RVs g μ' H' ds vs
  | [], _, h => by simpa only [RVs] using h
  | d :: ds, vs, h => by
    simp only [RVs] at h ⊢
    obtain ⟨y, r, e, a, b⟩ := h
    exact ⟨y, r, e, RV.mono x a, RVs.mono x b⟩
end
theorem RVs.length : ∀ {ds : List D} {vs : List V}, RVs g μ H ds vs → ds.length = vs.length
  | [], _, h => by simp only [RVs] at h; subst h; rfl
  | d :: ds, vs, h => by
    simp only [RVs] at h
    obtain ⟨y, r, rfl, _, b⟩ := h
    simp [RVs.length b]
theorem RVs.get : ∀ {ds : List D} {vs : List V} {i : Nat} {d : D}, RVs g μ H ds vs → ds[i]? = some d → ∃ v, vs[i]? = some v ∧ RV g μ H d v
  | [], _, _, _, _, e => by simp at e
  | a :: ds, vs, i, d, h, e => by
    simp only [RVs] at h
    obtain ⟨y, r, rfl, q, b⟩ := h
    cases i with
    | zero => simp at e; subst e; exact ⟨y, rfl, q⟩
    | succ i => simpa using RVs.get b (by simpa using e)
theorem RVs.getV {ds : List D} {vs : List V} {i : Nat} {v : V} (h : RVs g μ H ds vs) (e : vs[i]? = some v) : ∃ d, ds[i]? = some d ∧ RV g μ H d v := by
  have hi : i < vs.length := (List.getElem?_eq_some_iff.mp e).1
  have hd : i < ds.length := by rw [h.length]; exact hi
  obtain ⟨w, e2, r⟩ := h.get (List.getElem?_eq_getElem hd)
  rw [e] at e2; cases e2
  exact ⟨_, List.getElem?_eq_getElem hd, r⟩
theorem RVs.append : ∀ {ds es : List D} {vs us : List V}, RVs g μ H ds vs → RVs g μ H es us → RVs g μ H (ds ++ es) (vs ++ us)
  | [], _, _, _, h, k => by simp only [RVs] at h; subst h; exact k
  | d :: ds, es, vs, us, h, k => by
    simp only [RVs] at h
    obtain ⟨y, r, rfl, q, b⟩ := h
    exact ⟨y, r ++ us, rfl, q, RVs.append b k⟩
theorem RVs.drop : ∀ (n : Nat) {ds : List D} {vs : List V}, RVs g μ H ds vs → RVs g μ H (ds.drop n) (vs.drop n)
  | 0, _, _, h => by simpa using h
  | n + 1, [], _, h => by simp only [RVs] at h; subst h; simp [RVs]
  | n + 1, d :: ds, vs, h => by
    simp only [RVs] at h
    obtain ⟨y, r, rfl, q, b⟩ := h
    simpa using RVs.drop n b
theorem RVs.take : ∀ (n : Nat) {ds : List D} {vs : List V}, RVs g μ H ds vs → RVs g μ H (ds.take n) (vs.take n)
  | 0, _, _, h => by simp [RVs]
  | n + 1, [], _, h => by simp only [RVs] at h; subst h; simp [RVs]
  | n + 1, d :: ds, vs, h => by
    simp only [RVs] at h
    obtain ⟨y, r, rfl, q, b⟩ := h
    exact ⟨y, r.take n, rfl, q, RVs.take n b⟩
theorem RVs.set {d : D} {v : V} (q : RV g μ H d v) : ∀ (n : Nat) {ds : List D} {vs : List V}, RVs g μ H ds vs → RVs g μ H (ds.set n d) (vs.set n v)
  | _, [], _, h => by simp only [RVs] at h; subst h; simp [RVs]
  | 0, d' :: ds, vs, h => by
    simp only [RVs] at h
    obtain ⟨y, r, rfl, q', b⟩ := h
    exact ⟨v, r, rfl, q, b⟩
  | n + 1, d' :: ds, vs, h => by
    simp only [RVs] at h
    obtain ⟨y, r, rfl, q', b⟩ := h
    exact ⟨y, r.set n v, rfl, q', RVs.set q n b⟩
theorem RVs.one {d : D} {v : V} (h : RV g μ H d v) : RVs g μ H [d] [v] := ⟨v, [], rfl, h, rfl⟩
theorem RVs.inv1 {d : D} {xs : List V} (h : RVs g μ H [d] xs) : ∃ x, xs = [x] ∧ RV g μ H d x := by
  simp only [RVs] at h
  obtain ⟨y, r, rfl, a, rfl⟩ := h
  exact ⟨y, rfl, a⟩
theorem RVs.inv2 {d e : D} {xs : List V} (h : RVs g μ H [d, e] xs) : ∃ x y, xs = [x, y] ∧ RV g μ H d x ∧ RV g μ H e y := by
  simp only [RVs] at h
  obtain ⟨y, r, rfl, a, z, r', rfl, b, rfl⟩ := h
  exact ⟨y, z, rfl, a, b⟩
theorem RVs.inv3 {d e f : D} {xs : List V} (h : RVs g μ H [d, e, f] xs) : ∃ x y z, xs = [x, y, z] ∧ RV g μ H d x ∧ RV g μ H e y ∧ RV g μ H f z := by
  simp only [RVs] at h
  obtain ⟨y, r, rfl, a, z, r', rfl, b, u, r2, rfl, c, rfl⟩ := h
  exact ⟨y, z, u, rfl, a, b, c⟩
/-- what stands at p, where it stays -/
theorem Ce.mono (x : Ex Fr μ H μ' H') {p : Addr} {d : D} (k : ∀ u, H p = some u → H' p = some u) (h : Ce g μ H p d) : Ce g μ' H' p d := by
  cases d <;> simp only [Ce] at h ⊢
  · obtain ⟨ys, a, b⟩ := h
    exact ⟨ys, k _ a, b.mono x⟩
  · obtain ⟨ys, a, l, b⟩ := h
    exact ⟨ys, a.at k, l, b.mono x⟩
  · obtain ⟨ys, a, l, b⟩ := h
    exact ⟨ys, a.at k, l, b.mono x⟩
  · exact h.at k
  · obtain ⟨ys, a, l, b⟩ := h
    exact ⟨ys, a.at k, l, b.mono x⟩
  · obtain ⟨C, m, ⟨d0, a⟩ | ⟨j, dx, d0, ej, a⟩⟩ := h
    · exact ⟨C, m, .inl ⟨d0, k _ a⟩⟩
    · exact ⟨C, m, .inr ⟨j, dx, d0, x.get ej, k _ a⟩⟩
  · obtain ⟨ys, a, l, b⟩ := h
    exact ⟨ys, k _ a, l, b.mono x⟩
theorem exd_frz {e : Addr} {fs : List (Str × V)} {o : Obj} {u : HO} : exd e fs ≠ .frz o u := fun z => by
  have z' : HO.ext _ = HO.frz o u := z
  cases z'
theorem ext_tup {φ : Heap → Prop} {u : HO} (e : u = .ext φ) (ys : List V) : u ≠ .tup ys := fun z => by rw [e] at z; cases z
theorem ext_frz {φ : Heap → Prop} {u : HO} (e : u = .ext φ) (o : Obj) (w : HO) : u ≠ .frz o w := fun z => by rw [e] at z; cases z
theorem Ce.there {p : Addr} {d : D} (h : Ce g μ H p d) : ∃ u, H p = some u ∧ (∀ ys, u ≠ .tup ys) ∧ ∀ o w, u ≠ .frz o w := by
  cases d <;> simp only [Ce] at h
  · obtain ⟨ys, a, _⟩ := h; exact ⟨_, a, (fun _ z => by cases z), fun _ _ z => by cases z⟩
  · obtain ⟨ys, a, _⟩ := h
    obtain ⟨_, _, a⟩ := a
    exact ⟨_, a, (fun _ z => by cases z), fun _ _ z => by cases z⟩
  · obtain ⟨ys, a, _⟩ := h
    obtain ⟨_, _, a⟩ := a
    exact ⟨_, a, (fun _ z => by cases z), fun _ _ z => by cases z⟩
  · obtain ⟨kk, _, a⟩ := h; exact ⟨_, a, ext_tup rfl, ext_frz rfl⟩
  · obtain ⟨ys, ⟨C, dx, _, a⟩, _⟩ := h; exact ⟨_, a, (fun _ z => by cases z), fun _ _ z => by cases z⟩
  · obtain ⟨C, _, ⟨_, a⟩ | ⟨j, dx, _, _, a⟩⟩ := h <;> exact ⟨_, a, (fun _ z => exo_tup z), fun _ _ z => exo_frz z⟩
  · obtain ⟨ys, a, _⟩ := h; exact ⟨_, a, (fun _ z => exd_tup z), fun _ _ z => exd_frz z⟩
end
/-! ### the store -/
structure Rs (g : Wd) (μ : M) (H : Hp) (s : S) : Prop where
  len : μ.m.length = s.length
  nd : μ.m.Nodup
  zt : ∀ p, μ.z p → ∃ u, H p = some u
  at_ : ∀ (i : Nat) (o : D) (p : Addr), s[i]? = some o → μ.m[i]? = some p → Ce g μ H p o
/-- one more address of the store -/
def M.push (μ : M) (p : Addr) (h : ¬ μ.z p) : M := ⟨μ.m ++ [p], μ.z, fun q hq hm => by
  rcases List.mem_append.mp hm with hm | hm
  · exact μ.zm q hq hm
  · simp at hm; subst hm; exact h hq⟩
/-- p stays as it is from now on -/
def M.frz (μ : M) (p : Addr) (h : p ∉ μ.m) : M := ⟨μ.m, fun q => μ.z q ∨ q = p, fun q hq => hq.elim (μ.zm q) fun e => e ▸ h⟩
section
variable {Fr : Addr → Prop} {g : Wd} {μ μ' : M} {H H' : Hp} {s : S} {p : Addr} {o : D} {ho : HO}
theorem Rs.adr (h : Rs g μ H s) {i : Nat} (e : s[i]? = some o) : ∃ p, μ.m[i]? = some p ∧ Ce g μ H p o := by
  have hp : i < μ.m.length := by rw [h.len]; exact (List.getElem?_eq_some_iff.mp e).1
  exact ⟨μ.m[i], List.getElem?_eq_getElem hp, h.at_ i o _ e (List.getElem?_eq_getElem hp)⟩
theorem Rs.nmem (h : Rs g μ H s) (e : H p = none) : p ∉ μ.m := fun hp => by
  obtain ⟨i, hi, q⟩ := List.getElem_of_mem hp
  have hs : i < s.length := by rw [← h.len]; exact hi
  obtain ⟨u, a, _⟩ := (h.at_ i _ p (List.getElem?_eq_getElem hs) (by rw [List.getElem?_eq_getElem hi, q])).there
  rw [e] at a; cases a
theorem Rs.nz (h : Rs g μ H s) (e : H p = none) : ¬ μ.z p := fun hp => by
  obtain ⟨u, q⟩ := h.zt p hp
  rw [e] at q; cases q
theorem upd_trk (q : Addr) (h : upd H p ho q = none) : H q = none := by
  by_cases z : q = p
  · subst z; rw [upd_same] at h; cases h
  · rw [upd_ne z] at h; exact h
/-- a new thing, of no one so far -/
theorem ex_new (e : H p = none) : Ex Fr μ H μ (upd H p ho) :=
  ⟨⟨[], by simp⟩, upd_trk, fun q ys h => by rw [upd_ne (ne_of_none h e)]; exact h, fun q o u h => by rw [upd_ne (ne_of_none h e)]; exact h, fun q u h _ _ => by rw [upd_ne (ne_of_none h e)]; exact h, fun _ h => h, fun _ h => .inl h⟩
theorem Rs.new (h : Rs g μ H s) (e : H p = none) : Rs g μ (upd H p ho) s :=
  ⟨h.len, h.nd, fun q hq => let ⟨u, a⟩ := h.zt q hq; ⟨u, by rw [upd_ne (ne_of_none a e)]; exact a⟩, fun i o q ei eq => (h.at_ i o q ei eq).mono (ex_new (Fr := Fn0) e) fun u a => by rw [upd_ne (ne_of_none a e)]; exact a⟩
mutual
theorem RV.push (h : ¬ μ.z p) : ∀ {d : D} {v : V}, RV g μ H d v → RV g (μ.push p h) H d v
  | .non, _, r => by simpa only [RV] using r
  | .bl _, _, r => by simpa only [RV] using r
  | .int _, _, r => by simpa only [RV] using r
  | .str _, _, r => by simpa only [RV] using r
  | .ty _, _, r => by simpa only [RV] using r
  | .gl _, _, r => by simpa only [RV] using r
  | .exc _ _, _, r => by simp only [RV] at r
  | .xn _ _, _, r => by simp only [RV] at r
  | .ref a, v, r => by
    simp only [RV] at r ⊢
    obtain ⟨q, e, r⟩ := r
    refine ⟨q, ?_, r⟩
    show (μ.m ++ [p])[a]? = some q
    rw [List.getElem?_append_left (List.getElem?_eq_some_iff.mp e).1]; exact e
  | .tup ds, v, r => by
    simp only [RV] at r ⊢
    obtain ⟨q, ys, e, a, r⟩ := r
    exact ⟨q, ys, e, a, RVs.push h r⟩
  | .ktup ds, v, r => by
    simp only [RV] at r ⊢
    obtain ⟨q, ys, e, a, r⟩ := r
    exact ⟨q, ys, e, a, RVs.push h r⟩
  | .lst ds, v, r => by
    simp only [RV] at r ⊢
    obtain ⟨q, ys, e, z, a, r⟩ := r
    exact ⟨q, ys, e, z, a, RVs.push h r⟩
  | .fl ds, v, r => by
    simp only [RV] at r ⊢
    obtain ⟨q, ys, e, a, r⟩ := r
    exact ⟨q, ys, e, a, RVs.push h r⟩
  | .dct ks ds, v, r => by
    simp only [RV] at r ⊢
    obtain ⟨q, ys, e, z, a, l, r⟩ := r
    exact ⟨q, ys, e, z, a, l, RVs.push h r⟩
  | .dtt ks ds, v, r => by
    simp only [RV] at r ⊢
    obtain ⟨q, ys, e, z, a, l, r⟩ := r
    exact ⟨q, ys, e, z, a, l, RVs.push h r⟩
  | .set ks, v, r => by
    simp only [RV] at r ⊢
    exact r
  | .obj c ns ds, v, r => by
    simp only [RV] at r ⊢
    obtain ⟨q, ys, e, z, a, l, r⟩ := r
    exact ⟨q, ys, e, z, a, l, RVs.push h r⟩
  | .exq c, v, r => by
    simp only [RV] at r ⊢
    exact r
  | .exh c ns ds, v, r => by
    simp only [RV] at r ⊢
    obtain ⟨q, C, dx, ys, e, z1, z2, m, a, b, l, r⟩ := r
    exact ⟨q, C, dx, ys, e, z1, z2, m, a, b, l, RVs.push h r⟩
theorem RVs.push (h : ¬ μ.z p) : ∀ {ds : List D} {vs : List V}, RVs g μ H ds vs → RVs g (μ.push p h) H ds vs
  | [], _, r => by simpa only [RVs] using r
  | d :: ds, vs, r => by
    simp only [RVs] at r ⊢
    obtain ⟨y, r, e, a, b⟩ := r
    exact ⟨y, r, e, RV.push h a, RVs.push h b⟩
end
theorem Ce.push (h : ¬ μ.z p) {q : Addr} {d : D} (c : Ce g μ H q d) : Ce g (μ.push p h) H q d := by
  cases d <;> simp only [Ce] at c ⊢
  · obtain ⟨ys, a, b⟩ := c
    exact ⟨ys, a, b.push h⟩
  · obtain ⟨ys, a, l, b⟩ := c
    exact ⟨ys, a, l, b.push h⟩
  · obtain ⟨ys, a, l, b⟩ := c
    exact ⟨ys, a, l, b.push h⟩
  · exact c
  · obtain ⟨ys, a, l, b⟩ := c
    exact ⟨ys, a, l, b.push h⟩
  · obtain ⟨C, m, ⟨d0, a⟩ | ⟨j, dx, d0, ej, a⟩⟩ := c
    · exact ⟨C, m, .inl ⟨d0, a⟩⟩
    · refine ⟨C, m, .inr ⟨j, dx, d0, ?_, a⟩⟩
      show (μ.m ++ [p])[j]? = some dx
      rw [List.getElem?_append_left (List.getElem?_eq_some_iff.mp ej).1]; exact ej
  · obtain ⟨ys, a, l, b⟩ := c
    exact ⟨ys, a, l, b.push h⟩
/-- what stands already becomes the store's -/
theorem Rs.adopt (h : Rs g μ H s) (hm : p ∉ μ.m) (hz : ¬ μ.z p) (c : Ce g μ H p o) : Rs g (μ.push p hz) H (s ++ [o]) ∧ RV g (μ.push p hz) H (.ref s.length) (.ref p) := by
  refine ⟨⟨by simp [M.push, h.len], ?_, h.zt, fun i o' q ei eq => ?_⟩, ?_⟩
  · show (μ.m ++ [p]).Nodup
    rw [List.nodup_append]
    exact ⟨h.nd, by simp, fun a ha b hb => by
      simp at hb; subst hb
      exact fun z => hm (z ▸ ha)⟩
  · have eq : (μ.m ++ [p])[i]? = some q := eq
    by_cases hi : i < s.length
    · rw [List.getElem?_append_left hi] at ei
      rw [List.getElem?_append_left (by rw [h.len]; exact hi)] at eq
      exact (h.at_ i o' q ei eq).push hz
    · have hi' : i = s.length := by
        have := (List.getElem?_eq_some_iff.mp ei).1
        simp at this
        omega
      subst hi'
      rw [List.getElem?_append_right (Nat.le_refl _)] at ei
      rw [← h.len, List.getElem?_append_right (Nat.le_refl _)] at eq
      simp at ei eq
      subst ei eq
      exact c.push hz
  · simp only [RV]
    refine ⟨p, ?_, rfl⟩
    show (μ.m ++ [p])[s.length]? = some p
    rw [← h.len, List.getElem?_append_right (Nat.le_refl _)]; simp
/-- it stays as it is from now on -/
theorem ex_frz (h : p ∉ μ.m) (f : Fr p ∨ H p = none) : Ex Fr μ H (μ.frz p h) H :=
  ⟨⟨[], by simp [M.frz]⟩, fun _ h => h, fun _ _ h => h, fun _ _ _ h => h, fun _ _ h _ _ => h, fun _ h => .inl h, fun q hq => hq.elim .inl fun e => e ▸ .inr f⟩
theorem Rs.frz (h : Rs g μ H s) (hp : p ∉ μ.m) (t : ∃ u, H p = some u) : Rs g (μ.frz p hp) H s :=
  ⟨h.len, h.nd, fun q hq => hq.elim (h.zt q) fun e => e ▸ t, fun i o q ei eq => (h.at_ i o q ei eq).mono (ex_frz (Fr := fun q => q = p) hp (.inl rfl)) fun _ a => a⟩
/-- an object of the store changes -/
theorem ex_put {ho' : HO} (hm : p ∈ μ.m) (e : H p = some ho') (nt : ∀ ys, ho' ≠ .tup ys) (nf : ∀ o u, ho' ≠ .frz o u) : Ex Fr μ H μ (upd H p ho) :=
  ⟨⟨[], by simp⟩, upd_trk, fun q ys h => by
    rw [upd_ne (fun z => by subst z; rw [e] at h; exact nt _ (Option.some.inj h))]; exact h, fun q o u h => by
    rw [upd_ne (fun z => by subst z; rw [e] at h; exact nf _ _ (Option.some.inj h))]; exact h, fun q u h n _ => by rw [upd_ne (show q ≠ p from fun z => n (z ▸ hm))]; exact h, fun _ h => h, fun _ h => .inl h⟩
theorem Rs.put (h : Rs g μ H s) {i : Nat} (ei : μ.m[i]? = some p) {ho' : HO} (e : H p = some ho') (nt : ∀ ys, ho' ≠ .tup ys) (nf : ∀ o u, ho' ≠ .frz o u) (new : Ce g μ (upd H p ho) p o) : Rs g μ (upd H p ho) (s.set i o) := by
  have hm := List.mem_of_getElem? ei
  refine ⟨by simp [h.len], h.nd, fun q hq => ?_, fun j o' q ej eq => ?_⟩
  · obtain ⟨u, a⟩ := h.zt q hq
    exact ⟨u, by rw [upd_ne (show q ≠ p from fun z => μ.zm q hq (z ▸ hm))]; exact a⟩
  · by_cases hj : j = i
    · subst hj
      rw [ei] at eq; cases eq
      have hl : j < s.length := by have := (List.getElem?_eq_some_iff.mp ei).1; rw [h.len] at this; exact this
      rw [List.getElem?_set_self hl] at ej
      cases ej
      exact new
    · rw [List.getElem?_set_ne (Ne.symm hj)] at ej
      have qp : q ≠ p := fun z => by
        subst z
        exact hj (nd_ix h.nd eq ei)
      exact (h.at_ j o' q ej eq).mono (ex_put (Fr := Fn0) hm e nt nf) fun u a => by rw [upd_ne qp]; exact a
/-- what a slot alone holds changes -/
theorem ex_own {ho' : HO} (hz : ¬ μ.z p) (f : Fr p) (e : H p = some ho') (nt : ∀ ys, ho' ≠ .tup ys) (nf : ∀ o u, ho' ≠ .frz o u) : Ex Fr μ H μ (upd H p ho) :=
  ⟨⟨[], by simp⟩, upd_trk, fun q ys h => by
    rw [upd_ne (fun z => by subst z; rw [e] at h; exact nt _ (Option.some.inj h))]; exact h, fun q o u h => by
    rw [upd_ne (fun z => by subst z; rw [e] at h; exact nf _ _ (Option.some.inj h))]; exact h, fun q u h n c => by rw [upd_ne (show q ≠ p from fun z => c.elim (fun w => hz (z ▸ w)) fun w => w (z ▸ f))]; exact h, fun _ h => h, fun _ h => .inl h⟩
theorem Rs.own (h : Rs g μ H s) {ho' : HO} (hm : p ∉ μ.m) (hz : ¬ μ.z p) (e : H p = some ho') (nt : ∀ ys, ho' ≠ .tup ys) (nf : ∀ o u, ho' ≠ .frz o u) : Rs g μ (upd H p ho) s :=
  ⟨h.len, h.nd, fun q hq => let ⟨u, a⟩ := h.zt q hq; ⟨u, by rw [upd_ne (show q ≠ p from fun z => hz (z ▸ hq))]; exact a⟩, fun i o q ei eq => (h.at_ i o q ei eq).mono (ex_own (Fr := fun q => q = p) hz rfl e nt nf) fun u a => by rw [upd_ne (show q ≠ p from fun z => hm (z ▸ List.mem_of_getElem? eq))]; exact a⟩
end
/-! ### slots -/
structure REn (g : Wd) (Fr : Addr → Prop) (μ : M) (H : Hp) (ρ : En) (σ : L2.St) : Prop where
  len : ρ.length = σ.length
  v : ∀ (i : Nat) (d : D), ρ[i]? = some (some (Sl.v d)) → ∃ x, σ[i]? = some (some x) ∧ RV g μ H d x
  o : ∀ (i : Nat) (d : D), ρ[i]? = some (some (Sl.o d)) → ∃ p, σ[i]? = some (some (V.ref p)) ∧ Ce g μ H p d ∧ p ∉ μ.m ∧ ¬ μ.z p ∧ Fr p
  inj : ∀ (i j : Nat) (d e : D) (p : Addr), ρ[i]? = some (some (Sl.o d)) → ρ[j]? = some (some (Sl.o e)) → σ[i]? = some (some (V.ref p)) → σ[j]? = some (some (V.ref p)) → i = j
section
variable {Fr : Addr → Prop} {g : Wd} {μ μ' : M} {H H' : Hp} {s : S} {p : Addr} {d : D} {ho : HO} {ρ : En} {σ : L2.St} {i : Nat}
/-- where nothing that stood is changed but the store's -/
theorem REn.mono (x : Ex Fn0 μ H μ' H') (h : REn g Fr μ H ρ σ) : REn g Fr μ' H' ρ σ :=
  ⟨h.len, fun i d e => let ⟨v, a, b⟩ := h.v i d e; ⟨v, a, b.mono x⟩, fun i d e => by
    obtain ⟨p, a, b, hm, hz, f⟩ := h.o i d e
    obtain ⟨u, eu, _⟩ := b.there
    exact ⟨p, a, b.mono x (fun u e => x.oth p u e hm (.inr id)), x.nm eu hm, (fun w => by
      rcases x.zn p w with w | w | w
      · exact hz w
      · exact w
      · rw [eu] at w; cases w), f⟩, h.inj⟩
theorem get_set {α : Type} {l : List α} {i j : Nat} {a b : α} (h : (l.set i a)[j]? = some b) : (j = i ∧ b = a ∧ i < l.length) ∨ (j ≠ i ∧ l[j]? = some b) := by
  by_cases hj : i = j
  · subst hj
    rw [List.getElem?_set] at h
    simp only [if_true] at h
    split at h
    · cases h; exact .inl ⟨rfl, rfl, by assumption⟩
    · cases h
  · rw [List.getElem?_set_ne hj] at h
    exact .inr ⟨Ne.symm hj, h⟩
theorem REn.gen (h : REn g Fr μ H ρ σ) {sl : Option Sl} {x : Option V} (hv : ∀ d, sl = some (Sl.v d) → ∃ y, x = some y ∧ RV g μ H d y) (ho : ∀ d, sl = some (Sl.o d) → ∃ p, x = some (.ref p) ∧ Ce g μ H p d ∧ p ∉ μ.m ∧ ¬ μ.z p ∧ Fr p ∧
    ∀ (j : Nat) (e : D), j ≠ i → ρ[j]? = some (some (Sl.o e)) → σ[j]? ≠ some (some (V.ref p))) : REn g Fr μ H (ρ.set i sl) (σ.set i x) := by
  have at_ : ∀ {j : Nat} {q : Option V}, j ≠ i → σ[j]? = some q → (σ.set i x)[j]? = some q := fun {j q} hj e => by rw [List.getElem?_set_ne (Ne.symm hj)]; exact e
  have self : i < ρ.length → (σ.set i x)[i]? = some x := fun hl => List.getElem?_set_self (by rw [← h.len]; exact hl)
  refine ⟨by simp [h.len], fun j d e => ?_, fun j d e => ?_, fun j k d e p e1 e2 e3 e4 => ?_⟩
  · rcases get_set e with ⟨rfl, q, hl⟩ | ⟨hj, q⟩
    · obtain ⟨y, rfl, r⟩ := hv d q.symm
      exact ⟨y, self hl, r⟩
    · obtain ⟨y, a, b⟩ := h.v j d q
      exact ⟨y, at_ hj a, b⟩
  · rcases get_set e with ⟨rfl, q, hl⟩ | ⟨hj, q⟩
    · obtain ⟨y, rfl, a, b, c, f, _⟩ := ho d q.symm
      exact ⟨y, self hl, a, b, c, f⟩
    · obtain ⟨y, a, b⟩ := h.o j d q
      exact ⟨y, at_ hj a, b⟩
  · rcases get_set e1 with ⟨rfl, q1, hl⟩ | ⟨hj, q1⟩
    · rcases get_set e2 with ⟨rfl, q2, _⟩ | ⟨hk, q2⟩
      · rfl
      · obtain ⟨y, ey, _, _, _, _, no⟩ := ho d q1.symm
        rw [self hl, ey] at e3
        cases e3
        rw [List.getElem?_set_ne (Ne.symm hk)] at e4
        exact absurd e4 (no k e hk q2)
    · rcases get_set e2 with ⟨rfl, q2, hl⟩ | ⟨hk, q2⟩
      · obtain ⟨y, ey, _, _, _, _, no⟩ := ho e q2.symm
        rw [self hl, ey] at e4
        cases e4
        rw [List.getElem?_set_ne (Ne.symm hj)] at e3
        exact absurd e3 (no j d hj q1)
      · rw [List.getElem?_set_ne (Ne.symm hj)] at e3
        rw [List.getElem?_set_ne (Ne.symm hk)] at e4
        exact h.inj j k d e p q1 q2 e3 e4
theorem REn.setV {x : V} (h : REn g Fr μ H ρ σ) (r : RV g μ H d x) : REn g Fr μ H (ρ.set i (some (.v d))) (σ.set i (some x)) := h.gen (fun e q => by cases q; exact ⟨x, rfl, r⟩) fun e q => nomatch q
theorem REn.setN {x : Option V} (h : REn g Fr μ H ρ σ) : REn g Fr μ H (ρ.set i none) (σ.set i x) := h.gen (fun e q => nomatch q) fun e q => nomatch q
/-- no slot holds it -/
def REn.free (ρ : En) (σ : L2.St) (p : Addr) : Prop := ∀ (j : Nat) (e : D), ρ[j]? = some (some (Sl.o e)) → σ[j]? ≠ some (some (V.ref p))
theorem REn.fr (h : REn g Fr μ H ρ σ) (e : H p = none) : REn.free ρ σ p := fun j d ej es => by
  obtain ⟨q, a, b, _⟩ := h.o j d ej
  rw [a] at es; cases es
  obtain ⟨u, eu, _⟩ := b.there
  rw [e] at eu; cases eu
theorem REn.setO (h : REn g Fr μ H ρ σ) (c : Ce g μ H p d) (hm : p ∉ μ.m) (hz : ¬ μ.z p) (f : Fr p) (n : REn.free ρ σ p) : REn g Fr μ H (ρ.set i (some (.o d))) (σ.set i (some (.ref p))) :=
  h.gen (fun e q => nomatch q) fun e q => by cases q; exact ⟨p, rfl, c, hm, hz, f, fun j e _ => n j e⟩
/-- what slot i holds stays as it is from now on -/
theorem REn.frz (h : REn g Fr μ H ρ σ) (e : ρ[i]? = some (some (Sl.o d))) (ep : σ[i]? = some (some (V.ref p))) (hm : p ∉ μ.m) (r : RV g (μ.frz p hm) H d (.ref p)) : REn g Fr (μ.frz p hm) H (ρ.set i (some (.v d))) σ := by
  obtain ⟨q, eq, c, _, hz, f⟩ := h.o i d e
  rw [ep] at eq; cases eq
  have x : Ex (fun q => q = p) μ H (μ.frz p hm) H := ex_frz hm (.inl rfl)
  refine ⟨by simp [h.len], fun j d' ej => ?_, fun j d' ej => ?_, fun j k d' e' p' e1 e2 e3 e4 => ?_⟩
  · rcases get_set ej with ⟨rfl, q, _⟩ | ⟨hj, q⟩
    · cases q; exact ⟨_, ep, r⟩
    · obtain ⟨y, a, b⟩ := h.v j d' q
      exact ⟨y, a, b.mono x⟩
  · rcases get_set ej with ⟨rfl, q, _⟩ | ⟨hj, q⟩
    · cases q
    · obtain ⟨y, a, b, m, z, f'⟩ := h.o j d' q
      have ne : y ≠ p := fun w => by subst w; exact hj (h.inj j i d' d y q e a ep)
      exact ⟨y, a, b.mono x (fun _ e => e), m, fun zz => zz.elim z ne, f'⟩
  · rcases get_set e1 with ⟨rfl, q1, _⟩ | ⟨hj, q1⟩
    · cases q1
    · rcases get_set e2 with ⟨rfl, q2, _⟩ | ⟨hk, q2⟩
      · cases q2
      · exact h.inj j k d' e' p' q1 q2 e3 e4
end
end Fv

namespace Fv
open PySem PySem.Spec PyProof.Rows L2
/-! ### readings -/
def RX (g : Wd) (μ : M) (H : Hp) (ns : List Tx) (ds : List D) (dx : Addr) : Prop := dx ∉ μ.m ∧ ¬ μ.z dx ∧ ∃ ys, H dx = some (.xd (ns.zip ys)) ∧ ns.length = ys.length ∧ RVs g μ H ds ys
def runs (g : Wd) (W : WX) (σ : L2.St) (μ : M) (H : Hp) {α β : Type} (Rel : M → Hp → α → β → Prop) (Q : β → Hp → Prop) : R α → Prop
  | .ok a s => ∀ μ' H' b, Ex Fn0 μ H μ' H' → Rs g μ' H' s → Rel μ' H' a b → Q b H'
  | .err c ns vs s => ∀ μ' H' C dx, Ex Fn0 μ H μ' H' → Rs g μ' H' s → g.mg c = some (.ref C) → (H dx = none ∧ RX g μ' H' ns vs dx) → W (.ref C) (some dx) σ H'
  | .bad => False
abbrev RB : M → Hp → Bool → Bool → Prop := fun _ _ a b => a = b
/-- new, of no one so far -/
def Nw (g : Wd) (H0 : Hp) (μ : M) (H : Hp) (d : D) (x : V) : Prop := ∃ p, x = .ref p ∧ H0 p = none ∧ p ∉ μ.m ∧ ¬ μ.z p ∧ Ce g μ H p d
def D.heavy : D → Bool
  | .lst _ => true | .dct _ _ => true | .dtt _ _ => true | .set _ => true | .obj _ _ _ => true | _ => false
/-- a value, or what is new -/
def RF (g : Wd) (H0 : Hp) (μ : M) (H : Hp) (d : D) (x : V) : Prop := if d.heavy then Nw g H0 μ H d x else RV g μ H d x
/-- a value, or what a slot alone holds, to be read -/
def RW (g : Wd) (μ : M) (H : Hp) (d : D) (x : V) : Prop := RV g μ H d x ∨ (d.heavy = true ∧ ∃ p, x = .ref p ∧ p ∉ μ.m ∧ Ce g μ H p d)
def RWs (g : Wd) (μ : M) (H : Hp) : List D → List V → Prop
  | [], ys => ys = []
  | d :: ds, ys => ∃ y r, ys = y :: r ∧ RW g μ H d y ∧ RWs g μ H ds r
def liftE (g : Wd) (W : WX) (m : E) : TE := fun σ H Q => ∃ Fr μ ρ s, REn g Fr μ H ρ σ ∧ Rs g μ H s ∧ runs g W σ μ H (RV g) Q (m ρ s)
def liftF (g : Wd) (W : WX) (m : E) : TE := fun σ H Q => ∃ Fr μ ρ s, REn g Fr μ H ρ σ ∧ Rs g μ H s ∧ runs g W σ μ H (RF g H) Q (m ρ s)
def liftB (g : Wd) (W : WX) (m : E) : TE := fun σ H Q => ∃ Fr μ ρ s, REn g Fr μ H ρ σ ∧ Rs g μ H s ∧ runs g W σ μ H (RW g) Q (m ρ s)
def liftT (g : Wd) (W : WX) (m : T) : TT := fun σ H Q => ∃ Fr μ ρ s, REn g Fr μ H ρ σ ∧ Rs g μ H s ∧ runs g W σ μ H RB Q (m ρ s)
def liftA (g : Wd) (W : WX) (m : As) : TA := fun σ H Q => ∃ Fr μ ρ s, REn g Fr μ H ρ σ ∧ Rs g μ H s ∧ runs g W σ μ H (RVs g) Q (m ρ s)
def liftAB (g : Wd) (W : WX) (m : As) : TA := fun σ H Q => ∃ Fr μ ρ s, REn g Fr μ H ρ σ ∧ Rs g μ H s ∧ runs g W σ μ H (RWs g) Q (m ρ s)
def runsS (g : Wd) (W : WX) (Fr : Addr → Prop) (μ : M) (H : Hp) (De : Ends) : RS → Prop
  | .nx ρ s => ∀ μ' H' σ', Ex Fr μ H μ' H' → Rs g μ' H' s → REn g Fr μ' H' ρ σ' → De.nx σ' H'
  | .rt d s => ∀ μ' H' x, Ex Fr μ H μ' H' → Rs g μ' H' s → RV g μ' H' d x → De.rt x H'
  | .bk ρ s => ∀ μ' H' σ', Ex Fr μ H μ' H' → Rs g μ' H' s → REn g Fr μ' H' ρ σ' → De.bk σ' H'
  | .ct ρ s => ∀ μ' H' σ', Ex Fr μ H μ' H' → Rs g μ' H' s → REn g Fr μ' H' ρ σ' → De.ct σ' H'
  | .err c ns vs ρ s => ∀ μ' H' σ' C dx, Ex Fr μ H μ' H' → Rs g μ' H' s → REn g Fr μ' H' ρ σ' → g.mg c = some (.ref C) → (H dx = none ∧ RX g μ' H' ns vs dx) → W (.ref C) (some dx) σ' H'
  | .bad => False
/-- what is new may be changed -/
abbrev Fz (Fr : Addr → Prop) (H : Hp) : Prop := ∀ p, H p = none → Fr p
def liftS (g : Wd) (W : WX) (Fr : Addr → Prop) (m : C) : TS := fun De σ H => ∃ μ ρ s, Fz Fr H ∧ REn g Fr μ H ρ σ ∧ Rs g μ H s ∧ runsS g W Fr μ H De (m ρ s)
section
variable {Fr : Addr → Prop} {g : Wd} {W : WX} {σ : L2.St} {μ μ1 : M} {H H1 : Hp} {α β γ δ : Type}
theorem Fz.at {Fr' : Addr → Prop} {μ' : M} {H' : Hp} (h : Fz Fr H) (x : Ex Fr' μ H μ' H') : Fz Fr H' := fun p e => h p (x.trk p e)
theorem runs_mono {Rel : M → Hp → α → β → Prop} {Q : β → Hp → Prop} {r : R α} (x : Ex Fn0 μ H μ1 H1) (h : runs g W σ μ H Rel Q r) : runs g W σ μ1 H1 Rel Q r := by
  cases r with
  | ok a s => exact fun μ' H' b y => h μ' H' b (x.trans y)
  | err c ns vs s => exact fun μ' H' C dx y r m ⟨n, q⟩ => h μ' H' C dx (x.trans y) r m ⟨x.trk _ n, q⟩
  | bad => exact h
theorem runsS_mono {De : Ends} {r : RS} (x : Ex Fr μ H μ1 H1) (h : runsS g W Fr μ H De r) : runsS g W Fr μ1 H1 De r := by
  cases r with
  | nx ρ s => exact fun μ' H' b y => h μ' H' b (x.trans y)
  | rt ρ s => exact fun μ' H' b y => h μ' H' b (x.trans y)
  | bk ρ s => exact fun μ' H' b y => h μ' H' b (x.trans y)
  | ct ρ s => exact fun μ' H' b y => h μ' H' b (x.trans y)
  | err c ns vs ρ s => exact fun μ' H' σ' C dx y r e m ⟨n, q⟩ => h μ' H' σ' C dx (x.trans y) r e m ⟨x.trk _ n, q⟩
  | bad => exact h
theorem runs_bind {Rel1 : M → Hp → α → β → Prop} {Rel2 : M → Hp → γ → δ → Prop} {Q1 : β → Hp → Prop} {Q2 : δ → Hp → Prop} {r : R α} {f : α → S → R γ}
    (h : runs g W σ μ H Rel2 Q2 (r.bind f)) (k : ∀ a s μ' H' b, r = .ok a s → Ex Fn0 μ H μ' H' → Rs g μ' H' s → Rel1 μ' H' a b → runs g W σ μ' H' Rel2 Q2 (f a s) → Q1 b H') : runs g W σ μ H Rel1 Q1 r := by
  cases r with
  | ok a s => exact fun μ' H' b x y z => k a s μ' H' b rfl x y z (runs_mono x h)
  | err c ns vs s => exact h
  | bad => exact h
theorem runs_stm {Rel1 : M → Hp → α → β → Prop} {Q1 : β → Hp → Prop} {De : Ends} {ρ : En} {r : R α} {f : α → S → RS} (he : REn g Fr μ H ρ σ)
    (h : runsS g W Fr μ H De (r.stm ρ f)) (k : ∀ a s μ' H' b, r = .ok a s → Ex Fn0 μ H μ' H' → Rs g μ' H' s → Rel1 μ' H' a b → runsS g W Fr μ' H' De (f a s) → Q1 b H') : runs g W σ μ H Rel1 Q1 r := by
  cases r with
  | ok a s => exact fun μ' H' b x y z => k a s μ' H' b rfl x y z (runsS_mono x.s h)
  | err c ns vs s => exact fun μ' H' C dx x y z => h μ' H' σ C dx x.s y (he.mono x) z
  | bad => exact h
/-- nothing is done -/
theorem runs_pure {Rel : M → Hp → α → β → Prop} {Q : β → Hp → Prop} {a : α} {b : β} {s : S} (h : runs g W σ μ H Rel Q (.ok a s)) (hs : Rs g μ H s) (r : Rel μ H a b) : Q b H := h μ H b Ex.refl hs r
/-- another reading of what comes -/
theorem runs_rel {Rel1 Rel2 : M → Hp → α → β → Prop} {Q : β → Hp → Prop} {r : R α} (h : runs g W σ μ H Rel2 Q r) (k : ∀ a s μ' H' b, r = .ok a s → Ex Fn0 μ H μ' H' → Rs g μ' H' s → Rel1 μ' H' a b → ∃ μ'', Ex Fn0 μ H μ'' H' ∧ Rs g μ'' H' s ∧ Rel2 μ'' H' a b) : runs g W σ μ H Rel1 Q r := by
  cases r with
  | ok a s =>
    intro μ' H' b x y z
    obtain ⟨μ2, a1, a2, a3⟩ := k a s μ' H' b rfl x y z
    exact h μ2 H' b a1 a2 a3
  | err c ns vs s => exact h
  | bad => exact h
theorem RV.w {d : D} {x : V} (h : RV g μ H d x) : RW g μ H d x := .inl h
theorem RVs.w : ∀ {ds : List D} {xs : List V}, RVs g μ H ds xs → RWs g μ H ds xs
  | [], _, h => h
  | d :: ds, xs, h => by
    simp only [RVs] at h
    obtain ⟨y, r, e, a, b⟩ := h
    exact ⟨y, r, e, a.w, b.w⟩
theorem RW.mono {d : D} {x : V} (y : Ex Fn0 μ H μ1 H1) (h : RW g μ H d x) : RW g μ1 H1 d x :=
  h.imp (RV.mono y) fun ⟨v, p, e, n, c⟩ => by
    obtain ⟨u, eu, _⟩ := c.there
    exact ⟨v, p, e, y.nm eu n, c.mono y fun u e => y.oth p u e n (.inr id)⟩
theorem RWs.mono (y : Ex Fn0 μ H μ1 H1) : ∀ {ds : List D} {xs : List V}, RWs g μ H ds xs → RWs g μ1 H1 ds xs
  | [], _, h => h
  | d :: ds, xs, ⟨x, r, e, a, b⟩ => ⟨x, r, e, a.mono y, b.mono y⟩
theorem RWs.inv1 {d : D} {xs : List V} (h : RWs g μ H [d] xs) : ∃ x, xs = [x] ∧ RW g μ H d x := let ⟨y, r, e, a, b⟩ := h; ⟨y, by rw [e, show r = [] from b], a⟩
theorem RWs.inv2 {d e : D} {xs : List V} (h : RWs g μ H [d, e] xs) : ∃ x y, xs = [x, y] ∧ RW g μ H d x ∧ RW g μ H e y := by
  obtain ⟨y, r, e1, a, z, r', e2, b, e3⟩ := h
  subst e1; subst e2; subst e3
  exact ⟨y, z, rfl, a, b⟩
theorem RWs.inv3 {d e f : D} {xs : List V} (h : RWs g μ H [d, e, f] xs) : ∃ x y z, xs = [x, y, z] ∧ RW g μ H d x ∧ RW g μ H e y ∧ RW g μ H f z := by
  obtain ⟨y, r, e1, a, z, r', e2, b, u, r2, e3, c, e4⟩ := h
  subst e1; subst e2; subst e3; subst e4
  exact ⟨y, z, u, rfl, a, b, c⟩
theorem RW.light {d : D} {x : V} (h : RW g μ H d x) (n : d.heavy = false) : RV g μ H d x := h.elim id fun ⟨v, _⟩ => by rw [n] at v; cases v
/-- what is new stays as it is from now on -/
theorem Nw.frz {H0 : Hp} {d : D} {x : V} {s : S} (hd : d.heavy = true) (h : Nw g H0 μ1 H1 d x) (y : Ex Fn0 μ H0 μ1 H1) (hs : Rs g μ1 H1 s) : ∃ μ2, Ex Fn0 μ H0 μ2 H1 ∧ Rs g μ2 H1 s ∧ RV g μ2 H1 d x := by
  obtain ⟨p, rfl, e0, hm, hz, c⟩ := h
  obtain ⟨u, eu, _⟩ := c.there
  have q : Ex (fun q => q = p) μ1 H1 (μ1.frz p hm) H1 := ex_frz hm (.inl rfl)
  have c2 : Ce g (μ1.frz p hm) H1 p d := c.mono q fun _ e => e
  refine ⟨μ1.frz p hm, ⟨y.pre, y.trk, y.tup, y.frz, y.oth, fun r hr => .inl (y.zs r hr), fun r hr => ?_⟩, hs.frz hm ⟨u, eu⟩, ?_⟩
  · rcases hr with hr | hr
    · exact y.zn r hr
    · subst hr; exact .inr (.inr e0)
  · have zp : (μ1.frz p hm).z p := .inr rfl
    cases d <;> simp only [D.heavy, Bool.false_eq_true] at hd <;> simp only [Ce] at c2 <;> simp only [RV]
    · obtain ⟨ys, a, b⟩ := c2
      exact ⟨p, ys, rfl, zp, a, b⟩
    · obtain ⟨ys, a, l, b⟩ := c2
      exact ⟨p, ys, rfl, zp, a, l, b⟩
    · obtain ⟨ys, a, l, b⟩ := c2
      exact ⟨p, ys, rfl, zp, a, l, b⟩
    · exact ⟨p, rfl, zp, c2⟩
    · obtain ⟨ys, a, l, b⟩ := c2
      exact ⟨p, ys, rfl, zp, a, l, b⟩
theorem runs_fz {Q : VK} {r : R D} (h : runs g W σ μ H (RV g) Q r) : runs g W σ μ H (RF g H) Q r := runs_rel h fun a s μ' H' b _ x y z => by
  unfold RF at z
  split at z
  · rename_i hd
    exact z.frz hd x y
  · exact ⟨μ', x, y, z⟩
theorem runs_post {Rel : M → Hp → α → β → Prop} {Q1 Q2 : β → Hp → Prop} {r : R α} (h : runs g W σ μ H Rel Q1 r) (k : ∀ b H', Q1 b H' → Q2 b H') : runs g W σ μ H Rel Q2 r := by
  cases r with
  | ok a s => exact fun μ' H' b x y z => k b H' (h μ' H' b x y z)
  | err c ns vs s => exact h
  | bad => exact h
/-- what is new, of a step behind -/
theorem RF.back {H0 : Hp} {d : D} {x : V} {μ2 : M} {H2 : Hp} (y : Ex Fn0 μ H0 μ1 H1) (h : RF g H1 μ2 H2 d x) : RF g H0 μ2 H2 d x := by
  unfold RF at h ⊢
  split
  · rename_i hd
    rw [if_pos hd] at h
    obtain ⟨p, e, e0, r⟩ := h
    exact ⟨p, e, y.trk p e0, r⟩
  · rename_i hd
    rw [if_neg hd] at h
    exact h
end
section
variable {X : Cx} {W : WX} {pos : Pos} {e : Expr} {es : List Expr} {m : E} {ms : As}
theorem pe_imp {t1 t2 : TE} (h : PE X e t1) (k : ∀ σ H Q, t2 σ H Q → t1 σ H Q) : PE X e t2 := ⟨fun pins s σ H Q I q => h.run pins s σ H Q I (k σ H Q q)⟩
theorem pt_imp {t1 t2 : TT} (h : PT X e t1) (k : ∀ σ H Q, t2 σ H Q → t1 σ H Q) : PT X e t2 := ⟨fun pins s σ H Q I q => h.run pins s σ H Q I (k σ H Q q)⟩
theorem pw_imp {t1 t2 : TT} (h : PW X e t1) (k : ∀ σ H Q, t2 σ H Q → t1 σ H Q) : PW X e t2 := ⟨fun wh pins s σ H Q I q => h.run wh pins s σ H Q I (k σ H Q q)⟩
theorem pa_imp {t1 t2 : TA} (h : PA X es t1) (k : ∀ σ H Q, t2 σ H Q → t1 σ H Q) : PA X es t2 := ⟨fun p pins s σ H Q I q => h.run p pins s σ H Q I (k σ H Q q)⟩
/-- to be read alone -/
theorem q_B (h : PE X e (liftE (wd X) W m)) : PE X e (liftB (wd X) W m) := pe_imp h fun σ H Q ⟨Fr, μ, ρ, s, he, hs, r⟩ => ⟨Fr, μ, ρ, s, he, hs, runs_rel r fun a s μ' H' b _ x y z => ⟨μ', x, y, z.w⟩⟩
/-- what is new stays as it is -/
theorem q_fz (h : PE X e (liftF (wd X) W m)) : PE X e (liftE (wd X) W m) := pe_imp h fun σ H Q ⟨Fr, μ, ρ, s, he, hs, r⟩ => ⟨Fr, μ, ρ, s, he, hs, runs_rel r fun a s μ' H' b _ x y z => by
  unfold RF at z
  split at z
  · rename_i hd
    exact z.frz hd x y
  · exact ⟨μ', x, y, z⟩⟩
/-- what is new comes into the store -/
def liveE (m : E) : E := fun ρ s => (m ρ s).bind fun d s => if d.heavy then .ok (.ref s.length) (s ++ [d]) else .bad
theorem q_live (h : PE X e (liftF (wd X) W m)) : PE X e (liftE (wd X) W (liveE m)) := pe_imp h fun σ H Q ⟨Fr, μ, ρ, s, he, hs, r⟩ => ⟨Fr, μ, ρ, s, he, hs, by
  unfold liveE at r
  cases q : m ρ s with
  | err c ns vs s1 => rw [q] at r; exact r
  | bad => rw [q] at r; exact r
  | ok d s1 =>
    rw [q] at r
    have r : runs (wd X) W σ μ H (RV (wd X)) Q (if d.heavy then .ok (.ref s1.length) (s1 ++ [d]) else .bad) := r
    split at r
    · rename_i hd
      intro μ1 H1 b x y z
      unfold RF at z
      rw [if_pos hd] at z
      obtain ⟨p, rfl, e0, hm, hz, c⟩ := z
      obtain ⟨u, eu, nt, nf⟩ := c.there
      have x2 : Ex Fn0 μ H (μ1.push p hz) H1 := by
        obtain ⟨ν, eν, hν⟩ := x.pre
        refine ⟨⟨ν ++ [p], by show μ1.m ++ [p] = _; rw [eν, List.append_assoc], fun q hq => ?_⟩, x.trk, x.tup, x.frz, x.oth, x.zs, x.zn⟩
        rcases List.mem_append.mp hq with hq | hq
        · exact hν q hq
        · simp at hq; subst hq; exact e0
      obtain ⟨y2, rv⟩ := y.adopt hm hz c
      exact r _ _ _ x2 y2 rv
    · exact r.elim⟩
end
end Fv

namespace Fv
open PySem PySem.Spec PyProof.Rows L2
/-! ### combinators of expressions -/
def varE (i : Nat) : E := fun ρ s => match ρ[i]? with | some (some (.v d)) => .ok d s | _ => .bad
/-- to be read alone -/
def borE (i : Nat) : E := fun ρ s => match ρ[i]? with | some (some (.v d)) => .ok d s | some (some (.o d)) => if d.heavy then .ok d s else .bad | _ => .bad
def conE (d : D) : E := fun _ s => .ok d s
def binE (o : D → D → S → R D) (a b : E) : E := fun ρ s => (a ρ s).bind fun x s => (b ρ s).bind fun y s => o x y s
def unE (o : D → S → R D) (a : E) : E := fun ρ s => (a ρ s).bind o
def nilA : As := fun _ s => .ok [] s
def consA (a : E) (r : As) : As := fun ρ s => (a ρ s).bind fun x s => (r ρ s).bind fun xs s => .ok (x :: xs) s
def callE (f : Fn) (a : As) : E := fun ρ s => (a ρ s).bind f
def seqOf (s : S) : D → Option (List D)
  | .tup xs => some xs
  | .ktup xs => some xs
  | .lst xs => some xs
  | .fl xs => some xs
  | .ref a => match s[a]? with | some (.lst xs) => some xs | _ => none
  | _ => none
def dctOf (s : S) : D → Option (List D × List D)
  | .dct ks vs => some (ks, vs)
  | .ref a => match s[a]? with | some (.dct ks vs) => some (ks, vs) | _ => none
  | _ => none
def starA (a : E) (r : As) : As := fun ρ s => (a ρ s).bind fun x s => match seqOf s x with | some xs => (r ρ s).bind fun ys s => .ok (xs ++ ys) s | none => .bad
def szl (n : Nat) : Bool := decide (n ≤ sizeLine)
def tupE (a : As) : E := fun ρ s => (a ρ s).bind fun xs s => if szl xs.length then .ok (.tup xs) s else .bad
def lstE (a : As) : E := fun ρ s => (a ρ s).bind fun xs s => if szl xs.length then .ok (.lst xs) s else .bad
def truthB (d : D) (s : S) : Option Bool := match d with
  | .non => some false
  | .bl b => some b
  | .int i => some (i != 0)
  | .str x => if szl x.length then some ((x.length : Int) != 0) else none
  | .tup xs => some (!xs.isEmpty)
  | .ktup xs => some (!xs.isEmpty)
  | .lst xs => some (!xs.isEmpty)
  | .fl xs => some (!xs.isEmpty)
  | .dct ks _ => some (!ks.isEmpty)
  | .ref a => match s[a]? with
    | some (.lst xs) => some (!xs.isEmpty)
    | some (.dct ks _) => some (!ks.isEmpty)
    | _ => none
  | _ => none
def truth (d : D) (s : S) : R Bool := match truthB d s with | some b => .ok b s | none => .bad
def truE (a : E) : T := fun ρ s => (a ρ s).bind truth
def boolE (d : D) (s : S) : R Bool := match d with | .bl b => .ok b s | _ => .bad
def tstE (a : E) : T := fun ρ s => (a ρ s).bind boolE
def andE (a b : E) : E := fun ρ s => (a ρ s).bind fun x s => (truth x s).bind fun k s => if k then b ρ s else .ok x s
def orE (a b : E) : E := fun ρ s => (a ρ s).bind fun x s => (truth x s).bind fun k s => if k then .ok x s else b ρ s
def notE (a : E) : E := fun ρ s => (a ρ s).bind fun x s => (truth x s).bind fun k s => .ok (.bl (!k)) s
def andT (a b : T) : T := fun ρ s => (a ρ s).bind fun k s => if k then b ρ s else .ok false s
def orT (a b : T) : T := fun ρ s => (a ρ s).bind fun k s => if k then .ok true s else b ρ s
def notT (a : T) : T := fun ρ s => (a ρ s).bind fun k s => .ok (!k) s
def ifE (t : T) (a b : E) : E := fun ρ s => (t ρ s).bind fun k s => if k then a ρ s else b ρ s
def chainE (o1 o2 : D → D → S → R D) (a b c : E) : E := fun ρ s => (a ρ s).bind fun x s => (b ρ s).bind fun y s => (o1 x y s).bind fun z s => (boolE z s).bind fun k s =>
  if k then (c ρ s).bind fun w s => o2 y w s else .ok (.bl false) s

/-! ### rules -/
section
variable {X : Cx} {W : WX} {pos : Pos} {e a b : Expr} {es : List Expr} {m ma mb : E} {ms : As} {t ta tb : T}
theorem qv (i : Nat) {x : Str} (hN : X.N[i]? = some x := by rfl) (hv : Vis X.env.scope x := by first | exact Or.inl rfl | exact Or.inr (Or.inl rfl) | exact Or.inr (Or.inr rfl)) (hd : (x == ("__debug__" : Str)) = false := by decide)
    (hcd : (x == ("__classdict__" : Str)) = false := by decide) : PE X (.Name x pos) (liftE (wd X) W (varE i)) := by
  refine pe_imp (pe_var hN hv hd hcd) fun σ H Q ⟨Fr, μ, ρ, s, he, hs, h⟩ => ?_
  unfold varE at h
  split at h
  · rename_i d ei
    obtain ⟨v, ev, r⟩ := he.v i d ei
    exact ⟨v, ev, runs_pure h hs r⟩
  · exact h.elim
theorem qb (i : Nat) {x : Str} (hN : X.N[i]? = some x := by rfl) (hv : Vis X.env.scope x := by first | exact Or.inl rfl | exact Or.inr (Or.inl rfl) | exact Or.inr (Or.inr rfl)) (hd : (x == ("__debug__" : Str)) = false := by decide)
    (hcd : (x == ("__classdict__" : Str)) = false := by decide) : PE X (.Name x pos) (liftB (wd X) W (borE i)) := by
  refine pe_imp (pe_var hN hv hd hcd) fun σ H Q ⟨Fr, μ, ρ, s, he, hs, h⟩ => ?_
  unfold borE at h
  split at h
  · rename_i d ei
    obtain ⟨v, ev, r⟩ := he.v i d ei
    exact ⟨v, ev, runs_pure h hs r.w⟩
  · rename_i d ei
    split at h
    · rename_i hd
      obtain ⟨p, ev, c, hm, hz, _⟩ := he.o i d ei
      exact ⟨_, ev, runs_pure h hs (.inr ⟨hd, p, rfl, hm, c⟩)⟩
    · exact h.elim
  · exact h.elim
theorem q_con {d : D} {v : V} (h : PE X e (tC v)) (r : ∀ μ H, RV (wd X) μ H d v) : PE X e (liftE (wd X) W (conE d)) :=
  pe_imp h fun σ H Q ⟨Fr, μ, ρ, s, he, hs, h⟩ => runs_pure (show runs (wd X) W σ μ H (RV (wd X)) Q (.ok d s) from h) hs (r μ H)
theorem q_int {i : Int} {j} : PE X (.Constant (.int i) j pos) (liftE (wd X) W (conE (.int i))) := q_con pe_int fun _ _ => by simp only [RV]
theorem q_bl {i : Bool} {j} : PE X (.Constant (.bool i) j pos) (liftE (wd X) W (conE (.bl i))) := q_con pe_bl fun _ _ => by simp only [RV]
theorem q_non {j} : PE X (.Constant .none j pos) (liftE (wd X) W (conE .non)) := q_con pe_non fun _ _ => by simp only [RV]
theorem q_str {x : Str} {j} : PE X (.Constant (.str x) j pos) (liftE (wd X) W (conE (.str x))) := q_con pe_str fun _ _ => by simp only [RV]
theorem q_gl {x : Str} {f : Addr} (hm : X.mg x = some (.ref f)) (hg : Gl X x := by rfl) (hd : (x == ("__debug__" : Str)) = false := by decide) : PE X (.Name x pos) (liftE (wd X) W (conE (.gl x))) :=
  q_con (pe_glob (v := .ref f) hg hm rfl hd) fun _ _ => by simp only [RV]; exact ⟨f, hm, rfl⟩
theorem q_ty {x : Str} {n : String} (hm : X.mg x = none) (hv : bootBuiltins x = some (.type n)) (hg : Gl X x := by rfl) (hn : x ≠ "__name__" := by decide) (hd : (x == ("__debug__" : Str)) = false := by decide) : PE X (.Name x pos) (liftE (wd X) W (conE (.ty n))) :=
  q_con (pe_bltn (v := .ty n) hg hm hv rfl hn hd) fun _ _ => by simp only [RV]
theorem q_gint {x : Str} {i : Int} {tk : Tok} (hm : X.mg x = some (.int i tk)) (hg : Gl X x := by rfl) (hd : (x == ("__debug__" : Str)) = false := by decide) : PE X (.Name x pos) (liftE (wd X) W (conE (.int i))) :=
  q_con (pe_glob (v := .int i) hg hm ⟨tk, rfl⟩ hd) fun _ _ => by simp only [RV]
/-- a name of the module that stands for a tuple of the written part -/
theorem q_gtup {x : Str} {p : Addr} {ds : List D} {ys : List V} (hm : X.mg x = some (.ref p)) (hk : KtS X.K p ys) (hr : ∀ μ H, RVs (wd X) μ H ds ys) (hg : Gl X x := by rfl) (hd : (x == ("__debug__" : Str)) = false := by decide) : PE X (.Name x pos) (liftE (wd X) W (conE (.ktup ds))) :=
  q_con (pe_glob (v := .ref p) hg hm rfl hd) fun μ H => by simp only [RV]; exact ⟨p, ys, rfl, hk, hr μ H⟩

/-- an operation by values -/
def rL (g : Wd) (o : D → D → S → R D) : R2 := fun x y H Q => ∃ μ s d e, Rs g μ H s ∧ RW g μ H d x ∧ RW g μ H e y ∧ ∃ W σ, runs g W σ μ H (RF g H) Q (o d e s)
abbrev QOp (X : Cx) (f : Value → Value → Sem Value) (o : D → D → S → R D) : Prop := OpR X f (rL (wd X) o)
theorem runs_back {g : Wd} {σ : L2.St} {μ μ1 : M} {H H1 : Hp} {Q : VK} {r : R D} (x : Ex Fn0 μ H μ1 H1) (h : runs g W σ μ1 H1 (RF g H) Q r) : runs g W σ μ1 H1 (RF g H1) Q r :=
  runs_rel h fun a s μ' H' b _ y z w => ⟨μ', y, z, RF.back x w⟩
theorem bin_sound {g : Wd} {o : D → D → S → R D} {σ : L2.St} {H : Hp} {Q : VK} (h : liftF g W (binE o ma mb) σ H Q) : tOp (rL g o) (liftB g W ma) (liftB g W mb) σ H Q := by
  obtain ⟨Fr, μ, ρ, s, he, hs, h⟩ := h
  refine ⟨Fr, μ, ρ, s, he, hs, runs_bind (Rel1 := RW g) h fun d s1 μ1 H1 x e1 x1 hs1 r1 h1 => ?_⟩
  refine ⟨Fr, μ1, ρ, s1, he.mono x1, hs1, runs_bind (Rel1 := RW g) h1 fun d2 s2 μ2 H2 y e2 x2 hs2 r2 h2 => ?_⟩
  exact ⟨μ2, s2, d, d2, hs2, r1.mono x2, r2, W, σ, runs_back (x1.trans x2) h2⟩
theorem q_bin {op : Operator} {o : D → D → S → R D} (ho : QOp X (binaryOp op) o) (ha : PE X a (liftB (wd X) W ma)) (hb : PE X b (liftB (wd X) W mb)) : PE X (.BinOp a op b pos) (liftF (wd X) W (binE o ma mb)) :=
  pe_imp (pe_op ho ha hb) fun _ _ _ => bin_sound
theorem q_cmp {op : CmpOp} {o : D → D → S → R D} (ho : QOp X (compareOp op) o) (ha : PE X a (liftB (wd X) W ma)) (hb : PE X b (liftB (wd X) W mb)) (hm : behindInMarks op b = false := by first | exact nobehind _ (by decide) (by decide) | rfl) : PE X (.Compare a [op] [b] pos) (liftF (wd X) W (binE o ma mb)) :=
  pe_imp (pe_cmpR ho ha hb hm) fun _ _ _ => bin_sound
theorem tst_sound {g : Wd} {σ : L2.St} {H : Hp} {Q : Bool → Hp → Prop} (h : liftT g W (tstE m) σ H Q) : tTest (liftF g W m) σ H Q := by
  obtain ⟨Fr, μ, ρ, s, he, hs, h⟩ := h
  refine ⟨Fr, μ, ρ, s, he, hs, runs_bind (Rel1 := RF g H) h fun d s1 μ1 H1 x e1 x1 hs1 r1 h1 => ?_⟩
  cases d with
  | bl c =>
    have r1 : RV g μ1 H1 (.bl c) x := r1
    simp only [RV] at r1
    exact ⟨c, r1, runs_pure (show runs g W σ μ1 H1 RB Q (.ok c s1) from h1) hs1 rfl⟩
  | _ => exact h1.elim
theorem q_cmpT {op : CmpOp} {o : D → D → S → R D} (ho : QOp X (compareOp op) o) (ha : PE X a (liftB (wd X) W ma)) (hb : PE X b (liftB (wd X) W mb)) (hm : behindInMarks op b = false := by first | exact nobehind _ (by decide) (by decide) | rfl) : PT X (.Compare a [op] [b] pos) (liftT (wd X) W (tstE (binE o ma mb))) :=
  pt_imp (pt_cmpR ho ha hb hm) fun σ H Q h => bin_sound (tst_sound h)
theorem chain_sound {g : Wd} {mc : E} {o o' : D → D → S → R D} {σ : L2.St} {H : Hp} {Q : VK} (h : liftF g W (chainE o o' ma mb mc) σ H Q) : tChain (rL g o) (rL g o') (liftB g W ma) (liftB g W mb) (liftB g W mc) σ H Q := by
  obtain ⟨Fr, μ, ρ, s, he, hs, h⟩ := h
  refine ⟨Fr, μ, ρ, s, he, hs, runs_bind (Rel1 := RW g) h fun d s1 μ1 H1 x e1 x1 hs1 r1 h1 => ?_⟩
  refine ⟨Fr, μ1, ρ, s1, he.mono x1, hs1, runs_bind (Rel1 := RW g) h1 fun d2 s2 μ2 H2 y e2 x2 hs2 r2 h2 => ?_⟩
  refine ⟨μ2, s2, d, d2, hs2, r1.mono x2, r2, W, σ, runs_bind (Rel1 := RF g H2) h2 fun d3 s3 μ3 H3 z e3 x3 hs3 r3 h3 => ?_⟩
  cases d3 with
  | bl k =>
    have r3 : RV g μ3 H3 (.bl k) z := r3
    simp only [RV] at r3
    refine ⟨k, r3, ?_⟩
    have h4 : runs g W σ μ3 H3 (RF g H) Q (if k = true then (mc ρ s3).bind fun w s => o' d2 w s else .ok (.bl false) s3) := h3
    cases k with
    | true =>
      refine ⟨Fr, μ3, ρ, s3, ((he.mono x1).mono x2).mono x3, hs3, runs_bind (Rel1 := RW g) h4 fun d4 s4 μ4 H4 u e4 x4 hs4 r4 h5 => ?_⟩
      exact ⟨μ4, s4, d2, d4, hs4, (r2.mono x3).mono x4, r4, W, σ, runs_back (((x1.trans x2).trans x3).trans x4) h5⟩
    | false => exact runs_pure h4 hs3 (show RV g μ3 H3 (.bl false) _ by simp only [RV])
  | _ => exact h3.elim
theorem q_chain {op op' : CmpOp} {c : Expr} {mc : E} {o o' : D → D → S → R D} (ho : QOp X (compareOp op) o) (ho' : QOp X (compareOp op') o') (ha : PE X a (liftB (wd X) W ma)) (hb : PE X b (liftB (wd X) W mb)) (hc : PE X c (liftB (wd X) W mc)) (hm : lastMarks [op, op'] [b, c] = false := by rfl) :
    PE X (.Compare a [op, op'] [b, c] pos) (liftF (wd X) W (chainE o o' ma mb mc)) := pe_imp (pe_chain ho ho' ha hb hc hm) fun _ _ _ => chain_sound
theorem q_chainT {op op' : CmpOp} {c : Expr} {mc : E} {o o' : D → D → S → R D} (ho : QOp X (compareOp op) o) (ho' : QOp X (compareOp op') o') (ha : PE X a (liftB (wd X) W ma)) (hb : PE X b (liftB (wd X) W mb)) (hc : PE X c (liftB (wd X) W mc)) (hm : lastMarks [op, op'] [b, c] = false := by rfl) :
    PT X (.Compare a [op, op'] [b, c] pos) (liftT (wd X) W (tstE (chainE o o' ma mb mc))) := pt_imp (pt_chain ho ho' ha hb hc hm) fun σ H Q h => chain_sound (tst_sound h)
/-- truth -/
theorem len_iff {α β : Type} {xs : List α} {ys : List β} (h : xs.length = ys.length) : xs.isEmpty = ys.isEmpty := by cases xs <;> cases ys <;> simp_all
theorem keysD_len : ∀ {ks : List D} {kk : List Key}, keysD ks = some kk → ks.length = kk.length
  | [], kk, e => by simp only [keysD, Option.some.injEq] at e; subst e; rfl
  | k :: ks, kk, e => by
    simp only [keysD, Option.bind_eq_some_iff, Option.map_eq_some_iff] at e
    obtain ⟨k', _, r, e2, rfl⟩ := e
    simp [keysD_len e2]
theorem dk_tru {K : PySem.W.Frag} {H : Hp} {p : Addr} {ks : List D} {ys : List V} {k : Bool} (q : Dk H p ks ys) (l : ks.length = ys.length) (e : some (!ks.isEmpty) = some k) : TruV K (.ref p) H k := by
  obtain ⟨kk, ek, q⟩ := q
  cases e
  refine .inr (.inr ⟨_, q, ?_⟩)
  rw [len_iff (xs := ks) (ys := kk.zip ys) (by rw [List.length_zip, ← l, ← keysD_len ek]; simp)]
theorem truth_sound {g : Wd} {μ : M} {H : Hp} {s : S} {d : D} {x : V} {k : Bool} (hs : Rs g μ H s) (r : RW g μ H d x) (e : truthB d s = some k) : TruV g.K x H k := by
  rcases r with r | ⟨hd, p, rfl, hm, c⟩
  · cases d with
    | non => simp only [RV] at r; subst r; simp only [truthB, Option.some.injEq] at e; exact e.symm
    | bl c => simp only [RV] at r; subst r; simp only [truthB, Option.some.injEq] at e; exact e.symm
    | int i => simp only [RV] at r; subst r; simp only [truthB, Option.some.injEq] at e; exact e.symm
    | str y =>
      simp only [RV] at r; subst r
      simp only [truthB] at e
      split at e
      · rename_i hz
        cases e
        exact ⟨of_decide_eq_true hz, rfl⟩
      · cases e
    | tup xs =>
      simp only [RV] at r
      obtain ⟨p, ys, rfl, q, rr⟩ := r
      simp only [truthB, Option.some.injEq] at e
      refine .inr (.inl ⟨ys, SqT.of q, ?_⟩)
      rw [← e, len_iff rr.length]
    | ktup xs =>
      simp only [RV] at r
      obtain ⟨p, ys, rfl, q, rr⟩ := r
      simp only [truthB, Option.some.injEq] at e
      refine .inr (.inl ⟨ys, q H, ?_⟩)
      rw [← e, len_iff rr.length]
    | lst xs =>
      simp only [RV] at r
      obtain ⟨p, ys, rfl, _, q, rr⟩ := r
      simp only [truthB, Option.some.injEq] at e
      refine .inl ⟨ys, .inl (.inl q), ?_⟩
      rw [← e, len_iff rr.length]
    | fl xs =>
      simp only [RV] at r
      obtain ⟨p, ys, rfl, q, rr⟩ := r
      simp only [truthB, Option.some.injEq] at e
      refine .inl ⟨ys, q.sq, ?_⟩
      rw [← e, len_iff rr.length]
    | dct ks xs =>
      simp only [RV] at r
      obtain ⟨p, ys, rfl, _, q, l, _⟩ := r
      exact dk_tru q l e
    | ref a =>
      simp only [RV] at r
      obtain ⟨p, ep, rfl⟩ := r
      simp only [truthB] at e
      split at e
      · rename_i xs ei
        obtain ⟨ys, hp, rr⟩ := hs.at_ _ _ _ ei ep
        simp only [Option.some.injEq] at e
        refine .inl ⟨ys, .inl (.inl hp), ?_⟩
        rw [← e, len_iff rr.length]
      · rename_i ks xs ei
        obtain ⟨ys, q, l, _⟩ := hs.at_ _ _ _ ei ep
        exact dk_tru q l e
      · cases e
    | _ => cases e
  · cases d with
    | lst xs =>
      obtain ⟨ys, hp, rr⟩ := c
      simp only [truthB, Option.some.injEq] at e
      refine .inl ⟨ys, .inl (.inl hp), ?_⟩
      rw [← e, len_iff rr.length]
    | dct ks xs =>
      obtain ⟨ys, q, l, _⟩ := c
      exact dk_tru q l e
    | dtt _ _ => cases e
    | set _ => cases e
    | obj _ _ _ => cases e
    | _ => cases hd
theorem runs_truth {g : Wd} {σ : L2.St} {μ : M} {H : Hp} {s : S} {d : D} {x : V} {α β : Type} {Rel : M → Hp → α → β → Prop} {Q : β → Hp → Prop} {f : Bool → S → R α} (hs : Rs g μ H s) (r : RW g μ H d x)
    (h : runs g W σ μ H Rel Q ((truth d s).bind f)) : ∃ k, TruV g.K x H k ∧ runs g W σ μ H Rel Q (f k s) := by
  unfold truth at h
  cases e : truthB d s with
  | some k =>
    rw [e] at h
    exact ⟨k, truth_sound hs r e, h⟩
  | none => rw [e] at h; exact h.elim
theorem q_truT (ha : PE X a (liftB (wd X) W ma)) (he : ∀ whole, isTrue a X.env whole = (do let v ← whole; standAt a.pos; holding [v] (truthy v)) := by intro _; rfl) : PT X a (liftT (wd X) W (truE ma)) :=
  pt_imp (pt_truth ha he) fun σ H Q ⟨Fr, μ, ρ, s, he, hs, h⟩ => ⟨Fr, μ, ρ, s, he, hs, runs_bind (Rel1 := RW (wd X)) h fun d s1 μ1 H1 x e1 x1 hs1 r1 h1 => by
    have h2 : runs (wd X) W σ μ1 H1 RB Q ((truth d s1).bind fun k s => .ok k s) := by
      cases q : truth d s1 <;> rw [q] at h1 <;> exact h1
    obtain ⟨k, t, h3⟩ := runs_truth hs1 r1 h2
    exact ⟨k, t, runs_pure h3 hs1 rfl⟩⟩
theorem q_and {rest : List Expr} (ha : PE X a (liftE (wd X) W ma)) (hb : PE X (.BoolOp .And (b :: rest) pos) (liftE (wd X) W mb)) : PE X (.BoolOp .And (a :: b :: rest) pos) (liftE (wd X) W (andE ma mb)) :=
  pe_imp (pe_andT ha hb) fun σ H Q ⟨Fr, μ, ρ, s, he, hs, h⟩ => ⟨Fr, μ, ρ, s, he, hs, runs_bind (Rel1 := RV (wd X)) h fun d s1 μ1 H1 x e1 x1 hs1 r1 h1 => by
    obtain ⟨k, t, h3⟩ := runs_truth hs1 r1.w h1
    refine ⟨k, t, ?_⟩
    cases k with
    | true => exact ⟨Fr, μ1, ρ, s1, he.mono x1, hs1, h3⟩
    | false => exact runs_pure h3 hs1 r1⟩
theorem q_or {rest : List Expr} (ha : PE X a (liftE (wd X) W ma)) (hb : PE X (.BoolOp .Or (b :: rest) pos) (liftE (wd X) W mb)) : PE X (.BoolOp .Or (a :: b :: rest) pos) (liftE (wd X) W (orE ma mb)) :=
  pe_imp (pe_orT ha hb) fun σ H Q ⟨Fr, μ, ρ, s, he, hs, h⟩ => ⟨Fr, μ, ρ, s, he, hs, runs_bind (Rel1 := RV (wd X)) h fun d s1 μ1 H1 x e1 x1 hs1 r1 h1 => by
    obtain ⟨k, t, h3⟩ := runs_truth hs1 r1.w h1
    refine ⟨k, t, ?_⟩
    cases k with
    | true => exact runs_pure h3 hs1 r1
    | false => exact ⟨Fr, μ1, ρ, s1, he.mono x1, hs1, h3⟩⟩
theorem q_one {op} (ha : PE X a (liftE (wd X) W ma)) : PE X (.BoolOp op [a] pos) (liftE (wd X) W ma) := pe_one ha
theorem q_not (ha : PE X a (liftB (wd X) W ma)) : PE X (.UnaryOp .Not a pos) (liftE (wd X) W (notE ma)) :=
  pe_imp (pe_notT ha) fun σ H Q ⟨Fr, μ, ρ, s, he, hs, h⟩ => ⟨Fr, μ, ρ, s, he, hs, runs_bind (Rel1 := RW (wd X)) h fun d s1 μ1 H1 x e1 x1 hs1 r1 h1 => by
    obtain ⟨k, t, h3⟩ := runs_truth hs1 r1 h1
    exact ⟨k, t, runs_pure h3 hs1 (by simp only [RV])⟩⟩
/-- tests -/
theorem q_and1T (ha : PT X a (liftT (wd X) W ta)) : PW X (.BoolOp .And [a] pos) (liftT (wd X) W ta) := pw_and1 ha
theorem q_or1T (ha : PT X a (liftT (wd X) W ta)) : PW X (.BoolOp .Or [a] pos) (liftT (wd X) W ta) := pw_or1 ha
theorem q_andT {rest : List Expr} (ha : PT X a (liftT (wd X) W ta)) (hb : PW X (.BoolOp .And (b :: rest) pos) (liftT (wd X) W tb)) : PW X (.BoolOp .And (a :: b :: rest) pos) (liftT (wd X) W (andT ta tb)) :=
  pw_imp (pw_and ha hb) fun σ H Q ⟨Fr, μ, ρ, s, he, hs, h⟩ => ⟨Fr, μ, ρ, s, he, hs, runs_bind (Rel1 := RB) h fun d s1 μ1 H1 x e1 x1 hs1 r1 h1 => by
    obtain rfl : d = x := r1
    cases d with
    | true => exact ⟨Fr, μ1, ρ, s1, he.mono x1, hs1, h1⟩
    | false => exact runs_pure h1 hs1 rfl⟩
theorem q_orT {rest : List Expr} (ha : PT X a (liftT (wd X) W ta)) (hb : PW X (.BoolOp .Or (b :: rest) pos) (liftT (wd X) W tb)) : PW X (.BoolOp .Or (a :: b :: rest) pos) (liftT (wd X) W (orT ta tb)) :=
  pw_imp (pw_or ha hb) fun σ H Q ⟨Fr, μ, ρ, s, he, hs, h⟩ => ⟨Fr, μ, ρ, s, he, hs, runs_bind (Rel1 := RB) h fun d s1 μ1 H1 x e1 x1 hs1 r1 h1 => by
    obtain rfl : d = x := r1
    cases d with
    | true => exact runs_pure h1 hs1 rfl
    | false => exact ⟨Fr, μ1, ρ, s1, he.mono x1, hs1, h1⟩⟩
theorem q_notT (ha : PT X a (liftT (wd X) W ta)) : PT X (.UnaryOp .Not a pos) (liftT (wd X) W (notT ta)) :=
  pt_imp (pt_not ha) fun σ H Q ⟨Fr, μ, ρ, s, he, hs, h⟩ => ⟨Fr, μ, ρ, s, he, hs, runs_bind (Rel1 := RB) h fun d s1 μ1 H1 x e1 x1 hs1 r1 h1 => by
    obtain rfl : d = x := r1
    exact runs_pure h1 hs1 rfl⟩
theorem q_if {c : Expr} (hc : PT X c (liftT (wd X) W t)) (ha : PE X a (liftE (wd X) W ma)) (hb : PE X b (liftE (wd X) W mb)) : PE X (.IfExp c a b pos) (liftE (wd X) W (ifE t ma mb)) :=
  pe_imp (pe_ifExp hc ha hb) fun σ H Q ⟨Fr, μ, ρ, s, he, hs, h⟩ => ⟨Fr, μ, ρ, s, he, hs, runs_bind (Rel1 := RB) h fun d s1 μ1 H1 x e1 x1 hs1 r1 h1 => by
    obtain rfl : d = x := r1
    cases d with
    | true => exact ⟨Fr, μ1, ρ, s1, he.mono x1, hs1, h1⟩
    | false => exact ⟨Fr, μ1, ρ, s1, he.mono x1, hs1, h1⟩⟩
/-- arguments -/
theorem qa_nil : PA X [] (liftA (wd X) W nilA) := pa_imp pa_nil fun σ H Q ⟨Fr, μ, ρ, s, he, hs, h⟩ => runs_pure (show runs (wd X) W σ μ H (RVs (wd X)) Q (.ok [] s) from h) hs (by simp only [RVs])
theorem qa_cons (ha : PE X e (liftE (wd X) W ma)) (hr : PA X es (liftA (wd X) W ms)) (hs : starEach (e :: es) X.env = (false, eval e X.env) :: starEach es X.env := by rfl) : PA X (e :: es) (liftA (wd X) W (consA ma ms)) :=
  pa_imp (pa_cons ha hr hs) fun σ H Q ⟨Fr, μ, ρ, s, he, hs, h⟩ => ⟨Fr, μ, ρ, s, he, hs, runs_bind (Rel1 := RV (wd X)) h fun d s1 μ1 H1 x e1 x1 hs1 r1 h1 =>
    ⟨Fr, μ1, ρ, s1, he.mono x1, hs1, runs_bind (Rel1 := RVs (wd X)) h1 fun ds s2 μ2 H2 xs e2 x2 hs2 r2 h2 => runs_pure h2 hs2 (by simp only [RVs]; exact ⟨x, xs, rfl, r1.mono x2, r2⟩)⟩⟩
theorem qab_nil : PA X [] (liftAB (wd X) W nilA) := pa_imp pa_nil fun σ H Q ⟨Fr, μ, ρ, s, he, hs, h⟩ => runs_pure (show runs (wd X) W σ μ H (RWs (wd X)) Q (.ok [] s) from h) hs rfl
theorem qab_cons (ha : PE X e (liftB (wd X) W ma)) (hr : PA X es (liftAB (wd X) W ms)) (hs : starEach (e :: es) X.env = (false, eval e X.env) :: starEach es X.env := by rfl) : PA X (e :: es) (liftAB (wd X) W (consA ma ms)) :=
  pa_imp (pa_cons ha hr hs) fun σ H Q ⟨Fr, μ, ρ, s, he, hs, h⟩ => ⟨Fr, μ, ρ, s, he, hs, runs_bind (Rel1 := RW (wd X)) h fun d s1 μ1 H1 x e1 x1 hs1 r1 h1 =>
    ⟨Fr, μ1, ρ, s1, he.mono x1, hs1, runs_bind (Rel1 := RWs (wd X)) h1 fun ds s2 μ2 H2 xs e2 x2 hs2 r2 h2 => runs_pure h2 hs2 ⟨x, xs, rfl, r1.mono x2, r2⟩⟩⟩
theorem seqOf_sound {g : Wd} {μ : M} {H : Hp} {s : S} {d : D} {x : V} {xs : List D} (hs : Rs g μ H s) (r : RW g μ H d x) (e : seqOf s d = some xs) : ∃ p ys, x = .ref p ∧ (SqT g.K H p ys ∨ SqL g.K H p ys) ∧ RVs g μ H xs ys := by
  rcases r with r | ⟨hd, p, rfl, hm, c⟩
  · cases d with
    | tup ds =>
      simp only [RV] at r
      obtain ⟨p, ys, rfl, q, rr⟩ := r
      simp only [seqOf, Option.some.injEq] at e
      subst e
      exact ⟨p, ys, rfl, .inl (SqT.of q), rr⟩
    | ktup ds =>
      simp only [RV] at r
      obtain ⟨p, ys, rfl, q, rr⟩ := r
      simp only [seqOf, Option.some.injEq] at e
      subst e
      exact ⟨p, ys, rfl, .inl (q H), rr⟩
    | lst ds =>
      simp only [RV] at r
      obtain ⟨p, ys, rfl, _, q, rr⟩ := r
      simp only [seqOf, Option.some.injEq] at e
      subst e
      exact ⟨p, ys, rfl, .inr (.inl (.inl q)), rr⟩
    | fl ds =>
      simp only [RV] at r
      obtain ⟨p, ys, rfl, q, rr⟩ := r
      simp only [seqOf, Option.some.injEq] at e
      subst e
      exact ⟨p, ys, rfl, .inr q.sq, rr⟩
    | ref a =>
      simp only [RV] at r
      obtain ⟨p, ep, rfl⟩ := r
      simp only [seqOf] at e
      split at e
      · rename_i zs ei
        cases e
        obtain ⟨ys, hp, rr⟩ := hs.at_ _ _ _ ei ep
        exact ⟨p, ys, rfl, .inr (.inl (.inl hp)), rr⟩
      · cases e
    | _ => cases e
  · cases d with
    | lst ds =>
      obtain ⟨ys, hp, rr⟩ := c
      simp only [seqOf, Option.some.injEq] at e
      subst e
      exact ⟨p, ys, rfl, .inr (.inl (.inl hp)), rr⟩
    | tup _ => cases hd
    | ktup _ => cases hd
    | fl _ => cases hd
    | ref _ => cases hd
    | _ => cases e
theorem qa_star {p : Pos} (ha : PE X e (liftB (wd X) W ma)) (hr : PA X es (liftA (wd X) W ms)) (hs : starEach (.Starred e p :: es) X.env = (true, eval e X.env) :: starEach es X.env := by rfl) : PA X (.Starred e p :: es) (liftA (wd X) W (starA ma ms)) :=
  pa_imp (StX.pa_star ha hr hs) fun σ H Q ⟨Fr, μ, ρ, s, he, hs, h⟩ => ⟨Fr, μ, ρ, s, he, hs, runs_bind (Rel1 := RW (wd X)) h fun d s1 μ1 H1 x e1 x1 hs1 r1 h1 => by
    split at h1
    · rename_i zs ez
      obtain ⟨p, ys, rfl, q, rr⟩ := seqOf_sound hs1 r1 ez
      exact ⟨p, ys, rfl, q, Fr, μ1, ρ, s1, he.mono x1, hs1, runs_bind (Rel1 := RVs (wd X)) h1 fun ds s2 μ2 H2 xs e2 x2 hs2 r2 h2 => runs_pure h2 hs2 ((rr.mono x2).append r2)⟩
    · exact h1.elim⟩
/-- displays -/
theorem rv_new {g : Wd} {μ : M} {H : Hp} {p : Addr} {ds : List D} {xs : List V} (e : H p = none) (r : RVs g μ H ds xs) : RV g μ (upd H p (.tup xs)) (.tup ds) (.ref p) := by
  simp only [RV]
  exact ⟨p, xs, rfl, upd_same, r.mono (ex_new (Fr := Fn0) e)⟩
theorem rv_tup {g : Wd} {σ : L2.St} {μ : M} {H H0 : Hp} {s : S} {ds : List D} {xs : List V} {Q : VK} (hs : Rs g μ H s) (r : RVs g μ H ds xs) (h : runs g W σ μ H (RF g H0) Q (.ok (.tup ds) s)) : ∀ p, H p = none → Q (.ref p) (upd H p (.tup xs)) :=
  fun p hp => h μ _ _ (ex_new hp) (hs.new hp) (show RV g μ _ (.tup ds) _ from rv_new hp r)
theorem runs_tup {g : Wd} {σ : L2.St} {μ : M} {H : Hp} {s : S} {ds : List D} {xs : List V} {Q : VK} (hs : Rs g μ H s) (r : RVs g μ H ds xs) (h : runs g W σ μ H (RV g) Q (.ok (.tup ds) s)) : ∀ p, H p = none → Q (.ref p) (upd H p (.tup xs)) :=
  fun p hp => h μ _ _ (ex_new hp) (hs.new hp) (rv_new hp r)
theorem nw_new {g : Wd} {μ : M} {H H0 : Hp} {s : S} {d : D} {p : Addr} {ho : HO} (hs : Rs g μ H s) (hp : H p = none) (h0 : H0 p = none) (hd : d.heavy = true) (c : Ce g μ (upd H p ho) p d) : RF g H0 μ (upd H p ho) d (.ref p) := by
  unfold RF
  rw [if_pos hd]
  exact ⟨p, rfl, h0, hs.nmem hp, hs.nz hp, c⟩
theorem runs_lst {g : Wd} {σ : L2.St} {μ0 μ : M} {H0 H : Hp} {s : S} {ds : List D} {xs : List V} {Q : VK} (hs : Rs g μ H s) (x : Ex Fn0 μ0 H0 μ H) (r : RVs g μ H ds xs) (h : runs g W σ μ H (RF g H0) Q (.ok (.lst ds) s)) : ∀ p, H p = none → Q (.ref p) (upd H p (.lst xs)) :=
  fun p hp => h μ _ _ (ex_new hp) (hs.new hp) (nw_new hs hp (x.trk p hp) rfl ⟨xs, upd_same, r.mono (ex_new (Fr := Fn0) hp)⟩)
theorem q_tup {k : Nat} (ha : PA X es (liftA (wd X) W ms)) : PE X (.Tuple es k pos) (liftE (wd X) W (tupE ms)) :=
  pe_imp (pe_tup ha) fun σ H Q ⟨Fr, μ, ρ, s, he, hs, h⟩ => ⟨Fr, μ, ρ, s, he, hs, runs_bind (Rel1 := RVs (wd X)) h fun ds s1 μ1 H1 xs e1 x1 hs1 r1 h1 => by
    split at h1
    · rename_i hz
      exact ⟨by rw [← r1.length]; exact of_decide_eq_true hz, runs_tup hs1 r1 h1⟩
    · exact h1.elim⟩
theorem q_lst (ha : PA X es (liftA (wd X) W ms)) : PE X (.List es pos) (liftF (wd X) W (lstE ms)) :=
  pe_imp (pe_lst ha) fun σ H Q ⟨Fr, μ, ρ, s, he, hs, h⟩ => ⟨Fr, μ, ρ, s, he, hs, runs_bind (Rel1 := RVs (wd X)) h fun ds s1 μ1 H1 xs e1 x1 hs1 r1 h1 => by
    split at h1
    · rename_i hz
      exact ⟨by rw [← r1.length]; exact of_decide_eq_true hz, runs_lst hs1 x1 r1 h1⟩
    · exact h1.elim⟩
end
end Fv

namespace Fv
open PySem PySem.Spec PyProof.Rows L2
/-! ### operations -/
/-- a list that stands as such -/
def lstOf (s : S) : D → Option (List D)
  | .lst xs => some xs
  | .ref a => match s[a]? with | some (.lst xs) => some xs | _ => none
  | _ => none
def tupOf : D → Option (List D)
  | .tup xs => some xs
  | .ktup xs => some xs
  | _ => none
def b2I (b : Bool) : Int := if b then 1 else 0
def addD (x y : D) (s : S) : R D := match x, y with
  | .int i, .int j => .ok (.int (i + j)) s
  | .int i, .bl j => .ok (.int (i + b2I j)) s
  | .str a, .str b => if szl (a.length + b.length) then .ok (.str (a ++ b)) s else .bad
  | x, y => match lstOf s x, lstOf s y with
    | some xs, some ys => if szl (xs.length + ys.length) then .ok (.lst (xs ++ ys)) s else .bad
    | _, _ => match tupOf x, tupOf y with
      | some xs, some ys => if szl (xs.length + ys.length) then .ok (if xs = [] then y else if ys = [] then x else .tup (xs ++ ys)) s else .bad
      | _, _ => .bad
def subD (x y : D) (s : S) : R D := match x, y with
  | .int i, .int j => .ok (.int (i - j)) s
  | _, _ => .bad
def mulOk (i j : Int) : Bool := decide (i.natAbs.log2 + j.natAbs.log2 < 1000000)
def mulD (x y : D) (s : S) : R D := match x, y with
  | .int i, .int j => if mulOk i j then .ok (.int (i * j)) s else .bad
  | x, .int k => match lstOf s x with
    | some xs => if decide (-(2 ^ 63) ≤ k ∧ k < 2 ^ 63) && szl (xs.length * k.toNat) then .ok (.lst (List.replicate k.toNat xs).flatten) s else .bad
    | _ => .bad
  | _, _ => .bad
def divOk (j : Int) : Bool := decide (0 < j ∧ j.natAbs.log2 < 9000)
def fdivD (x y : D) (s : S) : R D := match x, y with
  | .int i, .int j => if divOk j then .ok (.int (i / j)) s else .bad
  | _, _ => .bad
def modD (x y : D) (s : S) : R D := match x, y with
  | .int i, .int j => if decide (0 < j) then .ok (.int (i % j)) s else .bad
  | _, _ => .bad
def powOk (i j : Int) : Bool := decide (0 ≤ j ∧ j ≤ 1000000 ∧ i.natAbs < 2 ^ 64)
def powD (x y : D) (s : S) : R D := match x, y with
  | .int i, .int j => if powOk i j then .ok (.int (i ^ j.toNat)) s else .bad
  | _, _ => .bad
def shlD (x y : D) (s : S) : R D := match x, y with
  | .int i, .int j => if powOk i j then .ok (.int (i * 2 ^ j.toNat)) s else .bad
  | _, _ => .bad
def shrD (x y : D) (s : S) : R D := match x, y with
  | .int i, .int j => if decide (0 ≤ j) then .ok (.int (i / 2 ^ j.toNat)) s else .bad
  | _, _ => .bad
def bandD (x y : D) (s : S) : R D := match x, y with
  | .int i, .int j => .ok (.int (Builtin.bitAnd i j)) s
  | _, _ => .bad
def borD (x y : D) (s : S) : R D := match x, y with
  | .int i, .int j => .ok (.int (Builtin.bitOr i j)) s
  | _, _ => .bad
def bxorD (x y : D) (s : S) : R D := match x, y with
  | .int i, .int j => .ok (.int (Builtin.bitXor i j)) s
  | _, _ => .bad
def strLt (x y : Tx) : Bool := decide (x.cps.toList < y.cps.toList)
def ltD (x y : D) (s : S) : R D := match x, y with
  | .int i, .int j => .ok (.bl (decide (i < j))) s
  | .str a, .str b => .ok (.bl (strLt a b)) s
  | _, _ => .bad
def leD (x y : D) (s : S) : R D := match x, y with
  | .int i, .int j => .ok (.bl (decide (i ≤ j))) s
  | .str a, .str b => .ok (.bl (!strLt b a)) s
  | _, _ => .bad
def gtD (x y : D) (s : S) : R D := match x, y with
  | .int i, .int j => .ok (.bl (decide (j < i))) s
  | .str a, .str b => .ok (.bl (strLt b a)) s
  | _, _ => .bad
def geD (x y : D) (s : S) : R D := match x, y with
  | .int i, .int j => .ok (.bl (decide (j ≤ i))) s
  | .str a, .str b => .ok (.bl (!strLt a b)) s
  | _, _ => .bad
def isNone : D → Bool | .non => true | _ => false
def isD (x y : D) (s : S) : R D := match x, y with
  | x, .non => .ok (.bl (isNone x)) s
  | .bl a, .bl b => .ok (.bl (a == b)) s
  | _, _ => .bad
def isnotD (x y : D) (s : S) : R D := match x, y with
  | x, .non => .ok (.bl (!isNone x)) s
  | .bl a, .bl b => .ok (.bl (!(a == b))) s
  | _, _ => .bad
def negD (x : D) (s : S) : R D := match x with | .int i => .ok (.int (-i)) s | _ => .bad
def invD (x : D) (s : S) : R D := match x with | .int i => .ok (.int (Builtin.bitNot i)) s | _ => .bad
/-! as plain data -/
mutual
def toPw (rf : Nat → Option PyData) : D → Option PyData
  | .non => some .none
  | .bl b => some (.bool b)
  | .int i => some (.int i)
  | .str s => some (.str s)
  | .tup ds => (toPws rf ds).map .tuple
  | .ktup ds => (toPws rf ds).map .tuple
  | .lst ds => (toPws rf ds).map .list
  | .fl ds => (toPws rf ds).map .list
  | .ref a => rf a
  | _ => none
def toPws (rf : Nat → Option PyData) : List D → Option (List PyData)
  | [] => some []
  | d :: ds => match toPw rf d, toPws rf ds with
    | some p, some ps => some (p :: ps)
    | _, _ => none
end
def rfN : Nat → S → Nat → Option PyData
  | 0, _, _ => none
  | n + 1, s, a => match s[a]? with
    | some (.lst xs) => (toPws (rfN n s) xs).map .list
    | _ => none
def toP (s : S) (d : D) : Option PyData := toPw (rfN 60 s) d
/-- == where both are none, bools, ints, texts -/
def scE : D → D → Option Bool
  | .non, .non => some true | .non, .int _ => some false | .int _, .non => some false | .non, .bl _ => some false | .bl _, .non => some false | .non, .str _ => some false | .str _, .non => some false
  | .int i, .int j => some (i == j) | .bl a, .bl b => some (a == b) | .str x, .str y => some (x == y)
  | .int _, .str _ => some false | .str _, .int _ => some false | .bl _, .str _ => some false | .str _, .bl _ => some false
  | _, _ => none
def eqB (s : S) (x y : D) : Option Bool := match scE x y with
  | some b => some b
  | none => match toP s x, toP s y with
    | some p, some q => if SeqAt.shaped p && SeqAt.shaped q then some (PyData.eqv p q) else none
    | _, _ => none
def eqD (x y : D) (s : S) : R D := match eqB s x y with | some b => .ok (.bl b) s | none => .bad
def neD (x y : D) (s : S) : R D := match eqB s x y with | some b => .ok (.bl (!b)) s | none => .bad
section
variable {g : Wd} {W : WX} {σ : L2.St} {μ : M} {H H0 : Hp} {s : S} {Q : VK}
/-- a light answer -/
theorem rf_pure {d : D} {x : V} (h : runs g W σ μ H (RF g H) Q (.ok d s)) (hs : Rs g μ H s) (hd : d.heavy = false) (r : RV g μ H d x) : Q x H := runs_pure h hs (by unfold RF; rw [hd]; exact r)
theorem rf_bl {k : Bool} (h : runs g W σ μ H (RF g H) Q (.ok (.bl k) s)) (hs : Rs g μ H s) : Q (.bl k) H := rf_pure h hs rfl (by simp only [RV])
theorem rf_int {k : Int} (h : runs g W σ μ H (RF g H) Q (.ok (.int k) s)) (hs : Rs g μ H s) : Q (.int k) H := rf_pure h hs rfl (by simp only [RV])
theorem rf_str {k : Tx} (h : runs g W σ μ H (RF g H) Q (.ok (.str k) s)) (hs : Rs g μ H s) : Q (.str k) H := rf_pure h hs rfl (by simp only [RV])
theorem rf_lst {ds : List D} {xs : List V} (h : runs g W σ μ H (RF g H) Q (.ok (.lst ds) s)) (hs : Rs g μ H s) (r : RVs g μ H ds xs) : ∀ p, H p = none → Q (.ref p) (upd H p (.lst xs)) := runs_lst hs Ex.refl r h
theorem w_int {i : Int} {x : V} (r : RW g μ H (.int i) x) : x = .int i := by have := r.light rfl; simpa only [RV] using this
theorem w_str {i : Tx} {x : V} (r : RW g μ H (.str i) x) : x = .str i := by have := r.light rfl; simpa only [RV] using this
theorem w_bl {i : Bool} {x : V} (r : RW g μ H (.bl i) x) : x = .bl i := by have := r.light rfl; simpa only [RV] using this
theorem w_non {x : V} (r : RW g μ H .non x) : x = .non := by have := r.light rfl; simpa only [RV] using this
theorem w_ty {n : String} {x : V} (r : RW g μ H (.ty n) x) : x = .ty n := by have := r.light rfl; simpa only [RV] using this
theorem lstOf_sound {d : D} {x : V} {xs : List D} (hs : Rs g μ H s) (r : RW g μ H d x) (e : lstOf s d = some xs) : ∃ p ys, x = .ref p ∧ H p = some (.lst ys) ∧ RVs g μ H xs ys := by
  rcases r with r | ⟨hd, p, rfl, hm, c⟩
  · cases d with
    | lst ds =>
      simp only [RV] at r
      obtain ⟨p, ys, rfl, _, q, rr⟩ := r
      simp only [lstOf, Option.some.injEq] at e
      subst e
      exact ⟨p, ys, rfl, q, rr⟩
    | ref a =>
      simp only [RV] at r
      obtain ⟨p, ep, rfl⟩ := r
      simp only [lstOf] at e
      split at e
      · rename_i zs ei
        cases e
        obtain ⟨ys, hp, rr⟩ := hs.at_ _ _ _ ei ep
        exact ⟨p, ys, rfl, hp, rr⟩
      · cases e
    | _ => cases e
  · cases d with
    | lst ds =>
      obtain ⟨ys, hp, rr⟩ := c
      simp only [lstOf, Option.some.injEq] at e
      subst e
      exact ⟨p, ys, rfl, hp, rr⟩
    | ref a => cases hd
    | _ => cases e
theorem tupOf_light {d : D} {xs : List D} (e : tupOf d = some xs) : d.heavy = false := by cases d <;> first | rfl | cases e
theorem tupOf_sound {d : D} {x : V} {xs : List D} (r : RW g μ H d x) (e : tupOf d = some xs) : ∃ p ys, x = .ref p ∧ SqT g.K H p ys ∧ RVs g μ H xs ys := by
  have r := r.light (tupOf_light e)
  cases d with
  | tup ds =>
    simp only [RV] at r
    obtain ⟨p, ys, rfl, q, rr⟩ := r
    simp only [tupOf, Option.some.injEq] at e
    subst e
    exact ⟨p, ys, rfl, SqT.of q, rr⟩
  | ktup ds =>
    simp only [RV] at r
    obtain ⟨p, ys, rfl, q, rr⟩ := r
    simp only [tupOf, Option.some.injEq] at e
    subst e
    exact ⟨p, ys, rfl, q H, rr⟩
  | _ => cases e
theorem RVs.nil_iff {xs : List D} {ys : List V} (r : RVs g μ H xs ys) : xs = [] ↔ ys = [] := by
  have := r.length
  cases xs <;> cases ys <;> simp_all
mutual
theorem toPw_sound {rf : Nat → Option PyData} (hr : ∀ a p d, μ.m[a]? = some p → rf a = some d → Dp g.K H (.ref p) d) : ∀ {d : D} {x : V} {p : PyData}, RV g μ H d x → toPw rf d = some p → Dp g.K H x p
  | .non, _, _, r, e => by simp only [RV] at r; subst r; simp only [toPw, Option.some.injEq] at e; subst e; exact .non
  | .bl _, _, _, r, e => by simp only [RV] at r; subst r; simp only [toPw, Option.some.injEq] at e; subst e; exact .bl _
  | .int _, _, _, r, e => by simp only [RV] at r; subst r; simp only [toPw, Option.some.injEq] at e; subst e; exact .int _
  | .str _, _, _, r, e => by simp only [RV] at r; subst r; simp only [toPw, Option.some.injEq] at e; subst e; exact .str _
  | .ref a, _, _, r, e => by
    simp only [RV] at r
    obtain ⟨q, eq, rfl⟩ := r
    simp only [toPw] at e
    exact hr a q _ eq e
  | .tup ds, _, _, r, e => by
    simp only [RV] at r
    obtain ⟨q, ys, rfl, sq, rr⟩ := r
    simp only [toPw, Option.map_eq_some_iff] at e
    obtain ⟨ps, e1, rfl⟩ := e
    exact .tup (SqT.of sq) (toPws_sound hr rr e1)
  | .ktup ds, _, _, r, e => by
    simp only [RV] at r
    obtain ⟨q, ys, rfl, sq, rr⟩ := r
    simp only [toPw, Option.map_eq_some_iff] at e
    obtain ⟨ps, e1, rfl⟩ := e
    exact .tup (sq H) (toPws_sound hr rr e1)
  | .lst ds, _, _, r, e => by
    simp only [RV] at r
    obtain ⟨q, ys, rfl, _, sq, rr⟩ := r
    simp only [toPw, Option.map_eq_some_iff] at e
    obtain ⟨ps, e1, rfl⟩ := e
    exact .lst (.inl (.inl sq)) (toPws_sound hr rr e1)
  | .fl ds, _, _, r, e => by
    simp only [RV] at r
    obtain ⟨q, ys, rfl, sq, rr⟩ := r
    simp only [toPw, Option.map_eq_some_iff] at e
    obtain ⟨ps, e1, rfl⟩ := e
    exact .lst sq.sq (toPws_sound hr rr e1)
  | .ty _, _, _, _, e => by simp only [toPw] at e; cases e
  | .gl _, _, _, _, e => by simp only [toPw] at e; cases e
  | .dct _ _, _, _, _, e => by simp only [toPw] at e; cases e
  | .dtt _ _, _, _, _, e => by simp only [toPw] at e; cases e
  | .set _, _, _, _, e => by simp only [toPw] at e; cases e
  | .obj _ _ _, _, _, _, e => by simp only [toPw] at e; cases e
  | .exc _ _, _, _, _, e => by simp only [toPw] at e; cases e
  | .xn _ _, _, _, _, e => by simp only [toPw] at e; cases e
  | .exh _ _ _, _, _, _, e => by simp only [toPw] at e; cases e
  | .exq _, _, _, _, e => by simp only [toPw] at e; cases e
theorem toPws_sound {rf : Nat → Option PyData} (hr : ∀ a p d, μ.m[a]? = some p → rf a = some d → Dp g.K H (.ref p) d) : ∀ {ds : List D} {xs : List V} {ps : List PyData}, RVs g μ H ds xs → toPws rf ds = some ps → DpAll g.K H xs ps
  | [], _, _, r, e => by simp only [RVs] at r; subst r; simp only [toPws, Option.some.injEq] at e; subst e; exact .nil
  | d :: ds, _, _, r, e => by
    simp only [RVs] at r
    obtain ⟨y, r', rfl, a, b⟩ := r
    simp only [toPws] at e
    split at e
    · rename_i p ps e1 e2
      cases e
      exact .cons (toPw_sound hr a e1) (toPws_sound hr b e2)
    · cases e
end
theorem rfN_sound (hs : Rs g μ H s) : ∀ (n : Nat) (a : Nat) (p : Addr) (d : PyData), μ.m[a]? = some p → rfN n s a = some d → Dp g.K H (.ref p) d
  | 0, _, _, _, _, e => by cases e
  | n + 1, a, p, d, ep, e => by
    simp only [rfN] at e
    split at e
    · rename_i xs ei
      simp only [Option.map_eq_some_iff] at e
      obtain ⟨ps, e2, rfl⟩ := e
      obtain ⟨ys, q, rr⟩ := hs.at_ _ _ _ ei ep
      exact .lst (.inl (.inl q)) (toPws_sound (rfN_sound hs n) rr e2)
    · cases e
theorem toP_sound {d : D} {x : V} {p : PyData} (hs : Rs g μ H s) (r : RW g μ H d x) (e : toP s d = some p) : Dp g.K H x p := by
  rcases r with r | ⟨hd, q, rfl, hm, c⟩
  · exact toPw_sound (rfN_sound hs 60) r e
  · unfold toP at e
    cases d with
    | lst ds =>
      obtain ⟨ys, hp, rr⟩ := c
      simp only [toPw, Option.map_eq_some_iff] at e
      obtain ⟨ps, e1, rfl⟩ := e
      exact .lst (.inl (.inl hp)) (toPws_sound (rfN_sound hs 60) rr e1)
    | dct _ _ => simp only [toPw] at e; cases e
    | dtt _ _ => simp only [toPw] at e; cases e
    | set _ => simp only [toPw] at e; cases e
    | obj _ _ _ => simp only [toPw] at e; cases e
    | _ => cases hd
theorem scE_sound {d e : D} {x y : V} {b : Bool} (r1 : RW g μ H d x) (r2 : RW g μ H e y) (h : scE d e = some b) : scal x y = true ∧ b = decide (x = y) := by
  have l1 : d.heavy = false := by cases d <;> first | rfl | (cases e <;> cases h)
  have l2 : e.heavy = false := by cases e <;> first | rfl | (cases d <;> cases h)
  have r1 := r1.light l1
  have r2 := r2.light l2
  cases d <;> cases e <;> simp only [scE, Option.some.injEq, reduceCtorEq] at h <;> simp only [RV] at r1 r2 <;> subst r1 <;> subst r2 <;> subst h <;> refine ⟨rfl, ?_⟩
  all_goals first | rfl | (rw [dec_bl]) | (rw [dec_int]) | (rw [dec_str])
theorem eqB_sound {d e : D} {x y : V} {b : Bool} (hs : Rs g μ H s) (r1 : RW g μ H d x) (r2 : RW g μ H e y) (h : eqB s d e = some b) :
    (scal x y = true ∧ b = decide (x = y)) ∨ ∃ p q, Dp g.K H x p ∧ Dp g.K H y q ∧ SeqAt.shaped p = true ∧ SeqAt.shaped q = true ∧ b = PyData.eqv p q := by
  unfold eqB at h
  split at h
  · rename_i c hc
    cases h
    exact .inl (scE_sound r1 r2 hc)
  · split at h
    · rename_i p q e1 e2
      split at h
      · rename_i hz
        cases h
        simp only [Bool.and_eq_true] at hz
        exact .inr ⟨p, q, toP_sound hs r1 e1, toP_sound hs r2 e2, hz.1, hz.2, rfl⟩
      · cases h
    · cases h
theorem isNone_sound {d : D} {x : V} (r : RW g μ H d x) : isNone d = decide (x = .non) := by
  rcases r with r | ⟨hd, q, rfl, _⟩
  · cases d <;> simp only [RV] at r <;> (try obtain ⟨_, rfl, _⟩ := r) <;> (try obtain ⟨_, _, rfl, _⟩ := r) <;> (try obtain ⟨_, _, rfl⟩ := r) <;> (try obtain ⟨_, _, _, _, rfl, _⟩ := r) <;> (try subst r) <;> first | rfl | exact r.elim
  · cases d <;> first | rfl | cases hd
end
section
variable {X : Cx}
theorem qo_add : QOp X (binaryOp .Add) addD := by
  intro pins sh σ H x y v u Q I rx ry ⟨μ, s, d, e, hs, r1, r2, W, σ', h⟩
  unfold addD at h
  split at h
  · obtain rfl := w_int r1; obtain rfl := w_int r2
    exact op_add pins sh σ H _ _ v u Q I rx ry ⟨_, _, rfl, rfl, rf_int h hs⟩
  · rename_i i j
    obtain rfl := w_int r1; obtain rfl := w_bl r2
    exact op_add_ib pins sh σ H _ _ v u Q I rx ry ⟨_, _, rfl, rfl, by have := rf_int h hs; cases j <;> exact this⟩
  · obtain rfl := w_str r1; obtain rfl := w_str r2
    split at h
    · rename_i hz
      exact op_add_str pins sh σ H _ _ v u Q I rx ry ⟨_, _, rfl, rfl, of_decide_eq_true hz, rf_str h hs⟩
    · exact h.elim
  · split at h
    · rename_i xs ys h1 h2
      split at h
      · rename_i hz
        obtain ⟨p, vs, rfl, hp, rr1⟩ := lstOf_sound hs r1 h1
        obtain ⟨q, us, rfl, hq, rr2⟩ := lstOf_sound hs r2 h2
        exact op_cat pins sh σ H _ _ v u Q I rx ry ⟨p, q, vs, us, rfl, rfl, hp, hq, by rw [← rr1.length, ← rr2.length]; exact of_decide_eq_true hz, rf_lst h hs (rr1.append rr2)⟩
      · exact h.elim
    · split at h
      · rename_i xs ys h1 h2
        split at h
        · rename_i hz
          obtain ⟨p, vs, rfl, q1, rr1⟩ := tupOf_sound r1 h1
          obtain ⟨q, us, rfl, q2, rr2⟩ := tupOf_sound r2 h2
          refine op_catA pins sh σ H _ _ v u Q I rx ry ⟨p, q, vs, us, rfl, rfl, q1, q2, by rw [← rr1.length, ← rr2.length]; exact of_decide_eq_true hz, fun e0 => ?_, fun n0 e0 => ?_, fun n0 n1 => ?_⟩
          · rw [if_pos (rr1.nil_iff.mpr e0)] at h
            exact rf_pure h hs (tupOf_light h2) (r2.light (tupOf_light h2))
          · rw [if_neg (fun z => n0 (rr1.nil_iff.mp z)), if_pos (rr2.nil_iff.mpr e0)] at h
            exact rf_pure h hs (tupOf_light h1) (r1.light (tupOf_light h1))
          · rw [if_neg (fun z => n0 (rr1.nil_iff.mp z)), if_neg (fun z => n1 (rr2.nil_iff.mp z))] at h
            exact rv_tup hs (rr1.append rr2) h
        · exact h.elim
      · exact h.elim
theorem qo_sub : QOp X (binaryOp .Sub) subD := by
  intro pins sh σ H x y v u Q I rx ry ⟨μ, s, d, e, hs, r1, r2, W, σ', h⟩
  unfold subD at h
  split at h
  · obtain rfl := w_int r1; obtain rfl := w_int r2
    exact op_sub pins sh σ H _ _ v u Q I rx ry ⟨_, _, rfl, rfl, rf_int h hs⟩
  · exact h.elim
theorem rep_rvs {g : Wd} {μ : M} {H : Hp} {xs : List D} {vs : List V} (r : RVs g μ H xs vs) : ∀ n, RVs g μ H (List.replicate n xs).flatten (List.replicate n vs).flatten
  | 0 => by simp [RVs]
  | n + 1 => by simpa [List.replicate_succ] using r.append (rep_rvs r n)
theorem qo_mul : QOp X (binaryOp .Mult) mulD := by
  intro pins sh σ H x y v u Q I rx ry ⟨μ, s, d, e, hs, r1, r2, W, σ', h⟩
  unfold mulD at h
  split at h
  · obtain rfl := w_int r1; obtain rfl := w_int r2
    split at h
    · rename_i hz
      exact op_mulW pins sh σ H _ _ v u Q I rx ry ⟨_, _, rfl, rfl, of_decide_eq_true (p := _ < _) hz, rf_int h hs⟩
    · exact h.elim
  · obtain rfl := w_int r2
    split at h
    · rename_i xs h1
      split at h
      · rename_i hz
        simp only [Bool.and_eq_true, decide_eq_true_eq] at hz
        obtain ⟨p, vs, rfl, hp, rr1⟩ := lstOf_sound hs r1 h1
        exact op_rep pins sh σ H _ _ v u Q I rx ry ⟨p, _, vs, rfl, rfl, hp, hz.1.1, hz.1.2, by rw [← rr1.length]; exact of_decide_eq_true hz.2, rf_lst h hs (rep_rvs rr1 _)⟩
      · exact h.elim
    · exact h.elim
  · exact h.elim
theorem qo_fdiv : QOp X (binaryOp .FloorDiv) fdivD := by
  intro pins sh σ H x y v u Q I rx ry ⟨μ, s, d, e, hs, r1, r2, W, σ', h⟩
  unfold fdivD at h
  split at h
  · obtain rfl := w_int r1; obtain rfl := w_int r2
    split at h
    · rename_i hz
      exact op_fdivW pins sh σ H _ _ v u Q I rx ry ⟨_, _, rfl, rfl, of_decide_eq_true (p := _ ∧ _) hz, rf_int h hs⟩
    · exact h.elim
  · exact h.elim
theorem qo_mod : QOp X (binaryOp .Mod) modD := by
  intro pins sh σ H x y v u Q I rx ry ⟨μ, s, d, e, hs, r1, r2, W, σ', h⟩
  unfold modD at h
  split at h
  · obtain rfl := w_int r1; obtain rfl := w_int r2
    split at h
    · rename_i hz
      exact op_mod pins sh σ H _ _ v u Q I rx ry ⟨_, _, rfl, rfl, of_decide_eq_true hz, rf_int h hs⟩
    · exact h.elim
  · exact h.elim
theorem qo_pow : QOp X (binaryOp .Pow) powD := by
  intro pins sh σ H x y v u Q I rx ry ⟨μ, s, d, e, hs, r1, r2, W, σ', h⟩
  unfold powD at h
  split at h
  · obtain rfl := w_int r1; obtain rfl := w_int r2
    split at h
    · rename_i hz
      exact op_pow pins sh σ H _ _ v u Q I rx ry ⟨_, _, rfl, rfl, of_decide_eq_true (p := _ ∧ _ ∧ _) hz, rf_int h hs⟩
    · exact h.elim
  · exact h.elim
theorem qo_shl : QOp X (binaryOp .LShift) shlD := by
  intro pins sh σ H x y v u Q I rx ry ⟨μ, s, d, e, hs, r1, r2, W, σ', h⟩
  unfold shlD at h
  split at h
  · obtain rfl := w_int r1; obtain rfl := w_int r2
    split at h
    · rename_i hz
      exact op_shl pins sh σ H _ _ v u Q I rx ry ⟨_, _, rfl, rfl, of_decide_eq_true (p := _ ∧ _ ∧ _) hz, rf_int h hs⟩
    · exact h.elim
  · exact h.elim
theorem qo_shr : QOp X (binaryOp .RShift) shrD := by
  intro pins sh σ H x y v u Q I rx ry ⟨μ, s, d, e, hs, r1, r2, W, σ', h⟩
  unfold shrD at h
  split at h
  · obtain rfl := w_int r1; obtain rfl := w_int r2
    split at h
    · rename_i hz
      exact op_shr pins sh σ H _ _ v u Q I rx ry ⟨_, _, rfl, rfl, of_decide_eq_true hz, rf_int h hs⟩
    · exact h.elim
  · exact h.elim
theorem qo_band : QOp X (binaryOp .BitAnd) bandD := by
  intro pins sh σ H x y v u Q I rx ry ⟨μ, s, d, e, hs, r1, r2, W, σ', h⟩
  unfold bandD at h
  split at h
  · obtain rfl := w_int r1; obtain rfl := w_int r2
    exact op_and pins sh σ H _ _ v u Q I rx ry ⟨_, _, rfl, rfl, rf_int h hs⟩
  · exact h.elim
theorem qo_bor : QOp X (binaryOp .BitOr) borD := by
  intro pins sh σ H x y v u Q I rx ry ⟨μ, s, d, e, hs, r1, r2, W, σ', h⟩
  unfold borD at h
  split at h
  · obtain rfl := w_int r1; obtain rfl := w_int r2
    exact op_or pins sh σ H _ _ v u Q I rx ry ⟨_, _, rfl, rfl, rf_int h hs⟩
  · exact h.elim
theorem qo_bxor : QOp X (binaryOp .BitXor) bxorD := by
  intro pins sh σ H x y v u Q I rx ry ⟨μ, s, d, e, hs, r1, r2, W, σ', h⟩
  unfold bxorD at h
  split at h
  · obtain rfl := w_int r1; obtain rfl := w_int r2
    exact op_xor pins sh σ H _ _ v u Q I rx ry ⟨_, _, rfl, rfl, rf_int h hs⟩
  · exact h.elim
theorem qo_lt : QOp X (compareOp .Lt) ltD := by
  intro pins sh σ H x y v u Q I rx ry ⟨μ, s, d, e, hs, r1, r2, W, σ', h⟩
  unfold ltD at h
  split at h
  · obtain rfl := w_int r1; obtain rfl := w_int r2
    exact op_lt pins sh σ H _ _ v u Q I rx ry ⟨_, _, rfl, rfl, rf_bl h hs⟩
  · obtain rfl := w_str r1; obtain rfl := w_str r2
    exact op_lt_str pins sh σ H _ _ v u Q I rx ry ⟨_, _, rfl, rfl, rf_bl h hs⟩
  · exact h.elim
theorem qo_le : QOp X (compareOp .LtE) leD := by
  intro pins sh σ H x y v u Q I rx ry ⟨μ, s, d, e, hs, r1, r2, W, σ', h⟩
  unfold leD at h
  split at h
  · obtain rfl := w_int r1; obtain rfl := w_int r2
    exact op_le pins sh σ H _ _ v u Q I rx ry ⟨_, _, rfl, rfl, rf_bl h hs⟩
  · obtain rfl := w_str r1; obtain rfl := w_str r2
    exact op_le_str pins sh σ H _ _ v u Q I rx ry ⟨_, _, rfl, rfl, rf_bl h hs⟩
  · exact h.elim
theorem qo_gt : QOp X (compareOp .Gt) gtD := by
  intro pins sh σ H x y v u Q I rx ry ⟨μ, s, d, e, hs, r1, r2, W, σ', h⟩
  unfold gtD at h
  split at h
  · obtain rfl := w_int r1; obtain rfl := w_int r2
    exact op_gt pins sh σ H _ _ v u Q I rx ry ⟨_, _, rfl, rfl, rf_bl h hs⟩
  · obtain rfl := w_str r1; obtain rfl := w_str r2
    exact op_gt_str pins sh σ H _ _ v u Q I rx ry ⟨_, _, rfl, rfl, rf_bl h hs⟩
  · exact h.elim
theorem qo_ge : QOp X (compareOp .GtE) geD := by
  intro pins sh σ H x y v u Q I rx ry ⟨μ, s, d, e, hs, r1, r2, W, σ', h⟩
  unfold geD at h
  split at h
  · obtain rfl := w_int r1; obtain rfl := w_int r2
    exact op_ge pins sh σ H _ _ v u Q I rx ry ⟨_, _, rfl, rfl, rf_bl h hs⟩
  · obtain rfl := w_str r1; obtain rfl := w_str r2
    exact op_ge_str pins sh σ H _ _ v u Q I rx ry ⟨_, _, rfl, rfl, rf_bl h hs⟩
  · exact h.elim
theorem qo_is : QOp X (compareOp .Is) isD := by
  intro pins sh σ H x y v u Q I rx ry ⟨μ, s, d, e, hs, r1, r2, W, σ', h⟩
  unfold isD at h
  split at h
  · obtain rfl := w_non r2
    have q := rf_bl h hs
    rw [isNone_sound r1] at q
    exact op_isN pins sh σ H _ _ v u Q I rx ry ⟨rfl, q⟩
  · obtain rfl := w_bl r1; obtain rfl := w_bl r2
    have q := rf_bl h hs
    exact op_is_bl pins sh σ H _ _ v u Q I rx ry ⟨_, _, rfl, rfl, by rw [Bool.beq_eq_decide_eq] at q; exact q⟩
  · exact h.elim
theorem qo_isnot : QOp X (compareOp .IsNot) isnotD := by
  intro pins sh σ H x y v u Q I rx ry ⟨μ, s, d, e, hs, r1, r2, W, σ', h⟩
  unfold isnotD at h
  split at h
  · obtain rfl := w_non r2
    have q := rf_bl h hs
    rw [isNone_sound r1] at q
    exact op_notN pins sh σ H _ _ v u Q I rx ry ⟨rfl, q⟩
  · obtain rfl := w_bl r1; obtain rfl := w_bl r2
    have q := rf_bl h hs
    exact op_isnot_bl pins sh σ H _ _ v u Q I rx ry ⟨_, _, rfl, rfl, by rw [Bool.beq_eq_decide_eq] at q; exact q⟩
  · exact h.elim
theorem qo_eq (hu : X.A.units + 64 < cLine) : QOp X (compareOp .Eq) eqD := by
  intro pins sh σ H x y v u Q I rx ry ⟨μ, s, d, e, hs, r1, r2, W, σ', h⟩
  simp only [eqD] at h
  split at h
  · rename_i b hb
    have q := rf_bl h hs
    rcases eqB_sound hs r1 r2 hb with ⟨z, rfl⟩ | ⟨p, p2, z1, z2, z3, z4, rfl⟩
    · exact op_eq pins sh σ H _ _ v u Q I rx ry ⟨z, q⟩
    · exact op_eqD hu pins sh σ H _ _ v u Q I rx ry ⟨p, p2, z1, z2, z3, z4, q⟩
  · exact h.elim
theorem qo_ne (hu : X.A.units + 64 < cLine) : QOp X (compareOp .NotEq) neD := by
  intro pins sh σ H x y v u Q I rx ry ⟨μ, s, d, e, hs, r1, r2, W, σ', h⟩
  simp only [neD] at h
  split at h
  · rename_i b hb
    have q := rf_bl h hs
    rcases eqB_sound hs r1 r2 hb with ⟨z, rfl⟩ | ⟨p, p2, z1, z2, z3, z4, rfl⟩
    · exact op_ne pins sh σ H _ _ v u Q I rx ry ⟨z, q⟩
    · exact op_neD hu pins sh σ H _ _ v u Q I rx ry ⟨p, p2, z1, z2, z3, z4, q⟩
  · exact h.elim
/-- one place -/
def rL1 (g : Wd) (o : D → S → R D) : V → Hp → VK → Prop := fun x H Q => ∃ μ s d, Rs g μ H s ∧ RW g μ H d x ∧ ∃ W σ, runs g W σ μ H (RF g H) Q (o d s)
theorem q_un {W : WX} {pos : Pos} {a : Expr} {ma : E} {op : UnaryOp} {o : D → S → R D} (ho : UnR X (unaryOp op) (rL1 (wd X) o)) (ha : PE X a (liftB (wd X) W ma)) : PE X (.UnaryOp op a pos) (liftF (wd X) W (unE o ma)) :=
  pe_imp (pe_un ho ha) fun σ H Q ⟨Fr, μ, ρ, s, he, hs, h⟩ => ⟨Fr, μ, ρ, s, he, hs, runs_bind (Rel1 := RW (wd X)) h fun d s1 μ1 H1 x e1 x1 hs1 r1 h1 => ⟨μ1, s1, d, hs1, r1, W, σ, runs_back x1 h1⟩⟩
theorem qo_neg : UnR X (unaryOp .USub) (rL1 (wd X) negD) := by
  intro pins sh σ H x v Q I rx ⟨μ, s, d, hs, r1, W, σ', h⟩
  unfold negD at h
  split at h
  · obtain rfl := w_int r1
    exact un_neg pins sh σ H _ v Q I rx ⟨_, rfl, rf_int h hs⟩
  · exact h.elim
theorem qo_inv : UnR X (unaryOp .Invert) (rL1 (wd X) invD) := by
  intro pins sh σ H x v Q I rx ⟨μ, s, d, hs, r1, W, σ', h⟩
  unfold invD at h
  split at h
  · obtain rfl := w_int r1
    exact un_inv pins sh σ H _ v Q I rx ⟨_, rfl, rf_int h hs⟩
  · exact h.elim
end
end Fv

namespace Fv
open PySem PySem.Spec PyProof.Rows L2
/-! ### statements -/
def RS.next (r : RS) (f : En → S → RS) : RS := match r with
  | .nx ρ s => f ρ s
  | r => r
def passS : C := fun ρ s => .nx ρ s
def brkS : C := fun ρ s => .bk ρ s
def ctS : C := fun ρ s => .ct ρ s
def seqS (a b : C) : C := fun ρ s => (a ρ s).next b
def retS (e : E) : C := fun ρ s => (e ρ s).stm ρ fun d s => .rt d s
def retN : C := fun _ s => .rt .non s
def exprS (e : E) : C := fun ρ s => (e ρ s).stm ρ fun _ s => .nx ρ s
def ifS (t : T) (a b : C) : C := fun ρ s => (t ρ s).stm ρ fun k s => if k then a ρ s else b ρ s
def setS (i : Nat) (e : E) : C := fun ρ s => (e ρ s).stm ρ fun d s => .nx (ρ.set i (some (.v d))) s
/-- what is new becomes what the slot alone holds -/
def ownS (i : Nat) (e : E) : C := fun ρ s => (e ρ s).stm ρ fun d s => if d.heavy then .nx (ρ.set i (some (.o d))) s else .nx (ρ.set i (some (.v d))) s
/-- it stays as it is from now on: no statement of Python's -/
def frzS (i : Nat) : C := fun ρ s => match ρ[i]? with
  | some (some (.o d)) => if d.heavy then .nx (ρ.set i (some (.v d))) s else .bad
  | _ => .nx ρ s
/-- targets: a name, a tuple of names -/
inductive Tg where | nm (i : Nat) | tp (is : List Nat)
def setAll : List Nat → List D → En → En
  | i :: is, d :: ds, ρ => setAll is ds (ρ.set i (some (.v d)))
  | _, _, ρ => ρ
def asg : Tg → D → En → Option En
  | .nm i, d, ρ => some (ρ.set i (some (.v d)))
  | .tp is, d, ρ => match tupOf d with
    | some ds => if ds.length = is.length then some (setAll is ds ρ) else none
    | none => none
def asgS (t : Tg) (e : E) : C := fun ρ s => (e ρ s).stm ρ fun d s => match asg t d ρ with | some ρ' => .nx ρ' s | none => .bad
/-- what is walked -/
structure It where
  items : List D
  keep : S → Bool
abbrev Is := En → S → R It
def forL (keep : S → Bool) (t : Tg) (body : C) : List D → C
  | [], ρ, s => if keep s then .nx ρ s else .bad
  | d :: ds, ρ, s => if keep s then match asg t d ρ with
    | none => .bad
    | some ρ1 => match body ρ1 s with
      | .nx ρ2 s2 => forL keep t body ds ρ2 s2
      | .ct ρ2 s2 => forL keep t body ds ρ2 s2
      | .bk ρ2 s2 => .nx ρ2 s2
      | r => r
    else .bad
def forS (it : Is) (t : Tg) (body : C) : C := fun ρ s => (it ρ s).stm ρ fun J s => forL J.keep t body J.items ρ s
def whileL (t : T) (body : C) : Nat → C
  | 0, _, _ => .bad
  | n + 1, ρ, s => (t ρ s).stm ρ fun k s => if k then match body ρ s with
      | .nx ρ2 s2 => whileL t body n ρ2 s2
      | .ct ρ2 s2 => whileL t body n ρ2 s2
      | .bk ρ2 s2 => .nx ρ2 s2
      | r => r
    else .nx ρ s
def gas : Nat := 1000000
def whileS (t : T) (body : C) : C := whileL t body gas
/-- comprehensions -/
def R.noerr {α : Type} : R α → R α
  | .err _ _ _ _ => .bad
  | r => r
def wipeD : En → List Nat → En
  | ρ, [] => ρ
  | ρ, v :: vs => (wipeD ρ vs).set v none
def yesT : T := fun _ s => .ok true s
def lcL (keep : S → Bool) (t : Tg) (c : T) (e : E) (ρ : En) : List D → List D → S → R (List D)
  | [], acc, s => if keep s then .ok acc s else .bad
  | d :: ds, acc, s => if keep s then match asg t d ρ with
    | none => .bad
    | some ρ1 => (c ρ1 s).noerr.bind fun k s => if k then (e ρ1 s).noerr.bind fun y s =>
        if decide (acc.length < sizeLine) then lcL keep t c e ρ ds (acc ++ [y]) s else .bad
      else lcL keep t c e ρ ds acc s
    else .bad
def lcE (it : Is) (vs : List Nat) (t : Tg) (c : T) (e : E) : E := fun ρ s => (it ρ s).bind fun J s => (lcL J.keep t c e (wipeD ρ vs) J.items [] s).bind fun ys s => .ok (.lst ys) s

/-! ### the rules of statements -/
section
variable {X : Cx} {W : WX} {Fr : Addr → Prop} {pos : Pos} {e : Expr} {st : Stmt} {sts : List Stmt} {m : E} {a b : C} {t : T}
theorem ps_imp {t1 t2 : TS} (h : PS X st t1) (k : ∀ De σ H, t2 De σ H → t1 De σ H) : PS X st t2 := ⟨fun pins s σ H De I q => h.run pins s σ H De I (k De σ H q)⟩
theorem pss_imp {t1 t2 : TS} (h : PSs X sts t1) (k : ∀ De σ H, t2 De σ H → t1 De σ H) : PSs X sts t2 := ⟨fun pins s σ H De I q => h.run pins s σ H De I (k De σ H q)⟩
abbrev QS (X : Cx) (W : WX) (Fr : Addr → Prop) (st : Stmt) (m : C) : Prop := PS X st (liftS (wd X) W Fr m)
abbrev QSs (X : Cx) (W : WX) (Fr : Addr → Prop) (st : List Stmt) (m : C) : Prop := PSs X st (liftS (wd X) W Fr m)
theorem qs_nil : QSs X W Fr [] passS := pss_imp pss_nil fun De σ H ⟨μ, ρ, s, hf, he, hs, h⟩ => h μ H σ Ex.refl hs he
theorem qs_cons (h1 : QS X W Fr st a) (h2 : QSs X W Fr sts b) : QSs X W Fr (st :: sts) (seqS a b) := pss_imp (pss_cons h1 h2) fun De σ H ⟨μ, ρ, s, hf, he, hs, h⟩ => by
  refine ⟨μ, ρ, s, hf, he, hs, ?_⟩
  simp only [seqS] at h
  cases q : a ρ s <;> rw [q] at h
  · exact fun μ' H' σ' x y z => ⟨μ', _, _, hf.at x, z, y, runsS_mono x h⟩
  · exact h
  · exact h
  · exact h
  · exact h
  · exact h
theorem qs_one (h1 : QS X W Fr st a) : QSs X W Fr [st] a := pss_one h1
theorem qs_pass : QS X W Fr (.Pass pos) passS := ps_imp ps_pass fun De σ H ⟨μ, ρ, s, hf, he, hs, h⟩ => h μ H σ Ex.refl hs he
theorem qs_break : QS X W Fr (.Break pos) brkS := ps_imp ps_break fun De σ H ⟨μ, ρ, s, hf, he, hs, h⟩ => h μ H σ Ex.refl hs he
theorem qs_continue : QS X W Fr (.Continue pos) ctS := ps_imp ps_continue fun De σ H ⟨μ, ρ, s, hf, he, hs, h⟩ => h μ H σ Ex.refl hs he
theorem qs_ret (he : PE X e (liftE (wd X) W m)) : QS X W Fr (.Return (some e) pos) (retS m) := ps_imp (ps_ret he) fun De σ H ⟨μ, ρ, s, hf, he, hs, h⟩ => ⟨Fr, μ, ρ, s, he, hs, runs_stm (Rel1 := RV (wd X)) he h fun d s1 μ1 H1 x e1 x1 hs1 r1 h1 => h1 μ1 H1 x Ex.refl hs1 r1⟩
theorem qs_retN : QS X W Fr (.Return none pos) retN := ps_imp ps_retN fun De σ H ⟨μ, ρ, s, hf, he, hs, h⟩ => h μ H .non Ex.refl hs (by simp only [RV])
theorem qs_expr (he : PE X e (liftE (wd X) W m)) (hw : swapsWith e none pos.line X.env = pure false := by rfl) : QS X W Fr (.Expr e pos) (exprS m) := ps_imp (ps_expr he hw) fun De σ H ⟨μ, ρ, s, hf, he, hs, h⟩ => ⟨Fr, μ, ρ, s, he, hs, runs_stm (Rel1 := RV (wd X)) he h fun d s1 μ1 H1 x e1 x1 hs1 r1 h1 => h1 μ1 H1 σ Ex.refl hs1 (he.mono x1)⟩
theorem qs_doc {x j pos'} : QS X W Fr (.Expr (.Constant (.str x) j pos) pos') passS := ps_imp ps_doc fun De σ H ⟨μ, ρ, s, hf, he, hs, h⟩ => h μ H σ Ex.refl hs he
theorem qs_if {c : Expr} {l r : List Stmt} (hc : PT X c (liftT (wd X) W t)) (ha : QSs X W Fr l a) (hb : QSs X W Fr r b) : QS X W Fr (.If c l r pos) (ifS t a b) := ps_imp (ps_if hc ha hb) fun De σ H ⟨μ, ρ, s, hf, he, hs, h⟩ => ⟨Fr, μ, ρ, s, he, hs, runs_stm (Rel1 := RB) he h fun d s1 μ1 H1 x e1 x1 hs1 r1 h1 => by
  obtain rfl : d = x := r1
  cases d with
  | true => exact ⟨μ1, ρ, s1, hf.at x1, he.mono x1, hs1, h1⟩
  | false => exact ⟨μ1, ρ, s1, hf.at x1, he.mono x1, hs1, h1⟩⟩
theorem qs_set {i : Nat} {x : Str} {pos' : Pos} (he : PE X e (liftE (wd X) W m)) (hN : X.N.Nodup) (hi : X.N[i]? = some x := by rfl) (hx : Loc X.env.scope x := by first | exact .inl rfl | exact .inr rfl) (hw : swapsWith e (some (.Name x pos')) pos.line X.env = pure false := by rfl)
    (hf : X.fn x = true ∨ X.env.scope.names.lookup x = some .local := by first | exact .inl rfl | exact .inr rfl | assumption) : QS X W Fr (.Assign [.Name x pos'] e pos) (setS i m) :=
  ps_imp (ps_set hN hi hx he hw hf) fun De σ H ⟨μ, ρ, s, hf, he, hs, h⟩ => ⟨Fr, μ, ρ, s, he, hs, runs_stm (Rel1 := RV (wd X)) he h fun d s1 μ1 H1 x e1 x1 hs1 r1 h1 => h1 μ1 H1 _ Ex.refl hs1 ((he.mono x1).setV r1)⟩
/-- a slot that holds alone -/
theorem own_set {g : Wd} {μ μ1 : M} {H H1 : Hp} {ρ : En} {σ : L2.St} {i : Nat} {d : D} {x : V} (hf : Fz Fr H) (he : REn g Fr μ H ρ σ) (x1 : Ex Fn0 μ H μ1 H1) (r : RF g H μ1 H1 d x) : REn g Fr μ1 H1 (if d.heavy then ρ.set i (some (.o d)) else ρ.set i (some (.v d))) (σ.set i (some x)) := by
  unfold RF at r
  split
  · rename_i hd
    rw [if_pos hd] at r
    obtain ⟨p, rfl, e0, hm, hz, c⟩ := r
    exact (he.mono x1).setO c hm hz (hf p e0) (he.fr e0)
  · rename_i hd
    rw [if_neg hd] at r
    exact (he.mono x1).setV r
theorem qs_own {i : Nat} {x : Str} {pos' : Pos} (he : PE X e (liftF (wd X) W m)) (hN : X.N.Nodup) (hi : X.N[i]? = some x := by rfl) (hx : Loc X.env.scope x := by first | exact .inl rfl | exact .inr rfl) (hw : swapsWith e (some (.Name x pos')) pos.line X.env = pure false := by rfl)
    (hf : X.fn x = true ∨ X.env.scope.names.lookup x = some .local := by first | exact .inl rfl | exact .inr rfl | assumption) : QS X W Fr (.Assign [.Name x pos'] e pos) (ownS i m) :=
  ps_imp (ps_set hN hi hx he hw hf) fun De σ H ⟨μ, ρ, s, hf, he, hs, h⟩ => ⟨Fr, μ, ρ, s, he, hs, runs_stm (Rel1 := RF (wd X) H) he h fun d s1 μ1 H1 x e1 x1 hs1 r1 h1 => by
    have q := own_set (i := i) hf he x1 r1
    split at h1
    · rename_i hd
      rw [if_pos hd] at q
      exact h1 μ1 H1 _ Ex.refl hs1 q
    · rename_i hd
      rw [if_neg hd] at q
      exact h1 μ1 H1 _ Ex.refl hs1 q⟩
theorem frz_sound {g : Wd} {De : Ends} {σ : L2.St} {H : Hp} {i : Nat} {c : C} (h : liftS g W Fr (seqS (frzS i) c) De σ H) : liftS g W Fr c De σ H := by
  obtain ⟨μ, ρ, s, hf, he, hs, h⟩ := h
  simp only [seqS, frzS] at h
  split at h
  · rename_i d ei
    split at h
    · rename_i hd
      obtain ⟨p, ep, ce, hm, hz, f⟩ := he.o i d ei
      obtain ⟨u, eu, _⟩ := ce.there
      have x : Ex Fr μ H (μ.frz p hm) H := ex_frz hm (.inl f)
      have c2 : Ce g (μ.frz p hm) H p d := ce.mono x fun _ e => e
      have zp : (μ.frz p hm).z p := .inr rfl
      have rv : RV g (μ.frz p hm) H d (.ref p) := by
        cases d <;> simp only [D.heavy, Bool.false_eq_true] at hd <;> simp only [Ce] at c2 <;> simp only [RV]
        · obtain ⟨ys, a, b⟩ := c2
          exact ⟨p, ys, rfl, zp, a, b⟩
        · obtain ⟨ys, a, l, b⟩ := c2
          exact ⟨p, ys, rfl, zp, a, l, b⟩
        · obtain ⟨ys, a, l, b⟩ := c2
          exact ⟨p, ys, rfl, zp, a, l, b⟩
        · exact ⟨p, rfl, zp, c2⟩
        · obtain ⟨ys, a, l, b⟩ := c2
          exact ⟨p, ys, rfl, zp, a, l, b⟩
      exact ⟨μ.frz p hm, ρ.set i (some (.v d)), s, hf, he.frz ei ep hm rv, hs.frz hm ⟨u, eu⟩, runsS_mono x h⟩
    · exact h.elim
  · exact ⟨μ, ρ, s, hf, he, hs, h⟩
theorem qs_frzs {i : Nat} (h : QSs X W Fr sts b) : QSs X W Fr sts (seqS (frzS i) b) := pss_imp h fun _ _ _ => frz_sound
theorem qs_frz {i : Nat} (h : QS X W Fr st b) : QS X W Fr st (seqS (frzS i) b) := ps_imp h fun _ _ _ => frz_sound
/-- targets -/
def gNames : List Nat → TGs
  | [] => gNil
  | i :: is => gCons (gName i) (gNames is)
def gOf (K : PySem.W.Frag) : Tg → TG
  | .nm i => gName i
  | .tp is => gTup K is.length (gNames is)
def setAllV : List Nat → List V → L2.St → L2.St
  | i :: is, d :: ds, σ => setAllV is ds (σ.set i (some d))
  | _, _, σ => σ
theorem setAll_ren {g : Wd} {μ : M} {H : Hp} : ∀ {is : List Nat} {ds : List D} {vs : List V} {ρ : En} {σ : L2.St}, RVs g μ H ds vs → REn g Fr μ H ρ σ → REn g Fr μ H (setAll is ds ρ) (setAllV is vs σ)
  | [], _, _, _, _, _, h => by unfold setAll setAllV; exact h
  | i :: is, [], vs, ρ, σ, r, h => by simp only [RVs] at r; subst r; unfold setAll setAllV; exact h
  | i :: is, d :: ds, vs, ρ, σ, r, h => by
    simp only [RVs] at r
    obtain ⟨y, r', rfl, a, b⟩ := r
    unfold setAll setAllV
    exact setAll_ren b (h.setV a)
theorem gNames_run : ∀ {is : List Nat} {vs : List V} {σ : L2.St} {H : Hp} {Q : L2.St → Hp → Prop}, vs.length = is.length → Q (setAllV is vs σ) H → gNames is vs σ H Q
  | [], vs, σ, H, Q, hl, h => ⟨List.length_eq_zero_iff.mp hl, by cases vs with | nil => exact h | cons _ _ => cases hl⟩
  | i :: is, [], σ, H, Q, hl, h => by cases hl
  | i :: is, v :: vs, σ, H, Q, hl, h => ⟨v, vs, rfl, gNames_run (by simpa using hl) h⟩
/-- the slots behind a target -/
def slV : Tg → V → List V → L2.St → L2.St
  | .nm i, v, _, σ => σ.set i (some v)
  | .tp is, _, vs, σ => setAllV is vs σ
theorem asg_sound {g : Wd} {μ : M} {H : Hp} {t : Tg} {d : D} {ρ ρ' : En} {v : V} (r : RV g μ H d v) (e : asg t d ρ = some ρ') :
    ∃ vs, (∀ σ Q, Q (slV t v vs σ) H → gOf g.K t v σ H Q) ∧ ∀ Fr σ, REn g Fr μ H ρ σ → REn g Fr μ H ρ' (slV t v vs σ) := by
  cases t with
  | nm i =>
    simp only [asg, Option.some.injEq] at e
    subst e
    exact ⟨[], fun σ Q h => h, fun Fr σ h => h.setV r⟩
  | tp is =>
    simp only [asg] at e
    split at e
    · rename_i ds ed
      split at e
      · rename_i hl
        cases e
        obtain ⟨p, ys, rfl, q, rr⟩ := tupOf_sound r.w ed
        refine ⟨ys, fun σ Q h => ⟨p, ys, rfl, q, by rw [← rr.length]; exact hl, gNames_run (by rw [← rr.length]; exact hl) h⟩, fun Fr σ h => setAll_ren rr h⟩
      · cases e
    · cases e
theorem qs_asg {tg : Expr} {tt : Tg} (he : PE X e (liftE (wd X) W m)) (hg : PG X tg (gOf X.K tt)) (hw0 : swapsWithSole [tg] e pos.line X.env = pure false := by rfl) (hw : swappedStores [tg] e X.env = pure none := by rfl)
    (h1 : (assignEach [tg] X.env).map (·.2) = [assign tg X.env] := by rfl) : QS X W Fr (.Assign [tg] e pos) (asgS tt m) :=
  ps_imp (ps_asg he hg hw0 hw h1) fun De σ H ⟨μ, ρ, s, hf, he, hs, h⟩ => ⟨Fr, μ, ρ, s, he, hs, runs_stm (Rel1 := RV (wd X)) he h fun d s1 μ1 H1 x e1 x1 hs1 r1 h1 => by
    cases q : asg tt d ρ with
    | none => rw [q] at h1; exact h1.elim
    | some ρ' =>
      rw [q] at h1
      obtain ⟨vs, k1, k2⟩ := asg_sound r1 q
      exact k1 σ _ (h1 μ1 H1 _ Ex.refl hs1 (k2 Fr σ (he.mono x1)))⟩
/-! ### for -/
def ItR (g : Wd) (Fr : Addr → Prop) (μ0 : M) (H0 : Hp) (J : L2.It) (I : It) : Prop := ∀ μ H s, Ex Fr μ0 H0 μ H → Rs g μ H s → I.keep s = true → ∀ i : Nat,
  (∀ d, I.items[i]? = some d → J.go i H ∧ ∀ x H', J.yld i H x H' → ∃ μ', Ex Fn0 μ H μ' H' ∧ Rs g μ' H' s ∧ RV g μ' H' d x) ∧ (I.items.length ≤ i → J.stop i H)
def liftI (g : Wd) (W : WX) (Fr : Addr → Prop) (m : Is) : TI := fun σ H Rr => ∃ Fr0 μ ρ s, REn g Fr0 μ H ρ σ ∧ Rs g μ H s ∧ runs g W σ μ H (fun μ' H' (a : It) (J : L2.It) => ItR g Fr μ' H' J a) Rr (m ρ s)
abbrev QI (X : Cx) (W : WX) (Fr : Addr → Prop) (tg iter : Expr) (m : Is) : Prop := PI X tg iter (liftI (wd X) W Fr m)
theorem pi_imp {tg iter : Expr} {t1 t2 : TI} (h : PI X tg iter t1) (k : ∀ σ H Q, t2 σ H Q → t1 σ H Q) : PI X tg iter t2 := ⟨fun pins s σ H Q I q => h.run pins s σ H Q I (k σ H Q q)⟩
theorem drop_cons {ds : List D} {i : Nat} {d : D} (h : ds[i]? = some d) : ds.drop i = d :: ds.drop (i + 1) := by
  obtain ⟨hi, e⟩ := List.getElem?_eq_some_iff.mp h
  rw [List.drop_eq_getElem_cons hi, e]
theorem qs_for {tg iter : Expr} {body : List Stmt} {it : Is} {tt : Tg} {tb : C} (hp : PassesOwn (model X.prog X.w) X.A X.env X.xe) (hc : X.calm = true) (hi : QI X W Fr tg iter it) (hg : PG X tg (gOf X.K tt)) (hb : QSs X W Fr body tb)
    (hs : ∀ x, foldedSetIterable iter X.env x = pure x := by intro _; rfl) : QS X W Fr (.For tg iter body [] pos) (forS it tt tb) :=
  ps_imp (ps_for hp hc hi hg hb hs) fun De σ H ⟨μ, ρ, s, hf, he, hs, h⟩ => ⟨Fr, μ, ρ, s, he, hs, runs_stm he h fun J0 s1 μ1 H1 J e1 x1 hs1 r1 h1 => by
    refine ⟨fun i m σ H => m = J0.items.length - i ∧ ∃ μ' ρ' s', Ex Fr μ1 H1 μ' H ∧ REn (wd X) Fr μ' H ρ' σ ∧ Rs (wd X) μ' H s' ∧ runsS (wd X) W Fr μ' H De (forL J0.keep tt tb (J0.items.drop i) ρ' s'),
      ⟨_, rfl, μ1, ρ, s1, Ex.refl, he.mono x1, hs1, h1⟩, ?_⟩
    rintro i m σ2 H2 ⟨rfl, μ2, ρ2, s2, x2, he2, hs2, h2⟩
    have hf1 : Fz Fr H1 := hf.at x1
    have hf2 : Fz Fr H2 := hf1.at x2
    by_cases hlt : i < J0.items.length
    · have ed : J0.items[i]? = some J0.items[i] := List.getElem?_eq_getElem hlt
      rw [drop_cons ed] at h2
      simp only [forL] at h2
      split at h2
      · rename_i hk
        obtain ⟨go, yl⟩ := (r1 μ2 H2 s2 x2 hs2 hk i).1 _ ed
        refine .inr ⟨go, fun σ' H' => ∃ μ' ρ' s', Ex Fr μ1 H1 μ' H' ∧ REn (wd X) Fr μ' H' ρ' σ' ∧ Rs (wd X) μ' H' s' ∧ runsS (wd X) W Fr μ' H' De (forL J0.keep tt tb (J0.items.drop (i + 1)) ρ' s'), fun σ' H' n => ⟨_, by omega, rfl, n⟩, fun x H3 y => ?_⟩
        obtain ⟨μ3, x3, hs3, r3⟩ := yl x H3 y
        split at h2
        · exact h2.elim
        · rename_i ρ3 q
          obtain ⟨vs, k1, k2⟩ := asg_sound r3 q
          refine k1 σ2 _ ⟨μ3, ρ3, s2, hf2.at x3, ?_, hs3, ?_⟩
          · exact k2 Fr σ2 (he2.mono x3)
          have h3 := runsS_mono x3.s h2
          cases qb : tb ρ3 s2 <;> rw [qb] at h3
          · exact fun μ' H' σ' x4 y4 z4 => ⟨μ', _, _, (x2.trans x3.s).trans x4, z4, y4, runsS_mono x4 h3⟩
          · exact h3
          · exact h3
          · exact fun μ' H' σ' x4 y4 z4 => ⟨μ', _, _, (x2.trans x3.s).trans x4, z4, y4, runsS_mono x4 h3⟩
          · exact h3
          · exact h3
      · exact h2.elim
    · rw [List.drop_eq_nil_of_le (by omega)] at h2
      simp only [forL] at h2
      split at h2
      · rename_i hk
        exact .inl ⟨(r1 μ2 H2 s2 x2 hs2 hk i).2 (by omega), h2 μ2 H2 σ2 Ex.refl hs2 he2⟩
      · exact h2.elim⟩
theorem qs_while {c : Expr} {body : List Stmt} {tb : C} (hp : PassesOwn (model X.prog X.w) X.A X.env X.xe) (hc : PT X c (liftT (wd X) W t)) (hb : QSs X W Fr body tb) : QS X W Fr (.While c body [] pos) (whileS t tb) :=
  ps_imp (ps_while hp hc hb) fun De σ H ⟨μ, ρ, s, hf, he, hs, h⟩ => by
    refine ⟨fun m σ H => ∃ μ' ρ' s', Fz Fr H ∧ REn (wd X) Fr μ' H ρ' σ ∧ Rs (wd X) μ' H s' ∧ runsS (wd X) W Fr μ' H De (whileL t tb m ρ' s'), ⟨gas, μ, ρ, s, hf, he, hs, h⟩, ?_⟩
    rintro m σ2 H2 ⟨μ2, ρ2, s2, hf2, he2, hs2, h2⟩
    cases m with
    | zero => exact h2.elim
    | succ m =>
      refine ⟨Fr, μ2, ρ2, s2, he2, hs2, runs_stm (Rel1 := RB) he2 h2 fun k s3 μ3 H3 b e3 x3 hs3 r3 h3 => ?_⟩
      obtain rfl : k = b := r3
      cases k with
      | false => exact h3 μ3 H3 σ2 Ex.refl hs3 (he2.mono x3)
      | true =>
        refine ⟨fun σ' H' => ∃ μ' ρ' s', Fz Fr H' ∧ REn (wd X) Fr μ' H' ρ' σ' ∧ Rs (wd X) μ' H' s' ∧ runsS (wd X) W Fr μ' H' De (whileL t tb m ρ' s'), fun σ' H' n => ⟨m, Nat.lt_succ_self _, n⟩, μ3, ρ2, s3, hf2.at x3, he2.mono x3, hs3, ?_⟩
        have h4 : runsS (wd X) W Fr μ3 H3 De (match tb ρ2 s3 with | .nx ρ2 s2 => whileL t tb m ρ2 s2 | .ct ρ2 s2 => whileL t tb m ρ2 s2 | .bk ρ2 s2 => .nx ρ2 s2 | r => r) := h3
        have hf3 : Fz Fr H3 := hf2.at x3
        cases qb : tb ρ2 s3 <;> rw [qb] at h4
        · exact fun μ' H' σ' x4 y4 z4 => ⟨μ', _, _, hf3.at x4, z4, y4, runsS_mono x4 h4⟩
        · exact h4
        · exact h4
        · exact fun μ' H' σ' x4 y4 z4 => ⟨μ', _, _, hf3.at x4, z4, y4, runsS_mono x4 h4⟩
        · exact h4
        · exact h4
/-! ### list comprehensions -/
def Tg.within : Tg → List Nat → Bool
  | .nm i, vs => vs.contains i
  | .tp is, vs => is.all vs.contains
theorem wipe_set {σ : L2.St} {vs : List Nat} {i : Nat} {x : Option V} (h : i ∈ vs) : wipe (σ.set i x) vs = wipe σ vs := by
  apply List.ext_getElem?
  intro j
  have key : ∀ {us : List Nat} {τ : L2.St}, (wipe τ us)[j]? = if j ∈ us then (if j < τ.length then some none else none) else τ[j]? := by
    intro us τ
    induction us with
    | nil => simp [wipe]
    | cons v us ih =>
      unfold wipe
      rw [List.getElem?_set, ih]
      by_cases hv : v = j
      · subst hv
        simp [wipe_length]
      · have hv' : ¬ j = v := fun z => hv z.symm
        simp [hv, hv']
  rw [key, key]
  by_cases hj : j ∈ vs
  · simp [hj]
  · simp only [hj, if_false]
    have : i ≠ j := fun z => hj (z ▸ h)
    rw [List.getElem?_set_ne this]
theorem wipe_all {vs : List Nat} : ∀ {is : List Nat} {ys : List V} {σ : L2.St}, (∀ i ∈ is, i ∈ vs) → wipe (setAllV is ys σ) vs = wipe σ vs
  | [], _, _, _ => by unfold setAllV; rfl
  | i :: is, [], _, _ => by unfold setAllV; rfl
  | i :: is, y :: ys, σ, h => by
    unfold setAllV
    rw [wipe_all fun j hj => h j (List.mem_cons_of_mem _ hj), wipe_set (h i (List.mem_cons_self ..))]
theorem wipe_sl {t : Tg} {vs : List Nat} (h : t.within vs = true) (v : V) (ys : List V) (σ : L2.St) : wipe (slV t v ys σ) vs = wipe σ vs := by
  cases t with
  | nm i => exact wipe_set (by simpa [Tg.within] using h)
  | tp is => exact wipe_all (by simpa [Tg.within] using h)
theorem wipe_wipe (σ : L2.St) (vs : List Nat) : wipe (wipe σ vs) vs = wipe σ vs := by
  have key : ∀ (us : List Nat) (τ : L2.St) (ws : List Nat), (∀ u ∈ us, u ∈ ws) → wipe (wipe τ us) ws = wipe τ ws := by
    intro us
    induction us with
    | nil => intro τ ws _; rfl
    | cons u us ih =>
      intro τ ws h
      show wipe ((wipe τ us).set u none) ws = _
      rw [wipe_set (h u (List.mem_cons_self ..)), ih τ ws fun v hv => h v (List.mem_cons_of_mem _ hv)]
  exact key vs σ vs fun _ h => h
theorem wipe_ren {g : Wd} {μ : M} {H : Hp} {ρ : En} {σ : L2.St} (h : REn g Fr μ H ρ σ) : ∀ vs, REn g Fr μ H (wipeD ρ vs) (wipe σ vs)
  | [] => h
  | v :: vs => (wipe_ren h vs).setN
theorem noerr_runs {g : Wd} {W W' : WX} {σ σ' : L2.St} {μ : M} {H : Hp} {α β γ δ : Type} {Rel1 : M → Hp → α → β → Prop} {Rel2 : M → Hp → γ → δ → Prop} {Q1 : β → Hp → Prop} {Q2 : δ → Hp → Prop} {r : R α} {f : α → S → R γ}
    (h : runs g W σ μ H Rel2 Q2 (r.noerr.bind f)) (k : ∀ a s μ' H' b, Ex Fn0 μ H μ' H' → Rs g μ' H' s → Rel1 μ' H' a b → runs g W σ μ' H' Rel2 Q2 (f a s) → Q1 b H') : runs g W' σ' μ H Rel1 Q1 r := by
  cases r with
  | ok a s => exact fun μ' H' b x y z => k a s μ' H' b x y z (runs_mono x h)
  | err c ns vs s => exact h.elim
  | bad => exact h
theorem lc_sound {g : Wd} {own : List (Str × Nat)} {it : Is} {tt : Tg} {tc : T} {me : E} {σ : L2.St} {H : Hp} {Q : VK} (hv : tt.within (own.map (·.2)) = true) (h : liftF g W (lcE it (own.map (·.2)) tt tc me) σ H Q) :
    tLc (liftI g W Fn0 it) (gOf g.K tt) (liftT g (fun _ _ _ _ => False) tc) (liftE g (fun _ _ _ _ => False) me) (own.map (·.2)) σ H Q := by
  obtain ⟨F0, μ, ρ, s, he, hs, h⟩ := h
  exact ⟨F0, μ, ρ, s, he, hs, runs_bind h fun J0 s1 μ1 H1 J e1 x1 hs1 r1 h1 => by
    intro A hA
    have x0 : Ex Fn0 μ1 H1 μ1 (upd H1 A (.lst [])) := ex_new hA
    have hs0 := hs1.new (ho := .lst []) hA
    refine ⟨fun i m H2 => m = J0.items.length - i ∧ ∃ μ' s' acc ys, Ex (fun q => q = A) μ1 (upd H1 A (.lst [])) μ' H2 ∧ Ex Fn0 μ1 H1 μ' H2 ∧ Rs g μ' H2 s' ∧ A ∉ μ'.m ∧ ¬ μ'.z A ∧ H2 A = some (.lst ys) ∧ RVs g μ' H2 acc ys ∧
        runs g W σ μ1 H1 (RF g H) Q ((lcL J0.keep tt tc me (wipeD ρ (own.map (·.2))) (J0.items.drop i) acc s').bind fun ys s => .ok (.lst ys) s),
      ⟨_, rfl, μ1, s1, [], [], Ex.refl, x0, hs0, hs1.nmem hA, hs1.nz hA, upd_same, by simp only [RVs], h1⟩, ?_⟩
    rintro i m H2 ⟨rfl, μ2, s2, acc, ys, x2, x2', hs2, hm2, hz2, hA2, ra2, h2⟩
    by_cases hlt : i < J0.items.length
    · have ed : J0.items[i]? = some J0.items[i] := List.getElem?_eq_getElem hlt
      rw [drop_cons ed] at h2
      simp only [lcL] at h2
      split at h2
      · rename_i hk
        obtain ⟨go, yl⟩ := (r1 μ2 H2 s2 x2' hs2 hk i).1 _ ed
        refine .inr ⟨go, fun H' => ∃ μ' s' acc ys, Ex (fun q => q = A) μ1 (upd H1 A (.lst [])) μ' H' ∧ Ex Fn0 μ1 H1 μ' H' ∧ Rs g μ' H' s' ∧ A ∉ μ'.m ∧ ¬ μ'.z A ∧ H' A = some (.lst ys) ∧ RVs g μ' H' acc ys ∧
          runs g W σ μ1 H1 (RF g H) Q ((lcL J0.keep tt tc me (wipeD ρ (own.map (·.2))) (J0.items.drop (i + 1)) acc s').bind fun ys s => .ok (.lst ys) s), fun H' n => ⟨_, by omega, rfl, n⟩, fun x H3 y => ?_⟩
        obtain ⟨μ3, x3, hs3, r3⟩ := yl x H3 y
        -- what stands at A, behind a step
        have keepA : ∀ {μ' : M} {H' : Hp}, Ex Fn0 μ2 H2 μ' H' → A ∉ μ'.m ∧ ¬ μ'.z A ∧ H' A = some (.lst ys) := fun {μ' H'} x => ⟨x.nm hA2 hm2, fun q => (x.zn A q).elim hz2 fun q => q.elim id (fun q => by rw [hA2] at q; cases q), x.oth A _ hA2 hm2 (.inr id)⟩
        split at h2
        · exact h2.elim
        · rename_i ρ3 q
          obtain ⟨vs, k1, k2⟩ := asg_sound r3 q
          have hren := wipe_ren (he.mono (x1.trans (x2'.trans x3))) (own.map (·.2))
          refine k1 (wipe σ (own.map (·.2))) _ ?_
          have h3 := h2
          refine ⟨by rw [wipe_sl hv, wipe_wipe], F0, μ3, ρ3, s2, k2 _ _ hren, hs3, ?_⟩
          cases qc : tc ρ3 s2 with
          | err c ns vs s => rw [qc] at h3; exact h3.elim
          | bad => rw [qc] at h3; exact h3.elim
          | ok k s4 =>
            rw [qc] at h3
            intro μ4 H4 b x4 hs4 r4
            obtain rfl : k = b := r4
            have h4 := h3
            cases k with
            | false =>
              have kA := keepA (x3.trans x4)
              exact ⟨μ4, s4, acc, ys, x2.trans (x3.trans x4).s, x2'.trans (x3.trans x4), hs4, kA.1, kA.2.1, kA.2.2, ra2.mono (x3.trans x4), h4⟩
            | true =>
              refine ⟨F0, μ4, ρ3, s4, (k2 _ _ hren).mono x4, hs4, ?_⟩
              have h4 : runs g W σ μ1 H1 (RF g H) Q ((R.bind (me ρ3 s4).noerr fun y s => if decide (acc.length < sizeLine) = true then lcL J0.keep tt tc me (wipeD ρ (own.map (·.2))) (J0.items.drop (i + 1)) (acc ++ [y]) s else .bad).bind fun ys s => .ok (.lst ys) s) := h4
              cases qe : me ρ3 s4 with
              | err c ns vs s => rw [qe] at h4; exact h4.elim
              | bad => rw [qe] at h4; exact h4.elim
              | ok d s5 =>
                rw [qe] at h4
                intro μ5 H5 z x5 hs5 r5
                have h5 : runs g W σ μ1 H1 (RF g H) Q ((if decide (acc.length < sizeLine) = true then lcL J0.keep tt tc me (wipeD ρ (own.map (·.2))) (J0.items.drop (i + 1)) (acc ++ [d]) s5 else .bad).bind fun ys s => .ok (.lst ys) s) := h4
                split at h5
                · rename_i hz
                  have x35 := (x3.trans x4).trans x5
                  obtain ⟨a1, a2, a3⟩ := keepA x35
                  have ra5 := ra2.mono x35
                  have xp : Ex (fun q => q = A) μ5 H5 μ5 (upd H5 A (.lst (ys ++ [z]))) := ex_own a2 rfl a3 (fun _ w => nomatch w) (fun _ _ w => nomatch w)
                  have xq : Ex Fn0 μ1 H1 μ5 (upd H5 A (.lst (ys ++ [z]))) := by
                    have xx := x2'.trans x35
                    refine ⟨xx.pre, fun q hq => xx.trk q (upd_trk q hq), fun q zs hq => ?_, fun q o u hq => ?_, fun q u hq n c => ?_, xx.zs, xx.zn⟩
                    · rw [upd_ne (ne_of_none hq hA)]; exact xx.tup q zs hq
                    · rw [upd_ne (ne_of_none hq hA)]; exact xx.frz q o u hq
                    · rw [upd_ne (ne_of_none hq hA)]; exact xx.oth q u hq n c
                  refine ⟨ys, a3, by rw [← ra5.length]; exact of_decide_eq_true hz, μ5, s5, acc ++ [d], ys ++ [z], (x2.trans x35.s).trans xp, xq, hs5.own a1 a2 a3 (fun _ w => nomatch w) (fun _ _ w => nomatch w), a1, a2, upd_same, (ra5.mono xp).append (.one (r5.mono xp)), h5⟩
                · exact h5.elim
      · exact h2.elim
    · rw [List.drop_eq_nil_of_le (by omega)] at h2
      simp only [lcL] at h2
      split at h2
      · rename_i hk
        exact .inl ⟨(r1 μ2 H2 s2 x2' hs2 hk i).2 (by omega), h2 μ2 H2 _ x2' hs2 (by
          unfold RF
          exact ⟨A, rfl, x1.trk A hA, hm2, hz2, ys, hA2, ra2⟩)⟩
      · exact h2.elim⟩
theorem q_lc {elt tg iter : Expr} {ifs : List Expr} {scope : Scope} {own : List (Str × Nat)} {it : Is} {tt : Tg} {tc : T} {me : E} (hc : X.calm = true) (hN : X.N.Nodup) (hi : QI X W Fn0 tg iter it) (ok : BlkOk X.N X.env.scope scope own) (hv : tt.within (own.map (·.2)) = true)
    (hg : ∀ (s : Shared) (H : Hp) (C : Addr) (cl : List (Str × Addr)) (fp : List Addr), PG (X.blk s H scope (compEnvC scope cl C X.env) fp) tg (gOf X.K tt))
    (ht : ∀ (s : Shared) (H : Hp) (C : Addr) (cl : List (Str × Addr)) (fp : List Addr), PTs (X.blk s H scope (compEnvC scope cl C X.env) fp) ifs (liftT (wd X) (fun _ _ _ _ => False) tc))
    (he : ∀ (s : Shared) (H : Hp) (C : Addr) (cl : List (Str × Addr)) (fp : List Addr), PE (X.blk s H scope (compEnvC scope cl C X.env) fp) elt (liftE (wd X) (fun _ _ _ _ => False) me)) (hs : ∀ x, foldedSetIterable iter X.env x = pure x := by intro _; rfl) :
    PE X (.ListComp elt [⟨tg, iter, ifs, 0⟩] scope pos) (liftF (wd X) W (lcE it (own.map (·.2)) tt tc me)) :=
  pe_imp (pe_lc hc hN hi ok hg ht he hs) fun σ H Q h => lc_sound hv h
theorem qs_setLc {i : Nat} {y : Str} {py : Pos} {elt tg iter : Expr} {ifs : List Expr} {scope : Scope} {own : List (Str × Nat)} {it : Is} {tt : Tg} {tc : T} {me : E} {lpos : Pos} (hc : X.calm = true) (hN : X.N.Nodup) (hi : QI X W Fn0 tg iter it) (ok : BlkOk X.N X.env.scope scope own) (hv : tt.within (own.map (·.2)) = true)
    (hg : ∀ (s : Shared) (H : Hp) (C : Addr) (cl : List (Str × Addr)) (fp : List Addr), PG (X.blk s H scope (compEnvC scope cl C X.env) fp) tg (gOf X.K tt))
    (ht : ∀ (s : Shared) (H : Hp) (C : Addr) (cl : List (Str × Addr)) (fp : List Addr), PTs (X.blk s H scope (compEnvC scope cl C X.env) fp) ifs (liftT (wd X) (fun _ _ _ _ => False) tc))
    (he : ∀ (s : Shared) (H : Hp) (C : Addr) (cl : List (Str × Addr)) (fp : List Addr), PE (X.blk s H scope (compEnvC scope cl C X.env) fp) elt (liftE (wd X) (fun _ _ _ _ => False) me))
    (hy : X.N[i]? = some y := by rfl) (hyl : X.env.scope.names.lookup y = some .local := by rfl) (hsw : swapsWith (.ListComp elt [⟨tg, iter, ifs, 0⟩] scope lpos) (some (.Name y py)) pos.line X.env = pure true := by exact sw_true rfl rfl rfl (by decide +kernel)) (hs : ∀ x, foldedSetIterable iter X.env x = pure x := by intro _; rfl) :
    QS X W Fr (.Assign [.Name y py] (.ListComp elt [⟨tg, iter, ifs, 0⟩] scope lpos) pos) (setS i (lcE it (own.map (·.2)) tt tc me)) :=
  ps_imp (ps_setLc hc hN hy hyl hsw hi ok hg ht he hs) fun De σ H ⟨μ, ρ, s, hf, he, hs, h⟩ => lc_sound hv ⟨Fr, μ, ρ, s, he, hs, runs_fz (runs_stm (Rel1 := RV (wd X)) he h fun d s1 μ1 H1 x e1 x1 hs1 r1 h1 => h1 μ1 H1 _ Ex.refl hs1 ((he.mono x1).setV r1))⟩
theorem qs_ownLc {i : Nat} {y : Str} {py : Pos} {elt tg iter : Expr} {ifs : List Expr} {scope : Scope} {own : List (Str × Nat)} {it : Is} {tt : Tg} {tc : T} {me : E} {lpos : Pos} (hc : X.calm = true) (hN : X.N.Nodup) (hi : QI X W Fn0 tg iter it) (ok : BlkOk X.N X.env.scope scope own) (hv : tt.within (own.map (·.2)) = true)
    (hg : ∀ (s : Shared) (H : Hp) (C : Addr) (cl : List (Str × Addr)) (fp : List Addr), PG (X.blk s H scope (compEnvC scope cl C X.env) fp) tg (gOf X.K tt))
    (ht : ∀ (s : Shared) (H : Hp) (C : Addr) (cl : List (Str × Addr)) (fp : List Addr), PTs (X.blk s H scope (compEnvC scope cl C X.env) fp) ifs (liftT (wd X) (fun _ _ _ _ => False) tc))
    (he : ∀ (s : Shared) (H : Hp) (C : Addr) (cl : List (Str × Addr)) (fp : List Addr), PE (X.blk s H scope (compEnvC scope cl C X.env) fp) elt (liftE (wd X) (fun _ _ _ _ => False) me))
    (hy : X.N[i]? = some y := by rfl) (hyl : X.env.scope.names.lookup y = some .local := by rfl) (hsw : swapsWith (.ListComp elt [⟨tg, iter, ifs, 0⟩] scope lpos) (some (.Name y py)) pos.line X.env = pure true := by exact sw_true rfl rfl rfl (by decide +kernel)) (hs : ∀ x, foldedSetIterable iter X.env x = pure x := by intro _; rfl) :
    QS X W Fr (.Assign [.Name y py] (.ListComp elt [⟨tg, iter, ifs, 0⟩] scope lpos) pos) (ownS i (lcE it (own.map (·.2)) tt tc me)) :=
  ps_imp (ps_setLc hc hN hy hyl hsw hi ok hg ht he hs) fun De σ H ⟨μ, ρ, s, hf, he, hs, h⟩ => lc_sound hv ⟨Fr, μ, ρ, s, he, hs, runs_stm (Rel1 := RF (wd X) H) he h fun d s1 μ1 H1 x e1 x1 hs1 r1 h1 => by
    have q := own_set (i := i) hf he x1 r1
    split at h1
    · rename_i hd
      rw [if_pos hd] at q
      exact h1 μ1 H1 _ Ex.refl hs1 q
    · rename_i hd
      rw [if_neg hd] at q
      exact h1 μ1 H1 _ Ex.refl hs1 q⟩
theorem qts_nil : PTs X [] (liftT (wd X) W yesT) := ⟨fun pins s σ H Q I ⟨Fr, μ, ρ, st, he, hs, h⟩ => (pts_nil (X := X)).run pins s σ H Q I (runs_pure (show runs (wd X) W σ μ H RB Q (.ok true st) from h) hs rfl)⟩
theorem qts_one {c : Expr} (h : PT X c (liftT (wd X) W t)) : PTs X [c] (liftT (wd X) W t) := pts_one h
end
end Fv

namespace Fv
open PySem PySem.Spec PyProof.Rows L2
/-! ### dicts, by trees -/
def getK {κ : Type} [DecidableEq κ] : List κ → List D → κ → Option D
  | k :: ks, v :: vs, x => if k = x then some v else getK ks vs x
  | _, _, _ => none
theorem getK_sound {κ : Type} [DecidableEq κ] {g : Wd} {μ : M} {H : Hp} {x : κ} : ∀ {kk : List κ} {vs : List D} {ys : List V}, RVs g μ H vs ys →
    (∀ d, getK kk vs x = some d → ∃ v, valV (kk.zip ys) x = some v ∧ RV g μ H d v) ∧ (getK kk vs x = none → valV (kk.zip ys) x = none)
  | [], vs, ys, r => ⟨fun d e => by simp [getK] at e, fun _ => by simp [valV]⟩
  | k :: ks, [], ys, r => by
    simp only [RVs] at r; subst r
    exact ⟨fun d e => by simp [getK] at e, fun _ => by simp [valV]⟩
  | k :: ks, v :: vs, ys, r => by
    simp only [RVs] at r
    obtain ⟨y, r', rfl, a, b⟩ := r
    by_cases h : k = x
    · refine ⟨fun d e => ?_, fun e => ?_⟩
      · rw [getK, if_pos h] at e; cases e
        exact ⟨y, by simp [valV, h], a⟩
      · rw [getK, if_pos h] at e; cases e
    · obtain ⟨h1, h2⟩ := getK_sound (x := x) (kk := ks) b
      have e0 : valV ((k :: ks).zip (y :: r')) x = valV (ks.zip r') x := by simp [valV, h]
      rw [getK, if_neg h, e0]
      exact ⟨h1, h2⟩
/-- what a dict has for a key: none, where it is no such dict or key -/
def dGet (s : S) (d k : D) : Option (Option D) := match d with
  | .dct ks vs => (keysD ks).bind fun kk => (keyD k).map fun x => getK kk vs x
  | .dtt ks vs => match k with
    | .tup _ => (keysT ks).bind fun kk => (keyT k).map fun x => getK kk vs x
    | _ => none
  | .ref a => match s[a]? with
    | some (.dct ks vs) => (keysD ks).bind fun kk => (keyD k).map fun x => getK kk vs x
    | some (.dtt ks vs) => match k with
      | .tup _ => (keysT ks).bind fun kk => (keyT k).map fun x => getK kk vs x
      | _ => none
    | _ => none
  | _ => none
theorem keyD_val {g : Wd} {μ : M} {H : Hp} {d : D} {x : V} {k : Key} (r : RW g μ H d x) (e : keyD d = some k) : x = kV k := by
  cases d <;> simp only [keyD, Option.some.injEq, reduceCtorEq] at e
  · subst e; exact w_int r
  · subst e; exact w_str r
theorem keysD_vals {g : Wd} {μ : M} {H : Hp} : ∀ {ds : List D} {ys : List V} {kk : List Key}, RVs g μ H ds ys → keysD ds = some kk → ys = kk.map kV
  | [], ys, kk, r, e => by simp only [RVs] at r; simp only [keysD, Option.some.injEq] at e; subst r; subst e; rfl
  | d :: ds, ys, kk, r, e => by
    simp only [RVs] at r
    obtain ⟨y, r', rfl, a, b⟩ := r
    simp only [keysD, Option.bind_eq_some_iff, Option.map_eq_some_iff] at e
    obtain ⟨k, e1, r2, e2, rfl⟩ := e
    rw [keyD_val a.w e1, keysD_vals b e2]; rfl
theorem keyT_val {g : Wd} {μ : M} {H : Hp} {ds : List D} {x : V} {k : List Key} (r : RW g μ H (.tup ds) x) (e : keyT (.tup ds) = some k) : ∃ p, x = .ref p ∧ H p = some (.tup (k.map kV)) := by
  have r := r.light rfl
  simp only [RV] at r
  obtain ⟨p, ys, rfl, q, rr⟩ := r
  simp only [keyT] at e
  rw [keysD_vals rr e] at q
  exact ⟨p, rfl, q⟩
theorem Rd_of {H : Hp} {p : Addr} {u : HO} (h : H p = some u) : Rd H p u := .inl h
theorem dGet_sound {g : Wd} {μ : M} {H : Hp} {s : S} {d k : D} {x y : V} {o : Option D} (hs : Rs g μ H s) (r : RW g μ H d x) (rk : RW g μ H k y) (e : dGet s d k = some o) :
    ∃ p r, x = .ref p ∧ DGet H p y r ∧ (∀ v, o = some v → ∃ w, r = some w ∧ RV g μ H v w) ∧ (o = none → r = none) := by
  have dk : ∀ {p : Addr} {ks vs : List D} {ys : List V}, Dk H p ks ys → RVs g μ H vs ys → ((keysD ks).bind fun kk => (keyD k).map fun x => getK kk vs x) = some o → ∃ r, DGet H p y r ∧ (∀ v, o = some v → ∃ w, r = some w ∧ RV g μ H v w) ∧ (o = none → r = none) := by
    intro p ks vs ys ⟨kk, e1, q⟩ rv e
    simp only [Option.bind_eq_some_iff, Option.map_eq_some_iff] at e
    obtain ⟨kk', e2, x, e3, e4⟩ := e
    rw [e1] at e2; cases e2
    obtain ⟨g1, g2⟩ := getK_sound (x := x) (kk := kk) rv
    exact ⟨_, .inl ⟨_, x, Rd_of q, keyD_val rk e3, rfl⟩, fun v hv => g1 v (by rw [e4, hv]), fun hv => g2 (by rw [e4, hv])⟩
  have dt : ∀ {p : Addr} {ks vs ds : List D} {ys : List V}, k = .tup ds → Dt H p ks ys → RVs g μ H vs ys → ((keysT ks).bind fun kk => (keyT k).map fun x => getK kk vs x) = some o → ∃ r, DGet H p y r ∧ (∀ v, o = some v → ∃ w, r = some w ∧ RV g μ H v w) ∧ (o = none → r = none) := by
    intro p ks vs ds ys ek ⟨kk, e1, q⟩ rv e
    subst ek
    simp only [Option.bind_eq_some_iff, Option.map_eq_some_iff] at e
    obtain ⟨kk', e2, x, e3, e4⟩ := e
    rw [e1] at e2; cases e2
    obtain ⟨g1, g2⟩ := getK_sound (x := x) (kk := kk) rv
    obtain ⟨b, eb, hb⟩ := keyT_val rk e3
    exact ⟨_, .inr ⟨_, x, b, Rd_of q, eb, hb, rfl⟩, fun v hv => g1 v (by rw [e4, hv]), fun hv => g2 (by rw [e4, hv])⟩
  rcases r with r | ⟨hd, p, rfl, hm, c⟩
  · cases d with
    | dct ks vs =>
      simp only [RV] at r
      obtain ⟨p, ys, rfl, _, q, _, rv⟩ := r
      obtain ⟨r, h⟩ := dk q rv e
      exact ⟨p, r, rfl, h⟩
    | dtt ks vs =>
      simp only [RV] at r
      obtain ⟨p, ys, rfl, _, q, _, rv⟩ := r
      cases k <;> simp only [dGet, reduceCtorEq] at e
      obtain ⟨r, h⟩ := dt rfl q rv e
      exact ⟨p, r, rfl, h⟩
    | ref a =>
      simp only [RV] at r
      obtain ⟨p, ep, rfl⟩ := r
      simp only [dGet] at e
      split at e
      · rename_i ks vs ei
        obtain ⟨ys, q, _, rv⟩ := hs.at_ _ _ _ ei ep
        obtain ⟨r, h⟩ := dk q rv e
        exact ⟨p, r, rfl, h⟩
      · rename_i ks vs ei
        obtain ⟨ys, q, _, rv⟩ := hs.at_ _ _ _ ei ep
        split at e
        · obtain ⟨r, h⟩ := dt rfl q rv e
          exact ⟨p, r, rfl, h⟩
        · cases e
      · cases e
    | _ => cases e
  · cases d with
    | dct ks vs =>
      obtain ⟨ys, q, _, rv⟩ := c
      obtain ⟨r, h⟩ := dk q rv e
      exact ⟨p, r, rfl, h⟩
    | dtt ks vs =>
      obtain ⟨ys, q, _, rv⟩ := c
      cases k <;> simp only [dGet, reduceCtorEq] at e
      obtain ⟨r, h⟩ := dt rfl q rv e
      exact ⟨p, r, rfl, h⟩
    | lst _ => cases e
    | set _ => cases e
    | obj _ _ _ => cases e
    | _ => cases hd
section
variable {X : Cx} {W : WX} {pos : Pos} {a b : Expr} {ma mb : E}
/-- d[k], there, behind its operands -/
theorem dictTail {value slice : Expr} {pins : List (Addr × Obj)} {σ : L2.St} {H : Hp} {sh : Shared} {p : Addr} {y v : V} {u : Value} {Q : VK} (hu : X.A.units + 1 < cLine) (I : Inv X pins σ H sh) (dg : DGet H p y (some v)) (ry : RelV y u) (q : Q v H)
    (hsub : subscripted slice false (.ref p) u = operate [.ref p, u] (getItem (.ref p) u)) : wpAny (model X.prog X.w) X.A (subscriptTail value slice (.ref p) u) (EP X pins σ Q) X.xe sh := by
  have ty := dict_typeIs I dg
  have got : wpAny (model X.prog X.w) X.A (getItem (.ref p) u) (EP X pins σ Q) X.xe sh := d_getItem hu I dg ry fun w' s' I' rw' => ⟨v, H, I', rw', q⟩
  have last : wpAny (model X.prog X.w) X.A (subscripted slice false (.ref p) u) (fun r s₃ => wpAny (model X.prog X.w) X.A (letTemporaryGo value (.ref p) r >>= fun _ => pure r) (EP X pins σ Q) X.xe s₃) X.xe sh := by
    rw [hsub]
    exact wpAny_operating (wpAny_mono got (fun r s₃ k => wpAny_bind (wpAny_letTemporaryGo (wpAny_pure k))) fun _ _ z => z)
  unfold subscriptTail
  refine wpAny_bind (?_)
  rw [getitemInPython_of_ne (ty).not_modules]
  refine wpAny_bind (wpAny_specialOf ty PySem.F.slot_dict_getitem.lookup ?_)
  first
    | exact (wpAny_pure (wpAny_bind last))
    | exact (wpAny_bind (wpAny_pure (wpAny_bind last)))
    | exact (wpAny_bind last)
/-! ### items and slices -/
def ch (c : Nat) : Tx := ⟨#[c]⟩
def idxS (s : S) (x y : D) : Option D := match seqOf s x with
  | some xs => match y with | .int i => atI xs i | _ => none
  | none => match x, y with
    | .str z, .int i => if szl z.length then (atI z.cps.toList i).map fun c => .str (ch c) else none
    | x, y => (dGet s x y).bind id
def idxD (x y : D) (s : S) : R D := match idxS s x y with | some v => .ok v s | none => .bad
def optInt : Option D → Option (Option Int)
  | none => some none
  | some (.int i) => some (some i)
  | _ => none
def cutD (xs : List D) (lo hi : Option Int) : List D := (xs.drop (HT.sIx xs.length 0 lo)).take (HT.sIx xs.length xs.length hi - HT.sIx xs.length 0 lo)
def lsOf (s : S) : D → Option (List D)
  | .lst xs => some xs
  | .fl xs => some xs
  | .ref a => match s[a]? with | some (.lst xs) => some xs | _ => none
  | _ => none
def sliceD (x : D) (lo hi : Option Int) (s : S) : R D := match x with
  | .str z => if szl z.length then .ok (.str (cutS z lo hi)) s else .bad
  | .tup xs => .ok (if HT.sIx xs.length 0 lo = 0 ∧ HT.sIx xs.length xs.length hi = xs.length then x else .tup (cutD xs lo hi)) s
  | .ktup xs => .ok (if HT.sIx xs.length 0 lo = 0 ∧ HT.sIx xs.length xs.length hi = xs.length then x else .tup (cutD xs lo hi)) s
  | x => match lsOf s x with
    | some xs => .ok (.lst (cutD xs lo hi)) s
    | none => .bad
abbrev Os := En → S → R (Option Int)
def noO : Os := fun _ s => .ok none s
def someO (a : E) : Os := fun ρ s => (a ρ s).bind fun d s => match d with | .int i => .ok (some i) s | _ => .bad
def sliceE (x : E) (lo hi : Os) : E := fun ρ s => (x ρ s).bind fun d s => (lo ρ s).bind fun l s => (hi ρ s).bind fun h s => sliceD d l h s
theorem atI_rvs {g : Wd} {μ : M} {H : Hp} {xs : List D} {vs : List V} (r : RVs g μ H xs vs) {i : Int} {d : D} (h : atI xs i = some d) : ∃ v, atI vs i = some v ∧ RV g μ H d v := by
  unfold atI at h ⊢
  rw [← r.length]
  cases q : ixN xs.length i with
  | none => rw [q] at h; cases h
  | some j =>
    rw [q] at h
    exact r.get h
/-- what is read is a value -/
def rI (g : Wd) (o : S → D → D → Option D) : R2 := fun x y H Q => ∃ μ s d e v, Rs g μ H s ∧ RW g μ H d x ∧ RW g μ H e y ∧ o s d e = some v ∧ ∀ w, RV g μ H v w → Q w H
theorem qx_idx (hu : X.A.units + 1 < cLine) : IxR X (rI (wd X) idxS) := by
  intro value slice pins sh σ H x y v u Q I rx ry ⟨μ, s, d, e, w, hs, r1, r2, ho, h⟩ hsub
  unfold idxS at ho
  split at ho
  · rename_i xs es
    split at ho
    · rename_i i
      obtain rfl := w_int r2
      obtain ⟨p, ys, rfl, q, rr⟩ := seqOf_sound hs r1 es
      obtain ⟨z, e1, e2⟩ := atI_rvs rr ho
      refine ix_seq value slice pins sh σ H _ _ v u Q I rx ry ?_ hsub
      rcases q with q | q
      · exact .inr (.inl ⟨p, ys, _, z, rfl, rfl, q, e1, h z e2⟩)
      · exact .inl ⟨p, ys, _, z, rfl, rfl, q, e1, h z e2⟩
    · cases ho
  · split at ho
    · rename_i z i _
      obtain rfl := w_str r1; obtain rfl := w_int r2
      split at ho
      · rename_i hz
        simp only [Option.map_eq_some_iff] at ho
        obtain ⟨c, hc, rfl⟩ := ho
        exact ix_seq value slice pins sh σ H _ _ v u Q I rx ry (.inr (.inr ⟨z, i, c, rfl, rfl, of_decide_eq_true hz, hc, h _ (by simp only [RV, ch])⟩)) hsub
      · cases ho
    · simp only [Option.bind_eq_some_iff, id] at ho
      obtain ⟨o, ho, rfl⟩ := ho
      obtain ⟨p, r, rfl, dg, k1, _⟩ := dGet_sound hs r1 r2 ho
      obtain ⟨z, rfl, rz⟩ := k1 _ rfl
      obtain rfl : v = Value.ref p := rx
      exact dictTail hu I dg ry (h z rz) hsub
theorem q_idx (hu : X.A.units + 1 < cLine) (ha : PE X a (liftB (wd X) W ma)) (hb : PE X b (liftB (wd X) W mb)) (hs : PlainIx b := by exact fun _ _ => rfl) : PE X (.Subscript a b pos) (liftE (wd X) W (binE idxD ma mb)) :=
  pe_imp (pe_ix (qx_idx hu) ha hb hs) fun σ H Q ⟨Fr, μ, ρ, s, he, hs, h⟩ => by
    refine ⟨Fr, μ, ρ, s, he, hs, runs_bind (Rel1 := RW (wd X)) h fun d s1 μ1 H1 x e1 x1 hs1 r1 h1 => ?_⟩
    refine ⟨Fr, μ1, ρ, s1, he.mono x1, hs1, runs_bind (Rel1 := RW (wd X)) h1 fun d2 s2 μ2 H2 y e2 x2 hs2 r2 h2 => ?_⟩
    unfold idxD at h2
    split at h2
    · rename_i v hv
      exact ⟨μ2, s2, d, d2, v, hs2, r1.mono x2, r2, hv, fun w rw' => runs_pure h2 hs2 rw'⟩
    · exact h2.elim
theorem cut_rvs {g : Wd} {μ : M} {H : Hp} {xs : List D} {vs : List V} (r : RVs g μ H xs vs) (lo hi : Option Int) : RVs g μ H (cutD xs lo hi) (cutV vs lo hi) := by
  unfold cutD cutV
  rw [r.length]
  exact (r.drop _).take _
def rS (g : Wd) (o : D → Option Int → Option Int → S → R D) : V → Option Int → Option Int → Hp → VK → Prop := fun x lo hi H Q => ∃ μ s d, Rs g μ H s ∧ RW g μ H d x ∧ ∃ W σ, runs g W σ μ H (RF g H) Q (o d lo hi s)
theorem lsOf_sound {g : Wd} {μ : M} {H : Hp} {s : S} {d : D} {x : V} {xs : List D} (hs : Rs g μ H s) (r : RW g μ H d x) (e : lsOf s d = some xs) : ∃ p ys, x = .ref p ∧ SqL g.K H p ys ∧ RVs g μ H xs ys := by
  by_cases hf : ∃ zs, d = .fl zs
  · obtain ⟨zs, rfl⟩ := hf
    have r := r.light rfl
    simp only [RV] at r
    obtain ⟨p, ys, rfl, q, rr⟩ := r
    simp only [lsOf, Option.some.injEq] at e
    subst e
    exact ⟨p, ys, rfl, q.sq, rr⟩
  · have e' : lstOf s d = some xs := by
      cases d <;> simp only [lsOf, reduceCtorEq] at e <;> simp only [lstOf]
      · exact e
      · exact (hf ⟨_, rfl⟩).elim
      · exact e
    obtain ⟨p, ys, rfl, q, rr⟩ := lstOf_sound hs r e'
    exact ⟨p, ys, rfl, .inl (.inl q), rr⟩
theorem qs_slice : SlR X (rS (wd X) sliceD) := by
  intro pins sh σ H x v vl vu lo hi sl Q I rx hsl pl pu ⟨μ, s, d, hs, r1, W, σ', h⟩
  refine (SlR.or (SlR.or sl_str sl_tupA) sl_list) pins sh σ H x v vl vu lo hi sl Q I rx hsl pl pu ?_
  have tup : ∀ {xs : List D}, tupOf d = some xs → runs (wd X) W σ' μ H (RF (wd X) H) Q (.ok (if HT.sIx xs.length 0 lo = 0 ∧ HT.sIx xs.length xs.length hi = xs.length then d else .tup (cutD xs lo hi)) s) → rSlA X.K x lo hi H Q := by
    intro xs et h
    obtain ⟨p, ys, rfl, q, rr⟩ := tupOf_sound r1 et
    refine ⟨p, ys, rfl, q, fun hw => ?_, fun hw => ?_⟩
    · rw [← rr.length] at hw
      rw [if_pos hw] at h
      exact rf_pure h hs (tupOf_light et) (r1.light (tupOf_light et))
    · rw [← rr.length] at hw
      rw [if_neg hw] at h
      exact rv_tup hs (cut_rvs rr lo hi) h
  unfold sliceD at h
  split at h
  · obtain rfl := w_str r1
    split at h
    · rename_i z hz
      exact .inl (.inl ⟨z, rfl, of_decide_eq_true hz, rf_str h hs⟩)
    · exact h.elim
  · exact .inl (.inr (tup rfl h))
  · exact .inl (.inr (tup rfl h))
  · split at h
    · rename_i xs es
      obtain ⟨p, ys, rfl, q, rr⟩ := lsOf_sound hs r1 es
      exact .inr ⟨p, ys, rfl, q, rf_lst h hs (cut_rvs rr lo hi)⟩
    · exact h.elim
def liftO (g : Wd) (W : WX) (m : Os) : L2.St → Hp → (Option Int → Hp → Prop) → Prop := fun σ H Q => ∃ Fr μ ρ s, REn g Fr μ H ρ σ ∧ Rs g μ H s ∧ runs g W σ μ H (fun _ _ a b => a = b) Q (m ρ s)
theorem qo_none : PO X none (liftO (wd X) W noO) := ⟨fun pins s σ H Q I ⟨Fr, μ, ρ, st, he, hs, h⟩ => po_none.run pins s σ H Q I (runs_pure (show runs (wd X) W σ μ H (fun _ _ a b => a = b) Q (.ok none st) from h) hs rfl)⟩
theorem qo_some (ha : PE X a (liftB (wd X) W ma)) : PO X (some a) (liftO (wd X) W (someO ma)) := ⟨fun pins s σ H Q I ⟨Fr, μ, ρ, st, he, hs, h⟩ => (po_some ha).run pins s σ H Q I ⟨Fr, μ, ρ, st, he, hs, runs_bind (Rel1 := RW (wd X)) h fun d s1 μ1 H1 x e1 x1 hs1 r1 h1 => by
  cases d <;> try exact h1.elim
  exact ⟨_, w_int r1, runs_pure h1 hs1 rfl⟩⟩⟩
theorem q_slice {lo hi : Option Expr} {p2 : Pos} {ml mh : Os} (ha : PE X a (liftB (wd X) W ma)) (hl : PO X lo (liftO (wd X) W ml)) (hh : PO X hi (liftO (wd X) W mh)) : PE X (.Subscript a (.Slice lo hi none p2) pos) (liftF (wd X) W (sliceE ma ml mh)) :=
  pe_imp (pe_slice qs_slice ha hl hh) fun σ H Q ⟨Fr, μ, ρ, s, he, hs, h⟩ => ⟨Fr, μ, ρ, s, he, hs, runs_bind (Rel1 := RW (wd X)) h fun d s1 μ1 H1 x e1 x1 hs1 r1 h1 =>
    ⟨Fr, μ1, ρ, s1, he.mono x1, hs1, runs_bind (Rel1 := fun _ _ a b => a = b) h1 fun l s2 μ2 H2 l' e2 x2 hs2 r2 h2 => by
      subst r2
      exact ⟨Fr, μ2, ρ, s2, (he.mono x1).mono x2, hs2, runs_bind (Rel1 := fun _ _ a b => a = b) h2 fun u s3 μ3 H3 u' e3 x3 hs3 r3 h3 => by
        subst r3
        exact ⟨μ3, s3, d, hs3, (r1.mono x2).mono x3, W, σ, runs_back ((x1.trans x2).trans x3) h3⟩⟩⟩⟩

/-! ### calls of built-in things -/
def rC (g : Wd) (f : Fn) : List V → Hp → VK → Prop := fun xs H Q => ∃ μ s ds, Rs g μ H s ∧ RWs g μ H ds xs ∧ ∃ W σ, runs g W σ μ H (RF g H) Q (f ds s)
theorem call_sound {g : Wd} {f : Fn} {ms : As} {σ : L2.St} {H : Hp} {Q : VK} (h : liftF g W (callE f ms) σ H Q) : tCB (rC g f) (liftAB g W ms) σ H Q := by
  obtain ⟨Fr, μ, ρ, s, he, hs, h⟩ := h
  exact ⟨Fr, μ, ρ, s, he, hs, runs_bind (Rel1 := RWs g) h fun d s1 μ1 H1 x e1 x1 hs1 r1 h1 => ⟨μ1, s1, d, hs1, r1, W, σ, runs_back x1 h1⟩⟩
theorem q_callB {x : Str} {p : Pos} {e : Expr} {es : List Expr} {id : String} {f : Fn} {ms : As} (hc : CallR X (.builtin id) (rC (wd X) f)) (hm : X.mg x = none) (hv : bootBuiltins x = some (.builtin id)) (ha : PA X (e :: es) (liftAB (wd X) W ms)) (hg : Gl X x := by rfl)
    (hn : x ≠ "__name__" := by decide) (hdb : (x == ("__debug__" : Str)) = false := by decide) (he : starEach (e :: es) X.env = (false, eval e X.env) :: starEach es X.env := by rfl) (hpl : (backTo pos (starEach es X.env)).any (·.1) = false := by rfl) :
    PE X (.Call (.Name x p) (e :: es) [] pos) (liftF (wd X) W (callE f ms)) := pe_imp (pe_callB hc hg hm hv ha hn hdb he hpl) fun _ _ _ => call_sound
theorem q_callT {x : Str} {p : Pos} {e : Expr} {es : List Expr} {id : String} {f : Fn} {ms : As} (hc : CallR X (.type id) (rC (wd X) f)) (hm : X.mg x = none) (hv : bootBuiltins x = some (.type id)) (ha : PA X (e :: es) (liftAB (wd X) W ms)) (hg : Gl X x := by rfl)
    (hn : x ≠ "__name__" := by decide) (hdb : (x == ("__debug__" : Str)) = false := by decide) (he : starEach (e :: es) X.env = (false, eval e X.env) :: starEach es X.env := by rfl) (hpl : (backTo pos (starEach es X.env)).any (·.1) = false := by rfl) :
    PE X (.Call (.Name x p) (e :: es) [] pos) (liftF (wd X) W (callE f ms)) := pe_imp (pe_callTy hc hg hm hv ha hn hdb he hpl) fun _ _ _ => call_sound
def lenO (s : S) (d : D) : Option Nat := match seqOf s d with
  | some xs => some xs.length
  | none => match d with
    | .str z => if szl z.length then some z.length else none
    | .dct ks _ => some ks.length
    | .ref a => match s[a]? with | some (.dct ks _) => some ks.length | _ => none
    | _ => none
def lenF : Fn := fun ds s => match ds with
  | [d] => match lenO s d with | some n => .ok (.int n) s | none => .bad
  | _ => .bad
theorem zip_len {ks : List D} {kk : List Key} {ys : List V} (e : keysD ks = some kk) (l : ks.length = ys.length) : (kk.zip ys).length = ks.length := by rw [List.length_zip, ← keysD_len e, ← l]; simp
theorem qc_len : CallR X (.builtin "len") (rC (wd X) lenF) := by
  intro pins sh σ H xs us Q I rv ⟨μ, s, ds, hs, r, W, σ', h⟩
  unfold lenF at h
  split at h
  · rename_i d
    obtain ⟨x, rfl, r1⟩ := r.inv1
    split at h
    · rename_i n hn
      have q := rf_int h hs
      unfold lenO at hn
      split at hn
      · rename_i zs es
        cases hn
        obtain ⟨p, ys, rfl, qq, rr⟩ := seqOf_sound hs r1 es
        rw [rr.length] at q
        exact call_len pins sh σ H _ us Q I rv ⟨_, _, rfl, qq.elim (fun q => .inr ⟨ys, q, rfl⟩) (fun q => .inl ⟨ys, q, rfl⟩), q⟩
      · have dk : ∀ {p : Addr} {ks : List D} {ys : List V}, x = .ref p → Dk H p ks ys → ks.length = ys.length → n = ks.length → wpAny (model X.prog X.w) X.A (call (.builtin "len") us) (EP X pins σ Q) X.xe sh := by
          intro p ks ys ex ⟨kk, ek, hp⟩ l en
          subst ex; subst en
          rw [← zip_len ek l] at q
          exact call_lenD pins sh σ H _ us Q I rv ⟨p, _, rfl, hp, q⟩
        split at hn
        · split at hn
          · rename_i z hz
            cases hn
            obtain rfl := w_str r1
            exact call_len pins sh σ H _ us Q I rv ⟨_, _, rfl, ⟨of_decide_eq_true hz, rfl⟩, q⟩
          · cases hn
        · cases hn
          rcases r1 with r1 | ⟨_, p, rfl, _, c⟩
          · simp only [RV] at r1
            obtain ⟨p, ys, ex, _, qq, l, _⟩ := r1
            exact dk ex qq l rfl
          · obtain ⟨ys, qq, l, _⟩ := c
            exact dk rfl qq l rfl
        · have r1 := r1.light rfl
          simp only [RV] at r1
          obtain ⟨p, ep, rfl⟩ := r1
          split at hn
          · rename_i ks vs ei
            cases hn
            obtain ⟨ys, qq, l, _⟩ := hs.at_ _ _ _ ei ep
            exact dk rfl qq l rfl
          · cases hn
        · cases hn
    · exact h.elim
  · exact h.elim
def absF : Fn := fun ds s => match ds with | [.int i] => .ok (.int (if i < 0 then -i else i)) s | _ => .bad
theorem qc_abs : CallR X (.builtin "abs") (rC (wd X) absF) := by
  intro pins sh σ H xs us Q I rv ⟨μ, s, ds, hs, r, W, σ', h⟩
  unfold absF at h
  split at h
  · obtain ⟨x, rfl, r1⟩ := r.inv1
    obtain rfl := w_int r1
    exact call_abs pins sh σ H _ us Q I rv ⟨_, rfl, rf_int h hs⟩
  · exact h.elim
def intF : Fn := fun ds s => match ds with | [.int i] => .ok (.int i) s | [.bl k] => .ok (.int (if k then 1 else 0)) s | _ => .bad
theorem qc_int : CallR X (.type "int") (rC (wd X) intF) := by
  intro pins sh σ H xs us Q I rv ⟨μ, s, ds, hs, r, W, σ', h⟩
  unfold intF at h
  split at h
  · obtain ⟨x, rfl, r1⟩ := r.inv1
    obtain rfl := w_int r1
    exact call_int1 pins sh σ H _ us Q I rv (.inl ⟨_, rfl, rf_int h hs⟩)
  · obtain ⟨x, rfl, r1⟩ := r.inv1
    obtain rfl := w_bl r1
    exact call_int1 pins sh σ H _ us Q I rv (.inr ⟨_, rfl, rf_int h hs⟩)
  · exact h.elim
/-- ints of a list -/
def intsOf : List D → Option (List Int)
  | [] => some []
  | .int b :: r => (intsOf r).map (b :: ·)
  | _ => none
theorem ints_rvs {g : Wd} {μ : M} {H : Hp} : ∀ {xs : List D} {vs : List V} {bs : List Int}, RVs g μ H xs vs → intsOf xs = some bs → vs = bs.map V.int
  | [], _, _, r, e => by simp only [RVs] at r; subst r; simp only [intsOf, Option.some.injEq] at e; subst e; rfl
  | d :: ds, _, _, r, e => by
    simp only [RVs] at r
    obtain ⟨y, r', rfl, a, b⟩ := r
    cases d <;> simp only [intsOf, reduceCtorEq, Option.map_eq_some_iff] at e
    obtain ⟨bs, e1, rfl⟩ := e
    simp only [RV] at a; subst a
    rw [ints_rvs b e1]; rfl
/-- bools of a list -/
def blsOf : List D → Option (List Bool)
  | [] => some []
  | .bl b :: r => (blsOf r).map (b :: ·)
  | _ => none
def allF : Fn := fun ds s => match ds with
  | [d] => match (lsOf s d).bind blsOf with | some bs => .ok (.bl (bs.all id)) s | none => .bad
  | _ => .bad
theorem bls_rvs {g : Wd} {μ : M} {H : Hp} : ∀ {xs : List D} {vs : List V} {bs : List Bool}, RVs g μ H xs vs → blsOf xs = some bs → vs = bs.map V.bl
  | [], _, _, r, e => by simp only [RVs] at r; subst r; simp only [blsOf, Option.some.injEq] at e; subst e; rfl
  | d :: ds, _, _, r, e => by
    simp only [RVs] at r
    obtain ⟨y, r', rfl, a, b⟩ := r
    cases d <;> simp only [blsOf, reduceCtorEq, Option.map_eq_some_iff] at e
    obtain ⟨bs, e1, rfl⟩ := e
    simp only [RV] at a; subst a
    rw [bls_rvs b e1]; rfl
theorem qc_all (hc : X.calm = true) : CallR X (.builtin "all") (rC (wd X) allF) := by
  intro pins sh σ H xs us Q I rv ⟨μ, s, ds, hs, r, W, σ', h⟩
  unfold allF at h
  split at h
  · obtain ⟨x, rfl, r1⟩ := r.inv1
    split at h
    · rename_i bs eb
      simp only [Option.bind_eq_some_iff] at eb
      obtain ⟨zs, e1, e2⟩ := eb
      obtain ⟨p, ys, rfl, q, rr⟩ := lsOf_sound hs r1 e1
      have := bls_rvs rr e2
      subst this
      exact cr_all hc pins sh σ H _ us Q I rv ⟨p, bs, rfl, q, rf_bl h hs⟩
    · exact h.elim
  · exact h.elim
end
end Fv

namespace Fv
open PySem PySem.Spec PyProof.Rows L2
/-! ### defs -/
structure Rm (k : Nat) (A : Around) : Prop where
  r : Room k A
  g : A.guards = some []
theorem Rm.mono {j k : Nat} {A : Around} (r : Rm k A) (h : j ≤ k) : Rm j A := ⟨r.r.mono h, r.g⟩
theorem Rm.units {k : Nat} {A : Around} (r : Rm k A) : A.units + 64 < cLine := r.r.units
theorem Rm.u1 {k : Nat} {A : Around} (r : Rm k A) : A.units + 1 < cLine := by have := r.r.units; omega
/-- the promise of a function of trees -/
def spF (g : Wd) (f : Fn) : Sp := fun vs H Q E => ∃ μ ds s, RVs g μ H ds vs ∧ Rs g μ H s ∧ runs g (fun c d _ H => E c d H) [] μ H (RV g) Q (f ds s)
/-- the def at fa keeps it -/
def FnG (P : Program) (w : World) (K : PySem.W.Frag) (mg : Str → Option Value) (base : Heap) (k : Nat) (fa : Addr) (sp : Sp) : Prop :=
  ∀ (A : Around) (outer : List PySem.Env) (s : Shared) (H : Hp) (us : List Value) (vs : List V) (Q : VK) (E : XK), Rm k A → Env0 P w K mg base A outer s H → Vals vs us → sp vs H Q E →
    codeAny (model P w) A (.call (.ref fa) ⟨us, []⟩) (CR (L2.CX P w) outer P w H s Q E) s
structure DefOk (P : Program) (w : World) (K : PySem.W.Frag) (mg : Str → Option Value) (base : Heap) (k : Nat) (x : Str) (f : Fn) : Prop where
  ex : ∃ fa, mg x = some (.ref fa) ∧ PySem.W.keepIn K (.ref fa) = true ∧ FnG P w K mg base k fa (spF ⟨K, mg, P, w⟩ f)
theorem FnG.mono {P : Program} {w : World} {K : PySem.W.Frag} {mg : Str → Option Value} {base : Heap} {j k : Nat} {fa : Addr} {sp : Sp} (c : FnG P w K mg base j fa sp) (h : j ≤ k) : FnG P w K mg base k fa sp := fun A outer s H us vs Q E r => c A outer s H us vs Q E (r.mono h)
theorem DefOk.mono {P : Program} {w : World} {K : PySem.W.Frag} {mg : Str → Option Value} {base : Heap} {j k : Nat} {x : Str} {f : Fn} (d : DefOk P w K mg base j x f) (h : j ≤ k) : DefOk P w K mg base k x f := by
  obtain ⟨fa, a, b, c⟩ := d.ex
  exact ⟨fa, a, b, c.mono h⟩
def fin (r : RS) : R D := match r with
  | .nx _ s => .ok .non s
  | .rt d s => .ok d s
  | .err c ns vs _ s => .err c ns vs s
  | _ => .bad
def vals (ds : List D) : En := ds.map fun d => some (.v d)
/-- a def by its body: n parameters, N names -/
def mkFn (n N : Nat) (body : C) : Fn := fun ds s => if decide (ds.length = n) then fin (body (vals ds ++ List.replicate (N - n) none) s) else .bad
/-- with a last starred parameter -/
def mkFnS (n N : Nat) (body : C) : Fn := fun ds s => if decide (n ≤ ds.length) && szl (ds.length - n) then
    fin (body (vals (ds.take n ++ [D.tup (ds.drop n)]) ++ List.replicate (N - (n + 1)) none) s)
  else .bad
section
variable {P : Program} {w : World} {K : PySem.W.Frag} {mg : Str → Option Value} {base : Heap} {k : Nat}
theorem ren_start {g : Wd} {Fr : Addr → Prop} {μ : M} {H : Hp} {N : List Str} {ds : List D} {vs : List V} {n : Nat} (r : RVs g μ H ds vs) (hn : N.length = n) : REn g Fr μ H (vals ds ++ List.replicate (n - ds.length) none) (L2.start N vs) := by
  unfold L2.start
  have at_ : ∀ {i : Nat} {sl : Sl}, (vals ds ++ List.replicate (n - ds.length) (none : Option Sl))[i]? = some (some sl) → ∃ d, sl = .v d ∧ ds[i]? = some d := by
    intro i sl e
    by_cases hi : i < ds.length
    · rw [List.getElem?_append_left (by simpa [vals] using hi)] at e
      simp only [vals, List.getElem?_map, Option.map_eq_some_iff] at e
      obtain ⟨d, e1, e2⟩ := e
      cases e2
      exact ⟨d, rfl, e1⟩
    · rw [List.getElem?_append_right (by simpa [vals] using Nat.le_of_not_lt hi), List.getElem?_replicate] at e
      split at e <;> cases e
  refine ⟨by simp [vals, r.length, hn], fun i d e => ?_, fun i d e => ?_, fun i j d e p e1 => ?_⟩
  · obtain ⟨d', e1, e2⟩ := at_ e
    cases e1
    obtain ⟨v, a, b⟩ := r.get e2
    exact ⟨v, by rw [List.getElem?_append_left (by rw [List.length_map]; exact (List.getElem?_eq_some_iff.mp a).1), List.getElem?_map, a]; rfl, b⟩
  · obtain ⟨d', e1, _⟩ := at_ e
    cases e1
  · obtain ⟨d', e1, _⟩ := at_ e1
    cases e1
theorem ex_call {μ μ' : M} {H H' : Hp} (x : Ex (fun p => H p = none) μ H μ' H') : Ex Fn0 μ H μ' H' :=
  ⟨x.pre, x.trk, x.tup, x.frz, fun p u e n _ => x.oth p u e n (.inr fun z => by rw [e] at z; cases z), x.zs, fun p h => (x.zn p h).elim .inl fun h => .inr (.inr (h.elim id id))⟩
theorem fin_sound {g : Wd} {μ : M} {H : Hp} {Q : VK} {E : XK} {r : RS} (h : runs g (fun c d _ H => E c d H) [] μ H (RV g) Q (fin r)) : runsS g (fun c d _ H => E c d H) (fun p => H p = none) μ H { nx := fun _ H' => Q .non H', rt := Q } r := by
  cases r with
  | nx ρ s => exact fun μ' H' σ' x y z => h μ' H' .non (ex_call x) y (by simp only [RV])
  | rt d s => exact fun μ' H' b x y z => h μ' H' b (ex_call x) y z
  | err c ns vs ρ s => exact fun μ' H' σ' C dx x y z => h μ' H' C dx (ex_call x) y
  | _ => exact (show False from h).elim
/-- THE RULE of a def -/
theorem def_g {x qual : Str} {st : Stmt} {fa : Addr} {fd : FuncData} {N ps : List Str} {n nN : Nat} {body : C} (F : Fun K x qual st fa fd) (S : FnScope N ps (defScope st)) (hnN : N.length = nN) (hn : ps.length = n)
    (hb : ∀ (s : Shared) (us : List Value), K.In s.heap → us.length = ps.length → BindsTo s fd ⟨us, []⟩ (ps.zip us))
    (hbody : ∀ (cdv : Value) (A : Around) (outer : List PySem.Env) (s : Shared) (H : Hp) (E : XK) (Fr : Addr → Prop), Rm k (A.deeper (envOfC qual (defScope st) s.heap.objs.size fa cdv)) →
      QSs (cxOf (L2.CX P w) P w K mg base N qual (defScope st) fa cdv A outer s H E) (fun c d _ H => E c d H) Fr (defBody st) body) : FnG P w K mg base (k + 1) fa (spF ⟨K, mg, P, w⟩ (mkFn n nN body)) := by
  intro A outer s H us vs Q E hr e0 r hsp
  obtain ⟨oc, od, kV, doc, pm, an, cdv, ct, osl, rfl, lk, hcd⟩ := F.ex
  obtain ⟨μ, ds, st', rr, hs, h⟩ := hsp
  unfold mkFn at h
  split at h
  · rename_i hl
    have hln : ds.length = n := of_decide_eq_true hl
    have hus : us.length = ps.length := by rw [← r.length, ← rr.length, hln, hn]
    have KX : K.In s.heap := e0.mod.kin.keeps fun b o e => (e0.bs b o e).1
    refine StX.run_bnd (E := E) lk hcd S hr.r e0 (G := fun xs H2 => xs = vs ∧ H2 = H) (fun A' Ex Q' hq => ?_) fun s2 H2 xs ⟨ex, eH⟩ hr' => ?_
    · exact hb s us KX hus _ A' _ _ (hq s H vs us e0 Un.refl rfl (fun _ _ z => z) r (by rw [← rr.length, hln, hn]) ⟨rfl, rfl⟩)
    · subst ex; subst eH
      refine ⟨_, hbody cdv A outer s2 _ E (fun p => H2 p = none) ⟨hr', hr.g⟩, μ, _, st', fun p e => e, ren_start rr hnN, hs, ?_⟩
      rw [hln]
      exact fin_sound h
  · exact h.elim
theorem defS_g {x qual : Str} {st : Stmt} {fa : Addr} {fd : FuncData} {N ps : List Str} {n nN : Nat} {pv : Str} {body : C} (F : Fun K x qual st fa fd) (S : FnScope N (ps ++ [pv]) (defScope st)) (hnN : N.length = nN) (hn : ps.length = n)
    (hb : ∀ (kV doc pm : Value) (an : Option Addr) (cdv ct : Value) (us rest : List Value), us.length = ps.length → bindArgs (PySem.W.fnOf x qual (defArgs st) (defBody st) (defScope st) .none kV doc pm an cdv ct) ⟨us ++ rest, []⟩ = (newTuple rest >>= fun t => pure (ps.zip us ++ [(pv, t)])))
    (hbody : ∀ (cdv : Value) (A : Around) (outer : List PySem.Env) (s : Shared) (H : Hp) (E : XK) (Fr : Addr → Prop), Rm k (A.deeper (envOfC qual (defScope st) s.heap.objs.size fa cdv)) →
      QSs (cxOf (L2.CX P w) P w K mg base N qual (defScope st) fa cdv A outer s H E) (fun c d _ H => E c d H) Fr (defBody st) body) : FnG P w K mg base (k + 1) fa (spF ⟨K, mg, P, w⟩ (mkFnS n nN body)) := by
  intro A outer s H us vs Q E hr e0 r hsp
  obtain ⟨oc, od, kV, doc, pm, an, cdv, ct, osl, rfl, lk, hcd⟩ := F.ex
  obtain ⟨μ, ds, st', rr, hs, h⟩ := hsp
  unfold mkFnS at h
  split at h
  · rename_i hl
    simp only [Bool.and_eq_true, decide_eq_true_eq] at hl
    have e1 := rr.take n
    have e2 := rr.drop n
    have r1 := r.take n
    have r2 := r.drop n
    have hus : (us.take n).length = ps.length := by rw [List.length_take, ← r.length, ← rr.length, hn]; omega
    have hvs : (vs.take n).length = ps.length := by rw [List.length_take, ← rr.length, hn]; omega
    have hz : (vs.drop n).length ≤ sizeLine := by rw [List.length_drop, ← rr.length]; exact of_decide_eq_true hl.2
    have hz2 : (us.drop n).length ≤ sizeLine := by rw [← r2.length]; exact hz
    have hf : H s.heap.objs.size = none := e0.hok.fresh (Nat.le_refl _)
    refine StX.run_bnd (E := E) lk hcd S hr.r e0 (G := fun xs H2 => ∃ p, H p = none ∧ xs = vs.take n ++ [.ref p] ∧ H2 = upd H p (.tup (vs.drop n))) (fun A' Ex Q' hq => ?_) fun s2 H2 xs hG hr' => ?_
    · have eu : us = us.take n ++ us.drop n := (List.take_append_drop n us).symm
      rw [eu, hb kV doc pm an cdv ct _ _ hus]
      refine wpAny_bind (wpAny_newTuple (wpAny_pure ?_) hz2)
      have ob : ObjOk P w (upd H s.heap.objs.size (.tup (vs.drop n))) (s.heap.push ({ cls := .type "tuple", data := .seq (us.drop n).toArray } : Obj)) s.heap.objs.size (.tup (vs.drop n)) := ⟨hz, us.drop n, r2, ⟨_, Heap.get?_push_size _ rfl, rfl, _, rfl⟩⟩
      have un := StX.un_laid (fs := frs outer) (s := s) (o := ({ cls := .type "tuple", data := .seq (us.drop n).toArray } : Obj)) (u := .tup (vs.drop n)) hf
      have fin := hq _ _ (vs.take n ++ [V.ref s.heap.objs.size]) (us.take n ++ [Value.ref s.heap.objs.size]) (StX.env0_laid e0 ob) un rfl (fun e s' => StX.cxUp outer s H _ _ E e s' un (fun b o q => Heap.get?_push_of_some _ q) rfl) (r1.append (.cons rfl .nil))
        (by rw [List.length_append, List.length_append, hvs] <;> rfl) ⟨_, hf, rfl, rfl⟩
      rw [List.zip_append hus.symm] at fin
      exact fin
    · obtain ⟨p, hp, ex, eH⟩ := hG
      subst ex; subst eH
      have hx : Ex Fn0 μ H μ (upd H p (.tup (vs.drop n))) := ex_new hp
      have rall : RVs ⟨K, mg, P, w⟩ μ (upd H p (.tup (vs.drop n))) (ds.take n ++ [.tup (ds.drop n)]) (vs.take n ++ [.ref p]) := (e1.mono hx).append (.one (rv_new hp e2))
      refine ⟨_, hbody cdv A outer s2 _ E (fun q => upd H p (.tup (vs.drop n)) q = none) ⟨hr', hr.g⟩, μ, _, st', fun p e => e, ren_start rall hnN, hs.new hp, ?_⟩
      have hlen : (ds.take n ++ [D.tup (ds.drop n)]).length = n + 1 := by simp; omega
      rw [hlen]
      exact fin_sound (runs_mono hx h)
  · exact h.elim
end
section
variable {X : Cx} {W : WX} {k : Nat} {x : Str} {f : Fn} {p pos : Pos} {e : Expr} {es : List Expr} {ms : As}
abbrev DefX (X : Cx) (k : Nat) (x : Str) (f : Fn) : Prop := DefOk X.prog X.w X.K X.mg X.base k x f
theorem run_def {fa : Addr} {pins : List (Addr × Obj)} {σ : L2.St} {H : Hp} {sh : Shared} {Q : VK} {us : List Value} {vs : List V} (F : FnG X.prog X.w X.K X.mg X.base k fa (spF (wd X) f)) (hr : Rm k X.A) (tk : Takes X W)
    (I : Inv X pins σ H sh) (r : Vals vs us) (h : spF (wd X) f vs H Q (fun c d H => W c d σ H)) : wpAny (model X.prog X.w) X.A (call (.ref fa) us) (EP X pins σ Q) X.xe sh := by
  refine wpAny_call (codeAny_mono (F X.A X.stack sh H us vs Q _ hr I.env0 r h) fun res s' hq => ?_)
  cases res with
  | error e => exact passAt tk σ pins H sh e s' I hq
  | ok fl =>
    cases fl with
    | ret u => exact I.after hq
    | next => exact False.elim hq
    | brk => exact False.elim hq
    | cont => exact False.elim hq
theorem spF_of {g : Wd} {σ : L2.St} {μ : M} {H : Hp} {s : S} {ds : List D} {vs : List V} {Q : VK} (r : RVs g μ H ds vs) (hs : Rs g μ H s) (h : runs g W σ μ H (RV g) Q (f ds s)) : spF g f vs H Q (fun c d H => W c d σ H) := by
  refine ⟨μ, ds, s, r, hs, ?_⟩
  cases q : f ds s with
  | ok a s' => rw [q] at h; exact h
  | err c ns vs s' => rw [q] at h; exact h
  | bad => rw [q] at h; exact h
theorem q_call (d : DefX X k x f) (hr : Rm k X.A) (tk : Takes X W) (ha : PA X (e :: es) (liftA (wd X) W ms)) (hg : Gl X x := by rfl) (hdb : (x == ("__debug__" : Str)) = false := by decide) (he : starEach (e :: es) X.env = (false, eval e X.env) :: starEach es X.env := by rfl)
    (hpl : (backTo pos (starEach es X.env)).any (·.1) = false := by rfl) : PE X (.Call (.Name x p) (e :: es) [] pos) (liftE (wd X) W (callE f ms)) := by
  obtain ⟨fa, hm, hk, F⟩ := d.ex
  refine ⟨fun pins sh σ H Q I ⟨Fr, μ, ρ, s, he', hs, h⟩ => ?_⟩
  refine wpAny_Call_Name_kw (ld_glob I hg hm ?_ hdb)
  have hq : liftA (wd X) W ms σ H fun vs H1 => spF (wd X) f vs H1 Q (fun c d H => W c d σ H) := ⟨Fr, μ, ρ, s, he', hs, runs_bind (Rel1 := RVs (wd X)) h fun ds s1 μ1 H1 vs e1 x1 hs1 r1 h1 => spF_of r1 hs1 h1⟩
  exact PySem.W.callWith_K (h₀ := X.base) I.ok.mod.kin hk (thn (ha.run pos pins sh σ H _ I hq) fun us s1 ⟨vs, H1, I1, r, q⟩ => ⟨I1.kIn, run_def F hr tk I1 r q⟩) he hpl
theorem q_call0 (d : DefX X k x f) (hr : Rm k X.A) (tk : Takes X W) (hg : Gl X x := by rfl) (hdb : (x == ("__debug__" : Str)) = false := by decide) : PE X (.Call (.Name x p) [] [] pos) (liftE (wd X) W (callE f nilA)) := by
  obtain ⟨fa, hm, hk, F⟩ := d.ex
  refine ⟨fun pins sh σ H Q I ⟨Fr, μ, ρ, s, he', hs, h⟩ => ?_⟩
  refine wpAny_Call_Name_kw (ld_glob I hg hm ?_ hdb)
  exact PySem.W.callWith_K0 I.kIn hk (run_def F hr tk I .nil (spF_of (ds := []) (by simp only [RVs]) hs h))
end
/-! ### what is walked -/
def allK : S → Bool := fun _ => true
open Classical in
noncomputable def keepL (a : Nat) (xs : List D) : S → Bool := fun s => decide (s[a]? = some (.lst xs))
noncomputable def iterD (d : D) (s : S) : R It := match d with
  | .tup xs => .ok ⟨xs, allK⟩ s
  | .ktup xs => .ok ⟨xs, allK⟩ s
  | .lst xs => .ok ⟨xs, allK⟩ s
  | .fl xs => .ok ⟨xs, allK⟩ s
  | .ref a => match s[a]? with | some (.lst xs) => .ok ⟨xs, keepL a xs⟩ s | _ => .bad
  | .str z => .ok ⟨z.cps.toList.map fun c => .str (ch c), allK⟩ s
  | _ => .bad
noncomputable def iterE (e : E) : Is := fun ρ s => (e ρ s).bind iterD
def intsL (lo : Int) (n : Nat) : List D := (List.range n).map fun i => .int (lo + (i : Nat))
def small62 (i : Int) : Bool := decide (-(2 ^ 62) ≤ i ∧ i < 2 ^ 62)
def range1 (a : E) : Is := fun ρ s => (a ρ s).bind fun d s => match d with | .int j => if small62 j then .ok ⟨intsL 0 j.toNat, allK⟩ s else .bad | _ => .bad
def range2 (a b : E) : Is := fun ρ s => (a ρ s).bind fun d s => (b ρ s).bind fun e s => match d, e with | .int i, .int j => if small62 i && small62 j then .ok ⟨intsL i (j - i).toNat, allK⟩ s else .bad | _, _ => .bad
section
variable {X : Cx} {W : WX} {Fr : Addr → Prop} {pos p : Pos} {tg e a b : Expr} {m ma mb : E}
theorem pi_or {tg iter : Expr} {t1 t2 : TI} (h1 : PI X tg iter t1) (h2 : PI X tg iter t2) : PI X tg iter (fun σ H Q => t1 σ H Q ∨ t2 σ H Q) := ⟨fun pins s σ H Q I q => q.elim (h1.run pins s σ H Q I) (h2.run pins s σ H Q I)⟩
theorem itr_ints {g : Wd} {μ : M} {H : Hp} {lo : Int} {n : Nat} : ItR g Fr μ H (Itr lo n) ⟨intsL lo n, allK⟩ := by
  intro μ1 H1 s x hs _ i
  have hl : (intsL lo n).length = n := by simp [intsL]
  refine ⟨fun d e => ?_, fun h => by rw [hl] at h; exact h⟩
  have hi : i < n := by have := (List.getElem?_eq_some_iff.mp e).1; rw [hl] at this; exact this
  have ed : d = .int (lo + (i : Nat)) := by
    simp only [intsL, List.getElem?_map, List.getElem?_range hi, Option.map_some, Option.some.injEq] at e
    exact e.symm
  subst ed
  exact ⟨hi, fun x H' ⟨e1, e2⟩ => by subst e1; subst e2; exact ⟨μ1, Ex.refl, hs, by simp only [RV]⟩⟩
theorem qi_range1 (ha : PE X a (liftB (wd X) W ma)) (hm : X.mg "range" = none) (hg : Gl X "range" := by rfl) (hs : starEach [a] X.env = [(false, eval a X.env)] := by rfl) (hs2 : starEach (a :: []) X.env = (false, eval a X.env) :: starEach [] X.env := by rfl) :
    QI X W Fr tg (.Call (.Name "range" p) [a] [] pos) (range1 ma) :=
  pi_imp (pi_range1 hg hm (qab_cons ha qab_nil hs2) hs) fun σ H Q ⟨F0, μ, ρ, s, he, hs, h⟩ => ⟨F0, μ, ρ, s, he, hs, by
    have h' : runs (wd X) W σ μ H (fun μ' H' a J => ItR (wd X) Fr μ' H' J a) Q ((consA ma nilA ρ s).bind fun ds s => match ds with | [.int j] => if small62 j then .ok ⟨intsL 0 j.toNat, allK⟩ s else .bad | _ => .bad) := by
      simp only [consA, nilA, R.bind]
      simp only [range1] at h
      cases q : ma ρ s with
      | ok d s' => rw [q] at h; cases d <;> exact h
      | err c ns vs s' => rw [q] at h; exact h
      | bad => rw [q] at h; exact h
    refine runs_bind (Rel1 := RWs (wd X)) h' fun ds s1 μ1 H1 vs e1 x1 hs1 r1 h1 => ?_
    split at h1
    · rename_i j
      obtain ⟨x, rfl, r2⟩ := r1.inv1
      obtain rfl := w_int r2
      split at h1
      · rename_i hz
        have hz := of_decide_eq_true (p := _ ∧ _) hz
        exact ⟨j, rfl, hz.1, hz.2, runs_pure h1 hs1 itr_ints⟩
      · exact h1.elim
    · exact h1.elim⟩
theorem qi_range2 (ha : PE X a (liftB (wd X) W ma)) (hb : PE X b (liftB (wd X) W mb)) (hm : X.mg "range" = none) (hg : Gl X "range" := by rfl) (hs : starEach [a, b] X.env = [(false, eval a X.env), (false, eval b X.env)] := by rfl) (hs2 : starEach [b] X.env = [(false, eval b X.env)] := by rfl)
    (hs3 : starEach (a :: [b]) X.env = (false, eval a X.env) :: starEach [b] X.env := by rfl) (hs4 : starEach (b :: []) X.env = (false, eval b X.env) :: starEach [] X.env := by rfl) :
    QI X W Fr tg (.Call (.Name "range" p) [a, b] [] pos) (range2 ma mb) :=
  pi_imp (pi_range2 hg hm (qab_cons ha (qab_cons hb qab_nil hs4) hs3) hs hs2) fun σ H Q ⟨F0, μ, ρ, s, he, hs, h⟩ => ⟨F0, μ, ρ, s, he, hs, by
    have h' : runs (wd X) W σ μ H (fun μ' H' a J => ItR (wd X) Fr μ' H' J a) Q ((consA ma (consA mb nilA) ρ s).bind fun ds s => match ds with | [.int i, .int j] => if small62 i && small62 j then .ok ⟨intsL i (j - i).toNat, allK⟩ s else .bad | _ => .bad) := by
      simp only [consA, nilA]
      simp only [range2] at h
      cases q : ma ρ s with
      | ok d s' =>
        rw [q] at h
        simp only [R.bind] at h ⊢
        cases q2 : mb ρ s' with
        | ok d2 s2 =>
          rw [q2] at h
          cases d <;> cases d2 <;> exact h
        | err c ns vs s' => rw [q2] at h; exact h
        | bad => rw [q2] at h; exact h
      | err c ns vs s' => rw [q] at h; exact h
      | bad => rw [q] at h; exact h
    refine runs_bind (Rel1 := RWs (wd X)) h' fun ds s1 μ1 H1 vs e1 x1 hs1 r1 h1 => ?_
    split at h1
    · rename_i i j
      obtain ⟨x, y, rfl, r2, r3⟩ := r1.inv2
      obtain rfl := w_int r2; obtain rfl := w_int r3
      split at h1
      · rename_i hz
        simp only [Bool.and_eq_true] at hz
        have hz1 := of_decide_eq_true (p := _ ∧ _) hz.1
        have hz2 := of_decide_eq_true (p := _ ∧ _) hz.2
        exact ⟨i, j, rfl, ⟨hz1.1, hz1.2, hz2.1, hz2.2⟩, runs_pure h1 hs1 itr_ints⟩
      · exact h1.elim
    · exact h1.elim⟩
/-- a walk's items, wherever what is walked stands as it did -/
theorem itl_of {g : Wd} {μ : M} {H : Hp} {p : Addr} {xs : List D} {keep : S → Bool} (h : ∀ μ1 H1 s, Ex Fr μ H μ1 H1 → Rs g μ1 H1 s → keep s = true → ∃ ys, SqL g.K H1 p ys ∧ RVs g μ1 H1 xs ys) : ItR g Fr μ H (Itl g.K p) ⟨xs, keep⟩ := by
  intro μ1 H1 s x hs hk i
  obtain ⟨ys, q, rr⟩ := h μ1 H1 s x hs hk
  refine ⟨fun d ed => ?_, fun hl => ⟨ys, q, by rw [← rr.length]; exact hl⟩⟩
  obtain ⟨v, e1, e2⟩ := rr.get ed
  exact ⟨⟨ys, v, q, e1⟩, fun y H' ⟨e3, e4⟩ => by
    subst e3
    have := e4 ys q
    rw [e1] at this; cases this
    exact ⟨μ1, Ex.refl, hs, e2⟩⟩
theorem itt_of {g : Wd} {μ : M} {H : Hp} {p : Addr} {xs : List D} {keep : S → Bool} (h : ∀ μ1 H1 s, Ex Fr μ H μ1 H1 → Rs g μ1 H1 s → keep s = true → ∃ ys, SqT g.K H1 p ys ∧ RVs g μ1 H1 xs ys) : ItR g Fr μ H (Itt g.K p) ⟨xs, keep⟩ := by
  intro μ1 H1 s x hs hk i
  obtain ⟨ys, q, rr⟩ := h μ1 H1 s x hs hk
  refine ⟨fun d ed => ?_, fun hl => ⟨ys, q, by rw [← rr.length]; exact hl⟩⟩
  obtain ⟨v, e1, e2⟩ := rr.get ed
  exact ⟨⟨ys, v, q, e1⟩, fun y H' ⟨e3, e4⟩ => by
    subst e3
    have := e4 ys q
    rw [e1] at this; cases this
    exact ⟨μ1, Ex.refl, hs, e2⟩⟩
theorem its_of {g : Wd} {μ : M} {H : Hp} {z : Str} : ItR g Fr μ H (Its z) ⟨z.cps.toList.map fun c => .str (ch c), allK⟩ := by
  intro μ2 H2 s2 x2 hs2 hk i
  refine ⟨fun d ed => ?_, fun hl => (show z.cps.size ≤ i by simpa using hl)⟩
  simp only [List.getElem?_map, Option.map_eq_some_iff] at ed
  obtain ⟨c, ec, rfl⟩ := ed
  have ec' : z.cps[i]? = some c := by simpa using ec
  refine ⟨(Array.getElem?_eq_some_iff.mp ec').1, fun y H' ⟨e3, c', e4, e5⟩ => ?_⟩
  subst e3
  rw [ec'] at e4; cases e4
  subst e5
  exact ⟨μ2, Ex.refl, hs2, by simp only [RV, ch]⟩
/-- what iterD gives, and how it is walked -/
theorem iter_sound {g : Wd} {μ : M} {H : Hp} {s : S} {d : D} {x : V} {Q : L2.It → Hp → Prop} {σ : L2.St} (hs : Rs g μ H s) (r : RV g μ H d x) (h : runs g W σ μ H (fun μ' H' a J => ItR g Fr μ' H' J a) Q (iterD d s)) :
    (∃ a, x = .ref a ∧ (∃ xs, SqL g.K H a xs) ∧ Q (Itl g.K a) H) ∨ (∃ a, x = .ref a ∧ (∃ xs, SqT g.K H a xs) ∧ Q (Itt g.K a) H) ∨ ∃ z, x = .str z ∧ Q (Its z) H := by
  cases d with
  | tup zs =>
    have r0 := r
    simp only [RV] at r
    obtain ⟨pp, ys, rfl, q, rr⟩ := r
    refine .inr (.inl ⟨pp, rfl, ⟨ys, SqT.of q⟩, runs_pure (show runs g W σ μ H (fun μ' H' a J => ItR g Fr μ' H' J a) Q (.ok ⟨zs, allK⟩ s) from h) hs (itt_of fun μ1 H1 s1 x1 hs1 _ => ?_)⟩)
    exact ⟨ys, SqT.of (x1.tup _ _ q), rr.mono x1⟩
  | ktup zs =>
    simp only [RV] at r
    obtain ⟨pp, ys, rfl, q, rr⟩ := r
    refine .inr (.inl ⟨pp, rfl, ⟨ys, q H⟩, runs_pure (show runs g W σ μ H (fun μ' H' a J => ItR g Fr μ' H' J a) Q (.ok ⟨zs, allK⟩ s) from h) hs (itt_of fun μ1 H1 s1 x1 hs1 _ => ?_)⟩)
    exact ⟨ys, q H1, rr.mono x1⟩
  | lst zs =>
    simp only [RV] at r
    obtain ⟨pp, ys, rfl, z, q, rr⟩ := r
    refine .inl ⟨pp, rfl, ⟨ys, .inl (.inl q)⟩, runs_pure (show runs g W σ μ H (fun μ' H' a J => ItR g Fr μ' H' J a) Q (.ok ⟨zs, allK⟩ s) from h) hs (itl_of fun μ1 H1 s1 x1 hs1 _ => ?_)⟩
    exact ⟨ys, .inl (.inl (x1.z z q)), rr.mono x1⟩
  | fl zs =>
    simp only [RV] at r
    obtain ⟨pp, ys, rfl, q, rr⟩ := r
    refine .inl ⟨pp, rfl, ⟨ys, q.sq⟩, runs_pure (show runs g W σ μ H (fun μ' H' a J => ItR g Fr μ' H' J a) Q (.ok ⟨zs, allK⟩ s) from h) hs (itl_of fun μ1 H1 s1 x1 hs1 _ => ?_)⟩
    exact ⟨ys, (x1.sqf q).sq, rr.mono x1⟩
  | ref a =>
    simp only [RV] at r
    obtain ⟨pp, ep, rfl⟩ := r
    simp only [iterD] at h
    split at h
    · rename_i zs ei
      obtain ⟨ys, q, rr⟩ := hs.at_ _ _ _ ei ep
      refine .inl ⟨pp, rfl, ⟨ys, .inl (.inl q)⟩, runs_pure h hs (itl_of fun μ1 H1 s1 x1 hs1 hk => ?_)⟩
      have hk : s1[a]? = some (.lst zs) := by simpa [keepL] using hk
      obtain ⟨ys1, q1, rr1⟩ := hs1.at_ _ _ _ hk (x1.get ep)
      exact ⟨ys1, .inl (.inl q1), rr1⟩
    · exact h.elim
  | str z =>
    simp only [RV] at r
    exact .inr (.inr ⟨z, r, runs_pure (show runs g W σ μ H (fun μ' H' a J => ItR g Fr μ' H' J a) Q (.ok ⟨z.cps.toList.map fun c => .str (ch c), allK⟩ s) from h) hs its_of⟩)
  | _ => exact h.elim
/-- in a comprehension also what a slot alone holds -/
theorem iter_soundB {g : Wd} {μ : M} {H : Hp} {s : S} {d : D} {x : V} {Q : L2.It → Hp → Prop} {σ : L2.St} (hs : Rs g μ H s) (r : RW g μ H d x) (h : runs g W σ μ H (fun μ' H' a J => ItR g Fn0 μ' H' J a) Q (iterD d s)) :
    (∃ a, x = .ref a ∧ (∃ xs, SqL g.K H a xs) ∧ Q (Itl g.K a) H) ∨ (∃ a, x = .ref a ∧ (∃ xs, SqT g.K H a xs) ∧ Q (Itt g.K a) H) ∨ ∃ z, x = .str z ∧ Q (Its z) H := by
  rcases r with r | ⟨hd, p, rfl, hm, c⟩
  · exact iter_sound hs r h
  · cases d with
    | lst zs =>
      obtain ⟨ys, q, rr⟩ := c
      refine .inl ⟨p, rfl, ⟨ys, .inl (.inl q)⟩, runs_pure (show runs g W σ μ H (fun μ' H' a J => ItR g Fn0 μ' H' J a) Q (.ok ⟨zs, allK⟩ s) from h) hs (itl_of fun μ1 H1 s1 x1 hs1 _ => ?_)⟩
      exact ⟨ys, .inl (.inl (x1.oth _ _ q hm (.inr id))), rr.mono x1⟩
    | dct _ _ => exact h.elim
    | dtt _ _ => exact h.elim
    | set _ => exact h.elim
    | obj _ _ _ => exact h.elim
    | _ => cases hd
theorem iter_err {g : Wd} {μ : M} {H : Hp} {Q : L2.It → Hp → Prop} {σ : L2.St} {r : R D} {Rel : M → Hp → D → V → Prop} {Q1 : VK} (h : runs g W σ μ H (fun μ' H' a J => ItR g Fr μ' H' J a) Q (r.bind iterD)) (k : ∀ d s1 μ1 H1 v, r = .ok d s1 → Ex Fn0 μ H μ1 H1 → Rs g μ1 H1 s1 → Rel μ1 H1 d v → runs g W σ μ1 H1 (fun μ' H' a J => ItR g Fr μ' H' J a) Q (iterD d s1) → Q1 v H1) : runs g W σ μ H Rel Q1 r := runs_bind h k
/-- three ways of one walk -/
theorem pi_three {te : TE} (he : PE X e te) : PI X tg e (fun σ H R => te σ H fun x H1 => (∃ a, x = .ref a ∧ (∃ xs, SqL X.K H1 a xs) ∧ R (Itl X.K a) H1) ∨ (∃ a, x = .ref a ∧ (∃ xs, SqT X.K H1 a xs) ∧ R (Itt X.K a) H1) ∨ ∃ z, x = .str z ∧ R (Its z) H1) := by
  refine ⟨fun pins s σ H R I h => ?_⟩
  refine thn (he.run pins s σ H _ I h) fun v s1 ⟨y, H1, I1, r1, q⟩ => ?_
  rcases q with ⟨a, rfl, ⟨xs, hq⟩, q⟩ | ⟨a, rfl, ⟨xs, hq⟩, q⟩ | ⟨z, rfl, q⟩
  · obtain rfl : v = Value.ref a := r1
    obtain ⟨its, _, pl, _⟩ := I1.list hq
    exact wpAny_pyIter_list (pl).isList (pi_one (tk := s1.toks) I1 _ (turn_list a _) ⟨_, Heap.get?_push_size _ rfl, rfl, rfl⟩ q)
  · obtain rfl : v = Value.ref a := r1
    obtain ⟨its, _, pl, _⟩ := I1.tuple hq
    exact wpAny_pyIter_tuple (show s1.heap.IsTuple a _ from pl) (pi_one (tk := s1.toks) I1 _ (turn_tuple a _) ⟨_, Heap.get?_push_size _ rfl, rfl, rfl⟩ q)
  · obtain ⟨t, rfl⟩ := r1
    cases hw : z.cps.all (· < 128)
    · exact wpAny_pyIter_wide hw (pi_one (tk := s1.toks) I1 _ (turn_str _ z t _ (.inr rfl)) ⟨_, Heap.get?_push_size _ rfl, rfl, rfl⟩ q)
    · exact wpAny_pyIter_ascii hw (pi_one (tk := s1.toks) I1 _ (turn_str _ z t _ (.inl rfl)) ⟨_, Heap.get?_push_size _ rfl, rfl, rfl⟩ q)
theorem qi_val (he : PE X e (liftE (wd X) W m)) : QI X W Fr tg e (iterE m) :=
  pi_imp (pi_three he) fun σ H Q ⟨F0, μ, ρ, s, hρ, hs, h⟩ => ⟨F0, μ, ρ, s, hρ, hs, runs_bind (Rel1 := RV (wd X)) h fun d s1 μ1 H1 x e1 x1 hs1 r1 h1 => iter_sound hs1 r1 h1⟩
theorem qi_bor (he : PE X e (liftB (wd X) W m)) : QI X W Fn0 tg e (iterE m) :=
  pi_imp (pi_three he) fun σ H Q ⟨F0, μ, ρ, s, hρ, hs, h⟩ => ⟨F0, μ, ρ, s, hρ, hs, runs_bind (Rel1 := RW (wd X)) h fun d s1 μ1 H1 x e1 x1 hs1 r1 h1 => iter_soundB hs1 r1 h1⟩
/-! ### zip, enumerate -/
noncomputable def pairs (xs ys : List D) : List D := (xs.zip ys).map fun p => .tup [p.1, p.2]
noncomputable def zipI (a : As) : Is := fun ρ s => (a ρ s).bind fun ds s => match ds with
  | [x, y] => match tupOf x, tupOf y with
    | some xs, some ys => .ok ⟨pairs xs ys, allK⟩ s
    | _, _ => match x, y with
      | .lst xs, .lst ys => .ok ⟨pairs xs ys, allK⟩ s
      | _, _ => .bad
  | _ => .bad
noncomputable def enumI (a : As) : Is := fun ρ s => (a ρ s).bind fun ds s => match ds with
  | [.lst xs] => .ok ⟨pairs (intsL 0 xs.length) xs, allK⟩ s
  | _ => .bad
/-- what stands as it does in any later state -/
def Stay (g : Wd) (Fr : Addr → Prop) (μ : M) (H : Hp) (Sq : Hp → List V → Prop) (xs : List D) : Prop := ∀ μ1 H1 s, Ex Fr μ H μ1 H1 → Rs g μ1 H1 s → ∃ ys, Sq H1 ys ∧ RVs g μ1 H1 xs ys
theorem pairs_get {xs ys : List D} {i : Nat} {d : D} (h : (pairs xs ys)[i]? = some d) : ∃ a b, xs[i]? = some a ∧ ys[i]? = some b ∧ d = .tup [a, b] := by
  simp only [pairs, List.getElem?_map, Option.map_eq_some_iff] at h
  obtain ⟨p, h1, rfl⟩ := h
  rw [List.getElem?_zip_eq_some] at h1
  exact ⟨p.1, p.2, h1.1, h1.2, rfl⟩
theorem pair_new {g : Wd} {μ : M} {H : Hp} {s : S} {T : Addr} {a b : D} {x y : V} (hs : Rs g μ H s) (hT : H T = none) (ra : RV g μ H a x) (rb : RV g μ H b y) : ∃ μ', Ex Fn0 μ H μ' (upd H T (.tup [x, y])) ∧ Rs g μ' (upd H T (.tup [x, y])) s ∧ RV g μ' (upd H T (.tup [x, y])) (.tup [a, b]) (.ref T) :=
  ⟨μ, ex_new hT, hs.new hT, rv_new hT ⟨x, [y], rfl, ra, y, [], rfl, rb, rfl⟩⟩
theorem zip_it {g : Wd} {μ : M} {H : Hp} {J : L2.It} {xs ys : List D} {A B : Hp → List V → Prop} (hx : Stay g Fr μ H A xs) (hy : Stay g Fr μ H B ys)
    (go : ∀ i H, (∃ (xs ys : List V) (x y : V), A H xs ∧ B H ys ∧ xs[i]? = some x ∧ ys[i]? = some y) → J.go i H)
    (yld : ∀ i H v H', J.yld i H v H' → ∃ T x y, v = .ref T ∧ H T = none ∧ H' = upd H T (.tup [x, y]) ∧ (∀ xs, A H xs → xs[i]? = some x) ∧ ∀ ys, B H ys → ys[i]? = some y)
    (stop : ∀ i H, (∃ xs ys : List V, A H xs ∧ B H ys ∧ (xs.length ≤ i ∨ ys.length ≤ i)) → J.stop i H) : ItR g Fr μ H J ⟨pairs xs ys, allK⟩ := by
  intro μ1 H1 s x1 hs hk i
  obtain ⟨vs, a1, r1⟩ := hx μ1 H1 s x1 hs
  obtain ⟨us, b1, r2⟩ := hy μ1 H1 s x1 hs
  refine ⟨fun d ed => ?_, fun hl => stop i H1 ⟨vs, us, a1, b1, ?_⟩⟩
  · obtain ⟨a, b, ea, eb, rfl⟩ := pairs_get ed
    obtain ⟨v, ev, rv⟩ := r1.get ea
    obtain ⟨u, eu, ru⟩ := r2.get eb
    refine ⟨go i H1 ⟨vs, us, v, u, a1, b1, ev, eu⟩, fun z H' hy => ?_⟩
    obtain ⟨T, x, y, rfl, hT, rfl, k1, k2⟩ := yld i H1 z H' hy
    have e1 := k1 vs a1
    rw [ev] at e1; cases e1
    have e2 := k2 us b1
    rw [eu] at e2; cases e2
    exact pair_new hs hT rv ru
  · have hl : (pairs xs ys).length ≤ i := hl
    simp only [pairs, List.length_map, List.length_zip] at hl
    rw [← r1.length, ← r2.length]
    omega
theorem stay_tup {g : Wd} {μ : M} {H : Hp} {d : D} {xs : List D} {x : V} (r : RV g μ H d x) (e : tupOf d = some xs) : ∃ p ys, x = .ref p ∧ SqT g.K H p ys ∧ Stay g Fr μ H (fun H => SqT g.K H p) xs := by
  cases d <;> simp only [tupOf, Option.some.injEq, reduceCtorEq] at e <;> subst e <;> simp only [RV] at r <;> obtain ⟨p, ys, rfl, q, rr⟩ := r
  · exact ⟨p, ys, rfl, SqT.of q, fun μ1 H1 s1 x1 _ => ⟨ys, SqT.of (x1.tup _ _ q), rr.mono x1⟩⟩
  · exact ⟨p, ys, rfl, q H, fun μ1 H1 s1 x1 _ => ⟨ys, q H1, rr.mono x1⟩⟩
theorem stay_lst {g : Wd} {μ : M} {H : Hp} {xs : List D} {x : V} (r : RV g μ H (.lst xs) x) : ∃ p ys, x = .ref p ∧ SqL g.K H p ys ∧ ys.length = xs.length ∧ Stay g Fr μ H (fun H => SqL g.K H p) xs := by
  simp only [RV] at r
  obtain ⟨p, ys, rfl, z, q, rr⟩ := r
  exact ⟨p, ys, rfl, .inl (.inl q), rr.length.symm, fun μ1 H1 s1 x1 _ => ⟨ys, .inl (.inl (x1.z z q)), rr.mono x1⟩⟩
theorem qi_zip {e2 : Expr} {ms : As} {tpos : Pos} {elts : List Expr} {kk : Nat} (ha : PA X [e, e2] (liftA (wd X) W ms)) (hm : X.mg "zip" = none) (hg : Gl X "zip" := by rfl)
    (hs : starEach [e, e2] X.env = (false, eval e X.env) :: starEach [e2] X.env := by rfl) (hpl : (backTo pos (starEach [e2] X.env)).any (·.1) = false := by rfl) : QI X W Fr (.Tuple elts kk tpos) (.Call (.Name "zip" p) [e, e2] [] pos) (zipI ms) :=
  pi_imp (RZ.pi_zipA hg hm ha hs hpl) fun σ H Q ⟨F0, μ, ρ, s, hρ, hs, h⟩ => ⟨F0, μ, ρ, s, hρ, hs, runs_bind (Rel1 := RVs (wd X)) h fun ds s1 μ1 H1 xs e1 x1 hs1 r1 h1 => by
    split at h1
    · rename_i x y
      obtain ⟨v, u, rfl, rx, ry⟩ := r1.inv2
      split at h1
      · rename_i xs ys ex ey
        obtain ⟨p, vs, rfl, q1, s1'⟩ := stay_tup (Fr := Fr) rx ex
        obtain ⟨q, us, rfl, q2, s2'⟩ := stay_tup (Fr := Fr) ry ey
        exact ⟨p, q, vs, us, rfl, .inr ⟨q1, q2, runs_pure h1 hs1 (zip_it s1' s2' (fun _ _ z => z) (fun _ _ _ _ z => z) fun _ _ z => z)⟩⟩
      · split at h1
        · obtain ⟨p, vs, rfl, q1, _, s1'⟩ := stay_lst (Fr := Fr) rx
          obtain ⟨q, us, rfl, q2, _, s2'⟩ := stay_lst (Fr := Fr) ry
          exact ⟨p, q, vs, us, rfl, .inl ⟨q1, q2, runs_pure h1 hs1 (zip_it s1' s2' (fun _ _ z => z) (fun _ _ _ _ z => z) fun _ _ z => z)⟩⟩
        · exact h1.elim
    · exact h1.elim⟩
theorem qi_enum {ms : As} {tpos : Pos} {elts : List Expr} {kk : Nat} (ha : PA X [e] (liftA (wd X) W ms)) (hm : X.mg "enumerate" = none) (hg : Gl X "enumerate" := by rfl) (hs : starEach [e] X.env = [(false, eval e X.env)] := by rfl) :
    QI X W Fr (.Tuple elts kk tpos) (.Call (.Name "enumerate" p) [e] [] pos) (enumI ms) :=
  pi_imp (pi_enum hg hm ha hs) fun σ H Q ⟨F0, μ, ρ, s, hρ, hs, h⟩ => ⟨F0, μ, ρ, s, hρ, hs, runs_bind (Rel1 := RVs (wd X)) h fun ds s1 μ1 H1 xs e1 x1 hs1 r1 h1 => by
    split at h1
    · rename_i xs
      obtain ⟨v, rfl, rx⟩ := r1.inv1
      obtain ⟨p, vs, rfl, q1, l1, s1'⟩ := stay_lst (Fr := Fr) rx
      refine ⟨p, vs, rfl, q1, runs_pure h1 hs1 ?_⟩
      intro μ2 H2 s2 x2 hs2 hk i
      obtain ⟨ys, a1, r2⟩ := s1' μ2 H2 s2 x2 hs2
      refine ⟨fun d ed => ?_, fun hl => ⟨ys, a1, ?_⟩⟩
      · obtain ⟨a, b, ea, eb, rfl⟩ := pairs_get ed
        obtain ⟨v, ev, rv⟩ := r2.get eb
        refine ⟨⟨ys, v, a1, ev⟩, fun z H' ⟨T, x, ez, hT, eH, k⟩ => ?_⟩
        subst ez; subst eH
        have e2 := k ys a1
        rw [ev] at e2; cases e2
        have ea' : a = .int (i : Nat) := by
          have hi : i < xs.length := (List.getElem?_eq_some_iff.mp eb).1
          simp only [intsL, List.getElem?_map, List.getElem?_range hi, Option.map_some, Option.some.injEq] at ea
          rw [← ea]; simp
        subst ea'
        exact pair_new hs2 hT (by simp only [RV]) rv
      · have hl : (pairs (intsL 0 xs.length) xs).length ≤ i := hl
        simp only [pairs, List.length_map, List.length_zip, intsL, List.length_range, Nat.min_self] at hl
        show ys.length ≤ i
        rw [← r2.length]; exact hl
    · exact h1.elim⟩
end
end Fv

namespace Fv
open PySem PySem.Spec PyProof.Rows L2
/-! ### methods of built-in types -/
def isTyD (T : String) (d : D) (s : S) : Bool := match d with
  | .str _ => T == "str"
  | .int _ => T == "int"
  | .dct _ _ => T == "dict"
  | .dtt _ _ => T == "dict"
  | .ref a => (T == "dict" && (match s[a]? with | some (.dct _ _) => true | some (.dtt _ _) => true | _ => false)) || (T == "list" && (lsOf s d).isSome)
  | d => T == "list" && (lsOf s d).isSome
def methE (T : String) (f : Fn) (o : E) (a : As) : E := fun ρ s => (o ρ s).bind fun d s => if isTyD T d s then (a ρ s).bind fun ds s => f (d :: ds) s else .bad
def rM (g : Wd) (f : Fn) : V → List V → Hp → VK → Prop := fun x xs H Q => ∃ μ s d ds, Rs g μ H s ∧ RW g μ H d x ∧ RWs g μ H ds xs ∧ ∃ W σ, runs g W σ μ H (RF g H) Q (f (d :: ds) s)
abbrev QM (X : Cx) (id : String) (f : Fn) : Prop := MtR X id (rM (wd X) f)
section
variable {X : Cx} {W : WX} {pos apos : Pos} {o e : Expr} {es : List Expr} {mo m : E} {ms : As} {T : String} {name : Str} {id : String} {f : Fn}
theorem isTyD_sound {g : Wd} {μ : M} {H : Hp} {s : S} {d : D} {x : V} (hs : Rs g μ H s) (r : RW g μ H d x) (h : isTyD T d s = true) : tyV g.K T x H := by
  have lst : (T == "list" && (lsOf s d).isSome) = true → tyV g.K T x H := fun h => by
    simp only [Bool.and_eq_true, beq_iff_eq] at h
    obtain ⟨xs, ex⟩ := Option.isSome_iff_exists.mp h.2
    obtain ⟨p, ys, rfl, q, _⟩ := lsOf_sound hs r ex
    exact .inl ⟨h.1, ys, q⟩
  cases d with
  | str z => obtain rfl := w_str r; simpa [isTyD, tyV] using h
  | int z => obtain rfl := w_int r; simpa [isTyD, tyV] using h
  | dct ks vs =>
    simp only [isTyD, beq_iff_eq] at h
    rcases r with r | ⟨_, p, rfl, _, c⟩
    · simp only [RV] at r
      obtain ⟨p, ys, rfl, _, ⟨kk, _, q⟩, _⟩ := r
      exact .inr (.inr (.inl ⟨h, .inl ⟨_, q⟩⟩))
    · obtain ⟨ys, ⟨kk, _, q⟩, _⟩ := c
      exact .inr (.inr (.inl ⟨h, .inl ⟨_, q⟩⟩))
  | dtt ks vs =>
    simp only [isTyD, beq_iff_eq] at h
    rcases r with r | ⟨_, p, rfl, _, c⟩
    · simp only [RV] at r
      obtain ⟨p, ys, rfl, _, ⟨kk, _, q⟩, _⟩ := r
      exact .inr (.inr (.inl ⟨h, .inr ⟨_, q⟩⟩))
    · obtain ⟨ys, ⟨kk, _, q⟩, _⟩ := c
      exact .inr (.inr (.inl ⟨h, .inr ⟨_, q⟩⟩))
  | ref a =>
    simp only [isTyD, Bool.or_eq_true] at h
    rcases h with h | h
    · simp only [Bool.and_eq_true, beq_iff_eq] at h
      have r := r.light rfl
      simp only [RV] at r
      obtain ⟨p, ep, rfl⟩ := r
      have h2 := h.2
      split at h2
      · rename_i ks vs ek
        obtain ⟨ys, ⟨kk, _, q⟩, _⟩ := hs.at_ _ _ _ ek ep
        exact .inr (.inr (.inl ⟨h.1, .inl ⟨_, q⟩⟩))
      · rename_i ks vs ek
        obtain ⟨ys, ⟨kk, _, q⟩, _⟩ := hs.at_ _ _ _ ek ep
        exact .inr (.inr (.inl ⟨h.1, .inr ⟨_, q⟩⟩))
      · cases h2
    · exact lst h
  | _ => exact lst h
theorem q_meth (pa : PlainAttrs T) (slot : Slot T name id) (hty : typeOf (.builtin id) = pure (.type "method_descriptor")) (hm : QM X id f) (ho : PE X o (liftB (wd X) W mo)) (ha : PA X (e :: es) (liftAB (wd X) W ms))
    (hbase : attributeBase o name X.env (eval o X.env) = eval o X.env := by rfl)
    (hfew : ((backTo pos (starEach (e :: es) X.env)).all (fun x => !x.1) && (backToKw pos (keywordEach [] X.env)).all (fun x => x.1.isSome) && decide ((e :: es).length + ([] : List Keyword).length + (if ([] : List Keyword).isEmpty then 0 else 1) < 30)) = true := by rfl)
    (hline : (apos.endLine == pos.line) = true := by rfl) (hs : starEach (e :: es) X.env = (false, eval e X.env) :: starEach es X.env := by rfl) (hplain : (backTo pos (starEach es X.env)).any (·.1) = false := by rfl) :
    PE X (.Call (.Attribute o name apos) (e :: es) [] pos) (liftF (wd X) W (methE T f mo ms)) :=
  pe_imp (pe_bm pa slot hty hm ho ha hbase hfew hline hs hplain) fun σ H Q ⟨Fr, μ, ρ, s, he, hs, h⟩ => ⟨Fr, μ, ρ, s, he, hs, runs_bind (Rel1 := RW (wd X)) h fun d s1 μ1 H1 x e1 x1 hs1 r1 h1 => by
    split at h1
    · rename_i ht
      exact ⟨isTyD_sound hs1 r1 ht, Fr, μ1, ρ, s1, he.mono x1, hs1, runs_bind (Rel1 := RWs (wd X)) h1 fun ds s2 μ2 H2 xs e2 x2 hs2 r2 h2 => ⟨μ2, s2, d, ds, hs2, r1.mono x2, r2, W, σ, runs_back (x1.trans x2) h2⟩⟩
    · exact h1.elim⟩
theorem q_meth0 (pa : PlainAttrs T) (slot : Slot T name id) (hty : typeOf (.builtin id) = pure (.type "method_descriptor")) (hm : QM X id f) (ho : PE X o (liftB (wd X) W mo))
    (hbase : attributeBase o name X.env (eval o X.env) = eval o X.env := by rfl) (hline : (apos.endLine == pos.line) = true := by rfl) : PE X (.Call (.Attribute o name apos) [] [] pos) (liftF (wd X) W (methE T f mo nilA)) :=
  pe_imp (pe_bm0 pa slot hty hm ho hbase hline) fun σ H Q ⟨Fr, μ, ρ, s, he, hs, h⟩ => ⟨Fr, μ, ρ, s, he, hs, runs_bind (Rel1 := RW (wd X)) h fun d s1 μ1 H1 x e1 x1 hs1 r1 h1 => by
    split at h1
    · rename_i ht
      exact ⟨isTyD_sound hs1 r1 ht, μ1, s1, d, [], hs1, r1, rfl, W, σ, runs_back x1 h1⟩
    · exact h1.elim⟩
/-- methods of texts -/
def strF0 (g : Tx → D) : Fn := fun ds s => match ds with | [.str z] => .ok (g z) s | _ => .bad
theorem qm_str0 {g : Tx → D} {v : Tx → V} (h : MtR X id (fun x xs H Q => ∃ a, x = .str a ∧ xs = [] ∧ True ∧ Q (v a) H)) (hl : ∀ a, (g a).heavy = false) (r : ∀ a μ H, RV (wd X) μ H (g a) (v a)) : QM X id (strF0 g) := by
  intro pins sh σ H x xs u us Q I rx rs ⟨μ, s, d, ds, hs, r1, r2, W, σ', hh⟩
  unfold strF0 at hh
  split at hh
  · rename_i z e
    cases e
    obtain rfl := w_str r1
    obtain rfl : xs = [] := r2
    exact h pins sh σ H _ _ u us Q I rx rs ⟨z, rfl, rfl, trivial, rf_pure hh hs (hl z) (r z μ H)⟩
  · exact hh.elim
def strF1 (g : Tx → Tx → D) : Fn := fun ds s => match ds with | [.str z, .str y] => .ok (g z y) s | _ => .bad
theorem qm_str1 {g : Tx → Tx → D} {v : Tx → Tx → V} (h : MtR X id (fun x xs H Q => ∃ a b, x = .str a ∧ xs = [.str b] ∧ Q (v a b) H)) (hl : ∀ a b, (g a b).heavy = false) (r : ∀ a b μ H, RV (wd X) μ H (g a b) (v a b)) : QM X id (strF1 g) := by
  intro pins sh σ H x xs u us Q I rx rs ⟨μ, s, d, ds, hs, r1, r2, W, σ', hh⟩
  unfold strF1 at hh
  split at hh
  · rename_i z y e
    cases e
    obtain rfl := w_str r1
    obtain ⟨x2, rfl, r3⟩ := r2.inv1
    obtain rfl := w_str r3
    exact h pins sh σ H _ _ u us Q I rx rs ⟨z, y, rfl, rfl, rf_pure hh hs (hl z y) (r z y μ H)⟩
  · exact hh.elim
/-- texts within the line -/
def strF1z (g : Tx → Tx → D) : Fn := fun ds s => match ds with | [.str z, .str y] => if szl z.length then .ok (g z y) s else .bad | _ => .bad
theorem qm_str1z {g : Tx → Tx → D} {v : Tx → Tx → V} (h : MtR X id (fun x xs H Q => ∃ a b, x = .str a ∧ xs = [.str b] ∧ a.length ≤ sizeLine ∧ Q (v a b) H)) (hl : ∀ a b, (g a b).heavy = false) (r : ∀ a b μ H, RV (wd X) μ H (g a b) (v a b)) : QM X id (strF1z g) := by
  intro pins sh σ H x xs u us Q I rx rs ⟨μ, s, d, ds, hs, r1, r2, W, σ', hh⟩
  unfold strF1z at hh
  split at hh
  · rename_i z y e
    cases e
    obtain rfl := w_str r1
    obtain ⟨x2, rfl, r3⟩ := r2.inv1
    obtain rfl := w_str r3
    split at hh
    · rename_i hz
      exact h pins sh σ H _ _ u us Q I rx rs ⟨z, y, rfl, rfl, of_decide_eq_true hz, rf_pure hh hs (hl z y) (r z y μ H)⟩
    · exact hh.elim
  · exact hh.elim
def isdigitF : Fn := strF0 fun z => .bl (Txt.isdigit z)
def isalphaF : Fn := strF0 fun z => .bl (Txt.isalpha z)
def isalnumF : Fn := strF0 fun z => .bl (Txt.isalnum z)
def isasciiF : Fn := strF0 fun z => .bl (Txt.isascii z)
def islowerF : Fn := strF0 fun z => .bl (Txt.islower z)
def countF : Fn := strF1 fun z y => .int (Txt.count z y)
def startsF : Fn := strF1 fun z y => .bl (Txt.startswith z y)
def endsF : Fn := strF1 fun z y => .bl (Txt.endswith z y)
def rmpreF : Fn := strF1z fun z y => .str (Txt.removeprefix z y)
def rmsufF : Fn := strF1z fun z y => .str (Txt.removesuffix z y)
theorem qm_isdigit : QM X "str.isdigit" isdigitF := qm_str0 mt_isdigit (fun _ => rfl) fun _ _ _ => by simp only [RV]
theorem qm_isalpha : QM X "str.isalpha" isalphaF := qm_str0 mt_isalpha (fun _ => rfl) fun _ _ _ => by simp only [RV]
theorem qm_isalnum : QM X "str.isalnum" isalnumF := qm_str0 mt_isalnum (fun _ => rfl) fun _ _ _ => by simp only [RV]
theorem qm_isascii : QM X "str.isascii" isasciiF := qm_str0 mt_isascii (fun _ => rfl) fun _ _ _ => by simp only [RV]
theorem qm_islower : QM X "str.islower" islowerF := qm_str0 mt_islower (fun _ => rfl) fun _ _ _ => by simp only [RV]
theorem qm_count : QM X "str.count" countF := qm_str1 mt_count (fun _ _ => rfl) fun _ _ _ _ => by simp only [RV]
theorem qm_starts : QM X "str.startswith" startsF := qm_str1 mt_startswith (fun _ _ => rfl) fun _ _ _ _ => by simp only [RV]
theorem qm_ends : QM X "str.endswith" endsF := qm_str1 mt_endswith (fun _ _ => rfl) fun _ _ _ _ => by simp only [RV]
theorem qm_rmpre : QM X "str.removeprefix" rmpreF := qm_str1z mt_removeprefix (fun _ _ => rfl) fun _ _ _ _ => by simp only [RV]
theorem qm_rmsuf : QM X "str.removesuffix" rmsufF := qm_str1z mt_removesuffix (fun _ _ => rfl) fun _ _ _ _ => by simp only [RV]
def splitF : Fn := fun ds s => match ds with
  | [.str z, .str y] => if (y.length == 0) || !szl (z.length + 2) then .bad else .ok (.lst ((Txt.split z y).map .str)) s
  | _ => .bad
theorem strs_rvs {g : Wd} {μ : M} {H : Hp} : ∀ (l : List Tx), RVs g μ H (l.map D.str) (l.map V.str)
  | [] => by simp [RVs]
  | x :: l => ⟨_, _, rfl, by simp only [RV], strs_rvs l⟩
theorem qm_split : QM X "str.split" splitF := by
  intro pins sh σ H x xs u us Q I rx rs ⟨μ, s, d, ds, hs, r1, r2, W, σ', hh⟩
  unfold splitF at hh
  split at hh
  · rename_i z y e
    cases e
    obtain rfl := w_str r1
    obtain ⟨x2, rfl, r3⟩ := r2.inv1
    obtain rfl := w_str r3
    split at hh
    · exact hh.elim
    · rename_i hz
      simp only [Bool.or_eq_true, Bool.not_eq_true', not_or, Bool.not_eq_true, Bool.not_eq_false] at hz
      exact mt_split pins sh σ H _ _ u us Q I rx rs ⟨z, y, rfl, rfl, hz.1, of_decide_eq_true hz.2, rf_lst hh hs (strs_rvs _)⟩
  · exact hh.elim
def strsOf : List D → Option (List Tx)
  | [] => some []
  | .str x :: r => (strsOf r).map (x :: ·)
  | _ => none
theorem strsOf_eq : ∀ {l : List D} {ys : List Tx}, strsOf l = some ys → l = ys.map D.str
  | [], ys, h => by simp only [strsOf, Option.some.injEq] at h; subst h; rfl
  | d :: l, ys, h => by
    cases d <;> simp only [strsOf, reduceCtorEq, Option.map_eq_some_iff] at h
    obtain ⟨zs, e, rfl⟩ := h
    rw [strsOf_eq e]; rfl
theorem strs_vals {g : Wd} {μ : M} {H : Hp} : ∀ {ys : List Tx} {vs : List V}, RVs g μ H (ys.map D.str) vs → vs = ys.map V.str
  | [], _, r => by simpa [RVs] using r
  | y :: ys, _, r => by
    simp only [List.map_cons, RVs] at r
    obtain ⟨v, r', rfl, a, b⟩ := r
    simp only [RV] at a; subst a
    rw [strs_vals b]; rfl
theorem strsOf_map : ∀ (l : List Tx), strsOf (l.map D.str) = some l
  | [] => rfl
  | x :: l => by simp [strsOf, strsOf_map l]
def joinF : Fn := fun ds s => match ds with
  | [.str z, d] => match (seqOf s d).bind strsOf with
    | some ys => if decide ((ys.map (·.length)).sum + ys.length * z.length ≤ 16777216) then .ok (.str (Txt.join z ys)) s else .bad
    | none => .bad
  | _ => .bad
theorem qm_join : QM X "str.join" joinF := by
  intro pins sh σ H x xs u us Q I rx rs ⟨μ, s, d, ds, hs, r1, r2, W, σ', hh⟩
  unfold joinF at hh
  split at hh
  · rename_i z y e
    cases e
    obtain rfl := w_str r1
    obtain ⟨x2, rfl, r3⟩ := r2.inv1
    split at hh
    · rename_i ys ey
      simp only [Option.bind_eq_some_iff] at ey
      obtain ⟨zs, e1, e2⟩ := ey
      split at hh
      · rename_i hz
        obtain ⟨p, vs, rfl, q, rr⟩ := seqOf_sound hs r3 e1
        have := strsOf_eq e2
        subst this
        have := strs_vals rr
        subst this
        exact mt_join pins sh σ H _ _ u us Q I rx rs ⟨z, p, ys, rfl, rfl, q.symm, of_decide_eq_true hz, rf_str hh hs⟩
      · exact hh.elim
    · exact hh.elim
  · exact hh.elim
/-! ### what changes a list of the store -/
def appendF : Fn := fun ds s => match ds with
  | [.ref a, d] => match s[a]? with
    | some (.lst xs) => if decide (xs.length < sizeLine) && !d.heavy then .ok .non (s.set a (.lst (xs ++ [d]))) else .bad
    | _ => .bad
  | _ => .bad
/-! ### what changes a thing that a slot alone holds -/
theorem REn.upd {g : Wd} {Fr : Addr → Prop} {μ : M} {H : Hp} {ρ : En} {σ : L2.St} {i : Nat} {d d' : D} {p : Addr} {ho ho' : HO} (h : REn g Fr μ H ρ σ) (e : ρ[i]? = some (some (.o d))) (ep : σ[i]? = some (some (V.ref p))) (eh : H p = some ho') (nt : ∀ ys, ho' ≠ .tup ys) (nf : ∀ o u, ho' ≠ .frz o u)
    (hz : ¬ μ.z p) (c : Ce g μ (L2.upd H p ho) p d') : REn g Fr μ (L2.upd H p ho) (ρ.set i (some (.o d'))) σ := by
  have x : Ex (fun q => q = p) μ H μ (L2.upd H p ho) := ex_own hz rfl eh nt nf
  refine ⟨by simp [h.len], fun j d' ej => ?_, fun j d' ej => ?_, fun j k d' e' p' e1 e2 e3 e4 => ?_⟩
  · rcases get_set ej with ⟨rfl, q, _⟩ | ⟨hj, q⟩
    · cases q
    · obtain ⟨y, a, b⟩ := h.v j d' q
      exact ⟨y, a, b.mono x⟩
  · rcases get_set ej with ⟨rfl, q, _⟩ | ⟨hj, q⟩
    · cases q
      obtain ⟨y, a, _, m, z, f⟩ := h.o j d e
      rw [ep] at a; cases a
      exact ⟨p, ep, c, m, z, f⟩
    · obtain ⟨y, a, b, m, z, f'⟩ := h.o j d' q
      have ne : y ≠ p := fun w => by subst w; exact hj (h.inj j i d' d y q e a ep)
      exact ⟨y, a, b.mono x (fun u e => by rw [upd_ne ne]; exact e), m, z, f'⟩
  · have conv : ∀ {l : Nat} {dd : D}, (ρ.set i (some (.o d')))[l]? = some (some (Sl.o dd)) → ∃ dd', ρ[l]? = some (some (Sl.o dd')) := fun {l dd} q => by
      rcases get_set q with ⟨rfl, _, _⟩ | ⟨_, q⟩
      · exact ⟨d, e⟩
      · exact ⟨dd, q⟩
    rename_i dj
    have conv : ∀ {l : Nat} {dd dz : D}, (ρ.set i (some (.o dz)))[l]? = some (some (Sl.o dd)) → ∃ dd', ρ[l]? = some (some (Sl.o dd')) := fun {l dd dz} q => by
      rcases get_set q with ⟨rfl, _, _⟩ | ⟨_, q⟩
      · exact ⟨d, e⟩
      · exact ⟨dd, q⟩
    obtain ⟨a, e1'⟩ := conv e1
    obtain ⟨b, e2'⟩ := conv e2
    exact h.inj j k a b p' e1' e2' e3 e4
abbrev Ow := D → List D → Option (D × D)
/-- a method that changes what it is called of -/
def rOw (g : Wd) (f : Ow) : V → List V → Hp → VK → Prop := fun x xs H Q => ∃ μ p d ds d' r, x = .ref p ∧ Ce g μ H p d ∧ ¬ μ.z p ∧ RVs g μ H ds xs ∧ f d ds = some (d', r) ∧
  ∀ ho y, Ce g μ (L2.upd H p ho) p d' → RV g μ (L2.upd H p ho) r y → Q y (L2.upd H p ho)
abbrev QW (X : Cx) (id : String) (f : Ow) : Prop := MtR X id (rOw (wd X) f)
def appO : Ow := fun d ds => match d, ds with
  | .lst xs, [y] => if decide (xs.length < sizeLine) then some (.lst (xs ++ [y]), .non) else none
  | _, _ => none
def extO : Ow := fun d ds => match d, ds with
  | .lst xs, [.lst ys] => if szl (xs.length + ys.length) then some (.lst (xs ++ ys), .non) else none
  | _, _ => none
def popO : Ow := fun d ds => match d, ds with
  | .lst xs, [] => (xs[xs.length - 1]?).map fun y => (.lst xs.dropLast, y)
  | _, _ => none
theorem dropLast_rvs {g : Wd} {μ : M} {H : Hp} {xs : List D} {ys : List V} (r : RVs g μ H xs ys) : RVs g μ H xs.dropLast ys.dropLast := by
  rw [List.dropLast_eq_take, List.dropLast_eq_take, r.length]
  exact r.take _
theorem qw_append : QW X "list.append" appO := by
  intro pins sh σ H x xs u us Q I rx rs ⟨μ, p, d, ds, d', r, ex, c, hz, rv, ef, k⟩
  unfold appO at ef
  split at ef
  · rename_i zs y
    split at ef
    · rename_i hl
      cases ef
      obtain ⟨ys, hp, rr⟩ := c
      obtain ⟨v, rfl, ry⟩ := rv.inv1
      have xo : Ex (fun q => q = p) μ H μ (L2.upd H p (.lst (ys ++ [v]))) := ex_own hz rfl hp (fun _ z => nomatch z) fun _ _ z => nomatch z
      exact mt_append pins sh σ H _ _ u us Q I rx rs ⟨p, ys, v, ex, rfl, hp, by rw [← rr.length]; exact of_decide_eq_true hl, k _ _ ⟨_, upd_same, (rr.mono xo).append (.one (ry.mono xo))⟩ (by simp only [RV])⟩
    · cases ef
  · cases ef
theorem qw_extend : QW X "list.extend" extO := by
  intro pins sh σ H x xs u us Q I rx rs ⟨μ, p, d, ds, d', r, ex, c, hz, rv, ef, k⟩
  unfold extO at ef
  split at ef
  · rename_i zs ys0
    split at ef
    · rename_i hl
      cases ef
      obtain ⟨ys, hp, rr⟩ := c
      obtain ⟨v, rfl, ry⟩ := rv.inv1
      have ry0 := ry
      simp only [RV] at ry
      obtain ⟨q, ws, rfl, zq, hq, r2⟩ := ry
      have xo : Ex (fun q => q = p) μ H μ (L2.upd H p (.lst (ys ++ ws))) := ex_own hz rfl hp (fun _ z => nomatch z) fun _ _ z => nomatch z
      exact mt_extend pins sh σ H _ _ u us Q I rx rs ⟨p, q, ys, ws, ex, rfl, hp, hq, by rw [← rr.length, ← r2.length]; exact of_decide_eq_true hl, k _ _ ⟨_, upd_same, (rr.mono xo).append (r2.mono xo)⟩ (by simp only [RV])⟩
    · cases ef
  · cases ef
theorem qw_pop : QW X "list.pop" popO := by
  intro pins sh σ H x xs u us Q I rx rs ⟨μ, p, d, ds, d', r, ex, c, hz, rv, ef, k⟩
  unfold popO at ef
  split at ef
  · rename_i zs
    simp only [Option.map_eq_some_iff] at ef
    obtain ⟨y, ey, ee⟩ := ef
    cases ee
    obtain ⟨ys, hp, rr⟩ := c
    obtain rfl : xs = [] := by simpa only [RVs] using rv
    obtain ⟨v, ev, r1⟩ := rr.get ey
    rw [rr.length] at ev
    have xo : Ex (fun q => q = p) μ H μ (L2.upd H p (.lst ys.dropLast)) := ex_own hz rfl hp (fun _ z => nomatch z) fun _ _ z => nomatch z
    exact mt_pop pins sh σ H _ _ u us Q I rx rs ⟨p, ys, v, ex, rfl, hp, ev, k _ _ ⟨_, upd_same, (dropLast_rvs rr).mono xo⟩ (r1.mono xo)⟩
  · cases ef
def owTy (T : String) (d : D) : Bool := match d with
  | .lst _ => T == "list"
  | .dct _ _ => T == "dict"
  | .dtt _ _ => T == "dict"
  | _ => false
theorem owTy_sound {g : Wd} {μ : M} {H : Hp} {d : D} {p : Addr} (c : Ce g μ H p d) (h : owTy T d = true) : tyV g.K T (.ref p) H := by
  cases d <;> simp only [owTy, beq_iff_eq, Bool.false_eq_true] at h
  · obtain ⟨ys, q, _⟩ := c; exact .inl ⟨h, ys, .inl (.inl q)⟩
  · obtain ⟨ys, ⟨kk, _, q⟩, _⟩ := c; exact .inr (.inr (.inl ⟨h, .inl ⟨_, q⟩⟩))
  · obtain ⟨ys, ⟨kk, _, q⟩, _⟩ := c; exact .inr (.inr (.inl ⟨h, .inr ⟨_, q⟩⟩))
/-- x.m(args), x a slot that holds alone; the value goes to k -/
def owE (i : Nat) (T : String) (f : Ow) (a : As) (k : D → En → S → RS) : C := fun ρ s => match ρ[i]? with
  | some (some (.o d0)) => if owTy T d0 then (a ρ s).stm ρ fun ds s => match f d0 ds with
    | some (d', r) => k r (ρ.set i (some (.o d'))) s
    | none => .bad
    else .bad
  | _ => .bad
def owS (i : Nat) (T : String) (f : Ow) (a : As) : C := owE i T f a fun _ ρ s => .nx ρ s
def owSetS (j i : Nat) (T : String) (f : Ow) (a : As) : C := owE i T f a fun r ρ s => .nx (ρ.set j (some (.v r))) s
variable {Fr : Addr → Prop}
theorem ow_sound {i : Nat} {f : Ow} {a : As} {De : Ends} {μ : M} {H : Hp} {ρ : En} {σ : L2.St} {s : S} {κ : D → En → S → RS} (hf : Fz Fr H) (he : REn (wd X) Fr μ H ρ σ) (hs : Rs (wd X) μ H s) (h : runsS (wd X) W Fr μ H De (owE i T f a κ ρ s)) :
    ∃ p d0, σ[i]? = some (some (V.ref p)) ∧ Ce (wd X) μ H p d0 ∧ tyV X.K T (.ref p) H ∧ runs (wd X) W σ μ H (RVs (wd X)) (fun xs H2 => rOw (wd X) f (.ref p) xs H2 fun y H3 => ∃ μ2 ρ2 s2 r, Fz Fr H3 ∧ REn (wd X) Fr μ2 H3 ρ2 σ ∧ Rs (wd X) μ2 H3 s2 ∧ RV (wd X) μ2 H3 r y ∧ runsS (wd X) W Fr μ2 H3 De (κ r ρ2 s2)) (a ρ s) := by
  unfold owE at h
  split at h
  · rename_i d0 ei
    split at h
    · rename_i ht
      obtain ⟨p, ep, c, hm, hz, fr⟩ := he.o i d0 ei
      refine ⟨p, d0, ep, c, owTy_sound c ht, runs_stm (Rel1 := RVs (wd X)) he h fun ds s1 μ1 H1 xs e1 x1 hs1 r1 h1 => ?_⟩
      split at h1
      · rename_i d' r ef
        obtain ⟨p', ep', c1, hm1, hz1, _⟩ := (he.mono x1).o i d0 ei
        rw [ep] at ep'; cases ep'
        obtain ⟨u, eu, nt, nf⟩ := c1.there
        refine ⟨μ1, p, d0, ds, d', r, rfl, c1, hz1, r1, ef, fun ho y c2 ry => ?_⟩
        have x2 : Ex Fr μ1 H1 μ1 (L2.upd H1 p ho) := ex_own hz1 fr eu nt nf
        exact ⟨μ1, _, s1, r, (hf.at x1).at x2, (he.mono x1).upd ei ep eu nt nf hz1 c2, hs1.own hm1 hz1 eu nt nf, ry, runsS_mono x2 h1⟩
      · exact h1.elim
    · exact h.elim
  · exact h.elim
theorem qs_ow {x : Str} {p2 : Pos} (i : Nat) {f : Ow} (pa : PlainAttrs T) (slot : Slot T name id) (hty : typeOf (.builtin id) = pure (.type "method_descriptor")) (hm : QW X id f) (ha : PA X (e :: es) (liftA (wd X) W ms)) (hN : X.N[i]? = some x := by rfl) (hv : Vis X.env.scope x := by first | exact Or.inl rfl | exact Or.inr (Or.inl rfl) | exact Or.inr (Or.inr rfl)) (hd : (x == ("__debug__" : Str)) = false := by decide)
    (hcd : (x == ("__classdict__" : Str)) = false := by decide) {px : Pos} (hw : swapsWith (.Call (.Attribute (.Name x px) name apos) (e :: es) [] pos) none p2.line X.env = pure false := by rfl)
    (hbase : attributeBase (.Name x px) name X.env (eval (.Name x px) X.env) = eval (.Name x px) X.env := by rfl)
    (hfew : ((backTo pos (starEach (e :: es) X.env)).all (fun x => !x.1) && (backToKw pos (keywordEach [] X.env)).all (fun x => x.1.isSome) && decide ((e :: es).length + ([] : List Keyword).length + (if ([] : List Keyword).isEmpty then 0 else 1) < 30)) = true := by rfl)
    (hline : (apos.endLine == pos.line) = true := by rfl) (hs : starEach (e :: es) X.env = (false, eval e X.env) :: starEach es X.env := by rfl) (hplain : (backTo pos (starEach es X.env)).any (·.1) = false := by rfl) :
    QS X W Fr (.Expr (.Call (.Attribute (.Name x px) name apos) (e :: es) [] pos) p2) (owS i T f ms) :=
  ps_imp (ps_expr (pe_bm pa slot hty hm (pe_var hN hv hd hcd) ha hbase hfew hline hs hplain) hw) fun De σ H ⟨μ, ρ, s, hf, he, hst, h⟩ => by
    obtain ⟨p, d0, ep, c, ty, r⟩ := ow_sound hf he hst h
    refine ⟨_, ep, ty, Fr, μ, ρ, s, he, hst, ?_⟩
    refine runs_post r fun xs H2 q => ?_
    obtain ⟨μ1, p1, d1, ds, d', r', e1, c1, z1, rv, ef, k⟩ := q
    refine ⟨μ1, p1, d1, ds, d', r', e1, c1, z1, rv, ef, fun ho y c2 ry => ?_⟩
    obtain ⟨μ2, ρ2, s2, r2, f2, he2, hs2, rr, h2⟩ := k ho y c2 ry
    exact h2 μ2 _ σ Ex.refl hs2 he2
end
end Fv

namespace Fv
open PySem PySem.Spec PyProof.Rows L2
/-! ### what is not walked -/
def badE : E := fun _ _ => .bad
def badS : C := fun _ _ => .bad
def badT : T := fun _ _ => .bad
section
variable {X : Cx} {W : WX} {Fr : Addr → Prop} {pos apos : Pos} {o e : Expr} {es : List Expr} {st : Stmt} {m mo : E} {ms : As} {T : String} {name : Str} {id : String}
theorem q_bad : PE X e (liftE (wd X) W badE) := ⟨fun _ _ _ _ _ _ ⟨_, _, _, _, _, _, h⟩ => h.elim⟩
theorem q_badT : PT X e (liftT (wd X) W badT) := ⟨fun _ _ _ _ _ _ ⟨_, _, _, _, _, _, h⟩ => h.elim⟩
theorem qs_bad : QS X W Fr st badS := ⟨fun _ _ _ _ _ _ ⟨_, _, _, _, _, _, h⟩ => h.elim⟩
theorem qss_bad {sts : List Stmt} : QSs X W Fr sts badS := ⟨fun _ _ _ _ _ _ ⟨_, _, _, _, _, _, h⟩ => h.elim⟩
/-! ### methods without arguments, on what a slot alone holds -/
theorem qs_ow0 {x : Str} {p2 : Pos} (i : Nat) {f : Ow} (pa : PlainAttrs T) (slot : Slot T name id) (hty : typeOf (.builtin id) = pure (.type "method_descriptor")) (hm : QW X id f) (hN : X.N[i]? = some x := by rfl) (hv : Vis X.env.scope x := by first | exact Or.inl rfl | exact Or.inr (Or.inl rfl) | exact Or.inr (Or.inr rfl)) (hd : (x == ("__debug__" : Str)) = false := by decide)
    (hcd : (x == ("__classdict__" : Str)) = false := by decide) {px : Pos} (hw : swapsWith (.Call (.Attribute (.Name x px) name apos) [] [] pos) none p2.line X.env = pure false := by rfl)
    (hbase : attributeBase (.Name x px) name X.env (eval (.Name x px) X.env) = eval (.Name x px) X.env := by rfl) (hline : (apos.endLine == pos.line) = true := by rfl) :
    QS X W Fr (.Expr (.Call (.Attribute (.Name x px) name apos) [] [] pos) p2) (owS i T f nilA) :=
  ps_imp (ps_expr (pe_bm0 pa slot hty hm (pe_var hN hv hd hcd) hbase hline) hw) fun De σ H ⟨μ, ρ, s, hf, he, hst, h⟩ => by
    obtain ⟨p, d0, ep, c, ty, r⟩ := ow_sound hf he hst h
    refine ⟨_, ep, ty, ?_⟩
    obtain ⟨μ1, p1, d1, ds, d', r', e1, c1, z1, rv, ef, k⟩ := runs_pure (b := []) (show runs (wd X) W σ μ H (RVs (wd X)) _ (.ok [] s) from r) hst (by simp only [RVs])
    refine ⟨μ1, p1, d1, ds, d', r', e1, c1, z1, rv, ef, fun ho y c2 ry => ?_⟩
    obtain ⟨μ2, ρ2, s2, r2, f2, he2, hs2, rr, h2⟩ := k ho y c2 ry
    exact h2 μ2 _ σ Ex.refl hs2 he2
theorem qs_owSet0 {x y : Str} {py : Pos} (j i : Nat) {f : Ow} (pa : PlainAttrs T) (slot : Slot T name id) (hty : typeOf (.builtin id) = pure (.type "method_descriptor")) (hm : QW X id f) (hNd : X.N.Nodup) (hN : X.N[i]? = some x := by rfl) (hv : Vis X.env.scope x := by first | exact Or.inl rfl | exact Or.inr (Or.inl rfl) | exact Or.inr (Or.inr rfl)) (hd : (x == ("__debug__" : Str)) = false := by decide)
    (hcd : (x == ("__classdict__" : Str)) = false := by decide) (hj : X.N[j]? = some y := by rfl) (hy : Loc X.env.scope y := by first | exact .inl rfl | exact .inr rfl) {px : Pos} (hw : swapsWith (.Call (.Attribute (.Name x px) name apos) [] [] pos) (some (.Name y py)) pos.line X.env = pure false := by rfl)
    (hfl : X.fn y = true ∨ X.env.scope.names.lookup y = some .local := by first | exact .inl rfl | exact .inr rfl | assumption)
    (hbase : attributeBase (.Name x px) name X.env (eval (.Name x px) X.env) = eval (.Name x px) X.env := by rfl) (hline : (apos.endLine == pos.line) = true := by rfl) :
    QS X W Fr (.Assign [.Name y py] (.Call (.Attribute (.Name x px) name apos) [] [] pos) pos) (owSetS j i T f nilA) :=
  ps_imp (ps_set hNd hj hy (pe_bm0 pa slot hty hm (pe_var hN hv hd hcd) hbase hline) hw hfl) fun De σ H ⟨μ, ρ, s, hf, he, hst, h⟩ => by
    obtain ⟨p, d0, ep, c, ty, r⟩ := ow_sound hf he hst h
    refine ⟨_, ep, ty, ?_⟩
    obtain ⟨μ1, p1, d1, ds, d', r', e1, c1, z1, rv, ef, k⟩ := runs_pure (b := []) (show runs (wd X) W σ μ H (RVs (wd X)) _ (.ok [] s) from r) hst (by simp only [RVs])
    refine ⟨μ1, p1, d1, ds, d', r', e1, c1, z1, rv, ef, fun ho y c2 ry => ?_⟩
    obtain ⟨μ2, ρ2, s2, r2, f2, he2, hs2, rr, h2⟩ := k ho y c2 ry
    exact h2 μ2 _ _ Ex.refl hs2 (he2.setV rr)
/-! ### stores to items: a list of the store -/
def setD (o i v : D) (s : S) : Option S := match o, i with
  | .ref a, .int k => match s[a]? with
    | some (.lst xs) => (ixN xs.length k).map fun j => s.set a (.lst (xs.set j v))
    | _ => none
  | _, _ => none
def setItS (e o i : E) : C := fun ρ s => (e ρ s).stm ρ fun v s => (o ρ s).stm ρ fun x s => (i ρ s).stm ρ fun k s => match setD x k v s with | some s' => .nx ρ s' | none => .bad
theorem setD_sound {g : Wd} {μ : M} {H : Hp} {od kd v : D} {ov kv x : V} {s s' : S} (hs : Rs g μ H s) (r2 : RV g μ H od ov) (r3 : RW g μ H kd kv) (r1 : RV g μ H v x) (h : setD od kd v s = some s') :
    ∃ (p : Addr) (vs : List V) (k : Int) (j : Nat), ov = .ref p ∧ kv = .int k ∧ H p = some (.lst vs) ∧ ixN vs.length k = some j ∧ Ex Fn0 μ H μ (upd H p (.lst (vs.set j x))) ∧ Rs g μ (upd H p (.lst (vs.set j x))) s' := by
  unfold setD at h
  split at h
  · rename_i a k
    obtain rfl := w_int r3
    simp only [RV] at r2
    obtain ⟨p, ep, rfl⟩ := r2
    split at h
    · rename_i zs ez
      simp only [Option.map_eq_some_iff] at h
      obtain ⟨j, ej, rfl⟩ := h
      obtain ⟨vs, hp, rr⟩ := hs.at_ _ _ _ ez ep
      have xp : Ex Fn0 μ H μ (upd H p (.lst (vs.set j x))) := ex_put (List.mem_of_getElem? ep) hp (fun _ w => nomatch w) (fun _ _ w => nomatch w)
      exact ⟨p, vs, k, j, rfl, rfl, hp, by rw [← rr.length]; exact ej, xp, hs.put (o := .lst (zs.set j v)) ep hp (fun _ w => nomatch w) (fun _ _ w => nomatch w) ⟨_, upd_same, (rr.mono xp).set (r1.mono xp) j⟩⟩
    · cases h
  · cases h
theorem qs_setIt {i : Expr} {mi : E} {p : Pos} (he : PE X e (liftE (wd X) W m)) (ho : PE X o (liftE (wd X) W mo)) (hi : PE X i (liftB (wd X) W mi))
    (ha : ∀ v, assign (.Subscript o i p) X.env v = (do
      let ov ← holding [v] (eval o X.env); let iv ← holding [v, ov] (eval i X.env); standAt p; holding [v, ov, iv] (setItem ov iv v); release [v, ov, iv] []) := by intro _; rfl)
    (hw0 : swapsWithSole [.Subscript o i p] e pos.line X.env = pure false := by rfl) (hw : swappedStores [.Subscript o i p] e X.env = pure none := by rfl)
    (h1 : (assignEach [.Subscript o i p] X.env).map (·.2) = [assign (.Subscript o i p) X.env] := by rfl) : QS X W Fr (.Assign [.Subscript o i p] e pos) (setItS m mo mi) :=
  ps_imp (ps_asg he (pg_sub ho hi set_list ha) hw0 hw h1) fun De σ H ⟨μ, ρ, s, hf, he, hs, h⟩ => ⟨Fr, μ, ρ, s, he, hs, runs_stm (Rel1 := RV (wd X)) he h fun v s1 μ1 H1 x e1 x1 hs1 r1 h1 =>
    ⟨Fr, μ1, ρ, s1, he.mono x1, hs1, runs_stm (Rel1 := RV (wd X)) (he.mono x1) h1 fun od s2 μ2 H2 ov e2 x2 hs2 r2 h2 =>
      ⟨Fr, μ2, ρ, s2, (he.mono x1).mono x2, hs2, runs_stm (Rel1 := RW (wd X)) ((he.mono x1).mono x2) h2 fun kd s3 μ3 H3 kv e3 x3 hs3 r3 h3 => by
        cases q : setD od kd v s3 with
        | none => rw [q] at h3; exact h3.elim
        | some s' =>
          rw [q] at h3
          obtain ⟨p, vs, k, j, e1, e2, hp, ej, xp, hs'⟩ := setD_sound hs3 (r2.mono x3) r3 ((r1.mono x2).mono x3) q
          exact ⟨p, vs, k, j, e1, e2, hp, ej, h3 μ3 _ σ xp.s hs' ((((he.mono x1).mono x2).mono x3).mono xp)⟩⟩⟩⟩
/-! ### a thing that a slot alone holds -/
def putL {κ : Type} [DecidableEq κ] (kk : List κ) (vs : List D) (x : κ) (v : D) : List D := if x ∈ kk then (kk.zip vs).map (fun p => if p.1 = x then v else p.2) else vs ++ [v]
/-- d[k] = v: the keys and values behind it -/
def putKD {κ : Type} [DecidableEq κ] (ks : List D) (kk : List κ) (vs : List D) (k : D) (x : κ) (v : D) : List D × List D := (if x ∈ kk then ks else ks ++ [k], putL kk vs x v)
def putO (d k v : D) : Option D := match d with
  | .dct ks vs => (keysD ks).bind fun kk => (keyD k).bind fun x => if ks.length < sizeLine then some (.dct (putKD ks kk vs k x v).1 (putKD ks kk vs k x v).2) else none
  | .dtt ks vs => match k with
    | .tup _ => (keysT ks).bind fun kk => (keyT k).bind fun x => if ks.length < sizeLine then some (.dtt (putKD ks kk vs k x v).1 (putKD ks kk vs k x v).2) else none
    | _ => none
  | _ => none
theorem keysD_app : ∀ {ks : List D} {kk : List Key} {k : D} {x : Key}, keysD ks = some kk → keyD k = some x → keysD (ks ++ [k]) = some (kk ++ [x])
  | [], kk, k, x, e, f => by simp only [keysD, Option.some.injEq] at e; subst e; simp [keysD, f]
  | a :: ks, kk, k, x, e, f => by
    simp only [keysD, Option.bind_eq_some_iff, Option.map_eq_some_iff] at e
    obtain ⟨y, e1, r, e2, rfl⟩ := e
    simp [keysD, e1, keysD_app e2 f]
theorem keysT_app : ∀ {ks : List D} {kk : List (List Key)} {k : D} {x : List Key}, keysT ks = some kk → keyT k = some x → keysT (ks ++ [k]) = some (kk ++ [x])
  | [], kk, k, x, e, f => by simp only [keysT, Option.some.injEq] at e; subst e; simp [keysT, f]
  | a :: ks, kk, k, x, e, f => by
    simp only [keysT, Option.bind_eq_some_iff, Option.map_eq_some_iff] at e
    obtain ⟨y, e1, r, e2, rfl⟩ := e
    simp [keysT, e1, keysT_app e2 f]
theorem keysT_len : ∀ {ks : List D} {kk : List (List Key)}, keysT ks = some kk → ks.length = kk.length
  | [], kk, e => by simp only [keysT, Option.some.injEq] at e; subst e; rfl
  | k :: ks, kk, e => by
    simp only [keysT, Option.bind_eq_some_iff, Option.map_eq_some_iff] at e
    obtain ⟨k', _, r, e2, rfl⟩ := e
    simp [keysT_len e2]
theorem putL_sound {κ : Type} [DecidableEq κ] {g : Wd} {μ : M} {H : Hp} {kk : List κ} {vs : List D} {ys : List V} {x : κ} {v : D} {y : V} (r : RVs g μ H vs ys) (rv : RV g μ H v y) (l : kk.length = ys.length) :
    ∃ zs, putK (kk.zip ys) x y = ((if x ∈ kk then kk else kk ++ [x]).zip zs) ∧ RVs g μ H (putL kk vs x v) zs ∧ (if x ∈ kk then kk else kk ++ [x]).length = zs.length := by
  have mem : ∀ {kk : List κ} {ys : List V}, kk.length = ys.length → ((kk.zip ys).any fun kv => decide (kv.1 = x)) = decide (x ∈ kk) := by
    intro kk
    induction kk with
    | nil => intro ys _; simp
    | cons k kk ih =>
      intro ys l
      cases ys with
      | nil => cases l
      | cons y ys =>
        simp only [List.zip_cons_cons, List.any_cons, ih (Nat.succ.inj l)]
        by_cases h : k = x
        · subst h; simp
        · have h' : ¬ x = k := fun z => h z.symm
          simp [h, h']
  unfold putK putL
  rw [mem l]
  by_cases hx : x ∈ kk
  · simp only [hx, decide_true, if_true]
    have go : ∀ {kk : List κ} {vs : List D} {ys : List V}, RVs g μ H vs ys → kk.length = ys.length → ∃ zs, (kk.zip ys).map (fun kv => if kv.1 = x then (kv.1, y) else kv) = kk.zip zs ∧ RVs g μ H ((kk.zip vs).map (fun p => if p.1 = x then v else p.2)) zs ∧ kk.length = zs.length := by
      intro kk
      induction kk with
      | nil => intro vs ys r l; exact ⟨[], by simp, by simp [RVs], rfl⟩
      | cons k kk ih =>
        intro vs ys r l
        cases ys with
        | nil => cases l
        | cons y0 ys =>
          cases vs with
          | nil => simp only [RVs] at r; cases r
          | cons v0 vs =>
            simp only [RVs] at r
            obtain ⟨y1, r', e, a, b⟩ := r
            cases e
            obtain ⟨zs, e1, e2, e3⟩ := ih b (Nat.succ.inj l)
            by_cases h : k = x
            · exact ⟨y :: zs, by simp [h, e1], ⟨y, zs, rfl, by simp [h]; exact rv, e2⟩, by simp [e3]⟩
            · exact ⟨y0 :: zs, by simp [h, e1], ⟨y0, zs, rfl, by simp [h]; exact a, e2⟩, by simp [e3]⟩
    exact go r l
  · simp only [hx, decide_false, if_false, Bool.false_eq_true]
    exact ⟨ys ++ [y], by rw [List.zip_append l]; rfl, r.append (.one rv), by simp [l]⟩
theorem putO_sound {g : Wd} {μ : M} {H : Hp} {p : Addr} {d k v d' : D} {kv vv : V} (c : Ce g μ H p d) (hz : ¬ μ.z p) (rk : RW g μ H k kv) (rv : RV g μ H v vv) (e : putO d k v = some d') : ∃ ho, DPut H p kv vv (upd H p ho) ∧ Ce g μ (upd H p ho) p d' := by
  unfold putO at e
  split at e
  · rename_i ks vs
    simp only [Option.bind_eq_some_iff] at e
    obtain ⟨kk, e1, x, e2, e3⟩ := e
    split at e3
    · rename_i hl
      cases e3
      obtain ⟨ys, ⟨kk', e4, hp⟩, l, rr⟩ := c
      rw [e1] at e4; cases e4
      have lk := keysD_len e1
      obtain ⟨zs, q1, q2, q3⟩ := putL_sound (x := x) rr rv (by rw [← lk]; exact l)
      have xo : ∀ ho, Ex (fun q => q = p) μ H μ (upd H p ho) := fun ho => ex_own hz rfl hp (fun _ z => nomatch z) fun _ _ z => nomatch z
      refine ⟨.dK (putK (kk.zip ys) x vv), ?_, zs, ⟨_, ?_, by rw [q1]; exact upd_same⟩, ?_, q2.mono (xo _)⟩
      · rw [keyD_val rk e2]; exact DPut.k hp (by rw [List.length_zip, ← lk, ← l]; simpa using hl)
      · simp only [putKD]; split
        · exact e1
        · exact keysD_app e1 e2
      · simp only [putKD]
        rw [← q3]
        split <;> simp [lk]
    · cases e3
  · rename_i ks vs
    split at e
    · rename_i ds
      simp only [Option.bind_eq_some_iff] at e
      obtain ⟨kk, e1, x, e2, e3⟩ := e
      split at e3
      · rename_i hl
        cases e3
        obtain ⟨ys, ⟨kk', e4, hp⟩, l, rr⟩ := c
        rw [e1] at e4; cases e4
        have lk := keysT_len e1
        obtain ⟨zs, q1, q2, q3⟩ := putL_sound (x := x) rr rv (by rw [← lk]; exact l)
        have xo : ∀ ho, Ex (fun q => q = p) μ H μ (upd H p ho) := fun ho => ex_own hz rfl hp (fun _ z => nomatch z) fun _ _ z => nomatch z
        obtain ⟨b, rfl, hb⟩ := keyT_val rk e2
        refine ⟨.dT (putK (kk.zip ys) x vv), DPut.t hp hb (by rw [List.length_zip, ← lk, ← l]; simpa using hl), zs, ⟨_, ?_, by rw [q1]; exact upd_same⟩, ?_, q2.mono (xo _)⟩
        · simp only [putKD]; split
          · exact e1
          · exact keysT_app e1 e2
        · simp only [putKD]
          rw [← q3]
          split <;> simp [lk]
      · cases e3
    · cases e
  · cases e
def putS (i : Nat) (k v : E) : C := fun ρ s => match ρ[i]? with
  | some (some (.o d)) => (v ρ s).stm ρ fun x s => (k ρ s).stm ρ fun y s => match putO d y x with | some d' => .nx (ρ.set i (some (.o d'))) s | none => .bad
  | _ => .bad
theorem qs_put {x : Str} (i : Nat) {k : Expr} {mk mv : E} {px p : Pos} (hu : X.A.units + 1 < cLine) (hv : PE X e (liftE (wd X) W mv)) (hk : PE X k (liftB (wd X) W mk)) (hN : X.N[i]? = some x := by rfl) (hvis : Vis X.env.scope x := by first | exact Or.inl rfl | exact Or.inr (Or.inl rfl) | exact Or.inr (Or.inr rfl)) (hd : (x == ("__debug__" : Str)) = false := by decide)
    (hcd : (x == ("__classdict__" : Str)) = false := by decide) (hs : swapsWith e (some (.Subscript (.Name x px) k p)) pos.line X.env = pure false := by rfl) : QS X W Fr (.Assign [.Subscript (.Name x px) k p] e pos) (putS i mk mv) :=
  ps_imp (ps_dput hu (pe_var hN hvis hd hcd) hk hv hs) fun De σ H ⟨μ, ρ, s, hf, he, hst, h⟩ => by
    unfold putS at h
    split at h
    · rename_i d0 ei
      exact ⟨Fr, μ, ρ, s, he, hst, runs_stm (Rel1 := RV (wd X)) he h fun v s1 μ1 H1 vv e1 x1 hs1 r1 h1 => by
        obtain ⟨q, eq, _⟩ := he.o i d0 ei
        refine ⟨_, eq, Fr, μ1, ρ, s1, he.mono x1, hs1, runs_stm (Rel1 := RW (wd X)) (he.mono x1) h1 fun y s2 μ2 H2 kv e2 x2 hs2 r2 h2 => ?_⟩
        have he2 := (he.mono x1).mono x2
        obtain ⟨q', eq', c, hm, hz, fr⟩ := he2.o i d0 ei
        rw [eq] at eq'; cases eq'
        split at h2
        · rename_i d' ep
          obtain ⟨ho, dp, c2⟩ := putO_sound c hz r2 (r1.mono x2) ep
          obtain ⟨u, eu, nt, nf⟩ := c.there
          exact ⟨q, _, rfl, dp, h2 μ2 _ σ (ex_own hz fr eu nt nf) (hs2.own hm hz eu nt nf) (he2.upd ei eq eu nt nf hz c2)⟩
        · exact h2.elim⟩
    · exact h.elim
/-! ### a, b = x, y -/
def parS (i j : Nat) (a : As) : C := fun ρ s => (a ρ s).stm ρ fun ds s => match ds with | [x, y] => .nx ((ρ.set i (some (.v x))).set j (some (.v y))) s | _ => .bad
def par3S (i j k : Nat) (a : As) : C := fun ρ s => (a ρ s).stm ρ fun ds s => match ds with | [x, y, z] => .nx (((ρ.set i (some (.v x))).set j (some (.v y))).set k (some (.v z))) s | _ => .bad
theorem qs_par {i j : Nat} {x y : Str} {a b : Expr} {px py pt : Pos} {kt k2 pt2} (ha : PA X [a, b] (liftA (wd X) W ms)) (hN : X.N.Nodup) (hc : X.calm = true := by rfl) (hi : X.N[i]? = some x := by rfl) (hj : X.N[j]? = some y := by rfl) (hij : i ≠ j := by decide)
    (hx : X.env.scope.names.lookup x = some .local := by rfl) (hy : X.env.scope.names.lookup y = some .local := by rfl) (h1 : swappedStores [.Tuple [.Name x px, .Name y py] kt pt] (.Tuple [a, b] k2 pt2) X.env = pure (some [x, y]) := by rfl) (h2 : swapsWithSole [.Tuple [.Name x px, .Name y py] kt pt] (.Tuple [a, b] k2 pt2) pos.line X.env = pure false := by rfl) : QS X W Fr (.Assign [.Tuple [.Name x px, .Name y py] kt pt] (.Tuple [a, b] k2 pt2) pos) (parS i j ms) :=
  ps_imp (ps_par hc hN hi hj hij hx hy ha h1 h2) fun De σ H ⟨μ, ρ, s, hf, he, hs, h⟩ => ⟨Fr, μ, ρ, s, he, hs, runs_stm (Rel1 := RVs (wd X)) he h fun ds s1 μ1 H1 vs e1 x1 hs1 r1 h1 => by
    split at h1
    · rename_i d1 d2
      obtain ⟨v, w, rfl, r2, r3⟩ := r1.inv2
      exact ⟨v, w, rfl, h1 μ1 H1 _ Ex.refl hs1 (((he.mono x1).setV r2).setV r3)⟩
    · exact h1.elim⟩
theorem qs_par3 {i j l : Nat} {x y z : Str} {a b c : Expr} {px py pz pt : Pos} {kt k2 pt2} (ha : PA X [a, b, c] (liftA (wd X) W ms)) (hN : X.N.Nodup) (hc : X.calm = true := by rfl) (hi : X.N[i]? = some x := by rfl) (hj : X.N[j]? = some y := by rfl) (hl : X.N[l]? = some z := by rfl)
    (hij : i ≠ j := by decide) (hil : i ≠ l := by decide) (hjl : j ≠ l := by decide) (hx : X.env.scope.names.lookup x = some .local := by rfl) (hy : X.env.scope.names.lookup y = some .local := by rfl) (hz : X.env.scope.names.lookup z = some .local := by rfl)
    (h1 : swappedStores [.Tuple [.Name x px, .Name y py, .Name z pz] kt pt] (.Tuple [a, b, c] k2 pt2) X.env = pure (some [x, y, z]) := by rfl) (h2 : swapsWithSole [.Tuple [.Name x px, .Name y py, .Name z pz] kt pt] (.Tuple [a, b, c] k2 pt2) pos.line X.env = pure false := by rfl) :
    QS X W Fr (.Assign [.Tuple [.Name x px, .Name y py, .Name z pz] kt pt] (.Tuple [a, b, c] k2 pt2) pos) (par3S i j l ms) :=
  ps_imp (ps_par3 hc hN hi hj hl hij hil hjl hx hy hz ha h1 h2) fun De σ H ⟨μ, ρ, s, hf, he, hs, h⟩ => ⟨Fr, μ, ρ, s, he, hs, runs_stm (Rel1 := RVs (wd X)) he h fun ds s1 μ1 H1 vs e1 x1 hs1 r1 h1 => by
    split at h1
    · obtain ⟨v1, v2, v3, rfl, r2, r3, r4⟩ := r1.inv3
      exact ⟨v1, v2, v3, rfl, h1 μ1 H1 _ Ex.refl hs1 ((((he.mono x1).setV r2).setV r3).setV r4)⟩
    · exact h1.elim⟩
/-! ### f-strings -/
def fmtE (a : E) : E := fun ρ s => (a ρ s).bind fun d s => match d with
  | .str y => if szl y.length then .ok (.str y) s else .bad
  | .int i => if decide (i.natAbs.log2 < 1920) then .ok (.str (toString i : String)) s else .bad
  | _ => .bad
def jsL : List E → Tx → E
  | [], acc, _, s => .ok (.str acc) s
  | t :: ts, acc, ρ, s => (t ρ s).bind fun d s => match d with
    | .str y => if szl (acc ++ y).length then jsL ts (acc ++ y) ρ s else .bad
    | _ => .bad
def joinedE (l : List E) : E := jsL l Str.empty
theorem q_fmt (ha : PE X e (liftE (wd X) W m)) : PE X (.FormattedValue e (-1) none pos) (liftE (wd X) W (fmtE m)) :=
  pe_imp (pe_fmt ha) fun σ H Q ⟨F0, μ, ρ, s, he, hs, h⟩ => ⟨F0, μ, ρ, s, he, hs, runs_bind (Rel1 := RV (wd X)) h fun d s1 μ1 H1 x e1 x1 hs1 r1 h1 => by
    cases d <;> try exact h1.elim
    · simp only [RV] at r1; subst r1
      have h1 : runs (wd X) W σ μ1 H1 (RV (wd X)) Q (if decide (_ < 1920) = true then .ok (.str (toString _ : String)) s1 else .bad) := h1
      split at h1
      · rename_i hz
        exact .inr ⟨_, rfl, of_decide_eq_true hz, runs_pure h1 hs1 (by simp only [RV])⟩
      · exact h1.elim
    · simp only [RV] at r1; subst r1
      have h1 : runs (wd X) W σ μ1 H1 (RV (wd X)) Q (if szl _ = true then .ok (.str _) s1 else .bad) := h1
      split at h1
      · rename_i hz
        exact .inl ⟨_, rfl, of_decide_eq_true hz, runs_pure h1 hs1 (by simp only [RV])⟩
      · exact h1.elim⟩
inductive QJ (X : Cx) (W : WX) : List Expr → List E → Prop where
  | nil : QJ X W [] []
  | cons {e : Expr} {m : E} {es : List Expr} {ms : List E} (h : PE X e (liftE (wd X) W m)) (r : QJ X W es ms) : QJ X W (e :: es) (m :: ms)
theorem QJ.pj {es : List Expr} {ms : List E} (h : QJ X W es ms) : PJ X es (ms.map (liftE (wd X) W)) := by
  induction h with
  | nil => exact .nil
  | cons h r ih => exact .cons h ih
theorem js_sound {σ : L2.St} {Q : VK} {F0 : Addr → Prop} : ∀ {ms : List E} {acc : Tx} {μ : M} {ρ : En} {s : S} {H : Hp}, REn (wd X) F0 μ H ρ σ → Rs (wd X) μ H s → runs (wd X) W σ μ H (RV (wd X)) Q (jsL ms acc ρ s) → tJs (ms.map (liftE (wd X) W)) acc σ H fun out H1 => Q (.str out) H1
  | [], acc, μ, ρ, s, H, he, hs, h => runs_pure (show runs (wd X) W σ μ H (RV (wd X)) Q (.ok (.str acc) s) from h) hs (by simp only [RV])
  | m :: ms, acc, μ, ρ, s, H, he, hs, h => ⟨F0, μ, ρ, s, he, hs, runs_bind (Rel1 := RV (wd X)) h fun d s1 μ1 H1 x e1 x1 hs1 r1 h1 => by
    cases d <;> try exact h1.elim
    simp only [RV] at r1; subst r1
    have h1 : runs (wd X) W σ μ1 H1 (RV (wd X)) Q (if szl (acc ++ _).length = true then jsL ms (acc ++ _) ρ s1 else .bad) := h1
    split at h1
    · rename_i hz
      exact ⟨_, rfl, of_decide_eq_true hz, js_sound (he.mono x1) hs1 h1⟩
    · exact h1.elim⟩
theorem q_joined {v1 v2 : Expr} {rest : List Expr} {ms : List E} (h : QJ X W (v1 :: v2 :: rest) ms) : PE X (.JoinedStr (v1 :: v2 :: rest) pos) (liftE (wd X) W (joinedE ms)) :=
  pe_imp (pe_joined h.pj) fun σ H Q ⟨F0, μ, ρ, s, he, hs, hh⟩ => js_sound he hs hh
theorem q_joined1 (h : PE X e (liftE (wd X) W m)) : PE X (.JoinedStr [e] pos) (liftE (wd X) W m) := pe_joined1 h
/-! ### in -/
def flatD : D → Bool
  | .non => true | .bl _ => true | .int _ => true | .str _ => true | _ => false
def eqFl : D → D → Bool
  | .non, .non => true
  | .bl a, .bl b => a == b
  | .bl a, .int b => (if a then 1 else 0) == b
  | .int a, .bl b => a == (if b then 1 else 0)
  | .int a, .int b => a == b
  | .str a, .str b => a == b
  | _, _ => false
def inB (s : S) (x y : D) : Option Bool := match seqOf s y with
  | some ys => if flatD x && ys.all flatD then some (ys.any fun z => eqFl z x) else match lsOf s y with
    | some _ => match toP s x, toP s y with
      | some p, some (.list qs) => if SeqAt.shaped p && SeqAt.shaped (.list qs) then some (qs.any fun z => PyData.eqv z p) else none
      | _, _ => none
    | none => none
  | none => (dGet s y x).map Option.isSome
def inD (x y : D) (s : S) : R D := match inB s x y with | some b => .ok (.bl b) s | none => .bad
def notinD (x y : D) (s : S) : R D := match inB s x y with | some b => .ok (.bl (!b)) s | none => .bad
theorem flat_val {g : Wd} {μ : M} {H : Hp} {d : D} {x : V} (r : RW g μ H d x) (h : flatD d = true) : flatV x = true ∧ ∀ e y, RV g μ H e y → flatD e = true → eqV y x = eqFl e d := by
  cases d <;> simp only [flatD, Bool.false_eq_true] at h
  · obtain rfl := w_non r
    refine ⟨rfl, fun e y re he => ?_⟩
    cases e <;> simp only [flatD, Bool.false_eq_true] at he <;> simp only [RV] at re <;> subst re <;> rfl
  · obtain rfl := w_bl r
    refine ⟨rfl, fun e y re he => ?_⟩
    cases e <;> simp only [flatD, Bool.false_eq_true] at he <;> simp only [RV] at re <;> subst re <;> rfl
  · obtain rfl := w_int r
    refine ⟨rfl, fun e y re he => ?_⟩
    cases e <;> simp only [flatD, Bool.false_eq_true] at he <;> simp only [RV] at re <;> subst re <;> rfl
  · obtain rfl := w_str r
    refine ⟨rfl, fun e y re he => ?_⟩
    cases e <;> simp only [flatD, Bool.false_eq_true] at he <;> simp only [RV] at re <;> subst re <;> rfl
theorem flat_all {g : Wd} {μ : M} {H : Hp} {d : D} {x : V} (r : RW g μ H d x) (h : flatD d = true) : ∀ {ds : List D} {ys : List V}, RVs g μ H ds ys → ds.all flatD = true → ys.all flatV = true ∧ inV x ys = ds.any fun z => eqFl z d
  | [], ys, rr, _ => by simp only [RVs] at rr; subst rr; exact ⟨rfl, rfl⟩
  | e :: ds, ys, rr, ha => by
    simp only [RVs] at rr
    obtain ⟨y, r', rfl, re, rb⟩ := rr
    simp only [List.all_cons, Bool.and_eq_true] at ha
    obtain ⟨a, b⟩ := flat_all r h rb ha.2
    obtain ⟨_, k⟩ := flat_val r h
    refine ⟨?_, ?_⟩
    · simp only [List.all_cons, Bool.and_eq_true]
      exact ⟨(flat_val re.w ha.1).1, a⟩
    · unfold inV at b ⊢
      simp only [List.any_cons]
      rw [k e y re ha.1, b]
theorem in_sound {g : Wd} {μ : M} {H : Hp} {s : S} {d e : D} {x y : V} {k : Bool} (hs : Rs g μ H s) (r1 : RW g μ H d x) (r2 : RW g μ H e y) (h : inB s d e = some k) :
    (∃ p ys, y = .ref p ∧ (SqL g.K H p ys ∨ SqT g.K H p ys) ∧ flatV x = true ∧ ys.all flatV = true ∧ k = inV x ys) ∨ (∃ p ps, Dp g.K H x p ∧ Dp g.K H y (.list ps) ∧ SeqAt.shaped p = true ∧ SeqAt.shaped (.list ps) = true ∧ k = ps.any fun z => PyData.eqv z p) ∨ ∃ p o, y = .ref p ∧ DGet H p x o ∧ k = o.isSome := by
  unfold inB at h
  split at h
  · rename_i ys es
    split at h
    · rename_i hf
      simp only [Bool.and_eq_true] at hf
      cases h
      obtain ⟨p, vs, rfl, q, rr⟩ := seqOf_sound hs r2 es
      obtain ⟨a, b⟩ := flat_all r1 hf.1 rr hf.2
      exact .inl ⟨p, vs, rfl, q.symm, (flat_val r1 hf.1).1, a, b.symm⟩
    · split at h
      · split at h
        · rename_i p qs e1 e2
          split at h
          · rename_i hz
            cases h
            simp only [Bool.and_eq_true] at hz
            exact .inr (.inl ⟨p, qs, toP_sound hs r1 e1, toP_sound hs r2 e2, hz.1, hz.2, rfl⟩)
          · cases h
        · cases h
      · cases h
  · simp only [Option.map_eq_some_iff] at h
    obtain ⟨o, h1, rfl⟩ := h
    obtain ⟨p, r, rfl, dg, k1, k2⟩ := dGet_sound hs r2 r1 h1
    refine .inr (.inr ⟨p, r, rfl, dg, ?_⟩)
    cases o with
    | none => rw [k2 rfl]; rfl
    | some v => obtain ⟨w, rfl, _⟩ := k1 v rfl; rfl
theorem qo_in (hu : X.A.units + 65 < cLine) : QOp X (compareOp .In) inD := by
  intro pins sh σ H x y v u Q I rx ry ⟨μ, s, d, e, hs, r1, r2, W, σ', h⟩
  unfold inD at h
  split at h
  · rename_i b hb
    have q := rf_bl h hs
    rcases in_sound hs r1 r2 hb with ⟨p, ys, rfl, z1, z2, z3, rfl⟩ | ⟨p, ps, z1, z2, z3, z4, rfl⟩ | ⟨p, o, rfl, dg, rfl⟩
    · exact op_in_seq pins sh σ H _ _ v u Q I rx ry ⟨p, ys, rfl, z1, z2, z3, q⟩
    · exact op_inD hu pins sh σ H _ _ v u Q I rx ry ⟨p, ps, z1, z2, z3, z4, q⟩
    · obtain rfl : u = Value.ref p := ry
      exact d_in (by omega) I dg rx fun s' I' => ⟨.bl _, H, I', rfl, q⟩
  · exact h.elim
theorem qo_notin (hu : X.A.units + 65 < cLine) : QOp X (compareOp .NotIn) notinD := by
  intro pins sh σ H x y v u Q I rx ry ⟨μ, s, d, e, hs, r1, r2, W, σ', h⟩
  unfold notinD at h
  split at h
  · rename_i b hb
    have q := rf_bl h hs
    rcases in_sound hs r1 r2 hb with ⟨p, ys, rfl, z1, z2, z3, rfl⟩ | ⟨p, ps, z1, z2, z3, z4, rfl⟩ | ⟨p, o, rfl, dg, rfl⟩
    · exact op_notIn_seq pins sh σ H _ _ v u Q I rx ry ⟨p, ys, rfl, z1, z2, z3, q⟩
    · exact op_notInD hu pins sh σ H _ _ v u Q I rx ry ⟨p, ps, z1, z2, z3, z4, q⟩
    · obtain rfl : u = Value.ref p := ry
      exact d_notIn (by omega) I dg rx fun s' I' => ⟨.bl _, H, I', rfl, q⟩
  · exact h.elim
end
end Fv

namespace Fv
open PySem PySem.Spec PyProof.Rows L2
/-! ### own classes: fields -/
def lookN : List Tx → List D → Tx → Option D
  | n :: ns, v :: vs, f => if f = n then some v else lookN ns vs f
  | _, _, _ => none
def putN (f : Tx) (d : D) : List Tx → List D → List Tx × List D
  | n :: ns, v :: vs => if n = f then (n :: ns, d :: vs) else (n :: (putN f d ns vs).1, v :: (putN f d ns vs).2)
  | _, _ => ([f], [d])
/-- the class and the fields of an object -/
def objOf (s : S) : D → Option (Tx × List Tx × List D)
  | .obj c ns vs => some (c, ns, vs)
  | .ref a => match s[a]? with | some (.obj c ns vs) => some (c, ns, vs) | _ => none
  | _ => none
theorem lk {β : Type} (f g : Tx) (y : β) (fs : List (Tx × β)) : ((f, y) :: fs).lookup g = if g = f then some y else fs.lookup g := by
  by_cases h : g = f
  · subst h; simp [List.lookup]
  · have e : (g == f) = false := by simpa using h
    simp [List.lookup, e, h]
theorem lookN_sound {g : Wd} {μ : M} {H : Hp} {f : Tx} : ∀ {ns : List Tx} {vs : List D} {ys : List V}, RVs g μ H vs ys → ns.length = ys.length →
    (∀ d, lookN ns vs f = some d → ∃ y, (ns.zip ys).lookup f = some y ∧ RV g μ H d y) ∧ (lookN ns vs f = none → (ns.zip ys).lookup f = none)
  | [], vs, ys, r, l => ⟨fun d e => by simp [lookN] at e, fun _ => by simp⟩
  | n :: ns, vs, [], r, l => by cases l
  | n :: ns, [], y :: ys, r, l => by simp only [RVs] at r; cases r
  | n :: ns, v :: vs, y :: ys, r, l => by
    simp only [RVs] at r
    obtain ⟨y', r', e, a, b⟩ := r
    cases e
    obtain ⟨h1, h2⟩ := lookN_sound (f := f) b (Nat.succ.inj l)
    by_cases h : f = n
    · exact ⟨fun d e => by rw [lookN, if_pos h] at e; cases e; exact ⟨y, by rw [List.zip_cons_cons, lk, if_pos h], a⟩, fun e => by rw [lookN, if_pos h] at e; cases e⟩
    · exact ⟨fun d e => by rw [lookN, if_neg h] at e; rw [List.zip_cons_cons, lk, if_neg h]; exact h1 d e, fun e => by rw [lookN, if_neg h] at e; rw [List.zip_cons_cons, lk, if_neg h]; exact h2 e⟩
theorem putN_sound {g : Wd} {μ : M} {H : Hp} {f : Tx} {d : D} {y : V} (rd : RV g μ H d y) : ∀ {ns : List Tx} {vs : List D} {ys : List V}, RVs g μ H vs ys → ns.length = ys.length →
    ∃ zs, putF f y (ns.zip ys) = (putN f d ns vs).1.zip zs ∧ RVs g μ H (putN f d ns vs).2 zs ∧ (putN f d ns vs).1.length = zs.length
  | [], vs, ys, r, l => by
    have : ys = [] := List.length_eq_zero_iff.mp l.symm
    subst this
    exact ⟨[y], by simp [putN, putF], by simp only [putN]; exact .one rd, by simp [putN]⟩
  | n :: ns, vs, [], r, l => by cases l
  | n :: ns, [], y :: ys, r, l => by simp only [RVs] at r; cases r
  | n :: ns, v :: vs, y0 :: ys, r, l => by
    simp only [RVs] at r
    obtain ⟨y', r', e, a, b⟩ := r
    cases e
    obtain ⟨zs, h1, h2, h3⟩ := putN_sound (f := f) rd b (Nat.succ.inj l)
    by_cases h : n = f
    · exact ⟨y :: ys, by simp [putN, putF, h], by simp only [putN, if_pos h]; exact ⟨y, ys, rfl, rd, b⟩, by simp only [putN, if_pos h]; exact l⟩
    · exact ⟨y0 :: zs, by simp [putN, putF, h, h1], by simp only [putN, if_neg h]; exact ⟨y0, zs, rfl, a, h2⟩, by simp only [putN, if_neg h]; simpa using h3⟩
theorem objOf_sound {g : Wd} {μ : M} {H : Hp} {s : S} {d : D} {x : V} {c : Tx} {ns : List Tx} {vs : List D} (hs : Rs g μ H s) (r : RW g μ H d x) (e : objOf s d = some (c, ns, vs)) : ∃ p C dx ys, x = .ref p ∧ g.mg c = some (.ref C) ∧ H p = some (.ins C dx (ns.zip ys)) ∧ ns.length = ys.length ∧ RVs g μ H vs ys := by
  rcases r with r | ⟨hd, p, rfl, hm, k⟩
  · cases d with
    | obj c' ns' vs' =>
      simp only [objOf, Option.some.injEq, Prod.mk.injEq] at e
      obtain ⟨rfl, rfl, rfl⟩ := e
      simp only [RV] at r
      obtain ⟨p, ys, rfl, z, ⟨C, dx, m, q⟩, l, rr⟩ := r
      exact ⟨p, C, dx, ys, rfl, m, q, l, rr⟩
    | ref a =>
      simp only [RV] at r
      obtain ⟨p, ep, rfl⟩ := r
      simp only [objOf] at e
      split at e
      · rename_i c' ns' vs' ei
        cases e
        obtain ⟨ys, ⟨C, dx, m, q⟩, l, rr⟩ := hs.at_ _ _ _ ei ep
        exact ⟨p, C, dx, ys, rfl, m, q, l, rr⟩
      · cases e
    | _ => cases e
  · cases d with
    | obj c' ns' vs' =>
      simp only [objOf, Option.some.injEq, Prod.mk.injEq] at e
      obtain ⟨rfl, rfl, rfl⟩ := e
      obtain ⟨ys, ⟨C, dx, m, q⟩, l, rr⟩ := k
      exact ⟨p, C, dx, ys, rfl, m, q, l, rr⟩
    | ref a => cases hd
    | _ => cases e
def fldE (cs : List Tx) (f : Tx) (m : E) : E := fun ρ s => (m ρ s).bind fun d s => match objOf s d with
  | some (c, ns, vs) => match lookN ns vs f with | some v => if c ∈ cs then .ok v s else .bad | none => .bad
  | none => .bad
/-- what the written part says of classes whose objects have the field -/
def FldK (K : PySem.W.Frag) (mg : Str → Option Value) (cs : List Tx) (f : Str) : Prop := ∀ c ∈ cs, ∀ C, mg c = some (.ref C) → Cls K C ∧ NoAttr K C f
section
variable {X : Cx} {W : WX} {Fr : Addr → Prop} {pos p' : Pos} {o e : Expr} {es : List Expr} {m mo me : E} {ms : As} {f : Str} {cs : List Tx} {fn : Fn} {k : Nat}
theorem q_fld (hk : FldK X.K X.mg cs f) (he : PE X e (liftB (wd X) W m)) (hb : attributeBase e f X.env (eval e X.env) = eval e X.env := by rfl) : PE X (.Attribute e f pos) (liftE (wd X) W (fldE cs f m)) :=
  pe_imp (pe_fld he hb) fun σ H Q ⟨F0, μ, ρ, s, hρ, hs, h⟩ => ⟨F0, μ, ρ, s, hρ, hs, runs_bind (Rel1 := RW (wd X)) h fun d s1 μ1 H1 x e1 x1 hs1 r1 h1 => by
    split at h1
    · rename_i c ns vs eo
      split at h1
      · rename_i v ev
        split at h1
        · rename_i hc
          obtain ⟨p, C, dx, ys, rfl, mC, q, l, rr⟩ := objOf_sound hs1 r1 eo
          obtain ⟨y, ey, ry⟩ := (lookN_sound (f := f) rr l).1 v ev
          obtain ⟨k1, k2⟩ := hk c hc C mC
          exact ⟨p, C, dx, _, y, rfl, q, k1, k2, ey, runs_pure h1 hs1 ry⟩
        · exact h1.elim
      · exact h1.elim
    · exact h1.elim⟩
/-- o.f = e, o an object of the store -/
def fstD (cs : List Tx) (f : Tx) (o d : D) (s : S) : Option S := match o with
  | .ref a => match s[a]? with
    | some (.obj c ns vs) => if c ∈ cs ∧ ns.length < 1000 then some (s.set a (.obj c (putN f d ns vs).1 (putN f d ns vs).2)) else none
    | _ => none
  | _ => none
def fstS (cs : List Tx) (f : Tx) (mo me : E) : C := fun ρ s => (me ρ s).stm ρ fun d s => (mo ρ s).stm ρ fun o s => match fstD cs f o d s with | some s' => .nx ρ s' | none => .bad
theorem fstD_sound {g : Wd} {μ : M} {H : Hp} {s s' : S} {od d : D} {x y : V} {f : Str} (hk : FldK g.K g.mg cs f) (hs : Rs g μ H s) (ro : RV g μ H od x) (rd : RV g μ H d y) (e : fstD cs f od d s = some s') :
    ∃ p C dx fs, x = .ref p ∧ H p = some (.ins C dx fs) ∧ Cls g.K C ∧ NoAttr g.K C f ∧ fs.length < 1000 ∧ Ex Fn0 μ H μ (upd H p (.ins C dx (putF f y fs))) ∧ Rs g μ (upd H p (.ins C dx (putF f y fs))) s' := by
  unfold fstD at e
  split at e
  · rename_i a
    split at e
    · rename_i c ns vs ei
      split at e
      · rename_i hc
        cases e
        simp only [RV] at ro
        obtain ⟨p, ep, rfl⟩ := ro
        obtain ⟨ys, ⟨C, dx, mC, q⟩, l, rr⟩ := hs.at_ _ _ _ ei ep
        obtain ⟨k1, k2⟩ := hk c hc.1 C mC
        obtain ⟨zs, z1, z2, z3⟩ := putN_sound (f := f) rd rr l
        have xo : Ex Fn0 μ H μ (upd H p (.ins C dx (putF f y (ns.zip ys)))) := ex_put (List.mem_of_getElem? ep) q (fun _ z => nomatch z) fun _ _ z => nomatch z
        exact ⟨p, C, dx, _, rfl, q, k1, k2, by rw [List.length_zip, l]; have := hc.2; omega, xo, hs.put (o := .obj c _ _) ep q (fun _ z => nomatch z) (fun _ _ z => nomatch z) ⟨zs, ⟨C, dx, mC, by rw [← z1]; exact upd_same⟩, z3, z2.mono xo⟩⟩
      · cases e
    · cases e
  · cases e
theorem qs_fst (hk : FldK X.K X.mg cs f) (ho : PE X o (liftE (wd X) W mo)) (he : PE X e (liftE (wd X) W me)) (hw : swapsWith e (some (.Attribute o f p')) pos.line X.env = pure false := by rfl) :
    QS X W Fr (.Assign [.Attribute o f p'] e pos) (fstS cs f mo me) :=
  ps_imp (ps_fld ho he hw) fun De σ H ⟨μ, ρ, s, hf, hρ, hst, h⟩ => ⟨Fr, μ, ρ, s, hρ, hst, runs_stm (Rel1 := RV (wd X)) hρ h fun d s1 μ1 H1 y e1 x1 hs1 r1 h1 =>
    ⟨Fr, μ1, ρ, s1, hρ.mono x1, hs1, runs_stm (Rel1 := RV (wd X)) (hρ.mono x1) h1 fun od s2 μ2 H2 x e2 x2 hs2 r2 h2 => by
      split at h2
      · rename_i s' es
        obtain ⟨p, C, dx, fs, e3, q, k1, k2, l, xo, hs3⟩ := fstD_sound hk hs2 r2 (r1.mono x2) es
        exact ⟨p, C, dx, fs, e3, q, k1, k2, l, h2 μ2 _ σ xo.s hs3 (((hρ.mono x1).mono x2).mono xo)⟩
      · exact h2.elim⟩⟩
end
/-! ### the store is cut back -/
mutual
def D.inB (n : Nat) : D → Bool
  | .ref a => decide (a < n)
  | .tup xs => D.inBs n xs
  | .ktup xs => D.inBs n xs
  | .lst xs => D.inBs n xs
  | .fl xs => D.inBs n xs
  | .dct _ vs => D.inBs n vs
  | .dtt _ vs => D.inBs n vs
  | .obj _ _ vs => D.inBs n vs
  | .exh _ _ vs => D.inBs n vs
  | _ => true
def D.inBs (n : Nat) : List D → Bool
  | [] => true
  | x :: xs => D.inB n x && D.inBs n xs
end
mutual
theorem RV.inB {g : Wd} {μ : M} {H : Hp} : ∀ {d : D} {v : V}, RV g μ H d v → D.inB μ.m.length d = true
  | .non, _, _ => rfl
  | .bl _, _, _ => rfl
  | .int _, _, _ => rfl
  | .str _, _, _ => rfl
  | .ty _, _, _ => rfl
  | .gl _, _, _ => rfl
  | .exc _ _, _, r => by simp only [RV] at r
  | .xn _ _, _, r => by simp only [RV] at r
  | .set _, _, _ => rfl
  | .ref a, v, r => by
    simp only [RV] at r
    obtain ⟨p, e, _⟩ := r
    simp only [D.inB, decide_eq_true_eq]
    exact (List.getElem?_eq_some_iff.mp e).1
  | .tup ds, v, r => by simp only [RV] at r; obtain ⟨p, ys, _, _, r⟩ := r; simp only [D.inB]; exact RVs.inB r
  | .ktup ds, v, r => by simp only [RV] at r; obtain ⟨p, ys, _, _, r⟩ := r; simp only [D.inB]; exact RVs.inB r
  | .lst ds, v, r => by simp only [RV] at r; obtain ⟨p, ys, _, _, _, r⟩ := r; simp only [D.inB]; exact RVs.inB r
  | .fl ds, v, r => by simp only [RV] at r; obtain ⟨p, ys, _, _, r⟩ := r; simp only [D.inB]; exact RVs.inB r
  | .dct ks ds, v, r => by simp only [RV] at r; obtain ⟨p, ys, _, _, _, _, r⟩ := r; simp only [D.inB]; exact RVs.inB r
  | .dtt ks ds, v, r => by simp only [RV] at r; obtain ⟨p, ys, _, _, _, _, r⟩ := r; simp only [D.inB]; exact RVs.inB r
  | .obj c ns ds, v, r => by simp only [RV] at r; obtain ⟨p, ys, _, _, _, _, r⟩ := r; simp only [D.inB]; exact RVs.inB r
  | .exq _, _, _ => rfl
  | .exh c ns ds, v, r => by simp only [RV] at r; obtain ⟨p, C, dx, ys, _, _, _, _, _, _, _, r⟩ := r; simp only [D.inB]; exact RVs.inB r
theorem RVs.inB {g : Wd} {μ : M} {H : Hp} : ∀ {ds : List D} {vs : List V}, RVs g μ H ds vs → D.inBs μ.m.length ds = true
  | [], _, _ => rfl
  | d :: ds, vs, r => by
    simp only [RVs] at r
    obtain ⟨y, r', _, a, b⟩ := r
    simp only [D.inBs, RV.inB a, RVs.inB b, Bool.and_self]
end
mutual
theorem RV.cut {g : Wd} {μ μ' : M} {H H' : Hp} {ν : List Addr} (hm : μ.m = μ'.m ++ ν) (hz : ∀ p, μ.z p → μ'.z p) (hT : ∀ p ys, H p = some (.tup ys) → H' p = some (.tup ys)) (hF : ∀ p o u, H p = some (.frz o u) → H' p = some (.frz o u)) (hZ : ∀ p u, μ.z p → H p = some u → H' p = some u) :
    ∀ {d : D} {v : V}, D.inB μ'.m.length d = true → RV g μ H d v → RV g μ' H' d v
  | .non, _, _, h => by simpa only [RV] using h
  | .bl _, _, _, h => by simpa only [RV] using h
  | .int _, _, _, h => by simpa only [RV] using h
  | .str _, _, _, h => by simpa only [RV] using h
  | .ty _, _, _, h => by simpa only [RV] using h
  | .gl _, _, _, h => by simpa only [RV] using h
  | .exc _ _, _, _, h => by simp only [RV] at h
  | .xn _ _, _, _, h => by simp only [RV] at h
  | .ref a, v, hb, h => by
    simp only [RV] at h ⊢
    simp only [D.inB, decide_eq_true_eq] at hb
    obtain ⟨q, e2, r2⟩ := h
    rw [hm, List.getElem?_append_left hb] at e2
    exact ⟨q, e2, r2⟩
  | .tup ds, v, hb, h => by
    simp only [RV] at h ⊢
    simp only [D.inB] at hb
    obtain ⟨p, ys, e, q, r⟩ := h
    exact ⟨p, ys, e, hT _ _ q, RVs.cut hm hz hT hF hZ hb r⟩
  | .ktup ds, v, hb, h => by
    simp only [RV] at h ⊢
    simp only [D.inB] at hb
    obtain ⟨p, ys, e, q, r⟩ := h
    exact ⟨p, ys, e, q, RVs.cut hm hz hT hF hZ hb r⟩
  | .lst ds, v, hb, h => by
    simp only [RV] at h ⊢
    simp only [D.inB] at hb
    obtain ⟨p, ys, e, z, q, r⟩ := h
    exact ⟨p, ys, e, hz p z, hZ p _ z q, RVs.cut hm hz hT hF hZ hb r⟩
  | .fl ds, v, hb, h => by
    simp only [RV] at h ⊢
    simp only [D.inB] at hb
    obtain ⟨p, ys, e, q, r⟩ := h
    exact ⟨p, ys, e, q.imp (fun ⟨o, k⟩ => ⟨o, hF _ _ _ k⟩) id, RVs.cut hm hz hT hF hZ hb r⟩
  | .dct ks ds, v, hb, h => by
    simp only [RV] at h ⊢
    simp only [D.inB] at hb
    obtain ⟨p, ys, e, z, q, l, r⟩ := h
    exact ⟨p, ys, e, hz p z, q.at fun u => hZ p u z, l, RVs.cut hm hz hT hF hZ hb r⟩
  | .dtt ks ds, v, hb, h => by
    simp only [RV] at h ⊢
    simp only [D.inB] at hb
    obtain ⟨p, ys, e, z, q, l, r⟩ := h
    exact ⟨p, ys, e, hz p z, q.at fun u => hZ p u z, l, RVs.cut hm hz hT hF hZ hb r⟩
  | .set ks, v, hb, h => by
    simp only [RV] at h ⊢
    obtain ⟨p, e, z, q⟩ := h
    exact ⟨p, e, hz p z, q.at fun u => hZ p u z⟩
  | .obj c ns ds, v, hb, h => by
    simp only [RV] at h ⊢
    simp only [D.inB] at hb
    obtain ⟨p, ys, e, z, q, l, r⟩ := h
    exact ⟨p, ys, e, hz p z, q.at fun u => hZ p u z, l, RVs.cut hm hz hT hF hZ hb r⟩
  | .exq c, v, hb, h => by
    simp only [RV] at h ⊢
    obtain ⟨p, C, e, z1, m, a⟩ := h
    exact ⟨p, C, e, hz p z1, m, hZ p _ z1 a⟩
  | .exh c ns ds, v, hb, h => by
    simp only [RV] at h ⊢
    simp only [D.inB] at hb
    obtain ⟨p, C, dx, ys, e, z1, z2, m, a, b, l, r⟩ := h
    exact ⟨p, C, dx, ys, e, hz p z1, hz dx z2, m, hZ p _ z1 a, hZ dx _ z2 b, l, RVs.cut hm hz hT hF hZ hb r⟩
theorem RVs.cut {g : Wd} {μ μ' : M} {H H' : Hp} {ν : List Addr} (hm : μ.m = μ'.m ++ ν) (hz : ∀ p, μ.z p → μ'.z p) (hT : ∀ p ys, H p = some (.tup ys) → H' p = some (.tup ys)) (hF : ∀ p o u, H p = some (.frz o u) → H' p = some (.frz o u)) (hZ : ∀ p u, μ.z p → H p = some u → H' p = some u) :
    ∀ {ds : List D} {vs : List V}, D.inBs μ'.m.length ds = true → RVs g μ H ds vs → RVs g μ' H' ds vs
  | [], _, _, h => by simpa only [RVs] using h
  | d :: ds, vs, hb, h => by
    simp only [RVs] at h ⊢
    simp only [D.inBs, Bool.and_eq_true] at hb
    obtain ⟨y, r, e, a, b⟩ := h
    exact ⟨y, r, e, RV.cut hm hz hT hF hZ hb.1 a, RVs.cut hm hz hT hF hZ hb.2 b⟩
end
/-- what stands in the store -/
def D.inC (n : Nat) : D → Bool
  | .lst xs => D.inBs n xs
  | .dct _ vs => D.inBs n vs
  | .dtt _ vs => D.inBs n vs
  | .obj _ _ vs => D.inBs n vs
  | .exc _ (some j) => decide (j < n)
  | .xn _ vs => D.inBs n vs
  | _ => true
theorem Ce.inC {g : Wd} {μ : M} {H : Hp} {p : Addr} {d : D} (h : Ce g μ H p d) : D.inC μ.m.length d = true := by
  cases d <;> simp only [Ce] at h <;> simp only [D.inC]
  · obtain ⟨ys, _, r⟩ := h; exact r.inB
  · obtain ⟨ys, _, _, r⟩ := h; exact r.inB
  · obtain ⟨ys, _, _, r⟩ := h; exact r.inB
  · obtain ⟨ys, _, _, r⟩ := h; exact r.inB
  · rename_i c d
    cases d with
    | none => rfl
    | some j =>
      obtain ⟨C, _, ⟨z, _⟩ | ⟨j', dx, z, ej, _⟩⟩ := h
      · cases z
      · cases z
        simp only [D.inC, decide_eq_true_eq]
        exact (List.getElem?_eq_some_iff.mp ej).1
  · obtain ⟨ys, _, _, r⟩ := h; exact r.inB
theorem Ce.cut {g : Wd} {μ μ' : M} {H H' : Hp} {ν : List Addr} (hm : μ.m = μ'.m ++ ν) (hz : ∀ p, μ.z p → μ'.z p) (hT : ∀ p ys, H p = some (.tup ys) → H' p = some (.tup ys)) (hF : ∀ p o u, H p = some (.frz o u) → H' p = some (.frz o u)) (hZ : ∀ p u, μ.z p → H p = some u → H' p = some u)
    {p : Addr} {d : D} (k : ∀ u, H p = some u → H' p = some u) (hb : D.inC μ'.m.length d = true) (h : Ce g μ H p d) : Ce g μ' H' p d := by
  cases d <;> simp only [Ce] at h ⊢ <;> simp only [D.inC] at hb
  · obtain ⟨ys, a, r⟩ := h; exact ⟨ys, k _ a, r.cut hm hz hT hF hZ hb⟩
  · obtain ⟨ys, a, l, r⟩ := h; exact ⟨ys, a.at k, l, r.cut hm hz hT hF hZ hb⟩
  · obtain ⟨ys, a, l, r⟩ := h; exact ⟨ys, a.at k, l, r.cut hm hz hT hF hZ hb⟩
  · exact h.at k
  · obtain ⟨ys, a, l, r⟩ := h; exact ⟨ys, a.at k, l, r.cut hm hz hT hF hZ hb⟩
  · rename_i c d
    obtain ⟨C, m, ⟨d0, a⟩ | ⟨j, dx, d0, ej, a⟩⟩ := h
    · exact ⟨C, m, .inl ⟨d0, k _ a⟩⟩
    · subst d0
      simp only [D.inC, decide_eq_true_eq] at hb
      rw [hm, List.getElem?_append_left hb] at ej
      exact ⟨C, m, .inr ⟨j, dx, rfl, ej, k _ a⟩⟩
  · obtain ⟨ys, a, l, r⟩ := h; exact ⟨ys, k _ a, l, r.cut hm hz hT hF hZ hb⟩
/-- the last object of the store leaves it, and stays as it is -/
theorem cut_last {g : Wd} {μ1 μ2 : M} {H1 H2 : Hp} {s1 : S} {p : Addr} {o : D} (hs1 : Rs g μ1 H1 s1) (hm : μ2.m = μ1.m ++ [p]) (x : ∃ μ0 H0, Ex Fn0 μ0 H0 μ2 H2 ∧ μ0.m = μ1.m ++ [p] ∧ (∀ q, μ0.z q → μ1.z q) ∧ (∀ q, H0 q = none → H1 q = none) ∧ (∀ q u, H1 q = some u → H0 q = some u) ∧ (∀ q, μ1.z q → μ0.z q)) (hp : H1 p = none)
    (hs2 : Rs g μ2 H2 (s1 ++ [o])) (ho : D.inC s1.length o = true) : ∃ μ3, Ex Fn0 μ1 H1 μ3 H2 ∧ Rs g μ3 H2 s1 ∧ p ∉ μ3.m ∧ ¬ μ3.z p ∧ Ce g μ3 H2 p o ∧ μ3.m = μ1.m ∧ (∀ q, μ2.z q → μ3.z q) ∧ ∀ q, μ3.z q → μ2.z q := by
  obtain ⟨μ0, H0, x, em, ez, en, eo, ez'⟩ := x
  have np : p ∉ μ1.m := hs1.nmem hp
  have pm2 : p ∈ μ2.m := by rw [hm]; simp
  have zp2 : ¬ μ2.z p := fun z => μ2.zm p z pm2
  let μ3 : M := ⟨μ1.m, μ2.z, fun q hq h => μ2.zm q hq (by rw [hm]; exact List.mem_append_left _ h)⟩
  have hb : ∀ (i : Nat) (o' : D), s1[i]? = some o' → D.inC μ3.m.length o' = true := fun i o' e => by
    obtain ⟨q, _, c⟩ := hs1.adr e
    exact c.inC
  have ce : ∀ {q : Addr} {d : D}, D.inC μ1.m.length d = true → Ce g μ2 H2 q d → Ce g μ3 H2 q d := fun {q d} hb c => Ce.cut (μ' := μ3) hm (fun _ h => h) (fun _ _ h => h) (fun _ _ _ h => h) (fun _ _ _ h => h) (fun _ h => h) hb c
  have il : (s1 ++ [o])[s1.length]? = some o := by simp
  have ip : μ2.m[s1.length]? = some p := by rw [hm, ← hs1.len]; simp
  refine ⟨μ3, ⟨⟨[], by simp [μ3], by simp⟩, fun q h => en q (x.trk q h), fun q ys h => x.tup q ys (eo q _ h), fun q o u h => x.frz q o u (eo q _ h), fun q u h n _ => ?_, fun q h => x.zs q (ez' q h), fun q h => ?_⟩, ⟨hs1.len, hs1.nd, hs2.zt, fun i o' q ei eq => ?_⟩, np, zp2, ?_, rfl, fun _ h => h, fun _ h => h⟩
  · refine x.oth q u (eo q u h) ?_ (.inr id)
    rw [em]
    intro hq
    rcases List.mem_append.mp hq with hq | hq
    · exact n hq
    · simp at hq; subst hq; rw [hp] at h; cases h
  · rcases x.zn q h with h | h | h
    · exact .inl (ez q h)
    · exact .inr (.inl h)
    · exact .inr (.inr (en q h))
  · have hi : i < s1.length := (List.getElem?_eq_some_iff.mp ei).1
    exact ce (hb i o' ei) (hs2.at_ i o' q (by rw [List.getElem?_append_left hi]; exact ei) (by rw [hm, List.getElem?_append_left (by rw [hs1.len]; exact hi)]; exact eq))
  · exact ce (by rw [hs1.len]; exact ho) (hs2.at_ _ _ _ il ip)
end Fv

namespace Fv
open PySem PySem.Spec PyProof.Rows L2
/-! ### own classes: objects made -/
open Classical in
/-- C(..), by what __init__ does; the object stays as it is from then on -/
noncomputable def makeF (c : Tx) (f : Fn) : Fn := fun ds s1 => match f (.ref s1.length :: ds) (s1 ++ [.obj c [] []]) with
  | .ok .non s2 => match s2[s1.length]? with
    | some (.obj c' ns vs) => if s2 = s1 ++ [.obj c' ns vs] ∧ D.inBs s1.length vs = true then .ok (.obj c' ns vs) s1 else .bad
    | _ => .bad
  | .err c' ns vs s2 => match s2[s1.length]? with
    | some o => if s2 = s1 ++ [o] ∧ D.inC s1.length o = true ∧ D.inBs s1.length vs = true then .err c' ns vs s1 else .bad
    | none => .bad
  | _ => .bad
theorem makeF_ok {c : Tx} {f : Fn} {ds : List D} {s1 : S} {ns : List Tx} {vs : List D} (h : f (.ref s1.length :: ds) (s1 ++ [.obj c [] []]) = .ok .non (s1 ++ [.obj c ns vs])) (hb : D.inBs s1.length vs = true) : makeF c f ds s1 = .ok (.obj c ns vs) s1 := by
  have e : (s1 ++ [D.obj c ns vs])[s1.length]? = some (D.obj c ns vs) := by simp
  unfold makeF
  rw [h]
  simp only [e]
  simp only [hb, and_self, if_true]
theorem makeF_err {c c' : Tx} {f : Fn} {ds : List D} {s1 : S} {o : D} {ns : List Tx} {vs : List D} (h : f (.ref s1.length :: ds) (s1 ++ [.obj c [] []]) = .err c' ns vs (s1 ++ [o])) (ho : D.inC s1.length o = true) (hb : D.inBs s1.length vs = true) : makeF c f ds s1 = .err c' ns vs s1 := by
  have e : (s1 ++ [o])[s1.length]? = some o := by simp
  unfold makeF
  rw [h]
  simp only [e]
  simp only [ho, hb, and_self, if_true]
section
variable {X : Cx} {W : WX} {Fr : Addr → Prop} {k : Nat} {x c m : Str} {f : Fn} {p pos apos : Pos} {e o : Expr} {es : List Expr} {ms : As} {mo : E} {C fI : Addr}
theorem run_makeG {pins : List (Addr × Obj)} {σ : L2.St} {H : Hp} {s : Shared} {Q : VK} {us : List Value} {vs : List V} {sp : Sp} (Mk0 : Mk X.K C fI) (F : FnG X.prog X.w X.K X.mg X.base k fI sp) (hr : Rm (k + 1) X.A) (tk : Takes X W) (I : Inv X pins σ H s) (r : Vals vs us)
    (h : ∀ x dx, H x = none → H dx = none → dx ≠ x → sp (.ref x :: vs) (upd (upd H dx (.own x)) x (.ins C dx [])) (fun v H2 => v = .non ∧ Q (.ref x) H2) (fun c d H => W c d σ H)) :
    wpAny (model X.prog X.w) X.A (call (.ref C) us) (EP X pins σ Q) X.xe s := by
  have goal := h (s.heap.objs.size + 1) s.heap.objs.size (I.hok.fresh (Nat.le_succ _)) (I.hok.fresh (Nat.le_refl _)) (Nat.ne_of_lt (Nat.lt_succ_self _))
  have made := Inv.made (C := C) I
  have rr : Vals (V.ref (s.heap.objs.size + 1) :: vs) (Value.ref (s.heap.objs.size + 1) :: us) := .cons rfl r
  refine wpAny_call (make_map (f := fI) I.kIn Mk0.makes Mk0.init (beq_iff_eq.mp Mk0.fn) (codeAny_mono (F _ X.stack _ _ (Value.ref (s.heap.objs.size + 1) :: us) _ _ _ ⟨hr.r.make C us [], hr.g⟩ (made.env0.make C us []) rr goal) fun res s' hq => ?_))
  cases res with
  | error er => exact passAt tk σ pins _ _ er s' made hq
  | ok fl =>
    cases fl with
    | ret u =>
      obtain ⟨v, H', I3, rv, ev, q3⟩ := made.after hq
      subst ev
      exact ⟨rv, ⟨V.ref (s.heap.objs.size + 1), H', I3, rfl, q3⟩⟩
    | next => exact False.elim hq
    | brk => exact False.elim hq
    | cont => exact False.elim hq
/-- the new object in the store -/
theorem lay_obj {g : Wd} {μ : M} {H : Hp} {s : S} {x dx C : Addr} {c : Tx} (hs : Rs g μ H s) (mC : g.mg c = some (.ref C)) (hx : H x = none) (hd : H dx = none) (hne : dx ≠ x) :
    ∃ hz : ¬ μ.z x, Ex Fn0 μ H (μ.push x hz) (upd (upd H dx (.own x)) x (.ins C dx [])) ∧ Rs g (μ.push x hz) (upd (upd H dx (.own x)) x (.ins C dx [])) (s ++ [.obj c [] []]) ∧ RV g (μ.push x hz) (upd (upd H dx (.own x)) x (.ins C dx [])) (.ref s.length) (.ref x) := by
  have h1 : upd H dx (.own x) x = none := by rw [upd_ne (Ne.symm hne)]; exact hx
  have x1 : Ex Fn0 μ H μ (upd H dx (.own x)) := ex_new hd
  have s1 := hs.new (ho := .own x) hd
  have x2 : Ex Fn0 μ (upd H dx (.own x)) μ (upd (upd H dx (.own x)) x (.ins C dx [])) := ex_new h1
  have s2 := s1.new (ho := .ins C dx []) h1
  have nz : ¬ μ.z x := s1.nz h1
  have nm : x ∉ μ.m := s1.nmem h1
  obtain ⟨a, b⟩ := s2.adopt (o := .obj c [] []) nm nz ⟨[], ⟨C, dx, mC, upd_same⟩, rfl, by simp only [RVs]⟩
  have xx := x1.trans x2
  refine ⟨nz, ⟨?_, xx.trk, xx.tup, xx.frz, xx.oth, xx.zs, xx.zn⟩, a, b⟩
  exact ⟨[x], rfl, fun q hq => by simp at hq; subst hq; exact hx⟩
theorem one_more {μ1 μ2 : M} {x : Addr} {n : Nat} {ν : List Addr} (h : μ2.m = (μ1.m ++ [x]) ++ ν) (l1 : μ1.m.length = n) (l2 : μ2.m.length = n + 1) : μ2.m = μ1.m ++ [x] := by
  have : ν = [] := by
    rw [h] at l2
    simp only [List.length_append, List.length_cons, List.length_nil] at l2
    exact List.length_eq_zero_iff.mp (by omega)
  rw [h, this, List.append_nil]
theorem q_make (Mk0 : Mk X.K C fI) (F : FnG X.prog X.w X.K X.mg X.base k fI (spF (wd X) f)) (hr : Rm (k + 1) X.A) (tk : Takes X W) (hm : X.mg x = some (.ref C)) (ha : PA X (e :: es) (liftA (wd X) W ms)) (hg : Gl X x := by rfl) (hdb : (x == ("__debug__" : Str)) = false := by decide)
    (he : starEach (e :: es) X.env = (false, eval e X.env) :: starEach es X.env := by rfl) (hpl : (backTo pos (starEach es X.env)).any (·.1) = false := by rfl) : PE X (.Call (.Name x p) (e :: es) [] pos) (liftF (wd X) W (callE (makeF x f) ms)) := by
  refine ⟨fun pins sh σ H Q I ⟨F0, μ, ρ, s, hρ, hs, h⟩ => ?_⟩
  refine wpAny_Call_Name_kw (ld_glob I hg hm ?_ hdb)
  have hq : liftA (wd X) W ms σ H fun vs H1 => ∀ y dx, H1 y = none → H1 dx = none → dx ≠ y → spF (wd X) f (.ref y :: vs) (upd (upd H1 dx (.own y)) y (.ins C dx [])) (fun v H2 => v = .non ∧ Q (.ref y) H2) (fun c d H => W c d σ H) :=
    ⟨F0, μ, ρ, s, hρ, hs, runs_bind (Rel1 := RVs (wd X)) h fun ds s1 μ1 H1 vs e1 x1 hs1 r1 h1 y dx hy hd hne => by
      obtain ⟨hz, x2, hs2, rv⟩ := lay_obj (c := x) hs1 hm hy hd hne
      refine ⟨μ1.push y hz, .ref s1.length :: ds, s1 ++ [.obj x [] []], ⟨.ref y, vs, rfl, rv, r1.mono x2⟩, hs2, ?_⟩
      have cut : ∀ {μ2 : M} {H3 : Hp} {o : D}, Ex Fn0 (μ1.push y hz) (upd (upd H1 dx (.own y)) y (.ins C dx [])) μ2 H3 → Rs (wd X) μ2 H3 (s1 ++ [o]) → D.inC s1.length o = true →
          ∃ μ3, Ex Fn0 μ1 H1 μ3 H3 ∧ Rs (wd X) μ3 H3 s1 ∧ y ∉ μ3.m ∧ ¬ μ3.z y ∧ Ce (wd X) μ3 H3 y o ∧ μ3.m = μ1.m ∧ μ2.m = μ1.m ++ [y] ∧ (∀ q, μ2.z q → μ3.z q) ∧ ∀ q, μ3.z q → μ2.z q := by
        intro μ2 H3 o x3 hs3 ho
        obtain ⟨ν, eν, _⟩ := x3.pre
        have em := one_more (μ1 := μ1) (μ2 := μ2) (x := y) eν hs1.len (by rw [hs3.len]; simp)
        obtain ⟨μ3, a1, a2, a3, a4, a5, a6, a7, a8⟩ := cut_last hs1 em ⟨_, _, x3, rfl, fun _ h => h, fun q h => x2.trk q h, fun q u h => by
          have hq1 : q ≠ dx := ne_of_none h hd
          have hq2 : q ≠ y := ne_of_none h hy
          rw [upd_ne hq2, upd_ne hq1]; exact h, fun _ h => h⟩ hy hs3 ho
        exact ⟨μ3, a1, a2, a3, a4, a5, a6, em, a7, a8⟩
      unfold makeF at h1
      cases qf : f (.ref s1.length :: ds) (s1 ++ [.obj x [] []]) with
      | bad => rw [qf] at h1; exact h1.elim
      | err c' ns' vs' s2 =>
        rw [qf] at h1
        simp only at h1
        split at h1
        · rename_i o eo
          split at h1
          · rename_i hc
            intro μ2 H3 C' dx' x3 hs3 mC' ⟨hd', rx⟩
            rw [hc.1] at hs3
            obtain ⟨μ3, a1, a2, a3, a4, a5, a6, em, a7, a8⟩ := cut x3 hs3 hc.2.1
            obtain ⟨n1, n2, ys, q1, q2, q3⟩ := rx
            refine h1 μ3 H3 C' dx' a1 a2 mC' ⟨x2.trk _ hd', ?_, ?_, ys, q1, q2, ?_⟩
            · rw [a6]; intro hq; exact n1 (by rw [em]; exact List.mem_append_left _ hq)
            · exact fun hq => n2 (a8 _ hq)
            · exact RVs.cut (ν := [y]) (by rw [a6]; exact em) a7 (fun _ _ h => h) (fun _ _ _ h => h) (fun _ _ _ h => h) (by rw [a6, hs1.len]; exact hc.2.2) q3
          · exact h1.elim
        · exact h1.elim
      | ok v s2 =>
        rw [qf] at h1
        cases v with
        | non =>
          simp only at h1
          split at h1
          · rename_i c' ns' vs' eo
            split at h1
            · rename_i hc
              intro μ2 H3 b x3 hs3 rb
              simp only [RV] at rb
              refine ⟨rb, ?_⟩
              rw [hc.1] at hs3
              obtain ⟨μ3, a1, a2, a3, a4, a5, a6, em, a7, a8⟩ := cut x3 hs3 hc.2
              exact h1 μ3 H3 _ a1 a2 (by
                unfold RF
                exact ⟨y, rfl, x1.trk y hy, a3, a4, a5⟩)
            · exact h1.elim
          · exact h1.elim
        | _ => exact h1.elim⟩
  exact PySem.W.callWith_K (h₀ := X.base) I.ok.mod.kin Mk0.kp (thn (ha.run pos pins sh σ H _ I hq) fun us s1 ⟨vs, H1, I1, r, q⟩ => ⟨I1.kIn, run_makeG Mk0 F hr tk I1 r q⟩) he hpl
end
end Fv

/-! ### an own exception class called by place and by name -/
namespace PySem.HandSPX
open PySem PySem.Spec PyProof.Rows Builtin
section
variable {M : Model} {A : Around} {E : Value → Shared → Prop} {h : Heap} {g : Array GenState} {d : Drawn} {t : Nat} {os : OsState}
variable {nm q : Str} {C N : Addr} {bs bm bmB : List Value} {hdct : Bool} {sn : List Str} {sub : List Value} {ab : Bool} {col : Option Bool} {dd : Option Addr} {k0 k1 k2 k3 k5 : Option Value} {B newId initId : String} {rest : List Value} {kw : List (Str × Value)}
theorem fv_chk_call {Q : Unit → Shared → Prop} (hC : h.get? C = some (excClassObj nm q C N bs bm hdct sn sub ab col dd k0 k1 k2 k3 k5 newId)) (hq : Q () ⟨h, g, d, t, os⟩) :
    wpAny M A (checkBuiltinCall "type.__call__" ⟨.ref C :: rest, kw⟩) Q E ⟨h, g, d, t, os⟩ := by
  have s3 := tc_sub
  have isT : (⟨h, g, d, t, os⟩ : Shared).TypeIs (.ref C) "type" := ⟨_, hC, rfl⟩
  simp only [checkBuiltinCall, tc_kind, tc_split]
  repeat (any_goals (first | assumption | with_reducible refine wpAny_loadPart_at hC ?_ | with_reducible refine wpAny_onRaise ?_ | with_reducible refine wpAny_map ?_ | wp_step))
theorem fv_chk_new (F : ExcBaseFacts B newId initId bmB) (hT : ∀ X : String, bm.contains (.type X) = bmB.contains (.type X)) {Q : Unit → Shared → Prop}
    (hC : h.get? C = some (excClassObj nm q C N bs bm hdct sn sub ab col dd k0 k1 k2 k3 k5 newId)) (hq : Q () ⟨h, g, d, t, os⟩) : wpAny M A (checkBuiltinCall newId ⟨.ref C :: rest, kw⟩) Q E ⟨h, g, d, t, os⟩ := by
  have isB : (Value.ref C :: bm).contains (.type B) = true := by rw [List.contains_cons, hT, F.hasB, Bool.or_true]
  have ns := F.noStar
  simp only [checkBuiltinCall, F.newKind, F.newSplit, F.newRow]
  repeat (first | refine wpAny_loadPart_at hC ?_ | (refine wpAny_isSubtype_exc hC ?_; rw [isB]) | refine wpAny_staticBase_exc hC ?_ | refine wpAny_madeBy_exc hC ?_ | simp only [bne_self_eq_false, Bool.false_eq_true, if_false] | wp_step)
  exact hq
end
section
variable {prog : Program} {w : World} {A : Around} {E : Value → Shared → Prop} {R : Result → Shared → Prop} {h : Heap} {g : Array GenState} {d : Drawn} {t : Nat} {os : OsState}
variable {nm q : Str} {C N : Addr} {bs bm bmB : List Value} {hdct : Bool} {sn : List Str} {sub : List Value} {ab : Bool} {col : Option Bool} {dd : Option Addr} {k0 k1 k2 k3 k5 : Option Value} {B newId initId : String} {rest : List Value} {kw : List (Str × Value)} {fI : Addr}
theorem fv_new (F : ExcBaseFacts B newId initId bmB) (hT : ∀ X : String, bm.contains (.type X) = bmB.contains (.type X))
    (hC : h.get? C = some (excClassObj nm q C N bs bm hdct sn sub ab col dd k0 k1 k2 k3 k5 newId)) (hrest : rest.length ≤ sizeLine)
    (hq : R (.ok (.ret (.ref (h.objs.size + 1)))) ⟨(h.push (W.kdv_tup rest)).push (excO C h.objs.size), g, d, t, os⟩) :
    codeAny (model prog w) A (.builtin newId ⟨.ref C :: rest, kw⟩) R ⟨h, g, d, t, os⟩ := by
  have ends := F.ends
  have isB : (Value.ref C :: bm).contains (.type B) = true := by rw [List.contains_cons, hT, F.hasB, Bool.or_true]
  have noA : (Value.ref C :: bm).contains (.type "AttributeError") = false := by rw [List.contains_cons, hT, F.noAttr]; rfl
  have noN : (Value.ref C :: bm).contains (.type "NameError") = false := by rw [List.contains_cons, hT, F.noName]; rfl
  refine codeAny_builtinAt F.entry ?_
  unfold Builtin.«BaseException.__new__»
  refine wpAt_bind ?_
  show wpAt _ _ _ (stack >>= _) _ _ _
  refine wpAt_bind (wpAt_stack fun p below => wpAt_of_wpAny ?_)
  wp_walk
  refine wpAt_of_wpAny ?_
  rw [F.owner]
  repeat (first | with_reducible refine wpAny_madeHere_exc F.canon hC ?_ | with_reducible refine wpAny_loadPart_at hC ?_ | (with_reducible refine wpAny_isSubtype_exc hC ?_; first | rw [isB] | rw [noA] | rw [noN]) | wp_step)
  show R _ _
  rw [Heap.size_push]
  exact hq
theorem fv_type_call (F : ExcBaseFacts B newId initId bmB) (hT : ∀ X : String, bm.contains (.type X) = bmB.contains (.type X)) {Q : Fin → Shared → Prop}
    (hC : h.get? C = some (excClassObj nm q C N bs bm hdct sn sub ab col dd k0 k1 k2 k3 k5 newId))
    (hi : W.Looks (model prog w) h (typeLookup (.ref C) "__init__") (some (.ref fI))) (hb : ∀ self, W.Looks (model prog w) h (bindSpecial (.ref fI) self) (.ref fI, [self])) (hrest : rest.length ≤ sizeLine)
    (hq : codeAny (model prog w) A (.call (.ref fI) ⟨.ref (h.objs.size + 1) :: rest, kw⟩)
      (fun r s' => match r with | .ok (.ret v) => v = .none ∧ Q (.done (.ret (.ref (h.objs.size + 1)))) s' | .ok _ => False | .error e => E e s')
      ⟨(h.push (W.kdv_tup rest)).push (excO C h.objs.size), g, d, t, os⟩) :
    wpAny (model prog w) A (Builtin.«type.__call__» ⟨.ref C :: rest, kw⟩) Q E ⟨h, g, d, t, os⟩ := by
  repeat (first | with_reducible refine wpAny_loadPart_at hC ?_ | with_reducible refine wpAny_madeBy_exc hC ?_ | wp_step)
  refine codeAny_call_builtin_code (Code.quiet_builtin _ F.quiet) (fv_chk_new F hT hC (fv_new F hT hC hrest ?_))
  show wpAny _ _ _ _ _ _
  have up : ∀ b o, h.get? b = some o → ((h.push (W.kdv_tup rest)).push (excO C h.objs.size)).get? b = some o := fun b o e => Heap.get?_push_of_some _ (Heap.get?_push_of_some _ e)
  have hC2 := up _ _ hC
  have made : ((h.push (W.kdv_tup rest)).push (excO C h.objs.size)).get? (h.objs.size + 1) = some (excO C h.objs.size) := by heap_get
  have isC : (Value.ref C :: bm).contains (.ref C) = true := by simp
  have lI := hi.keeps up
  have lB := (hb (.ref (h.objs.size + 1))).keeps up
  unfold isInstance
  repeat (first | with_reducible refine wpAny_loadPart_at made ?_ | (with_reducible refine wpAny_isSubtype_exc hC2 ?_; rw [isC]) | wp_step)
  show wpAny _ _ (typeLookup (.ref C) _) _ _ _
  refine lI.at (wpAny_holding (wpAny_bind (lB.at (wpAny_bind (wpAny_call (codeAny_mono hq fun r s' z => ?_))))))
  rcases r with e | (v | _ | _ | _) <;> first | exact z | exact z.elim | skip
  obtain ⟨rfl, z2⟩ := z
  first
    | exact wpAny_pure (wpAny_pure z2)
    | (wp_walk; exact z2)
theorem fv_call (F : ExcBaseFacts B newId initId bmB) (hT : ∀ X : String, bm.contains (.type X) = bmB.contains (.type X))
    (hC : h.get? C = some (excClassObj nm q C N bs bm hdct sn sub ab col dd k0 k1 k2 k3 k5 newId))
    (hi : W.Looks (model prog w) h (typeLookup (.ref C) "__init__") (some (.ref fI))) (hb : ∀ self, W.Looks (model prog w) h (bindSpecial (.ref fI) self) (.ref fI, [self])) (hrest : rest.length ≤ sizeLine)
    (hq : codeAny (model prog w) (A.under (.builtin "type.__call__" ⟨.ref C :: rest, kw⟩)) (.call (.ref fI) ⟨.ref (h.objs.size + 1) :: rest, kw⟩) (W.InitBack (h.objs.size + 1) R)
      ⟨(h.push (W.kdv_tup rest)).push (excO C h.objs.size), g, d, t, os⟩) :
    codeAny (model prog w) A (.call (.ref C) ⟨rest, kw⟩) R ⟨h, g, d, t, os⟩ := by
  have e1 := tc_lookup
  have e2 := tc_bind (.ref C)
  have isT : (⟨h, g, d, t, os⟩ : Shared).TypeIs (.ref C) "type" := ⟨_, hC, rfl⟩
  refine codeAny_of_tree ?_
  show wpAny _ _ (callAny (.ref C) _) _ _ _
  repeat (any_goals (first | assumption | with_reducible refine wpAny_loadPart_at hC ?_ | wp_step))
  refine ⟨rfl, ?_⟩
  refine codeAny_call_builtin_at (Code.quiet_builtin _ (by decide +kernel)) entry_typeCall (fv_chk_call hC (fv_type_call F hT hC hi hb hrest (codeAny_mono hq fun r s' z => ?_)))
  rcases r with e | (v | _ | _ | _) <;> exact z
end
end PySem.HandSPX

namespace Fv
open PySem PySem.Spec PyProof.Rows L2
/-! ### a def, however its parameters are bound -/
def FnB (P : Program) (w : World) (K : PySem.W.Frag) (mg : Str → Option Value) (base : Heap) (k : Nat) (fa : Addr) (fd : FuncData) (ps : List Str) (sp : Sp) : Prop :=
  ∀ (A : Around) (outer : List PySem.Env) (s : Shared) (H : Hp) (args : Args) (us : List Value) (vs : List V) (Q : VK) (E : XK), Rm k A → Env0 P w K mg base A outer s H → BindsTo s fd args (ps.zip us) → us.length = ps.length → Vals vs us → sp vs H Q E →
    codeAny (model P w) A (.call (.ref fa) args) (CR (L2.CX P w) outer P w H s Q E) s
section
variable {P : Program} {w : World} {K : PySem.W.Frag} {mg : Str → Option Value} {base : Heap} {k : Nat}
theorem def_b {x qual : Str} {st : Stmt} {fa : Addr} {fd : FuncData} {N ps : List Str} {n nN : Nat} {body : C} (F : Fun K x qual st fa fd) (S : FnScope N ps (defScope st)) (hnN : N.length = nN) (hn : ps.length = n)
    (hbody : ∀ (cdv : Value) (A : Around) (outer : List PySem.Env) (s : Shared) (H : Hp) (E : XK) (Fr : Addr → Prop), Rm k (A.deeper (envOfC qual (defScope st) s.heap.objs.size fa cdv)) →
      QSs (cxOf (L2.CX P w) P w K mg base N qual (defScope st) fa cdv A outer s H E) (fun c d _ H => E c d H) Fr (defBody st) body) : FnB P w K mg base (k + 1) fa fd ps (spF ⟨K, mg, P, w⟩ (mkFn n nN body)) := by
  intro A outer s H args us vs Q E hr e0 hb hus r hsp
  obtain ⟨oc, od, kV, doc, pm, an, cdv, ct, osl, rfl, lk, hcd⟩ := F.ex
  obtain ⟨μ, ds, st', rr, hs, h⟩ := hsp
  unfold mkFn at h
  split at h
  · rename_i hl
    have hln : ds.length = n := of_decide_eq_true hl
    refine StX.run_bnd (E := E) lk hcd S hr.r e0 (G := fun xs H2 => xs = vs ∧ H2 = H) (fun A' Ex Q' hq => ?_) fun s2 H2 xs ⟨ex, eH⟩ hr' => ?_
    · exact hb _ A' _ _ (hq s H vs us e0 Un.refl rfl (fun _ _ z => z) r (r.length.trans hus) ⟨rfl, rfl⟩)
    · subst ex; subst eH
      refine ⟨_, hbody cdv A outer s2 _ E (fun p => H2 p = none) ⟨hr', hr.g⟩, μ, _, st', fun p e => e, ren_start rr hnN, hs, ?_⟩
      rw [hln]
      exact fin_sound h
  · exact h.elim
theorem FnB.g {fa : Addr} {fd : FuncData} {ps : List Str} {n : Nat} {f : Fn} (F : FnB P w K mg base k fa fd ps (spF ⟨K, mg, P, w⟩ f)) (b : Binds K fd ps []) (hl : ∀ ds s, f ds s ≠ .bad → ds.length = ps.length) : FnG P w K mg base k fa (spF ⟨K, mg, P, w⟩ f) := by
  intro A outer s H us vs Q E hr e0 r hsp
  have hus : us.length = ps.length := by
    obtain ⟨μ, ds, st', rr, hs, h⟩ := hsp
    rw [← r.length, ← rr.length]
    exact hl ds st' fun z => by rw [z] at h; exact h
  have KX : K.In s.heap := e0.mod.kin.keeps fun b o e => (e0.bs b o e).1
  have z := b s us KX (by rw [List.append_nil]; exact hus)
  rw [List.append_nil] at z
  exact F A outer s H ⟨us, []⟩ us vs Q E hr e0 z hus r hsp
end
/-! ### exceptions as values -/
/-- what is tracked at a is told in another way -/
theorem retag {X : Cx} {pins : List (Addr × Obj)} {σ : L2.St} {H : Hp} {s : Shared} {a : Addr} {φ : Heap → Prop} {o : HO} (I : Inv X pins σ H s) (e : H a = some (.ext φ)) (new : ObjOk X.prog X.w (upd H a o) s.heap a o) : Inv X pins σ (upd H a o) s := by
  have ne : ∀ {b : Addr} {u : HO}, H b = some u → (∀ ψ, u ≠ .ext ψ) → b ≠ a := fun {b u} q n z => by
    subst z
    rw [e] at q
    exact n φ (Option.some.inj q).symm
  exact I.un (t' := s.toks) (h' := s.heap) ⟨fun b u q _ _ _ => q, fun b u q _ _ _ => ⟨u.slots, q⟩, fun b u q n _ => by rw [upd_ne (fun z => by subst z; rw [e] at n; cases n)]; exact n, fun b u q _ => ⟨u, q⟩,
    fun b xs q => by rw [upd_ne (ne q fun _ z => nomatch z)]; exact q, fun b u v q => by rw [upd_ne (ne q fun _ z => nomatch z)]; exact q, fun b ps q => ⟨#[], by rw [upd_ne (ne q fun _ z => nomatch z)]; simpa using q⟩⟩
    fun b u q => by
      by_cases hb : b = a
      · subst hb
        rw [upd_same] at q; cases q
        exact new
      · rw [upd_ne hb] at q
        exact (I.hok b u q).stay (fun _ _ _ z => z) (fun c z => by rw [upd_ne (ne z fun _ z => nomatch z)]; exact z) fun c xs z => by rw [upd_ne (ne z fun _ z => nomatch z)]; exact z
theorem exh_ok {P : Program} {w : World} {H : Hp} {h : Heap} {a C d : Addr} {oe : Obj} {vs : Array Value} (he : h.get? a = some oe) (hz : Zc (.ref C) (some d) oe) (hd : oe.data = .fields vs) : ObjOk P w H h a (exh a C d) :=
  ⟨⟨oe, vs, he, hz, hd⟩, ⟨_, he⟩, fun h1 h2 z k => by
    obtain ⟨o1, v1, e1, z1, d1⟩ := z
    exact ⟨o1, v1, k _ e1, z1, d1⟩⟩
theorem exh_at {P : Program} {w : World} {H : Hp} {h : Heap} {a C d : Addr} (hok : HOk P w H h) (e : H a = some (exh a C d)) : ∃ (oe : Obj) (vs : Array Value), h.get? a = some oe ∧ Zc (.ref C) (some d) oe ∧ oe.data = .fields vs := by
  have x : ObjOk P w H h a (.ext fun h => ∃ (oe : Obj) (vs : Array Value), h.get? a = some oe ∧ Zc (.ref C) (some d) oe ∧ oe.data = .fields vs) := hok a _ e
  exact x.1
theorem exq_ok {P : Program} {w : World} {H : Hp} {h : Heap} {a C : Addr} {oe : Obj} {vs : Array Value} (he : h.get? a = some oe) (hz : Zc (.ref C) none oe) (hd : oe.data = .fields vs) : ObjOk P w H h a (exq a C) :=
  ⟨⟨oe, vs, he, hz, hd⟩, ⟨_, he⟩, fun h1 h2 z k => by
    obtain ⟨o1, v1, e1, z1, d1⟩ := z
    exact ⟨o1, v1, k _ e1, z1, d1⟩⟩
theorem exq_at {P : Program} {w : World} {H : Hp} {h : Heap} {a C : Addr} (hok : HOk P w H h) (e : H a = some (exq a C)) : ∃ (oe : Obj) (vs : Array Value), h.get? a = some oe ∧ Zc (.ref C) none oe ∧ oe.data = .fields vs := by
  have x : ObjOk P w H h a (.ext fun h => ∃ (oe : Obj) (vs : Array Value), h.get? a = some oe ∧ Zc (.ref C) none oe ∧ oe.data = .fields vs) := hok a _ e
  exact x.1
/-- the maker's promise, read from outside -/
def mkP (sp : Sp) (C : Addr) (Q : VK) (H : Hp) (vs : List V) : Prop :=
  ∀ a, H a = none → sp (.ref a :: vs) (upd H a (exo a C none)) (fun v H2 => v = .non ∧ ∃ d fs, H2 a = some (exo a C (some d)) ∧ H2 d = some (exd d fs) ∧ d ≠ a ∧ Q (.ref a) (upd (upd H2 a (exh a C d)) d (.xd fs))) (fun _ _ _ => False)
section
variable {X : Cx} {W : WX} {x : Str} {C fI : Addr} {fd : FuncData} {ps : List Str} {k : Nat} {sp : Sp}
theorem run_exc {pins : List (Addr × Obj)} {σ : L2.St} {H : Hp} {s : Shared} {Q : VK} {us ws : List Value} {kw : List (Str × Value)} {vs : List V} (T : OexC X.K C) (iC : PySem.W.findIn X.K (.ref C) "__init__" = some (some (.ref fI))) (tI : PySem.W.typeIn X.K (.ref fI) = some (.type "function"))
    (Fb : FnB X.prog X.w X.K X.mg X.base k fI fd ps sp) (hr : Rm (k + 1) X.A) (I : Inv X pins σ H s) (r : Vals vs us) (hl : us.length + 1 = ps.length) (hw : ws.length ≤ 1000)
    (hb : ∀ (s : Shared) (u : Value), X.K.In s.heap → BindsTo s fd ⟨u :: ws, kw⟩ (ps.zip (u :: us))) (q : mkP sp C Q H vs) : wpAny (model X.prog X.w) X.A (call (.ref C) ws kw) (EP X pins σ Q) X.xe s := by
  obtain ⟨nm, qn, N, bs, bm, sn, sub, ab, col, dd, k0, k1, k2, k3, k5, hC, hbm⟩ := T.cls
  obtain ⟨hp, g, dr, tk, os⟩ := s
  have hsz : hp.objs.size ≤ hp.objs.size + 1 := Nat.le_succ _
  have hn : H (hp.objs.size + 1) = none := I.hok.fresh hsz
  have hq := q (hp.objs.size + 1) hn
  have kk : ∀ b o, hp.get? b = some o → ((hp.push (PySem.W.kdv_tup ws)).push (PySem.HandSPX.excO C hp.objs.size)).get? b = some o := fun b o e => Heap.get?_push_of_some _ (Heap.get?_push_of_some _ e)
  have hget : ((hp.push (PySem.W.kdv_tup ws)).push (PySem.HandSPX.excO C hp.objs.size)).get? (hp.objs.size + 1) = some (PySem.HandSPX.excO C hp.objs.size) := by heap_get
  have I2 : Inv X pins σ (upd H (hp.objs.size + 1) (exo (hp.objs.size + 1) C none)) ⟨(hp.push (PySem.W.kdv_tup ws)).push (PySem.HandSPX.excO C hp.objs.size), g, dr, tk, os⟩ :=
    I.laid (t' := tk) (a := hp.objs.size + 1) (o := exo (hp.objs.size + 1) C none) (h' := (hp.push (PySem.W.kdv_tup ws)).push (PySem.HandSPX.excO C hp.objs.size)) kk hsz (exo_ok hget)
  have r2 : Vals (V.ref (hp.objs.size + 1) :: vs) (Value.ref (hp.objs.size + 1) :: us) := .cons rfl r
  have hus : ws.length ≤ sizeLine := by
    rw [sizeLine_eq]
    omega
  refine wpAny_call (PySem.HandSPX.fv_call F.excBase_ValueError (fun Y => PySem.HandSPX.refsVE_contains Y bm hbm) (I.kIn _ _ hC) (PySem.W.looks_findIn I.kIn iC) (fun self => PySem.W.bind_fn I.kIn self tI) hus
    (codeAny_mono (Fb _ X.stack _ _ ⟨Value.ref (hp.objs.size + 1) :: ws, kw⟩ (Value.ref (hp.objs.size + 1) :: us) _ _ (fun _ _ _ => False) ⟨hr.r.make C ws kw, hr.g⟩ (I2.env0.make C ws kw) (hb _ _ I2.kIn) (by simpa using hl) r2 hq) fun r s' hq' => ?_))
  cases r with
  | error er =>
    obtain ⟨_, _, _, _, _, _, _, _, _, _, _, _, hE⟩ := hq'
    exact hE.elim
  | ok fl =>
    cases fl with
    | ret u =>
      obtain ⟨v, H2, os2, bare2, un2, hok2, rv, ev, d, fs, ea, ed, hda, q2⟩ := hq'
      subst ev
      have J : Inv X pins σ H2 s' := I2.call' (ch := []) os2 un2 hok2 bare2 (fun b z => absurd z (by simp))
      obtain ⟨t0, hoe⟩ := exo_at J.hok ea
      have J1 := retag (o := exh (hp.objs.size + 1) C d) J ea (exh_ok hoe ⟨rfl, rfl⟩ rfl)
      obtain ⟨mA, hns, rel⟩ := exd_at J.hok ed
      have J2 := retag (a := d) (o := .xd fs) J1 (show upd H2 (hp.objs.size + 1) (exh (hp.objs.size + 1) C d) d = some (exd d fs) by rw [upd_ne hda]; exact ed) ⟨mA, hns, rel⟩
      exact ⟨rv, V.ref (hp.objs.size + 1), _, J2, rfl, q2⟩
    | next => exact False.elim hq'
    | brk => exact False.elim hq'
    | cont => exact False.elim hq'
end
end Fv

namespace Fv
open PySem PySem.Spec PyProof.Rows L2
/-! ### exceptions: made -/
/-- what the written part says of the classes whose makers are walked -/
def ExcK (K : PySem.W.Frag) (mg : Str → Option Value) (cs : List Tx) (f : Str) : Prop := ∀ c ∈ cs, ∀ C, mg c = some (.ref C) → OexC K C ∧ PySem.W.findIn K (.ref C) f = some none
/-- the builtin maker, by an own class's name -/
def vinitE (cs : List Tx) (ms : As) : E := fun ρ s => (ms ρ s).bind fun ds s => match ds with
  | .ref a :: r => match s[a]? with
    | some (.exc c none) => if c ∈ cs ∧ r.length ≤ 1000 then .ok .non s else .bad
    | _ => .bad
  | _ => .bad
section
variable {X : Cx} {W : WX} {Fr : Addr → Prop} {o e : Expr} {es : List Expr} {to te : TE} {ta : TA} {ms : As} {f : Str} {cs : List Tx} {p p' p1 p2 pos : Pos}
theorem pe_binit {pl : Sem Bool} {y : Str} {C0 : Addr} (hm : X.mg y = some (.ref C0)) (hs : PySem.W.specialIn X.K (.ref C0) "__getattribute__" = some (some (.builtin "type.__getattribute__"))) (hr : PySem.W.readsIn X.K C0 (.type "type") = true)
    (vV : PySem.W.findCls X.K (.ref C0) (.type "type") "__init__" = some (.val (.builtin "ValueError.__init__"))) (ha : PA X (e :: es) ta) (hg : Gl X y := by rfl) (hdb : (y == ("__debug__" : Str)) = false := by decide)
    (hc : eval (.Call (.Attribute (.Name y p1) "__init__" p2) (e :: es) [] pos) X.env = (do
      let ov ← eval (.Name y p1) X.env
      standAt p2.atName
      let (f, first) ← holding [ov] (getMethod ov "__init__" pl)
      callWith pos f first (backTo pos (starEach (e :: es) X.env)) (backToKw pos (keywordEach [] X.env))) := by rfl)
    (he : starEach (e :: es) X.env = (false, eval e X.env) :: starEach es X.env := by rfl) (hpl : (backTo pos (starEach es X.env)).any (·.1) = false := by rfl) :
    PE X (.Call (.Attribute (.Name y p1) "__init__" p2) (e :: es) [] pos) (tVeI X.K ta) := by
  refine ⟨fun pins s σ H Q I h => ?_⟩
  refine PySem.W.methodCall_KW (ld_glob I hg hm ?_ hdb) hc
  refine PySem.W.method_cls I.kIn hs (PySem.W.cls_value I.kIn hr vV (by decide +kernel) ?_)
  show wpAny _ _ (callWith pos (Value.builtin "ValueError.__init__") [] (backTo pos (starEach (e :: es) X.env)) []) _ _ _
  refine PyProof.Rows.callWith_method1 (thn (ha.run pos pins _ σ H _ (I.tok _) h) fun us s1 ⟨vs, H1, I1, r1, a, C, ws, ev, hl, T, ea, q⟩ => ?_) he hpl
  subst ev
  cases r1 with
  | @cons _ u0 _ ur ra rw' =>
    obtain rfl : u0 = Value.ref a := ra
    have hlen : ur.length ≤ sizeLine := by
      rw [← Paired.length rw', sizeLine_eq]
      omega
    exact oinit_ok T I1 ea hlen fun s' J => ⟨.non, H1, J, rfl, q⟩
theorem q_vinit {pl : Sem Bool} {y : Str} {C0 : Addr} (hk : ∀ c ∈ cs, ∀ C, X.mg c = some (.ref C) → OexC X.K C) (hm : X.mg y = some (.ref C0)) (hs : PySem.W.specialIn X.K (.ref C0) "__getattribute__" = some (some (.builtin "type.__getattribute__"))) (hr : PySem.W.readsIn X.K C0 (.type "type") = true)
    (vV : PySem.W.findCls X.K (.ref C0) (.type "type") "__init__" = some (.val (.builtin "ValueError.__init__"))) (ha : PA X (e :: es) (liftA (wd X) W ms)) (hg : Gl X y := by rfl) (hdb : (y == ("__debug__" : Str)) = false := by decide)
    (hc : eval (.Call (.Attribute (.Name y p1) "__init__" p2) (e :: es) [] pos) X.env = (do
      let ov ← eval (.Name y p1) X.env
      standAt p2.atName
      let (f, first) ← holding [ov] (getMethod ov "__init__" pl)
      callWith pos f first (backTo pos (starEach (e :: es) X.env)) (backToKw pos (keywordEach [] X.env))) := by rfl)
    (he : starEach (e :: es) X.env = (false, eval e X.env) :: starEach es X.env := by rfl) (hpl : (backTo pos (starEach es X.env)).any (·.1) = false := by rfl) :
    PE X (.Call (.Attribute (.Name y p1) "__init__" p2) (e :: es) [] pos) (liftE (wd X) W (vinitE cs ms)) :=
  pe_imp (pe_binit hm hs hr vV ha hg hdb hc he hpl) fun σ H Q ⟨F0, μ, ρ, s, he, hst, h⟩ => ⟨F0, μ, ρ, s, he, hst, runs_bind (Rel1 := RVs (wd X)) h fun ds s1 μ1 H1 vs e1 x1 hs1 r1 h1 => by
    split at h1
    · rename_i a r
      split at h1
      · rename_i c ei
        split at h1
        · rename_i hz
          simp only [RVs] at r1
          obtain ⟨x, ws, rfl, rx, rw'⟩ := r1
          simp only [RV] at rx
          obtain ⟨q, eq, rfl⟩ := rx
          have ro := hs1.at_ _ _ _ ei eq
          obtain ⟨C, mC, ⟨_, ea⟩ | ⟨_, _, z, _⟩⟩ := ro
          · exact ⟨q, C, ws, rfl, by rw [← rw'.length]; exact hz.2, hk c hz.1 C mC, ea, runs_pure h1 hs1 (by simp only [RV])⟩
          · cases z
        · exact h1.elim
      · exact h1.elim
    · exact h1.elim⟩
/-- e.f = v, e an exception that is being made -/
def ostS (cs : List Tx) (f : Tx) (mo me : E) : C := fun ρ s => (me ρ s).stm ρ fun d s => (mo ρ s).stm ρ fun o s => match o with
  | .ref a => match s[a]? with
    | some (.exc c none) => if c ∈ cs then .nx ρ (List.set (s ++ [D.xn [f] [d]]) a (D.exc c (some s.length))) else .bad
    | some (.exc c (some j)) => if c ∈ cs then match s[j]? with
      | some (.xn ns vs) => if ns.length ≤ 900 then .nx ρ (s.set j (.xn (f :: ns) (d :: vs))) else .bad
      | _ => .bad
      else .bad
    | _ => .bad
  | _ => .bad
theorem qs_ost {mo me : E} (hk : ExcK X.K X.mg cs f) (ho : PE X o (liftE (wd X) W mo)) (he : PE X e (liftE (wd X) W me)) (hw : swapsWith e (some (.Attribute o f p')) pos.line X.env = pure false := by rfl) :
    QS X W Fr (.Assign [.Attribute o f p'] e pos) (ostS cs f mo me) :=
  ps_imp (ps_ost ho he hw) fun De σ H ⟨μ, ρ, s, hf, hρ, hst, h⟩ => ⟨Fr, μ, ρ, s, hρ, hst, runs_stm (Rel1 := RV (wd X)) hρ h fun d s1 μ1 H1 y e1 x1 hs1 r1 h1 =>
    ⟨Fr, μ1, ρ, s1, hρ.mono x1, hs1, runs_stm (Rel1 := RV (wd X)) (hρ.mono x1) h1 fun oD s2 μ2 H2 x e2 x2 hs2 r2 h2 => by
      split at h2
      · rename_i a
        simp only [RV] at r2
        obtain ⟨q, eq, rfl⟩ := r2
        split at h2
        · rename_i c ei
          split at h2
          · rename_i hc
            obtain ⟨C, mC, ⟨_, ea⟩ | ⟨_, _, z, _⟩⟩ := hs2.at_ _ _ _ ei eq
            · obtain ⟨T, hno⟩ := hk c hc C mC
              refine ⟨q, C, rfl, T, hno, .inl ⟨ea, fun dx hd hne => ?_⟩⟩
              have xa : Ex Fn0 μ2 H2 μ2 (upd H2 dx (exd dx [(f, y)])) := ex_new hd
              have sa : Rs (wd X) μ2 (upd H2 dx (exd dx [(f, y)])) s2 := hs2.new hd
              have nz : ¬ μ2.z dx := hs2.nz hd
              have nm : dx ∉ μ2.m := hs2.nmem hd
              obtain ⟨hs3, _⟩ := sa.adopt (o := .xn [f] [d]) nm nz ⟨[y], upd_same, rfl, .one ((r1.mono x2).mono xa)⟩
              have xp : Ex Fn0 μ2 H2 (μ2.push dx nz) (upd H2 dx (exd dx [(f, y)])) := ⟨⟨[dx], rfl, fun q hq => by simp at hq; subst hq; exact hd⟩, xa.trk, xa.tup, xa.frz, xa.oth, xa.zs, xa.zn⟩
              have ea' : upd H2 dx (exd dx [(f, y)]) q = some (exo q C none) := by rw [upd_ne (fun z => hne z.symm)]; exact ea
              have hlt : a < μ2.m.length := (List.getElem?_eq_some_iff.mp eq).1
              have eq' : (μ2.push dx nz).m[a]? = some q := by
                show (μ2.m ++ [dx])[a]? = some q
                rw [List.getElem?_append_left hlt]; exact eq
              have xb : Ex Fn0 (μ2.push dx nz) (upd H2 dx (exd dx [(f, y)])) (μ2.push dx nz) (upd (upd H2 dx (exd dx [(f, y)])) q (exo q C (some dx))) := ex_put (List.mem_of_getElem? eq') ea' (fun _ => exo_tup) fun _ _ => exo_frz
              have hs4 := hs3.put (i := a) (o := .exc c (some s2.length)) eq' ea' (fun _ => exo_tup) (fun _ _ => exo_frz) (ho := exo q C (some dx))
                ⟨C, mC, .inr ⟨s2.length, dx, rfl, by show (μ2.m ++ [dx])[s2.length]? = some dx; rw [← hs2.len]; simp, upd_same⟩⟩
              exact h2 _ _ _ (xp.trans xb).s hs4 ((hρ.mono x1).mono x2 |>.mono (xp.trans xb))
            · cases z
          · exact h2.elim
        · rename_i c j ei
          split at h2
          · rename_i hc
            split at h2
            · rename_i ns vs ej
              split at h2
              · rename_i hl
                obtain ⟨C, mC, ⟨z, _⟩ | ⟨j', dx, z, edx, ea⟩⟩ := hs2.at_ _ _ _ ei eq
                · cases z
                · cases z
                  obtain ⟨T, hno⟩ := hk c hc C mC
                  obtain ⟨gs, ed, ll, rf⟩ := hs2.at_ _ _ _ ej edx
                  refine ⟨q, C, rfl, T, hno, .inr ⟨dx, ns.zip gs, ea, ed, by rw [List.length_zip]; omega, ?_⟩⟩
                  have xb : Ex Fn0 μ2 H2 μ2 (upd H2 dx (exd dx ((f, y) :: ns.zip gs))) := ex_put (List.mem_of_getElem? edx) ed (fun _ => exd_tup) fun _ _ => exd_frz
                  have hs4 := hs2.put (i := j) (o := .xn (f :: ns) (d :: vs)) edx ed (fun _ => exd_tup) (fun _ _ => exd_frz) (ho := exd dx ((f, y) :: ns.zip gs)) ⟨y :: gs, upd_same, by simp [ll], y, gs, rfl, (r1.mono x2).mono xb, RVs.mono xb rf⟩
                  exact h2 _ _ _ xb.s hs4 ((hρ.mono x1).mono x2 |>.mono xb)
              · exact h2.elim
            · exact h2.elim
          · exact h2.elim
        · exact h2.elim
      · exact h2.elim⟩⟩
end
open Classical in
/-- C(..) as a value, by what __init__ does -/
noncomputable def excF (c : Tx) (f : Fn) : Fn := fun ds s1 => if ds.length ≤ 1000 then match f (.ref s1.length :: ds) (s1 ++ [.exc c none]) with
  | .ok .non s2 => match s2[s1.length + 1]? with
    | some (.xn ns vs) => if s2 = s1 ++ [.exc c (some (s1.length + 1)), .xn ns vs] ∧ D.inBs s1.length vs = true then .ok (.exh c ns vs) s1 else .bad
    | _ => .bad
  | _ => .bad
  else .bad
theorem excF_ok {c : Tx} {f : Fn} {ds : List D} {s1 : S} {ns : List Tx} {vs : List D} (hl : ds.length ≤ 1000) (h : f (.ref s1.length :: ds) (s1 ++ [.exc c none]) = .ok .non (s1 ++ [.exc c (some (s1.length + 1)), .xn ns vs])) (hb : D.inBs s1.length vs = true) : excF c f ds s1 = .ok (.exh c ns vs) s1 := by
  have e : (s1 ++ [D.exc c (some (s1.length + 1)), D.xn ns vs])[s1.length + 1]? = some (D.xn ns vs) := by
    rw [List.getElem?_append_right (by omega)]; simp
  unfold excF
  rw [if_pos hl, h]
  simp only [e, hb, and_self, if_true]
/-- the new exception leaves the store, and stays as it is -/
theorem exc_end {g : Wd} {μ1 μ2 : M} {H1 H2 : Hp} {s1 : S} {a d C : Addr} {c : Tx} {ns : List Tx} {vs : List D} {gs : List V} {hz : ¬ μ1.z a} (hs1 : Rs g μ1 H1 s1) (ha : H1 a = none) (mC : g.mg c = some (.ref C))
    (x : Ex Fn0 (μ1.push a hz) (upd H1 a (exo a C none)) μ2 H2) (hs2 : Rs g μ2 H2 (s1 ++ [.exc c (some (s1.length + 1)), .xn ns vs])) (hm : μ2.m = μ1.m ++ [a, d]) (ea : H2 a = some (exo a C (some d))) (ed : H2 d = some (exd d (ns.zip gs))) (hda : d ≠ a) (hd : H1 d = none)
    (ll : ns.length = gs.length) (rf : RVs g μ2 H2 vs gs) (hb : D.inBs s1.length vs = true) :
    ∃ μ3, Ex Fn0 μ1 H1 μ3 (upd (upd H2 a (exh a C d)) d (.xd (ns.zip gs))) ∧ Rs g μ3 (upd (upd H2 a (exh a C d)) d (.xd (ns.zip gs))) s1 ∧ RV g μ3 (upd (upd H2 a (exh a C d)) d (.xd (ns.zip gs))) (.exh c ns vs) (.ref a) := by
  have na : a ∉ μ1.m := hs1.nmem ha
  have nd : d ∉ μ1.m := hs1.nmem hd
  let μ3 : M := ⟨μ1.m, fun q => μ2.z q ∨ q = a ∨ q = d, fun q hq h => by
    rcases hq with hq | hq | hq
    · exact μ2.zm q hq (by rw [hm]; exact List.mem_append_left _ h)
    · exact na (hq ▸ h)
    · exact nd (hq ▸ h)⟩
  have at_ : ∀ {q : Addr}, q ≠ a → q ≠ d → upd (upd H2 a (exh a C d)) d (.xd (ns.zip gs)) q = H2 q := fun {q} h1 h2 => by rw [upd_ne h2, upd_ne h1]
  have ax : upd (upd H2 a (exh a C d)) d (.xd (ns.zip gs)) a = some (exh a C d) := by rw [upd_ne (Ne.symm hda), upd_same]
  have hT : ∀ q ys, H2 q = some (.tup ys) → upd (upd H2 a (exh a C d)) d (.xd (ns.zip gs)) q = some (.tup ys) := fun q ys h => by
    rw [at_ (at_ne ea h exo_tup) (at_ne ed h exd_tup)]; exact h
  have hF : ∀ q o u, H2 q = some (.frz o u) → upd (upd H2 a (exh a C d)) d (.xd (ns.zip gs)) q = some (.frz o u) := fun q o u h => by
    rw [at_ (at_ne ea h exo_frz) (at_ne ed h exd_frz)]; exact h
  have zn : ∀ {q}, μ2.z q → q ≠ a ∧ q ≠ d := fun {q} h => ⟨fun z => μ2.zm q h (by rw [hm, z]; simp), fun z => μ2.zm q h (by rw [hm, z]; simp)⟩
  have hZ : ∀ q u, μ2.z q → H2 q = some u → upd (upd H2 a (exh a C d)) d (.xd (ns.zip gs)) q = some u := fun q u h e => by
    rw [at_ (zn h).1 (zn h).2]; exact e
  have lm : μ3.m.length = s1.length := hs1.len
  refine ⟨μ3, ⟨⟨[], by simp [μ3], by simp⟩, fun q h => ?_, fun q ys h => ?_, fun q o u h => ?_, fun q u h n _ => ?_, fun q h => .inl (x.zs q h), fun q h => ?_⟩, ⟨hs1.len, hs1.nd, fun q h => ?_, fun i o q ei eq => ?_⟩, ?_⟩
  · by_cases q1 : q = a
    · rw [q1, ax] at h; cases h
    · by_cases q2 : q = d
      · rw [q2, upd_same] at h; cases h
      · rw [at_ q1 q2] at h
        have z := x.trk q h
        rwa [upd_ne q1] at z
  · exact hT q ys (x.tup q ys (by rw [upd_ne (ne_of_none h ha)]; exact h))
  · exact hF q o u (x.frz q o u (by rw [upd_ne (ne_of_none h ha)]; exact h))
  · have q1 : q ≠ a := ne_of_none h ha
    have q2 : q ≠ d := ne_of_none h hd
    rw [at_ q1 q2]
    refine x.oth q u (by rw [upd_ne q1]; exact h) ?_ (.inr id)
    intro hq
    rcases List.mem_append.mp hq with hq | hq
    · exact n hq
    · simp at hq; exact q1 hq
  · rcases h with h | h | h
    · rcases x.zn q h with h | h | h
      · exact .inl h
      · exact h.elim
      · exact .inr (.inr (upd_trk q h))
    · exact .inr (.inr (h ▸ ha))
    · exact .inr (.inr (h ▸ hd))
  · rcases h with h | h | h
    · obtain ⟨u, e⟩ := hs2.zt q h
      exact ⟨u, hZ q u h e⟩
    · exact ⟨_, by rw [h]; exact ax⟩
    · exact ⟨_, by rw [h]; exact upd_same⟩
  · have hi : i < s1.length := (List.getElem?_eq_some_iff.mp ei).1
    obtain ⟨q', e', c'⟩ := hs1.adr ei
    have hb' : D.inC μ3.m.length o = true := c'.inC
    have hq : q ∈ μ1.m := List.mem_of_getElem? eq
    have q1 : q ≠ a := fun z => na (z ▸ hq)
    have q2 : q ≠ d := fun z => nd (z ▸ hq)
    exact Ce.cut (μ' := μ3) hm (fun _ h => .inl h) hT hF hZ (fun u e => by rw [at_ q1 q2]; exact e) hb' (hs2.at_ i o q (by rw [List.getElem?_append_left hi]; exact ei) (by rw [hm, List.getElem?_append_left (by rw [hs1.len]; exact hi)]; exact eq))
  · simp only [RV]
    exact ⟨a, C, d, gs, rfl, .inr (.inl rfl), .inr (.inr rfl), mC, ax, upd_same, ll, RVs.cut (μ' := μ3) hm (fun _ h => .inl h) hT hF hZ (by rw [lm]; exact hb) rf⟩
theorem exc_sound {g : Wd} {W : WX} {σ : L2.St} {μ1 : M} {H1 : Hp} {s1 : S} {C : Addr} {c : Tx} {f : Fn} {ds : List D} {vs : List V} {Q : VK} (mC : g.mg c = some (.ref C)) (hs1 : Rs g μ1 H1 s1) (r1 : RVs g μ1 H1 ds vs) (h : runs g W σ μ1 H1 (RV g) Q (excF c f ds s1)) :
    ds.length ≤ 1000 ∧ mkP (spF g f) C Q H1 vs := by
  unfold excF at h
  split at h
  · rename_i hl
    refine ⟨hl, fun a ha => ?_⟩
    have nz : ¬ μ1.z a := hs1.nz ha
    have nm : a ∉ μ1.m := hs1.nmem ha
    have xa : Ex Fn0 μ1 H1 μ1 (upd H1 a (exo a C none)) := ex_new ha
    have sa : Rs g μ1 (upd H1 a (exo a C none)) s1 := hs1.new ha
    obtain ⟨hs2, rr⟩ := sa.adopt (o := .exc c none) nm nz ⟨C, mC, .inl ⟨rfl, upd_same⟩⟩
    have xp : Ex Fn0 μ1 H1 (μ1.push a nz) (upd H1 a (exo a C none)) := ⟨⟨[a], rfl, fun q hq => by simp at hq; subst hq; exact ha⟩, xa.trk, xa.tup, xa.frz, xa.oth, xa.zs, xa.zn⟩
    refine ⟨μ1.push a nz, .ref s1.length :: ds, s1 ++ [.exc c none], ⟨.ref a, vs, rfl, rr, r1.mono xp⟩, hs2, ?_⟩
    cases qf : f (.ref s1.length :: ds) (s1 ++ [.exc c none]) with
    | bad => rw [qf] at h; exact h.elim
    | err c' ns' vs' s2 => rw [qf] at h; exact h.elim
    | ok v s2 =>
      rw [qf] at h
      cases v with
      | non =>
        simp only at h
        split at h
        · rename_i ns ws eo
          split at h
          · rename_i hc
            intro μ2 H2 b x2 hs3 rb
            simp only [RV] at rb
            refine ⟨rb, ?_⟩
            rw [hc.1] at hs3
            obtain ⟨ν, eν, hν⟩ := x2.pre
            have hlen := hs3.len
            have l1 : μ1.m.length = s1.length := hs1.len
            have ν1 : ν.length = 1 := by
              rw [eν] at hlen
              simp only [M.push, List.length_append, List.length_cons, List.length_nil] at hlen
              omega
            obtain ⟨d, rfl⟩ : ∃ d, ν = [d] := by
              match ν, ν1 with
              | [d], _ => exact ⟨d, rfl⟩
            have hm : μ2.m = μ1.m ++ [a, d] := by rw [eν]; simp [M.push]
            have ia : μ2.m[s1.length]? = some a := by rw [hm, ← l1]; simp
            have id' : μ2.m[s1.length + 1]? = some d := by rw [hm, ← l1]; simp
            obtain ⟨C', mC', ⟨z, _⟩ | ⟨j, dx, z, ej, ea⟩⟩ := hs3.at_ s1.length (.exc c (some (s1.length + 1))) a (by simp) ia
            · cases z
            · cases z
              rw [mC] at mC'; cases mC'
              rw [id'] at ej; cases ej
              obtain ⟨gs, ed, ll, rf⟩ := hs3.at_ (s1.length + 1) (.xn ns ws) d (by simp) id'
              have hda : d ≠ a := fun z => by
                have nd := hs3.nd
                rw [hm, z, List.nodup_append] at nd
                simp at nd
              have hd1 : H1 d = none := by
                have z := hν d (by simp)
                rwa [upd_ne hda] at z
              obtain ⟨μ3, x3, hs4, rv⟩ := exc_end (hz := nz) hs1 ha mC x2 hs3 hm ea ed hda hd1 ll rf hc.2
              exact ⟨d, ns.zip gs, ea, ed, hda, h μ3 _ _ x3 hs4 rv⟩
          · exact h.elim
        · exact h.elim
      | _ => exact h.elim
  · exact h.elim
end Fv

namespace Fv
open PySem PySem.Spec PyProof.Rows L2
/-! ### exceptions: called by place and by name -/
/-- the own exception class named c, whose maker is f of n values -/
structure ExOk (P : Program) (w : World) (K : PySem.W.Frag) (mg : Str → Option Value) (base : Heap) (k : Nat) (c : Str) (f : Fn) (qs : List Str) : Prop where
  ex : ∃ (C fI : Addr) (fd : FuncData), mg c = some (.ref C) ∧ OexC K C ∧ PySem.W.findIn K (.ref C) "__init__" = some (some (.ref fI)) ∧ PySem.W.typeIn K (.ref fI) = some (.type "function") ∧ FnB P w K mg base k fI fd (("self" : Str) :: qs) (spF ⟨K, mg, P, w⟩ f) ∧ Binds K fd (("self" : Str) :: qs) [] ∧
    (∀ (s : Shared) (u : Value) (ws : List Value), ws.length = qs.length → BindsTo s fd ⟨[u], qs.zip ws⟩ ((("self" : Str) :: qs).zip (u :: ws))) ∧
    ∀ (s : Shared) (u : Value) (ws : List Value), ws.length = qs.length → BindsTo s fd ⟨[u], qs.reverse.zip ws⟩ ((("self" : Str) :: qs).zip (u :: ws.reverse))
theorem ExOk.mono {P : Program} {w : World} {K : PySem.W.Frag} {mg : Str → Option Value} {base : Heap} {j k : Nat} {c : Str} {f : Fn} {qs : List Str} (d : ExOk P w K mg base j c f qs) (h : j ≤ k) : ExOk P w K mg base k c f qs := by
  obtain ⟨C, fI, fd, a, b, c1, d1, F, r⟩ := d.ex
  exact ⟨C, fI, fd, a, b, c1, d1, fun A outer s H args us vs Q E hr => F A outer s H args us vs Q E (hr.mono h), r⟩
/-- what is told by name, in the order of the parameters -/
def turnA (rv : Bool) (a : As) : As := fun ρ s => (a ρ s).bind fun ds s => .ok (if rv then ds.reverse else ds) s
theorem RVs.rev {g : Wd} {μ : M} {H : Hp} : ∀ {ds : List D} {vs : List V}, RVs g μ H ds vs → RVs g μ H ds.reverse vs.reverse
  | [], _, h => by simp only [RVs] at h; subst h; simp [RVs]
  | d :: ds, vs, h => by
    simp only [RVs] at h
    obtain ⟨y, r, rfl, a, b⟩ := h
    simp only [List.reverse_cons]
    exact (RVs.rev b).append (.one a)
theorem vals_rev : ∀ {vs : List V} {us : List Value}, Vals vs us → Vals vs.reverse us.reverse
  | _, _, .nil => .nil
  | _, _, .cons r t => by
    simp only [List.reverse_cons]
    exact (vals_rev t).append (.cons r .nil)
section
variable {X : Cx} {W : WX} {k : Nat} {x : Str} {f : Fn} {qs : List Str} {p pos kpos : Pos} {e : Expr} {es : List Expr} {ms : As} {kws : List Keyword} {me : E} {nm : Option Str}
abbrev ExX (X : Cx) (k : Nat) (x : Str) (f : Fn) (qs : List Str) : Prop := ExOk X.prog X.w X.K X.mg X.base k x f qs
theorem qk_nil : PK X [] (liftA (wd X) W nilA) := ⟨fun pos pins s σ H Q I h => (pk_nil (X := X)).run pos pins s σ H Q I (by
  obtain ⟨Fr, μ, ρ, s, he, hs, h⟩ := h
  exact runs_pure (show runs (wd X) W σ μ H (RVs (wd X)) Q (.ok [] s) from h) hs (by simp only [RVs]))⟩
theorem qk_cons (ha : PE X e (liftE (wd X) W me)) (hr : PK X kws (liftA (wd X) W ms)) : PK X (⟨nm, e, kpos⟩ :: kws) (liftA (wd X) W (consA me ms)) :=
  ⟨fun pos pins s σ H Q I h => (pk_cons (nm := nm) (kpos := kpos) ha hr).run pos pins s σ H Q I (by
    obtain ⟨Fr, μ, ρ, s, he, hs, h⟩ := h
    exact ⟨Fr, μ, ρ, s, he, hs, runs_bind (Rel1 := RV (wd X)) h fun d s1 μ1 H1 x e1 x1 hs1 r1 h1 =>
      ⟨Fr, μ1, ρ, s1, he.mono x1, hs1, runs_bind (Rel1 := RVs (wd X)) h1 fun ds s2 μ2 H2 xs e2 x2 hs2 r2 h2 => runs_pure h2 hs2 (by simp only [RVs]; exact ⟨x, xs, rfl, r1.mono x2, r2⟩)⟩⟩)⟩
theorem excF_len {c : Tx} {f : Fn} {ds : List D} {s : S} (h : excF c f ds s ≠ .bad) : ∃ s', f (.ref s.length :: ds) s' ≠ .bad := by
  refine ⟨s ++ [.exc c none], fun z => h ?_⟩
  unfold excF
  rw [z]
  split <;> rfl
theorem q_exc (d : ExX X k x f qs) (hr : Rm (k + 1) X.A) (hlen : ∀ ds s, f ds s ≠ .bad → ds.length = qs.length + 1) (ha : PA X (e :: es) (liftA (wd X) W ms)) (hg : Gl X x := by rfl) (hdb : (x == ("__debug__" : Str)) = false := by decide)
    (he : starEach (e :: es) X.env = (false, eval e X.env) :: starEach es X.env := by rfl) (hpl : (backTo pos (starEach es X.env)).any (·.1) = false := by rfl) : PE X (.Call (.Name x p) (e :: es) [] pos) (liftE (wd X) W (callE (excF x f) ms)) := by
  obtain ⟨C, fI, fd, hm, T, iC, tI, F, b, _⟩ := d.ex
  refine ⟨fun pins sh σ H Q I ⟨F0, μ, ρ, s, hρ, hs, h⟩ => ?_⟩
  refine wpAny_Call_Name_kw (ld_glob I hg hm ?_ hdb)
  have hq : liftA (wd X) W ms σ H fun vs H1 => vs.length = qs.length ∧ vs.length ≤ 1000 ∧ mkP (spF (wd X) f) C Q H1 vs :=
    ⟨F0, μ, ρ, s, hρ, hs, runs_bind (Rel1 := RVs (wd X)) h fun ds s1 μ1 H1 vs e1 x1 hs1 r1 h1 => by
      obtain ⟨s', hb⟩ := excF_len (c := x) (f := f) (ds := ds) (s := s1) (fun z => by rw [z] at h1; exact h1)
      have hl := hlen _ _ hb
      obtain ⟨l, q⟩ := exc_sound (c := x) hm hs1 r1 h1
      exact ⟨by rw [← r1.length]; simpa using hl, by rw [← r1.length]; exact l, q⟩⟩
  exact PySem.W.callWith_K (h₀ := X.base) I.ok.mod.kin T.kC (thn (ha.run pos pins sh σ H _ I hq) fun us s1 ⟨vs, H1, I1, r, l1, l2, q⟩ => ⟨I1.kIn, run_exc (ws := us) T iC tI F hr I1 r (by rw [← r.length, l1]; simp) (by rw [← r.length]; exact l2) (fun s u KX => by
    have z := b s (u :: us) KX (by rw [List.append_nil]; simp [← r.length, l1])
    rw [List.append_nil] at z
    exact z) q⟩) he hpl
theorem q_excK (rv : Bool) (d : ExX X k x f qs) (hr : Rm (k + 1) X.A) (hlen : ∀ ds s, f ds s ≠ .bad → ds.length = qs.length + 1) (ha : PK X kws (liftA (wd X) W ms)) (hks : (backToKw pos (keywordEach kws X.env)).filterMap (·.1) = (if rv then qs.reverse else qs) := by rfl) (hg : Gl X x := by rfl) (hdb : (x == ("__debug__" : Str)) = false := by decide)
    (hall : (backToKw pos (keywordEach kws X.env)).all (·.1.isSome) = true := by rfl) (hpl : ((backTo pos (starEach [] X.env)).any (·.1) || (backToKw pos (keywordEach kws X.env)).any (·.1.isNone)) = false := by rfl) :
    PE X (.Call (.Name x p) [] kws pos) (liftE (wd X) W (callE (excF x f) (turnA rv ms))) := by
  obtain ⟨C, fI, fd, hm, T, iC, tI, F, _, k1, k2⟩ := d.ex
  refine ⟨fun pins sh σ H Q I ⟨F0, μ, ρ, s, hρ, hs, h⟩ => ?_⟩
  refine wpAny_Call_Name_kw (ld_glob I hg hm ?_ hdb)
  have hq : liftA (wd X) W ms σ H fun vs H1 => vs.length = qs.length ∧ mkP (spF (wd X) f) C Q H1 (if rv then vs.reverse else vs) := by
    refine ⟨F0, μ, ρ, s, hρ, hs, ?_⟩
    unfold callE turnA at h
    cases e1 : ms ρ s with
    | bad => rw [e1] at h; exact h.elim
    | err c ns vs s' => rw [e1] at h; exact h
    | ok ds s1 =>
      rw [e1] at h
      intro μ1 H1 vs x1 hs1 r1
      have h1 := runs_mono x1 (show runs (wd X) W σ μ H (RV (wd X)) Q (excF x f (if rv then ds.reverse else ds) s1) from h)
      obtain ⟨s', hb⟩ := excF_len (c := x) (f := f) (s := s1) (fun z => by rw [z] at h1; exact h1)
      have hl := hlen _ _ hb
      have rr : RVs (wd X) μ1 H1 (if rv then ds.reverse else ds) (if rv then vs.reverse else vs) := by
        cases rv
        · exact r1
        · exact r1.rev
      obtain ⟨l, q⟩ := exc_sound (c := x) hm hs1 rr h1
      refine ⟨?_, q⟩
      rw [← r1.length]
      cases rv <;> simpa using hl
  refine PySem.W.callWith_KW0 (h₀ := X.base) I.ok.mod.kin T.kC hall (thn (ha.run pos pins sh σ H _ I hq) fun ws s1 ⟨vs, H1, I1, r, l1, q⟩ => ⟨I1.kIn, ?_⟩) hpl
  rw [hks]
  have lw : ws.length = qs.length := by rw [← r.length]; exact l1
  have rr : Vals (if rv then vs.reverse else vs) (if rv then ws.reverse else ws) := by
    cases rv
    · exact r
    · exact vals_rev r
  refine run_exc (us := if rv then ws.reverse else ws) (ws := []) T iC tI F hr I1 rr (by cases rv <;> simp [lw]) (by simp) (fun s u KX => ?_) q
  cases rv
  · exact k1 s u ws lw
  · exact k2 s u ws lw
end
end Fv

namespace Fv
open PySem PySem.Spec PyProof.Rows L2
/-! ### kinds -/
inductive Kd where | b (n : String) | o (c : Tx)
  deriving DecidableEq
def kdC (oc xc : List Tx) : D → Option Kd
  | .non => some (.b "NoneType") | .bl _ => some (.b "bool") | .int _ => some (.b "int") | .str _ => some (.b "str")
  | .tup _ => some (.b "tuple") | .ktup _ => some (.b "tuple") | .lst _ => some (.b "list") | .fl _ => some (.b "list")
  | .dct _ _ => some (.b "dict") | .dtt _ _ => some (.b "dict") | .set _ => some (.b "set")
  | .obj c _ _ => if oc.contains c then some (.o c) else none
  | .exh c _ _ => if xc.contains c then some (.o c) else none
  | .exq c => if xc.contains c then some (.o c) else none
  | _ => none
def kdOf (oc xc : List Tx) (s : S) : D → Option Kd
  | .ref a => match s[a]? with | some (.lst xs) => some (.b "list") | some (.dct _ _) => some (.b "dict") | some (.dtt _ _) => some (.b "dict") | some (.set _) => some (.b "set") | some (.obj c _ _) => if oc.contains c then some (.o c) else none | _ => none
  | d => kdC oc xc d
def clOf : D → Option Kd
  | .ty n => some (.b n) | .gl y => some (.o y) | _ => none
def clsOf : List D → Option (List Kd)
  | [] => some []
  | d :: r => (clOf d).bind fun k => (clsOf r).map (k :: ·)
/-- what a kind stands for -/
def KdV (mg : Str → Option Value) : Kd → Value → Prop
  | .b n, t => t = .type n
  | .o y, t => ∃ C, mg y = some (.ref C) ∧ t = .ref C
/-- an own class, of objects -/
structure OwnC (K : PySem.W.Frag) (C : Addr) : Prop where
  cl : Cls K C
  ha : PySem.W.findIn K (.ref C) "__class__" = some (some (.builtin "object.__class__"))
  hn : PySem.W.specialIn K (.builtin "object.__class__") "__get__" = some (some (.builtin "getset_descriptor.__get__"))
  ht : PySem.W.takesIn K (.builtin "object.__class__") = some true
  hm : PySem.W.mroIn K C (.type "object") = some true
/-- the classes whose instances may be asked -/
structure KdK (K : PySem.W.Frag) (mg : Str → Option Value) (oc xc : List Tx) : Prop where
  o : ∀ c ∈ oc, ∀ C, mg c = some (.ref C) → OwnC K C
  x : ∀ c ∈ xc, ∀ C, mg c = some (.ref C) → ExcC K C
def HasKit (K : PySem.W.Frag) (h : Heap) (u t : Value) : Prop := ∃ P : Heap → Prop, PySem.W.KitX K u t P ∧ P h ∧ u ≠ .builtin "__main__.__loader__#opaque"
section
variable {X : Cx} {pins : List (Addr × Obj)} {σ : L2.St} {H : Hp} {sh : Shared} {μ : M} {s : S} {d : D} {x : V} {u : Value} {k : Kd} {oc xc : List Tx}
theorem kit_set {p : Addr} {ks : List D} (I : Inv X pins σ H sh) (q : Sk (wd X) H p ks) : HasKit X.K sh.heap (.ref p) (.type "set") := by
  obtain ⟨kk, _, e⟩ := q
  have z : ObjOk X.prog X.w H sh.heap p (.ext fun h => SetRK X.w h p kk) := I.hok p _ e
  obtain ⟨⟨o, es, ep, t, ks', ho, ex, _⟩, _⟩ := z
  exact ⟨_, PySem.W.kitx_set, ⟨o, ho, ex.1⟩, fun z => nomatch z⟩
theorem kit_obj {p : Addr} {c : Tx} {ns : List Tx} {ys : List V} (I : Inv X pins σ H sh) (hk : KdK X.K X.mg oc xc) (hc : oc.contains c = true) (q : Ik (wd X) H p c ns ys) : ∃ t, KdV X.mg (.o c) t ∧ HasKit X.K sh.heap (.ref p) t := by
  obtain ⟨C, dx, mC, e⟩ := q
  refine ⟨.ref C, ⟨C, mC, rfl⟩, ?_⟩
  obtain ⟨mA, O, _⟩ := ins_get I.hok e
  obtain ⟨od, J, _⟩ := O.look
  have T := hk.o c (by simpa using hc) C mC
  exact ⟨_, PySem.W.kitx_own (T.cl.get _) T.cl.hd T.ha T.hn T.ht T.hm, J, fun z => nomatch z⟩
theorem inst_at {h : Heap} {p C : Addr} {od : Option Addr} {oe : Obj} {vs : Array Value} (e : h.get? p = some oe) (hz : Zc (.ref C) od oe) (hv : oe.data = .fields vs) : oe.dict = od ∧ oe.cls = .ref C ∧ h.get? p = some oe ∧ PySem.W.notCls oe = true := by
  obtain ⟨h1, h2⟩ := hz
  exact ⟨h2, h1, e, by unfold PySem.W.notCls; rw [hv] <;> rfl⟩
theorem kind_kit (I : Inv X pins σ H sh) (hk : KdK X.K X.mg oc xc) (hs : Rs (wd X) μ H s) (r : RW (wd X) μ H d x) (ru : RelV x u) (e : kdOf oc xc s d = some k) : ∃ t, KdV X.mg k t ∧ HasKit X.K sh.heap u t := by
  have ty : ∀ {n : String}, TyX X.K H x (.type n) → k = .b n → ∃ t, KdV X.mg k t ∧ HasKit X.K sh.heap u t := fun {n} z ek => ⟨.type n, by rw [ek]; rfl, kit_of I ru z⟩
  have heavy : ∀ {p : Addr} {o : D}, x = .ref p → Ce (wd X) μ H p o → kdC oc xc o = some k → ∃ t, KdV X.mg k t ∧ HasKit X.K sh.heap u t := by
    intro p o ex c e
    subst ex
    obtain rfl : u = Value.ref p := ru
    cases o <;> simp only [Ce] at c <;> simp only [kdC, Option.some.injEq, reduceCtorEq] at e
    · obtain ⟨ys, a, _⟩ := c; exact ty (.base (.lst a)) e.symm
    · obtain ⟨ys, ⟨kk, _, a⟩, _⟩ := c; exact ty (.base (.dK a)) e.symm
    · obtain ⟨ys, ⟨kk, _, a⟩, _⟩ := c; exact ty (.base (.dT a)) e.symm
    · subst e; exact ⟨_, rfl, kit_set I c⟩
    · obtain ⟨ys, a, _⟩ := c
      split at e
      · rename_i hc; cases e; exact kit_obj I hk hc a
      · cases e
  rcases r with r | ⟨hd, p, ex, _, c⟩
  · cases d with
    | non => simp only [RV] at r; subst r; cases e; exact ty (.base .non) rfl
    | bl b => simp only [RV] at r; subst r; cases e; exact ty (.base (.bl b)) rfl
    | int b => simp only [RV] at r; subst r; cases e; exact ty (.base (.int b)) rfl
    | str b => simp only [RV] at r; subst r; cases e; exact ty (.base (.str b)) rfl
    | tup ds => simp only [RV] at r; obtain ⟨p, ys, rfl, q, _⟩ := r; cases e; exact ty (.base (.tup q)) rfl
    | ktup ds =>
      simp only [RV] at r
      obtain ⟨p, ys, rfl, q, _⟩ := r
      cases e
      rcases q H with (q | ⟨o, q⟩) | ⟨o, its, n, e, c, _⟩
      · exact ty (.base (.tup q)) rfl
      · exact ty (.fTuple q) rfl
      · exact ty (.kTuple e c) rfl
    | lst ds => simp only [RV] at r; obtain ⟨p, ys, rfl, z, q, _⟩ := r; cases e; exact ty (.base (.lst q)) rfl
    | fl ds =>
      simp only [RV] at r
      obtain ⟨p, ys, rfl, q, _⟩ := r
      cases e
      rcases q with ⟨o, q⟩ | ⟨o, its, n, e, c, _⟩
      · exact ty (.base (.frz q)) rfl
      · exact ty (.kList e c) rfl
    | dct ks ds => simp only [RV] at r; obtain ⟨p, ys, rfl, z, ⟨kk, _, q⟩, _⟩ := r; cases e; exact ty (.base (.dK q)) rfl
    | dtt ks ds => simp only [RV] at r; obtain ⟨p, ys, rfl, z, ⟨kk, _, q⟩, _⟩ := r; cases e; exact ty (.base (.dT q)) rfl
    | set ks =>
      simp only [RV] at r
      obtain ⟨p, rfl, z, q⟩ := r
      obtain rfl : u = Value.ref p := ru
      cases e
      exact ⟨_, rfl, kit_set I q⟩
    | obj c ns ds =>
      simp only [RV] at r
      obtain ⟨p, ys, rfl, z, q, _⟩ := r
      obtain rfl : u = Value.ref p := ru
      simp only [kdOf, kdC] at e
      split at e
      · rename_i hc; cases e; exact kit_obj I hk hc q
      · cases e
    | exh c ns ds =>
      simp only [RV] at r
      obtain ⟨p, C, dx, ys, rfl, _, _, mC, q, qd, _⟩ := r
      obtain rfl : u = Value.ref p := ru
      simp only [kdOf, kdC] at e
      split at e
      case isFalse => cases e
      rename_i hc
      cases e
      obtain ⟨oe, vs, e1, hz, hv⟩ := exh_at I.hok q
      have hx : ObjOk X.prog X.w H sh.heap dx (.xd (ns.zip ys)) := I.hok dx _ qd
      obtain ⟨mA, hns, _⟩ := hx
      obtain ⟨od, ho, hl⟩ := lookIn_ns hns
      have J : PySem.W.InstAt sh.heap p oe C (some od) := ⟨e1, hz.1, by unfold PySem.W.notCls; rw [hv] <;> rfl, by rw [hz.2]; exact ho⟩
      have T := hk.x c (by simpa using hc) C mC
      obtain ⟨cd, hcd, _⟩ := PySem.W.any_some T.hd
      exact ⟨.ref C, ⟨C, mC, rfl⟩, _, PySem.W.kitx_exc (by rw [hcd]; rfl) T.hg T.hk T.hs T.ha T.hn T.ht T.hm, J, fun z => nomatch z⟩
    | exq c =>
      simp only [RV] at r
      obtain ⟨p, C, rfl, _, mC, q⟩ := r
      obtain rfl : u = Value.ref p := ru
      simp only [kdOf, kdC] at e
      split at e
      case isFalse => cases e
      rename_i hc
      cases e
      obtain ⟨oe, vs, e1, hz, hv⟩ := exq_at I.hok q
      have J : PySem.W.InstAt sh.heap p oe C none := by
        obtain ⟨oc, od, oda, osl⟩ := oe
        obtain ⟨h1, h2⟩ := hz
        dsimp only at h1 h2 hv
        subst h1 h2 hv
        exact ⟨e1, rfl, rfl, trivial⟩
      have T := hk.x c (by simpa using hc) C mC
      obtain ⟨cd, hcd, _⟩ := PySem.W.any_some T.hd
      exact ⟨.ref C, ⟨C, mC, rfl⟩, _, PySem.W.kitx_exc (by rw [hcd]; rfl) T.hg T.hk T.hs T.ha T.hn T.ht T.hm, J, fun z => nomatch z⟩
    | ref a =>
      simp only [RV] at r
      obtain ⟨p, ep, rfl⟩ := r
      simp only [kdOf] at e
      split at e <;> first | (rename_i ei; first | exact heavy rfl (hs.at_ _ _ _ ei ep) e | (cases e)) | cases e
    | exc _ _ => cases e
    | xn _ _ => cases e
    | ty _ => cases e
    | gl _ => cases e
  · cases d <;> first | exact heavy ex c e | cases hd
end
/-! ### isinstance -/
abbrev KT := Kd → Kd → Option Bool
def IsT (K : PySem.W.Frag) (mg : Str → Option Value) (T : KT) : Prop := ∀ k c b, T k c = some b → ∀ t u, KdV mg k t → KdV mg c u → PySem.W.kitOne K t u = some b
def anyT (T : KT) (k : Kd) : List Kd → Option Bool
  | [] => some false
  | c :: r => match T k c with | some true => some true | some false => anyT T k r | none => none
def isiF (oc xc : List Tx) (T : KT) : Fn := fun ds s => match ds with
  | [d, c] => match kdOf oc xc s d with
    | some k => match c with
      | .tup cs => match clsOf cs with | some us => (match anyT T k us with | some b => .ok (.bl b) s | none => .bad) | none => .bad
      | c => match clOf c with | some u => (match T k u with | some b => .ok (.bl b) s | none => .bad) | none => .bad
    | none => .bad
  | _ => .bad
section
variable {X : Cx} {oc xc : List Tx} {T : KT}
theorem cl_sound {g : Wd} {μ : M} {H : Hp} {c : D} {k : Kd} {x : V} (r : RV g μ H c x) (e : clOf c = some k) : ∃ u, ClsV x u ∧ KdV g.mg k u := by
  cases c <;> simp only [clOf, Option.some.injEq, reduceCtorEq] at e
  · subst e; simp only [RV] at r; subst r; exact ⟨_, .ty _, rfl⟩
  · subst e; simp only [RV] at r; obtain ⟨f, m, rfl⟩ := r; exact ⟨_, .own f, f, m, rfl⟩
theorem cls_sound {g : Wd} {μ : M} {H : Hp} : ∀ {cs : List D} {ks : List Kd} {xs : List V}, RVs g μ H cs xs → clsOf cs = some ks → ∃ us, Paired ClsV xs us ∧ Paired (KdV g.mg) ks us
  | [], ks, xs, r, e => by simp only [RVs] at r; subst r; simp only [clsOf, Option.some.injEq] at e; subst e; exact ⟨[], .nil, .nil⟩
  | c :: cs, ks, xs, r, e => by
    simp only [RVs] at r
    obtain ⟨y, r', rfl, a, b⟩ := r
    simp only [clsOf, Option.bind_eq_some_iff, Option.map_eq_some_iff] at e
    obtain ⟨k, ek, ks', eks, rfl⟩ := e
    obtain ⟨u, h1, h2⟩ := cl_sound a ek
    obtain ⟨us, h3, h4⟩ := cls_sound b eks
    exact ⟨u :: us, .cons h1 h3, .cons h2 h4⟩
theorem any_sound {K : PySem.W.Frag} {mg : Str → Option Value} (hT : IsT K mg T) {k : Kd} {t : Value} (kt : KdV mg k t) : ∀ {ks : List Kd} {us : List Value} {b : Bool}, Paired (KdV mg) ks us → anyT T k ks = some b → PySem.W.kitAny K t us = some b
  | _, _, b, .nil, e => e
  | _, _, b, .cons (a := c) (b := u) h r, e => by
    unfold anyT at e
    split at e
    · rename_i q
      cases e
      exact kitAny_cons (hT _ _ _ q _ _ kt h) (fun z => nomatch z) fun _ => rfl
    · rename_i q
      exact kitAny_cons (hT _ _ _ q _ _ kt h) (fun _ => any_sound hT kt r e) fun z => nomatch z
    · cases e
theorem qc_isi (hk : KdK X.K X.mg oc xc) (hT : IsT X.K X.mg T) : CallR X (.builtin "isinstance") (rC (wd X) (isiF oc xc T)) := by
  intro pins sh σ H xs us Q I rv ⟨μ, s, ds, hs, r, W, σ', h⟩
  unfold isiF at h
  split at h
  case h_2 => exact h.elim
  rename_i d c
  split at h
  case h_2 => exact h.elim
  rename_i k ek
  obtain ⟨x, y, rfl, r1, r2⟩ := r.inv2
  obtain ⟨u1, u2, rfl, v1, v2⟩ := vals2 rv
  obtain ⟨t, kt, P, Z, p, hx⟩ := kind_kit I hk hs r1 v1 ek
  have fin : ∀ {b : Bool}, runs (wd X) W σ' μ H (RF (wd X) H) Q (.ok (.bl b) s) → Q (.bl b) H := fun h => runs_pure h hs (by unfold RF; rw [if_neg (by simp [D.heavy])]; simp only [RV])
  split at h
  · rename_i cs
    split at h
    case h_2 => exact h.elim
    rename_i ks eks
    split at h
    case h_2 => exact h.elim
    rename_i b eb
    have r2' := r2.light rfl
    simp only [RV] at r2'
    obtain ⟨tp, ys, rfl, hT2, ry⟩ := r2'
    obtain ⟨ws, h3, h4⟩ := cls_sound ry eks
    obtain rfl : u2 = Value.ref tp := v2
    obtain ⟨_, its, rvs, o, e1, e2, n, e3⟩ := (show ObjOk X.prog X.w H sh.heap tp (.tup ys) from I.hok tp _ hT2)
    have e4 := ClsV.all h3 rvs
    subst e4
    obtain ⟨ocl, od, dt, sl⟩ := o
    simp only at e2 e3
    subst e2 e3
    exact PySem.W.kia_tup Z I.kIn p e1 (any_sound hT kt h4 eb) hx fun tk => ⟨.bl b, H, I.tok tk, rfl, fin h⟩
  · split at h
    case h_2 => exact h.elim
    rename_i u eu
    split at h
    case h_2 => exact h.elim
    rename_i b eb
    have nl : c.heavy = false := by cases c <;> simp only [clOf, reduceCtorEq] at eu <;> rfl
    obtain ⟨w, h3, h4⟩ := cl_sound (r2.light nl) eu
    have e2 := h3.eq v2
    subst e2
    exact PySem.W.kia_one Z I.kIn p (hT _ _ _ eb _ _ kt h4) hx fun tk => ⟨.bl b, H, I.tok tk, rfl, fin h⟩
end
/-! ### fields of exceptions -/
/-- what the written part says of exceptions whose instances have the field -/
def XfK (K : PySem.W.Frag) (mg : Str → Option Value) (cs : List Tx) (f : Str) : Prop := ∀ c ∈ cs, ∀ C, mg c = some (.ref C) → XfC K C ∧ PySem.W.findIn K (.ref C) f = some none
def xfE (cs : List Tx) (f : Tx) (m : E) : E := fun ρ s => (m ρ s).bind fun d s => match d with
  | .exh c ns vs => match lookN ns vs f with | some v => if c ∈ cs then .ok v s else .bad | none => .bad
  | _ => .bad
section
variable {X : Cx} {W : WX} {e : Expr} {m : E} {f : Str} {cs : List Tx} {pos : Pos}
theorem q_xf (hk : XfK X.K X.mg cs f) (he : PE X e (liftB (wd X) W m)) (hb : attributeBase e f X.env (eval e X.env) = eval e X.env := by rfl) : PE X (.Attribute e f pos) (liftE (wd X) W (xfE cs f m)) := by
  refine ⟨fun pins sh σ H Q I ⟨F0, μ, ρ, s, hρ, hs, h⟩ => ?_⟩
  have hq : liftB (wd X) W m σ H fun x H1 => ∃ p C dx fs v, x = .ref p ∧ H1 p = some (exh p C dx) ∧ H1 dx = some (.xd fs) ∧ XfC X.K C ∧ PySem.W.findIn X.K (.ref C) f = some none ∧ fs.lookup f = some v ∧ Q v H1 :=
    ⟨F0, μ, ρ, s, hρ, hs, runs_bind (Rel1 := RW (wd X)) h fun d s1 μ1 H1 x e1 x1 hs1 r1 h1 => by
      split at h1
      case h_2 => exact h1.elim
      rename_i c ns vs
      split at h1
      case h_2 => exact h1.elim
      rename_i v ev
      split at h1
      case isFalse => exact h1.elim
      rename_i hc
      have r := r1.light rfl
      simp only [RV] at r
      obtain ⟨p, C, dx, ys, rfl, _, _, mC, q, qd, l, rr⟩ := r
      obtain ⟨y, ey, ry⟩ := (lookN_sound (f := f) rr l).1 v ev
      obtain ⟨k1, k2⟩ := hk c hc C mC
      exact ⟨p, C, dx, _, y, rfl, q, qd, k1, k2, ey, runs_pure h1 hs1 ry⟩⟩
  refine attr_of hb (thn (he.run pins sh σ H _ I hq) fun u s1 hh => ?_)
  obtain ⟨x, H1, I1, rx, p, C, dx, fs, v, ex, q, qd, T, hno, l, q2⟩ := hh
  subst ex
  obtain rfl : u = Value.ref p := rx
  obtain ⟨oe, vs, e1, hz, hv⟩ := exh_at I1.hok q
  have hx : ObjOk X.prog X.w H1 s1.heap dx (.xd fs) := I1.hok dx _ qd
  obtain ⟨mA, hns, hr⟩ := hx
  obtain ⟨od, ho, hl⟩ := lookIn_ns hns
  obtain ⟨u, hu, ru⟩ := RelO.some_of (v := v) (o := mA f) (by rw [← l]; exact hr f)
  have J : PySem.W.InstAt s1.heap p oe C (some od) := ⟨e1, hz.1, by unfold PySem.W.notCls; rw [hv] <;> rfl, by rw [hz.2]; exact ho⟩
  exact HandSPX.exc_get I1.kIn J T.ga T.gg T.exC (PySem.W.findObj_own T.hdC hno rfl (by rw [hl, hu])) (handed_of ru) ⟨v, H1, I1.tok _, ru, q2⟩
end
end Fv

namespace PySem
open PySem PySem.Spec PyProof.Rows
/-! ### v.__class__.__name__ -/
section
variable {prog : Program} {w : World} {A : Around} {E : Value → Shared → Prop} {s : Shared} {Q : Value → Shared → Prop} {a : Addr} {o : Obj} {n : String} {h : Heap} {g : Array GenState} {d : Drawn} {t : Nat} {os : OsState}
theorem fvc_int {i : Int} {u : Tok} (hq : Q (.type "int") { s with toks := s.toks + 1 }) : wpAny (model prog w) A (getAttr (.int i u) "__class__" true) Q E s := by
  obtain ⟨h, g, d, t, os⟩ := s
  unfold getAttr
  have tyd := (rfl : (⟨h, g, d, t + 1, os⟩ : Shared).TypeIs (.int i u) "int")
  have lup := F.slot_int_getattribute.lookup
  have bnd := F.slot_int_getattribute.bind (.int i u)
  refine wpAny_bind (wpAny_mkText ?_)
  repeat (any_goals (first | assumption | wp_step))
  refine class_call_int ?_
  repeat (any_goals (first | assumption | wp_step))
theorem fvc_bool {b : Bool} (hq : Q (.type "bool") { s with toks := s.toks + 1 }) : wpAny (model prog w) A (getAttr (.bool b) "__class__" true) Q E s := by
  obtain ⟨h, g, d, t, os⟩ := s
  unfold getAttr
  have tyd := (rfl : (⟨h, g, d, t + 1, os⟩ : Shared).TypeIs (.bool b) "bool")
  have lup := F.slot_bool_getattribute.lookup
  have bnd := F.slot_bool_getattribute.bind (.bool b)
  refine wpAny_bind (wpAny_mkText ?_)
  repeat (any_goals (first | assumption | wp_step))
  refine class_call_bool ?_
  repeat (any_goals (first | assumption | wp_step))
theorem fvc_none (hq : Q (.type "NoneType") { s with toks := s.toks + 1 }) : wpAny (model prog w) A (getAttr .none "__class__" true) Q E s := by
  obtain ⟨h, g, d, t, os⟩ := s
  unfold getAttr
  have tyd := (rfl : (⟨h, g, d, t + 1, os⟩ : Shared).TypeIs .none "NoneType")
  have lup := F.slot_NoneType_getattribute.lookup
  have bnd := F.slot_NoneType_getattribute.bind .none
  refine wpAny_bind (wpAny_mkText ?_)
  repeat (any_goals (first | assumption | wp_step))
  refine class_call_none ?_
  repeat (any_goals (first | assumption | wp_step))
theorem fvc_str {x : Str} {u : Tok} (hq : Q (.type "str") { s with toks := s.toks + 1 }) : wpAny (model prog w) A (getAttr (.str x u) "__class__" true) Q E s := by
  obtain ⟨h, g, d, t, os⟩ := s
  unfold getAttr
  have tyd := (rfl : (⟨h, g, d, t + 1, os⟩ : Shared).TypeIs (.str x u) "str")
  have lup := F.slot_str_getattribute.lookup
  have bnd := F.slot_str_getattribute.bind (.str x u)
  refine wpAny_bind (wpAny_mkText ?_)
  repeat (any_goals (first | assumption | wp_step))
  refine class_call_str ?_
  repeat (any_goals (first | assumption | wp_step))
theorem fvc_list (hx : h.get? a = some o) (hc : o.cls = .type "list") (hq : Q (.type "list") ⟨h, g, d, t + 1, os⟩) : wpAny (model prog w) A (getAttr (.ref a) "__class__" true) Q E ⟨h, g, d, t, os⟩ := by
  have ty : (⟨h, g, d, t + 1, os⟩ : Shared).TypeIs (.ref a) "list" := ⟨o, hx, hc⟩
  unfold getAttr
  have tyd := ty
  have lup := F.slot_list_getattribute.lookup
  have bnd := F.slot_list_getattribute.bind (.ref a)
  refine wpAny_bind (wpAny_mkText ?_)
  repeat (any_goals (first | assumption | wp_step))
  refine class_call_list hx hc ?_
  repeat (any_goals (first | assumption | wp_step))
theorem fvc_tuple (hx : h.get? a = some o) (hc : o.cls = .type "tuple") (hq : Q (.type "tuple") ⟨h, g, d, t + 1, os⟩) : wpAny (model prog w) A (getAttr (.ref a) "__class__" true) Q E ⟨h, g, d, t, os⟩ := by
  have ty : (⟨h, g, d, t + 1, os⟩ : Shared).TypeIs (.ref a) "tuple" := ⟨o, hx, hc⟩
  unfold getAttr
  have tyd := ty
  have lup := F.slot_tuple_getattribute.lookup
  have bnd := F.slot_tuple_getattribute.bind (.ref a)
  refine wpAny_bind (wpAny_mkText ?_)
  repeat (any_goals (first | assumption | wp_step))
  refine class_call_tuple hx hc ?_
  repeat (any_goals (first | assumption | wp_step))
theorem fvc_dict (hx : h.get? a = some o) (hc : o.cls = .type "dict") (hq : Q (.type "dict") ⟨h, g, d, t + 1, os⟩) : wpAny (model prog w) A (getAttr (.ref a) "__class__" true) Q E ⟨h, g, d, t, os⟩ := by
  have ty : (⟨h, g, d, t + 1, os⟩ : Shared).TypeIs (.ref a) "dict" := ⟨o, hx, hc⟩
  unfold getAttr
  have tyd := ty
  have lup := F.slot_dict_getattribute.lookup
  have bnd := F.slot_dict_getattribute.bind (.ref a)
  refine wpAny_bind (wpAny_mkText ?_)
  repeat (any_goals (first | assumption | wp_step))
  refine class_call_dict hx hc ?_
  repeat (any_goals (first | assumption | wp_step))
end
namespace W
open PySem.Calls Builtin Builtin.ObjectAttr Builtin.Getset_descriptor
/-- the name of a built-in class -/
theorem fvn_attr {prog : Program} {w : World} {A : Around} {E : Value → Shared → Prop} {s : Shared} {K : Frag} {T q : String} {Q : Value → Shared → Prop} (X : K.In s.heap) (mt : kitMeta T = true) (st : Manifest.isStub T = false)
    (ef : findCls K (.type T) (.type "type") "__name__" = some (.get (.builtin "getset_descriptor.__get__") (.builtin "type.__name__") (.type T) (.type "type"))) (eq : ktynFast T = q) (hl : (Str.ofString q).length ≤ sizeLine)
    (fin : ∀ tk u, Q (.str (Str.ofString q) tk) { s with toks := u }) : wpAny (model prog w) A (getAttr (.type T) "__name__" true) Q E s := by
  have noStub : opaqueClassAbove (.type T) = pure none := by unfold opaqueClassAbove; dsimp only; rw [st]; rfl
  have lT : Looks (model prog w) s.heap (typeOf (.type T)) (.type "type") := Looks.of_pure (kitMeta_of mt)
  have lN : Looks (model prog w) s.heap (opaqueClassAbove (.type T)) none := Looks.of_pure noStub
  refine cls_open X lN lT (show findIn K (.type "type") "__getattribute__" = some (some (.builtin "type.__getattribute__")) from type_tga) (looks_hook X (r := none) (by rfl)) (by show subIn K _ _ = _; rfl) ef ?_
  show wpAny _ _ (do ret (← holding [Value.builtin "type.__name__"] (call (.builtin "getset_descriptor.__get__") [.builtin "type.__name__", .type T, .type "type"]))) _ _ _
  exact wpAny_bind (wpAny_holding (wpAny_call (ktyn_get (s := { s with toks := s.toks + 1 }) (kitMeta_of mt) eq hl (wpAny_pure (handed_on rfl (fin _ _))))))
end W
end PySem
namespace Fv
open PySem PySem.Spec PyProof.Rows L2
theorem cn_NoneType {K : PySem.W.Frag} {prog : Program} {w : World} {A : Around} {E : Value → Shared → Prop} {s : Shared} {Q : Value → Shared → Prop} (X : K.In s.heap) (fin : ∀ tk u, Q (.str (Str.ofString "NoneType") tk) { s with toks := u }) : wpAny (model prog w) A (getAttr (.type "NoneType") "__name__" true) Q E s :=
  PySem.W.fvn_attr (T := "NoneType") (q := "NoneType") X (by decide +kernel) (by decide +kernel) (by rfl) (by ktyn_q) (by decide +kernel) fin
theorem cn_bool {K : PySem.W.Frag} {prog : Program} {w : World} {A : Around} {E : Value → Shared → Prop} {s : Shared} {Q : Value → Shared → Prop} (X : K.In s.heap) (fin : ∀ tk u, Q (.str (Str.ofString "bool") tk) { s with toks := u }) : wpAny (model prog w) A (getAttr (.type "bool") "__name__" true) Q E s :=
  PySem.W.fvn_attr (T := "bool") (q := "bool") X (by decide +kernel) (by decide +kernel) (by rfl) (by ktyn_q) (by decide +kernel) fin
theorem cn_int {K : PySem.W.Frag} {prog : Program} {w : World} {A : Around} {E : Value → Shared → Prop} {s : Shared} {Q : Value → Shared → Prop} (X : K.In s.heap) (fin : ∀ tk u, Q (.str (Str.ofString "int") tk) { s with toks := u }) : wpAny (model prog w) A (getAttr (.type "int") "__name__" true) Q E s :=
  PySem.W.fvn_attr (T := "int") (q := "int") X (by decide +kernel) (by decide +kernel) (by rfl) (by ktyn_q) (by decide +kernel) fin
theorem cn_str {K : PySem.W.Frag} {prog : Program} {w : World} {A : Around} {E : Value → Shared → Prop} {s : Shared} {Q : Value → Shared → Prop} (X : K.In s.heap) (fin : ∀ tk u, Q (.str (Str.ofString "str") tk) { s with toks := u }) : wpAny (model prog w) A (getAttr (.type "str") "__name__" true) Q E s :=
  PySem.W.fvn_attr (T := "str") (q := "str") X (by decide +kernel) (by decide +kernel) (by rfl) (by ktyn_q) (by decide +kernel) fin
theorem cn_tuple {K : PySem.W.Frag} {prog : Program} {w : World} {A : Around} {E : Value → Shared → Prop} {s : Shared} {Q : Value → Shared → Prop} (X : K.In s.heap) (fin : ∀ tk u, Q (.str (Str.ofString "tuple") tk) { s with toks := u }) : wpAny (model prog w) A (getAttr (.type "tuple") "__name__" true) Q E s :=
  PySem.W.fvn_attr (T := "tuple") (q := "tuple") X (by decide +kernel) (by decide +kernel) (by rfl) (by ktyn_q) (by decide +kernel) fin
theorem cn_list {K : PySem.W.Frag} {prog : Program} {w : World} {A : Around} {E : Value → Shared → Prop} {s : Shared} {Q : Value → Shared → Prop} (X : K.In s.heap) (fin : ∀ tk u, Q (.str (Str.ofString "list") tk) { s with toks := u }) : wpAny (model prog w) A (getAttr (.type "list") "__name__" true) Q E s :=
  PySem.W.fvn_attr (T := "list") (q := "list") X (by decide +kernel) (by decide +kernel) (by rfl) (by ktyn_q) (by decide +kernel) fin
theorem cn_dict {K : PySem.W.Frag} {prog : Program} {w : World} {A : Around} {E : Value → Shared → Prop} {s : Shared} {Q : Value → Shared → Prop} (X : K.In s.heap) (fin : ∀ tk u, Q (.str (Str.ofString "dict") tk) { s with toks := u }) : wpAny (model prog w) A (getAttr (.type "dict") "__name__" true) Q E s :=
  PySem.W.fvn_attr (T := "dict") (q := "dict") X (by decide +kernel) (by decide +kernel) (by rfl) (by ktyn_q) (by decide +kernel) fin
def cnN : List String := ["NoneType", "bool", "int", "str", "tuple", "list", "dict"]
theorem cn_get {K : PySem.W.Frag} {prog : Program} {w : World} {A : Around} {E : Value → Shared → Prop} {s : Shared} {n : String} {Q : Value → Shared → Prop} (X : K.In s.heap) (hn : n ∈ cnN) (fin : ∀ tk u, Q (.str (Str.ofString n) tk) { s with toks := u }) :
    wpAny (model prog w) A (getAttr (.type n) "__name__" true) Q E s := by
  simp only [cnN, List.mem_cons, List.not_mem_nil, or_false] at hn
  rcases hn with rfl | rfl | rfl | rfl | rfl | rfl | rfl
  · exact cn_NoneType X fin
  · exact cn_bool X fin
  · exact cn_int X fin
  · exact cn_str X fin
  · exact cn_tuple X fin
  · exact cn_list X fin
  · exact cn_dict X fin
section
variable {X : Cx} {pins : List (Addr × Obj)} {σ : L2.St} {H : Hp} {sh : Shared} {μ : M} {s : S} {d : D} {x : V} {u : Value} {n : String}
theorem cls_ref {a : Addr} {o : Obj} {n : String} {Q : Value → Shared → Prop} (hn : n ∈ ["tuple", "list", "dict"]) (e : sh.heap.get? a = some o) (c : o.cls = .type n) (fin : Q (.type n) { sh with toks := sh.toks + 1 }) : wpAny (model X.prog X.w) X.A (getAttr (.ref a) "__class__" true) Q X.xe sh := by
  obtain ⟨h, g, d, t, os⟩ := sh
  simp only [List.mem_cons, List.not_mem_nil, or_false] at hn
  rcases hn with rfl | rfl | rfl
  · exact fvc_tuple e c fin
  · exact fvc_list e c fin
  · exact fvc_dict e c fin
theorem cls_get {Q : Value → Shared → Prop} (I : Inv X pins σ H sh) (ru : RelV x u) (ty : TyX X.K H x (.type n)) (hn : n ∈ cnN) (fin : Q (.type n) { sh with toks := sh.toks + 1 }) : wpAny (model X.prog X.w) X.A (getAttr u "__class__" true) Q X.xe sh := by
  generalize ht : Value.type n = t at ty
  cases ty with
  | base b =>
    cases b with
    | non => cases ht; cases (show u = Value.none from ru); exact fvc_none fin
    | bl y => cases ht; cases (show u = Value.bool y from ru); exact fvc_bool fin
    | int i => cases ht; obtain ⟨t, q⟩ := (show ∃ t, u = Value.int i t from ru); cases q; exact fvc_int fin
    | str y => cases ht; obtain ⟨t, q⟩ := (show ∃ t, u = Value.str y t from ru); cases q; exact fvc_str fin
    | flt y => cases ht; simp [cnN] at hn
    | @lst a xs ea =>
      cases ht
      cases (show u = Value.ref a from ru)
      obtain ⟨_, _, n, _, h1⟩ := (show ObjOk X.prog X.w H sh.heap a (.lst xs) from I.hok a _ ea)
      exact cls_ref (by simp) h1 rfl fin
    | @frz a ob xs ea =>
      cases ht
      cases (show u = Value.ref a from ru)
      obtain ⟨_, _, _, n, _, h1⟩ := (show ObjOk X.prog X.w H sh.heap a (.frz ob (.lst xs)) from I.hok a _ ea)
      exact cls_ref (by simp) h1 rfl fin
    | @tup a xs ea =>
      cases ht
      cases (show u = Value.ref a from ru)
      obtain ⟨_, _, _, o, h1, h2, _⟩ := (show ObjOk X.prog X.w H sh.heap a (.tup xs) from I.hok a _ ea)
      exact cls_ref (by simp) h1 h2 fin
    | @dK a kvs ea =>
      cases ht
      cases (show u = Value.ref a from ru)
      obtain ⟨_, _, vs, _, o, es, ep, h1, h2, _⟩ := (show ObjOk X.prog X.w H sh.heap a (.dK kvs) from I.hok a _ ea)
      exact cls_ref (by simp) h1 h2.1 fin
    | @dT a kvs ea =>
      cases ht
      cases (show u = Value.ref a from ru)
      obtain ⟨_, _, xs, _, o, es, ep, h1, h2, _⟩ := (show ObjOk X.prog X.w H sh.heap a (.dT kvs) from I.hok a _ ea)
      exact cls_ref (by simp) h1 h2.1 fin
    | ins ea cl ha hn htk hm => cases ht
  | byt y => cases ht; simp [cnN] at hn
  | set ea => cases ht; simp [cnN] at hn
  | @kList a o e c => cases ht; cases (show u = Value.ref a from ru); exact cls_ref (by simp) (I.kIn a o e) c fin
  | @kTuple a o e c => cases ht; cases (show u = Value.ref a from ru); exact cls_ref (by simp) (I.kIn a o e) c fin
  | @kDict a o e c => cases ht; cases (show u = Value.ref a from ru); exact cls_ref (by simp) (I.kIn a o e) c fin
  | @fTuple a ob xs ea =>
    cases ht
    cases (show u = Value.ref a from ru)
    obtain ⟨_, _, _, _, o, h1, h2, _⟩ := (show ObjOk X.prog X.w H sh.heap a (.frz ob (.tup xs)) from I.hok a _ ea)
    exact cls_ref (by simp) h1 h2 fin
  | @fDict a ob kvs ea =>
    cases ht
    cases (show u = Value.ref a from ru)
    obtain ⟨_, _, _, vs, _, o, es, ep, h1, h2, _⟩ := (show ObjOk X.prog X.w H sh.heap a (.frz ob (.dK kvs)) from I.hok a _ ea)
    exact cls_ref (by simp) h1 h2.1 fin
end
end Fv

namespace Fv
open PySem PySem.Spec PyProof.Rows L2
/-! ### v.__class__.__name__ of built-in kinds -/
theorem ce_ty {g : Wd} {μ : M} {H : Hp} {p : Addr} {o : D} {n : String} (c : Ce g μ H p o) (e : kdC [] [] o = some (.b n)) (hn : n ∈ cnN) : TyX g.K H (.ref p) (.type n) := by
  cases o <;> simp only [Ce] at c <;> simp only [kdC, Option.some.injEq, Kd.b.injEq, reduceCtorEq] at e
  · obtain ⟨ys, a, _⟩ := c; subst e; exact .base (.lst a)
  · obtain ⟨ys, ⟨kk, _, a⟩, _⟩ := c; subst e; exact .base (.dK a)
  · obtain ⟨ys, ⟨kk, _, a⟩, _⟩ := c; subst e; exact .base (.dT a)
  · subst e; simp [cnN] at hn
  · simp at e
theorem kind_ty {g : Wd} {μ : M} {H : Hp} {s : S} {d : D} {x : V} {n : String} (hs : Rs g μ H s) (r : RW g μ H d x) (e : kdOf [] [] s d = some (.b n)) (hn : n ∈ cnN) : TyX g.K H x (.type n) := by
  rcases r with r | ⟨hd, p, rfl, _, c⟩
  · cases d with
    | non => simp only [RV] at r; subst r; cases e; exact .base .non
    | bl b => simp only [RV] at r; subst r; cases e; exact .base (.bl b)
    | int b => simp only [RV] at r; subst r; cases e; exact .base (.int b)
    | str b => simp only [RV] at r; subst r; cases e; exact .base (.str b)
    | tup ds => simp only [RV] at r; obtain ⟨p, ys, rfl, q, _⟩ := r; cases e; exact .base (.tup q)
    | ktup ds =>
      simp only [RV] at r
      obtain ⟨p, ys, rfl, q, _⟩ := r
      cases e
      rcases q H with (q | ⟨o, q⟩) | ⟨o, its, n, e, c, _⟩
      · exact .base (.tup q)
      · exact .fTuple q
      · exact .kTuple e c
    | lst ds => simp only [RV] at r; obtain ⟨p, ys, rfl, z, q, _⟩ := r; cases e; exact .base (.lst q)
    | fl ds =>
      simp only [RV] at r
      obtain ⟨p, ys, rfl, q, _⟩ := r
      cases e
      rcases q with ⟨o, q⟩ | ⟨o, its, n, e, c, _⟩
      · exact .base (.frz q)
      · exact .kList e c
    | dct ks ds => simp only [RV] at r; obtain ⟨p, ys, rfl, z, ⟨kk, _, q⟩, _⟩ := r; cases e; exact .base (.dK q)
    | dtt ks ds => simp only [RV] at r; obtain ⟨p, ys, rfl, z, ⟨kk, _, q⟩, _⟩ := r; cases e; exact .base (.dT q)
    | set ks => cases e; simp [cnN] at hn
    | obj c ns ds => simp [kdOf, kdC] at e
    | exh c ns ds => simp [kdOf, kdC] at e
    | exq c => simp [kdOf, kdC] at e
    | ref a =>
      simp only [RV] at r
      obtain ⟨p, ep, rfl⟩ := r
      simp only [kdOf] at e
      split at e
      · rename_i ei; exact ce_ty (hs.at_ _ _ _ ei ep) e hn
      · rename_i ei; exact ce_ty (hs.at_ _ _ _ ei ep) e hn
      · rename_i ei; exact ce_ty (hs.at_ _ _ _ ei ep) e hn
      · rename_i ei; exact ce_ty (hs.at_ _ _ _ ei ep) e hn
      · simp at e
      · cases e
    | exc _ _ => cases e
    | xn _ _ => cases e
    | ty _ => cases e
    | gl _ => cases e
  · refine ce_ty c ?_ hn
    cases d <;> first | exact e | cases hd
def cnE (m : E) : E := fun ρ s => (m ρ s).bind fun d s => match kdOf [] [] s d with | some (.b n) => if n ∈ cnN then .ok (.str (Str.ofString n)) s else .bad | _ => .bad
theorem q_cn {X : Cx} {W : WX} {e : Expr} {m : E} {p1 p2 : Pos} (he : PE X e (liftB (wd X) W m)) (hb : attributeBase e "__class__" X.env (eval e X.env) = eval e X.env := by rfl)
    (hb2 : attributeBase (.Attribute e "__class__" p1) "__name__" X.env (eval (.Attribute e "__class__" p1) X.env) = eval (.Attribute e "__class__" p1) X.env := by rfl) : PE X (.Attribute (.Attribute e "__class__" p1) "__name__" p2) (liftE (wd X) W (cnE m)) := by
  refine ⟨fun pins sh σ H Q I ⟨F0, μ, ρ, s, hρ, hs, h⟩ => ?_⟩
  have hq : liftB (wd X) W m σ H fun x H1 => ∃ n, n ∈ cnN ∧ TyX X.K H1 x (.type n) ∧ Q (.str (Str.ofString n)) H1 :=
    ⟨F0, μ, ρ, s, hρ, hs, runs_bind (Rel1 := RW (wd X)) h fun d s1 μ1 H1 x e1 x1 hs1 r1 h1 => by
      split at h1
      case h_2 => exact h1.elim
      rename_i n en
      split at h1
      case isFalse => exact h1.elim
      rename_i hn
      exact ⟨n, hn, kind_ty hs1 r1 en hn, runs_pure h1 hs1 (by simp only [RV])⟩⟩
  refine attr_of hb2 (attr_of hb (thn (he.run pins sh σ H _ I hq) fun u s1 hh => ?_))
  obtain ⟨x, H1, I1, rx, n, hn, ty, q2⟩ := hh
  refine cls_get I1 rx ty hn (cn_get (I1.tok (s1.toks + 1)).kIn hn fun tk u => ⟨.str (Str.ofString n), H1, I1.tok u, ⟨tk, rfl⟩, q2⟩)
end Fv

namespace Fv
open PySem PySem.Spec PyProof.Rows L2
/-! ### repr -/
def pyK : Key → PyData
  | .inl i => .int i
  | .inr x => .str x
mutual
def pyD : D → Option PyData
  | .non => some .none | .bl b => some (.bool b) | .int i => some (.int i) | .str x => some (.str x)
  | .tup xs => (pyDs xs).map .tuple | .ktup xs => (pyDs xs).map .tuple
  | .lst xs => (pyDs xs).map .list | .fl xs => (pyDs xs).map .list
  | .dct ks vs => (keysD ks).bind fun kk => (pyDs vs).map fun ps => .dict ((kk.map pyK).zip ps)
  | _ => none
def pyDs : List D → Option (List PyData)
  | [] => some []
  | d :: r => (pyD d).bind fun p => (pyDs r).map (p :: ·)
end
/-- no tracked thing, no list and no tuple of the written part is the table of modules -/
structure NoSys (K : PySem.W.Frag) (H : Hp) : Prop where
  h : ∀ a o, H a = some o → a ≠ sysModules
  k : ∀ a o its n, K.lookup a = some o → o.data = .seq its n → a ≠ sysModules
section
variable {X : Cx} {pins : List (Addr × Obj)} {σ : L2.St} {H : Hp} {sh : Shared} {μ : M}
theorem keys_read {knd : PySem.KeyKind X.prog X.w Key} (hk : ∀ k v, knd.is k v = true → keyIs k v = true) : ∀ {es : List DictEntry} {kvs : List (Key × Value)}, Pairs knd es kvs → ReadsAll sh.heap (es.map (·.key)) (kvs.map fun p => pyK p.1) [] ∧ es.map (·.val) = kvs.map (·.2)
  | _, _, .nil => ⟨.nil, rfl⟩
  | _, _, .cons (e := e) (kv := kv) h1 h2 r => by
    obtain ⟨a, b⟩ := keys_read hk r
    refine ⟨?_, by simp [h2, b]⟩
    simp only [List.map_cons]
    rcases keyIs_shape (hk _ _ h1) with ⟨i, t, e1, e2⟩ | ⟨x, t, e1, e2⟩
    · rw [e1, e2]; exact ReadsAll.cons (.int i t) a
    · rw [e1, e2]; exact ReadsAll.cons (.str x t) a
mutual
theorem rv_reads (I : Inv X pins σ H sh) (N : NoSys X.K H) : ∀ {d : D} {x : V} {u : Value} {p : PyData}, RV (wd X) μ H d x → RelV x u → pyD d = some p → ∃ as, Reads sh.heap u p as ∧ sysModules ∉ as
  | .non, x, u, p, r, ru, e => by simp only [RV] at r; subst r; cases e; cases ru; exact ⟨_, .none, by simp⟩
  | .bl b, x, u, p, r, ru, e => by simp only [RV] at r; subst r; cases e; cases ru; exact ⟨_, .bool b, by simp⟩
  | .int i, x, u, p, r, ru, e => by
    simp only [RV] at r; subst r
    obtain ⟨t, rfl⟩ := (show ∃ t, u = Value.int i t from ru)
    cases e; exact ⟨_, .int i t, by simp⟩
  | .str y, x, u, p, r, ru, e => by
    simp only [RV] at r; subst r
    obtain ⟨t, rfl⟩ := (show ∃ t, u = Value.str y t from ru)
    cases e; exact ⟨_, .str y t, by simp⟩
  | .tup ds, x, u, p, r, ru, e => by
    simp only [RV] at r
    obtain ⟨a, ys, rfl, q, rr⟩ := r
    obtain rfl : u = Value.ref a := ru
    simp only [pyD, Option.map_eq_some_iff] at e
    obtain ⟨ps, ep, rfl⟩ := e
    obtain ⟨_, its, rv, o, h1, h2, n, h3⟩ := (show ObjOk X.prog X.w H sh.heap a (.tup ys) from I.hok a _ q)
    obtain ⟨as, ra, na⟩ := rvs_reads I N rr rv ep
    exact ⟨as, .tuple h1 h2 h3 ra, na⟩
  | .ktup ds, x, u, p, r, ru, e => by
    simp only [RV] at r
    obtain ⟨a, ys, rfl, q, rr⟩ := r
    obtain rfl : u = Value.ref a := ru
    simp only [pyD, Option.map_eq_some_iff] at e
    obtain ⟨ps, ep, rfl⟩ := e
    obtain ⟨its, rv, ⟨o, h1, h2, n, h3⟩, _⟩ := I.tuple (q H)
    obtain ⟨as, ra, na⟩ := rvs_reads I N rr rv ep
    exact ⟨as, .tuple h1 h2 h3 ra, na⟩
  | .lst ds, x, u, p, r, ru, e => by
    simp only [RV] at r
    obtain ⟨a, ys, rfl, _, q, rr⟩ := r
    obtain rfl : u = Value.ref a := ru
    simp only [pyD, Option.map_eq_some_iff] at e
    obtain ⟨ps, ep, rfl⟩ := e
    obtain ⟨_, its, n, rv, h1⟩ := (show ObjOk X.prog X.w H sh.heap a (.lst ys) from I.hok a _ q)
    obtain ⟨as, ra, na⟩ := rvs_reads I N rr rv ep
    refine ⟨_, .list h1 rfl rfl ra, ?_⟩
    simp only [List.mem_cons, not_or]
    exact ⟨Ne.symm (N.h a _ q), na⟩
  | .fl ds, x, u, p, r, ru, e => by
    simp only [RV] at r
    obtain ⟨a, ys, rfl, q, rr⟩ := r
    obtain rfl : u = Value.ref a := ru
    simp only [pyD, Option.map_eq_some_iff] at e
    obtain ⟨ps, ep, rfl⟩ := e
    obtain ⟨its, rv, ⟨o, n, ho, hc, _, hd⟩, _⟩ := I.list q.sq
    obtain ⟨as, ra, na⟩ := rvs_reads I N rr rv ep
    refine ⟨_, .list ho hc hd ra, ?_⟩
    simp only [List.mem_cons, not_or]
    refine ⟨?_, na⟩
    rcases q with ⟨o', q⟩ | ⟨o', its', n', e1, _, _, e2, _⟩
    · exact Ne.symm (N.h a _ q)
    · exact Ne.symm (N.k a _ _ _ e1 e2)
  | .dct ks ds, x, u, p, r, ru, e => by
    simp only [RV] at r
    obtain ⟨a, ys, rfl, _, ⟨kk, ek, q⟩, l, rr⟩ := r
    obtain rfl : u = Value.ref a := ru
    simp only [pyD, ek, Option.bind_some, Option.map_eq_some_iff] at e
    obtain ⟨ps, ep, rfl⟩ := e
    obtain ⟨_, hsys, vs, kv, o, es, ep', h1, h2, h3, _, h5, _⟩ := (show ObjOk X.prog X.w H sh.heap a (.dK (kk.zip ys)) from I.hok a _ q)
    have lk : kk.length = ys.length := by rw [← keysD_len ek, l]
    have split : ∀ {kk : List Key} {ys : List V} {vs : List (Key × Value)}, kk.length = ys.length → L2.KV (kk.zip ys) vs → vs.map (·.1) = kk ∧ Vals ys (vs.map (·.2)) := by
      intro kk
      induction kk with
      | nil =>
        intro ys vs l h
        have : ys = [] := List.length_eq_zero_iff.mp l.symm
        subst this
        cases h
        exact ⟨rfl, .nil⟩
      | cons k kk ih =>
        intro ys vs l h
        cases ys with
        | nil => cases l
        | cons y ys =>
          cases h with
          | cons r t =>
            obtain ⟨i1, i2⟩ := ih (Nat.succ.inj l) t
            exact ⟨by simp only [List.map_cons, i1]; rw [← r.1], .cons r.2 i2⟩
    obtain ⟨s1, s2⟩ := split lk kv
    obtain ⟨k1, k2⟩ := keys_read (sh := sh) (fun k v h => h) h5
    obtain ⟨as, ra, na⟩ := rvs_reads I N rr s2 ep
    have lp : kk.length = ps.length := by rw [lk, ← rr.length]; exact pyDs_len ep
    refine ⟨_, .dict (as := []) (bs := as) h1 h2.1 h3 ?_ ?_, ?_⟩
    · have z : ((kk.map pyK).zip ps).map (·.1) = vs.map fun p => pyK p.1 := by
        rw [List.map_fst_zip (by simp [lp]), ← s1, List.map_map]; rfl
      rw [z]; exact k1
    · rw [List.map_snd_zip (by simp [lp]), k2]; exact ra
    · simp only [List.cons_append, List.nil_append, List.mem_cons, not_or]
      exact ⟨Ne.symm (N.h a _ q), na⟩
  | .dtt _ _, _, _, _, _, _, e => by simp [pyD] at e
  | .set _, _, _, _, _, _, e => by simp [pyD] at e
  | .obj _ _ _, _, _, _, _, _, e => by simp [pyD] at e
  | .exc _ _, _, _, _, _, _, e => by simp [pyD] at e
  | .xn _ _, _, _, _, _, _, e => by simp [pyD] at e
  | .exh _ _ _, _, _, _, _, _, e => by simp [pyD] at e
  | .exq _, _, _, _, _, _, e => by simp [pyD] at e
  | .ref _, _, _, _, _, _, e => by simp [pyD] at e
  | .ty _, _, _, _, _, _, e => by simp [pyD] at e
  | .gl _, _, _, _, _, _, e => by simp [pyD] at e
theorem rvs_reads (I : Inv X pins σ H sh) (N : NoSys X.K H) : ∀ {ds : List D} {xs : List V} {us : List Value} {ps : List PyData}, RVs (wd X) μ H ds xs → Vals xs us → pyDs ds = some ps → ∃ as, ReadsAll sh.heap us ps as ∧ sysModules ∉ as
  | [], xs, us, ps, r, ru, e => by
    simp only [RVs] at r; subst r
    cases ru
    simp only [pyDs, Option.some.injEq] at e; subst e
    exact ⟨_, .nil, by simp⟩
  | d :: ds, xs, us, ps, r, ru, e => by
    simp only [RVs] at r
    obtain ⟨y, r', rfl, a, b⟩ := r
    simp only [pyDs, Option.bind_eq_some_iff, Option.map_eq_some_iff] at e
    obtain ⟨p, e1, ps', e2, rfl⟩ := e
    cases ru with
    | cons r1 r2 =>
      obtain ⟨as, h1, n1⟩ := rv_reads I N a r1 e1
      obtain ⟨bs, h2, n2⟩ := rvs_reads I N b r2 e2
      exact ⟨_, .cons h1 h2, by simp [n1, n2]⟩
theorem pyDs_len : ∀ {ds : List D} {ps : List PyData}, pyDs ds = some ps → ds.length = ps.length
  | [], _, e => by simp only [pyDs, Option.some.injEq] at e; subst e; rfl
  | d :: ds, _, e => by
    simp only [pyDs, Option.bind_eq_some_iff, Option.map_eq_some_iff] at e
    obtain ⟨p, e1, ps', e2, rfl⟩ := e
    simp [pyDs_len e2]
end
end
/-- a reading is a reading of what stays, for some M -/
theorem RW.some_rv {g : Wd} {μ : M} {H : Hp} {d : D} {x : V} (h : RW g μ H d x) : ∃ μ', RV g μ' H d x := by
  rcases h with h | ⟨hd, p, rfl, hm, c⟩
  · exact ⟨μ, h⟩
  · have q : Ex (fun q => q = p) μ H (μ.frz p hm) H := ex_frz hm (.inl rfl)
    have c2 : Ce g (μ.frz p hm) H p d := c.mono q fun _ e => e
    have zp : (μ.frz p hm).z p := .inr rfl
    refine ⟨μ.frz p hm, ?_⟩
    cases d <;> simp only [D.heavy, Bool.false_eq_true] at hd <;> simp only [Ce] at c2 <;> simp only [RV]
    · obtain ⟨ys, a, b⟩ := c2
      exact ⟨p, ys, rfl, zp, a, b⟩
    · obtain ⟨ys, a, l, b⟩ := c2
      exact ⟨p, ys, rfl, zp, a, l, b⟩
    · obtain ⟨ys, a, l, b⟩ := c2
      exact ⟨p, ys, rfl, zp, a, l, b⟩
    · exact ⟨p, rfl, zp, c2⟩
    · obtain ⟨ys, a, l, b⟩ := c2
      exact ⟨p, ys, rfl, zp, a, l, b⟩
def reprF : Fn := fun ds s => match ds with
  | [d] => match pyD d with
    | some p => if p.showable = true ∧ p.shown.length ≤ sizeLine ∧ p.depth ≤ 60 then .ok (.str p.shown) s else .bad
    | none => .bad
  | _ => .bad
/-- the table of modules stands at the base -/
def SysB (base : Heap) : Prop := ∃ mm, base.Ns sysModules mm
theorem noSys {X : Cx} {pins : List (Addr × Obj)} {σ : L2.St} {H : Hp} {sh : Shared} (I : Inv X pins σ H sh) (h : SysB X.base) : NoSys X.K H := by
  obtain ⟨mm, o, es, ep, e, d, _⟩ := h
  refine ⟨fun a u q z => ?_, fun a u its m q dd z => ?_⟩
  · have := (I.bs sysModules o e).2
    rw [z, this] at q; cases q
  · have w := I.ok.mod.kin _ _ q
    rw [z, e] at w; cases w
    rw [d] at dd; cases dd
theorem qc_repr {X : Cx} (hg : X.A.guards = some []) (hu : X.A.units + 64 < cLine) (sy : SysB X.base) : CallR X (.builtin "repr") (rC (wd X) reprF) := by
  intro pins sh σ H xs us Q I rv ⟨μ, s, ds, hs, r, W, σ', h⟩
  unfold reprF at h
  split at h
  case h_2 => exact h.elim
  rename_i d
  obtain ⟨x, rfl, r1⟩ := r.inv1
  obtain ⟨u, rfl, ru⟩ := vals1 rv
  split at h
  case h_2 => exact h.elim
  rename_i p ep
  split at h
  case isFalse => exact h.elim
  rename_i hz
  obtain ⟨z1, z3, z4⟩ := hz
  have q : Q (.str p.shown) H := runs_pure h hs (by unfold RF; rw [if_neg (by simp [D.heavy])]; simp only [RV])
  obtain ⟨μ', rr⟩ := r1.some_rv
  obtain ⟨as, rd, na⟩ := rv_reads I (noSys I sy) rr ru ep
  have rf : ∀ {a : Addr}, u = .ref a → wpAny (model X.prog X.w) X.A (call (.builtin "repr") [u]) (EP X pins σ Q) X.xe sh := by
    intro a eu
    subst eu
    exact repr_of_reads' rd z1 (fun _ => na) hg (by omega) (fun _ _ e => e) (fun h' u tk hk => ⟨.str _, H, I.kept (t' := tk) hk, ⟨_, rfl⟩, q⟩) z3
  cases rd with
  | none => simp only [PyData.shown] at q; exact PySem.P.repr_of_none ⟨.str _, H, I.tok _, ⟨_, rfl⟩, q⟩
  | bool b => simp only [PyData.shown] at q; exact PySem.P.repr_of_bool ⟨.str _, H, I.tok _, ⟨_, rfl⟩, q⟩
  | int i t => simp only [PyData.shown] at q; exact PySem.P.repr_of_int (of_decide_eq_true (by simpa only [PyData.showable] using z1)) ⟨.str _, H, I.tok _, ⟨_, rfl⟩, q⟩
  | str y t => simp only [PyData.shown] at q z3; exact PySem.P.repr_of_str ⟨.str _, H, I.tok _, ⟨_, rfl⟩, q⟩ z3
  | list _ _ _ _ => exact rf rfl
  | tuple _ _ _ _ => exact rf rfl
  | dict _ _ _ _ _ => exact rf rfl
end Fv

namespace Fv
open PySem PySem.Spec PyProof.Rows L2
/-! ### dict displays -/
def prsL : List (E × E) → En → S → R (List D × List D)
  | [], _, s => .ok ([], []) s
  | (k, v) :: r, ρ, s => (k ρ s).bind fun x s => (v ρ s).bind fun y s => (prsL r ρ s).bind fun l s => .ok (x :: l.1, y :: l.2) s
def dispE (l : List (E × E)) : E := fun ρ s => (prsL l ρ s).bind fun p s => match keysD p.1 with
  | some kk => if kk.Nodup ∧ kk.length ≤ 15 then .ok (.dct p.1 p.2) s else .bad
  | none => .bad
def dct0E : E := fun _ s => .ok (.dct [] []) s
def RPs (g : Wd) (μ : M) (H : Hp) (l : List D × List D) (ys : List (V × V)) : Prop := RVs g μ H l.1 (ys.map (·.1)) ∧ RVs g μ H l.2 (ys.map (·.2))
theorem any_not {k : Key} : ∀ {kvs : List (Key × V)}, k ∉ kvs.map (·.1) → (kvs.any fun kv => decide (kv.1 = k)) = false
  | [], _ => rfl
  | (k', v) :: r, h => by
    simp only [List.map_cons, List.mem_cons, not_or] at h
    simp only [List.any_cons, any_not h.2, Bool.or_false, decide_eq_false_iff_not]
    exact fun z => h.1 z.symm
theorem merge_new : ∀ {ms vs : List (Key × V)}, ((vs ++ ms).map (·.1)).Nodup → mergeK vs ms = vs ++ ms
  | [], vs, _ => by simp [mergeK]
  | (k, v) :: ms, vs, h => by
    have nk : k ∉ vs.map (·.1) := by
      rw [List.map_append, List.nodup_append] at h
      intro hk
      exact h.2.2 k hk k (by simp) rfl
    have e : putK vs k v = vs ++ [(k, v)] := by
      unfold putK
      rw [any_not nk]
      rfl
    show mergeK (putK vs k v) ms = _
    rw [e, merge_new (by simpa [List.append_assoc] using h), List.append_assoc]
    rfl
theorem keys_vals {g : Wd} {μ : M} {H : Hp} : ∀ {ks : List D} {kk : List Key} {xs : List V}, RVs g μ H ks xs → keysD ks = some kk → xs = kk.map kV
  | [], kk, xs, r, e => by simp only [RVs] at r; subst r; simp only [keysD, Option.some.injEq] at e; subst e; rfl
  | k :: ks, kk, xs, r, e => by
    simp only [RVs] at r
    obtain ⟨y, r', rfl, a, b⟩ := r
    simp only [keysD, Option.bind_eq_some_iff, Option.map_eq_some_iff] at e
    obtain ⟨k', e1, kk', e2, rfl⟩ := e
    rw [keys_vals b e2]
    cases k <;> simp only [keyD, Option.some.injEq, reduceCtorEq] at e1
    · subst e1; simp only [RV] at a; subst a; rfl
    · subst e1; simp only [RV] at a; subst a; rfl
theorem zip_pair {kk : List Key} : ∀ {ys : List (V × V)}, ys.map (·.1) = kk.map kV → ys = (kk.zip (ys.map (·.2))).map fun kv => (kV kv.1, kv.2) := by
  induction kk with
  | nil => intro ys h; simp at h; subst h; rfl
  | cons k kk ih =>
    intro ys h
    cases ys with
    | nil => cases h
    | cons y ys =>
      simp only [List.map_cons, List.cons.injEq] at h
      simp only [List.map_cons, List.zip_cons_cons]
      rw [← ih h.2, ← h.1]
/-- what was new changes once more -/
theorem ex_again {μ μ2 : M} {H H2 : Hp} {p : Addr} {ho ho' : HO} (x : Ex Fn0 μ H μ2 H2) (hp : H p = none) (e : H2 p = some ho') (nt : ∀ ys, ho' ≠ .tup ys) (nf : ∀ o u, ho' ≠ .frz o u) : Ex Fn0 μ H μ2 (upd H2 p ho) :=
  ⟨x.pre, fun q h => x.trk q (upd_trk q h), fun q ys h => by rw [upd_ne (ne_of_none h hp)]; exact x.tup q ys h, fun q o u h => by rw [upd_ne (ne_of_none h hp)]; exact x.frz q o u h, fun q u h n z => by rw [upd_ne (ne_of_none h hp)]; exact x.oth q u h n z, x.zs, x.zn⟩
section
variable {X : Cx} {W : WX} {pos : Pos}
inductive QPs (X : Cx) (W : WX) (pos : Pos) : List (Option Expr) → List Expr → List (E × E) → Prop where
  | nil : QPs X W pos [] [] []
  | cons {k v : Expr} {mk mv : E} {ks : List (Option Expr)} {vs : List Expr} {l : List (E × E)} (hk : PE X k (liftE (wd X) W mk)) (hv : PE X v (liftE (wd X) W mv)) (hr : QPs X W pos ks vs l) : QPs X W pos (some k :: ks) (v :: vs) ((mk, mv) :: l)
def trsOf (g : Wd) (W : WX) (l : List (E × E)) : List (TE × TE) := l.map fun p => (liftE g W p.1, liftE g W p.2)
theorem QPs.pps {ks : List (Option Expr)} {vs : List Expr} {l : List (E × E)} (h : QPs X W pos ks vs l) : PPs X pos ks vs (trsOf (wd X) W l) := by
  induction h with
  | nil => exact pps_nil
  | cons hk hv _ ih => exact pps_cons hk hv ih
theorem QPs.len {ks : List (Option Expr)} {vs : List Expr} {l : List (E × E)} (h : QPs X W pos ks vs l) : ks.length = vs.length := by
  induction h with
  | nil => rfl
  | cons _ _ _ ih => simp [ih]
theorem prs_sound {Fr : Addr → Prop} {σ : L2.St} {Q : List (V × V) → Hp → Prop} : ∀ {l : List (E × E)} {μ : M} {ρ : En} {s : S} {H : Hp}, REn (wd X) Fr μ H ρ σ → Rs (wd X) μ H s → runs (wd X) W σ μ H (RPs (wd X)) Q (prsL l ρ s) → tPairs (trsOf (wd X) W l) σ H Q
  | [], μ, ρ, s, H, he, hs, h => runs_pure (show runs (wd X) W σ μ H (RPs (wd X)) Q (.ok ([], []) s) from h) hs ⟨by simp only [List.map_nil, RVs], by simp only [List.map_nil, RVs]⟩
  | (k, v) :: l, μ, ρ, s, H, he, hs, h => ⟨Fr, μ, ρ, s, he, hs, runs_bind (Rel1 := RV (wd X)) h fun d s1 μ1 H1 x e1 x1 hs1 r1 h1 => ⟨Fr, μ1, ρ, s1, he.mono x1, hs1, runs_bind (Rel1 := RV (wd X)) h1 fun d2 s2 μ2 H2 y e2 x2 hs2 r2 h2 =>
    prs_sound (l := l) ((he.mono x1).mono x2) hs2 (runs_bind (Rel1 := RPs (wd X)) h2 fun ps s3 μ3 H3 vs e3 x3 hs3 r3 h3 => runs_pure h3 hs3 ⟨by simp only [List.map_cons, RVs]; exact ⟨x, _, rfl, (r1.mono x2).mono x3, r3.1⟩, by simp only [List.map_cons, RVs]; exact ⟨y, _, rfl, r2.mono x3, r3.2⟩⟩)⟩⟩
theorem q_disp {keys : List (Option Expr)} {values : List Expr} {l : List (E × E)} (h : QPs X W pos keys values l) (hall : keys.all (·.isSome) = true := by rfl) (h0 : keys ≠ [] := by decide) (h15 : keys.length ≤ 15 := by decide) : PE X (.Dict keys values pos) (liftF (wd X) W (dispE l)) :=
  pe_imp (pe_disp h.pps hall h.len h0 h15) fun σ H Q ⟨Fr, μ, ρ, s, hρ, hs, hh⟩ p hp => by
    have xp : Ex Fn0 μ H μ (upd H p (.dK [])) := ex_new hp
    have hs1 := hs.new (ho := .dK []) hp
    have nm : p ∉ μ.m := hs.nmem hp
    have nz : ¬ μ.z p := hs.nz hp
    refine prs_sound (hρ.mono xp) hs1 ?_
    unfold dispE at hh
    cases e1 : prsL l ρ s with
    | bad => rw [e1] at hh; exact hh.elim
    | err c ns vs s' => rw [e1] at hh; exact runs_mono (Rel := RPs (wd X)) xp (show runs (wd X) W σ μ H (RPs (wd X)) _ (.err c ns vs s') from hh)
    | ok ps s2 =>
      rw [e1] at hh
      have hh : runs (wd X) W σ μ H (RF (wd X) H) Q (match keysD ps.1 with | some kk => if kk.Nodup ∧ kk.length ≤ 15 then .ok (.dct ps.1 ps.2) s2 else .bad | none => .bad) := hh
      intro μ2 H2 ys x2 hs2 r2
      split at hh
      case h_2 => exact hh.elim
      rename_i kk ek
      split at hh
      case isFalse => exact hh.elim
      rename_i hc
      have hy : H2 p = some (.dK []) := x2.oth p _ upd_same nm (.inr id)
      have kv : ys.map (·.1) = kk.map kV := keys_vals r2.1 ek
      have lk : kk.length = ys.length := by have := congrArg List.length kv; simpa using this.symm
      have lz : kk.length = (ys.map (·.2)).length := by simp [lk]
      have fs : (kk.zip (ys.map (·.2))).map (·.1) = kk := List.map_fst_zip (by simp [lk])
      have nm2 : p ∉ μ2.m := x2.nm upd_same nm
      have nz2 : ¬ μ2.z p := fun z => by
        rcases x2.zn p z with z | z | z
        · exact nz z
        · exact z
        · rw [upd_same] at z; cases z
      have em : mergeK [] (kk.zip (ys.map (·.2))) = kk.zip (ys.map (·.2)) := by rw [merge_new (by simpa [fs] using hc.1)]; rfl
      refine ⟨hy, kk.zip (ys.map (·.2)), zip_pair kv, by rw [List.length_zip]; omega, ?_⟩
      rw [em]
      have xo : Ex (fun q => q = p) μ2 H2 μ2 (upd H2 p (.dK (kk.zip (ys.map (·.2))))) := ex_own nz2 rfl hy (fun _ z => nomatch z) fun _ _ z => nomatch z
      have lks : ps.1.length = (ys.map (·.2)).length := by rw [← lz]; exact keysD_len ek
      refine hh μ2 _ _ (ex_again (xp.trans x2) hp hy (fun _ z => nomatch z) fun _ _ z => nomatch z) (hs2.own nm2 nz2 hy (fun _ z => nomatch z) fun _ _ z => nomatch z) ?_
      unfold RF
      rw [if_pos (show (D.dct ps.1 ps.2).heavy = true from rfl)]
      exact ⟨p, rfl, hp, nm2, nz2, ys.map (·.2), ⟨kk, ek, upd_same⟩, lks, r2.2.mono xo⟩
theorem q_disp0 : PE X (.Dict [] [] pos) (liftF (wd X) W dct0E) := pe_imp pe_dnewK fun σ H Q ⟨Fr, μ, ρ, s, hρ, hs, hh⟩ p hp => by
  refine hh μ _ _ (ex_new hp) (hs.new hp) ?_
  unfold RF
  rw [if_pos (show (D.dct [] []).heavy = true from rfl)]
  exact ⟨p, rfl, hp, hs.nmem hp, hs.nz hp, [], ⟨[], rfl, upd_same⟩, rfl, by simp only [RVs]⟩
end
end Fv

namespace Fv
open PySem PySem.Spec PyProof.Rows L2
/-! ### the law's end -/
theorem rvs_ints {g : Wd} {μ : M} {H : Hp} : ∀ (zs : List Int), RVs g μ H (zs.map D.int) (zs.map V.int)
  | [] => by simp only [List.map_nil, RVs]
  | z :: zs => ⟨.int z, zs.map V.int, rfl, by simp only [RV], rvs_ints zs⟩
/-- the law is said of the tree -/
def Says (f : Fn) (zs : List Int) : Prop := ∃ s, f [.fl (zs.map D.int)] [] = .ok (.bl true) s
theorem spF_law {g : Wd} {f : Fn} {zs : List Int} {a : Addr} {H : Hp} (h : Says f zs) (hS : SqF g.K H a (zs.map V.int)) : spF g f [.ref a] H (fun v _ => v = .bl true) fun _ _ _ => False := by
  obtain ⟨s, e⟩ := h
  refine ⟨⟨[], fun _ => False, fun _ h => h.elim⟩, [.fl (zs.map D.int)], [], .one (by simp only [RV]; exact ⟨a, _, rfl, hS, rvs_ints zs⟩), ⟨rfl, List.nodup_nil, fun p h => h.elim, fun i o p e => by simp at e⟩, ?_⟩
  rw [e]
  intro μ' H' b _ _ r
  simpa only [RV] using r
section
variable {P : Program} {w : World} {K : PySem.W.Frag} {mg mb : Str → Option Value} {k : Nat} {fa a : Addr} {f : Fn} {s₁ : Shared} {vs : List Value} {ns : List Int}
/-- over an abstract heap that has nothing, or the script alone -/
theorem lawAt {H : Hp} (KX : K.In s₁.heap) (hns : s₁.heap.Ns mainGlobals mg) (hb : s₁.heap.Ns builtinsNs mb) (hbb : ∀ x : Str, x ≠ "__name__" → mb x = bootBuiltins x) (hlim : s₁.heap.NoLimit) (hsy : SysB s₁.heap) (hg : s₁.gens = #[])
    (ha : s₁.heap.get? a = some { cls := .type "list", data := .seq vs.toArray }) (hr : Rm k callerA) (F : ∀ base : Heap, K.In base → base.Ns mainGlobals mg → SysB base → FnG P w K mg base k fa (spF ⟨K, mg, P, w⟩ f)) (hsay : Says f ns)
    (hfz : ∀ b u, H b = some u → b = a ∧ K.lookup a = none ∧ ∃ o xs, u = .frz o (.lst xs)) (hS : SqF K H a (ns.map V.int)) (hok : HOk P w H s₁.heap) :
    codeAny (model P w) callerA (.call (.ref fa) ⟨[.ref a], []⟩) (fun r s' => r = .ok (.ret (.bool true)) ∧ OldK s₁.heap s'.heap ∧ s'.os = s₁.os ∧ AllBare s'.gens) s₁ := by
  have free : ∀ {b : Addr} {o : Obj}, s₁.heap.get? b = some o → b ≠ a ∨ K.lookup a ≠ none → H b = none := fun {b o} e ne => by
    cases q : H b with
    | none => rfl
    | some u =>
      obtain ⟨e1, e2, _⟩ := hfz b u q
      rcases ne with ne | ne
      · exact absurd e1 ne
      · exact absurd e2 ne
  have dicts : ∀ {b : Addr} {m : Str → Option Value}, s₁.heap.Ns b m → (hidT s₁.heap H).Ns b m := fun {b m} ⟨o, es, ep, e, d, r⟩ => ⟨o, es, ep, hidT_get e (free e (.inl fun z => by
    rw [z, ha] at e
    cases e
    have d' : Data.seq vs.toArray _ = Data.dict es ep := d
    cases d')), d, r⟩
  have hK : K.In (hidT s₁.heap H) := fun b o e => hidT_get (KX b o e) (free (KX b o e) (by
    by_cases hb : b = a
    · rw [hb] at e
      exact .inr fun z => by rw [e] at z; cases z
    · exact .inl hb))
  have hM : Mod K mg (hidT s₁.heap H) := ⟨hK, dicts hns, ⟨mb, dicts hb, hbb⟩, let ⟨mc, h1, h2⟩ := hlim; ⟨mc, dicts h1, h2⟩⟩
  have e0 : Env0 P w K mg (hidT s₁.heap H) callerA [] s₁ H := ⟨rfl, hM, fun b o e => of_hidT e, Nat.le_of_eq (hidT_size _ _), trivial, fun b hb => absurd (show b ∈ ([] : List Addr) from hb) (by simp), hok, .of_eq hg⟩
  refine codeAny_mono (F _ hK (dicts hns) (let ⟨mm, z⟩ := hsy; ⟨mm, dicts z⟩) callerA [] s₁ H [.ref a] [.ref a] _ _ hr e0 (.cons rfl .nil) (spF_law hsay hS)) fun r s' h => ?_
  cases r with
  | error e =>
    obtain ⟨_, _, _, _, _, _, _, _, _, _, _, _, hE⟩ := h
    exact hE.elim
  | ok fl =>
    cases fl with
    | ret u =>
      obtain ⟨v, H', os, bare, un, hok', r', q⟩ := h
      obtain rfl : v = .bl true := q
      obtain rfl : u = Value.bool true := r'
      refine ⟨rfl, OldK.of_keep fun b o e => ?_, os, bare⟩
      cases q : H b with
      | none => exact un.keep b o e q (fun z => by cases z) (by simp)
      | some u =>
        obtain ⟨_, _, ob, xs, rfl⟩ := hfz b u q
        obtain ⟨e1, _⟩ := hok b _ q
        obtain ⟨e2, _⟩ := hok' b _ (un.frzs b ob _ q)
        rw [e] at e1; cases e1
        exact e2
    | _ => exact False.elim h
theorem lawCall (KX : K.In s₁.heap) (hns : s₁.heap.Ns mainGlobals mg) (hb : s₁.heap.Ns builtinsNs mb) (hbb : ∀ x : Str, x ≠ "__name__" → mb x = bootBuiltins x) (hlim : s₁.heap.NoLimit) (hsy : SysB s₁.heap) (hg : s₁.gens = #[])
    (ha : s₁.heap.get? a = some { cls := .type "list", data := .seq vs.toArray }) (hi : IntsAre vs ns) (hl : ns.length ≤ sizeLine) (hr : Rm k callerA) (F : ∀ base : Heap, K.In base → base.Ns mainGlobals mg → SysB base → FnG P w K mg base k fa (spF ⟨K, mg, P, w⟩ f)) (hsay : Says f ns) :
    codeAny (model P w) callerA (.call (.ref fa) ⟨[.ref a], []⟩) (fun r s' => r = .ok (.ret (.bool true)) ∧ OldK s₁.heap s'.heap ∧ s'.os = s₁.os ∧ AllBare s'.gens) s₁ := by
  have rv := vals_ints hi
  cases hk : K.lookup a with
  | some o =>
    have e := KX a o hk
    rw [ha] at e
    cases e
    exact lawAt (H := fun _ => none) KX hns hb hbb hlim hsy hg ha hr F hsay (fun b u z => nomatch z) (.inr ⟨_, vs.toArray, _, hk, rfl, rfl, rfl, by rw [List.size_toArray, hi.length]; exact hl, by simpa using rv⟩) (fun b u z => nomatch z)
  | none =>
    have at1 : ∀ {b : Addr} {u : HO}, upd (fun _ => none) a (.frz { cls := .type "list", data := .seq vs.toArray } (.lst (ns.map V.int))) b = some u → b = a ∧ u = .frz { cls := .type "list", data := .seq vs.toArray } (.lst (ns.map V.int)) := fun {b u} z => by
      by_cases hb : b = a
      · subst hb
        rw [upd_same] at z
        exact ⟨rfl, (Option.some.inj z).symm⟩
      · rw [upd_ne hb] at z; cases z
    refine lawAt (H := upd (fun _ => none) a (.frz { cls := .type "list", data := .seq vs.toArray } (.lst (ns.map V.int)))) KX hns hb hbb hlim hsy hg ha hr F hsay (fun b u z => ?_) (.inl ⟨_, upd_same⟩) fun b u z => ?_
    · obtain ⟨e1, e2⟩ := at1 z
      exact ⟨e1, hk, _, _, e2⟩
    · obtain ⟨rfl, rfl⟩ := at1 z
      exact ⟨ha, by rw [List.length_map]; exact hl, vs, _, rv, ha⟩
end
theorem lawWalk {l : PySem.W.OpenLaw} {n k : Nat} {q : Program} {loose : List Str} {XP : (Str → Option Value) → Heap → Prop} {YP : World → Heap → Prop} {d : DefRec} {K : Params → PySem.W.Frag} {f : Fn}
    (hi : importsNone q = true) (hn : l.most = some n) (hn2 : n ≤ sizeLine) (hdf : d.params.defaults = []) (hr : Rm k callerA) (hY : ∀ (w : World) (h : Heap), YP w h → (K w.params).In h)
    (F : ∀ (w : World) (mg : Str → Option Value) (h : Heap), (K w.params).In h → h.Ns mainGlobals mg → ∀ base : Heap, (K w.params).In base → base.Ns mainGlobals mg → SysB base → DefOk l.prog w (K w.params) mg base k d.name f)
    (hsay : ∀ ns : List Int, ns.length ≤ n → Says f ns) : PySem.W.WalkO q loose XP YP l.row.toRowW d [] (fun f vs => PySem.call f vs) := by
  refine Att.attach_call hn hdf fun w s₀ s₁ mg mb fa o pm cd doc a vs ns G Y ho hd hcd hmg hobj hints hlen hg => ?_
  have KX := hY w _ Y
  refine lawCall KX G.T.g G.T.b G.T.builtins G.T.nolimit (let ⟨mm, z, _⟩ := (G.T.seer hi).mods; ⟨mm, z⟩) hg hobj hints (Nat.le_trans hlen hn2) hr (fun base h1 h2 h3 => ?_) (hsay ns hlen)
  obtain ⟨fa', e, _, FF⟩ := (F w mg _ KX G.T.g base h1 h2 h3).ex
  rw [hmg] at e
  cases e
  exact FF
end Fv

namespace Fv
open PySem PySem.Spec PyProof.Rows L2
/-! ### str() -/
def strF : Fn := fun ds s => match ds with
  | [.int i] => if decide (i.natAbs.log2 < 1920) then .ok (.str (toString i : String)) s else .bad
  | [.str y] => .ok (.str y) s
  | _ => .bad
theorem qc_str {X : Cx} : CallR X (.type "str") (rC (wd X) strF) := by
  intro pins sh σ H xs us Q I rv ⟨μ, s, ds, hs, r, W, σ', h⟩
  unfold strF at h
  split at h
  · obtain ⟨x, rfl, r1⟩ := r.inv1
    have r1 := r1.light rfl
    simp only [RV] at r1; subst r1
    split at h
    · rename_i hz
      exact call_str_int pins sh σ H _ us Q I rv ⟨_, rfl, of_decide_eq_true hz, rf_str h hs⟩
    · exact h.elim
  · obtain ⟨x, rfl, r1⟩ := r.inv1
    have r1 := r1.light rfl
    simp only [RV] at r1; subst r1
    exact SkE.call_str_str pins sh σ H _ us Q I rv ⟨_, rfl, rf_str h hs⟩
  · exact h.elim
/-! ### an exception class without a maker of its own, called with nothing -/
def exqE (c : Tx) : E := fun _ s => .ok (.exq c) s
structure ExqC (K : PySem.W.Frag) (C : Addr) : Prop where
  q : ∃ bmB, PySem.W.excIn K C bmB "ValueError.__new__" = true ∧ ExcBaseFacts "ValueError" "ValueError.__new__" "ValueError.__init__" bmB
  k : PySem.W.keepIn K (.ref C) = true
theorem q_exq {X : Cx} {W : WX} {x : Str} {C : Addr} {p pos : Pos} (T : ExqC X.K C) (hm : X.mg x = some (.ref C)) (hg : Gl X x := by rfl) (hdb : (x == ("__debug__" : Str)) = false := by decide) : PE X (.Call (.Name x p) [] [] pos) (liftE (wd X) W (exqE x)) := by
  obtain ⟨bmB, q, Fb⟩ := T.q
  refine ⟨fun pins sh σ H Q I ⟨F0, μ, ρ, s, hρ, hs, h⟩ => ?_⟩
  refine wpAny_Call_Name_kw (ld_glob I hg hm ?_ hdb)
  refine PySem.W.callWith_K0 I.kIn T.k ?_
  show wpAny _ _ (call (.ref C) []) _ _ _
  obtain ⟨bm, N, nm, qn, bs, hdct, sn, sub, ab, col, dd, k0, k1, k2, k3, k5, mN, hC, hN, hni, T2⟩ := exc_obj I.kIn q
  refine wpAny_call_exc_subT Fb T2 hC hN hni (fun h' a hm2 => ?_) (by show 0 ≤ sizeLine; exact Nat.zero_le _)
  have hn : H a = none := I.hok.gone hm2.new
  obtain ⟨t, ht, _, _⟩ := hm2.there
  have nm : a ∉ μ.m := hs.nmem hn
  have x1 : Ex Fn0 μ H μ (upd H a (exq a C)) := ex_new hn
  have xx : Ex Fn0 μ H (μ.frz a nm) (upd H a (exq a C)) := ⟨⟨[], by simp [M.frz]⟩, x1.trk, x1.tup, x1.frz, x1.oth, fun _ h => .inl h, fun q hq => hq.elim .inl fun e => .inr (.inr (e ▸ hn))⟩
  refine ⟨.ref a, upd H a (exq a C), I.laidN hm2.keeps hm2.new hn (exq_ok ht ⟨rfl, rfl⟩ rfl), rfl, ?_⟩
  exact (show runs (wd X) W σ μ H (RV (wd X)) Q (.ok (.exq x) s) from h) (μ.frz a nm) _ _ xx ((hs.new hn).frz nm ⟨_, upd_same⟩) (by simp only [RV]; exact ⟨a, C, rfl, .inr rfl, hm, upd_same⟩)
/-! ### what the top has written -/
structure DefAt (K : PySem.W.Frag) (mg : Str → Option Value) (x : Str) (st : Stmt) (ps : List Str) : Prop where
  ex : ∃ (fa : Addr) (fd : FuncData), mg x = some (.ref fa) ∧ Fun K x x st fa fd ∧ Binds K fd ps []
theorem binds_zip {K : PySem.W.Frag} {fd : FuncData} {ps : List Str} (b : Binds K fd ps []) (s : Shared) (us : List Value) (h : K.In s.heap) (hl : us.length = ps.length) : BindsTo s fd ⟨us, []⟩ (ps.zip us) := by
  have z := b s us h (by rw [List.append_nil]; exact hl)
  rw [List.append_nil] at z
  exact z
theorem mkFn_len {n N : Nat} {body : C} {ds : List D} {s : S} (h : mkFn n N body ds s ≠ .bad) : ds.length = n := by
  unfold mkFn at h
  split at h
  · rename_i e; exact of_decide_eq_true e
  · exact absurd rfl h
/-- an own exception class with a maker in the written part -/
structure ExcAt (K : PySem.W.Frag) (mg : Str → Option Value) (c qual : Str) (st : Stmt) (ps : List Str) (C : Addr) : Prop where
  gC : mg c = some (.ref C)
  T : OexC K C
  ini : ∃ (fI : Addr) (fd : FuncData), PySem.W.findIn K (.ref C) "__init__" = some (some (.ref fI)) ∧ PySem.W.typeIn K (.ref fI) = some (.type "function") ∧ Fun K "__init__" qual st fI fd ∧ Binds K fd (("self" : Str) :: ps) [] ∧
    (∀ (s : Shared) (u : Value) (ws : List Value), ws.length = ps.length → BindsTo s fd ⟨[u], ps.zip ws⟩ ((("self" : Str) :: ps).zip (u :: ws))) ∧
    ∀ (s : Shared) (u : Value) (ws : List Value), ws.length = ps.length → BindsTo s fd ⟨[u], ps.reverse.zip ws⟩ ((("self" : Str) :: ps).zip (u :: ws.reverse))
  X : ExcC K C
structure BaseAt (K : PySem.W.Frag) (mg : Str → Option Value) (c : Str) (C0 : Addr) : Prop where
  gC : mg c = some (.ref C0)
  sp : PySem.W.specialIn K (.ref C0) "__getattribute__" = some (some (.builtin "type.__getattribute__"))
  rd : PySem.W.readsIn K C0 (.type "type") = true
  vV : PySem.W.findCls K (.ref C0) (.type "type") "__init__" = some (.val (.builtin "ValueError.__init__"))
section
variable {P : Program} {w : World} {K : PySem.W.Frag} {mg : Str → Option Value} {base : Heap} {k : Nat} {x : Str} {st : Stmt} {ps N : List Str} {n nN : Nat} {body : C}
theorem DefAt.ok (T : DefAt K mg x st ps) (S : FnScope N ps (defScope st)) (hnN : N.length = nN) (hn : ps.length = n)
    (hbody : ∀ (fa : Addr) (cdv : Value) (A : Around) (outer : List PySem.Env) (s : Shared) (H : Hp) (E : XK) (Fr : Addr → Prop), Rm k (A.deeper (envOfC x (defScope st) s.heap.objs.size fa cdv)) →
      QSs (cxOf (L2.CX P w) P w K mg base N x (defScope st) fa cdv A outer s H E) (fun c d _ H => E c d H) Fr (defBody st) body) : DefOk P w K mg base (k + 1) x (mkFn n nN body) := by
  obtain ⟨fa, fd, hm, F, b⟩ := T.ex
  exact ⟨fa, hm, F.kp, def_g F S hnN hn (binds_zip b) (hbody fa)⟩
theorem ExcAt.made {c qual : Str} {C : Addr} (T : ExcAt K mg c qual st ps C) (S : FnScope N (("self" : Str) :: ps) (defScope st)) (hnN : N.length = nN) (hn : (("self" : Str) :: ps).length = n)
    (hbody : ∀ (fa : Addr) (cdv : Value) (A : Around) (outer : List PySem.Env) (s : Shared) (H : Hp) (E : XK) (Fr : Addr → Prop), Rm k (A.deeper (envOfC qual (defScope st) s.heap.objs.size fa cdv)) →
      QSs (cxOf (L2.CX P w) P w K mg base N qual (defScope st) fa cdv A outer s H E) (fun c d _ H => E c d H) Fr (defBody st) body) :
    ExOk P w K mg base (k + 1) c (mkFn n nN body) ps := by
  obtain ⟨fI, fd, h1, h2, F, b, k1, k2⟩ := T.ini
  exact ⟨C, fI, fd, T.gC, T.T, h1, h2, def_b F S hnN hn (hbody fI), b, k1, k2⟩
end
end Fv

namespace PyProof.Rows
open PySem
/-! ### a whole number and a truth compared -/
theorem fvlt_bi (p : Bool) (k : Int) (u : Tok) : Gives (Builtin.«int.__lt__» ⟨[.bool p, .int k u], []⟩) (.val (Value.bool (decide ((if p = true then (1 : Int) else 0) < k)))) :=
  .of_wp fun M A E s Q hyp => by obtain ⟨h, g, d, t, os⟩ := s; wp_walk; exact ⟨_, rfl, hyp⟩
theorem fvgt_bi (p : Bool) (k : Int) (u : Tok) : Gives (Builtin.«int.__gt__» ⟨[.bool p, .int k u], []⟩) (.val (Value.bool (decide ((if p = true then (1 : Int) else 0) > k)))) :=
  .of_wp fun M A E s Q hyp => by obtain ⟨h, g, d, t, os⟩ := s; wp_walk; exact ⟨_, rfl, hyp⟩
theorem sub_ib : isSubtype (.type "int") (.type "bool") = pure false := by kernel_rfl
section
variable {prog : Program} {w : World} {A : Around} {E : Value → Shared → Prop} {s : Shared} {p : Bool} {k : Int} {u : Tok} {Q : Value → Shared → Prop}
theorem lt_bi (hyp : Q (.bool (decide ((if p = true then (1 : Int) else 0) < k))) s) : wpAny (model prog w) A (compareOp .Lt (.bool p) (.int k u)) Q E s := by
  show wpAny _ A (richCompare .Lt _ _) Q E s
  exact wpAny_richCompare_left (typeIs_bool' s p) (typeIs_int s k u) (by decide) sub_ib F.slot_bool_lt
    (call_gives F.slot_bool_lt (typeIs_bool' s p) F.entry_int_lt (F.args_int_lt_2 _ _) (fvlt_bi p k u) ⟨nofun, hyp⟩)
/-- the truth's class is below the number's: it is asked first, the other way round -/
theorem lt_ib (hyp : Q (.bool (decide ((if p = true then (1 : Int) else 0) > k))) s) : wpAny (model prog w) A (compareOp .Lt (.int k u) (.bool p)) Q E s := by
  show wpAny _ A (richCompare .Lt _ _) Q E s
  have hv : [Value.int k u, Value.bool p].any Value.onHeap = false := rfl
  have ta := typeIs_int s k u
  have tb := typeIs_bool' s p
  simp only [richCompare, cmpInfo, ta.oneThing_none]
  try with_reducible refine wpAny_holding ?_
  simp only [cRoomFor, hv, Bool.false_eq_true, if_false, pure_bind]
  refine wpAny_bind (wpAny_typeOf ta (wpAny_bind (wpAny_typeOf tb ?_)))
  simp only [show (Value.type "int" != Value.type "bool") = true from by decide, if_true]
  refine wpAny_bind (wpAny_of_eq isSubtype_bool_int ?_)
  simp only [if_true]
  refine wpAny_bind (wpAny_tryCompare_slot tb F.slot_bool_gt (call_gives F.slot_bool_gt tb F.entry_int_gt (F.args_int_gt_2 _ _) (fvgt_bi p k u) ⟨nofun, ?_⟩))
  first
    | exact wpAny_pure hyp
    | exact wpAny_bind (wpAny_pure (wpAny_pure hyp))
    | (wp_walk; exact hyp)
end
end PyProof.Rows
namespace Fv
open PySem PySem.Spec PyProof.Rows L2
def ltbD (x y : D) (s : S) : R D := match x, y with
  | .int i, .bl j => .ok (.bl (decide (i < b2I j))) s
  | .bl i, .int j => .ok (.bl (decide (b2I i < j))) s
  | x, y => ltD x y s
theorem qo_ltb {X : Cx} : QOp X (compareOp .Lt) ltbD := by
  intro pins sh σ H x y v u Q I rx ry ⟨μ, s, d, e, hs, r1, r2, W, σ', h⟩
  unfold ltbD at h
  split at h
  · rename_i i j
    obtain rfl := w_int r1; obtain rfl := w_bl r2
    obtain ⟨t, rfl⟩ := (show ∃ t, v = Value.int i t from rx)
    obtain rfl : u = Value.bool j := ry
    have z := rf_bl h hs
    exact lt_ib ⟨.bl _, H, I, rfl, by cases j <;> simpa [b2I] using z⟩
  · rename_i i j
    obtain rfl := w_bl r1; obtain rfl := w_int r2
    obtain ⟨t, rfl⟩ := (show ∃ t, u = Value.int j t from ry)
    obtain rfl : v = Value.bool i := rx
    have z := rf_bl h hs
    exact lt_bi ⟨.bl _, H, I, rfl, by cases i <;> simpa [b2I] using z⟩
  · exact qo_lt pins sh σ H x y v u Q I rx ry ⟨μ, s, d, e, hs, r1, r2, W, σ', h⟩
def strbF : Fn := fun ds s => match ds with
  | [.bl b] => .ok (.str (if b then "True" else "False")) s
  | ds => strF ds s
theorem qc_strb {X : Cx} : CallR X (.type "str") (rC (wd X) strbF) := by
  intro pins sh σ H xs us Q I rv ⟨μ, s, ds, hs, r, W, σ', h⟩
  unfold strbF at h
  split at h
  · rename_i b
    obtain ⟨x, rfl, r1⟩ := r.inv1
    have r1 := r1.light rfl
    simp only [RV] at r1; subst r1
    obtain ⟨u, rfl, ru⟩ := vals1 rv
    obtain rfl : u = Value.bool b := ru
    exact PySem.P.str_of_bool ⟨.str _, H, I.tok _, ⟨_, by cases b <;> rfl⟩, rf_str h hs⟩
  · exact qc_str pins sh σ H xs us Q I rv ⟨μ, s, _, hs, r, W, σ', h⟩
end Fv

namespace Fv
open PySem PySem.Spec PyProof.Rows L2
/-! ### a table of kinds -/
def isaB (t c : String) : Bool := t == c || (t == "bool" && c == "int")
def tyNames : List String := ["int", "str", "bool", "list", "tuple", "dict"]
theorem kit_bb {K : PySem.W.Frag} {t c : String} (ht : t ∈ cnN) (hc : c ∈ tyNames) : PySem.W.kitOne K (.type t) (.type c) = some (isaB t c) := by
  simp only [tyNames, cnN, List.mem_cons, List.not_mem_nil, or_false] at ht hc
  rcases ht with rfl | rfl | rfl | rfl | rfl | rfl | rfl <;> rcases hc with rfl | rfl | rfl | rfl | rfl | rfl <;> rfl
/-- own classes cn: rows, which of them each one is below; brows: the same for the built-in ones bn -/
def matT (cn : List Tx) (rows : List (List Bool)) (bn : List String) (brows : List (List Bool)) : KT := fun k c => match k, c with
  | .b a, .b n => if a ∈ cnN ∧ n ∈ tyNames then some (isaB a n) else none
  | .o x, .o y => ((cn.zip rows).lookup x).bind fun r => (cn.zip r).lookup y
  | .o x, .b n => ((cn.zip brows).lookup x).bind fun r => (bn.zip r).lookup n
  | _, _ => none
theorem look3 {α β : Type} {x : Tx} : ∀ {cn : List Tx} {ca : List α} {rows : List β} {r : β}, cn.length = ca.length → (cn.zip rows).lookup x = some r → ∃ a, (x, a) ∈ cn.zip ca ∧ (a, r) ∈ ca.zip rows
  | [], _, _, _, _, h => by simp at h
  | c :: cn, [], _, _, l, _ => by cases l
  | c :: cn, a :: ca, [], _, _, h => by simp at h
  | c :: cn, a :: ca, q :: rows, r, l, h => by
    rw [List.zip_cons_cons, lk] at h
    by_cases hx : x = c
    · subst hx
      rw [if_pos rfl] at h; cases h
      exact ⟨a, by simp, by simp⟩
    · rw [if_neg hx] at h
      obtain ⟨b, h1, h2⟩ := look3 (Nat.succ.inj l) h
      exact ⟨b, by simp [h1], by simp [h2]⟩
theorem look2 {β : Type} {n : String} : ∀ {bn : List String} {r : List β} {b : β}, (bn.zip r).lookup n = some b → (n, b) ∈ bn.zip r
  | [], _, _, h => by simp at h
  | c :: bn, [], _, h => by simp at h
  | c :: bn, q :: r, b, h => by
    rw [List.zip_cons_cons, List.lookup_cons] at h
    by_cases hx : n = c
    · subst hx
      simp at h; subst h
      simp
    · have : (n == c) = false := by simpa using hx
      rw [this] at h
      simp [look2 h]
def matOk (K : PySem.W.Frag) (ca : List Addr) (rows : List (List Bool)) : Bool := (ca.zip rows).all fun r => (ca.zip r.2).all fun q => decide (PySem.W.kitOne K (.ref r.1) (.ref q.1) = some q.2)
def bmatOk (K : PySem.W.Frag) (ca : List Addr) (bn : List String) (rows : List (List Bool)) : Bool := (ca.zip rows).all fun r => (bn.zip r.2).all fun q => decide (PySem.W.kitOne K (.ref r.1) (.type q.1) = some q.2)
theorem isT_mat {K : PySem.W.Frag} {mg : Str → Option Value} {cn : List Tx} {ca : List Addr} {rows brows : List (List Bool)} {bn : List String} (hl : cn.length = ca.length) (hm : ∀ p ∈ cn.zip ca, mg p.1 = some (.ref p.2))
    (h1 : matOk K ca rows = true) (h2 : bmatOk K ca bn brows = true) : IsT K mg (matT cn rows bn brows) := by
  have at_ : ∀ {x : Tx} {a : Addr} {t : Value}, (x, a) ∈ cn.zip ca → KdV mg (.o x) t → t = .ref a := fun {x a t} h ⟨C, e, z⟩ => by
    have := hm _ h
    simp only at this
    rw [this] at e; cases e
    exact z
  intro k c b e t u kt ku
  cases k with
  | b a =>
    cases c with
    | b n =>
      simp only [matT] at e
      split at e
      · rename_i hc
        cases e
        obtain rfl : t = .type a := kt
        obtain rfl : u = .type n := ku
        exact kit_bb hc.1 hc.2
      · cases e
    | o y => simp [matT] at e
  | o x =>
    cases c with
    | b n =>
      simp only [matT, Option.bind_eq_some_iff] at e
      obtain ⟨r, e1, e2⟩ := e
      obtain ⟨a, m1, m2⟩ := look3 (ca := ca) hl e1
      have q := look2 e2
      obtain rfl := at_ m1 kt
      obtain rfl : u = .type n := ku
      have z := List.all_eq_true.mp (List.all_eq_true.mp h2 _ m2) _ q
      exact of_decide_eq_true z
    | o y =>
      simp only [matT, Option.bind_eq_some_iff] at e
      obtain ⟨r, e1, e2⟩ := e
      obtain ⟨a, m1, m2⟩ := look3 (ca := ca) hl e1
      obtain ⟨a', m3, m4⟩ := look3 (ca := ca) hl e2
      obtain rfl := at_ m1 kt
      obtain rfl := at_ m3 ku
      have z := List.all_eq_true.mp (List.all_eq_true.mp h1 _ m2) _ m4
      exact of_decide_eq_true z
theorem Rm.u65 {k : Nat} {A : Around} (r : Rm k A) : A.units + 65 < cLine := by have := r.r.un; omega
theorem XfC.of {K : PySem.W.Frag} {C : Addr} (T : ExcC K C) : XfC K C := ⟨T.hg, T.hk, T.hs, T.hd⟩
end Fv

namespace Fv
open PySem PySem.Spec L2
/-! ### plain facts -/
theorem seq_nx {a b : C} {ρ ρ' : En} {s s' : S} (h : a ρ s = .nx ρ' s') : seqS a b ρ s = b ρ' s' := by simp only [seqS, h, RS.next]
theorem seq_rt {a b : C} {ρ : En} {s s' : S} {d : D} (h : a ρ s = .rt d s') : seqS a b ρ s = .rt d s' := by simp only [seqS, h, RS.next]
theorem mulS {i j : Int} (h : i.natAbs < 2 ^ 200) (k : j.natAbs < 2 ^ 200) : mulOk i j = true := by
  have a : i.natAbs.log2 < 250 := by
    by_cases z : i.natAbs = 0
    · rw [z]; decide
    · exact (Nat.log2_lt z).mpr (Nat.lt_of_lt_of_le h (Nat.pow_le_pow_right (by decide) (by decide)))
  have b : j.natAbs.log2 < 250 := by
    by_cases z : j.natAbs = 0
    · rw [z]; decide
    · exact (Nat.log2_lt z).mpr (Nat.lt_of_lt_of_le k (Nat.pow_le_pow_right (by decide) (by decide)))
  simp only [mulOk, decide_eq_true_eq]
  omega
theorem szlS {n : Nat} (h : n ≤ 16777216) : szl n = true := by
  simp only [szl, decide_eq_true_eq]
  exact Nat.le_trans h (by decide)
theorem toPws_ints (rf : Nat → Option PyData) : ∀ zs : List Int, toPws rf (zs.map D.int) = some (zs.map PyData.int)
  | [] => rfl
  | z :: zs => by simp [toPws, toPw, toPws_ints rf zs]
theorem lay_ints : ∀ zs : List Int, PyData.canLayAll0 (zs.map PyData.int) = true ∧ PyData.depthAll (zs.map PyData.int) = 0
  | [] => by simp [PyData.canLayAll0, PyData.depthAll]
  | z :: zs => by simp [PyData.canLayAll0, PyData.depthAll, PyData.canLay0, PyData.depth, lay_ints zs]
theorem shaped_ints (zs : List Int) : SeqAt.shaped (.list (zs.map PyData.int)) = true := by
  simp [SeqAt.shaped, PyData.canLay0, PyData.depth, lay_ints zs]
theorem ne_nil {s : S} {zs : List Int} : neD (.lst (zs.map D.int)) (.lst []) s = .ok (.bl (decide (zs ≠ []))) s := by
  have t1 : toP s (.lst (zs.map D.int)) = some (.list (zs.map PyData.int)) := by simp [toP, toPw, toPws_ints]
  have t2 : toP s (.lst []) = some (.list []) := by simp [toP, toPw, toPws]
  have s1 := shaped_ints zs
  have s2 : SeqAt.shaped (.list []) = true := shaped_ints []
  simp only [neD, eqB, scE, t1, t2, s1, s2, Bool.and_self, if_true]
  cases zs <;> simp [PyData.eqv, PyData.eqvAll]
theorem at_nat {α : Type} {xs : List α} {i : Int} (h0 : 0 ≤ i) (h1 : i < xs.length) : ∃ v, xs[i.toNat]? = some v ∧ atI xs i = some v := by
  have hl : i.toNat < xs.length := by omega
  refine ⟨xs[i.toNat], List.getElem?_eq_getElem hl, ?_⟩
  have z := atI_nat (xs := xs) (j := i.toNat) (List.getElem?_eq_getElem hl)
  rwa [Int.toNat_of_nonneg h0] at z
/-! ### the pool that a law draws from: the first of the store -/
def Pl (zs : List Int) (t r : Int) (s : S) : S := .lst [.lst (zs.map D.int), .int t, .int r] :: s
theorem pl0 {zs : List Int} {t r : Int} {s : S} : (Pl zs t r s)[0]? = some (.lst [.lst (zs.map D.int), .int t, .int r]) := rfl
/-- drawn so far at most m times -/
def PlOk (m t r : Int) : Prop := 0 ≤ t ∧ t ≤ m ∧ 0 ≤ r
end Fv

namespace Fv
open PySem PySem.Spec PyProof.Rows L2
/-! ### methods of own objects -/
/-- the classes cs have the method m, which is f of the object and the arguments -/
def MthOk (P : Program) (w : World) (K : PySem.W.Frag) (mg : Str → Option Value) (base : Heap) (k : Nat) (cs : List Tx) (m : Str) (f : Fn) : Prop :=
  ∀ c ∈ cs, ∀ C, mg c = some (.ref C) → ∃ fI, Cls K C ∧ Meth K C m fI ∧ FnG P w K mg base k fI (spF ⟨K, mg, P, w⟩ f)
theorem MthOk.mono {P : Program} {w : World} {K : PySem.W.Frag} {mg : Str → Option Value} {base : Heap} {j k : Nat} {cs : List Tx} {m : Str} {f : Fn} (d : MthOk P w K mg base j cs m f) (h : j ≤ k) : MthOk P w K mg base k cs m f := fun c hc C e => by
  obtain ⟨fI, a, b, F⟩ := d c hc C e
  exact ⟨fI, a, b, F.mono h⟩
def mthE (cs : List Tx) (m : Tx) (f : Fn) (mo : E) (ms : As) : E := fun ρ s => (mo ρ s).bind fun o s => match objOf s o with
  | some (c, ns, vs) => if c ∈ cs ∧ lookN ns vs m = none then (ms ρ s).bind fun ds s => f (o :: ds) s else .bad
  | none => .bad
section
variable {X : Cx} {W : WX} {k : Nat} {cs : List Tx} {m : Str} {f : Fn} {mo : E} {ms : As} {o e : Expr} {es : List Expr} {apos pos : Pos} {pl : Sem Bool}
abbrev MthX (X : Cx) (k : Nat) (cs : List Tx) (m : Str) (f : Fn) : Prop := MthOk X.prog X.w X.K X.mg X.base k cs m f
theorem q_own (d : MthX X k cs m f) (hr : Rm k X.A) (tk : Takes X W) (ho : PE X o (liftE (wd X) W mo)) (ha : PA X (e :: es) (liftA (wd X) W ms))
    (hst : starEach (e :: es) X.env = (false, eval e X.env) :: starEach es X.env := by rfl) (hpl : (backTo pos (starEach es X.env)).any (·.1) = false := by rfl)
    (ht : eval (.Call (.Attribute o m apos) (e :: es) [] pos) X.env = (do
      let ov ← eval o X.env
      standAt apos.atName
      let (f, first) ← holding [ov] (getMethod ov m pl)
      callWith pos f first (backTo pos (starEach (e :: es) X.env)) (backToKw pos (keywordEach [] X.env))) := by rfl) :
    PE X (.Call (.Attribute o m apos) (e :: es) [] pos) (liftE (wd X) W (mthE cs m f mo ms)) := by
  refine ⟨fun pins sh σ H Q I ⟨F0, μ, ρ, s, hρ, hs, h⟩ => ?_⟩
  have hq : liftE (wd X) W mo σ H fun x H1 => ∃ a C dx fs fI, x = .ref a ∧ H1 a = some (.ins C dx fs) ∧ fs.lookup m = none ∧ Cls X.K C ∧ Meth X.K C m fI ∧ FnG X.prog X.w X.K X.mg X.base k fI (spF (wd X) f) ∧
      liftA (wd X) W ms σ H1 fun vs H2 => spF (wd X) f (x :: vs) H2 Q (fun c d H => W c d σ H) :=
    ⟨F0, μ, ρ, s, hρ, hs, runs_bind (Rel1 := RV (wd X)) h fun od s1 μ1 H1 x e1 x1 hs1 r1 h1 => by
      split at h1
      case h_2 => exact h1.elim
      rename_i c ns vs eo
      split at h1
      case isFalse => exact h1.elim
      rename_i hc
      obtain ⟨a, C, dx, ys, rfl, mC, q, l, rr⟩ := objOf_sound hs1 r1.w eo
      obtain ⟨fI, k1, k2, k3⟩ := d c hc.1 C mC
      exact ⟨a, C, dx, _, fI, rfl, q, (lookN_sound (f := m) rr l).2 hc.2, k1, k2, k3, F0, μ1, ρ, s1, hρ.mono x1, hs1, runs_bind (Rel1 := RVs (wd X)) h1 fun ds s2 μ2 H2 vs e2 x2 hs2 r2 h2 =>
        spF_of (ds := od :: ds) (by simp only [RVs]; exact ⟨_, _, rfl, r1.mono x2, r2⟩) hs2 h2⟩⟩
  refine PySem.W.methodCall_KW (pl := pl) (thn (ho.run pins sh σ H _ I hq) fun u s1 ⟨x, H1, I1, rx, a, C, dx, fs, fI, ex, ea, ln, k1, k2, k3, q⟩ => ?_) ht
  subst ex
  obtain rfl : u = Value.ref a := rx
  refine getmeth_ok I1 ea k1 k2 ln ?_
  exact PySem.W.callWith_K (first := [.ref a]) (h₀ := X.base) I.ok.mod.kin k2.kp (thn (ha.run pos pins s1 σ H1 _ I1 q) fun us s2 ⟨vs, H2, I2, r, q2⟩ => ⟨I2.kIn, run_def (us := .ref a :: us) (vs := .ref a :: vs) k3 hr tk I2 (.cons rfl r) q2⟩) hst hpl
theorem q_own0 (d : MthX X k cs m f) (hr : Rm k X.A) (tk : Takes X W) (ho : PE X o (liftE (wd X) W mo))
    (ht : eval (.Call (.Attribute o m apos) [] [] pos) X.env = (do
      let ov ← eval o X.env
      standAt apos.atName
      let (f, first) ← holding [ov] (getMethod ov m pl)
      callWith pos f first (backTo pos (starEach [] X.env)) (backToKw pos (keywordEach [] X.env))) := by rfl) :
    PE X (.Call (.Attribute o m apos) [] [] pos) (liftE (wd X) W (mthE cs m f mo nilA)) := by
  refine ⟨fun pins sh σ H Q I ⟨F0, μ, ρ, s, hρ, hs, h⟩ => ?_⟩
  have hq : liftE (wd X) W mo σ H fun x H1 => ∃ a C dx fs fI, x = .ref a ∧ H1 a = some (.ins C dx fs) ∧ fs.lookup m = none ∧ Cls X.K C ∧ Meth X.K C m fI ∧ FnG X.prog X.w X.K X.mg X.base k fI (spF (wd X) f) ∧
      spF (wd X) f [x] H1 Q (fun c d H => W c d σ H) :=
    ⟨F0, μ, ρ, s, hρ, hs, runs_bind (Rel1 := RV (wd X)) h fun od s1 μ1 H1 x e1 x1 hs1 r1 h1 => by
      split at h1
      case h_2 => exact h1.elim
      rename_i c ns vs eo
      split at h1
      case isFalse => exact h1.elim
      rename_i hc
      obtain ⟨a, C, dx, ys, rfl, mC, q, l, rr⟩ := objOf_sound hs1 r1.w eo
      obtain ⟨fI, k1, k2, k3⟩ := d c hc.1 C mC
      exact ⟨a, C, dx, _, fI, rfl, q, (lookN_sound (f := m) rr l).2 hc.2, k1, k2, k3, spF_of (ds := [od]) (.one r1) hs1 h1⟩⟩
  refine PySem.W.methodCall_KW (pl := pl) (thn (ho.run pins sh σ H _ I hq) fun u s1 ⟨x, H1, I1, rx, a, C, dx, fs, fI, ex, ea, ln, k1, k2, k3, q⟩ => ?_) ht
  subst ex
  obtain rfl : u = Value.ref a := rx
  refine getmeth_ok I1 ea k1 k2 ln ?_
  exact PySem.W.callWith_K0 (first := [.ref a]) I1.kIn k2.kp (run_def (us := [.ref a]) (vs := [.ref a]) k3 hr tk I1 (.cons rfl .nil) q)
end
end Fv

namespace Fv
open PySem PySem.Spec PyProof.Rows L2
/-! ### list(), tuple(), max, sum, sorted of whole numbers -/
def listF : Fn := fun ds s => match ds with
  | [d] => match seqOf s d with | some xs => .ok (.lst xs) s | none => .bad
  | _ => .bad
def tupleF : Fn := fun ds s => match ds with
  | [d] => match tupOf d with
    | some _ => .ok d s
    | none => match lsOf s d with | some xs => .ok (.tup xs) s | none => .bad
  | _ => .bad
def maxI : List Int → Int
  | [] => 0
  | [x] => x
  | x :: xs => if maxI xs > x then maxI xs else x
def maxF : Fn := fun ds s => match ds with
  | [.int i, .int j] => .ok (.int (if j > i then j else i)) s
  | [d] => match lsOf s d with
    | some xs => match intsOf xs with | some (n :: ns) => .ok (.int (maxI (n :: ns))) s | _ => .bad
    | none => .bad
  | _ => .bad
def sumF : Fn := fun ds s => match ds with
  | [d] => match lsOf s d with
    | some xs => match intsOf xs with | some ns => .ok (.int ns.sum) s | none => .bad
    | none => .bad
  | _ => .bad
def sortI (ns : List Int) : List Int := ns.mergeSort (fun a b => decide (a ≤ b))
def sortedIF : Fn := fun ds s => match ds with
  | [d] => match lsOf s d with
    | some xs => match intsOf xs with | some ns => .ok (.lst ((sortI ns).map D.int)) s | none => .bad
    | none => .bad
  | _ => .bad
theorem maxI_mem : ∀ {n : Int} {ns : List Int}, maxI (n :: ns) ∈ n :: ns
  | n, [] => by simp [maxI]
  | n, m :: ns => by
    have ih := @maxI_mem m ns
    simp only [maxI]
    split
    · exact List.mem_cons_of_mem _ ih
    · simp
theorem maxI_ge : ∀ {n : Int} {ns : List Int} {y : Int}, y ∈ n :: ns → y ≤ maxI (n :: ns)
  | n, [], y, h => by simp at h; subst h; simp [maxI]
  | n, m :: ns, y, h => by
    simp only [maxI]
    rcases List.mem_cons.mp h with rfl | h
    · split <;> omega
    · have ih := maxI_ge h
      split <;> omega
theorem sortI_uniq {ns ns' : List Int} (p : ns'.Perm ns) (h : ns'.Pairwise (· ≤ ·)) : ns' = sortI ns := by
  have p2 : (sortI ns).Perm ns := List.mergeSort_perm ns _
  have h2 : (sortI ns).Pairwise (· ≤ ·) := by
    have z := List.pairwise_mergeSort (le := fun a b : Int => decide (a ≤ b)) (fun a b c h1 h2 => by simp at *; omega) (fun a b => by simp; omega) ns
    exact z.imp (fun h => by simpa using h)
  exact List.Perm.eq_of_pairwise (fun a b _ _ h1 h2 => Int.le_antisymm h1 h2) h h2 (p.trans p2.symm)
section
variable {X : Cx}
theorem qc_list : CallR X (.type "list") (rC (wd X) listF) := by
  intro pins sh σ H xs us Q I rv ⟨μ, s, ds, hs, r, W, σ', h⟩
  unfold listF at h
  split at h
  case h_2 => exact h.elim
  rename_i d
  obtain ⟨x, rfl, r1⟩ := r.inv1
  split at h
  case h_2 => exact h.elim
  rename_i zs ez
  obtain ⟨p, ys, rfl, q, rr⟩ := seqOf_sound hs r1 ez
  exact call_list_of pins sh σ H _ us Q I rv ⟨p, ys, rfl, q.symm, rf_lst h hs rr⟩
theorem qc_tuple : CallR X (.type "tuple") (rC (wd X) tupleF) := by
  intro pins sh σ H xs us Q I rv ⟨μ, s, ds, hs, r, W, σ', h⟩
  unfold tupleF at h
  split at h
  case h_2 => exact h.elim
  rename_i d
  obtain ⟨x, rfl, r1⟩ := r.inv1
  split at h
  · rename_i zs ez
    obtain ⟨p, ys, rfl, q, rr⟩ := tupOf_sound r1 ez
    exact call_tuple_of pins sh σ H _ us Q I rv ⟨p, ys, rfl, .inr ⟨q, rf_pure h hs (tupOf_light ez) (r1.light (tupOf_light ez))⟩⟩
  · split at h
    case h_2 => exact h.elim
    rename_i zs ez
    obtain ⟨p, ys, rfl, q, rr⟩ := lsOf_sound hs r1 ez
    exact call_tuple_of pins sh σ H _ us Q I rv ⟨p, ys, rfl, .inl ⟨q, rv_tup hs rr h⟩⟩
theorem qc_max (hc : X.calm = true) : CallR X (.builtin "max") (rC (wd X) maxF) := by
  intro pins sh σ H xs us Q I rv ⟨μ, s, ds, hs, r, W, σ', h⟩
  unfold maxF at h
  split at h
  · rename_i i j
    obtain ⟨x, y, rfl, r1, r2⟩ := r.inv2
    obtain rfl := w_int r1; obtain rfl := w_int r2
    exact call_max2 hc pins sh σ H _ us Q I rv ⟨i, j, rfl, rf_int h hs⟩
  · rename_i d
    obtain ⟨x, rfl, r1⟩ := r.inv1
    split at h
    case h_2 => exact h.elim
    rename_i zs ez
    split at h
    case h_2 => exact h.elim
    rename_i n ns en
    obtain ⟨p, ys, rfl, q, rr⟩ := lsOf_sound hs r1 ez
    have e := ints_rvs rr en
    subst e
    refine cr_max hc pins sh σ H _ us Q I rv ⟨p, n :: ns, rfl, q, by simp, fun m hm hy => ?_⟩
    have : m = maxI (n :: ns) := Int.le_antisymm (maxI_ge hm) (hy _ maxI_mem)
    rw [this]
    exact rf_int h hs
  · exact h.elim
theorem qc_sum (hc : X.calm = true) : CallR X (.builtin "sum") (rC (wd X) sumF) := by
  intro pins sh σ H xs us Q I rv ⟨μ, s, ds, hs, r, W, σ', h⟩
  unfold sumF at h
  split at h
  case h_2 => exact h.elim
  rename_i d
  obtain ⟨x, rfl, r1⟩ := r.inv1
  split at h
  case h_2 => exact h.elim
  rename_i zs ez
  split at h
  case h_2 => exact h.elim
  rename_i ns en
  obtain ⟨p, ys, rfl, q, rr⟩ := lsOf_sound hs r1 ez
  have e := ints_rvs rr en
  subst e
  exact cr_sum hc pins sh σ H _ us Q I rv ⟨p, ns, rfl, q, rf_int h hs⟩
theorem rvs_int {g : Wd} {μ : M} {H : Hp} (ns : List Int) : RVs g μ H (ns.map D.int) (ns.map V.int) := by
  induction ns with
  | nil => simp only [List.map_nil, RVs]
  | cons n ns ih => simp only [List.map_cons, RVs]; exact ⟨_, _, rfl, by simp only [RV], ih⟩
theorem qc_sortedI : CallR X (.builtin "sorted") (rC (wd X) sortedIF) := by
  intro pins sh σ H xs us Q I rv ⟨μ, s, ds, hs, r, W, σ', h⟩
  unfold sortedIF at h
  split at h
  case h_2 => exact h.elim
  rename_i d
  obtain ⟨x, rfl, r1⟩ := r.inv1
  split at h
  case h_2 => exact h.elim
  rename_i zs ez
  split at h
  case h_2 => exact h.elim
  rename_i ns en
  obtain ⟨p, ys, rfl, q, rr⟩ := lsOf_sound hs r1 ez
  have e := ints_rvs rr en
  subst e
  refine cr_sortedI pins sh σ H _ us Q I rv ⟨p, ns, rfl, q, fun ns' l hp ho hl => ?_⟩
  rw [sortI_uniq hp ho]
  exact rf_lst h hs (rvs_int _) l hl
end
end Fv

namespace Fv
open PySem PySem.Spec PyProof.Rows L2
/-! ### sets of whole numbers and texts -/
def keyE (e : Int × Value) : Key := match e.2 with | .int k _ => .inl k | .str x _ => .inr x | _ => .inl 0
def GoodK (w : World) (e : Int × Value) : Prop := ∃ k, keyIs k e.2 = true ∧ e.1 = keyH w k
theorem keyE_of {k : Key} {e : Int × Value} (h : keyIs k e.2 = true) : keyE e = k := by
  obtain ⟨n, v⟩ := e
  rcases keyIs_shape h with ⟨i, t, rfl, e2⟩ | ⟨x, t, rfl, e2⟩
  · dsimp only at e2; subst e2; rfl
  · dsimp only at e2; subst e2; rfl
theorem goodK_is {w : World} {e : Int × Value} (g : GoodK w e) (k : Key) : keyIs k e.2 = true ↔ keyE e = k := by
  obtain ⟨k0, h, _⟩ := g
  have e0 := keyE_of h
  refine ⟨keyE_of, fun q => ?_⟩
  rw [← q, e0]; exact h
theorem key_scan {k : Key} {v : Value} (h : keyIs k v = true) : v.scannable = true := by
  rcases keyIs_shape h with ⟨i, t, _, rfl⟩ | ⟨x, t, _, rfl⟩ <;> rfl
theorem goodK_elems {P : Program} {w : World} {l : List (Int × Value)} (g : ∀ e ∈ l, GoodK w e) : ElemsOf (mixKind P w) l := fun e he => by
  obtain ⟨k, h1, h2⟩ := g e he
  exact ⟨⟨k, h1, h2⟩, key_scan h1⟩
/-- the set of keys at a, read by its members -/
def SetK (w : World) (h : Heap) (a : Addr) (kk : List Key) : Prop :=
  ∃ (o : Obj) (es : Array (Int × Value)) (ep : Nat) (t : SetTable), h.get? a = some o ∧ o.ExactSet ∧ o.data = .set es ep t ∧ (∀ e ∈ es.toList, GoodK w e) ∧ (es.toList.map keyE).Perm kk ∧ kk.Nodup ∧
    es.size < scanBound ∧ t.fits es.size = true ∧ Ris t.place.toList ∧ (w.params.followText "set-order" = true ∨ t.led = true)
theorem pair_good {w : World} : ∀ {ks : List Key} {l : List (Int × Value)}, Paired (fun (k : Key) (e : Int × Value) => keyIs k e.2 = true ∧ e.1 = keyH w k) ks l → (∀ e ∈ l, GoodK w e) ∧ l.map keyE = ks
  | _, _, .nil => ⟨by simp, rfl⟩
  | _, _, .cons (a := k) (b := e) r t => by
    obtain ⟨h1, h2⟩ := pair_good t
    refine ⟨fun x hx => ?_, by simp only [List.map_cons, h2, keyE_of r.1]⟩
    rcases List.mem_cons.mp hx with rfl | hx
    · exact ⟨k, r⟩
    · exact h1 x hx
theorem good_pair {w : World} : ∀ {l : List (Int × Value)}, (∀ e ∈ l, GoodK w e) → Paired (fun (k : Key) (e : Int × Value) => keyIs k e.2 = true ∧ e.1 = keyH w k) (l.map keyE) l
  | [], _ => .nil
  | e :: l, g => by
    obtain ⟨k, h1, h2⟩ := g e (by simp)
    refine .cons ?_ (good_pair fun x hx => g x (by simp [hx]))
    rw [keyE_of h1]
    exact ⟨h1, h2⟩
theorem setK_of {w : World} {h : Heap} {a : Addr} {kk : List Key} (R : SetRK w h a kk) : SetK w h a kk := by
  obtain ⟨o, es, ep, t, ks, ho, ex, hd, pr, pm, nd, r⟩ := R
  obtain ⟨g, e⟩ := pair_good pr
  exact ⟨o, es, ep, t, ho, ex, hd, g, by rw [e]; exact pm, nd, r⟩
theorem setRK_of {w : World} {h : Heap} {a : Addr} {kk : List Key} (R : SetK w h a kk) : SetRK w h a kk := by
  obtain ⟨o, es, ep, t, ho, ex, hd, g, pm, nd, r⟩ := R
  exact ⟨o, es, ep, t, es.toList.map keyE, ho, ex, hd, good_pair g, pm, nd, r⟩
section
variable {P : Program} {w : World} {A : Around} {E : Value → Shared → Prop} {s : Shared} {a : Addr} {kk : List Key}
theorem setK_tail {g : Bool → Sem Unit} (gw : ∀ (b : Bool) (s₁ : Shared) (Q' : Unit → Shared → Prop), Q' () s₁ → wpAny (model P w) A (g b) Q' E s₁)
    {o : Obj} {es : Array (Int × Value)} {ep : Nat} {t : SetTable} (ho : s.heap.get? a = some o) (ex : o.ExactSet) (hd : o.data = .set es ep t)
    {es1 : Array (Int × Value)} {t2 : SetTable} {k1 : List Key} (g1 : ∀ e ∈ es1.toList, GoodK w e) (p1 : (es1.toList.map keyE).Perm k1) (nd : k1.Nodup)
    (hb : es1.size < scanBound) (hf : t2.fits es1.size = true) (hr : Ris t2.place.toList) (hl : w.params.followText "set-order" = true ∨ t2.led = true) {old : Bool} {R : Option Bool → Shared → Prop}
    (hR : ∀ h', Heap.SameBut a s.heap h' → SetK w h' a k1 → R (some true) { s with heap := h' }) :
    wpAny (model P w) A (do
        storeSet a es1 t2
        if (!old && t2.tooFull) = true then do
            g (relayAll t2 es1 (SetTable.grown es1.size)).2.2
            storeSet a (relayAll t2 es1 (SetTable.grown es1.size)).1 (relayAll t2 es1 (SetTable.grown es1.size)).2.1
            pure (some true)
          else pure (some true)) R E s := by
  refine wpAny_bind (wpAny_storeSet_of ho hd ?_ (fits_of_scanBound hb))
  have o1 := store_at (es' := es1) (t' := t2) ho hd
  have b1 := Heap.SameBut.update s.heap a (Obj.putSet es1 t2)
  split
  · have q1 := relayAll_perm t2 es1 (SetTable.grown es1.size)
    have q2 := relayAll_fits t2 es1 (SetTable.grown es1.size)
    have q3 := relayAll_ris t2 es1 (SetTable.grown es1.size)
    have q4 := relayAll_led t2 es1 (SetTable.grown es1.size)
    generalize relayAll t2 es1 (SetTable.grown es1.size) = Z at q1 q2 q3 q4 ⊢
    obtain ⟨es2, t3, gave⟩ := Z
    dsimp only at q1 q2 q3 q4 ⊢
    have sz : es2.size = es1.size := by rw [← Array.length_toList, q1.length_eq, Array.length_toList]
    have hb2 : es2.size < scanBound := sz ▸ hb
    refine wpAny_bind (gw _ _ _ (wpAny_bind (wpAny_storeSet_of o1 rfl ?_ (fits_of_scanBound hb2))))
    have o2 := store_at (es' := es2) (t' := t3) o1 rfl
    exact wpAny_pure (hR _ (b1.trans (Heap.SameBut.update _ a _)) ⟨_, es2, _, t3, o2, ex, rfl, fun e he => g1 e (q1.mem_iff.mp he), (q1.map keyE).trans p1, nd, hb2, q2, q3, hl.imp id fun z => q4.trans z⟩)
  · exact wpAny_pure (hR _ b1 ⟨_, es1, _, t2, o1, ex, rfl, g1, p1, nd, hb, hf, hr, hl⟩)
/-- what adding k makes of the members -/
def hasK (kk : List Key) (k : Key) : Bool := kk.any fun j => decide (j = k)
theorem hasK_iff {kk : List Key} {k : Key} : hasK kk k = true ↔ k ∈ kk := by
  unfold hasK
  rw [List.any_eq_true]
  exact ⟨fun ⟨j, hj, e⟩ => of_decide_eq_true e ▸ hj, fun h => ⟨k, h, decide_eq_true rfl⟩⟩
def addK (kk : List Key) (k : Key) : List Key := if hasK kk k = true then kk else kk ++ [k]
theorem setK_add_hashed {k : Key} {v : Value} (hv : keyIs k v = true) {Q : Bool → Shared → Prop} (R : SetK w s.heap a kk) (room : kk.length + 1 < scanBound)
    (hQ : ∀ h', Heap.SameBut a s.heap h' → SetK w h' a (addK kk k) → Q (!hasK kk k) { s with heap := h' }) :
    wpAny (model P w) A (setAddHashed a v ((mixKind P w).hash k)) Q E s := by
  obtain ⟨o, es, ep, t, ho, ex, hd, g, pm, nd, hb, hf, hr, hl⟩ := R
  have hsc := key_scan hv
  have hkey : (mixKind P w).is k v = true := hv
  have hel : ElemsOf (mixKind P w) es.toList := goodK_elems g
  have mem : k ∈ kk ↔ ∃ e ∈ es.toList, keyIs k e.2 = true := by
    rw [← pm.mem_iff, List.mem_map]
    exact ⟨fun ⟨e, he, q⟩ => ⟨e, he, (goodK_is (g e he) k).2 q⟩, fun ⟨e, he, q⟩ => ⟨e, he, (goodK_is (g e he) k).1 q⟩⟩
  unfold setAddHashed setAddHashedIn
  refine wpAny_holding (wpAny_bind (wpAny_setState_of ho hd hf ?_))
  dsimp only
  rw [byScan_of hsc hb hel]
  simp only [↓reduceIte]
  unfold setAddByScan
  refine wpAny_bind (wpAny_bind (wpAny_rule (wpAny_bind (wpAny_setScan_of hkey ho hd hf hel ?_))))
  cases fi : List.findIdx? (fun e => (mixKind P w).is k e.2) es.toList with
  | some j =>
    dsimp only
    obtain ⟨hj, pj, _⟩ := List.findIdx?_eq_some_iff_getElem.mp fi
    have yes : k ∈ kk := mem.2 ⟨es.toList[j], List.getElem_mem hj, pj⟩
    have q := hQ s.heap (Heap.SameBut.refl a s.heap) (by unfold addK; rw [if_pos (hasK_iff.2 yes)]; exact ⟨o, es, ep, t, ho, ex, hd, g, pm, nd, hb, hf, hr, hl⟩)
    rw [hasK_iff.2 yes] at q
    exact wpAny_pure (wpAny_pure q)
  | none =>
    dsimp only
    have no : k ∉ kk := fun z => by
      obtain ⟨e, he, q⟩ := mem.1 z
      have c := List.findIdx?_eq_none_iff.mp fi e he
      have q : (mixKind P w).is k e.2 = true := q
      rw [q] at c
      cases c
    have gw : ∀ (b : Bool) {s₁ : Shared} {Q' : Unit → Shared → Prop}, Q' () s₁ → wpAny (model P w) A (match b with | true => rule "set.scan.the-table-gave-way" | false => pure ()) Q' E s₁ :=
      fun b s₁ Q' q => by cases b <;> first | exact wpAny_pure q | exact wpAny_rule q
    have q1 := layNew_perm t es ((mixKind P w).hash k) v
    have q2 := layNew_fits t es ((mixKind P w).hash k) v
    have q3 := layNew_ris t es ((mixKind P w).hash k) v hr
    have q4 := layNew_led t es ((mixKind P w).hash k) v
    generalize layNew t es ((mixKind P w).hash k) v = Z at q1 q2 q3 q4 ⊢
    obtain ⟨es1, t1, old, gave⟩ := Z
    dsimp only at q1 q2 q3 q4 ⊢
    rw [Array.toList_push] at q1
    have pc : es1.toList.Perm (((mixKind P w).hash k, v) :: es.toList) := q1.trans (List.perm_append_singleton _ _)
    have g1 : ∀ e ∈ es1.toList, GoodK w e := fun e he => by
      rcases List.mem_cons.mp (pc.mem_iff.mp he) with z | z
      · rw [z]; exact ⟨k, hv, rfl⟩
      · exact g e z
    have p1 : (es1.toList.map keyE).Perm (kk ++ [k]) := by
      have z := pc.map keyE
      simp only [List.map_cons] at z
      rw [show keyE ((mixKind P w).hash k, v) = k from keyE_of hv] at z
      exact z.trans ((List.Perm.cons k pm).trans (List.perm_append_singleton k kk).symm)
    have nd1 : (kk ++ [k]).Nodup := (List.perm_append_singleton k kk).nodup_iff.mpr (List.nodup_cons.mpr ⟨no, nd⟩)
    have sz : es.size = kk.length := by rw [← Array.length_toList, ← List.length_map (f := keyE), pm.length_eq]
    have sz1 : es1.size = kk.length + 1 := by rw [← Array.length_toList, pc.length_eq, List.length_cons, Array.length_toList, sz]
    have hb1 : es1.size < scanBound := by rw [sz1]; exact room
    have led : w.params.followText "set-order" = true ∨ t1.led = true := hl.imp id fun z => q4.trans z
    have fin : ∀ h', Heap.SameBut a s.heap h' → SetK w h' a (kk ++ [k]) → Q true { s with heap := h' } := fun h' sb r => by
      have q := hQ h' sb (by unfold addK; rw [if_neg (fun z => no (hasK_iff.1 z))]; exact r)
      rw [show hasK kk k = false from Bool.eq_false_iff.mpr fun z => no (hasK_iff.1 z)] at q
      exact q
    refine wpAny_bind (gw _ ?_)
    split
    · refine wpAny_bind ?_
      rw [hashByValue_scannable 8 hsc]
      refine wpAny_pure (setK_tail ?_ ho ex hd g1 p1 nd1 hb1 ?_ ?_ ?_ ?_)
      · intro b s₁ Q' q; cases b <;> first | exact wpAny_pure q | exact wpAny_rule q
      · first | (split <;> first | exact q2 | exact SetTable.fits_plain_off q2) | exact q2
      · first | (split <;> exact q3) | exact q3
      · first | (split <;> exact led) | exact led
      · intro h' sb r; dsimp only; exact wpAny_pure (fin h' sb r)
    · refine wpAny_bind (wpAny_pure ?_)
      simp only [↓reduceIte]
      refine setK_tail ?_ ho ex hd g1 p1 nd1 hb1 q2 q3 led ?_
      · intro b s₁ Q' q; cases b <;> first | exact wpAny_pure q | exact wpAny_rule q
      · intro h' sb r; dsimp only; exact wpAny_pure (fin h' sb r)
end
end Fv

namespace Fv
open PySem PySem.Spec PyProof.Rows L2
/-! ### sorted() of a set of texts -/
def strV : Value → Str
  | .str x _ => x
  | _ => Str.empty
def unK : Key → Str
  | .inl _ => Str.empty
  | .inr x => x
theorem strs_are : ∀ (l : List Value), (∀ v ∈ l, ∃ x tk, v = Value.str x tk) → StrsAre l (l.map strV)
  | [], _ => .nil
  | v :: l, h => by
    obtain ⟨x, tk, rfl⟩ := h v List.mem_cons_self
    exact .cons x tk (strs_are l fun u hu => h u (List.mem_cons_of_mem _ hu))
theorem unK_inr (xs : List Str) : (xs.map (Sum.inr : Str → Key)).map unK = xs := by
  induction xs with
  | nil => rfl
  | cons x xs ih => simp only [List.map_cons, ih]; rfl
section
variable {P : Program} {w : World} {A : Around} {E : Value → Shared → Prop} {s : Shared} {a : Addr}
theorem sorted_setS {xs : List Str} {Q : Value → Shared → Prop} (R : SetK w s.heap a (xs.map (Sum.inr : Str → Key))) (hh : A.handled = none) (hl : xs.length ≤ sizeLine)
    (hQ : ∀ s' p (out : Array Value) (c : Nat) (ys : List Str), (∀ b o, s.heap.get? b = some o → s'.heap.get? b = some o) → s'.gens = s.gens → s'.os = s.os → s.heap.objs.size ≤ p →
      s'.heap.get? p = some (seqObj "list" out c) → StrsAre out.toList ys → ys.Perm xs → sortedS ys = true → Q (.ref p) s') :
    wpAny (model P w) A (call (.builtin "sorted") [.ref a]) Q E s := by
  obtain ⟨o, es, ep, t, ho, ex, hd, g, pm, nd, hb, hf, hr, led⟩ := R
  have str : ∀ e ∈ es.toList, ∃ x tk, e.2 = Value.str x tk ∧ keyE e = .inr x := fun e he => by
    have m : keyE e ∈ xs.map (Sum.inr : Str → Key) := pm.mem_iff.mp (List.mem_map_of_mem he)
    obtain ⟨x, _, q⟩ := List.mem_map.mp m
    obtain ⟨k, h1, _⟩ := g e he
    have ek := keyE_of h1
    rw [← q] at ek
    subst ek
    rcases keyIs_shape h1 with ⟨i, t, e1, _⟩ | ⟨y, tk, e1, e2⟩
    · cases e1
    · cases e1
      exact ⟨_, tk, e2, q.symm⟩
  have px : (es.toList.map fun e => strV e.2).Perm xs := by
    have z := pm.map unK
    rw [unK_inr, List.map_map] at z
    have e : es.toList.map (unK ∘ keyE) = es.toList.map fun e => strV e.2 := List.map_congr_left fun e he => by
      obtain ⟨x, tk, e1, e2⟩ := str e he
      show unK (keyE e) = _
      rw [e2, e1]; rfl
    rw [e] at z
    exact z
  refine Calls.call_function_entry kind_sorted plain_sorted entry_sorted (args_sorted1 _) ?_
  unfold Builtin.«sorted»
  refine wpAny_bind (m := checkCount "sorted" 1 1 _) (wpAny_pure ?_)
  refine wpAny_bind (collect_set (A := A.in1) hh ⟨o, ho, ex.1, hd⟩ hf hb hr led fun s1 vs k1 hz g1 o1 pv => ?_)
  have hS : StrsAre vs (vs.map strV) := strs_are vs fun v hv => by
    obtain ⟨e, he, q⟩ := List.mem_map.mp (pv.mem_iff.mp hv)
    obtain ⟨x, tk, e1, _⟩ := str e he
    exact ⟨x, tk, by rw [← q]; exact e1⟩
  have ps : (vs.map strV).Perm xs := by
    have q := pv.map strV
    rw [List.map_map] at q
    exact q.trans px
  have lv : vs.length ≤ sizeLine := by
    have := ps.length_eq
    rw [List.length_map] at this
    omega
  refine wpAny_bind (wpAny_newList ?_ lv)
  have new : (s1.heap.push (seqObj "list" vs.toArray 0)).get? s1.heap.objs.size = some (seqObj "list" vs.toArray 0) := Heap.get?_push_size _ rfl
  refine wpAny_bind (wpAny_holding (wpAny_call_entry slot_list_sort ⟨_, new, rfl⟩ entry_list_sort (list_sort_treeKAny strKind_oneLt new hS.keysOf (fun v₁ v₂ rest e => keyKind_strs (by rw [← e]; exact hS)) lv fun st' hp hs => ⟨_, rfl, ?_⟩) (args_list_sort _)))
  obtain ⟨ys, y1, y2, y3⟩ := sorted_out_str hS hp hs
  obtain ⟨c, hc⟩ := sortedHeap_at (vs := vs) (out := (arrOf st').map (·.2)) new
  refine wpAny_pure ⟨_, rfl, hQ _ s1.heap.objs.size _ c ys (fun b u e => ?_) g1 o1 hz hc y1 (y2.trans ps) y3⟩
  have q := k1 b u e
  have lt := Heap.lt_size q
  show (sortedHeap (s1.heap.push (seqObj "list" vs.toArray 0)) s1.heap.objs.size vs _).get? b = some u
  rw [sortedHeap_old (Nat.ne_of_lt lt) (by rw [size_push']; exact Nat.lt_succ_of_lt lt)]
  exact Heap.get?_push_of_some _ q
end
end Fv

namespace Fv
open PySem PySem.Spec PyProof.Rows L2
/-! ### texts in order -/
def leS (a b : Str) : Prop := a.cps.toList ≤ b.cps.toList
instance (a b : Str) : Decidable (leS a b) := inferInstanceAs (Decidable (a.cps.toList ≤ b.cps.toList))
theorem leS_trans {a b c : Str} (h : leS a b) (k : leS b c) : leS a c := List.le_trans h k
theorem leS_total (a b : Str) : leS a b ∨ leS b a := List.le_total _ _
theorem leS_anti {a b : Str} (h : leS a b) (k : leS b a) : a = b := by
  have e : a.cps.toList = b.cps.toList := List.le_antisymm h k
  obtain ⟨x⟩ := a
  obtain ⟨y⟩ := b
  have : x = y := Array.toList_inj.mp e
  rw [this]
theorem not_lt_leS {a b : Str} (h : ltCps b.cps.toList a.cps.toList = false) : leS a b := by
  rw [ltCps_eq] at h
  exact List.not_lt.mp (of_decide_eq_false h)
theorem rising_pair : ∀ {l : List Str} {p : Str}, risingS p l = true → (∀ y ∈ l, leS p y) ∧ l.Pairwise leS
  | [], _, _ => ⟨by simp, .nil⟩
  | x :: r, p, h => by
    simp only [risingS, Bool.and_eq_true, Bool.not_eq_true'] at h
    have px := not_lt_leS h.1
    obtain ⟨i1, i2⟩ := rising_pair h.2
    refine ⟨fun y hy => ?_, .cons i1 i2⟩
    rcases List.mem_cons.mp hy with rfl | hy
    · exact px
    · exact leS_trans px (i1 y hy)
theorem sortedS_pair : ∀ {l : List Str}, sortedS l = true → l.Pairwise leS
  | [], _ => .nil
  | x :: r, h => let ⟨a, b⟩ := rising_pair h; .cons a b
def sortS (xs : List Str) : List Str := xs.mergeSort (fun a b => decide (leS a b))
theorem sortS_uniq {xs ys : List Str} (p : ys.Perm xs) (h : sortedS ys = true) : ys = sortS xs := by
  have p2 : (sortS xs).Perm xs := List.mergeSort_perm xs _
  have h2 : (sortS xs).Pairwise leS := by
    have z := List.pairwise_mergeSort (le := fun a b : Str => decide (leS a b)) (fun a b c h1 h2 => decide_eq_true (leS_trans (of_decide_eq_true h1) (of_decide_eq_true h2))) (fun a b => by
      rcases leS_total a b with h | h
      · simp [h]
      · simp [h]) xs
    exact z.imp (fun h => of_decide_eq_true h)
  exact List.Perm.eq_of_pairwise (fun a b _ _ h1 h2 => leS_anti h1 h2) (sortedS_pair h) h2 (p.trans p2.symm)
theorem sortS_perm (xs : List Str) : (sortS xs).Perm xs := List.mergeSort_perm xs _
/-! ### sorted() of texts: of a set, of a list of fewer than 64 -/
def txOf : List D → Option (List Tx)
  | [] => some []
  | .str x :: r => (txOf r).map (x :: ·)
  | _ => none
theorem strs_keys : ∀ {ks : List D} {xs : List Tx} {kk : List Key}, txOf ks = some xs → keysD ks = some kk → kk = xs.map Sum.inr
  | [], xs, kk, e, f => by simp only [txOf, Option.some.injEq] at e; simp only [keysD, Option.some.injEq] at f; subst e; subst f; rfl
  | d :: ks, xs, kk, e, f => by
    cases d <;> simp only [txOf, Option.map_eq_some_iff, reduceCtorEq] at e
    obtain ⟨r, e1, rfl⟩ := e
    simp only [keysD, keyD, Option.bind_some, Option.map_eq_some_iff] at f
    obtain ⟨k2, f1, rfl⟩ := f
    rw [strs_keys e1 f1]; rfl
theorem tx_rvs {g : Wd} {μ : M} {H : Hp} : ∀ {ds : List D} {vs : List V} {xs : List Tx}, RVs g μ H ds vs → txOf ds = some xs → vs = xs.map V.str
  | [], vs, xs, r, e => by simp only [RVs] at r; subst r; simp only [txOf, Option.some.injEq] at e; subst e; rfl
  | d :: ds, vs, xs, r, e => by
    simp only [RVs] at r
    obtain ⟨y, r', rfl, a, b⟩ := r
    cases d <;> simp only [txOf, Option.map_eq_some_iff, reduceCtorEq] at e
    obtain ⟨zs, e1, rfl⟩ := e
    simp only [RV] at a; subst a
    rw [tx_rvs b e1]; rfl
theorem rvs_str {g : Wd} {μ : M} {H : Hp} (xs : List Tx) : RVs g μ H (xs.map D.str) (xs.map V.str) := by
  induction xs with
  | nil => simp only [List.map_nil, RVs]
  | cons n ns ih => simp only [List.map_cons, RVs]; exact ⟨_, _, rfl, by simp only [RV], ih⟩
/-- what stands at a set -/
theorem set_sound {g : Wd} {μ : M} {H : Hp} {s : S} {ks : List D} {x : V} (r : RW g μ H (.set ks) x) : ∃ p kk, x = .ref p ∧ keysD ks = some kk ∧ H p = some (SetH g.w p kk) := by
  rcases r with r | ⟨hd, p, rfl, hm, c⟩
  · simp only [RV] at r
    obtain ⟨p, rfl, z, kk, e, q⟩ := r
    exact ⟨p, kk, rfl, e, q⟩
  · obtain ⟨kk, e, q⟩ := c
    exact ⟨p, kk, rfl, e, q⟩
def sortedSF : Fn := fun ds s => match ds with
  | [.set ks] => match txOf ks with
    | some xs => if szl xs.length then .ok (.lst ((sortS xs).map D.str)) s else .bad
    | none => .bad
  | [d] => match lsOf s d with
    | some ds => match txOf ds with
      | some xs => if decide (xs.length < 64) then .ok (.lst ((sortS xs).map D.str)) s else .bad
      | none => .bad
    | none => .bad
  | _ => .bad
theorem qc_sortedS {X : Cx} (hc : X.calm = true) : CallR X (.builtin "sorted") (rC (wd X) sortedSF) := by
  intro pins sh σ H xs us Q I rv ⟨μ, s, ds, hs, r, W, σ', h⟩
  unfold sortedSF at h
  split at h
  · rename_i ks
    obtain ⟨x, rfl, r1⟩ := r.inv1
    split at h
    case h_2 => exact h.elim
    rename_i zs ez
    split at h
    case isFalse => exact h.elim
    rename_i hz
    obtain ⟨p, kk, rfl, ek, q⟩ := set_sound (s := s) r1
    have e := strs_keys ez ek
    subst e
    have ob : ObjOk X.prog X.w H sh.heap p (.ext fun h => SetRK X.w h p (zs.map Sum.inr)) := I.hok p _ q
    have R := setK_of ob.1
    rw [Vals.ref1 rv]
    refine sorted_setS R (I.ok.hd hc) (of_decide_eq_true hz) fun s' l out c ys k g o hp hg hi py so => ?_
    have lz : (ys.map V.str).length ≤ sizeLine := by rw [List.length_map, py.length_eq]; exact of_decide_eq_true hz
    have hn : H l = none := I.hok.fresh hp
    have J : Inv X pins σ (upd H l (.lst (ys.map V.str))) { sh with heap := s'.heap, gens := s'.gens, drawn := s'.drawn, toks := s'.toks } :=
      I.call (ch := []) (Un.laid k hp hn) (I.hok.laid k hp ⟨lz, out.toList, c, vals_of_strs hi, hg⟩) (by rw [g]; exact I.bare) (fun _ z => nomatch z)
    have e : s' = { sh with heap := s'.heap, gens := s'.gens, drawn := s'.drawn, toks := s'.toks } := by
      obtain ⟨a1, a2, a3, a4, a5⟩ := s'
      cases o; rfl
    rw [e]
    have ey := sortS_uniq py so
    subst ey
    exact ⟨.ref l, _, J, rfl, rf_lst h hs (rvs_str _) l hn⟩
  · rename_i d _
    obtain ⟨x, rfl, r1⟩ := r.inv1
    split at h
    case h_2 => exact h.elim
    rename_i es ee
    split at h
    case h_2 => exact h.elim
    rename_i zs ez
    split at h
    case isFalse => exact h.elim
    rename_i hz
    obtain ⟨p, ys, rfl, q, rr⟩ := lsOf_sound hs r1 ee
    have e := tx_rvs rr ez
    subst e
    refine cr_sortedS pins sh σ H _ us Q I rv ⟨p, zs, rfl, q, of_decide_eq_true hz, fun ys l py so hl => ?_⟩
    have ey := sortS_uniq py so
    subst ey
    exact rf_lst h hs (rvs_str _) l hl
  · exact h.elim
end Fv

namespace Fv
open PySem PySem.Spec PyProof.Rows L2
/-! ### set(), s.add(k), k in s -/
theorem setK_at {w : World} {h h' : Heap} {a : Addr} {kk : List Key} (R : SetK w h a kk) (k : ∀ o, h.get? a = some o → h'.get? a = some o) : SetK w h' a kk := by
  obtain ⟨o, es, ep, t, ho, r⟩ := R
  exact ⟨o, es, ep, t, k o ho, r⟩
theorem setH_ok {P : Program} {w : World} {H : Hp} {h : Heap} {a : Addr} {kk : List Key} (R : SetK w h a kk) : ObjOk P w H h a (SetH w a kk) := by
  have ⟨o, _, _, _, ho, _⟩ := R
  exact ⟨setRK_of R, ⟨o, ho⟩, fun h1 h2 z k => setRK_of (setK_at (setK_of z) k)⟩
theorem setH_get {X : Cx} {pins : List (Addr × Obj)} {σ : L2.St} {H : Hp} {sh : Shared} {p : Addr} {kk : List Key} (I : Inv X pins σ H sh) (e : H p = some (SetH X.w p kk)) : SetK X.w sh.heap p kk := by
  have ob : ObjOk X.prog X.w H sh.heap p (.ext fun h => SetRK X.w h p kk) := I.hok p _ e
  exact setK_of ob.1
theorem setK_of_SetOf {P : Program} {w : World} {h : Heap} {a : Addr} {kk : List Key} (R : SetK w h a kk) : h.SetOf (mixKind P w) a (hasK kk) kk.length := by
  obtain ⟨o, es, ep, t, ho, ex, hd, g, pm, nd, hb, hf, _⟩ := R
  refine ⟨o, es, ep, t, ho, ex, hd, goodK_elems g, fun k => ?_, hb, hf, by rw [← Array.length_toList, ← List.length_map (f := keyE), pm.length_eq]⟩
  rw [hasK_iff, ← pm.mem_iff, List.mem_map]
  exact ⟨fun ⟨e, he, q⟩ => ⟨e, he, (goodK_is (g e he) k).2 q⟩, fun ⟨e, he, q⟩ => ⟨e, he, (goodK_is (g e he) k).1 q⟩⟩
/-- set() -/
theorem setK_empty {w : World} {h : Heap} {a : Addr} {F : Int → Bool} (R : SetR w h a F 0) : SetK w h a [] := by
  obtain ⟨o, es, ep, t, ho, ex, hd, g, nd, hm, hb, hf, hn, hr, hl⟩ := R
  have e0 : es.toList = [] := List.length_eq_zero_iff.mp (by rw [Array.length_toList]; exact hn)
  exact ⟨o, es, ep, t, ho, ex, hd, by rw [e0]; simp, by rw [e0]; exact .refl _, .nil, hb, hf, hr, hl⟩
def set0F : Fn := fun ds s => match ds with | [] => .ok (.set []) s | _ => .bad
theorem rf_set {g : Wd} {W : WX} {σ : L2.St} {μ : M} {H : Hp} {s : S} {Q : VK} {ks : List D} {kk : List Key} (h : runs g W σ μ H (RF g H) Q (.ok (.set ks) s)) (hs : Rs g μ H s) (ek : keysD ks = some kk) : ∀ p, H p = none → Q (.ref p) (upd H p (SetH g.w p kk)) := by
  intro p hp
  refine h μ _ _ (ex_new hp) (hs.new hp) ?_
  unfold RF
  rw [if_pos (show (D.set ks).heavy = true from rfl)]
  exact ⟨p, rfl, hp, hs.nmem hp, hs.nz hp, kk, ek, upd_same⟩
theorem qc_set0 {X : Cx} : CallR X (.type "set") (rC (wd X) set0F) := by
  intro pins sh σ H xs us Q I rv ⟨μ, s, ds, hs, r, W, σ', h⟩
  unfold set0F at h
  split at h
  case h_2 => exact h.elim
  have ex : xs = [] := r
  subst ex
  cases rv
  refine setR_new fun new => ?_
  exact ⟨.ref _, upd H sh.heap.objs.size (SetH X.w sh.heap.objs.size []), I.laid (t' := sh.toks) (fun b u e => Heap.get?_push_of_some _ e) (Nat.le_refl _) (setH_ok (setK_empty new)), rfl, rf_set (kk := []) h hs rfl _ (I.hok.fresh (Nat.le_refl _))⟩
/-- s.add(k) -/
theorem keysD_one {ks : List D} {kk : List Key} {d : D} {k : Key} (e : keysD ks = some kk) (f : keyD d = some k) : keysD (ks ++ [d]) = some (kk ++ [k]) := by
  induction ks generalizing kk with
  | nil => simp only [keysD, Option.some.injEq] at e; subst e; simp [keysD, f]
  | cons x ks ih =>
    simp only [keysD, Option.bind_eq_some_iff, Option.map_eq_some_iff] at e
    obtain ⟨k', e1, kk', e2, rfl⟩ := e
    simp only [List.cons_append, keysD, e1, Option.bind_some, ih e2, Option.map_some]
def addKO : Ow := fun d ds => match d, ds with
  | .set ks, [y] => match keysD ks, keyD y with
    | some kk, some k => if kk.length < 1000 then some (.set (if hasK kk k then ks else ks ++ [y]), .non) else none
    | _, _ => none
  | _, _ => none
theorem key_val {g : Wd} {μ : M} {H : Hp} {y : D} {k : Key} {v : V} {u : Value} (r : RV g μ H y v) (e : keyD y = some k) (ru : RelV v u) : keyIs k u = true := by
  cases y <;> simp only [keyD, Option.some.injEq, reduceCtorEq] at e
  · subst e; simp only [RV] at r; subst r
    obtain ⟨t, rfl⟩ := (show ∃ t, u = Value.int _ t from ru)
    exact beq_iff_eq.mpr rfl
  · subst e; simp only [RV] at r; subst r
    obtain ⟨t, rfl⟩ := (show ∃ t, u = Value.str _ t from ru)
    exact beq_iff_eq.mpr rfl
theorem setK_add {P : Program} {w : World} {A : Around} {E : Value → Shared → Prop} {s : Shared} {a : Addr} {kk : List Key} {k : Key} {v : Value} (hv : keyIs k v = true) {Q : Value → Shared → Prop} (R : SetK w s.heap a kk) (room : kk.length + 1 < scanBound)
    (hQ : ∀ h', Heap.SameBut a s.heap h' → SetK w h' a (addK kk k) → Q .none { s with heap := h', toks := s.toks + 1 }) :
    wpAny (model P w) A (call (.builtin "set.add") [.ref a, v]) Q E s := by
  have hS : s.heap.SetOf (mixKind P w) a (hasK kk) kk.length := setK_of_SetOf R
  refine wpAny_call_entry F.slot_set_add hS.typeIs F.entry_set_add ?_ (F.args_set_add_2 _ _)
  unfold Builtin.«set.add» Builtin.Frozenset.oneOther
  simp only [List.isEmpty_nil, bind_assoc]
  unfold Builtin.Frozenset.addrOf setAdd
  refine wpAny_bind (wpAny_pure ?_)
  try dsimp only
  refine wpAny_bind (wpAny_pure ?_)
  try dsimp only
  refine wpAny_bind (wpAny_holding (wpAny_bind ((mixKind P w).pyHash (show (mixKind P w).is k v = true from hv) ?_)))
  refine setK_add_hashed (s := { s with toks := s.toks + 1 }) hv R room fun h' sb r => ?_
  show wpAny _ _ (ret Value.none) _ _ _
  exact wpAny_pure ⟨_, rfl, hQ h' sb r⟩
theorem qw_addK {X : Cx} : QW X "set.add" addKO := by
  intro pins sh σ H x xs u us Q I rx rs ⟨μ, p, d, ds, d', r, ex, c, hz, rv, ef, k⟩
  unfold addKO at ef
  split at ef
  case h_2 => cases ef
  rename_i ks y
  split at ef
  case h_2 => cases ef
  rename_i kk k0 ek e0
  split at ef
  case isFalse => cases ef
  rename_i hl
  cases ef
  obtain ⟨kk', ek', hp⟩ := c
  rw [ek] at ek'; cases ek'
  obtain ⟨v, rfl, ry⟩ := rv.inv1
  obtain ⟨u1, rfl, ru⟩ := vals1 rs
  subst ex
  obtain rfl : u = Value.ref p := rx
  have R := setH_get I hp
  refine setK_add (key_val ry e0 ru) R (Nat.lt_of_lt_of_le (show kk.length + 1 < 1001 by omega) (by decide)) fun h' sb new => ?_
  have he : ∃ u, h'.get? p = some u := by
    have ⟨o, _, _, _, ho, _⟩ := new
    exact ⟨o, ho⟩
  have xo : Ex (fun q => q = p) μ H μ (L2.upd H p (SetH X.w p (addK kk k0))) := ex_own hz rfl hp (fun _ z => ext_tup rfl _ z) fun _ _ z => ext_frz rfl _ _ z
  refine ⟨.non, upd H p (SetH X.w p (addK kk k0)), I.write (e := p) (t' := sh.toks + 1) (by rw [hp]; trivial) (.inl rfl) (fun b u hb hu => (sb.2 b hb).trans hu) he (setH_ok new), rfl, k _ _ ⟨addK kk k0, ?_, upd_same⟩ (by simp only [RV])⟩
  unfold addK
  split
  · exact ek
  · exact keysD_one ek e0
/-- k in s, k not in s -/
def insD (x y : D) (s : S) : R D := match y with
  | .set ks => match keyD x, keysD ks with | some k, some kk => .ok (.bl (hasK kk k)) s | _, _ => .bad
  | y => inD x y s
def notinsD (x y : D) (s : S) : R D := match y with
  | .set ks => match keyD x, keysD ks with | some k, some kk => .ok (.bl (!hasK kk k)) s | _, _ => .bad
  | y => notinD x y s
theorem keyD_light {d : D} {k : Key} (e : keyD d = some k) : d.heavy = false := by cases d <;> first | rfl | cases e
theorem qo_ins {X : Cx} (hu : X.A.units + 65 < cLine) : QOp X (compareOp .In) insD := by
  intro pins sh σ H x y v u Q I rx ry ⟨μ, s, d, e, hs, r1, r2, W, σ', h⟩
  unfold insD at h
  split at h
  · rename_i ks
    split at h
    case h_2 => exact h.elim
    rename_i k kk e0 ek
    obtain ⟨p, kk', rfl, ek', q⟩ := set_sound (s := s) r2
    rw [ek] at ek'; cases ek'
    obtain rfl : u = Value.ref p := ry
    have hv := key_val (r1.light (keyD_light e0)) e0 rx
    exact wpAny_inSet_of (knd := mixKind X.prog X.w) hv (key_scan hv) (setK_of_SetOf (setH_get I q)) ⟨.bl _, H, I.tok _, rfl, rf_bl h hs⟩
  · exact qo_in hu pins sh σ H x y v u Q I rx ry ⟨μ, s, d, e, hs, r1, r2, W, σ', h⟩
theorem qo_notins {X : Cx} (hu : X.A.units + 65 < cLine) : QOp X (compareOp .NotIn) notinsD := by
  intro pins sh σ H x y v u Q I rx ry ⟨μ, s, d, e, hs, r1, r2, W, σ', h⟩
  unfold notinsD at h
  split at h
  · rename_i ks
    split at h
    case h_2 => exact h.elim
    rename_i k kk e0 ek
    obtain ⟨p, kk', rfl, ek', q⟩ := set_sound (s := s) r2
    rw [ek] at ek'; cases ek'
    obtain rfl : u = Value.ref p := ry
    have hv := key_val (r1.light (keyD_light e0)) e0 rx
    exact wpAny_notInSet_of (knd := mixKind X.prog X.w) hv (key_scan hv) (setK_of_SetOf (setH_get I q)) ⟨.bl _, H, I.tok _, rfl, rf_bl h hs⟩
  · exact qo_notin hu pins sh σ H x y v u Q I rx ry ⟨μ, s, d, e, hs, r1, r2, W, σ', h⟩
end Fv

namespace Fv
open PySem PySem.Spec PyProof.Rows L2
/-! ### sorted(), of sets and lists, of whole numbers and of texts -/
theorem ints_keys : ∀ {ks : List D} {zs : List Int} {kk : List Key}, intsOf ks = some zs → keysD ks = some kk → kk = zs.map Sum.inl
  | [], zs, kk, e, f => by simp only [intsOf, Option.some.injEq] at e; simp only [keysD, Option.some.injEq] at f; subst e; subst f; rfl
  | d :: ks, zs, kk, e, f => by
    cases d <;> simp only [intsOf, Option.map_eq_some_iff, reduceCtorEq] at e
    obtain ⟨r, e1, rfl⟩ := e
    simp only [keysD, keyD, Option.bind_some, Option.map_eq_some_iff] at f
    obtain ⟨k2, f1, rfl⟩ := f
    rw [ints_keys e1 f1]; rfl
theorem setR_of {w : World} {h : Heap} {a : Addr} {zs : List Int} (R : SetK w h a (zs.map (Sum.inl : Int → Key))) : SetR w h a (fun k => decide (k ∈ zs)) zs.length ∧ zs.Nodup := by
  obtain ⟨o, es, ep, t, ho, ex, hd, g, pm, nd, hb, hf, hr, hl⟩ := R
  have nz : zs.Nodup := by
    have : Function.Injective (Sum.inl : Int → Key) := fun a b h => by cases h; rfl
    exact (List.pairwise_map.mp nd).imp fun h e => h (by rw [e])
  have one : ∀ e ∈ es.toList, ∃ k tk, e.2 = Value.int k tk ∧ e.1 = hashInt k ∧ keyE e = .inl k := fun e he => by
    have m : keyE e ∈ zs.map (Sum.inl : Int → Key) := pm.mem_iff.mp (List.mem_map_of_mem he)
    obtain ⟨x, _, q⟩ := List.mem_map.mp m
    obtain ⟨k, h1, h2⟩ := g e he
    have ek := keyE_of h1
    rw [← q] at ek
    subst ek
    rcases keyIs_shape h1 with ⟨i, t, e1, e2⟩ | ⟨y, tk, e1, _⟩
    · cases e1
      exact ⟨_, t, e2, h2, q.symm⟩
    · cases e1
  have pz : (es.toList.map L2.keyOf).Perm zs := by
    let unI : Key → Int := fun k => match k with | .inl i => i | .inr _ => 0
    have z := pm.map unI
    have e1 : (zs.map (Sum.inl : Int → Key)).map unI = zs := by rw [List.map_map]; exact List.map_id _
    rw [e1, List.map_map] at z
    have e2 : es.toList.map (unI ∘ keyE) = es.toList.map L2.keyOf := List.map_congr_left fun e he => by
      obtain ⟨k, tk, h1, _, h3⟩ := one e he
      show unI (keyE e) = L2.keyOf e
      rw [h3]
      unfold L2.keyOf
      rw [h1]
    rw [e2] at z
    exact z
  refine ⟨⟨o, es, ep, t, ho, ex, hd, fun e he => ?_, pz.nodup_iff.mpr nz, fun k => by rw [decide_eq_true_eq, pz.mem_iff], hb, hf, by rw [← Array.length_toList, ← List.length_map (f := L2.keyOf), pz.length_eq], hr, hl⟩, nz⟩
  obtain ⟨k, tk, h1, h2, _⟩ := one e he
  exact ⟨k, tk, h1, h2⟩
def sortedF : Fn := fun ds s => match ds with
  | [.set ks] => match intsOf ks with
    | some zs => if decide (zs.length < 64) then .ok (.lst ((sortI zs).map D.int)) s else .bad
    | none => sortedSF [.set ks] s
  | [d] => match lsOf s d with
    | some xs => match intsOf xs with
      | some _ => sortedIF [d] s
      | none => sortedSF [d] s
    | none => .bad
  | _ => .bad
theorem qc_sorted {X : Cx} (hc : X.calm = true) : CallR X (.builtin "sorted") (rC (wd X) sortedF) := by
  intro pins sh σ H xs us Q I rv ⟨μ, s, ds, hs, r, W, σ', h⟩
  unfold sortedF at h
  split at h
  · rename_i ks
    split at h
    · rename_i zs ez
      split at h
      case isFalse => exact h.elim
      rename_i hz
      obtain ⟨x, rfl, r1⟩ := r.inv1
      obtain ⟨p, kk, rfl, ek, q⟩ := set_sound (s := s) r1
      have e := ints_keys ez ek
      subst e
      obtain ⟨R, nz⟩ := setR_of (setH_get I q)
      rw [Vals.ref1 rv]
      refine sorted_set R (I.ok.hd hc) (of_decide_eq_true hz) fun s' l out c ns k g o hp hg hi so hm hl => ?_
      have pn : ns.Perm zs := (List.perm_ext_iff_of_nodup (so.imp fun h => Int.ne_of_lt h) nz).mpr fun k => by rw [hm k, decide_eq_true_eq]
      have lz : (ns.map V.int).length ≤ sizeLine := by rw [List.length_map, hl, sizeLine_eq]; have := of_decide_eq_true hz; omega
      have hn : H l = none := I.hok.fresh hp
      have J : Inv X pins σ (upd H l (.lst (ns.map V.int))) { sh with heap := s'.heap, gens := s'.gens, drawn := s'.drawn, toks := s'.toks } :=
        I.call (ch := []) (Un.laid k hp hn) (I.hok.laid k hp ⟨lz, out.toList, c, vals_of_ints hi, hg⟩) (by rw [g]; exact I.bare) (fun _ z => nomatch z)
      have e : s' = { sh with heap := s'.heap, gens := s'.gens, drawn := s'.drawn, toks := s'.toks } := by
        obtain ⟨a1, a2, a3, a4, a5⟩ := s'
        cases o; rfl
      rw [e]
      have ey : ns = sortI zs := sortI_uniq pn (so.imp fun h => Int.le_of_lt h)
      subst ey
      exact ⟨.ref l, _, J, rfl, rf_lst h hs (rvs_int _) l hn⟩
    · exact qc_sortedS hc pins sh σ H xs us Q I rv ⟨μ, s, _, hs, r, W, σ', h⟩
  · split at h
    case h_2 => exact h.elim
    split at h
    · exact qc_sortedI pins sh σ H xs us Q I rv ⟨μ, s, _, hs, r, W, σ', h⟩
    · exact qc_sortedS hc pins sh σ H xs us Q I rv ⟨μ, s, _, hs, r, W, σ', h⟩
  · exact h.elim
end Fv

namespace Fv
open PySem PySem.Spec PyProof.Rows L2
/-! ### set(xs) of a list of keys -/
def foldK (l : List Key) : List Key := l.foldl addK []
theorem foldK_snoc (l : List Key) (k : Key) : foldK (l ++ [k]) = addK (foldK l) k := by simp only [foldK, List.foldl_append, List.foldl_cons, List.foldl_nil]
theorem addK_len (l : List Key) (k : Key) : (addK l k).length ≤ l.length + 1 := by
  unfold addK
  split <;> simp
theorem foldl_len : ∀ (l acc : List Key), (l.foldl addK acc).length ≤ acc.length + l.length
  | [], acc => by simp
  | k :: l, acc => by
    have h := foldl_len l (addK acc k)
    have g := addK_len acc k
    simp only [List.foldl_cons, List.length_cons]
    omega
theorem foldK_len (l : List Key) : (foldK l).length ≤ l.length := by
  have z := foldl_len l []
  unfold foldK
  simpa using z
theorem take_more {l : List Key} {i : Nat} {k : Key} (h : l[i]? = some k) : foldK (l.take (i + 1)) = addK (foldK (l.take i)) k := by
  rw [List.take_succ, h]
  exact foldK_snoc _ _
section
variable {P : Program} {w : World} {A : Around} {R : Result → Shared → Prop} {J : Addr} {fp wr : List Addr} {G : Array GenState → Array GenState → Prop} {n : Nat} {Pv : Nat → Value → Prop} {St : Nat → Shared → Prop}
theorem loopK (Wk : WalksS P w A.in1 J fp wr G n Pv St) (B : Addr) (hB : B ∉ fp) (ks : List Key) (len : ks.length = n) (few : n < 1000) (val : ∀ i v, Pv i v → ∃ k, ks[i]? = some k ∧ keyIs k v = true) :
    ∀ (m i : Nat) (s : Shared), n - i = m → i ≤ n → St i s → SetK w s.heap B (foldK (ks.take i)) → (∀ s', Moved (B :: wr) G s s' → SetK w s'.heap B (foldK ks) → R (.ok (.ret .none)) s') →
      codeAny (model P w) A (.builtin "set.update.loop" ⟨[.ref B, .ref J], []⟩) R s := by
  have hw : B ∉ wr := fun z => hB (Wk.sub _ z)
  have sub : ∀ b ∈ wr, b ∈ B :: wr := fun b z => List.mem_cons_of_mem _ z
  intro m
  induction m with
  | zero =>
    intro i s e hi st R0 fin
    obtain rfl : i = n := by omega
    refine codeAny_builtin PyProof.Rows.F.entry_set_update_loop ?_
    rw [Around.under_plainId PyProof.Rows.F.plain_set_update_loop _]
    show wpAny _ A.in1 (pyNext (.ref J) >>= _) _ _ s
    refine wpAny_bind (Wk.done s _ _ st fun s' mv => ?_)
    show wpAny _ A.in1 (ret Value.none) _ _ s'
    refine wpAny_pure (fin s' (mv.mono sub) ?_)
    rw [show ks.take i = ks from by rw [← len]; exact List.take_length] at R0
    exact setK_at R0 fun o z => mv.heap B o hw z
  | succ m ih =>
    intro i s e hi st R0 fin
    have lt : i < n := by omega
    refine codeAny_builtin PyProof.Rows.F.entry_set_update_loop ?_
    rw [Around.under_plainId PyProof.Rows.F.plain_set_update_loop _]
    show wpAny _ A.in1 (pyNext (.ref J) >>= _) _ _ s
    refine wpAny_bind (Wk.item i s _ _ lt st fun v s' pv st' mv => ?_)
    obtain ⟨k, ek, kv⟩ := val i v pv
    have R1 : SetK w s'.heap B (foldK (ks.take i)) := setK_at R0 fun o z => mv.heap B o hw z
    show wpAny _ A.in1 (holding [v] (setAdd B v) >>= _) _ _ s'
    refine wpAny_bind (wpAny_holding ?_)
    unfold setAdd
    refine wpAny_holding (wpAny_bind ((mixKind P w).pyHash (show (mixKind P w).is k v = true from kv) ?_))
    have room : (foldK (ks.take i)).length + 1 < scanBound := by
      have z := foldK_len (ks.take i)
      rw [List.length_take] at z
      exact Nat.lt_of_lt_of_le (show _ < 1001 by omega) (by decide)
    refine setK_add_hashed (s := { s' with toks := s'.toks + 1 }) kv R1 room fun h' sb R2 => ?_
    rw [← take_more ek] at R2
    refine wpAny_pure ⟨plainId_quiet PyProof.Rows.F.plain_set_update_loop _, ih (i + 1) _ (by omega) lt (Wk.frame _ s' _ _ st' (Nat.le_succ _) fun b hb o z => ?_) R2 fun s2 mv2 R3 => ?_⟩
    · rw [sb.2 b (fun q : b = B => hB (q ▸ hb))]; exact z
    · refine fin s2 (Moved.trans Wk.gtrans ((mv.mono sub).then_heap (Nat.le_succ _) fun b o hb z => ?_) mv2) R3
      rw [sb.2 b (fun q : b = B => hb (q ▸ List.mem_cons_self))]; exact z
end
section
variable {P : Program} {w : World} {A : Around} {E : Value → Shared → Prop} {s : Shared}
/-- the new set, as set() lays it -/
abbrev fresh (w : World) : Obj := { cls := .type "set", dict := none, data := .set #[] 0 (.fresh 0 0 (!w.params.followText "set-order")) }
theorem fresh_at {w : World} {h : Heap} {a : Addr} (e : h.get? a = some (fresh w)) : SetK w h a [] :=
  ⟨_, #[], 0, _, e, ⟨rfl, rfl, rfl⟩, rfl, by simp, .nil, .nil, by decide, by rfl, List.Pairwise.nil, by
    show _ ∨ (!w.params.followText "set-order") = true
    cases w.params.followText "set-order"
    · exact .inr rfl
    · exact .inl rfl⟩
theorem call_set_listK {l : Addr} {items : Array Value} {ks : List Key} {Q : Value → Shared → Prop} (hh : A.handled = none) (hl : s.heap.IsList l items) (len : ks.length = items.size) (few : ks.length < 1000) (val : ∀ (i : Nat) (v : Value), items[i]? = some v → ∃ k, ks[i]? = some k ∧ keyIs k v = true)
    (fin : ∀ (h' : Heap) (tk : Nat), SetK w h' s.heap.objs.size (foldK ks) → (∀ b o, b < s.heap.objs.size → s.heap.get? b = some o → h'.get? b = some o) → Q (.ref s.heap.objs.size) { s with heap := h', toks := tk }) :
    wpAny (model P w) A (call (.type "set") [.ref l]) Q E s := by
  obtain ⟨c, tl, m0⟩ := PySem.F.called_set.mro
  have m1 := PySem.F.called_set.made
  have m2 := PySem.F.called_set.sub
  refine wpAny_call (codeAny_of_tree ?_)
  show wpAny _ _ (callAny (.type "set") _) _ _ _
  refine wpAny_pure ⟨Code.quiet_builtin _ (by decide +kernel), codeAny_builtin PySem.F.entry_type_call ?_⟩
  rw [Around.under_plain (weight_type_call_type "set" [.ref l] []) rfl]
  have m3 := PySem.F.called_set.notType
  have m4 := PySem.F.called_set.canCreate
  have m5 := PySem.F.typeCall_set_1 (.ref l)
  repeat (any_goals (first | assumption | wp_step))
  refine codeAny_mono (code_set_led1 (.ref l) (E := E) (Q₁ := fun obj s₁ => obj = .ref s.heap.objs.size ∧ s₁ = { s with heap := s.heap.push (fresh w) }) ⟨rfl, rfl⟩) fun r s₁ hr => ?_
  cases r with
  | error e => exact hr
  | ok fl =>
    cases fl with
    | ret obj =>
      obtain ⟨rfl, rfl⟩ := hr
      have e0 : (s.heap.push (fresh w)).get? s.heap.objs.size = some (fresh w) := Heap.get?_push_size _ rfl
      have ty : Shared.TypeIs { s with heap := s.heap.push (fresh w) } (.ref s.heap.objs.size) "set" := ⟨_, e0, rfl⟩
      have i1 := PySem.F.called_set.init.lookup
      have i2 := PySem.F.called_set.init.bind (.ref s.heap.objs.size)
      repeat (any_goals (first | assumption | wp_step))
      refine codeAny_mono (codeAny_call_builtin (R := wants (fun r s₂ => r = .none ∧ ∃ h' tk, s₂ = { s with heap := h', toks := tk } ∧ SetK w h' s.heap.objs.size (foldK ks) ∧
          (∀ b o, b < s.heap.objs.size → s.heap.get? b = some o → h'.get? b = some o)) E) PySem.F.called_set.init.plain PySem.F.entry_set_init (check_set_init_1 ty ?_)) fun r₂ s₂ hr₂ => ?_
      · obtain ⟨ol, hol, hcl, nl, hdl⟩ := hl
        obtain ⟨ocls, odict, odata, oslots⟩ := ol
        simp only at hcl hdl
        subst hcl; subst hdl
        have hol' : (s.heap.push (fresh w)).get? l = some { cls := .type "list", dict := odict, data := .seq items nl, slots := oslots } := Heap.get?_push_of_some _ hol
        have n1 := PySem.F.sub_list_set
        have n2 := PySem.F.sub_list_frozenset
        have n3 : (Value.type "list" == Value.type "dict") = false := by decide
        have l1 : (s.heap.push (fresh w)).IsList l items := ⟨_, hol', rfl, nl, rfl⟩
        unfold Builtin.«set.__init__» noKeywords Builtin.Frozenset.updateFrom
        generalize hPI : pyIter = PI
        wp_walk
        subst hPI
        refine wpAny_pyIter_list l1 (wpAny_bind (wpAny_runValue ?_))
        have ls : l < s.heap.objs.size := Heap.lt_size hol
        have h3 : A.in1.in1.in1.handled = none := by simp [hh]
        have ne : l ≠ (s.heap.push (fresh w)).objs.size := by
          rw [Heap.size_push]; exact Nat.ne_of_lt (Nat.lt_succ_of_lt ls)
        have out : s.heap.objs.size ∉ [(s.heap.push (fresh w)).objs.size, l] := by
          rw [Heap.size_push]; simp only [List.mem_cons, List.mem_singleton, List.not_mem_nil, or_false, not_or]
          exact ⟨Nat.ne_of_lt (Nat.lt_succ_self _), Nat.ne_of_gt ls⟩
        refine loopK ((Walks.list h3 _ l ne items).toS) s.heap.objs.size out ks len (by rw [← len]; exact few) val (items.size - 0) 0 _ (by omega) (Nat.zero_le _)
          ⟨⟨_, Heap.get?_push_size _ rfl, rfl, rfl⟩, l1.push _⟩ ?first ?last
        case first =>
          show SetK w ((s.heap.push (fresh w)).push _) s.heap.objs.size []
          exact fresh_at (Heap.get?_push_of_some _ e0)
        case last =>
          intro s' mv R
          obtain ⟨h', g', d', tk', os'⟩ := s'
          have q1 : g' = s.gens := mv.gens
          have q2 : d' = s.drawn := mv.drawn
          have q3 : os' = s.os := mv.os
          subst q1; subst q2; subst q3
          show wpAny _ _ _ _ _ _
          refine wpAny_pure ?_
          show wpAny _ _ (ret Value.none) _ _ _
          refine wpAny_pure ⟨rfl, h', tk', rfl, R, fun b o hb e => ?_⟩
          have b1 : b ≠ s.heap.objs.size := Nat.ne_of_lt hb
          have b2 : b ≠ (s.heap.push (fresh w)).objs.size := by
            rw [Heap.size_push]; exact Nat.ne_of_lt (Nat.lt_succ_of_lt hb)
          exact mv.heap b o (by simp only [List.mem_cons, List.mem_singleton, List.not_mem_nil, or_false, not_or]; exact ⟨b1, b2⟩) (Heap.get?_push_of_some _ (Heap.get?_push_of_some _ e))
      · cases r₂ with
        | error e => exact hr₂
        | ok fl₂ =>
          cases fl₂ with
          | ret r =>
            obtain ⟨rfl, h', tk, rfl, R, k⟩ := hr₂
            repeat (any_goals (first | assumption | wp_step))
            exact fin _ _ R k
          | _ => exact hr₂.elim
    | _ => exact hr.elim
end
end Fv

namespace Fv
open PySem PySem.Spec PyProof.Rows L2
def kD : Key → D
  | .inl i => .int i
  | .inr x => .str x
theorem keysD_kD : ∀ kk : List Key, keysD (kk.map kD) = some kk
  | [] => rfl
  | .inl i :: kk => by simp only [List.map_cons, kD, keysD, keyD, Option.bind_some, keysD_kD kk, Option.map_some]
  | .inr i :: kk => by simp only [List.map_cons, kD, keysD, keyD, Option.bind_some, keysD_kD kk, Option.map_some]
/-- set(), set(xs) -/
def setF : Fn := fun ds s => match ds with
  | [] => .ok (.set []) s
  | [d] => match lsOf s d with
    | some xs => match keysD xs with
      | some kk => if decide (kk.length < 1000) then .ok (.set ((foldK kk).map kD)) s else .bad
      | none => .bad
    | none => .bad
  | _ => .bad
theorem keys_at {g : Wd} {μ : M} {H : Hp} : ∀ {xs : List D} {kk : List Key} {vs : List V} {us : List Value}, RVs g μ H xs vs → keysD xs = some kk → Vals vs us → ∀ (i : Nat) (u : Value), us[i]? = some u → ∃ k, kk[i]? = some k ∧ keyIs k u = true
  | [], kk, vs, us, r, e, rv, i, u, q => by
    simp only [RVs] at r; subst r
    cases rv
    simp at q
  | d :: xs, kk, vs, us, r, e, rv, i, u, q => by
    simp only [RVs] at r
    obtain ⟨y, r', rfl, a, b⟩ := r
    simp only [keysD, Option.bind_eq_some_iff, Option.map_eq_some_iff] at e
    obtain ⟨k, e1, kk', e2, rfl⟩ := e
    cases rv with
    | cons r1 r2 =>
      cases i with
      | zero =>
        simp at q; subst q
        exact ⟨k, rfl, key_val a e1 r1⟩
      | succ i =>
        obtain ⟨k', h1, h2⟩ := keys_at b e2 r2 i u (by simpa using q)
        exact ⟨k', by simpa using h1, h2⟩
theorem qc_set {X : Cx} (hc : X.calm = true) : CallR X (.type "set") (rC (wd X) setF) := by
  intro pins sh σ H xs us Q I rv ⟨μ, s, ds, hs, r, W, σ', h⟩
  unfold setF at h
  split at h
  · exact qc_set0 pins sh σ H xs us Q I rv ⟨μ, s, [], hs, r, W, σ', h⟩
  · rename_i d
    split at h
    case h_2 => exact h.elim
    rename_i zs ez
    split at h
    case h_2 => exact h.elim
    rename_i kk ek
    split at h
    case isFalse => exact h.elim
    rename_i hz
    obtain ⟨x, rfl, r1⟩ := r.inv1
    obtain ⟨p, ys, rfl, q, rr⟩ := lsOf_sound hs r1 ez
    obtain ⟨its, rits, pl, hl⟩ := I.list q
    rw [Vals.ref1 rv]
    have len : kk.length = its.toArray.size := by rw [List.size_toArray, ← rits.length, ← rr.length]; exact (keysD_len ek).symm
    refine call_set_listK (I.ok.hd hc) pl.isList len (of_decide_eq_true hz) (fun i v e => keys_at rr ek rits i v (by simpa using e)) fun h' tk R k => ?_
    have lt : ∀ b o, sh.heap.get? b = some o → h'.get? b = some o := fun b o e => k b o (Heap.lt_size e) e
    exact ⟨.ref _, upd H sh.heap.objs.size (SetH X.w sh.heap.objs.size (foldK kk)), I.laid (t' := tk) lt (Nat.le_refl _) (setH_ok R), rfl, rf_set h hs (keysD_kD _) _ (I.hok.fresh (Nat.le_refl _))⟩
  · exact h.elim
end Fv

namespace Fv
open PySem PySem.Spec PyProof.Rows L2
/-! ### set comprehensions of keys -/
/-- the reading: D the new set, Sx what holds ahead of each turn -/
def tSk (w : World) (wi : TI) (g : TG) (tt : TT) (te : TE) (own : List Nat) : TE := fun σ H Q => wi σ H fun J H1 => ∀ B, H1 B = none → ∃ Sx : Nat → Nat → Hp → Prop, (∃ m, Sx 0 m (upd H1 B (SetH w B []))) ∧
  ∀ i m H, Sx i m H → (J.stop i H ∧ Q (.ref B) H) ∨ (J.go i H ∧ ∃ Go : Hp → Prop, (∀ H', Go H' → ∃ m', m' < m ∧ Sx (i + 1) m' H') ∧
    ∀ x H', J.yld i H x H' → g x (wipe σ own) H' fun σ2 H2 => wipe σ2 own = wipe σ own ∧ tt σ2 H2 fun b H3 =>
      if b = true then te σ2 H3 fun y H4 => ∃ (k : Key) (kk : List Key), y = kV k ∧ H4 B = some (SetH w B kk) ∧ kk.length + 1 < scanBound ∧ Go (upd H4 B (SetH w B (addK kk k))) else Go H3)
section
variable {X : Cx}
theorem kV_key {k : Key} {u : Value} (r : RelV (kV k) u) : keyIs k u = true := by
  cases k with
  | inl i => obtain ⟨t, rfl⟩ := (show ∃ t, u = Value.int i t from r); exact beq_iff_eq.mpr rfl
  | inr x => obtain ⟨t, rfl⟩ := (show ∃ t, u = Value.str x t from r); exact beq_iff_eq.mpr rfl
theorem add_at {pins : List (Addr × Obj)} {σ : L2.St} {H : Hp} {s : Shared} {E : Value → Shared → Prop} {B : Addr} {kk : List Key} {k : Key} {u : Value} {Q : Value → Shared → Prop} (I : Inv X pins σ H s) (ku : keyIs k u = true) (hB : H B = some (SetH X.w B kk)) (room : kk.length + 1 < scanBound)
    (fin : ∀ s', Inv X pins σ (upd H B (SetH X.w B (addK kk k))) s' → Q .none s') : wpAny (model X.prog X.w) X.A (call (.builtin "set.add") [.ref B, u]) Q E s :=
  setK_add ku (setH_get I hB) room fun h' sb new => fin _ (I.write (e := B) (t' := s.toks + 1) (by rw [hB]; trivial) (.inl rfl) (fun b o hb e => (sb.2 b hb).trans e) (by
    have ⟨o, _, _, _, ho, _⟩ := new
    exact ⟨o, ho⟩) (setH_ok new))
theorem pe_sk {elt tg iter : Expr} {ifs : List Expr} {scope : Scope} {own : List (PySem.Str × Nat)} {pos : Pos} {wi : TI} {g : TG} {tt : TT} {te : TE} (hc : X.calm = true) (hN : X.N.Nodup) (hi : PI X tg iter wi) (ok : BlkOk X.N X.env.scope scope own)
    (hg : ∀ (s : Shared) (H : Hp) (C : Addr) (cl : List (PySem.Str × Addr)) (fp : List Addr), PG (X.blk s H scope (compEnvC scope cl C X.env) fp) tg g)
    (ht : ∀ (s : Shared) (H : Hp) (C : Addr) (cl : List (PySem.Str × Addr)) (fp : List Addr), PTs (X.blk s H scope (compEnvC scope cl C X.env) fp) ifs tt)
    (he : ∀ (s : Shared) (H : Hp) (C : Addr) (cl : List (PySem.Str × Addr)) (fp : List Addr), PE (X.blk s H scope (compEnvC scope cl C X.env) fp) elt te) (hs : ∀ x, foldedSetIterable iter X.env x = pure x := by intro _; rfl) :
    PE X (.SetComp elt [⟨tg, iter, ifs, 0⟩] scope pos) (tSk X.w wi g tt te (own.map (·.2))) := by
  refine ⟨fun pins s σ H Q I h => ?_⟩
  rw [PpSet.eval_SetComp]
  have clo : ∀ y ∈ scope.names, y.2 = .free → ∃ c, X.env.cells.lookup y.1 = some c := fun y hy e => (ok.free y hy e).elim (fun k => I.ok.has _ (.inl k)) fun k => I.ok.has _ (.inr k)
  refine wpAny_comprehension_free (use := none) rfl hs (closure_ok clo) ok.kind (fun y hy e => by rw [ok.uniq y hy, e]) (thn (hi.run pins s σ H _ I h) fun xv s1 hx => thn hx fun itv s2 ⟨it, lp, tn, J, H2, ei, I2, T, st2, f2, q⟩ => ?_)
  subst ei
  refine PpSet.newSet_ok (newEnv_comp ?_)
  generalize eB : s2.heap.objs.size = B
  have nB : H2 B = none := I2.hok.fresh (Nat.le_of_eq eB)
  obtain ⟨Sx, ⟨m0, w0⟩, turn⟩ := q B nB
  generalize e3 : ({ s2 with heap := s2.heap.push (fresh X.w) } : Shared) = u3
  have J3 : Inv X pins σ (upd H2 B (SetH X.w B [])) u3 := by
    subst e3
    exact I2.laid (t' := s2.toks) (fun b o e => Heap.get?_push_of_some _ e) (Nat.le_of_eq eB) (by subst eB; exact setH_ok (fresh_at (Heap.get?_push_size _ rfl)))
  have hp3 : u3.heap = s2.heap.push (fresh X.w) := by rw [← e3]
  have low : ∀ b ∈ lp, b < s2.heap.objs.size := fun b hb => let ⟨o, e, _⟩ := T.obj _ _ st2 b hb; Heap.lt_size e
  have f3 : ∀ b ∈ lp, FpOk X pins (upd H2 B (SetH X.w B [])) b ∧ b < u3.heap.objs.size := fun b hb => ⟨⟨by
    rw [upd_ne (by rw [← eB]; exact Nat.ne_of_lt (low b hb))]
    exact (f2 b hb).1, (f2 b hb).2⟩, by rw [hp3, Heap.size_push]; exact Nat.lt_succ_of_lt (low b hb)⟩
  have st3 : tn 0 u3.heap := T.keep _ _ _ st2 fun b _ o e => by rw [hp3]; exact Heap.get?_push_of_some _ e
  have J4 := block_start J3 ok hN f3
  generalize eG : upd H2 B (SetH X.w B []) = G3 at J3 J4 w0 f3
  generalize eC : compEnvC scope (cellsFrom (u3.heap.objs.size + 1) scope.names (cloFrom X.env.cells scope.names [])) u3.heap.objs.size X.env = ce at J4
  have pg := hg u3 G3 u3.heap.objs.size (cellsFrom (u3.heap.objs.size + 1) scope.names (cloFrom X.env.cells scope.names [])) lp
  have pt := ht u3 G3 u3.heap.objs.size (cellsFrom (u3.heap.objs.size + 1) scope.names (cloFrom X.env.cells scope.names [])) lp
  have pe := he u3 G3 u3.heap.objs.size (cellsFrom (u3.heap.objs.size + 1) scope.names (cloFrom X.env.cells scope.names [])) lp
  rw [eC] at pg pt pe
  show codeAny _ _ (.compStart (.SetComp elt [⟨tg, iter, ifs, 0⟩] scope pos) 0 (.ref it) (.ref B) (compEnvC scope (cellsFrom (u3.heap.objs.size + 1) scope.names (cloFrom X.env.cells scope.names [])) u3.heap.objs.size X.env)) (compPost (model X.prog X.w) X.A X.xe none (EP X pins σ Q) (.ref B) u3.heap.objs.size) { u3 with heap := pushCells (u3.heap.push { cls := .type "dict", data := .dict #[] }) scope.names }
  rw [eC]
  have cL : ce.locals = u3.heap.objs.size := by subst eC; rfl
  generalize e4 : ({ u3 with heap := pushCells (u3.heap.push { cls := .type "dict", data := .dict #[] }) scope.names } : Shared) = u4 at J4 ⊢
  have st4 : tn 0 u4.heap := T.keep _ _ _ st3 fun b _ o e => by rw [← e4]; exact pushCells_keeps _ _ _ _ (Heap.get?_push_of_some _ e)
  have lay : ∀ {σ' : L2.St} {H' : Hp} {s' : Shared}, Inv (X.blk u3 G3 scope ce lp) [] σ' H' s' → (∀ b ∈ lp, H' b = none) → ∀ b ∈ lp, FpOk (X.blk u3 G3 scope ce lp) [] H' b := fun {σ' H' s'} I' n b hb =>
    ⟨n b hb, (I'.ok.exf b hb).1, I'.ok.exfs b hb, .inl hb, fun x c e => (I'.ok.exf b hb).2 x c e, fun p hp => absurd (show p ∈ ([] : List (Addr × Obj)) ++ [] from hp) (by simp)⟩
  have loop : codeAny (model X.prog X.w) X.A (.compLoop (.SetComp elt [⟨tg, iter, ifs, 0⟩] scope pos) 0 (.ref it) (.ref B) ce) (compPost (model X.prog X.w) X.A X.xe none (EP X pins σ Q) (.ref B) u3.heap.objs.size) u4 := by
    refine PpSet.compLoopS_any (fun n s' => ∃ i H', Inv (X.blk u3 G3 scope ce lp) [] (wipe σ (own.map (·.2))) H' s' ∧ tn i s'.heap ∧ (∀ b ∈ lp, H' b = none) ∧ Sx i n H') ?_ m0 ⟨0, G3, J4, st4, fun b hb => (f3 b hb).1.1, w0⟩
    rintro n s5 ⟨i, H5, I5, st5, n5, w5⟩
    rcases turn i n H5 w5 with ⟨stop, qq⟩ | ⟨go, Go, less, step⟩
    · refine thnF (T.done (X.blk u3 G3 scope ce lp) rfl rfl rfl hc i [] s5 _ H5 (fun _ _ => False) I5 (lay I5 n5) st5 stop) fun r s6 ⟨er, I6⟩ => ?_
      subst er
      have I7 : Inv X pins σ H5 s6 := J3.call' (ch := lp) I6.os I6.base I6.hok I6.bare fun b hb => let z := (f3 b hb).1.2; ⟨z.2.2.1, z.1, z.2.2.2.1, z.2.2.2.2⟩
      have nC : H5 u3.heap.objs.size = none := by rw [← cL]; exact I6.free
      obtain ⟨m, hn, _⟩ := I6.loc
      have hn : s6.heap.Ns ce.locals m := hn
      rw [cL] at hn
      obtain ⟨f0, f1, _, g3, g4, g5⟩ := J3.fpOk (Nat.le_refl _) nC
      refine ⟨m, hn, fun h'' sb => ?_⟩
      exact ⟨.ref B, H5, I7.turned (t' := s6.toks) (fun b o hb e => (sb.2 b hb).trans e) f0 f1 g3 g4 g5, rfl, qq⟩
    · refine thnF (T.item (X.blk u3 G3 scope ce lp) rfl rfl rfl hc i [] s5 _ H5 (fun _ _ => False) I5 (lay I5 n5) st5 go) fun r s6 ⟨u, er, h6⟩ => ?_
      subst er
      refine thnF h6 fun _ s7 ⟨x, H7, I7, r7, y7, st7, n7⟩ => ?_
      have I7' := I7.pinned (lay I7 n7) (T.obj _ _ st7)
      refine thnF (pg.run _ s7 _ H7 x u _ I7' r7 (step x H7 y7)) fun _ s8 ⟨σ8, H8, I8, hw8, q8⟩ => ?_
      refine thnF (pt.run _ s8 σ8 H8 _ I8 q8) fun b s9 ⟨H9, I9, q9⟩ => ?_
      have next : ∀ {s' : Shared} {H' : Hp}, Inv (X.blk u3 G3 scope ce lp) ([] ++ pinsAt lp s7.heap) σ8 H' s' → Go H' → ∃ m, m < n ∧ ∃ i H', Inv (X.blk u3 G3 scope ce lp) [] (wipe σ (own.map (·.2))) H' s' ∧ tn i s'.heap ∧ (∀ b ∈ lp, H' b = none) ∧ Sx i m H' := fun {s' H'} I' nx => by
        obtain ⟨m', hm, w'⟩ := less H' nx
        have keep : ∀ b ∈ lp, ∀ o, s7.heap.get? b = some o → s'.heap.get? b = some o ∧ H' b = none := fun b hb o e => let z := I'.pin (b, o) (List.mem_append_right _ (List.mem_append_right _ (mem_pinsAt hb e))); ⟨z.1, z.2.1⟩
        exact ⟨m', hm, i + 1, H', (I'.unpinned (pins := [])).weak (by rw [← hw8, wipe_length]) (fun j v e => by rw [← hw8] at e; exact (wipe_some e).1), T.keep _ _ _ st7 fun b hb o e => (keep b hb o e).1, fun b hb => let ⟨o, e, _⟩ := T.obj _ _ st7 b hb; (keep b hb o e).2, w'⟩
      cases b with
      | false =>
        simp only [Bool.false_eq_true, if_false] at q9 ⊢
        exact next I9 q9
      | true =>
        simp only [if_true] at q9 ⊢
        refine thnF (pe.run _ s9 σ8 H9 _ I9 q9) fun z s10 ⟨yv, H10, I10, r10, k, kk, ey, hB10, room, nx⟩ => ?_
        subst ey
        exact add_at (X := X.blk u3 G3 scope ce lp) I10 (kV_key r10) hB10 room fun s11 I11 => next I11 nx
  exact PpSet.codeAny_compStart_set loop (T.self X.A 0 _ _ _ st4 loop)
end
end Fv

namespace Fv
open PySem PySem.Spec PyProof.Rows L2
/-! ### set comprehensions, over trees -/
def skL (keep : S → Bool) (t : Tg) (c : T) (e : E) (ρ : En) : List D → List Key → S → R (List Key)
  | [], acc, s => if keep s then .ok acc s else .bad
  | d :: ds, acc, s => if keep s then match asg t d ρ with
    | none => .bad
    | some ρ1 => (c ρ1 s).noerr.bind fun k s => if k then (e ρ1 s).noerr.bind fun y s => match keyD y with
        | some k => if decide (acc.length < 1000) then skL keep t c e ρ ds (addK acc k) s else .bad
        | none => .bad
      else skL keep t c e ρ ds acc s
    else .bad
def skE (it : Is) (vs : List Nat) (t : Tg) (c : T) (e : E) : E := fun ρ s => (it ρ s).bind fun J s => (skL J.keep t c e (wipeD ρ vs) J.items [] s).bind fun kk s => .ok (.set (kk.map kD)) s
theorem rv_key {g : Wd} {μ : M} {H : Hp} {d : D} {k : Key} {v : V} (r : RV g μ H d v) (e : keyD d = some k) : v = kV k := by
  cases d <;> simp only [keyD, Option.some.injEq, reduceCtorEq] at e
  · subst e; simp only [RV] at r; exact r
  · subst e; simp only [RV] at r; exact r
section
variable {W : WX}
theorem sk_sound {g : Wd} {own : List (Str × Nat)} {it : Is} {tt : Tg} {tc : T} {me : E} {σ : L2.St} {H : Hp} {Q : VK} (hv : tt.within (own.map (·.2)) = true) (h : liftF g W (skE it (own.map (·.2)) tt tc me) σ H Q) :
    tSk g.w (liftI g W Fn0 it) (gOf g.K tt) (liftT g (fun _ _ _ _ => False) tc) (liftE g (fun _ _ _ _ => False) me) (own.map (·.2)) σ H Q := by
  obtain ⟨F0, μ, ρ, s, he, hs, h⟩ := h
  exact ⟨F0, μ, ρ, s, he, hs, runs_bind h fun J0 s1 μ1 H1 J e1 x1 hs1 r1 h1 => by
    intro A hA
    have ns : ∀ {kk : List Key} (ys : List V), SetH g.w A kk ≠ .tup ys := fun ys z => ext_tup rfl _ z
    have nf : ∀ {kk : List Key} (o : Obj) (u : HO), SetH g.w A kk ≠ .frz o u := fun o u z => ext_frz rfl _ _ z
    have x0 : Ex Fn0 μ1 H1 μ1 (upd H1 A (SetH g.w A [])) := ex_new hA
    have hs0 := hs1.new (ho := SetH g.w A []) hA
    let Fin : List Key → List D → S → Prop := fun acc ds s' => runs g W σ μ1 H1 (RF g H) Q ((skL J0.keep tt tc me (wipeD ρ (own.map (·.2))) ds acc s').bind fun kk s => .ok (.set (kk.map kD)) s)
    let In : List D → Hp → Prop := fun ds H2 => ∃ μ' s' acc, Ex (fun q => q = A) μ1 (upd H1 A (SetH g.w A [])) μ' H2 ∧ Ex Fn0 μ1 H1 μ' H2 ∧ Rs g μ' H2 s' ∧ A ∉ μ'.m ∧ ¬ μ'.z A ∧ H2 A = some (SetH g.w A acc) ∧ Fin acc ds s'
    refine ⟨fun i m H2 => m = J0.items.length - i ∧ In (J0.items.drop i) H2, ⟨_, rfl, μ1, s1, [], Ex.refl, x0, hs0, hs1.nmem hA, hs1.nz hA, upd_same, h1⟩, ?_⟩
    rintro i m H2 ⟨rfl, μ2, s2, acc, x2, x2', hs2, hm2, hz2, hA2, h2⟩
    by_cases hlt : i < J0.items.length
    · have ed : J0.items[i]? = some J0.items[i] := List.getElem?_eq_getElem hlt
      rw [drop_cons ed] at h2
      simp only [Fin, skL] at h2
      split at h2
      · rename_i hk
        obtain ⟨go, yl⟩ := (r1 μ2 H2 s2 x2' hs2 hk i).1 _ ed
        refine .inr ⟨go, In (J0.items.drop (i + 1)), fun H' n => ⟨_, by omega, rfl, n⟩, fun x H3 y => ?_⟩
        obtain ⟨μ3, x3, hs3, r3⟩ := yl x H3 y
        have keepA : ∀ {μ' : M} {H' : Hp}, Ex Fn0 μ2 H2 μ' H' → A ∉ μ'.m ∧ ¬ μ'.z A ∧ H' A = some (SetH g.w A acc) := fun {μ' H'} x => ⟨x.nm hA2 hm2, fun q => (x.zn A q).elim hz2 fun q => q.elim id (fun q => by rw [hA2] at q; cases q), x.oth A _ hA2 hm2 (.inr id)⟩
        split at h2
        · exact h2.elim
        · rename_i ρ3 q
          obtain ⟨vs, k1, k2⟩ := asg_sound r3 q
          have hren := wipe_ren (he.mono (x1.trans (x2'.trans x3))) (own.map (·.2))
          refine k1 (wipe σ (own.map (·.2))) _ ?_
          refine ⟨by rw [wipe_sl hv, wipe_wipe], F0, μ3, ρ3, s2, k2 _ _ hren, hs3, ?_⟩
          cases qc : tc ρ3 s2 with
          | err c ns vs s => rw [qc] at h2; exact h2.elim
          | bad => rw [qc] at h2; exact h2.elim
          | ok k s4 =>
            rw [qc] at h2
            intro μ4 H4 b x4 hs4 r4
            obtain rfl : k = b := r4
            cases k with
            | false =>
              have kA := keepA (x3.trans x4)
              exact ⟨μ4, s4, acc, x2.trans (x3.trans x4).s, x2'.trans (x3.trans x4), hs4, kA.1, kA.2.1, kA.2.2, h2⟩
            | true =>
              refine ⟨F0, μ4, ρ3, s4, (k2 _ _ hren).mono x4, hs4, ?_⟩
              have h4 : runs g W σ μ1 H1 (RF g H) Q ((R.bind (me ρ3 s4).noerr fun y s => match keyD y with
                | some k => if decide (acc.length < 1000) = true then skL J0.keep tt tc me (wipeD ρ (own.map fun p : Str × Nat => p.2)) (J0.items.drop (i + 1)) (addK acc k) s else .bad
                | none => .bad).bind fun kk s => .ok (.set (kk.map kD)) s) := h2
              cases qe : me ρ3 s4 with
              | err c ns vs s => rw [qe] at h4; exact h4.elim
              | bad => rw [qe] at h4; exact h4.elim
              | ok d s5 =>
                rw [qe] at h4
                intro μ5 H5 z x5 hs5 r5
                have h5 : runs g W σ μ1 H1 (RF g H) Q ((match keyD d with
                  | some k => if decide (acc.length < 1000) = true then skL J0.keep tt tc me (wipeD ρ (own.map fun p : Str × Nat => p.2)) (J0.items.drop (i + 1)) (addK acc k) s5 else .bad
                  | none => .bad).bind fun kk s => .ok (.set (kk.map kD)) s) := h4
                split at h5
                case h_2 => exact h5.elim
                rename_i k0 e0
                split at h5
                · rename_i hz
                  have x35 := (x3.trans x4).trans x5
                  obtain ⟨a1, a2, a3⟩ := keepA x35
                  have xp : Ex (fun q => q = A) μ5 H5 μ5 (upd H5 A (SetH g.w A (addK acc k0))) := ex_own a2 rfl a3 ns nf
                  have xq : Ex Fn0 μ1 H1 μ5 (upd H5 A (SetH g.w A (addK acc k0))) := ex_again (x2'.trans x35) hA a3 ns nf
                  exact ⟨k0, acc, rv_key r5 e0, a3, Nat.lt_of_lt_of_le (show acc.length + 1 < 1001 by have := of_decide_eq_true hz; omega) (by decide), μ5, s5, addK acc k0, (x2.trans x35.s).trans xp, xq, hs5.own a1 a2 a3 ns nf, a1, a2, upd_same, h5⟩
                · exact h5.elim
      · exact h2.elim
    · rw [List.drop_eq_nil_of_le (by omega)] at h2
      simp only [Fin, skL] at h2
      split at h2
      · rename_i hk
        exact .inl ⟨(r1 μ2 H2 s2 x2' hs2 hk i).2 (by omega), h2 μ2 H2 _ x2' hs2 (by
          unfold RF
          rw [if_pos (show (D.set (acc.map kD)).heavy = true from rfl)]
          exact ⟨A, rfl, x1.trk A hA, hm2, hz2, acc, keysD_kD _, hA2⟩)⟩
      · exact h2.elim⟩
end
theorem q_sk {X : Cx} {W : WX} {elt tg iter : Expr} {ifs : List Expr} {scope : Scope} {own : List (Str × Nat)} {it : Is} {tt : Tg} {tc : T} {me : E} {pos : Pos} (hc : X.calm = true) (hN : X.N.Nodup) (hi : QI X W Fn0 tg iter it) (ok : BlkOk X.N X.env.scope scope own) (hv : tt.within (own.map (·.2)) = true)
    (hg : ∀ (s : Shared) (H : Hp) (C : Addr) (cl : List (Str × Addr)) (fp : List Addr), PG (X.blk s H scope (compEnvC scope cl C X.env) fp) tg (gOf X.K tt))
    (ht : ∀ (s : Shared) (H : Hp) (C : Addr) (cl : List (Str × Addr)) (fp : List Addr), PTs (X.blk s H scope (compEnvC scope cl C X.env) fp) ifs (liftT (wd X) (fun _ _ _ _ => False) tc))
    (he : ∀ (s : Shared) (H : Hp) (C : Addr) (cl : List (Str × Addr)) (fp : List Addr), PE (X.blk s H scope (compEnvC scope cl C X.env) fp) elt (liftE (wd X) (fun _ _ _ _ => False) me)) (hs : ∀ x, foldedSetIterable iter X.env x = pure x := by intro _; rfl) :
    PE X (.SetComp elt [⟨tg, iter, ifs, 0⟩] scope pos) (liftF (wd X) W (skE it (own.map (·.2)) tt tc me)) :=
  pe_imp (pe_sk hc hN hi ok hg ht he hs) fun σ H Q h => sk_sound hv h
end Fv

namespace Fv
open PySem PySem.Spec PyProof.Rows L2
/-! ### dict() of a tuple of the written part; {} for keys that are tuples -/
def pairsOf : List D → Option (List D × List D)
  | [] => some ([], [])
  | d :: r => match tupOf d with
    | some [k, v] => (pairsOf r).map fun p => (k :: p.1, v :: p.2)
    | _ => none
def dictF : Fn := fun ds s => match ds with
  | [.ktup ps] => match pairsOf ps with
    | some p => match keysD p.1 with
      | some kk => if kk.Nodup then .ok (.dct p.1 p.2) s else .bad
      | none => .bad
    | none => .bad
  | _ => .bad
theorem sqt_is {X : Cx} {pins : List (Addr × Obj)} {σ : L2.St} {H : Hp} {s : Shared} {t : Addr} {xs : List V} (I : Inv X pins σ H s) (h : SqT X.K H t xs) : ∃ its : List Value, Vals xs its ∧ IsTup s.heap t its.toArray := by
  rcases h with (h | ⟨o, h⟩) | ⟨o, its, n, lk, c, d, _, v⟩
  · have z : ObjOk X.prog X.w H s.heap t (.tup xs) := I.hok t _ h
    exact z.2
  · have z : ObjOk X.prog X.w H s.heap t (.frz o (.tup xs)) := I.hok t _ h
    exact z.2.2
  · exact ⟨its.toList, v, o, I.kIn _ _ lk, c, n, by simpa using d⟩
theorem merged_new {ms : List (Key × Value)} : ∀ {vs : List (Key × Value)}, ((vs ++ ms).map (·.1)).Nodup → merged vs ms = vs ++ ms := by
  induction ms with
  | nil => intro vs _; simp [merged]
  | cons m ms ih =>
    intro vs h
    obtain ⟨k, v⟩ := m
    have nk : k ∉ vs.map (·.1) := by
      rw [List.map_append, List.nodup_append] at h
      intro hk
      exact h.2.2 k hk k (by simp) rfl
    have e : stored vs k v = vs ++ [(k, v)] := by
      unfold stored
      rw [if_neg]
      intro z
      simp only [List.any_eq_true, decide_eq_true_eq] at z
      obtain ⟨q, hq, e⟩ := z
      exact nk (List.mem_map.mpr ⟨q, hq, e⟩)
    show merged (stored vs k v) ms = _
    rw [e, ih (by simpa [List.append_assoc] using h), List.append_assoc]
    rfl
theorem pairs_raw {X : Cx} {pins : List (Addr × Obj)} {σ : L2.St} {H : Hp} {s : Shared} {μ : M} (I : Inv X pins σ H s) : ∀ {ps : List D} {ys : List V} {its : List Value} {ks vs : List D} {kk : List Key}, RVs (wd X) μ H ps ys → Vals ys its → pairsOf ps = some (ks, vs) → keysD ks = some kk →
    ∃ (ts : List Addr) (us : List Value) (ws : List Value) (zs : List V), its = ts.map Value.ref ∧ ts.length = kk.length ∧ us.length = kk.length ∧ ws.length = kk.length ∧ Paired (fun k u => keyIs k u = true) kk us ∧ RVs (wd X) μ H vs zs ∧ Vals zs ws ∧
      ∀ (j : Nat) (t : Addr) (u z : Value), ts[j]? = some t → us[j]? = some u → ws[j]? = some z → s.heap.IsTuple t #[u, z]
  | [], ys, its, ks, vs, kk, r, v, e, e2 => by
    simp only [RVs] at r
    subst r
    cases v
    simp only [pairsOf, Option.some.injEq, Prod.mk.injEq] at e
    obtain ⟨rfl, rfl⟩ := e
    simp only [keysD, Option.some.injEq] at e2
    subst e2
    exact ⟨[], [], [], [], rfl, rfl, rfl, rfl, .nil, by simp only [RVs], .nil, fun j t u z h => by simp at h⟩
  | p :: ps, ys, its, ks, vs, kk, r, v, e, e2 => by
    simp only [RVs] at r
    obtain ⟨y, r', rfl, a, b⟩ := r
    cases v with
    | cons hv vr =>
    simp only [pairsOf] at e
    split at e
    case h_2 => cases e
    rename_i k x ep
    simp only [Option.map_eq_some_iff] at e
    obtain ⟨⟨ks', vs'⟩, e3, e4⟩ := e
    simp only [Prod.mk.injEq] at e4
    obtain ⟨rfl, rfl⟩ := e4
    simp only [keysD, Option.bind_eq_some_iff, Option.map_eq_some_iff] at e2
    obtain ⟨k0, ek, kk', e5, rfl⟩ := e2
    obtain ⟨ts, us, ws, zs, q1, q2, q3, q4, q5, q6, q7, q8⟩ := pairs_raw I b vr e3 e5
    obtain ⟨t, xs, rfl, sq, rr⟩ := tupOf_sound a.w ep
    obtain ⟨kv, xv, rfl, rk, rx⟩ := rr.inv2
    obtain ⟨raw, vraw, it⟩ := sqt_is I sq
    obtain ⟨u1, u2, rfl, v1, v2⟩ := vals2 vraw
    have hv' : _ = Value.ref t := hv
    subst hv'
    have ek2 := rv_key rk ek
    subst ek2
    refine ⟨t :: ts, u1 :: us, u2 :: ws, xv :: zs, by rw [q1]; rfl, by simp [q2], by simp [q3], by simp [q4], .cons (kV_key v1) q5, ⟨_, _, rfl, rx, q6⟩, .cons v2 q7, fun j t' u z h1 h2 h3 => ?_⟩
    cases j with
    | zero =>
      simp only [List.getElem?_cons_zero, Option.some.injEq] at h1 h2 h3
      subst h1 h2 h3
      exact it
    | succ j =>
      simp only [List.getElem?_cons_succ] at h1 h2 h3
      exact q8 j t' u z h1 h2 h3
theorem kv_zip : ∀ {kk : List Key} {zs : List V} {ws : List Value}, Vals zs ws → KV (kk.zip zs) (kk.zip ws)
  | [], _, _, _ => by simp only [List.zip_nil_left]; exact .nil
  | k :: kk, _, _, .nil => by simp only [List.zip_nil_right]; exact .nil
  | k :: kk, _, _, .cons h r => by simp only [List.zip_cons_cons]; exact .cons ⟨rfl, h⟩ (kv_zip r)
theorem qc_dict {X : Cx} (hc : X.A.handled = none) : CallR X (.type "dict") (rC (wd X) dictF) := by
  intro pins sh σ H xs us Q I rv ⟨μ, s, ds, hs, r, W, σ', h⟩
  unfold dictF at h
  split at h
  case h_2 => exact h.elim
  rename_i ps
  split at h
  case h_2 => exact h.elim
  rename_i p ep
  obtain ⟨ks, vs⟩ := p
  split at h
  case h_2 => exact h.elim
  rename_i kk ek
  split at h
  case isFalse => exact h.elim
  rename_i hn
  obtain ⟨x, rfl, r1⟩ := r.inv1
  have r1 := r1.light rfl
  simp only [RV] at r1
  obtain ⟨a, ys, rfl, kt, rr⟩ := r1
  obtain ⟨u0, rfl, v0⟩ : ∃ u, us = [u] ∧ RelV (V.ref a) u := by
    cases rv with
    | cons h t => cases t; exact ⟨_, rfl, h⟩
  obtain rfl : u0 = Value.ref a := v0
  obtain ⟨o, its, n, lk, oc, od, dt, sz, vv⟩ := kt.ex
  obtain ⟨ts, ks2, ws, zs, q1, q2, q3, q4, q5, q6, q7, q8⟩ := pairs_raw I rr vv ep ek
  have hl : its.size = kk.length := by rw [← Array.length_toList, q1, List.length_map, q2]
  let prs : List (Value × Value) := ks2.zip ws
  have lp : prs.length = kk.length := by simp [prs, q3, q4]
  let kvs : List (Key × Value) := kk.zip ws
  have lk2 : kvs.length = kk.length := by simp [kvs, q4]
  have items : PairItems sh.heap its (fun j => ts.getD j 0) prs := by
    refine ⟨by rw [hl, lp], fun j k v e => ?_⟩
    simp only [prs, List.getElem?_zip_eq_some] at e
    have hj : j < ts.length := by have := (List.getElem?_eq_some_iff.mp e.1).1; omega
    have et : ts[j]? = some ts[j] := List.getElem?_eq_getElem hj
    have eg : ts.getD j 0 = ts[j] := by simp [List.getD, et]
    refine ⟨?_, .inl ?_⟩
    · show its[j]? = some (Value.ref (ts.getD j 0))
      rw [← Array.getElem?_toList, q1, List.getElem?_map, et, eg]; rfl
    · show sh.heap.IsTuple (ts.getD j 0) _
      rw [eg]
      exact q8 j _ _ _ et e.1 e.2
  have have_ : PairsHave (mixKind X.prog X.w) prs.length (PairRel prs) kvs := by
    refine ⟨by rw [lk2, lp], fun i key v e => ?_⟩
    have e : prs[i]? = some (key, v) := e
    simp only [prs, List.getElem?_zip_eq_some] at e
    have hi : i < kk.length := by have := (List.getElem?_eq_some_iff.mp e.1).1; omega
    have ek' : kk[i]? = some kk[i] := List.getElem?_eq_getElem hi
    refine ⟨kk[i], by simp only [kvs, List.getElem?_zip_eq_some]; exact ⟨ek', e.2⟩, ?_⟩
    have : ∀ {kk : List Key} {us : List Value}, Paired (fun k u => keyIs k u = true) kk us → ∀ (i : Nat) (k : Key) (u : Value), kk[i]? = some k → us[i]? = some u → keyIs k u = true := by
      intro kk us hp
      induction hp with
      | nil => intro i k u h; simp at h
      | cons h _ ih =>
        intro i k u h1 h2
        cases i with
        | zero => simp only [List.getElem?_cons_zero, Option.some.injEq] at h1 h2; subst h1 h2; exact h
        | succ i => simp only [List.getElem?_cons_succ] at h1 h2; exact ih i k u h1 h2
    exact this q5 i _ _ ek' e.1
  refine PySem.call_dict_pairs (knd := mixKind X.prog X.w) (PairArg.tuple a its (fun j => ts.getD j 0) prs) hc ⟨⟨o, n, I.kIn _ _ lk, oc, od, dt⟩, items⟩ have_ (by rw [lp, ← hl]; exact sz) fun h' tk hd keep => ?_
  have em : merged [] kvs = kvs := by
    rw [merged_new]
    · rfl
    · simp only [List.nil_append, kvs]
      rw [List.map_fst_zip (by omega)]
      exact hn
  rw [em] at hd
  have hnone : H sh.heap.objs.size = none := I.hok.fresh (Nat.le_refl _)
  have lz : kk.length = zs.length := by rw [q7.length]; omega
  have ob : ObjOk X.prog X.w (upd H sh.heap.objs.size (.dK (kk.zip zs))) h' sh.heap.objs.size (.dK (kk.zip zs)) :=
    ⟨by rw [List.length_zip, ← lz, Nat.min_self, ← hl]; exact sz, beq_eq_false_iff_ne.mpr (Nat.ne_of_gt I.big), kvs, kv_zip q7, hd⟩
  refine ⟨.ref sh.heap.objs.size, _, I.laid (t' := tk) (fun b o e => keep b o (by simp) e) (Nat.le_refl _) ob, rfl, ?_⟩
  have hh : runs (wd X) W σ' μ H (RF (wd X) H) Q (.ok (.dct ks vs) s) := h
  exact hh μ _ _ (ex_new hnone) (hs.new hnone) (nw_new hs hnone hnone rfl ⟨zs, ⟨kk, ek, upd_same⟩, by rw [keysD_len ek]; exact lz, q6.mono (ex_new (Fr := Fn0) hnone)⟩)
/-- {} whose keys shall be tuples -/
def dtt0E : E := fun _ s => .ok (.dtt [] []) s
theorem q_dtt0 {X : Cx} {W : WX} {pos : Pos} : PE X (.Dict [] [] pos) (liftF (wd X) W dtt0E) := pe_imp pe_dnewT fun σ H Q ⟨Fr, μ, ρ, s, hρ, hs, hh⟩ p hp => by
  have hh : runs (wd X) W σ μ H (RF (wd X) H) Q (.ok (.dtt [] []) s) := hh
  exact hh μ _ _ (ex_new hp) (hs.new hp) (nw_new hs hp hp rfl ⟨[], ⟨[], rfl, upd_same⟩, rfl, by simp only [RVs]⟩)
end Fv

namespace Fv
open PySem PySem.Spec PyProof.Rows L2
/-! ### dict comprehensions of one clause -/
def dctP : D → Option (List D × List D) | .dct ks vs => some (ks, vs) | _ => none
def dcL (keep : S → Bool) (t : Tg) (c : T) (ke ve : E) (ρ : En) : List D → List D → List D → S → R (List D × List D)
  | [], ks, vs, s => if keep s then .ok (ks, vs) s else .bad
  | d :: ds, ks, vs, s => if keep s then match asg t d ρ with
    | none => .bad
    | some ρ1 => (c ρ1 s).noerr.bind fun b s => if b then (ke ρ1 s).noerr.bind fun y s => (ve ρ1 s).noerr.bind fun z s => match (putO (.dct ks vs) y z).bind dctP with
        | some p => dcL keep t c ke ve ρ ds p.1 p.2 s
        | none => .bad
      else dcL keep t c ke ve ρ ds ks vs s
    else .bad
def dcE (it : Is) (vs : List Nat) (t : Tg) (c : T) (ke ve : E) : E := fun ρ s => (it ρ s).bind fun J s => (dcL J.keep t c ke ve (wipeD ρ vs) J.items [] [] s).bind fun p s => .ok (.dct p.1 p.2) s
theorem putD_sound {g : Wd} {μ : M} {H : Hp} {p : Addr} {ks vs : List D} {k v : D} {q : List D × List D} {kv vv : V} (c : Ce g μ H p (.dct ks vs)) (hz : ¬ μ.z p) (rk : RV g μ H k kv) (rv : RV g μ H v vv) (e : (putO (.dct ks vs) k v).bind dctP = some q) :
    ∃ kvs x, kv = kV x ∧ H p = some (.dK kvs) ∧ kvs.length < sizeLine ∧ Ce g μ (upd H p (.dK (putK kvs x vv))) p (.dct q.1 q.2) := by
  simp only [putO, Option.bind_eq_some_iff] at e
  obtain ⟨d', ⟨kk, e1, x, e2, e3⟩, e4⟩ := e
  split at e3
  case isFalse => cases e3
  rename_i hl
  cases e3
  simp only [dctP, Option.some.injEq] at e4
  subst e4
  obtain ⟨ys, ⟨kk', e4, hp⟩, l, rr⟩ := c
  rw [e1] at e4; cases e4
  have lk := keysD_len e1
  obtain ⟨zs, q1, q2, q3⟩ := putL_sound (x := x) rr rv (by rw [← lk]; exact l)
  have xo : ∀ ho, Ex (fun q => q = p) μ H μ (upd H p ho) := fun ho => ex_own hz rfl hp (fun _ z => nomatch z) fun _ _ z => nomatch z
  refine ⟨kk.zip ys, x, rv_key rk e2, hp, by rw [List.length_zip, ← lk, ← l]; simpa using hl, zs, ⟨_, ?_, by rw [q1]; exact upd_same⟩, ?_, q2.mono (xo _)⟩
  · simp only [putKD]; split
    · exact e1
    · exact keysD_app e1 e2
  · simp only [putKD]
    rw [← q3]
    split <;> simp [lk]
section
variable {W : WX}
theorem dc_sound {g : Wd} {own : List (Str × Nat)} {it : Is} {tt : Tg} {tc : T} {mk mv : E} {σ : L2.St} {H : Hp} {Q : VK} (hv : tt.within (own.map (·.2)) = true) (h : liftF g W (dcE it (own.map (·.2)) tt tc mk mv) σ H Q) :
    tDc (liftI g W Fn0 it) (gOf g.K tt) (liftT g (fun _ _ _ _ => False) tc) (liftE g (fun _ _ _ _ => False) mk) (liftE g (fun _ _ _ _ => False) mv) (own.map (·.2)) σ H Q := by
  obtain ⟨F0, μ, ρ, s, he, hs, h⟩ := h
  exact ⟨F0, μ, ρ, s, he, hs, runs_bind h fun J0 s1 μ1 H1 J e1 x1 hs1 r1 h1 => by
    intro A hA
    have ns : ∀ {kk : List (Key × V)} (ys : List V), HO.dK kk ≠ .tup ys := fun ys z => nomatch z
    have nf : ∀ {kk : List (Key × V)} (o : Obj) (u : HO), HO.dK kk ≠ .frz o u := fun o u z => nomatch z
    have x0 : Ex Fn0 μ1 H1 μ1 (upd H1 A (.dK [])) := ex_new hA
    have hs0 := hs1.new (ho := .dK []) hA
    let Fin : List D → List D → List D → S → Prop := fun ks vs ds s' => runs g W σ μ1 H1 (RF g H) Q ((dcL J0.keep tt tc mk mv (wipeD ρ (own.map (·.2))) ds ks vs s').bind fun p s => .ok (.dct p.1 p.2) s)
    let In : List D → Hp → Prop := fun ds H2 => ∃ μ' s' ks vs, Ex (fun q => q = A) μ1 (upd H1 A (.dK [])) μ' H2 ∧ Ex Fn0 μ1 H1 μ' H2 ∧ Rs g μ' H2 s' ∧ A ∉ μ'.m ∧ ¬ μ'.z A ∧ Ce g μ' H2 A (.dct ks vs) ∧ Fin ks vs ds s'
    refine ⟨fun i m H2 => m = J0.items.length - i ∧ In (J0.items.drop i) H2, ⟨_, rfl, μ1, s1, [], [], Ex.refl, x0, hs0, hs1.nmem hA, hs1.nz hA, ⟨[], ⟨[], rfl, upd_same⟩, rfl, by simp only [RVs]⟩, h1⟩, ?_⟩
    rintro i m H2 ⟨rfl, μ2, s2, ks, vs0, x2, x2', hs2, hm2, hz2, hA2, h2⟩
    by_cases hlt : i < J0.items.length
    · have ed : J0.items[i]? = some J0.items[i] := List.getElem?_eq_getElem hlt
      rw [drop_cons ed] at h2
      simp only [Fin, dcL] at h2
      split at h2
      · rename_i hk
        obtain ⟨go, yl⟩ := (r1 μ2 H2 s2 x2' hs2 hk i).1 _ ed
        refine .inr ⟨go, In (J0.items.drop (i + 1)), fun H' n => ⟨_, by omega, rfl, n⟩, fun x H3 y => ?_⟩
        obtain ⟨μ3, x3, hs3, r3⟩ := yl x H3 y
        have keepA : ∀ {μ' : M} {H' : Hp}, Ex Fn0 μ2 H2 μ' H' → A ∉ μ'.m ∧ ¬ μ'.z A ∧ Ce g μ' H' A (.dct ks vs0) := fun {μ' H'} x => by
          obtain ⟨u, eu, _⟩ := hA2.there
          exact ⟨x.nm eu hm2, fun q => (x.zn A q).elim hz2 fun q => q.elim id (fun q => by rw [eu] at q; cases q), hA2.mono x fun u e => x.oth A u e hm2 (.inr id)⟩
        split at h2
        · exact h2.elim
        · rename_i ρ3 q
          obtain ⟨vs, k1, k2⟩ := asg_sound r3 q
          have hren := wipe_ren (he.mono (x1.trans (x2'.trans x3))) (own.map (·.2))
          refine k1 (wipe σ (own.map (·.2))) _ ?_
          refine ⟨by rw [wipe_sl hv, wipe_wipe], F0, μ3, ρ3, s2, k2 _ _ hren, hs3, ?_⟩
          cases qc : tc ρ3 s2 with
          | err c ns vs s => rw [qc] at h2; exact h2.elim
          | bad => rw [qc] at h2; exact h2.elim
          | ok k s4 =>
            rw [qc] at h2
            intro μ4 H4 b x4 hs4 r4
            obtain rfl : k = b := r4
            cases k with
            | false =>
              have kA := keepA (x3.trans x4)
              exact ⟨μ4, s4, ks, vs0, x2.trans (x3.trans x4).s, x2'.trans (x3.trans x4), hs4, kA.1, kA.2.1, kA.2.2, h2⟩
            | true =>
              refine ⟨F0, μ4, ρ3, s4, (k2 _ _ hren).mono x4, hs4, ?_⟩
              cases qe : mk ρ3 s4 with
              | err c ns vs s => simp only [R.noerr, R.bind, if_true, qe] at h2; exact h2.elim
              | bad => simp only [R.noerr, R.bind, if_true, qe] at h2; exact h2.elim
              | ok d s5 =>
                simp only [R.noerr, R.bind, if_true, qe] at h2
                intro μ5 H5 z x5 hs5 r5
                refine ⟨F0, μ5, ρ3, s5, ((k2 _ _ hren).mono x4).mono x5, hs5, ?_⟩
                cases qv : mv ρ3 s5 with
                | err c ns vs s => simp only [qv] at h2; exact h2.elim
                | bad => simp only [qv] at h2; exact h2.elim
                | ok d6 s6 =>
                  simp only [qv] at h2
                  intro μ6 H6 z6 x6 hs6 r6
                  cases ep : (putO (.dct ks vs0) d d6).bind dctP with
                  | none => simp only [ep] at h2; exact h2.elim
                  | some pq =>
                    simp only [ep] at h2
                    have x36 := ((x3.trans x4).trans x5).trans x6
                    obtain ⟨a1, a2, a3⟩ := keepA x36
                    obtain ⟨kvs, kx, ek, hA6, hl, c6⟩ := putD_sound a3 a2 (r5.mono x6) r6 ep
                    have xp : Ex (fun q => q = A) μ6 H6 μ6 (upd H6 A (.dK (putK kvs kx z6))) := ex_own a2 rfl hA6 ns nf
                    have xq : Ex Fn0 μ1 H1 μ6 (upd H6 A (.dK (putK kvs kx z6))) := ex_again (x2'.trans x36) hA hA6 ns nf
                    exact ⟨kvs, kx, ek, hA6, hl, μ6, s6, pq.1, pq.2, (x2.trans x36.s).trans xp, xq, hs6.own a1 a2 hA6 ns nf, a1, a2, c6, h2⟩
      · exact h2.elim
    · rw [List.drop_eq_nil_of_le (by omega)] at h2
      simp only [Fin, dcL] at h2
      split at h2
      · rename_i hk
        exact .inl ⟨(r1 μ2 H2 s2 x2' hs2 hk i).2 (by omega), h2 μ2 H2 _ x2' hs2 (by
          unfold RF
          rw [if_pos (show (D.dct ks vs0).heavy = true from rfl)]
          exact ⟨A, rfl, x1.trk A hA, hm2, hz2, hA2⟩)⟩
      · exact h2.elim⟩
end
theorem q_dc {X : Cx} {W : WX} {kx vx tg iter : Expr} {ifs : List Expr} {scope : Scope} {own : List (Str × Nat)} {it : Is} {tt : Tg} {tc : T} {mk mv : E} {pos : Pos} (hc : X.calm = true) (hN : X.N.Nodup) (hi : QI X W Fn0 tg iter it) (ok : BlkOk X.N X.env.scope scope own) (hv : tt.within (own.map (·.2)) = true)
    (hg : ∀ (s : Shared) (H : Hp) (C : Addr) (cl : List (Str × Addr)) (fp : List Addr), PG (X.blk s H scope (compEnvC scope cl C X.env) fp) tg (gOf X.K tt))
    (ht : ∀ (s : Shared) (H : Hp) (C : Addr) (cl : List (Str × Addr)) (fp : List Addr), PTs (X.blk s H scope (compEnvC scope cl C X.env) fp) ifs (liftT (wd X) (fun _ _ _ _ => False) tc))
    (hk : ∀ (s : Shared) (H : Hp) (C : Addr) (cl : List (Str × Addr)) (fp : List Addr), PE (X.blk s H scope (compEnvC scope cl C X.env) fp) kx (liftE (wd X) (fun _ _ _ _ => False) mk))
    (he : ∀ (s : Shared) (H : Hp) (C : Addr) (cl : List (Str × Addr)) (fp : List Addr), PE (X.blk s H scope (compEnvC scope cl C X.env) fp) vx (liftE (wd X) (fun _ _ _ _ => False) mv)) (hs : ∀ x, foldedSetIterable iter X.env x = pure x := by intro _; rfl) :
    PE X (.DictComp kx vx [⟨tg, iter, ifs, 0⟩] scope pos) (liftF (wd X) W (dcE it (own.map (·.2)) tt tc mk mv)) :=
  pe_imp (pe_dc hc hN hi ok hg ht hk he hs) fun σ H Q h => dc_sound hv h
end Fv

namespace Fv
open PySem PySem.Spec PyProof.Rows L2
/-! ### set comprehensions of two clauses: the turns -/
section
variable {prog : Program} {w : World} {A : Around} {R : Result → Shared → Prop} {s : Shared} {env : PySem.Env} {elt t0 i0 t1 i1 : Expr} {ifs0 ifs1 : List Expr} {scope : Scope} {pos : Pos} {it acc : Value}
abbrev sc2 (elt t0 i0 t1 i1 : Expr) (ifs0 ifs1 : List Expr) (scope : Scope) (pos : Pos) : Expr := .SetComp elt [⟨t0, i0, ifs0, 0⟩, ⟨t1, i1, ifs1, 0⟩] scope pos
abbrev testsC (ifs : List Expr) (env : PySem.Env) : Sem Bool := forIn ifs true fun c r => if r = true then do
    let ok ← PySem.isTrue c env (eval c env)
    pure (ForInStep.yield ok)
  else pure (ForInStep.yield r)
theorem turnS2_out : compTurn (sc2 elt t0 i0 t1 i1 ifs0 ifs1 scope pos) 0 it acc env = (do
    standAt i0.pos
    let r ← pyNext it
    match r with
    | none => pure (Fin.done Flow.next)
    | some v => do
      letOwnedTupleGo t0 it v
      assign t0 env v
      let ok ← testsC ifs0 env
      if ok = true then do
        let x ← eval i1 env
        standAt i1.pos
        let x ← foldedSetIterable i1 env x
        let it1 ← holding [x] (pyIter x)
        let _ ← runOwn (Code.compStart (sc2 elt t0 i0 t1 i1 ifs0 ifs1 scope pos) 1 it1 acc env) env
        again (Code.compLoop (sc2 elt t0 i0 t1 i1 ifs0 ifs1 scope pos) 0 it acc env)
      else again (Code.compLoop (sc2 elt t0 i0 t1 i1 ifs0 ifs1 scope pos) 0 it acc env)) := rfl
theorem turnS2_in : compTurn (sc2 elt t0 i0 t1 i1 ifs0 ifs1 scope pos) 1 it acc env = (do
    standAt i1.pos
    let r ← pyNext it
    match r with
    | none => pure (Fin.done Flow.next)
    | some v => do
      letOwnedTupleGo t1 it v
      assign t1 env v
      let ok ← testsC ifs1 env
      if ok = true then do
        let _ ← (do
          let v ← eval elt env
          standAt elt.pos
          let _ ← call (Value.builtin "set.add") [acc, v]
          pure ())
        again (Code.compLoop (sc2 elt t0 i0 t1 i1 ifs0 ifs1 scope pos) 1 it acc env)
      else again (Code.compLoop (sc2 elt t0 i0 t1 i1 ifs0 ifs1 scope pos) 1 it acc env)) := rfl
abbrev nb (prog : Program) (w : World) (A : Around) (env : PySem.Env) (R : Result → Shared → Prop) : Value → Shared → Prop := notedBy (model prog w) A env fun e s' => R (Except.error e) s'
theorem loopS2_out (hs : ∀ x, foldedSetIterable i1 env x = pure x) (I : Nat → Shared → Prop)
    (step : ∀ n s, I n s → wpAny (model prog w) A (pyNext it) (fun r s₁ => match r with
      | none => R (Except.ok Flow.next) s₁
      | some v => wpAny (model prog w) A (letOwnedTupleGo t0 it v) (fun _ s₁' => wpAny (model prog w) A (assign t0 env v) (fun _ s₂ => wpAny (model prog w) A (testsC ifs0 env) (fun ok s₃ =>
        if ok = true then wpAny (model prog w) A (eval i1 env) (fun x s₄ => wpAny (model prog w) A (pyIter x) (fun it1 s₅ =>
          codeAny (model prog w) A (Code.compStart (sc2 elt t0 i0 t1 i1 ifs0 ifs1 scope pos) 1 it1 acc env) (fun r s' => match r with
            | Except.ok _ => ∃ m, m < n ∧ I m s'
            | Except.error _ => False) s₅) (nb prog w A env R) s₄) (nb prog w A env R) s₃
        else ∃ m, m < n ∧ I m s₃) (nb prog w A env R) s₂) (nb prog w A env R) s₁') (nb prog w A env R) s₁) (nb prog w A env R) s) :
    ∀ n, I n s → codeAny (model prog w) A (Code.compLoop (sc2 elt t0 i0 t1 i1 ifs0 ifs1 scope pos) 0 it acc env) R s := by
  refine fun n h => codeAny_loop rfl I (fun n s hn => ?_) n h
  show wpAny (model prog w) A ((compTurn (sc2 elt t0 i0 t1 i1 ifs0 ifs1 scope pos) 0 it acc env).onRaise _) _ _ _
  refine wpAny_noted ?_
  rw [turnS2_out]
  refine wpAny_bind (wpAny_standAt (wpAny_bind (wpAny_mono (step n s hn) (fun r s1 h1 => ?_) fun _ _ h => h)))
  cases r with
  | none => exact wpAny_pure h1
  | some v =>
    refine wpAny_bind (wpAny_mono h1 (fun _ s2 h2 => ?_) fun _ _ h => h)
    refine wpAny_bind (wpAny_mono h2 (fun _ s3 h3 => ?_) fun _ _ h => h)
    refine wpAny_bind (wpAny_mono h3 (fun ok s4 h4 => ?_) fun _ _ h => h)
    cases ok with
    | false => exact wpAny_pure ⟨rfl, h4⟩
    | true =>
      have h4 := h4
      simp only [if_true] at h4 ⊢
      refine wpAny_bind (wpAny_mono h4 (fun x s5 h5 => ?_) fun _ _ h => h)
      refine wpAny_bind (wpAny_standAt (wpAny_bind (wpAny_of_eq (hs x) ?_)))
      refine wpAny_bind (wpAny_holding (wpAny_mono h5 (fun it1 s6 h6 => ?_) fun _ _ h => h))
      refine wpAny_bind (wpAny_runOwn (h := none) ?_ (by decide))
      rw [Around.mark_none]
      refine codeAny_mono h6 fun r s' h => ?_
      cases r with
      | error e => exact h.elim
      | ok a => exact wpAny_pure ⟨rfl, h⟩
theorem loopS2_in (I : Nat → Shared → Prop)
    (step : ∀ n s, I n s → wpAny (model prog w) A (pyNext it) (fun r s₁ => match r with
      | none => R (Except.ok Flow.next) s₁
      | some v => wpAny (model prog w) A (letOwnedTupleGo t1 it v) (fun _ s₁' => wpAny (model prog w) A (assign t1 env v) (fun _ s₂ => wpAny (model prog w) A (testsC ifs1 env) (fun ok s₃ =>
        if ok = true then wpAny (model prog w) A (eval elt env) (fun x s₄ => wpAny (model prog w) A (call (Value.builtin "set.add") [acc, x]) (fun _ s₅ => ∃ m, m < n ∧ I m s₅) (nb prog w A env R) s₄) (nb prog w A env R) s₃
        else ∃ m, m < n ∧ I m s₃) (nb prog w A env R) s₂) (nb prog w A env R) s₁') (nb prog w A env R) s₁) (nb prog w A env R) s) :
    ∀ n, I n s → codeAny (model prog w) A (Code.compLoop (sc2 elt t0 i0 t1 i1 ifs0 ifs1 scope pos) 1 it acc env) R s := by
  refine fun n h => codeAny_loop rfl I (fun n s hn => ?_) n h
  show wpAny (model prog w) A ((compTurn (sc2 elt t0 i0 t1 i1 ifs0 ifs1 scope pos) 1 it acc env).onRaise _) _ _ _
  refine wpAny_noted ?_
  rw [turnS2_in]
  refine wpAny_bind (wpAny_standAt (wpAny_bind (wpAny_mono (step n s hn) (fun r s1 h1 => ?_) fun _ _ h => h)))
  cases r with
  | none => exact wpAny_pure h1
  | some v =>
    refine wpAny_bind (wpAny_mono h1 (fun _ s2 h2 => ?_) fun _ _ h => h)
    refine wpAny_bind (wpAny_mono h2 (fun _ s3 h3 => ?_) fun _ _ h => h)
    refine wpAny_bind (wpAny_mono h3 (fun ok s4 h4 => ?_) fun _ _ h => h)
    cases ok with
    | false => exact wpAny_pure ⟨rfl, h4⟩
    | true =>
      have h4 := h4
      simp only [if_true] at h4 ⊢
      refine wpAny_bind (wpAny_bind (wpAny_mono h4 (fun x s5 h5 => ?_) fun _ _ h => h))
      refine wpAny_bind (wpAny_standAt (wpAny_bind (wpAny_mono h5 (fun _ s6 h6 => ?_) fun _ _ h => h)))
      exact wpAny_pure (wpAny_pure ⟨rfl, h6⟩)
theorem startS2_in (h1 : codeAny (model prog w) A (Code.compLoop (sc2 elt t0 i0 t1 i1 ifs0 ifs1 scope pos) 1 it acc env) R s)
    (h2 : wpAny (model prog w) A (pyIter it) (fun it' s' => codeAny (model prog w) A (Code.compLoop (sc2 elt t0 i0 t1 i1 ifs0 ifs1 scope pos) 1 it' acc env) R s') (nb prog w A env R) s) :
    codeAny (model prog w) A (Code.compStart (sc2 elt t0 i0 t1 i1 ifs0 ifs1 scope pos) 1 it acc env) R s := by
  refine codeAny_of_tree ?_
  show wpAny (model prog w) A ((compStart (sc2 elt t0 i0 t1 i1 ifs0 ifs1 scope pos) 1 it acc env).onRaise _) _ _ _
  refine wpAny_notedAt ?_
  show wpAny _ _ (do
    let st ← ask
    if st.params.followText "comprehension-iter-twice" = true then again (Code.compLoop (sc2 elt t0 i0 t1 i1 ifs0 ifs1 scope pos) 1 it acc env)
    else do
      rule "comprehension.iter-twice"
      standAt i1.pos
      let it' ← pyIter it
      again (Code.compLoop (sc2 elt t0 i0 t1 i1 ifs0 ifs1 scope pos) 1 it' acc env)) _ _ _
  refine wpAny_bind (wpAny_askSetting ?_)
  refine wpAny_ite ?_
  split
  · exact wpAny_pure ⟨rfl, h1⟩
  refine wpAny_bind (wpAny_rule (wpAny_bind (wpAny_standAt (wpAny_bind (wpAny_mono h2 (fun it' s' h => ?_) fun _ _ h => h)))))
  exact wpAny_pure ⟨rfl, h⟩
end
end Fv

namespace Fv
open PySem PySem.Spec PyProof.Rows L2
/-! ### set comprehensions of keys, of two clauses -/
/-- the reading -/
def tSk2 (w : World) (wi : TI) (g : TG) (tt : TT) (wi1 : TI) (g1 : TG) (tt1 : TT) (te : TE) (own vs1 : List Nat) : TE := fun σ H Q => wi σ H fun J H1 => ∀ B, H1 B = none → ∃ Sx : Nat → Nat → Hp → Prop, (∃ m, Sx 0 m (upd H1 B (SetH w B []))) ∧
  ∀ i m H, Sx i m H → (J.stop i H ∧ Q (.ref B) H) ∨ (J.go i H ∧ ∃ Go : Hp → Prop, (∀ H', Go H' → ∃ m', m' < m ∧ Sx (i + 1) m' H') ∧
    ∀ x H', J.yld i H x H' → g x (wipe σ own) H' fun σ2 H2 => wipe σ2 own = wipe σ own ∧ tt σ2 H2 fun b H3 =>
      if b = true then wi1 σ2 H3 fun J1 H4 => ∃ S1 : Nat → Nat → Hp → Prop, (∃ m, S1 0 m H4) ∧
        ∀ j k H, S1 j k H → (J1.stop j H ∧ Go H) ∨ (J1.go j H ∧ ∃ Go1 : Hp → Prop, (∀ H', Go1 H' → ∃ k', k' < k ∧ S1 (j + 1) k' H') ∧
          ∀ x H', J1.yld j H x H' → g1 x (wipe σ2 vs1) H' fun σ3 H5 => wipe σ3 vs1 = wipe σ2 vs1 ∧ tt1 σ3 H5 fun b H6 =>
            if b = true then te σ3 H6 fun y H7 => ∃ (k : Key) (kk : List Key), y = kV k ∧ H7 B = some (SetH w B kk) ∧ kk.length + 1 < scanBound ∧ Go1 (upd H7 B (SetH w B (addK kk k))) else Go1 H6)
      else Go H3)
theorem wipe_get {τ : L2.St} {us : List Nat} {j : Nat} : (wipe τ us)[j]? = if j ∈ us then (if j < τ.length then some none else none) else τ[j]? := by
  induction us with
  | nil => simp [wipe]
  | cons v us ih =>
    unfold wipe
    rw [List.getElem?_set, ih]
    by_cases hv : v = j
    · subst hv
      simp [wipe_length]
    · have hv' : ¬ j = v := fun z => hv z.symm
      simp [hv, hv']
section
variable {X : Cx}
theorem pe_sk2 {elt tg iter tg1 iter1 : Expr} {ifs ifs1 : List Expr} {scope : Scope} {own : List (PySem.Str × Nat)} {pos : Pos} {vs1 : List Nat} {wi wi1 : TI} {g g1 : TG} {tt tt1 : TT} {te : TE} (hc : X.calm = true) (hN : X.N.Nodup) (hi : PI X tg iter wi) (ok : BlkOk X.N X.env.scope scope own)
    (hg : ∀ (s : Shared) (H : Hp) (C : Addr) (cl : List (PySem.Str × Addr)) (fp : List Addr), PG (X.blk s H scope (compEnvC scope cl C X.env) fp) tg g)
    (ht : ∀ (s : Shared) (H : Hp) (C : Addr) (cl : List (PySem.Str × Addr)) (fp : List Addr), PTs (X.blk s H scope (compEnvC scope cl C X.env) fp) ifs tt)
    (hv1 : ∀ i ∈ vs1, i ∈ own.map (·.2))
    (hi1 : ∀ (s : Shared) (H : Hp) (C : Addr) (cl : List (PySem.Str × Addr)) (fp : List Addr), PI (X.blk s H scope (compEnvC scope cl C X.env) fp) tg1 iter1 wi1)
    (hg1 : ∀ (s : Shared) (H : Hp) (C : Addr) (cl : List (PySem.Str × Addr)) (fp : List Addr), PG (X.blk s H scope (compEnvC scope cl C X.env) fp) tg1 g1)
    (ht1 : ∀ (s : Shared) (H : Hp) (C : Addr) (cl : List (PySem.Str × Addr)) (fp : List Addr), PTs (X.blk s H scope (compEnvC scope cl C X.env) fp) ifs1 tt1)
    (he : ∀ (s : Shared) (H : Hp) (C : Addr) (cl : List (PySem.Str × Addr)) (fp : List Addr), PE (X.blk s H scope (compEnvC scope cl C X.env) fp) elt te) (hs : ∀ x, foldedSetIterable iter X.env x = pure x := by intro _; rfl) (hs1 : ∀ env x, foldedSetIterable iter1 env x = pure x := by intro _ _; rfl) :
    PE X (.SetComp elt [⟨tg, iter, ifs, 0⟩, ⟨tg1, iter1, ifs1, 0⟩] scope pos) (tSk2 X.w wi g tt wi1 g1 tt1 te (own.map (·.2)) vs1) := by
  refine ⟨fun pins s σ H Q I h => ?_⟩
  rw [PpSet.eval_SetComp]
  have clo : ∀ y ∈ scope.names, y.2 = .free → ∃ c, X.env.cells.lookup y.1 = some c := fun y hy e => (ok.free y hy e).elim (fun k => I.ok.has _ (.inl k)) fun k => I.ok.has _ (.inr k)
  refine wpAny_comprehension_free (use := none) rfl hs (closure_ok clo) ok.kind (fun y hy e => by rw [ok.uniq y hy, e]) (thn (hi.run pins s σ H _ I h) fun xv s1 hx => thn hx fun itv s2 ⟨it, lp, tn, J, H2, ei, I2, T, st2, f2, q⟩ => ?_)
  subst ei
  refine PpSet.newSet_ok (newEnv_comp ?_)
  generalize eB : s2.heap.objs.size = B
  have nB : H2 B = none := I2.hok.fresh (Nat.le_of_eq eB)
  obtain ⟨Sx, ⟨m0, w0⟩, turn⟩ := q B nB
  generalize e3 : ({ s2 with heap := s2.heap.push (fresh X.w) } : Shared) = u3
  have J3 : Inv X pins σ (upd H2 B (SetH X.w B [])) u3 := by
    subst e3
    exact I2.laid (t' := s2.toks) (fun b o e => Heap.get?_push_of_some _ e) (Nat.le_of_eq eB) (by subst eB; exact setH_ok (fresh_at (Heap.get?_push_size _ rfl)))
  have hp3 : u3.heap = s2.heap.push (fresh X.w) := by rw [← e3]
  have low : ∀ b ∈ lp, b < s2.heap.objs.size := fun b hb => let ⟨o, e, _⟩ := T.obj _ _ st2 b hb; Heap.lt_size e
  have f3 : ∀ b ∈ lp, FpOk X pins (upd H2 B (SetH X.w B [])) b ∧ b < u3.heap.objs.size := fun b hb => ⟨⟨by
    rw [upd_ne (by rw [← eB]; exact Nat.ne_of_lt (low b hb))]
    exact (f2 b hb).1, (f2 b hb).2⟩, by rw [hp3, Heap.size_push]; exact Nat.lt_succ_of_lt (low b hb)⟩
  have st3 : tn 0 u3.heap := T.keep _ _ _ st2 fun b _ o e => by rw [hp3]; exact Heap.get?_push_of_some _ e
  have J4 := block_start J3 ok hN f3
  generalize eG : upd H2 B (SetH X.w B []) = G3 at J3 J4 w0 f3
  generalize eC : compEnvC scope (cellsFrom (u3.heap.objs.size + 1) scope.names (cloFrom X.env.cells scope.names [])) u3.heap.objs.size X.env = ce at J4
  have pg := hg u3 G3 u3.heap.objs.size (cellsFrom (u3.heap.objs.size + 1) scope.names (cloFrom X.env.cells scope.names [])) lp
  have pt := ht u3 G3 u3.heap.objs.size (cellsFrom (u3.heap.objs.size + 1) scope.names (cloFrom X.env.cells scope.names [])) lp
  have pi1 := hi1 u3 G3 u3.heap.objs.size (cellsFrom (u3.heap.objs.size + 1) scope.names (cloFrom X.env.cells scope.names [])) lp
  have pg1 := hg1 u3 G3 u3.heap.objs.size (cellsFrom (u3.heap.objs.size + 1) scope.names (cloFrom X.env.cells scope.names [])) lp
  have pt1 := ht1 u3 G3 u3.heap.objs.size (cellsFrom (u3.heap.objs.size + 1) scope.names (cloFrom X.env.cells scope.names [])) lp
  have pe := he u3 G3 u3.heap.objs.size (cellsFrom (u3.heap.objs.size + 1) scope.names (cloFrom X.env.cells scope.names [])) lp
  rw [eC] at pg pt pi1 pg1 pt1 pe
  show codeAny _ _ (.compStart (sc2 elt tg iter tg1 iter1 ifs ifs1 scope pos) 0 (.ref it) (.ref B) (compEnvC scope (cellsFrom (u3.heap.objs.size + 1) scope.names (cloFrom X.env.cells scope.names [])) u3.heap.objs.size X.env)) (compPost (model X.prog X.w) X.A X.xe none (EP X pins σ Q) (.ref B) u3.heap.objs.size) { u3 with heap := pushCells (u3.heap.push { cls := .type "dict", data := .dict #[] }) scope.names }
  rw [eC]
  have cL : ce.locals = u3.heap.objs.size := by subst eC; rfl
  generalize e4 : ({ u3 with heap := pushCells (u3.heap.push { cls := .type "dict", data := .dict #[] }) scope.names } : Shared) = u4 at J4 ⊢
  have st4 : tn 0 u4.heap := T.keep _ _ _ st3 fun b _ o e => by rw [← e4]; exact pushCells_keeps _ _ _ _ (Heap.get?_push_of_some _ e)
  have lay : ∀ {σ' : L2.St} {H' : Hp} {s' : Shared}, Inv (X.blk u3 G3 scope ce lp) [] σ' H' s' → (∀ b ∈ lp, H' b = none) → ∀ b ∈ lp, FpOk (X.blk u3 G3 scope ce lp) [] H' b := fun {σ' H' s'} I' n b hb =>
    ⟨n b hb, (I'.ok.exf b hb).1, I'.ok.exfs b hb, .inl hb, fun x c e => (I'.ok.exf b hb).2 x c e, fun p hp => absurd (show p ∈ ([] : List (Addr × Obj)) ++ [] from hp) (by simp)⟩
  have loop : codeAny (model X.prog X.w) X.A (.compLoop (sc2 elt tg iter tg1 iter1 ifs ifs1 scope pos) 0 (.ref it) (.ref B) ce) (compPost (model X.prog X.w) X.A X.xe none (EP X pins σ Q) (.ref B) u3.heap.objs.size) u4 := by
    refine loopS2_out (hs1 _) (fun n s' => ∃ i H', Inv (X.blk u3 G3 scope ce lp) [] (wipe σ (own.map (·.2))) H' s' ∧ tn i s'.heap ∧ (∀ b ∈ lp, H' b = none) ∧ Sx i n H') ?_ m0 ⟨0, G3, J4, st4, fun b hb => (f3 b hb).1.1, w0⟩
    rintro n s5 ⟨i, H5, I5, st5, n5, w5⟩
    rcases turn i n H5 w5 with ⟨stop, qq⟩ | ⟨go, Go, less, step⟩
    · refine thnF (T.done (X.blk u3 G3 scope ce lp) rfl rfl rfl hc i [] s5 _ H5 (fun _ _ => False) I5 (lay I5 n5) st5 stop) fun r s6 ⟨er, I6⟩ => ?_
      subst er
      have I7 : Inv X pins σ H5 s6 := J3.call' (ch := lp) I6.os I6.base I6.hok I6.bare fun b hb => let z := (f3 b hb).1.2; ⟨z.2.2.1, z.1, z.2.2.2.1, z.2.2.2.2⟩
      have nC : H5 u3.heap.objs.size = none := by rw [← cL]; exact I6.free
      obtain ⟨m, hn, _⟩ := I6.loc
      have hn : s6.heap.Ns ce.locals m := hn
      rw [cL] at hn
      obtain ⟨f0, f1, _, g3, g4, g5⟩ := J3.fpOk (Nat.le_refl _) nC
      refine ⟨m, hn, fun h'' sb => ?_⟩
      exact ⟨.ref B, H5, I7.turned (t' := s6.toks) (fun b o hb e => (sb.2 b hb).trans e) f0 f1 g3 g4 g5, rfl, qq⟩
    · refine thnF (T.item (X.blk u3 G3 scope ce lp) rfl rfl rfl hc i [] s5 _ H5 (fun _ _ => False) I5 (lay I5 n5) st5 go) fun r s6 ⟨u, er, h6⟩ => ?_
      subst er
      refine thnF h6 fun _ s7 ⟨x, H7, I7, r7, y7, st7, n7⟩ => ?_
      have I7' := I7.pinned (lay I7 n7) (T.obj _ _ st7)
      refine thnF (pg.run _ s7 _ H7 x u _ I7' r7 (step x H7 y7)) fun _ s8 ⟨σ8, H8, I8, hw8, q8⟩ => ?_
      refine thnF (pt.run _ s8 σ8 H8 _ I8 q8) fun b s9 ⟨H9, I9, q9⟩ => ?_
      have next : ∀ {s' : Shared} {H' : Hp} {σ' : L2.St}, Inv (X.blk u3 G3 scope ce lp) ([] ++ pinsAt lp s7.heap) σ' H' s' → Go H' → (wipe σ (own.map (·.2))).length = σ'.length → (∀ (j : Nat) (v : V), (wipe σ (own.map (·.2)))[j]? = some (some v) → σ'[j]? = some (some v)) →
          ∃ m, m < n ∧ ∃ i H', Inv (X.blk u3 G3 scope ce lp) [] (wipe σ (own.map (·.2))) H' s' ∧ tn i s'.heap ∧ (∀ b ∈ lp, H' b = none) ∧ Sx i m H' := fun {s' H' σ'} I' nx l1 l2 => by
        obtain ⟨m', hm, w'⟩ := less H' nx
        have keep : ∀ b ∈ lp, ∀ o, s7.heap.get? b = some o → s'.heap.get? b = some o ∧ H' b = none := fun b hb o e => let z := I'.pin (b, o) (List.mem_append_right _ (List.mem_append_right _ (mem_pinsAt hb e))); ⟨z.1, z.2.1⟩
        exact ⟨m', hm, i + 1, H', (I'.unpinned (pins := [])).weak l1 l2, T.keep _ _ _ st7 fun b hb o e => (keep b hb o e).1, fun b hb => let ⟨o, e, _⟩ := T.obj _ _ st7 b hb; (keep b hb o e).2, w'⟩
      have w8 : ∀ (j : Nat) (v : V), (wipe σ (own.map (·.2)))[j]? = some (some v) → σ8[j]? = some (some v) ∧ j ∉ vs1 := fun j v e => by
        rw [← hw8] at e
        refine ⟨(wipe_some e).1, fun hj => ?_⟩
        rw [wipe_get, if_pos (hv1 j hj)] at e
        split at e <;> cases e
      cases b with
      | false =>
        simp only [Bool.false_eq_true, if_false] at q9 ⊢
        exact next I9 q9 (by rw [← hw8, wipe_length]) fun j v e => (w8 j v e).1
      | true =>
        simp only [if_true] at q9 ⊢
        refine thnF (pi1.run _ s9 σ8 H9 _ I9 q9) fun v1 s10 h10 => thnF h10 fun itv1 s11 h11 => ?_
        obtain ⟨it1, lp1, tn1, J1, H11, ei1, I11, T1, st11, f11, S1, ⟨k0, w11⟩, turn1⟩ := h11
        subst ei1
        generalize eP : ([] ++ pinsAt lp s7.heap : List (Addr × Obj)) = pinsO at I11 f11 next
        have lay1 : ∀ {σ' : L2.St} {H' : Hp} {s' : Shared}, Inv (X.blk u3 G3 scope ce lp) pinsO σ' H' s' → (∀ b ∈ lp1, H' b = none) → ∀ b ∈ lp1, FpOk (X.blk u3 G3 scope ce lp) pinsO H' b := fun {σ' H' s'} I' nn b hb => ⟨nn b hb, (f11 b hb).2⟩
        have loop1 : codeAny (model X.prog X.w) X.A (.compLoop (sc2 elt tg iter tg1 iter1 ifs ifs1 scope pos) 1 (.ref it1) (.ref B) ce) (fun r s' => match r with
            | Except.ok _ => ∃ m, m < n ∧ ∃ i H', Inv (X.blk u3 G3 scope ce lp) [] (wipe σ (own.map (·.2))) H' s' ∧ tn i s'.heap ∧ (∀ b ∈ lp, H' b = none) ∧ Sx i m H'
            | Except.error _ => False) s11 := by
          refine loopS2_in (fun k s' => ∃ j H', Inv (X.blk u3 G3 scope ce lp) pinsO (wipe σ8 vs1) H' s' ∧ tn1 j s'.heap ∧ (∀ b ∈ lp1, H' b = none) ∧ S1 j k H') ?_ k0 ⟨0, H11, I11.weak (by rw [wipe_length]) (fun j v e => (wipe_some e).1), st11, fun b hb => (f11 b hb).1, w11⟩
          rintro k s12 ⟨j, H12, I12, st12, n12, w12⟩
          rcases turn1 j k H12 w12 with ⟨stop1, gg⟩ | ⟨go1, Go1, less1, step1⟩
          · refine thnF (T1.done (X.blk u3 G3 scope ce lp) rfl rfl rfl hc j pinsO s12 _ H12 (fun _ _ => False) I12 (lay1 I12 n12) st12 stop1) fun r s13 ⟨er, I13⟩ => ?_
            subst er
            exact next I13 gg (by rw [wipe_length, wipe_length, ← wipe_length σ8 (own.map (·.2)), hw8, wipe_length]) fun j v e => by
              obtain ⟨e1, e2⟩ := w8 j v e
              rw [wipe_get, if_neg e2]; exact e1
          · refine thnF (T1.item (X.blk u3 G3 scope ce lp) rfl rfl rfl hc j pinsO s12 _ H12 (fun _ _ => False) I12 (lay1 I12 n12) st12 go1) fun r s13 ⟨u, er, h13⟩ => ?_
            subst er
            refine thnF h13 fun _ s14 ⟨x, H14, I14, r14, y14, st14, n14⟩ => ?_
            have I14' := I14.pinned (lay1 I14 n14) (T1.obj _ _ st14)
            refine thnF (pg1.run _ s14 _ H14 x u _ I14' r14 (step1 x H14 y14)) fun _ s15 ⟨σ15, H15, I15, hw15, q15⟩ => ?_
            refine thnF (pt1.run _ s15 σ15 H15 _ I15 q15) fun b s16 ⟨H16, I16, q16⟩ => ?_
            have next1 : ∀ {s' : Shared} {H' : Hp}, Inv (X.blk u3 G3 scope ce lp) (pinsO ++ pinsAt lp1 s14.heap) σ15 H' s' → Go1 H' → ∃ m, m < k ∧ ∃ j H', Inv (X.blk u3 G3 scope ce lp) pinsO (wipe σ8 vs1) H' s' ∧ tn1 j s'.heap ∧ (∀ b ∈ lp1, H' b = none) ∧ S1 j m H' := fun {s' H'} I' nx => by
              obtain ⟨m', hm, w'⟩ := less1 H' nx
              have keep : ∀ b ∈ lp1, ∀ o, s14.heap.get? b = some o → s'.heap.get? b = some o ∧ H' b = none := fun b hb o e => let z := I'.pin (b, o) (List.mem_append_right _ (List.mem_append_right _ (mem_pinsAt hb e))); ⟨z.1, z.2.1⟩
              exact ⟨m', hm, j + 1, H', (I'.unpinned (pins := pinsO)).weak (by rw [← hw15, wipe_length]) (fun j v e => by rw [← hw15] at e; exact (wipe_some e).1), T1.keep _ _ _ st14 fun b hb o e => (keep b hb o e).1, fun b hb => let ⟨o, e, _⟩ := T1.obj _ _ st14 b hb; (keep b hb o e).2, w'⟩
            cases b with
            | false =>
              simp only [Bool.false_eq_true, if_false] at q16 ⊢
              exact next1 I16 q16
            | true =>
              simp only [if_true] at q16 ⊢
              refine thnF (pe.run _ s16 σ15 H16 _ I16 q16) fun z s17 ⟨yv, H17, I17, r17, kx, kk, ey, hB17, room, nx⟩ => ?_
              subst ey
              exact add_at (X := X.blk u3 G3 scope ce lp) I17 (kV_key r17) hB17 room fun s18 I18 => next1 I18 nx
        exact startS2_in loop1 (T1.self X.A 0 _ _ _ st11 loop1)
  exact PpSet.codeAny_compStart_set loop (T.self X.A 0 _ _ _ st4 loop)
end
end Fv

namespace Fv
open PySem PySem.Spec PyProof.Rows L2
/-! ### set comprehensions of two clauses, over trees -/
def sk2L (keep : S → Bool) (t : Tg) (c : T) (it1 : Is) (vs1 : List Nat) (t1 : Tg) (c1 : T) (e : E) (ρ : En) : List D → List Key → S → R (List Key)
  | [], acc, s => if keep s then .ok acc s else .bad
  | d :: ds, acc, s => if keep s then match asg t d ρ with
    | none => .bad
    | some ρ1 => (c ρ1 s).noerr.bind fun k s => if k then (it1 ρ1 s).noerr.bind fun J s => (skL J.keep t1 c1 e (wipeD ρ1 vs1) J.items acc s).bind fun acc s => sk2L keep t c it1 vs1 t1 c1 e ρ ds acc s
      else sk2L keep t c it1 vs1 t1 c1 e ρ ds acc s
    else .bad
def sk2E (it : Is) (vs : List Nat) (t : Tg) (c : T) (it1 : Is) (vs1 : List Nat) (t1 : Tg) (c1 : T) (e : E) : E := fun ρ s => (it ρ s).bind fun J s => (sk2L J.keep t c it1 vs1 t1 c1 e (wipeD ρ vs) J.items [] s).bind fun kk s => .ok (.set (kk.map kD)) s
theorem REn.nar {g : Wd} {Fr : Addr → Prop} {A : Addr} {μ : M} {H : Hp} {ρ : En} {σ : L2.St} (h : REn g Fr μ H ρ σ) (hA : H A = none) : REn g (fun p => Fr p ∧ p ≠ A) μ H ρ σ :=
  ⟨h.len, h.v, fun i d e => by
    obtain ⟨p, a, b, hm, hz, f⟩ := h.o i d e
    obtain ⟨u, eu, _⟩ := b.there
    exact ⟨p, a, b, hm, hz, f, fun z => by rw [z, hA] at eu; cases eu⟩, h.inj⟩
theorem REn.monoA {g : Wd} {Fr : Addr → Prop} {A : Addr} {μ μ' : M} {H H' : Hp} {ρ : En} {σ : L2.St} (x : Ex (fun q => q = A) μ H μ' H') (h : REn g Fr μ H ρ σ) (n : ∀ p, Fr p → p ≠ A) : REn g Fr μ' H' ρ σ :=
  ⟨h.len, fun i d e => let ⟨v, a, b⟩ := h.v i d e; ⟨v, a, b.mono x⟩, fun i d e => by
    obtain ⟨p, a, b, hm, hz, f⟩ := h.o i d e
    obtain ⟨u, eu, _⟩ := b.there
    have hp : ¬ p = A := n p f
    exact ⟨p, a, b.mono x (fun u e => x.oth p u e hm (.inr hp)), x.nm eu hm, (fun w => by
      rcases x.zn p w with w | w | w
      · exact hz w
      · exact hp w
      · rw [eu] at w; cases w), f⟩, h.inj⟩
/-- what is walked stays although a new set changes -/
def liftIA (g : Wd) (W : WX) (m : Is) : TI := fun σ H Rr => ∃ A, liftI g W (fun q => q = A) m σ H Rr
section
variable {W : WX}
theorem sk2_sound {g : Wd} {own : List (Str × Nat)} {vs1 : List Nat} {it it1 : Is} {tt tt1 : Tg} {tc tc1 : T} {me : E} {σ : L2.St} {H : Hp} {Q : VK} (hv : tt.within (own.map (·.2)) = true) (hv1 : tt1.within vs1 = true) (h : liftF g W (sk2E it (own.map (·.2)) tt tc it1 vs1 tt1 tc1 me) σ H Q) :
    tSk2 g.w (liftI g W Fn0 it) (gOf g.K tt) (liftT g (fun _ _ _ _ => False) tc) (liftIA g (fun _ _ _ _ => False) it1) (gOf g.K tt1) (liftT g (fun _ _ _ _ => False) tc1) (liftE g (fun _ _ _ _ => False) me) (own.map (·.2)) vs1 σ H Q := by
  obtain ⟨F0, μ, ρ, s, he, hs, h⟩ := h
  exact ⟨F0, μ, ρ, s, he, hs, runs_bind h fun J0 s1 μ1 H1 J e1 x1 hs1 r1 h1 => by
    intro A hA
    have ns : ∀ {kk : List Key} (ys : List V), SetH g.w A kk ≠ .tup ys := fun ys z => ext_tup rfl _ z
    have nf : ∀ {kk : List Key} (o : Obj) (u : HO), SetH g.w A kk ≠ .frz o u := fun o u z => ext_frz rfl _ _ z
    have he1 := (he.mono x1).nar hA
    have x0 : Ex Fn0 μ1 H1 μ1 (upd H1 A (SetH g.w A [])) := ex_new hA
    have hs0 := hs1.new (ho := SetH g.w A []) hA
    let Rest : List D → List Key → S → R D := fun ds acc s' => (sk2L J0.keep tt tc it1 vs1 tt1 tc1 me (wipeD ρ (own.map (·.2))) ds acc s').bind fun kk s => .ok (.set (kk.map kD)) s
    let In : List D → Hp → Prop := fun ds H2 => ∃ μ' s' acc, Ex (fun q => q = A) μ1 (upd H1 A (SetH g.w A [])) μ' H2 ∧ Ex Fn0 μ1 H1 μ' H2 ∧ Rs g μ' H2 s' ∧ A ∉ μ'.m ∧ ¬ μ'.z A ∧ H2 A = some (SetH g.w A acc) ∧ runs g W σ μ1 H1 (RF g H) Q (Rest ds acc s')
    refine ⟨fun i m H2 => m = J0.items.length - i ∧ In (J0.items.drop i) H2, ⟨_, rfl, μ1, s1, [], Ex.refl, x0, hs0, hs1.nmem hA, hs1.nz hA, upd_same, h1⟩, ?_⟩
    rintro i m H2 ⟨rfl, μ2, s2, acc, x2, x2', hs2, hm2, hz2, hA2, h2⟩
    have keepA : ∀ {μa μ' : M} {Ha H' : Hp} {acc : List Key}, A ∉ μa.m → ¬ μa.z A → Ha A = some (SetH g.w A acc) → Ex Fn0 μa Ha μ' H' → A ∉ μ'.m ∧ ¬ μ'.z A ∧ H' A = some (SetH g.w A acc) := fun {μa μ' Ha H' acc} hma hza hAa x => ⟨x.nm hAa hma, fun q => (x.zn A q).elim hza fun q => q.elim id (fun q => by rw [hAa] at q; cases q), x.oth A _ hAa hma (.inr id)⟩
    by_cases hlt : i < J0.items.length
    · have ed : J0.items[i]? = some J0.items[i] := List.getElem?_eq_getElem hlt
      rw [drop_cons ed] at h2
      simp only [Rest, sk2L] at h2
      split at h2
      · rename_i hk
        obtain ⟨go, yl⟩ := (r1 μ2 H2 s2 x2' hs2 hk i).1 _ ed
        refine .inr ⟨go, In (J0.items.drop (i + 1)), fun H' n => ⟨_, by omega, rfl, n⟩, fun x H3 y => ?_⟩
        obtain ⟨μ3, x3, hs3, r3⟩ := yl x H3 y
        split at h2
        · exact h2.elim
        · rename_i ρ3 q
          obtain ⟨vs, k1, k2⟩ := asg_sound r3 q
          have hren := k2 _ _ (wipe_ren (he1.mono (x2'.trans x3)) (own.map (·.2)))
          refine k1 (wipe σ (own.map (·.2))) _ ?_
          refine ⟨by rw [wipe_sl hv, wipe_wipe], _, μ3, ρ3, s2, hren, hs3, ?_⟩
          cases qc : tc ρ3 s2 with
          | err c ns vs s => simp only [R.noerr, R.bind, qc] at h2; exact h2.elim
          | bad => simp only [R.noerr, R.bind, qc] at h2; exact h2.elim
          | ok k s4 =>
            rw [qc] at h2
            intro μ4 H4 b x4 hs4 r4
            obtain rfl : k = b := r4
            cases k with
            | false =>
              have kA := keepA hm2 hz2 hA2 (x3.trans x4)
              exact ⟨μ4, s4, acc, x2.trans (x3.trans x4).s, x2'.trans (x3.trans x4), hs4, kA.1, kA.2.1, kA.2.2, h2⟩
            | true =>
              refine ⟨A, _, μ4, ρ3, s4, hren.mono x4, hs4, ?_⟩
              cases qi : it1 ρ3 s4 with
              | err c ns vs s => simp only [R.noerr, R.bind, if_true, qi] at h2; exact h2.elim
              | bad => simp only [R.noerr, R.bind, if_true, qi] at h2; exact h2.elim
              | ok J1 s5 =>
                intro μ5 H5 It x5 hs5 r5
                have h5 : runs g W σ μ1 H1 (RF g H) Q (((skL J1.keep tt1 tc1 me (wipeD ρ3 vs1) J1.items acc s5).bind fun acc s => sk2L J0.keep tt tc it1 vs1 tt1 tc1 me (wipeD ρ (own.map (·.2))) (J0.items.drop (i + 1)) acc s).bind fun kk s => .ok (.set (kk.map kD)) s) := by
                  have h2' : runs g W σ μ1 H1 (RF g H) Q (((it1 ρ3 s4).noerr.bind fun J s => (skL J.keep tt1 tc1 me (wipeD ρ3 vs1) J.items acc s).bind fun acc s => sk2L J0.keep tt tc it1 vs1 tt1 tc1 me (wipeD ρ (own.map (·.2))) (J0.items.drop (i + 1)) acc s).bind fun kk s => .ok (.set (kk.map kD)) s) := h2
                  rw [qi] at h2'
                  exact h2'
                have x35 := (x3.trans x4).trans x5
                have ren5 := (hren.mono x4).mono x5
                obtain ⟨a1, a2, a3⟩ := keepA hm2 hz2 hA2 x35
                let In1 : List D → Hp → Prop := fun ds1 H' => ∃ μ' s' acc', Ex (fun q => q = A) μ1 (upd H1 A (SetH g.w A [])) μ' H' ∧ Ex Fn0 μ1 H1 μ' H' ∧ Ex (fun q => q = A) μ5 H5 μ' H' ∧ Rs g μ' H' s' ∧ A ∉ μ'.m ∧ ¬ μ'.z A ∧ H' A = some (SetH g.w A acc') ∧
                  runs g W σ μ1 H1 (RF g H) Q (((skL J1.keep tt1 tc1 me (wipeD ρ3 vs1) ds1 acc' s').bind fun acc s => sk2L J0.keep tt tc it1 vs1 tt1 tc1 me (wipeD ρ (own.map (·.2))) (J0.items.drop (i + 1)) acc s).bind fun kk s => .ok (.set (kk.map kD)) s)
                refine ⟨fun j k H' => k = J1.items.length - j ∧ In1 (J1.items.drop j) H', ⟨_, rfl, μ5, s5, acc, x2.trans x35.s, x2'.trans x35, Ex.refl, hs5, a1, a2, a3, h5⟩, ?_⟩
                rintro j k H6 ⟨rfl, μ6, s6, acc6, x6, x6', x56, hs6, hm6, hz6, hA6, h6⟩
                by_cases hlt1 : j < J1.items.length
                · have ed1 : J1.items[j]? = some J1.items[j] := List.getElem?_eq_getElem hlt1
                  rw [drop_cons ed1] at h6
                  simp only [skL] at h6
                  split at h6
                  · rename_i hk1
                    obtain ⟨go1, yl1⟩ := (r5 μ6 H6 s6 x56 hs6 hk1 j).1 _ ed1
                    refine .inr ⟨go1, In1 (J1.items.drop (j + 1)), fun H' n => ⟨_, by omega, rfl, n⟩, fun x' H7 y' => ?_⟩
                    obtain ⟨μ7, x7, hs7, r7⟩ := yl1 x' H7 y'
                    split at h6
                    · exact h6.elim
                    · rename_i ρ7 q7
                      obtain ⟨vs7, k71, k72⟩ := asg_sound r7 q7
                      have ren7 := k72 _ _ (wipe_ren ((REn.monoA x56 ren5 fun p z => z.2).mono x7) vs1)
                      refine k71 (wipe _ vs1) _ ?_
                      refine ⟨by rw [wipe_sl hv1, wipe_wipe], _, μ7, ρ7, s6, ren7, hs7, ?_⟩
                      cases qc7 : tc1 ρ7 s6 with
                      | err c ns vs s => simp only [R.noerr, R.bind, qc7] at h6; exact h6.elim
                      | bad => simp only [R.noerr, R.bind, qc7] at h6; exact h6.elim
                      | ok k8 s8 =>
                        rw [qc7] at h6
                        intro μ8 H8 b8 x8 hs8 r8
                        obtain rfl : k8 = b8 := r8
                        cases k8 with
                        | false =>
                          have kA := keepA hm6 hz6 hA6 (x7.trans x8)
                          exact ⟨μ8, s8, acc6, x6.trans (x7.trans x8).s, x6'.trans (x7.trans x8), x56.trans (x7.trans x8).s, hs8, kA.1, kA.2.1, kA.2.2, h6⟩
                        | true =>
                          refine ⟨_, μ8, ρ7, s8, ren7.mono x8, hs8, ?_⟩
                          cases qe : me ρ7 s8 with
                          | err c ns vs s => simp only [R.noerr, R.bind, if_true, qe] at h6; exact h6.elim
                          | bad => simp only [R.noerr, R.bind, if_true, qe] at h6; exact h6.elim
                          | ok d s9 =>
                            intro μ9 H9 z x9 hs9 r9
                            cases ek : keyD d with
                            | none => simp only [R.noerr, R.bind, if_true, qe, ek] at h6; exact h6.elim
                            | some k0 =>
                              by_cases hz : decide (acc6.length < 1000) = true
                              · have h9 : runs g W σ μ1 H1 (RF g H) Q (((skL J1.keep tt1 tc1 me (wipeD ρ3 vs1) (J1.items.drop (j + 1)) (addK acc6 k0) s9).bind fun acc s => sk2L J0.keep tt tc it1 vs1 tt1 tc1 me (wipeD ρ (own.map (·.2))) (J0.items.drop (i + 1)) acc s).bind fun kk s => .ok (.set (kk.map kD)) s) := by
                                  have h6' : runs g W σ μ1 H1 (RF g H) Q ((((me ρ7 s8).noerr.bind fun y s => match keyD y with
                                    | some k => if decide (acc6.length < 1000) = true then skL J1.keep tt1 tc1 me (wipeD ρ3 vs1) (J1.items.drop (j + 1)) (addK acc6 k) s else .bad
                                    | none => .bad).bind fun acc s => sk2L J0.keep tt tc it1 vs1 tt1 tc1 me (wipeD ρ (own.map (·.2))) (J0.items.drop (i + 1)) acc s).bind fun kk s => .ok (.set (kk.map kD)) s) := h6
                                  rw [qe] at h6'
                                  have h7' : runs g W σ μ1 H1 (RF g H) Q (((match keyD d with
                                    | some k => if decide (acc6.length < 1000) = true then skL J1.keep tt1 tc1 me (wipeD ρ3 vs1) (J1.items.drop (j + 1)) (addK acc6 k) s9 else .bad
                                    | none => .bad : R (List Key)).bind fun acc s => sk2L J0.keep tt tc it1 vs1 tt1 tc1 me (wipeD ρ (own.map (·.2))) (J0.items.drop (i + 1)) acc s).bind fun kk s => .ok (.set (kk.map kD)) s) := h6'
                                  rw [ek] at h7'
                                  simp only [hz, if_true] at h7'
                                  exact h7'
                                have x79 := (x7.trans x8).trans x9
                                obtain ⟨a1, a2, a3⟩ := keepA hm6 hz6 hA6 x79
                                have xp : Ex (fun q => q = A) μ9 H9 μ9 (upd H9 A (SetH g.w A (addK acc6 k0))) := ex_own a2 rfl a3 ns nf
                                have xq : Ex Fn0 μ1 H1 μ9 (upd H9 A (SetH g.w A (addK acc6 k0))) := ex_again (x6'.trans x79) hA a3 ns nf
                                exact ⟨k0, acc6, rv_key r9 ek, a3, Nat.lt_of_lt_of_le (show acc6.length + 1 < 1001 by have := of_decide_eq_true hz; omega) (by decide), μ9, s9, addK acc6 k0, (x6.trans x79.s).trans xp, xq, (x56.trans x79.s).trans xp, hs9.own a1 a2 a3 ns nf, a1, a2, upd_same, h9⟩
                              · simp only [R.noerr, R.bind, if_true, qe, ek, if_neg hz] at h6; exact h6.elim
                  · exact h6.elim
                · rw [List.drop_eq_nil_of_le (by omega)] at h6
                  simp only [skL] at h6
                  split at h6
                  · rename_i hk1
                    exact .inl ⟨(r5 μ6 H6 s6 x56 hs6 hk1 j).2 (by omega), μ6, s6, acc6, x6, x6', hs6, hm6, hz6, hA6, h6⟩
                  · exact h6.elim
      · exact h2.elim
    · rw [List.drop_eq_nil_of_le (by omega)] at h2
      simp only [Rest, sk2L] at h2
      split at h2
      · rename_i hk
        exact .inl ⟨(r1 μ2 H2 s2 x2' hs2 hk i).2 (by omega), h2 μ2 H2 _ x2' hs2 (by
          unfold RF
          rw [if_pos (show (D.set (acc.map kD)).heavy = true from rfl)]
          exact ⟨A, rfl, x1.trk A hA, hm2, hz2, acc, keysD_kD _, hA2⟩)⟩
      · exact h2.elim⟩
end
theorem q_sk2 {X : Cx} {W : WX} {elt tg iter tg1 iter1 : Expr} {ifs ifs1 : List Expr} {scope : Scope} {own : List (Str × Nat)} {vs1 : List Nat} {it it1 : Is} {tt tt1 : Tg} {tc tc1 : T} {me : E} {pos : Pos} (hc : X.calm = true) (hN : X.N.Nodup) (hi : QI X W Fn0 tg iter it) (ok : BlkOk X.N X.env.scope scope own) (hv : tt.within (own.map (·.2)) = true)
    (hw : ∀ i ∈ vs1, i ∈ own.map (·.2)) (hv1 : tt1.within vs1 = true)
    (hg : ∀ (s : Shared) (H : Hp) (C : Addr) (cl : List (Str × Addr)) (fp : List Addr), PG (X.blk s H scope (compEnvC scope cl C X.env) fp) tg (gOf X.K tt))
    (ht : ∀ (s : Shared) (H : Hp) (C : Addr) (cl : List (Str × Addr)) (fp : List Addr), PTs (X.blk s H scope (compEnvC scope cl C X.env) fp) ifs (liftT (wd X) (fun _ _ _ _ => False) tc))
    (hi1 : ∀ (s : Shared) (H : Hp) (C : Addr) (cl : List (Str × Addr)) (fp : List Addr) (A : Addr), QI (X.blk s H scope (compEnvC scope cl C X.env) fp) (fun _ _ _ _ => False) (fun q => q = A) tg1 iter1 it1)
    (hg1 : ∀ (s : Shared) (H : Hp) (C : Addr) (cl : List (Str × Addr)) (fp : List Addr), PG (X.blk s H scope (compEnvC scope cl C X.env) fp) tg1 (gOf X.K tt1))
    (ht1 : ∀ (s : Shared) (H : Hp) (C : Addr) (cl : List (Str × Addr)) (fp : List Addr), PTs (X.blk s H scope (compEnvC scope cl C X.env) fp) ifs1 (liftT (wd X) (fun _ _ _ _ => False) tc1))
    (he : ∀ (s : Shared) (H : Hp) (C : Addr) (cl : List (Str × Addr)) (fp : List Addr), PE (X.blk s H scope (compEnvC scope cl C X.env) fp) elt (liftE (wd X) (fun _ _ _ _ => False) me)) (hs : ∀ x, foldedSetIterable iter X.env x = pure x := by intro _; rfl) (hs1 : ∀ env x, foldedSetIterable iter1 env x = pure x := by intro _ _; rfl) :
    PE X (.SetComp elt [⟨tg, iter, ifs, 0⟩, ⟨tg1, iter1, ifs1, 0⟩] scope pos) (liftF (wd X) W (sk2E it (own.map (·.2)) tt tc it1 vs1 tt1 tc1 me)) :=
  pe_imp (pe_sk2 hc hN hi ok hg ht hw (wi1 := liftIA (wd X) (fun _ _ _ _ => False) it1) (fun s H C cl fp => ⟨fun pins s' σ H' R I ⟨A, q⟩ => (hi1 s H C cl fp A).run pins s' σ H' R I q⟩) hg1 ht1 he hs hs1) fun σ H Q h => sk2_sound hv hv1 h
end Fv

namespace Fv
open PySem PySem.Spec PyProof.Rows L2
/-! ### x = {k: v for ..} -/
section
variable {X : Cx} {W : WX} {Fr : Addr → Prop}
theorem ps_setDc {i : Nat} {y : Str} {py : Pos} {kx vx tg iter : Expr} {ifs : List Expr} {scope : Scope} {own : List (Str × Nat)} {pos lpos : Pos} {wi : TI} {g : TG} {tt : TT} {tk tv : TE} (hc : X.calm = true) (hN : X.N.Nodup) (hy : X.N[i]? = some y) (hyl : X.env.scope.names.lookup y = some .local)
    (hsw : swapsWith (.DictComp kx vx [⟨tg, iter, ifs, 0⟩] scope lpos) (some (.Name y py)) pos.line X.env = pure true) (hi : PI X tg iter wi) (ok : BlkOk X.N X.env.scope scope own)
    (hg : ∀ (s : Shared) (H : Hp) (C : Addr) (cl : List (Str × Addr)) (fp : List Addr), PG (X.blk s H scope (compEnvC scope cl C X.env) fp) tg g)
    (ht : ∀ (s : Shared) (H : Hp) (C : Addr) (cl : List (Str × Addr)) (fp : List Addr), PTs (X.blk s H scope (compEnvC scope cl C X.env) fp) ifs tt)
    (hk : ∀ (s : Shared) (H : Hp) (C : Addr) (cl : List (Str × Addr)) (fp : List Addr), PE (X.blk s H scope (compEnvC scope cl C X.env) fp) kx tk)
    (he : ∀ (s : Shared) (H : Hp) (C : Addr) (cl : List (Str × Addr)) (fp : List Addr), PE (X.blk s H scope (compEnvC scope cl C X.env) fp) vx tv) (hs : ∀ x, foldedSetIterable iter X.env x = pure x) :
    PS X (.Assign [.Name y py] (.DictComp kx vx [⟨tg, iter, ifs, 0⟩] scope lpos) pos) (tAsg (tDc wi g tt tk tv (own.map (·.2))) (gName i)) := by
  refine ⟨fun pins s σ H De I h => ?_⟩
  rw [exec_Assign_Name_used _ _ _ _ hsw]
  refine wpAny_bind (wpAny_standAt (wpAny_bind ?_))
  rw [arm_evalThenUse_DictComp]
  refine wpAny_bind ?_
  refine wpAny_mono (dc_core (pos' := firstIterPos [⟨tg, iter, ifs, 0⟩] lpos) (use := some (assign (.Name y py) X.env)) (Qf := fun _ s' => ∃ σ' H', Inv X pins σ' H' s' ∧ De.nx σ' H') (Q := fun v H1 => De.nx (σ.set i (some v)) H1) hc hN I hi ok hg ht hk he hs h fun D C s' m H' I' q hn fp => ?_)
    (fun _ s' h => wpAny_pure (wpAny_pure h)) (fun _ _ h => h)
  show wpAny _ _ _ _ _ _
  refine wpAny_assign_Name (store_ok2 I' hN hy (.inl hyl) (v := V.ref D) rfl (fun s'' I'' ⟨a, sb, ha⟩ => ⟨m, ?_, fun h' sb' => ⟨_, _, I''.turned (t' := s''.toks) (fun b o hb e => (sb'.2 b hb).trans e) fp.1 fp.2.1 fp.2.2.2.1 fp.2.2.2.2.1 fp.2.2.2.2.2, q⟩⟩) (.inr hyl))
  obtain ⟨o, es, ep, e, d, r⟩ := hn
  refine ⟨o, es, ep, (sb.2 C (fun z => ?_)).trans e, d, r⟩
  rcases ha with ha | ha
  · exact fp.2.1 (z.trans ha)
  · exact fp.2.2.2.2.1 y a ha z.symm
theorem sw_trueD {kx vx : Expr} {gs : List Comprehension} {scope : Scope} {pos py : Pos} {y : Str} {l : Nat} {env : PySem.Env} (h1 : env.scope.kind = .function) (h2 : env.scope.names.lookup y = some .local) (h3 : (py.line == pos.line) = true)
    (h4 : (scope.names.any fun (n, k) => n == y && (k == .local || k == .cell)) = false) : swapsWith (.DictComp kx vx gs scope pos) (some (.Name y py)) l env = pure true := sw_true (elt := kx) (gs := gs) (l := l) h1 h2 h3 h4
theorem qs_setDc {i : Nat} {y : Str} {py : Pos} {kx vx tg iter : Expr} {ifs : List Expr} {scope : Scope} {own : List (Str × Nat)} {it : Is} {tt : Tg} {tc : T} {mk mv : E} {lpos pos : Pos} (hc : X.calm = true) (hN : X.N.Nodup) (hi : QI X W Fn0 tg iter it) (ok : BlkOk X.N X.env.scope scope own) (hv : tt.within (own.map (·.2)) = true)
    (hg : ∀ (s : Shared) (H : Hp) (C : Addr) (cl : List (Str × Addr)) (fp : List Addr), PG (X.blk s H scope (compEnvC scope cl C X.env) fp) tg (gOf X.K tt))
    (ht : ∀ (s : Shared) (H : Hp) (C : Addr) (cl : List (Str × Addr)) (fp : List Addr), PTs (X.blk s H scope (compEnvC scope cl C X.env) fp) ifs (liftT (wd X) (fun _ _ _ _ => False) tc))
    (hk : ∀ (s : Shared) (H : Hp) (C : Addr) (cl : List (Str × Addr)) (fp : List Addr), PE (X.blk s H scope (compEnvC scope cl C X.env) fp) kx (liftE (wd X) (fun _ _ _ _ => False) mk))
    (he : ∀ (s : Shared) (H : Hp) (C : Addr) (cl : List (Str × Addr)) (fp : List Addr), PE (X.blk s H scope (compEnvC scope cl C X.env) fp) vx (liftE (wd X) (fun _ _ _ _ => False) mv))
    (hy : X.N[i]? = some y := by rfl) (hyl : X.env.scope.names.lookup y = some .local := by rfl) (hsw : swapsWith (.DictComp kx vx [⟨tg, iter, ifs, 0⟩] scope lpos) (some (.Name y py)) pos.line X.env = pure true := by exact sw_trueD rfl rfl rfl (by decide +kernel)) (hs : ∀ x, foldedSetIterable iter X.env x = pure x := by intro _; rfl) :
    QS X W Fr (.Assign [.Name y py] (.DictComp kx vx [⟨tg, iter, ifs, 0⟩] scope lpos) pos) (setS i (dcE it (own.map (·.2)) tt tc mk mv)) :=
  ps_imp (ps_setDc hc hN hy hyl hsw hi ok hg ht hk he hs) fun De σ H ⟨μ, ρ, s, hf, he, hs, h⟩ => dc_sound hv ⟨Fr, μ, ρ, s, he, hs, runs_fz (runs_stm (Rel1 := RV (wd X)) he h fun d s1 μ1 H1 x e1 x1 hs1 r1 h1 => h1 μ1 H1 _ Ex.refl hs1 ((he.mono x1).setV r1))⟩
end
end Fv

namespace Fv
open PySem PySem.Spec PyProof.Rows L2
/-! ### own methods that operators and len() call -/
theorem Rm.in1 {k : Nat} {A : Around} (r : Rm (k + 1) A) : Rm k A.in1 := ⟨r.r.in1, r.g⟩
def mthN (cs : List Tx) (f : Fn) (mo : E) : E := fun ρ s => (mo ρ s).bind fun o s => match objOf s o with
  | some (c, _, _) => if c ∈ cs then (f [o] s).noerr else .bad
  | none => .bad
def lenN (cs : List Tx) (f : Fn) (mo : E) : E := fun ρ s => (mthN cs f mo ρ s).bind fun d s => match d with
  | .int n => if decide (0 ≤ n ∧ n < 2 ^ 63) then .ok (.int n) s else .bad
  | _ => .bad
section
variable {X : Cx} {W : WX} {k : Nat} {cs : List Tx} {m : Str} {f : Fn} {mo : E} {ms : As} {o e : Expr} {es : List Expr} {p pos : Pos}
theorem isFn_ty {K : PySem.W.Frag} {v : Value} (h : PySem.W.isFn K v = true) : PySem.W.typeIn K v = some (.type "function") := by
  unfold PySem.W.isFn at h
  exact beq_iff_eq.mp h
/-- the reading of an own object whose method is called -/
theorem own_read {σ : L2.St} {H : Hp} {Q : VK} {α : Type} {post : D → S → R D} (d : MthX X k cs m f) (h : liftE (wd X) W (fun ρ s => (mthN cs f mo ρ s).bind post) σ H Q) :
    liftE (wd X) W mo σ H fun x H1 => ∃ a C dx fs fI, x = .ref a ∧ H1 a = some (.ins C dx fs) ∧ Cls X.K C ∧ Meth X.K C m fI ∧ FnG X.prog X.w X.K X.mg X.base k fI (spF (wd X) f) ∧
      spF (wd X) f [x] H1 (fun v H2 => ∃ μ d s, Rs (wd X) μ H2 s ∧ RV (wd X) μ H2 d v ∧ runs (wd X) W σ μ H2 (RV (wd X)) Q (post d s)) (fun _ _ _ => False) := by
  obtain ⟨F0, μ, ρ, s, hρ, hs, h⟩ := h
  have h' : runs (wd X) W σ μ H (RV (wd X)) Q ((mo ρ s).bind fun o s => (match objOf s o with
    | some (c, _, _) => if c ∈ cs then (f [o] s).noerr else .bad
    | none => .bad : R D).bind post) := by
    unfold mthN at h
    cases q : mo ρ s <;> simp only [q, R.bind] at h ⊢ <;> exact h
  refine ⟨F0, μ, ρ, s, hρ, hs, runs_bind (Rel1 := RV (wd X)) h' fun od s1 μ1 H1 x e1 x1 hs1 r1 h1 => ?_⟩
  cases eo : objOf s1 od with
  | none => simp only [eo] at h1; exact h1.elim
  | some q =>
    obtain ⟨c, ns, vs⟩ := q
    simp only [eo] at h1
    by_cases hc : c ∈ cs
    · simp only [hc, if_true] at h1
      obtain ⟨a, C, dx, ys, rfl, mC, q, l, rr⟩ := objOf_sound hs1 r1.w eo
      obtain ⟨fI, k1, k2, k3⟩ := d c hc C mC
      refine ⟨a, C, dx, _, fI, rfl, q, k1, k2, k3, μ1, [od], s1, .one r1, hs1, ?_⟩
      cases qf : f [od] s1 with
      | err c ns vs s => rw [qf] at h1; exact h1.elim
      | bad => rw [qf] at h1; exact h1.elim
      | ok v s2 =>
        rw [qf] at h1
        intro μ2 H2 b x2 hs2 r2
        exact ⟨μ2, v, s2, hs2, r2, runs_mono x2 h1⟩
    · simp only [hc, if_false] at h1; exact h1.elim
theorem run_def1 {fa : Addr} {sp : Sp} {pins : List (Addr × Obj)} {σ : L2.St} {H : Hp} {sh : Shared} {Q : VK} {us : List Value} {vs : List V} (F : FnG X.prog X.w X.K X.mg X.base k fa sp) (hr : Rm (k + 1) X.A)
    (I : Inv X pins σ H sh) (r : Vals vs us) (h : sp vs H Q (fun _ _ _ => False)) {Q' : Value → Shared → Prop} {E' : Value → Shared → Prop} (fin : ∀ v s', EP X pins σ Q v s' → Q' v s') : wpAny (model X.prog X.w) X.A.in1 (call (.ref fa) us) Q' E' sh := by
  refine wpAny_call (codeAny_mono (F X.A.in1 X.stack sh H us vs Q _ hr.in1 I.env0.in1 r h) fun res s' hq => ?_)
  cases res with
  | error e =>
    obtain ⟨_, _, _, _, _, _, _, _, _, _, _, _, hE⟩ := hq
    exact hE.elim
  | ok fl =>
    cases fl with
    | ret u => exact fin _ _ (I.after hq)
    | next => exact False.elim hq
    | brk => exact False.elim hq
    | cont => exact False.elim hq
theorem run_def0 {fa : Addr} {sp : Sp} {pins : List (Addr × Obj)} {σ : L2.St} {H : Hp} {sh : Shared} {Q : VK} {us : List Value} {vs : List V} (F : FnG X.prog X.w X.K X.mg X.base k fa sp) (hr : Rm k X.A)
    (I : Inv X pins σ H sh) (r : Vals vs us) (h : sp vs H Q (fun _ _ _ => False)) {Q' : Value → Shared → Prop} {E' : Value → Shared → Prop} (fin : ∀ v s', EP X pins σ Q v s' → Q' v s') : wpAny (model X.prog X.w) X.A (call (.ref fa) us) Q' E' sh := by
  refine wpAny_call (codeAny_mono (F X.A X.stack sh H us vs Q _ hr I.env0 r h) fun res s' hq => ?_)
  cases res with
  | error e =>
    obtain ⟨_, _, _, _, _, _, _, _, _, _, _, _, hE⟩ := hq
    exact hE.elim
  | ok fl =>
    cases fl with
    | ret u => exact fin _ _ (I.after hq)
    | next => exact False.elim hq
    | brk => exact False.elim hq
    | cont => exact False.elim hq
theorem un_own {op : UnaryOp} {nm : Str} (hop : ∀ v, unaryOp op v = holding [v] (do
      let r ← callSpecial? v nm
      match r with
      | some r => pure r
      | none => do
        let t ← typeNameOf v
        raiseErrorMade "TypeError" ("bad operand type for unary " ++ (match op with | .Invert => "~" | .UAdd => "+" | .USub => "-" | .Not => "not") ++ ": '" ++ toString t ++ "'"))) (hr : Rm k X.A) :
    UnR X (unaryOp op) (fun x H1 Q => ∃ a C dx fs fI, x = .ref a ∧ H1 a = some (.ins C dx fs) ∧ Cls X.K C ∧ Meth X.K C nm fI ∧ FnG X.prog X.w X.K X.mg X.base k fI (spF (wd X) f) ∧ spF (wd X) f [x] H1 Q (fun _ _ _ => False)) := by
  intro pins sh σ H x v Q I rx ⟨a, C, dx, fs, fI, ex, ea, k1, k2, k3, q⟩
  subst ex
  obtain rfl : v = Value.ref a := rx
  obtain ⟨mA, O, _⟩ := ins_get I.hok ea
  obtain ⟨od, J, _⟩ := O.look
  rw [hop]
  refine wpAny_holding (wpAny_bind (PySem.W.special_fn I.kIn J k2.at_ (isFn_ty k2.fn) ?_))
  exact run_def0 k3 hr I (us := [.ref a]) (vs := [.ref a]) (.cons rfl .nil) q fun v s' h => wpAny_pure h
theorem q_inv (d : MthX X k cs "__invert__" f) (hr : Rm k X.A) (ho : PE X o (liftE (wd X) W mo)) : PE X (.UnaryOp .Invert o pos) (liftE (wd X) W (mthN cs f mo)) :=
  pe_imp (pe_un (un_own (f := f) (fun v => rfl) hr) ho) fun σ H Q h => by
    have h2 : liftE (wd X) W (fun ρ s => (mthN cs f mo ρ s).bind fun d s => .ok d s) σ H Q := by
      obtain ⟨F0, μ, ρ, s, hρ, hs, h⟩ := h
      refine ⟨F0, μ, ρ, s, hρ, hs, ?_⟩
      cases q : mthN cs f mo ρ s <;> rw [q] at h <;> simp only [R.bind, q] <;> exact h
    obtain ⟨F0, μ, ρ, s, hρ, hs, z⟩ := own_read (α := Unit) d h2
    refine ⟨F0, μ, ρ, s, hρ, hs, runs_post z fun x H1 ⟨a, C, dx, fs, fI, e1, e2, k1, k2, k3, q⟩ => ⟨a, C, dx, fs, fI, e1, e2, k1, k2, k3, ?_⟩⟩
    obtain ⟨μ1, ds, s1, r1, hs1, q1⟩ := q
    exact ⟨μ1, ds, s1, r1, hs1, runs_post q1 fun v H2 ⟨μ2, d2, s2, hs2, r2, q2⟩ => runs_pure q2 hs2 r2⟩
theorem cr_lenO (hr : Rm (k + 1) X.A) : CallR X (.builtin "len") (fun xs H1 Q => ∃ a C dx fs fI, xs = [.ref a] ∧ H1 a = some (.ins C dx fs) ∧ Cls X.K C ∧ Meth X.K C "__len__" fI ∧ FnG X.prog X.w X.K X.mg X.base k fI (spF (wd X) f) ∧
    spF (wd X) f [.ref a] H1 (fun v H2 => ∃ n : Int, v = .int n ∧ (0 ≤ n ∧ n < 2 ^ 63) ∧ Q (.int n) H2) (fun _ _ _ => False)) := by
  intro pins sh σ H xs us Q I rv ⟨a, C, dx, fs, fI, ex, ea, k1, k2, k3, q⟩
  subst ex
  obtain ⟨u0, rfl, v0⟩ : ∃ u, us = [u] ∧ RelV (V.ref a) u := by
    cases rv with
    | cons h t => cases t; exact ⟨_, rfl, h⟩
  obtain rfl : u0 = Value.ref a := v0
  obtain ⟨mA, O, _⟩ := ins_get I.hok ea
  obtain ⟨od, J, _⟩ := O.look
  obtain ⟨mm, fr⟩ := I.fr
  refine PySem.W.len_K fr I.ok.mod.kin J k2.at_ k2.fn ?_
  refine run_def1 k3 hr I (us := [.ref a]) (vs := [.ref a]) (.cons rfl .nil) q fun v s' h => ?_
  obtain ⟨x, H', I', rx, n, ex, hn, q'⟩ := h
  subst ex
  obtain ⟨t, rfl⟩ : ∃ t, v = Value.int n t := rx
  exact ⟨hn, .int n, H', I'.tok _, ⟨_, rfl⟩, q'⟩
theorem q_lenO (d : MthX X k cs "__len__" f) (hr : Rm (k + 1) X.A) (ho : PE X e (liftE (wd X) W mo)) (hm : X.mg "len" = none) (hg : Gl X "len" := by rfl) (hst : starEach [e] X.env = (false, eval e X.env) :: starEach [] X.env := by rfl) :
    PE X (.Call (.Name "len" p) [e] [] pos) (liftE (wd X) W (lenN cs f mo)) :=
  pe_imp (pe_callB (cr_lenO (f := f) hr) hg hm (by decide +kernel) (pa_cons ho pa_nil hst) (by decide) (by decide) hst) fun σ H Q h => by
    obtain ⟨F0, μ, ρ, s, hρ, hs, z⟩ := own_read (α := Unit) d h
    refine ⟨F0, μ, ρ, s, hρ, hs, runs_post z fun x H1 ⟨a, C, dx, fs, fI, e1, e2, k1, k2, k3, q⟩ => ⟨a, C, dx, fs, fI, by rw [e1], e2, k1, k2, k3, ?_⟩⟩
    subst e1
    obtain ⟨μ1, ds, s1, r1, hs1, q1⟩ := q
    refine ⟨μ1, ds, s1, r1, hs1, runs_post q1 fun v H2 ⟨μ2, d2, s2, hs2, r2, q2⟩ => ?_⟩
    split at q2
    case h_2 => exact q2.elim
    rename_i n
    split at q2
    case isFalse => exact q2.elim
    rename_i hn
    simp only [RV] at r2
    exact ⟨n, r2, of_decide_eq_true hn, runs_pure q2 hs2 (by simp only [RV])⟩
end
/-! ### calls that only read what a slot alone holds, where that is a dict -/
mutual
/-- no dict in it -/
def D.lite : D → Bool
  | .non => true | .bl _ => true | .int _ => true | .str _ => true | .ty _ => true | .gl _ => true | .ref _ => true
  | .tup xs => D.lites xs | .ktup xs => D.lites xs | .fl xs => D.lites xs | .lst xs => D.lites xs | .obj _ _ vs => D.lites vs
  | _ => false
def D.lites : List D → Bool
  | [] => true
  | d :: ds => D.lite d && D.lites ds
end
def D.lite1 : D → Bool
  | .lst xs => D.lites xs | .obj _ _ vs => D.lites vs
  | _ => false
/-- what may be passed so: a dict, or nothing that may be changed -/
def D.bArg : D → Bool
  | .dct _ _ => true
  | d => !d.heavy
section
variable {g : Wd} {μ μ' : M} {H : Hp} {P : Addr → Prop}
mutual
theorem RV.lite (hm : μ'.m = μ.m) (hz : ∀ q, μ.z q → P q ∨ μ'.z q) (hP : ∀ q, P q → ∃ kk, H q = some (.dK kk)) : ∀ {d : D} {v : V}, D.lite d = true → RV g μ H d v → RV g μ' H d v
  | .non, _, _, h => by simpa only [RV] using h
  | .bl _, _, _, h => by simpa only [RV] using h
  | .int _, _, _, h => by simpa only [RV] using h
  | .str _, _, _, h => by simpa only [RV] using h
  | .ty _, _, _, h => by simpa only [RV] using h
  | .gl _, _, _, h => by simpa only [RV] using h
  | .ref _, _, _, h => by simp only [RV] at h ⊢; rw [hm]; exact h
  | .tup ds, v, l, h => by
    simp only [RV] at h ⊢
    obtain ⟨p, ys, e, q, r⟩ := h
    exact ⟨p, ys, e, q, RVs.lite hm hz hP (by simpa only [D.lite] using l) r⟩
  | .ktup ds, v, l, h => by
    simp only [RV] at h ⊢
    obtain ⟨p, ys, e, q, r⟩ := h
    exact ⟨p, ys, e, q, RVs.lite hm hz hP (by simpa only [D.lite] using l) r⟩
  | .fl ds, v, l, h => by
    simp only [RV] at h ⊢
    obtain ⟨p, ys, e, q, r⟩ := h
    exact ⟨p, ys, e, q, RVs.lite hm hz hP (by simpa only [D.lite] using l) r⟩
  | .lst ds, v, l, h => by
    simp only [RV] at h ⊢
    obtain ⟨p, ys, e, z, q, r⟩ := h
    refine ⟨p, ys, e, (hz p z).elim (fun hp => ?_) id, q, RVs.lite hm hz hP (by simpa only [D.lite] using l) r⟩
    obtain ⟨kk, ek⟩ := hP p hp
    rw [q] at ek; cases ek
  | .obj _ _ ds, v, l, h => by
    simp only [RV] at h ⊢
    obtain ⟨p, ys, e, z, ⟨C, dx, mC, q⟩, ln, r⟩ := h
    refine ⟨p, ys, e, (hz p z).elim (fun hp => ?_) id, ⟨C, dx, mC, q⟩, ln, RVs.lite hm hz hP (by simpa only [D.lite] using l) r⟩
    obtain ⟨kk, ek⟩ := hP p hp
    rw [q] at ek; cases ek
  | .dct _ _, _, l, _ => by simp only [D.lite] at l; cases l
  | .dtt _ _, _, l, _ => by simp only [D.lite] at l; cases l
  | .set _, _, l, _ => by simp only [D.lite] at l; cases l
  | .exc _ _, _, l, _ => by simp only [D.lite] at l; cases l
  | .xn _ _, _, l, _ => by simp only [D.lite] at l; cases l
  | .exh _ _ _, _, l, _ => by simp only [D.lite] at l; cases l
  | .exq _, _, l, _ => by simp only [D.lite] at l; cases l
theorem RVs.lite (hm : μ'.m = μ.m) (hz : ∀ q, μ.z q → P q ∨ μ'.z q) (hP : ∀ q, P q → ∃ kk, H q = some (.dK kk)) : ∀ {ds : List D} {vs : List V}, D.lites ds = true → RVs g μ H ds vs → RVs g μ' H ds vs
  | [], _, _, h => by simpa only [RVs] using h
  | d :: ds, vs, l, h => by
    simp only [D.lites, Bool.and_eq_true] at l
    simp only [RVs] at h ⊢
    obtain ⟨y, r, e, a, b⟩ := h
    exact ⟨y, r, e, RV.lite hm hz hP l.1 a, RVs.lite hm hz hP l.2 b⟩
end
theorem Ce.lite (hm : μ'.m = μ.m) (hz : ∀ q, μ.z q → P q ∨ μ'.z q) (hP : ∀ q, P q → ∃ kk, H q = some (.dK kk)) {p : Addr} {d : D} (l : D.lite1 d = true) (c : Ce g μ H p d) : Ce g μ' H p d := by
  cases d <;> simp only [D.lite1, Bool.false_eq_true] at l <;> simp only [Ce] at c ⊢
  · obtain ⟨ys, a, b⟩ := c; exact ⟨ys, a, b.lite hm hz hP l⟩
  · obtain ⟨ys, a, e, b⟩ := c; exact ⟨ys, a, e, b.lite hm hz hP l⟩
/-- all that is only read is made to stay, for a while -/
theorem frz_all {s : S} : ∀ {ds : List D} {xs : List V} {μ : M}, RWs g μ H ds xs → ds.all D.bArg = true → Rs g μ H s → ∃ μ2, μ2.m = μ.m ∧ (∀ q, μ.z q → μ2.z q) ∧ (∀ q, μ2.z q → μ.z q ∨ ∃ kk, H q = some (.dK kk)) ∧ Rs g μ2 H s ∧ RVs g μ2 H ds xs ∧ Ex (fun _ => True) μ H μ2 H
  | [], xs, μ, r, _, hs => by
    obtain rfl : xs = [] := r
    exact ⟨μ, rfl, fun _ h => h, fun _ h => .inl h, hs, by simp only [RVs], Ex.refl⟩
  | d :: ds, xs, μ, ⟨x, r, e, a, b⟩, hb, hs => by
    subst e
    simp only [List.all_cons, Bool.and_eq_true] at hb
    obtain ⟨μ1, m1, z1, w1, hs1, r1, x1⟩ := frz_all b hb.2 hs
    rcases a with a | ⟨hd, p, rfl, hm, c⟩
    · exact ⟨μ1, m1, z1, w1, hs1, by simp only [RVs]; exact ⟨_, _, rfl, a.mono x1, r1⟩, x1⟩
    · have hm1 : p ∉ μ1.m := by rw [m1]; exact hm
      have c1 : Ce g μ1 H p d := c.mono x1 fun _ e => e
      obtain ⟨u, eu, _⟩ := c.there
      have q : Ex (fun _ => True) μ1 H (μ1.frz p hm1) H := ex_frz hm1 (.inl trivial)
      have c2 : Ce g (μ1.frz p hm1) H p d := c1.mono q fun _ e => e
      have zp : (μ1.frz p hm1).z p := .inr rfl
      cases d <;> simp only [D.bArg, D.heavy, Bool.not_true, Bool.false_eq_true, Bool.not_false] at hd hb
      · exact hb.1.elim
      · simp only [Ce] at c2
        obtain ⟨ys, a, l, b⟩ := c2
        obtain ⟨kk, ek, hp⟩ := a
        exact ⟨μ1.frz p hm1, m1, fun q h => .inl (z1 q h), fun q h => h.elim (w1 q) fun e => .inr ⟨_, e ▸ hp⟩, hs1.frz hm1 ⟨u, eu⟩, by simp only [RVs]; exact ⟨_, _, rfl, by simp only [RV]; exact ⟨p, ys, rfl, zp, ⟨kk, ek, hp⟩, l, b⟩, r1.mono q⟩, x1.trans q⟩
      all_goals exact hb.1.elim
end
def callBE (f : Fn) (a : As) : E := fun ρ s => (a ρ s).bind fun ds s => if ds.all D.bArg then match f ds s with
  | .ok d s' => if d.lite && s'.all D.lite1 then .ok d s' else .bad
  | _ => .bad
  else .bad
section
variable {X : Cx} {W : WX} {k : Nat} {x : Str} {f : Fn} {p pos : Pos} {e : Expr} {es : List Expr} {ms : As}
theorem q_callBo (d : DefX X k x f) (hr : Rm k X.A) (ha : PA X (e :: es) (liftAB (wd X) W ms)) (hg : Gl X x := by rfl) (hdb : (x == ("__debug__" : Str)) = false := by decide) (he : starEach (e :: es) X.env = (false, eval e X.env) :: starEach es X.env := by rfl)
    (hpl : (backTo pos (starEach es X.env)).any (·.1) = false := by rfl) : PE X (.Call (.Name x p) (e :: es) [] pos) (liftE (wd X) W (callBE f ms)) := by
  obtain ⟨fa, hm, hk, F⟩ := d.ex
  refine ⟨fun pins sh σ H Q I ⟨Fr, μ, ρ, s, he', hs, h⟩ => ?_⟩
  refine wpAny_Call_Name_kw (ld_glob I hg hm ?_ hdb)
  have hq : liftAB (wd X) W ms σ H fun vs H1 => spF (wd X) f vs H1 Q (fun _ _ _ => False) := ⟨Fr, μ, ρ, s, he', hs, runs_bind (Rel1 := RWs (wd X)) h fun ds s1 μ1 H1 vs e1 x1 hs1 r1 h1 => by
    by_cases hb : ds.all D.bArg = true
    case neg => rw [if_neg hb] at h1; exact h1.elim
    rw [if_pos hb] at h1
    obtain ⟨μ2, m2, z2, w2, hs2, r2, x2⟩ := frz_all r1 hb hs1
    refine ⟨μ2, ds, s1, r2, hs2, ?_⟩
    cases q : f ds s1 with
    | err c ns vs s' => rw [q] at h1; exact h1.elim
    | bad => rw [q] at h1; exact h1.elim
    | ok v s' =>
      rw [q] at h1
      have h1 : runs (wd X) W σ μ1 H1 (RV (wd X)) Q (if (v.lite && s'.all D.lite1) = true then .ok v s' else .bad) := h1
      split at h1
      case isFalse => exact h1.elim
      rename_i hl
      simp only [Bool.and_eq_true, List.all_eq_true] at hl
      intro μ3 H3 b x3 hs3 r3
      -- what was made to stay is let go again
      let P : Addr → Prop := fun q => μ2.z q ∧ ¬ μ1.z q
      have zm : ∀ q, μ3.z q ∧ ¬ P q → q ∉ μ3.m := fun q hq => μ3.zm q hq.1
      have hz : ∀ q, μ3.z q → P q ∨ (μ3.z q ∧ ¬ P q) := fun q hq => (Classical.em (P q)).imp id fun n => ⟨hq, n⟩
      have hP : ∀ q, P q → ∃ kk, H3 q = some (.dK kk) := fun q hq => by
        rcases w2 q hq.1 with z | ⟨kk, e⟩
        · exact absurd z hq.2
        · exact ⟨kk, x3.z hq.1 e⟩
      have em : (⟨μ3.m, fun q => μ3.z q ∧ ¬ P q, zm⟩ : M).m = μ3.m := rfl
      refine h1 ⟨μ3.m, fun q => μ3.z q ∧ ¬ P q, zm⟩ H3 b ⟨?_, x3.trk, x3.tup, x3.frz, fun p u e n _ => x3.oth p u e (by rw [m2]; exact n) (.inr id), fun q h => ⟨x3.zs q (z2 q h), fun n => n.2 h⟩, fun q h => ?_⟩
        ⟨hs3.len, hs3.nd, fun q hq => hs3.zt q hq.1, fun i o p ei ep => (hs3.at_ i o p ei ep).lite em hz hP (hl.2 o (List.mem_of_getElem? ei))⟩ (r3.lite em hz hP hl.1)
      · obtain ⟨ν, eν, hν⟩ := x3.pre
        exact ⟨ν, by show μ3.m = _; rw [eν, m2], hν⟩
      · rcases x3.zn q h.1 with z | z | z
        · by_cases h1 : μ1.z q
          · exact .inl h1
          · exact absurd ⟨z, h1⟩ h.2
        · exact z.elim
        · exact .inr (.inr z)⟩
  exact PySem.W.callWith_K (h₀ := X.base) I.ok.mod.kin hk (thn (ha.run pos pins sh σ H _ I hq) fun us s1 ⟨vs, H1, I1, r, q⟩ => ⟨I1.kIn, run_def0 F hr I1 r q fun v s' h => h⟩) he hpl
end
end Fv

namespace Fv
open PySem PySem.Spec PyProof.Rows L2
/-! ### defs with defaults, called with all they take; defs with a last starred parameter; own classes -/
structure FunV (K : PySem.W.Frag) (x qual : Str) (st : Stmt) (f : Addr) (fd : FuncData) : Prop where
  ex : ∃ (oc : Value) (od : Option Addr) (dV kV doc pm : Value) (an : Option Addr) (cdv ct : Value) (osl : Array (Option Value)), fd = PySem.W.fnOf x qual (defArgs st) (defBody st) (defScope st) dV kV doc pm an cdv ct ∧ K.lookup f = some ⟨oc, od, .func fd, osl⟩ ∧ PySem.W.codeIn K cdv qual = true
  kp : PySem.W.keepIn K (.ref f) = true
structure DefDAt (K : PySem.W.Frag) (mg : Str → Option Value) (x : Str) (st : Stmt) (ps : List Str) : Prop where
  ex : ∃ (fa : Addr) (fd : FuncData), mg x = some (.ref fa) ∧ FunV K x x st fa fd ∧ ∀ (s : Shared) (us : List Value), K.In s.heap → us.length = ps.length → BindsTo s fd ⟨us, []⟩ (ps.zip us)
structure DefSAt (K : PySem.W.Frag) (mg : Str → Option Value) (x : Str) (st : Stmt) (ps : List Str) (pv : Str) : Prop where
  ex : ∃ (fa : Addr) (fd : FuncData), mg x = some (.ref fa) ∧ Fun K x x st fa fd ∧
    ∀ (kV doc pm : Value) (an : Option Addr) (cdv ct : Value) (us rest : List Value), us.length = ps.length → bindArgs (PySem.W.fnOf x x (defArgs st) (defBody st) (defScope st) .none kV doc pm an cdv ct) ⟨us ++ rest, []⟩ = (newTuple rest >>= fun t => pure (ps.zip us ++ [(pv, t)]))
/-- an own class whose objects are made -/
structure MkAt (K : PySem.W.Frag) (mg : Str → Option Value) (c qual : Str) (st : Stmt) (ps : List Str) (C : Addr) : Prop where
  gC : mg c = some (.ref C)
  ini : ∃ (fI : Addr) (fd : FuncData), Mk K C fI ∧ Fun K "__init__" qual st fI fd ∧ Binds K fd (("self" : Str) :: ps) []
structure MthAt (K : PySem.W.Frag) (mg : Str → Option Value) (c m qual : Str) (st : Stmt) (ps : List Str) (C : Addr) : Prop where
  gC : mg c = some (.ref C)
  cl : Cls K C
  ini : ∃ (fI : Addr) (fd : FuncData), Meth K C m fI ∧ Fun K m qual st fI fd ∧ Binds K fd (("self" : Str) :: ps) []
structure MkOk (P : Program) (w : World) (K : PySem.W.Frag) (mg : Str → Option Value) (base : Heap) (k : Nat) (c : Str) (f : Fn) : Prop where
  ex : ∃ (C fI : Addr), mg c = some (.ref C) ∧ Mk K C fI ∧ FnG P w K mg base k fI (spF ⟨K, mg, P, w⟩ f)
section
variable {P : Program} {w : World} {K : PySem.W.Frag} {mg : Str → Option Value} {base : Heap} {k : Nat} {x : Str} {st : Stmt} {ps N : List Str} {n nN : Nat} {body : C}
theorem MkOk.mono {c : Str} {f : Fn} {j : Nat} (d : MkOk P w K mg base j c f) (h : j ≤ k) : MkOk P w K mg base k c f := by
  obtain ⟨C, fI, a, b, F⟩ := d.ex
  exact ⟨C, fI, a, b, F.mono h⟩
theorem DefDAt.ok (T : DefDAt K mg x st ps) (S : FnScope N ps (defScope st)) (hnN : N.length = nN) (hn : ps.length = n)
    (hbody : ∀ (fa : Addr) (cdv : Value) (A : Around) (outer : List PySem.Env) (s : Shared) (H : Hp) (E : XK) (Fr : Addr → Prop), Rm k (A.deeper (envOfC x (defScope st) s.heap.objs.size fa cdv)) →
      QSs (cxOf (L2.CX P w) P w K mg base N x (defScope st) fa cdv A outer s H E) (fun c d _ H => E c d H) Fr (defBody st) body) : DefOk P w K mg base (k + 1) x (mkFn n nN body) := by
  obtain ⟨fa, fd, hm, F, hb⟩ := T.ex
  refine ⟨fa, hm, F.kp, ?_⟩
  intro A outer s H us vs Q E hr e0 r hsp
  obtain ⟨oc, od, dV, kV, doc, pm, an, cdv, ct, osl, rfl, lk, hcd⟩ := F.ex
  obtain ⟨μ, ds, st', rr, hs, h⟩ := hsp
  unfold mkFn at h
  split at h
  · rename_i hl
    have hln : ds.length = n := of_decide_eq_true hl
    have hus : us.length = ps.length := by rw [← r.length, ← rr.length, hln, hn]
    have KX : K.In s.heap := e0.mod.kin.keeps fun b o e => (e0.bs b o e).1
    refine StX.run_bnd (E := E) lk hcd S hr.r e0 (G := fun xs H2 => xs = vs ∧ H2 = H) (fun A' Ex Q' hq => ?_) fun s2 H2 xs ⟨ex, eH⟩ hr' => ?_
    · exact hb s us KX hus _ A' _ _ (hq s H vs us e0 Un.refl rfl (fun _ _ z => z) r (by rw [← rr.length, hln, hn]) ⟨rfl, rfl⟩)
    · subst ex; subst eH
      refine ⟨_, hbody fa cdv A outer s2 _ E (fun p => H2 p = none) ⟨hr', hr.g⟩, μ, _, st', fun p e => e, ren_start rr hnN, hs, ?_⟩
      rw [hln]
      exact fin_sound h
  · exact h.elim
theorem DefSAt.ok {pv : Str} (T : DefSAt K mg x st ps pv) (S : FnScope N (ps ++ [pv]) (defScope st)) (hnN : N.length = nN) (hn : ps.length = n)
    (hbody : ∀ (fa : Addr) (cdv : Value) (A : Around) (outer : List PySem.Env) (s : Shared) (H : Hp) (E : XK) (Fr : Addr → Prop), Rm k (A.deeper (envOfC x (defScope st) s.heap.objs.size fa cdv)) →
      QSs (cxOf (L2.CX P w) P w K mg base N x (defScope st) fa cdv A outer s H E) (fun c d _ H => E c d H) Fr (defBody st) body) : DefOk P w K mg base (k + 1) x (mkFnS n nN body) := by
  obtain ⟨fa, fd, hm, F, hb⟩ := T.ex
  exact ⟨fa, hm, F.kp, defS_g F S hnN hn hb (hbody fa)⟩
theorem MkAt.ok {c qual : Str} {C : Addr} (T : MkAt K mg c qual st ps C) (S : FnScope N (("self" : Str) :: ps) (defScope st)) (hnN : N.length = nN) (hn : (("self" : Str) :: ps).length = n)
    (hbody : ∀ (fa : Addr) (cdv : Value) (A : Around) (outer : List PySem.Env) (s : Shared) (H : Hp) (E : XK) (Fr : Addr → Prop), Rm k (A.deeper (envOfC qual (defScope st) s.heap.objs.size fa cdv)) →
      QSs (cxOf (L2.CX P w) P w K mg base N qual (defScope st) fa cdv A outer s H E) (fun c d _ H => E c d H) Fr (defBody st) body) : MkOk P w K mg base (k + 1) c (mkFn n nN body) := by
  obtain ⟨fI, fd, M0, F, b⟩ := T.ini
  exact ⟨C, fI, T.gC, M0, def_g F S hnN hn (binds_zip b) (hbody fI)⟩
theorem MthAt.ok {c m qual : Str} {C : Addr} (T : MthAt K mg c m qual st ps C) (S : FnScope N (("self" : Str) :: ps) (defScope st)) (hnN : N.length = nN) (hn : (("self" : Str) :: ps).length = n)
    (hbody : ∀ (fa : Addr) (cdv : Value) (A : Around) (outer : List PySem.Env) (s : Shared) (H : Hp) (E : XK) (Fr : Addr → Prop), Rm k (A.deeper (envOfC qual (defScope st) s.heap.objs.size fa cdv)) →
      QSs (cxOf (L2.CX P w) P w K mg base N qual (defScope st) fa cdv A outer s H E) (fun c d _ H => E c d H) Fr (defBody st) body) : MthOk P w K mg base (k + 1) [c] m (mkFn n nN body) := by
  intro c' hc C' e
  obtain rfl : c' = c := by simpa using hc
  rw [T.gC] at e; cases e
  obtain ⟨fI, fd, M0, F, b⟩ := T.ini
  exact ⟨fI, T.cl, M0, def_g F S hnN hn (binds_zip b) (hbody fI)⟩
end
section
variable {X : Cx} {W : WX} {k : Nat} {x : Str} {f : Fn} {p pos : Pos} {e : Expr} {es : List Expr} {ms : As}
abbrev MkX (X : Cx) (k : Nat) (c : Str) (f : Fn) : Prop := MkOk X.prog X.w X.K X.mg X.base k c f
theorem q_new (d : MkX X k x f) (hr : Rm (k + 1) X.A) (tk : Takes X W) (ha : PA X (e :: es) (liftA (wd X) W ms)) (hg : Gl X x := by rfl) (hdb : (x == ("__debug__" : Str)) = false := by decide)
    (he : starEach (e :: es) X.env = (false, eval e X.env) :: starEach es X.env := by rfl) (hpl : (backTo pos (starEach es X.env)).any (·.1) = false := by rfl) : PE X (.Call (.Name x p) (e :: es) [] pos) (liftF (wd X) W (callE (makeF x f) ms)) := by
  obtain ⟨C, fI, hm, M0, F⟩ := d.ex
  exact q_make M0 F hr tk hm ha hg hdb he hpl
end
end Fv

namespace Fv
open PySem PySem.Spec L2
/-! ### what code evaluates to, part by part -/
section
variable {ρ ρ' : En} {s s1 s2 s3 : S} {a b c m mo : E} {x y z d : D} {o o1 o2 : D → D → S → R D} {xs ys : List D} {r : As} {f : Fn} {t tb : T} {k : Bool} {i : Nat} {body st st2 : C} {n : Nat}
theorem bin_ok (ha : a ρ s = .ok x s1) (hb : b ρ s1 = .ok y s2) (ho : o x y s2 = .ok z s3) : binE o a b ρ s = .ok z s3 := by simp only [binE, ha, R.bind, hb, ho]
theorem un_ok {o : D → S → R D} (ha : a ρ s = .ok x s1) (ho : o x s1 = .ok z s2) : unE o a ρ s = .ok z s2 := by simp only [unE, ha, R.bind, ho]
theorem cons_ok (ha : a ρ s = .ok x s1) (hr : r ρ s1 = .ok xs s2) : consA a r ρ s = .ok (x :: xs) s2 := by simp only [consA, ha, R.bind, hr]
theorem star_ok (ha : a ρ s = .ok x s1) (hx : seqOf s1 x = some ys) (hr : r ρ s1 = .ok xs s2) : starA a r ρ s = .ok (ys ++ xs) s2 := by simp only [starA, ha, R.bind, hx, hr]
theorem call_ok (ha : r ρ s = .ok xs s1) (hf : f xs s1 = .ok z s2) : callE f r ρ s = .ok z s2 := by simp only [callE, ha, R.bind, hf]
theorem callB_ok (ha : r ρ s = .ok xs s1) (hf : f xs s1 = .ok z s2) (hb : xs.all D.bArg = true) (hl : (z.lite && s2.all D.lite1) = true) : callBE f r ρ s = .ok z s2 := by simp only [callBE, ha, R.bind, hb, hf, hl, if_true]
theorem tup_ok (ha : r ρ s = .ok xs s1) (hz : szl xs.length = true) : tupE r ρ s = .ok (.tup xs) s1 := by simp only [tupE, ha, R.bind, hz, if_true]
theorem lst_ok (ha : r ρ s = .ok xs s1) (hz : szl xs.length = true) : lstE r ρ s = .ok (.lst xs) s1 := by simp only [lstE, ha, R.bind, hz, if_true]
theorem tst_ok (ha : a ρ s = .ok (.bl k) s1) : tstE a ρ s = .ok k s1 := by simp only [tstE, ha, R.bind, boolE]
theorem tru_ok (ha : a ρ s = .ok x s1) (ht : truthB x s1 = some k) : truE a ρ s = .ok k s1 := by simp only [truE, ha, R.bind, truth, ht]
theorem not_ok (h : t ρ s = .ok k s1) : notT t ρ s = .ok (!k) s1 := by simp only [notT, h, R.bind]
theorem or_t (h : t ρ s = .ok true s1) : orT t tb ρ s = .ok true s1 := by simp only [orT, h, R.bind, if_true]
theorem or_f (h : t ρ s = .ok false s1) (h2 : tb ρ s1 = .ok k s2) : orT t tb ρ s = .ok k s2 := by simp only [orT, h, R.bind, Bool.false_eq_true, if_false, h2]
theorem and_f (h : t ρ s = .ok false s1) : andT t tb ρ s = .ok false s1 := by simp only [andT, h, R.bind, Bool.false_eq_true, if_false]
theorem and_t (h : t ρ s = .ok true s1) (h2 : tb ρ s1 = .ok k s2) : andT t tb ρ s = .ok k s2 := by simp only [andT, h, R.bind, if_true, h2]
theorem ifE_t (h : t ρ s = .ok true s1) (h2 : a ρ s1 = .ok x s2) : ifE t a b ρ s = .ok x s2 := by simp only [ifE, h, R.bind, if_true, h2]
theorem ifE_f (h : t ρ s = .ok false s1) (h2 : b ρ s1 = .ok x s2) : ifE t a b ρ s = .ok x s2 := by simp only [ifE, h, R.bind, Bool.false_eq_true, if_false, h2]
theorem set_ok (h : a ρ s = .ok x s1) : setS i a ρ s = .nx (ρ.set i (some (.v x))) s1 := by simp only [setS, h, R.stm]
theorem own_ok (h : a ρ s = .ok x s1) (hd : x.heavy = true) : ownS i a ρ s = .nx (ρ.set i (some (.o x))) s1 := by simp only [ownS, h, R.stm, hd, if_true]
theorem ret_ok (h : a ρ s = .ok x s1) : retS a ρ s = .rt x s1 := by simp only [retS, h, R.stm]
theorem ifS_t (h : t ρ s = .ok true s1) : ifS t st st2 ρ s = st ρ s1 := by simp only [ifS, h, R.stm, if_true]
theorem ifS_f (h : t ρ s = .ok false s1) : ifS t st st2 ρ s = st2 ρ s1 := by simp only [ifS, h, R.stm, Bool.false_eq_true, if_false]
theorem ow_ok {T : String} {f : Ow} {d' : D} (e : ρ[i]? = some (some (.o d))) (ty : owTy T d = true) (ha : r ρ s = .ok xs s1) (hf : f d xs = some (d', x)) : owS i T f r ρ s = .nx (ρ.set i (some (.o d'))) s1 := by simp only [owS, owE, e, ty, if_true, ha, R.stm, hf]
theorem put_ok {d' : D} (e : ρ[i]? = some (some (.o d))) (hv : b ρ s = .ok x s1) (hk : a ρ s1 = .ok y s2) (hp : putO d y x = some d') : putS i a b ρ s = .nx (ρ.set i (some (.o d'))) s2 := by simp only [putS, e, hv, R.stm, hk, hp]
theorem fst_ok {cs : List Tx} {g : Tx} (h1 : a ρ s = .ok x s1) (h2 : mo ρ s1 = .ok y s2) (h3 : fstD cs g y x s2 = some s3) : fstS cs g mo a ρ s = .nx ρ s3 := by simp only [fstS, h1, R.stm, h2, h3]
theorem seq_ct (h : st ρ s = .ct ρ' s1) : seqS st st2 ρ s = .ct ρ' s1 := by simp only [seqS, h, RS.next]
theorem frz_ok (e : ρ[i]? = some (some (.o d))) (hd : d.heavy = true) : frzS i ρ s = .nx (ρ.set i (some (.v d))) s := by simp only [frzS, e, hd, if_true]
theorem frz_v (e : ρ[i]? = some (some (.v d))) : frzS i ρ s = .nx ρ s := by simp only [frzS, e]
/-- comprehensions -/
theorem lc_gen {t : Tg} {c : T} {e : E} {ρ : En} {s : S} (sel : D → Bool) (g : D → D) : ∀ (ds acc : List D), (∀ d ∈ ds, ∃ ρ1, asg t d ρ = some ρ1 ∧ c ρ1 s = .ok (sel d) s ∧ (sel d = true → e ρ1 s = .ok (g d) s)) → acc.length + ds.length < 1000 →
    lcL allK t c e ρ ds acc s = .ok (acc ++ (ds.filter sel).map g) s
  | [], acc, _, _ => by simp [lcL, allK]
  | d :: ds, acc, h, hl => by
    obtain ⟨ρ1, h1, h2, h3⟩ := h d (by simp)
    have hz : decide (acc.length < sizeLine) = true := decide_eq_true (Nat.lt_of_lt_of_le (show acc.length < 1000 by simp at hl; omega) (by decide))
    have rest : ∀ acc' : List D, acc'.length ≤ acc.length + 1 → lcL allK t c e ρ ds acc' s = .ok (acc' ++ (ds.filter sel).map g) s := fun acc' ha => lc_gen sel g ds acc' (fun d' hd => h d' (List.mem_cons_of_mem _ hd)) (by simp at hl; omega)
    cases q : sel d with
    | false =>
      rw [q] at h2
      simp only [lcL, allK, if_true, h1, h2, R.noerr, R.bind, Bool.false_eq_true, if_false]
      rw [rest acc (by omega)]
      simp [List.filter_cons, q]
    | true =>
      rw [q] at h2
      simp only [lcL, allK, if_true, h1, h2, R.noerr, R.bind, h3 q, hz]
      rw [rest _ (by simp)]
      simp [List.filter_cons, q]
theorem lcE_ok {it : Is} {vs : List Nat} {t : Tg} {c : T} {e : E} {ds out : List D} (hi : it ρ s = .ok ⟨ds, allK⟩ s1) (h : lcL allK t c e (wipeD ρ vs) ds [] s1 = .ok out s2) : lcE it vs t c e ρ s = .ok (.lst out) s2 := by simp only [lcE, hi, R.bind, h]
theorem iter_ok (h : a ρ s = .ok (.lst xs) s1) : iterE a ρ s = .ok ⟨xs, allK⟩ s1 := by simp only [iterE, h, R.bind, iterD]
theorem iter_tup (h : a ρ s = .ok (.tup xs) s1) : iterE a ρ s = .ok ⟨xs, allK⟩ s1 := by simp only [iterE, h, R.bind, iterD]
theorem idx_ok (h : idxS s x y = some z) : idxD x y s = .ok z s := by simp only [idxD, h]
theorem small {n : Nat} (h : n < 1000) : decide (n < sizeLine) = true := decide_eq_true (Nat.lt_of_lt_of_le h (by decide))
theorem szl_lt {n : Nat} (h : n < 1000) : szl n = true := by
  simp only [szl, decide_eq_true_eq]
  exact Nat.le_trans (Nat.le_of_lt h) (by decide)
end
end Fv

namespace Fv
open PySem PySem.Spec L2
/-! ### sets of texts, ascending -/
def addS (l : List Tx) (x : Tx) : List Tx := if x ∈ l then l else l ++ [x]
def uS (l : List Tx) : List Tx := l.foldl addS []
def canon (l : List Tx) : List Tx := sortS (uS l)
theorem hasK_in (kk : List Key) (k : Key) : hasK kk k = true ↔ k ∈ kk := by simp [hasK]
theorem addK_str (l : List Tx) (x : Tx) : addK (l.map Sum.inr) (.inr x) = (addS l x).map Sum.inr := by
  have h : hasK (l.map (Sum.inr : Tx → Key)) (.inr x) = true ↔ x ∈ l := by
    rw [hasK_in]; simp
  unfold addK addS
  by_cases hx : x ∈ l
  · rw [if_pos (h.mpr hx), if_pos hx]
  · rw [if_neg (fun z => hx (h.mp z)), if_neg hx]; simp
theorem fold_str (xs : List Tx) : ∀ l : List Tx, (xs.map (Sum.inr : Tx → Key)).foldl addK (l.map Sum.inr) = (xs.foldl addS l).map Sum.inr := by
  induction xs with
  | nil => intro l; rfl
  | cons x xs ih => intro l; rw [List.map_cons, List.foldl_cons, addK_str, ih, List.foldl_cons]
theorem foldK_str (xs : List Tx) : foldK (xs.map Sum.inr) = (uS xs).map Sum.inr := fold_str xs []
theorem uS_aux (xs : List Tx) : ∀ l : List Tx, l.Nodup → (xs.foldl addS l).Nodup ∧ ∀ x, x ∈ xs.foldl addS l ↔ x ∈ l ∨ x ∈ xs := by
  induction xs with
  | nil => intro l h; exact ⟨h, fun x => by simp⟩
  | cons y xs ih =>
    intro l h
    have h2 : (addS l y).Nodup := by
      unfold addS; split
      · exact h
      · rename_i hy
        rw [List.nodup_append]
        exact ⟨h, by simp, fun a ha b hb => by simp at hb; subst hb; exact fun z => hy (z ▸ ha)⟩
    have h3 : ∀ x, x ∈ addS l y ↔ x ∈ l ∨ x = y := by
      intro x; unfold addS; split
      · rename_i hy
        exact ⟨.inl, fun z => z.elim id fun z => z ▸ hy⟩
      · simp
    obtain ⟨a, b⟩ := ih _ h2
    refine ⟨a, fun x => ?_⟩
    rw [List.foldl_cons, b, h3]
    simp [or_assoc]
theorem uS_nodup (xs : List Tx) : (uS xs).Nodup := (uS_aux xs [] List.nodup_nil).1
theorem mem_uS {xs : List Tx} {x : Tx} : x ∈ uS xs ↔ x ∈ xs := by rw [uS, (uS_aux xs [] List.nodup_nil).2]; simp
theorem uS_len (xs : List Tx) : (uS xs).length ≤ xs.length := (uS_nodup xs).length_le_of_subset fun _ h => mem_uS.mp h
theorem sortS_sorted (xs : List Tx) : (sortS xs).Pairwise leS := by
  have z := List.pairwise_mergeSort (le := fun a b : Str => decide (leS a b)) (fun a b c h1 h2 => decide_eq_true (leS_trans (of_decide_eq_true h1) (of_decide_eq_true h2))) (fun a b => by
    rcases leS_total a b with h | h
    · simp [h]
    · simp [h]) xs
  exact z.imp (fun h => of_decide_eq_true h)
theorem sortS_eq {xs ys : List Tx} (p : xs.Perm ys) : sortS xs = sortS ys :=
  List.Perm.eq_of_pairwise (fun a b _ _ h1 h2 => leS_anti h1 h2) (sortS_sorted xs) (sortS_sorted ys) ((sortS_perm xs).trans (p.trans (sortS_perm ys).symm))
theorem canon_eq {xs ys : List Tx} (h : ∀ x, x ∈ xs ↔ x ∈ ys) : canon xs = canon ys :=
  sortS_eq ((List.perm_ext_iff_of_nodup (uS_nodup xs) (uS_nodup ys)).mpr fun x => by rw [mem_uS, mem_uS, h])
theorem mem_canon {xs : List Tx} {x : Tx} : x ∈ canon xs ↔ x ∈ xs := by rw [canon, (sortS_perm _).mem_iff, mem_uS]
theorem canon_len (xs : List Tx) : (canon xs).length ≤ xs.length := by rw [canon, (sortS_perm _).length_eq]; exact uS_len xs
theorem txOf_str : ∀ xs : List Tx, txOf (xs.map D.str) = some xs
  | [] => rfl
  | x :: xs => by simp [txOf, txOf_str xs]
theorem kD_str (xs : List Tx) : (xs.map (Sum.inr : Tx → Key)).map kD = xs.map D.str := by rw [List.map_map]; rfl
theorem sorted_set {xs : List Tx} {s : S} (h : xs.length < 1000) : sortedF [.set (xs.map D.str)] s = .ok (.lst ((sortS xs).map D.str)) s := by
  cases xs with
  | nil => simp [sortedF, intsOf, sortI, sortS]
  | cons x xs =>
    have h1 : intsOf ((x :: xs).map D.str) = none := rfl
    have h2 : szl (x :: xs).length = true := szl_lt h
    unfold sortedF
    simp only [h1]
    unfold sortedSF
    simp only [txOf_str, h2, if_true]
theorem keysD_str : ∀ xs : List Tx, keysD (xs.map D.str) = some (xs.map Sum.inr)
  | [] => rfl
  | x :: xs => by simp [keysD, keyD, keysD_str xs]
theorem set_strs {xs : List Tx} {s : S} (h : xs.length < 1000) : setF [.lst (xs.map D.str)] s = .ok (.set ((uS xs).map D.str)) s := by
  have h1 : decide ((xs.map (Sum.inr : Tx → Key)).length < 1000) = true := decide_eq_true (by rw [List.length_map]; exact h)
  simp only [setF, lsOf, keysD_str, h1, if_true, foldK_str, kD_str]
/-- set comprehensions -/
theorem sk_gen {t : Tg} {c : T} {e : E} {ρ : En} {s : S} (sel : D → Bool) (g : D → Key) : ∀ (ds : List D) (acc : List Key), (∀ d ∈ ds, ∃ ρ1, asg t d ρ = some ρ1 ∧ c ρ1 s = .ok (sel d) s ∧ (sel d = true → e ρ1 s = .ok (kD (g d)) s)) → acc.length + ds.length < 1000 →
    skL allK t c e ρ ds acc s = .ok (((ds.filter sel).map g).foldl addK acc) s
  | [], acc, _, _ => by simp [skL, allK]
  | d :: ds, acc, h, hl => by
    obtain ⟨ρ1, h1, h2, h3⟩ := h d (by simp)
    have hz : decide (acc.length < 1000) = true := decide_eq_true (by simp at hl; omega)
    have rest : ∀ acc' : List Key, acc'.length ≤ acc.length + 1 → skL allK t c e ρ ds acc' s = .ok (((ds.filter sel).map g).foldl addK acc') s := fun acc' ha => sk_gen sel g ds acc' (fun d' hd => h d' (List.mem_cons_of_mem _ hd)) (by simp at hl; omega)
    have kk : ∀ k : Key, keyD (kD k) = some k := fun k => by cases k <;> rfl
    cases q : sel d with
    | false =>
      rw [q] at h2
      simp only [skL, allK, if_true, h1, h2, R.noerr, R.bind, Bool.false_eq_true, if_false]
      rw [rest acc (by omega)]
      simp [List.filter_cons, q]
    | true =>
      rw [q] at h2
      simp only [skL, allK, if_true, h1, h2, R.noerr, R.bind, h3 q, kk, hz]
      rw [rest _ (by unfold addK; split <;> simp)]
      simp [List.filter_cons, q]
theorem skE_ok {it : Is} {vs : List Nat} {t : Tg} {c : T} {e : E} {ds : List D} {out : List Key} {ρ : En} {s s1 s2 : S} (hi : it ρ s = .ok ⟨ds, allK⟩ s1) (h : skL allK t c e (wipeD ρ vs) ds [] s1 = .ok out s2) : skE it vs t c e ρ s = .ok (.set (out.map kD)) s2 := by simp only [skE, hi, R.bind, h]
theorem addK_le1 (acc : List Key) (k : Key) : (addK acc k).length ≤ acc.length + 1 := by unfold addK; split <;> simp
theorem foldK_le (l : List Key) : ∀ acc : List Key, (l.foldl addK acc).length ≤ acc.length + l.length := by
  induction l with
  | nil => intro acc; simp
  | cons k l ih => intro acc; rw [List.foldl_cons]; have := ih (addK acc k); have := addK_le1 acc k; simp; omega
/-- of two clauses: each item d of the first has the items its d; of these g -/
theorem sk2_gen {t t1 : Tg} {c c1 : T} {it1 : Is} {vs1 : List Nat} {e : E} {ρ : En} {s : S} (its : D → List D) (sel : D → Bool) (g : D → Key) (b : Nat) : ∀ (ds : List D) (acc : List Key),
    (∀ d ∈ ds, ∃ ρ1, asg t d ρ = some ρ1 ∧ c ρ1 s = .ok true s ∧ it1 ρ1 s = .ok ⟨its d, allK⟩ s ∧ (its d).length ≤ b ∧ ∀ x ∈ its d, ∃ ρ2, asg t1 x (wipeD ρ1 vs1) = some ρ2 ∧ c1 ρ2 s = .ok (sel x) s ∧ (sel x = true → e ρ2 s = .ok (kD (g x)) s)) → acc.length + ds.length * b < 900 - b →
    sk2L allK t c it1 vs1 t1 c1 e ρ ds acc s = .ok ((ds.flatMap fun d => ((its d).filter sel).map g).foldl addK acc) s
  | [], acc, _, _ => by simp [sk2L, allK]
  | d :: ds, acc, h, hl => by
    obtain ⟨ρ1, h1, h2, h3, h4, h5⟩ := h d (by simp)
    have hl2 : acc.length + (ds.length * b + b) < 900 - b := by
      have : (d :: ds).length * b = ds.length * b + b := by rw [List.length_cons, Nat.add_mul, Nat.one_mul]
      omega
    have i1 := sk_gen (t := t1) (c := c1) (e := e) (ρ := wipeD ρ1 vs1) (s := s) sel g (its d) acc h5 (by omega)
    have la := foldK_le (((its d).filter sel).map g) acc
    have lf : ((its d).filter sel).length ≤ (its d).length := List.length_filter_le ..
    have rest := sk2_gen (t := t) (t1 := t1) (c := c) (c1 := c1) (it1 := it1) (vs1 := vs1) (e := e) (ρ := ρ) (s := s) its sel g b ds ((((its d).filter sel).map g).foldl addK acc) (fun d' hd => h d' (List.mem_cons_of_mem _ hd)) (by rw [List.length_map] at la; omega)
    simp only [sk2L, allK, if_true, h1, h2, R.noerr, R.bind, h3]
    simp only [i1, rest, List.flatMap_cons, List.foldl_append]
/-- the same, over what the items are made of -/
theorem lc_map {α : Type} {t : Tg} {c : T} {e : E} {ρ : En} {s : S} (h : α → D) (sel : α → Bool) (g : α → D) : ∀ (l : List α) (acc : List D), (∀ a ∈ l, ∃ ρ1, asg t (h a) ρ = some ρ1 ∧ c ρ1 s = .ok (sel a) s ∧ (sel a = true → e ρ1 s = .ok (g a) s)) → acc.length + l.length < 1000 →
    lcL allK t c e ρ (l.map h) acc s = .ok (acc ++ (l.filter sel).map g) s
  | [], acc, _, _ => by simp [lcL, allK]
  | a :: l, acc, hh, hl => by
    obtain ⟨ρ1, h1, h2, h3⟩ := hh a (by simp)
    have hz : decide (acc.length < sizeLine) = true := decide_eq_true (Nat.lt_of_lt_of_le (show acc.length < 1000 by simp at hl; omega) (by decide))
    have rest : ∀ acc' : List D, acc'.length ≤ acc.length + 1 → lcL allK t c e ρ (l.map h) acc' s = .ok (acc' ++ (l.filter sel).map g) s := fun acc' ha => lc_map h sel g l acc' (fun d' hd => hh d' (List.mem_cons_of_mem _ hd)) (by simp at hl; omega)
    cases q : sel a with
    | false =>
      rw [q] at h2
      simp only [List.map_cons, lcL, allK, if_true, h1, h2, R.noerr, R.bind, Bool.false_eq_true, if_false]
      rw [rest acc (by omega)]
      simp [List.filter_cons, q]
    | true =>
      rw [q] at h2
      simp only [List.map_cons, lcL, allK, if_true, h1, h2, R.noerr, R.bind, h3 q, hz]
      rw [rest _ (by simp)]
      simp [List.filter_cons, q]
theorem sk_map {α : Type} {t : Tg} {c : T} {e : E} {ρ : En} {s : S} (h : α → D) (sel : α → Bool) (g : α → Key) : ∀ (l : List α) (acc : List Key), (∀ a ∈ l, ∃ ρ1, asg t (h a) ρ = some ρ1 ∧ c ρ1 s = .ok (sel a) s ∧ (sel a = true → e ρ1 s = .ok (kD (g a)) s)) → acc.length + l.length < 1000 →
    skL allK t c e ρ (l.map h) acc s = .ok (((l.filter sel).map g).foldl addK acc) s
  | [], acc, _, _ => by simp [skL, allK]
  | a :: l, acc, hh, hl => by
    obtain ⟨ρ1, h1, h2, h3⟩ := hh a (by simp)
    have hz : decide (acc.length < 1000) = true := decide_eq_true (by simp at hl; omega)
    have rest : ∀ acc' : List Key, acc'.length ≤ acc.length + 1 → skL allK t c e ρ (l.map h) acc' s = .ok (((l.filter sel).map g).foldl addK acc') s := fun acc' ha => sk_map h sel g l acc' (fun d' hd => hh d' (List.mem_cons_of_mem _ hd)) (by simp at hl; omega)
    have kk : ∀ k : Key, keyD (kD k) = some k := fun k => by cases k <;> rfl
    cases q : sel a with
    | false =>
      rw [q] at h2
      simp only [List.map_cons, skL, allK, if_true, h1, h2, R.noerr, R.bind, Bool.false_eq_true, if_false]
      rw [rest acc (by omega)]
      simp [List.filter_cons, q]
    | true =>
      rw [q] at h2
      simp only [List.map_cons, skL, allK, if_true, h1, h2, R.noerr, R.bind, h3 q, kk, hz]
      rw [rest _ (by unfold addK; split <;> simp)]
      simp [List.filter_cons, q]
theorem sk2_map {α β : Type} {t t1 : Tg} {c c1 : T} {it1 : Is} {vs1 : List Nat} {e : E} {ρ : En} {s : S} (h : α → D) (its : α → List β) (h1 : β → D) (sel : β → Bool) (g : β → Key) (b : Nat) : ∀ (l : List α) (acc : List Key),
    (∀ a ∈ l, ∃ ρ1, asg t (h a) ρ = some ρ1 ∧ c ρ1 s = .ok true s ∧ it1 ρ1 s = .ok ⟨(its a).map h1, allK⟩ s ∧ (its a).length ≤ b ∧ ∀ x ∈ its a, ∃ ρ2, asg t1 (h1 x) (wipeD ρ1 vs1) = some ρ2 ∧ c1 ρ2 s = .ok (sel x) s ∧ (sel x = true → e ρ2 s = .ok (kD (g x)) s)) → acc.length + l.length * b < 900 - b →
    sk2L allK t c it1 vs1 t1 c1 e ρ (l.map h) acc s = .ok ((l.flatMap fun a => ((its a).filter sel).map g).foldl addK acc) s
  | [], acc, _, _ => by simp [sk2L, allK]
  | a :: l, acc, hh, hl => by
    obtain ⟨ρ1, h1', h2, h3, h4, h5⟩ := hh a (by simp)
    have hl2 : acc.length + (l.length * b + b) < 900 - b := by
      have : (a :: l).length * b = l.length * b + b := by rw [List.length_cons, Nat.add_mul, Nat.one_mul]
      omega
    have i1 := sk_map (t := t1) (c := c1) (e := e) (ρ := wipeD ρ1 vs1) (s := s) h1 sel g (its a) acc h5 (by omega)
    have la := foldK_le (((its a).filter sel).map g) acc
    have lf : ((its a).filter sel).length ≤ (its a).length := List.length_filter_le ..
    have rest := sk2_map (t := t) (t1 := t1) (c := c) (c1 := c1) (it1 := it1) (vs1 := vs1) (e := e) (ρ := ρ) (s := s) h its h1 sel g b l ((((its a).filter sel).map g).foldl addK acc) (fun d' hd => hh d' (List.mem_cons_of_mem _ hd)) (by rw [List.length_map] at la; omega)
    simp only [List.map_cons, sk2L, allK, if_true, h1', h2, R.noerr, R.bind, h3]
    simp only [i1, rest, List.flatMap_cons, List.foldl_append]
theorem sk2E_ok {it it1 : Is} {vs vs1 : List Nat} {t t1 : Tg} {c c1 : T} {e : E} {ds : List D} {out : List Key} {ρ : En} {s s1 s2 : S} (hi : it ρ s = .ok ⟨ds, allK⟩ s1) (h : sk2L allK t c it1 vs1 t1 c1 e (wipeD ρ vs) ds [] s1 = .ok out s2) : sk2E it vs t c it1 vs1 t1 c1 e ρ s = .ok (.set (out.map kD)) s2 := by simp only [sk2E, hi, R.bind, h]
/-- the greatest -/
def mxN (l : List Nat) : Nat := l.foldr max 0
theorem maxI_n : ∀ (x : Nat) (l : List Nat), maxI ((x :: l).map fun n : Nat => (n : Int)) = (mxN (x :: l) : Nat)
  | x, [] => by simp [maxI, mxN]
  | x, y :: l => by
    have ih := maxI_n y l
    simp only [List.map_cons] at ih ⊢
    unfold maxI
    rw [ih]
    have z : ∀ a b : Nat, (if (a : Int) > b then (a : Int) else b) = ((max b a : Nat) : Int) := by intro a b; split <;> omega
    exact z _ _
theorem mxN_ge {l : List Nat} {x : Nat} (h : x ∈ l) : x ≤ mxN l := by
  induction l with
  | nil => simp at h
  | cons y l ih =>
    simp only [mxN, List.foldr_cons]
    rcases List.mem_cons.mp h with rfl | h
    · omega
    · have := ih h; simp only [mxN] at this; omega
theorem intsOf_n : ∀ l : List Nat, intsOf (l.map fun n : Nat => D.int (n : Int)) = some (l.map fun n : Nat => (n : Int))
  | [] => rfl
  | x :: l => by simp [intsOf, intsOf_n l]
end Fv

namespace Fv
open PySem PySem.Spec PyProof.Rows L2
/-! ### set() of a tuple of keys -/
section
variable {P : Program} {w : World} {A : Around} {E : Value → Shared → Prop} {s : Shared}
theorem call_set_tupK {l : Addr} {items : Array Value} {ks : List Key} {Q : Value → Shared → Prop} (hh : A.handled = none) (hl : s.heap.IsTuple l items) (len : ks.length = items.size) (few : ks.length < 1000) (val : ∀ (i : Nat) (v : Value), items[i]? = some v → ∃ k, ks[i]? = some k ∧ keyIs k v = true)
    (fin : ∀ (h' : Heap) (tk : Nat), SetK w h' s.heap.objs.size (foldK ks) → (∀ b o, b < s.heap.objs.size → s.heap.get? b = some o → h'.get? b = some o) → Q (.ref s.heap.objs.size) { s with heap := h', toks := tk }) :
    wpAny (model P w) A (call (.type "set") [.ref l]) Q E s := by
  obtain ⟨c, tl, m0⟩ := PySem.F.called_set.mro
  have m1 := PySem.F.called_set.made
  have m2 := PySem.F.called_set.sub
  refine wpAny_call (codeAny_of_tree ?_)
  show wpAny _ _ (callAny (.type "set") _) _ _ _
  refine wpAny_pure ⟨Code.quiet_builtin _ (by decide +kernel), codeAny_builtin PySem.F.entry_type_call ?_⟩
  rw [Around.under_plain (weight_type_call_type "set" [.ref l] []) rfl]
  have m3 := PySem.F.called_set.notType
  have m4 := PySem.F.called_set.canCreate
  have m5 := PySem.F.typeCall_set_1 (.ref l)
  repeat (any_goals (first | assumption | wp_step))
  refine codeAny_mono (code_set_led1 (.ref l) (E := E) (Q₁ := fun obj s₁ => obj = .ref s.heap.objs.size ∧ s₁ = { s with heap := s.heap.push (fresh w) }) ⟨rfl, rfl⟩) fun r s₁ hr => ?_
  cases r with
  | error e => exact hr
  | ok fl =>
    cases fl with
    | ret obj =>
      obtain ⟨rfl, rfl⟩ := hr
      have e0 : (s.heap.push (fresh w)).get? s.heap.objs.size = some (fresh w) := Heap.get?_push_size _ rfl
      have ty : Shared.TypeIs { s with heap := s.heap.push (fresh w) } (.ref s.heap.objs.size) "set" := ⟨_, e0, rfl⟩
      have i1 := PySem.F.called_set.init.lookup
      have i2 := PySem.F.called_set.init.bind (.ref s.heap.objs.size)
      repeat (any_goals (first | assumption | wp_step))
      refine codeAny_mono (codeAny_call_builtin (R := wants (fun r s₂ => r = .none ∧ ∃ h' tk, s₂ = { s with heap := h', toks := tk } ∧ SetK w h' s.heap.objs.size (foldK ks) ∧
          (∀ b o, b < s.heap.objs.size → s.heap.get? b = some o → h'.get? b = some o)) E) PySem.F.called_set.init.plain PySem.F.entry_set_init (check_set_init_1 ty ?_)) fun r₂ s₂ hr₂ => ?_
      · obtain ⟨ol, hol, hcl, nl, hdl⟩ := hl
        obtain ⟨ocls, odict, odata, oslots⟩ := ol
        simp only at hcl hdl
        subst hcl; subst hdl
        have hol' : (s.heap.push (fresh w)).get? l = some { cls := .type "tuple", dict := odict, data := .seq items nl, slots := oslots } := Heap.get?_push_of_some _ hol
        have n1 := PySem.F.sub_tuple_set
        have n2 := PySem.F.sub_tuple_frozenset
        have n3 : (Value.type "tuple" == Value.type "dict") = false := by decide
        have l1 : (s.heap.push (fresh w)).IsTuple l items := ⟨_, hol', rfl, nl, rfl⟩
        unfold Builtin.«set.__init__» noKeywords Builtin.Frozenset.updateFrom
        generalize hPI : pyIter = PI
        wp_walk
        subst hPI
        refine wpAny_pyIter_tuple l1 (wpAny_bind (wpAny_runValue ?_))
        have ls : l < s.heap.objs.size := Heap.lt_size hol
        have h3 : A.in1.in1.in1.handled = none := by simp [hh]
        have ne : l ≠ (s.heap.push (fresh w)).objs.size := by
          rw [Heap.size_push]; exact Nat.ne_of_lt (Nat.lt_succ_of_lt ls)
        have out : s.heap.objs.size ∉ [(s.heap.push (fresh w)).objs.size, l] := by
          rw [Heap.size_push]; simp only [List.mem_cons, List.mem_singleton, List.not_mem_nil, or_false, not_or]
          exact ⟨Nat.ne_of_lt (Nat.lt_succ_self _), Nat.ne_of_gt ls⟩
        refine loopK ((Walks.tuple h3 _ l ne items).toS) s.heap.objs.size out ks len (by rw [← len]; exact few) val (items.size - 0) 0 _ (by omega) (Nat.zero_le _)
          ⟨⟨_, Heap.get?_push_size _ rfl, rfl, rfl⟩, l1.push _⟩ ?first ?last
        case first =>
          show SetK w ((s.heap.push (fresh w)).push _) s.heap.objs.size []
          exact fresh_at (Heap.get?_push_of_some _ e0)
        case last =>
          intro s' mv R
          obtain ⟨h', g', d', tk', os'⟩ := s'
          have q1 : g' = s.gens := mv.gens
          have q2 : d' = s.drawn := mv.drawn
          have q3 : os' = s.os := mv.os
          subst q1; subst q2; subst q3
          show wpAny _ _ _ _ _ _
          refine wpAny_pure ?_
          show wpAny _ _ (ret Value.none) _ _ _
          refine wpAny_pure ⟨rfl, h', tk', rfl, R, fun b o hb e => ?_⟩
          have b1 : b ≠ s.heap.objs.size := Nat.ne_of_lt hb
          have b2 : b ≠ (s.heap.push (fresh w)).objs.size := by
            rw [Heap.size_push]; exact Nat.ne_of_lt (Nat.lt_succ_of_lt hb)
          exact mv.heap b o (by simp only [List.mem_cons, List.mem_singleton, List.not_mem_nil, or_false, not_or]; exact ⟨b1, b2⟩) (Heap.get?_push_of_some _ (Heap.get?_push_of_some _ e))
      · cases r₂ with
        | error e => exact hr₂
        | ok fl₂ =>
          cases fl₂ with
          | ret r =>
            obtain ⟨rfl, h', tk, rfl, R, k⟩ := hr₂
            repeat (any_goals (first | assumption | wp_step))
            exact fin _ _ R k
          | _ => exact hr₂.elim
    | _ => exact hr.elim
end
def set2F : Fn := fun ds s => match ds with
  | [d] => match tupOf d with
    | some xs => match keysD xs with
      | some kk => if decide (kk.length < 1000) then .ok (.set ((foldK kk).map kD)) s else .bad
      | none => .bad
    | none => setF [d] s
  | _ => setF ds s
theorem qc_set2 {X : Cx} (hc : X.calm = true) : CallR X (.type "set") (rC (wd X) set2F) := by
  intro pins sh σ H xs us Q I rv ⟨μ, s, ds, hs, r, W, σ', h⟩
  unfold set2F at h
  split at h
  · rename_i d
    split at h
    case h_2 => exact qc_set hc pins sh σ H xs us Q I rv ⟨μ, s, [d], hs, r, W, σ', h⟩
    rename_i zs ez
    split at h
    case h_2 => exact h.elim
    rename_i kk ek
    split at h
    case isFalse => exact h.elim
    rename_i hz
    obtain ⟨x, rfl, r1⟩ := r.inv1
    obtain ⟨p, ys, rfl, q, rr⟩ := tupOf_sound r1 ez
    obtain ⟨its, rits, it⟩ := sqt_is I q
    rw [Vals.ref1 rv]
    have len : kk.length = its.toArray.size := by rw [List.size_toArray, ← rits.length, ← rr.length]; exact (keysD_len ek).symm
    refine call_set_tupK (I.ok.hd hc) it len (of_decide_eq_true hz) (fun i v e => keys_at rr ek rits i v (by simpa using e)) fun h' tk R k => ?_
    have lt : ∀ b o, sh.heap.get? b = some o → h'.get? b = some o := fun b o e => k b o (Heap.lt_size e) e
    exact ⟨.ref _, upd H sh.heap.objs.size (SetH X.w sh.heap.objs.size (foldK kk)), I.laid (t' := tk) lt (Nat.le_refl _) (setH_ok R), rfl, rf_set h hs (keysD_kD _) _ (I.hok.fresh (Nat.le_refl _))⟩
  · exact qc_set hc pins sh σ H xs us Q I rv ⟨μ, s, ds, hs, r, W, σ', h⟩
theorem set2_strs {xs : List Tx} {s : S} (h : xs.length < 1000) : set2F [.lst (xs.map D.str)] s = .ok (.set ((uS xs).map D.str)) s := set_strs h
theorem set2_tup {xs : List Tx} {s : S} (h : xs.length < 1000) : set2F [.tup (xs.map D.str)] s = .ok (.set ((uS xs).map D.str)) s := by
  have h1 : decide ((xs.map (Sum.inr : Tx → Key)).length < 1000) = true := decide_eq_true (by rw [List.length_map]; exact h)
  simp only [set2F, tupOf, keysD_str, h1, if_true, foldK_str, kD_str]
end Fv

namespace Fv
open PySem PySem.Spec PyProof.Rows L2
/-! ### products, one of them small, the other one as great as it may be -/
def mulN (i j : Int) : Bool := decide (0 ≤ i ∧ i ≤ 4294967296 ∧ 0 ≤ j)
def mul2D (x y : D) (s : S) : R D := match x, y with
  | .int i, .int j => if mulOk i j || mulN i j then .ok (.int (i * j)) s else .bad
  | x, y => mulD x y s
theorem qo_mul2 {X : Cx} : QOp X (binaryOp .Mult) mul2D := by
  intro pins sh σ H x y v u Q I rx ry ⟨μ, s, d, e, hs, r1, r2, W, σ', h⟩
  unfold mul2D at h
  split at h
  · rename_i i j
    split at h
    case isFalse => exact h.elim
    rename_i hz
    rw [Bool.or_eq_true] at hz
    rcases hz with hz | hz
    · exact qo_mul pins sh σ H x y v u Q I rx ry ⟨μ, s, _, _, hs, r1, r2, W, σ', by unfold mulD; simp only [hz, if_true]; exact h⟩
    · have hz : 0 ≤ i ∧ i ≤ 4294967296 ∧ 0 ≤ j := of_decide_eq_true hz
      obtain rfl := w_int r1; obtain rfl := w_int r2
      have e1 : ((i.toNat : Nat) : Int) = i := Int.toNat_of_nonneg hz.1
      have e2 : ((j.toNat : Nat) : Int) = j := Int.toNat_of_nonneg hz.2.2
      refine op_mulN pins sh σ H _ _ v u Q I rx ry ⟨i.toNat, j.toNat, by rw [e1], by rw [e2], by omega, ?_⟩
      have e3 : ((i.toNat * j.toNat : Nat) : Int) = i * j := by rw [Int.natCast_mul, e1, e2]
      rw [e3]
      exact rf_int h hs
  · exact qo_mul pins sh σ H x y v u Q I rx ry ⟨μ, s, _, _, hs, r1, r2, W, σ', h⟩
end Fv

namespace K13
open PySem PySem.Spec PyProof.Rows L2 Fv
def top (i : Nat) : Stmt := PySem.Challenge.pw_sayable_k13_depths_names_kinds.main.body.getD i (.Pass ⟨0, 0, 0, 0⟩)
def clsBody : Stmt → List Stmt
  | .ClassDef _ _ _ b _ _ _ _ _ _ _ => b
  | _ => []
theorem cls_cons {mg : Str → Option Value} {c : Tx} {C0 : Addr} {cs : List Tx} {p : Addr → Prop} (h : mg c = some (.ref C0)) (hp : p C0) (r : ∀ c ∈ cs, ∀ C, mg c = some (.ref C) → p C) : ∀ c' ∈ c :: cs, ∀ C, mg c' = some (.ref C) → p C := by
  intro c' hc C e
  rcases List.mem_cons.mp hc with hc | hc
  · subst hc
    rw [h] at e; cases e
    exact hp
  · exact r c' hc C e
def k_DIRECTIONS : List D := [(.str "on"), (.str "back")]
def k_SAYING_KINDS : List D := [(.ktup [(.str "thing"), (.ktup [])]), (.ktup [(.str "nothing"), (.ktup [])]), (.ktup [(.str "word"), (.ktup [(.str "word")])]), (.ktup [(.str "both"), (.ktup [(.str "part"), (.str "part")])]), (.ktup [(.str "either"), (.ktup [(.str "part"), (.str "part")])]), (.ktup [(.str "not"), (.ktup [(.str "part")])]), (.ktup [(.str "some"), (.ktup [(.str "link"), (.str "direction"), (.str "part")])]), (.ktup [(.str "every"), (.ktup [(.str "link"), (.str "direction"), (.str "part")])]), (.ktup [(.str "least"), (.ktup [(.str "many"), (.str "link"), (.str "direction"), (.str "part")])]), (.ktup [(.str "top"), (.ktup [(.str "scale"), (.str "part")])]), (.ktup [(.str "above"), (.ktup [(.str "scale"), (.str "word")])])]
def xrows : List (List Bool) := [[true]]
def brows : List (List Bool) := [[]]
def ocs : List Tx := ["Saying"]
def ktb : KT := matT ocs xrows [] brows
def isiK : Fn := isiF ocs [] ktb
structure Txt (K : PySem.W.Frag) (mg : Str → Option Value) where
  d_l_pen : DefAt K mg "_law_pen" (top 49) ["_law_script"]
  d_with_numbers : DefAt K mg "_with_numbers" (top 27) ["part", "codes", "moved"]
  d_borne : DefAt K mg "_borne" (top 26) ["part", "codes"]
  d_one_form : DefAt K mg "one_form" (top 28) ["parts", "kinds"]
  d_is_list : DefAt K mg "is_list" (top 9) ["value"]
  d_is_stem : DefAt K mg "is_stem" (top 12) ["value"]
  d_is_name : DefAt K mg "is_name" (top 13) ["value"]
  d_is_integer : DefAt K mg "is_integer" (top 10) ["value"]
  d_is_within : DefAt K mg "is_within" (top 11) ["value", "least", "most"]
  d_can_stand : DefAt K mg "_can_stand" (top 23) ["item", "code", "ahead"]
  d_is_part : DefAt K mg "_is_part" (top 24) ["part", "table", "ahead"]
  d_checked_parts : DefAt K mg "checked_parts" (top 25) ["parts", "kinds"]
  d_items_with : DefAt K mg "items_with" (top 33) ["parts", "kinds", "code"]
  d_part_depths : DefAt K mg "part_depths" (top 32) ["parts", "kinds"]
  d_over : DefAt K mg "_over" (top 43) ["kind", "items", "link", "saying", "back"]
  d_some_of : DefDAt K mg "some_of" (top 44) ["link", "saying", "back"]
  d_every_of : DefDAt K mg "every_of" (top 45) ["link", "saying", "back"]
  d_at_least : DefDAt K mg "at_least" (top 46) ["many", "link", "saying", "back"]
  d_l_draw : DefAt K mg "_law_draw" (top 50) ["_law_pen_here", "_law_many"]
  d_l_pick : DefAt K mg "_law_pick" (top 51) ["_law_pen_here", "_law_some"]
  d_l_part : DefAt K mg "_law_part" (top 52) ["_law_pen_here", "_law_at"]
  d_shifted_parts : DefAt K mg "shifted_parts" (top 29) ["parts", "by", "kinds"]
  d_folded_parts : DefAt K mg "folded_parts" (top 31) ["rows", "kind", "kinds"]
  d_folded : DefAt K mg "_folded" (top 42) ["sayings", "kind", "empty"]
  d_both_of : DefSAt K mg "both_of" (top 40) [] "sayings"
  d_top_of : DefAt K mg "top_of" (top 47) ["scale", "saying"]
  d_l_named : DefAt K mg "_law_named" (top 54) ["_law_rows", "_law_kinds", "_law_spot"]
  d_either_of : DefSAt K mg "either_of" (top 41) [] "sayings"
  d_l_roads : DefAt K mg "_law_roads" (top 53) ["_law_rows", "_law_at", "_law_links"]
  d_law : DefAt K mg "law" (top 55) ["_law_script"]
  a_Saying : Addr
  C_Saying : MkAt K mg "Saying" "Saying.__init__" ((clsBody (top 39)).getD 0 (.Pass ⟨0, 0, 0, 0⟩)) ["parts"] a_Saying
  o_Saying : OwnC K a_Saying
  m_Saying_invert : MthAt K mg "Saying" "__invert__" "Saying.__invert__" ((clsBody (top 39)).getD 6 (.Pass ⟨0, 0, 0, 0⟩)) [] a_Saying
  m_Saying_len : MthAt K mg "Saying" "__len__" "Saying.__len__" ((clsBody (top 39)).getD 1 (.Pass ⟨0, 0, 0, 0⟩)) [] a_Saying
  n_Saying_parts : NoAttr K a_Saying "parts"
  n_Saying_depth : NoAttr K a_Saying "depth"
  n_Saying_words : NoAttr K a_Saying "words"
  n_Saying_links : NoAttr K a_Saying "links"
  n_Saying_scales : NoAttr K a_Saying "scales"
  n_Saying_kinds : NoAttr K a_Saying "kinds"
  n_Saying_is_back : NoAttr K a_Saying "is_back"
  b_abs : mg "abs" = none
  b_all : mg "all" = none
  b_bool : mg "bool" = none
  b_dict : mg "dict" = none
  b_int : mg "int" = none
  b_isinstance : mg "isinstance" = none
  b_len : mg "len" = none
  b_list : mg "list" = none
  b_max : mg "max" = none
  b_range : mg "range" = none
  b_set : mg "set" = none
  b_sorted : mg "sorted" = none
  b_str : mg "str" = none
  b_tuple : mg "tuple" = none
  b_zip : mg "zip" = none
  c_DIRECTIONS : ∃ p ys, mg "DIRECTIONS" = some (.ref p) ∧ KtS K p ys ∧ ∀ P w μ H, RVs ⟨K, mg, P, w⟩ μ H k_DIRECTIONS ys
  c_LEAST_MANY : ∃ tk, mg "LEAST_MANY" = some (.int 2 tk)
  c_LONGEST_STEM : ∃ tk, mg "LONGEST_STEM" = some (.int 12 tk)
  c_MOST_MANY : ∃ tk, mg "MOST_MANY" = some (.int 40 tk)
  c_MOST_STEMS : ∃ tk, mg "MOST_STEMS" = some (.int 6 tk)
  c_SAYING_KINDS : ∃ p ys, mg "SAYING_KINDS" = some (.ref p) ∧ KtS K p ys ∧ ∀ P w μ H, RVs ⟨K, mg, P, w⟩ μ H k_SAYING_KINDS ys
  kt1 : matOk K [a_Saying] xrows = true
theorem kit {K : PySem.W.Frag} {mg : Str → Option Value} (T : Txt K mg) : IsT K mg ktb := isT_mat (ca := [T.a_Saying]) rfl (by
  intro p hp
  simp only [ocs, List.zip_cons_cons, List.zip_nil_right, List.mem_cons, List.not_mem_nil, or_false] at hp
  rcases hp with rfl
  · exact T.C_Saying.gC) T.kt1 rfl
theorem kdo {K : PySem.W.Frag} {mg : Str → Option Value} (T : Txt K mg) : ∀ c ∈ (["Saying"] : List Tx), ∀ C, mg c = some (.ref C) → OwnC K C := cls_cons T.C_Saying.gC T.o_Saying (fun _ h => absurd h List.not_mem_nil)
theorem kdk {K : PySem.W.Frag} {mg : Str → Option Value} (T : Txt K mg) : KdK K mg ocs [] := ⟨kdo T, fun _ h => absurd h List.not_mem_nil⟩
theorem fl_parts {K : PySem.W.Frag} {mg : Str → Option Value} (T : Txt K mg) : ∀ c ∈ (["Saying"] : List Tx), ∀ C, mg c = some (.ref C) → Cls K C ∧ NoAttr K C "parts" := cls_cons T.C_Saying.gC ⟨T.o_Saying.cl, T.n_Saying_parts⟩ (fun _ h => absurd h List.not_mem_nil)
theorem fl_depth {K : PySem.W.Frag} {mg : Str → Option Value} (T : Txt K mg) : ∀ c ∈ (["Saying"] : List Tx), ∀ C, mg c = some (.ref C) → Cls K C ∧ NoAttr K C "depth" := cls_cons T.C_Saying.gC ⟨T.o_Saying.cl, T.n_Saying_depth⟩ (fun _ h => absurd h List.not_mem_nil)
theorem fl_words {K : PySem.W.Frag} {mg : Str → Option Value} (T : Txt K mg) : ∀ c ∈ (["Saying"] : List Tx), ∀ C, mg c = some (.ref C) → Cls K C ∧ NoAttr K C "words" := cls_cons T.C_Saying.gC ⟨T.o_Saying.cl, T.n_Saying_words⟩ (fun _ h => absurd h List.not_mem_nil)
theorem fl_links {K : PySem.W.Frag} {mg : Str → Option Value} (T : Txt K mg) : ∀ c ∈ (["Saying"] : List Tx), ∀ C, mg c = some (.ref C) → Cls K C ∧ NoAttr K C "links" := cls_cons T.C_Saying.gC ⟨T.o_Saying.cl, T.n_Saying_links⟩ (fun _ h => absurd h List.not_mem_nil)
theorem fl_scales {K : PySem.W.Frag} {mg : Str → Option Value} (T : Txt K mg) : ∀ c ∈ (["Saying"] : List Tx), ∀ C, mg c = some (.ref C) → Cls K C ∧ NoAttr K C "scales" := cls_cons T.C_Saying.gC ⟨T.o_Saying.cl, T.n_Saying_scales⟩ (fun _ h => absurd h List.not_mem_nil)
theorem fl_kinds {K : PySem.W.Frag} {mg : Str → Option Value} (T : Txt K mg) : ∀ c ∈ (["Saying"] : List Tx), ∀ C, mg c = some (.ref C) → Cls K C ∧ NoAttr K C "kinds" := cls_cons T.C_Saying.gC ⟨T.o_Saying.cl, T.n_Saying_kinds⟩ (fun _ h => absurd h List.not_mem_nil)
theorem fl_is_back {K : PySem.W.Frag} {mg : Str → Option Value} (T : Txt K mg) : ∀ c ∈ (["Saying"] : List Tx), ∀ C, mg c = some (.ref C) → Cls K C ∧ NoAttr K C "is_back" := cls_cons T.C_Saying.gC ⟨T.o_Saying.cl, T.n_Saying_is_back⟩ (fun _ h => absurd h List.not_mem_nil)
abbrev st_l_pen : Stmt := (top 49)
theorem sc_l_pen : FnScope ["_law_script", "_law_cell"] ["_law_script"] (defScope st_l_pen) := ⟨rfl, rfl, rfl, by decide +kernel, rfl, by decide +kernel, by decide +kernel⟩
noncomputable def b_l_pen : C :=
  (retS (liveE (lstE (consA (lcE (iterE (sliceE (borE 0) noO (someO (conE (.int 60))))) [1] (.nm 1) yesT (callE intF (consA (borE 1) nilA))) (consA (conE (.int 0)) (consA (conE (.int 0)) nilA))))))
noncomputable def f_l_pen : Fn := mkFn 1 2 b_l_pen
set_option maxHeartbeats 8000000 in
theorem ok_l_pen {P : Program} {w : World} {K : PySem.W.Frag} {mg : Str → Option Value} {base : Heap} (T : Txt K mg) (sy : SysB base) : DefOk P w K mg base 1 "_law_pen" f_l_pen :=
  T.d_l_pen.ok sc_l_pen rfl rfl fun fa cdv A outer s H E Fr hr => (by exact (qs_one (qs_ret (q_live (q_lst (qa_cons (q_fz (q_lc rfl sc_l_pen.nd (qi_bor (q_B (q_fz (q_slice (qb 0) qo_none (qo_some (q_B q_int)))))) (own := [("_law_cell", 1)]) (⟨rfl, by decide +kernel, by decide +kernel, by decide +kernel, by decide +kernel⟩ : BlkOk ["_law_script", "_law_cell"] (defScope st_l_pen) _ [("_law_cell", 1)]) rfl (fun _ _ _ _ _ => (pg_name (i := 1) sc_l_pen.nd rfl (by first | exact Or.inl rfl | exact Or.inr rfl))) (fun _ _ _ _ _ => qts_nil) (fun _ _ _ _ _ => (q_fz (q_callT qc_int T.b_int (by decide +kernel) (qab_cons (qb 1) qab_nil)))))) (qa_cons q_int (qa_cons q_int qa_nil))))))))
abbrev st_with_numbers : Stmt := (top 27)
noncomputable def b_with_numbers_0 : C :=
  (setS 3 (lcE (zipI (consA (sliceE (borE 0) (someO (conE (.int 1))) noO) (consA (varE 1) nilA))) [4, 5] (.tp [4, 5]) yesT (ifE (tstE (binE eqD (borE 5) (conE (.str "part")))) (binE idxD (borE 2) (borE 4)) (varE 4))))
noncomputable def b_with_numbers_1 : C :=
  (retS (tupE (consA (binE idxD (borE 0) (conE (.int 0))) (starA (borE 3) nilA))))
theorem sc_with_numbers : FnScope ["part", "codes", "moved", "items", "item", "code"] ["part", "codes", "moved"] (defScope st_with_numbers) := ⟨rfl, rfl, rfl, by decide +kernel, rfl, by decide +kernel, by decide +kernel⟩
noncomputable def b_with_numbers : C :=
  (seqS (b_with_numbers_0) b_with_numbers_1)
noncomputable def f_with_numbers : Fn := mkFn 3 6 b_with_numbers
set_option maxHeartbeats 8000000 in
theorem ok_with_numbers {P : Program} {w : World} {K : PySem.W.Frag} {mg : Str → Option Value} {base : Heap} (T : Txt K mg) (sy : SysB base) : DefOk P w K mg base 1 "_with_numbers" f_with_numbers :=
  T.d_with_numbers.ok sc_with_numbers rfl rfl fun fa cdv A outer s H E Fr hr => (by exact (qs_cons (qs_setLc (i := 3) rfl sc_with_numbers.nd (qi_zip (qa_cons (q_fz (q_slice (qb 0) (qo_some (q_B q_int)) qo_none)) (qa_cons (qv 1) qa_nil)) T.b_zip) (own := [("item", 4), ("code", 5)]) (⟨rfl, by decide +kernel, by decide +kernel, by decide +kernel, by decide +kernel⟩ : BlkOk ["part", "codes", "moved", "items", "item", "code"] (defScope st_with_numbers) _ [("item", 4), ("code", 5)]) rfl (fun _ _ _ _ _ => (pg_tup rfl (pgs_cons (pg_name (i := 4) sc_with_numbers.nd rfl (by first | exact Or.inl rfl | exact Or.inr rfl)) (pgs_cons (pg_name (i := 5) sc_with_numbers.nd rfl (by first | exact Or.inl rfl | exact Or.inr rfl)) pgs_nil)))) (fun _ _ _ _ _ => qts_nil) (fun _ _ _ _ _ => (q_if (q_cmpT (qo_eq hr.units) (qb 5) (q_B q_str)) (q_idx hr.u1 (qb 2) (qb 4)) (qv 4))))
  (qs_one (qs_ret (q_tup (qa_cons (q_idx hr.u1 (qb 0) (q_B q_int)) (qa_star (qb 3) qa_nil)))))))
abbrev st_borne : Stmt := (top 26)
theorem sc_borne : FnScope ["part", "codes", "item", "code"] ["part", "codes"] (defScope st_borne) := ⟨rfl, rfl, rfl, by decide +kernel, rfl, by decide +kernel, by decide +kernel⟩
noncomputable def b_borne : C :=
  (retS (lcE (zipI (consA (sliceE (borE 0) (someO (conE (.int 1))) noO) (consA (varE 1) nilA))) [2, 3] (.tp [2, 3]) (tstE (binE eqD (borE 3) (conE (.str "part")))) (varE 2)))
noncomputable def f_borne : Fn := mkFn 2 4 b_borne
set_option maxHeartbeats 8000000 in
theorem ok_borne {P : Program} {w : World} {K : PySem.W.Frag} {mg : Str → Option Value} {base : Heap} (T : Txt K mg) (sy : SysB base) : DefOk P w K mg base 1 "_borne" f_borne :=
  T.d_borne.ok sc_borne rfl rfl fun fa cdv A outer s H E Fr hr => (by exact (qs_one (qs_ret (q_fz (q_lc rfl sc_borne.nd (qi_zip (qa_cons (q_fz (q_slice (qb 0) (qo_some (q_B q_int)) qo_none)) (qa_cons (qv 1) qa_nil)) T.b_zip) (own := [("item", 2), ("code", 3)]) (⟨rfl, by decide +kernel, by decide +kernel, by decide +kernel, by decide +kernel⟩ : BlkOk ["part", "codes", "item", "code"] (defScope st_borne) _ [("item", 2), ("code", 3)]) rfl (fun _ _ _ _ _ => (pg_tup rfl (pgs_cons (pg_name (i := 2) sc_borne.nd rfl (by first | exact Or.inl rfl | exact Or.inr rfl)) (pgs_cons (pg_name (i := 3) sc_borne.nd rfl (by first | exact Or.inl rfl | exact Or.inr rfl)) pgs_nil)))) (fun _ _ _ _ _ => (qts_one (q_cmpT (qo_eq hr.units) (qb 3) (q_B q_str)))) (fun _ _ _ _ _ => (qv 2)))))))
abbrev st_one_form : Stmt := (top 28)
noncomputable def b_one_form_0 : C :=
  (setS 2 (callE dictF (consA (borE 1) nilA)))
noncomputable def b_one_form_1 : C :=
  (ownS 3 (lstE nilA))
noncomputable def b_one_form_2 : C :=
  (ownS 4 dtt0E)
noncomputable def b_one_form_3 : C :=
  (ownS 5 dct0E)
noncomputable def b_one_form_4 : C :=
  (ownS 6 (lstE (consA (binE subD (callE lenF (consA (borE 0) nilA)) (conE (.int 1))) nilA)))
noncomputable def b_one_form_5 : C :=
  (whileS (truE (borE 6)) (seqS (setS 7 (binE idxD (borE 6) (unE negD (conE (.int 1)))))
  (seqS (setS 8 (binE idxD (borE 0) (borE 7)))
  (seqS (setS 9 (binE idxD (borE 2) (binE idxD (borE 8) (conE (.int 0)))))
  (seqS (setS 10 (lcE (iterE (callE f_borne (consA (varE 8) (consA (varE 9) nilA)))) [11] (.nm 11) (tstE (binE notinD (borE 11) (borE 5))) (varE 11)))
  (seqS (ifS (truE (borE 10)) (seqS (owS 6 "list" appO (consA (binE idxD (borE 10) (conE (.int 0))) nilA))
  ctS) passS)
  (seqS (owS 6 "list" popO nilA)
  (seqS (setS 8 (callBE f_with_numbers (consA (borE 8) (consA (borE 9) (consA (borE 5) nilA)))))
  (seqS (ifS (tstE (binE notinD (borE 8) (borE 4))) (seqS (putS 4 (borE 8) (callE lenF (consA (borE 3) nilA)))
  (owS 3 "list" appO (consA (varE 8) nilA))) passS)
  (putS 5 (borE 7) (binE idxD (borE 4) (borE 8))))))))))))
noncomputable def b_one_form_6 : C :=
  (seqS (frzS 3) (retS (varE 3)))
theorem sc_one_form : FnScope ["parts", "kinds", "table", "made", "numbers", "moved", "walk", "at", "part", "codes", "waiting", "number"] ["parts", "kinds"] (defScope st_one_form) := ⟨rfl, rfl, rfl, by decide +kernel, rfl, by decide +kernel, by decide +kernel⟩
noncomputable def b_one_form : C :=
  (seqS (b_one_form_0) (seqS (b_one_form_1) (seqS (b_one_form_2) (seqS (b_one_form_3) (seqS (b_one_form_4) (seqS (b_one_form_5) b_one_form_6))))))
noncomputable def f_one_form : Fn := mkFn 2 12 b_one_form
set_option maxHeartbeats 8000000 in
theorem ok_one_form {P : Program} {w : World} {K : PySem.W.Frag} {mg : Str → Option Value} {base : Heap} (T : Txt K mg) (sy : SysB base) : DefOk P w K mg base 2 "one_form" f_one_form :=
  T.d_one_form.ok sc_one_form rfl rfl fun fa cdv A outer s H E Fr hr => (by exact (qs_cons (qs_set (i := 2) (q_fz (q_callT (qc_dict hr.r.hd) T.b_dict (by decide +kernel) (qab_cons (qb 1) qab_nil))) sc_one_form.nd)
  (qs_cons (qs_own (i := 3) (q_lst qa_nil) sc_one_form.nd)
  (qs_cons (qs_own (i := 4) q_dtt0 sc_one_form.nd)
  (qs_cons (qs_own (i := 5) q_disp0 sc_one_form.nd)
  (qs_cons (qs_own (i := 6) (q_lst (qa_cons (q_fz (q_bin qo_sub (q_B (q_fz (q_callB qc_len T.b_len (by decide +kernel) (qab_cons (qb 0) qab_nil)))) (q_B q_int))) qa_nil)) sc_one_form.nd)
  (qs_cons (qs_while (passes_of rfl) (q_truT (qb 6)) (qs_cons (qs_set (i := 7) (q_idx hr.u1 (qb 6) (q_B (q_fz (q_un qo_neg (q_B q_int))))) sc_one_form.nd)
  (qs_cons (qs_set (i := 8) (q_idx hr.u1 (qb 0) (qb 7)) sc_one_form.nd)
  (qs_cons (qs_set (i := 9) (q_idx hr.u1 (qb 2) (q_B (q_idx hr.u1 (qb 8) (q_B q_int)))) sc_one_form.nd)
  (qs_cons (qs_setLc (i := 10) rfl sc_one_form.nd (qi_bor (q_B (q_call ((ok_borne T sy).mono (by decide)) hr (takes_of rfl rfl rfl rfl) (qa_cons (qv 8) (qa_cons (qv 9) qa_nil))))) (own := [("number", 11)]) (⟨rfl, by decide +kernel, by decide +kernel, by decide +kernel, by decide +kernel⟩ : BlkOk ["parts", "kinds", "table", "made", "numbers", "moved", "walk", "at", "part", "codes", "waiting", "number"] (defScope st_one_form) _ [("number", 11)]) rfl (fun _ _ _ _ _ => (pg_name (i := 11) sc_one_form.nd rfl (by first | exact Or.inl rfl | exact Or.inr rfl))) (fun _ _ _ _ _ => (qts_one (q_cmpT (qo_notin hr.u65) (qb 11) (qb 5)))) (fun _ _ _ _ _ => (qv 11)))
  (qs_cons (qs_if (q_truT (qb 10)) (qs_cons (qs_ow 6 PySem.F.plainAttrs_list PySem.F.slot_list_append PySem.F.type_list_append qw_append (qa_cons (q_idx hr.u1 (qb 10) (q_B q_int)) qa_nil))
  (qs_one qs_continue)) qs_nil)
  (qs_cons (qs_ow0 6 PySem.F.plainAttrs_list PySem.F.slot_list_pop PySem.F.type_list_pop qw_pop)
  (qs_cons (qs_set (i := 8) (q_callBo ((ok_with_numbers T sy).mono (by decide)) hr (qab_cons (qb 8) (qab_cons (qb 9) (qab_cons (qb 5) qab_nil)))) sc_one_form.nd)
  (qs_cons (qs_if (q_cmpT (qo_notin hr.u65) (qb 8) (qb 4)) (qs_cons (qs_put 4 hr.u1 (q_fz (q_callB qc_len T.b_len (by decide +kernel) (qab_cons (qb 3) qab_nil))) (qb 8))
  (qs_one (qs_ow 3 PySem.F.plainAttrs_list PySem.F.slot_list_append PySem.F.type_list_append qw_append (qa_cons (qv 8) qa_nil)))) qs_nil)
  (qs_one (qs_put 5 hr.u1 (q_idx hr.u1 (qb 4) (qb 8)) (qb 7))))))))))))
  (qs_one (qs_frz (i := 3) (qs_ret (qv 3)))))))))))
abbrev st_is_list : Stmt := (top 9)
theorem sc_is_list : FnScope ["value"] ["value"] (defScope st_is_list) := ⟨rfl, rfl, rfl, by decide +kernel, rfl, by decide +kernel, by decide +kernel⟩
noncomputable def b_is_list : C :=
  (retS (callE isiK (consA (borE 0) (consA (tupE (consA (conE (.ty "list")) (consA (conE (.ty "tuple")) nilA))) nilA))))
noncomputable def f_is_list : Fn := mkFn 1 1 b_is_list
set_option maxHeartbeats 8000000 in
theorem ok_is_list {P : Program} {w : World} {K : PySem.W.Frag} {mg : Str → Option Value} {base : Heap} (T : Txt K mg) (sy : SysB base) : DefOk P w K mg base 1 "is_list" f_is_list :=
  T.d_is_list.ok sc_is_list rfl rfl fun fa cdv A outer s H E Fr hr => (by exact (qs_one (qs_ret (q_fz (q_callB (qc_isi (kdk T) (kit T)) T.b_isinstance (by decide +kernel) (qab_cons (qb 0) (qab_cons (q_B (q_tup (qa_cons (q_ty T.b_list (by decide +kernel)) (qa_cons (q_ty T.b_tuple (by decide +kernel)) qa_nil)))) qab_nil)))))))
abbrev st_is_stem : Stmt := (top 12)
noncomputable def b_is_stem_0 : C :=
  (ifS (orT (notT (truE (callE isiK (consA (borE 0) (consA (conE (.ty "str")) nilA))))) (notT (tstE (chainE leD leD (conE (.int 1)) (callE lenF (consA (borE 0) nilA)) (conE (.int 12)))))) (retS (conE (.bl false))) passS)
noncomputable def b_is_stem_1 : C :=
  (retS (andE (methE "str" isasciiF (borE 0) nilA) (andE (methE "str" isalnumF (borE 0) nilA) (andE (methE "str" islowerF (borE 0) nilA) (methE "str" isalphaF (binE idxD (borE 0) (conE (.int 0))) nilA)))))
theorem sc_is_stem : FnScope ["value"] ["value"] (defScope st_is_stem) := ⟨rfl, rfl, rfl, by decide +kernel, rfl, by decide +kernel, by decide +kernel⟩
noncomputable def b_is_stem : C :=
  (seqS (b_is_stem_0) b_is_stem_1)
noncomputable def f_is_stem : Fn := mkFn 1 1 b_is_stem
set_option maxHeartbeats 8000000 in
theorem ok_is_stem {P : Program} {w : World} {K : PySem.W.Frag} {mg : Str → Option Value} {base : Heap} (T : Txt K mg) (sy : SysB base) : DefOk P w K mg base 1 "is_stem" f_is_stem :=
  T.d_is_stem.ok sc_is_stem rfl rfl fun fa cdv A outer s H E Fr hr => (by exact (qs_cons (qs_if ((q_orT (q_notT (q_truT (q_B (q_fz (q_callB (qc_isi (kdk T) (kit T)) T.b_isinstance (by decide +kernel) (qab_cons (qb 0) (qab_cons (q_B (q_ty T.b_str (by decide +kernel))) qab_nil))))))) (q_or1T (q_notT (q_chainT qo_le qo_le (q_B q_int) (q_B (q_fz (q_callB qc_len T.b_len (by decide +kernel) (qab_cons (qb 0) qab_nil)))) (q_B (let ⟨_, h⟩ := T.c_LONGEST_STEM; q_gint h))))))).pt (qs_one (qs_ret q_bl)) qs_nil)
  (qs_one (qs_ret (q_and (q_fz (q_meth0 PySem.F.plainAttrs_str PySem.F.slot_str_isascii PySem.F.type_str_isascii qm_isascii (qb 0))) (q_and (q_fz (q_meth0 PySem.F.plainAttrs_str PySem.F.slot_str_isalnum PySem.F.type_str_isalnum qm_isalnum (qb 0))) (q_and (q_fz (q_meth0 PySem.F.plainAttrs_str PySem.F.slot_str_islower PySem.F.type_str_islower qm_islower (qb 0))) (q_one (q_fz (q_meth0 PySem.F.plainAttrs_str PySem.F.slot_str_isalpha PySem.F.type_str_isalpha qm_isalpha (q_B (q_idx hr.u1 (qb 0) (q_B q_int)))))))))))))
abbrev st_is_name : Stmt := (top 13)
noncomputable def b_is_name_0 : C :=
  (ifS (orT (notT (truE (callE isiK (consA (borE 0) (consA (conE (.ty "str")) nilA))))) (tstE (binE geD (methE "str" countF (borE 0) (consA (conE (.str ".")) nilA)) (conE (.int 6))))) (retS (conE (.bl false))) passS)
noncomputable def b_is_name_1 : C :=
  (retS (callE allF (consA (lcE (iterE (methE "str" splitF (borE 0) (consA (conE (.str ".")) nilA))) [1] (.nm 1) yesT (callE f_is_stem (consA (varE 1) nilA))) nilA)))
theorem sc_is_name : FnScope ["value", "stem"] ["value"] (defScope st_is_name) := ⟨rfl, rfl, rfl, by decide +kernel, rfl, by decide +kernel, by decide +kernel⟩
noncomputable def b_is_name : C :=
  (seqS (b_is_name_0) b_is_name_1)
noncomputable def f_is_name : Fn := mkFn 1 2 b_is_name
set_option maxHeartbeats 8000000 in
theorem ok_is_name {P : Program} {w : World} {K : PySem.W.Frag} {mg : Str → Option Value} {base : Heap} (T : Txt K mg) (sy : SysB base) : DefOk P w K mg base 2 "is_name" f_is_name :=
  T.d_is_name.ok sc_is_name rfl rfl fun fa cdv A outer s H E Fr hr => (by exact (qs_cons (qs_if ((q_orT (q_notT (q_truT (q_B (q_fz (q_callB (qc_isi (kdk T) (kit T)) T.b_isinstance (by decide +kernel) (qab_cons (qb 0) (qab_cons (q_B (q_ty T.b_str (by decide +kernel))) qab_nil))))))) (q_or1T (q_cmpT qo_ge (q_B (q_fz (q_meth PySem.F.plainAttrs_str PySem.F.slot_str_count PySem.F.type_str_count qm_count (qb 0) (qab_cons (q_B q_str) qab_nil)))) (q_B (let ⟨_, h⟩ := T.c_MOST_STEMS; q_gint h)))))).pt (qs_one (qs_ret q_bl)) qs_nil)
  (qs_one (qs_ret (q_fz (q_callB (qc_all rfl) T.b_all (by decide +kernel) (qab_cons (q_B (q_fz (q_lc rfl sc_is_name.nd (qi_bor (q_B (q_fz (q_meth PySem.F.plainAttrs_str PySem.F.slot_str_split PySem.F.type_str_split qm_split (qb 0) (qab_cons (q_B q_str) qab_nil))))) (own := [("stem", 1)]) (⟨rfl, by decide +kernel, by decide +kernel, by decide +kernel, by decide +kernel⟩ : BlkOk ["value", "stem"] (defScope st_is_name) _ [("stem", 1)]) rfl (fun _ _ _ _ _ => (pg_name (i := 1) sc_is_name.nd rfl (by first | exact Or.inl rfl | exact Or.inr rfl))) (fun _ _ _ _ _ => qts_nil) (fun _ _ _ _ _ => (q_call ((ok_is_stem T sy).mono (by decide)) hr takes0 (qa_cons (qv 1) qa_nil)))))) qab_nil)))))))
abbrev st_is_integer : Stmt := (top 10)
theorem sc_is_integer : FnScope ["value"] ["value"] (defScope st_is_integer) := ⟨rfl, rfl, rfl, by decide +kernel, rfl, by decide +kernel, by decide +kernel⟩
noncomputable def b_is_integer : C :=
  (retS (andE (callE isiK (consA (borE 0) (consA (conE (.ty "int")) nilA))) (notE (callE isiK (consA (borE 0) (consA (conE (.ty "bool")) nilA))))))
noncomputable def f_is_integer : Fn := mkFn 1 1 b_is_integer
set_option maxHeartbeats 8000000 in
theorem ok_is_integer {P : Program} {w : World} {K : PySem.W.Frag} {mg : Str → Option Value} {base : Heap} (T : Txt K mg) (sy : SysB base) : DefOk P w K mg base 1 "is_integer" f_is_integer :=
  T.d_is_integer.ok sc_is_integer rfl rfl fun fa cdv A outer s H E Fr hr => (by exact (qs_one (qs_ret (q_and (q_fz (q_callB (qc_isi (kdk T) (kit T)) T.b_isinstance (by decide +kernel) (qab_cons (qb 0) (qab_cons (q_B (q_ty T.b_int (by decide +kernel))) qab_nil)))) (q_one (q_not (q_B (q_fz (q_callB (qc_isi (kdk T) (kit T)) T.b_isinstance (by decide +kernel) (qab_cons (qb 0) (qab_cons (q_B (q_ty T.b_bool (by decide +kernel))) qab_nil)))))))))))
abbrev st_is_within : Stmt := (top 11)
noncomputable def b_is_within_0 : C :=
  (ifS (notT (truE (callE f_is_integer (consA (varE 0) nilA)))) (retS (conE (.bl false))) passS)
noncomputable def b_is_within_1 : C :=
  (retS (andE (orE (binE isD (borE 1) (conE .non)) (binE leD (borE 1) (borE 0))) (orE (binE isD (borE 2) (conE .non)) (binE leD (borE 0) (borE 2)))))
theorem sc_is_within : FnScope ["value", "least", "most"] ["value", "least", "most"] (defScope st_is_within) := ⟨rfl, rfl, rfl, by decide +kernel, rfl, by decide +kernel, by decide +kernel⟩
noncomputable def b_is_within : C :=
  (seqS (b_is_within_0) b_is_within_1)
noncomputable def f_is_within : Fn := mkFn 3 3 b_is_within
set_option maxHeartbeats 8000000 in
theorem ok_is_within {P : Program} {w : World} {K : PySem.W.Frag} {mg : Str → Option Value} {base : Heap} (T : Txt K mg) (sy : SysB base) : DefOk P w K mg base 2 "is_within" f_is_within :=
  T.d_is_within.ok sc_is_within rfl rfl fun fa cdv A outer s H E Fr hr => (by exact (qs_cons (qs_if (q_notT (q_truT (q_B (q_call ((ok_is_integer T sy).mono (by decide)) hr (takes_of rfl rfl rfl rfl) (qa_cons (qv 0) qa_nil))))) (qs_one (qs_ret q_bl)) qs_nil)
  (qs_one (qs_ret (q_and (q_or (q_fz (q_cmp qo_is (qb 1) (q_B q_non))) (q_one (q_fz (q_cmp qo_le (qb 1) (qb 0))))) (q_one (q_or (q_fz (q_cmp qo_is (qb 2) (q_B q_non))) (q_one (q_fz (q_cmp qo_le (qb 0) (qb 2)))))))))))
abbrev st_can_stand : Stmt := (top 23)
noncomputable def b_can_stand_0 : C :=
  (ifS (tstE (binE eqD (borE 1) (conE (.str "part")))) (retS (callE f_is_within (consA (varE 0) (consA (conE (.int 0)) (consA (binE subD (borE 2) (conE (.int 1))) nilA))))) passS)
noncomputable def b_can_stand_1 : C :=
  (ifS (tstE (binE eqD (borE 1) (conE (.str "many")))) (retS (callE f_is_within (consA (varE 0) (consA (conE (.int 2)) (consA (conE (.int 40)) nilA))))) passS)
noncomputable def b_can_stand_2 : C :=
  (ifS (tstE (binE eqD (borE 1) (conE (.str "direction")))) (retS (andE (callE isiK (consA (borE 0) (consA (conE (.ty "str")) nilA))) (binE inD (borE 0) (conE (.ktup k_DIRECTIONS))))) passS)
noncomputable def b_can_stand_3 : C :=
  (retS (callE f_is_name (consA (varE 0) nilA)))
theorem sc_can_stand : FnScope ["item", "code", "ahead"] ["item", "code", "ahead"] (defScope st_can_stand) := ⟨rfl, rfl, rfl, by decide +kernel, rfl, by decide +kernel, by decide +kernel⟩
noncomputable def b_can_stand : C :=
  (seqS (b_can_stand_0) (seqS (b_can_stand_1) (seqS (b_can_stand_2) b_can_stand_3)))
noncomputable def f_can_stand : Fn := mkFn 3 3 b_can_stand
set_option maxHeartbeats 8000000 in
theorem ok_can_stand {P : Program} {w : World} {K : PySem.W.Frag} {mg : Str → Option Value} {base : Heap} (T : Txt K mg) (sy : SysB base) : DefOk P w K mg base 3 "_can_stand" f_can_stand :=
  T.d_can_stand.ok sc_can_stand rfl rfl fun fa cdv A outer s H E Fr hr => (by exact (qs_cons (qs_if (q_cmpT (qo_eq hr.units) (qb 1) (q_B q_str)) (qs_one (qs_ret (q_call ((ok_is_within T sy).mono (by decide)) hr (takes_of rfl rfl rfl rfl) (qa_cons (qv 0) (qa_cons q_int (qa_cons (q_fz (q_bin qo_sub (qb 2) (q_B q_int))) qa_nil)))))) qs_nil)
  (qs_cons (qs_if (q_cmpT (qo_eq hr.units) (qb 1) (q_B q_str)) (qs_one (qs_ret (q_call ((ok_is_within T sy).mono (by decide)) hr (takes_of rfl rfl rfl rfl) (qa_cons (qv 0) (qa_cons (let ⟨_, h⟩ := T.c_LEAST_MANY; q_gint h) (qa_cons (let ⟨_, h⟩ := T.c_MOST_MANY; q_gint h) qa_nil)))))) qs_nil)
  (qs_cons (qs_if (q_cmpT (qo_eq hr.units) (qb 1) (q_B q_str)) (qs_one (qs_ret (q_and (q_fz (q_callB (qc_isi (kdk T) (kit T)) T.b_isinstance (by decide +kernel) (qab_cons (qb 0) (qab_cons (q_B (q_ty T.b_str (by decide +kernel))) qab_nil)))) (q_one (q_fz (q_cmp (qo_in hr.u65) (qb 0) (q_B (let ⟨_, _, h1, h2, h3⟩ := T.c_DIRECTIONS; q_gtup h1 h2 (fun μ H => h3 _ _ μ H))))))))) qs_nil)
  (qs_one (qs_ret (q_call ((ok_is_name T sy).mono (by decide)) hr (takes_of rfl rfl rfl rfl) (qa_cons (qv 0) qa_nil))))))))
abbrev st_is_part : Stmt := (top 24)
noncomputable def b_is_part_0 : C :=
  (ifS (orT (notT (truE (callE f_is_list (consA (varE 0) nilA)))) (orT (notT (truE (borE 0))) (notT (truE (callE isiK (consA (binE idxD (borE 0) (conE (.int 0))) (consA (conE (.ty "str")) nilA))))))) (retS (conE (.bl false))) passS)
noncomputable def b_is_part_1 : C :=
  (ifS (orT (tstE (binE notinD (binE idxD (borE 0) (conE (.int 0))) (borE 1))) (tstE (binE neD (callE lenF (consA (borE 0) nilA)) (binE addD (callE lenF (consA (binE idxD (borE 1) (binE idxD (borE 0) (conE (.int 0)))) nilA)) (conE (.int 1)))))) (retS (conE (.bl false))) passS)
noncomputable def b_is_part_2 : C :=
  (retS (callE allF (consA (lcE (zipI (consA (sliceE (borE 0) (someO (conE (.int 1))) noO) (consA (binE idxD (borE 1) (binE idxD (borE 0) (conE (.int 0)))) nilA))) [3, 4] (.tp [3, 4]) yesT (callE f_can_stand (consA (varE 3) (consA (varE 4) (consA (varE 2) nilA))))) nilA)))
theorem sc_is_part : FnScope ["part", "table", "ahead", "item", "code"] ["part", "table", "ahead"] (defScope st_is_part) := ⟨rfl, rfl, rfl, by decide +kernel, rfl, by decide +kernel, by decide +kernel⟩
noncomputable def b_is_part : C :=
  (seqS (b_is_part_0) (seqS (b_is_part_1) b_is_part_2))
noncomputable def f_is_part : Fn := mkFn 3 5 b_is_part
set_option maxHeartbeats 8000000 in
theorem ok_is_part {P : Program} {w : World} {K : PySem.W.Frag} {mg : Str → Option Value} {base : Heap} (T : Txt K mg) (sy : SysB base) : DefOk P w K mg base 4 "_is_part" f_is_part :=
  T.d_is_part.ok sc_is_part rfl rfl fun fa cdv A outer s H E Fr hr => (by exact (qs_cons (qs_if ((q_orT (q_notT (q_truT (q_B (q_call ((ok_is_list T sy).mono (by decide)) hr (takes_of rfl rfl rfl rfl) (qa_cons (qv 0) qa_nil))))) (q_orT (q_notT (q_truT (qb 0))) (q_or1T (q_notT (q_truT (q_B (q_fz (q_callB (qc_isi (kdk T) (kit T)) T.b_isinstance (by decide +kernel) (qab_cons (q_B (q_idx hr.u1 (qb 0) (q_B q_int))) (qab_cons (q_B (q_ty T.b_str (by decide +kernel))) qab_nil))))))))))).pt (qs_one (qs_ret q_bl)) qs_nil)
  (qs_cons (qs_if ((q_orT (q_cmpT (qo_notin hr.u65) (q_B (q_idx hr.u1 (qb 0) (q_B q_int))) (qb 1)) (q_or1T (q_cmpT (qo_ne hr.units) (q_B (q_fz (q_callB qc_len T.b_len (by decide +kernel) (qab_cons (qb 0) qab_nil)))) (q_B (q_fz (q_bin qo_add (q_B (q_fz (q_callB qc_len T.b_len (by decide +kernel) (qab_cons (q_B (q_idx hr.u1 (qb 1) (q_B (q_idx hr.u1 (qb 0) (q_B q_int))))) qab_nil)))) (q_B q_int)))))))).pt (qs_one (qs_ret q_bl)) qs_nil)
  (qs_one (qs_ret (q_fz (q_callB (qc_all rfl) T.b_all (by decide +kernel) (qab_cons (q_B (q_fz (q_lc rfl sc_is_part.nd (qi_zip (qa_cons (q_fz (q_slice (qb 0) (qo_some (q_B q_int)) qo_none)) (qa_cons (q_idx hr.u1 (qb 1) (q_B (q_idx hr.u1 (qb 0) (q_B q_int)))) qa_nil)) T.b_zip) (own := [("item", 3), ("code", 4)]) (⟨rfl, by decide +kernel, by decide +kernel, by decide +kernel, by decide +kernel⟩ : BlkOk ["part", "table", "ahead", "item", "code"] (defScope st_is_part) _ [("item", 3), ("code", 4)]) rfl (fun _ _ _ _ _ => (pg_tup rfl (pgs_cons (pg_name (i := 3) sc_is_part.nd rfl (by first | exact Or.inl rfl | exact Or.inr rfl)) (pgs_cons (pg_name (i := 4) sc_is_part.nd rfl (by first | exact Or.inl rfl | exact Or.inr rfl)) pgs_nil)))) (fun _ _ _ _ _ => qts_nil) (fun _ _ _ _ _ => (q_call ((ok_can_stand T sy).mono (by decide)) hr takes0 (qa_cons (qv 3) (qa_cons (qv 4) (qa_cons (qv 2) qa_nil)))))))) qab_nil))))))))
abbrev st_checked_parts : Stmt := (top 25)
noncomputable def b_checked_parts_0 : C :=
  (ifS (orT (notT (truE (callE f_is_list (consA (varE 0) nilA)))) (notT (truE (borE 0)))) (retS (conE .non)) passS)
noncomputable def b_checked_parts_1 : C :=
  (setS 2 (callE dictF (consA (borE 1) nilA)))
noncomputable def b_checked_parts_2 : C :=
  (ownS 3 (lstE nilA))
noncomputable def b_checked_parts_3 : C :=
  (forS (iterE (varE 0)) (.nm 4) (seqS (ifS (notT (truE (callE f_is_part (consA (varE 4) (consA (varE 2) (consA (callE lenF (consA (borE 3) nilA)) nilA)))))) (retS (conE .non)) passS)
  (owS 3 "list" appO (consA (callE tupleF (consA (borE 4) nilA)) nilA))))
noncomputable def b_checked_parts_4 : C :=
  (seqS (frzS 3) (retS (callE f_one_form (consA (varE 3) (consA (varE 1) nilA)))))
theorem sc_checked_parts : FnScope ["parts", "kinds", "table", "found", "part"] ["parts", "kinds"] (defScope st_checked_parts) := ⟨rfl, rfl, rfl, by decide +kernel, rfl, by decide +kernel, by decide +kernel⟩
noncomputable def b_checked_parts : C :=
  (seqS (b_checked_parts_0) (seqS (b_checked_parts_1) (seqS (b_checked_parts_2) (seqS (b_checked_parts_3) b_checked_parts_4))))
noncomputable def f_checked_parts : Fn := mkFn 2 5 b_checked_parts
set_option maxHeartbeats 8000000 in
theorem ok_checked_parts {P : Program} {w : World} {K : PySem.W.Frag} {mg : Str → Option Value} {base : Heap} (T : Txt K mg) (sy : SysB base) : DefOk P w K mg base 5 "checked_parts" f_checked_parts :=
  T.d_checked_parts.ok sc_checked_parts rfl rfl fun fa cdv A outer s H E Fr hr => (by exact (qs_cons (qs_if ((q_orT (q_notT (q_truT (q_B (q_call ((ok_is_list T sy).mono (by decide)) hr (takes_of rfl rfl rfl rfl) (qa_cons (qv 0) qa_nil))))) (q_or1T (q_notT (q_truT (qb 0)))))).pt (qs_one (qs_ret q_non)) qs_nil)
  (qs_cons (qs_set (i := 2) (q_fz (q_callT (qc_dict hr.r.hd) T.b_dict (by decide +kernel) (qab_cons (qb 1) qab_nil))) sc_checked_parts.nd)
  (qs_cons (qs_own (i := 3) (q_lst qa_nil) sc_checked_parts.nd)
  (qs_cons (qs_for (passes_of rfl) rfl (qi_val (qv 0)) (pg_name (i := 4) sc_checked_parts.nd rfl (by first | exact Or.inl rfl | exact Or.inr rfl)) (qs_cons (qs_if (q_notT (q_truT (q_B (q_call ((ok_is_part T sy).mono (by decide)) hr (takes_of rfl rfl rfl rfl) (qa_cons (qv 4) (qa_cons (qv 2) (qa_cons (q_fz (q_callB qc_len T.b_len (by decide +kernel) (qab_cons (qb 3) qab_nil))) qa_nil))))))) (qs_one (qs_ret q_non)) qs_nil)
  (qs_one (qs_ow 3 PySem.F.plainAttrs_list PySem.F.slot_list_append PySem.F.type_list_append qw_append (qa_cons (q_fz (q_callT qc_tuple T.b_tuple (by decide +kernel) (qab_cons (qb 4) qab_nil))) qa_nil)))))
  (qs_one (qs_frz (i := 3) (qs_ret (q_call ((ok_one_form T sy).mono (by decide)) hr (takes_of rfl rfl rfl rfl) (qa_cons (qv 3) (qa_cons (qv 1) qa_nil)))))))))))
abbrev st_items_with : Stmt := (top 33)
noncomputable def b_items_with_0 : C :=
  (setS 3 (callE dictF (consA (borE 1) nilA)))
noncomputable def b_items_with_1 : C :=
  (retS (callE tupleF (consA (callE sortedF (consA (sk2E (iterE (borE 0)) [4, 5, 6] (.nm 4) yesT (zipI (consA (sliceE (borE 4) (someO (conE (.int 1))) noO) (consA (binE idxD (borE 3) (binE idxD (borE 4) (conE (.int 0)))) nilA))) [5, 6] (.tp [5, 6]) (tstE (binE eqD (borE 6) (borE 2))) (varE 5)) nilA)) nilA)))
theorem sc_items_with : FnScope ["parts", "kinds", "code", "table", "part", "item", "told"] ["parts", "kinds", "code"] (defScope st_items_with) := ⟨rfl, rfl, rfl, by decide +kernel, rfl, by decide +kernel, by decide +kernel⟩
noncomputable def b_items_with : C :=
  (seqS (b_items_with_0) b_items_with_1)
noncomputable def f_items_with : Fn := mkFn 3 7 b_items_with
set_option maxHeartbeats 8000000 in
theorem ok_items_with {P : Program} {w : World} {K : PySem.W.Frag} {mg : Str → Option Value} {base : Heap} (T : Txt K mg) (sy : SysB base) : DefOk P w K mg base 1 "items_with" f_items_with :=
  T.d_items_with.ok sc_items_with rfl rfl fun fa cdv A outer s H E Fr hr => (by exact (qs_cons (qs_set (i := 3) (q_fz (q_callT (qc_dict hr.r.hd) T.b_dict (by decide +kernel) (qab_cons (qb 1) qab_nil))) sc_items_with.nd)
  (qs_one (qs_ret (q_fz (q_callT qc_tuple T.b_tuple (by decide +kernel) (qab_cons (q_B (q_fz (q_callB (qc_sorted rfl) T.b_sorted (by decide +kernel) (qab_cons (q_B (q_fz (q_sk2 rfl sc_items_with.nd (qi_bor (qb 0)) (own := [("part", 4), ("item", 5), ("told", 6)]) (⟨rfl, by decide +kernel, by decide +kernel, by decide +kernel, by decide +kernel⟩ : BlkOk ["parts", "kinds", "code", "table", "part", "item", "told"] (defScope st_items_with) _ [("part", 4), ("item", 5), ("told", 6)]) rfl (vs1 := [5, 6]) (by decide) rfl (fun _ _ _ _ _ => (pg_name (i := 4) sc_items_with.nd rfl (by first | exact Or.inl rfl | exact Or.inr rfl))) (fun _ _ _ _ _ => qts_nil) (fun _ _ _ _ _ _ => (qi_zip (qa_cons (q_fz (q_slice (qb 4) (qo_some (q_B q_int)) qo_none)) (qa_cons (q_idx hr.u1 (qb 3) (q_B (q_idx hr.u1 (qb 4) (q_B q_int)))) qa_nil)) T.b_zip)) (fun _ _ _ _ _ => (pg_tup rfl (pgs_cons (pg_name (i := 5) sc_items_with.nd rfl (by first | exact Or.inl rfl | exact Or.inr rfl)) (pgs_cons (pg_name (i := 6) sc_items_with.nd rfl (by first | exact Or.inl rfl | exact Or.inr rfl)) pgs_nil)))) (fun _ _ _ _ _ => (qts_one (q_cmpT (qo_eq hr.units) (qb 6) (qb 2)))) (fun _ _ _ _ _ => (qv 5))))) qab_nil)))) qab_nil)))))))
abbrev st_part_depths : Stmt := (top 32)
noncomputable def b_part_depths_0 : C :=
  (setS 2 (callE dictF (consA (borE 1) nilA)))
noncomputable def b_part_depths_1 : C :=
  (ownS 3 (lstE nilA))
noncomputable def b_part_depths_2 : C :=
  (forS (iterE (varE 0)) (.nm 4) (seqS (setS 5 (lcE (iterE (callE f_borne (consA (varE 4) (consA (binE idxD (borE 2) (binE idxD (borE 4) (conE (.int 0)))) nilA)))) [7] (.nm 7) yesT (binE idxD (borE 3) (borE 7))))
  (seqS (setS 6 (ifE (tstE (binE inD (binE idxD (borE 4) (conE (.int 0))) (tupE (consA (conE (.str "some")) (consA (conE (.str "every")) (consA (conE (.str "least")) nilA)))))) (conE (.int 1)) (conE (.int 0))))
  (owS 3 "list" appO (consA (binE addD (callE maxF (consA (lstE (consA (conE (.int 0)) (starA (borE 5) nilA))) nilA)) (borE 6)) nilA)))))
noncomputable def b_part_depths_3 : C :=
  (seqS (frzS 3) (retS (varE 3)))
theorem sc_part_depths : FnScope ["parts", "kinds", "table", "depths", "part", "below", "deeper", "number"] ["parts", "kinds"] (defScope st_part_depths) := ⟨rfl, rfl, rfl, by decide +kernel, rfl, by decide +kernel, by decide +kernel⟩
noncomputable def b_part_depths : C :=
  (seqS (b_part_depths_0) (seqS (b_part_depths_1) (seqS (b_part_depths_2) b_part_depths_3)))
noncomputable def f_part_depths : Fn := mkFn 2 8 b_part_depths
set_option maxHeartbeats 8000000 in
theorem ok_part_depths {P : Program} {w : World} {K : PySem.W.Frag} {mg : Str → Option Value} {base : Heap} (T : Txt K mg) (sy : SysB base) : DefOk P w K mg base 2 "part_depths" f_part_depths :=
  T.d_part_depths.ok sc_part_depths rfl rfl fun fa cdv A outer s H E Fr hr => (by exact (qs_cons (qs_set (i := 2) (q_fz (q_callT (qc_dict hr.r.hd) T.b_dict (by decide +kernel) (qab_cons (qb 1) qab_nil))) sc_part_depths.nd)
  (qs_cons (qs_own (i := 3) (q_lst qa_nil) sc_part_depths.nd)
  (qs_cons (qs_for (passes_of rfl) rfl (qi_val (qv 0)) (pg_name (i := 4) sc_part_depths.nd rfl (by first | exact Or.inl rfl | exact Or.inr rfl)) (qs_cons (qs_setLc (i := 5) rfl sc_part_depths.nd (qi_bor (q_B (q_call ((ok_borne T sy).mono (by decide)) hr (takes_of rfl rfl rfl rfl) (qa_cons (qv 4) (qa_cons (q_idx hr.u1 (qb 2) (q_B (q_idx hr.u1 (qb 4) (q_B q_int)))) qa_nil))))) (own := [("number", 7)]) (⟨rfl, by decide +kernel, by decide +kernel, by decide +kernel, by decide +kernel⟩ : BlkOk ["parts", "kinds", "table", "depths", "part", "below", "deeper", "number"] (defScope st_part_depths) _ [("number", 7)]) rfl (fun _ _ _ _ _ => (pg_name (i := 7) sc_part_depths.nd rfl (by first | exact Or.inl rfl | exact Or.inr rfl))) (fun _ _ _ _ _ => qts_nil) (fun _ _ _ _ _ => (q_idx hr.u1 (qb 3) (qb 7))))
  (qs_cons (qs_set (i := 6) (q_if (q_cmpT (qo_in hr.u65) (q_B (q_idx hr.u1 (qb 4) (q_B q_int))) (q_B (q_tup (qa_cons q_str (qa_cons q_str (qa_cons q_str qa_nil)))))) q_int q_int) sc_part_depths.nd)
  (qs_one (qs_ow 3 PySem.F.plainAttrs_list PySem.F.slot_list_append PySem.F.type_list_append qw_append (qa_cons (q_fz (q_bin qo_add (q_B (q_fz (q_callB (qc_max rfl) T.b_max (by decide +kernel) (qab_cons (q_B (q_fz (q_lst (qa_cons q_int (qa_star (qb 5) qa_nil))))) qab_nil)))) (qb 6))) qa_nil))))))
  (qs_one (qs_frz (i := 3) (qs_ret (qv 3))))))))
abbrev st_Saying_init : Stmt := ((clsBody (top 39)).getD 0 (.Pass ⟨0, 0, 0, 0⟩))
noncomputable def b_Saying_init_0 : C :=
  (setS 2 (callE f_checked_parts (consA (varE 1) (consA (conE (.ktup k_SAYING_KINDS)) nilA))))
noncomputable def b_Saying_init_1 : C :=
  (ifS (tstE (binE isD (borE 2) (conE .non))) badS passS)
noncomputable def b_Saying_init_2 : C :=
  (fstS ["Saying"] "parts" (varE 0) (callE tupleF (consA (borE 2) nilA)))
noncomputable def b_Saying_init_3 : C :=
  (fstS ["Saying"] "depth" (varE 0) (binE idxD (callE f_part_depths (consA (varE 2) (consA (conE (.ktup k_SAYING_KINDS)) nilA))) (unE negD (conE (.int 1)))))
noncomputable def b_Saying_init_4 : C :=
  (fstS ["Saying"] "words" (varE 0) (callE f_items_with (consA (varE 2) (consA (conE (.ktup k_SAYING_KINDS)) (consA (conE (.str "word")) nilA)))))
noncomputable def b_Saying_init_5 : C :=
  (fstS ["Saying"] "links" (varE 0) (callE f_items_with (consA (varE 2) (consA (conE (.ktup k_SAYING_KINDS)) (consA (conE (.str "link")) nilA)))))
noncomputable def b_Saying_init_6 : C :=
  (fstS ["Saying"] "scales" (varE 0) (callE f_items_with (consA (varE 2) (consA (conE (.ktup k_SAYING_KINDS)) (consA (conE (.str "scale")) nilA)))))
noncomputable def b_Saying_init_7 : C :=
  (fstS ["Saying"] "kinds" (varE 0) (callE tupleF (consA (callE sortedF (consA (skE (iterE (borE 2)) [3] (.nm 3) yesT (binE idxD (borE 3) (conE (.int 0)))) nilA)) nilA)))
noncomputable def b_Saying_init_8 : C :=
  (fstS ["Saying"] "is_back" (varE 0) (binE inD (conE (.str "back")) (callE f_items_with (consA (varE 2) (consA (conE (.ktup k_SAYING_KINDS)) (consA (conE (.str "direction")) nilA))))))
theorem sc_Saying_init : FnScope ["self", "parts", "found", "part"] ["self", "parts"] (defScope st_Saying_init) := ⟨rfl, rfl, rfl, by decide +kernel, rfl, by decide +kernel, by decide +kernel⟩
noncomputable def b_Saying_init : C :=
  (seqS (b_Saying_init_0) (seqS (b_Saying_init_1) (seqS (b_Saying_init_2) (seqS (b_Saying_init_3) (seqS (b_Saying_init_4) (seqS (b_Saying_init_5) (seqS (b_Saying_init_6) (seqS (b_Saying_init_7) b_Saying_init_8))))))))
noncomputable def f_Saying_init : Fn := mkFn 2 4 b_Saying_init
set_option maxHeartbeats 8000000 in
theorem mk_Saying {P : Program} {w : World} {K : PySem.W.Frag} {mg : Str → Option Value} {base : Heap} (T : Txt K mg) (sy : SysB base) : MkOk P w K mg base 6 "Saying" f_Saying_init :=
  T.C_Saying.ok sc_Saying_init rfl rfl fun fa cdv A outer s H E Fr hr => (by exact (qs_cons (qs_set (i := 2) (q_call ((ok_checked_parts T sy).mono (by decide)) hr (takes_of rfl rfl rfl rfl) (qa_cons (qv 1) (qa_cons (let ⟨_, _, h1, h2, h3⟩ := T.c_SAYING_KINDS; q_gtup h1 h2 (fun μ H => h3 _ _ μ H)) qa_nil))) sc_Saying_init.nd)
  (qs_cons (qs_if (q_cmpT qo_is (qb 2) (q_B q_non)) (qs_one qs_bad) qs_nil)
  (qs_cons (qs_fst (fl_parts T) (qv 0) (q_fz (q_callT qc_tuple T.b_tuple (by decide +kernel) (qab_cons (qb 2) qab_nil))))
  (qs_cons (qs_fst (fl_depth T) (qv 0) (q_idx hr.u1 (q_B (q_call ((ok_part_depths T sy).mono (by decide)) hr (takes_of rfl rfl rfl rfl) (qa_cons (qv 2) (qa_cons (let ⟨_, _, h1, h2, h3⟩ := T.c_SAYING_KINDS; q_gtup h1 h2 (fun μ H => h3 _ _ μ H)) qa_nil)))) (q_B (q_fz (q_un qo_neg (q_B q_int))))))
  (qs_cons (qs_fst (fl_words T) (qv 0) (q_call ((ok_items_with T sy).mono (by decide)) hr (takes_of rfl rfl rfl rfl) (qa_cons (qv 2) (qa_cons (let ⟨_, _, h1, h2, h3⟩ := T.c_SAYING_KINDS; q_gtup h1 h2 (fun μ H => h3 _ _ μ H)) (qa_cons q_str qa_nil)))))
  (qs_cons (qs_fst (fl_links T) (qv 0) (q_call ((ok_items_with T sy).mono (by decide)) hr (takes_of rfl rfl rfl rfl) (qa_cons (qv 2) (qa_cons (let ⟨_, _, h1, h2, h3⟩ := T.c_SAYING_KINDS; q_gtup h1 h2 (fun μ H => h3 _ _ μ H)) (qa_cons q_str qa_nil)))))
  (qs_cons (qs_fst (fl_scales T) (qv 0) (q_call ((ok_items_with T sy).mono (by decide)) hr (takes_of rfl rfl rfl rfl) (qa_cons (qv 2) (qa_cons (let ⟨_, _, h1, h2, h3⟩ := T.c_SAYING_KINDS; q_gtup h1 h2 (fun μ H => h3 _ _ μ H)) (qa_cons q_str qa_nil)))))
  (qs_cons (qs_fst (fl_kinds T) (qv 0) (q_fz (q_callT qc_tuple T.b_tuple (by decide +kernel) (qab_cons (q_B (q_fz (q_callB (qc_sorted rfl) T.b_sorted (by decide +kernel) (qab_cons (q_B (q_fz (q_sk rfl sc_Saying_init.nd (qi_bor (qb 2)) (own := [("part", 3)]) (⟨rfl, by decide +kernel, by decide +kernel, by decide +kernel, by decide +kernel⟩ : BlkOk ["self", "parts", "found", "part"] (defScope st_Saying_init) _ [("part", 3)]) rfl (fun _ _ _ _ _ => (pg_name (i := 3) sc_Saying_init.nd rfl (by first | exact Or.inl rfl | exact Or.inr rfl))) (fun _ _ _ _ _ => qts_nil) (fun _ _ _ _ _ => (q_idx hr.u1 (qb 3) (q_B q_int)))))) qab_nil)))) qab_nil))))
  (qs_one (qs_fst (fl_is_back T) (qv 0) (q_fz (q_cmp (qo_in hr.u65) (q_B q_str) (q_B (q_call ((ok_items_with T sy).mono (by decide)) hr (takes_of rfl rfl rfl rfl) (qa_cons (qv 2) (qa_cons (let ⟨_, _, h1, h2, h3⟩ := T.c_SAYING_KINDS; q_gtup h1 h2 (fun μ H => h3 _ _ μ H)) (qa_cons q_str qa_nil))))))))))))))))))
abbrev st_over : Stmt := (top 43)
noncomputable def b_over_0 : C :=
  (ifS (notT (truE (callE f_is_name (consA (varE 2) nilA)))) badS passS)
noncomputable def b_over_1 : C :=
  (ifS (notT (truE (callE isiK (consA (borE 3) (consA (conE (.gl "Saying")) nilA))))) badS passS)
noncomputable def b_over_2 : C :=
  (setS 5 (ifE (truE (borE 4)) (conE (.str "back")) (conE (.str "on"))))
noncomputable def b_over_3 : C :=
  (retS (callE (makeF "Saying" f_Saying_init) (consA (lstE (starA (fldE ["Saying"] "parts" (borE 3)) (consA (tupE (consA (varE 0) (starA (borE 1) (consA (varE 2) (consA (varE 5) (consA (binE subD (callE lenF (consA (fldE ["Saying"] "parts" (borE 3)) nilA)) (conE (.int 1))) nilA)))))) nilA))) nilA)))
theorem sc_over : FnScope ["kind", "items", "link", "saying", "back", "direction"] ["kind", "items", "link", "saying", "back"] (defScope st_over) := ⟨rfl, rfl, rfl, by decide +kernel, rfl, by decide +kernel, by decide +kernel⟩
noncomputable def b_over : C :=
  (seqS (b_over_0) (seqS (b_over_1) (seqS (b_over_2) b_over_3)))
noncomputable def f_over : Fn := mkFn 5 6 b_over
set_option maxHeartbeats 8000000 in
theorem ok_over {P : Program} {w : World} {K : PySem.W.Frag} {mg : Str → Option Value} {base : Heap} (T : Txt K mg) (sy : SysB base) : DefOk P w K mg base 8 "_over" f_over :=
  T.d_over.ok sc_over rfl rfl fun fa cdv A outer s H E Fr hr => (by exact (qs_cons (qs_if (q_notT (q_truT (q_B (q_call ((ok_is_name T sy).mono (by decide)) hr (takes_of rfl rfl rfl rfl) (qa_cons (qv 2) qa_nil))))) (qs_one qs_bad) qs_nil)
  (qs_cons (qs_if (q_notT (q_truT (q_B (q_fz (q_callB (qc_isi (kdk T) (kit T)) T.b_isinstance (by decide +kernel) (qab_cons (qb 3) (qab_cons (q_B (q_gl T.C_Saying.gC)) qab_nil))))))) (qs_one qs_bad) qs_nil)
  (qs_cons (qs_set (i := 5) (q_if (q_truT (qb 4)) q_str q_str) sc_over.nd)
  (qs_one (qs_ret (q_fz (q_new ((mk_Saying T sy).mono (by decide)) hr (takes_of rfl rfl rfl rfl) (qa_cons (q_fz (q_lst (qa_star (q_B (q_fld (fl_parts T) (qb 3))) (qa_cons (q_tup (qa_cons (qv 0) (qa_star (qb 1) (qa_cons (qv 2) (qa_cons (qv 5) (qa_cons (q_fz (q_bin qo_sub (q_B (q_fz (q_callB qc_len T.b_len (by decide +kernel) (qab_cons (q_B (q_fld (fl_parts T) (qb 3))) qab_nil)))) (q_B q_int))) qa_nil)))))) qa_nil)))) qa_nil)))))))))
abbrev st_some_of : Stmt := (top 44)
theorem sc_some_of : FnScope ["link", "saying", "back"] ["link", "saying", "back"] (defScope st_some_of) := ⟨rfl, rfl, rfl, by decide +kernel, rfl, by decide +kernel, by decide +kernel⟩
noncomputable def b_some_of : C :=
  (retS (callE f_over (consA (conE (.str "some")) (consA (lstE nilA) (consA (varE 0) (consA (varE 1) (consA (varE 2) nilA)))))))
noncomputable def f_some_of : Fn := mkFn 3 3 b_some_of
set_option maxHeartbeats 8000000 in
theorem ok_some_of {P : Program} {w : World} {K : PySem.W.Frag} {mg : Str → Option Value} {base : Heap} (T : Txt K mg) (sy : SysB base) : DefOk P w K mg base 9 "some_of" f_some_of :=
  T.d_some_of.ok sc_some_of rfl rfl fun fa cdv A outer s H E Fr hr => (by exact (qs_one (qs_ret (q_call ((ok_over T sy).mono (by decide)) hr (takes_of rfl rfl rfl rfl) (qa_cons q_str (qa_cons (q_fz (q_lst qa_nil)) (qa_cons (qv 0) (qa_cons (qv 1) (qa_cons (qv 2) qa_nil)))))))))
abbrev st_every_of : Stmt := (top 45)
theorem sc_every_of : FnScope ["link", "saying", "back"] ["link", "saying", "back"] (defScope st_every_of) := ⟨rfl, rfl, rfl, by decide +kernel, rfl, by decide +kernel, by decide +kernel⟩
noncomputable def b_every_of : C :=
  (retS (callE f_over (consA (conE (.str "every")) (consA (lstE nilA) (consA (varE 0) (consA (varE 1) (consA (varE 2) nilA)))))))
noncomputable def f_every_of : Fn := mkFn 3 3 b_every_of
set_option maxHeartbeats 8000000 in
theorem ok_every_of {P : Program} {w : World} {K : PySem.W.Frag} {mg : Str → Option Value} {base : Heap} (T : Txt K mg) (sy : SysB base) : DefOk P w K mg base 9 "every_of" f_every_of :=
  T.d_every_of.ok sc_every_of rfl rfl fun fa cdv A outer s H E Fr hr => (by exact (qs_one (qs_ret (q_call ((ok_over T sy).mono (by decide)) hr (takes_of rfl rfl rfl rfl) (qa_cons q_str (qa_cons (q_fz (q_lst qa_nil)) (qa_cons (qv 0) (qa_cons (qv 1) (qa_cons (qv 2) qa_nil)))))))))
abbrev st_at_least : Stmt := (top 46)
noncomputable def b_at_least_0 : C :=
  (ifS (notT (truE (callE f_is_within (consA (varE 0) (consA (conE (.int 2)) (consA (conE (.int 40)) nilA)))))) badS passS)
noncomputable def b_at_least_1 : C :=
  (retS (callE f_over (consA (conE (.str "least")) (consA (lstE (consA (varE 0) nilA)) (consA (varE 1) (consA (varE 2) (consA (varE 3) nilA)))))))
theorem sc_at_least : FnScope ["many", "link", "saying", "back"] ["many", "link", "saying", "back"] (defScope st_at_least) := ⟨rfl, rfl, rfl, by decide +kernel, rfl, by decide +kernel, by decide +kernel⟩
noncomputable def b_at_least : C :=
  (seqS (b_at_least_0) b_at_least_1)
noncomputable def f_at_least : Fn := mkFn 4 4 b_at_least
set_option maxHeartbeats 8000000 in
theorem ok_at_least {P : Program} {w : World} {K : PySem.W.Frag} {mg : Str → Option Value} {base : Heap} (T : Txt K mg) (sy : SysB base) : DefOk P w K mg base 9 "at_least" f_at_least :=
  T.d_at_least.ok sc_at_least rfl rfl fun fa cdv A outer s H E Fr hr => (by exact (qs_cons (qs_if (q_notT (q_truT (q_B (q_call ((ok_is_within T sy).mono (by decide)) hr (takes_of rfl rfl rfl rfl) (qa_cons (qv 0) (qa_cons (let ⟨_, h⟩ := T.c_LEAST_MANY; q_gint h) (qa_cons (let ⟨_, h⟩ := T.c_MOST_MANY; q_gint h) qa_nil))))))) (qs_one qs_bad) qs_nil)
  (qs_one (qs_ret (q_call ((ok_over T sy).mono (by decide)) hr (takes_of rfl rfl rfl rfl) (qa_cons q_str (qa_cons (q_fz (q_lst (qa_cons (qv 0) qa_nil))) (qa_cons (qv 1) (qa_cons (qv 2) (qa_cons (qv 3) qa_nil))))))))))
abbrev st_l_draw : Stmt := (top 50)
noncomputable def b_l_draw_0 : C :=
  (ifS (tstE (binE gtD (binE idxD (borE 0) (conE (.int 2))) (conE (.int 0)))) (seqS (setS 2 (binE modD (callE intF (consA (binE idxD (borE 0) (conE (.int 2))) nilA)) (borE 1)))
  (seqS (setItS (binE fdivD (callE intF (consA (binE idxD (borE 0) (conE (.int 2))) nilA)) (borE 1)) (varE 0) (conE (.int 2)))
  (retS (varE 2)))) passS)
noncomputable def b_l_draw_1 : C :=
  (setS 3 (binE idxD (borE 0) (conE (.int 1))))
noncomputable def b_l_draw_2 : C :=
  (setItS (binE addD (borE 3) (conE (.int 1))) (varE 0) (conE (.int 1)))
noncomputable def b_l_draw_3 : C :=
  (setS 4 (binE addD (binE mul2D (conE (.int 55331)) (borE 3)) (conE (.int 2311))))
noncomputable def b_l_draw_4 : C :=
  (ifS (tstE (binE neD (binE idxD (borE 0) (conE (.int 0))) (lstE nilA))) (setS 4 (binE idxD (binE idxD (borE 0) (conE (.int 0))) (binE modD (callE intF (consA (borE 3) nilA)) (callE lenF (consA (binE idxD (borE 0) (conE (.int 0))) nilA))))) passS)
noncomputable def b_l_draw_5 : C :=
  (ifS (andT (tstE (binE ltbD (borE 3) (callE lenF (consA (binE idxD (borE 0) (conE (.int 0))) nilA)))) (tstE (binE geD (callE absF (consA (borE 4) nilA)) (binE powD (conE (.int 10)) (conE (.int 18)))))) (seqS (setS 5 (binE addD (binE mul2D (conE (.int 2)) (binE subD (callE absF (consA (borE 4) nilA)) (binE powD (conE (.int 10)) (conE (.int 18))))) (callE intF (consA (binE ltbD (borE 4) (conE (.int 0))) nilA))))
  (seqS (setItS (binE fdivD (callE intF (consA (borE 5) nilA)) (borE 1)) (varE 0) (conE (.int 2)))
  (retS (binE modD (callE intF (consA (borE 5) nilA)) (borE 1))))) passS)
noncomputable def b_l_draw_6 : C :=
  (setS 6 (binE modD (callE intF (consA (binE powD (binE addD (binE addD (binE modD (callE intF (consA (borE 4) nilA)) (conE (.int 2147483549))) (binE mul2D (conE (.int 64351)) (borE 3))) (conE (.int 2311))) (conE (.int 5))) nilA)) (conE (.int 2147483579))))
noncomputable def b_l_draw_7 : C :=
  (setS 6 (binE modD (callE intF (consA (binE powD (binE addD (binE addD (binE mul2D (borE 6) (binE addD (binE mul2D (conE (.int 2)) (borE 3)) (conE (.int 1747)))) (binE mul2D (binE mul2D (conE (.int 55331)) (borE 3)) (borE 3))) (conE (.int 64351))) (conE (.int 3))) nilA)) (conE (.int 2147483587))))
noncomputable def b_l_draw_8 : C :=
  (retS (binE modD (callE intF (consA (binE fdivD (borE 6) (conE (.int 64))) nilA)) (borE 1)))
theorem sc_l_draw : FnScope ["_law_pen_here", "_law_many", "_law_digit", "_law_at", "_law_cell", "_law_great", "_law_mixed"] ["_law_pen_here", "_law_many"] (defScope st_l_draw) := ⟨rfl, rfl, rfl, by decide +kernel, rfl, by decide +kernel, by decide +kernel⟩
noncomputable def b_l_draw : C :=
  (seqS (b_l_draw_0) (seqS (b_l_draw_1) (seqS (b_l_draw_2) (seqS (b_l_draw_3) (seqS (b_l_draw_4) (seqS (b_l_draw_5) (seqS (b_l_draw_6) (seqS (b_l_draw_7) b_l_draw_8))))))))
noncomputable def f_l_draw : Fn := mkFn 2 7 b_l_draw
set_option maxHeartbeats 8000000 in
theorem ok_l_draw {P : Program} {w : World} {K : PySem.W.Frag} {mg : Str → Option Value} {base : Heap} (T : Txt K mg) (sy : SysB base) : DefOk P w K mg base 1 "_law_draw" f_l_draw :=
  T.d_l_draw.ok sc_l_draw rfl rfl fun fa cdv A outer s H E Fr hr => (by exact (qs_cons (qs_if (q_cmpT qo_gt (q_B (q_idx hr.u1 (qb 0) (q_B q_int))) (q_B q_int)) (qs_cons (qs_set (i := 2) (q_fz (q_bin qo_mod (q_B (q_fz (q_callT qc_int T.b_int (by decide +kernel) (qab_cons (q_B (q_idx hr.u1 (qb 0) (q_B q_int))) qab_nil)))) (qb 1))) sc_l_draw.nd)
  (qs_cons (qs_setIt (q_fz (q_bin qo_fdiv (q_B (q_fz (q_callT qc_int T.b_int (by decide +kernel) (qab_cons (q_B (q_idx hr.u1 (qb 0) (q_B q_int))) qab_nil)))) (qb 1))) (qv 0) (q_B q_int))
  (qs_one (qs_ret (qv 2))))) qs_nil)
  (qs_cons (qs_set (i := 3) (q_idx hr.u1 (qb 0) (q_B q_int)) sc_l_draw.nd)
  (qs_cons (qs_setIt (q_fz (q_bin qo_add (qb 3) (q_B q_int))) (qv 0) (q_B q_int))
  (qs_cons (qs_set (i := 4) (q_fz (q_bin qo_add (q_B (q_fz (q_bin qo_mul2 (q_B q_int) (qb 3)))) (q_B q_int))) sc_l_draw.nd)
  (qs_cons (qs_if (q_cmpT (qo_ne hr.units) (q_B (q_idx hr.u1 (qb 0) (q_B q_int))) (q_B (q_fz (q_lst qa_nil)))) (qs_one (qs_set (i := 4) (q_idx hr.u1 (q_B (q_idx hr.u1 (qb 0) (q_B q_int))) (q_B (q_fz (q_bin qo_mod (q_B (q_fz (q_callT qc_int T.b_int (by decide +kernel) (qab_cons (qb 3) qab_nil)))) (q_B (q_fz (q_callB qc_len T.b_len (by decide +kernel) (qab_cons (q_B (q_idx hr.u1 (qb 0) (q_B q_int))) qab_nil)))))))) sc_l_draw.nd)) qs_nil)
  (qs_cons (qs_if ((q_andT (q_cmpT qo_ltb (qb 3) (q_B (q_fz (q_callB qc_len T.b_len (by decide +kernel) (qab_cons (q_B (q_idx hr.u1 (qb 0) (q_B q_int))) qab_nil))))) (q_and1T (q_cmpT qo_ge (q_B (q_fz (q_callB qc_abs T.b_abs (by decide +kernel) (qab_cons (qb 4) qab_nil)))) (q_B (q_fz (q_bin qo_pow (q_B q_int) (q_B q_int)))))))).pt (qs_cons (qs_set (i := 5) (q_fz (q_bin qo_add (q_B (q_fz (q_bin qo_mul2 (q_B q_int) (q_B (q_fz (q_bin qo_sub (q_B (q_fz (q_callB qc_abs T.b_abs (by decide +kernel) (qab_cons (qb 4) qab_nil)))) (q_B (q_fz (q_bin qo_pow (q_B q_int) (q_B q_int)))))))))) (q_B (q_fz (q_callT qc_int T.b_int (by decide +kernel) (qab_cons (q_B (q_fz (q_cmp qo_ltb (qb 4) (q_B q_int)))) qab_nil)))))) sc_l_draw.nd)
  (qs_cons (qs_setIt (q_fz (q_bin qo_fdiv (q_B (q_fz (q_callT qc_int T.b_int (by decide +kernel) (qab_cons (qb 5) qab_nil)))) (qb 1))) (qv 0) (q_B q_int))
  (qs_one (qs_ret (q_fz (q_bin qo_mod (q_B (q_fz (q_callT qc_int T.b_int (by decide +kernel) (qab_cons (qb 5) qab_nil)))) (qb 1))))))) qs_nil)
  (qs_cons (qs_set (i := 6) (q_fz (q_bin qo_mod (q_B (q_fz (q_callT qc_int T.b_int (by decide +kernel) (qab_cons (q_B (q_fz (q_bin qo_pow (q_B (q_fz (q_bin qo_add (q_B (q_fz (q_bin qo_add (q_B (q_fz (q_bin qo_mod (q_B (q_fz (q_callT qc_int T.b_int (by decide +kernel) (qab_cons (qb 4) qab_nil)))) (q_B q_int)))) (q_B (q_fz (q_bin qo_mul2 (q_B q_int) (qb 3))))))) (q_B q_int)))) (q_B q_int)))) qab_nil)))) (q_B q_int))) sc_l_draw.nd)
  (qs_cons (qs_set (i := 6) (q_fz (q_bin qo_mod (q_B (q_fz (q_callT qc_int T.b_int (by decide +kernel) (qab_cons (q_B (q_fz (q_bin qo_pow (q_B (q_fz (q_bin qo_add (q_B (q_fz (q_bin qo_add (q_B (q_fz (q_bin qo_mul2 (qb 6) (q_B (q_fz (q_bin qo_add (q_B (q_fz (q_bin qo_mul2 (q_B q_int) (qb 3)))) (q_B q_int))))))) (q_B (q_fz (q_bin qo_mul2 (q_B (q_fz (q_bin qo_mul2 (q_B q_int) (qb 3)))) (qb 3))))))) (q_B q_int)))) (q_B q_int)))) qab_nil)))) (q_B q_int))) sc_l_draw.nd)
  (qs_one (qs_ret (q_fz (q_bin qo_mod (q_B (q_fz (q_callT qc_int T.b_int (by decide +kernel) (qab_cons (q_B (q_fz (q_bin qo_fdiv (qb 6) (q_B q_int)))) qab_nil)))) (qb 1))))))))))))))
abbrev st_l_pick : Stmt := (top 51)
theorem sc_l_pick : FnScope ["_law_pen_here", "_law_some"] ["_law_pen_here", "_law_some"] (defScope st_l_pick) := ⟨rfl, rfl, rfl, by decide +kernel, rfl, by decide +kernel, by decide +kernel⟩
noncomputable def b_l_pick : C :=
  (retS (binE idxD (borE 1) (callE f_l_draw (consA (varE 0) (consA (callE lenF (consA (borE 1) nilA)) nilA)))))
noncomputable def f_l_pick : Fn := mkFn 2 2 b_l_pick
set_option maxHeartbeats 8000000 in
theorem ok_l_pick {P : Program} {w : World} {K : PySem.W.Frag} {mg : Str → Option Value} {base : Heap} (T : Txt K mg) (sy : SysB base) : DefOk P w K mg base 2 "_law_pick" f_l_pick :=
  T.d_l_pick.ok sc_l_pick rfl rfl fun fa cdv A outer s H E Fr hr => (by exact (qs_one (qs_ret (q_idx hr.u1 (qb 1) (q_B (q_call ((ok_l_draw T sy).mono (by decide)) hr (takes_of rfl rfl rfl rfl) (qa_cons (qv 0) (qa_cons (q_fz (q_callB qc_len T.b_len (by decide +kernel) (qab_cons (qb 1) qab_nil))) qa_nil))))))))
abbrev st_l_part : Stmt := (top 52)
noncomputable def b_l_part_0 : C :=
  (setS 2 (callE f_l_pick (consA (varE 0) (consA (lstE (consA (conE (.str "some")) (consA (conE (.str "word")) (consA (conE (.str "every")) (consA (conE (.str "both")) (consA (conE (.str "least")) (consA (conE (.str "either")) (consA (conE (.str "not")) (consA (conE (.str "top")) (consA (conE (.str "above")) (consA (conE (.str "thing")) (consA (conE (.str "nothing")) (consA (conE (.str "some")) nilA))))))))))))) nilA))))
noncomputable def b_l_part_1 : C :=
  (parS 3 4 (consA (callE f_l_pick (consA (varE 0) (consA (lstE (consA (conE (.str "p")) (consA (conE (.str "a.b")) (consA (conE (.str "a")) (consA (conE (.str "on")) nilA))))) nilA))) (consA (callE f_l_pick (consA (varE 0) (consA (lstE (consA (conE (.str "l")) (consA (conE (.str "a")) (consA (conE (.str "l.l")) (consA (conE (.str "back")) nilA))))) nilA))) nilA)))
noncomputable def b_l_part_2 : C :=
  (par3S 5 6 7 (consA (callE f_l_pick (consA (varE 0) (consA (lstE (consA (conE (.str "on")) (consA (conE (.str "on")) (consA (conE (.str "back")) nilA)))) nilA))) (consA (callE f_l_draw (consA (varE 0) (consA (callE maxF (consA (conE (.int 1)) (consA (borE 1) nilA))) nilA))) (consA (callE f_l_draw (consA (varE 0) (consA (callE maxF (consA (conE (.int 1)) (consA (borE 1) nilA))) nilA))) nilA))))
noncomputable def b_l_part_3 : C :=
  (ifS (andT (tstE (binE eqD (borE 1) (conE (.int 0)))) (tstE (binE inD (borE 2) (tupE (consA (conE (.str "both")) (consA (conE (.str "either")) (consA (conE (.str "not")) (consA (conE (.str "some")) (consA (conE (.str "every")) (consA (conE (.str "least")) (consA (conE (.str "top")) nilA))))))))))) (setS 2 (conE (.str "word"))) passS)
noncomputable def b_l_part_4 : C :=
  (ifS (tstE (binE inD (borE 2) (tupE (consA (conE (.str "thing")) (consA (conE (.str "nothing")) nilA))))) (retS (tupE (consA (varE 2) nilA))) passS)
noncomputable def b_l_part_5 : C :=
  (ifS (tstE (binE inD (borE 2) (tupE (consA (conE (.str "word")) (consA (conE (.str "not")) nilA))))) (retS (tupE (consA (varE 2) (consA (ifE (tstE (binE eqD (borE 2) (conE (.str "word")))) (varE 3) (varE 6)) nilA)))) passS)
noncomputable def b_l_part_6 : C :=
  (ifS (tstE (binE inD (borE 2) (tupE (consA (conE (.str "both")) (consA (conE (.str "either")) nilA))))) (retS (tupE (consA (varE 2) (consA (varE 6) (consA (varE 7) nilA))))) passS)
noncomputable def b_l_part_7 : C :=
  (ifS (tstE (binE inD (borE 2) (tupE (consA (conE (.str "some")) (consA (conE (.str "every")) nilA))))) (retS (tupE (consA (varE 2) (consA (varE 4) (consA (varE 5) (consA (varE 6) nilA)))))) passS)
noncomputable def b_l_part_8 : C :=
  (ifS (tstE (binE eqD (borE 2) (conE (.str "least")))) (retS (tupE (consA (varE 2) (consA (binE addD (conE (.int 2)) (callE f_l_draw (consA (varE 0) (consA (conE (.int 39)) nilA)))) (consA (varE 4) (consA (varE 5) (consA (varE 6) nilA))))))) passS)
noncomputable def b_l_part_9 : C :=
  (retS (tupE (consA (varE 2) (consA (callE f_l_pick (consA (varE 0) (consA (lstE (consA (conE (.str "s")) (consA (conE (.str "back")) nilA))) nilA))) (consA (ifE (tstE (binE eqD (borE 2) (conE (.str "top")))) (varE 6) (varE 3)) nilA)))))
theorem sc_l_part : FnScope ["_law_pen_here", "_law_at", "_law_kind", "_law_name", "_law_link", "_law_way", "_law_one", "_law_other"] ["_law_pen_here", "_law_at"] (defScope st_l_part) := ⟨rfl, rfl, rfl, by decide +kernel, rfl, by decide +kernel, by decide +kernel⟩
noncomputable def b_l_part : C :=
  (seqS (b_l_part_0) (seqS (b_l_part_1) (seqS (b_l_part_2) (seqS (b_l_part_3) (seqS (b_l_part_4) (seqS (b_l_part_5) (seqS (b_l_part_6) (seqS (b_l_part_7) (seqS (b_l_part_8) b_l_part_9)))))))))
noncomputable def f_l_part : Fn := mkFn 2 8 b_l_part
set_option maxHeartbeats 8000000 in
theorem ok_l_part {P : Program} {w : World} {K : PySem.W.Frag} {mg : Str → Option Value} {base : Heap} (T : Txt K mg) (sy : SysB base) : DefOk P w K mg base 3 "_law_part" f_l_part :=
  T.d_l_part.ok sc_l_part rfl rfl fun fa cdv A outer s H E Fr hr => (by exact (qs_cons (qs_set (i := 2) (q_call ((ok_l_pick T sy).mono (by decide)) hr (takes_of rfl rfl rfl rfl) (qa_cons (qv 0) (qa_cons (q_fz (q_lst (qa_cons q_str (qa_cons q_str (qa_cons q_str (qa_cons q_str (qa_cons q_str (qa_cons q_str (qa_cons q_str (qa_cons q_str (qa_cons q_str (qa_cons q_str (qa_cons q_str (qa_cons q_str qa_nil)))))))))))))) qa_nil))) sc_l_part.nd)
  (qs_cons (qs_par (i := 3) (j := 4) (qa_cons (q_call ((ok_l_pick T sy).mono (by decide)) hr (takes_of rfl rfl rfl rfl) (qa_cons (qv 0) (qa_cons (q_fz (q_lst (qa_cons q_str (qa_cons q_str (qa_cons q_str (qa_cons q_str qa_nil)))))) qa_nil))) (qa_cons (q_call ((ok_l_pick T sy).mono (by decide)) hr (takes_of rfl rfl rfl rfl) (qa_cons (qv 0) (qa_cons (q_fz (q_lst (qa_cons q_str (qa_cons q_str (qa_cons q_str (qa_cons q_str qa_nil)))))) qa_nil))) qa_nil)) sc_l_part.nd)
  (qs_cons (qs_par3 (i := 5) (j := 6) (l := 7) (qa_cons (q_call ((ok_l_pick T sy).mono (by decide)) hr (takes_of rfl rfl rfl rfl) (qa_cons (qv 0) (qa_cons (q_fz (q_lst (qa_cons q_str (qa_cons q_str (qa_cons q_str qa_nil))))) qa_nil))) (qa_cons (q_call ((ok_l_draw T sy).mono (by decide)) hr (takes_of rfl rfl rfl rfl) (qa_cons (qv 0) (qa_cons (q_fz (q_callB (qc_max rfl) T.b_max (by decide +kernel) (qab_cons (q_B q_int) (qab_cons (qb 1) qab_nil)))) qa_nil))) (qa_cons (q_call ((ok_l_draw T sy).mono (by decide)) hr (takes_of rfl rfl rfl rfl) (qa_cons (qv 0) (qa_cons (q_fz (q_callB (qc_max rfl) T.b_max (by decide +kernel) (qab_cons (q_B q_int) (qab_cons (qb 1) qab_nil)))) qa_nil))) qa_nil))) sc_l_part.nd)
  (qs_cons (qs_if ((q_andT (q_cmpT (qo_eq hr.units) (qb 1) (q_B q_int)) (q_and1T (q_cmpT (qo_in hr.u65) (qb 2) (q_B (q_tup (qa_cons q_str (qa_cons q_str (qa_cons q_str (qa_cons q_str (qa_cons q_str (qa_cons q_str (qa_cons q_str qa_nil))))))))))))).pt (qs_one (qs_set (i := 2) q_str sc_l_part.nd)) qs_nil)
  (qs_cons (qs_if (q_cmpT (qo_in hr.u65) (qb 2) (q_B (q_tup (qa_cons q_str (qa_cons q_str qa_nil))))) (qs_one (qs_ret (q_tup (qa_cons (qv 2) qa_nil)))) qs_nil)
  (qs_cons (qs_if (q_cmpT (qo_in hr.u65) (qb 2) (q_B (q_tup (qa_cons q_str (qa_cons q_str qa_nil))))) (qs_one (qs_ret (q_tup (qa_cons (qv 2) (qa_cons (q_if (q_cmpT (qo_eq hr.units) (qb 2) (q_B q_str)) (qv 3) (qv 6)) qa_nil))))) qs_nil)
  (qs_cons (qs_if (q_cmpT (qo_in hr.u65) (qb 2) (q_B (q_tup (qa_cons q_str (qa_cons q_str qa_nil))))) (qs_one (qs_ret (q_tup (qa_cons (qv 2) (qa_cons (qv 6) (qa_cons (qv 7) qa_nil)))))) qs_nil)
  (qs_cons (qs_if (q_cmpT (qo_in hr.u65) (qb 2) (q_B (q_tup (qa_cons q_str (qa_cons q_str qa_nil))))) (qs_one (qs_ret (q_tup (qa_cons (qv 2) (qa_cons (qv 4) (qa_cons (qv 5) (qa_cons (qv 6) qa_nil))))))) qs_nil)
  (qs_cons (qs_if (q_cmpT (qo_eq hr.units) (qb 2) (q_B q_str)) (qs_one (qs_ret (q_tup (qa_cons (qv 2) (qa_cons (q_fz (q_bin qo_add (q_B q_int) (q_B (q_call ((ok_l_draw T sy).mono (by decide)) hr (takes_of rfl rfl rfl rfl) (qa_cons (qv 0) (qa_cons q_int qa_nil)))))) (qa_cons (qv 4) (qa_cons (qv 5) (qa_cons (qv 6) qa_nil)))))))) qs_nil)
  (qs_one (qs_ret (q_tup (qa_cons (qv 2) (qa_cons (q_call ((ok_l_pick T sy).mono (by decide)) hr (takes_of rfl rfl rfl rfl) (qa_cons (qv 0) (qa_cons (q_fz (q_lst (qa_cons q_str (qa_cons q_str qa_nil)))) qa_nil))) (qa_cons (q_if (q_cmpT (qo_eq hr.units) (qb 2) (q_B q_str)) (qv 6) (qv 3)) qa_nil))))))))))))))))
abbrev st_shifted_parts : Stmt := (top 29)
noncomputable def b_shifted_parts_0 : C :=
  (setS 3 (callE dictF (consA (borE 2) nilA)))
noncomputable def b_shifted_parts_1 : C :=
  (setS 4 (dcE (range1 (callE lenF (consA (borE 0) nilA))) [5] (.nm 5) yesT (varE 5) (binE addD (borE 5) (borE 1))))
noncomputable def b_shifted_parts_2 : C :=
  (retS (lcE (iterE (borE 0)) [6] (.nm 6) yesT (callE f_with_numbers (consA (varE 6) (consA (binE idxD (borE 3) (binE idxD (borE 6) (conE (.int 0)))) (consA (varE 4) nilA))))))
theorem sc_shifted_parts : FnScope ["parts", "by", "kinds", "table", "moved", "number", "part"] ["parts", "by", "kinds"] (defScope st_shifted_parts) := ⟨rfl, rfl, rfl, by decide +kernel, rfl, by decide +kernel, by decide +kernel⟩
noncomputable def b_shifted_parts : C :=
  (seqS (b_shifted_parts_0) (seqS (b_shifted_parts_1) b_shifted_parts_2))
noncomputable def f_shifted_parts : Fn := mkFn 3 7 b_shifted_parts
set_option maxHeartbeats 8000000 in
theorem ok_shifted_parts {P : Program} {w : World} {K : PySem.W.Frag} {mg : Str → Option Value} {base : Heap} (T : Txt K mg) (sy : SysB base) : DefOk P w K mg base 2 "shifted_parts" f_shifted_parts :=
  T.d_shifted_parts.ok sc_shifted_parts rfl rfl fun fa cdv A outer s H E Fr hr => (by exact (qs_cons (qs_set (i := 3) (q_fz (q_callT (qc_dict hr.r.hd) T.b_dict (by decide +kernel) (qab_cons (qb 2) qab_nil))) sc_shifted_parts.nd)
  (qs_cons (qs_set (i := 4) (q_fz (q_dc rfl sc_shifted_parts.nd (qi_range1 (q_B (q_fz (q_callB qc_len T.b_len (by decide +kernel) (qab_cons (qb 0) qab_nil)))) T.b_range) (own := [("number", 5)]) (⟨rfl, by decide +kernel, by decide +kernel, by decide +kernel, by decide +kernel⟩ : BlkOk ["parts", "by", "kinds", "table", "moved", "number", "part"] (defScope st_shifted_parts) _ [("number", 5)]) rfl (fun _ _ _ _ _ => (pg_name (i := 5) sc_shifted_parts.nd rfl (by first | exact Or.inl rfl | exact Or.inr rfl))) (fun _ _ _ _ _ => qts_nil) (fun _ _ _ _ _ => (qv 5)) (fun _ _ _ _ _ => (q_fz (q_bin qo_add (qb 5) (qb 1)))))) sc_shifted_parts.nd)
  (qs_one (qs_ret (q_fz (q_lc rfl sc_shifted_parts.nd (qi_bor (qb 0)) (own := [("part", 6)]) (⟨rfl, by decide +kernel, by decide +kernel, by decide +kernel, by decide +kernel⟩ : BlkOk ["parts", "by", "kinds", "table", "moved", "number", "part"] (defScope st_shifted_parts) _ [("part", 6)]) rfl (fun _ _ _ _ _ => (pg_name (i := 6) sc_shifted_parts.nd rfl (by first | exact Or.inl rfl | exact Or.inr rfl))) (fun _ _ _ _ _ => qts_nil) (fun _ _ _ _ _ => (q_call ((ok_with_numbers T sy).mono (by decide)) hr takes0 (qa_cons (qv 6) (qa_cons (q_idx hr.u1 (qb 3) (q_B (q_idx hr.u1 (qb 6) (q_B q_int)))) (qa_cons (qv 4) qa_nil))))))))))))
abbrev st_folded_parts : Stmt := (top 31)
noncomputable def b_folded_parts_0 : C :=
  (ownS 3 (callE listF (consA (binE idxD (borE 0) (conE (.int 0))) nilA)))
noncomputable def b_folded_parts_1 : C :=
  (forS (iterE (sliceE (borE 0) (someO (conE (.int 1))) noO)) (.nm 4) (seqS (setS 5 (binE subD (callE lenF (consA (borE 3) nilA)) (conE (.int 1))))
  (seqS (owS 3 "list" extO (consA (callE f_shifted_parts (consA (varE 4) (consA (callE lenF (consA (borE 3) nilA)) (consA (varE 2) nilA)))) nilA))
  (owS 3 "list" appO (consA (tupE (consA (varE 1) (consA (varE 5) (consA (binE subD (callE lenF (consA (borE 3) nilA)) (conE (.int 1))) nilA)))) nilA)))))
noncomputable def b_folded_parts_2 : C :=
  (seqS (frzS 3) (retS (varE 3)))
theorem sc_folded_parts : FnScope ["rows", "kind", "kinds", "parts", "row", "last"] ["rows", "kind", "kinds"] (defScope st_folded_parts) := ⟨rfl, rfl, rfl, by decide +kernel, rfl, by decide +kernel, by decide +kernel⟩
noncomputable def b_folded_parts : C :=
  (seqS (b_folded_parts_0) (seqS (b_folded_parts_1) b_folded_parts_2))
noncomputable def f_folded_parts : Fn := mkFn 3 6 b_folded_parts
set_option maxHeartbeats 8000000 in
theorem ok_folded_parts {P : Program} {w : World} {K : PySem.W.Frag} {mg : Str → Option Value} {base : Heap} (T : Txt K mg) (sy : SysB base) : DefOk P w K mg base 3 "folded_parts" f_folded_parts :=
  T.d_folded_parts.ok sc_folded_parts rfl rfl fun fa cdv A outer s H E Fr hr => (by exact (qs_cons (qs_own (i := 3) (q_callT qc_list T.b_list (by decide +kernel) (qab_cons (q_B (q_idx hr.u1 (qb 0) (q_B q_int))) qab_nil)) sc_folded_parts.nd)
  (qs_cons (qs_for (passes_of rfl) rfl (qi_val (q_fz (q_slice (qb 0) (qo_some (q_B q_int)) qo_none))) (pg_name (i := 4) sc_folded_parts.nd rfl (by first | exact Or.inl rfl | exact Or.inr rfl)) (qs_cons (qs_set (i := 5) (q_fz (q_bin qo_sub (q_B (q_fz (q_callB qc_len T.b_len (by decide +kernel) (qab_cons (qb 3) qab_nil)))) (q_B q_int))) sc_folded_parts.nd)
  (qs_cons (qs_ow 3 PySem.F.plainAttrs_list PySem.F.slot_list_extend PySem.F.type_list_extend qw_extend (qa_cons (q_call ((ok_shifted_parts T sy).mono (by decide)) hr (takes_of rfl rfl rfl rfl) (qa_cons (qv 4) (qa_cons (q_fz (q_callB qc_len T.b_len (by decide +kernel) (qab_cons (qb 3) qab_nil))) (qa_cons (qv 2) qa_nil)))) qa_nil))
  (qs_one (qs_ow 3 PySem.F.plainAttrs_list PySem.F.slot_list_append PySem.F.type_list_append qw_append (qa_cons (q_tup (qa_cons (qv 1) (qa_cons (qv 5) (qa_cons (q_fz (q_bin qo_sub (q_B (q_fz (q_callB qc_len T.b_len (by decide +kernel) (qab_cons (qb 3) qab_nil)))) (q_B q_int))) qa_nil)))) qa_nil))))))
  (qs_one (qs_frz (i := 3) (qs_ret (qv 3)))))))
abbrev st_folded : Stmt := (top 42)
noncomputable def b_folded_0 : C :=
  (ifS (notT (truE (callE allF (consA (lcE (iterE (borE 0)) [3] (.nm 3) yesT (callE isiK (consA (borE 3) (consA (conE (.gl "Saying")) nilA)))) nilA)))) badS passS)
noncomputable def b_folded_1 : C :=
  (ifS (notT (truE (borE 0))) (retS (callE (makeF "Saying" f_Saying_init) (consA (lstE (consA (tupE (consA (varE 2) nilA)) nilA)) nilA))) passS)
noncomputable def b_folded_2 : C :=
  (retS (callE (makeF "Saying" f_Saying_init) (consA (callE f_folded_parts (consA (lcE (iterE (borE 0)) [3] (.nm 3) yesT (fldE ["Saying"] "parts" (borE 3))) (consA (varE 1) (consA (conE (.ktup k_SAYING_KINDS)) nilA)))) nilA)))
theorem sc_folded : FnScope ["sayings", "kind", "empty", "saying"] ["sayings", "kind", "empty"] (defScope st_folded) := ⟨rfl, rfl, rfl, by decide +kernel, rfl, by decide +kernel, by decide +kernel⟩
noncomputable def b_folded : C :=
  (seqS (b_folded_0) (seqS (b_folded_1) b_folded_2))
noncomputable def f_folded : Fn := mkFn 3 4 b_folded
set_option maxHeartbeats 8000000 in
theorem ok_folded {P : Program} {w : World} {K : PySem.W.Frag} {mg : Str → Option Value} {base : Heap} (T : Txt K mg) (sy : SysB base) : DefOk P w K mg base 8 "_folded" f_folded :=
  T.d_folded.ok sc_folded rfl rfl fun fa cdv A outer s H E Fr hr => (by exact (qs_cons (qs_if (q_notT (q_truT (q_B (q_fz (q_callB (qc_all rfl) T.b_all (by decide +kernel) (qab_cons (q_B (q_fz (q_lc rfl sc_folded.nd (qi_bor (qb 0)) (own := [("saying", 3)]) (⟨rfl, by decide +kernel, by decide +kernel, by decide +kernel, by decide +kernel⟩ : BlkOk ["sayings", "kind", "empty", "saying"] (defScope st_folded) _ [("saying", 3)]) rfl (fun _ _ _ _ _ => (pg_name (i := 3) sc_folded.nd rfl (by first | exact Or.inl rfl | exact Or.inr rfl))) (fun _ _ _ _ _ => qts_nil) (fun _ _ _ _ _ => (q_fz (q_callB (qc_isi (kdk T) (kit T)) T.b_isinstance (by decide +kernel) (qab_cons (qb 3) (qab_cons (q_B (q_gl T.C_Saying.gC)) qab_nil)))))))) qab_nil)))))) (qs_one qs_bad) qs_nil)
  (qs_cons (qs_if (q_notT (q_truT (qb 0))) (qs_one (qs_ret (q_fz (q_new ((mk_Saying T sy).mono (by decide)) hr (takes_of rfl rfl rfl rfl) (qa_cons (q_fz (q_lst (qa_cons (q_tup (qa_cons (qv 2) qa_nil)) qa_nil))) qa_nil))))) qs_nil)
  (qs_one (qs_ret (q_fz (q_new ((mk_Saying T sy).mono (by decide)) hr (takes_of rfl rfl rfl rfl) (qa_cons (q_call ((ok_folded_parts T sy).mono (by decide)) hr (takes_of rfl rfl rfl rfl) (qa_cons (q_fz (q_lc rfl sc_folded.nd (qi_bor (qb 0)) (own := [("saying", 3)]) (⟨rfl, by decide +kernel, by decide +kernel, by decide +kernel, by decide +kernel⟩ : BlkOk ["sayings", "kind", "empty", "saying"] (defScope st_folded) _ [("saying", 3)]) rfl (fun _ _ _ _ _ => (pg_name (i := 3) sc_folded.nd rfl (by first | exact Or.inl rfl | exact Or.inr rfl))) (fun _ _ _ _ _ => qts_nil) (fun _ _ _ _ _ => (q_fld (fl_parts T) (qb 3))))) (qa_cons (qv 1) (qa_cons (let ⟨_, _, h1, h2, h3⟩ := T.c_SAYING_KINDS; q_gtup h1 h2 (fun μ H => h3 _ _ μ H)) qa_nil)))) qa_nil))))))))
abbrev st_both_of : Stmt := (top 40)
theorem sc_both_of : FnScope ["sayings"] ["sayings"] (defScope st_both_of) := ⟨rfl, rfl, rfl, by decide +kernel, rfl, by decide +kernel, by decide +kernel⟩
noncomputable def b_both_of : C :=
  (retS (callE f_folded (consA (varE 0) (consA (conE (.str "both")) (consA (conE (.str "thing")) nilA)))))
noncomputable def f_both_of : Fn := mkFnS 0 1 b_both_of
set_option maxHeartbeats 8000000 in
theorem ok_both_of {P : Program} {w : World} {K : PySem.W.Frag} {mg : Str → Option Value} {base : Heap} (T : Txt K mg) (sy : SysB base) : DefOk P w K mg base 9 "both_of" f_both_of :=
  T.d_both_of.ok sc_both_of rfl rfl fun fa cdv A outer s H E Fr hr => (by exact (qs_one (qs_ret (q_call ((ok_folded T sy).mono (by decide)) hr (takes_of rfl rfl rfl rfl) (qa_cons (qv 0) (qa_cons q_str (qa_cons q_str qa_nil)))))))
abbrev st_Saying_invert : Stmt := ((clsBody (top 39)).getD 6 (.Pass ⟨0, 0, 0, 0⟩))
theorem sc_Saying_invert : FnScope ["self"] ["self"] (defScope st_Saying_invert) := ⟨rfl, rfl, rfl, by decide +kernel, rfl, by decide +kernel, by decide +kernel⟩
noncomputable def b_Saying_invert : C :=
  (retS (callE (makeF "Saying" f_Saying_init) (consA (lstE (starA (fldE ["Saying"] "parts" (borE 0)) (consA (tupE (consA (conE (.str "not")) (consA (binE subD (callE lenF (consA (fldE ["Saying"] "parts" (borE 0)) nilA)) (conE (.int 1))) nilA))) nilA))) nilA)))
noncomputable def f_Saying_invert : Fn := mkFn 1 1 b_Saying_invert
set_option maxHeartbeats 8000000 in
theorem mt_Saying_invert {P : Program} {w : World} {K : PySem.W.Frag} {mg : Str → Option Value} {base : Heap} (T : Txt K mg) (sy : SysB base) : MthOk P w K mg base 8 ["Saying"] "__invert__" f_Saying_invert :=
  T.m_Saying_invert.ok sc_Saying_invert rfl rfl fun fa cdv A outer s H E Fr hr => (by exact (qs_one (qs_ret (q_fz (q_new ((mk_Saying T sy).mono (by decide)) hr (takes_of rfl rfl rfl rfl) (qa_cons (q_fz (q_lst (qa_star (q_B (q_fld (fl_parts T) (qb 0))) (qa_cons (q_tup (qa_cons q_str (qa_cons (q_fz (q_bin qo_sub (q_B (q_fz (q_callB qc_len T.b_len (by decide +kernel) (qab_cons (q_B (q_fld (fl_parts T) (qb 0))) qab_nil)))) (q_B q_int))) qa_nil))) qa_nil)))) qa_nil))))))
abbrev st_top_of : Stmt := (top 47)
noncomputable def b_top_of_0 : C :=
  (ifS (notT (truE (callE f_is_name (consA (varE 0) nilA)))) badS passS)
noncomputable def b_top_of_1 : C :=
  (ifS (notT (truE (callE isiK (consA (borE 1) (consA (conE (.gl "Saying")) nilA))))) badS passS)
noncomputable def b_top_of_2 : C :=
  (retS (callE (makeF "Saying" f_Saying_init) (consA (lstE (starA (fldE ["Saying"] "parts" (borE 1)) (consA (tupE (consA (conE (.str "top")) (consA (varE 0) (consA (binE subD (callE lenF (consA (fldE ["Saying"] "parts" (borE 1)) nilA)) (conE (.int 1))) nilA)))) nilA))) nilA)))
theorem sc_top_of : FnScope ["scale", "saying"] ["scale", "saying"] (defScope st_top_of) := ⟨rfl, rfl, rfl, by decide +kernel, rfl, by decide +kernel, by decide +kernel⟩
noncomputable def b_top_of : C :=
  (seqS (b_top_of_0) (seqS (b_top_of_1) b_top_of_2))
noncomputable def f_top_of : Fn := mkFn 2 2 b_top_of
set_option maxHeartbeats 8000000 in
theorem ok_top_of {P : Program} {w : World} {K : PySem.W.Frag} {mg : Str → Option Value} {base : Heap} (T : Txt K mg) (sy : SysB base) : DefOk P w K mg base 8 "top_of" f_top_of :=
  T.d_top_of.ok sc_top_of rfl rfl fun fa cdv A outer s H E Fr hr => (by exact (qs_cons (qs_if (q_notT (q_truT (q_B (q_call ((ok_is_name T sy).mono (by decide)) hr (takes_of rfl rfl rfl rfl) (qa_cons (qv 0) qa_nil))))) (qs_one qs_bad) qs_nil)
  (qs_cons (qs_if (q_notT (q_truT (q_B (q_fz (q_callB (qc_isi (kdk T) (kit T)) T.b_isinstance (by decide +kernel) (qab_cons (qb 1) (qab_cons (q_B (q_gl T.C_Saying.gC)) qab_nil))))))) (qs_one qs_bad) qs_nil)
  (qs_one (qs_ret (q_fz (q_new ((mk_Saying T sy).mono (by decide)) hr (takes_of rfl rfl rfl rfl) (qa_cons (q_fz (q_lst (qa_star (q_B (q_fld (fl_parts T) (qb 1))) (qa_cons (q_tup (qa_cons q_str (qa_cons (qv 0) (qa_cons (q_fz (q_bin qo_sub (q_B (q_fz (q_callB qc_len T.b_len (by decide +kernel) (qab_cons (q_B (q_fld (fl_parts T) (qb 1))) qab_nil)))) (q_B q_int))) qa_nil)))) qa_nil)))) qa_nil))))))))
abbrev st_Saying_len : Stmt := ((clsBody (top 39)).getD 1 (.Pass ⟨0, 0, 0, 0⟩))
theorem sc_Saying_len : FnScope ["self"] ["self"] (defScope st_Saying_len) := ⟨rfl, rfl, rfl, by decide +kernel, rfl, by decide +kernel, by decide +kernel⟩
noncomputable def b_Saying_len : C :=
  (retS (callE lenF (consA (fldE ["Saying"] "parts" (borE 0)) nilA)))
noncomputable def f_Saying_len : Fn := mkFn 1 1 b_Saying_len
set_option maxHeartbeats 8000000 in
theorem mt_Saying_len {P : Program} {w : World} {K : PySem.W.Frag} {mg : Str → Option Value} {base : Heap} (T : Txt K mg) (sy : SysB base) : MthOk P w K mg base 1 ["Saying"] "__len__" f_Saying_len :=
  T.m_Saying_len.ok sc_Saying_len rfl rfl fun fa cdv A outer s H E Fr hr => (by exact (qs_one (qs_ret (q_fz (q_callB qc_len T.b_len (by decide +kernel) (qab_cons (q_B (q_fld (fl_parts T) (qb 0))) qab_nil))))))
abbrev st_l_named : Stmt := (top 54)
theorem sc_l_named : FnScope ["_law_rows", "_law_kinds", "_law_spot", "_law_part_here"] ["_law_rows", "_law_kinds", "_law_spot"] (defScope st_l_named) := ⟨rfl, rfl, rfl, by decide +kernel, rfl, by decide +kernel, by decide +kernel⟩
noncomputable def b_l_named : C :=
  (retS (callE tupleF (consA (callE sortedF (consA (callE set2F (consA (lcE (iterE (borE 0)) [3] (.nm 3) (tstE (binE inD (binE idxD (borE 3) (conE (.int 0))) (borE 1))) (binE idxD (borE 3) (borE 2))) nilA)) nilA)) nilA)))
noncomputable def f_l_named : Fn := mkFn 3 4 b_l_named
set_option maxHeartbeats 8000000 in
theorem ok_l_named {P : Program} {w : World} {K : PySem.W.Frag} {mg : Str → Option Value} {base : Heap} (T : Txt K mg) (sy : SysB base) : DefOk P w K mg base 1 "_law_named" f_l_named :=
  T.d_l_named.ok sc_l_named rfl rfl fun fa cdv A outer s H E Fr hr => (by exact (qs_one (qs_ret (q_fz (q_callT qc_tuple T.b_tuple (by decide +kernel) (qab_cons (q_B (q_fz (q_callB (qc_sorted rfl) T.b_sorted (by decide +kernel) (qab_cons (q_B (q_fz (q_callT (qc_set2 rfl) T.b_set (by decide +kernel) (qab_cons (q_B (q_fz (q_lc rfl sc_l_named.nd (qi_bor (qb 0)) (own := [("_law_part_here", 3)]) (⟨rfl, by decide +kernel, by decide +kernel, by decide +kernel, by decide +kernel⟩ : BlkOk ["_law_rows", "_law_kinds", "_law_spot", "_law_part_here"] (defScope st_l_named) _ [("_law_part_here", 3)]) rfl (fun _ _ _ _ _ => (pg_name (i := 3) sc_l_named.nd rfl (by first | exact Or.inl rfl | exact Or.inr rfl))) (fun _ _ _ _ _ => (qts_one (q_cmpT (qo_in hr.u65) (q_B (q_idx hr.u1 (qb 3) (q_B q_int))) (qb 1)))) (fun _ _ _ _ _ => (q_idx hr.u1 (qb 3) (qb 2)))))) qab_nil)))) qab_nil)))) qab_nil))))))
abbrev st_either_of : Stmt := (top 41)
theorem sc_either_of : FnScope ["sayings"] ["sayings"] (defScope st_either_of) := ⟨rfl, rfl, rfl, by decide +kernel, rfl, by decide +kernel, by decide +kernel⟩
noncomputable def b_either_of : C :=
  (retS (callE f_folded (consA (varE 0) (consA (conE (.str "either")) (consA (conE (.str "nothing")) nilA)))))
noncomputable def f_either_of : Fn := mkFnS 0 1 b_either_of
set_option maxHeartbeats 8000000 in
theorem ok_either_of {P : Program} {w : World} {K : PySem.W.Frag} {mg : Str → Option Value} {base : Heap} (T : Txt K mg) (sy : SysB base) : DefOk P w K mg base 9 "either_of" f_either_of :=
  T.d_either_of.ok sc_either_of rfl rfl fun fa cdv A outer s H E Fr hr => (by exact (qs_one (qs_ret (q_call ((ok_folded T sy).mono (by decide)) hr (takes_of rfl rfl rfl rfl) (qa_cons (qv 0) (qa_cons q_str (qa_cons q_str qa_nil)))))))
abbrev st_l_roads : Stmt := (top 53)
noncomputable def b_l_roads_0 (F : Fn) : C :=
  (setS 3 (binE idxD (borE 0) (borE 1)))
noncomputable def b_l_roads_1 (F : Fn) : C :=
  (ifS (tstE (binE inD (binE idxD (borE 3) (conE (.int 0))) (tupE (consA (conE (.str "thing")) (consA (conE (.str "nothing")) (consA (conE (.str "word")) (consA (conE (.str "above")) nilA))))))) (retS (lstE (consA (varE 2) nilA))) passS)
noncomputable def b_l_roads_2 (F : Fn) : C :=
  (ifS (tstE (binE inD (binE idxD (borE 3) (conE (.int 0))) (tupE (consA (conE (.str "both")) (consA (conE (.str "either")) nilA))))) (retS (callE sortedF (consA (callE set2F (consA (binE addD (callE F (consA (varE 0) (consA (binE idxD (borE 3) (conE (.int 1))) (consA (varE 2) nilA)))) (callE F (consA (varE 0) (consA (binE idxD (borE 3) (conE (.int 2))) (consA (varE 2) nilA))))) nilA)) nilA))) passS)
noncomputable def b_l_roads_3 (F : Fn) : C :=
  (retS (callE F (consA (varE 0) (consA (binE idxD (borE 3) (unE negD (conE (.int 1)))) (consA (binE addD (borE 2) (callE intF (consA (binE inD (binE idxD (borE 3) (conE (.int 0))) (tupE (consA (conE (.str "some")) (consA (conE (.str "every")) (consA (conE (.str "least")) nilA))))) nilA))) nilA)))))
theorem sc_l_roads : FnScope ["_law_rows", "_law_at", "_law_links", "_law_part_here"] ["_law_rows", "_law_at", "_law_links"] (defScope st_l_roads) := ⟨rfl, rfl, rfl, by decide +kernel, rfl, by decide +kernel, by decide +kernel⟩
noncomputable def b_l_roads (F : Fn) : C :=
  (seqS (b_l_roads_0 F) (seqS (b_l_roads_1 F) (seqS (b_l_roads_2 F) (b_l_roads_3 F))))
noncomputable def f_l_roads : Nat → Fn
  | 0 => mkFn 3 4 badS
  | n + 1 => mkFn 3 4 (b_l_roads (f_l_roads n))
set_option maxHeartbeats 8000000 in
theorem okS_l_roads {P : Program} {w : World} {K : PySem.W.Frag} {mg : Str → Option Value} {base : Heap} (T : Txt K mg) (sy : SysB base) {j : Nat} {F : Fn} (hF : DefOk P w K mg base j "_law_roads" F) : DefOk P w K mg base (j + 1) "_law_roads" (mkFn 3 4 (b_l_roads F)) :=
  T.d_l_roads.ok sc_l_roads rfl rfl fun fa cdv A outer s H E Fr hr => (by exact (qs_cons (qs_set (i := 3) (q_idx hr.u1 (qb 0) (qb 1)) sc_l_roads.nd)
  (qs_cons (qs_if (q_cmpT (qo_in hr.u65) (q_B (q_idx hr.u1 (qb 3) (q_B q_int))) (q_B (q_tup (qa_cons q_str (qa_cons q_str (qa_cons q_str (qa_cons q_str qa_nil))))))) (qs_one (qs_ret (q_fz (q_lst (qa_cons (qv 2) qa_nil))))) qs_nil)
  (qs_cons (qs_if (q_cmpT (qo_in hr.u65) (q_B (q_idx hr.u1 (qb 3) (q_B q_int))) (q_B (q_tup (qa_cons q_str (qa_cons q_str qa_nil))))) (qs_one (qs_ret (q_fz (q_callB (qc_sorted rfl) T.b_sorted (by decide +kernel) (qab_cons (q_B (q_fz (q_callT (qc_set2 rfl) T.b_set (by decide +kernel) (qab_cons (q_B (q_fz (q_bin qo_add (q_B (q_call (hF.mono (Nat.le_refl _)) hr (takes_of rfl rfl rfl rfl) (qa_cons (qv 0) (qa_cons (q_idx hr.u1 (qb 3) (q_B q_int)) (qa_cons (qv 2) qa_nil))))) (q_B (q_call (hF.mono (Nat.le_refl _)) hr (takes_of rfl rfl rfl rfl) (qa_cons (qv 0) (qa_cons (q_idx hr.u1 (qb 3) (q_B q_int)) (qa_cons (qv 2) qa_nil)))))))) qab_nil)))) qab_nil))))) qs_nil)
  (qs_one (qs_ret (q_call (hF.mono (Nat.le_refl _)) hr (takes_of rfl rfl rfl rfl) (qa_cons (qv 0) (qa_cons (q_idx hr.u1 (qb 3) (q_B (q_fz (q_un qo_neg (q_B q_int))))) (qa_cons (q_fz (q_bin qo_add (qb 2) (q_B (q_fz (q_callT qc_int T.b_int (by decide +kernel) (qab_cons (q_B (q_fz (q_cmp (qo_in hr.u65) (q_B (q_idx hr.u1 (qb 3) (q_B q_int))) (q_B (q_tup (qa_cons q_str (qa_cons q_str (qa_cons q_str qa_nil)))))))) qab_nil)))))) qa_nil))))))))))
theorem ok_l_roads {P : Program} {w : World} {K : PySem.W.Frag} {mg : Str → Option Value} {base : Heap} (T : Txt K mg) (sy : SysB base) : ∀ n, DefOk P w K mg base (n + 1) "_law_roads" (f_l_roads n)
  | 0 => T.d_l_roads.ok sc_l_roads rfl rfl fun _ _ _ _ _ _ _ _ _ => qss_bad
  | n + 1 => okS_l_roads T sy (ok_l_roads T sy n)
abbrev st_law : Stmt := (top 55)
noncomputable def b_law_0 : C :=
  (setS 1 (callE f_l_pen (consA (varE 0) nilA)))
noncomputable def b_law_1 : C :=
  (ownS 2 (lstE nilA))
noncomputable def b_law_2 : C :=
  (forS (range1 (conE (.int 2))) (.nm 3) (seqS (ownS 4 (lstE (consA (callE f_l_part (consA (varE 1) (consA (conE (.int 0)) nilA))) nilA)))
  (seqS (forS (range2 (conE (.int 1)) (binE addD (conE (.int 1)) (callE f_l_draw (consA (varE 1) (consA (conE (.int 9)) nilA))))) (.nm 5) (owS 4 "list" appO (consA (callE f_l_part (consA (varE 1) (consA (varE 5) nilA))) nilA)))
  (seqS (frzS 4) (owS 2 "list" appO (consA (callE (makeF "Saying" f_Saying_init) (consA (varE 4) nilA)) nilA))))))
noncomputable def b_law_3 : C :=
  (forS (iterE (binE addD (borE 2) (lstE (consA (callE f_both_of (consA (binE idxD (borE 2) (conE (.int 0))) (consA (binE idxD (borE 2) (conE (.int 1))) nilA))) (consA (mthN ["Saying"] f_Saying_invert (binE idxD (borE 2) (conE (.int 1)))) (consA (callE f_top_of (consA (conE (.str "t.t")) (consA (binE idxD (borE 2) (conE (.int 0))) nilA))) nilA)))))) (.nm 6) (seqS (asgS (.tp [4, 7]) (tupE (consA (callE listF (consA (fldE ["Saying"] "parts" (borE 6)) nilA)) (consA (tupE (consA (conE (.str "some")) (consA (conE (.str "every")) (consA (conE (.str "least")) nilA)))) nilA))))
  (seqS (seqS (frzS 4) (ifS (orT (tstE (binE neD (fldE ["Saying"] "depth" (borE 6)) (callE maxF (consA (callE (f_l_roads 24) (consA (varE 4) (consA (binE subD (callE lenF (consA (borE 4) nilA)) (conE (.int 1))) (consA (conE (.int 0)) nilA)))) nilA)))) (tstE (binE neD (lenN ["Saying"] f_Saying_len (varE 6)) (callE lenF (consA (borE 4) nilA))))) (retS (conE (.bl false))) passS))
  (seqS (seqS (frzS 4) (setS 8 (callE sortedF (consA (callE set2F (consA (binE addD (callE f_l_named (consA (varE 4) (consA (tupE (consA (conE (.str "word")) nilA)) (consA (conE (.int 1)) nilA)))) (callE f_l_named (consA (varE 4) (consA (tupE (consA (conE (.str "above")) nilA)) (consA (conE (.int 2)) nilA))))) nilA)) nilA))))
  (seqS (seqS (frzS 4) (ifS (orT (tstE (binE neD (fldE ["Saying"] "words" (borE 6)) (callE tupleF (consA (borE 8) nilA)))) (orT (tstE (binE neD (fldE ["Saying"] "links" (borE 6)) (callE f_l_named (consA (varE 4) (consA (varE 7) (consA (unE negD (conE (.int 3))) nilA)))))) (tstE (binE neD (fldE ["Saying"] "scales" (borE 6)) (callE f_l_named (consA (varE 4) (consA (tupE (consA (conE (.str "top")) (consA (conE (.str "above")) nilA))) (consA (conE (.int 1)) nilA)))))))) (retS (conE (.bl false))) passS))
  (seqS (ifS (tstE (binE neD (fldE ["Saying"] "kinds" (borE 6)) (callE tupleF (consA (callE sortedF (consA (callE set2F (consA (lcE (iterE (borE 4)) [13] (.nm 13) yesT (binE idxD (borE 13) (conE (.int 0)))) nilA)) nilA)) nilA)))) (retS (conE (.bl false))) passS)
  (ifS (tstE (binE neD (fldE ["Saying"] "is_back" (borE 6)) (binE neD (lcE (iterE (borE 4)) [13] (.nm 13) (andT (tstE (binE inD (binE idxD (borE 13) (conE (.int 0))) (borE 7))) (tstE (binE eqD (binE idxD (borE 13) (unE negD (conE (.int 2)))) (conE (.str "back"))))) (varE 13)) (lstE nilA)))) (retS (conE (.bl false))) passS)))))))
noncomputable def b_law_4 : C :=
  (par3S 9 10 11 (consA (binE idxD (borE 2) (conE (.int 0))) (consA (binE idxD (borE 2) (conE (.int 1))) (consA (binE eqD (callE f_l_draw (consA (varE 1) (consA (conE (.int 2)) nilA))) (conE (.int 1))) nilA))))
noncomputable def b_law_5 : C :=
  (ifS (orT (tstE (binE neD (fldE ["Saying"] "depth" (callE f_both_of (consA (varE 9) (consA (varE 10) nilA)))) (callE maxF (consA (fldE ["Saying"] "depth" (borE 9)) (consA (fldE ["Saying"] "depth" (borE 10)) nilA))))) (tstE (binE neD (fldE ["Saying"] "depth" (callE f_either_of (consA (varE 10) (consA (varE 9) nilA)))) (callE maxF (consA (fldE ["Saying"] "depth" (borE 9)) (consA (fldE ["Saying"] "depth" (borE 10)) nilA)))))) (retS (conE (.bl false))) passS)
noncomputable def b_law_6 : C :=
  (setS 12 (lstE (consA (callE f_some_of (consA (conE (.str "l")) (consA (varE 9) (consA (varE 11) nilA)))) (consA (callE f_every_of (consA (conE (.str "on")) (consA (varE 9) (consA (varE 11) nilA)))) (consA (callE f_at_least (consA (binE addD (conE (.int 2)) (callE f_l_draw (consA (varE 1) (consA (conE (.int 39)) nilA)))) (consA (conE (.str "l.l")) (consA (varE 9) (consA (varE 11) nilA))))) nilA)))))
noncomputable def b_law_7 : C :=
  (ifS (orT (tstE (binE neD (lcE (iterE (borE 12)) [6] (.nm 6) yesT (fldE ["Saying"] "depth" (borE 6))) (binE mul2D (lstE (consA (binE addD (fldE ["Saying"] "depth" (borE 9)) (conE (.int 1))) nilA)) (conE (.int 3))))) (tstE (binE neD (lcE (iterE (borE 12)) [6] (.nm 6) yesT (fldE ["Saying"] "is_back" (borE 6))) (binE mul2D (lstE (consA (orE (varE 11) (fldE ["Saying"] "is_back" (borE 9))) nilA)) (conE (.int 3)))))) (retS (conE (.bl false))) passS)
noncomputable def b_law_8 : C :=
  (retS (binE eqD (lstE (consA (fldE ["Saying"] "depth" (mthN ["Saying"] f_Saying_invert (varE 9))) (consA (fldE ["Saying"] "depth" (callE f_top_of (consA (conE (.str "s")) (consA (varE 9) nilA)))) nilA))) (binE mul2D (lstE (consA (fldE ["Saying"] "depth" (borE 9)) nilA)) (conE (.int 2)))))
theorem sc_law : FnScope ["_law_script", "_law_pen_here", "_law_some", "_law_turn", "_law_rows", "_law_at", "_law_saying", "_law_linked", "_law_words", "_law_one", "_law_other", "_law_back", "_law_deeper", "_law_part_here"] ["_law_script"] (defScope st_law) := ⟨rfl, rfl, rfl, by decide +kernel, rfl, by decide +kernel, by decide +kernel⟩
noncomputable def b_law : C :=
  (seqS (b_law_0) (seqS (b_law_1) (seqS (b_law_2) (seqS (b_law_3) (seqS (b_law_4) (seqS (b_law_5) (seqS (b_law_6) (seqS (b_law_7) b_law_8))))))))
noncomputable def f_law : Fn := mkFn 1 14 b_law
set_option maxHeartbeats 8000000 in
theorem ok_law {P : Program} {w : World} {K : PySem.W.Frag} {mg : Str → Option Value} {base : Heap} (T : Txt K mg) (sy : SysB base) : DefOk P w K mg base 26 "law" f_law :=
  T.d_law.ok sc_law rfl rfl fun fa cdv A outer s H E Fr hr => (by exact (qs_cons (qs_set (i := 1) (q_call ((ok_l_pen T sy).mono (by decide)) hr (takes_of rfl rfl rfl rfl) (qa_cons (qv 0) qa_nil)) sc_law.nd)
  (qs_cons (qs_own (i := 2) (q_lst qa_nil) sc_law.nd)
  (qs_cons (qs_for (passes_of rfl) rfl (qi_range1 (q_B q_int) T.b_range) (pg_name (i := 3) sc_law.nd rfl (by first | exact Or.inl rfl | exact Or.inr rfl)) (qs_cons (qs_own (i := 4) (q_lst (qa_cons (q_call ((ok_l_part T sy).mono (by decide)) hr (takes_of rfl rfl rfl rfl) (qa_cons (qv 1) (qa_cons q_int qa_nil))) qa_nil)) sc_law.nd)
  (qs_cons (qs_for (passes_of rfl) rfl (qi_range2 (q_B q_int) (q_B (q_fz (q_bin qo_add (q_B q_int) (q_B (q_call ((ok_l_draw T sy).mono (by decide)) hr (takes_of rfl rfl rfl rfl) (qa_cons (qv 1) (qa_cons q_int qa_nil))))))) T.b_range) (pg_name (i := 5) sc_law.nd rfl (by first | exact Or.inl rfl | exact Or.inr rfl)) (qs_one (qs_ow 4 PySem.F.plainAttrs_list PySem.F.slot_list_append PySem.F.type_list_append qw_append (qa_cons (q_call ((ok_l_part T sy).mono (by decide)) hr (takes_of rfl rfl rfl rfl) (qa_cons (qv 1) (qa_cons (qv 5) qa_nil))) qa_nil))))
  (qs_one (qs_frz (i := 4) (qs_ow 2 PySem.F.plainAttrs_list PySem.F.slot_list_append PySem.F.type_list_append qw_append (qa_cons (q_fz (q_new ((mk_Saying T sy).mono (by decide)) hr (takes_of rfl rfl rfl rfl) (qa_cons (qv 4) qa_nil))) qa_nil)))))))
  (qs_cons (qs_for (passes_of rfl) rfl (qi_val (q_fz (q_bin qo_add (qb 2) (q_B (q_fz (q_lst (qa_cons (q_call ((ok_both_of T sy).mono (by decide)) hr (takes_of rfl rfl rfl rfl) (qa_cons (q_idx hr.u1 (qb 2) (q_B q_int)) (qa_cons (q_idx hr.u1 (qb 2) (q_B q_int)) qa_nil))) (qa_cons (q_inv ((mt_Saying_invert T sy).mono (by decide)) hr (q_idx hr.u1 (qb 2) (q_B q_int))) (qa_cons (q_call ((ok_top_of T sy).mono (by decide)) hr (takes_of rfl rfl rfl rfl) (qa_cons q_str (qa_cons (q_idx hr.u1 (qb 2) (q_B q_int)) qa_nil))) qa_nil))))))))) (pg_name (i := 6) sc_law.nd rfl (by first | exact Or.inl rfl | exact Or.inr rfl)) (qs_cons (qs_asg (q_tup (qa_cons (q_fz (q_callT qc_list T.b_list (by decide +kernel) (qab_cons (q_B (q_fld (fl_parts T) (qb 6))) qab_nil))) (qa_cons (q_tup (qa_cons q_str (qa_cons q_str (qa_cons q_str qa_nil)))) qa_nil))) (pg_tup rfl (pgs_cons (pg_name (i := 4) sc_law.nd rfl (by first | exact Or.inl rfl | exact Or.inr rfl)) (pgs_cons (pg_name (i := 7) sc_law.nd rfl (by first | exact Or.inl rfl | exact Or.inr rfl)) pgs_nil))))
  (qs_cons (qs_frz (i := 4) (qs_if ((q_orT (q_cmpT (qo_ne hr.units) (q_B (q_fld (fl_depth T) (qb 6))) (q_B (q_fz (q_callB (qc_max rfl) T.b_max (by decide +kernel) (qab_cons (q_B (q_call ((ok_l_roads T sy 24).mono (by decide)) hr (takes_of rfl rfl rfl rfl) (qa_cons (qv 4) (qa_cons (q_fz (q_bin qo_sub (q_B (q_fz (q_callB qc_len T.b_len (by decide +kernel) (qab_cons (qb 4) qab_nil)))) (q_B q_int))) (qa_cons q_int qa_nil))))) qab_nil))))) (q_or1T (q_cmpT (qo_ne hr.units) (q_B (q_lenO ((mt_Saying_len T sy).mono (by decide)) hr (qv 6) T.b_len)) (q_B (q_fz (q_callB qc_len T.b_len (by decide +kernel) (qab_cons (qb 4) qab_nil)))))))).pt (qs_one (qs_ret q_bl)) qs_nil))
  (qs_cons (qs_frz (i := 4) (qs_set (i := 8) (q_fz (q_callB (qc_sorted rfl) T.b_sorted (by decide +kernel) (qab_cons (q_B (q_fz (q_callT (qc_set2 rfl) T.b_set (by decide +kernel) (qab_cons (q_B (q_fz (q_bin qo_add (q_B (q_call ((ok_l_named T sy).mono (by decide)) hr (takes_of rfl rfl rfl rfl) (qa_cons (qv 4) (qa_cons (q_tup (qa_cons q_str qa_nil)) (qa_cons q_int qa_nil))))) (q_B (q_call ((ok_l_named T sy).mono (by decide)) hr (takes_of rfl rfl rfl rfl) (qa_cons (qv 4) (qa_cons (q_tup (qa_cons q_str qa_nil)) (qa_cons q_int qa_nil)))))))) qab_nil)))) qab_nil))) sc_law.nd))
  (qs_cons (qs_frz (i := 4) (qs_if ((q_orT (q_cmpT (qo_ne hr.units) (q_B (q_fld (fl_words T) (qb 6))) (q_B (q_fz (q_callT qc_tuple T.b_tuple (by decide +kernel) (qab_cons (qb 8) qab_nil))))) (q_orT (q_cmpT (qo_ne hr.units) (q_B (q_fld (fl_links T) (qb 6))) (q_B (q_call ((ok_l_named T sy).mono (by decide)) hr (takes_of rfl rfl rfl rfl) (qa_cons (qv 4) (qa_cons (qv 7) (qa_cons (q_fz (q_un qo_neg (q_B q_int))) qa_nil)))))) (q_or1T (q_cmpT (qo_ne hr.units) (q_B (q_fld (fl_scales T) (qb 6))) (q_B (q_call ((ok_l_named T sy).mono (by decide)) hr (takes_of rfl rfl rfl rfl) (qa_cons (qv 4) (qa_cons (q_tup (qa_cons q_str (qa_cons q_str qa_nil))) (qa_cons q_int qa_nil)))))))))).pt (qs_one (qs_ret q_bl)) qs_nil))
  (qs_cons (qs_if (q_cmpT (qo_ne hr.units) (q_B (q_fld (fl_kinds T) (qb 6))) (q_B (q_fz (q_callT qc_tuple T.b_tuple (by decide +kernel) (qab_cons (q_B (q_fz (q_callB (qc_sorted rfl) T.b_sorted (by decide +kernel) (qab_cons (q_B (q_fz (q_callT (qc_set2 rfl) T.b_set (by decide +kernel) (qab_cons (q_B (q_fz (q_lc rfl sc_law.nd (qi_bor (qb 4)) (own := [("_law_part_here", 13)]) (⟨rfl, by decide +kernel, by decide +kernel, by decide +kernel, by decide +kernel⟩ : BlkOk ["_law_script", "_law_pen_here", "_law_some", "_law_turn", "_law_rows", "_law_at", "_law_saying", "_law_linked", "_law_words", "_law_one", "_law_other", "_law_back", "_law_deeper", "_law_part_here"] (defScope st_law) _ [("_law_part_here", 13)]) rfl (fun _ _ _ _ _ => (pg_name (i := 13) sc_law.nd rfl (by first | exact Or.inl rfl | exact Or.inr rfl))) (fun _ _ _ _ _ => qts_nil) (fun _ _ _ _ _ => (q_idx hr.u1 (qb 13) (q_B q_int)))))) qab_nil)))) qab_nil)))) qab_nil))))) (qs_one (qs_ret q_bl)) qs_nil)
  (qs_one (qs_if (q_cmpT (qo_ne hr.units) (q_B (q_fld (fl_is_back T) (qb 6))) (q_B (q_fz (q_cmp (qo_ne hr.units) (q_B (q_fz (q_lc rfl sc_law.nd (qi_bor (qb 4)) (own := [("_law_part_here", 13)]) (⟨rfl, by decide +kernel, by decide +kernel, by decide +kernel, by decide +kernel⟩ : BlkOk ["_law_script", "_law_pen_here", "_law_some", "_law_turn", "_law_rows", "_law_at", "_law_saying", "_law_linked", "_law_words", "_law_one", "_law_other", "_law_back", "_law_deeper", "_law_part_here"] (defScope st_law) _ [("_law_part_here", 13)]) rfl (fun _ _ _ _ _ => (pg_name (i := 13) sc_law.nd rfl (by first | exact Or.inl rfl | exact Or.inr rfl))) (fun _ _ _ _ _ => (qts_one ((q_andT (q_cmpT (qo_in hr.u65) (q_B (q_idx hr.u1 (qb 13) (q_B q_int))) (qb 7)) (q_and1T (q_cmpT (qo_eq hr.units) (q_B (q_idx hr.u1 (qb 13) (q_B (q_fz (q_un qo_neg (q_B q_int)))))) (q_B q_str))))).pt)) (fun _ _ _ _ _ => (qv 13))))) (q_B (q_fz (q_lst qa_nil))))))) (qs_one (qs_ret q_bl)) qs_nil))))))))
  (qs_cons (qs_par3 (i := 9) (j := 10) (l := 11) (qa_cons (q_idx hr.u1 (qb 2) (q_B q_int)) (qa_cons (q_idx hr.u1 (qb 2) (q_B q_int)) (qa_cons (q_fz (q_cmp (qo_eq hr.units) (q_B (q_call ((ok_l_draw T sy).mono (by decide)) hr (takes_of rfl rfl rfl rfl) (qa_cons (qv 1) (qa_cons q_int qa_nil)))) (q_B q_int))) qa_nil))) sc_law.nd)
  (qs_cons (qs_if ((q_orT (q_cmpT (qo_ne hr.units) (q_B (q_fld (fl_depth T) (q_B (q_call ((ok_both_of T sy).mono (by decide)) hr (takes_of rfl rfl rfl rfl) (qa_cons (qv 9) (qa_cons (qv 10) qa_nil)))))) (q_B (q_fz (q_callB (qc_max rfl) T.b_max (by decide +kernel) (qab_cons (q_B (q_fld (fl_depth T) (qb 9))) (qab_cons (q_B (q_fld (fl_depth T) (qb 10))) qab_nil)))))) (q_or1T (q_cmpT (qo_ne hr.units) (q_B (q_fld (fl_depth T) (q_B (q_call ((ok_either_of T sy).mono (by decide)) hr (takes_of rfl rfl rfl rfl) (qa_cons (qv 10) (qa_cons (qv 9) qa_nil)))))) (q_B (q_fz (q_callB (qc_max rfl) T.b_max (by decide +kernel) (qab_cons (q_B (q_fld (fl_depth T) (qb 9))) (qab_cons (q_B (q_fld (fl_depth T) (qb 10))) qab_nil))))))))).pt (qs_one (qs_ret q_bl)) qs_nil)
  (qs_cons (qs_set (i := 12) (q_fz (q_lst (qa_cons (q_call ((ok_some_of T sy).mono (by decide)) hr (takes_of rfl rfl rfl rfl) (qa_cons q_str (qa_cons (qv 9) (qa_cons (qv 11) qa_nil)))) (qa_cons (q_call ((ok_every_of T sy).mono (by decide)) hr (takes_of rfl rfl rfl rfl) (qa_cons q_str (qa_cons (qv 9) (qa_cons (qv 11) qa_nil)))) (qa_cons (q_call ((ok_at_least T sy).mono (by decide)) hr (takes_of rfl rfl rfl rfl) (qa_cons (q_fz (q_bin qo_add (q_B q_int) (q_B (q_call ((ok_l_draw T sy).mono (by decide)) hr (takes_of rfl rfl rfl rfl) (qa_cons (qv 1) (qa_cons q_int qa_nil)))))) (qa_cons q_str (qa_cons (qv 9) (qa_cons (qv 11) qa_nil))))) qa_nil))))) sc_law.nd)
  (qs_cons (qs_if ((q_orT (q_cmpT (qo_ne hr.units) (q_B (q_fz (q_lc rfl sc_law.nd (qi_bor (qb 12)) (own := [("_law_saying", 6)]) (⟨rfl, by decide +kernel, by decide +kernel, by decide +kernel, by decide +kernel⟩ : BlkOk ["_law_script", "_law_pen_here", "_law_some", "_law_turn", "_law_rows", "_law_at", "_law_saying", "_law_linked", "_law_words", "_law_one", "_law_other", "_law_back", "_law_deeper", "_law_part_here"] (defScope st_law) _ [("_law_saying", 6)]) rfl (fun _ _ _ _ _ => (pg_name (i := 6) sc_law.nd rfl (by first | exact Or.inl rfl | exact Or.inr rfl))) (fun _ _ _ _ _ => qts_nil) (fun _ _ _ _ _ => (q_fld (fl_depth T) (qb 6)))))) (q_B (q_fz (q_bin qo_mul2 (q_B (q_fz (q_lst (qa_cons (q_fz (q_bin qo_add (q_B (q_fld (fl_depth T) (qb 9))) (q_B q_int))) qa_nil)))) (q_B q_int))))) (q_or1T (q_cmpT (qo_ne hr.units) (q_B (q_fz (q_lc rfl sc_law.nd (qi_bor (qb 12)) (own := [("_law_saying", 6)]) (⟨rfl, by decide +kernel, by decide +kernel, by decide +kernel, by decide +kernel⟩ : BlkOk ["_law_script", "_law_pen_here", "_law_some", "_law_turn", "_law_rows", "_law_at", "_law_saying", "_law_linked", "_law_words", "_law_one", "_law_other", "_law_back", "_law_deeper", "_law_part_here"] (defScope st_law) _ [("_law_saying", 6)]) rfl (fun _ _ _ _ _ => (pg_name (i := 6) sc_law.nd rfl (by first | exact Or.inl rfl | exact Or.inr rfl))) (fun _ _ _ _ _ => qts_nil) (fun _ _ _ _ _ => (q_fld (fl_is_back T) (qb 6)))))) (q_B (q_fz (q_bin qo_mul2 (q_B (q_fz (q_lst (qa_cons (q_or (qv 11) (q_one (q_fld (fl_is_back T) (qb 9)))) qa_nil)))) (q_B q_int)))))))).pt (qs_one (qs_ret q_bl)) qs_nil)
  (qs_one (qs_ret (q_fz (q_cmp (qo_eq hr.units) (q_B (q_fz (q_lst (qa_cons (q_fld (fl_depth T) (q_B (q_inv ((mt_Saying_invert T sy).mono (by decide)) hr (qv 9)))) (qa_cons (q_fld (fl_depth T) (q_B (q_call ((ok_top_of T sy).mono (by decide)) hr (takes_of rfl rfl rfl rfl) (qa_cons q_str (qa_cons (qv 9) qa_nil))))) qa_nil))))) (q_B (q_fz (q_bin qo_mul2 (q_B (q_fz (q_lst (qa_cons (q_fld (fl_depth T) (qb 9)) qa_nil)))) (q_B q_int)))))))))))))))))
end K13

namespace K13
open PySem PySem.Spec L2 Fv
/-! ### parts -/
inductive Pt where
  | thing | nothing | word (w : Tx) | both (i j : Nat) | either (i j : Nat) | neg (i : Nat) | some (l : Tx) (b : Bool) (i : Nat) | every (l : Tx) (b : Bool) (i : Nat)
  | least (m : Int) (l : Tx) (b : Bool) (i : Nat) | top (s : Tx) (i : Nat) | above (s w : Tx)
def dirT : Bool → Tx | true => "back" | false => "on"
def nD (i : Nat) : D := .int (i : Int)
def Pt.d : Pt → D
  | .thing => .tup [.str "thing"] | .nothing => .tup [.str "nothing"] | .word w => .tup [.str "word", .str w]
  | .both i j => .tup [.str "both", nD i, nD j] | .either i j => .tup [.str "either", nD i, nD j] | .neg i => .tup [.str "not", nD i]
  | .some l b i => .tup [.str "some", .str l, .str (dirT b), nD i] | .every l b i => .tup [.str "every", .str l, .str (dirT b), nD i]
  | .least m l b i => .tup [.str "least", .int m, .str l, .str (dirT b), nD i] | .top s i => .tup [.str "top", .str s, nD i] | .above s w => .tup [.str "above", .str s, .str w]
def Pt.kind : Pt → Tx
  | .thing => "thing" | .nothing => "nothing" | .word _ => "word" | .both _ _ => "both" | .either _ _ => "either" | .neg _ => "not" | .some _ _ _ => "some" | .every _ _ _ => "every" | .least _ _ _ _ => "least" | .top _ _ => "top" | .above _ _ => "above"
def Pt.cds : Pt → List D
  | .thing => [] | .nothing => [] | .word _ => [.str "word"] | .both _ _ => [.str "part", .str "part"] | .either _ _ => [.str "part", .str "part"] | .neg _ => [.str "part"]
  | .some _ _ _ => [.str "link", .str "direction", .str "part"] | .every _ _ _ => [.str "link", .str "direction", .str "part"] | .least _ _ _ _ => [.str "many", .str "link", .str "direction", .str "part"]
  | .top _ _ => [.str "scale", .str "part"] | .above _ _ => [.str "scale", .str "word"]
def Pt.kids : Pt → List Nat
  | .both i j => [i, j] | .either i j => [i, j] | .neg i => [i] | .some _ _ i => [i] | .every _ _ i => [i] | .least _ _ _ i => [i] | .top _ i => [i] | _ => []
def Pt.map (f : Nat → Nat) : Pt → Pt
  | .both i j => .both (f i) (f j) | .either i j => .either (f i) (f j) | .neg i => .neg (f i) | .some l b i => .some l b (f i) | .every l b i => .every l b (f i) | .least m l b i => .least m l b (f i) | .top s i => .top s (f i) | p => p
def kN (i : Nat) : Key := .inl (i : Int)
def Pt.key : Pt → List Key
  | .thing => [.inr "thing"] | .nothing => [.inr "nothing"] | .word w => [.inr "word", .inr w]
  | .both i j => [.inr "both", kN i, kN j] | .either i j => [.inr "either", kN i, kN j] | .neg i => [.inr "not", kN i]
  | .some l b i => [.inr "some", .inr l, .inr (dirT b), kN i] | .every l b i => [.inr "every", .inr l, .inr (dirT b), kN i]
  | .least m l b i => [.inr "least", .inl m, .inr l, .inr (dirT b), kN i] | .top s i => [.inr "top", .inr s, kN i] | .above s w => [.inr "above", .inr s, .inr w]
theorem dirT_inj {a b : Bool} (h : dirT a = dirT b) : a = b := by
  cases a <;> cases b <;> first | rfl | (revert h; decide)
theorem kN_inj {i j : Nat} (h : kN i = kN j) : i = j := by
  unfold kN at h
  exact Int.ofNat.inj (Sum.inl.inj h)
theorem key_d (p : Pt) : keyT p.d = some p.key := by cases p <;> rfl
theorem key_inj {p q : Pt} (h : p.key = q.key) : p = q := by
  have ne : ∀ {a b : Tx} {r s : List Key}, (Sum.inr a : Key) :: r = Sum.inr b :: s → a = b := fun h => Sum.inr.inj (List.cons.inj h).1
  cases p <;> cases q <;> first
    | rfl
    | (exact absurd (ne h) (by decide))
    | (simp only [Pt.key, List.cons.injEq, Sum.inr.injEq, Sum.inl.injEq, true_and, and_true] at h
       first
         | (subst h; rfl)
         | (obtain ⟨h1, h2⟩ := h; first | (rw [h1, h2]) | (rw [kN_inj h1, kN_inj h2]) | (rw [h1, kN_inj h2]))
         | (obtain ⟨h1, h2, h3⟩ := h; rw [h1, dirT_inj h2, kN_inj h3])
         | (obtain ⟨h1, h2, h3, h4⟩ := h; rw [h1, h2, dirT_inj h3, kN_inj h4])
         | (rw [kN_inj h]))
theorem kind_d (p : Pt) {s : S} : idxS s p.d (.int 0) = some (.str p.kind) := by cases p <;> rfl
/-! ### the table of kinds -/
def tbl : D := .dct (k_SAYING_KINDS.map fun d => match d with | .ktup [k, _] => k | _ => .non) (k_SAYING_KINDS.map fun d => match d with | .ktup [_, v] => v | _ => .non)
theorem dict_tbl {s : S} : dictF [.ktup k_SAYING_KINDS] s = .ok tbl s := by
  have e : pairsOf k_SAYING_KINDS = some (k_SAYING_KINDS.map (fun d => match d with | .ktup [k, _] => k | _ => .non), k_SAYING_KINDS.map fun d => match d with | .ktup [_, v] => v | _ => .non) := rfl
  have e2 : keysD (k_SAYING_KINDS.map fun d => match d with | .ktup [k, _] => k | _ => .non) = some [.inr "thing", .inr "nothing", .inr "word", .inr "both", .inr "either", .inr "not", .inr "some", .inr "every", .inr "least", .inr "top", .inr "above"] := rfl
  have e3 : ([.inr "thing", .inr "nothing", .inr "word", .inr "both", .inr "either", .inr "not", .inr "some", .inr "every", .inr "least", .inr "top", .inr "above"] : List Key).Nodup := by decide
  simp only [dictF, e, e2, if_pos e3]
  rfl
theorem tbl_at (p : Pt) {s : S} : idxS s tbl (.str p.kind) = some (.ktup p.cds) := by cases p <;> rfl
theorem borne_ok (p : Pt) (s : S) : f_borne [p.d, .ktup p.cds] s = .ok (.lst (p.kids.map nD)) s := by
  cases p <;> rfl
end K13

namespace K13
open PySem PySem.Spec L2 Fv
theorem idx_int {M : D} {s : S} {i j : Nat} (h : idxS s M (nD i) = some (nD j)) : idxD M (nD i) s = .ok (nD j) s := by unfold idxD; rw [h]
theorem eqp (c : Tx) (s : S) : eqD (.str c) (.str "part") s = .ok (.bl (c == "part")) s := rfl
/-- one turn of the items -/
def wnE : E := (ifE (tstE (binE eqD (borE 5) (conE (.str "part")))) (binE idxD (borE 2) (borE 4)) (varE 4))
theorem turn_part {a b M w : D} {u x y : Option Sl} {s : S} {i j : Nat} (h : idxS s M (nD i) = some (nD j)) : wnE [some (.v a), some (.v b), some (.v M), u, some (.v (nD i)), some (.v (.str "part"))] s = .ok (nD j) s := by
  have e : (tstE (binE eqD (borE 5) (conE (.str "part")))) [some (.v a), some (.v b), some (.v M), u, some (.v (nD i)), some (.v (.str "part"))] s = .ok true s := rfl
  have e2 : (binE idxD (borE 2) (borE 4)) [some (.v a), some (.v b), some (.v M), u, some (.v (nD i)), some (.v (.str "part"))] s = idxD M (nD i) s := rfl
  unfold wnE ifE
  rw [e]
  show (binE idxD (borE 2) (borE 4)) [some (.v a), some (.v b), some (.v M), u, some (.v (nD i)), some (.v (.str "part"))] s = _
  rw [e2, idx_int h]
theorem lc_cons {t : Tg} {e : E} {ρ ρ1 : En} {d y : D} {ds acc : List D} {s : S} (h1 : asg t d ρ = some ρ1) (h2 : e ρ1 s = .ok y s) (h3 : decide (acc.length < sizeLine) = true) : lcL allK t yesT e ρ (d :: ds) acc s = lcL allK t yesT e ρ ds (acc ++ [y]) s := by
  simp only [lcL, allK, if_true, h1, yesT, R.noerr, R.bind, h2, h3]
theorem lc_nil {t : Tg} {c : T} {e : E} {ρ : En} {acc : List D} {s : S} : lcL allK t c e ρ [] acc s = .ok acc s := rfl
/-- the items of a part, one by one, with its numbers exchanged -/
theorem with_ok (p : Pt) (f : Nat → Nat) {M : D} {s : S} (h : ∀ i ∈ p.kids, idxS s M (nD i) = some (nD (f i))) : f_with_numbers [p.d, .ktup p.cds, M] s = .ok (p.map f).d s := by
  have start : f_with_numbers [p.d, .ktup p.cds, M] s = fin (b_with_numbers [some (.v p.d), some (.v (.ktup p.cds)), some (.v M), none, none, none] s) := rfl
  rw [start]
  have loop : ∀ (items out : List D), lcL allK (.tp [4, 5]) yesT wnE (wipeD [some (.v p.d), some (.v (.ktup p.cds)), some (.v M), none, none, none] [4, 5]) items [] s = .ok out s →
      zipI (consA (sliceE (borE 0) (someO (conE (.int 1))) noO) (consA (varE 1) nilA)) [some (.v p.d), some (.v (.ktup p.cds)), some (.v M), none, none, none] s = .ok ⟨items, allK⟩ s →
      b_with_numbers_0 [some (.v p.d), some (.v (.ktup p.cds)), some (.v M), none, none, none] s = .nx [some (.v p.d), some (.v (.ktup p.cds)), some (.v M), some (.v (.lst out)), none, none] s := by
    intro items out h1 h2
    show setS 3 (lcE (zipI (consA (sliceE (borE 0) (someO (conE (.int 1))) noO) (consA (varE 1) nilA))) [4, 5] (.tp [4, 5]) yesT wnE) _ s = _
    simp only [setS, lcE, h2, R.bind, h1, R.stm, List.set_cons_succ, List.set_cons_zero]
  have fin_ : ∀ out : List D, szl (1 + out.length) = true → b_with_numbers_1 [some (.v p.d), some (.v (.ktup p.cds)), some (.v M), some (.v (.lst out)), none, none] s = .rt (.tup (.str p.kind :: out)) s := by
    intro out hz
    have e : binE idxD (borE 0) (conE (.int 0)) [some (.v p.d), some (.v (.ktup p.cds)), some (.v M), some (.v (.lst out)), none, none] s = .ok (.str p.kind) s := by
      show idxD p.d (.int 0) s = _
      unfold idxD; rw [kind_d]
    simp only [b_with_numbers_1, retS, tupE, consA, starA, nilA, e, R.bind, R.stm, borE, List.getElem?_cons_succ, List.getElem?_cons_zero, seqOf, List.append_nil, List.length_cons, Nat.add_comm out.length 1, hz, if_true]
  have z : ∀ n, n < 20 → szl n = true := fun n hn => szlS (by omega)
  have one : ∀ (c : Tx) (x : D), (c == "part") = false → ∀ u, wnE [some (.v p.d), some (.v (.ktup p.cds)), some (.v M), u, some (.v x), some (.v (.str c))] s = .ok x s := by
    intro c x hc u
    have e : (tstE (binE eqD (borE 5) (conE (.str "part")))) [some (.v p.d), some (.v (.ktup p.cds)), some (.v M), u, some (.v x), some (.v (.str c))] s = .ok (c == "part") s := rfl
    unfold wnE ifE
    rw [e, hc]
    rfl
  have kd : ∀ (i : Nat) u, i ∈ p.kids → wnE [some (.v p.d), some (.v (.ktup p.cds)), some (.v M), u, some (.v (nD i)), some (.v (.str "part"))] s = .ok (nD (f i)) s := fun i u hi => turn_part (w := .non) (x := none) (y := none) (h i hi)
  unfold b_with_numbers
  have fin2 : ∀ (items out : List D), lcL allK (.tp [4, 5]) yesT wnE (wipeD [some (.v p.d), some (.v (.ktup p.cds)), some (.v M), none, none, none] [4, 5]) items [] s = .ok out s →
      zipI (consA (sliceE (borE 0) (someO (conE (.int 1))) noO) (consA (varE 1) nilA)) [some (.v p.d), some (.v (.ktup p.cds)), some (.v M), none, none, none] s = .ok ⟨items, allK⟩ s → out.length < 10 → (p.map f).d = .tup (.str p.kind :: out) →
      fin (seqS b_with_numbers_0 b_with_numbers_1 [some (.v p.d), some (.v (.ktup p.cds)), some (.v M), none, none, none] s) = .ok (p.map f).d s := by
    intro items out h1 h2 h3 h4
    rw [seq_nx (loop items out h1 h2), fin_ out (z _ (by omega)), h4]
    rfl
  cases p with
  | thing => exact fin2 [] [] rfl rfl (Nat.le_of_ble_eq_true rfl) rfl
  | nothing => exact fin2 [] [] rfl rfl (Nat.le_of_ble_eq_true rfl) rfl
  | word w => exact fin2 [.tup [.str w, .str "word"]] [.str w] (by rw [lc_cons rfl (one _ _ (by decide) _) (small (Nat.le_of_ble_eq_true rfl)), lc_nil]; rfl) rfl (Nat.le_of_ble_eq_true rfl) rfl
  | both i j => exact fin2 [.tup [nD i, .str "part"], .tup [nD j, .str "part"]] [nD (f i), nD (f j)] (by rw [lc_cons rfl (kd _ _ (by simp [Pt.kids])) (small (Nat.le_of_ble_eq_true rfl)), lc_cons rfl (kd _ _ (by simp [Pt.kids])) (small (Nat.le_of_ble_eq_true rfl)), lc_nil]; rfl) rfl (Nat.le_of_ble_eq_true rfl) rfl
  | either i j => exact fin2 [.tup [nD i, .str "part"], .tup [nD j, .str "part"]] [nD (f i), nD (f j)] (by rw [lc_cons rfl (kd _ _ (by simp [Pt.kids])) (small (Nat.le_of_ble_eq_true rfl)), lc_cons rfl (kd _ _ (by simp [Pt.kids])) (small (Nat.le_of_ble_eq_true rfl)), lc_nil]; rfl) rfl (Nat.le_of_ble_eq_true rfl) rfl
  | neg i => exact fin2 [.tup [nD i, .str "part"]] [nD (f i)] (by rw [lc_cons rfl (kd _ _ (by simp [Pt.kids])) (small (Nat.le_of_ble_eq_true rfl)), lc_nil]; rfl) rfl (Nat.le_of_ble_eq_true rfl) rfl
  | some l b i => exact fin2 [.tup [.str l, .str "link"], .tup [.str (dirT b), .str "direction"], .tup [nD i, .str "part"]] [.str l, .str (dirT b), nD (f i)] (by rw [lc_cons rfl (one _ _ (by decide) _) (small (Nat.le_of_ble_eq_true rfl)), lc_cons rfl (one _ _ (by decide) _) (small (Nat.le_of_ble_eq_true rfl)), lc_cons rfl (kd _ _ (by simp [Pt.kids])) (small (Nat.le_of_ble_eq_true rfl)), lc_nil]; rfl) rfl (Nat.le_of_ble_eq_true rfl) rfl
  | every l b i => exact fin2 [.tup [.str l, .str "link"], .tup [.str (dirT b), .str "direction"], .tup [nD i, .str "part"]] [.str l, .str (dirT b), nD (f i)] (by rw [lc_cons rfl (one _ _ (by decide) _) (small (Nat.le_of_ble_eq_true rfl)), lc_cons rfl (one _ _ (by decide) _) (small (Nat.le_of_ble_eq_true rfl)), lc_cons rfl (kd _ _ (by simp [Pt.kids])) (small (Nat.le_of_ble_eq_true rfl)), lc_nil]; rfl) rfl (Nat.le_of_ble_eq_true rfl) rfl
  | least m l b i => exact fin2 [.tup [.int m, .str "many"], .tup [.str l, .str "link"], .tup [.str (dirT b), .str "direction"], .tup [nD i, .str "part"]] [.int m, .str l, .str (dirT b), nD (f i)] (by rw [lc_cons rfl (one _ _ (by decide) _) (small (Nat.le_of_ble_eq_true rfl)), lc_cons rfl (one _ _ (by decide) _) (small (Nat.le_of_ble_eq_true rfl)), lc_cons rfl (one _ _ (by decide) _) (small (Nat.le_of_ble_eq_true rfl)), lc_cons rfl (kd _ _ (by simp [Pt.kids])) (small (Nat.le_of_ble_eq_true rfl)), lc_nil]; rfl) rfl (Nat.le_of_ble_eq_true rfl) rfl
  | top sc i => exact fin2 [.tup [.str sc, .str "scale"], .tup [nD i, .str "part"]] [.str sc, nD (f i)] (by rw [lc_cons rfl (one _ _ (by decide) _) (small (Nat.le_of_ble_eq_true rfl)), lc_cons rfl (kd _ _ (by simp [Pt.kids])) (small (Nat.le_of_ble_eq_true rfl)), lc_nil]; rfl) rfl (Nat.le_of_ble_eq_true rfl) rfl
  | above sc w => exact fin2 [.tup [.str sc, .str "scale"], .tup [.str w, .str "word"]] [.str sc, .str w] (by rw [lc_cons rfl (one _ _ (by decide) _) (small (Nat.le_of_ble_eq_true rfl)), lc_cons rfl (one _ _ (by decide) _) (small (Nat.le_of_ble_eq_true rfl)), lc_nil]; rfl) rfl (Nat.le_of_ble_eq_true rfl) rfl
end K13

namespace K13
open PySem PySem.Spec L2 Fv
/-! ### one form, as plain mathematics -/
instance : DecidableEq Pt := fun p q => if h : p.key = q.key then isTrue (key_inj h) else isFalse fun e => h (by rw [e])
def WF (ps : List Pt) : Prop := ∀ (i : Nat) (p : Pt), ps[i]? = some p → ∀ c ∈ p.kids, c < i
def InvF {α : Type} (f : Pt → List α → α) : Prop := ∀ p g xs, f (Pt.map g p) xs = f p xs
/-- a value of each part, from those of the parts that it bears -/
def evs {α : Type} (f : Pt → List α → α) (ps : List Pt) : List α := ps.foldl (fun l p => l ++ [f p (p.kids.filterMap (l[·]?))]) []
section
variable {α : Type} {f : Pt → List α → α}
theorem kids_map (p : Pt) (g : Nat → Nat) : (p.map g).kids = p.kids.map g := by cases p <;> rfl
theorem evs_snoc (ps : List Pt) (p : Pt) : evs f (ps ++ [p]) = evs f ps ++ [f p (p.kids.filterMap ((evs f ps)[·]?))] := by simp [evs]
theorem evs_len (ps : List Pt) : (evs f ps).length = ps.length := by
  have : ∀ (ps : List Pt) (l : List α), (ps.foldl (fun l p => l ++ [f p (p.kids.filterMap (l[·]?))]) l).length = l.length + ps.length := by
    intro ps
    induction ps with
    | nil => intro l; simp
    | cons p ps ih => intro l; rw [List.foldl_cons, ih]; simp; omega
  simpa [evs] using this ps []
theorem evs_app (ps qs : List Pt) : ∃ r, evs f (ps ++ qs) = evs f ps ++ r := by
  have : ∀ (qs : List Pt) (l : List α), ∃ r, qs.foldl (fun l p => l ++ [f p (p.kids.filterMap (l[·]?))]) l = l ++ r := by
    intro qs
    induction qs with
    | nil => intro l; exact ⟨[], by simp⟩
    | cons q qs ih =>
      intro l
      obtain ⟨r, e⟩ := ih (l ++ [f q (q.kids.filterMap (l[·]?))])
      exact ⟨[f q (q.kids.filterMap (l[·]?))] ++ r, by rw [List.foldl_cons, e]; simp⟩
  obtain ⟨r, e⟩ := this qs (evs f ps)
  exact ⟨r, by rw [← e]; simp [evs]⟩
theorem evs_pre {ps qs : List Pt} {i : Nat} (h : i < ps.length) : (evs f (ps ++ qs))[i]? = (evs f ps)[i]? := by
  obtain ⟨r, e⟩ := evs_app (f := f) ps qs
  rw [e, List.getElem?_append_left (by rw [evs_len]; exact h)]
theorem filterMap_eq {β γ : Type} {g h : β → Option γ} : ∀ {l : List β}, (∀ c ∈ l, g c = h c) → l.filterMap g = l.filterMap h
  | [], _ => rfl
  | c :: l, e => by
    have e1 := e c (List.mem_cons_self ..)
    have e2 := filterMap_eq (l := l) fun x hx => e x (List.mem_cons_of_mem _ hx)
    rw [List.filterMap_cons, List.filterMap_cons, e1, e2]
theorem evs_get {ps : List Pt} (hw : WF ps) {i : Nat} {p : Pt} (h : ps[i]? = some p) : (evs f ps)[i]? = some (f p (p.kids.filterMap ((evs f ps)[·]?))) := by
  have hi : i < ps.length := (List.getElem?_eq_some_iff.mp h).1
  have hp : ps[i] = p := (List.getElem?_eq_some_iff.mp h).2
  have e : ps = (ps.take i ++ [p]) ++ ps.drop (i + 1) := by
    rw [List.append_assoc, List.singleton_append, ← hp, List.getElem_cons_drop, List.take_append_drop]
  have l1 : (ps.take i).length = i := by rw [List.length_take]; omega
  have e1 : (evs f ps)[i]? = (evs f (ps.take i ++ [p]))[i]? := by
    conv => lhs; rw [e]
    exact evs_pre (by simp; omega)
  have e2 : ∀ c, c < i → (evs f (ps.take i))[c]? = (evs f ps)[c]? := by
    intro c hc
    conv => rhs; rw [← List.take_append_drop i ps]
    exact (evs_pre (by rw [l1]; exact hc)).symm
  rw [e1, evs_snoc, List.getElem?_append_right (by rw [evs_len, l1]; exact Nat.le_refl _), evs_len, l1]
  simp only [Nat.sub_self, List.getElem?_cons_zero]
  rw [filterMap_eq fun c hc => e2 c (hw i p h c hc)]
end
/-- what waits, the top first -/
def Stk (ps : List Pt) (r : Nat) : List Nat → Prop
  | [] => True
  | [a] => a = r
  | a :: b :: t => (∃ p, ps[b]? = some p ∧ a ∈ p.kids) ∧ Stk ps r (b :: t)
structure LI (ps : List Pt) (r : Nat) (wk : List Nat) (mv : List (Nat × Nat)) (md : List Pt) : Prop where
  stk : Stk ps r wk
  wlt : ∀ w ∈ wk, w < ps.length
  wnm : ∀ w ∈ wk, mv.lookup w = none
  val : ∀ a m, mv.lookup a = some m → m < md.length ∧ ∀ (α : Type) (f : Pt → List α → α), InvF f → (evs f md)[m]? = (evs f ps)[a]?
  wf : WF md
  mnd : md.Nodup
  frm : ∀ q ∈ md, ∃ p ∈ ps, ∃ g, q = Pt.map g p
  rch : ∀ m, m < md.length → (∃ j p, m < j ∧ md[j]? = some p ∧ m ∈ p.kids) ∨ (∃ w ∈ wk, ∃ p, ps[w]? = some p ∧ ∃ c ∈ p.kids, mv.lookup c = some m) ∨ (wk = [] ∧ m + 1 = md.length)
  fin : wk = [] → mv.lookup r = some (md.length - 1) ∧ md ≠ []
theorem stk_lt {ps : List Pt} (hw : WF ps) {r : Nat} : ∀ {a : Nat} {t : List Nat}, Stk ps r (a :: t) → ∀ w ∈ t, a < w
  | a, [], _, w, h => by simp at h
  | a, b :: t, ⟨⟨p, hp, ha⟩, hs⟩, w, h => by
    have h1 := hw b p hp a ha
    rcases List.mem_cons.mp h with rfl | h
    · exact h1
    · exact Nat.lt_trans h1 (stk_lt hw hs w h)
theorem stk_len {ps : List Pt} (hw : WF ps) {r : Nat} : ∀ {a : Nat} {t : List Nat}, Stk ps r (a :: t) → (∀ w ∈ a :: t, w < ps.length) → a + (a :: t).length ≤ ps.length
  | a, [], _, h => by have := h a (by simp); simp; omega
  | a, b :: t, ⟨⟨p, hp, ha⟩, hs⟩, h => by
    have h1 := hw b p hp a ha
    have h2 := stk_len hw hs fun w hw' => h w (List.mem_cons_of_mem _ hw')
    simp only [List.length_cons] at h2 ⊢
    omega
theorem li_start {ps : List Pt} {r : Nat} (h : r < ps.length) : LI ps r [r] [] [] :=
  ⟨rfl, fun w hw => by simp at hw; omega, fun w _ => rfl, fun a m e => by simp at e, fun i p e => by simp at e, List.nodup_nil, fun q hq => by simp at hq, fun m hm => by simp at hm, fun e => by simp at e⟩
theorem li_push {ps : List Pt} (hw : WF ps) {r a c : Nat} {t : List Nat} {mv : List (Nat × Nat)} {md : List Pt} {p : Pt} (h : LI ps r (a :: t) mv md) (hp : ps[a]? = some p) (hc : c ∈ p.kids) (hm : mv.lookup c = none) : LI ps r (c :: a :: t) mv md :=
  ⟨⟨⟨p, hp, hc⟩, h.stk⟩, fun w hw' => by
    rcases List.mem_cons.mp hw' with rfl | hw'
    · have := hw a p hp _ hc; have := h.wlt a (by simp); omega
    · exact h.wlt w hw', fun w hw' => by
    rcases List.mem_cons.mp hw' with rfl | hw'
    · exact hm
    · exact h.wnm w hw', h.val, h.wf, h.mnd, h.frm, (fun m hm' => by
    rcases h.rch m hm' with q | ⟨w, hw', q⟩ | ⟨q, _⟩
    · exact .inl q
    · exact .inr (.inl ⟨w, List.mem_cons_of_mem _ hw', q⟩)
    · cases q), fun e => by cases e⟩
theorem lookup_snoc (mv : List (Nat × Nat)) (a n c : Nat) : (mv ++ [(a, n)]).lookup c = match mv.lookup c with | some m => some m | none => if c = a then some n else none := by
  induction mv with
  | nil =>
    by_cases h : c = a
    · subst h; simp [List.lookup]
    · have : (c == a) = false := by simpa using h
      simp [List.lookup, this, h]
  | cons q mv ih =>
    obtain ⟨k, v⟩ := q
    by_cases h : c = k
    · subst h; simp [List.lookup]
    · have : (c == k) = false := by simpa using h
      simp only [List.cons_append, List.lookup, this]
      exact ih
/-- the parts behind a step -/
def stepMd (md : List Pt) (q : Pt) : List Pt := if q ∈ md then md else md ++ [q]
def stepN (md : List Pt) (q : Pt) : Nat := if q ∈ md then md.idxOf q else md.length
def gOf (mv : List (Nat × Nat)) (c : Nat) : Nat := (mv.lookup c).getD 0
theorem step_at (md : List Pt) (q : Pt) : (stepMd md q)[stepN md q]? = some q ∧ stepN md q < (stepMd md q).length := by
  unfold stepMd stepN
  split
  · rename_i h
    have := List.idxOf_lt_length_of_mem h
    exact ⟨by rw [List.getElem?_eq_getElem this, List.getElem_idxOf this], this⟩
  · simp
theorem li_pop {ps : List Pt} (hw : WF ps) {r a : Nat} {t : List Nat} {mv : List (Nat × Nat)} {md : List Pt} {p : Pt} (h : LI ps r (a :: t) mv md) (hp : ps[a]? = some p) (hk : ∀ c ∈ p.kids, mv.lookup c ≠ none) :
    LI ps r t (mv ++ [(a, stepN md (p.map (gOf mv)))]) (stepMd md (p.map (gOf mv))) := by
  have na := h.wnm a (by simp)
  have gv : ∀ c ∈ p.kids, mv.lookup c = some (gOf mv c) := fun c hc => by
    cases e : mv.lookup c with
    | none => exact absurd e (hk c hc)
    | some m => simp [gOf, e]
  have glt : ∀ c ∈ p.kids, gOf mv c < md.length := fun c hc => (h.val c _ (gv c hc)).1
  generalize hq : p.map (gOf mv) = q
  have qk : q.kids = p.kids.map (gOf mv) := by rw [← hq, kids_map]
  obtain ⟨at1, at2⟩ := step_at md q
  have pre : ∃ r, stepMd md q = md ++ r := by
    unfold stepMd; split
    · exact ⟨[], by simp⟩
    · exact ⟨_, rfl⟩
  obtain ⟨ext, hext⟩ := pre
  have wf' : WF (stepMd md q) := by
    unfold stepMd; split
    · exact h.wf
    · intro i p' hi c hc
      by_cases hl : i < md.length
      · rw [List.getElem?_append_left hl] at hi
        exact h.wf i p' hi c hc
      · have hi2 : i = md.length := by
          have := (List.getElem?_eq_some_iff.mp hi).1
          simp at this; omega
        subst hi2
        simp at hi; subst hi
        rw [qk] at hc
        obtain ⟨c', hc', rfl⟩ := List.mem_map.mp hc
        exact glt c' hc'
  have evq : ∀ (α : Type) (f : Pt → List α → α), InvF f → (evs f (stepMd md q))[stepN md q]? = (evs f ps)[a]? := by
    intro α f hf
    have e1 : (p.kids.map (gOf mv)).filterMap ((evs f (stepMd md q))[·]?) = p.kids.filterMap ((evs f ps)[·]?) := by
      rw [List.filterMap_map]
      refine filterMap_eq fun c hc => ?_
      show (evs f (stepMd md q))[gOf mv c]? = _
      rw [hext, evs_pre (glt c hc)]
      exact (h.val c _ (gv c hc)).2 α f hf
    rw [evs_get wf' at1, evs_get hw hp, qk, e1, ← hq, hf]
  have val' : ∀ b m, (mv ++ [(a, stepN md q)]).lookup b = some m → m < (stepMd md q).length ∧ ∀ (α : Type) (f : Pt → List α → α), InvF f → (evs f (stepMd md q))[m]? = (evs f ps)[b]? := by
    intro b m e
    rw [lookup_snoc] at e
    split at e
    · rename_i m' e'
      cases e
      obtain ⟨h1, h2⟩ := h.val b m e'
      refine ⟨by rw [hext, List.length_append]; omega, fun α f hf => ?_⟩
      rw [hext, evs_pre h1]; exact h2 α f hf
    · split at e
      · rename_i hb
        cases e; subst hb
        exact ⟨at2, evq⟩
      · cases e
  -- what was borne by what waited is borne by the new one, or by the one that is equal
  have rch' : ∀ m, m < md.length → (∃ j p', m < j ∧ (stepMd md q)[j]? = some p' ∧ m ∈ p'.kids) ∨ (∃ w ∈ t, ∃ p', ps[w]? = some p' ∧ ∃ c ∈ p'.kids, (mv ++ [(a, stepN md q)]).lookup c = some m) := by
    intro m hm
    rcases h.rch m hm with ⟨j, p', h1, h2, h3⟩ | ⟨w, hw', p', h1, c, h2, h3⟩ | ⟨e, _⟩
    · refine .inl ⟨j, p', h1, ?_, h3⟩
      rw [hext, List.getElem?_append_left (List.getElem?_eq_some_iff.mp h2).1]; exact h2
    · rcases List.mem_cons.mp hw' with rfl | hw'
      · rw [hp] at h1; cases h1
        have hmq : m ∈ q.kids := by
          rw [qk]
          refine List.mem_map.mpr ⟨c, h2, ?_⟩
          have := gv c h2
          rw [h3] at this; exact (Option.some.inj this).symm
        exact .inl ⟨_, q, wf' _ _ at1 m hmq, at1, hmq⟩
      · exact .inr ⟨w, hw', p', h1, c, h2, by rw [lookup_snoc, h3]⟩
    · cases e
  refine ⟨?_, fun w hw' => h.wlt w (List.mem_cons_of_mem _ hw'), fun w hw' => ?_, val', wf', ?_, ?_, fun m hm => ?_, fun e => ?_⟩
  · cases t with
    | nil => trivial
    | cons b t => exact h.stk.2
  · rw [lookup_snoc, h.wnm w (List.mem_cons_of_mem _ hw')]
    have := stk_lt hw h.stk w hw'
    rw [if_neg (by omega)]
  · unfold stepMd; split
    · exact h.mnd
    · rename_i hn
      rw [List.nodup_append]
      exact ⟨h.mnd, by simp, fun x hx y hy => by simp at hy; subst hy; exact fun z => hn (z ▸ hx)⟩
  · intro x hx
    unfold stepMd at hx; split at hx
    · exact h.frm x hx
    · rcases List.mem_append.mp hx with hx | hx
      · exact h.frm x hx
      · simp at hx; subst hx
        exact ⟨p, List.mem_of_getElem? hp, _, hq.symm⟩
  · by_cases hl : m < md.length
    · rcases rch' m hl with z | z
      · exact .inl z
      · exact .inr (.inl z)
    · have hnew : ¬ q ∈ md := fun z => by unfold stepMd at hm; rw [if_pos z] at hm; exact hl hm
      have hN : stepN md q = md.length := by unfold stepN; rw [if_neg hnew]
      have hlen : (stepMd md q).length = md.length + 1 := by unfold stepMd; rw [if_neg hnew]; simp
      have hm2 : m = md.length := by omega
      cases t with
      | nil => exact .inr (.inr ⟨rfl, by omega⟩)
      | cons b t =>
        obtain ⟨pb, h1, h2⟩ := h.stk.1
        exact .inr (.inl ⟨b, by simp, pb, h1, a, h2, by rw [lookup_snoc, na, hN, hm2]; simp⟩)
  · subst e
    have hr : a = r := h.stk
    subst hr
    refine ⟨?_, fun z => by rw [z] at at1; simp at at1⟩
    rw [lookup_snoc, na, if_pos rfl]
    congr 1
    by_cases hmem : q ∈ md
    · exfalso
      have hN : stepN md q = md.idxOf q := by unfold stepN; rw [if_pos hmem]
      have hM : stepMd md q = md := by unfold stepMd; rw [if_pos hmem]
      rw [hM] at at1 at2
      rcases rch' (md.length - 1) (by omega) with ⟨j, p', h1, h2, _⟩ | ⟨w, hw', _⟩
      · rw [hM] at h2
        have := (List.getElem?_eq_some_iff.mp h2).1
        omega
      · simp at hw'
    · have hN : stepN md q = md.length := by unfold stepN; rw [if_neg hmem]
      have hlen : (stepMd md q).length = md.length + 1 := by unfold stepMd; rw [if_neg hmem]; simp
      rw [hN, hlen]; simp
/-- how much is left -/
def unm (ps : List Pt) (mv : List (Nat × Nat)) : Nat := ((List.range ps.length).filter fun i => (mv.lookup i).isNone).length
def meas (ps : List Pt) (wk : List Nat) (mv : List (Nat × Nat)) : Nat := unm ps mv * (ps.length + 2) + (ps.length + 1 - wk.length)
theorem unm_pop {ps : List Pt} {mv : List (Nat × Nat)} {a n : Nat} (ha : a < ps.length) (na : mv.lookup a = none) : unm ps (mv ++ [(a, n)]) < unm ps mv := by
  unfold unm
  have e : ((List.range ps.length).filter fun i => ((mv ++ [(a, n)]).lookup i).isNone) = ((List.range ps.length).filter fun i => (mv.lookup i).isNone).filter fun i => decide (i ≠ a) := by
    rw [List.filter_filter]
    apply List.filter_congr
    intro i _
    rw [lookup_snoc]
    cases mv.lookup i with
    | none =>
      by_cases h : i = a
      · simp [h]
      · simp [h]
    | some m => simp
  rw [e, List.length_filter_lt_length_iff_exists]
  exact ⟨a, List.mem_filter.mpr ⟨List.mem_range.mpr ha, by simp [na]⟩, by simp⟩
theorem meas_push {ps : List Pt} {wk : List Nat} {mv : List (Nat × Nat)} {c : Nat} (h : wk.length ≤ ps.length) : meas ps (c :: wk) mv < meas ps wk mv := by
  unfold meas; simp only [List.length_cons]; omega
theorem meas_pop {ps : List Pt} {a n : Nat} {t : List Nat} {mv : List (Nat × Nat)} (ha : a < ps.length) (na : mv.lookup a = none) (h : (a :: t).length ≤ ps.length) : meas ps t (mv ++ [(a, n)]) < meas ps (a :: t) mv := by
  have h1 := unm_pop (n := n) ha na
  have h2 : (unm ps (mv ++ [(a, n)]) + 1) * (ps.length + 2) ≤ unm ps mv * (ps.length + 2) := Nat.mul_le_mul_right _ h1
  unfold meas
  rw [Nat.add_mul] at h2
  simp only [List.length_cons] at h ⊢
  omega
/-- what is made of parts, for the one numbered r -/
structure Made (ps : List Pt) (r : Nat) (md : List Pt) : Prop where
  wf : WF md
  ne : md ≠ []
  val : ∀ (α : Type) (f : Pt → List α → α), InvF f → (evs f md)[md.length - 1]? = (evs f ps)[r]?
  frm : ∀ q ∈ md, ∃ p ∈ ps, ∃ g, q = Pt.map g p
  rch : ∀ m, m + 1 < md.length → ∃ j p, m < j ∧ md[j]? = some p ∧ m ∈ p.kids
theorem LI.made {ps : List Pt} {r : Nat} {mv : List (Nat × Nat)} {md : List Pt} (h : LI ps r [] mv md) : Made ps r md := by
  obtain ⟨e, ne⟩ := h.fin rfl
  refine ⟨h.wf, ne, (h.val _ _ e).2, h.frm, fun m hm => ?_⟩
  rcases h.rch m (by omega) with z | ⟨w, hw, _⟩ | ⟨_, z⟩
  · exact z
  · simp at hw
  · omega
end K13

namespace K13
open PySem PySem.Spec L2 Fv
/-! ### one_form -/
def wkD (wk : List Nat) : D := .lst (wk.reverse.map nD)
def mvD (mv : List (Nat × Nat)) : D := .dct (mv.map fun p => nD p.1) (mv.map fun p => nD p.2)
def mdD (md : List Pt) : D := .lst (md.map Pt.d)
def nbD (md : List Pt) : D := .dtt (md.map Pt.d) ((List.range md.length).map nD)
theorem keysD_n : ∀ l : List Nat, keysD (l.map nD) = some (l.map kN)
  | [] => rfl
  | x :: l => by simp only [List.map_cons, keysD, keysD_n l]; rfl
theorem keysT_d : ∀ l : List Pt, keysT (l.map Pt.d) = some (l.map Pt.key)
  | [] => rfl
  | x :: l => by simp only [List.map_cons, keysT, keysT_d l, key_d]; rfl
theorem getK_mv : ∀ (mv : List (Nat × Nat)) (c : Nat), getK (mv.map fun p => kN p.1) (mv.map fun p => nD p.2) (kN c) = (mv.lookup c).map nD
  | [], c => rfl
  | (a, m) :: mv, c => by
    simp only [List.map_cons, getK, List.lookup]
    by_cases h : c = a
    · subst h; simp
    · have h1 : ¬ kN a = kN c := fun z => h (kN_inj z).symm
      have h2 : (c == a) = false := by simpa using h
      rw [if_neg h1, h2]
      exact getK_mv mv c
theorem get_mv (mv : List (Nat × Nat)) (c : Nat) (s : S) : dGet s (mvD mv) (nD c) = some ((mv.lookup c).map nD) := by
  have e : keysD (mv.map fun p => nD p.1) = some (mv.map fun p => kN p.1) := by
    have := keysD_n (mv.map (·.1))
    rw [List.map_map, List.map_map] at this
    exact this
  simp only [mvD, dGet, e, Option.bind_some]
  show Option.map (fun x => getK _ _ x) (some (kN c)) = _
  rw [Option.map_some, getK_mv]
theorem idx_mv {mv : List (Nat × Nat)} {c m : Nat} {s : S} (h : mv.lookup c = some m) : idxS s (mvD mv) (nD c) = some (nD m) := by
  have := get_mv mv c s
  show (dGet s (mvD mv) (nD c)).bind id = _
  rw [this, h]; rfl
theorem notin_mv (mv : List (Nat × Nat)) (c : Nat) (s : S) : notinD (nD c) (mvD mv) s = .ok (.bl (mv.lookup c).isNone) s := by
  have e : inB s (nD c) (mvD mv) = some (mv.lookup c).isSome := by
    show (dGet s (mvD mv) (nD c)).map Option.isSome = _
    rw [get_mv]; simp
  unfold notinD
  rw [e]
  cases mv.lookup c <;> rfl
theorem getK_md : ∀ (md : List Pt) (k : Nat) (q : Pt), getK (md.map Pt.key) ((List.range' k md.length).map nD) q.key = if q ∈ md then some (nD (k + md.idxOf q)) else none
  | [], k, q => rfl
  | p :: md, k, q => by
    simp only [List.map_cons, List.length_cons, List.range'_succ, getK]
    by_cases h : p = q
    · subst h; simp
    · have h1 : ¬ p.key = q.key := fun z => h (key_inj z)
      rw [if_neg h1, getK_md md (k + 1) q]
      have h2 : (p == q) = false := by simpa using h
      have h3 : ¬ q = p := fun z => h z.symm
      simp only [List.mem_cons, h3, false_or, List.idxOf_cons, h2]
      split
      · congr 2; simp; omega
      · rfl
theorem d_tup (q : Pt) : ∃ xs, q.d = .tup xs := by cases q <;> exact ⟨_, rfl⟩
theorem get_nb (md : List Pt) (q : Pt) (s : S) : dGet s (nbD md) q.d = some (if q ∈ md then some (nD (md.idxOf q)) else none) := by
  obtain ⟨xs, e⟩ := d_tup q
  have k := key_d q
  have g := getK_md md 0 q
  rw [e] at k
  rw [← List.range_eq_range', Nat.zero_add] at g
  simp only [nbD, dGet, e, keysT_d, Option.bind_some, k, Option.map_some, g]
theorem notin_nb (md : List Pt) (q : Pt) (s : S) : notinD q.d (nbD md) s = .ok (.bl (decide (q ∉ md))) s := by
  have e : inB s q.d (nbD md) = some (decide (q ∈ md)) := by
    show (dGet s (nbD md) q.d).map Option.isSome = _
    rw [get_nb]
    by_cases h : q ∈ md <;> simp [h]
  unfold notinD
  rw [e]
  by_cases h : q ∈ md <;> simp [h]
theorem idx_nb {md : List Pt} {q : Pt} {s : S} (h : q ∈ md) : idxS s (nbD md) q.d = some (nD (md.idxOf q)) := by
  have := get_nb md q s
  show (dGet s (nbD md) q.d).bind id = _
  rw [this, if_pos h]; rfl
theorem put_mv {mv : List (Nat × Nat)} {a n : Nat} (h : mv.lookup a = none) (hl : mv.length < 1000) : putO (mvD mv) (nD a) (nD n) = some (mvD (mv ++ [(a, n)])) := by
  have e : keysD (mv.map fun p => nD p.1) = some (mv.map fun p => kN p.1) := by
    have := keysD_n (mv.map (·.1))
    rw [List.map_map, List.map_map] at this
    exact this
  have nk : kN a ∉ mv.map fun p => kN p.1 := by
    intro z
    obtain ⟨p, hp, e⟩ := List.mem_map.mp z
    have : p.1 = a := kN_inj e
    have h2 : ∀ (mv : List (Nat × Nat)), p ∈ mv → (mv.lookup p.1).isSome = true := by
      intro mv
      induction mv with
      | nil => intro h; simp at h
      | cons q mv ih =>
        intro hm
        obtain ⟨k, v⟩ := q
        simp only [List.lookup]
        by_cases hk : p.1 = k
        · subst hk; simp
        · have : (p.1 == k) = false := by simpa using hk
          rw [this]
          rcases List.mem_cons.mp hm with rfl | hm
          · exact absurd rfl hk
          · exact ih hm
    have := h2 mv hp
    rw [‹p.1 = a›, h] at this
    cases this
  have hl2 : (mv.map fun p => nD p.1).length < sizeLine := by rw [List.length_map]; exact Nat.lt_of_lt_of_le hl (by decide)
  have kd : keyD (nD a) = some (kN a) := rfl
  simp only [mvD, putO, e, Option.bind_some, kd, if_pos hl2, putKD, putL, if_neg nk, List.map_append, List.map_cons, List.map_nil]
theorem put_nb {md : List Pt} {q : Pt} (h : q ∉ md) (hl : md.length < 1000) : putO (nbD md) q.d (nD md.length) = some (nbD (md ++ [q])) := by
  obtain ⟨xs, e⟩ := d_tup q
  have k := key_d q
  rw [e] at k
  have nk : q.key ∉ md.map Pt.key := by
    intro z
    obtain ⟨p, hp, e⟩ := List.mem_map.mp z
    exact h (key_inj e ▸ hp)
  have hl2 : (md.map Pt.d).length < sizeLine := by rw [List.length_map]; exact Nat.lt_of_lt_of_le hl (by decide)
  simp only [nbD, putO, e, keysT_d, Option.bind_some, k, if_pos hl2, putKD, putL, if_neg nk, List.map_append, List.map_cons, List.map_nil, List.length_append, List.length_cons, List.length_nil, List.range_succ]
theorem at_last {α : Type} (xs : List α) (x : α) : atI (xs ++ [x]) (-1) = some x := by
  have : ixN (xs ++ [x]).length (-1) = some xs.length := by
    simp [ixN]; omega
  unfold atI
  rw [this]; simp
theorem at_n {α : Type} {xs : List α} {i : Nat} {x : α} (h : xs[i]? = some x) : atI xs (i : Int) = some x := atI_nat h
theorem lite_d (p : Pt) : p.d.lite = true := by cases p <;> rfl
end K13

namespace K13
open PySem PySem.Spec L2 Fv
/-! ### the walk of one_form -/
noncomputable def bdyA : C := (owS 6 "list" appO (consA (binE idxD (borE 10) (conE (.int 0))) nilA))
noncomputable def bdyB : C := (ifS (tstE (binE notinD (borE 8) (borE 4))) (seqS (putS 4 (borE 8) (callE lenF (consA (borE 3) nilA)))
  (owS 3 "list" appO (consA (varE 8) nilA))) passS)
noncomputable def bdy : C := (seqS (setS 7 (binE idxD (borE 6) (unE negD (conE (.int 1)))))
  (seqS (setS 8 (binE idxD (borE 0) (borE 7)))
  (seqS (setS 9 (binE idxD (borE 2) (binE idxD (borE 8) (conE (.int 0)))))
  (seqS (setS 10 (lcE (iterE (callE f_borne (consA (varE 8) (consA (varE 9) nilA)))) [11] (.nm 11) (tstE (binE notinD (borE 11) (borE 5))) (varE 11)))
  (seqS (ifS (truE (borE 10)) (seqS bdyA
  ctS) passS)
  (seqS (owS 6 "list" popO nilA)
  (seqS (setS 8 (callBE f_with_numbers (consA (borE 8) (consA (borE 9) (consA (borE 5) nilA)))))
  (seqS bdyB
  (putS 5 (borE 7) (binE idxD (borE 4) (borE 8)))))))))))
abbrev en (V0 V1 : D) (wk : List Nat) (mv : List (Nat × Nat)) (md : List Pt) (a b c d e : Option Sl) : En := [some (.v V0), some (.v V1), some (.v tbl), some (.o (mdD md)), some (.o (nbD md)), some (.o (mvD mv)), some (.o (wkD wk)), a, b, c, d, e]
section
variable {V1 : D} {wk : List Nat} {mv : List (Nat × Nat)} {md ps : List Pt} {a c : Nat} {t : List Nat} {p : Pt} {s : S} {j7 j8 j9 j10 j11 : Option Sl}
def wt (mv : List (Nat × Nat)) (p : Pt) : List Nat := p.kids.filter fun c => (mv.lookup c).isNone
theorem filter_nd (mv : List (Nat × Nat)) : ∀ l : List Nat, ((l.map nD).filter fun d => match d with | .int i => (mv.lookup i.toNat).isNone | _ => false) = (l.filter fun c => (mv.lookup c).isNone).map nD
  | [] => rfl
  | x :: l => by
    have e : (match nD x with | .int i => (mv.lookup i.toNat).isNone | _ => false) = (mv.lookup x).isNone := by
      show (mv.lookup ((x : Int)).toNat).isNone = _
      rw [Int.toNat_natCast]
    rw [List.map_cons, List.filter_cons, List.filter_cons, e, filter_nd mv l]
    split <;> rfl
theorem idxOf_snoc {q : Pt} : ∀ {md : List Pt}, q ∉ md → (md ++ [q]).idxOf q = md.length
  | [], _ => by simp
  | x :: md, h => by
    have h1 : ¬ x = q := fun z => h (by rw [z]; simp)
    have h2 : (x == q) = false := by simpa using h1
    rw [List.cons_append, List.idxOf_cons, h2, idxOf_snoc fun z => h (List.mem_cons_of_mem _ z)]
    simp
/-- the first four steps -/
theorem step1 (hp : ps[a]? = some p) (rest : C) (hk : p.kids.length < 500) : seqS (setS 7 (binE idxD (borE 6) (unE negD (conE (.int 1)))))
  (seqS (setS 8 (binE idxD (borE 0) (borE 7)))
  (seqS (setS 9 (binE idxD (borE 2) (binE idxD (borE 8) (conE (.int 0)))))
  (seqS (setS 10 (lcE (iterE (callE f_borne (consA (varE 8) (consA (varE 9) nilA)))) [11] (.nm 11) (tstE (binE notinD (borE 11) (borE 5))) (varE 11))) rest))) (en (.lst (ps.map Pt.d)) V1 (a :: t) mv md j7 j8 j9 j10 j11) s =
    rest (en (.lst (ps.map Pt.d)) V1 (a :: t) mv md (some (.v (nD a))) (some (.v p.d)) (some (.v (.ktup p.cds))) (some (.v (.lst ((wt mv p).map nD)))) j11) s := by
  have e7 : setS 7 (binE idxD (borE 6) (unE negD (conE (.int 1)))) (en (.lst (ps.map Pt.d)) V1 (a :: t) mv md j7 j8 j9 j10 j11) s = .nx (en (.lst (ps.map Pt.d)) V1 (a :: t) mv md (some (.v (nD a))) j8 j9 j10 j11) s := by
    refine set_ok (bin_ok (x := wkD (a :: t)) (y := .int (-1)) rfl rfl (idx_ok ?_))
    have : idxS s (wkD (a :: t)) (.int (-1)) = atI ((a :: t).reverse.map nD) (-1) := rfl
    rw [this, List.reverse_cons, List.map_append]
    exact at_last _ _
  have e8 : setS 8 (binE idxD (borE 0) (borE 7)) (en (.lst (ps.map Pt.d)) V1 (a :: t) mv md (some (.v (nD a))) j8 j9 j10 j11) s = .nx (en (.lst (ps.map Pt.d)) V1 (a :: t) mv md (some (.v (nD a))) (some (.v p.d)) j9 j10 j11) s := by
    refine set_ok (bin_ok (x := .lst (ps.map Pt.d)) (y := nD a) rfl rfl (idx_ok ?_))
    exact at_n (xs := ps.map Pt.d) (by rw [List.getElem?_map, hp]; rfl)
  have e9 : setS 9 (binE idxD (borE 2) (binE idxD (borE 8) (conE (.int 0)))) (en (.lst (ps.map Pt.d)) V1 (a :: t) mv md (some (.v (nD a))) (some (.v p.d)) j9 j10 j11) s = .nx (en (.lst (ps.map Pt.d)) V1 (a :: t) mv md (some (.v (nD a))) (some (.v p.d)) (some (.v (.ktup p.cds))) j10 j11) s :=
    set_ok (bin_ok (x := tbl) (y := .str p.kind) rfl (bin_ok (x := p.d) (y := .int 0) (by cases p <;> rfl) rfl (idx_ok (kind_d p))) (idx_ok (tbl_at p)))
  have e10 : setS 10 (lcE (iterE (callE f_borne (consA (varE 8) (consA (varE 9) nilA)))) [11] (.nm 11) (tstE (binE notinD (borE 11) (borE 5))) (varE 11)) (en (.lst (ps.map Pt.d)) V1 (a :: t) mv md (some (.v (nD a))) (some (.v p.d)) (some (.v (.ktup p.cds))) j10 j11) s =
      .nx (en (.lst (ps.map Pt.d)) V1 (a :: t) mv md (some (.v (nD a))) (some (.v p.d)) (some (.v (.ktup p.cds))) (some (.v (.lst ((wt mv p).map nD)))) j11) s := by
    refine set_ok (lcE_ok (iter_ok (call_ok (cons_ok (x := p.d) rfl (cons_ok (x := .ktup p.cds) rfl rfl)) (borne_ok p s))) ?_)
    have z := lc_gen (t := .nm 11) (c := tstE (binE notinD (borE 11) (borE 5))) (e := varE 11) (ρ := wipeD (en (.lst (ps.map Pt.d)) V1 (a :: t) mv md (some (.v (nD a))) (some (.v p.d)) (some (.v (.ktup p.cds))) j10 j11) [11]) (s := s)
      (fun d => match d with | .int i => (mv.lookup i.toNat).isNone | _ => false) id (p.kids.map nD) [] (fun d hd => by
        obtain ⟨x, hx, rfl⟩ := List.mem_map.mp hd
        refine ⟨_, rfl, ?_, fun _ => rfl⟩
        have e : (match nD x with | .int i => (mv.lookup i.toNat).isNone | _ => false) = (mv.lookup x).isNone := by
          show (mv.lookup ((x : Int)).toNat).isNone = _
          rw [Int.toNat_natCast]
        rw [e]
        exact tst_ok (bin_ok (x := nD x) (y := mvD mv) rfl rfl (notin_mv mv x s))) (by simp; omega)
    rw [z, filter_nd]
    simp [wt]
  rw [seq_nx e7, seq_nx e8, seq_nx e9, seq_nx e10]
theorem step_push (hp : ps[a]? = some p) (hk : p.kids.length < 500) {c : Nat} {r : List Nat} (hw : wt mv p = c :: r) (hl : (a :: t).length < 900) : ∃ k7 k8 k9 k10, bdy (en (.lst (ps.map Pt.d)) V1 (a :: t) mv md j7 j8 j9 j10 j11) s = .ct (en (.lst (ps.map Pt.d)) V1 (c :: a :: t) mv md k7 k8 k9 k10 j11) s := by
  refine ⟨some (.v (nD a)), some (.v p.d), some (.v (.ktup p.cds)), some (.v (.lst ((wt mv p).map nD))), ?_⟩
  unfold bdy
  rw [step1 hp _ hk]
  have et : truE (borE 10) (en (.lst (ps.map Pt.d)) V1 (a :: t) mv md (some (.v (nD a))) (some (.v p.d)) (some (.v (.ktup p.cds))) (some (.v (.lst ((wt mv p).map nD)))) j11) s = .ok true s := tru_ok (x := .lst ((wt mv p).map nD)) rfl (by rw [hw]; rfl)
  have ea : bdyA (en (.lst (ps.map Pt.d)) V1 (a :: t) mv md (some (.v (nD a))) (some (.v p.d)) (some (.v (.ktup p.cds))) (some (.v (.lst ((wt mv p).map nD)))) j11) s = .nx (en (.lst (ps.map Pt.d)) V1 (c :: a :: t) mv md (some (.v (nD a))) (some (.v p.d)) (some (.v (.ktup p.cds))) (some (.v (.lst ((wt mv p).map nD)))) j11) s := by
    refine ow_ok (d := wkD (a :: t)) rfl rfl (cons_ok (x := nD c) (bin_ok (x := .lst ((wt mv p).map nD)) (y := .int 0) rfl rfl (idx_ok (by rw [hw]; exact at_n (xs := (c :: r).map nD) (i := 0) rfl))) rfl) ?_ (x := .non)
    have hz : decide (((a :: t).reverse.map nD).length < sizeLine) = true := small (by rw [List.length_map, List.length_reverse]; omega)
    have ew : wkD (c :: a :: t) = .lst ((a :: t).reverse.map nD ++ [nD c]) := by simp [wkD]
    rw [ew]
    unfold wkD appO
    simp only [hz, if_true]
  refine seq_ct ?_
  rw [ifS_t et, seq_nx ea]
  rfl
theorem step_pop (hp : ps[a]? = some p) (hk : p.kids.length < 500) (hw : wt mv p = []) (na : mv.lookup a = none) (hs : s.all D.lite1 = true) (l1 : mv.length < 900) (l2 : md.length < 900) : ∃ k7 k8 k9 k10, bdy (en (.lst (ps.map Pt.d)) V1 (a :: t) mv md j7 j8 j9 j10 j11) s =
    .nx (en (.lst (ps.map Pt.d)) V1 t (mv ++ [(a, stepN md (p.map (gOf mv)))]) (stepMd md (p.map (gOf mv))) k7 k8 k9 k10 j11) s := by
  have gk : ∀ c ∈ p.kids, mv.lookup c = some (gOf mv c) := fun c hc => by
    cases e : mv.lookup c with
    | some m => simp [gOf, e]
    | none =>
      have : c ∈ wt mv p := List.mem_filter.mpr ⟨hc, by simp [e]⟩
      rw [hw] at this; simp at this
  refine ⟨some (.v (nD a)), some (.v (p.map (gOf mv)).d), some (.v (.ktup p.cds)), some (.v (.lst ((wt mv p).map nD))), ?_⟩
  unfold bdy
  rw [step1 hp _ hk]
  have et : truE (borE 10) (en (.lst (ps.map Pt.d)) V1 (a :: t) mv md (some (.v (nD a))) (some (.v p.d)) (some (.v (.ktup p.cds))) (some (.v (.lst ((wt mv p).map nD)))) j11) s = .ok false s := tru_ok (x := .lst ((wt mv p).map nD)) rfl (by rw [hw]; rfl)
  have e5 : ifS (truE (borE 10)) (seqS bdyA ctS) passS (en (.lst (ps.map Pt.d)) V1 (a :: t) mv md (some (.v (nD a))) (some (.v p.d)) (some (.v (.ktup p.cds))) (some (.v (.lst ((wt mv p).map nD)))) j11) s = .nx (en (.lst (ps.map Pt.d)) V1 (a :: t) mv md (some (.v (nD a))) (some (.v p.d)) (some (.v (.ktup p.cds))) (some (.v (.lst ((wt mv p).map nD)))) j11) s := by
    rw [ifS_f et]; rfl
  have e6 : owS 6 "list" popO nilA (en (.lst (ps.map Pt.d)) V1 (a :: t) mv md (some (.v (nD a))) (some (.v p.d)) (some (.v (.ktup p.cds))) (some (.v (.lst ((wt mv p).map nD)))) j11) s = .nx (en (.lst (ps.map Pt.d)) V1 t mv md (some (.v (nD a))) (some (.v p.d)) (some (.v (.ktup p.cds))) (some (.v (.lst ((wt mv p).map nD)))) j11) s := by
    refine ow_ok (d := wkD (a :: t)) rfl rfl rfl ?_ (x := nD a)
    simp [wkD, popO]
  have e7 : setS 8 (callBE f_with_numbers (consA (borE 8) (consA (borE 9) (consA (borE 5) nilA)))) (en (.lst (ps.map Pt.d)) V1 t mv md (some (.v (nD a))) (some (.v p.d)) (some (.v (.ktup p.cds))) (some (.v (.lst ((wt mv p).map nD)))) j11) s = .nx (en (.lst (ps.map Pt.d)) V1 t mv md (some (.v (nD a))) (some (.v (p.map (gOf mv)).d)) (some (.v (.ktup p.cds))) (some (.v (.lst ((wt mv p).map nD)))) j11) s :=
    set_ok (callB_ok (cons_ok (x := p.d) (by cases p <;> rfl) (cons_ok (x := .ktup p.cds) rfl (cons_ok (x := mvD mv) rfl rfl))) (with_ok p (gOf mv) fun i hi => idx_mv (gk i hi)) (by cases p <;> rfl) (by rw [lite_d, hs]; rfl))
  rw [seq_nx e5, seq_nx e6, seq_nx e7]
  generalize hq : p.map (gOf mv) = q
  have el : callE lenF (consA (borE 3) nilA) (en (.lst (ps.map Pt.d)) V1 t mv md (some (.v (nD a))) (some (.v q.d)) (some (.v (.ktup p.cds))) (some (.v (.lst ((wt mv p).map nD)))) j11) s = .ok (nD md.length) s := by
    refine call_ok (cons_ok (x := mdD md) rfl rfl) ?_
    have : lenF [mdD md] s = .ok (.int ((md.map Pt.d).length : Nat)) s := rfl
    rw [this, List.length_map]; rfl
  have bq : ∀ {md' : List Pt} {x : D}, borE 8 [some (.v (.lst (ps.map Pt.d))), some (.v V1), some (.v tbl), some (.o (mdD md')), some (.o x), some (.o (mvD mv)), some (.o (wkD t)), some (.v (nD a)), some (.v q.d), some (.v (.ktup p.cds)), some (.v (.lst ((wt mv p).map nD))), j11] s = .ok q.d s := by
    intro md' x; cases q <;> rfl
  have e8 : bdyB (en (.lst (ps.map Pt.d)) V1 t mv md (some (.v (nD a))) (some (.v q.d)) (some (.v (.ktup p.cds))) (some (.v (.lst ((wt mv p).map nD)))) j11) s = .nx (en (.lst (ps.map Pt.d)) V1 t mv (stepMd md q) (some (.v (nD a))) (some (.v q.d)) (some (.v (.ktup p.cds))) (some (.v (.lst ((wt mv p).map nD)))) j11) s := by
    have etst : tstE (binE notinD (borE 8) (borE 4)) (en (.lst (ps.map Pt.d)) V1 t mv md (some (.v (nD a))) (some (.v q.d)) (some (.v (.ktup p.cds))) (some (.v (.lst ((wt mv p).map nD)))) j11) s = .ok (decide (q ∉ md)) s := tst_ok (bin_ok (x := q.d) (y := nbD md) bq rfl (notin_nb md q s))
    unfold bdyB
    by_cases h : q ∈ md
    · rw [ifS_f (s1 := s) (by rw [etst]; simp [h])]
      unfold stepMd; rw [if_pos h]; rfl
    · rw [ifS_t (s1 := s) (by rw [etst]; simp [h])]
      have e1 : putS 4 (borE 8) (callE lenF (consA (borE 3) nilA)) (en (.lst (ps.map Pt.d)) V1 t mv md (some (.v (nD a))) (some (.v q.d)) (some (.v (.ktup p.cds))) (some (.v (.lst ((wt mv p).map nD)))) j11) s =
          .nx [some (.v (.lst (ps.map Pt.d))), some (.v V1), some (.v tbl), some (.o (mdD md)), some (.o (nbD (md ++ [q]))), some (.o (mvD mv)), some (.o (wkD t)), some (.v (nD a)), some (.v q.d), some (.v (.ktup p.cds)), some (.v (.lst ((wt mv p).map nD))), j11] s :=
        put_ok (d := nbD md) rfl el bq (put_nb h (by omega))
      have e2 : owS 3 "list" appO (consA (varE 8) nilA) [some (.v (.lst (ps.map Pt.d))), some (.v V1), some (.v tbl), some (.o (mdD md)), some (.o (nbD (md ++ [q]))), some (.o (mvD mv)), some (.o (wkD t)), some (.v (nD a)), some (.v q.d), some (.v (.ktup p.cds)), some (.v (.lst ((wt mv p).map nD))), j11] s =
          .nx (en (.lst (ps.map Pt.d)) V1 t mv (md ++ [q]) (some (.v (nD a))) (some (.v q.d)) (some (.v (.ktup p.cds))) (some (.v (.lst ((wt mv p).map nD)))) j11) s := by
        refine ow_ok (d := mdD md) rfl rfl (cons_ok (x := q.d) rfl rfl) ?_ (x := .non)
        have hz : decide ((md.map Pt.d).length < sizeLine) = true := small (by rw [List.length_map]; omega)
        simp only [mdD, appO, hz, if_true, List.map_append, List.map_cons, List.map_nil]
      rw [seq_nx e1, e2]
      unfold stepMd; rw [if_neg h]
  rw [seq_nx e8]
  have hin : q ∈ stepMd md q := by unfold stepMd; split <;> simp_all
  have hix : (stepMd md q).idxOf q = stepN md q := by
    unfold stepMd stepN
    split
    · rfl
    · rename_i h
      exact idxOf_snoc h
  refine put_ok (d := mvD mv) rfl (bin_ok (x := nbD (stepMd md q)) (y := q.d) rfl bq (idx_ok (idx_nb hin))) rfl ?_
  rw [hix]
  exact put_mv na (by omega)
end
end K13

namespace K13
open PySem PySem.Spec L2 Fv
/-! ### one_form, all of it -/
theorem kids_len (p : Pt) : p.kids.length < 500 := by cases p <;> exact Nat.le_of_ble_eq_true rfl
theorem while_nx {t : T} {body : C} {n : Nat} {ρ ρ2 : En} {s s1 s2 : S} (h : t ρ s = .ok true s1) (hb : body ρ s1 = .nx ρ2 s2) : whileL t body (n + 1) ρ s = whileL t body n ρ2 s2 := by simp only [whileL, h, R.stm, if_true, hb]
theorem while_ct {t : T} {body : C} {n : Nat} {ρ ρ2 : En} {s s1 s2 : S} (h : t ρ s = .ok true s1) (hb : body ρ s1 = .ct ρ2 s2) : whileL t body (n + 1) ρ s = whileL t body n ρ2 s2 := by simp only [whileL, h, R.stm, if_true, hb]
theorem while_end {t : T} {body : C} {n : Nat} {ρ : En} {s s1 : S} (h : t ρ s = .ok false s1) : whileL t body (n + 1) ρ s = .nx ρ s1 := by simp only [whileL, h, R.stm, Bool.false_eq_true, if_false]
theorem stepMd_len (md : List Pt) (q : Pt) : (stepMd md q).length ≤ md.length + 1 := by unfold stepMd; split <;> simp
theorem walk_ok {ps : List Pt} {r : Nat} {V1 : D} {s : S} (hw : WF ps) (hs : s.all D.lite1 = true) (hN : ps.length < 800) : ∀ (n : Nat) (wk : List Nat) (mv : List (Nat × Nat)) (md : List Pt) (j7 j8 j9 j10 j11 : Option Sl), LI ps r wk mv md → meas ps wk mv < n →
    mv.length + unm ps mv ≤ ps.length → md.length ≤ mv.length → ∃ mv' md' k7 k8 k9 k10, LI ps r [] mv' md' ∧ md'.length ≤ ps.length ∧
      whileL (truE (borE 6)) bdy n (en (.lst (ps.map Pt.d)) V1 wk mv md j7 j8 j9 j10 j11) s = .nx (en (.lst (ps.map Pt.d)) V1 [] mv' md' k7 k8 k9 k10 j11) s
  | 0, _, _, _, _, _, _, _, _, _, hm, _, _ => absurd hm (Nat.not_lt_zero _)
  | n + 1, [], mv, md, j7, j8, j9, j10, j11, h, hm, h1, h2 => ⟨mv, md, j7, j8, j9, j10, h, by omega, while_end (s1 := s) (tru_ok (x := wkD []) rfl rfl)⟩
  | n + 1, a :: t, mv, md, j7, j8, j9, j10, j11, h, hm, h1, h2 => by
    have ha : a < ps.length := h.wlt a (by simp)
    have hp : ps[a]? = some ps[a] := List.getElem?_eq_getElem ha
    have len := stk_len hw h.stk h.wlt
    have tr : truE (borE 6) (en (.lst (ps.map Pt.d)) V1 (a :: t) mv md j7 j8 j9 j10 j11) s = .ok true s := tru_ok (x := wkD (a :: t)) rfl (by simp [wkD, truthB])
    cases hwt : wt mv ps[a] with
    | cons c rest =>
      have hc : c ∈ wt mv ps[a] := by rw [hwt]; simp
      obtain ⟨hc1, hc2⟩ := List.mem_filter.mp hc
      have hc3 : mv.lookup c = none := by simpa using hc2
      obtain ⟨k7, k8, k9, k10, e⟩ := step_push (V1 := V1) (s := s) (j7 := j7) (j8 := j8) (j9 := j9) (j10 := j10) (j11 := j11) (md := md) hp (kids_len _) hwt (t := t) (by omega)
      have hm2 := meas_push (c := c) (mv := mv) (show (a :: t).length ≤ ps.length by omega)
      obtain ⟨mv', md', q7, q8, q9, q10, r1, r2, r3⟩ := walk_ok hw hs hN n (c :: a :: t) mv md k7 k8 k9 k10 j11 (li_push hw h hp hc1 hc3) (by omega) h1 h2
      exact ⟨mv', md', q7, q8, q9, q10, r1, r2, by rw [while_ct tr e]; exact r3⟩
    | nil =>
      have na := h.wnm a (by simp)
      obtain ⟨k7, k8, k9, k10, e⟩ := step_pop (V1 := V1) (s := s) (j7 := j7) (j8 := j8) (j9 := j9) (j10 := j10) (j11 := j11) (md := md) hp (kids_len _) hwt na hs (t := t) (by omega) (by omega)
      have hk : ∀ c ∈ (ps[a]).kids, mv.lookup c ≠ none := fun c hc z => by
        have : c ∈ wt mv ps[a] := List.mem_filter.mpr ⟨hc, by simp [z]⟩
        rw [hwt] at this; simp at this
      have hm2 := meas_pop (n := stepN md ((ps[a]).map (gOf mv))) ha na (t := t) (by omega)
      have hu := unm_pop (ps := ps) (n := stepN md ((ps[a]).map (gOf mv))) ha na
      have hl := stepMd_len md ((ps[a]).map (gOf mv))
      obtain ⟨mv', md', q7, q8, q9, q10, r1, r2, r3⟩ := walk_ok hw hs hN n t _ _ k7 k8 k9 k10 j11 (li_pop hw h hp hk) (by omega) (by rw [List.length_append]; simp; omega) (by rw [List.length_append]; simp; omega)
      exact ⟨mv', md', q7, q8, q9, q10, r1, r2, by rw [while_nx tr e]; exact r3⟩
theorem one_form_ok {ps : List Pt} {s : S} (hw : WF ps) (hs : s.all D.lite1 = true) (h0 : 0 < ps.length) (hN : ps.length < 800) : ∃ md, Made ps (ps.length - 1) md ∧ md.length ≤ ps.length ∧ f_one_form [.lst (ps.map Pt.d), .ktup k_SAYING_KINDS] s = .ok (.lst (md.map Pt.d)) s := by
  have start : f_one_form [.lst (ps.map Pt.d), .ktup k_SAYING_KINDS] s = fin (b_one_form [some (.v (.lst (ps.map Pt.d))), some (.v (.ktup k_SAYING_KINDS)), none, none, none, none, none, none, none, none, none, none] s) := rfl
  have e0 : b_one_form_0 [some (.v (.lst (ps.map Pt.d))), some (.v (.ktup k_SAYING_KINDS)), none, none, none, none, none, none, none, none, none, none] s = .nx [some (.v (.lst (ps.map Pt.d))), some (.v (.ktup k_SAYING_KINDS)), some (.v tbl), none, none, none, none, none, none, none, none, none] s :=
    set_ok (call_ok (cons_ok (x := .ktup k_SAYING_KINDS) rfl rfl) dict_tbl)
  have e1 : b_one_form_1 [some (.v (.lst (ps.map Pt.d))), some (.v (.ktup k_SAYING_KINDS)), some (.v tbl), none, none, none, none, none, none, none, none, none] s = .nx [some (.v (.lst (ps.map Pt.d))), some (.v (.ktup k_SAYING_KINDS)), some (.v tbl), some (.o (mdD [])), none, none, none, none, none, none, none, none] s :=
    own_ok (lst_ok (xs := []) rfl (szl_lt (Nat.le_of_ble_eq_true rfl))) rfl
  have e2 : b_one_form_2 [some (.v (.lst (ps.map Pt.d))), some (.v (.ktup k_SAYING_KINDS)), some (.v tbl), some (.o (mdD [])), none, none, none, none, none, none, none, none] s = .nx [some (.v (.lst (ps.map Pt.d))), some (.v (.ktup k_SAYING_KINDS)), some (.v tbl), some (.o (mdD [])), some (.o (nbD [])), none, none, none, none, none, none, none] s := rfl
  have e3 : b_one_form_3 [some (.v (.lst (ps.map Pt.d))), some (.v (.ktup k_SAYING_KINDS)), some (.v tbl), some (.o (mdD [])), some (.o (nbD [])), none, none, none, none, none, none, none] s = .nx [some (.v (.lst (ps.map Pt.d))), some (.v (.ktup k_SAYING_KINDS)), some (.v tbl), some (.o (mdD [])), some (.o (nbD [])), some (.o (mvD [])), none, none, none, none, none, none] s := rfl
  have e4 : b_one_form_4 [some (.v (.lst (ps.map Pt.d))), some (.v (.ktup k_SAYING_KINDS)), some (.v tbl), some (.o (mdD [])), some (.o (nbD [])), some (.o (mvD [])), none, none, none, none, none, none] s = .nx (en (.lst (ps.map Pt.d)) (.ktup k_SAYING_KINDS) [ps.length - 1] [] [] none none none none none) s := by
    have z1 : lenF [.lst (ps.map Pt.d)] s = .ok (.int (ps.length : Nat)) s := by
      have : lenF [.lst (ps.map Pt.d)] s = .ok (.int ((ps.map Pt.d).length : Nat)) s := rfl
      rw [this, List.length_map]
    have z2 : subD (.int (ps.length : Nat)) (.int 1) s = .ok (nD (ps.length - 1)) s := by
      show R.ok (D.int ((ps.length : Int) - 1)) s = _
      unfold nD
      congr 2; omega
    exact own_ok (x := wkD [ps.length - 1]) (lst_ok (xs := [nD (ps.length - 1)]) (cons_ok (bin_ok (x := .int (ps.length : Nat)) (y := .int 1) (call_ok (cons_ok (x := .lst (ps.map Pt.d)) rfl rfl) z1) rfl z2) rfl) (szl_lt (Nat.le_of_ble_eq_true rfl))) rfl
  have un0 : unm ps [] ≤ ps.length := Nat.le_trans (List.length_filter_le ..) (by simp)
  obtain ⟨mv', md, k7, k8, k9, k10, h, hl, e5⟩ := walk_ok (V1 := .ktup k_SAYING_KINDS) hw hs hN gas [ps.length - 1] [] [] none none none none none (li_start (by omega)) (by
    have hu : unm ps [] * (ps.length + 2) ≤ 800 * 802 := Nat.mul_le_mul (by omega) (by omega)
    unfold meas gas
    simp only [List.length_cons, List.length_nil]
    omega) (by simpa using un0) (by simp)
  refine ⟨md, h.made, hl, ?_⟩
  have e5' : b_one_form_5 (en (.lst (ps.map Pt.d)) (.ktup k_SAYING_KINDS) [ps.length - 1] [] [] none none none none none) s = .nx (en (.lst (ps.map Pt.d)) (.ktup k_SAYING_KINDS) [] mv' md k7 k8 k9 k10 none) s := e5
  rw [start]
  unfold b_one_form
  rw [seq_nx e0, seq_nx e1, seq_nx e2, seq_nx e3, seq_nx e4, seq_nx e5']
  unfold b_one_form_6
  rw [seq_nx (frz_ok (d := mdD md) rfl rfl)]
  rfl
end K13

namespace K13
open PySem PySem.Spec L2 Fv
/-! ### what parts are taken -/
def NmOk (w : Tx) : Prop := ∀ s, f_is_name [.str w] s = .ok (.bl true) s ∧ PyData.strOk w = true
def OkPt (n : Nat) : Pt → Prop
  | .thing => True | .nothing => True | .word w => NmOk w | .both i j => i < n ∧ j < n | .either i j => i < n ∧ j < n | .neg i => i < n | .some l _ i => NmOk l ∧ i < n | .every l _ i => NmOk l ∧ i < n
  | .least m l _ i => 2 ≤ m ∧ m ≤ 40 ∧ NmOk l ∧ i < n | .top sc i => NmOk sc ∧ i < n | .above sc w => NmOk sc ∧ NmOk w
theorem within_ok {x lo hi : Int} (h1 : lo ≤ x) (h2 : x ≤ hi) (s : S) : f_is_within [.int x, .int lo, .int hi] s = .ok (.bl true) s := by
  have i1 : f_is_integer [.int x] s = .ok (.bl true) s := rfl
  have e0 : b_is_within_0 [some (.v (.int x)), some (.v (.int lo)), some (.v (.int hi))] s = .nx [some (.v (.int x)), some (.v (.int lo)), some (.v (.int hi))] s := by
    unfold b_is_within_0
    rw [ifS_f (s1 := s) (not_ok (k := true) (tru_ok (x := .bl true) (call_ok (cons_ok (x := .int x) rfl rfl) i1) rfl))]
    rfl
  show fin (b_is_within [some (.v (.int x)), some (.v (.int lo)), some (.v (.int hi))] s) = _
  unfold b_is_within
  rw [seq_nx e0]
  have l1 : leD (.int lo) (.int x) s = .ok (.bl true) s := by simp [leD, h1]
  have l2 : leD (.int x) (.int hi) s = .ok (.bl true) s := by simp [leD, h2]
  simp [b_is_within_1, retS, andE, orE, binE, borE, conE, isD, isNone, R.bind, R.stm, truth, truthB, l1, l2, fin]
theorem can_part {i n : Nat} (h : i < n) (s : S) : f_can_stand [nD i, .str "part", nD n] s = .ok (.bl true) s := by
  show fin (b_can_stand [some (.v (nD i)), some (.v (.str "part")), some (.v (nD n))] s) = _
  have e0 : b_can_stand_0 [some (.v (nD i)), some (.v (.str "part")), some (.v (nD n))] s = .rt (.bl true) s := by
    unfold b_can_stand_0
    rw [ifS_t (s1 := s) (tst_ok (bin_ok (x := .str "part") (y := .str "part") rfl rfl rfl))]
    exact ret_ok (call_ok (cons_ok (x := nD i) rfl (cons_ok (x := .int 0) rfl (cons_ok (x := .int ((n : Int) - 1)) rfl rfl))) (within_ok (by omega) (by omega) s))
  unfold b_can_stand
  rw [seq_rt e0]; rfl
theorem can_many {m : Int} {n : Nat} (h1 : 2 ≤ m) (h2 : m ≤ 40) (s : S) : f_can_stand [.int m, .str "many", nD n] s = .ok (.bl true) s := by
  show fin (b_can_stand [some (.v (.int m)), some (.v (.str "many")), some (.v (nD n))] s) = _
  have e0 : b_can_stand_0 [some (.v (.int m)), some (.v (.str "many")), some (.v (nD n))] s = .nx [some (.v (.int m)), some (.v (.str "many")), some (.v (nD n))] s := rfl
  have e1 : b_can_stand_1 [some (.v (.int m)), some (.v (.str "many")), some (.v (nD n))] s = .rt (.bl true) s := by
    unfold b_can_stand_1
    rw [ifS_t (s1 := s) (tst_ok (bin_ok (x := .str "many") (y := .str "many") rfl rfl rfl))]
    exact ret_ok (call_ok (cons_ok (x := .int m) rfl (cons_ok (x := .int 2) rfl (cons_ok (x := .int 40) rfl rfl))) (within_ok h1 h2 s))
  unfold b_can_stand
  rw [seq_nx e0, seq_rt e1]; rfl
theorem can_dir (b : Bool) {n : Nat} (s : S) : f_can_stand [.str (dirT b), .str "direction", nD n] s = .ok (.bl true) s := by cases b <;> rfl
theorem can_name {w c : Tx} {n : Nat} (h : NmOk w) (hc : c = "word" ∨ c = "link" ∨ c = "scale") (s : S) : f_can_stand [.str w, .str c, nD n] s = .ok (.bl true) s := by
  show fin (b_can_stand [some (.v (.str w)), some (.v (.str c)), some (.v (nD n))] s) = _
  have e0 : seqS b_can_stand_0 (seqS b_can_stand_1 (seqS b_can_stand_2 b_can_stand_3)) [some (.v (.str w)), some (.v (.str c)), some (.v (nD n))] s = b_can_stand_3 [some (.v (.str w)), some (.v (.str c)), some (.v (nD n))] s := by
    rcases hc with rfl | rfl | rfl <;> rfl
  unfold b_can_stand
  rw [e0]
  have e3 : b_can_stand_3 [some (.v (.str w)), some (.v (.str c)), some (.v (nD n))] s = .rt (.bl true) s := ret_ok (call_ok (cons_ok (x := .str w) rfl rfl) (h s).1)
  rw [e3]; rfl
theorem lc_nil' {t : Tg} {c : T} {e : E} {ρ : En} {acc : List D} {s : S} : lcL allK t c e ρ [] acc s = .ok acc s := rfl
theorem is_part_ok {n : Nat} {p : Pt} (h : OkPt n p) (s : S) : f_is_part [p.d, tbl, nD n] s = .ok (.bl true) s := by
  show fin (b_is_part [some (.v p.d), some (.v tbl), some (.v (nD n)), none, none] s) = _
  have e0 : b_is_part_0 [some (.v p.d), some (.v tbl), some (.v (nD n)), none, none] s = .nx [some (.v p.d), some (.v tbl), some (.v (nD n)), none, none] s := by cases p <;> rfl
  have e1 : b_is_part_1 [some (.v p.d), some (.v tbl), some (.v (nD n)), none, none] s = .nx [some (.v p.d), some (.v tbl), some (.v (nD n)), none, none] s := by cases p <;> rfl
  have key : ∀ (items : List D) (k : Nat), zipI (consA (sliceE (borE 0) (someO (conE (.int 1))) noO) (consA (binE idxD (borE 1) (binE idxD (borE 0) (conE (.int 0)))) nilA)) [some (.v p.d), some (.v tbl), some (.v (nD n)), none, none] s = .ok ⟨items, allK⟩ s →
      (∀ d ∈ items, ∃ x c, d = .tup [x, .str c] ∧ f_can_stand [x, .str c, nD n] s = .ok (.bl true) s) → items.length = k → k < 10 → b_is_part_2 [some (.v p.d), some (.v tbl), some (.v (nD n)), none, none] s = .rt (.bl true) s := by
    intro items k hz hi hk hk2
    have z := lc_gen (t := .tp [3, 4]) (c := yesT) (e := callE f_can_stand (consA (varE 3) (consA (varE 4) (consA (varE 2) nilA)))) (ρ := wipeD [some (.v p.d), some (.v tbl), some (.v (nD n)), none, none] [3, 4]) (s := s) (fun _ => true) (fun _ => .bl true) items [] (fun d hd => by
      obtain ⟨x, c, rfl, hc⟩ := hi d hd
      exact ⟨[some (.v p.d), some (.v tbl), some (.v (nD n)), some (.v x), some (.v (.str c))], rfl, rfl, fun _ => call_ok (cons_ok (x := x) rfl (cons_ok (x := .str c) rfl (cons_ok (x := nD n) rfl rfl))) hc⟩) (by simp; omega)
    have hf : items.filter (fun _ => true) = items := List.filter_eq_self.mpr fun _ _ => rfl
    rw [hf, List.nil_append] at z
    refine ret_ok (call_ok (cons_ok (lcE_ok hz z) rfl) ?_)
    have bl : ∀ l : List D, blsOf (l.map fun _ => D.bl true) = some (l.map fun _ => true) := by
      intro l
      induction l with
      | nil => rfl
      | cons _ l ih => simp [blsOf, ih]
    have al : ((items.map fun _ => true).all id) = true := by simp
    show (match ((some (items.map fun _ => D.bl true)).bind blsOf) with | some bs => R.ok (D.bl (bs.all id)) s | none => R.bad) = _
    rw [Option.bind_some, bl]
    show R.ok (D.bl ((items.map fun _ => true).all id)) s = _
    rw [al]
  have e2 : b_is_part_2 [some (.v p.d), some (.v tbl), some (.v (nD n)), none, none] s = .rt (.bl true) s := by
    cases p with
    | thing => exact key [] 0 rfl (fun d hd => by simp at hd) rfl (by decide)
    | nothing => exact key [] 0 rfl (fun d hd => by simp at hd) rfl (by decide)
    | word w => exact key [.tup [.str w, .str "word"]] 1 rfl (fun d hd => by simp at hd; subst hd; exact ⟨_, _, rfl, can_name h (.inl rfl) s⟩) rfl (by decide)
    | both i j => exact key [.tup [nD i, .str "part"], .tup [nD j, .str "part"]] 2 rfl (fun d hd => by simp at hd; rcases hd with rfl | rfl; exact ⟨_, _, rfl, can_part h.1 s⟩; exact ⟨_, _, rfl, can_part h.2 s⟩) rfl (by decide)
    | either i j => exact key [.tup [nD i, .str "part"], .tup [nD j, .str "part"]] 2 rfl (fun d hd => by simp at hd; rcases hd with rfl | rfl; exact ⟨_, _, rfl, can_part h.1 s⟩; exact ⟨_, _, rfl, can_part h.2 s⟩) rfl (by decide)
    | neg i => exact key [.tup [nD i, .str "part"]] 1 rfl (fun d hd => by simp at hd; subst hd; exact ⟨_, _, rfl, can_part h s⟩) rfl (by decide)
    | some l b i => exact key [.tup [.str l, .str "link"], .tup [.str (dirT b), .str "direction"], .tup [nD i, .str "part"]] 3 rfl (fun d hd => by simp at hd; rcases hd with rfl | rfl | rfl; exact ⟨_, _, rfl, can_name h.1 (.inr (.inl rfl)) s⟩; exact ⟨_, _, rfl, can_dir b s⟩; exact ⟨_, _, rfl, can_part h.2 s⟩) rfl (by decide)
    | every l b i => exact key [.tup [.str l, .str "link"], .tup [.str (dirT b), .str "direction"], .tup [nD i, .str "part"]] 3 rfl (fun d hd => by simp at hd; rcases hd with rfl | rfl | rfl; exact ⟨_, _, rfl, can_name h.1 (.inr (.inl rfl)) s⟩; exact ⟨_, _, rfl, can_dir b s⟩; exact ⟨_, _, rfl, can_part h.2 s⟩) rfl (by decide)
    | least m l b i => exact key [.tup [.int m, .str "many"], .tup [.str l, .str "link"], .tup [.str (dirT b), .str "direction"], .tup [nD i, .str "part"]] 4 rfl (fun d hd => by simp at hd; rcases hd with rfl | rfl | rfl | rfl; exact ⟨_, _, rfl, can_many h.1 h.2.1 s⟩; exact ⟨_, _, rfl, can_name h.2.2.1 (.inr (.inl rfl)) s⟩; exact ⟨_, _, rfl, can_dir b s⟩; exact ⟨_, _, rfl, can_part h.2.2.2 s⟩) rfl (by decide)
    | top sc i => exact key [.tup [.str sc, .str "scale"], .tup [nD i, .str "part"]] 2 rfl (fun d hd => by simp at hd; rcases hd with rfl | rfl; exact ⟨_, _, rfl, can_name h.1 (.inr (.inr rfl)) s⟩; exact ⟨_, _, rfl, can_part h.2 s⟩) rfl (by decide)
    | above sc w => exact key [.tup [.str sc, .str "scale"], .tup [.str w, .str "word"]] 2 rfl (fun d hd => by simp at hd; rcases hd with rfl | rfl; exact ⟨_, _, rfl, can_name h.1 (.inr (.inr rfl)) s⟩; exact ⟨_, _, rfl, can_name h.2 (.inl rfl) s⟩) rfl (by decide)
  unfold b_is_part
  rw [seq_nx e0, seq_nx e1, e2]; rfl
/-- parts that stand -/
def Ok (ps : List Pt) : Prop := ∀ (i : Nat) (p : Pt), ps[i]? = some p → OkPt i p
theorem OkPt.wf {n : Nat} {p : Pt} (h : OkPt n p) : ∀ c ∈ p.kids, c < n := by
  cases p <;> simp only [OkPt, Pt.kids, List.mem_cons, List.not_mem_nil, or_false] at h ⊢ <;> intro c hc
  · exact hc.elim
  · exact hc.elim
  · exact hc.elim
  · rcases hc with rfl | rfl; exact h.1; exact h.2
  · rcases hc with rfl | rfl; exact h.1; exact h.2
  · subst hc; exact h
  · subst hc; exact h.2
  · subst hc; exact h.2
  · subst hc; exact h.2.2.2
  · subst hc; exact h.2
  · exact hc.elim
theorem Ok.wf {ps : List Pt} (h : Ok ps) : WF ps := fun i p e => (h i p e).wf
theorem tuple_d (p : Pt) (s : S) : tupleF [p.d] s = .ok p.d s := by cases p <;> rfl
noncomputable def cbdy : C := (seqS (ifS (notT (truE (callE f_is_part (consA (varE 4) (consA (varE 2) (consA (callE lenF (consA (borE 3) nilA)) nilA)))))) (retS (conE .non)) passS)
      (owS 3 "list" appO (consA (callE tupleF (consA (borE 4) nilA)) nilA)))
theorem checked_ok {ps : List Pt} {s : S} (h : Ok ps) (hs : s.all D.lite1 = true) (h0 : 0 < ps.length) (hN : ps.length < 800) : ∃ md, Made ps (ps.length - 1) md ∧ md.length ≤ ps.length ∧ f_checked_parts [.lst (ps.map Pt.d), .ktup k_SAYING_KINDS] s = .ok (.lst (md.map Pt.d)) s := by
  obtain ⟨md, hm, hl, e⟩ := one_form_ok h.wf hs h0 hN
  refine ⟨md, hm, hl, ?_⟩
  show fin (b_checked_parts [some (.v (.lst (ps.map Pt.d))), some (.v (.ktup k_SAYING_KINDS)), none, none, none] s) = _
  have e0 : b_checked_parts_0 [some (.v (.lst (ps.map Pt.d))), some (.v (.ktup k_SAYING_KINDS)), none, none, none] s = .nx [some (.v (.lst (ps.map Pt.d))), some (.v (.ktup k_SAYING_KINDS)), none, none, none] s := by
    cases ps with
    | nil => simp at h0
    | cons p ps => rfl
  have e1 : b_checked_parts_1 [some (.v (.lst (ps.map Pt.d))), some (.v (.ktup k_SAYING_KINDS)), none, none, none] s = .nx [some (.v (.lst (ps.map Pt.d))), some (.v (.ktup k_SAYING_KINDS)), some (.v tbl), none, none] s :=
    set_ok (call_ok (cons_ok (x := .ktup k_SAYING_KINDS) rfl rfl) dict_tbl)
  have e2 : b_checked_parts_2 [some (.v (.lst (ps.map Pt.d))), some (.v (.ktup k_SAYING_KINDS)), some (.v tbl), none, none] s = .nx [some (.v (.lst (ps.map Pt.d))), some (.v (.ktup k_SAYING_KINDS)), some (.v tbl), some (.o (mdD [])), none] s :=
    own_ok (lst_ok (xs := []) rfl (szl_lt (by decide))) rfl
  have loop : ∀ (todo done : List Pt) (j : Option Sl), ps = done ++ todo → ∃ j', forL allK (.nm 4) cbdy (todo.map Pt.d) [some (.v (.lst (ps.map Pt.d))), some (.v (.ktup k_SAYING_KINDS)), some (.v tbl), some (.o (mdD done)), j] s = .nx [some (.v (.lst (ps.map Pt.d))), some (.v (.ktup k_SAYING_KINDS)), some (.v tbl), some (.o (mdD ps)), j'] s := by
    intro todo
    induction todo with
    | nil => intro done j hd; rw [List.append_nil] at hd; subst hd; exact ⟨j, rfl⟩
    | cons p todo ih =>
      intro done j hd
      have hp : ps[done.length]? = some p := by rw [hd]; simp
      have hl : done.length < ps.length := (List.getElem?_eq_some_iff.mp hp).1
      have elen : callE lenF (consA (borE 3) nilA) [some (.v (.lst (ps.map Pt.d))), some (.v (.ktup k_SAYING_KINDS)), some (.v tbl), some (.o (mdD done)), some (.v p.d)] s = .ok (nD done.length) s := by
        refine call_ok (cons_ok (x := mdD done) rfl rfl) ?_
        have : lenF [mdD done] s = .ok (.int ((done.map Pt.d).length : Nat)) s := rfl
        rw [this, List.length_map]; rfl
      have et : notT (truE (callE f_is_part (consA (varE 4) (consA (varE 2) (consA (callE lenF (consA (borE 3) nilA)) nilA))))) [some (.v (.lst (ps.map Pt.d))), some (.v (.ktup k_SAYING_KINDS)), some (.v tbl), some (.o (mdD done)), some (.v p.d)] s = .ok false s :=
        not_ok (k := true) (tru_ok (x := .bl true) (call_ok (cons_ok (x := p.d) rfl (cons_ok (x := tbl) rfl (cons_ok elen rfl))) (is_part_ok (h _ p hp) s)) rfl)
      have ea : owS 3 "list" appO (consA (callE tupleF (consA (borE 4) nilA)) nilA) [some (.v (.lst (ps.map Pt.d))), some (.v (.ktup k_SAYING_KINDS)), some (.v tbl), some (.o (mdD done)), some (.v p.d)] s = .nx [some (.v (.lst (ps.map Pt.d))), some (.v (.ktup k_SAYING_KINDS)), some (.v tbl), some (.o (mdD (done ++ [p]))), some (.v p.d)] s := by
        refine ow_ok (d := mdD done) rfl rfl (cons_ok (x := p.d) (call_ok (cons_ok (x := p.d) (by cases p <;> rfl) rfl) (tuple_d p s)) rfl) ?_ (x := .non)
        have hz : decide ((done.map Pt.d).length < sizeLine) = true := small (by rw [List.length_map]; omega)
        unfold mdD appO
        simp only [hz, if_true, List.map_append, List.map_cons, List.map_nil]
      obtain ⟨j', e'⟩ := ih (done ++ [p]) (some (.v p.d)) (by rw [hd]; simp)
      refine ⟨j', ?_⟩
      have estep : cbdy [some (.v (.lst (ps.map Pt.d))), some (.v (.ktup k_SAYING_KINDS)), some (.v tbl), some (.o (mdD done)), some (.v p.d)] s = .nx [some (.v (.lst (ps.map Pt.d))), some (.v (.ktup k_SAYING_KINDS)), some (.v tbl), some (.o (mdD (done ++ [p]))), some (.v p.d)] s := by
        unfold cbdy
        have z := ifS_f (st := retS (conE .non)) (st2 := passS) et
        rw [seq_nx (z.trans rfl)]
        exact ea
      simp only [List.map_cons, forL, allK, if_true, asg, List.set_cons_succ, List.set_cons_zero, estep]
      exact e'
  obtain ⟨j', e3⟩ := loop ps [] none rfl
  have e3' : b_checked_parts_3 [some (.v (.lst (ps.map Pt.d))), some (.v (.ktup k_SAYING_KINDS)), some (.v tbl), some (.o (mdD [])), none] s = .nx [some (.v (.lst (ps.map Pt.d))), some (.v (.ktup k_SAYING_KINDS)), some (.v tbl), some (.o (mdD ps)), j'] s := by
    have ei : iterE (varE 0) [some (.v (.lst (ps.map Pt.d))), some (.v (.ktup k_SAYING_KINDS)), some (.v tbl), some (.o (mdD [])), none] s = .ok ⟨ps.map Pt.d, allK⟩ s := rfl
    unfold b_checked_parts_3 forS
    rw [ei]
    exact e3
  unfold b_checked_parts
  rw [seq_nx e0, seq_nx e1, seq_nx e2, seq_nx e3']
  unfold b_checked_parts_4
  rw [seq_nx (frz_ok (d := mdD ps) rfl rfl)]
  have ef : retS (callE f_one_form (consA (varE 3) (consA (varE 1) nilA))) ([some (.v (.lst (ps.map Pt.d))), some (.v (.ktup k_SAYING_KINDS)), some (.v tbl), some (.o (mdD ps)), j'].set 3 (some (.v (mdD ps)))) s = .rt (.lst (md.map Pt.d)) s :=
    ret_ok (call_ok (cons_ok (x := mdD ps) rfl (cons_ok (x := .ktup k_SAYING_KINDS) rfl rfl)) e)
  rw [ef]; rfl
end K13

namespace K13
open PySem PySem.Spec L2 Fv
/-! ### depths -/
def Pt.lk : Pt → Nat | .some _ _ _ => 1 | .every _ _ _ => 1 | .least _ _ _ _ => 1 | _ => 0
def depF (p : Pt) (xs : List Nat) : Nat := mxN xs + p.lk
theorem depF_inv : InvF depF := fun p g xs => by cases p <;> rfl
theorem mxN_map (l : List Nat) : mxN (0 :: l) = mxN l := by simp [mxN]
noncomputable def dbdy : C := (seqS (setS 5 (lcE (iterE (callE f_borne (consA (varE 4) (consA (binE idxD (borE 2) (binE idxD (borE 4) (conE (.int 0)))) nilA)))) [7] (.nm 7) yesT (binE idxD (borE 3) (borE 7))))
  (seqS (setS 6 (ifE (tstE (binE inD (binE idxD (borE 4) (conE (.int 0))) (tupE (consA (conE (.str "some")) (consA (conE (.str "every")) (consA (conE (.str "least")) nilA)))))) (conE (.int 1)) (conE (.int 0))))
  (owS 3 "list" appO (consA (binE addD (callE maxF (consA (lstE (consA (conE (.int 0)) (starA (borE 5) nilA))) nilA)) (borE 6)) nilA))))
theorem nd_map (f : Nat → Nat) (l : List Nat) : (l.map nD).map (fun d => match d with | .int i => nD (f i.toNat) | _ => .non) = (l.map f).map nD := by
  induction l with
  | nil => rfl
  | cons x l ih =>
    simp only [List.map_cons, ih]
    congr 1
theorem fm_get (l : List Nat) : ∀ ks : List Nat, (∀ c ∈ ks, c < l.length) → ks.filterMap (l[·]?) = ks.map fun c => l.getD c 0
  | [], _ => rfl
  | c :: ks, h => by
    have hc := h c (by simp)
    have e : l[c]? = some l[c] := List.getElem?_eq_getElem hc
    rw [List.filterMap_cons, e, List.map_cons, fm_get l ks fun x hx => h x (List.mem_cons_of_mem _ hx)]
    simp [List.getD, e]
theorem depths_ok {ps : List Pt} {s : S} (hw : WF ps) (hN : ps.length < 800) : f_part_depths [.lst (ps.map Pt.d), .ktup k_SAYING_KINDS] s = .ok (.lst ((evs depF ps).map nD)) s := by
  show fin (b_part_depths [some (.v (.lst (ps.map Pt.d))), some (.v (.ktup k_SAYING_KINDS)), none, none, none, none, none, none] s) = _
  have e0 : b_part_depths_0 [some (.v (.lst (ps.map Pt.d))), some (.v (.ktup k_SAYING_KINDS)), none, none, none, none, none, none] s = .nx [some (.v (.lst (ps.map Pt.d))), some (.v (.ktup k_SAYING_KINDS)), some (.v tbl), none, none, none, none, none] s :=
    set_ok (call_ok (cons_ok (x := .ktup k_SAYING_KINDS) rfl rfl) dict_tbl)
  have e1 : b_part_depths_1 [some (.v (.lst (ps.map Pt.d))), some (.v (.ktup k_SAYING_KINDS)), some (.v tbl), none, none, none, none, none] s = .nx [some (.v (.lst (ps.map Pt.d))), some (.v (.ktup k_SAYING_KINDS)), some (.v tbl), some (.o (.lst ([].map nD))), none, none, none, none] s :=
    own_ok (lst_ok (xs := []) rfl (szl_lt (by decide))) rfl
  have loop : ∀ (todo done : List Pt) (j4 j5 j6 j7 : Option Sl), ps = done ++ todo → ∃ k4 k5 k6 k7, forL allK (.nm 4) dbdy (todo.map Pt.d) [some (.v (.lst (ps.map Pt.d))), some (.v (.ktup k_SAYING_KINDS)), some (.v tbl), some (.o (.lst ((evs depF done).map nD))), j4, j5, j6, j7] s =
      .nx [some (.v (.lst (ps.map Pt.d))), some (.v (.ktup k_SAYING_KINDS)), some (.v tbl), some (.o (.lst ((evs depF ps).map nD))), k4, k5, k6, k7] s := by
    intro todo
    induction todo with
    | nil => intro done j4 j5 j6 j7 hd; rw [List.append_nil] at hd; subst hd; exact ⟨j4, j5, j6, j7, rfl⟩
    | cons p todo ih =>
      intro done j4 j5 j6 j7 hd
      have hp : ps[done.length]? = some p := by rw [hd]; simp
      have hl : done.length < ps.length := (List.getElem?_eq_some_iff.mp hp).1
      have hk : ∀ c ∈ p.kids, c < (evs depF done).length := fun c hc => by rw [evs_len]; exact hw _ p hp c hc
      have kl := kids_len p
      generalize hL : evs depF done = L at hk
      have s1 : setS 5 (lcE (iterE (callE f_borne (consA (varE 4) (consA (binE idxD (borE 2) (binE idxD (borE 4) (conE (.int 0)))) nilA)))) [7] (.nm 7) yesT (binE idxD (borE 3) (borE 7))) [some (.v (.lst (ps.map Pt.d))), some (.v (.ktup k_SAYING_KINDS)), some (.v tbl), some (.o (.lst (L.map nD))), some (.v p.d), j5, j6, j7] s =
          .nx [some (.v (.lst (ps.map Pt.d))), some (.v (.ktup k_SAYING_KINDS)), some (.v tbl), some (.o (.lst (L.map nD))), some (.v p.d), some (.v (.lst ((p.kids.filterMap (L[·]?)).map nD))), j6, j7] s := by
        refine set_ok (lcE_ok (iter_ok (call_ok (cons_ok (x := p.d) rfl (cons_ok (x := .ktup p.cds) (bin_ok (x := tbl) (y := .str p.kind) rfl (bin_ok (x := p.d) (y := .int 0) (by cases p <;> rfl) rfl (idx_ok (kind_d p))) (idx_ok (tbl_at p))) rfl)) (borne_ok p s))) ?_)
        have z := lc_gen (t := .nm 7) (c := yesT) (e := binE idxD (borE 3) (borE 7)) (ρ := wipeD [some (.v (.lst (ps.map Pt.d))), some (.v (.ktup k_SAYING_KINDS)), some (.v tbl), some (.o (.lst (L.map nD))), some (.v p.d), j5, j6, j7] [7]) (s := s)
          (fun _ => true) (fun d => match d with | .int i => nD (L.getD i.toNat 0) | _ => .non) (p.kids.map nD) [] (fun d hd => by
            obtain ⟨x, hx, rfl⟩ := List.mem_map.mp hd
            refine ⟨_, rfl, rfl, fun _ => bin_ok (x := .lst (L.map nD)) (y := nD x) rfl rfl (idx_ok ?_)⟩
            have e : L[x]? = some (L.getD x 0) := by
              have := hk x hx
              simp [List.getD, List.getElem?_eq_getElem this]
            exact at_n (xs := L.map nD) (by rw [List.getElem?_map, e]; rfl)) (by simp; omega)
        have hf : (p.kids.map nD).filter (fun _ => true) = p.kids.map nD := List.filter_eq_self.mpr fun _ _ => rfl
        rw [z, hf, nd_map (fun c => L.getD c 0), fm_get L p.kids hk]
        simp
      have s2 : setS 6 (ifE (tstE (binE inD (binE idxD (borE 4) (conE (.int 0))) (tupE (consA (conE (.str "some")) (consA (conE (.str "every")) (consA (conE (.str "least")) nilA)))))) (conE (.int 1)) (conE (.int 0))) [some (.v (.lst (ps.map Pt.d))), some (.v (.ktup k_SAYING_KINDS)), some (.v tbl), some (.o (.lst (L.map nD))), some (.v p.d), some (.v (.lst ((p.kids.filterMap (L[·]?)).map nD))), j6, j7] s =
          .nx [some (.v (.lst (ps.map Pt.d))), some (.v (.ktup k_SAYING_KINDS)), some (.v tbl), some (.o (.lst (L.map nD))), some (.v p.d), some (.v (.lst ((p.kids.filterMap (L[·]?)).map nD))), some (.v (nD p.lk)), j7] s := by
        cases p <;> rfl
      have s3 : owS 3 "list" appO (consA (binE addD (callE maxF (consA (lstE (consA (conE (.int 0)) (starA (borE 5) nilA))) nilA)) (borE 6)) nilA) [some (.v (.lst (ps.map Pt.d))), some (.v (.ktup k_SAYING_KINDS)), some (.v tbl), some (.o (.lst (L.map nD))), some (.v p.d), some (.v (.lst ((p.kids.filterMap (L[·]?)).map nD))), some (.v (nD p.lk)), j7] s =
          .nx [some (.v (.lst (ps.map Pt.d))), some (.v (.ktup k_SAYING_KINDS)), some (.v tbl), some (.o (.lst ((L ++ [depF p (p.kids.filterMap (L[·]?))]).map nD))), some (.v p.d), some (.v (.lst ((p.kids.filterMap (L[·]?)).map nD))), some (.v (nD p.lk)), j7] s := by
        generalize hX : p.kids.filterMap (L[·]?) = xs
        have xl : xs.length < 500 := by rw [← hX]; exact Nat.lt_of_le_of_lt (List.length_filterMap_le ..) kl
        have em : maxF [.lst (.int 0 :: xs.map nD)] s = .ok (nD (mxN xs)) s := by
          have e1 : intsOf (.int 0 :: xs.map nD) = some (0 :: xs.map fun n : Nat => (n : Int)) := by
            exact intsOf_n (0 :: xs)
          have e2 : maxI (0 :: xs.map fun n : Nat => (n : Int)) = (mxN (0 :: xs) : Nat) := maxI_n 0 xs
          simp only [maxF, lsOf, e1, e2, mxN_map]
          rfl
        have em' : maxF [.lst (.int 0 :: (xs.map nD ++ []))] s = .ok (nD (mxN xs)) s := by rw [List.append_nil]; exact em
        have ea : addD (nD (mxN xs)) (nD p.lk) s = .ok (nD (depF p xs)) s := rfl
        have lL : L.length < 800 := by rw [← hL, evs_len]; omega
        have hz : decide ((L.map nD).length < sizeLine) = true := small (by rw [List.length_map]; omega)
        have eo : appO (.lst (L.map nD)) [nD (depF p xs)] = some (.lst ((L ++ [depF p xs]).map nD), .non) := by
          unfold appO
          simp only [hz, if_true, List.map_append, List.map_cons, List.map_nil]
        exact ow_ok (d := .lst (L.map nD)) rfl rfl (cons_ok (x := nD (depF p xs)) (bin_ok (x := nD (mxN xs)) (y := nD p.lk) (call_ok (cons_ok (x := .lst (.int 0 :: (xs.map nD ++ []))) (lst_ok (cons_ok (x := .int 0) rfl (star_ok (x := .lst (xs.map nD)) (ys := xs.map nD) (xs := []) rfl rfl rfl)) (szl_lt (by simp; omega))) rfl) em') rfl ea) rfl) eo
      obtain ⟨k4, k5, k6, k7, e'⟩ := ih (done ++ [p]) (some (.v p.d)) (some (.v (.lst ((p.kids.filterMap (L[·]?)).map nD)))) (some (.v (nD p.lk))) j7 (by rw [hd]; simp)
      refine ⟨k4, k5, k6, k7, ?_⟩
      rw [evs_snoc, hL] at e'
      have est : dbdy [some (.v (.lst (ps.map Pt.d))), some (.v (.ktup k_SAYING_KINDS)), some (.v tbl), some (.o (.lst (L.map nD))), some (.v p.d), j5, j6, j7] s = .nx [some (.v (.lst (ps.map Pt.d))), some (.v (.ktup k_SAYING_KINDS)), some (.v tbl), some (.o (.lst ((L ++ [depF p (p.kids.filterMap (L[·]?))]).map nD))), some (.v p.d), some (.v (.lst ((p.kids.filterMap (L[·]?)).map nD))), some (.v (nD p.lk)), j7] s := by
        unfold dbdy
        rw [seq_nx s1, seq_nx s2, s3]
      simp only [List.map_cons, forL, allK, if_true, asg, List.set_cons_succ, List.set_cons_zero, est]
      exact e'
  obtain ⟨k4, k5, k6, k7, e2⟩ := loop ps [] none none none none rfl
  have e2' : b_part_depths_2 [some (.v (.lst (ps.map Pt.d))), some (.v (.ktup k_SAYING_KINDS)), some (.v tbl), some (.o (.lst ([].map nD))), none, none, none, none] s = .nx [some (.v (.lst (ps.map Pt.d))), some (.v (.ktup k_SAYING_KINDS)), some (.v tbl), some (.o (.lst ((evs depF ps).map nD))), k4, k5, k6, k7] s := by
    have ei : iterE (varE 0) [some (.v (.lst (ps.map Pt.d))), some (.v (.ktup k_SAYING_KINDS)), some (.v tbl), some (.o (.lst ([].map nD))), none, none, none, none] s = .ok ⟨ps.map Pt.d, allK⟩ s := rfl
    unfold b_part_depths_2 forS
    rw [ei]
    exact e2
  unfold b_part_depths
  rw [seq_nx e0, seq_nx e1, seq_nx e2']
  unfold b_part_depths_3
  rw [seq_nx (frz_ok (d := .lst ((evs depF ps).map nD)) rfl rfl)]
  rfl
/-! ### names -/
def Pt.prs : Pt → List (D × Tx)
  | .thing => [] | .nothing => [] | .word w => [(.str w, "word")] | .both i j => [(nD i, "part"), (nD j, "part")] | .either i j => [(nD i, "part"), (nD j, "part")] | .neg i => [(nD i, "part")]
  | .some l b i => [(.str l, "link"), (.str (dirT b), "direction"), (nD i, "part")] | .every l b i => [(.str l, "link"), (.str (dirT b), "direction"), (nD i, "part")]
  | .least m l b i => [(.int m, "many"), (.str l, "link"), (.str (dirT b), "direction"), (nD i, "part")] | .top sc i => [(.str sc, "scale"), (nD i, "part")] | .above sc w => [(.str sc, "scale"), (.str w, "word")]
/-- the texts with a code -/
def Pt.strs (c : Tx) (p : Pt) : List Tx := (p.prs.filter fun q => q.2 == c).filterMap fun q => match q.1 with | .str x => Option.some x | _ => Option.none
def txt1 : D → Key | .tup [.str x, _] => .inr x | _ => .inr ""
def cod1 (c : Tx) : D → Bool | .tup [_, .str x] => x == c | _ => false
def CodOk (c : Tx) : Prop := c = "word" ∨ c = "link" ∨ c = "scale" ∨ c = "direction"
theorem strs_keys (p : Pt) {c : Tx} (h : CodOk c) : (((p.prs.map fun q => D.tup [q.1, .str q.2]).filter (cod1 c)).map txt1) = (p.strs c).map Sum.inr := by
  rcases h with rfl | rfl | rfl | rfl <;> cases p <;> rfl
theorem flat_strs {c : Tx} (h : CodOk c) : ∀ ps : List Pt, (ps.flatMap fun p => (((p.prs.map fun q => D.tup [q.1, .str q.2]).filter (cod1 c)).map txt1)) = (ps.flatMap (Pt.strs c)).map Sum.inr
  | [] => rfl
  | p :: ps => by rw [List.flatMap_cons, List.flatMap_cons, strs_keys p h, flat_strs h ps, List.map_append]
def itsD : D → List D
  | .tup (.str k :: xs) => if k = "word" then xs.map fun x => .tup [x, .str "word"] else []
  | _ => []
theorem strs_le (p : Pt) : p.prs.length ≤ 4 := by cases p <;> exact Nat.le_of_ble_eq_true rfl
theorem flat_len {β : Type} (f : Pt → List β) (b : Nat) (h : ∀ p, (f p).length ≤ b) : ∀ ps : List Pt, (ps.flatMap f).length ≤ ps.length * b
  | [] => by simp
  | p :: ps => by
    have := flat_len f b h ps
    have := h p
    rw [List.flatMap_cons, List.length_append, List.length_cons, Nat.add_mul, Nat.one_mul]; omega
theorem strs_len (c : Tx) (p : Pt) : (p.strs c).length ≤ 4 := Nat.le_trans (List.length_filterMap_le ..) (Nat.le_trans (List.length_filter_le ..) (strs_le p))
end K13

namespace K13
open PySem PySem.Spec L2 Fv
/-! ### names of parts, the maker -/
theorem zip_it (p : Pt) {L K c : D} {j5 j6 : Option Sl} (s : S) : zipI (consA (sliceE (borE 4) (someO (conE (.int 1))) noO) (consA (binE idxD (borE 3) (binE idxD (borE 4) (conE (.int 0)))) nilA)) [some (.v L), some (.v K), some (.v c), some (.v tbl), some (.v p.d), j5, j6] s =
    .ok ⟨p.prs.map fun q => .tup [q.1, .str q.2], allK⟩ s := by cases p <;> rfl
theorem strs_fm (p : Pt) {c : Tx} (h : CodOk c) : ((p.prs.filter fun q => q.2 == c).map fun q => (match q.1 with | .str x => .inr x | _ => .inr "" : Key)) = (p.strs c).map Sum.inr := by
  rcases h with rfl | rfl | rfl | rfl <;> cases p <;> rfl
theorem flat_fm {c : Tx} (h : CodOk c) : ∀ ps : List Pt, (ps.flatMap fun p => (p.prs.filter fun q => q.2 == c).map fun q => (match q.1 with | .str x => .inr x | _ => .inr "" : Key)) = (ps.flatMap (Pt.strs c)).map Sum.inr
  | [] => rfl
  | p :: ps => by rw [List.flatMap_cons, List.flatMap_cons, strs_fm p h, flat_fm h ps, List.map_append]
theorem prs_str (p : Pt) {c : Tx} (h : CodOk c) : ∀ q ∈ p.prs, (q.2 == c) = true → q.1 = kD (match q.1 with | .str x => .inr x | _ => .inr "" : Key) := by
  rcases h with rfl | rfl | rfl | rfl <;> cases p <;> intro q hq hc <;> simp only [Pt.prs, List.mem_cons, List.not_mem_nil, or_false] at hq <;> first
    | exact hq.elim
    | (subst hq; first | rfl | (exact absurd (show false = true from hc) (by decide)))
    | (rcases hq with rfl | rfl <;> first | rfl | (exact absurd (show false = true from hc) (by decide)))
    | (rcases hq with rfl | rfl | rfl <;> first | rfl | (exact absurd (show false = true from hc) (by decide)))
    | (rcases hq with rfl | rfl | rfl | rfl <;> first | rfl | (exact absurd (show false = true from hc) (by decide)))
def names (c : Tx) (ps : List Pt) : D := .tup ((canon (ps.flatMap (Pt.strs c))).map D.str)
theorem items_ok {ps : List Pt} {c : Tx} (hc : CodOk c) (hN : ps.length < 200) (s : S) : f_items_with [.lst (ps.map Pt.d), .ktup k_SAYING_KINDS, .str c] s = .ok (names c ps) s := by
  show fin (b_items_with [some (.v (.lst (ps.map Pt.d))), some (.v (.ktup k_SAYING_KINDS)), some (.v (.str c)), none, none, none, none] s) = _
  have e0 : b_items_with_0 [some (.v (.lst (ps.map Pt.d))), some (.v (.ktup k_SAYING_KINDS)), some (.v (.str c)), none, none, none, none] s = .nx [some (.v (.lst (ps.map Pt.d))), some (.v (.ktup k_SAYING_KINDS)), some (.v (.str c)), some (.v tbl), none, none, none] s :=
    set_ok (call_ok (cons_ok (x := .ktup k_SAYING_KINDS) rfl rfl) dict_tbl)
  have z := sk2_map (t := .nm 4) (c := yesT) (it1 := zipI (consA (sliceE (borE 4) (someO (conE (.int 1))) noO) (consA (binE idxD (borE 3) (binE idxD (borE 4) (conE (.int 0)))) nilA))) (vs1 := [5, 6]) (t1 := .tp [5, 6]) (c1 := tstE (binE eqD (borE 6) (borE 2))) (e := varE 5)
    (ρ := wipeD [some (.v (.lst (ps.map Pt.d))), some (.v (.ktup k_SAYING_KINDS)), some (.v (.str c)), some (.v tbl), none, none, none] [4, 5, 6]) (s := s) Pt.d Pt.prs (fun q => D.tup [q.1, .str q.2]) (fun q => q.2 == c) (fun q => (match q.1 with | .str x => .inr x | _ => .inr "" : Key)) 4 ps [] (fun p hp => by
      refine ⟨_, rfl, rfl, zip_it p s, strs_le p, fun q hq => ⟨[some (.v (.lst (ps.map Pt.d))), some (.v (.ktup k_SAYING_KINDS)), some (.v (.str c)), some (.v tbl), some (.v p.d), some (.v q.1), some (.v (.str q.2))], rfl, rfl, fun hs => ?_⟩⟩
      show R.ok q.1 s = _
      rw [← prs_str p hc q hq hs]) (by simp; omega)
  rw [flat_fm hc] at z
  have z2 : (ps.flatMap (Pt.strs c)).length ≤ ps.length * 4 := flat_len _ 4 (strs_len c) ps
  have e1 : b_items_with_1 [some (.v (.lst (ps.map Pt.d))), some (.v (.ktup k_SAYING_KINDS)), some (.v (.str c)), some (.v tbl), none, none, none] s = .rt (names c ps) s := by
    have k1 : sk2E (iterE (borE 0)) [4, 5, 6] (.nm 4) yesT (zipI (consA (sliceE (borE 4) (someO (conE (.int 1))) noO) (consA (binE idxD (borE 3) (binE idxD (borE 4) (conE (.int 0)))) nilA))) [5, 6] (.tp [5, 6]) (tstE (binE eqD (borE 6) (borE 2))) (varE 5)
        [some (.v (.lst (ps.map Pt.d))), some (.v (.ktup k_SAYING_KINDS)), some (.v (.str c)), some (.v tbl), none, none, none] s = .ok (.set ((uS (ps.flatMap (Pt.strs c))).map D.str)) s := by
      have := sk2E_ok (vs := [4, 5, 6]) (iter_ok (a := borE 0) (ρ := [some (.v (.lst (ps.map Pt.d))), some (.v (.ktup k_SAYING_KINDS)), some (.v (.str c)), some (.v tbl), none, none, none]) (xs := ps.map Pt.d) (s := s) rfl) z
      rw [this]
      have fk : ((ps.flatMap (Pt.strs c)).map (Sum.inr : Tx → Key)).foldl addK [] = (uS (ps.flatMap (Pt.strs c))).map Sum.inr := foldK_str _
      rw [fk, kD_str]
    have k2 := sorted_set (xs := uS (ps.flatMap (Pt.strs c))) (s := s) (by have := uS_len (ps.flatMap (Pt.strs c)); omega)
    exact ret_ok (call_ok (cons_ok (call_ok (cons_ok k1 rfl) k2) rfl) rfl)
  unfold b_items_with
  rw [seq_nx e0, e1]; rfl
def kindsD (ps : List Pt) : D := .tup ((canon (ps.map Pt.kind)).map D.str)
def depD (ps : List Pt) : Nat := (evs depF ps).getD (ps.length - 1) 0
def backB (ps : List Pt) : Bool := (canon (ps.flatMap (Pt.strs "direction"))).any fun x => x == "back"
def fnS : List Tx := ["parts", "depth", "words", "links", "scales", "kinds", "is_back"]
def sayV (md : List Pt) : List D := [.tup (md.map Pt.d), nD (depD md), names "word" md, names "link" md, names "scale" md, kindsD md, .bl (backB md)]
def sayD (md : List Pt) : D := .obj "Saying" fnS (sayV md)
theorem flat_strs_all (xs : List Tx) : (xs.map D.str).all flatD = true := by
  induction xs with
  | nil => rfl
  | cons x xs ih => simp [flatD, ih]
theorem in_strs (w : Tx) (xs : List Tx) (s : S) : inD (.str w) (.tup (xs.map D.str)) s = .ok (.bl (xs.any fun x => x == w)) s := by
  have e : inB s (.str w) (.tup (xs.map D.str)) = some (xs.any fun x => x == w) := by
    have f := flat_strs_all xs
    have h : ((xs.map D.str).any fun z => eqFl z (.str w)) = xs.any fun x => x == w := by rw [List.any_map]; rfl
    show (if flatD (.str w) && (xs.map D.str).all flatD then some ((xs.map D.str).any fun z => eqFl z (.str w)) else _) = _
    rw [f, h]; rfl
  unfold inD; rw [e]
theorem inBs_strs (n : Nat) (xs : List Tx) : D.inBs n (xs.map D.str) = true := by
  induction xs with
  | nil => rfl
  | cons x xs ih => simp [D.inBs, D.inB, ih]
theorem inB_d (n : Nat) (p : Pt) : D.inB n p.d = true := by cases p <;> rfl
theorem inBs_d (n : Nat) (ps : List Pt) : D.inBs n (ps.map Pt.d) = true := by
  induction ps with
  | nil => rfl
  | cons p ps ih => simp only [List.map_cons, D.inBs, inB_d, ih]; rfl
theorem inB_say (n : Nat) (md : List Pt) : D.inBs n (sayV md) = true := by
  simp only [sayV, names, kindsD, D.inBs, D.inB, inBs_d, inBs_strs, nD, Bool.and_self]
/-- a field put into the object at the end -/
theorem at_end (s : S) (o : D) : (s ++ [o])[s.length]? = some o := by simp
theorem set_end (s : S) (o o' : D) : (s ++ [o]).set s.length o' = s ++ [o'] := by rw [List.set_append_right _ _ (Nat.le_refl _)]; simp
theorem fst_end {s : S} {f : Tx} {d : D} {ns : List Tx} {vs : List D} (hl : ns.length < 1000) : fstD ["Saying"] f (.ref s.length) d (s ++ [.obj "Saying" ns vs]) = some (s ++ [.obj "Saying" (putN f d ns vs).1 (putN f d ns vs).2]) := by
  simp only [fstD, at_end, List.mem_singleton, true_and, hl, if_true, set_end]
theorem init_ok {ps : List Pt} {s : S} (h : Ok ps) (hs : s.all D.lite1 = true) (h0 : 0 < ps.length) (hN : ps.length < 200) : ∃ md, Made ps (ps.length - 1) md ∧ md.length ≤ ps.length ∧ makeF "Saying" f_Saying_init [.lst (ps.map Pt.d)] s = .ok (sayD md) s := by
  have hs' : (s ++ [D.obj "Saying" [] []]).all D.lite1 = true := by rw [List.all_append, hs]; rfl
  obtain ⟨md, hm, hl, e⟩ := checked_ok (s := s ++ [.obj "Saying" [] []]) h hs' h0 (by omega)
  refine ⟨md, hm, hl, makeF_ok (ns := fnS) (vs := sayV md) ?_ (inB_say _ md)⟩
  have ln : md.length < 200 := by omega
  show fin (b_Saying_init [some (.v (.ref s.length)), some (.v (.lst (ps.map Pt.d))), none, none] (s ++ [.obj "Saying" [] []])) = _
  have e0 : b_Saying_init_0 [some (.v (.ref s.length)), some (.v (.lst (ps.map Pt.d))), none, none] (s ++ [.obj "Saying" [] []]) = .nx [some (.v (.ref s.length)), some (.v (.lst (ps.map Pt.d))), some (.v (.lst (md.map Pt.d))), none] (s ++ [.obj "Saying" [] []]) :=
    set_ok (call_ok (cons_ok (x := .lst (ps.map Pt.d)) rfl (cons_ok (x := .ktup k_SAYING_KINDS) rfl rfl)) e)
  have e1 : b_Saying_init_1 [some (.v (.ref s.length)), some (.v (.lst (ps.map Pt.d))), some (.v (.lst (md.map Pt.d))), none] (s ++ [.obj "Saying" [] []]) = .nx [some (.v (.ref s.length)), some (.v (.lst (ps.map Pt.d))), some (.v (.lst (md.map Pt.d))), none] (s ++ [.obj "Saying" [] []]) := rfl
  have e2 : b_Saying_init_2 [some (.v (.ref s.length)), some (.v (.lst (ps.map Pt.d))), some (.v (.lst (md.map Pt.d))), none] (s ++ [.obj "Saying" [] []]) = .nx [some (.v (.ref s.length)), some (.v (.lst (ps.map Pt.d))), some (.v (.lst (md.map Pt.d))), none] (s ++ [.obj "Saying" (fnS.take 1) ((sayV md).take 1)]) :=
    fst_ok (x := .tup (md.map Pt.d)) (y := .ref s.length) (call_ok (cons_ok (x := .lst (md.map Pt.d)) rfl rfl) rfl) rfl (fst_end (by decide))
  have ed : idxD (.lst ((evs depF md).map nD)) (.int (-1)) (s ++ [.obj "Saying" (fnS.take 1) ((sayV md).take 1)]) = .ok (nD (depD md)) (s ++ [.obj "Saying" (fnS.take 1) ((sayV md).take 1)]) := by
    refine idx_ok ?_
    have ne : evs depF md ≠ [] := fun z => hm.ne (List.length_eq_zero_iff.mp (by rw [← evs_len (f := depF), z]; rfl))
    have hlast : (evs depF md) = (evs depF md).dropLast ++ [depD md] := by
      have h1 := List.dropLast_concat_getLast ne
      have h2 : (evs depF md).getLast ne = depD md := by
        rw [List.getLast_eq_getElem]
        unfold depD
        have hlt : md.length - 1 < (evs depF md).length := by rw [evs_len]; have := List.length_pos_iff.mpr hm.ne; omega
        simp only [List.getD, List.getElem?_eq_getElem hlt, Option.getD_some, evs_len]
      rw [h2] at h1
      exact h1.symm
    show atI ((evs depF md).map nD) (-1) = _
    rw [hlast, List.map_append]
    exact at_last _ _
  have e3 : b_Saying_init_3 [some (.v (.ref s.length)), some (.v (.lst (ps.map Pt.d))), some (.v (.lst (md.map Pt.d))), none] (s ++ [.obj "Saying" (fnS.take 1) ((sayV md).take 1)]) = .nx [some (.v (.ref s.length)), some (.v (.lst (ps.map Pt.d))), some (.v (.lst (md.map Pt.d))), none] (s ++ [.obj "Saying" (fnS.take 2) ((sayV md).take 2)]) :=
    fst_ok (x := nD (depD md)) (y := .ref s.length) (bin_ok (x := .lst ((evs depF md).map nD)) (y := .int (-1)) (call_ok (cons_ok (x := .lst (md.map Pt.d)) rfl (cons_ok (x := .ktup k_SAYING_KINDS) rfl rfl)) (depths_ok hm.wf (by omega))) rfl ed) rfl (fst_end (by decide))
  have it : ∀ (c : Tx) (S' : S), CodOk c → callE f_items_with (consA (varE 2) (consA (conE (.ktup k_SAYING_KINDS)) (consA (conE (.str c)) nilA))) [some (.v (.ref s.length)), some (.v (.lst (ps.map Pt.d))), some (.v (.lst (md.map Pt.d))), none] S' = .ok (names c md) S' := fun c S' hc =>
    call_ok (cons_ok (x := .lst (md.map Pt.d)) rfl (cons_ok (x := .ktup k_SAYING_KINDS) rfl (cons_ok (x := .str c) rfl rfl))) (items_ok hc ln S')
  have e4 : b_Saying_init_4 [some (.v (.ref s.length)), some (.v (.lst (ps.map Pt.d))), some (.v (.lst (md.map Pt.d))), none] (s ++ [.obj "Saying" (fnS.take 2) ((sayV md).take 2)]) = .nx [some (.v (.ref s.length)), some (.v (.lst (ps.map Pt.d))), some (.v (.lst (md.map Pt.d))), none] (s ++ [.obj "Saying" (fnS.take 3) ((sayV md).take 3)]) :=
    fst_ok (x := names "word" md) (y := .ref s.length) (it _ _ (.inl rfl)) rfl (fst_end (by decide))
  have e5 : b_Saying_init_5 [some (.v (.ref s.length)), some (.v (.lst (ps.map Pt.d))), some (.v (.lst (md.map Pt.d))), none] (s ++ [.obj "Saying" (fnS.take 3) ((sayV md).take 3)]) = .nx [some (.v (.ref s.length)), some (.v (.lst (ps.map Pt.d))), some (.v (.lst (md.map Pt.d))), none] (s ++ [.obj "Saying" (fnS.take 4) ((sayV md).take 4)]) :=
    fst_ok (x := names "link" md) (y := .ref s.length) (it _ _ (.inr (.inl rfl))) rfl (fst_end (by decide))
  have e6 : b_Saying_init_6 [some (.v (.ref s.length)), some (.v (.lst (ps.map Pt.d))), some (.v (.lst (md.map Pt.d))), none] (s ++ [.obj "Saying" (fnS.take 4) ((sayV md).take 4)]) = .nx [some (.v (.ref s.length)), some (.v (.lst (ps.map Pt.d))), some (.v (.lst (md.map Pt.d))), none] (s ++ [.obj "Saying" (fnS.take 5) ((sayV md).take 5)]) :=
    fst_ok (x := names "scale" md) (y := .ref s.length) (it _ _ (.inr (.inr (.inl rfl)))) rfl (fst_end (by decide))
  have kd : ∀ S' : S, callE tupleF (consA (callE sortedF (consA (skE (iterE (borE 2)) [3] (.nm 3) yesT (binE idxD (borE 3) (conE (.int 0)))) nilA)) nilA) [some (.v (.ref s.length)), some (.v (.lst (ps.map Pt.d))), some (.v (.lst (md.map Pt.d))), none] S' = .ok (kindsD md) S' := by
    intro S'
    have z := sk_map (t := .nm 3) (c := yesT) (e := binE idxD (borE 3) (conE (.int 0))) (ρ := wipeD [some (.v (.ref s.length)), some (.v (.lst (ps.map Pt.d))), some (.v (.lst (md.map Pt.d))), none] [3]) (s := S') Pt.d (fun _ => true) (fun p => Sum.inr p.kind) md [] (fun p hp =>
      ⟨[some (.v (.ref s.length)), some (.v (.lst (ps.map Pt.d))), some (.v (.lst (md.map Pt.d))), some (.v p.d)], rfl, rfl, fun _ => bin_ok (x := p.d) (y := .int 0) (by cases p <;> rfl) rfl (idx_ok (kind_d p))⟩) (by simp; omega)
    have hf : md.filter (fun _ => true) = md := List.filter_eq_self.mpr fun _ _ => rfl
    rw [hf] at z
    have k1 := skE_ok (vs := [3]) (iter_ok (a := borE 2) (ρ := [some (.v (.ref s.length)), some (.v (.lst (ps.map Pt.d))), some (.v (.lst (md.map Pt.d))), none]) (xs := md.map Pt.d) (s := S') rfl) z
    have fk : ((md.map fun p => (Sum.inr p.kind : Key))).foldl addK [] = (uS (md.map Pt.kind)).map Sum.inr := by
      have := foldK_str (md.map Pt.kind)
      rw [List.map_map] at this
      exact this
    rw [fk, kD_str] at k1
    have k2 := sorted_set (xs := uS (md.map Pt.kind)) (s := S') (by have := uS_len (md.map Pt.kind); rw [List.length_map] at this; omega)
    exact call_ok (cons_ok (call_ok (cons_ok k1 rfl) k2) rfl) rfl
  have e7 : b_Saying_init_7 [some (.v (.ref s.length)), some (.v (.lst (ps.map Pt.d))), some (.v (.lst (md.map Pt.d))), none] (s ++ [.obj "Saying" (fnS.take 5) ((sayV md).take 5)]) = .nx [some (.v (.ref s.length)), some (.v (.lst (ps.map Pt.d))), some (.v (.lst (md.map Pt.d))), none] (s ++ [.obj "Saying" (fnS.take 6) ((sayV md).take 6)]) :=
    fst_ok (x := kindsD md) (y := .ref s.length) (kd _) rfl (fst_end (by decide))
  have e8 : b_Saying_init_8 [some (.v (.ref s.length)), some (.v (.lst (ps.map Pt.d))), some (.v (.lst (md.map Pt.d))), none] (s ++ [.obj "Saying" (fnS.take 6) ((sayV md).take 6)]) = .nx [some (.v (.ref s.length)), some (.v (.lst (ps.map Pt.d))), some (.v (.lst (md.map Pt.d))), none] (s ++ [.obj "Saying" fnS (sayV md)]) :=
    fst_ok (x := .bl (backB md)) (y := .ref s.length) (bin_ok (x := .str "back") (y := names "direction" md) rfl (it _ _ (.inr (.inr (.inr rfl)))) (in_strs _ _ _)) rfl (fst_end (by decide))
  unfold b_Saying_init
  rw [seq_nx e0, seq_nx e1, seq_nx e2, seq_nx e3, seq_nx e4, seq_nx e5, seq_nx e6, seq_nx e7, e8]
  rfl
end K13

namespace K13
open PySem PySem.Spec L2 Fv
/-! ### parts behind others -/
def shft (by_ : Nat) (ps : List Pt) : List Pt := ps.map (Pt.map (· + by_))
theorem map_id_kind (p : Pt) (g : Nat → Nat) : (p.map g).kind = p.kind ∧ (p.map g).cds = p.cds := by cases p <;> exact ⟨rfl, rfl⟩
theorem evs_shft {α : Type} {f : Pt → List α → α} (hf : InvF f) {as : List Pt} : ∀ (bs : List Pt), WF bs → evs f (as ++ shft as.length bs) = evs f as ++ evs f bs := by
  intro bs
  have key : ∀ (n : Nat) (bs : List Pt), bs.length = n → WF bs → evs f (as ++ shft as.length bs) = evs f as ++ evs f bs := by
    intro n
    induction n with
    | zero => intro bs hl _; obtain rfl := List.length_eq_zero_iff.mp hl; simp [shft, evs]
    | succ n ih =>
      intro bs hl hw
      have hne : bs ≠ [] := fun z => by rw [z] at hl; cases hl
      have e := List.dropLast_concat_getLast hne
      generalize hp : bs.getLast hne = p at e
      generalize hq : bs.dropLast = qs at e
      have hlq : qs.length = n := by rw [← hq, List.length_dropLast]; omega
      have hwq : WF qs := fun i p' hi => hw i p' (by rw [← e, List.getElem?_append_left (List.getElem?_eq_some_iff.mp hi).1]; exact hi)
      have hk : ∀ c ∈ p.kids, c < qs.length := fun c hc => hw qs.length p (by rw [← e]; simp) c hc
      have h1 : shft as.length (qs ++ [p]) = shft as.length qs ++ [p.map (· + as.length)] := by simp [shft]
      rw [← e, h1, ← List.append_assoc, evs_snoc, ih qs hlq hwq, evs_snoc, List.append_assoc]
      congr 2
      rw [kids_map, List.filterMap_map, hf]
      have e2 : p.kids.filterMap ((fun x => (evs f as ++ evs f qs)[x]?) ∘ fun x => x + as.length) = p.kids.filterMap ((evs f qs)[·]?) := filterMap_eq fun c hc => by
        show (evs f as ++ evs f qs)[c + as.length]? = _
        rw [List.getElem?_append_right (by rw [evs_len]; omega), evs_len]
        congr 1; omega
      rw [e2]
  exact key bs.length bs rfl
theorem OkPt.shft {n k : Nat} {p : Pt} (h : OkPt n p) : OkPt (k + n) (p.map (· + k)) := by
  cases p <;> simp only [OkPt, Pt.map] at h ⊢ <;> first
    | trivial
    | exact h
    | omega
    | exact ⟨h.1, by omega⟩
    | exact ⟨h.1, h.2.1, h.2.2.1, by omega⟩
    | exact ⟨by omega, by omega⟩
/-- a saying's parts -/
structure Good (md : List Pt) : Prop where
  ok : Ok md
  ne : md ≠ []
  rch : ∀ m, m + 1 < md.length → ∃ j p, m < j ∧ md[j]? = some p ∧ m ∈ p.kids
theorem Good.pos {md : List Pt} (h : Good md) : 0 < md.length := List.length_pos_iff.mpr h.ne
theorem OkPt.of_map {n j : Nat} {p : Pt} {g : Nat → Nat} (h : OkPt n p) (hk : ∀ c ∈ (p.map g).kids, c < j) : OkPt j (p.map g) := by
  cases p <;> simp only [OkPt, Pt.map, Pt.kids, List.mem_cons, List.not_mem_nil, or_false] at h hk ⊢ <;> first
    | trivial
    | exact h
    | exact ⟨hk _ (.inl rfl), hk _ (.inr rfl)⟩
    | exact hk _ rfl
    | exact ⟨h.1, hk _ rfl⟩
    | exact ⟨h.1, h.2.1, h.2.2.1, hk _ rfl⟩
theorem Made.good {ps md : List Pt} {r : Nat} (h : Ok ps) (hm : Made ps r md) : Good md :=
  ⟨fun i q hq => by
    obtain ⟨p, hp, g, rfl⟩ := hm.frm q (List.mem_of_getElem? hq)
    obtain ⟨j, hj⟩ := List.getElem?_of_mem hp
    exact (h j p hj).of_map (hm.wf i _ hq), hm.ne, hm.rch⟩
theorem Ok.app {as bs : List Pt} (ha : Ok as) (hb : Ok bs) : Ok (as ++ shft as.length bs) := fun i p hi => by
  by_cases hl : i < as.length
  · rw [List.getElem?_append_left hl] at hi; exact ha i p hi
  · rw [List.getElem?_append_right (by omega)] at hi
    simp only [shft, List.getElem?_map, Option.map_eq_some_iff] at hi
    obtain ⟨q, hq, rfl⟩ := hi
    have := (hb _ q hq).shft (k := as.length)
    rwa [show as.length + (i - as.length) = i by omega] at this
theorem Ok.snoc {as : List Pt} {p : Pt} (ha : Ok as) (hp : OkPt as.length p) : Ok (as ++ [p]) := fun i q hi => by
  by_cases hl : i < as.length
  · rw [List.getElem?_append_left hl] at hi; exact ha i q hi
  · have hi2 : i = as.length := by
      have := (List.getElem?_eq_some_iff.mp hi).1
      simp at this; omega
    subst hi2
    simp at hi; subst hi; exact hp
theorem shft_len (k : Nat) (bs : List Pt) : (shft k bs).length = bs.length := by simp [shft]
/-- the value of the last one -/
def lastV {α : Type} (f : Pt → List α → α) (md : List Pt) : Option α := (evs f md)[md.length - 1]?
theorem lastV_some {α : Type} {f : Pt → List α → α} {md : List Pt} (h : md ≠ []) : ∃ v, lastV f md = some v := by
  have : md.length - 1 < (evs f md).length := by rw [evs_len]; have := List.length_pos_iff.mpr h; omega
  exact ⟨_, List.getElem?_eq_getElem this⟩
/-- two rows and one part over their last ones -/
def two (k : Nat → Nat → Pt) (as bs : List Pt) : List Pt := as ++ shft as.length bs ++ [k (as.length - 1) (as.length + bs.length - 1)]
theorem lastV_two {α : Type} {f : Pt → List α → α} (hf : InvF f) {k : Nat → Nat → Pt} (hk : ∀ i j, (k i j).kids = [i, j]) {as bs : List Pt} (ha : as ≠ []) (hb : bs ≠ []) (hw : WF bs) {x y : α} (hx : lastV f as = some x) (hy : lastV f bs = some y) :
    lastV f (two k as bs) = some (f (k (as.length - 1) (as.length + bs.length - 1)) [x, y]) := by
  have la := List.length_pos_iff.mpr ha
  have lb := List.length_pos_iff.mpr hb
  have e : evs f (as ++ shft as.length bs) = evs f as ++ evs f bs := evs_shft hf bs hw
  unfold lastV two
  rw [evs_snoc, e, List.getElem?_append_right (by simp [evs_len, shft_len])]
  have h1 : (as ++ shft as.length bs ++ [k (as.length - 1) (as.length + bs.length - 1)]).length - 1 - (evs f as ++ evs f bs).length = 0 := by simp [evs_len, shft_len]
  rw [h1, List.getElem?_cons_zero, hk]
  have g1 : (evs f as ++ evs f bs)[as.length - 1]? = some x := by rw [List.getElem?_append_left (by rw [evs_len]; omega)]; exact hx
  have g2 : (evs f as ++ evs f bs)[as.length + bs.length - 1]? = some y := by
    rw [List.getElem?_append_right (by rw [evs_len]; omega), evs_len]
    rw [show as.length + bs.length - 1 - as.length = bs.length - 1 by omega]; exact hy
  simp [List.filterMap_cons, g1, g2]
theorem lastV_one {α : Type} {f : Pt → List α → α} {as : List Pt} {p : Pt} (ha : as ≠ []) (hk : p.kids = [as.length - 1]) {x : α} (hx : lastV f as = some x) : lastV f (as ++ [p]) = some (f p [x]) := by
  have la := List.length_pos_iff.mpr ha
  unfold lastV
  rw [evs_snoc, List.getElem?_append_right (by simp [evs_len])]
  have h1 : (as ++ [p]).length - 1 - (evs f as).length = 0 := by simp [evs_len]
  rw [h1, List.getElem?_cons_zero, hk]
  have g : (evs f as)[as.length - 1]? = some x := hx
  simp [List.filterMap_cons, g]
/-! ### is one read back -/
def Pt.bk : Pt → Bool | .some _ b _ => b | .every _ b _ => b | .least _ _ b _ => b | _ => false
def bkF (p : Pt) (xs : List Bool) : Bool := p.bk || xs.any id
theorem bkF_inv : InvF bkF := fun p g xs => by cases p <;> rfl
theorem back_any (md : List Pt) : backB md = md.any Pt.bk := by
  have hb : ("back" == ("back" : Tx)) = true := by decide
  have ho : (("on" : Tx) == ("back" : Tx)) = false := by decide
  have one : ∀ p : Pt, ((p.strs "direction").any fun x => x == ("back" : Tx)) = p.bk := by
    intro p
    cases p <;> first
      | rfl
      | (rename_i b _; cases b <;> rfl)
  have h1 : backB md = (md.flatMap (Pt.strs "direction")).any fun x => x == ("back" : Tx) := by
    unfold backB
    rw [Bool.eq_iff_iff, List.any_eq_true, List.any_eq_true]
    exact ⟨fun ⟨x, h, e⟩ => ⟨x, mem_canon.mp h, e⟩, fun ⟨x, h, e⟩ => ⟨x, mem_canon.mpr h, e⟩⟩
  rw [h1]
  clear h1
  induction md with
  | nil => rfl
  | cons p md ih => rw [List.flatMap_cons, List.any_append, one, ih, List.any_cons]
/-- all of a saying's parts are asked by its last one -/
theorem back_last {md : List Pt} (h : Good md) : lastV bkF md = some (backB md) := by
  have hw := h.ok.wf
  have hp := h.pos
  have val : ∀ i, i < md.length → ∃ v, (evs bkF md)[i]? = some v := fun i hi => ⟨_, List.getElem?_eq_getElem (by rw [evs_len]; exact hi)⟩
  -- upward
  have up : ∀ (n i : Nat), md.length - 1 - i = n → i < md.length → (evs bkF md)[i]? = some true → (evs bkF md)[md.length - 1]? = some true := by
    intro n
    induction n using Nat.strongRecOn with
    | ind n ih =>
      intro i hn hi hv
      by_cases hl : i + 1 < md.length
      · obtain ⟨j, p, h1, h2, h3⟩ := h.rch i hl
        have hj : j < md.length := (List.getElem?_eq_some_iff.mp h2).1
        refine ih (md.length - 1 - j) (by omega) j rfl hj ?_
        rw [evs_get hw h2]
        congr 1
        unfold bkF
        rw [Bool.or_eq_true]
        right
        rw [List.any_eq_true]
        exact ⟨true, List.mem_filterMap.mpr ⟨i, h3, hv⟩, rfl⟩
      · have : i = md.length - 1 := by omega
        rw [← this]; exact hv
  -- downward
  have dn : ∀ (i : Nat), (evs bkF md)[i]? = some true → md.any Pt.bk = true := by
    intro i
    induction i using Nat.strongRecOn with
    | ind i ih =>
      intro hv
      have hi : i < md.length := by have := (List.getElem?_eq_some_iff.mp hv).1; rwa [evs_len] at this
      have hp : md[i]? = some md[i] := List.getElem?_eq_getElem hi
      rw [evs_get hw hp] at hv
      have hv : bkF md[i] _ = true := Option.some.inj hv
      unfold bkF at hv
      rw [Bool.or_eq_true] at hv
      rcases hv with hv | hv
      · rw [List.any_eq_true]; exact ⟨md[i], List.getElem_mem hi, hv⟩
      · rw [List.any_eq_true] at hv
        obtain ⟨x, hx, e⟩ := hv
        obtain ⟨c, hc, ec⟩ := List.mem_filterMap.mp hx
        have : x = true := e
        subst this
        exact ih c (hw i _ hp c hc) ec
  obtain ⟨v, hv⟩ := lastV_some (f := bkF) h.ne
  rw [hv, back_any]
  congr 1
  cases v with
  | true => exact (dn _ hv).symm
  | false =>
    symm
    rw [Bool.eq_false_iff]
    intro hany
    rw [List.any_eq_true] at hany
    obtain ⟨p, hp, e⟩ := hany
    obtain ⟨i, hi⟩ := List.getElem?_of_mem hp
    have hlt : i < md.length := (List.getElem?_eq_some_iff.mp hi).1
    have ht : (evs bkF md)[i]? = some true := by
      rw [evs_get hw hi]
      congr 1
      unfold bkF
      rw [e]; rfl
    have := up _ i rfl hlt ht
    unfold lastV at hv
    rw [this] at hv
    cases hv
theorem dep_last {md : List Pt} (h : md ≠ []) : lastV depF md = some (depD md) := by
  obtain ⟨v, hv⟩ := lastV_some (f := depF) h
  rw [hv]
  unfold depD
  unfold lastV at hv
  simp [List.getD, hv]
end K13

namespace K13
open PySem PySem.Spec L2 Fv
/-! ### sayings put together -/
theorem ints_n (n : Nat) : intsL 0 n = (List.range n).map nD := by simp [intsL, nD]
theorem look_map (g : Nat → Nat) (i : Nat) : ∀ l : List Nat, i ∈ l → (l.map fun x => (x, g x)).lookup i = some (g i)
  | [], h => by simp at h
  | x :: l, h => by
    by_cases hx : i = x
    · subst hx; simp
    · have : (i == x) = false := by simpa using hx
      simp only [List.map_cons, List.lookup, this]
      exact look_map g i l (by simpa [hx] using h)
theorem dc_mv {V0 V2 V3 : D} {j4 j6 : Option Sl} {k : Nat} {s : S} : ∀ (l : List Nat) (mv : List (Nat × Nat)), (∀ x ∈ l, mv.lookup x = none) → l.Nodup → mv.length + l.length < 900 →
    dcL allK (.nm 5) yesT (varE 5) (binE addD (borE 5) (borE 1)) [some (.v V0), some (.v (nD k)), some (.v V2), some (.v V3), j4, none, j6] (l.map nD) (mv.map fun p => nD p.1) (mv.map fun p => nD p.2) s =
      .ok ((mv ++ l.map fun x => (x, x + k)).map (fun p => nD p.1), (mv ++ l.map fun x => (x, x + k)).map fun p => nD p.2) s
  | [], mv, _, _, _ => by simp [dcL, allK]
  | x :: l, mv, h, hn, hl => by
    have hp : putO (mvD mv) (nD x) (nD (x + k)) = some (mvD (mv ++ [(x, x + k)])) := put_mv (h x (by simp)) (by simp at hl; omega)
    have ev : binE addD (borE 5) (borE 1) [some (.v V0), some (.v (nD k)), some (.v V2), some (.v V3), j4, some (.v (nD x)), j6] s = .ok (nD (x + k)) s := rfl
    have ek : varE 5 [some (.v V0), some (.v (nD k)), some (.v V2), some (.v V3), j4, some (.v (nD x)), j6] s = .ok (nD x) s := rfl
    have ih := dc_mv (V0 := V0) (V2 := V2) (V3 := V3) (j4 := j4) (j6 := j6) (k := k) (s := s) l (mv ++ [(x, x + k)]) (fun y hy => by
      rw [lookup_snoc, h y (List.mem_cons_of_mem _ hy)]
      have : y ≠ x := fun z => (List.nodup_cons.mp hn).1 (z ▸ hy)
      simp [this]) (List.nodup_cons.mp hn).2 (by simp at hl ⊢; omega)
    have hq : (putO (.dct (mv.map fun p => nD p.1) (mv.map fun p => nD p.2)) (nD x) (nD (x + k))).bind dctP = some ((mv ++ [(x, x + k)]).map (fun p => nD p.1), (mv ++ [(x, x + k)]).map fun p => nD p.2) := by
      have : putO (.dct (mv.map fun p => nD p.1) (mv.map fun p => nD p.2)) (nD x) (nD (x + k)) = some (mvD (mv ++ [(x, x + k)])) := hp
      rw [this]; rfl
    simp only [List.map_cons, dcL, allK, if_true, asg, List.set_cons_succ, List.set_cons_zero, yesT, R.noerr, R.bind, ek, ev, hq]
    rw [ih]
    simp
theorem small_n {n : Nat} (h : n < 1000) : small62 (n : Int) = true := by
  unfold small62
  exact decide_eq_true ⟨Int.le_trans (by decide) (Int.natCast_nonneg n), Int.lt_trans (Int.ofNat_lt.mpr h) (by decide)⟩
theorem r1 {a : E} {ρ : En} {s s1 : S} {j : Int} (h : a ρ s = .ok (.int j) s1) (sm : small62 j = true) : range1 a ρ s = .ok ⟨intsL 0 j.toNat, allK⟩ s1 := by simp only [range1, h, R.bind, sm, if_true]
theorem r1n {a : E} {ρ : En} {s s1 : S} {n : Nat} (h : a ρ s = .ok (.int (n : Int)) s1) (sm : small62 (n : Int) = true) : range1 a ρ s = .ok ⟨intsL 0 n, allK⟩ s1 := r1 h sm
theorem sh_el {bs : List Pt} {V1 V2 V3 : D} {a b c : Option Sl} {s : S} : callE lenF (consA (borE 0) nilA) [some (.v (.tup (bs.map Pt.d))), some (.v V1), some (.v V2), some (.v V3), a, b, c] s = .ok (.int (bs.length : Nat)) s := by
  have : lenF [.tup (bs.map Pt.d)] s = .ok (.int ((bs.map Pt.d).length : Nat)) s := rfl
  rw [List.length_map] at this
  exact call_ok (cons_ok (x := .tup (bs.map Pt.d)) rfl rfl) this
theorem sh_rng {bs : List Pt} {V1 V2 V3 : D} {a b c : Option Sl} {s : S} (hN : bs.length < 400) : range1 (callE lenF (consA (borE 0) nilA)) [some (.v (.tup (bs.map Pt.d))), some (.v V1), some (.v V2), some (.v V3), a, b, c] s = .ok ⟨(List.range bs.length).map nD, allK⟩ s := by
  have z := r1n (sh_el (V1 := V1) (V2 := V2) (V3 := V3) (a := a) (b := b) (c := c) (s := s)) (small_n (n := bs.length) (by omega))
  rw [ints_n] at z
  exact z
def shMv (n k : Nat) : List (Nat × Nat) := (List.range n).map fun x => (x, x + k)
theorem dcE_ok {it : Is} {vs : List Nat} {t : Tg} {c : T} {ke ve : E} {ds ks us : List D} {ρ : En} {s s1 s2 : S} (hi : it ρ s = .ok ⟨ds, allK⟩ s1) (h : dcL allK t c ke ve (wipeD ρ vs) ds [] [] s1 = .ok (ks, us) s2) : dcE it vs t c ke ve ρ s = .ok (.dct ks us) s2 := by simp only [dcE, hi, R.bind, h]
theorem sh_1 {bs : List Pt} {k : Nat} {V2 V3 : D} {s : S} (hN : bs.length < 400) : b_shifted_parts_1 [some (.v (.tup (bs.map Pt.d))), some (.v (nD k)), some (.v V2), some (.v V3), none, none, none] s = .nx [some (.v (.tup (bs.map Pt.d))), some (.v (nD k)), some (.v V2), some (.v V3), some (.v (mvD (shMv bs.length k))), none, none] s := by
  have ed := dc_mv (V0 := .tup (bs.map Pt.d)) (V2 := V2) (V3 := V3) (j4 := none) (j6 := none) (k := k) (s := s) (List.range bs.length) [] (fun _ _ => rfl) List.nodup_range (by rw [List.length_range]; simp; omega)
  exact set_ok (dcE_ok (vs := [5]) (sh_rng hN) ed)
theorem sh_2 {bs : List Pt} {k : Nat} {V2 : D} {s : S} (hw : WF bs) (hN : bs.length < 400) : b_shifted_parts_2 [some (.v (.tup (bs.map Pt.d))), some (.v (nD k)), some (.v V2), some (.v tbl), some (.v (mvD (shMv bs.length k))), none, none] s = .rt (.lst ((shft k bs).map Pt.d)) s := by
  have z := lc_map (t := .nm 6) (c := yesT) (e := callE f_with_numbers (consA (varE 6) (consA (binE idxD (borE 3) (binE idxD (borE 6) (conE (.int 0)))) (consA (varE 4) nilA)))) (ρ := [some (.v (.tup (bs.map Pt.d))), some (.v (nD k)), some (.v V2), some (.v tbl), some (.v (mvD (shMv bs.length k))), none, none]) (s := s)
    Pt.d (fun _ => true) (fun p => (p.map (· + k)).d) bs [] (fun p hp => by
      obtain ⟨j, hj⟩ := List.getElem?_of_mem hp
      have hjl : j < bs.length := (List.getElem?_eq_some_iff.mp hj).1
      refine ⟨[some (.v (.tup (bs.map Pt.d))), some (.v (nD k)), some (.v V2), some (.v tbl), some (.v (mvD (shMv bs.length k))), none, some (.v p.d)], rfl, rfl, fun _ => ?_⟩
      have wk := with_ok (s := s) (M := mvD (shMv bs.length k)) p (· + k) fun i hi => idx_mv (look_map (· + k) i _ (List.mem_range.mpr (Nat.lt_trans (hw j p hj i hi) hjl)))
      generalize mvD (shMv bs.length k) = Mv at wk ⊢
      exact call_ok (cons_ok (x := p.d) rfl (cons_ok (x := .ktup p.cds) (bin_ok (x := tbl) (y := .str p.kind) rfl (bin_ok (x := p.d) (y := .int 0) (by cases p <;> rfl) rfl (idx_ok (kind_d p))) (idx_ok (tbl_at p))) (cons_ok (x := Mv) rfl rfl))) wk) (by simp; omega)
  have hf : bs.filter (fun _ => true) = bs := List.filter_eq_self.mpr fun _ _ => rfl
  rw [hf, List.nil_append] at z
  have h2 : (bs.map fun p => (p.map (· + k)).d) = (shft k bs).map Pt.d := by simp [shft]
  rw [h2] at z
  generalize mvD (shMv bs.length k) = Mv at z ⊢
  exact ret_ok (lcE_ok (vs := [6]) (iter_tup (xs := bs.map Pt.d) rfl) z)
theorem shifted_ok {bs : List Pt} {k : Nat} {s : S} (hw : WF bs) (hN : bs.length < 400) : f_shifted_parts [.tup (bs.map Pt.d), nD k, .ktup k_SAYING_KINDS] s = .ok (.lst ((shft k bs).map Pt.d)) s := by
  show fin (b_shifted_parts [some (.v (.tup (bs.map Pt.d))), some (.v (nD k)), some (.v (.ktup k_SAYING_KINDS)), none, none, none, none] s) = _
  have e0 : b_shifted_parts_0 [some (.v (.tup (bs.map Pt.d))), some (.v (nD k)), some (.v (.ktup k_SAYING_KINDS)), none, none, none, none] s = .nx [some (.v (.tup (bs.map Pt.d))), some (.v (nD k)), some (.v (.ktup k_SAYING_KINDS)), some (.v tbl), none, none, none] s :=
    set_ok (call_ok (cons_ok (x := .ktup k_SAYING_KINDS) rfl rfl) dict_tbl)
  unfold b_shifted_parts
  rw [seq_nx e0, seq_nx (sh_1 hN), sh_2 hw hN]; rfl
noncomputable def fbdy : C := (seqS (setS 5 (binE subD (callE lenF (consA (borE 3) nilA)) (conE (.int 1))))
  (seqS (owS 3 "list" extO (consA (callE f_shifted_parts (consA (varE 4) (consA (callE lenF (consA (borE 3) nilA)) (consA (varE 2) nilA)))) nilA))
  (owS 3 "list" appO (consA (tupE (consA (varE 1) (consA (varE 5) (consA (binE subD (callE lenF (consA (borE 3) nilA)) (conE (.int 1))) nilA)))) nilA))))
abbrev fen (Rw : D) (kd : Tx) (cs : List Pt) (b c : Option Sl) : En := [some (.v Rw), some (.v (.str kd)), some (.v (.ktup k_SAYING_KINDS)), some (.o (.lst (cs.map Pt.d))), b, c]
theorem fo_ln {Rw : D} {kd : Tx} {cs : List Pt} {b c : Option Sl} {s : S} : callE lenF (consA (borE 3) nilA) (fen Rw kd cs b c) s = .ok (nD cs.length) s := by
  have : lenF [.lst (cs.map Pt.d)] s = .ok (.int ((cs.map Pt.d).length : Nat)) s := rfl
  rw [List.length_map] at this
  exact call_ok (cons_ok (x := .lst (cs.map Pt.d)) rfl rfl) this
theorem fo_sb {n : Nat} {s : S} (hn : 0 < n) : subD (nD n) (.int 1) s = .ok (nD (n - 1)) s := by
  have : ((n : Int) - 1) = ((n - 1 : Nat) : Int) := by omega
  show R.ok (D.int ((n : Int) - 1)) s = _
  rw [this]
  rfl
theorem fo_xo {xs ys : List D} (h : xs.length + ys.length < 1000) : extO (.lst xs) [.lst ys] = some (.lst (xs ++ ys), .non) := by
  have hz : szl (xs.length + ys.length) = true := szl_lt h
  unfold extO
  simp only [hz, if_true]
theorem fo_ao {xs : List D} {y : D} (h : xs.length < 1000) : appO (.lst xs) [y] = some (.lst (xs ++ [y]), .non) := by
  have hz := small h
  unfold appO
  simp only [hz, if_true]
theorem fo_body {Rw : D} {as bs : List Pt} {k : Nat → Nat → Pt} {kd : Tx} {s : S} (hk : ∀ i j, (k i j).d = .tup [.str kd, nD i, nD j]) (la : 0 < as.length) (lb : 0 < bs.length) (hw : WF bs) (hN : as.length + bs.length < 400) :
    fbdy (fen Rw kd as (some (.v (.tup (bs.map Pt.d)))) none) s = .nx (fen Rw kd (two k as bs) (some (.v (.tup (bs.map Pt.d)))) (some (.v (nD (as.length - 1))))) s := by
  have s1 : setS 5 (binE subD (callE lenF (consA (borE 3) nilA)) (conE (.int 1))) (fen Rw kd as (some (.v (.tup (bs.map Pt.d)))) none) s = .nx (fen Rw kd as (some (.v (.tup (bs.map Pt.d)))) (some (.v (nD (as.length - 1))))) s :=
    set_ok (bin_ok (x := nD as.length) (y := .int 1) fo_ln rfl (fo_sb la))
  have xo := fo_xo (xs := as.map Pt.d) (ys := (shft as.length bs).map Pt.d) (by rw [List.length_map, List.length_map, shft_len]; omega)
  rw [← List.map_append] at xo
  have s2 : owS 3 "list" extO (consA (callE f_shifted_parts (consA (varE 4) (consA (callE lenF (consA (borE 3) nilA)) (consA (varE 2) nilA)))) nilA) (fen Rw kd as (some (.v (.tup (bs.map Pt.d)))) (some (.v (nD (as.length - 1))))) s =
      .nx (fen Rw kd (as ++ shft as.length bs) (some (.v (.tup (bs.map Pt.d)))) (some (.v (nD (as.length - 1))))) s :=
    ow_ok (d := .lst (as.map Pt.d)) rfl rfl (cons_ok (x := .lst ((shft as.length bs).map Pt.d)) (call_ok (cons_ok (x := .tup (bs.map Pt.d)) rfl (cons_ok (x := nD as.length) fo_ln (cons_ok (x := .ktup k_SAYING_KINDS) rfl rfl))) (shifted_ok hw (by omega))) rfl) xo
  have ao := fo_ao (xs := (as ++ shft as.length bs).map Pt.d) (y := .tup [.str kd, nD (as.length - 1), nD (as.length + bs.length - 1)]) (by rw [List.length_map, List.length_append, shft_len]; omega)
  have et : (as ++ shft as.length bs).map Pt.d ++ [.tup [.str kd, nD (as.length - 1), nD (as.length + bs.length - 1)]] = (two k as bs).map Pt.d := by simp [two, hk]
  rw [et] at ao
  have l2 : callE lenF (consA (borE 3) nilA) (fen Rw kd (as ++ shft as.length bs) (some (.v (.tup (bs.map Pt.d)))) (some (.v (nD (as.length - 1))))) s = .ok (nD (as.length + bs.length)) s := by
    have := fo_ln (Rw := Rw) (kd := kd) (cs := as ++ shft as.length bs) (b := some (.v (.tup (bs.map Pt.d)))) (c := some (.v (nD (as.length - 1)))) (s := s)
    rw [List.length_append, shft_len] at this
    exact this
  have s3 : owS 3 "list" appO (consA (tupE (consA (varE 1) (consA (varE 5) (consA (binE subD (callE lenF (consA (borE 3) nilA)) (conE (.int 1))) nilA)))) nilA) (fen Rw kd (as ++ shft as.length bs) (some (.v (.tup (bs.map Pt.d)))) (some (.v (nD (as.length - 1))))) s =
      .nx (fen Rw kd (two k as bs) (some (.v (.tup (bs.map Pt.d)))) (some (.v (nD (as.length - 1))))) s :=
    ow_ok (d := .lst ((as ++ shft as.length bs).map Pt.d)) rfl rfl (cons_ok (x := .tup [.str kd, nD (as.length - 1), nD (as.length + bs.length - 1)]) (tup_ok (cons_ok (x := .str kd) rfl (cons_ok (x := nD (as.length - 1)) rfl (cons_ok (bin_ok (x := nD (as.length + bs.length)) (y := .int 1) l2 rfl (fo_sb (by omega))) rfl))) (szl_lt (Nat.le_of_ble_eq_true rfl))) rfl) ao
  unfold fbdy
  rw [seq_nx s1, seq_nx s2, s3]
theorem for_one {keep : S → Bool} {i : Nat} {b : C} {d : D} {ρ ρ1 : En} {s : S} (hk : keep s = true) (h : b (ρ.set i (some (.v d))) s = .nx ρ1 s) : forL keep (.nm i) b [d] ρ s = .nx ρ1 s := by
  simp only [forL, hk, if_true, asg, h]
theorem forS_ok {it : Is} {t : Tg} {b : C} {ds : List D} {keep : S → Bool} {ρ : En} {s s1 : S} {r : RS} (hi : it ρ s = .ok ⟨ds, keep⟩ s1) (h : forL keep t b ds ρ s1 = r) : forS it t b ρ s = r := by
  simp only [forS, hi, R.stm, h]
theorem folded_ok {as bs : List Pt} {k : Nat → Nat → Pt} {kd : Tx} {s : S} (hk : ∀ i j, (k i j).d = .tup [.str kd, nD i, nD j]) (ha : as ≠ []) (hb : bs ≠ []) (hw : WF bs) (hN : as.length + bs.length < 400) :
    f_folded_parts [.lst [.tup (as.map Pt.d), .tup (bs.map Pt.d)], .str kd, .ktup k_SAYING_KINDS] s = .ok (.lst ((two k as bs).map Pt.d)) s := by
  have la := List.length_pos_iff.mpr ha
  have lb := List.length_pos_iff.mpr hb
  have e0 : b_folded_parts_0 [some (.v (.lst [.tup (as.map Pt.d), .tup (bs.map Pt.d)])), some (.v (.str kd)), some (.v (.ktup k_SAYING_KINDS)), none, none, none] s = .nx (fen (.lst [.tup (as.map Pt.d), .tup (bs.map Pt.d)]) kd as none none) s := rfl
  have ei : iterE (sliceE (borE 0) (someO (conE (.int 1))) noO) (fen (.lst [.tup (as.map Pt.d), .tup (bs.map Pt.d)]) kd as none none) s = .ok ⟨[.tup (bs.map Pt.d)], allK⟩ s := rfl
  have e1 : b_folded_parts_1 (fen (.lst [.tup (as.map Pt.d), .tup (bs.map Pt.d)]) kd as none none) s = .nx (fen (.lst [.tup (as.map Pt.d), .tup (bs.map Pt.d)]) kd (two k as bs) (some (.v (.tup (bs.map Pt.d)))) (some (.v (nD (as.length - 1))))) s :=
    forS_ok ei (for_one (b := fbdy) rfl (fo_body hk la lb hw hN))
  show fin (b_folded_parts [some (.v (.lst [.tup (as.map Pt.d), .tup (bs.map Pt.d)])), some (.v (.str kd)), some (.v (.ktup k_SAYING_KINDS)), none, none, none] s) = _
  unfold b_folded_parts
  rw [seq_nx e0, seq_nx e1]
  unfold b_folded_parts_2
  rw [seq_nx (frz_ok (d := .lst ((two k as bs).map Pt.d)) rfl rfl)]
  rfl
end K13

namespace K13
open PySem PySem.Spec L2 Fv
/-! ### sayings -/
theorem fld_say {a : E} {ρ : En} {s s1 : S} {md : List Pt} {f : Tx} {v : D} (h : a ρ s = .ok (sayD md) s1) (hf : lookN fnS (sayV md) f = some v) : fldE ["Saying"] f a ρ s = .ok v s1 := by
  have hm : ("Saying" : Tx) ∈ (["Saying"] : List Tx) := by simp
  have ho : objOf s1 (sayD md) = some (("Saying" : Tx), fnS, sayV md) := rfl
  simp only [fldE, h, R.bind, ho, hf, hm, if_true]
/-- what a saying made of md tells -/
structure MadeOf (ps md : List Pt) : Prop where
  good : Good md
  len : md.length ≤ ps.length
  val : ∀ (α : Type) (f : Pt → List α → α), InvF f → lastV f md = lastV f ps
theorem make_ok {ps : List Pt} {s : S} (h : Ok ps) (hs : s.all D.lite1 = true) (h0 : 0 < ps.length) (hN : ps.length < 200) : ∃ md, MadeOf ps md ∧ makeF "Saying" f_Saying_init [.lst (ps.map Pt.d)] s = .ok (sayD md) s := by
  obtain ⟨md, hm, hl, e⟩ := init_ok h hs h0 hN
  exact ⟨md, ⟨hm.good h, hl, hm.val⟩, e⟩
theorem MadeOf.dep {ps md : List Pt} {n : Nat} (h : MadeOf ps md) (e : lastV depF ps = some n) : depD md = n := by
  have h1 := h.val _ depF depF_inv
  rw [dep_last h.good.ne, e] at h1
  exact Option.some.inj h1
theorem MadeOf.back {ps md : List Pt} {b : Bool} (h : MadeOf ps md) (e : lastV bkF ps = some b) : backB md = b := by
  have h1 := h.val _ bkF bkF_inv
  rw [back_last h.good, e] at h1
  exact Option.some.inj h1
theorem two_len (k : Nat → Nat → Pt) (as bs : List Pt) : (two k as bs).length = as.length + bs.length + 1 := by simp [two, shft_len]; omega
theorem Ok.two {k : Nat → Nat → Pt} (hk : ∀ n i j, i < n → j < n → OkPt n (k i j)) {as bs : List Pt} (ha : Good as) (hb : Good bs) : Ok (two k as bs) := by
  have la := ha.pos
  have lb := hb.pos
  refine Ok.snoc (Ok.app ha.ok hb.ok) (hk _ _ _ ?_ ?_) <;> rw [List.length_append, shft_len] <;> omega
/-- both_of, either_of -/
theorem folded2_ok {as bs : List Pt} {k : Nat → Nat → Pt} {kd em : Tx} {s : S} (hs : s.all D.lite1 = true) (hk : ∀ i j, (k i j).d = .tup [.str kd, nD i, nD j]) (hk2 : ∀ n i j, i < n → j < n → OkPt n (k i j)) (ha : Good as) (hb : Good bs) (hN : as.length + bs.length < 150) :
    ∃ md, MadeOf (two k as bs) md ∧ f_folded [.tup [sayD as, sayD bs], .str kd, .str em] s = .ok (sayD md) s := by
  obtain ⟨md, hm, e⟩ := make_ok (s := s) (Ok.two hk2 ha hb) hs (by rw [two_len]; omega) (by rw [two_len]; omega)
  refine ⟨md, hm, ?_⟩
  have e0 : b_folded_0 [some (.v (.tup [sayD as, sayD bs])), some (.v (.str kd)), some (.v (.str em)), none] s = .nx [some (.v (.tup [sayD as, sayD bs])), some (.v (.str kd)), some (.v (.str em)), none] s := rfl
  have e1 : b_folded_1 [some (.v (.tup [sayD as, sayD bs])), some (.v (.str kd)), some (.v (.str em)), none] s = .nx [some (.v (.tup [sayD as, sayD bs])), some (.v (.str kd)), some (.v (.str em)), none] s := rfl
  have el : lcE (iterE (borE 0)) [3] (.nm 3) yesT (fldE ["Saying"] "parts" (borE 3)) [some (.v (.tup [sayD as, sayD bs])), some (.v (.str kd)), some (.v (.str em)), none] s = .ok (.lst [.tup (as.map Pt.d), .tup (bs.map Pt.d)]) s := rfl
  have e2 : b_folded_2 [some (.v (.tup [sayD as, sayD bs])), some (.v (.str kd)), some (.v (.str em)), none] s = .rt (sayD md) s :=
    ret_ok (call_ok (cons_ok (call_ok (cons_ok el (cons_ok (x := .str kd) rfl (cons_ok (x := .ktup k_SAYING_KINDS) rfl rfl))) (folded_ok hk ha.ne hb.ne hb.ok.wf (by omega))) rfl) e)
  show fin (b_folded [some (.v (.tup [sayD as, sayD bs])), some (.v (.str kd)), some (.v (.str em)), none] s) = _
  unfold b_folded
  rw [seq_nx e0, seq_nx e1, e2]; rfl
theorem both_ok {as bs : List Pt} {s : S} (hs : s.all D.lite1 = true) (ha : Good as) (hb : Good bs) (hN : as.length + bs.length < 150) : ∃ md, MadeOf (two Pt.both as bs) md ∧ f_both_of [sayD as, sayD bs] s = .ok (sayD md) s := by
  obtain ⟨md, hm, e⟩ := folded2_ok (k := Pt.both) (kd := "both") (em := "thing") hs (fun _ _ => rfl) (fun n i j h1 h2 => ⟨h1, h2⟩) ha hb hN
  refine ⟨md, hm, ?_⟩
  have e1 : b_both_of [some (.v (.tup [sayD as, sayD bs]))] s = .rt (sayD md) s := ret_ok (call_ok (cons_ok (x := .tup [sayD as, sayD bs]) rfl (cons_ok (x := .str "both") rfl (cons_ok (x := .str "thing") rfl rfl))) e)
  show fin (b_both_of [some (.v (.tup [sayD as, sayD bs]))] s) = _
  rw [e1]; rfl
theorem either_ok {as bs : List Pt} {s : S} (hs : s.all D.lite1 = true) (ha : Good as) (hb : Good bs) (hN : as.length + bs.length < 150) : ∃ md, MadeOf (two Pt.either as bs) md ∧ f_either_of [sayD as, sayD bs] s = .ok (sayD md) s := by
  obtain ⟨md, hm, e⟩ := folded2_ok (k := Pt.either) (kd := "either") (em := "nothing") hs (fun _ _ => rfl) (fun n i j h1 h2 => ⟨h1, h2⟩) ha hb hN
  refine ⟨md, hm, ?_⟩
  have e1 : b_either_of [some (.v (.tup [sayD as, sayD bs]))] s = .rt (sayD md) s := ret_ok (call_ok (cons_ok (x := .tup [sayD as, sayD bs]) rfl (cons_ok (x := .str "either") rfl (cons_ok (x := .str "nothing") rfl rfl))) e)
  show fin (b_either_of [some (.v (.tup [sayD as, sayD bs]))] s) = _
  rw [e1]; rfl
/-- one part over a saying -/
theorem len_tup {xs : List Pt} {a : E} {ρ : En} {s : S} (h : a ρ s = .ok (.tup (xs.map Pt.d)) s) (h0 : 0 < xs.length) : binE subD (callE lenF (consA a nilA)) (conE (.int 1)) ρ s = .ok (nD (xs.length - 1)) s := by
  have : lenF [.tup (xs.map Pt.d)] s = .ok (.int ((xs.map Pt.d).length : Nat)) s := rfl
  rw [List.length_map] at this
  exact bin_ok (x := nD xs.length) (y := .int 1) (call_ok (cons_ok h rfl) this) rfl (fo_sb h0)
theorem more_ok {as : List Pt} {p : Pt} {a : E} {r : As} {xs : List D} {ρ : En} {s : S} (hs : s.all D.lite1 = true) (ha : Good as) (hp : OkPt as.length p) (hN : as.length < 150) (h1 : a ρ s = .ok (.tup (as.map Pt.d)) s) (h2 : tupE r ρ s = .ok p.d s) :
    ∃ md, MadeOf (as ++ [p]) md ∧ callE (makeF "Saying" f_Saying_init) (consA (lstE (starA a (consA (tupE r) nilA))) nilA) ρ s = .ok (sayD md) s := by
  have la := ha.pos
  obtain ⟨md, hm, e⟩ := make_ok (s := s) (ha.ok.snoc hp) hs (by simp) (by simp; omega)
  refine ⟨md, hm, ?_⟩
  have hd : (as ++ [p]).map Pt.d = as.map Pt.d ++ [p.d] := by simp
  rw [hd] at e
  exact call_ok (cons_ok (lst_ok (star_ok (x := .tup (as.map Pt.d)) (ys := as.map Pt.d) h1 rfl (cons_ok h2 rfl)) (szl_lt (by simp; omega))) rfl) e
theorem inv_ok {as : List Pt} {s : S} (hs : s.all D.lite1 = true) (ha : Good as) (hN : as.length < 150) : ∃ md, MadeOf (as ++ [.neg (as.length - 1)]) md ∧ f_Saying_invert [sayD as] s = .ok (sayD md) s := by
  have la := ha.pos
  have hf : fldE ["Saying"] "parts" (borE 0) [some (.v (sayD as))] s = .ok (.tup (as.map Pt.d)) s := rfl
  obtain ⟨md, hm, e⟩ := more_ok (p := .neg (as.length - 1)) (r := (consA (conE (.str "not")) (consA (binE subD (callE lenF (consA (fldE ["Saying"] "parts" (borE 0)) nilA)) (conE (.int 1))) nilA))) (ρ := [some (.v (sayD as))]) (xs := []) hs ha (by show as.length - 1 < as.length; omega) hN hf
    (tup_ok (cons_ok (x := .str "not") rfl (cons_ok (len_tup hf la) rfl)) (szl_lt (Nat.le_of_ble_eq_true rfl)))
  refine ⟨md, hm, ?_⟩
  have e1 : b_Saying_invert [some (.v (sayD as))] s = .rt (sayD md) s := ret_ok e
  show fin (b_Saying_invert [some (.v (sayD as))] s) = _
  rw [e1]; rfl
theorem top_ok {as : List Pt} {sc : Tx} {s : S} (hs : s.all D.lite1 = true) (ha : Good as) (hsc : NmOk sc) (hN : as.length < 150) : ∃ md, MadeOf (as ++ [.top sc (as.length - 1)]) md ∧ f_top_of [.str sc, sayD as] s = .ok (sayD md) s := by
  have la := ha.pos
  have hf : fldE ["Saying"] "parts" (borE 1) [some (.v (.str sc)), some (.v (sayD as))] s = .ok (.tup (as.map Pt.d)) s := rfl
  obtain ⟨md, hm, e⟩ := more_ok (p := .top sc (as.length - 1)) (r := (consA (conE (.str "top")) (consA (varE 0) (consA (binE subD (callE lenF (consA (fldE ["Saying"] "parts" (borE 1)) nilA)) (conE (.int 1))) nilA)))) (ρ := [some (.v (.str sc)), some (.v (sayD as))]) (xs := []) hs ha ⟨hsc, by omega⟩ hN hf
    (tup_ok (cons_ok (x := .str "top") rfl (cons_ok (x := .str sc) rfl (cons_ok (len_tup hf la) rfl))) (szl_lt (Nat.le_of_ble_eq_true rfl)))
  refine ⟨md, hm, ?_⟩
  have e0 : b_top_of_0 [some (.v (.str sc)), some (.v (sayD as))] s = .nx [some (.v (.str sc)), some (.v (sayD as))] s := by
    unfold b_top_of_0
    rw [ifS_f (s1 := s) (not_ok (k := true) (tru_ok (x := .bl true) (call_ok (cons_ok (x := .str sc) rfl rfl) (hsc s).1) rfl))]
    rfl
  have e1 : b_top_of_1 [some (.v (.str sc)), some (.v (sayD as))] s = .nx [some (.v (.str sc)), some (.v (sayD as))] s := rfl
  have e2 : b_top_of_2 [some (.v (.str sc)), some (.v (sayD as))] s = .rt (sayD md) s := ret_ok e
  show fin (b_top_of [some (.v (.str sc)), some (.v (sayD as))] s) = _
  unfold b_top_of
  rw [seq_nx e0, seq_nx e1, e2]; rfl
/-- over a link -/
theorem over_ok {as : List Pt} {kd l : Tx} {items : List D} {b : Bool} {p : Pt} {s : S} (hs : s.all D.lite1 = true) (ha : Good as) (hl : NmOk l) (hp : OkPt as.length p) (hd : p.d = .tup (.str kd :: (items ++ [.str l, .str (dirT b), nD (as.length - 1)]))) (hi : items.length < 100) (hN : as.length < 150) :
    ∃ md, MadeOf (as ++ [p]) md ∧ f_over [.str kd, .lst items, .str l, sayD as, .bl b] s = .ok (sayD md) s := by
  have la := ha.pos
  have hf : fldE ["Saying"] "parts" (borE 3) [some (.v (.str kd)), some (.v (.lst items)), some (.v (.str l)), some (.v (sayD as)), some (.v (.bl b)), some (.v (.str (dirT b)))] s = .ok (.tup (as.map Pt.d)) s := rfl
  obtain ⟨md, hm, e⟩ := more_ok (p := p) (r := (consA (varE 0) (starA (borE 1) (consA (varE 2) (consA (varE 5) (consA (binE subD (callE lenF (consA (fldE ["Saying"] "parts" (borE 3)) nilA)) (conE (.int 1))) nilA)))))) (ρ := [some (.v (.str kd)), some (.v (.lst items)), some (.v (.str l)), some (.v (sayD as)), some (.v (.bl b)), some (.v (.str (dirT b)))]) (xs := []) hs ha hp hN hf
    (by
      rw [hd]
      exact tup_ok (cons_ok (x := .str kd) rfl (star_ok (x := .lst items) (ys := items) rfl rfl (cons_ok (x := .str l) rfl (cons_ok (x := .str (dirT b)) rfl (cons_ok (len_tup hf la) rfl))))) (szl_lt (by simp; omega)))
  refine ⟨md, hm, ?_⟩
  have e0 : b_over_0 [some (.v (.str kd)), some (.v (.lst items)), some (.v (.str l)), some (.v (sayD as)), some (.v (.bl b)), none] s = .nx [some (.v (.str kd)), some (.v (.lst items)), some (.v (.str l)), some (.v (sayD as)), some (.v (.bl b)), none] s := by
    unfold b_over_0
    rw [ifS_f (s1 := s) (not_ok (k := true) (tru_ok (x := .bl true) (call_ok (cons_ok (x := .str l) rfl rfl) (hl s).1) rfl))]
    rfl
  have e1 : b_over_1 [some (.v (.str kd)), some (.v (.lst items)), some (.v (.str l)), some (.v (sayD as)), some (.v (.bl b)), none] s = .nx [some (.v (.str kd)), some (.v (.lst items)), some (.v (.str l)), some (.v (sayD as)), some (.v (.bl b)), none] s := rfl
  have e2 : b_over_2 [some (.v (.str kd)), some (.v (.lst items)), some (.v (.str l)), some (.v (sayD as)), some (.v (.bl b)), none] s = .nx [some (.v (.str kd)), some (.v (.lst items)), some (.v (.str l)), some (.v (sayD as)), some (.v (.bl b)), some (.v (.str (dirT b)))] s := by cases b <;> rfl
  have e3 : b_over_3 [some (.v (.str kd)), some (.v (.lst items)), some (.v (.str l)), some (.v (sayD as)), some (.v (.bl b)), some (.v (.str (dirT b)))] s = .rt (sayD md) s := ret_ok e
  show fin (b_over [some (.v (.str kd)), some (.v (.lst items)), some (.v (.str l)), some (.v (sayD as)), some (.v (.bl b)), none] s) = _
  unfold b_over
  rw [seq_nx e0, seq_nx e1, seq_nx e2, e3]; rfl
theorem some_of_ok {as : List Pt} {l : Tx} {b : Bool} {s : S} (hs : s.all D.lite1 = true) (ha : Good as) (hl : NmOk l) (hN : as.length < 150) : ∃ md, MadeOf (as ++ [.some l b (as.length - 1)]) md ∧ f_some_of [.str l, sayD as, .bl b] s = .ok (sayD md) s := by
  have la := ha.pos
  obtain ⟨md, hm, e⟩ := over_ok (kd := "some") (l := l) (items := []) (b := b) (p := .some l b (as.length - 1)) hs ha hl ⟨hl, by omega⟩ rfl (by decide) hN
  refine ⟨md, hm, ?_⟩
  have e1 : b_some_of [some (.v (.str l)), some (.v (sayD as)), some (.v (.bl b))] s = .rt (sayD md) s := ret_ok (call_ok (cons_ok (x := .str "some") rfl (cons_ok (x := .lst []) rfl (cons_ok (x := .str l) rfl (cons_ok (x := sayD as) rfl (cons_ok (x := .bl b) rfl rfl))))) e)
  show fin (b_some_of [some (.v (.str l)), some (.v (sayD as)), some (.v (.bl b))] s) = _
  rw [e1]; rfl
theorem every_of_ok {as : List Pt} {l : Tx} {b : Bool} {s : S} (hs : s.all D.lite1 = true) (ha : Good as) (hl : NmOk l) (hN : as.length < 150) : ∃ md, MadeOf (as ++ [.every l b (as.length - 1)]) md ∧ f_every_of [.str l, sayD as, .bl b] s = .ok (sayD md) s := by
  have la := ha.pos
  obtain ⟨md, hm, e⟩ := over_ok (kd := "every") (l := l) (items := []) (b := b) (p := .every l b (as.length - 1)) hs ha hl ⟨hl, by omega⟩ rfl (by decide) hN
  refine ⟨md, hm, ?_⟩
  have e1 : b_every_of [some (.v (.str l)), some (.v (sayD as)), some (.v (.bl b))] s = .rt (sayD md) s := ret_ok (call_ok (cons_ok (x := .str "every") rfl (cons_ok (x := .lst []) rfl (cons_ok (x := .str l) rfl (cons_ok (x := sayD as) rfl (cons_ok (x := .bl b) rfl rfl))))) e)
  show fin (b_every_of [some (.v (.str l)), some (.v (sayD as)), some (.v (.bl b))] s) = _
  rw [e1]; rfl
theorem at_least_ok {as : List Pt} {m : Int} {l : Tx} {b : Bool} {s : S} (hs : s.all D.lite1 = true) (ha : Good as) (hl : NmOk l) (h1 : 2 ≤ m) (h2 : m ≤ 40) (hN : as.length < 150) : ∃ md, MadeOf (as ++ [.least m l b (as.length - 1)]) md ∧ f_at_least [.int m, .str l, sayD as, .bl b] s = .ok (sayD md) s := by
  have la := ha.pos
  obtain ⟨md, hm, e⟩ := over_ok (kd := "least") (l := l) (items := [.int m]) (b := b) (p := .least m l b (as.length - 1)) hs ha hl ⟨h1, h2, hl, by omega⟩ rfl (Nat.le_of_ble_eq_true rfl) hN
  refine ⟨md, hm, ?_⟩
  have e0 : b_at_least_0 [some (.v (.int m)), some (.v (.str l)), some (.v (sayD as)), some (.v (.bl b))] s = .nx [some (.v (.int m)), some (.v (.str l)), some (.v (sayD as)), some (.v (.bl b))] s := by
    unfold b_at_least_0
    rw [ifS_f (s1 := s) (not_ok (k := true) (tru_ok (x := .bl true) (call_ok (cons_ok (x := .int m) rfl (cons_ok (x := .int 2) rfl (cons_ok (x := .int 40) rfl rfl))) (within_ok h1 h2 s)) rfl))]
    rfl
  have e1 : b_at_least_1 [some (.v (.int m)), some (.v (.str l)), some (.v (sayD as)), some (.v (.bl b))] s = .rt (sayD md) s := ret_ok (call_ok (cons_ok (x := .str "least") rfl (cons_ok (x := .lst [.int m]) rfl (cons_ok (x := .str l) rfl (cons_ok (x := sayD as) rfl (cons_ok (x := .bl b) rfl rfl))))) e)
  show fin (b_at_least [some (.v (.int m)), some (.v (.str l)), some (.v (sayD as)), some (.v (.bl b))] s) = _
  unfold b_at_least
  rw [seq_nx e0, e1]; rfl
theorem len_ok {as : List Pt} {s : S} : f_Saying_len [sayD as] s = .ok (nD as.length) s := by
  have hf : fldE ["Saying"] "parts" (borE 0) [some (.v (sayD as))] s = .ok (.tup (as.map Pt.d)) s := rfl
  have : lenF [.tup (as.map Pt.d)] s = .ok (.int ((as.map Pt.d).length : Nat)) s := rfl
  rw [List.length_map] at this
  have e1 : b_Saying_len [some (.v (sayD as))] s = .rt (nD as.length) s := ret_ok (call_ok (cons_ok hf rfl) this)
  show fin (b_Saying_len [some (.v (sayD as))] s) = _
  rw [e1]; rfl
end K13

namespace K13
open PySem PySem.Spec L2 Fv
theorem draw_ok {zs : List Int} {s : S} {t r m n : Int} (hP : PlOk m t r) (hm : m < 100000) (hn : 0 < n) (hn2 : n.natAbs.log2 < 9000) : ∃ v t' r', f_l_draw [.ref 0, .int n] (Pl zs t r s) = .ok (.int v) (Pl zs t' r' s) ∧ 0 ≤ v ∧ v < n ∧ PlOk (m + 1) t' r' := by
  obtain ⟨ht, htm, hr⟩ := hP
  have i0 : ∀ a b d : D, atI [a, b, d] 0 = some a := fun a b d => rfl
  have i1 : ∀ a b d : D, atI [a, b, d] 1 = some b := fun a b d => rfl
  have i2 : ∀ a b d : D, atI [a, b, d] 2 = some d := fun a b d => rfl
  have dv : divOk n = true := by simp [divOk, hn, hn2]
  have start : ∀ s, f_l_draw [.ref 0, .int n] s = fin (b_l_draw [some (.v (.ref 0)), some (.v (.int n)), none, none, none, none, none] s) := fun _ => rfl
  have j1 : ixN 3 1 = some 1 := rfl
  have j2 : ixN 3 2 = some 2 := rfl
  have m1 : mulOk 55331 t = true := mulS (by decide) (by omega)
  rw [start]
  unfold b_l_draw
  by_cases h0 : 0 < r
  · have e0 : b_l_draw_0 [some (.v (.ref 0)), some (.v (.int n)), none, none, none, none, none] (Pl zs t r s) = .rt (.int (r % n)) (Pl zs t (r / n) s) := by
      simp [b_l_draw_0, Pl, seqS, ifS, setS, retS, retN, exprS, passS, setItS, tstE, truE, binE, varE, borE, conE, callE, consA, nilA, notT, andT, orT, notE, andE, orE, ifE, tupE, lstE, unE, chainE, R.bind, R.stm, RS.next, fin, boolE, addD, subD, mulD, fdivD, modD, powD, ltD, leD, gtD, geD, mul2D, idxD, idxS, seqOf, intF, absF, setD, lenF, lenO, ltbD, i0, i1, i2, j1, j2, h0, dv, hn]
    rw [seq_rt e0]
    exact ⟨_, _, _, rfl, Int.emod_nonneg _ (by omega), Int.emod_lt_of_pos _ hn, ht, by omega, Int.ediv_nonneg hr (by omega)⟩
  · have e0 : b_l_draw_0 [some (.v (.ref 0)), some (.v (.int n)), none, none, none, none, none] (Pl zs t r s) = .nx [some (.v (.ref 0)), some (.v (.int n)), none, none, none, none, none] (Pl zs t r s) := by
      simp [b_l_draw_0, Pl, seqS, ifS, setS, retS, retN, exprS, passS, setItS, tstE, truE, binE, varE, borE, conE, callE, consA, nilA, notT, andT, orT, notE, andE, orE, ifE, tupE, lstE, unE, chainE, R.bind, R.stm, RS.next, fin, boolE, addD, subD, mulD, fdivD, modD, powD, ltD, leD, gtD, geD, mul2D, idxD, idxS, seqOf, intF, absF, setD, lenF, lenO, ltbD, i0, i1, i2, j1, j2, h0, dv, hn]
    have e1 : b_l_draw_1 [some (.v (.ref 0)), some (.v (.int n)), none, none, none, none, none] (Pl zs t r s) = .nx [some (.v (.ref 0)), some (.v (.int n)), none, some (.v (.int t)), none, none, none] (Pl zs t r s) := by
      simp [b_l_draw_1, Pl, seqS, ifS, setS, retS, retN, exprS, passS, setItS, tstE, truE, binE, varE, borE, conE, callE, consA, nilA, notT, andT, orT, notE, andE, orE, ifE, tupE, lstE, unE, chainE, R.bind, R.stm, RS.next, fin, boolE, addD, subD, mulD, fdivD, modD, powD, ltD, leD, gtD, geD, mul2D, idxD, idxS, seqOf, intF, absF, setD, lenF, lenO, ltbD, i0, i1, i2, j1, j2]
    have e2 : b_l_draw_2 [some (.v (.ref 0)), some (.v (.int n)), none, some (.v (.int t)), none, none, none] (Pl zs t r s) = .nx [some (.v (.ref 0)), some (.v (.int n)), none, some (.v (.int t)), none, none, none] (Pl zs (t + 1) r s) := by
      simp [b_l_draw_2, Pl, seqS, ifS, setS, retS, retN, exprS, passS, setItS, tstE, truE, binE, varE, borE, conE, callE, consA, nilA, notT, andT, orT, notE, andE, orE, ifE, tupE, lstE, unE, chainE, R.bind, R.stm, RS.next, fin, boolE, addD, subD, mulD, fdivD, modD, powD, ltD, leD, gtD, geD, mul2D, idxD, idxS, seqOf, intF, absF, setD, lenF, lenO, ltbD, i0, i1, i2, j1, j2]
    have e3 : ∀ s : S, b_l_draw_3 [some (.v (.ref 0)), some (.v (.int n)), none, some (.v (.int t)), none, none, none] s = .nx [some (.v (.ref 0)), some (.v (.int n)), none, some (.v (.int t)), some (.v (.int (55331 * t + 2311))), none, none] s := fun s => by
      simp [b_l_draw_3, seqS, ifS, setS, retS, retN, exprS, passS, setItS, tstE, truE, binE, varE, borE, conE, callE, consA, nilA, notT, andT, orT, notE, andE, orE, ifE, tupE, lstE, unE, chainE, R.bind, R.stm, RS.next, fin, boolE, addD, subD, mulD, fdivD, modD, powD, ltD, leD, gtD, geD, mul2D, idxD, idxS, seqOf, intF, absF, setD, lenF, lenO, ltbD, m1]
    rw [seq_nx e0, seq_nx e1, seq_nx e2, seq_nx (e3 _)]
    obtain ⟨cell, e4⟩ : ∃ cell : Int, b_l_draw_4 [some (.v (.ref 0)), some (.v (.int n)), none, some (.v (.int t)), some (.v (.int (55331 * t + 2311))), none, none] (Pl zs (t + 1) r s) = .nx [some (.v (.ref 0)), some (.v (.int n)), none, some (.v (.int t)), some (.v (.int cell)), none, none] (Pl zs (t + 1) r s) := by
      have z0 : szl 0 = true := szlS (by decide)
      by_cases hz : zs = []
      · have hne := @ne_nil (Pl zs (t + 1) r s) zs
        simp only [Pl] at hne
        exact ⟨55331 * t + 2311, by simp only [b_l_draw_4, Pl, seqS, ifS, setS, retS, retN, exprS, passS, setItS, tstE, truE, binE, varE, borE, conE, callE, consA, nilA, notT, andT, orT, notE, andE, orE, ifE, tupE, lstE, unE, chainE, R.bind, R.stm, RS.next, fin, boolE, addD, subD, mulD, fdivD, modD, powD, ltD, leD, gtD, geD, mul2D, idxD, idxS, seqOf, intF, absF, setD, lenF, lenO, ltbD, i0, z0, List.length_nil, if_true, List.getElem?_cons_zero, List.getElem?_cons_succ]; rw [hne]; simp [hz, seqS, ifS, setS, retS, retN, exprS, passS, setItS, tstE, truE, binE, varE, borE, conE, callE, consA, nilA, notT, andT, orT, notE, andE, orE, ifE, tupE, lstE, unE, chainE, R.bind, R.stm, RS.next, fin, boolE, addD, subD, mulD, fdivD, modD, powD, ltD, leD, gtD, geD, mul2D, idxD, idxS, seqOf, intF, absF, setD, lenF, lenO, ltbD]⟩
      · have hl' : 0 < zs.length := List.length_pos_iff.mpr hz
        have hl : (0 : Int) < zs.length := by omega
        obtain ⟨v, g1, g2⟩ := at_nat (xs := zs.map D.int) (i := t % zs.length) (Int.emod_nonneg _ (by omega)) (by rw [List.length_map]; exact Int.emod_lt_of_pos _ hl)
        rw [List.getElem?_map] at g1
        obtain ⟨y, _, rfl⟩ := Option.map_eq_some_iff.mp g1
        have hne := @ne_nil (Pl zs (t + 1) r s) zs
        simp only [Pl] at hne
        exact ⟨y, by simp only [b_l_draw_4, Pl, seqS, ifS, setS, retS, retN, exprS, passS, setItS, tstE, truE, binE, varE, borE, conE, callE, consA, nilA, notT, andT, orT, notE, andE, orE, ifE, tupE, lstE, unE, chainE, R.bind, R.stm, RS.next, fin, boolE, addD, subD, mulD, fdivD, modD, powD, ltD, leD, gtD, geD, mul2D, idxD, idxS, seqOf, intF, absF, setD, lenF, lenO, ltbD, i0, z0, List.length_nil, if_true, List.getElem?_cons_zero, List.getElem?_cons_succ]; rw [hne]; simp [hz, seqS, ifS, setS, retS, retN, exprS, passS, setItS, tstE, truE, binE, varE, borE, conE, callE, consA, nilA, notT, andT, orT, notE, andE, orE, ifE, tupE, lstE, unE, chainE, R.bind, R.stm, RS.next, fin, boolE, addD, subD, mulD, fdivD, modD, powD, ltD, leD, gtD, geD, mul2D, idxD, idxS, seqOf, intF, absF, setD, lenF, lenO, ltbD, i0, hl', g2]⟩
    rw [seq_nx e4]
    have hab : 0 ≤ (if cell < 0 then -cell else cell) := by split <;> omega
    have p18 : (10 : Int) ^ (18 : Int).toNat = 1000000000000000000 := by decide
    have q18 : powOk 10 18 = true := by decide
    have hP2 : ∀ r' : Int, 0 ≤ r' → PlOk (m + 1) (t + 1) r' := fun r' h => ⟨by omega, by omega, h⟩
    by_cases hq : t < (zs.length : Int) ∧ 1000000000000000000 ≤ (if cell < 0 then -cell else cell)
    · have e5 : b_l_draw_5 [some (.v (.ref 0)), some (.v (.int n)), none, some (.v (.int t)), some (.v (.int cell)), none, none] (Pl zs (t + 1) r s) = .rt (.int ((2 * ((if cell < 0 then -cell else cell) - 1000000000000000000) + (if cell < 0 then 1 else 0)) % n)) (Pl zs (t + 1) ((2 * ((if cell < 0 then -cell else cell) - 1000000000000000000) + (if cell < 0 then 1 else 0)) / n) s) := by
        have m9 : mulN 2 ((if cell < 0 then -cell else cell) - 1000000000000000000) = true := decide_eq_true ⟨by decide, by decide, by have := hq.2; omega⟩
        simp only [m9, Bool.or_true, decide_eq_true_eq, b_l_draw_5, Pl, seqS, ifS, setS, retS, retN, exprS, passS, setItS, tstE, truE, binE, varE, borE, conE, callE, consA, nilA, notT, andT, orT, notE, andE, orE, ifE, tupE, lstE, unE, chainE, R.bind, R.stm, RS.next, fin, boolE, addD, subD, mulD, fdivD, modD, powD, ltD, leD, gtD, geD, mul2D, idxD, idxS, seqOf, intF, absF, setD, lenF, lenO, ltbD, i0, List.length_map, hq.1, hq.2, p18, q18, decide_true, if_true, j2, dv, hn, List.getElem?_cons_zero, List.getElem?_cons_succ, List.set_cons_zero, List.set_cons_succ, Option.map_some, List.length_cons, List.length_nil]
      rw [seq_rt e5]
      exact ⟨_, _, _, rfl, Int.emod_nonneg _ (by omega), Int.emod_lt_of_pos _ hn, hP2 _ (Int.ediv_nonneg (by omega) (by omega))⟩
    · have e5 : b_l_draw_5 [some (.v (.ref 0)), some (.v (.int n)), none, some (.v (.int t)), some (.v (.int cell)), none, none] (Pl zs (t + 1) r s) = .nx [some (.v (.ref 0)), some (.v (.int n)), none, some (.v (.int t)), some (.v (.int cell)), none, none] (Pl zs (t + 1) r s) := by
        by_cases h1 : t < (zs.length : Int)
        · have h2 : ¬ 1000000000000000000 ≤ (if cell < 0 then -cell else cell) := fun z => hq ⟨h1, z⟩
          simp only [b_l_draw_5, Pl, seqS, ifS, setS, retS, retN, exprS, passS, setItS, tstE, truE, binE, varE, borE, conE, callE, consA, nilA, notT, andT, orT, notE, andE, orE, ifE, tupE, lstE, unE, chainE, R.bind, R.stm, RS.next, fin, boolE, addD, subD, mulD, fdivD, modD, powD, ltD, leD, gtD, geD, mul2D, idxD, idxS, seqOf, intF, absF, setD, lenF, lenO, ltbD, i0, List.length_map, h1, h2, p18, q18, decide_true, decide_false, if_true, if_false, Bool.false_eq_true, List.getElem?_cons_zero, List.getElem?_cons_succ]
        · simp only [b_l_draw_5, Pl, seqS, ifS, setS, retS, retN, exprS, passS, setItS, tstE, truE, binE, varE, borE, conE, callE, consA, nilA, notT, andT, orT, notE, andE, orE, ifE, tupE, lstE, unE, chainE, R.bind, R.stm, RS.next, fin, boolE, addD, subD, mulD, fdivD, modD, powD, ltD, leD, gtD, geD, mul2D, idxD, idxS, seqOf, intF, absF, setD, lenF, lenO, ltbD, i0, List.length_map, h1, p18, q18, decide_true, decide_false, if_true, if_false, Bool.false_eq_true, List.getElem?_cons_zero, List.getElem?_cons_succ]
      rw [seq_nx e5]
      have hc0 := Int.emod_nonneg cell (show (2147483549 : Int) ≠ 0 by decide)
      have hc1 := Int.emod_lt_of_pos cell (show (0 : Int) < 2147483549 by decide)
      have m2 : mulOk 64351 t = true := mulS (by decide) (by omega)
      have w1 : powOk (cell % 2147483549 + 64351 * t + 2311) 5 = true := by simp only [powOk, decide_eq_true_eq]; omega
      obtain ⟨x1, e6, hx0, hx1⟩ : ∃ x1 : Int, (∀ s, b_l_draw_6 [some (.v (.ref 0)), some (.v (.int n)), none, some (.v (.int t)), some (.v (.int cell)), none, none] s = .nx [some (.v (.ref 0)), some (.v (.int n)), none, some (.v (.int t)), some (.v (.int cell)), none, some (.v (.int x1))] s) ∧ 0 ≤ x1 ∧ x1 < 2147483579 := by
        refine ⟨(cell % 2147483549 + 64351 * t + 2311) ^ 5 % 2147483579, fun s => ?_, Int.emod_nonneg _ (by decide), Int.emod_lt_of_pos _ (by decide)⟩
        simp [b_l_draw_6, seqS, ifS, setS, retS, retN, exprS, passS, setItS, tstE, truE, binE, varE, borE, conE, callE, consA, nilA, notT, andT, orT, notE, andE, orE, ifE, tupE, lstE, unE, chainE, R.bind, R.stm, RS.next, fin, boolE, addD, subD, mulD, fdivD, modD, powD, ltD, leD, gtD, geD, mul2D, idxD, idxS, seqOf, intF, absF, setD, lenF, lenO, ltbD, m2, w1]
      rw [seq_nx (e6 _)]
      have y0 : 0 ≤ x1 * (2 * t + 1747) := Int.mul_nonneg hx0 (by omega)
      have y1 : x1 * (2 * t + 1747) ≤ 2147483579 * 201747 := Int.mul_le_mul (by omega) (by omega) (by omega) (by decide)
      have y2 : 0 ≤ 55331 * t * t := Int.mul_nonneg (by omega) ht
      have y3 : 55331 * t * t ≤ (55331 * 100000) * 100000 := Int.mul_le_mul (by omega) (by omega) ht (by decide)
      have m3 : mulOk 2 t = true := mulS (by decide) (by omega)
      have m4 : mulOk x1 (2 * t + 1747) = true := mulS (by omega) (by omega)
      have m5 : mulOk (55331 * t) t = true := mulS (by omega) (by omega)
      generalize hA : x1 * (2 * t + 1747) = A at y0 y1
      generalize hB : 55331 * t * t = B at y2 y3
      have w2 : powOk (A + B + 64351) 3 = true := by simp only [powOk, decide_eq_true_eq]; omega
      obtain ⟨x2, e7⟩ : ∃ x2 : Int, ∀ s, b_l_draw_7 [some (.v (.ref 0)), some (.v (.int n)), none, some (.v (.int t)), some (.v (.int cell)), none, some (.v (.int x1))] s = .nx [some (.v (.ref 0)), some (.v (.int n)), none, some (.v (.int t)), some (.v (.int cell)), none, some (.v (.int x2))] s :=
        ⟨(A + B + 64351) ^ 3 % 2147483587, fun s => by simp [b_l_draw_7, seqS, ifS, setS, retS, retN, exprS, passS, setItS, tstE, truE, binE, varE, borE, conE, callE, consA, nilA, notT, andT, orT, notE, andE, orE, ifE, tupE, lstE, unE, chainE, R.bind, R.stm, RS.next, fin, boolE, addD, subD, mulD, fdivD, modD, powD, ltD, leD, gtD, geD, mul2D, idxD, idxS, seqOf, intF, absF, setD, lenF, lenO, ltbD, m1, m3, m4, m5, hA, hB, w2]⟩
      rw [seq_nx (e7 _)]
      have d64 : divOk 64 = true := by decide
      have e8 : ∀ s, b_l_draw_8 [some (.v (.ref 0)), some (.v (.int n)), none, some (.v (.int t)), some (.v (.int cell)), none, some (.v (.int x2))] s = .rt (.int (x2 / 64 % n)) s := fun s => by
        simp [b_l_draw_8, seqS, ifS, setS, retS, retN, exprS, passS, setItS, tstE, truE, binE, varE, borE, conE, callE, consA, nilA, notT, andT, orT, notE, andE, orE, ifE, tupE, lstE, unE, chainE, R.bind, R.stm, RS.next, fin, boolE, addD, subD, mulD, fdivD, modD, powD, ltD, leD, gtD, geD, mul2D, idxD, idxS, seqOf, intF, absF, setD, lenF, lenO, ltbD, d64, hn]
      rw [e8]
      exact ⟨_, _, _, rfl, Int.emod_nonneg _ (by omega), Int.emod_lt_of_pos _ hn, hP2 r hr⟩
/-- one of some things -/
theorem pick_ok {zs : List Int} {s : S} {t r m : Int} {xs : List D} (hP : PlOk m t r) (hm : m < 100000) (h0 : xs ≠ []) (hl : xs.length < 1000) : ∃ (i : Nat) (d : D) (t' r' : Int), f_l_pick [.ref 0, .lst xs] (Pl zs t r s) = .ok d (Pl zs t' r' s) ∧ xs[i]? = some d ∧ PlOk (m + 1) t' r' := by
  have l0 : 0 < xs.length := List.length_pos_iff.mpr h0
  obtain ⟨v, t', r', e, v0, v1, hP'⟩ := draw_ok (zs := zs) (s := s) (n := (xs.length : Int)) hP hm (by omega) (by
    have z : ((xs.length : Int)).natAbs = xs.length := by omega
    rw [z]
    exact Nat.lt_trans ((Nat.log2_lt (by omega)).mpr (Nat.lt_trans hl (by decide : 1000 < 2 ^ 10))) (by decide))
  obtain ⟨d, g1, g2⟩ := at_nat (xs := xs) v0 (by omega)
  have start : ∀ s, f_l_pick [.ref 0, .lst xs] s = fin (b_l_pick [some (.v (.ref 0)), some (.v (.lst xs))] s) := fun _ => rfl
  refine ⟨v.toNat, d, t', r', ?_, g1, hP'⟩
  rw [start]
  simp [b_l_pick, seqS, ifS, setS, retS, retN, exprS, passS, setItS, tstE, truE, binE, varE, borE, conE, callE, consA, nilA, notT, andT, orT, notE, andE, orE, ifE, tupE, lstE, unE, chainE, R.bind, R.stm, RS.next, fin, boolE, addD, subD, mulD, fdivD, modD, powD, ltD, leD, gtD, geD, mul2D, idxD, idxS, seqOf, intF, absF, setD, lenF, lenO, ltbD, e, g2]
end K13

namespace K13
open PySem PySem.Spec L2 Fv
/-! ### a drawn part -/
theorem nm_p : NmOk "p" := by intro s; exact ⟨by kernel_rfl, by decide +kernel⟩
theorem nm_ab : NmOk "a.b" := by intro s; exact ⟨by kernel_rfl, by decide +kernel⟩
theorem nm_a : NmOk "a" := by intro s; exact ⟨by kernel_rfl, by decide +kernel⟩
theorem nm_on : NmOk "on" := by intro s; exact ⟨by kernel_rfl, by decide +kernel⟩
theorem nm_l : NmOk "l" := by intro s; exact ⟨by kernel_rfl, by decide +kernel⟩
theorem nm_ll : NmOk "l.l" := by intro s; exact ⟨by kernel_rfl, by decide +kernel⟩
theorem nm_back : NmOk "back" := by intro s; exact ⟨by kernel_rfl, by decide +kernel⟩
theorem nm_s : NmOk "s" := by intro s; exact ⟨by kernel_rfl, by decide +kernel⟩
theorem nm_tt : NmOk "t.t" := by intro s; exact ⟨by kernel_rfl, by decide +kernel⟩
theorem par_ok {i j : Nat} {a : As} {x y : D} {ρ : En} {s s1 : S} (h : a ρ s = .ok [x, y] s1) : parS i j a ρ s = .nx ((ρ.set i (some (.v x))).set j (some (.v y))) s1 := by simp only [parS, h, R.stm]
theorem par3_ok {i j k : Nat} {a : As} {x y z : D} {ρ : En} {s s1 : S} (h : a ρ s = .ok [x, y, z] s1) : par3S i j k a ρ s = .nx (((ρ.set i (some (.v x))).set j (some (.v y))).set k (some (.v z))) s1 := by simp only [par3S, h, R.stm]
def strD (xs : List Tx) : D := .lst (xs.map D.str)
/-- one of some texts -/
theorem pickS_ok {zs : List Int} {s : S} {t r m : Int} {xs : List Tx} {a : As} {ρ : En} (hP : PlOk m t r) (hm : m < 100000) (h0 : xs ≠ []) (hl : xs.length < 100) (h1 : varE 0 ρ (Pl zs t r s) = .ok (.ref 0) (Pl zs t r s)) (h2 : lstE a ρ (Pl zs t r s) = .ok (strD xs) (Pl zs t r s)) :
    ∃ (x : Tx) (t' r' : Int), x ∈ xs ∧ PlOk (m + 1) t' r' ∧ callE f_l_pick (consA (varE 0) (consA (lstE a) nilA)) ρ (Pl zs t r s) = .ok (.str x) (Pl zs t' r' s) := by
  obtain ⟨i, d, t', r', e, hd, hP'⟩ := pick_ok (zs := zs) (s := s) (xs := xs.map D.str) hP hm (by simpa using h0) (by rw [List.length_map]; omega)
  rw [List.getElem?_map, Option.map_eq_some_iff] at hd
  obtain ⟨x, hx, rfl⟩ := hd
  exact ⟨x, t', r', List.mem_of_getElem? hx, hP', call_ok (cons_ok h1 (cons_ok h2 rfl)) e⟩
theorem drawN_ok {zs : List Int} {s : S} {t r m : Int} {n : Nat} {b : E} {ρ : En} (hP : PlOk m t r) (hm : m < 100000) (h0 : 0 < n) (hl : n < 1000) (h1 : varE 0 ρ (Pl zs t r s) = .ok (.ref 0) (Pl zs t r s)) (h2 : b ρ (Pl zs t r s) = .ok (nD n) (Pl zs t r s)) :
    ∃ (x : Nat) (t' r' : Int), x < n ∧ PlOk (m + 1) t' r' ∧ callE f_l_draw (consA (varE 0) (consA b nilA)) ρ (Pl zs t r s) = .ok (nD x) (Pl zs t' r' s) := by
  obtain ⟨v, t', r', e, v0, v1, hP'⟩ := draw_ok (zs := zs) (s := s) (n := (n : Int)) hP hm (by omega) (by
    have z : ((n : Int)).natAbs = n := by omega
    rw [z]
    exact Nat.lt_trans ((Nat.log2_lt (by omega)).mpr (Nat.lt_trans hl (by decide : 1000 < 2 ^ 10))) (by decide))
  have hv : v = ((v.toNat : Nat) : Int) := (Int.toNat_of_nonneg v0).symm
  refine ⟨v.toNat, t', r', by omega, hP', call_ok (cons_ok h1 (cons_ok h2 rfl)) ?_⟩
  have : f_l_draw [.ref 0, nD n] (Pl zs t r s) = .ok (.int v) (Pl zs t' r' s) := e
  rw [this]; unfold nD; rw [← hv]
abbrev pen (K nm lk w : Tx) (at_ one other : Nat) : En := [some (.v (.ref 0)), some (.v (nD at_)), some (.v (.str K)), some (.v (.str nm)), some (.v (.str lk)), some (.v (.str w)), some (.v (nD one)), some (.v (nD other))]
noncomputable def tailS : C := (seqS (b_l_part_4) (seqS (b_l_part_5) (seqS (b_l_part_6) (seqS (b_l_part_7) (seqS (b_l_part_8) b_l_part_9)))))
theorem dir_of {w : Tx} (h : w = "on" ∨ w = "on" ∨ w = "back") : ∃ b, w = dirT b := by
  rcases h with rfl | rfl | rfl
  · exact ⟨false, rfl⟩
  · exact ⟨false, rfl⟩
  · exact ⟨true, rfl⟩
theorem tail_ok {zs : List Int} {s : S} {t r m : Int} {K nm lk : Tx} {b : Bool} {at_ one other : Nat} (hP : PlOk m t r) (hm : m < 100000) (hn : NmOk nm) (hl : NmOk lk)
    (hK : K ∈ (["some", "word", "every", "both", "least", "either", "not", "top", "above", "thing", "nothing", "some"] : List Tx)) (h0 : K = "both" ∨ K = "either" ∨ K = "not" ∨ K = "some" ∨ K = "every" ∨ K = "least" ∨ K = "top" → one < at_ ∧ other < at_) :
    ∃ (p : Pt) (t' r' : Int), OkPt at_ p ∧ PlOk (m + 1) t' r' ∧ tailS (pen K nm lk (dirT b) at_ one other) (Pl zs t r s) = .rt p.d (Pl zs t' r' s) := by
  have hP1 : PlOk (m + 1) t r := ⟨hP.1, by have := hP.2.1; omega, hP.2.2⟩
  simp only [List.mem_cons, List.not_mem_nil, or_false] at hK
  have hsome : ∃ (p : Pt) (t' r' : Int), (one < at_ → OkPt at_ p) ∧ PlOk (m + 1) t' r' ∧ tailS (pen "some" nm lk (dirT b) at_ one other) (Pl zs t r s) = .rt p.d (Pl zs t' r' s) := ⟨.some lk b one, t, r, fun h => ⟨hl, h⟩, hP1, rfl⟩
  have two_ : ∀ K : Tx, K = "top" ∨ K = "above" → ∃ (sc : Tx) (t' r' : Int), NmOk sc ∧ PlOk (m + 1) t' r' ∧ tailS (pen K nm lk (dirT b) at_ one other) (Pl zs t r s) = .rt (.tup [.str K, .str sc, if K == "top" then nD one else .str nm]) (Pl zs t' r' s) := by
    intro K hK
    obtain ⟨x, t', r', hx, hP', e⟩ := pickS_ok (zs := zs) (s := s) (xs := ["s", "back"]) (a := (consA (conE (.str "s")) (consA (conE (.str "back")) nilA))) (ρ := pen K nm lk (dirT b) at_ one other) hP hm (by simp) (by decide) rfl rfl
    refine ⟨x, t', r', ?_, hP', ?_⟩
    · simp only [List.mem_cons, List.not_mem_nil, or_false] at hx
      rcases hx with rfl | rfl
      · exact nm_s
      · exact nm_back
    · have sk : tailS (pen K nm lk (dirT b) at_ one other) (Pl zs t r s) = b_l_part_9 (pen K nm lk (dirT b) at_ one other) (Pl zs t r s) := by rcases hK with rfl | rfl <;> rfl
      rw [sk]
      have el : ∀ s' : S, (ifE (tstE (binE eqD (borE 2) (conE (.str "top")))) (varE 6) (varE 3)) (pen K nm lk (dirT b) at_ one other) s' = .ok (if K == "top" then nD one else .str nm) s' := by intro s'; rcases hK with rfl | rfl <;> rfl
      exact ret_ok (tup_ok (cons_ok (x := .str K) rfl (cons_ok e (cons_ok (el _) rfl))) (szl_lt (Nat.le_of_ble_eq_true rfl)))
  rcases hK with rfl | rfl | rfl | rfl | rfl | rfl | rfl | rfl | rfl | rfl | rfl | rfl
  · obtain ⟨p, t', r', a, c, e⟩ := hsome; exact ⟨p, t', r', a (h0 (by simp)).1, c, e⟩
  · exact ⟨.word nm, t, r, hn, hP1, rfl⟩
  · exact ⟨.every lk b one, t, r, ⟨hl, (h0 (by simp)).1⟩, hP1, rfl⟩
  · exact ⟨.both one other, t, r, h0 (by simp), hP1, rfl⟩
  · obtain ⟨x, t', r', hx, hP', e⟩ := drawN_ok (zs := zs) (s := s) (n := 39) (b := conE (.int 39)) (ρ := pen "least" nm lk (dirT b) at_ one other) hP hm (by decide) (by decide) rfl rfl
    refine ⟨.least (2 + (x : Int)) lk b one, t', r', ⟨by omega, by omega, hl, (h0 (by simp)).1⟩, hP', ?_⟩
    have sk : tailS (pen "least" nm lk (dirT b) at_ one other) (Pl zs t r s) = seqS b_l_part_8 b_l_part_9 (pen "least" nm lk (dirT b) at_ one other) (Pl zs t r s) := rfl
    rw [sk]
    have et : tstE (binE eqD (borE 2) (conE (.str "least"))) (pen "least" nm lk (dirT b) at_ one other) (Pl zs t r s) = .ok true (Pl zs t r s) := rfl
    have ea : addD (.int 2) (nD x) (Pl zs t' r' s) = .ok (.int (2 + (x : Int))) (Pl zs t' r' s) := rfl
    refine seq_rt ?_
    unfold b_l_part_8
    rw [ifS_t et]
    exact ret_ok (tup_ok (cons_ok (x := .str "least") rfl (cons_ok (bin_ok (x := .int 2) (y := nD x) rfl e ea) (cons_ok (x := .str lk) rfl (cons_ok (x := .str (dirT b)) rfl (cons_ok (x := nD one) rfl rfl))))) (szl_lt (Nat.le_of_ble_eq_true rfl)))
  · exact ⟨.either one other, t, r, h0 (by simp), hP1, rfl⟩
  · exact ⟨.neg one, t, r, (h0 (by simp)).1, hP1, rfl⟩
  · obtain ⟨sc, t', r', a, c, e⟩ := two_ "top" (.inl rfl); exact ⟨.top sc one, t', r', ⟨a, (h0 (by simp)).1⟩, c, e⟩
  · obtain ⟨sc, t', r', a, c, e⟩ := two_ "above" (.inr rfl); exact ⟨.above sc nm, t', r', ⟨a, hn⟩, c, e⟩
  · exact ⟨.thing, t, r, trivial, hP1, rfl⟩
  · exact ⟨.nothing, t, r, trivial, hP1, rfl⟩
  · obtain ⟨p, t', r', a, c, e⟩ := hsome; exact ⟨p, t', r', a (h0 (by simp)).1, c, e⟩
def nms : List Tx := ["p", "a.b", "a", "on"]
def lks : List Tx := ["l", "a", "l.l", "back"]
theorem nms_ok : ∀ x ∈ nms, NmOk x := by
  intro x hx
  simp only [nms, List.mem_cons, List.not_mem_nil, or_false] at hx
  rcases hx with rfl | rfl | rfl | rfl
  · exact nm_p
  · exact nm_ab
  · exact nm_a
  · exact nm_on
theorem lks_ok : ∀ x ∈ lks, NmOk x := by
  intro x hx
  simp only [lks, List.mem_cons, List.not_mem_nil, or_false] at hx
  rcases hx with rfl | rfl | rfl | rfl
  · exact nm_l
  · exact nm_a
  · exact nm_ll
  · exact nm_back
theorem part_ok {zs : List Int} {s : S} {t r m : Int} {at_ : Nat} (hP : PlOk m t r) (hm : m < 90000) (ha : at_ < 900) : ∃ (p : Pt) (t' r' : Int), OkPt at_ p ∧ PlOk (m + 7) t' r' ∧ f_l_part [.ref 0, nD at_] (Pl zs t r s) = .ok p.d (Pl zs t' r' s) := by
  obtain ⟨K0, t1, r1, hK0, hP1, e0⟩ := pickS_ok (zs := zs) (s := s) (xs := ["some", "word", "every", "both", "least", "either", "not", "top", "above", "thing", "nothing", "some"]) (a := (consA (conE (.str "some")) (consA (conE (.str "word")) (consA (conE (.str "every")) (consA (conE (.str "both")) (consA (conE (.str "least")) (consA (conE (.str "either")) (consA (conE (.str "not")) (consA (conE (.str "top")) (consA (conE (.str "above")) (consA (conE (.str "thing")) (consA (conE (.str "nothing")) (consA (conE (.str "some")) nilA)))))))))))))
    (ρ := [some (.v (.ref 0)), some (.v (nD at_)), none, none, none, none, none, none]) hP (by omega) (by simp) (by decide) rfl rfl
  have E0 : b_l_part_0 [some (.v (.ref 0)), some (.v (nD at_)), none, none, none, none, none, none] (Pl zs t r s) = .nx [some (.v (.ref 0)), some (.v (nD at_)), some (.v (.str K0)), none, none, none, none, none] (Pl zs t1 r1 s) := set_ok e0
  obtain ⟨nm, t2, r2, hnm, hP2, e1⟩ := pickS_ok (zs := zs) (s := s) (xs := nms) (a := (consA (conE (.str "p")) (consA (conE (.str "a.b")) (consA (conE (.str "a")) (consA (conE (.str "on")) nilA))))) (ρ := [some (.v (.ref 0)), some (.v (nD at_)), some (.v (.str K0)), none, none, none, none, none]) hP1 (by omega) (by simp [nms]) (by decide) rfl rfl
  obtain ⟨lk, t3, r3, hlk, hP3, e2⟩ := pickS_ok (zs := zs) (s := s) (xs := lks) (a := (consA (conE (.str "l")) (consA (conE (.str "a")) (consA (conE (.str "l.l")) (consA (conE (.str "back")) nilA))))) (ρ := [some (.v (.ref 0)), some (.v (nD at_)), some (.v (.str K0)), none, none, none, none, none]) hP2 (by omega) (by simp [lks]) (by decide) rfl rfl
  have E1 : b_l_part_1 [some (.v (.ref 0)), some (.v (nD at_)), some (.v (.str K0)), none, none, none, none, none] (Pl zs t1 r1 s) = .nx [some (.v (.ref 0)), some (.v (nD at_)), some (.v (.str K0)), some (.v (.str nm)), some (.v (.str lk)), none, none, none] (Pl zs t3 r3 s) :=
    par_ok (cons_ok e1 (cons_ok e2 rfl))
  obtain ⟨w, t4, r4, hw, hP4, e3⟩ := pickS_ok (zs := zs) (s := s) (xs := ["on", "on", "back"]) (a := (consA (conE (.str "on")) (consA (conE (.str "on")) (consA (conE (.str "back")) nilA)))) (ρ := [some (.v (.ref 0)), some (.v (nD at_)), some (.v (.str K0)), some (.v (.str nm)), some (.v (.str lk)), none, none, none]) hP3 (by omega) (by simp) (by decide) rfl rfl
  have emx : ∀ s' : S, callE maxF (consA (conE (.int 1)) (consA (borE 1) nilA)) [some (.v (.ref 0)), some (.v (nD at_)), some (.v (.str K0)), some (.v (.str nm)), some (.v (.str lk)), none, none, none] s' = .ok (nD (max 1 at_)) s' := by
    intro s'
    refine call_ok (cons_ok (x := .int 1) rfl (cons_ok (x := nD at_) rfl rfl)) ?_
    show R.ok (D.int (if (at_ : Int) > 1 then (at_ : Int) else 1)) s' = _
    unfold nD
    congr 2
    split <;> omega
  obtain ⟨one, t5, r5, h1, hP5, e4⟩ := drawN_ok (zs := zs) (s := s) (n := max 1 at_) (b := callE maxF (consA (conE (.int 1)) (consA (borE 1) nilA))) (ρ := [some (.v (.ref 0)), some (.v (nD at_)), some (.v (.str K0)), some (.v (.str nm)), some (.v (.str lk)), none, none, none]) hP4 (by omega) (by omega) (by omega) rfl (emx _)
  obtain ⟨other, t6, r6, h2, hP6, e5⟩ := drawN_ok (zs := zs) (s := s) (n := max 1 at_) (b := callE maxF (consA (conE (.int 1)) (consA (borE 1) nilA))) (ρ := [some (.v (.ref 0)), some (.v (nD at_)), some (.v (.str K0)), some (.v (.str nm)), some (.v (.str lk)), none, none, none]) hP5 (by omega) (by omega) (by omega) rfl (emx _)
  have E2 : b_l_part_2 [some (.v (.ref 0)), some (.v (nD at_)), some (.v (.str K0)), some (.v (.str nm)), some (.v (.str lk)), none, none, none] (Pl zs t3 r3 s) = .nx (pen K0 nm lk w at_ one other) (Pl zs t6 r6 s) :=
    par3_ok (cons_ok e3 (cons_ok e4 (cons_ok e5 rfl)))
  obtain ⟨b, rfl⟩ := dir_of (by simpa using hw)
  -- a first part bears none
  have hK3 : ∃ K, K ∈ (["some", "word", "every", "both", "least", "either", "not", "top", "above", "thing", "nothing", "some"] : List Tx) ∧ (K = "both" ∨ K = "either" ∨ K = "not" ∨ K = "some" ∨ K = "every" ∨ K = "least" ∨ K = "top" → one < at_ ∧ other < at_) ∧
      b_l_part_3 (pen K0 nm lk (dirT b) at_ one other) (Pl zs t6 r6 s) = .nx (pen K nm lk (dirT b) at_ one other) (Pl zs t6 r6 s) := by
    by_cases h0 : at_ = 0
    · subst h0
      simp only [List.mem_cons, List.not_mem_nil, or_false] at hK0
      rcases hK0 with rfl | rfl | rfl | rfl | rfl | rfl | rfl | rfl | rfl | rfl | rfl | rfl
      · exact ⟨"word", by simp, fun h => absurd h (by decide), rfl⟩
      · exact ⟨"word", by simp, fun h => absurd h (by decide), rfl⟩
      · exact ⟨"word", by simp, fun h => absurd h (by decide), rfl⟩
      · exact ⟨"word", by simp, fun h => absurd h (by decide), rfl⟩
      · exact ⟨"word", by simp, fun h => absurd h (by decide), rfl⟩
      · exact ⟨"word", by simp, fun h => absurd h (by decide), rfl⟩
      · exact ⟨"word", by simp, fun h => absurd h (by decide), rfl⟩
      · exact ⟨"word", by simp, fun h => absurd h (by decide), rfl⟩
      · exact ⟨"above", by simp, fun h => absurd h (by decide), rfl⟩
      · exact ⟨"thing", by simp, fun h => absurd h (by decide), rfl⟩
      · exact ⟨"nothing", by simp, fun h => absurd h (by decide), rfl⟩
      · exact ⟨"word", by simp, fun h => absurd h (by decide), rfl⟩
    · refine ⟨K0, hK0, fun _ => by omega, ?_⟩
      have et : tstE (binE eqD (borE 1) (conE (.int 0))) (pen K0 nm lk (dirT b) at_ one other) (Pl zs t6 r6 s) = .ok false (Pl zs t6 r6 s) := by
        refine tst_ok (bin_ok (x := nD at_) (y := .int 0) rfl rfl ?_)
        have : ((at_ : Int) == 0) = false := by simpa using h0
        show R.ok (D.bl ((at_ : Int) == 0)) _ = _
        rw [this]
      unfold b_l_part_3
      rw [ifS_f (and_f et)]
      rfl
  obtain ⟨K, hK, hc, E3⟩ := hK3
  obtain ⟨p, t7, r7, hp, hP7, E4⟩ := tail_ok (zs := zs) (s := s) (b := b) hP6 (by omega) (nms_ok nm hnm) (lks_ok lk hlk) hK hc
  refine ⟨p, t7, r7, hp, ?_, ?_⟩
  · have : m + 1 + 1 + 1 + 1 + 1 + 1 + 1 = m + 7 := by omega
    rw [← this]; exact hP7
  · show fin (b_l_part [some (.v (.ref 0)), some (.v (nD at_)), none, none, none, none, none, none] (Pl zs t r s)) = _
    unfold b_l_part
    rw [seq_nx E0, seq_nx E1, seq_nx E2, seq_nx E3]
    show fin (tailS _ _) = _
    rw [E4]; rfl
end K13

namespace K13
open PySem PySem.Spec L2 Fv
/-! ### roads -/
def addI (l : List Int) (x : Int) : List Int := if x ∈ l then l else l ++ [x]
def uI (l : List Int) : List Int := l.foldl addI []
theorem addK_int (l : List Int) (x : Int) : addK (l.map Sum.inl) (.inl x) = (addI l x).map Sum.inl := by
  have h : hasK (l.map (Sum.inl : Int → Key)) (.inl x) = true ↔ x ∈ l := by
    rw [hasK_in]; simp
  unfold addK addI
  by_cases hx : x ∈ l
  · rw [if_pos (h.mpr hx), if_pos hx]
  · rw [if_neg (fun z => hx (h.mp z)), if_neg hx]; simp
theorem foldK_int (xs : List Int) : foldK (xs.map Sum.inl) = (uI xs).map Sum.inl := by
  have : ∀ (xs l : List Int), (xs.map (Sum.inl : Int → Key)).foldl addK (l.map Sum.inl) = (xs.foldl addI l).map Sum.inl := by
    intro xs
    induction xs with
    | nil => intro l; rfl
    | cons x xs ih => intro l; rw [List.map_cons, List.foldl_cons, addK_int, ih, List.foldl_cons]
  exact this xs []
theorem uI_aux (xs : List Int) : ∀ l : List Int, l.Nodup → (xs.foldl addI l).Nodup ∧ ∀ x, x ∈ xs.foldl addI l ↔ x ∈ l ∨ x ∈ xs := by
  induction xs with
  | nil => intro l h; exact ⟨h, fun x => by simp⟩
  | cons y xs ih =>
    intro l h
    have h2 : (addI l y).Nodup := by
      unfold addI; split
      · exact h
      · rename_i hy
        rw [List.nodup_append]
        exact ⟨h, by simp, fun a ha b hb => by simp at hb; subst hb; exact fun z => hy (z ▸ ha)⟩
    have h3 : ∀ x, x ∈ addI l y ↔ x ∈ l ∨ x = y := by
      intro x; unfold addI; split
      · rename_i hy
        exact ⟨.inl, fun z => z.elim id fun z => z ▸ hy⟩
      · simp
    obtain ⟨a, b⟩ := ih _ h2
    refine ⟨a, fun x => ?_⟩
    rw [List.foldl_cons, b, h3]
    simp [or_assoc]
theorem keysD_int : ∀ xs : List Int, keysD (xs.map D.int) = some (xs.map Sum.inl)
  | [] => rfl
  | x :: xs => by simp [keysD, keyD, keysD_int xs]
theorem ints_of : ∀ xs : List Int, intsOf (xs.map D.int) = some xs
  | [] => rfl
  | x :: xs => by simp [intsOf, ints_of xs]
/-- links from lo on, with hi the greatest of them -/
structure Rd (lo hi : Int) (ns : List Int) : Prop where
  top : hi ∈ ns
  bd : ∀ x ∈ ns, lo ≤ x ∧ x ≤ hi
  nd : ns.Nodup
theorem Rd.len {lo hi : Int} {ns : List Int} (h : Rd lo hi ns) (hd : hi < lo + 40) : ns.length ≤ 40 := by
  have sub : ns ⊆ (List.range 40).map fun i : Nat => lo + (i : Int) := by
    intro x hx
    obtain ⟨a, b⟩ := h.bd x hx
    exact List.mem_map.mpr ⟨(x - lo).toNat, List.mem_range.mpr (by omega), by omega⟩
  have := h.nd.length_le_of_subset sub
  simpa using this
theorem sorted_ints {xs : List Int} {s : S} (h : xs.length ≤ 100) (h2 : (uI xs).length < 64) : ∃ ns : List Int, (∀ x, x ∈ ns ↔ x ∈ xs) ∧ ns.Nodup ∧ callE sortedF (consA (callE set2F (consA (conE (.lst (xs.map D.int))) nilA)) nilA) [] s = .ok (.lst (ns.map D.int)) s := by
  have k1 : set2F [.lst (xs.map D.int)] s = .ok (.set ((uI xs).map D.int)) s := by
    have h1 : decide ((xs.map (Sum.inl : Int → Key)).length < 1000) = true := decide_eq_true (by rw [List.length_map]; omega)
    have h3 : ((uI xs).map (Sum.inl : Int → Key)).map kD = (uI xs).map D.int := by rw [List.map_map]; rfl
    show setF [.lst (xs.map D.int)] s = _
    simp only [setF, lsOf, keysD_int, h1, if_true, foldK_int, h3]
  have k2 : sortedF [.set ((uI xs).map D.int)] s = .ok (.lst ((sortI (uI xs)).map D.int)) s := by
    have h3 : decide ((uI xs).length < 64) = true := decide_eq_true h2
    simp only [sortedF, ints_of, h3, if_true]
  have pm : (sortI (uI xs)).Perm (uI xs) := List.mergeSort_perm _ _
  obtain ⟨n1, m1⟩ := uI_aux xs [] List.nodup_nil
  refine ⟨sortI (uI xs), fun x => ?_, pm.nodup_iff.mpr n1, call_ok (cons_ok (call_ok (cons_ok (x := .lst (xs.map D.int)) rfl rfl) k1) rfl) k2⟩
  rw [pm.mem_iff, uI, m1]; simp
theorem call_move {f : Fn} {a a' : As} {ρ ρ' : En} {s : S} {xs : List D} {z : D} (h : a ρ s = .ok xs s) (h' : a' ρ' s = .ok xs s) (e : callE f a ρ s = .ok z s) : callE f a' ρ' s = .ok z s := by
  simp only [callE, h, R.bind] at e
  simp only [callE, h', R.bind, e]
/-- the depth of a part -/
def dpt (md : List Pt) (i : Nat) : Nat := (evs depF md).getD i 0
theorem dpt_get {md : List Pt} {i : Nat} (h : i < md.length) : (evs depF md)[i]? = some (dpt md i) := by
  have : i < (evs depF md).length := by rw [evs_len]; exact h
  simp [dpt, List.getD, List.getElem?_eq_getElem this]
theorem dpt_eq {md : List Pt} (hw : WF md) {i : Nat} {p : Pt} (h : md[i]? = some p) : dpt md i = mxN (p.kids.map (dpt md)) + p.lk := by
  have hi : i < md.length := (List.getElem?_eq_some_iff.mp h).1
  have e := evs_get (f := depF) hw h
  rw [dpt_get hi] at e
  have e : dpt md i = mxN (p.kids.filterMap ((evs depF md)[·]?)) + p.lk := Option.some.inj e
  rw [e]
  have : p.kids.filterMap ((evs depF md)[·]?) = p.kids.map (dpt md) := by
    have hk : ∀ c ∈ p.kids, c < (evs depF md).length := fun c hc => by rw [evs_len]; exact Nat.lt_trans (hw i p h c hc) hi
    rw [fm_get _ _ hk]; rfl
  rw [this]
theorem dpt_le {md : List Pt} (hw : WF md) : ∀ (i : Nat), i < md.length → dpt md i ≤ i := by
  intro i
  induction i using Nat.strongRecOn with
  | ind i ih =>
    intro hi
    have hp : md[i]? = some md[i] := List.getElem?_eq_getElem hi
    generalize md[i] = p at hp
    rw [dpt_eq hw hp]
    have hk := hw i _ hp
    clear hp
    cases p <;> simp only [Pt.kids, Pt.lk, List.map_cons, List.map_nil, mxN, List.foldr_cons, List.foldr_nil, List.mem_cons, List.not_mem_nil, or_false] at hk ⊢ <;> first
      | omega
      | (have h1 := hk _ rfl; have := ih _ h1 (by omega); omega)
      | (have h1 := hk _ (.inl rfl); have h2 := hk _ (.inr rfl); have := ih _ h1 (by omega); have := ih _ h2 (by omega); omega)
abbrev ren (rows : D) (at_ links : Nat) (p : Option Sl) : En := [some (.v rows), some (.v (nD at_)), some (.v (nD links)), p]
theorem roads_ok {md : List Pt} (hw : WF md) (hN : md.length ≤ 30) (s : S) : ∀ (n at_ links : Nat), at_ < md.length → at_ < n → ∃ ns, Rd links (links + dpt md at_ : Nat) ns ∧ f_l_roads n [.lst (md.map Pt.d), nD at_, nD links] s = .ok (.lst (ns.map D.int)) s
  | 0, _, _, _, h => absurd h (Nat.not_lt_zero _)
  | n + 1, at_, links, ha, hn => by
    have hp : md[at_]? = some md[at_] := List.getElem?_eq_getElem ha
    generalize hpp : md[at_] = p at hp
    have start : f_l_roads (n + 1) [.lst (md.map Pt.d), nD at_, nD links] s = fin (b_l_roads (f_l_roads n) (ren (.lst (md.map Pt.d)) at_ links none) s) := rfl
    have e0 : b_l_roads_0 (f_l_roads n) (ren (.lst (md.map Pt.d)) at_ links none) s = .nx (ren (.lst (md.map Pt.d)) at_ links (some (.v p.d))) s :=
      set_ok (bin_ok (x := .lst (md.map Pt.d)) (y := nD at_) rfl rfl (idx_ok (at_n (xs := md.map Pt.d) (by rw [List.getElem?_map, hp]; rfl))))
    have hk := hw at_ p hp
    have de := dpt_eq hw hp
    have fin1 : ∀ ns, Rd links (links + dpt md at_ : Nat) ns → (seqS (b_l_roads_1 (f_l_roads n)) (seqS (b_l_roads_2 (f_l_roads n)) (b_l_roads_3 (f_l_roads n)))) (ren (.lst (md.map Pt.d)) at_ links (some (.v p.d))) s = .rt (.lst (ns.map D.int)) s →
        ∃ ns, Rd links (links + dpt md at_ : Nat) ns ∧ f_l_roads (n + 1) [.lst (md.map Pt.d), nD at_, nD links] s = .ok (.lst (ns.map D.int)) s := by
      intro ns h1 h2
      refine ⟨ns, h1, ?_⟩
      rw [start]
      unfold b_l_roads
      rw [seq_nx e0, h2]; rfl
    -- a part that bears none
    have leaf : p.kids = [] → p.lk = 0 → (seqS (b_l_roads_1 (f_l_roads n)) (seqS (b_l_roads_2 (f_l_roads n)) (b_l_roads_3 (f_l_roads n)))) (ren (.lst (md.map Pt.d)) at_ links (some (.v p.d))) s = .rt (.lst ([(links : Int)].map D.int)) s → (∃ ns, Rd links (links + dpt md at_ : Nat) ns ∧ f_l_roads (n + 1) [.lst (md.map Pt.d), nD at_, nD links] s = .ok (.lst (ns.map D.int)) s) := fun h1 h2 h3 => fin1 [(links : Int)] (by
      have : dpt md at_ = 0 := by rw [de, h1, h2]; rfl
      rw [this]
      exact ⟨by simp, fun x hx => by simp at hx; omega, by simp⟩) h3
    -- one that bears one
    have one : ∀ c : Nat, p.kids = [c] → (∀ F : Fn, (seqS (b_l_roads_1 F) (seqS (b_l_roads_2 F) (b_l_roads_3 F))) (ren (.lst (md.map Pt.d)) at_ links (some (.v p.d))) s = b_l_roads_3 F (ren (.lst (md.map Pt.d)) at_ links (some (.v p.d))) s) →
        idxS s p.d (.int (-1)) = some (nD c) → (binE addD (borE 2) (callE intF (consA (binE inD (binE idxD (borE 3) (conE (.int 0))) (tupE (consA (conE (.str "some")) (consA (conE (.str "every")) (consA (conE (.str "least")) nilA))))) nilA))) (ren (.lst (md.map Pt.d)) at_ links (some (.v p.d))) s = .ok (nD (links + p.lk)) s → (∃ ns, Rd links (links + dpt md at_ : Nat) ns ∧ f_l_roads (n + 1) [.lst (md.map Pt.d), nD at_, nD links] s = .ok (.lst (ns.map D.int)) s) := fun c h1 h2 h3 h4 => by
      have hc : c < at_ := hk c (by rw [h1]; simp)
      obtain ⟨ns, r1, r2⟩ := roads_ok hw hN s n c (links + p.lk) (by omega) (by omega)
      have hd : dpt md at_ = dpt md c + p.lk := by rw [de, h1]; simp [mxN]
      refine fin1 ns ?_ ?_
      · rw [hd]
        refine ⟨?_, fun x hx => ?_, r1.nd⟩
        · have := r1.top
          rw [show links + (dpt md c + p.lk) = links + p.lk + dpt md c by omega]; exact this
        · have := r1.bd x hx
          omega
      · rw [h2]
        have bp : borE 3 (ren (.lst (md.map Pt.d)) at_ links (some (.v p.d))) s = .ok p.d s := by cases p <;> rfl
        exact ret_ok (call_ok (cons_ok (x := .lst (md.map Pt.d)) rfl (cons_ok (bin_ok (x := p.d) (y := .int (-1)) bp rfl (idx_ok h3)) (cons_ok h4 rfl))) r2)
    have pair : ∀ i j : Nat, p.kids = [i, j] → p.lk = 0 → (∀ F : Fn, (seqS (b_l_roads_1 F) (seqS (b_l_roads_2 F) (b_l_roads_3 F))) (ren (.lst (md.map Pt.d)) at_ links (some (.v p.d))) s = seqS (retS (callE sortedF (consA (callE set2F (consA (binE addD (callE F (consA (varE 0) (consA (binE idxD (borE 3) (conE (.int 1))) (consA (varE 2) nilA)))) (callE F (consA (varE 0) (consA (binE idxD (borE 3) (conE (.int 2))) (consA (varE 2) nilA))))) nilA)) nilA))) (b_l_roads_3 F) (ren (.lst (md.map Pt.d)) at_ links (some (.v p.d))) s) →
        idxS s p.d (.int 1) = some (nD i) → idxS s p.d (.int 2) = some (nD j) → (∃ ns, Rd links (links + dpt md at_ : Nat) ns ∧ f_l_roads (n + 1) [.lst (md.map Pt.d), nD at_, nD links] s = .ok (.lst (ns.map D.int)) s) := fun i j h1 h0 h2 h3 h4 => by
      have hi : i < at_ := hk i (by rw [h1]; simp)
      have hj : j < at_ := hk j (by rw [h1]; simp)
      obtain ⟨n1, a1, a2⟩ := roads_ok hw hN s n i links (by omega) (by omega)
      obtain ⟨n2, b1, b2⟩ := roads_ok hw hN s n j links (by omega) (by omega)
      have d1 := dpt_le hw i (by omega)
      have d2 := dpt_le hw j (by omega)
      have l1 := a1.len (by omega)
      have l2 := b1.len (by omega)
      have hd : dpt md at_ = max (dpt md i) (dpt md j) := by rw [de, h1, h0]; simp [mxN]
      have bd : ∀ x ∈ n1 ++ n2, (links : Int) ≤ x ∧ x ≤ (links + dpt md at_ : Nat) := fun x hx => by
        rcases List.mem_append.mp hx with hx | hx
        · have := a1.bd x hx; omega
        · have := b1.bd x hx; omega
      obtain ⟨nu, mu⟩ := uI_aux (n1 ++ n2) [] List.nodup_nil
      have lu : (uI (n1 ++ n2)).length ≤ 40 := by
        have sub : uI (n1 ++ n2) ⊆ (List.range 40).map fun i : Nat => (links : Int) + (i : Int) := by
          intro x hx
          have hx2 : x ∈ n1 ++ n2 := by have := (mu x).mp hx; simpa using this
          obtain ⟨a, b⟩ := bd x hx2
          exact List.mem_map.mpr ⟨(x - links).toNat, List.mem_range.mpr (by omega), by omega⟩
        have := nu.length_le_of_subset sub
        rw [List.length_map, List.length_range] at this
        exact this
      obtain ⟨ns, m1, m2, e⟩ := sorted_ints (xs := n1 ++ n2) (s := s) (by rw [List.length_append]; omega) (by omega)
      refine fin1 ns ⟨?_, fun x hx => bd x ((m1 x).mp hx), m2⟩ ?_
      · rw [m1, hd, List.mem_append]
        rcases Nat.le_total (dpt md i) (dpt md j) with h | h
        · right; rw [Nat.max_eq_right h]; exact b1.top
        · left; rw [Nat.max_eq_left h]; exact a1.top
      · rw [h2]
        have bp : borE 3 (ren (.lst (md.map Pt.d)) at_ links (some (.v p.d))) s = .ok p.d s := by cases p <;> rfl
        have c1 : callE (f_l_roads n) (consA (varE 0) (consA (binE idxD (borE 3) (conE (.int 1))) (consA (varE 2) nilA))) (ren (.lst (md.map Pt.d)) at_ links (some (.v p.d))) s = .ok (.lst (n1.map D.int)) s :=
          call_ok (cons_ok (x := .lst (md.map Pt.d)) rfl (cons_ok (bin_ok (x := p.d) (y := .int 1) bp rfl (idx_ok h3)) (cons_ok (x := nD links) rfl rfl))) a2
        have c2 : callE (f_l_roads n) (consA (varE 0) (consA (binE idxD (borE 3) (conE (.int 2))) (consA (varE 2) nilA))) (ren (.lst (md.map Pt.d)) at_ links (some (.v p.d))) s = .ok (.lst (n2.map D.int)) s :=
          call_ok (cons_ok (x := .lst (md.map Pt.d)) rfl (cons_ok (bin_ok (x := p.d) (y := .int 2) bp rfl (idx_ok h4)) (cons_ok (x := nD links) rfl rfl))) b2
        have hz : szl ((n1.map D.int).length + (n2.map D.int).length) = true := szl_lt (by rw [List.length_map, List.length_map]; omega)
        have ad : addD (.lst (n1.map D.int)) (.lst (n2.map D.int)) s = .ok (.lst ((n1 ++ n2).map D.int)) s := by
          show (if szl ((n1.map D.int).length + (n2.map D.int).length) then R.ok (D.lst (n1.map D.int ++ n2.map D.int)) s else .bad) = _
          rw [hz, List.map_append]; rfl
        have c3 := bin_ok c1 c2 ad
        simp only [callE, consA, nilA, conE, R.bind] at e
        have e2 : callE sortedF (consA (callE set2F (consA (binE addD (callE (f_l_roads n) (consA (varE 0) (consA (binE idxD (borE 3) (conE (.int 1))) (consA (varE 2) nilA)))) (callE (f_l_roads n) (consA (varE 0) (consA (binE idxD (borE 3) (conE (.int 2))) (consA (varE 2) nilA))))) nilA)) nilA) (ren (.lst (md.map Pt.d)) at_ links (some (.v p.d))) s = .ok (.lst (ns.map D.int)) s := by
          have q : ∀ a : E, a (ren (.lst (md.map Pt.d)) at_ links (some (.v p.d))) s = .ok (.lst ((n1 ++ n2).map D.int)) s → callE sortedF (consA (callE set2F (consA a nilA)) nilA) (ren (.lst (md.map Pt.d)) at_ links (some (.v p.d))) s = .ok (.lst (ns.map D.int)) s := by
            intro a ha
            simp only [callE, consA, nilA, R.bind, ha]
            exact e
          exact q _ c3
        exact seq_rt (ret_ok e2)
    cases p with
    | thing => exact leaf rfl rfl rfl
    | nothing => exact leaf rfl rfl rfl
    | word w => exact leaf rfl rfl rfl
    | above a b => exact leaf rfl rfl rfl
    | both i j => exact pair i j rfl rfl (fun F => rfl) rfl rfl
    | either i j => exact pair i j rfl rfl (fun F => rfl) rfl rfl
    | neg i => exact one i rfl (fun F => rfl) rfl (by show R.ok (D.int ((links : Int) + 0)) s = _; simp [nD, Pt.lk])
    | some l b i => exact one i rfl (fun F => rfl) rfl (by show R.ok (D.int ((links : Int) + 1)) s = _; rfl)
    | every l b i => exact one i rfl (fun F => rfl) rfl (by show R.ok (D.int ((links : Int) + 1)) s = _; rfl)
    | least m l b i => exact one i rfl (fun F => rfl) rfl (by show R.ok (D.int ((links : Int) + 1)) s = _; rfl)
    | top a i => exact one i rfl (fun F => rfl) rfl (by show R.ok (D.int ((links : Int) + 0)) s = _; simp [nD, Pt.lk])
end K13

namespace K13
open PySem PySem.Spec L2 Fv
/-! ### what is compared -/
theorem eqB_self {s : S} {x : D} {p : PyData} (h0 : scE x x = none) (h1 : toP s x = some p) (h2 : SeqAt.shaped p = true) : eqB s x x = some true := by
  have h3 : PyData.eqv p p = true := SeqAt.eqv_refl p (by
    unfold SeqAt.shaped at h2
    rw [Bool.and_eq_true] at h2
    exact h2.1)
  simp only [eqB, h0, h1, h2, Bool.and_self, if_true, h3]
theorem toPws_str (rf : Nat → Option PyData) : ∀ xs : List Tx, toPws rf (xs.map D.str) = some (xs.map PyData.str)
  | [] => rfl
  | x :: xs => by simp [toPws, toPw, toPws_str rf xs]
theorem lay_str : ∀ xs : List Tx, (∀ x ∈ xs, PyData.strOk x = true) → PyData.canLayAll0 (xs.map PyData.str) = true ∧ PyData.depthAll (xs.map PyData.str) = 0
  | [], _ => by simp [PyData.canLayAll0, PyData.depthAll]
  | x :: xs, h => by
    have h1 := h x (by simp)
    have h2 := lay_str xs fun y hy => h y (List.mem_cons_of_mem _ hy)
    simp [PyData.canLayAll0, PyData.depthAll, PyData.canLay0, PyData.depth, h1, h2]
theorem ne_strs {s : S} (xs : List Tx) (h : ∀ x ∈ xs, PyData.strOk x = true) : neD (.tup (xs.map D.str)) (.tup (xs.map D.str)) s = .ok (.bl false) s := by
  have h1 : toP s (.tup (xs.map D.str)) = some (.tuple (xs.map PyData.str)) := by simp [toP, toPw, toPws_str]
  have h2 : SeqAt.shaped (.tuple (xs.map PyData.str)) = true := by simp [SeqAt.shaped, PyData.canLay0, PyData.depth, lay_str xs h]
  simp only [neD, eqB_self rfl h1 h2]
  rfl
theorem ne_nat {s : S} (a : Nat) : neD (nD a) (nD a) s = .ok (.bl false) s := by
  have : eqB s (nD a) (nD a) = some true := by
    show some ((a : Int) == (a : Int)) = _
    simp
  simp only [neD, this]; rfl
theorem ne_bl {s : S} (a : Bool) : neD (.bl a) (.bl a) s = .ok (.bl false) s := by cases a <;> rfl
theorem ne_ints {s : S} (xs : List Int) : neD (.lst (xs.map D.int)) (.lst (xs.map D.int)) s = .ok (.bl false) s := by
  have h1 : toP s (.lst (xs.map D.int)) = some (.list (xs.map PyData.int)) := by simp [toP, toPw, toPws_ints]
  simp only [neD, eqB_self rfl h1 (shaped_ints xs)]
  rfl
theorem eq_ints {s : S} (xs : List Int) : eqD (.lst (xs.map D.int)) (.lst (xs.map D.int)) s = .ok (.bl true) s := by
  have h1 : toP s (.lst (xs.map D.int)) = some (.list (xs.map PyData.int)) := by simp [toP, toPw, toPws_ints]
  simp only [eqD, eqB_self rfl h1 (shaped_ints xs)]
theorem ne_bls {s : S} (a : Bool) : neD (.lst [.bl a, .bl a, .bl a]) (.lst [.bl a, .bl a, .bl a]) s = .ok (.bl false) s := by cases a <;> rfl
theorem dir_str (b : Bool) : PyData.strOk (dirT b) = true := by cases b <;> decide +kernel
theorem kind_str (p : Pt) : PyData.strOk p.kind = true := by cases p <;> (simp only [Pt.kind]; decide +kernel)
theorem nm_str {w : Tx} (h : NmOk w) : PyData.strOk w = true := (h []).2
theorem part_py (rf : Nat → Option PyData) {n : Nat} (p : Pt) (h : OkPt n p) : ∃ q, toPw rf p.d = some q ∧ q.canLay0 = true ∧ q.depth ≤ 1 := by
  have hk := kind_str p
  cases p <;> simp only [OkPt, Pt.kind] at h hk
  · exact ⟨_, rfl, by simp [PyData.canLay0, PyData.canLayAll0, hk], by simp [PyData.depth, PyData.depthAll]⟩
  · exact ⟨_, rfl, by simp [PyData.canLay0, PyData.canLayAll0, hk], by simp [PyData.depth, PyData.depthAll]⟩
  · exact ⟨_, rfl, by simp [PyData.canLay0, PyData.canLayAll0, hk, nm_str h], by simp [PyData.depth, PyData.depthAll]⟩
  · exact ⟨_, rfl, by simp [PyData.canLay0, PyData.canLayAll0, hk], by simp [PyData.depth, PyData.depthAll]⟩
  · exact ⟨_, rfl, by simp [PyData.canLay0, PyData.canLayAll0, hk], by simp [PyData.depth, PyData.depthAll]⟩
  · exact ⟨_, rfl, by simp [PyData.canLay0, PyData.canLayAll0, hk], by simp [PyData.depth, PyData.depthAll]⟩
  · exact ⟨_, rfl, by simp [PyData.canLay0, PyData.canLayAll0, hk, nm_str h.1, dir_str], by simp [PyData.depth, PyData.depthAll]⟩
  · exact ⟨_, rfl, by simp [PyData.canLay0, PyData.canLayAll0, hk, nm_str h.1, dir_str], by simp [PyData.depth, PyData.depthAll]⟩
  · exact ⟨_, rfl, by simp [PyData.canLay0, PyData.canLayAll0, hk, nm_str h.2.2.1, dir_str], by simp [PyData.depth, PyData.depthAll]⟩
  · exact ⟨_, rfl, by simp [PyData.canLay0, PyData.canLayAll0, hk, nm_str h.1], by simp [PyData.depth, PyData.depthAll]⟩
  · exact ⟨_, rfl, by simp [PyData.canLay0, PyData.canLayAll0, hk, nm_str h.1, nm_str h.2], by simp [PyData.depth, PyData.depthAll]⟩
theorem parts_py (rf : Nat → Option PyData) : ∀ md : List Pt, (∀ p ∈ md, ∃ n, OkPt n p) → ∃ qs, toPws rf (md.map Pt.d) = some qs ∧ qs.length = md.length ∧ PyData.canLayAll0 qs = true ∧ PyData.depthAll qs ≤ 1
  | [], _ => ⟨[], rfl, rfl, by simp [PyData.canLayAll0], by simp [PyData.depthAll]⟩
  | p :: md, h => by
    obtain ⟨n, hn⟩ := h p (by simp)
    obtain ⟨q, a1, a2, a3⟩ := part_py rf p hn
    obtain ⟨qs, b1, b2, b3, b4⟩ := parts_py rf md fun y hy => h y (List.mem_cons_of_mem _ hy)
    refine ⟨q :: qs, by simp [toPws, a1, b1], by simp [b2], by simp [PyData.canLayAll0, a2, b3], ?_⟩
    simp only [PyData.depthAll]
    omega
theorem strs_str {c : Tx} {md : List Pt} (h : Ok md) : ∀ x ∈ canon (md.flatMap (Pt.strs c)), PyData.strOk x = true := by
  intro x hx
  rw [mem_canon, List.mem_flatMap] at hx
  obtain ⟨p, hp, hx⟩ := hx
  obtain ⟨i, hi⟩ := List.getElem?_of_mem hp
  have ok := h i p hi
  have one : ∀ q ∈ p.prs, ∀ y : Tx, q.1 = .str y → PyData.strOk y = true := by
    intro q hq y hy
    cases p <;> simp only [OkPt, Pt.prs, List.mem_cons, List.not_mem_nil, or_false] at ok hq <;> first
      | (subst hq; cases hy; exact nm_str ok)
      | (subst hq; cases hy; done)
      | (rcases hq with rfl | rfl <;> cases hy <;> first | exact nm_str ok.1 | exact nm_str ok.2)
      | (rcases hq with rfl | rfl | rfl <;> cases hy <;> first | exact nm_str ok.1 | exact dir_str _)
      | (rcases hq with rfl | rfl | rfl | rfl <;> cases hy <;> first | exact nm_str ok.2.2.1 | exact dir_str _)
  simp only [Pt.strs, List.mem_filterMap, List.mem_filter] at hx
  obtain ⟨q, ⟨hq, _⟩, e⟩ := hx
  split at e
  · rename_i y hy
    cases e
    exact one q hq _ hy
  · cases e
theorem ne_nil_parts {s : S} (md : List Pt) (h : ∀ p ∈ md, ∃ n, OkPt n p) : neD (.lst (md.map Pt.d)) (.lst []) s = .ok (.bl (!md.isEmpty)) s := by
  obtain ⟨qs, b1, b2, b3, b4⟩ := parts_py (rfN 60 s) md h
  have t1 : toP s (.lst (md.map Pt.d)) = some (.list qs) := by simp [toP, toPw, b1]
  have t2 : toP s (.lst []) = some (.list []) := by simp [toP, toPw, toPws]
  have s1 : SeqAt.shaped (.list qs) = true := by
    simp [SeqAt.shaped, PyData.canLay0, PyData.depth, b3]
    omega
  have s2 : SeqAt.shaped (.list []) = true := shaped_ints []
  have sc : scE (.lst (md.map Pt.d)) (.lst []) = none := rfl
  simp only [neD, eqB, sc, t1, t2, s1, s2, Bool.and_self, if_true]
  cases md with
  | nil => rw [List.length_nil, List.length_eq_zero_iff] at b2; subst b2; rfl
  | cons p md =>
    cases qs with
    | nil => cases b2
    | cons q qs => simp [PyData.eqv, PyData.eqvAll]
/-! ### names at a spot -/
theorem named_ok {md : List Pt} {ks : List Tx} {spot : Int} {g : Pt → Tx} {s : S} (hN : md.length ≤ 100) (hg : ∀ p ∈ md, (ks.any fun x => x == p.kind) = true → idxS s p.d (.int spot) = some (.str (g p))) :
    f_l_named [.lst (md.map Pt.d), .tup (ks.map D.str), .int spot] s = .ok (.tup ((canon ((md.filter fun p => ks.any fun x => x == p.kind).map g)).map D.str)) s := by
  have z := lc_map (t := .nm 3) (c := tstE (binE inD (binE idxD (borE 3) (conE (.int 0))) (borE 1))) (e := binE idxD (borE 3) (borE 2)) (ρ := [some (.v (.lst (md.map Pt.d))), some (.v (.tup (ks.map D.str))), some (.v (.int spot)), none]) (s := s)
    Pt.d (fun p => ks.any fun x => x == p.kind) (fun p => D.str (g p)) md [] (fun p hp => by
      have bp : borE 3 [some (.v (.lst (md.map Pt.d))), some (.v (.tup (ks.map D.str))), some (.v (.int spot)), some (.v p.d)] s = .ok p.d s := by cases p <;> rfl
      refine ⟨[some (.v (.lst (md.map Pt.d))), some (.v (.tup (ks.map D.str))), some (.v (.int spot)), some (.v p.d)], rfl, ?_, fun h => ?_⟩
      · exact tst_ok (bin_ok (x := .str p.kind) (y := .tup (ks.map D.str)) (bin_ok (x := p.d) (y := .int 0) bp rfl (idx_ok (kind_d p))) rfl (in_strs _ _ _))
      · exact bin_ok (x := p.d) (y := .int spot) bp rfl (idx_ok (hg p hp h))) (by simp; omega)
  generalize hl : md.filter (fun p => ks.any fun x => x == p.kind) = l at z
  have ll : l.length ≤ md.length := by rw [← hl]; exact List.length_filter_le ..
  rw [List.nil_append, show (l.map fun p => D.str (g p)) = (l.map g).map D.str by rw [List.map_map]; rfl] at z
  have k1 := lcE_ok (vs := [3]) (iter_ok (a := borE 0) (ρ := [some (.v (.lst (md.map Pt.d))), some (.v (.tup (ks.map D.str))), some (.v (.int spot)), none]) (xs := md.map Pt.d) (s := s) rfl) z
  have k2 := set2_strs (xs := l.map g) (s := s) (by rw [List.length_map]; omega)
  have k3 := sorted_set (xs := uS (l.map g)) (s := s) (by have := uS_len (l.map g); rw [List.length_map] at this; omega)
  have e1 : b_l_named [some (.v (.lst (md.map Pt.d))), some (.v (.tup (ks.map D.str))), some (.v (.int spot)), none] s = .rt (.tup ((canon (l.map g)).map D.str)) s :=
    ret_ok (call_ok (cons_ok (call_ok (cons_ok (call_ok (cons_ok k1 rfl) k2) rfl) k3) rfl) rfl)
  show fin (b_l_named [some (.v (.lst (md.map Pt.d))), some (.v (.tup (ks.map D.str))), some (.v (.int spot)), none] s) = _
  rw [e1]; rfl
theorem mem_sel {md : List Pt} {c : Tx} {sel : Pt → Bool} {g : Pt → Tx} (h : ∀ p : Pt, p.strs c = if sel p then [g p] else []) (x : Tx) : x ∈ md.flatMap (Pt.strs c) ↔ x ∈ (md.filter sel).map g := by
  simp only [List.mem_flatMap, List.mem_map, List.mem_filter]
  constructor
  · rintro ⟨p, hp, hx⟩
    rw [h p] at hx
    split at hx
    · rename_i hs
      simp at hx
      exact ⟨p, ⟨hp, hs⟩, hx.symm⟩
    · simp at hx
  · rintro ⟨p, ⟨hp, hs⟩, rfl⟩
    exact ⟨p, hp, by rw [h p, if_pos hs]; simp⟩
def gw : Pt → Tx | .word w => w | _ => ""
def ga : Pt → Tx | .above _ w => w | _ => ""
def gl : Pt → Tx | .some l _ _ => l | .every l _ _ => l | .least _ l _ _ => l | _ => ""
def gs : Pt → Tx | .top sc _ => sc | .above sc _ => sc | _ => ""
def selK (ks : List Tx) (p : Pt) : Bool := ks.any fun x => x == p.kind
theorem words_mem (md : List Pt) (x : Tx) : x ∈ md.flatMap (Pt.strs "word") ↔ x ∈ canon ((md.filter (selK ["word"])).map gw) ++ canon ((md.filter (selK ["above"])).map ga) := by
  have h : ∀ p : Pt, p.strs "word" = (if selK ["word"] p then [gw p] else []) ++ (if selK ["above"] p then [ga p] else []) := by intro p; cases p <;> rfl
  simp only [List.mem_append, mem_canon, List.mem_flatMap, List.mem_map, List.mem_filter]
  constructor
  · rintro ⟨p, hp, hx⟩
    rw [h p, List.mem_append] at hx
    rcases hx with hx | hx
    · split at hx
      · rename_i hs; simp at hx; exact .inl ⟨p, ⟨hp, hs⟩, hx.symm⟩
      · simp at hx
    · split at hx
      · rename_i hs; simp at hx; exact .inr ⟨p, ⟨hp, hs⟩, hx.symm⟩
      · simp at hx
  · rintro (⟨p, ⟨hp, hs⟩, rfl⟩ | ⟨p, ⟨hp, hs⟩, rfl⟩)
    · exact ⟨p, hp, by rw [h p, if_pos hs]; simp⟩
    · exact ⟨p, hp, by rw [h p, if_pos hs]; simp⟩
theorem links_mem (md : List Pt) (x : Tx) : x ∈ md.flatMap (Pt.strs "link") ↔ x ∈ (md.filter (selK ["some", "every", "least"])).map gl := mem_sel (fun p => by cases p <;> rfl) x
theorem scales_mem (md : List Pt) (x : Tx) : x ∈ md.flatMap (Pt.strs "scale") ↔ x ∈ (md.filter (selK ["top", "above"])).map gs := mem_sel (fun p => by cases p <;> rfl) x
end K13

namespace K13
open PySem PySem.Spec L2 Fv
/-! ### the law: drawing -/
theorem lites_ints : ∀ zs : List Int, D.lites (zs.map D.int) = true
  | [] => rfl
  | z :: zs => by simp [D.lites, D.lite, lites_ints zs]
theorem pl_lite (zs : List Int) (t r : Int) : (Pl zs t r []).all D.lite1 = true := by
  simp [Pl, D.lite1, D.lites, D.lite, lites_ints]
theorem cut60 (xs : List D) : cutD xs none (some 60) = xs.take 60 := by
  have h0 : HT.sIx xs.length 0 none = 0 := by simp [HT.sIx]
  have h1 : HT.sIx xs.length xs.length (some 60) = min 60 xs.length := by simp [HT.sIx]
  simp only [cutD, h0, h1, List.drop_zero, Nat.sub_zero]
  rw [← List.take_eq_take_min]
theorem lc_pure {i : Nat} {e : E} {ρ : En} {s : S} (g : D → D) : ∀ (ds acc : List D), (∀ d ∈ ds, e (ρ.set i (some (.v d))) s = .ok (g d) s) → acc.length + ds.length ≤ 1000 → lcL allK (.nm i) yesT e ρ ds acc s = .ok (acc ++ ds.map g) s
  | [], acc, _, _ => by simp [lcL, allK]
  | d :: ds, acc, he, hl => by
    have e1 := he d (by simp)
    have hlt : decide (acc.length < sizeLine) = true := small (by simp at hl; omega)
    have ih := lc_pure g (i := i) (e := e) (ρ := ρ) (s := s) ds (acc ++ [g d]) (fun x hx => he x (List.mem_cons_of_mem _ hx)) (by simp at hl ⊢; omega)
    simp only [lcL, allK, if_true, asg, yesT, R.noerr, R.bind, e1, hlt]
    show lcL allK (.nm i) yesT e ρ ds (acc ++ [g d]) s = _
    rw [ih]
    simp
theorem pen_ok {zs : List Int} (hl : zs.length ≤ 63) : f_l_pen [.fl (zs.map D.int)] [] = .ok (.ref 0) (Pl (zs.take 60) 0 0 []) := by
  have es : sliceE (borE 0) noO (someO (conE (.int 60))) [some (.v (.fl (zs.map D.int))), none] [] = .ok (.lst ((zs.take 60).map D.int)) [] := by
    have h : sliceD (.fl (zs.map D.int)) none (some 60) [] = .ok (.lst ((zs.take 60).map D.int)) [] := by
      show R.ok (D.lst (cutD (zs.map D.int) none (some 60))) [] = _
      rw [cut60, List.map_take]
    show (sliceD (.fl (zs.map D.int)) none (some 60) [] : R D) = _
    exact h
  have lc := lc_pure (i := 1) (e := callE intF (consA (borE 1) nilA)) (ρ := [some (.v (.fl (zs.map D.int))), none]) (s := []) id ((zs.take 60).map D.int) [] (by
    intro d hd
    obtain ⟨z, _, rfl⟩ := List.mem_map.mp hd
    rfl) (by simp; omega)
  rw [List.nil_append, List.map_id] at lc
  have e1 := lcE_ok (vs := [1]) (iter_ok es) lc
  have e2 : lstE (consA (lcE (iterE (sliceE (borE 0) noO (someO (conE (.int 60))))) [1] (.nm 1) yesT (callE intF (consA (borE 1) nilA))) (consA (conE (.int 0)) (consA (conE (.int 0)) nilA))) [some (.v (.fl (zs.map D.int))), none] [] = .ok (.lst [.lst ((zs.take 60).map D.int), .int 0, .int 0]) [] :=
    lst_ok (cons_ok e1 (cons_ok (x := .int 0) rfl (cons_ok (x := .int 0) rfl rfl))) (szl_lt (Nat.le_of_ble_eq_true rfl))
  have e3 : b_l_pen [some (.v (.fl (zs.map D.int))), none] [] = .rt (.ref 0) (Pl (zs.take 60) 0 0 []) := by
    refine ret_ok ?_
    unfold liveE
    rw [e2]; rfl
  show fin (b_l_pen [some (.v (.fl (zs.map D.int))), none] []) = _
  rw [e3]; rfl
/-- the law's slots -/
abbrev lw (V0 : D) (m : List (List Pt)) (j3 j4 j5 j6 j7 j8 j13 : Option Sl) : En := [some (.v V0), some (.v (.ref 0)), some (.o (.lst (m.map sayD))), j3, j4, j5, j6, j7, j8, none, none, none, none, j13]
theorem ints_succ (a n : Nat) : intsL (a : Int) (n + 1) = nD a :: intsL ((a + 1 : Nat) : Int) n := by
  simp only [intsL, List.range_succ_eq_map, List.map_cons, List.map_map]
  congr 1
  apply List.map_congr_left
  intro i _
  simp only [Function.comp]
  congr 1
  omega
theorem rows_ok {zs : List Int} {V0 : D} {m : List (List Pt)} {j3 j6 j7 j8 j13 : Option Sl} : ∀ (n : Nat) (ds : List Pt) (t r : Int) (c : Int) (j5 : Option Sl), Ok ds → 0 < ds.length → PlOk c t r → c + 7 * n < 80000 → ds.length + n < 800 →
    ∃ ds' t' r' k5, Ok ds' ∧ ds'.length = ds.length + n ∧ PlOk (c + 7 * n) t' r' ∧ forL allK (.nm 5) (owS 4 "list" appO (consA (callE f_l_part (consA (varE 1) (consA (varE 5) nilA))) nilA)) (intsL (ds.length : Nat) n) (lw V0 m j3 (some (.o (.lst (ds.map Pt.d)))) j5 j6 j7 j8 j13) (Pl zs t r []) =
      .nx (lw V0 m j3 (some (.o (.lst (ds'.map Pt.d)))) k5 j6 j7 j8 j13) (Pl zs t' r' [])
  | 0, ds, t, r, c, j5, h1, h2, h3, h4, h5 => ⟨ds, t, r, j5, h1, rfl, by simpa using h3, rfl⟩
  | n + 1, ds, t, r, c, j5, h1, h2, h3, h4, h5 => by
    obtain ⟨p, t1, r1, hp, hP, e⟩ := part_ok (zs := zs) (s := []) (at_ := ds.length) h3 (by omega) (by omega)
    have ao := fo_ao (xs := ds.map Pt.d) (y := p.d) (by rw [List.length_map]; omega)
    have es : (ds.map Pt.d) ++ [p.d] = (ds ++ [p]).map Pt.d := by simp
    rw [es] at ao
    have e1 : owS 4 "list" appO (consA (callE f_l_part (consA (varE 1) (consA (varE 5) nilA))) nilA) (lw V0 m j3 (some (.o (.lst (ds.map Pt.d)))) (some (.v (nD ds.length))) j6 j7 j8 j13) (Pl zs t r []) = .nx (lw V0 m j3 (some (.o (.lst ((ds ++ [p]).map Pt.d)))) (some (.v (nD ds.length))) j6 j7 j8 j13) (Pl zs t1 r1 []) :=
      ow_ok (d := .lst (ds.map Pt.d)) rfl rfl (cons_ok (call_ok (cons_ok (x := .ref 0) rfl (cons_ok (x := nD ds.length) rfl rfl)) e) rfl) ao
    obtain ⟨ds', t', r', k5, g1, g2, g3, g4⟩ := rows_ok (zs := zs) (V0 := V0) (m := m) (j3 := j3) (j6 := j6) (j7 := j7) (j8 := j8) (j13 := j13) n (ds ++ [p]) t1 r1 (c + 7) (some (.v (nD ds.length))) (h1.snoc hp) (by simp) hP (by omega) (by simp; omega)
    refine ⟨ds', t', r', k5, g1, by rw [g2]; simp; omega, ?_, ?_⟩
    · have : c + 7 + 7 * (n : Int) = c + 7 * ((n + 1 : Nat) : Int) := by omega
      rw [← this]; exact g3
    · rw [ints_succ]
      simp only [forL, allK, if_true, asg, List.set_cons_succ, List.set_cons_zero, e1]
      rw [List.length_append] at g4
      exact g4
noncomputable def tbdy : C := (seqS (ownS 4 (lstE (consA (callE f_l_part (consA (varE 1) (consA (conE (.int 0)) nilA))) nilA)))
  (seqS (forS (range2 (conE (.int 1)) (binE addD (conE (.int 1)) (callE f_l_draw (consA (varE 1) (consA (conE (.int 9)) nilA))))) (.nm 5) (owS 4 "list" appO (consA (callE f_l_part (consA (varE 1) (consA (varE 5) nilA))) nilA)))
  (seqS (frzS 4) (owS 2 "list" appO (consA (callE (makeF "Saying" f_Saying_init) (consA (varE 4) nilA)) nilA)))))
theorem r2 {a b : E} {ρ : En} {s s1 s2 : S} {i j : Int} (h : a ρ s = .ok (.int i) s1) (h2 : b ρ s1 = .ok (.int j) s2) (sm : small62 i = true) (sm2 : small62 j = true) : range2 a b ρ s = .ok ⟨intsL i (j - i).toNat, allK⟩ s2 := by
  simp only [range2, h, h2, R.bind, sm, sm2, Bool.and_self, if_true]
theorem drawE_ok {zs : List Int} {s : S} {t r m : Int} {n : Nat} {pe b : E} {ρ : En} (hP : PlOk m t r) (hm : m < 100000) (h0 : 0 < n) (hl : n < 1000) (h1 : pe ρ (Pl zs t r s) = .ok (.ref 0) (Pl zs t r s)) (h2 : b ρ (Pl zs t r s) = .ok (nD n) (Pl zs t r s)) :
    ∃ (x : Nat) (t' r' : Int), x < n ∧ PlOk (m + 1) t' r' ∧ callE f_l_draw (consA pe (consA b nilA)) ρ (Pl zs t r s) = .ok (nD x) (Pl zs t' r' s) := by
  obtain ⟨v, t', r', e, v0, v1, hP'⟩ := draw_ok (zs := zs) (s := s) (n := (n : Int)) hP hm (by omega) (by
    have z : ((n : Int)).natAbs = n := by omega
    rw [z]
    exact Nat.lt_trans ((Nat.log2_lt (by omega)).mpr (Nat.lt_trans hl (by decide : 1000 < 2 ^ 10))) (by decide))
  have hv : v = ((v.toNat : Nat) : Int) := (Int.toNat_of_nonneg v0).symm
  refine ⟨v.toNat, t', r', by omega, hP', call_ok (cons_ok h1 (cons_ok h2 rfl)) ?_⟩
  have : f_l_draw [.ref 0, nD n] (Pl zs t r s) = .ok (.int v) (Pl zs t' r' s) := e
  rw [this]; unfold nD; rw [← hv]
/-- one saying drawn -/
theorem turn_ok {zs : List Int} {V0 : D} {m : List (List Pt)} {t r c : Int} {j3 j4 j5 j6 j7 j8 j13 : Option Sl} (hP : PlOk c t r) (hc : c < 1000) (hm : m.length < 10) :
    ∃ md t' r' k4 k5, Good md ∧ md.length ≤ 9 ∧ PlOk (c + 80) t' r' ∧ tbdy (lw V0 m j3 j4 j5 j6 j7 j8 j13) (Pl zs t r []) = .nx (lw V0 (m ++ [md]) j3 k4 k5 j6 j7 j8 j13) (Pl zs t' r' []) := by
  obtain ⟨p, t1, r1, hp, hP1, e1⟩ := part_ok (zs := zs) (s := []) (at_ := 0) hP (by omega) (by decide)
  have E1 : ownS 4 (lstE (consA (callE f_l_part (consA (varE 1) (consA (conE (.int 0)) nilA))) nilA)) (lw V0 m j3 j4 j5 j6 j7 j8 j13) (Pl zs t r []) = .nx (lw V0 m j3 (some (.o (.lst ([p].map Pt.d)))) j5 j6 j7 j8 j13) (Pl zs t1 r1 []) :=
    own_ok (lst_ok (xs := [p.d]) (cons_ok (call_ok (cons_ok (x := .ref 0) rfl (cons_ok (x := nD 0) rfl rfl)) e1) rfl) (szl_lt (Nat.le_of_ble_eq_true rfl))) rfl
  have ok1 : Ok [p] := fun i q hi => by
    cases i with
    | zero => simp at hi; subst hi; exact hp
    | succ i => simp at hi
  obtain ⟨v, t2, r2', hv, hP2, e2⟩ := drawE_ok (zs := zs) (s := []) (n := 9) (pe := varE 1) (b := conE (.int 9)) (ρ := lw V0 m j3 (some (.o (.lst ([p].map Pt.d)))) j5 j6 j7 j8 j13) hP1 (by omega) (by decide) (by decide) rfl rfl
  have ea : addD (.int 1) (nD v) (Pl zs t2 r2' []) = .ok (.int (1 + (v : Int))) (Pl zs t2 r2' []) := rfl
  have s1 : small62 (1 + (v : Int)) = true := by
    have : (1 + (v : Int)) = ((1 + v : Nat) : Int) := by omega
    rw [this]; exact small_n (by omega)
  have er : range2 (conE (.int 1)) (binE addD (conE (.int 1)) (callE f_l_draw (consA (varE 1) (consA (conE (.int 9)) nilA)))) (lw V0 m j3 (some (.o (.lst ([p].map Pt.d)))) j5 j6 j7 j8 j13) (Pl zs t1 r1 []) = .ok ⟨intsL (([p].length : Nat) : Int) v, allK⟩ (Pl zs t2 r2' []) := by
    have eb : binE addD (conE (.int 1)) (callE f_l_draw (consA (varE 1) (consA (conE (.int 9)) nilA))) (lw V0 m j3 (some (.o (.lst ([p].map Pt.d)))) j5 j6 j7 j8 j13) (Pl zs t1 r1 []) = .ok (.int (1 + (v : Int))) (Pl zs t2 r2' []) := bin_ok (x := .int 1) (y := nD v) rfl e2 ea
    have z := r2 (a := conE (.int 1)) (ρ := (lw V0 m j3 (some (.o (.lst ([p].map Pt.d)))) j5 j6 j7 j8 j13)) (s := Pl zs t1 r1 []) (s1 := Pl zs t1 r1 []) (i := 1) rfl eb (by decide) s1
    have hv2 : (1 + (v : Int) - 1).toNat = v := by omega
    rw [hv2] at z
    exact z
  obtain ⟨ds, t3, r3, k5, g1, g2, g3, g4⟩ := rows_ok (zs := zs) (V0 := V0) (m := m) (j3 := j3) (j6 := j6) (j7 := j7) (j8 := j8) (j13 := j13) v [p] t2 r2' (c + 7 + 1) j5 ok1 (by simp) hP2 (by omega) (by simp; omega)
  have E2 : forS (range2 (conE (.int 1)) (binE addD (conE (.int 1)) (callE f_l_draw (consA (varE 1) (consA (conE (.int 9)) nilA))))) (.nm 5) (owS 4 "list" appO (consA (callE f_l_part (consA (varE 1) (consA (varE 5) nilA))) nilA)) (lw V0 m j3 (some (.o (.lst ([p].map Pt.d)))) j5 j6 j7 j8 j13) (Pl zs t1 r1 []) = .nx (lw V0 m j3 (some (.o (.lst (ds.map Pt.d)))) k5 j6 j7 j8 j13) (Pl zs t3 r3 []) :=
    forS_ok er g4
  have dl : ds.length = 1 + v := by rw [g2]; rfl
  have E3 : frzS 4 (lw V0 m j3 (some (.o (.lst (ds.map Pt.d)))) k5 j6 j7 j8 j13) (Pl zs t3 r3 []) = .nx (lw V0 m j3 (some (.v (.lst (ds.map Pt.d)))) k5 j6 j7 j8 j13) (Pl zs t3 r3 []) := frz_ok (d := .lst (ds.map Pt.d)) rfl rfl
  obtain ⟨md, hmd, e4⟩ := make_ok (s := Pl zs t3 r3 []) g1 (pl_lite zs t3 r3) (by omega) (by omega)
  have ao := fo_ao (xs := m.map sayD) (y := sayD md) (by rw [List.length_map]; omega)
  have es : (m.map sayD) ++ [sayD md] = (m ++ [md]).map sayD := by simp
  rw [es] at ao
  have E4 : owS 2 "list" appO (consA (callE (makeF "Saying" f_Saying_init) (consA (varE 4) nilA)) nilA) (lw V0 m j3 (some (.v (.lst (ds.map Pt.d)))) k5 j6 j7 j8 j13) (Pl zs t3 r3 []) = .nx (lw V0 (m ++ [md]) j3 (some (.v (.lst (ds.map Pt.d)))) k5 j6 j7 j8 j13) (Pl zs t3 r3 []) :=
    ow_ok (d := .lst (m.map sayD)) rfl rfl (cons_ok (call_ok (cons_ok (x := .lst (ds.map Pt.d)) rfl rfl) e4) rfl) ao
  refine ⟨md, t3, r3, some (.v (.lst (ds.map Pt.d))), k5, hmd.good, by have := hmd.len; omega, ⟨g3.1, ?_, g3.2.2⟩, ?_⟩
  · have := g3.2.1; omega
  · unfold tbdy
    rw [seq_nx E1, seq_nx E2, seq_nx E3, E4]
end K13

namespace K13
open PySem PySem.Spec L2 Fv
/-! ### the law: what a saying tells -/
theorem asg_ok {t : Tg} {e : E} {d : D} {ρ ρ' : En} {s s1 : S} (h : e ρ s = .ok d s1) (h2 : asg t d ρ = some ρ') : asgS t e ρ s = .nx ρ' s1 := by simp only [asgS, h, R.stm, h2]
theorem fld6 {a : E} {ρ : En} {s : S} {md : List Pt} (h : a ρ s = .ok (sayD md) s) :
    fldE ["Saying"] "parts" a ρ s = .ok (.tup (md.map Pt.d)) s ∧ fldE ["Saying"] "depth" a ρ s = .ok (nD (depD md)) s ∧ fldE ["Saying"] "words" a ρ s = .ok (names "word" md) s ∧ fldE ["Saying"] "links" a ρ s = .ok (names "link" md) s ∧
    fldE ["Saying"] "scales" a ρ s = .ok (names "scale" md) s ∧ fldE ["Saying"] "kinds" a ρ s = .ok (kindsD md) s ∧ fldE ["Saying"] "is_back" a ρ s = .ok (.bl (backB md)) s :=
  ⟨fld_say h rfl, fld_say h rfl, fld_say h rfl, fld_say h rfl, fld_say h rfl, fld_say h rfl, fld_say h rfl⟩
theorem lenN_ok {a : E} {ρ : En} {s : S} {md : List Pt} (h : a ρ s = .ok (sayD md) s) (hN : md.length < 1000) : lenN ["Saying"] f_Saying_len a ρ s = .ok (nD md.length) s := by
  have hm : ("Saying" : Tx) ∈ (["Saying"] : List Tx) := by simp
  have ho : objOf s (sayD md) = some (("Saying" : Tx), fnS, sayV md) := rfl
  have e1 : mthN ["Saying"] f_Saying_len a ρ s = .ok (nD md.length) s := by
    simp only [mthN, h, R.bind, ho, hm, if_true, len_ok, R.noerr]
  have hz : decide ((0 : Int) ≤ (md.length : Int) ∧ (md.length : Int) < 2 ^ 63) = true := decide_eq_true ⟨Int.natCast_nonneg _, Int.lt_trans (Int.ofNat_lt.mpr hN) (by decide)⟩
  have e2 : nD md.length = .int (md.length : Int) := rfl
  simp only [lenN, e1, R.bind, e2, hz, if_true]
theorem add_tups {xs ys : List Tx} {s : S} (h : xs.length + ys.length < 1000) : addD (.tup (xs.map D.str)) (.tup (ys.map D.str)) s = .ok (.tup ((xs ++ ys).map D.str)) s := by
  have hz : szl ((xs.map D.str).length + (ys.map D.str).length) = true := szl_lt (by rw [List.length_map, List.length_map]; exact h)
  show (if szl ((xs.map D.str).length + (ys.map D.str).length) = true then R.ok (if xs.map D.str = [] then D.tup (ys.map D.str) else if ys.map D.str = [] then D.tup (xs.map D.str) else D.tup (xs.map D.str ++ ys.map D.str)) s else R.bad) = _
  rw [if_pos hz]
  cases xs with
  | nil => rfl
  | cons x xs =>
    cases ys with
    | nil => simp
    | cons y ys => simp
theorem max_roads {lo hi : Int} {ns : List Int} {s : S} (h : Rd lo hi ns) : maxF [.lst (ns.map D.int)] s = .ok (.int hi) s := by
  cases ns with
  | nil => have := h.top; simp at this
  | cons n ns =>
    have e1 : intsOf ((n :: ns).map D.int) = some (n :: ns) := ints_of _
    have e2 : maxI (n :: ns) = hi := Int.le_antisymm (h.bd _ maxI_mem).2 (maxI_ge h.top)
    simp only [maxF, lsOf, e1, e2]
def lkd : List Tx := ["some", "every", "least"]
abbrev lr (V0 : D) (m : List (List Pt)) (j3 j5 : Option Sl) (md : List Pt) (j8 j13 : Option Sl) : En := lw V0 m j3 (some (.v (.lst (md.map Pt.d)))) j5 (some (.v (sayD md))) (some (.v (.tup (lkd.map D.str)))) j8 j13
section
variable {V0 : D} {m : List (List Pt)} {j3 j4 j5 j7 j8 j13 : Option Sl} {md : List Pt} {s : S}
noncomputable def lA : C := asgS (.tp [4, 7]) (tupE (consA (callE listF (consA (fldE ["Saying"] "parts" (borE 6)) nilA)) (consA (tupE (consA (conE (.str "some")) (consA (conE (.str "every")) (consA (conE (.str "least")) nilA)))) nilA)))
theorem lA_ok : lA (lw V0 m j3 j4 j5 (some (.v (sayD md))) j7 j8 j13) s = .nx (lr V0 m j3 j5 md j8 j13) s :=
  asg_ok (d := .tup [.lst (md.map Pt.d), .tup (lkd.map D.str)]) (tup_ok (cons_ok (x := .lst (md.map Pt.d)) (call_ok (cons_ok (fld6 (md := md) rfl).1 rfl) rfl) (cons_ok (x := .tup (lkd.map D.str)) rfl rfl)) (szl_lt (Nat.le_of_ble_eq_true rfl))) rfl
theorem frz4 {c : C} : seqS (frzS 4) c (lr V0 m j3 j5 md j8 j13) s = c (lr V0 m j3 j5 md j8 j13) s := seq_nx (frz_v rfl)
theorem len4 : callE lenF (consA (borE 4) nilA) (lr V0 m j3 j5 md j8 j13) s = .ok (nD md.length) s := by
  have : lenF [.lst (md.map Pt.d)] s = .ok (.int ((md.map Pt.d).length : Nat)) s := rfl
  rw [List.length_map] at this
  exact call_ok (cons_ok (x := .lst (md.map Pt.d)) rfl rfl) this
noncomputable def lB : C := (seqS (frzS 4) (ifS (orT (tstE (binE neD (fldE ["Saying"] "depth" (borE 6)) (callE maxF (consA (callE (f_l_roads 24) (consA (varE 4) (consA (binE subD (callE lenF (consA (borE 4) nilA)) (conE (.int 1))) (consA (conE (.int 0)) nilA)))) nilA)))) (tstE (binE neD (lenN ["Saying"] f_Saying_len (varE 6)) (callE lenF (consA (borE 4) nilA))))) (retS (conE (.bl false))) passS))
theorem lB_ok (h : Good md) (hN : md.length ≤ 22) : lB (lr V0 m j3 j5 md j8 j13) s = .nx (lr V0 m j3 j5 md j8 j13) s := by
  have hp := h.pos
  obtain ⟨ns, r1, r2⟩ := roads_ok h.ok.wf (by omega) s 24 (md.length - 1) 0 (by omega) (by omega)
  have ed : ((0 + dpt md (md.length - 1) : Nat) : Int) = (depD md : Int) := by rw [Nat.zero_add]; rfl
  rw [ed] at r1
  have em := max_roads (s := s) r1
  have t1 : tstE (binE neD (fldE ["Saying"] "depth" (borE 6)) (callE maxF (consA (callE (f_l_roads 24) (consA (varE 4) (consA (binE subD (callE lenF (consA (borE 4) nilA)) (conE (.int 1))) (consA (conE (.int 0)) nilA)))) nilA))) (lr V0 m j3 j5 md j8 j13) s = .ok false s :=
    tst_ok (bin_ok (x := nD (depD md)) (y := nD (depD md)) (fld6 (md := md) rfl).2.1 (call_ok (cons_ok (call_ok (cons_ok (x := .lst (md.map Pt.d)) rfl (cons_ok (bin_ok (x := nD md.length) (y := .int 1) len4 rfl (fo_sb hp)) (cons_ok (x := nD 0) rfl rfl))) r2) rfl) em) (ne_nat _))
  have t2 : tstE (binE neD (lenN ["Saying"] f_Saying_len (varE 6)) (callE lenF (consA (borE 4) nilA))) (lr V0 m j3 j5 md j8 j13) s = .ok false s :=
    tst_ok (bin_ok (x := nD md.length) (y := nD md.length) (lenN_ok (md := md) rfl (by omega)) len4 (ne_nat _))
  unfold lB
  rw [frz4, ifS_f (or_f t1 t2)]; rfl
theorem lit1 (w : Tx) {ρ : En} : tupE (consA (conE (.str w)) nilA) ρ s = .ok (.tup (([w] : List Tx).map D.str)) s := rfl
theorem nm_word : ∀ p ∈ md, ((["word"] : List Tx).any fun x => x == p.kind) = true → idxS s p.d (.int 1) = some (.str (gw p)) := by
  intro p _ hk
  cases p <;> first | rfl | (exact absurd (show false = true from hk) (by decide))
theorem nm_above : ∀ p ∈ md, ((["above"] : List Tx).any fun x => x == p.kind) = true → idxS s p.d (.int 2) = some (.str (ga p)) := by
  intro p _ hk
  cases p <;> first | rfl | (exact absurd (show false = true from hk) (by decide))
theorem nm_link : ∀ p ∈ md, (lkd.any fun x => x == p.kind) = true → idxS s p.d (.int (-3)) = some (.str (gl p)) := by
  intro p _ hk
  cases p <;> first | rfl | (exact absurd (show false = true from hk) (by decide))
theorem nm_scale : ∀ p ∈ md, ((["top", "above"] : List Tx).any fun x => x == p.kind) = true → idxS s p.d (.int 1) = some (.str (gs p)) := by
  intro p _ hk
  cases p <;> first | rfl | (exact absurd (show false = true from hk) (by decide))
def wdl (md : List Pt) : List Tx := canon ((md.filter (selK ["word"])).map gw) ++ canon ((md.filter (selK ["above"])).map ga)
theorem wdl_len (md : List Pt) : (wdl md).length ≤ md.length + md.length := by
  have h1 := canon_len ((md.filter (selK ["word"])).map gw)
  have h2 := canon_len ((md.filter (selK ["above"])).map ga)
  have h3 : (md.filter (selK ["word"])).length ≤ md.length := List.length_filter_le ..
  have h4 : (md.filter (selK ["above"])).length ≤ md.length := List.length_filter_le ..
  rw [List.length_map] at h1 h2
  unfold wdl
  rw [List.length_append]; omega
noncomputable def lC : C := (seqS (frzS 4) (setS 8 (callE sortedF (consA (callE set2F (consA (binE addD (callE f_l_named (consA (varE 4) (consA (tupE (consA (conE (.str "word")) nilA)) (consA (conE (.int 1)) nilA)))) (callE f_l_named (consA (varE 4) (consA (tupE (consA (conE (.str "above")) nilA)) (consA (conE (.int 2)) nilA))))) nilA)) nilA))))
theorem lC_ok (hN : md.length ≤ 22) : lC (lr V0 m j3 j5 md j8 j13) s = .nx (lr V0 m j3 j5 md (some (.v (.lst ((canon (wdl md)).map D.str)))) j13) s := by
  have n1 := named_ok (ks := ["word"]) (spot := 1) (g := gw) (s := s) (md := md) (by omega) nm_word
  have n2 := named_ok (ks := ["above"]) (spot := 2) (g := ga) (s := s) (md := md) (by omega) nm_above
  have wl := wdl_len md
  have ad : addD (.tup ((canon ((md.filter fun p => (["word"] : List Tx).any fun x => x == p.kind).map gw)).map D.str)) (.tup ((canon ((md.filter fun p => (["above"] : List Tx).any fun x => x == p.kind).map ga)).map D.str)) s = .ok (.tup ((wdl md).map D.str)) s :=
    add_tups (xs := canon ((md.filter (selK ["word"])).map gw)) (ys := canon ((md.filter (selK ["above"])).map ga)) (by have := wdl_len md; unfold wdl at this; rw [List.length_append] at this; omega)
  have k2 := set2_tup (xs := wdl md) (s := s) (by omega)
  have k3 := sorted_set (xs := uS (wdl md)) (s := s) (by have := uS_len (wdl md); omega)
  have c1 : callE f_l_named (consA (varE 4) (consA (tupE (consA (conE (.str "word")) nilA)) (consA (conE (.int 1)) nilA))) (lr V0 m j3 j5 md j8 j13) s = .ok _ s := call_ok (cons_ok (x := .lst (md.map Pt.d)) rfl (cons_ok (lit1 "word") (cons_ok (x := .int 1) rfl rfl))) n1
  have c2 : callE f_l_named (consA (varE 4) (consA (tupE (consA (conE (.str "above")) nilA)) (consA (conE (.int 2)) nilA))) (lr V0 m j3 j5 md j8 j13) s = .ok _ s := call_ok (cons_ok (x := .lst (md.map Pt.d)) rfl (cons_ok (lit1 "above") (cons_ok (x := .int 2) rfl rfl))) n2
  unfold lC
  rw [frz4]
  exact set_ok (call_ok (cons_ok (call_ok (cons_ok (bin_ok c1 c2 ad) rfl) k2) rfl) k3)
noncomputable def lD : C := (seqS (frzS 4) (ifS (orT (tstE (binE neD (fldE ["Saying"] "words" (borE 6)) (callE tupleF (consA (borE 8) nilA)))) (orT (tstE (binE neD (fldE ["Saying"] "links" (borE 6)) (callE f_l_named (consA (varE 4) (consA (varE 7) (consA (unE negD (conE (.int 3))) nilA)))))) (tstE (binE neD (fldE ["Saying"] "scales" (borE 6)) (callE f_l_named (consA (varE 4) (consA (tupE (consA (conE (.str "top")) (consA (conE (.str "above")) nilA))) (consA (conE (.int 1)) nilA)))))))) (retS (conE (.bl false))) passS))
theorem lD_ok (h : Good md) (hN : md.length ≤ 22) : lD (lr V0 m j3 j5 md (some (.v (.lst ((canon (wdl md)).map D.str)))) j13) s = .nx (lr V0 m j3 j5 md (some (.v (.lst ((canon (wdl md)).map D.str)))) j13) s := by
  have n1 := named_ok (ks := lkd) (spot := -3) (g := gl) (s := s) (md := md) (by omega) nm_link
  have n2 := named_ok (ks := ["top", "above"]) (spot := 1) (g := gs) (s := s) (md := md) (by omega) nm_scale
  have w1 : canon (md.flatMap (Pt.strs "word")) = canon (wdl md) := canon_eq (words_mem md)
  have w2 : canon (md.flatMap (Pt.strs "link")) = canon ((md.filter fun p => lkd.any fun x => x == p.kind).map gl) := canon_eq (links_mem md)
  have w3 : canon (md.flatMap (Pt.strs "scale")) = canon ((md.filter fun p => (["top", "above"] : List Tx).any fun x => x == p.kind).map gs) := canon_eq (scales_mem md)
  have s1 := strs_str (c := "word") h.ok
  have s2 := strs_str (c := "link") h.ok
  have s3 := strs_str (c := "scale") h.ok
  rw [w1] at s1; rw [w2] at s2; rw [w3] at s3
  have f := fld6 (a := borE 6) (ρ := lr V0 m j3 j5 md (some (.v (.lst ((canon (wdl md)).map D.str)))) j13) (s := s) (md := md) rfl
  unfold names at f
  rw [w1, w2, w3] at f
  have t1 : tstE (binE neD (fldE ["Saying"] "words" (borE 6)) (callE tupleF (consA (borE 8) nilA))) (lr V0 m j3 j5 md (some (.v (.lst ((canon (wdl md)).map D.str)))) j13) s = .ok false s :=
    tst_ok (bin_ok f.2.2.1 (call_ok (cons_ok (x := .lst ((canon (wdl md)).map D.str)) rfl rfl) rfl) (ne_strs _ s1))
  have t2 : tstE (binE neD (fldE ["Saying"] "links" (borE 6)) (callE f_l_named (consA (varE 4) (consA (varE 7) (consA (unE negD (conE (.int 3))) nilA))))) (lr V0 m j3 j5 md (some (.v (.lst ((canon (wdl md)).map D.str)))) j13) s = .ok false s :=
    tst_ok (bin_ok f.2.2.2.1 (call_ok (cons_ok (x := .lst (md.map Pt.d)) rfl (cons_ok (x := .tup (lkd.map D.str)) rfl (cons_ok (x := .int (-3)) rfl rfl))) n1) (ne_strs _ s2))
  have t3 : tstE (binE neD (fldE ["Saying"] "scales" (borE 6)) (callE f_l_named (consA (varE 4) (consA (tupE (consA (conE (.str "top")) (consA (conE (.str "above")) nilA))) (consA (conE (.int 1)) nilA))))) (lr V0 m j3 j5 md (some (.v (.lst ((canon (wdl md)).map D.str)))) j13) s = .ok false s :=
    tst_ok (bin_ok f.2.2.2.2.1 (call_ok (cons_ok (x := .lst (md.map Pt.d)) rfl (cons_ok (x := .tup ((["top", "above"] : List Tx).map D.str)) rfl (cons_ok (x := .int 1) rfl rfl))) n2) (ne_strs _ s3))
  unfold lD
  rw [frz4, ifS_f (or_f t1 (or_f t2 t3))]; rfl
noncomputable def lE : C := (ifS (tstE (binE neD (fldE ["Saying"] "kinds" (borE 6)) (callE tupleF (consA (callE sortedF (consA (callE set2F (consA (lcE (iterE (borE 4)) [13] (.nm 13) yesT (binE idxD (borE 13) (conE (.int 0)))) nilA)) nilA)) nilA)))) (retS (conE (.bl false))) passS)
theorem lE_ok (hN : md.length ≤ 22) : lE (lr V0 m j3 j5 md j8 j13) s = .nx (lr V0 m j3 j5 md j8 j13) s := by
  have z := lc_map (t := .nm 13) (c := yesT) (e := binE idxD (borE 13) (conE (.int 0))) (ρ := wipeD (lr V0 m j3 j5 md j8 j13) [13]) (s := s) Pt.d (fun _ => true) (fun p => D.str p.kind) md [] (fun p hp => by
    refine ⟨lr V0 m j3 j5 md j8 (some (.v p.d)), rfl, rfl, fun _ => ?_⟩
    have bp : borE 13 (lr V0 m j3 j5 md j8 (some (.v p.d))) s = .ok p.d s := by cases p <;> rfl
    exact bin_ok (x := p.d) (y := .int 0) bp rfl (idx_ok (kind_d p))) (by simp; omega)
  have hf : md.filter (fun _ => true) = md := List.filter_eq_self.mpr fun _ _ => rfl
  rw [hf, List.nil_append, show (md.map fun p => D.str p.kind) = (md.map Pt.kind).map D.str by rw [List.map_map]; rfl] at z
  have k1 := lcE_ok (vs := [13]) (iter_ok (a := borE 4) (ρ := lr V0 m j3 j5 md j8 j13) (xs := md.map Pt.d) (s := s) rfl) z
  have k2 := set2_strs (xs := md.map Pt.kind) (s := s) (by rw [List.length_map]; omega)
  have k3 := sorted_set (xs := uS (md.map Pt.kind)) (s := s) (by have := uS_len (md.map Pt.kind); rw [List.length_map] at this; omega)
  have ks : ∀ x ∈ canon (md.map Pt.kind), PyData.strOk x = true := fun x hx => by
    rw [mem_canon] at hx
    obtain ⟨p, _, rfl⟩ := List.mem_map.mp hx
    exact kind_str p
  have t1 : tstE (binE neD (fldE ["Saying"] "kinds" (borE 6)) (callE tupleF (consA (callE sortedF (consA (callE set2F (consA (lcE (iterE (borE 4)) [13] (.nm 13) yesT (binE idxD (borE 13) (conE (.int 0)))) nilA)) nilA)) nilA))) (lr V0 m j3 j5 md j8 j13) s = .ok false s :=
    tst_ok (bin_ok (x := kindsD md) (y := kindsD md) (fld6 (md := md) rfl).2.2.2.2.2.1 (call_ok (cons_ok (call_ok (cons_ok (call_ok (cons_ok k1 rfl) k2) rfl) k3) rfl) rfl) (ne_strs _ ks))
  unfold lE
  rw [ifS_f t1]; rfl
noncomputable def lF : C := (ifS (tstE (binE neD (fldE ["Saying"] "is_back" (borE 6)) (binE neD (lcE (iterE (borE 4)) [13] (.nm 13) (andT (tstE (binE inD (binE idxD (borE 13) (conE (.int 0))) (borE 7))) (tstE (binE eqD (binE idxD (borE 13) (unE negD (conE (.int 2)))) (conE (.str "back"))))) (varE 13)) (lstE nilA)))) (retS (conE (.bl false))) passS)
theorem lF_ok (h : Good md) (hN : md.length ≤ 22) : lF (lr V0 m j3 j5 md j8 j13) s = .nx (lr V0 m j3 j5 md j8 j13) s := by
  have z := lc_map (t := .nm 13) (c := andT (tstE (binE inD (binE idxD (borE 13) (conE (.int 0))) (borE 7))) (tstE (binE eqD (binE idxD (borE 13) (unE negD (conE (.int 2)))) (conE (.str "back"))))) (e := varE 13) (ρ := wipeD (lr V0 m j3 j5 md j8 j13) [13]) (s := s) Pt.d Pt.bk Pt.d md [] (fun p hp =>
    ⟨lr V0 m j3 j5 md j8 (some (.v p.d)), rfl, by cases p <;> first | rfl | (rename_i b _; cases b <;> rfl), fun _ => rfl⟩) (by simp; omega)
  rw [List.nil_append] at z
  have k1 := lcE_ok (vs := [13]) (iter_ok (a := borE 4) (ρ := lr V0 m j3 j5 md j8 j13) (xs := md.map Pt.d) (s := s) rfl) z
  have n1 := ne_nil_parts (s := s) (md.filter Pt.bk) (fun p hp => by
    obtain ⟨i, hi⟩ := List.getElem?_of_mem (List.mem_filter.mp hp).1
    exact ⟨i, h.ok i p hi⟩)
  have eb : backB md = !(md.filter Pt.bk).isEmpty := by
    rw [back_any]
    clear z k1 n1 h hN
    induction md with
    | nil => rfl
    | cons p md ih =>
      rw [List.any_cons, List.filter_cons, ih]
      cases p.bk <;> simp
  have t1 : tstE (binE neD (fldE ["Saying"] "is_back" (borE 6)) (binE neD (lcE (iterE (borE 4)) [13] (.nm 13) (andT (tstE (binE inD (binE idxD (borE 13) (conE (.int 0))) (borE 7))) (tstE (binE eqD (binE idxD (borE 13) (unE negD (conE (.int 2)))) (conE (.str "back"))))) (varE 13)) (lstE nilA))) (lr V0 m j3 j5 md j8 j13) s = .ok false s := by
    have f := (fld6 (a := borE 6) (ρ := lr V0 m j3 j5 md j8 j13) (s := s) (md := md) rfl).2.2.2.2.2.2
    rw [eb] at f
    exact tst_ok (bin_ok f (bin_ok k1 (y := .lst []) rfl n1) (ne_bl _))
  unfold lF
  rw [ifS_f t1]; rfl
noncomputable def lbdy : C := seqS lA (seqS lB (seqS lC (seqS lD (seqS lE lF))))
theorem say_ok (h : Good md) (hN : md.length ≤ 22) : ∃ k4 k7 k8, lbdy (lw V0 m j3 j4 j5 (some (.v (sayD md))) j7 j8 j13) s = .nx (lw V0 m j3 k4 j5 (some (.v (sayD md))) k7 k8 j13) s := by
  refine ⟨some (.v (.lst (md.map Pt.d))), some (.v (.tup (lkd.map D.str))), some (.v (.lst ((canon (wdl md)).map D.str))), ?_⟩
  unfold lbdy
  rw [seq_nx lA_ok, seq_nx (lB_ok h hN), seq_nx (lC_ok hN), seq_nx (lD_ok h hN), seq_nx (lE_ok hN), lF_ok h hN]
end
end K13

namespace K13
open PySem PySem.Spec L2 Fv
/-! ### the law -/
theorem for_step {i : Nat} {b : C} {d : D} {ds : List D} {ρ ρ1 : En} {s s1 : S} (h : b (ρ.set i (some (.v d))) s = .nx ρ1 s1) : forL allK (.nm i) b (d :: ds) ρ s = forL allK (.nm i) b ds ρ1 s1 := by
  simp only [forL, allK, if_true, asg, h]
theorem two_turns {zs : List Int} {V0 : D} : ∃ a b t r k3 k4 k5, Good a ∧ Good b ∧ a.length ≤ 9 ∧ b.length ≤ 9 ∧ PlOk 160 t r ∧ b_law_2 (lw V0 [] none none none none none none none) (Pl zs 0 0 []) = .nx (lw V0 [a, b] k3 k4 k5 none none none none) (Pl zs t r []) := by
  obtain ⟨a, t1, r1, k4, k5, ga, la, p1, e1⟩ := turn_ok (zs := zs) (V0 := V0) (m := []) (t := 0) (r := 0) (c := 0) (j3 := some (.v (.int 0))) (j4 := none) (j5 := none) (j6 := none) (j7 := none) (j8 := none) (j13 := none) ⟨Int.le_refl _, Int.le_refl _, Int.le_refl _⟩ (by omega) (by decide)
  obtain ⟨b, t2, r2', k4', k5', gb, lb, p2, e2⟩ := turn_ok (zs := zs) (V0 := V0) (m := [] ++ [a]) (t := t1) (r := r1) (c := 0 + 80) (j3 := some (.v (.int 1))) (j4 := k4) (j5 := k5) (j6 := none) (j7 := none) (j8 := none) (j13 := none) p1 (by omega) (by simp)
  refine ⟨a, b, t2, r2', some (.v (.int 1)), k4', k5', ga, gb, la, lb, p2, ?_⟩
  have er : range1 (conE (.int 2)) (lw V0 [] none none none none none none none) (Pl zs 0 0 []) = .ok ⟨[.int 0, .int 1], allK⟩ (Pl zs 0 0 []) := K13.r1 (a := conE (.int 2)) (j := 2) rfl (by decide)
  have e3 : forL allK (.nm 3) tbdy [.int 0, .int 1] (lw V0 [] none none none none none none none) (Pl zs 0 0 []) = .nx (lw V0 [a, b] (some (.v (.int 1))) k4' k5' none none none none) (Pl zs t2 r2' []) := by
    rw [for_step (ρ1 := lw V0 ([] ++ [a]) (some (.v (.int 0))) k4 k5 none none none none) (s1 := Pl zs t1 r1 []) e1]
    rw [for_step (ρ1 := lw V0 ([] ++ [a] ++ [b]) (some (.v (.int 1))) k4' k5' none none none none) (s1 := Pl zs t2 r2' []) e2]
    rfl
  exact forS_ok er e3
section
variable {V0 : D} {m : List (List Pt)} {j3 j5 j13 : Option Sl} {s : S}
theorem says_ok : ∀ (l : List (List Pt)) (j4 j6 j7 j8 : Option Sl), (∀ x ∈ l, Good x ∧ x.length ≤ 22) → ∃ k4 k6 k7 k8, forL allK (.nm 6) lbdy (l.map sayD) (lw V0 m j3 j4 j5 j6 j7 j8 j13) s = .nx (lw V0 m j3 k4 j5 k6 k7 k8 j13) s
  | [], j4, j6, j7, j8, _ => ⟨j4, j6, j7, j8, rfl⟩
  | x :: l, j4, j6, j7, j8, h => by
    have hx := h x (by simp)
    obtain ⟨k4, k7, k8, e⟩ := say_ok (V0 := V0) (m := m) (j3 := j3) (j4 := j4) (j5 := j5) (j7 := j7) (j8 := j8) (j13 := j13) (s := s) hx.1 hx.2
    obtain ⟨i4, i6, i7, i8, e2⟩ := says_ok l k4 (some (.v (sayD x))) k7 k8 fun y hy => h y (List.mem_cons_of_mem _ hy)
    refine ⟨i4, i6, i7, i8, ?_⟩
    rw [List.map_cons, for_step (ρ1 := lw V0 m j3 k4 j5 (some (.v (sayD x))) k7 k8 j13) (s1 := s) e]
    exact e2
theorem inv_call {e : E} {ρ : En} {md ds : List Pt} (h : e ρ s = .ok (sayD md) s) (h2 : f_Saying_invert [sayD md] s = .ok (sayD ds) s) : mthN ["Saying"] f_Saying_invert e ρ s = .ok (sayD ds) s := by
  have hm : ("Saying" : Tx) ∈ (["Saying"] : List Tx) := by simp
  have ho : objOf s (sayD md) = some (("Saying" : Tx), fnS, sayV md) := rfl
  simp only [mthN, h, R.bind, ho, hm, if_true, h2, R.noerr]
theorem law3 {a b : List Pt} {j4 j6 j7 j8 : Option Sl} (hs : s.all D.lite1 = true) (ga : Good a) (gb : Good b) (la : a.length ≤ 9) (lb : b.length ≤ 9) : ∃ k4 k6 k7 k8, b_law_3 (lw V0 [a, b] j3 j4 j5 j6 j7 j8 j13) s = .nx (lw V0 [a, b] j3 k4 j5 k6 k7 k8 j13) s := by
  obtain ⟨c1, h1, e1⟩ := both_ok hs ga gb (by omega)
  obtain ⟨c2, h2, e2⟩ := inv_ok hs gb (by omega)
  obtain ⟨c3, h3, e3⟩ := top_ok (sc := "t.t") hs ga nm_tt (by omega)
  have i0 : binE idxD (borE 2) (conE (.int 0)) (lw V0 [a, b] j3 j4 j5 j6 j7 j8 j13) s = .ok (sayD a) s := rfl
  have i1 : binE idxD (borE 2) (conE (.int 1)) (lw V0 [a, b] j3 j4 j5 j6 j7 j8 j13) s = .ok (sayD b) s := rfl
  have x1 : callE f_both_of (consA (binE idxD (borE 2) (conE (.int 0))) (consA (binE idxD (borE 2) (conE (.int 1))) nilA)) (lw V0 [a, b] j3 j4 j5 j6 j7 j8 j13) s = .ok (sayD c1) s := call_ok (cons_ok i0 (cons_ok i1 rfl)) e1
  have x2 : mthN ["Saying"] f_Saying_invert (binE idxD (borE 2) (conE (.int 1))) (lw V0 [a, b] j3 j4 j5 j6 j7 j8 j13) s = .ok (sayD c2) s := inv_call i1 e2
  have x3 : callE f_top_of (consA (conE (.str "t.t")) (consA (binE idxD (borE 2) (conE (.int 0))) nilA)) (lw V0 [a, b] j3 j4 j5 j6 j7 j8 j13) s = .ok (sayD c3) s := call_ok (cons_ok (x := .str "t.t") rfl (cons_ok i0 rfl)) e3
  have xl : lstE (consA (callE f_both_of (consA (binE idxD (borE 2) (conE (.int 0))) (consA (binE idxD (borE 2) (conE (.int 1))) nilA))) (consA (mthN ["Saying"] f_Saying_invert (binE idxD (borE 2) (conE (.int 1)))) (consA (callE f_top_of (consA (conE (.str "t.t")) (consA (binE idxD (borE 2) (conE (.int 0))) nilA))) nilA))) (lw V0 [a, b] j3 j4 j5 j6 j7 j8 j13) s = .ok (.lst [sayD c1, sayD c2, sayD c3]) s :=
    lst_ok (cons_ok x1 (cons_ok x2 (cons_ok x3 rfl))) (szl_lt (Nat.le_of_ble_eq_true rfl))
  have ad : addD (.lst [sayD a, sayD b]) (.lst [sayD c1, sayD c2, sayD c3]) s = .ok (.lst ([a, b, c1, c2, c3].map sayD)) s := rfl
  have xb : binE addD (borE 2) (lstE (consA (callE f_both_of (consA (binE idxD (borE 2) (conE (.int 0))) (consA (binE idxD (borE 2) (conE (.int 1))) nilA))) (consA (mthN ["Saying"] f_Saying_invert (binE idxD (borE 2) (conE (.int 1)))) (consA (callE f_top_of (consA (conE (.str "t.t")) (consA (binE idxD (borE 2) (conE (.int 0))) nilA))) nilA)))) (lw V0 [a, b] j3 j4 j5 j6 j7 j8 j13) s = .ok (.lst ([a, b, c1, c2, c3].map sayD)) s :=
    bin_ok (x := .lst [sayD a, sayD b]) rfl xl ad
  have l1 := h1.len
  have l2 := h2.len
  have l3 := h3.len
  rw [two_len] at l1
  rw [List.length_append, List.length_singleton] at l2 l3
  obtain ⟨k4, k6, k7, k8, e⟩ := says_ok (V0 := V0) (m := [a, b]) (j3 := j3) (j5 := j5) (j13 := j13) (s := s) [a, b, c1, c2, c3] j4 j6 j7 j8 (by
    intro x hx
    simp only [List.mem_cons, List.not_mem_nil, or_false] at hx
    rcases hx with rfl | rfl | rfl | rfl | rfl
    · exact ⟨ga, by omega⟩
    · exact ⟨gb, by omega⟩
    · exact ⟨h1.good, by omega⟩
    · exact ⟨h2.good, by omega⟩
    · exact ⟨h3.good, by omega⟩)
  exact ⟨k4, k6, k7, k8, forS_ok (iter_ok xb) e⟩
end
/-- the law's slots, all -/
abbrev lz (V0 : D) (j2 j3 j4 j5 j6 j7 j8 : Option Sl) (a b : List Pt) (bk : Bool) (j12 j13 : Option Sl) : En := [some (.v V0), some (.v (.ref 0)), j2, j3, j4, j5, j6, j7, j8, some (.v (sayD a)), some (.v (sayD b)), some (.v (.bl bk)), j12, j13]
theorem is_one {v : Nat} (s : S) : eqD (nD v) (.int 1) s = .ok (.bl ((v : Int) == 1)) s := rfl
theorem law4 {zs : List Int} {V0 : D} {t r : Int} {a b : List Pt} {j3 j4 j5 j6 j7 j8 j13 : Option Sl} (hP : PlOk 160 t r) : ∃ bk t' r', PlOk 161 t' r' ∧ b_law_4 (lw V0 [a, b] j3 j4 j5 j6 j7 j8 j13) (Pl zs t r []) = .nx (lz V0 (some (.o (.lst [sayD a, sayD b]))) j3 j4 j5 j6 j7 j8 a b bk none j13) (Pl zs t' r' []) := by
  obtain ⟨v, t', r', hv, hP2, e⟩ := drawE_ok (zs := zs) (s := []) (n := 2) (pe := varE 1) (b := conE (.int 2)) (ρ := lw V0 [a, b] j3 j4 j5 j6 j7 j8 j13) hP (by omega) (by decide) (by decide) rfl rfl
  refine ⟨(v : Int) == 1, t', r', hP2, ?_⟩
  have x1 : binE eqD (callE f_l_draw (consA (varE 1) (consA (conE (.int 2)) nilA))) (conE (.int 1)) (lw V0 [a, b] j3 j4 j5 j6 j7 j8 j13) (Pl zs t r []) = .ok (.bl ((v : Int) == 1)) (Pl zs t' r' []) := bin_ok (x := nD v) (y := .int 1) e rfl (is_one _)
  have i0 : binE idxD (borE 2) (conE (.int 0)) (lw V0 [a, b] j3 j4 j5 j6 j7 j8 j13) (Pl zs t r []) = .ok (sayD a) (Pl zs t r []) := rfl
  have i1 : binE idxD (borE 2) (conE (.int 1)) (lw V0 [a, b] j3 j4 j5 j6 j7 j8 j13) (Pl zs t r []) = .ok (sayD b) (Pl zs t r []) := rfl
  exact par3_ok (cons_ok i0 (cons_ok i1 (cons_ok x1 rfl)))
theorem mx2 (x y : Nat) : mxN [x, y] = max x y := by simp [mxN]
theorem mx1 (x : Nat) : mxN [x] = x := by simp [mxN]
theorem maxF2 (x y : Nat) (s : S) : maxF [nD x, nD y] s = .ok (nD (max x y)) s := by
  have e : (if (y : Int) > (x : Int) then (y : Int) else (x : Int)) = ((max x y : Nat) : Int) := by
    split <;> omega
  show R.ok (D.int (if (y : Int) > (x : Int) then (y : Int) else (x : Int))) s = _
  rw [e]; rfl
section
variable {V0 : D} {j2 j3 j4 j5 j6 j7 j8 j12 j13 : Option Sl} {a b : List Pt} {bk : Bool} {s : S}
theorem law5 (hs : s.all D.lite1 = true) (ga : Good a) (gb : Good b) (la : a.length ≤ 9) (lb : b.length ≤ 9) : b_law_5 (lz V0 j2 j3 j4 j5 j6 j7 j8 a b bk j12 j13) s = .nx (lz V0 j2 j3 j4 j5 j6 j7 j8 a b bk j12 j13) s := by
  obtain ⟨c1, h1, e1⟩ := both_ok hs ga gb (by omega)
  obtain ⟨c2, h2, e2⟩ := either_ok hs gb ga (by omega)
  have d1 := h1.dep (lastV_two depF_inv (fun _ _ => rfl) ga.ne gb.ne gb.ok.wf (dep_last ga.ne) (dep_last gb.ne))
  have d2 := h2.dep (lastV_two depF_inv (fun _ _ => rfl) gb.ne ga.ne ga.ok.wf (dep_last gb.ne) (dep_last ga.ne))
  have d1' : depD c1 = max (depD a) (depD b) := by rw [d1]; show mxN _ + 0 = _; rw [mx2]; rfl
  have d2' : depD c2 = max (depD a) (depD b) := by rw [d2]; show mxN _ + 0 = _; rw [mx2, Nat.max_comm]; rfl
  have fa := (fld6 (a := borE 9) (ρ := lz V0 j2 j3 j4 j5 j6 j7 j8 a b bk j12 j13) (s := s) (md := a) rfl).2.1
  have fb := (fld6 (a := borE 10) (ρ := lz V0 j2 j3 j4 j5 j6 j7 j8 a b bk j12 j13) (s := s) (md := b) rfl).2.1
  have em : callE maxF (consA (fldE ["Saying"] "depth" (borE 9)) (consA (fldE ["Saying"] "depth" (borE 10)) nilA)) (lz V0 j2 j3 j4 j5 j6 j7 j8 a b bk j12 j13) s = .ok (nD (max (depD a) (depD b))) s := call_ok (cons_ok fa (cons_ok fb rfl)) (maxF2 _ _ _)
  have x1 : callE f_both_of (consA (varE 9) (consA (varE 10) nilA)) (lz V0 j2 j3 j4 j5 j6 j7 j8 a b bk j12 j13) s = .ok (sayD c1) s := call_ok (cons_ok (x := sayD a) rfl (cons_ok (x := sayD b) rfl rfl)) e1
  have x2 : callE f_either_of (consA (varE 10) (consA (varE 9) nilA)) (lz V0 j2 j3 j4 j5 j6 j7 j8 a b bk j12 j13) s = .ok (sayD c2) s := call_ok (cons_ok (x := sayD b) rfl (cons_ok (x := sayD a) rfl rfl)) e2
  have f1 := (fld6 x1).2.1
  have f2 := (fld6 x2).2.1
  rw [d1'] at f1
  rw [d2'] at f2
  have t1 := tst_ok (bin_ok f1 em (ne_nat _))
  have t2 := tst_ok (bin_ok f2 em (ne_nat _))
  unfold b_law_5
  rw [ifS_f (or_f t1 t2)]; rfl
end
theorem law6 {zs : List Int} {V0 : D} {j2 j3 j4 j5 j6 j7 j8 j12 j13 : Option Sl} {a b : List Pt} {bk : Bool} {t r : Int} (hP : PlOk 161 t r) (ga : Good a) (la : a.length ≤ 9) : ∃ x y z t' r', PlOk 162 t' r' ∧ depD x = depD a + 1 ∧ depD y = depD a + 1 ∧ depD z = depD a + 1 ∧ backB x = (bk || backB a) ∧ backB y = (bk || backB a) ∧ backB z = (bk || backB a) ∧
    b_law_6 (lz V0 j2 j3 j4 j5 j6 j7 j8 a b bk j12 j13) (Pl zs t r []) = .nx (lz V0 j2 j3 j4 j5 j6 j7 j8 a b bk (some (.v (.lst [sayD x, sayD y, sayD z]))) j13) (Pl zs t' r' []) := by
  obtain ⟨v, t', r', hv, hP2, e⟩ := drawE_ok (zs := zs) (s := []) (n := 39) (pe := varE 1) (b := conE (.int 39)) (ρ := lz V0 j2 j3 j4 j5 j6 j7 j8 a b bk j12 j13) hP (by omega) (by decide) (by decide) rfl rfl
  obtain ⟨x, hx, e1⟩ := some_of_ok (l := "l") (b := bk) (pl_lite zs t r) ga nm_l (by omega)
  obtain ⟨y, hy, e2⟩ := every_of_ok (l := "on") (b := bk) (pl_lite zs t r) ga nm_on (by omega)
  obtain ⟨z, hz, e3⟩ := at_least_ok (m := 2 + (v : Int)) (l := "l.l") (b := bk) (pl_lite zs t' r') ga nm_ll (by omega) (by omega) (by omega)
  have dd : ∀ {p : Pt} {md : List Pt}, p.kids = [a.length - 1] → p.lk = 1 → MadeOf (a ++ [p]) md → depD md = depD a + 1 := fun hk hl h => by
    rw [h.dep (lastV_one ga.ne hk (dep_last ga.ne))]
    show mxN _ + _ = _
    rw [mx1, hl]
  have bb : ∀ {p : Pt} {md : List Pt}, p.kids = [a.length - 1] → p.bk = bk → MadeOf (a ++ [p]) md → backB md = (bk || backB a) := fun hk hl h => by
    rw [h.back (lastV_one ga.ne hk (back_last ga))]
    show (_ || _) = _
    rw [hl]
    simp
  refine ⟨x, y, z, t', r', hP2, dd rfl rfl hx, dd rfl rfl hy, dd rfl rfl hz, bb rfl rfl hx, bb rfl rfl hy, bb rfl rfl hz, ?_⟩
  have x1 : callE f_some_of (consA (conE (.str "l")) (consA (varE 9) (consA (varE 11) nilA))) (lz V0 j2 j3 j4 j5 j6 j7 j8 a b bk j12 j13) (Pl zs t r []) = .ok (sayD x) (Pl zs t r []) := call_ok (cons_ok (x := .str "l") rfl (cons_ok (x := sayD a) rfl (cons_ok (x := .bl bk) rfl rfl))) e1
  have x2 : callE f_every_of (consA (conE (.str "on")) (consA (varE 9) (consA (varE 11) nilA))) (lz V0 j2 j3 j4 j5 j6 j7 j8 a b bk j12 j13) (Pl zs t r []) = .ok (sayD y) (Pl zs t r []) := call_ok (cons_ok (x := .str "on") rfl (cons_ok (x := sayD a) rfl (cons_ok (x := .bl bk) rfl rfl))) e2
  have ea : binE addD (conE (.int 2)) (callE f_l_draw (consA (varE 1) (consA (conE (.int 39)) nilA))) (lz V0 j2 j3 j4 j5 j6 j7 j8 a b bk j12 j13) (Pl zs t r []) = .ok (.int (2 + (v : Int))) (Pl zs t' r' []) := bin_ok (x := .int 2) (y := nD v) rfl e rfl
  have x3 : callE f_at_least (consA (binE addD (conE (.int 2)) (callE f_l_draw (consA (varE 1) (consA (conE (.int 39)) nilA)))) (consA (conE (.str "l.l")) (consA (varE 9) (consA (varE 11) nilA)))) (lz V0 j2 j3 j4 j5 j6 j7 j8 a b bk j12 j13) (Pl zs t r []) = .ok (sayD z) (Pl zs t' r' []) := call_ok (cons_ok ea (cons_ok (x := .str "l.l") rfl (cons_ok (x := sayD a) rfl (cons_ok (x := .bl bk) rfl rfl)))) e3
  exact set_ok (lst_ok (cons_ok x1 (cons_ok x2 (cons_ok x3 rfl))) (szl_lt (Nat.le_of_ble_eq_true rfl)))
section
variable {V0 : D} {j2 j3 j4 j5 j6 j7 j8 j12 j13 : Option Sl} {a b x y z : List Pt} {bk : Bool} {s : S}
theorem law7 (dx : depD x = depD a + 1) (dy : depD y = depD a + 1) (dz : depD z = depD a + 1) (bx : backB x = (bk || backB a)) (by' : backB y = (bk || backB a)) (bz : backB z = (bk || backB a)) :
    b_law_7 (lz V0 j2 j3 j4 j5 j6 j7 j8 a b bk (some (.v (.lst [sayD x, sayD y, sayD z]))) j13) s = .nx (lz V0 j2 j3 j4 j5 j6 j7 j8 a b bk (some (.v (.lst [sayD x, sayD y, sayD z]))) j13) s := by
  have ed : lcE (iterE (borE 12)) [6] (.nm 6) yesT (fldE ["Saying"] "depth" (borE 6)) (lz V0 j2 j3 j4 j5 j6 j7 j8 a b bk (some (.v (.lst [sayD x, sayD y, sayD z]))) j13) s = .ok (.lst [nD (depD x), nD (depD y), nD (depD z)]) s := rfl
  have eb : lcE (iterE (borE 12)) [6] (.nm 6) yesT (fldE ["Saying"] "is_back" (borE 6)) (lz V0 j2 j3 j4 j5 j6 j7 j8 a b bk (some (.v (.lst [sayD x, sayD y, sayD z]))) j13) s = .ok (.lst [.bl (backB x), .bl (backB y), .bl (backB z)]) s := rfl
  rw [dx, dy, dz] at ed
  rw [bx, by', bz] at eb
  have fa := fld6 (a := borE 9) (ρ := lz V0 j2 j3 j4 j5 j6 j7 j8 a b bk (some (.v (.lst [sayD x, sayD y, sayD z]))) j13) (s := s) (md := a) rfl
  have ea : addD (nD (depD a)) (.int 1) s = .ok (nD (depD a + 1)) s := rfl
  have m1 : mul2D (.lst [nD (depD a + 1)]) (.int 3) s = .ok (.lst [nD (depD a + 1), nD (depD a + 1), nD (depD a + 1)]) s := rfl
  have m2 : mul2D (.lst [.bl (bk || backB a)]) (.int 3) s = .ok (.lst [.bl (bk || backB a), .bl (bk || backB a), .bl (bk || backB a)]) s := rfl
  have w1 : binE mul2D (lstE (consA (binE addD (fldE ["Saying"] "depth" (borE 9)) (conE (.int 1))) nilA)) (conE (.int 3)) (lz V0 j2 j3 j4 j5 j6 j7 j8 a b bk (some (.v (.lst [sayD x, sayD y, sayD z]))) j13) s = .ok (.lst [nD (depD a + 1), nD (depD a + 1), nD (depD a + 1)]) s :=
    bin_ok (y := .int 3) (lst_ok (cons_ok (bin_ok (y := .int 1) fa.2.1 rfl ea) rfl) (szl_lt (Nat.le_of_ble_eq_true rfl))) rfl m1
  have o1 : orE (varE 11) (fldE ["Saying"] "is_back" (borE 9)) (lz V0 j2 j3 j4 j5 j6 j7 j8 a b bk (some (.v (.lst [sayD x, sayD y, sayD z]))) j13) s = .ok (.bl (bk || backB a)) s := by cases bk <;> rfl
  have w2 : binE mul2D (lstE (consA (orE (varE 11) (fldE ["Saying"] "is_back" (borE 9))) nilA)) (conE (.int 3)) (lz V0 j2 j3 j4 j5 j6 j7 j8 a b bk (some (.v (.lst [sayD x, sayD y, sayD z]))) j13) s = .ok (.lst [.bl (bk || backB a), .bl (bk || backB a), .bl (bk || backB a)]) s :=
    bin_ok (y := .int 3) (lst_ok (cons_ok o1 rfl) (szl_lt (Nat.le_of_ble_eq_true rfl))) rfl m2
  have t1 := tst_ok (bin_ok ed w1 (ne_ints [((depD a + 1 : Nat) : Int), ((depD a + 1 : Nat) : Int), ((depD a + 1 : Nat) : Int)]))
  have t2 := tst_ok (bin_ok eb w2 (ne_bls _))
  unfold b_law_7
  rw [ifS_f (or_f t1 t2)]; rfl
theorem law8 (hs : s.all D.lite1 = true) (ga : Good a) (la : a.length ≤ 9) : b_law_8 (lz V0 j2 j3 j4 j5 j6 j7 j8 a b bk j12 j13) s = .rt (.bl true) s := by
  obtain ⟨x, hx, e1⟩ := inv_ok hs ga (by omega)
  obtain ⟨y, hy, e2⟩ := top_ok (sc := "s") hs ga nm_s (by omega)
  have dd : ∀ {p : Pt} {md : List Pt}, p.kids = [a.length - 1] → p.lk = 0 → MadeOf (a ++ [p]) md → depD md = depD a := fun hk hl h => by
    rw [h.dep (lastV_one ga.ne hk (dep_last ga.ne))]
    show mxN _ + _ = _
    rw [mx1, hl]; rfl
  have x1 : mthN ["Saying"] f_Saying_invert (varE 9) (lz V0 j2 j3 j4 j5 j6 j7 j8 a b bk j12 j13) s = .ok (sayD x) s := inv_call (md := a) rfl e1
  have x2 : callE f_top_of (consA (conE (.str "s")) (consA (varE 9) nilA)) (lz V0 j2 j3 j4 j5 j6 j7 j8 a b bk j12 j13) s = .ok (sayD y) s := call_ok (cons_ok (x := .str "s") rfl (cons_ok (x := sayD a) rfl rfl)) e2
  have f1 := (fld6 x1).2.1
  have f2 := (fld6 x2).2.1
  rw [dd rfl rfl hx] at f1
  rw [dd rfl rfl hy] at f2
  have fa := (fld6 (a := borE 9) (ρ := lz V0 j2 j3 j4 j5 j6 j7 j8 a b bk j12 j13) (s := s) (md := a) rfl).2.1
  have m1 : mul2D (.lst [nD (depD a)]) (.int 2) s = .ok (.lst [nD (depD a), nD (depD a)]) s := rfl
  have w0 := lst_ok (cons_ok f1 (cons_ok f2 (r := nilA) (xs := []) (s2 := s) rfl)) (szl_lt (Nat.le_of_ble_eq_true rfl))
  have w1 : binE mul2D (lstE (consA (fldE ["Saying"] "depth" (borE 9)) nilA)) (conE (.int 2)) (lz V0 j2 j3 j4 j5 j6 j7 j8 a b bk j12 j13) s = .ok (.lst [nD (depD a), nD (depD a)]) s :=
    bin_ok (y := .int 2) (lst_ok (cons_ok fa rfl) (szl_lt (Nat.le_of_ble_eq_true rfl))) rfl m1
  exact ret_ok (bin_ok w0 w1 (eq_ints [((depD a : Nat) : Int), ((depD a : Nat) : Int)]))
end
theorem says (zs : List Int) (hl : zs.length ≤ 63) : Says f_law zs := by
  have e0 : b_law_0 [some (.v (.fl (zs.map D.int))), none, none, none, none, none, none, none, none, none, none, none, none, none] [] = .nx [some (.v (.fl (zs.map D.int))), some (.v (.ref 0)), none, none, none, none, none, none, none, none, none, none, none, none] (Pl (zs.take 60) 0 0 []) :=
    set_ok (call_ok (cons_ok (x := .fl (zs.map D.int)) rfl rfl) (pen_ok hl))
  have e1 : b_law_1 [some (.v (.fl (zs.map D.int))), some (.v (.ref 0)), none, none, none, none, none, none, none, none, none, none, none, none] (Pl (zs.take 60) 0 0 []) = .nx (lw (.fl (zs.map D.int)) [] none none none none none none none) (Pl (zs.take 60) 0 0 []) := rfl
  obtain ⟨a, b, t, r, k3, k4, k5, ga, gb, la, lb, hP, e2⟩ := two_turns (zs := zs.take 60) (V0 := .fl (zs.map D.int))
  obtain ⟨i4, i6, i7, i8, e3⟩ := law3 (V0 := .fl (zs.map D.int)) (j3 := k3) (j5 := k5) (j13 := none) (j4 := k4) (j6 := none) (j7 := none) (j8 := none) (pl_lite (zs.take 60) t r) ga gb la lb
  obtain ⟨bk, t2, r2', hP2, e4⟩ := law4 (zs := zs.take 60) (V0 := .fl (zs.map D.int)) (a := a) (b := b) (j3 := k3) (j4 := i4) (j5 := k5) (j6 := i6) (j7 := i7) (j8 := i8) (j13 := none) hP
  have e5 := law5 (V0 := .fl (zs.map D.int)) (j2 := some (.o (.lst [sayD a, sayD b]))) (j3 := k3) (j4 := i4) (j5 := k5) (j6 := i6) (j7 := i7) (j8 := i8) (j12 := none) (j13 := none) (bk := bk) (pl_lite (zs.take 60) t2 r2') ga gb la lb
  obtain ⟨x, y, z, t3, r3, hP3, dx, dy, dz, bx, by', bz, e6⟩ := law6 (zs := zs.take 60) (V0 := .fl (zs.map D.int)) (j2 := some (.o (.lst [sayD a, sayD b]))) (j3 := k3) (j4 := i4) (j5 := k5) (j6 := i6) (j7 := i7) (j8 := i8) (j12 := none) (j13 := none) (b := b) (bk := bk) hP2 ga la
  have e7 := law7 (V0 := .fl (zs.map D.int)) (j2 := some (.o (.lst [sayD a, sayD b]))) (j3 := k3) (j4 := i4) (j5 := k5) (j6 := i6) (j7 := i7) (j8 := i8) (j13 := none) (b := b) (s := Pl (zs.take 60) t3 r3 []) dx dy dz bx by' bz
  have e8 := law8 (V0 := .fl (zs.map D.int)) (j2 := some (.o (.lst [sayD a, sayD b]))) (j3 := k3) (j4 := i4) (j5 := k5) (j6 := i6) (j7 := i7) (j8 := i8) (j12 := some (.v (.lst [sayD x, sayD y, sayD z]))) (j13 := none) (b := b) (bk := bk) (pl_lite (zs.take 60) t3 r3) ga la
  refine ⟨Pl (zs.take 60) t3 r3 [], ?_⟩
  show fin (b_law [some (.v (.fl (zs.map D.int))), none, none, none, none, none, none, none, none, none, none, none, none, none] []) = _
  unfold b_law
  rw [seq_nx e0, seq_nx e1, seq_nx e2, seq_nx e3, seq_nx e4, seq_nx e5, seq_nx e6, seq_nx e7, e8]
  rfl
end K13

namespace K13
open PySem PySem.Spec PyProof.Rows L2 Fv
theorem rv_kt {g : Wd} {μ : M} {H : Hp} {p : Addr} {ds : List D} {ys : List V} (k : KtS g.K p ys) (r : RVs g μ H ds ys) : RV g μ H (.ktup ds) (.ref p) := by simp only [RV]; exact ⟨p, ys, rfl, k, r⟩
theorem rv_str {g : Wd} {μ : M} {H : Hp} {x : Tx} : RV g μ H (.str x) (.str x) := by simp only [RV]
theorem rv_int {g : Wd} {μ : M} {H : Hp} {x : Int} : RV g μ H (.int x) (.int x) := by simp only [RV]
def txt_mk {K : PySem.W.Frag} {h : Heap} {mg : Str → Option Value} (X : K.In h) (G : h.Ns mainGlobals mg)
    {od_l_pen an_l_pen : Option Addr} {sl_l_pen : Array (Option Value)} {oc_l_pen kV_l_pen dc_l_pen pm_l_pen cd_l_pen ct_l_pen  : Value} {f_l_pen : Addr} {od_with_numbers an_with_numbers : Option Addr} {sl_with_numbers : Array (Option Value)} {oc_with_numbers kV_with_numbers dc_with_numbers pm_with_numbers cd_with_numbers ct_with_numbers  : Value} {f_with_numbers : Addr} {od_borne an_borne : Option Addr} {sl_borne : Array (Option Value)} {oc_borne kV_borne dc_borne pm_borne cd_borne ct_borne  : Value} {f_borne : Addr} {od_one_form an_one_form : Option Addr} {sl_one_form : Array (Option Value)} {oc_one_form kV_one_form dc_one_form pm_one_form cd_one_form ct_one_form  : Value} {f_one_form : Addr} {od_is_list an_is_list : Option Addr} {sl_is_list : Array (Option Value)} {oc_is_list kV_is_list dc_is_list pm_is_list cd_is_list ct_is_list  : Value} {f_is_list : Addr} {od_is_stem an_is_stem : Option Addr} {sl_is_stem : Array (Option Value)} {oc_is_stem kV_is_stem dc_is_stem pm_is_stem cd_is_stem ct_is_stem  : Value} {f_is_stem : Addr} {od_is_name an_is_name : Option Addr} {sl_is_name : Array (Option Value)} {oc_is_name kV_is_name dc_is_name pm_is_name cd_is_name ct_is_name  : Value} {f_is_name : Addr} {od_is_integer an_is_integer : Option Addr} {sl_is_integer : Array (Option Value)} {oc_is_integer kV_is_integer dc_is_integer pm_is_integer cd_is_integer ct_is_integer  : Value} {f_is_integer : Addr} {od_is_within an_is_within : Option Addr} {sl_is_within : Array (Option Value)} {oc_is_within kV_is_within dc_is_within pm_is_within cd_is_within ct_is_within  : Value} {f_is_within : Addr} {od_can_stand an_can_stand : Option Addr} {sl_can_stand : Array (Option Value)} {oc_can_stand kV_can_stand dc_can_stand pm_can_stand cd_can_stand ct_can_stand  : Value} {f_can_stand : Addr} {od_is_part an_is_part : Option Addr} {sl_is_part : Array (Option Value)} {oc_is_part kV_is_part dc_is_part pm_is_part cd_is_part ct_is_part  : Value} {f_is_part : Addr} {od_checked_parts an_checked_parts : Option Addr} {sl_checked_parts : Array (Option Value)} {oc_checked_parts kV_checked_parts dc_checked_parts pm_checked_parts cd_checked_parts ct_checked_parts  : Value} {f_checked_parts : Addr} {od_items_with an_items_with : Option Addr} {sl_items_with : Array (Option Value)} {oc_items_with kV_items_with dc_items_with pm_items_with cd_items_with ct_items_with  : Value} {f_items_with : Addr} {od_part_depths an_part_depths : Option Addr} {sl_part_depths : Array (Option Value)} {oc_part_depths kV_part_depths dc_part_depths pm_part_depths cd_part_depths ct_part_depths  : Value} {f_part_depths : Addr} {od_over an_over : Option Addr} {sl_over : Array (Option Value)} {oc_over kV_over dc_over pm_over cd_over ct_over  : Value} {f_over : Addr} {od_some_of an_some_of : Option Addr} {sl_some_of : Array (Option Value)} {oc_some_of kV_some_of dc_some_of pm_some_of cd_some_of ct_some_of  : Value} {f_some_of : Addr} {dV_some_of : Addr} {dt_some_of : Value} {dd_some_of : Option Addr} {dn_some_of : Nat} {ds_some_of : Array (Option Value)} {od_every_of an_every_of : Option Addr} {sl_every_of : Array (Option Value)} {oc_every_of kV_every_of dc_every_of pm_every_of cd_every_of ct_every_of  : Value} {f_every_of : Addr} {dV_every_of : Addr} {dt_every_of : Value} {dd_every_of : Option Addr} {dn_every_of : Nat} {ds_every_of : Array (Option Value)} {od_at_least an_at_least : Option Addr} {sl_at_least : Array (Option Value)} {oc_at_least kV_at_least dc_at_least pm_at_least cd_at_least ct_at_least  : Value} {f_at_least : Addr} {dV_at_least : Addr} {dt_at_least : Value} {dd_at_least : Option Addr} {dn_at_least : Nat} {ds_at_least : Array (Option Value)} {od_l_draw an_l_draw : Option Addr} {sl_l_draw : Array (Option Value)} {oc_l_draw kV_l_draw dc_l_draw pm_l_draw cd_l_draw ct_l_draw  : Value} {f_l_draw : Addr} {od_l_pick an_l_pick : Option Addr} {sl_l_pick : Array (Option Value)} {oc_l_pick kV_l_pick dc_l_pick pm_l_pick cd_l_pick ct_l_pick  : Value} {f_l_pick : Addr} {od_l_part an_l_part : Option Addr} {sl_l_part : Array (Option Value)} {oc_l_part kV_l_part dc_l_part pm_l_part cd_l_part ct_l_part  : Value} {f_l_part : Addr} {od_shifted_parts an_shifted_parts : Option Addr} {sl_shifted_parts : Array (Option Value)} {oc_shifted_parts kV_shifted_parts dc_shifted_parts pm_shifted_parts cd_shifted_parts ct_shifted_parts  : Value} {f_shifted_parts : Addr} {od_folded_parts an_folded_parts : Option Addr} {sl_folded_parts : Array (Option Value)} {oc_folded_parts kV_folded_parts dc_folded_parts pm_folded_parts cd_folded_parts ct_folded_parts  : Value} {f_folded_parts : Addr} {od_folded an_folded : Option Addr} {sl_folded : Array (Option Value)} {oc_folded kV_folded dc_folded pm_folded cd_folded ct_folded  : Value} {f_folded : Addr} {od_both_of an_both_of : Option Addr} {sl_both_of : Array (Option Value)} {oc_both_of kV_both_of dc_both_of pm_both_of cd_both_of ct_both_of  : Value} {f_both_of : Addr} {od_top_of an_top_of : Option Addr} {sl_top_of : Array (Option Value)} {oc_top_of kV_top_of dc_top_of pm_top_of cd_top_of ct_top_of  : Value} {f_top_of : Addr} {od_l_named an_l_named : Option Addr} {sl_l_named : Array (Option Value)} {oc_l_named kV_l_named dc_l_named pm_l_named cd_l_named ct_l_named  : Value} {f_l_named : Addr} {od_either_of an_either_of : Option Addr} {sl_either_of : Array (Option Value)} {oc_either_of kV_either_of dc_either_of pm_either_of cd_either_of ct_either_of  : Value} {f_either_of : Addr} {od_l_roads an_l_roads : Option Addr} {sl_l_roads : Array (Option Value)} {oc_l_roads kV_l_roads dc_l_roads pm_l_roads cd_l_roads ct_l_roads  : Value} {f_l_roads : Addr} {od_law an_law : Option Addr} {sl_law : Array (Option Value)} {oc_law kV_law dc_law pm_law cd_law ct_law  : Value} {f_law : Addr} {C_Saying : Addr} {od_Saying_init an_Saying_init : Option Addr} {sl_Saying_init : Array (Option Value)} {oc_Saying_init kV_Saying_init dc_Saying_init pm_Saying_init cd_Saying_init ct_Saying_init : Value} {f_Saying_init : Addr} {od_Saying_invert an_Saying_invert : Option Addr} {sl_Saying_invert : Array (Option Value)} {oc_Saying_invert kV_Saying_invert dc_Saying_invert pm_Saying_invert cd_Saying_invert ct_Saying_invert : Value} {f_Saying_invert : Addr} {od_Saying_len an_Saying_len : Option Addr} {sl_Saying_len : Array (Option Value)} {oc_Saying_len kV_Saying_len dc_Saying_len pm_Saying_len cd_Saying_len ct_Saying_len : Value} {f_Saying_len : Addr} {p0_DIRECTIONS n0_DIRECTIONS : Nat} {s0_DIRECTIONS : Array (Option Value)} {k1_DIRECTIONS : Tok} {k2_DIRECTIONS : Tok} {tk_LEAST_MANY : Tok} {tk_LONGEST_STEM : Tok} {tk_MOST_MANY : Tok} {tk_MOST_STEMS : Tok} {p3_SAYING_KINDS n3_SAYING_KINDS : Nat} {s3_SAYING_KINDS : Array (Option Value)} {p4_SAYING_KINDS n4_SAYING_KINDS : Nat} {s4_SAYING_KINDS : Array (Option Value)} {k5_SAYING_KINDS : Tok} {p6_SAYING_KINDS n6_SAYING_KINDS : Nat} {s6_SAYING_KINDS : Array (Option Value)} {p7_SAYING_KINDS n7_SAYING_KINDS : Nat} {s7_SAYING_KINDS : Array (Option Value)} {k8_SAYING_KINDS : Tok} {p9_SAYING_KINDS n9_SAYING_KINDS : Nat} {s9_SAYING_KINDS : Array (Option Value)} {p10_SAYING_KINDS n10_SAYING_KINDS : Nat} {s10_SAYING_KINDS : Array (Option Value)} {k11_SAYING_KINDS : Tok} {p12_SAYING_KINDS n12_SAYING_KINDS : Nat} {s12_SAYING_KINDS : Array (Option Value)} {k13_SAYING_KINDS : Tok} {p14_SAYING_KINDS n14_SAYING_KINDS : Nat} {s14_SAYING_KINDS : Array (Option Value)} {k15_SAYING_KINDS : Tok} {p16_SAYING_KINDS n16_SAYING_KINDS : Nat} {s16_SAYING_KINDS : Array (Option Value)} {k17_SAYING_KINDS : Tok} {k18_SAYING_KINDS : Tok} {p19_SAYING_KINDS n19_SAYING_KINDS : Nat} {s19_SAYING_KINDS : Array (Option Value)} {k20_SAYING_KINDS : Tok} {p21_SAYING_KINDS n21_SAYING_KINDS : Nat} {s21_SAYING_KINDS : Array (Option Value)} {k22_SAYING_KINDS : Tok} {k23_SAYING_KINDS : Tok} {p24_SAYING_KINDS n24_SAYING_KINDS : Nat} {s24_SAYING_KINDS : Array (Option Value)} {k25_SAYING_KINDS : Tok} {p26_SAYING_KINDS n26_SAYING_KINDS : Nat} {s26_SAYING_KINDS : Array (Option Value)} {k27_SAYING_KINDS : Tok} {p28_SAYING_KINDS n28_SAYING_KINDS : Nat} {s28_SAYING_KINDS : Array (Option Value)} {k29_SAYING_KINDS : Tok} {p30_SAYING_KINDS n30_SAYING_KINDS : Nat} {s30_SAYING_KINDS : Array (Option Value)} {k31_SAYING_KINDS : Tok} {k32_SAYING_KINDS : Tok} {k33_SAYING_KINDS : Tok} {p34_SAYING_KINDS n34_SAYING_KINDS : Nat} {s34_SAYING_KINDS : Array (Option Value)} {k35_SAYING_KINDS : Tok} {p36_SAYING_KINDS n36_SAYING_KINDS : Nat} {s36_SAYING_KINDS : Array (Option Value)} {k37_SAYING_KINDS : Tok} {k38_SAYING_KINDS : Tok} {k39_SAYING_KINDS : Tok} {p40_SAYING_KINDS n40_SAYING_KINDS : Nat} {s40_SAYING_KINDS : Array (Option Value)} {k41_SAYING_KINDS : Tok} {p42_SAYING_KINDS n42_SAYING_KINDS : Nat} {s42_SAYING_KINDS : Array (Option Value)} {k43_SAYING_KINDS : Tok} {k44_SAYING_KINDS : Tok} {k45_SAYING_KINDS : Tok} {k46_SAYING_KINDS : Tok} {p47_SAYING_KINDS n47_SAYING_KINDS : Nat} {s47_SAYING_KINDS : Array (Option Value)} {k48_SAYING_KINDS : Tok} {p49_SAYING_KINDS n49_SAYING_KINDS : Nat} {s49_SAYING_KINDS : Array (Option Value)} {k50_SAYING_KINDS : Tok} {k51_SAYING_KINDS : Tok} {p52_SAYING_KINDS n52_SAYING_KINDS : Nat} {s52_SAYING_KINDS : Array (Option Value)} {k53_SAYING_KINDS : Tok} {p54_SAYING_KINDS n54_SAYING_KINDS : Nat} {s54_SAYING_KINDS : Array (Option Value)} {k55_SAYING_KINDS : Tok} {k56_SAYING_KINDS : Tok}
    (a_l_pen : PySem.W.nsIn K mainGlobals "_law_pen" = some (some (.ref f_l_pen)))
    (l_l_pen : K.lookup f_l_pen = some ⟨oc_l_pen, od_l_pen, .func (PySem.W.fnOf "_law_pen" "_law_pen" (defArgs (top 49)) (defBody (top 49)) (defScope (top 49)) .none kV_l_pen dc_l_pen pm_l_pen an_l_pen cd_l_pen ct_l_pen), sl_l_pen⟩)
    (c_l_pen : PySem.W.codeIn K cd_l_pen "_law_pen" = true)
    (k_l_pen : PySem.W.keepIn K (.ref f_l_pen) = true)
    (a_with_numbers : PySem.W.nsIn K mainGlobals "_with_numbers" = some (some (.ref f_with_numbers)))
    (l_with_numbers : K.lookup f_with_numbers = some ⟨oc_with_numbers, od_with_numbers, .func (PySem.W.fnOf "_with_numbers" "_with_numbers" (defArgs (top 27)) (defBody (top 27)) (defScope (top 27)) .none kV_with_numbers dc_with_numbers pm_with_numbers an_with_numbers cd_with_numbers ct_with_numbers), sl_with_numbers⟩)
    (c_with_numbers : PySem.W.codeIn K cd_with_numbers "_with_numbers" = true)
    (k_with_numbers : PySem.W.keepIn K (.ref f_with_numbers) = true)
    (a_borne : PySem.W.nsIn K mainGlobals "_borne" = some (some (.ref f_borne)))
    (l_borne : K.lookup f_borne = some ⟨oc_borne, od_borne, .func (PySem.W.fnOf "_borne" "_borne" (defArgs (top 26)) (defBody (top 26)) (defScope (top 26)) .none kV_borne dc_borne pm_borne an_borne cd_borne ct_borne), sl_borne⟩)
    (c_borne : PySem.W.codeIn K cd_borne "_borne" = true)
    (k_borne : PySem.W.keepIn K (.ref f_borne) = true)
    (a_one_form : PySem.W.nsIn K mainGlobals "one_form" = some (some (.ref f_one_form)))
    (l_one_form : K.lookup f_one_form = some ⟨oc_one_form, od_one_form, .func (PySem.W.fnOf "one_form" "one_form" (defArgs (top 28)) (defBody (top 28)) (defScope (top 28)) .none kV_one_form dc_one_form pm_one_form an_one_form cd_one_form ct_one_form), sl_one_form⟩)
    (c_one_form : PySem.W.codeIn K cd_one_form "one_form" = true)
    (k_one_form : PySem.W.keepIn K (.ref f_one_form) = true)
    (a_is_list : PySem.W.nsIn K mainGlobals "is_list" = some (some (.ref f_is_list)))
    (l_is_list : K.lookup f_is_list = some ⟨oc_is_list, od_is_list, .func (PySem.W.fnOf "is_list" "is_list" (defArgs (top 9)) (defBody (top 9)) (defScope (top 9)) .none kV_is_list dc_is_list pm_is_list an_is_list cd_is_list ct_is_list), sl_is_list⟩)
    (c_is_list : PySem.W.codeIn K cd_is_list "is_list" = true)
    (k_is_list : PySem.W.keepIn K (.ref f_is_list) = true)
    (a_is_stem : PySem.W.nsIn K mainGlobals "is_stem" = some (some (.ref f_is_stem)))
    (l_is_stem : K.lookup f_is_stem = some ⟨oc_is_stem, od_is_stem, .func (PySem.W.fnOf "is_stem" "is_stem" (defArgs (top 12)) (defBody (top 12)) (defScope (top 12)) .none kV_is_stem dc_is_stem pm_is_stem an_is_stem cd_is_stem ct_is_stem), sl_is_stem⟩)
    (c_is_stem : PySem.W.codeIn K cd_is_stem "is_stem" = true)
    (k_is_stem : PySem.W.keepIn K (.ref f_is_stem) = true)
    (a_is_name : PySem.W.nsIn K mainGlobals "is_name" = some (some (.ref f_is_name)))
    (l_is_name : K.lookup f_is_name = some ⟨oc_is_name, od_is_name, .func (PySem.W.fnOf "is_name" "is_name" (defArgs (top 13)) (defBody (top 13)) (defScope (top 13)) .none kV_is_name dc_is_name pm_is_name an_is_name cd_is_name ct_is_name), sl_is_name⟩)
    (c_is_name : PySem.W.codeIn K cd_is_name "is_name" = true)
    (k_is_name : PySem.W.keepIn K (.ref f_is_name) = true)
    (a_is_integer : PySem.W.nsIn K mainGlobals "is_integer" = some (some (.ref f_is_integer)))
    (l_is_integer : K.lookup f_is_integer = some ⟨oc_is_integer, od_is_integer, .func (PySem.W.fnOf "is_integer" "is_integer" (defArgs (top 10)) (defBody (top 10)) (defScope (top 10)) .none kV_is_integer dc_is_integer pm_is_integer an_is_integer cd_is_integer ct_is_integer), sl_is_integer⟩)
    (c_is_integer : PySem.W.codeIn K cd_is_integer "is_integer" = true)
    (k_is_integer : PySem.W.keepIn K (.ref f_is_integer) = true)
    (a_is_within : PySem.W.nsIn K mainGlobals "is_within" = some (some (.ref f_is_within)))
    (l_is_within : K.lookup f_is_within = some ⟨oc_is_within, od_is_within, .func (PySem.W.fnOf "is_within" "is_within" (defArgs (top 11)) (defBody (top 11)) (defScope (top 11)) .none kV_is_within dc_is_within pm_is_within an_is_within cd_is_within ct_is_within), sl_is_within⟩)
    (c_is_within : PySem.W.codeIn K cd_is_within "is_within" = true)
    (k_is_within : PySem.W.keepIn K (.ref f_is_within) = true)
    (a_can_stand : PySem.W.nsIn K mainGlobals "_can_stand" = some (some (.ref f_can_stand)))
    (l_can_stand : K.lookup f_can_stand = some ⟨oc_can_stand, od_can_stand, .func (PySem.W.fnOf "_can_stand" "_can_stand" (defArgs (top 23)) (defBody (top 23)) (defScope (top 23)) .none kV_can_stand dc_can_stand pm_can_stand an_can_stand cd_can_stand ct_can_stand), sl_can_stand⟩)
    (c_can_stand : PySem.W.codeIn K cd_can_stand "_can_stand" = true)
    (k_can_stand : PySem.W.keepIn K (.ref f_can_stand) = true)
    (a_is_part : PySem.W.nsIn K mainGlobals "_is_part" = some (some (.ref f_is_part)))
    (l_is_part : K.lookup f_is_part = some ⟨oc_is_part, od_is_part, .func (PySem.W.fnOf "_is_part" "_is_part" (defArgs (top 24)) (defBody (top 24)) (defScope (top 24)) .none kV_is_part dc_is_part pm_is_part an_is_part cd_is_part ct_is_part), sl_is_part⟩)
    (c_is_part : PySem.W.codeIn K cd_is_part "_is_part" = true)
    (k_is_part : PySem.W.keepIn K (.ref f_is_part) = true)
    (a_checked_parts : PySem.W.nsIn K mainGlobals "checked_parts" = some (some (.ref f_checked_parts)))
    (l_checked_parts : K.lookup f_checked_parts = some ⟨oc_checked_parts, od_checked_parts, .func (PySem.W.fnOf "checked_parts" "checked_parts" (defArgs (top 25)) (defBody (top 25)) (defScope (top 25)) .none kV_checked_parts dc_checked_parts pm_checked_parts an_checked_parts cd_checked_parts ct_checked_parts), sl_checked_parts⟩)
    (c_checked_parts : PySem.W.codeIn K cd_checked_parts "checked_parts" = true)
    (k_checked_parts : PySem.W.keepIn K (.ref f_checked_parts) = true)
    (a_items_with : PySem.W.nsIn K mainGlobals "items_with" = some (some (.ref f_items_with)))
    (l_items_with : K.lookup f_items_with = some ⟨oc_items_with, od_items_with, .func (PySem.W.fnOf "items_with" "items_with" (defArgs (top 33)) (defBody (top 33)) (defScope (top 33)) .none kV_items_with dc_items_with pm_items_with an_items_with cd_items_with ct_items_with), sl_items_with⟩)
    (c_items_with : PySem.W.codeIn K cd_items_with "items_with" = true)
    (k_items_with : PySem.W.keepIn K (.ref f_items_with) = true)
    (a_part_depths : PySem.W.nsIn K mainGlobals "part_depths" = some (some (.ref f_part_depths)))
    (l_part_depths : K.lookup f_part_depths = some ⟨oc_part_depths, od_part_depths, .func (PySem.W.fnOf "part_depths" "part_depths" (defArgs (top 32)) (defBody (top 32)) (defScope (top 32)) .none kV_part_depths dc_part_depths pm_part_depths an_part_depths cd_part_depths ct_part_depths), sl_part_depths⟩)
    (c_part_depths : PySem.W.codeIn K cd_part_depths "part_depths" = true)
    (k_part_depths : PySem.W.keepIn K (.ref f_part_depths) = true)
    (a_over : PySem.W.nsIn K mainGlobals "_over" = some (some (.ref f_over)))
    (l_over : K.lookup f_over = some ⟨oc_over, od_over, .func (PySem.W.fnOf "_over" "_over" (defArgs (top 43)) (defBody (top 43)) (defScope (top 43)) .none kV_over dc_over pm_over an_over cd_over ct_over), sl_over⟩)
    (c_over : PySem.W.codeIn K cd_over "_over" = true)
    (k_over : PySem.W.keepIn K (.ref f_over) = true)
    (a_some_of : PySem.W.nsIn K mainGlobals "some_of" = some (some (.ref f_some_of)))
    (l_some_of : K.lookup f_some_of = some ⟨oc_some_of, od_some_of, .func (PySem.W.fnOf "some_of" "some_of" (defArgs (top 44)) (defBody (top 44)) (defScope (top 44)) (.ref dV_some_of) kV_some_of dc_some_of pm_some_of an_some_of cd_some_of ct_some_of), sl_some_of⟩)
    (c_some_of : PySem.W.codeIn K cd_some_of "some_of" = true)
    (k_some_of : PySem.W.keepIn K (.ref f_some_of) = true)
    (df_some_of : K.lookup dV_some_of = some ⟨dt_some_of, dd_some_of, .seq #[.bool false] dn_some_of, ds_some_of⟩)
    (a_every_of : PySem.W.nsIn K mainGlobals "every_of" = some (some (.ref f_every_of)))
    (l_every_of : K.lookup f_every_of = some ⟨oc_every_of, od_every_of, .func (PySem.W.fnOf "every_of" "every_of" (defArgs (top 45)) (defBody (top 45)) (defScope (top 45)) (.ref dV_every_of) kV_every_of dc_every_of pm_every_of an_every_of cd_every_of ct_every_of), sl_every_of⟩)
    (c_every_of : PySem.W.codeIn K cd_every_of "every_of" = true)
    (k_every_of : PySem.W.keepIn K (.ref f_every_of) = true)
    (df_every_of : K.lookup dV_every_of = some ⟨dt_every_of, dd_every_of, .seq #[.bool false] dn_every_of, ds_every_of⟩)
    (a_at_least : PySem.W.nsIn K mainGlobals "at_least" = some (some (.ref f_at_least)))
    (l_at_least : K.lookup f_at_least = some ⟨oc_at_least, od_at_least, .func (PySem.W.fnOf "at_least" "at_least" (defArgs (top 46)) (defBody (top 46)) (defScope (top 46)) (.ref dV_at_least) kV_at_least dc_at_least pm_at_least an_at_least cd_at_least ct_at_least), sl_at_least⟩)
    (c_at_least : PySem.W.codeIn K cd_at_least "at_least" = true)
    (k_at_least : PySem.W.keepIn K (.ref f_at_least) = true)
    (df_at_least : K.lookup dV_at_least = some ⟨dt_at_least, dd_at_least, .seq #[.bool false] dn_at_least, ds_at_least⟩)
    (a_l_draw : PySem.W.nsIn K mainGlobals "_law_draw" = some (some (.ref f_l_draw)))
    (l_l_draw : K.lookup f_l_draw = some ⟨oc_l_draw, od_l_draw, .func (PySem.W.fnOf "_law_draw" "_law_draw" (defArgs (top 50)) (defBody (top 50)) (defScope (top 50)) .none kV_l_draw dc_l_draw pm_l_draw an_l_draw cd_l_draw ct_l_draw), sl_l_draw⟩)
    (c_l_draw : PySem.W.codeIn K cd_l_draw "_law_draw" = true)
    (k_l_draw : PySem.W.keepIn K (.ref f_l_draw) = true)
    (a_l_pick : PySem.W.nsIn K mainGlobals "_law_pick" = some (some (.ref f_l_pick)))
    (l_l_pick : K.lookup f_l_pick = some ⟨oc_l_pick, od_l_pick, .func (PySem.W.fnOf "_law_pick" "_law_pick" (defArgs (top 51)) (defBody (top 51)) (defScope (top 51)) .none kV_l_pick dc_l_pick pm_l_pick an_l_pick cd_l_pick ct_l_pick), sl_l_pick⟩)
    (c_l_pick : PySem.W.codeIn K cd_l_pick "_law_pick" = true)
    (k_l_pick : PySem.W.keepIn K (.ref f_l_pick) = true)
    (a_l_part : PySem.W.nsIn K mainGlobals "_law_part" = some (some (.ref f_l_part)))
    (l_l_part : K.lookup f_l_part = some ⟨oc_l_part, od_l_part, .func (PySem.W.fnOf "_law_part" "_law_part" (defArgs (top 52)) (defBody (top 52)) (defScope (top 52)) .none kV_l_part dc_l_part pm_l_part an_l_part cd_l_part ct_l_part), sl_l_part⟩)
    (c_l_part : PySem.W.codeIn K cd_l_part "_law_part" = true)
    (k_l_part : PySem.W.keepIn K (.ref f_l_part) = true)
    (a_shifted_parts : PySem.W.nsIn K mainGlobals "shifted_parts" = some (some (.ref f_shifted_parts)))
    (l_shifted_parts : K.lookup f_shifted_parts = some ⟨oc_shifted_parts, od_shifted_parts, .func (PySem.W.fnOf "shifted_parts" "shifted_parts" (defArgs (top 29)) (defBody (top 29)) (defScope (top 29)) .none kV_shifted_parts dc_shifted_parts pm_shifted_parts an_shifted_parts cd_shifted_parts ct_shifted_parts), sl_shifted_parts⟩)
    (c_shifted_parts : PySem.W.codeIn K cd_shifted_parts "shifted_parts" = true)
    (k_shifted_parts : PySem.W.keepIn K (.ref f_shifted_parts) = true)
    (a_folded_parts : PySem.W.nsIn K mainGlobals "folded_parts" = some (some (.ref f_folded_parts)))
    (l_folded_parts : K.lookup f_folded_parts = some ⟨oc_folded_parts, od_folded_parts, .func (PySem.W.fnOf "folded_parts" "folded_parts" (defArgs (top 31)) (defBody (top 31)) (defScope (top 31)) .none kV_folded_parts dc_folded_parts pm_folded_parts an_folded_parts cd_folded_parts ct_folded_parts), sl_folded_parts⟩)
    (c_folded_parts : PySem.W.codeIn K cd_folded_parts "folded_parts" = true)
    (k_folded_parts : PySem.W.keepIn K (.ref f_folded_parts) = true)
    (a_folded : PySem.W.nsIn K mainGlobals "_folded" = some (some (.ref f_folded)))
    (l_folded : K.lookup f_folded = some ⟨oc_folded, od_folded, .func (PySem.W.fnOf "_folded" "_folded" (defArgs (top 42)) (defBody (top 42)) (defScope (top 42)) .none kV_folded dc_folded pm_folded an_folded cd_folded ct_folded), sl_folded⟩)
    (c_folded : PySem.W.codeIn K cd_folded "_folded" = true)
    (k_folded : PySem.W.keepIn K (.ref f_folded) = true)
    (a_both_of : PySem.W.nsIn K mainGlobals "both_of" = some (some (.ref f_both_of)))
    (l_both_of : K.lookup f_both_of = some ⟨oc_both_of, od_both_of, .func (PySem.W.fnOf "both_of" "both_of" (defArgs (top 40)) (defBody (top 40)) (defScope (top 40)) .none kV_both_of dc_both_of pm_both_of an_both_of cd_both_of ct_both_of), sl_both_of⟩)
    (c_both_of : PySem.W.codeIn K cd_both_of "both_of" = true)
    (k_both_of : PySem.W.keepIn K (.ref f_both_of) = true)
    (a_top_of : PySem.W.nsIn K mainGlobals "top_of" = some (some (.ref f_top_of)))
    (l_top_of : K.lookup f_top_of = some ⟨oc_top_of, od_top_of, .func (PySem.W.fnOf "top_of" "top_of" (defArgs (top 47)) (defBody (top 47)) (defScope (top 47)) .none kV_top_of dc_top_of pm_top_of an_top_of cd_top_of ct_top_of), sl_top_of⟩)
    (c_top_of : PySem.W.codeIn K cd_top_of "top_of" = true)
    (k_top_of : PySem.W.keepIn K (.ref f_top_of) = true)
    (a_l_named : PySem.W.nsIn K mainGlobals "_law_named" = some (some (.ref f_l_named)))
    (l_l_named : K.lookup f_l_named = some ⟨oc_l_named, od_l_named, .func (PySem.W.fnOf "_law_named" "_law_named" (defArgs (top 54)) (defBody (top 54)) (defScope (top 54)) .none kV_l_named dc_l_named pm_l_named an_l_named cd_l_named ct_l_named), sl_l_named⟩)
    (c_l_named : PySem.W.codeIn K cd_l_named "_law_named" = true)
    (k_l_named : PySem.W.keepIn K (.ref f_l_named) = true)
    (a_either_of : PySem.W.nsIn K mainGlobals "either_of" = some (some (.ref f_either_of)))
    (l_either_of : K.lookup f_either_of = some ⟨oc_either_of, od_either_of, .func (PySem.W.fnOf "either_of" "either_of" (defArgs (top 41)) (defBody (top 41)) (defScope (top 41)) .none kV_either_of dc_either_of pm_either_of an_either_of cd_either_of ct_either_of), sl_either_of⟩)
    (c_either_of : PySem.W.codeIn K cd_either_of "either_of" = true)
    (k_either_of : PySem.W.keepIn K (.ref f_either_of) = true)
    (a_l_roads : PySem.W.nsIn K mainGlobals "_law_roads" = some (some (.ref f_l_roads)))
    (l_l_roads : K.lookup f_l_roads = some ⟨oc_l_roads, od_l_roads, .func (PySem.W.fnOf "_law_roads" "_law_roads" (defArgs (top 53)) (defBody (top 53)) (defScope (top 53)) .none kV_l_roads dc_l_roads pm_l_roads an_l_roads cd_l_roads ct_l_roads), sl_l_roads⟩)
    (c_l_roads : PySem.W.codeIn K cd_l_roads "_law_roads" = true)
    (k_l_roads : PySem.W.keepIn K (.ref f_l_roads) = true)
    (a_law : PySem.W.nsIn K mainGlobals "law" = some (some (.ref f_law)))
    (l_law : K.lookup f_law = some ⟨oc_law, od_law, .func (PySem.W.fnOf "law" "law" (defArgs (top 55)) (defBody (top 55)) (defScope (top 55)) .none kV_law dc_law pm_law an_law cd_law ct_law), sl_law⟩)
    (c_law : PySem.W.codeIn K cd_law "law" = true)
    (k_law : PySem.W.keepIn K (.ref f_law) = true)
    (gs1 : PySem.W.specialIn K (.builtin "object.__class__") "__get__" = some (some (.builtin "getset_descriptor.__get__")))
    (gs2 : PySem.W.takesIn K (.builtin "object.__class__") = some true)
    (a_Saying : PySem.W.nsIn K mainGlobals "Saying" = some (some (.ref C_Saying)))
    (pg_Saying : PySem.W.plainGet K C_Saying Str.empty = true)
    (hd_Saying : PySem.W.hasDictIn K C_Saying = true)
    (po_Saying : PySem.W.plainOver K C_Saying = true)
    (sa_Saying : PySem.W.findIn K (.ref C_Saying) "__setattr__" = some (some (.builtin "object.__setattr__")))
    (ck_Saying : PySem.W.findIn K (.ref C_Saying) "__class__" = some (some (.builtin "object.__class__")))
    (mo_Saying : PySem.W.mroIn K C_Saying (.type "object") = some true)
    (mk_Saying : PySem.W.makesIn K C_Saying = true)
    (kc_Saying : PySem.W.keepIn K (.ref C_Saying) = true)
    (i_Saying_init : PySem.W.findIn K (.ref C_Saying) "__init__" = some (some (.ref f_Saying_init)))
    (l_Saying_init : K.lookup f_Saying_init = some ⟨oc_Saying_init, od_Saying_init, .func (PySem.W.fnOf "__init__" "Saying.__init__" (defArgs ((clsBody (top 39)).getD 0 (.Pass ⟨0, 0, 0, 0⟩))) (defBody ((clsBody (top 39)).getD 0 (.Pass ⟨0, 0, 0, 0⟩))) (defScope ((clsBody (top 39)).getD 0 (.Pass ⟨0, 0, 0, 0⟩))) .none kV_Saying_init dc_Saying_init pm_Saying_init an_Saying_init cd_Saying_init ct_Saying_init), sl_Saying_init⟩)
    (c_Saying_init : PySem.W.codeIn K cd_Saying_init "Saying.__init__" = true)
    (k_Saying_init : PySem.W.keepIn K (.ref f_Saying_init) = true)
    (fn_Saying_init : PySem.W.isFn K (.ref f_Saying_init) = true)
    (i_Saying_invert : PySem.W.findIn K (.ref C_Saying) "__invert__" = some (some (.ref f_Saying_invert)))
    (l_Saying_invert : K.lookup f_Saying_invert = some ⟨oc_Saying_invert, od_Saying_invert, .func (PySem.W.fnOf "__invert__" "Saying.__invert__" (defArgs ((clsBody (top 39)).getD 6 (.Pass ⟨0, 0, 0, 0⟩))) (defBody ((clsBody (top 39)).getD 6 (.Pass ⟨0, 0, 0, 0⟩))) (defScope ((clsBody (top 39)).getD 6 (.Pass ⟨0, 0, 0, 0⟩))) .none kV_Saying_invert dc_Saying_invert pm_Saying_invert an_Saying_invert cd_Saying_invert ct_Saying_invert), sl_Saying_invert⟩)
    (c_Saying_invert : PySem.W.codeIn K cd_Saying_invert "Saying.__invert__" = true)
    (k_Saying_invert : PySem.W.keepIn K (.ref f_Saying_invert) = true)
    (fn_Saying_invert : PySem.W.isFn K (.ref f_Saying_invert) = true)
    (i_Saying_len : PySem.W.findIn K (.ref C_Saying) "__len__" = some (some (.ref f_Saying_len)))
    (l_Saying_len : K.lookup f_Saying_len = some ⟨oc_Saying_len, od_Saying_len, .func (PySem.W.fnOf "__len__" "Saying.__len__" (defArgs ((clsBody (top 39)).getD 1 (.Pass ⟨0, 0, 0, 0⟩))) (defBody ((clsBody (top 39)).getD 1 (.Pass ⟨0, 0, 0, 0⟩))) (defScope ((clsBody (top 39)).getD 1 (.Pass ⟨0, 0, 0, 0⟩))) .none kV_Saying_len dc_Saying_len pm_Saying_len an_Saying_len cd_Saying_len ct_Saying_len), sl_Saying_len⟩)
    (c_Saying_len : PySem.W.codeIn K cd_Saying_len "Saying.__len__" = true)
    (k_Saying_len : PySem.W.keepIn K (.ref f_Saying_len) = true)
    (fn_Saying_len : PySem.W.isFn K (.ref f_Saying_len) = true)
    (n_Saying_parts : PySem.W.findIn K (.ref C_Saying) "parts" = some none)
    (n_Saying_depth : PySem.W.findIn K (.ref C_Saying) "depth" = some none)
    (n_Saying_words : PySem.W.findIn K (.ref C_Saying) "words" = some none)
    (n_Saying_links : PySem.W.findIn K (.ref C_Saying) "links" = some none)
    (n_Saying_scales : PySem.W.findIn K (.ref C_Saying) "scales" = some none)
    (n_Saying_kinds : PySem.W.findIn K (.ref C_Saying) "kinds" = some none)
    (n_Saying_is_back : PySem.W.findIn K (.ref C_Saying) "is_back" = some none)
    (b_abs : PySem.W.nsIn K mainGlobals "abs" = some none)
    (b_all : PySem.W.nsIn K mainGlobals "all" = some none)
    (b_bool : PySem.W.nsIn K mainGlobals "bool" = some none)
    (b_dict : PySem.W.nsIn K mainGlobals "dict" = some none)
    (b_int : PySem.W.nsIn K mainGlobals "int" = some none)
    (b_isinstance : PySem.W.nsIn K mainGlobals "isinstance" = some none)
    (b_len : PySem.W.nsIn K mainGlobals "len" = some none)
    (b_list : PySem.W.nsIn K mainGlobals "list" = some none)
    (b_max : PySem.W.nsIn K mainGlobals "max" = some none)
    (b_range : PySem.W.nsIn K mainGlobals "range" = some none)
    (b_set : PySem.W.nsIn K mainGlobals "set" = some none)
    (b_sorted : PySem.W.nsIn K mainGlobals "sorted" = some none)
    (b_str : PySem.W.nsIn K mainGlobals "str" = some none)
    (b_tuple : PySem.W.nsIn K mainGlobals "tuple" = some none)
    (b_zip : PySem.W.nsIn K mainGlobals "zip" = some none)
    (z_DIRECTIONS : PySem.W.nsIn K mainGlobals "DIRECTIONS" = some (some (.ref p0_DIRECTIONS)))
    (t0_DIRECTIONS : K.lookup p0_DIRECTIONS = some ⟨.type "tuple", none, .seq #[.str "on" k1_DIRECTIONS, .str "back" k2_DIRECTIONS] n0_DIRECTIONS, s0_DIRECTIONS⟩)
    (z_LEAST_MANY : PySem.W.nsIn K mainGlobals "LEAST_MANY" = some (some (.int 2 tk_LEAST_MANY)))
    (z_LONGEST_STEM : PySem.W.nsIn K mainGlobals "LONGEST_STEM" = some (some (.int 12 tk_LONGEST_STEM)))
    (z_MOST_MANY : PySem.W.nsIn K mainGlobals "MOST_MANY" = some (some (.int 40 tk_MOST_MANY)))
    (z_MOST_STEMS : PySem.W.nsIn K mainGlobals "MOST_STEMS" = some (some (.int 6 tk_MOST_STEMS)))
    (z_SAYING_KINDS : PySem.W.nsIn K mainGlobals "SAYING_KINDS" = some (some (.ref p3_SAYING_KINDS)))
    (t3_SAYING_KINDS : K.lookup p3_SAYING_KINDS = some ⟨.type "tuple", none, .seq #[.ref p4_SAYING_KINDS, .ref p7_SAYING_KINDS, .ref p10_SAYING_KINDS, .ref p14_SAYING_KINDS, .ref p19_SAYING_KINDS, .ref p24_SAYING_KINDS, .ref p28_SAYING_KINDS, .ref p34_SAYING_KINDS, .ref p40_SAYING_KINDS, .ref p47_SAYING_KINDS, .ref p52_SAYING_KINDS] n3_SAYING_KINDS, s3_SAYING_KINDS⟩)
    (t4_SAYING_KINDS : K.lookup p4_SAYING_KINDS = some ⟨.type "tuple", none, .seq #[.str "thing" k5_SAYING_KINDS, .ref p6_SAYING_KINDS] n4_SAYING_KINDS, s4_SAYING_KINDS⟩)
    (t6_SAYING_KINDS : K.lookup p6_SAYING_KINDS = some ⟨.type "tuple", none, .seq #[] n6_SAYING_KINDS, s6_SAYING_KINDS⟩)
    (t7_SAYING_KINDS : K.lookup p7_SAYING_KINDS = some ⟨.type "tuple", none, .seq #[.str "nothing" k8_SAYING_KINDS, .ref p9_SAYING_KINDS] n7_SAYING_KINDS, s7_SAYING_KINDS⟩)
    (t9_SAYING_KINDS : K.lookup p9_SAYING_KINDS = some ⟨.type "tuple", none, .seq #[] n9_SAYING_KINDS, s9_SAYING_KINDS⟩)
    (t10_SAYING_KINDS : K.lookup p10_SAYING_KINDS = some ⟨.type "tuple", none, .seq #[.str "word" k11_SAYING_KINDS, .ref p12_SAYING_KINDS] n10_SAYING_KINDS, s10_SAYING_KINDS⟩)
    (t12_SAYING_KINDS : K.lookup p12_SAYING_KINDS = some ⟨.type "tuple", none, .seq #[.str "word" k13_SAYING_KINDS] n12_SAYING_KINDS, s12_SAYING_KINDS⟩)
    (t14_SAYING_KINDS : K.lookup p14_SAYING_KINDS = some ⟨.type "tuple", none, .seq #[.str "both" k15_SAYING_KINDS, .ref p16_SAYING_KINDS] n14_SAYING_KINDS, s14_SAYING_KINDS⟩)
    (t16_SAYING_KINDS : K.lookup p16_SAYING_KINDS = some ⟨.type "tuple", none, .seq #[.str "part" k17_SAYING_KINDS, .str "part" k18_SAYING_KINDS] n16_SAYING_KINDS, s16_SAYING_KINDS⟩)
    (t19_SAYING_KINDS : K.lookup p19_SAYING_KINDS = some ⟨.type "tuple", none, .seq #[.str "either" k20_SAYING_KINDS, .ref p21_SAYING_KINDS] n19_SAYING_KINDS, s19_SAYING_KINDS⟩)
    (t21_SAYING_KINDS : K.lookup p21_SAYING_KINDS = some ⟨.type "tuple", none, .seq #[.str "part" k22_SAYING_KINDS, .str "part" k23_SAYING_KINDS] n21_SAYING_KINDS, s21_SAYING_KINDS⟩)
    (t24_SAYING_KINDS : K.lookup p24_SAYING_KINDS = some ⟨.type "tuple", none, .seq #[.str "not" k25_SAYING_KINDS, .ref p26_SAYING_KINDS] n24_SAYING_KINDS, s24_SAYING_KINDS⟩)
    (t26_SAYING_KINDS : K.lookup p26_SAYING_KINDS = some ⟨.type "tuple", none, .seq #[.str "part" k27_SAYING_KINDS] n26_SAYING_KINDS, s26_SAYING_KINDS⟩)
    (t28_SAYING_KINDS : K.lookup p28_SAYING_KINDS = some ⟨.type "tuple", none, .seq #[.str "some" k29_SAYING_KINDS, .ref p30_SAYING_KINDS] n28_SAYING_KINDS, s28_SAYING_KINDS⟩)
    (t30_SAYING_KINDS : K.lookup p30_SAYING_KINDS = some ⟨.type "tuple", none, .seq #[.str "link" k31_SAYING_KINDS, .str "direction" k32_SAYING_KINDS, .str "part" k33_SAYING_KINDS] n30_SAYING_KINDS, s30_SAYING_KINDS⟩)
    (t34_SAYING_KINDS : K.lookup p34_SAYING_KINDS = some ⟨.type "tuple", none, .seq #[.str "every" k35_SAYING_KINDS, .ref p36_SAYING_KINDS] n34_SAYING_KINDS, s34_SAYING_KINDS⟩)
    (t36_SAYING_KINDS : K.lookup p36_SAYING_KINDS = some ⟨.type "tuple", none, .seq #[.str "link" k37_SAYING_KINDS, .str "direction" k38_SAYING_KINDS, .str "part" k39_SAYING_KINDS] n36_SAYING_KINDS, s36_SAYING_KINDS⟩)
    (t40_SAYING_KINDS : K.lookup p40_SAYING_KINDS = some ⟨.type "tuple", none, .seq #[.str "least" k41_SAYING_KINDS, .ref p42_SAYING_KINDS] n40_SAYING_KINDS, s40_SAYING_KINDS⟩)
    (t42_SAYING_KINDS : K.lookup p42_SAYING_KINDS = some ⟨.type "tuple", none, .seq #[.str "many" k43_SAYING_KINDS, .str "link" k44_SAYING_KINDS, .str "direction" k45_SAYING_KINDS, .str "part" k46_SAYING_KINDS] n42_SAYING_KINDS, s42_SAYING_KINDS⟩)
    (t47_SAYING_KINDS : K.lookup p47_SAYING_KINDS = some ⟨.type "tuple", none, .seq #[.str "top" k48_SAYING_KINDS, .ref p49_SAYING_KINDS] n47_SAYING_KINDS, s47_SAYING_KINDS⟩)
    (t49_SAYING_KINDS : K.lookup p49_SAYING_KINDS = some ⟨.type "tuple", none, .seq #[.str "scale" k50_SAYING_KINDS, .str "part" k51_SAYING_KINDS] n49_SAYING_KINDS, s49_SAYING_KINDS⟩)
    (t52_SAYING_KINDS : K.lookup p52_SAYING_KINDS = some ⟨.type "tuple", none, .seq #[.str "above" k53_SAYING_KINDS, .ref p54_SAYING_KINDS] n52_SAYING_KINDS, s52_SAYING_KINDS⟩)
    (t54_SAYING_KINDS : K.lookup p54_SAYING_KINDS = some ⟨.type "tuple", none, .seq #[.str "scale" k55_SAYING_KINDS, .str "word" k56_SAYING_KINDS] n54_SAYING_KINDS, s54_SAYING_KINDS⟩)
    (kt1 : matOk K [C_Saying] xrows = true) : Txt K mg where
  d_l_pen := ⟨_, _, PySem.W.mg_of X G a_l_pen, fun_mk l_l_pen c_l_pen k_l_pen, (fun_mk (st := (top 49)) l_l_pen c_l_pen k_l_pen).binds fun _ _ _ _ _ _ us hl => match us, hl with | [_], _ => rfl⟩
  d_with_numbers := ⟨_, _, PySem.W.mg_of X G a_with_numbers, fun_mk l_with_numbers c_with_numbers k_with_numbers, (fun_mk (st := (top 27)) l_with_numbers c_with_numbers k_with_numbers).binds fun _ _ _ _ _ _ us hl => match us, hl with | [_, _, _], _ => rfl⟩
  d_borne := ⟨_, _, PySem.W.mg_of X G a_borne, fun_mk l_borne c_borne k_borne, (fun_mk (st := (top 26)) l_borne c_borne k_borne).binds fun _ _ _ _ _ _ us hl => match us, hl with | [_, _], _ => rfl⟩
  d_one_form := ⟨_, _, PySem.W.mg_of X G a_one_form, fun_mk l_one_form c_one_form k_one_form, (fun_mk (st := (top 28)) l_one_form c_one_form k_one_form).binds fun _ _ _ _ _ _ us hl => match us, hl with | [_, _], _ => rfl⟩
  d_is_list := ⟨_, _, PySem.W.mg_of X G a_is_list, fun_mk l_is_list c_is_list k_is_list, (fun_mk (st := (top 9)) l_is_list c_is_list k_is_list).binds fun _ _ _ _ _ _ us hl => match us, hl with | [_], _ => rfl⟩
  d_is_stem := ⟨_, _, PySem.W.mg_of X G a_is_stem, fun_mk l_is_stem c_is_stem k_is_stem, (fun_mk (st := (top 12)) l_is_stem c_is_stem k_is_stem).binds fun _ _ _ _ _ _ us hl => match us, hl with | [_], _ => rfl⟩
  d_is_name := ⟨_, _, PySem.W.mg_of X G a_is_name, fun_mk l_is_name c_is_name k_is_name, (fun_mk (st := (top 13)) l_is_name c_is_name k_is_name).binds fun _ _ _ _ _ _ us hl => match us, hl with | [_], _ => rfl⟩
  d_is_integer := ⟨_, _, PySem.W.mg_of X G a_is_integer, fun_mk l_is_integer c_is_integer k_is_integer, (fun_mk (st := (top 10)) l_is_integer c_is_integer k_is_integer).binds fun _ _ _ _ _ _ us hl => match us, hl with | [_], _ => rfl⟩
  d_is_within := ⟨_, _, PySem.W.mg_of X G a_is_within, fun_mk l_is_within c_is_within k_is_within, (fun_mk (st := (top 11)) l_is_within c_is_within k_is_within).binds fun _ _ _ _ _ _ us hl => match us, hl with | [_, _, _], _ => rfl⟩
  d_can_stand := ⟨_, _, PySem.W.mg_of X G a_can_stand, fun_mk l_can_stand c_can_stand k_can_stand, (fun_mk (st := (top 23)) l_can_stand c_can_stand k_can_stand).binds fun _ _ _ _ _ _ us hl => match us, hl with | [_, _, _], _ => rfl⟩
  d_is_part := ⟨_, _, PySem.W.mg_of X G a_is_part, fun_mk l_is_part c_is_part k_is_part, (fun_mk (st := (top 24)) l_is_part c_is_part k_is_part).binds fun _ _ _ _ _ _ us hl => match us, hl with | [_, _, _], _ => rfl⟩
  d_checked_parts := ⟨_, _, PySem.W.mg_of X G a_checked_parts, fun_mk l_checked_parts c_checked_parts k_checked_parts, (fun_mk (st := (top 25)) l_checked_parts c_checked_parts k_checked_parts).binds fun _ _ _ _ _ _ us hl => match us, hl with | [_, _], _ => rfl⟩
  d_items_with := ⟨_, _, PySem.W.mg_of X G a_items_with, fun_mk l_items_with c_items_with k_items_with, (fun_mk (st := (top 33)) l_items_with c_items_with k_items_with).binds fun _ _ _ _ _ _ us hl => match us, hl with | [_, _, _], _ => rfl⟩
  d_part_depths := ⟨_, _, PySem.W.mg_of X G a_part_depths, fun_mk l_part_depths c_part_depths k_part_depths, (fun_mk (st := (top 32)) l_part_depths c_part_depths k_part_depths).binds fun _ _ _ _ _ _ us hl => match us, hl with | [_, _], _ => rfl⟩
  d_over := ⟨_, _, PySem.W.mg_of X G a_over, fun_mk l_over c_over k_over, (fun_mk (st := (top 43)) l_over c_over k_over).binds fun _ _ _ _ _ _ us hl => match us, hl with | [_, _, _, _, _], _ => rfl⟩
  d_some_of := ⟨_, _, PySem.W.mg_of X G a_some_of, ⟨⟨_, _, _, _, _, _, _, _, _, _, rfl, l_some_of, c_some_of⟩, k_some_of⟩, fun _ us hK hl => match us, hl with | [_, _, _], _ => PySem.W.binds_K hK rfl df_some_of rfl rfl rfl⟩
  d_every_of := ⟨_, _, PySem.W.mg_of X G a_every_of, ⟨⟨_, _, _, _, _, _, _, _, _, _, rfl, l_every_of, c_every_of⟩, k_every_of⟩, fun _ us hK hl => match us, hl with | [_, _, _], _ => PySem.W.binds_K hK rfl df_every_of rfl rfl rfl⟩
  d_at_least := ⟨_, _, PySem.W.mg_of X G a_at_least, ⟨⟨_, _, _, _, _, _, _, _, _, _, rfl, l_at_least, c_at_least⟩, k_at_least⟩, fun _ us hK hl => match us, hl with | [_, _, _, _], _ => PySem.W.binds_K hK rfl df_at_least rfl rfl rfl⟩
  d_l_draw := ⟨_, _, PySem.W.mg_of X G a_l_draw, fun_mk l_l_draw c_l_draw k_l_draw, (fun_mk (st := (top 50)) l_l_draw c_l_draw k_l_draw).binds fun _ _ _ _ _ _ us hl => match us, hl with | [_, _], _ => rfl⟩
  d_l_pick := ⟨_, _, PySem.W.mg_of X G a_l_pick, fun_mk l_l_pick c_l_pick k_l_pick, (fun_mk (st := (top 51)) l_l_pick c_l_pick k_l_pick).binds fun _ _ _ _ _ _ us hl => match us, hl with | [_, _], _ => rfl⟩
  d_l_part := ⟨_, _, PySem.W.mg_of X G a_l_part, fun_mk l_l_part c_l_part k_l_part, (fun_mk (st := (top 52)) l_l_part c_l_part k_l_part).binds fun _ _ _ _ _ _ us hl => match us, hl with | [_, _], _ => rfl⟩
  d_shifted_parts := ⟨_, _, PySem.W.mg_of X G a_shifted_parts, fun_mk l_shifted_parts c_shifted_parts k_shifted_parts, (fun_mk (st := (top 29)) l_shifted_parts c_shifted_parts k_shifted_parts).binds fun _ _ _ _ _ _ us hl => match us, hl with | [_, _, _], _ => rfl⟩
  d_folded_parts := ⟨_, _, PySem.W.mg_of X G a_folded_parts, fun_mk l_folded_parts c_folded_parts k_folded_parts, (fun_mk (st := (top 31)) l_folded_parts c_folded_parts k_folded_parts).binds fun _ _ _ _ _ _ us hl => match us, hl with | [_, _, _], _ => rfl⟩
  d_folded := ⟨_, _, PySem.W.mg_of X G a_folded, fun_mk l_folded c_folded k_folded, (fun_mk (st := (top 42)) l_folded c_folded k_folded).binds fun _ _ _ _ _ _ us hl => match us, hl with | [_, _, _], _ => rfl⟩
  d_both_of := ⟨_, _, PySem.W.mg_of X G a_both_of, fun_mk l_both_of c_both_of k_both_of, fun _ _ _ _ _ _ us rest hl => match us, rest, hl with | [], [], _ => rfl | [], _ :: _, _ => rfl⟩
  d_top_of := ⟨_, _, PySem.W.mg_of X G a_top_of, fun_mk l_top_of c_top_of k_top_of, (fun_mk (st := (top 47)) l_top_of c_top_of k_top_of).binds fun _ _ _ _ _ _ us hl => match us, hl with | [_, _], _ => rfl⟩
  d_l_named := ⟨_, _, PySem.W.mg_of X G a_l_named, fun_mk l_l_named c_l_named k_l_named, (fun_mk (st := (top 54)) l_l_named c_l_named k_l_named).binds fun _ _ _ _ _ _ us hl => match us, hl with | [_, _, _], _ => rfl⟩
  d_either_of := ⟨_, _, PySem.W.mg_of X G a_either_of, fun_mk l_either_of c_either_of k_either_of, fun _ _ _ _ _ _ us rest hl => match us, rest, hl with | [], [], _ => rfl | [], _ :: _, _ => rfl⟩
  d_l_roads := ⟨_, _, PySem.W.mg_of X G a_l_roads, fun_mk l_l_roads c_l_roads k_l_roads, (fun_mk (st := (top 53)) l_l_roads c_l_roads k_l_roads).binds fun _ _ _ _ _ _ us hl => match us, hl with | [_, _, _], _ => rfl⟩
  d_law := ⟨_, _, PySem.W.mg_of X G a_law, fun_mk l_law c_law k_law, (fun_mk (st := (top 55)) l_law c_law k_law).binds fun _ _ _ _ _ _ us hl => match us, hl with | [_], _ => rfl⟩
  a_Saying := C_Saying
  C_Saying := ⟨PySem.W.mg_of X G a_Saying, _, _, ⟨mk_Saying, i_Saying_init, fn_Saying_init, kc_Saying⟩, fun_mk l_Saying_init c_Saying_init k_Saying_init, (fun_mk (st := ((clsBody (top 39)).getD 0 (.Pass ⟨0, 0, 0, 0⟩))) l_Saying_init c_Saying_init k_Saying_init).binds fun _ _ _ _ _ _ us hl => match us, hl with | [_, _], _ => rfl⟩
  o_Saying := ⟨⟨pg_Saying, hd_Saying, po_Saying, sa_Saying⟩, ck_Saying, gs1, gs2, mo_Saying⟩
  m_Saying_invert := ⟨PySem.W.mg_of X G a_Saying, ⟨pg_Saying, hd_Saying, po_Saying, sa_Saying⟩, _, _, ⟨i_Saying_invert, fn_Saying_invert, k_Saying_invert⟩, fun_mk l_Saying_invert c_Saying_invert k_Saying_invert, (fun_mk (st := ((clsBody (top 39)).getD 6 (.Pass ⟨0, 0, 0, 0⟩))) l_Saying_invert c_Saying_invert k_Saying_invert).binds fun _ _ _ _ _ _ us hl => match us, hl with | [_], _ => rfl⟩
  m_Saying_len := ⟨PySem.W.mg_of X G a_Saying, ⟨pg_Saying, hd_Saying, po_Saying, sa_Saying⟩, _, _, ⟨i_Saying_len, fn_Saying_len, k_Saying_len⟩, fun_mk l_Saying_len c_Saying_len k_Saying_len, (fun_mk (st := ((clsBody (top 39)).getD 1 (.Pass ⟨0, 0, 0, 0⟩))) l_Saying_len c_Saying_len k_Saying_len).binds fun _ _ _ _ _ _ us hl => match us, hl with | [_], _ => rfl⟩
  n_Saying_parts := n_Saying_parts
  n_Saying_depth := n_Saying_depth
  n_Saying_words := n_Saying_words
  n_Saying_links := n_Saying_links
  n_Saying_scales := n_Saying_scales
  n_Saying_kinds := n_Saying_kinds
  n_Saying_is_back := n_Saying_is_back
  b_abs := PySem.W.mg_none_of X G b_abs
  b_all := PySem.W.mg_none_of X G b_all
  b_bool := PySem.W.mg_none_of X G b_bool
  b_dict := PySem.W.mg_none_of X G b_dict
  b_int := PySem.W.mg_none_of X G b_int
  b_isinstance := PySem.W.mg_none_of X G b_isinstance
  b_len := PySem.W.mg_none_of X G b_len
  b_list := PySem.W.mg_none_of X G b_list
  b_max := PySem.W.mg_none_of X G b_max
  b_range := PySem.W.mg_none_of X G b_range
  b_set := PySem.W.mg_none_of X G b_set
  b_sorted := PySem.W.mg_none_of X G b_sorted
  b_str := PySem.W.mg_none_of X G b_str
  b_tuple := PySem.W.mg_none_of X G b_tuple
  b_zip := PySem.W.mg_none_of X G b_zip
  c_DIRECTIONS := ⟨_, _, PySem.W.mg_of X G z_DIRECTIONS, (⟨_, _, _, t0_DIRECTIONS, rfl, rfl, rfl, (Nat.le_trans (m := 100) (Nat.le_of_ble_eq_true rfl) (by decide)), (.cons ⟨_, rfl⟩ (.cons ⟨_, rfl⟩ .nil))⟩ : KtS K p0_DIRECTIONS [.str "on", .str "back"]), fun _ _ _ _ => ⟨_, _, rfl, rv_str, ⟨_, _, rfl, rv_str, rfl⟩⟩⟩
  c_LEAST_MANY := ⟨_, PySem.W.mg_of X G z_LEAST_MANY⟩
  c_LONGEST_STEM := ⟨_, PySem.W.mg_of X G z_LONGEST_STEM⟩
  c_MOST_MANY := ⟨_, PySem.W.mg_of X G z_MOST_MANY⟩
  c_MOST_STEMS := ⟨_, PySem.W.mg_of X G z_MOST_STEMS⟩
  c_SAYING_KINDS := ⟨_, _, PySem.W.mg_of X G z_SAYING_KINDS, (⟨_, _, _, t3_SAYING_KINDS, rfl, rfl, rfl, (Nat.le_trans (m := 100) (Nat.le_of_ble_eq_true rfl) (by decide)), (.cons rfl (.cons rfl (.cons rfl (.cons rfl (.cons rfl (.cons rfl (.cons rfl (.cons rfl (.cons rfl (.cons rfl (.cons rfl .nil)))))))))))⟩ : KtS K p3_SAYING_KINDS [.ref p4_SAYING_KINDS, .ref p7_SAYING_KINDS, .ref p10_SAYING_KINDS, .ref p14_SAYING_KINDS, .ref p19_SAYING_KINDS, .ref p24_SAYING_KINDS, .ref p28_SAYING_KINDS, .ref p34_SAYING_KINDS, .ref p40_SAYING_KINDS, .ref p47_SAYING_KINDS, .ref p52_SAYING_KINDS]), fun _ _ _ _ => ⟨_, _, rfl, (rv_kt (⟨_, _, _, t4_SAYING_KINDS, rfl, rfl, rfl, (Nat.le_trans (m := 100) (Nat.le_of_ble_eq_true rfl) (by decide)), (.cons ⟨_, rfl⟩ (.cons rfl .nil))⟩ : KtS K p4_SAYING_KINDS [.str "thing", .ref p6_SAYING_KINDS]) ⟨_, _, rfl, rv_str, ⟨_, _, rfl, (rv_kt (⟨_, _, _, t6_SAYING_KINDS, rfl, rfl, rfl, (Nat.le_trans (m := 100) (Nat.le_of_ble_eq_true rfl) (by decide)), .nil⟩ : KtS K p6_SAYING_KINDS []) rfl), rfl⟩⟩), ⟨_, _, rfl, (rv_kt (⟨_, _, _, t7_SAYING_KINDS, rfl, rfl, rfl, (Nat.le_trans (m := 100) (Nat.le_of_ble_eq_true rfl) (by decide)), (.cons ⟨_, rfl⟩ (.cons rfl .nil))⟩ : KtS K p7_SAYING_KINDS [.str "nothing", .ref p9_SAYING_KINDS]) ⟨_, _, rfl, rv_str, ⟨_, _, rfl, (rv_kt (⟨_, _, _, t9_SAYING_KINDS, rfl, rfl, rfl, (Nat.le_trans (m := 100) (Nat.le_of_ble_eq_true rfl) (by decide)), .nil⟩ : KtS K p9_SAYING_KINDS []) rfl), rfl⟩⟩), ⟨_, _, rfl, (rv_kt (⟨_, _, _, t10_SAYING_KINDS, rfl, rfl, rfl, (Nat.le_trans (m := 100) (Nat.le_of_ble_eq_true rfl) (by decide)), (.cons ⟨_, rfl⟩ (.cons rfl .nil))⟩ : KtS K p10_SAYING_KINDS [.str "word", .ref p12_SAYING_KINDS]) ⟨_, _, rfl, rv_str, ⟨_, _, rfl, (rv_kt (⟨_, _, _, t12_SAYING_KINDS, rfl, rfl, rfl, (Nat.le_trans (m := 100) (Nat.le_of_ble_eq_true rfl) (by decide)), (.cons ⟨_, rfl⟩ .nil)⟩ : KtS K p12_SAYING_KINDS [.str "word"]) ⟨_, _, rfl, rv_str, rfl⟩), rfl⟩⟩), ⟨_, _, rfl, (rv_kt (⟨_, _, _, t14_SAYING_KINDS, rfl, rfl, rfl, (Nat.le_trans (m := 100) (Nat.le_of_ble_eq_true rfl) (by decide)), (.cons ⟨_, rfl⟩ (.cons rfl .nil))⟩ : KtS K p14_SAYING_KINDS [.str "both", .ref p16_SAYING_KINDS]) ⟨_, _, rfl, rv_str, ⟨_, _, rfl, (rv_kt (⟨_, _, _, t16_SAYING_KINDS, rfl, rfl, rfl, (Nat.le_trans (m := 100) (Nat.le_of_ble_eq_true rfl) (by decide)), (.cons ⟨_, rfl⟩ (.cons ⟨_, rfl⟩ .nil))⟩ : KtS K p16_SAYING_KINDS [.str "part", .str "part"]) ⟨_, _, rfl, rv_str, ⟨_, _, rfl, rv_str, rfl⟩⟩), rfl⟩⟩), ⟨_, _, rfl, (rv_kt (⟨_, _, _, t19_SAYING_KINDS, rfl, rfl, rfl, (Nat.le_trans (m := 100) (Nat.le_of_ble_eq_true rfl) (by decide)), (.cons ⟨_, rfl⟩ (.cons rfl .nil))⟩ : KtS K p19_SAYING_KINDS [.str "either", .ref p21_SAYING_KINDS]) ⟨_, _, rfl, rv_str, ⟨_, _, rfl, (rv_kt (⟨_, _, _, t21_SAYING_KINDS, rfl, rfl, rfl, (Nat.le_trans (m := 100) (Nat.le_of_ble_eq_true rfl) (by decide)), (.cons ⟨_, rfl⟩ (.cons ⟨_, rfl⟩ .nil))⟩ : KtS K p21_SAYING_KINDS [.str "part", .str "part"]) ⟨_, _, rfl, rv_str, ⟨_, _, rfl, rv_str, rfl⟩⟩), rfl⟩⟩), ⟨_, _, rfl, (rv_kt (⟨_, _, _, t24_SAYING_KINDS, rfl, rfl, rfl, (Nat.le_trans (m := 100) (Nat.le_of_ble_eq_true rfl) (by decide)), (.cons ⟨_, rfl⟩ (.cons rfl .nil))⟩ : KtS K p24_SAYING_KINDS [.str "not", .ref p26_SAYING_KINDS]) ⟨_, _, rfl, rv_str, ⟨_, _, rfl, (rv_kt (⟨_, _, _, t26_SAYING_KINDS, rfl, rfl, rfl, (Nat.le_trans (m := 100) (Nat.le_of_ble_eq_true rfl) (by decide)), (.cons ⟨_, rfl⟩ .nil)⟩ : KtS K p26_SAYING_KINDS [.str "part"]) ⟨_, _, rfl, rv_str, rfl⟩), rfl⟩⟩), ⟨_, _, rfl, (rv_kt (⟨_, _, _, t28_SAYING_KINDS, rfl, rfl, rfl, (Nat.le_trans (m := 100) (Nat.le_of_ble_eq_true rfl) (by decide)), (.cons ⟨_, rfl⟩ (.cons rfl .nil))⟩ : KtS K p28_SAYING_KINDS [.str "some", .ref p30_SAYING_KINDS]) ⟨_, _, rfl, rv_str, ⟨_, _, rfl, (rv_kt (⟨_, _, _, t30_SAYING_KINDS, rfl, rfl, rfl, (Nat.le_trans (m := 100) (Nat.le_of_ble_eq_true rfl) (by decide)), (.cons ⟨_, rfl⟩ (.cons ⟨_, rfl⟩ (.cons ⟨_, rfl⟩ .nil)))⟩ : KtS K p30_SAYING_KINDS [.str "link", .str "direction", .str "part"]) ⟨_, _, rfl, rv_str, ⟨_, _, rfl, rv_str, ⟨_, _, rfl, rv_str, rfl⟩⟩⟩), rfl⟩⟩), ⟨_, _, rfl, (rv_kt (⟨_, _, _, t34_SAYING_KINDS, rfl, rfl, rfl, (Nat.le_trans (m := 100) (Nat.le_of_ble_eq_true rfl) (by decide)), (.cons ⟨_, rfl⟩ (.cons rfl .nil))⟩ : KtS K p34_SAYING_KINDS [.str "every", .ref p36_SAYING_KINDS]) ⟨_, _, rfl, rv_str, ⟨_, _, rfl, (rv_kt (⟨_, _, _, t36_SAYING_KINDS, rfl, rfl, rfl, (Nat.le_trans (m := 100) (Nat.le_of_ble_eq_true rfl) (by decide)), (.cons ⟨_, rfl⟩ (.cons ⟨_, rfl⟩ (.cons ⟨_, rfl⟩ .nil)))⟩ : KtS K p36_SAYING_KINDS [.str "link", .str "direction", .str "part"]) ⟨_, _, rfl, rv_str, ⟨_, _, rfl, rv_str, ⟨_, _, rfl, rv_str, rfl⟩⟩⟩), rfl⟩⟩), ⟨_, _, rfl, (rv_kt (⟨_, _, _, t40_SAYING_KINDS, rfl, rfl, rfl, (Nat.le_trans (m := 100) (Nat.le_of_ble_eq_true rfl) (by decide)), (.cons ⟨_, rfl⟩ (.cons rfl .nil))⟩ : KtS K p40_SAYING_KINDS [.str "least", .ref p42_SAYING_KINDS]) ⟨_, _, rfl, rv_str, ⟨_, _, rfl, (rv_kt (⟨_, _, _, t42_SAYING_KINDS, rfl, rfl, rfl, (Nat.le_trans (m := 100) (Nat.le_of_ble_eq_true rfl) (by decide)), (.cons ⟨_, rfl⟩ (.cons ⟨_, rfl⟩ (.cons ⟨_, rfl⟩ (.cons ⟨_, rfl⟩ .nil))))⟩ : KtS K p42_SAYING_KINDS [.str "many", .str "link", .str "direction", .str "part"]) ⟨_, _, rfl, rv_str, ⟨_, _, rfl, rv_str, ⟨_, _, rfl, rv_str, ⟨_, _, rfl, rv_str, rfl⟩⟩⟩⟩), rfl⟩⟩), ⟨_, _, rfl, (rv_kt (⟨_, _, _, t47_SAYING_KINDS, rfl, rfl, rfl, (Nat.le_trans (m := 100) (Nat.le_of_ble_eq_true rfl) (by decide)), (.cons ⟨_, rfl⟩ (.cons rfl .nil))⟩ : KtS K p47_SAYING_KINDS [.str "top", .ref p49_SAYING_KINDS]) ⟨_, _, rfl, rv_str, ⟨_, _, rfl, (rv_kt (⟨_, _, _, t49_SAYING_KINDS, rfl, rfl, rfl, (Nat.le_trans (m := 100) (Nat.le_of_ble_eq_true rfl) (by decide)), (.cons ⟨_, rfl⟩ (.cons ⟨_, rfl⟩ .nil))⟩ : KtS K p49_SAYING_KINDS [.str "scale", .str "part"]) ⟨_, _, rfl, rv_str, ⟨_, _, rfl, rv_str, rfl⟩⟩), rfl⟩⟩), ⟨_, _, rfl, (rv_kt (⟨_, _, _, t52_SAYING_KINDS, rfl, rfl, rfl, (Nat.le_trans (m := 100) (Nat.le_of_ble_eq_true rfl) (by decide)), (.cons ⟨_, rfl⟩ (.cons rfl .nil))⟩ : KtS K p52_SAYING_KINDS [.str "above", .ref p54_SAYING_KINDS]) ⟨_, _, rfl, rv_str, ⟨_, _, rfl, (rv_kt (⟨_, _, _, t54_SAYING_KINDS, rfl, rfl, rfl, (Nat.le_trans (m := 100) (Nat.le_of_ble_eq_true rfl) (by decide)), (.cons ⟨_, rfl⟩ (.cons ⟨_, rfl⟩ .nil))⟩ : KtS K p54_SAYING_KINDS [.str "scale", .str "word"]) ⟨_, _, rfl, rv_str, ⟨_, _, rfl, rv_str, rfl⟩⟩), rfl⟩⟩), rfl⟩⟩⟩⟩⟩⟩⟩⟩⟩⟩⟩⟩
  kt1 := kt1
end K13
open PySem PySem.W PyProof.Rows
set_option maxRecDepth 100000 in
set_option maxHeartbeats 0 in
theorem PySem.Challenge.cw_sayable_k13_depths_names_kinds_holds : PySem.Challenge.rw_sayable_k13_depths_names_kinds.Holds := by
  w_on; o_law; k_head; (case hw => w_witness2)
  k_fill
  refine Fv.lawWalk (l := PySem.Challenge.rw_sayable_k13_depths_names_kinds) (n := 63) (k := 26) (by kernel_rfl) rfl (by decide) rfl ⟨⟨rfl, by decide, by decide⟩, rfl⟩ (fun w h Y => PySem.W.kIn_of Y) ?F (fun ns hl => K13.says ns hl)
  case F =>
    intro w mg h KX G base _ _ sy
    refine' K13.ok_law (K13.txt_mk KX G ?a_l_pen ?l_l_pen ?c_l_pen ?k_l_pen ?a_with_numbers ?l_with_numbers ?c_with_numbers ?k_with_numbers ?a_borne ?l_borne ?c_borne ?k_borne ?a_one_form ?l_one_form ?c_one_form ?k_one_form ?a_is_list ?l_is_list ?c_is_list ?k_is_list ?a_is_stem ?l_is_stem ?c_is_stem ?k_is_stem ?a_is_name ?l_is_name ?c_is_name ?k_is_name ?a_is_integer ?l_is_integer ?c_is_integer ?k_is_integer ?a_is_within ?l_is_within ?c_is_within ?k_is_within ?a_can_stand ?l_can_stand ?c_can_stand ?k_can_stand ?a_is_part ?l_is_part ?c_is_part ?k_is_part ?a_checked_parts ?l_checked_parts ?c_checked_parts ?k_checked_parts ?a_items_with ?l_items_with ?c_items_with ?k_items_with ?a_part_depths ?l_part_depths ?c_part_depths ?k_part_depths ?a_over ?l_over ?c_over ?k_over ?a_some_of ?l_some_of ?c_some_of ?k_some_of ?df_some_of ?a_every_of ?l_every_of ?c_every_of ?k_every_of ?df_every_of ?a_at_least ?l_at_least ?c_at_least ?k_at_least ?df_at_least ?a_l_draw ?l_l_draw ?c_l_draw ?k_l_draw ?a_l_pick ?l_l_pick ?c_l_pick ?k_l_pick ?a_l_part ?l_l_part ?c_l_part ?k_l_part ?a_shifted_parts ?l_shifted_parts ?c_shifted_parts ?k_shifted_parts ?a_folded_parts ?l_folded_parts ?c_folded_parts ?k_folded_parts ?a_folded ?l_folded ?c_folded ?k_folded ?a_both_of ?l_both_of ?c_both_of ?k_both_of ?a_top_of ?l_top_of ?c_top_of ?k_top_of ?a_l_named ?l_l_named ?c_l_named ?k_l_named ?a_either_of ?l_either_of ?c_either_of ?k_either_of ?a_l_roads ?l_l_roads ?c_l_roads ?k_l_roads ?a_law ?l_law ?c_law ?k_law ?gs1 ?gs2 ?a_Saying ?pg_Saying ?hd_Saying ?po_Saying ?sa_Saying ?ck_Saying ?mo_Saying ?mk_Saying ?kc_Saying ?i_Saying_init ?l_Saying_init ?c_Saying_init ?k_Saying_init ?fn_Saying_init ?i_Saying_invert ?l_Saying_invert ?c_Saying_invert ?k_Saying_invert ?fn_Saying_invert ?i_Saying_len ?l_Saying_len ?c_Saying_len ?k_Saying_len ?fn_Saying_len ?n_Saying_parts ?n_Saying_depth ?n_Saying_words ?n_Saying_links ?n_Saying_scales ?n_Saying_kinds ?n_Saying_is_back ?b_abs ?b_all ?b_bool ?b_dict ?b_int ?b_isinstance ?b_len ?b_list ?b_max ?b_range ?b_set ?b_sorted ?b_str ?b_tuple ?b_zip ?z_DIRECTIONS ?t0_DIRECTIONS ?z_LEAST_MANY ?z_LONGEST_STEM ?z_MOST_MANY ?z_MOST_STEMS ?z_SAYING_KINDS ?t3_SAYING_KINDS ?t4_SAYING_KINDS ?t6_SAYING_KINDS ?t7_SAYING_KINDS ?t9_SAYING_KINDS ?t10_SAYING_KINDS ?t12_SAYING_KINDS ?t14_SAYING_KINDS ?t16_SAYING_KINDS ?t19_SAYING_KINDS ?t21_SAYING_KINDS ?t24_SAYING_KINDS ?t26_SAYING_KINDS ?t28_SAYING_KINDS ?t30_SAYING_KINDS ?t34_SAYING_KINDS ?t36_SAYING_KINDS ?t40_SAYING_KINDS ?t42_SAYING_KINDS ?t47_SAYING_KINDS ?t49_SAYING_KINDS ?t52_SAYING_KINDS ?t54_SAYING_KINDS ?kt1) sy
    (case a_l_pen => k_is)
    (case l_l_pen => k_is)
    (case c_l_pen => k_is)
    (case k_l_pen => k_is)
    (case a_with_numbers => k_is)
    (case l_with_numbers => k_is)
    (case c_with_numbers => k_is)
    (case k_with_numbers => k_is)
    (case a_borne => k_is)
    (case l_borne => k_is)
    (case c_borne => k_is)
    (case k_borne => k_is)
    (case a_one_form => k_is)
    (case l_one_form => k_is)
    (case c_one_form => k_is)
    (case k_one_form => k_is)
    (case a_is_list => k_is)
    (case l_is_list => k_is)
    (case c_is_list => k_is)
    (case k_is_list => k_is)
    (case a_is_stem => k_is)
    (case l_is_stem => k_is)
    (case c_is_stem => k_is)
    (case k_is_stem => k_is)
    (case a_is_name => k_is)
    (case l_is_name => k_is)
    (case c_is_name => k_is)
    (case k_is_name => k_is)
    (case a_is_integer => k_is)
    (case l_is_integer => k_is)
    (case c_is_integer => k_is)
    (case k_is_integer => k_is)
    (case a_is_within => k_is)
    (case l_is_within => k_is)
    (case c_is_within => k_is)
    (case k_is_within => k_is)
    (case a_can_stand => k_is)
    (case l_can_stand => k_is)
    (case c_can_stand => k_is)
    (case k_can_stand => k_is)
    (case a_is_part => k_is)
    (case l_is_part => k_is)
    (case c_is_part => k_is)
    (case k_is_part => k_is)
    (case a_checked_parts => k_is)
    (case l_checked_parts => k_is)
    (case c_checked_parts => k_is)
    (case k_checked_parts => k_is)
    (case a_items_with => k_is)
    (case l_items_with => k_is)
    (case c_items_with => k_is)
    (case k_items_with => k_is)
    (case a_part_depths => k_is)
    (case l_part_depths => k_is)
    (case c_part_depths => k_is)
    (case k_part_depths => k_is)
    (case a_over => k_is)
    (case l_over => k_is)
    (case c_over => k_is)
    (case k_over => k_is)
    (case a_some_of => k_is)
    (case l_some_of => k_is)
    (case c_some_of => k_is)
    (case k_some_of => k_is)
    (case df_some_of => k_is)
    (case a_every_of => k_is)
    (case l_every_of => k_is)
    (case c_every_of => k_is)
    (case k_every_of => k_is)
    (case df_every_of => k_is)
    (case a_at_least => k_is)
    (case l_at_least => k_is)
    (case c_at_least => k_is)
    (case k_at_least => k_is)
    (case df_at_least => k_is)
    (case a_l_draw => k_is)
    (case l_l_draw => k_is)
    (case c_l_draw => k_is)
    (case k_l_draw => k_is)
    (case a_l_pick => k_is)
    (case l_l_pick => k_is)
    (case c_l_pick => k_is)
    (case k_l_pick => k_is)
    (case a_l_part => k_is)
    (case l_l_part => k_is)
    (case c_l_part => k_is)
    (case k_l_part => k_is)
    (case a_shifted_parts => k_is)
    (case l_shifted_parts => k_is)
    (case c_shifted_parts => k_is)
    (case k_shifted_parts => k_is)
    (case a_folded_parts => k_is)
    (case l_folded_parts => k_is)
    (case c_folded_parts => k_is)
    (case k_folded_parts => k_is)
    (case a_folded => k_is)
    (case l_folded => k_is)
    (case c_folded => k_is)
    (case k_folded => k_is)
    (case a_both_of => k_is)
    (case l_both_of => k_is)
    (case c_both_of => k_is)
    (case k_both_of => k_is)
    (case a_top_of => k_is)
    (case l_top_of => k_is)
    (case c_top_of => k_is)
    (case k_top_of => k_is)
    (case a_l_named => k_is)
    (case l_l_named => k_is)
    (case c_l_named => k_is)
    (case k_l_named => k_is)
    (case a_either_of => k_is)
    (case l_either_of => k_is)
    (case c_either_of => k_is)
    (case k_either_of => k_is)
    (case a_l_roads => k_is)
    (case l_l_roads => k_is)
    (case c_l_roads => k_is)
    (case k_l_roads => k_is)
    (case a_law => k_is)
    (case l_law => k_is)
    (case c_law => k_is)
    (case k_law => k_is)
    (case gs1 => k_is)
    (case gs2 => k_is)
    (case a_Saying => k_is)
    (case pg_Saying => kernel_rfl)
    (case hd_Saying => kernel_rfl)
    (case po_Saying => kernel_rfl)
    (case sa_Saying => k_is)
    (case ck_Saying => k_is)
    (case mo_Saying => k_is)
    (case mk_Saying => kernel_rfl)
    (case kc_Saying => k_is)
    (case i_Saying_init => k_is)
    (case l_Saying_init => k_is)
    (case c_Saying_init => k_is)
    (case k_Saying_init => k_is)
    (case fn_Saying_init => kernel_rfl)
    (case i_Saying_invert => k_is)
    (case l_Saying_invert => k_is)
    (case c_Saying_invert => k_is)
    (case k_Saying_invert => k_is)
    (case fn_Saying_invert => kernel_rfl)
    (case i_Saying_len => k_is)
    (case l_Saying_len => k_is)
    (case c_Saying_len => k_is)
    (case k_Saying_len => k_is)
    (case fn_Saying_len => kernel_rfl)
    (case n_Saying_parts => k_is)
    (case n_Saying_depth => k_is)
    (case n_Saying_words => k_is)
    (case n_Saying_links => k_is)
    (case n_Saying_scales => k_is)
    (case n_Saying_kinds => k_is)
    (case n_Saying_is_back => k_is)
    (case b_abs => k_is)
    (case b_all => k_is)
    (case b_bool => k_is)
    (case b_dict => k_is)
    (case b_int => k_is)
    (case b_isinstance => k_is)
    (case b_len => k_is)
    (case b_list => k_is)
    (case b_max => k_is)
    (case b_range => k_is)
    (case b_set => k_is)
    (case b_sorted => k_is)
    (case b_str => k_is)
    (case b_tuple => k_is)
    (case b_zip => k_is)
    (case z_DIRECTIONS => k_is)
    (case t0_DIRECTIONS => k_is)
    (case z_LEAST_MANY => k_is)
    (case z_LONGEST_STEM => k_is)
    (case z_MOST_MANY => k_is)
    (case z_MOST_STEMS => k_is)
    (case z_SAYING_KINDS => k_is)
    (case t3_SAYING_KINDS => k_is)
    (case t4_SAYING_KINDS => k_is)
    (case t6_SAYING_KINDS => k_is)
    (case t7_SAYING_KINDS => k_is)
    (case t9_SAYING_KINDS => k_is)
    (case t10_SAYING_KINDS => k_is)
    (case t12_SAYING_KINDS => k_is)
    (case t14_SAYING_KINDS => k_is)
    (case t16_SAYING_KINDS => k_is)
    (case t19_SAYING_KINDS => k_is)
    (case t21_SAYING_KINDS => k_is)
    (case t24_SAYING_KINDS => k_is)
    (case t26_SAYING_KINDS => k_is)
    (case t28_SAYING_KINDS => k_is)
    (case t30_SAYING_KINDS => k_is)
    (case t34_SAYING_KINDS => k_is)
    (case t36_SAYING_KINDS => k_is)
    (case t40_SAYING_KINDS => k_is)
    (case t42_SAYING_KINDS => k_is)
    (case t47_SAYING_KINDS => k_is)
    (case t49_SAYING_KINDS => k_is)
    (case t52_SAYING_KINDS => k_is)
    (case t54_SAYING_KINDS => k_is)
    (case kt1 => kernel_rfl)
