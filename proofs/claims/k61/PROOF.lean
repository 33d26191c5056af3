import PyProof.Rows.All
import Wide.All
import OpenK.AllK
import Wide.FinOn
import HandS.ForMost
import HandS.Conv
import HandS.Strs
import HandS.SortInts
import HandS.Wide
import HandS.WideBits
import HandS.IsInst
import HandS.Style
import HandS.NoneIn
import HandS.SetFor
import HandS.SetBool
import HandS.SortKw
import KE.DataMinMax
import HandS.TupAny
import PyProof.TupleOfSeq
import PyProof.ReprRoads
import PyProof.ReprLen
import PyProof.ExcBaseAll.LookupError
import HandS.Zip
import HandS.TupLe
import HandS.RevRange
import KE.GoesMore
import HandS.Dict
import HandS.Sort
import KE.KDictList
import KE.KRevSl
import PyProof.EqKinds
import PyProof.NeKinds
import PyProof.FactsAll.dict_1
import HandS.Star
import HandS.FStr
import HandS.Defaults
import HandS.ClsMeth
import HandS.TupMul
import KE.KTupSum
import HandS.Exc
import HandS.ExcInit
import HandS.ExcField
import HandS.ExcIs
import HandS.TryMany
import HandS.ExcOwn
import HandS.HotCalls
import KE.KExcIs
import KE.KExcLine
import HandS.SortRule
import KE.GoesEnumKw
import HandS.ReplaceLit
import PyProof.StrCalls6
import KE.KUnpackStar
import PySem.Challenge.RW_cardboxes_k61_unknown_commands
set_option Elab.async false
set_option linter.all false
set_option maxRecDepth 100000
set_option maxHeartbeats 4000000
namespace Dl
open PySem PySem.Spec PyProof.Rows L2

/-! ### lists that only their owner knows: described by what is true of the object; data are never such -/
def extL (s : Addr) (as : List Addr) : HO := .ext fun h => as.length ≤ sizeLine ∧ ∃ n : Nat, h.get? s = some { cls := .type "list", data := .seq (as.map Value.ref).toArray n }
def IsX (o : HO) : Prop := ∃ s as, as.length ≤ sizeLine ∧ o = extL s as
theorem nx_lst {xs : List V} : ¬ IsX (.lst xs) := fun ⟨_, _, _, e⟩ => by unfold extL at e; cases e
theorem nx_tup {xs : List V} : ¬ IsX (.tup xs) := fun ⟨_, _, _, e⟩ => by unfold extL at e; cases e
theorem nx_set {w : World} {D : Addr} {S : Int → Bool} {c : Nat} : ¬ IsX (SetO w D S c) := fun ⟨s, as, hl, e⟩ => by
  unfold SetO extL at e
  have e2 := HO.ext.inj e
  let ob : Obj := { cls := .type "list", data := .seq (as.map Value.ref).toArray 0 }
  let h : Heap := ⟨(List.replicate (s + 1) ob).toArray, {}⟩
  have hs : h.get? s = some ob := by
    unfold Heap.get?
    have : h.objs[s]? = some ob := by
      show (List.replicate (s + 1) ob).toArray[s]? = some ob
      simp
    rw [this]
  have hr : SetR w h D S c := by
    have := congrFun e2 h
    rw [this]
    exact ⟨hl, 0, hs⟩
  obtain ⟨o, es, ep, t, ho, _, hd, _⟩ := hr
  have : o = ob := by
    unfold Heap.get? at ho
    cases q : h.objs[D]? with
    | none => rw [q] at ho; cases ho
    | some u =>
      have hu : u = ob := by
        have q' : (List.replicate (s + 1) ob).toArray[D]? = some u := q
        rw [List.getElem?_toArray] at q'
        exact List.eq_of_mem_replicate (List.mem_of_getElem? q')
      subst hu
      rw [q] at ho
      exact (Option.some.inj ho).symm
  rw [this] at hd
  cases hd
theorem nx_dK {xs : List (Key × V)} : ¬ IsX (.dK xs) := fun ⟨_, _, _, e⟩ => by unfold extL at e; cases e
theorem nx_ins {C dx : Addr} {fs : List (Str × V)} : ¬ IsX (.ins C dx fs) := fun ⟨_, _, _, e⟩ => by unfold extL at e; cases e
theorem nx_own {x : Addr} : ¬ IsX (.own x) := fun ⟨_, _, _, e⟩ => by unfold extL at e; cases e
/-! ### data in the heap, away from the addresses S -/
def kP : Key → PyData
  | .inl i => .int i
  | .inr x => .str x
mutual
inductive Rep (K : PySem.W.Frag) (S : Addr → Prop) (H : Hp) : V → PyData → Prop
  | non : Rep K S H .non .none
  | bl (b : Bool) : Rep K S H (.bl b) (.bool b)
  | int (i : Int) : Rep K S H (.int i) (.int i)
  | str (x : Str) : Rep K S H (.str x) (.str x)
  | lst {a : Addr} {xs : List V} {ds : List PyData} : H a = some (.lst xs) ∧ ¬ S a → RepAll K S H xs ds → Rep K S H (.ref a) (.list ds)
  | tup {a : Addr} {xs : List V} {ds : List PyData} : H a = some (.tup xs) ∧ ¬ S a → RepAll K S H xs ds → Rep K S H (.ref a) (.tuple ds)
  | dct {a : Addr} {kvs : List (Key × V)} {es : List (PyData × PyData)} : H a = some (.dK kvs) ∧ ¬ S a → RepKV K S H kvs es → Rep K S H (.ref a) (.dict es)
inductive RepAll (K : PySem.W.Frag) (S : Addr → Prop) (H : Hp) : List V → List PyData → Prop
  | nil : RepAll K S H [] []
  | cons {v : V} {vs : List V} {d : PyData} {ds : List PyData} : Rep K S H v d → RepAll K S H vs ds → RepAll K S H (v :: vs) (d :: ds)
inductive RepKV (K : PySem.W.Frag) (S : Addr → Prop) (H : Hp) : List (Key × V) → List (PyData × PyData) → Prop
  | nil : RepKV K S H [] []
  | cons {k : Key} {v : V} {kvs : List (Key × V)} {d : PyData} {es : List (PyData × PyData)} : Rep K S H v d → RepKV K S H kvs es → RepKV K S H ((k, v) :: kvs) ((kP k, d) :: es)
end
section
variable {K : PySem.W.Frag} {S S' : Addr → Prop} {H H' : Hp}
theorem sql_of {a : Addr} {xs : List V} (h : H a = some (.lst xs) ∧ ¬ S a) : SqL K H a xs := .inl (.inl h.1)
theorem sqt_of {a : Addr} {xs : List V} (h : H a = some (.tup xs) ∧ ¬ S a) : SqT K H a xs := .inl (.inl h.1)
mutual
theorem Rep.keepX (e : ∀ b o, ¬ S b → ¬ IsX o → H b = some o → H' b = some o) (hs : ∀ b, H b ≠ none → S' b → S b) : ∀ (d : PyData) (v : V), Rep K S H v d → Rep K S' H' v d
  | .none, _, h => by cases h; exact .non
  | .bool b, _, h => by cases h; exact .bl b
  | .int i, _, h => by cases h; exact .int i
  | .str x, _, h => by cases h; exact .str x
  | .list ds, _, h => by
    cases h with
    | lst h1 h3 => exact .lst ⟨e _ _ h1.2 nx_lst h1.1, fun y => h1.2 (hs _ (by rw [h1.1]; exact fun z => nomatch z) y)⟩ (RepAll.keepX e hs ds _ h3)
  | .tuple ds, _, h => by
    cases h with
    | tup h1 h3 => exact .tup ⟨e _ _ h1.2 nx_tup h1.1, fun y => h1.2 (hs _ (by rw [h1.1]; exact fun z => nomatch z) y)⟩ (RepAll.keepX e hs ds _ h3)
  | .dict es, _, h => by
    cases h with
    | dct h1 h3 => exact .dct ⟨e _ _ h1.2 nx_dK h1.1, fun y => h1.2 (hs _ (by rw [h1.1]; exact fun z => nomatch z) y)⟩ (RepKV.keepX e hs es _ h3)
theorem RepAll.keepX (e : ∀ b o, ¬ S b → ¬ IsX o → H b = some o → H' b = some o) (hs : ∀ b, H b ≠ none → S' b → S b) : ∀ (ds : List PyData) (vs : List V), RepAll K S H vs ds → RepAll K S' H' vs ds
  | [], _, h => by cases h; exact .nil
  | d :: ds, _, h => by
    cases h with
    | cons h1 h2 => exact .cons (Rep.keepX e hs d _ h1) (RepAll.keepX e hs ds _ h2)
theorem RepKV.keepX (e : ∀ b o, ¬ S b → ¬ IsX o → H b = some o → H' b = some o) (hs : ∀ b, H b ≠ none → S' b → S b) : ∀ (es : List (PyData × PyData)) (vs : List (Key × V)), RepKV K S H vs es → RepKV K S' H' vs es
  | [], _, h => by cases h; exact .nil
  | (p, d) :: es, _, h => by
    cases h with
    | cons h1 h2 => exact .cons (Rep.keepX e hs d _ h1) (RepKV.keepX e hs es _ h2)
end
theorem Rep.keep (e : ∀ b o, ¬ S b → H b = some o → H' b = some o) (hs : ∀ b, H b ≠ none → S' b → S b) (d : PyData) (v : V) (r : Rep K S H v d) : Rep K S' H' v d := Rep.keepX (fun b o n _ q => e b o n q) hs d v r
theorem RepAll.keep (e : ∀ b o, ¬ S b → H b = some o → H' b = some o) (hs : ∀ b, H b ≠ none → S' b → S b) (d : List PyData) (v : List V) (r : RepAll K S H v d) : RepAll K S' H' v d := RepAll.keepX (fun b o n _ q => e b o n q) hs d v r
mutual
theorem Rep.dp : ∀ (d : PyData) (v : V), Rep K S H v d → d.hasDict = false → Dp K H v d
  | .none, _, h, _ => by cases h; exact .non
  | .bool b, _, h, _ => by cases h; exact .bl b
  | .int i, _, h, _ => by cases h; exact .int i
  | .str x, _, h, _ => by cases h; exact .str x
  | .list ds, _, h, n => by
    cases h with
    | lst h1 h3 => exact .lst (sql_of h1) (RepAll.dp ds _ h3 (by simpa only [PyData.hasDict] using n))
  | .tuple ds, _, h, n => by
    cases h with
    | tup h1 h3 => exact .tup (sqt_of h1) (RepAll.dp ds _ h3 (by simpa only [PyData.hasDict] using n))
  | .dict _, _, h, n => by simp [PyData.hasDict] at n
theorem RepAll.dp : ∀ (ds : List PyData) (vs : List V), RepAll K S H vs ds → PyData.hasDictAll ds = false → DpAll K H vs ds
  | [], _, h, _ => by cases h; exact .nil
  | d :: ds, _, h, n => by
    rw [PyData.hasDictAll, Bool.or_eq_false_iff] at n
    cases h with
    | cons h1 h2 => exact .cons (Rep.dp d _ h1 n.1) (RepAll.dp ds _ h2 n.2)
end
mutual
theorem nodict_of : ∀ d : PyData, d.canLay0 = true → d.hasDict = false
  | .none, _ => by simp only [PyData.hasDict]
  | .bool _, _ => by simp only [PyData.hasDict]
  | .int _, _ => by simp only [PyData.hasDict]
  | .str _, _ => by simp only [PyData.hasDict]
  | .list ds, h => by rw [PyData.hasDict]; exact nodictAll_of ds (by simpa only [PyData.canLay0] using h)
  | .tuple ds, h => by rw [PyData.hasDict]; exact nodictAll_of ds (by simpa only [PyData.canLay0] using h)
  | .dict _, h => by simp [PyData.canLay0] at h
theorem nodictAll_of : ∀ ds : List PyData, PyData.canLayAll0 ds = true → PyData.hasDictAll ds = false
  | [], _ => by simp only [PyData.hasDictAll]
  | d :: ds, h => by
    rw [PyData.canLayAll0, Bool.and_eq_true] at h
    rw [PyData.hasDictAll, nodict_of d h.1, nodictAll_of ds h.2]; rfl
end
theorem nodict_sh {d : PyData} (h : SeqAt.shaped d = true) : d.hasDict = false := nodict_of d (Bool.and_eq_true_iff.mp h).1
theorem RepAll.length : ∀ {ds : List PyData} {vs : List V}, RepAll K S H vs ds → vs.length = ds.length
  | [], _, h => by cases h; rfl
  | d :: ds, _, h => by
    cases h with
    | cons h1 h2 => rw [List.length_cons, List.length_cons, RepAll.length h2]
theorem RepAll.get : ∀ {ds : List PyData} {vs : List V} {i : Nat} {d : PyData}, RepAll K S H vs ds → ds[i]? = some d → ∃ v, vs[i]? = some v ∧ Rep K S H v d
  | _ :: _, _, 0, _, h, e => by
    cases h with
    | cons h1 h2 => cases e; exact ⟨_, rfl, h1⟩
  | _ :: ds, _, i + 1, d, h, e => by
    cases h with
    | cons h1 h2 =>
      obtain ⟨v, q, r⟩ := RepAll.get (i := i) (d := d) h2 (by simpa using e)
      exact ⟨v, by simpa using q, r⟩
  | [], _, i, _, _, e => by simp at e
theorem RepAll.got : ∀ {ds : List PyData} {vs : List V} {i : Nat} {v : V}, RepAll K S H vs ds → vs[i]? = some v → ∃ d, ds[i]? = some d ∧ Rep K S H v d
  | _ :: _, _, 0, _, h, e => by
    cases h with
    | cons h1 h2 => cases e; exact ⟨_, rfl, h1⟩
  | _ :: ds, _, i + 1, d, h, e => by
    cases h with
    | cons h1 h2 =>
      obtain ⟨v, q, r⟩ := RepAll.got (i := i) h2 (by simpa using e)
      exact ⟨v, by simpa using q, r⟩
  | [], _, i, _, h, e => by cases h; simp at e
theorem RepAll.append : ∀ {ds es : List PyData} {vs ws : List V}, RepAll K S H vs ds → RepAll K S H ws es → RepAll K S H (vs ++ ws) (ds ++ es)
  | [], _, _, _, h, h' => by cases h; exact h'
  | d :: ds, _, _, _, h, h' => by
    cases h with
    | cons h1 h2 => exact .cons h1 (RepAll.append h2 h')
theorem RepAll.take (n : Nat) : ∀ {ds : List PyData} {vs : List V}, RepAll K S H vs ds → RepAll K S H (vs.take n) (ds.take n) := by
  induction n with
  | zero => intro _ _ _; simp; exact .nil
  | succ n ih =>
    intro ds vs h
    cases h with
    | nil => exact .nil
    | cons h1 h2 => exact .cons h1 (ih h2)
theorem RepAll.drop (n : Nat) : ∀ {ds : List PyData} {vs : List V}, RepAll K S H vs ds → RepAll K S H (vs.drop n) (ds.drop n) := by
  induction n with
  | zero => intro _ _ h; exact h
  | succ n ih =>
    intro ds vs h
    cases h with
    | nil => exact .nil
    | cons h1 h2 => exact ih h2
theorem RepAll.ints : ∀ {ns : List Int} {vs : List V}, RepAll K S H vs (ns.map PyData.int) → vs = ns.map V.int
  | [], _, h => by cases h; rfl
  | n :: ns, _, h => by
    cases h with
    | cons h1 h2 => cases h1; rw [RepAll.ints h2]; rfl
theorem RepAll.of_ints : ∀ (ns : List Int), RepAll K S H (ns.map V.int) (ns.map PyData.int)
  | [] => .nil
  | n :: ns => .cons (.int n) (RepAll.of_ints ns)
end
end Dl

namespace Dl
open PySem PySem.Spec PyProof.Rows L2

/-- what stands, and is no tuple -/
def Lv (H : Hp) (b : Addr) : Prop := ∃ o, H b = some o ∧ ∀ xs, o ≠ .tup xs
theorem Lv.ne {H : Hp} {b : Addr} (h : Lv H b) : H b ≠ none := by obtain ⟨o, e, _⟩ := h; rw [e]; exact fun z => nomatch z
theorem lv_lst {H : Hp} {b : Addr} {xs : List V} (h : H b = some (.lst xs)) : Lv H b := ⟨_, h, fun _ z => nomatch z⟩
theorem lv_ext {H : Hp} {b : Addr} {φ : Heap → Prop} (h : H b = some (.ext φ)) : Lv H b := ⟨_, h, fun _ z => nomatch z⟩
theorem Lv.keep {H H' : Hp} {b : Addr} (h : Lv H b) (k : ∀ o, H b = some o → H' b = some o) : Lv H' b := by obtain ⟨o, e, n⟩ := h; exact ⟨o, k o e, n⟩

/-! ### the frame of a run: K the written part; S what data avoid; M what calls may change; H0 the heap at the entry; G what is known of M, with k draws left -/
structure Fm where
  K : PySem.W.Frag
  S : Addr → Prop
  M : Addr → Prop
  H0 : Hp
  G : Nat → Hp → Prop
  ms : ∀ b, M b → S b
  gm : ∀ k H H', G k H → (∀ b, M b → H' b = H b) → (∀ b o, (IsX o ∨ ∃ xs, o = .tup xs) → H b = some o → H' b = some o) → G k H'
  gl : ∀ k H, G k H → ∀ b, M b → H b ≠ none
  X : HO → Prop := fun _ => False
  xi : ∀ o, X o → IsX o := by exact fun _ h => h.elim
  xa : ∀ k H, G k H → ∀ b o, ¬ M b → X o → H0 b = some o → ∃ o', IsX o' ∧ H b = some o' := by exact fun _ _ _ _ _ _ h => h.elim
def Fm.Mx (F : Fm) (b : Addr) (o : HO) : Prop := F.M b ∨ F.X o
def Fm.Sx (F : Fm) (b : Addr) (o : HO) : Prop := F.S b ∨ F.X o
theorem Fm.mx {F : Fm} {b : Addr} {o : HO} (h : ¬ F.M b) (x : ¬ IsX o) : ¬ F.Mx b o := fun z => z.elim h fun y => x (F.xi _ y)
theorem Fm.sxA {F : Fm} {b : Addr} {o : HO} (h : ¬ F.S b) (x : ¬ IsX o := by first | exact nx_lst | exact nx_tup | exact nx_dK | exact nx_set) : ¬ F.Sx b o := fun z => z.elim h fun y => x (F.xi _ y)
theorem Fm.mxA {F : Fm} {b : Addr} {o : HO} (h : ¬ F.M b) (x : ¬ IsX o := by first | exact nx_lst | exact nx_tup | exact nx_dK | exact nx_set) : ¬ F.Mx b o := fun z => z.elim h fun y => x (F.xi _ y)
theorem lv_new {H : Hp} {p : Addr} {o : HO} (h : ∀ xs, o ≠ .tup xs) : Lv (upd H p o) p := ⟨o, upd_same, h⟩
theorem Fm.mxL {F : Fm} {b : Addr} {xs : List V} (h : ¬ F.M b) : ¬ F.Mx b (.lst xs) := Fm.mx h nx_lst
structure J (F : Fm) (k : Nat) (H : Hp) : Prop where
  g : F.G k H
  le : ∀ b o, ¬ F.Mx b o → F.H0 b = some o → H b = some o
  al : ∀ b, F.S b → Lv H b
def Le (F : Fm) (H H' : Hp) : Prop := ∀ b o, ¬ F.Mx b o → H b = some o → H' b = some o
def Lz (F : Fm) (H H' : Hp) : Prop := ∀ b o, ¬ F.Sx b o → H b = some o → H' b = some o
abbrev Rp (F : Fm) (H : Hp) (v : V) (d : PyData) : Prop := Rep F.K F.S H v d
abbrev RpAll (F : Fm) (H : Hp) (vs : List V) (ds : List PyData) : Prop := RepAll F.K F.S H vs ds
section
variable {F : Fm} {H H1 H2 : Hp} {k : Nat}
theorem Le.refl : Le F H H := fun _ _ _ h => h
theorem Le.trans (a : Le F H H1) (b : Le F H1 H2) : Le F H H2 := fun x o n h => b x o n (a x o n h)
theorem Lz.refl : Lz F H H := fun _ _ _ h => h
theorem Lz.trans (a : Lz F H H1) (b : Lz F H1 H2) : Lz F H H2 := fun x o n h => b x o n (a x o n h)
theorem Le.lz (a : Le F H H1) : Lz F H H1 := fun b o n h => a b o (fun z => n (z.imp (F.ms b) id)) h
theorem Le.new {p : Addr} {o : HO} (hp : H p = none) : Le F H (upd H p o) := fun b u _ e => by
  rw [upd_ne (ne_of_none e hp)]; exact e
theorem Rep.le {v : V} {d : PyData} (r : Rp F H v d) (a : Lz F H H1) : Rp F H1 v d := Rep.keepX (fun b o n hp e => a b o (fun z => z.elim n fun y => hp (F.xi _ y)) e) (fun _ _ z => z) d v r
theorem RepAll.le {v : List V} {d : List PyData} (r : RpAll F H v d) (a : Lz F H H1) : RpAll F H1 v d := RepAll.keepX (fun b o n hp e => a b o (fun z => z.elim n fun y => hp (F.xi _ y)) e) (fun _ _ z => z) d v r
theorem J.new {p : Addr} {o : HO} (j : J F k H) (hp : H p = none) : J F k (upd H p o) where
  g := F.gm k H _ j.g (fun b hb => upd_ne fun e => F.gl k H j.g b hb (e ▸ hp)) fun b u _ e => by rw [upd_ne (ne_of_none e hp)]; exact e
  le := fun b u hb e => by
    have q := j.le b u hb e
    rw [upd_ne (ne_of_none q hp)]; exact q
  al := fun b hb => (j.al b hb).keep fun u e => by rw [upd_ne (ne_of_none e hp)]; exact e
theorem J.h0 {p : Addr} (j : J F k H) (hm : ¬ F.M p) (hp : H p = none) : F.H0 p = none := by
  cases e : F.H0 p with
  | none => rfl
  | some u =>
    by_cases x : F.X u
    · obtain ⟨o', _, q⟩ := F.xa k H j.g p u hm x e
      rw [hp] at q; cases q
    · rw [j.le p u (fun z => z.elim hm x) e] at hp; cases hp
theorem J.fresh {p : Addr} (j : J F k H) (hp : H p = none) : ¬ F.S p := fun z => (j.al p z).ne hp
/-- what is neither a tuple nor known to its owner alone -/
def Pl (H : Hp) (p : Addr) : Prop := ∀ u, H p = some u → ¬ (IsX u ∨ ∃ xs, u = .tup xs)
theorem pl_lst {H : Hp} {p : Addr} {xs : List V} (h : H p = some (.lst xs)) : Pl H p := fun u e => by
  rw [h] at e; cases e; exact fun z => z.elim nx_lst fun ⟨_, q⟩ => nomatch q
theorem pl_set {H : Hp} {p : Addr} {w : World} {D : Addr} {S : Int → Bool} {c : Nat} (h : H p = some (SetO w D S c)) : Pl H p := fun u e => by
  rw [h] at e; cases e; exact fun z => z.elim nx_set fun ⟨_, q⟩ => nomatch q
theorem J.own {p : Addr} {o : HO} (j : J F k H) (hm : ¬ F.M p) (h0 : F.H0 p = none) (hp : Pl H p) (ho : ∀ xs, o ≠ .tup xs := by exact fun _ z => nomatch z) : J F k (upd H p o) where
  g := F.gm k H _ j.g (fun b hb => upd_ne fun e => hm (e ▸ hb)) fun b u hu e => by
    rw [upd_ne (show b ≠ p from fun z => hp u (z ▸ e) hu)]; exact e
  le := fun b u hb e => by
    rw [upd_ne (ne_of_none e h0)]; exact j.le b u hb e
  al := fun b hb => by
    by_cases e : b = p
    · rw [e]; exact ⟨o, upd_same, ho⟩
    · exact (j.al b hb).keep fun u q => by rw [upd_ne e]; exact q
theorem rep_newL {p : Addr} {vs : List V} {ds : List PyData} (j : J F k H) (hp : H p = none) (r : RpAll F H vs ds) : Rp F (upd H p (.lst vs)) (.ref p) (.list ds) :=
  .lst ⟨upd_same, j.fresh hp⟩ (r.le (Le.new hp).lz)
theorem rep_newT {p : Addr} {vs : List V} {ds : List PyData} (j : J F k H) (hp : H p = none) (r : RpAll F H vs ds) : Rp F (upd H p (.tup vs)) (.ref p) (.tuple ds) :=
  .tup ⟨upd_same, j.fresh hp⟩ (r.le (Le.new hp).lz)
end

/-! ### slots -/
inductive SV where
  | un
  | d (x : PyData)
  | raw (v : V)
  | own (o : Addr) (xs : List PyData)
def SlotOk (F : Fm) (H : Hp) : SV → Option V → Prop
  | .un, _ => True
  | .d d, x => ∃ v, x = some v ∧ Rp F H v d
  | .raw v, x => x = some v
  | .own o xs, x => x = some (.ref o) ∧ F.S o ∧ ¬ F.M o ∧ F.H0 o = none ∧ ∃ vs, H o = some (.lst vs) ∧ RpAll F H vs xs
abbrev Rho := List SV
def EnvOk (F : Fm) (H : Hp) (σ : L2.St) (ρ : Rho) : Prop := ∀ (i : Nat) (sv : SV), ρ[i]? = some sv → ∃ x, σ[i]? = some x ∧ SlotOk F H sv x
section
variable {F : Fm} {H H1 H2 : Hp} {k : Nat} {σ : L2.St} {ρ : Rho}
theorem SlotOk.le {sv : SV} {x : Option V} (h : SlotOk F H sv x) (a : Le F H H1) : SlotOk F H1 sv x := by
  cases sv with
  | un => trivial
  | d d => obtain ⟨v, e, r⟩ := h; exact ⟨v, e, r.le a.lz⟩
  | raw v => exact h
  | own o xs =>
    obtain ⟨e, s, m, z, vs, h1, r⟩ := h
    exact ⟨e, s, m, z, vs, a o _ (Fm.mxL m) h1, r.le a.lz⟩
theorem EnvOk.le (h : EnvOk F H σ ρ) (a : Le F H H1) : EnvOk F H1 σ ρ := fun i sv e => by
  obtain ⟨x, q, r⟩ := h i sv e
  exact ⟨x, q, r.le a⟩
theorem EnvOk.set {i : Nat} {sv : SV} {x : Option V} (h : EnvOk F H σ ρ) (s : SlotOk F H sv x) : EnvOk F H (σ.set i x) (ρ.set i sv) := fun j tv e => by
  by_cases hj : i = j
  · subst hj
    by_cases hl : i < ρ.length
    · rw [List.getElem?_set_self hl] at e
      cases e
      obtain ⟨y, q, _⟩ := h i _ (List.getElem?_eq_getElem hl)
      obtain ⟨hl', _⟩ := List.getElem?_eq_some_iff.mp q
      exact ⟨x, List.getElem?_set_self hl', s⟩
    · rw [List.getElem?_eq_none (by simpa using hl)] at e; cases e
  · rw [List.getElem?_set_ne hj] at e
    obtain ⟨y, q, r⟩ := h j tv e
    exact ⟨y, by rw [List.getElem?_set_ne hj]; exact q, r⟩
theorem EnvOk.d {i : Nat} {d : PyData} (h : EnvOk F H σ ρ) (e : ρ[i]? = some (.d d)) : ∃ v, σ[i]? = some (some v) ∧ Rp F H v d := by
  obtain ⟨x, q, v, rfl, r⟩ := h i _ e
  exact ⟨v, q, r⟩
theorem EnvOk.raw {i : Nat} {v : V} (h : EnvOk F H σ ρ) (e : ρ[i]? = some (.raw v)) : σ[i]? = some (some v) := by
  obtain ⟨x, q, r⟩ := h i _ e
  rw [q, show x = some v from r]
end

/-! ### runs of readings on data -/
def WE (F : Fm) (t : TE) (ρ : Rho) (k : Nat) (Φ : Nat → PyData → Prop) : Prop :=
  ∀ (σ : L2.St) (H : Hp) (Q : VK), EnvOk F H σ ρ → J F k H → (∀ v d k' H', Le F H H' → J F k' H' → Rp F H' v d → Φ k' d → Q v H') → t σ H Q
def WA (F : Fm) (t : TA) (ρ : Rho) (k : Nat) (Φ : Nat → List PyData → Prop) : Prop :=
  ∀ (σ : L2.St) (H : Hp) (Q : List V → Hp → Prop), EnvOk F H σ ρ → J F k H → (∀ vs ds k' H', Le F H H' → J F k' H' → RpAll F H' vs ds → Φ k' ds → Q vs H') → t σ H Q
def WT (F : Fm) (t : TT) (ρ : Rho) (k : Nat) (Φ : Nat → Bool → Prop) : Prop :=
  ∀ (σ : L2.St) (H : Hp) (Q : Bool → Hp → Prop), EnvOk F H σ ρ → J F k H → (∀ b k' H', Le F H H' → J F k' H' → Φ k' b → Q b H') → t σ H Q
structure DE where
  nx : Nat → Rho → Prop
  rt : Nat → PyData → Prop
  bk : Nat → Rho → Prop
  ct : Nat → Rho → Prop
def WS (F : Fm) (t : TS) (ρ : Rho) (k : Nat) (P : DE) : Prop :=
  ∀ (σ : L2.St) (H : Hp) (E : Ends), EnvOk F H σ ρ → J F k H →
    (∀ ρ' σ' k' H', Lz F H H' → EnvOk F H' σ' ρ' → J F k' H' → P.nx k' ρ' → E.nx σ' H') →
    (∀ v d k' H', J F k' H' → Rp F H' v d → P.rt k' d → E.rt v H') →
    (∀ ρ' σ' k' H', Lz F H H' → EnvOk F H' σ' ρ' → J F k' H' → P.bk k' ρ' → E.bk σ' H') →
    (∀ ρ' σ' k' H', Lz F H H' → EnvOk F H' σ' ρ' → J F k' H' → P.ct k' ρ' → E.ct σ' H') → t E σ H
/-- an operation on two data; on a list of data -/
def RD (F : Fm) (r : R2) (x y : PyData) (k : Nat) (Φ : Nat → PyData → Prop) : Prop :=
  ∀ (H : Hp) (vx vy : V) (Q : VK), J F k H → Rp F H vx x → Rp F H vy y → (∀ v d k' H', Le F H H' → J F k' H' → Rp F H' v d → Φ k' d → Q v H') → r vx vy H Q
def RA (F : Fm) (r : List V → Hp → VK → Prop) (ds : List PyData) (k : Nat) (Φ : Nat → PyData → Prop) : Prop :=
  ∀ (H : Hp) (vs : List V) (Q : VK), J F k H → RpAll F H vs ds → (∀ v d k' H', Le F H H' → J F k' H' → Rp F H' v d → Φ k' d → Q v H') → r vs H Q

/-! ### where the text stands -/
structure Cs where
  P : Program
  w : World
  K : PySem.W.Frag
  mg : Str → Option Value
  base : Heap
  N : List Str
  sc : Scope
  fn : Str → Bool
  lvl : Nat
structure Fits (C : Cs) (X : Cx) : Prop where
  P : X.prog = C.P
  w : X.w = C.w
  K : X.K = C.K
  mg : X.mg = C.mg
  base : X.base = C.base
  N : X.N = C.N
  sc : X.env.scope = C.sc
  fn : X.fn = C.fn
  calm : X.calm = true
  room : Room C.lvl X.A
  xe : X.xe = fun _ _ => False
  gd : X.A.guards = some []
abbrev Cs.blk (C : Cs) (scope : Scope) : Cs := { C with sc := relS scope C.sc, fn := fun x => scope.names.lookup x == some .cell }
theorem Fits.blk {C : Cs} {X : Cx} (f : Fits C X) (s : Shared) (H : Hp) (scope : Scope) (a : Addr) (cl : List (Str × Addr)) (fp : List Addr) : Fits (C.blk scope) (X.blk s H scope (compEnvC scope cl a X.env) fp) :=
  ⟨f.P, f.w, f.K, f.mg, f.base, f.N, by show relS scope X.env.scope = _; rw [f.sc], rfl, f.calm, f.room, rfl, f.gd⟩

/-- the widest readings -/
def tE (C : Cs) (e : Expr) : TE := fun σ H Q => ∀ X, Fits C X → ∀ pins s, Inv X pins σ H s → wpAny (model X.prog X.w) X.A (eval e X.env) (EP X pins σ Q) X.xe s
def tT (C : Cs) (e : Expr) : TT := fun σ H Q => ∀ X, Fits C X → ∀ pins s, Inv X pins σ H s → wpAny (model X.prog X.w) X.A (isTrue e X.env (eval e X.env)) (TP X pins σ Q) X.xe s
def tW (C : Cs) (e : Expr) : TT := fun σ H Q => ∀ X, Fits C X → ∀ (whole : Sem Value) pins s, Inv X pins σ H s → wpAny (model X.prog X.w) X.A (isTrue e X.env whole) (TP X pins σ Q) X.xe s
def tA (C : Cs) (es : List Expr) : TA := fun σ H Q => ∀ X, Fits C X → ∀ (pos : Pos) pins s, Inv X pins σ H s → wpAny (model X.prog X.w) X.A (spliced (backTo pos (starEach es X.env))) (AP X pins σ Q) X.xe s
def tS (C : Cs) (st : Stmt) : TS := fun D σ H => ∀ X, Fits C X → ∀ pins s, Inv X pins σ H s → wpAny (model X.prog X.w) X.A (exec st X.env) (SP X pins D) X.xe s
def tB (C : Cs) (st : List Stmt) : TS := fun D σ H => ∀ X, Fits C X → ∀ pins s, Inv X pins σ H s → wpAny (model X.prog X.w) X.A (execs st X.env) (SP X pins D) X.xe s
section
variable {C : Cs} {X : Cx}
theorem peE (f : Fits C X) {e : Expr} : PE X e (tE C e) := ⟨fun pins s σ H Q I h => h X f pins s I⟩
theorem ptT (f : Fits C X) {e : Expr} : PT X e (tT C e) := ⟨fun pins s σ H Q I h => h X f pins s I⟩
theorem pwW (f : Fits C X) {e : Expr} : PW X e (tW C e) := ⟨fun wh pins s σ H Q I h => h X f wh pins s I⟩
theorem paA (f : Fits C X) {es : List Expr} : PA X es (tA C es) := ⟨fun pos pins s σ H Q I h => h X f pos pins s I⟩
theorem psS (f : Fits C X) {st : Stmt} : PS X st (tS C st) := ⟨fun pins s σ H D I h => h X f pins s I⟩
theorem pbB (f : Fits C X) {st : List Stmt} : PSs X st (tB C st) := ⟨fun pins s σ H D I h => h X f pins s I⟩
end
abbrev WPE (F : Fm) (C : Cs) (e : Expr) (ρ : Rho) (k : Nat) (Φ : Nat → PyData → Prop) : Prop := WE F (tE C e) ρ k Φ
abbrev WPT (F : Fm) (C : Cs) (e : Expr) (ρ : Rho) (k : Nat) (Φ : Nat → Bool → Prop) : Prop := WT F (tT C e) ρ k Φ
abbrev WPW (F : Fm) (C : Cs) (e : Expr) (ρ : Rho) (k : Nat) (Φ : Nat → Bool → Prop) : Prop := WT F (tW C e) ρ k Φ
abbrev WPA (F : Fm) (C : Cs) (es : List Expr) (ρ : Rho) (k : Nat) (Φ : Nat → List PyData → Prop) : Prop := WA F (tA C es) ρ k Φ
abbrev WPS (F : Fm) (C : Cs) (st : Stmt) (ρ : Rho) (k : Nat) (P : DE) : Prop := WS F (tS C st) ρ k P
abbrev WPB (F : Fm) (C : Cs) (st : List Stmt) (ρ : Rho) (k : Nat) (P : DE) : Prop := WS F (tB C st) ρ k P

section
variable {F : Fm} {C : Cs} {ρ : Rho} {k : Nat} {Φ Φ' : Nat → PyData → Prop} {Ψ Ψ' : Nat → Bool → Prop} {e a b : Expr} {es : List Expr} {pos : Pos} {P : DE}
theorem of_pe {t : TE} (h : ∀ X, Fits C X → PE X e t) (hw : WE F t ρ k Φ) : WPE F C e ρ k Φ := fun σ H Q en j q X fx pins s I => (h X fx).run pins s σ H Q I (hw σ H Q en j q)
theorem of_pt {t : TT} (h : ∀ X, Fits C X → PT X e t) (hw : WT F t ρ k Ψ) : WPT F C e ρ k Ψ := fun σ H Q en j q X fx pins s I => (h X fx).run pins s σ H Q I (hw σ H Q en j q)
theorem of_pw {t : TT} (h : ∀ X, Fits C X → PW X e t) (hw : WT F t ρ k Ψ) : WPW F C e ρ k Ψ := fun σ H Q en j q X fx wh pins s I => (h X fx).run wh pins s σ H Q I (hw σ H Q en j q)
theorem of_pa {t : TA} {Φ : Nat → List PyData → Prop} (h : ∀ X, Fits C X → PA X es t) (hw : WA F t ρ k Φ) : WPA F C es ρ k Φ := fun σ H Q en j q X fx pos pins s I => (h X fx).run pos pins s σ H Q I (hw σ H Q en j q)
theorem of_ps {t : TS} {st : Stmt} (h : ∀ X, Fits C X → PS X st t) (hw : WS F t ρ k P) : WPS F C st ρ k P := fun σ H E en j q1 q2 q3 q4 X fx pins s I => (h X fx).run pins s σ H E I (hw σ H E en j q1 q2 q3 q4)
theorem of_pb {t : TS} {st : List Stmt} (h : ∀ X, Fits C X → PSs X st t) (hw : WS F t ρ k P) : WPB F C st ρ k P := fun σ H E en j q1 q2 q3 q4 X fx pins s I => (h X fx).run pins s σ H E I (hw σ H E en j q1 q2 q3 q4)
theorem WE.imp {t : TE} (h : WE F t ρ k Φ) (i : ∀ k' d, Φ k' d → Φ' k' d) : WE F t ρ k Φ' := fun σ H Q en j q => h σ H Q en j fun v d k' H' l j' r p => q v d k' H' l j' r (i k' d p)
theorem WT.imp {t : TT} (h : WT F t ρ k Ψ) (i : ∀ k' d, Ψ k' d → Ψ' k' d) : WT F t ρ k Ψ' := fun σ H Q en j q => h σ H Q en j fun b k' H' l j' p => q b k' H' l j' (i k' b p)

/-! ### names and constants -/
theorem we_name (i : Nat) {x : Str} {d : PyData} (hN : C.N[i]? = some x) (hv : Vis C.sc x) (hr : ρ[i]? = some (.d d)) (h : Φ k d) (hd : (x == ("__debug__" : Str)) = false := by decide) (hcd : (x == ("__classdict__" : Str)) = false := by decide) : WPE F C (.Name x pos) ρ k Φ :=
  of_pe (t := tVar i) (fun X fx => pe_var (by rw [fx.N]; exact hN) (by rw [fx.sc]; exact hv) hd hcd) fun σ H Q en j q => by
    obtain ⟨v, e, r⟩ := en.d hr
    exact ⟨v, e, q v d k H .refl j r h⟩
theorem we_int {i : Int} {jj : Nat} (h : Φ k (.int i)) : WPE F C (.Constant (.int i) jj pos) ρ k Φ := of_pe (fun X _ => pe_int) fun σ H Q en j q => q _ _ k H .refl j (.int i) h
theorem we_bl {i : Bool} {jj : Nat} (h : Φ k (.bool i)) : WPE F C (.Constant (.bool i) jj pos) ρ k Φ := of_pe (fun X _ => pe_bl) fun σ H Q en j q => q _ _ k H .refl j (.bl i) h
theorem we_str {i : Str} {jj : Nat} (h : Φ k (.str i)) : WPE F C (.Constant (.str i) jj pos) ρ k Φ := of_pe (fun X _ => pe_str) fun σ H Q en j q => q _ _ k H .refl j (.str i) h
theorem we_non {jj : Nat} (h : Φ k .none) : WPE F C (.Constant .none jj pos) ρ k Φ := of_pe (fun X _ => pe_non) fun σ H Q en j q => q _ _ k H .refl j .non h
theorem we_gint {x : Str} {n : Int} {t : Tok} (hg : C.sc.names.lookup x = some .globalImplicit) (hm : C.mg x = some (.int n t)) (h : Φ k (.int n)) (hd : (x == ("__debug__" : Str)) = false := by decide) : WPE F C (.Name x pos) ρ k Φ :=
  of_pe (fun X fx => pe_glob (v := .int n) (u := .int n t) (by show X.env.scope.names.lookup x = _; rw [fx.sc]; exact hg) (by rw [fx.mg]; exact hm) ⟨t, rfl⟩ hd) fun σ H Q en j q => q _ _ k H .refl j (.int n) h

/-! ### operations -/
theorem we_op {r : R2} {ta tb : TE} (h : WE F ta ρ k fun k1 x => WE F tb ρ k1 fun k2 y => RD F r x y k2 Φ) : WE F (tOp r ta tb) ρ k Φ := fun σ H Q en j q =>
  h σ H _ en j fun vx x k1 H1 l1 j1 r1 hx => hx σ H1 _ (en.le l1) j1 fun vy y k2 H2 l2 j2 r2 hy => hy H2 vx vy Q j2 (r1.le l2.lz) r2 fun v d k' H' l' j' r' p => q v d k' H' ((l1.trans l2).trans l') j' r' p
theorem we_bin {op : Operator} {r : R2} (ho : ∀ X, Fits C X → OpR X (binaryOp op) r) (h : WPE F C a ρ k fun k1 x => WPE F C b ρ k1 fun k2 y => RD F r x y k2 Φ) : WPE F C (.BinOp a op b pos) ρ k Φ :=
  of_pe (fun X fx => pe_op (ho X fx) (peE fx) (peE fx)) (we_op h)
theorem we_cmp {op : CmpOp} {r : R2} (ho : ∀ X, Fits C X → OpR X (compareOp op) r) (hm : behindInMarks op b = false) (h : WPE F C a ρ k fun k1 x => WPE F C b ρ k1 fun k2 y => RD F r x y k2 Φ) : WPE F C (.Compare a [op] [b] pos) ρ k Φ :=
  of_pe (fun X fx => pe_cmpR (ho X fx) (peE fx) (peE fx) hm) (we_op h)
theorem wt_test {t : TE} (h : WE F t ρ k fun k1 d => ∃ b, d = .bool b ∧ Ψ k1 b) : WT F (tTest t) ρ k Ψ := fun σ H Q en j q => h σ H _ en j fun v d k' H' l j' r ⟨b, e, p⟩ => by
  subst e; cases r; exact ⟨b, rfl, q b k' H' l j' p⟩
theorem wt_cmp {op : CmpOp} {r : R2} (ho : ∀ X, Fits C X → OpR X (compareOp op) r) (hm : behindInMarks op b = false) (h : WPE F C a ρ k fun k1 x => WPE F C b ρ k1 fun k2 y => RD F r x y k2 fun k3 d => ∃ b, d = .bool b ∧ Ψ k3 b) : WPT F C (.Compare a [op] [b] pos) ρ k Ψ :=
  of_pt (fun X fx => pt_cmpR (ho X fx) (peE fx) (peE fx) hm) (wt_test (we_op h))
/-- an expression whose value is a bool, as a test -/
theorem wt_val (he : ∀ (env : Env) (whole : Sem Value), isTrue e env whole = (do let v ← whole; standAt e.pos; holding [v] (truthy v))) (h : WPE F C e ρ k fun k1 d => ∃ b, d = .bool b ∧ Ψ k1 b) : WPT F C e ρ k Ψ :=
  of_pt (fun X fx => pt_val (peE fx) (he X.env)) fun σ H Q en j q => h σ H _ en j fun v d k' H' l j' r ⟨b, e, p⟩ => by
    subst e; cases r; exact ⟨b, rfl, q b k' H' l j' p⟩
theorem wt_not (h : WPT F C a ρ k fun k1 b => Ψ k1 (!b)) : WPT F C (.UnaryOp .Not a pos) ρ k Ψ :=
  of_pt (fun X fx => pt_not (ptT fx)) fun σ H Q en j q => h σ H _ en j fun b k' H' l j' p => q (!b) k' H' l j' p
theorem we_not (h : WPE F C a ρ k fun k1 d => ∃ b, d = .bool b ∧ Φ k1 (.bool (!b))) : WPE F C (.UnaryOp .Not a pos) ρ k Φ :=
  of_pe (fun X fx => pe_not (peE fx)) fun σ H Q en j q => h σ H _ en j fun v d k' H' l j' r ⟨b, e, p⟩ => by
    subst e; cases r; exact ⟨b, rfl, q _ _ k' H' l j' (.bl _) p⟩
/-- and, or as tests -/
theorem ww_and {rest : List Expr} (h : WPT F C a ρ k fun k1 c => if c = true then WPW F C (.BoolOp .And (b :: rest) pos) ρ k1 Ψ else Ψ k1 false) : WPW F C (.BoolOp .And (a :: b :: rest) pos) ρ k Ψ :=
  of_pw (fun X fx => pw_and (ptT fx) (pwW fx)) fun σ H Q en j q => h σ H _ en j fun c k1 H1 l1 j1 p => by
    cases c with
    | true => exact p σ H1 Q (en.le l1) j1 fun b k' H' l j' p' => q b k' H' (l1.trans l) j' p'
    | false => exact q false k1 H1 l1 j1 p
theorem ww_or {rest : List Expr} (h : WPT F C a ρ k fun k1 c => if c = true then Ψ k1 true else WPW F C (.BoolOp .Or (b :: rest) pos) ρ k1 Ψ) : WPW F C (.BoolOp .Or (a :: b :: rest) pos) ρ k Ψ :=
  of_pw (fun X fx => pw_or (ptT fx) (pwW fx)) fun σ H Q en j q => h σ H _ en j fun c k1 H1 l1 j1 p => by
    cases c with
    | false => exact p σ H1 Q (en.le l1) j1 fun b k' H' l j' p' => q b k' H' (l1.trans l) j' p'
    | true => exact q true k1 H1 l1 j1 p
theorem ww_and1 (h : WPT F C a ρ k Ψ) : WPW F C (.BoolOp .And [a] pos) ρ k Ψ := of_pw (fun X fx => pw_and1 (ptT fx)) h
theorem ww_or1 (h : WPT F C a ρ k Ψ) : WPW F C (.BoolOp .Or [a] pos) ρ k Ψ := of_pw (fun X fx => pw_or1 (ptT fx)) h
theorem wt_bool {op : BoolOp} {es : List Expr} (h : WPW F C (.BoolOp op es pos) ρ k Ψ) : WPT F C (.BoolOp op es pos) ρ k Ψ := of_pt (fun X fx => (pwW fx).pt) h
/-- .. as values -/
theorem we_and {rest : List Expr} (h : WPE F C a ρ k fun k1 d => ∃ c, d = .bool c ∧ if c = true then WPE F C (.BoolOp .And (b :: rest) pos) ρ k1 Φ else Φ k1 (.bool false)) : WPE F C (.BoolOp .And (a :: b :: rest) pos) ρ k Φ :=
  of_pe (fun X fx => pe_and (peE fx) (peE fx)) fun σ H Q en j q => h σ H _ en j fun v d k1 H1 l1 j1 r ⟨c, e, p⟩ => by
    subst e; cases r
    refine ⟨c, rfl, ?_⟩
    cases c with
    | true => exact p σ H1 Q (en.le l1) j1 fun v d k' H' l j' r' p' => q v d k' H' (l1.trans l) j' r' p'
    | false => exact q _ _ k1 H1 l1 j1 (.bl false) p
theorem we_one {op : BoolOp} (h : WPE F C a ρ k Φ) : WPE F C (.BoolOp op [a] pos) ρ k Φ := of_pe (fun X fx => pe_one (peE fx)) h
theorem we_ifExp {c : Expr} (h : WPT F C c ρ k fun k1 z => if z = true then WPE F C a ρ k1 Φ else WPE F C b ρ k1 Φ) : WPE F C (.IfExp c a b pos) ρ k Φ :=
  of_pe (fun X fx => pe_ifExp (ptT fx) (peE fx) (peE fx)) fun σ H Q en j q => h σ H _ en j fun c k1 H1 l1 j1 p => by
    cases c with
    | true => exact p σ H1 Q (en.le l1) j1 fun v d k' H' l j' r' p' => q v d k' H' (l1.trans l) j' r' p'
    | false => exact p σ H1 Q (en.le l1) j1 fun v d k' H' l j' r' p' => q v d k' H' (l1.trans l) j' r' p'
/-- arguments -/
theorem wa_nil {Φ : Nat → List PyData → Prop} (h : Φ k []) : WPA F C [] ρ k Φ := of_pa (fun X fx => pa_nil) fun σ H Q en j q => q [] [] k H .refl j .nil h
theorem wa_cons {Φ : Nat → List PyData → Prop} (hs : ∀ env : Env, starEach (e :: es) env = (false, eval e env) :: starEach es env) (h : WPE F C e ρ k fun k1 x => WPA F C es ρ k1 fun k2 xs => Φ k2 (x :: xs)) : WPA F C (e :: es) ρ k Φ :=
  of_pa (fun X fx => pa_cons (peE fx) (paA fx) (hs X.env)) fun σ H Q en j q => h σ H _ en j fun vx x k1 H1 l1 j1 r1 hx => hx σ H1 _ (en.le l1) j1 fun vs xs k2 H2 l2 j2 r2 hy =>
    q (vx :: vs) (x :: xs) k2 H2 (l1.trans l2) j2 (.cons (r1.le l2.lz) r2) hy
theorem we_tup {x1} (h : WPA F C es ρ k fun k1 ds => ds.length ≤ sizeLine ∧ Φ k1 (.tuple ds)) : WPE F C (.Tuple es x1 pos) ρ k Φ :=
  of_pe (fun X fx => pe_tup (paA fx)) fun σ H Q en j q => h σ H _ en j fun vs ds k1 H1 l1 j1 r1 ⟨hz, p⟩ => ⟨by rw [r1.length]; exact hz, fun p0 hp => q _ (.tuple ds) k1 _ (l1.trans (.new hp)) (j1.new hp) (rep_newT j1 hp r1) p⟩
theorem we_lst (h : WPA F C es ρ k fun k1 ds => ds.length ≤ sizeLine ∧ Φ k1 (.list ds)) : WPE F C (.List es pos) ρ k Φ :=
  of_pe (fun X fx => pe_lst (paA fx)) fun σ H Q en j q => h σ H _ en j fun vs ds k1 H1 l1 j1 r1 ⟨hz, p⟩ => ⟨by rw [r1.length]; exact hz, fun p0 hp => q _ (.list ds) k1 _ (l1.trans (.new hp)) (j1.new hp) (rep_newL j1 hp r1) p⟩
/-- a call of a built-in by its name -/
theorem we_cb {r : List V → Hp → VK → Prop} {ta : TA} (h : WA F ta ρ k fun k1 ds => RA F r ds k1 Φ) : WE F (tCB r ta) ρ k Φ := fun σ H Q en j q =>
  h σ H _ en j fun vs ds k1 H1 l1 j1 r1 p => p H1 vs Q j1 r1 fun v d k' H' l' j' r' p' => q v d k' H' (l1.trans l') j' r' p'
theorem we_callB {r : List V → Hp → VK → Prop} {x : Str} {id : String} {p : Pos} (hc : ∀ X, Fits C X → CallR X (.builtin id) r) (hg : C.sc.names.lookup x = some .globalImplicit) (hm : C.mg x = none) (hv : bootBuiltins x = some (.builtin id))
    (h : WPA F C (e :: es) ρ k fun k1 ds => RA F r ds k1 Φ) (hn : x ≠ "__name__" := by decide) (hdb : (x == ("__debug__" : Str)) = false := by decide) (hss : ∀ env : Env, starEach (e :: es) env = (false, eval e env) :: starEach es env := by intro _; rfl) (hpl : ∀ env : Env, ((backTo pos (starEach es env)).any fun x => x.fst) = false := by intro _; rfl) : WPE F C (.Call (.Name x p) (e :: es) [] pos) ρ k Φ :=
  of_pe (fun X fx => pe_callB (hc X fx) (by show X.env.scope.names.lookup x = _; rw [fx.sc]; exact hg) (by rw [fx.mg]; exact hm) hv (paA fx) hn hdb (hss X.env) (hpl X.env)) (we_cb h)
theorem we_callTy {r : List V → Hp → VK → Prop} {x : Str} {T : String} {p : Pos} (hc : ∀ X, Fits C X → CallR X (.type T) r) (hg : C.sc.names.lookup x = some .globalImplicit) (hm : C.mg x = none) (hv : bootBuiltins x = some (.type T))
    (h : WPA F C (e :: es) ρ k fun k1 ds => RA F r ds k1 Φ) (hn : x ≠ "__name__" := by decide) (hdb : (x == ("__debug__" : Str)) = false := by decide) (hss : ∀ env : Env, starEach (e :: es) env = (false, eval e env) :: starEach es env := by intro _; rfl) (hpl : ∀ env : Env, ((backTo pos (starEach es env)).any fun x => x.fst) = false := by intro _; rfl) : WPE F C (.Call (.Name x p) (e :: es) [] pos) ρ k Φ :=
  of_pe (fun X fx => pe_callTy (hc X fx) (by show X.env.scope.names.lookup x = _; rw [fx.sc]; exact hg) (by rw [fx.mg]; exact hm) hv (paA fx) hn hdb (hss X.env) (hpl X.env)) (we_cb h)
end
end Dl

namespace Dl
open PySem PySem.Spec PyProof.Rows L2

/-! ### statements -/
abbrev DE.seq (P : DE) (n : Nat → Rho → Prop) : DE := ⟨n, P.rt, P.bk, P.ct⟩
abbrev DE.loop (P : DE) (n : Nat → Rho → Prop) : DE := ⟨n, P.rt, P.nx, n⟩
section
variable {F : Fm} {C : Cs} {ρ : Rho} {k : Nat} {Φ Φ' : Nat → PyData → Prop} {Ψ Ψ' : Nat → Bool → Prop} {e a b : Expr} {es : List Expr} {pos : Pos} {P : DE}
theorem WS.imp {t : TS} {P' : DE} (h : WS F t ρ k P) (h1 : ∀ k ρ, P.nx k ρ → P'.nx k ρ) (h2 : ∀ k d, P.rt k d → P'.rt k d) (h3 : ∀ k ρ, P.bk k ρ → P'.bk k ρ) (h4 : ∀ k ρ, P.ct k ρ → P'.ct k ρ) : WS F t ρ k P' :=
  fun σ H E en j q1 q2 q3 q4 => h σ H E en j (fun ρ' σ' k' H' l e j' p => q1 ρ' σ' k' H' l e j' (h1 _ _ p)) (fun v d k' H' j' r p => q2 v d k' H' j' r (h2 _ _ p)) (fun ρ' σ' k' H' l e j' p => q3 ρ' σ' k' H' l e j' (h3 _ _ p)) (fun ρ' σ' k' H' l e j' p => q4 ρ' σ' k' H' l e j' (h4 _ _ p))
theorem wb_nil (h : P.nx k ρ) : WPB F C [] ρ k P := of_pb (fun X fx => pss_nil) fun σ H E en j q1 _ _ _ => q1 ρ σ k H .refl en j h
theorem wb_cons {st : Stmt} {rest : List Stmt} (h : WPS F C st ρ k (P.seq fun k1 ρ1 => WPB F C rest ρ1 k1 P)) : WPB F C (st :: rest) ρ k P :=
  of_pb (fun X fx => pss_cons (psS fx) (pbB fx)) fun σ H E en j q1 q2 q3 q4 =>
    h σ H { E with nx := tB C rest E } en j (fun ρ' σ' k' H' l en' j' p => p σ' H' E en' j' (fun ρ2 σ2 k2 H2 l2 => q1 ρ2 σ2 k2 H2 (l.trans l2)) q2 (fun ρ2 σ2 k2 H2 l2 => q3 ρ2 σ2 k2 H2 (l.trans l2)) (fun ρ2 σ2 k2 H2 l2 => q4 ρ2 σ2 k2 H2 (l.trans l2))) q2 q3 q4
theorem ws_ret (h : WPE F C e ρ k P.rt) : WPS F C (.Return (some e) pos) ρ k P := of_ps (fun X fx => ps_ret (peE fx)) fun σ H E en j _ q2 _ _ => h σ H _ en j fun v d k' H' _ j' r p => q2 v d k' H' j' r p
theorem ws_if {c : Expr} {s1 s2 : List Stmt} (h : WPT F C c ρ k fun k1 z => if z = true then WPB F C s1 ρ k1 P else WPB F C s2 ρ k1 P) : WPS F C (.If c s1 s2 pos) ρ k P :=
  of_ps (fun X fx => ps_if (ptT fx) (pbB fx) (pbB fx)) fun σ H E en j q1 q2 q3 q4 => h σ H _ en j fun z k1 H1 l1 j1 p => by
    have l := l1.lz
    cases z with
    | true => exact p σ H1 E (en.le l1) j1 (fun ρ2 σ2 k2 H2 l2 => q1 ρ2 σ2 k2 H2 (l.trans l2)) q2 (fun ρ2 σ2 k2 H2 l2 => q3 ρ2 σ2 k2 H2 (l.trans l2)) (fun ρ2 σ2 k2 H2 l2 => q4 ρ2 σ2 k2 H2 (l.trans l2))
    | false => exact p σ H1 E (en.le l1) j1 (fun ρ2 σ2 k2 H2 l2 => q1 ρ2 σ2 k2 H2 (l.trans l2)) q2 (fun ρ2 σ2 k2 H2 l2 => q3 ρ2 σ2 k2 H2 (l.trans l2)) (fun ρ2 σ2 k2 H2 l2 => q4 ρ2 σ2 k2 H2 (l.trans l2))
theorem ws_asgName {t : TE} (i : Nat) (h : WE F t ρ k fun k1 d => P.nx k1 (ρ.set i (.d d))) : WS F (tAsg t (gName i)) ρ k P := fun σ H E en j q1 _ _ _ =>
  h σ H _ en j fun v d k1 H1 l1 j1 r p => q1 _ (σ.set i (some v)) k1 H1 l1.lz ((en.le l1).set (sv := .d d) ⟨v, rfl, r⟩) j1 p
/-- what a target wants: no name twice, its place, its kind -/
structure Tgt (C : Cs) (i : Nat) (x : Str) : Prop where
  hN : C.N.Nodup
  hi : C.N[i]? = some x
  hx : Loc C.sc x
  hf : C.fn x = true ∨ C.sc.names.lookup x = some .local
theorem Tgt.pg {i : Nat} {x : Str} (t : Tgt C i x) {X : Cx} (fx : Fits C X) : PG X (.Name x pos) (gName i) :=
  pg_name (by rw [fx.N]; exact t.hN) (by rw [fx.N]; exact t.hi) (by rw [fx.sc]; exact t.hx) (by rw [fx.fn, fx.sc]; exact t.hf)
theorem ws_set (i : Nat) {x : Str} {pos' : Pos} (t : Tgt C i x) (hs : ∀ env : Env, env.scope = C.sc → swapsWith e (some (.Name x pos')) pos.line env = pure false) (h : WPE F C e ρ k fun k1 d => P.nx k1 (ρ.set i (.d d))) : WPS F C (.Assign [.Name x pos'] e pos) ρ k P :=
  of_ps (fun X fx => ps_set (by rw [fx.N]; exact t.hN) (by rw [fx.N]; exact t.hi) (by rw [fx.sc]; exact t.hx) (peE fx) (hs X.env fx.sc) (by rw [fx.fn, fx.sc]; exact t.hf)) (ws_asgName i h)
/-- a, b = a tuple -/
theorem pgTup {es : List Expr} {kk : Nat} {t : TGs} {n : Nat} {X : Cx} (fx : Fits C X) (h : PGs X es t) (hn : (assignEach es X.env).length = n) (hst : (assignEach es X.env).findIdx? (·.1) = none) : PG X (.Tuple es kk pos) (gTup C.K n t) := by
  rw [← fx.K]; exact pg_tup fx.calm h hn hst
theorem piL {X : Cx} (fx : Fits C X) {tg l : Expr} : PI X tg l (iList C.K (tE C l)) := by
  rw [← fx.K]; exact pi_list (peE fx)
theorem piT {X : Cx} (fx : Fits C X) {tg l : Expr} : PI X tg l (iTup C.K (tE C l)) := by
  rw [← fx.K]; exact pi_tup (peE fx)
theorem ws_asg2 (i1 i2 : Nat) {x1 x2 : Str} {p1 p2 p3 : Pos} {kk : Nat} (hne : i1 ≠ i2) (t1 : Tgt C i1 x1) (t2 : Tgt C i2 x2) (hK : F.K = C.K)
    (hs : ∀ env : Env, swapsWithSole [.Tuple [.Name x1 p1, .Name x2 p2] kk p3] e pos.line env = pure false) (hw : ∀ env : Env, swappedStores [.Tuple [.Name x1 p1, .Name x2 p2] kk p3] e env = pure none)
    (h : WPE F C e ρ k fun k1 d => ∃ d1 d2, d = .tuple [d1, d2] ∧ P.nx k1 ((ρ.set i1 (.d d1)).set i2 (.d d2))) : WPS F C (.Assign [.Tuple [.Name x1 p1, .Name x2 p2] kk p3] e pos) ρ k P :=
  of_ps (fun X fx => ps_asg (peE fx) (pgTup (n := 2) fx (pgs_cons (t1.pg fx) (pgs_cons (t2.pg fx) pgs_nil)) (by rfl) (by rfl)) (hs X.env) (hw X.env)) fun σ H E en j q1 _ _ _ =>
    h σ H _ en j fun v d k1 H1 l1 j1 r ⟨d1, d2, e, p⟩ => by
      subst e
      cases r with
      | tup ha hr =>
        cases hr with
        | cons r1 hr =>
          cases hr with
          | cons r2 hr =>
            cases hr
            exact ⟨_, _, rfl, hK ▸ sqt_of ha, rfl, _, _, rfl, _, _, rfl, rfl, q1 _ _ k1 H1 l1.lz (((en.le l1).set (sv := .d d1) ⟨_, rfl, r1⟩).set (sv := .d d2) ⟨_, rfl, r2⟩) j1 p⟩
/-! ### for, while -/
theorem ws_for_list (i : Nat) {x : Str} {px : Pos} {iter : Expr} {body : List Stmt} (t : Tgt C i x) (hK : F.K = C.K) (hfs : ∀ (env : Env) (v : Value), foldedSetIterable iter env v = pure v)
    (h : WPE F C iter ρ k fun k1 d => ∃ (I : Nat → Nat → Rho → Prop) (ds : List PyData), d = .list ds ∧ I 0 k1 ρ ∧ (∀ (j : Nat) (y : PyData) k' ρ', ds[j]? = some y → I j k' ρ' → WPB F C body (ρ'.set i (.d y)) k' (P.loop (I (j + 1)))) ∧ (∀ k' ρ', I ds.length k' ρ' → P.nx k' ρ')) :
    WPS F C (.For (.Name x px) iter body [] pos) ρ k P :=
  of_ps (fun X fx => ps_for (by rw [fx.xe]; exact PassesOwn.never) fx.calm (piL fx) (t.pg fx) (pbB fx) (hfs X.env)) fun σ H E en j q1 q2 q3 q4 => by
    show tE C iter σ H _
    refine h σ H _ en j fun v d k1 H1 l1 j1 r hh => ?_
    obtain ⟨I, ds, e, i0, hstep, hend⟩ := hh
    subst e
    cases r with
    | @lst a xs _ ha hr =>
    refine ⟨a, rfl, ⟨xs, hK ▸ sql_of ha⟩, ?_⟩
    have hlen : xs.length = ds.length := hr.length
    have rr : Rp F H1 (.ref a) (.list ds) := .lst ha hr
    refine for_list (xs := xs) (fun n σ' H' => ∃ k' ρ', EnvOk F H' σ' ρ' ∧ J F k' H' ∧ Lz F H1 H' ∧ I n k' ρ') ⟨k1, ρ, en.le l1, j1, .refl, i0⟩ ?_ ?_ ?_
    · rintro n σ' H' _ ⟨k', ρ', _, _, lz, _⟩
      have := sql_of (K := F.K) (⟨lz _ _ (Fm.sxA ha.2) ha.1, ha.2⟩ : H' a = some (.lst xs) ∧ ¬ F.S a)
      exact hK ▸ this
    · rintro n v σ' H' hv ⟨k', ρ', en', j', lz, ii⟩
      obtain ⟨y, hy, ry⟩ := hr.got hv
      refine hstep n y k' ρ' hy ii (σ'.set i (some v)) H' _ (en'.set (sv := .d y) ⟨v, rfl, ry.le lz⟩) j' ?_ q2 ?_ ?_
      · exact fun ρ2 σ2 k2 H2 l2 e2 j2 p => ⟨k2, ρ2, e2, j2, lz.trans l2, p⟩
      · exact fun ρ2 σ2 k2 H2 l2 e2 j2 p => q1 ρ2 σ2 k2 H2 (l1.lz.trans (lz.trans l2)) e2 j2 p
      · exact fun ρ2 σ2 k2 H2 l2 e2 j2 p => ⟨k2, ρ2, e2, j2, lz.trans l2, p⟩
    · rintro σ' H' ⟨k', ρ', en', j', lz, ii⟩
      exact q1 ρ' σ' k' H' (l1.lz.trans lz) en' j' (hend k' ρ' (hlen ▸ ii))
theorem ws_for_tup (i : Nat) {x : Str} {px : Pos} {iter : Expr} {body : List Stmt} (t : Tgt C i x) (hK : F.K = C.K) (hfs : ∀ (env : Env) (v : Value), foldedSetIterable iter env v = pure v)
    (h : WPE F C iter ρ k fun k1 d => ∃ (I : Nat → Nat → Rho → Prop) (ds : List PyData), d = .tuple ds ∧ I 0 k1 ρ ∧ (∀ (j : Nat) (y : PyData) k' ρ', ds[j]? = some y → I j k' ρ' → WPB F C body (ρ'.set i (.d y)) k' (P.loop (I (j + 1)))) ∧ (∀ k' ρ', I ds.length k' ρ' → P.nx k' ρ')) :
    WPS F C (.For (.Name x px) iter body [] pos) ρ k P :=
  of_ps (fun X fx => ps_for (by rw [fx.xe]; exact PassesOwn.never) fx.calm (piT fx) (t.pg fx) (pbB fx) (hfs X.env)) fun σ H E en j q1 q2 q3 q4 => by
    show tE C iter σ H _
    refine h σ H _ en j fun v d k1 H1 l1 j1 r hh => ?_
    obtain ⟨I, ds, e, i0, hstep, hend⟩ := hh
    subst e
    cases r with
    | @tup a xs _ ha hr =>
    refine ⟨a, rfl, ⟨xs, hK ▸ sqt_of ha⟩, ?_⟩
    have hlen : xs.length = ds.length := hr.length
    refine for_tup (xs := xs) (fun n σ' H' => ∃ k' ρ', EnvOk F H' σ' ρ' ∧ J F k' H' ∧ Lz F H1 H' ∧ I n k' ρ') ⟨k1, ρ, en.le l1, j1, .refl, i0⟩ ?_ ?_ ?_
    · rintro n σ' H' _ ⟨k', ρ', _, _, lz, _⟩
      have := sqt_of (K := F.K) (⟨lz _ _ (Fm.sxA ha.2) ha.1, ha.2⟩ : H' a = some (.tup xs) ∧ ¬ F.S a)
      exact hK ▸ this
    · rintro n v σ' H' hv ⟨k', ρ', en', j', lz, ii⟩
      obtain ⟨y, hy, ry⟩ := hr.got hv
      refine hstep n y k' ρ' hy ii (σ'.set i (some v)) H' _ (en'.set (sv := .d y) ⟨v, rfl, ry.le lz⟩) j' ?_ q2 ?_ ?_
      · exact fun ρ2 σ2 k2 H2 l2 e2 j2 p => ⟨k2, ρ2, e2, j2, lz.trans l2, p⟩
      · exact fun ρ2 σ2 k2 H2 l2 e2 j2 p => q1 ρ2 σ2 k2 H2 (l1.lz.trans (lz.trans l2)) e2 j2 p
      · exact fun ρ2 σ2 k2 H2 l2 e2 j2 p => ⟨k2, ρ2, e2, j2, lz.trans l2, p⟩
    · rintro σ' H' ⟨k', ρ', en', j', lz, ii⟩
      exact q1 ρ' σ' k' H' (l1.lz.trans lz) en' j' (hend k' ρ' (hlen ▸ ii))
end

/-! ### comprehensions -/
def Fm.ext (F : Fm) (D : Addr) : Fm := { F with S := fun b => F.S b ∨ b = D, ms := fun b h => .inl (F.ms b h) }
section
variable {F : Fm} {C : Cs} {ρ : Rho} {k : Nat} {H H1 : Hp} {D : Addr} {σ : L2.St}
theorem J.ext (j : J F k H) (h : Lv H D) : J (F.ext D) k H := ⟨j.g, j.le, fun b hb => hb.elim (j.al b) fun e => e ▸ h⟩
theorem J.unext (j : J (F.ext D) k H) : J F k H := ⟨j.g, j.le, fun b hb => j.al b (.inl hb)⟩
theorem Rep.unext {v : V} {d : PyData} (r : Rp (F.ext D) H v d) : Rp F H v d := Rep.keep (S := (F.ext D).S) (S' := F.S) (fun _ _ _ e => e) (fun b _ z => .inl z) d v r
theorem RepAll.unext {v : List V} {d : List PyData} (r : RpAll (F.ext D) H v d) : RpAll F H v d := RepAll.keep (S := (F.ext D).S) (S' := F.S) (fun _ _ _ e => e) (fun b _ z => .inl z) d v r
theorem Rep.ext {o : HO} {v : V} {d : PyData} (r : Rp F H v d) (h : H D = none) : Rp (F.ext D) (upd H D o) v d :=
  Rep.keep (S := F.S) (S' := (F.ext D).S) (fun b u _ e => by rw [upd_ne (ne_of_none e h)]; exact e) (fun b hb z => z.elim id fun e => absurd (e ▸ h) hb) d v r
theorem RepAll.ext {o : HO} {v : List V} {d : List PyData} (r : RpAll F H v d) (h : H D = none) : RpAll (F.ext D) (upd H D o) v d :=
  RepAll.keep (S := F.S) (S' := (F.ext D).S) (fun b u _ e => by rw [upd_ne (ne_of_none e h)]; exact e) (fun b hb z => z.elim id fun e => absurd (e ▸ h) hb) d v r
theorem EnvOk.ext {o : HO} (en : EnvOk F H σ ρ) (h : H D = none) : EnvOk (F.ext D) (upd H D o) σ ρ := fun i sv e => by
  obtain ⟨x, q, r⟩ := en i sv e
  refine ⟨x, q, ?_⟩
  cases sv with
  | un => trivial
  | d d => obtain ⟨v, e, r⟩ := r; exact ⟨v, e, r.ext h⟩
  | raw v => exact r
  | own o xs =>
    obtain ⟨e, s, m, z, vs, h1, r⟩ := r
    exact ⟨e, .inl s, m, z, vs, by rw [upd_ne (ne_of_none h1 h)]; exact h1, r.ext h⟩
/-- the new list at D changes: the rest is as it was -/
theorem EnvOk.at {o : HO} (en : EnvOk (F.ext D) H σ ρ) (hne : ∀ (i : Nat) o xs, ρ[i]? = some (SV.own o xs) → o ≠ D) : EnvOk (F.ext D) (upd H D o) σ ρ := fun i sv e => by
  obtain ⟨x, q, r⟩ := en i sv e
  have lz : ∀ b u, ¬ (F.ext D).S b → H b = some u → (upd H D o) b = some u := fun b u hb e => by rw [upd_ne fun z => hb (.inr z)]; exact e
  refine ⟨x, q, ?_⟩
  cases sv with
  | un => trivial
  | d d => obtain ⟨v, e, r⟩ := r; exact ⟨v, e, Rep.keep lz (fun _ _ z => z) _ _ r⟩
  | raw v => exact r
  | own o' xs =>
    obtain ⟨e, s, m, z, vs, h1, r⟩ := r
    exact ⟨e, s, m, z, vs, by rw [upd_ne (hne _ _ _ ‹_›)]; exact h1, RepAll.keep lz (fun _ _ z => z) _ _ r⟩
end
end Dl

namespace Dl
open PySem PySem.Spec PyProof.Rows L2
section
variable {F : Fm} {C : Cs} {ρ : Rho} {k : Nat} {H H1 : Hp} {D : Addr} {σ : L2.St} {Φ : Nat → PyData → Prop}
def LeD (F : Fm) (D : Addr) (H H' : Hp) : Prop := ∀ b o, ¬ F.Mx b o → b ≠ D → H b = some o → H' b = some o
theorem LeD.refl : LeD F D H H := fun _ _ _ _ e => e
theorem LeD.trans {H2 : Hp} (a : LeD F D H H1) (b : LeD F D H1 H2) : LeD F D H H2 := fun x o n m e => b x o n m (a x o n m e)
theorem Le.ld (a : Le F H H1) : LeD F D H H1 := fun b o n _ e => a b o n e
theorem LeD.lz (a : LeD F D H H1) (hs : F.S D) : Lz F H H1 := fun b o n e => a b o (fun z => n (z.imp (F.ms b) id)) (fun z => n (.inl (z ▸ hs))) e
theorem EnvOk.ld (en : EnvOk F H σ ρ) (a : LeD F D H H1) (hs : F.S D) (hne : ∀ (i : Nat) o xs, ρ[i]? = some (SV.own o xs) → o ≠ D) : EnvOk F H1 σ ρ := fun i sv e => by
  obtain ⟨x, q, r⟩ := en i sv e
  refine ⟨x, q, ?_⟩
  cases sv with
  | un => trivial
  | d d => obtain ⟨v, e, r⟩ := r; exact ⟨v, e, r.le (a.lz hs)⟩
  | raw v => exact r
  | own o' xs =>
    obtain ⟨e', s, m, z, vs, h1, r⟩ := r
    exact ⟨e', s, m, z, vs, a o' _ (Fm.mxA m) (hne _ _ _ e) h1, r.le (a.lz hs)⟩
theorem lc_turn {tt : TT} {te : TE} {ρ2 : Rho} {σ2 : L2.St} {vs : List V} {acc : List PyData} {I : Nat → List PyData → Prop} {Nx : Hp → Prop} (hM : ¬ F.M D) (hS : F.S D) (h0 : F.H0 D = none)
    (en : EnvOk F H σ2 ρ2) (j : J F k H) (hd : H D = some (.lst vs)) (ra : RpAll F H vs acc) (hz : acc.length < sizeLine)
    (body : WT F tt ρ2 k fun k1 b => if b = true then WE F te ρ2 k1 fun k2 y => I k2 (acc ++ [y]) else I k1 acc)
    (nx : ∀ H' k' vs' acc', acc'.length ≤ acc.length + 1 → LeD F D H H' → H' D = some (.lst vs') → RpAll F H' vs' acc' → J F k' H' → I k' acc' → Nx H') :
    tt σ2 H fun b H3 => if b = true then te σ2 H3 fun y H4 => ∃ acc, H4 D = some (.lst acc) ∧ acc.length < sizeLine ∧ Nx (upd H4 D (.lst (acc ++ [y]))) else Nx H3 := by
  refine body σ2 H _ en j fun b k1 H3 l3 j3 p => ?_
  cases b with
  | false => exact nx H3 k1 vs acc (Nat.le_succ _) l3.ld (l3 D _ (Fm.mxA hM) hd) (ra.le l3.lz) j3 p
  | true =>
    refine p σ2 H3 _ (en.le l3) j3 fun v y k2 H4 l4 j4 r4 q => ?_
    have hd4 : H4 D = some (.lst vs) := l4 D _ (Fm.mxA hM) (l3 D _ (Fm.mxA hM) hd)
    refine ⟨vs, hd4, by rw [ra.length]; exact hz, nx _ k2 _ _ (by rw [List.length_append]; exact Nat.le_refl _) ?_ upd_same ?_ (j4.own hM h0 (pl_lst hd4)) q⟩
    · exact fun b o n m e => by rw [upd_ne m]; exact l4 b o n (l3 b o n e)
    · have lz : Lz F H4 (upd H4 D (.lst (vs ++ [v]))) := fun b o n e => by rw [upd_ne (show b ≠ D from fun z => n (.inl (by rw [z]; exact hS)))]; exact e
      exact (((ra.le l3.lz).le l4.lz).le lz).append (.cons (r4.le lz) .nil)
theorem set_wipe {i : Nat} {x : V} (σ : L2.St) : (wipe σ [i]).set i (some x) = σ.set i (some x) := by
  show (σ.set i none).set i (some x) = _
  rw [List.set_set]
theorem wipe_set {i : Nat} {x : V} (σ : L2.St) : wipe (σ.set i (some x)) [i] = wipe σ [i] := by
  show (σ.set i (some x)).set i none = σ.set i none
  rw [List.set_set]
theorem we_lcL (i : Nat) {tl : TE} {K : PySem.W.Frag} (hK : F.K = K) {tt : TT} {te : TE}
    (h : WE F tl ρ k fun k1 d => ∃ (I : Nat → Nat → List PyData → Prop) (ds : List PyData), d = .list ds ∧ ds.length ≤ 1000000 ∧ I 0 k1 [] ∧ (∀ D (j : Nat) (y : PyData) k' acc, ds[j]? = some y → I j k' acc → WT (F.ext D) tt (ρ.set i (.d y)) k' fun k1 b => if b = true then WE (F.ext D) te (ρ.set i (.d y)) k1 fun k2 z => I (j + 1) k2 (acc ++ [z]) else I (j + 1) k1 acc) ∧ (∀ k' acc, I ds.length k' acc → Φ k' (.list acc))) : WE F (tLc (iList K tl) (gName i) tt te [i]) ρ k Φ := fun σ H Q en j q => by
  show tl σ H _
  refine h σ H _ en j fun v d k1 H1 l1 j1 r hh => ?_
  obtain ⟨I, ds, e, hz, i0, hstep, hend⟩ := hh
  subst e
  cases r with
  | @lst a xs _ ha hr =>
  refine ⟨a, rfl, ⟨xs, hK ▸ sql_of ha⟩, fun D hD => ?_⟩
  have hlen : xs.length = ds.length := hr.length
  have en1 := en.le l1
  have hM : ¬ F.M D := fun z => F.gl _ _ j1.g D z hD
  have hS : ¬ F.S D := j1.fresh hD
  have h0 : F.H0 D = none := j1.h0 hM hD
  have hne : ∀ (i : Nat) o xs, ρ[i]? = some (SV.own o xs) → o ≠ D := fun i o xs e => by
    obtain ⟨x, _, s⟩ := en1 i _ e
    obtain ⟨_, _, _, _, vs, h1, _⟩ := s
    exact ne_of_none h1 hD
  have rr : Rp (F.ext D) (upd H1 D (.lst [])) (.ref a) (.list ds) := Rep.ext (.lst ha hr) hD
  cases rr with
  | @lst _ xs' _ ha' hr' =>
  have exs : True := trivial
  refine lc_list (xs := xs') (fun n H' => ∃ k' vs acc, acc.length ≤ n ∧ EnvOk (F.ext D) H' σ ρ ∧ J (F.ext D) k' H' ∧ LeD (F.ext D) D (upd H1 D (.lst [])) H' ∧ H' D = some (.lst vs) ∧ RpAll (F.ext D) H' vs acc ∧ I n k' acc)
    ⟨k1, [], [], Nat.le_refl _, en1.ext hD, (j1.new hD).ext (lv_new fun _ z => nomatch z), .refl, upd_same, .nil, i0⟩ ?_ ?_ ?_
  · rintro n H' _ ⟨k', vs, acc, _, _, _, ld, _⟩
    have := sql_of (K := F.K) (H := H') (S := (F.ext D).S) ⟨ld.lz (.inr rfl) _ _ (Fm.sxA ha'.2) ha'.1, ha'.2⟩
    exact hK ▸ this
  · rintro n v H' hv ⟨k', vs, acc, hle, en', j', ld, hd, ra, ii⟩
    obtain ⟨y, hy, ry⟩ := hr'.got hv
    show (wipe ((wipe σ [i]).set i (some v)) [i] = wipe σ [i] ∧ _)
    rw [set_wipe]
    refine ⟨wipe_set σ, ?_⟩
    have hn : n < ds.length := (List.getElem?_eq_some_iff.mp hy).1
    refine lc_turn (F := F.ext D) (I := fun k acc => I (n + 1) k acc) hM (.inr rfl) h0 (en'.set (sv := .d y) ⟨v, rfl, ry.le (ld.lz (.inr rfl))⟩) j' hd ra (Nat.lt_of_le_of_lt (show acc.length ≤ 1000000 by omega) (by decide)) (hstep D n y k' acc hy ii) fun H2 k2 vs2 acc2 hl2 ld2 hd2 ra2 j2 i2 => ?_
    exact ⟨k2, vs2, acc2, by omega, en'.ld ld2 (.inr rfl) hne, j2, ld.trans ld2, hd2, ra2, i2⟩
  · rintro H' ⟨k', vs, acc, hle, en', j', ld, hd, ra, ii⟩
    refine q (.ref D) (.list acc) k' H' ?_ j'.unext (.lst ⟨hd, hS⟩ ra.unext) (hend k' acc (by rw [← hr'.length]; exact ii))
    exact fun b o n e => ld b o n (ne_of_none (l1 b o n e) hD) (by rw [upd_ne (ne_of_none (l1 b o n e) hD)]; exact l1 b o n e)
theorem we_lcT (i : Nat) {tl : TE} {K : PySem.W.Frag} (hK : F.K = K) {tt : TT} {te : TE}
    (h : WE F tl ρ k fun k1 d => ∃ (I : Nat → Nat → List PyData → Prop) (ds : List PyData), d = .tuple ds ∧ ds.length ≤ 1000000 ∧ I 0 k1 [] ∧ (∀ D (j : Nat) (y : PyData) k' acc, ds[j]? = some y → I j k' acc → WT (F.ext D) tt (ρ.set i (.d y)) k' fun k1 b => if b = true then WE (F.ext D) te (ρ.set i (.d y)) k1 fun k2 z => I (j + 1) k2 (acc ++ [z]) else I (j + 1) k1 acc) ∧ (∀ k' acc, I ds.length k' acc → Φ k' (.list acc))) : WE F (tLc (iTup K tl) (gName i) tt te [i]) ρ k Φ := fun σ H Q en j q => by
  show tl σ H _
  refine h σ H _ en j fun v d k1 H1 l1 j1 r hh => ?_
  obtain ⟨I, ds, e, hz, i0, hstep, hend⟩ := hh
  subst e
  cases r with
  | @tup a xs _ ha hr =>
  refine ⟨a, rfl, ⟨xs, hK ▸ sqt_of ha⟩, fun D hD => ?_⟩
  have hlen : xs.length = ds.length := hr.length
  have en1 := en.le l1
  have hM : ¬ F.M D := fun z => F.gl _ _ j1.g D z hD
  have hS : ¬ F.S D := j1.fresh hD
  have h0 : F.H0 D = none := j1.h0 hM hD
  have hne : ∀ (i : Nat) o xs, ρ[i]? = some (SV.own o xs) → o ≠ D := fun i o xs e => by
    obtain ⟨x, _, s⟩ := en1 i _ e
    obtain ⟨_, _, _, _, vs, h1, _⟩ := s
    exact ne_of_none h1 hD
  have rr : Rp (F.ext D) (upd H1 D (.lst [])) (.ref a) (.tuple ds) := Rep.ext (.tup ha hr) hD
  cases rr with
  | @tup _ xs' _ ha' hr' =>
  have exs : True := trivial
  refine lc_tup (xs := xs') (fun n H' => ∃ k' vs acc, acc.length ≤ n ∧ EnvOk (F.ext D) H' σ ρ ∧ J (F.ext D) k' H' ∧ LeD (F.ext D) D (upd H1 D (.lst [])) H' ∧ H' D = some (.lst vs) ∧ RpAll (F.ext D) H' vs acc ∧ I n k' acc)
    ⟨k1, [], [], Nat.le_refl _, en1.ext hD, (j1.new hD).ext (lv_new fun _ z => nomatch z), .refl, upd_same, .nil, i0⟩ ?_ ?_ ?_
  · rintro n H' _ ⟨k', vs, acc, _, _, _, ld, _⟩
    have := sqt_of (K := F.K) (H := H') (S := (F.ext D).S) ⟨ld.lz (.inr rfl) _ _ (Fm.sxA ha'.2) ha'.1, ha'.2⟩
    exact hK ▸ this
  · rintro n v H' hv ⟨k', vs, acc, hle, en', j', ld, hd, ra, ii⟩
    obtain ⟨y, hy, ry⟩ := hr'.got hv
    show (wipe ((wipe σ [i]).set i (some v)) [i] = wipe σ [i] ∧ _)
    rw [set_wipe]
    refine ⟨wipe_set σ, ?_⟩
    have hn : n < ds.length := (List.getElem?_eq_some_iff.mp hy).1
    refine lc_turn (F := F.ext D) (I := fun k acc => I (n + 1) k acc) hM (.inr rfl) h0 (en'.set (sv := .d y) ⟨v, rfl, ry.le (ld.lz (.inr rfl))⟩) j' hd ra (Nat.lt_of_le_of_lt (show acc.length ≤ 1000000 by omega) (by decide)) (hstep D n y k' acc hy ii) fun H2 k2 vs2 acc2 hl2 ld2 hd2 ra2 j2 i2 => ?_
    exact ⟨k2, vs2, acc2, by omega, en'.ld ld2 (.inr rfl) hne, j2, ld.trans ld2, hd2, ra2, i2⟩
  · rintro H' ⟨k', vs, acc, hle, en', j', ld, hd, ra, ii⟩
    refine q (.ref D) (.list acc) k' H' ?_ j'.unext (.lst ⟨hd, hS⟩ ra.unext) (hend k' acc (by rw [← hr'.length]; exact ii))
    exact fun b o n e => ld b o n (ne_of_none (l1 b o n e) hD) (by rw [upd_ne (ne_of_none (l1 b o n e) hD)]; exact l1 b o n e)
theorem we_lcR (i : Nat) {tl : TE} {tt : TT} {te : TE}
    (h : WE F tl ρ k fun k1 d => ∃ (I : Nat → Nat → List PyData → Prop) (z : Int), d = .int z ∧ -(2 ^ 62) ≤ z ∧ z ≤ 1000000 ∧ I 0 k1 [] ∧ (∀ D (j : Nat) k' acc, j < z.toNat → I j k' acc → WT (F.ext D) tt (ρ.set i (.d (.int j))) k' fun k1 b => if b = true then WE (F.ext D) te (ρ.set i (.d (.int j))) k1 fun k2 z => I (j + 1) k2 (acc ++ [z]) else I (j + 1) k1 acc) ∧ (∀ k' acc, I z.toNat k' acc → Φ k' (.list acc))) : WE F (tLc (iRng1 (tCons tl tNil)) (gName i) tt te [i]) ρ k Φ := fun σ H Q en j q => by
  show tl σ H _
  refine h σ H _ en j fun v d k1 H1 l1 j1 r hh => ?_
  obtain ⟨I, z, e, z1, z2, i0, hstep, hend⟩ := hh
  subst e
  cases r
  refine ⟨z, rfl, z1, by omega, fun D hD => ?_⟩
  have en1 := en.le l1
  have hM : ¬ F.M D := fun z => F.gl _ _ j1.g D z hD
  have hS : ¬ F.S D := j1.fresh hD
  have h0 : F.H0 D = none := j1.h0 hM hD
  have hne : ∀ (i : Nat) o xs, ρ[i]? = some (SV.own o xs) → o ≠ D := fun i o xs e => by
    obtain ⟨x, _, s⟩ := en1 i _ e
    obtain ⟨_, _, _, _, vs, h1, _⟩ := s
    exact ne_of_none h1 hD
  refine lc_range (lo := 0) (n := z.toNat) (fun n H' => ∃ k' vs acc, acc.length ≤ n ∧ EnvOk (F.ext D) H' σ ρ ∧ J (F.ext D) k' H' ∧ LeD (F.ext D) D (upd H1 D (.lst [])) H' ∧ H' D = some (.lst vs) ∧ RpAll (F.ext D) H' vs acc ∧ I n k' acc)
    ⟨k1, [], [], Nat.le_refl _, en1.ext hD, (j1.new hD).ext (lv_new fun _ z => nomatch z), .refl, upd_same, .nil, i0⟩ ?_ ?_
  · rintro n H' hn ⟨k', vs, acc, hle, en', j', ld, hd, ra, ii⟩
    rw [Int.zero_add]
    show (wipe ((wipe σ [i]).set i (some (.int n))) [i] = wipe σ [i] ∧ _)
    rw [set_wipe]
    refine ⟨wipe_set σ, ?_⟩
    refine lc_turn (F := F.ext D) (I := fun k acc => I (n + 1) k acc) hM (.inr rfl) h0 (en'.set (sv := .d (.int n)) ⟨_, rfl, .int n⟩) j' hd ra (Nat.lt_of_le_of_lt (show acc.length ≤ 1000000 by omega) (by decide)) (hstep D n k' acc hn ii) fun H2 k2 vs2 acc2 hl2 ld2 hd2 ra2 j2 i2 => ?_
    exact ⟨k2, vs2, acc2, by omega, en'.ld ld2 (.inr rfl) hne, j2, ld.trans ld2, hd2, ra2, i2⟩
  · rintro H' ⟨k', vs, acc, hle, en', j', ld, hd, ra, ii⟩
    refine q (.ref D) (.list acc) k' H' ?_ j'.unext (.lst ⟨hd, hS⟩ ra.unext) (hend k' acc ii)
    exact fun b o n e => ld b o n (ne_of_none (l1 b o n e) hD) (by rw [upd_ne (ne_of_none (l1 b o n e) hD)]; exact l1 b o n e)

theorem wt_yes {Ψ : Nat → Bool → Prop} (h : Ψ k true) : WT F tYes ρ k Ψ := fun σ H Q en j q => q true k H .refl j h
end
/-! comprehensions as expressions, as values given to a name -/
section
variable {F : Fm} {C : Cs} {ρ : Rho} {k : Nat} {Φ : Nat → PyData → Prop} {P : DE} {pos spos : Pos} {elt iter : Expr} {scope : Scope} {i : Nat} {x : Str} {px : Pos}
/-- what a comprehension's block wants: its own name at the place i -/
structure Blk (C : Cs) (scope : Scope) (i : Nat) (x : Str) : Prop where
  ok : BlkOk C.N C.sc scope [(x, i)]
  t : Tgt (C.blk scope) i x
theorem pe_lcX {X : Cx} (fx : Fits C X) (b : Blk C scope i x) {ifs : List Expr} {wi : TI} {tt : TT} (hi : PI X (.Name x px) iter wi) (ht : ∀ X', Fits (C.blk scope) X' → PTs X' ifs tt) (hs : ∀ (env : Env) (v : Value), foldedSetIterable iter env v = pure v) :
    PE X (.ListComp elt [⟨.Name x px, iter, ifs, 0⟩] scope pos) (tLc wi (gName i) tt (tE (C.blk scope) elt) [i]) :=
  pe_lc (own := [(x, i)]) fx.calm (by rw [fx.N]; exact b.t.hN) hi (by rw [fx.N, fx.sc]; exact b.ok) (fun s H a cl fp => b.t.pg (fx.blk s H scope a cl fp)) (fun s H a cl fp => ht _ (fx.blk s H scope a cl fp)) (fun s H a cl fp => peE (fx.blk s H scope a cl fp)) (hs X.env)
theorem we_compL0 (i : Nat) {x : Str} {px : Pos} (b : Blk C scope i x) (hK : F.K = C.K) (hfs : ∀ (env : Env) (v : Value), foldedSetIterable iter env v = pure v)
    (h : WPE F C iter ρ k fun k1 d => ∃ (I : Nat → Nat → List PyData → Prop) (ds : List PyData), d = .list ds ∧ ds.length ≤ 1000000 ∧ I 0 k1 [] ∧ (∀ D (j : Nat) (y : PyData) k' acc, ds[j]? = some y → I j k' acc → WPE (F.ext D) (C.blk scope) elt (ρ.set i (.d y)) k' fun k2 z => I (j + 1) k2 (acc ++ [z])) ∧ (∀ k' acc, I ds.length k' acc → Φ k' (.list acc))) : WPE F C (.ListComp elt [⟨.Name x px, iter, [], 0⟩] scope pos) ρ k Φ :=
  of_pe (fun X fx => pe_lcX fx b (piL fx) (fun _ _ => pts_nil) hfs) (we_lcL i hK (h.imp fun k1 d ⟨I, ds, e, hz, i0, hs, he⟩ => ⟨I, ds, e, hz, i0, fun D j y k' acc hy ii => wt_yes (by rw [if_pos rfl]; exact hs D j y k' acc hy ii), he⟩))
theorem we_compL1 (i : Nat) {x : Str} {px : Pos} {c : Expr} (b : Blk C scope i x) (hK : F.K = C.K) (hfs : ∀ (env : Env) (v : Value), foldedSetIterable iter env v = pure v)
    (h : WPE F C iter ρ k fun k1 d => ∃ (I : Nat → Nat → List PyData → Prop) (ds : List PyData), d = .list ds ∧ ds.length ≤ 1000000 ∧ I 0 k1 [] ∧ (∀ D (j : Nat) (y : PyData) k' acc, ds[j]? = some y → I j k' acc → WPT (F.ext D) (C.blk scope) c (ρ.set i (.d y)) k' fun k1 b => if b = true then WPE (F.ext D) (C.blk scope) elt (ρ.set i (.d y)) k1 fun k2 z => I (j + 1) k2 (acc ++ [z]) else I (j + 1) k1 acc) ∧ (∀ k' acc, I ds.length k' acc → Φ k' (.list acc))) : WPE F C (.ListComp elt [⟨.Name x px, iter, [c], 0⟩] scope pos) ρ k Φ :=
  of_pe (fun X fx => pe_lcX fx b (piL fx) (fun X' fx' => pts_one (ptT fx')) hfs) (we_lcL i hK h)
theorem we_compT0 (i : Nat) {x : Str} {px : Pos} (b : Blk C scope i x) (hK : F.K = C.K) (hfs : ∀ (env : Env) (v : Value), foldedSetIterable iter env v = pure v)
    (h : WPE F C iter ρ k fun k1 d => ∃ (I : Nat → Nat → List PyData → Prop) (ds : List PyData), d = .tuple ds ∧ ds.length ≤ 1000000 ∧ I 0 k1 [] ∧ (∀ D (j : Nat) (y : PyData) k' acc, ds[j]? = some y → I j k' acc → WPE (F.ext D) (C.blk scope) elt (ρ.set i (.d y)) k' fun k2 z => I (j + 1) k2 (acc ++ [z])) ∧ (∀ k' acc, I ds.length k' acc → Φ k' (.list acc))) : WPE F C (.ListComp elt [⟨.Name x px, iter, [], 0⟩] scope pos) ρ k Φ :=
  of_pe (fun X fx => pe_lcX fx b (piT fx) (fun _ _ => pts_nil) hfs) (we_lcT i hK (h.imp fun k1 d ⟨I, ds, e, hz, i0, hs, he⟩ => ⟨I, ds, e, hz, i0, fun D j y k' acc hy ii => wt_yes (by rw [if_pos rfl]; exact hs D j y k' acc hy ii), he⟩))
theorem we_compT1 (i : Nat) {x : Str} {px : Pos} {c : Expr} (b : Blk C scope i x) (hK : F.K = C.K) (hfs : ∀ (env : Env) (v : Value), foldedSetIterable iter env v = pure v)
    (h : WPE F C iter ρ k fun k1 d => ∃ (I : Nat → Nat → List PyData → Prop) (ds : List PyData), d = .tuple ds ∧ ds.length ≤ 1000000 ∧ I 0 k1 [] ∧ (∀ D (j : Nat) (y : PyData) k' acc, ds[j]? = some y → I j k' acc → WPT (F.ext D) (C.blk scope) c (ρ.set i (.d y)) k' fun k1 b => if b = true then WPE (F.ext D) (C.blk scope) elt (ρ.set i (.d y)) k1 fun k2 z => I (j + 1) k2 (acc ++ [z]) else I (j + 1) k1 acc) ∧ (∀ k' acc, I ds.length k' acc → Φ k' (.list acc))) : WPE F C (.ListComp elt [⟨.Name x px, iter, [c], 0⟩] scope pos) ρ k Φ :=
  of_pe (fun X fx => pe_lcX fx b (piT fx) (fun X' fx' => pts_one (ptT fx')) hfs) (we_lcT i hK h)
theorem we_compR0 (i : Nat) {x : Str} {px : Pos} (b : Blk C scope i x) {e : Expr} {pr pr2 : Pos} (hg : C.sc.names.lookup ("range" : Str) = some .globalImplicit) (hm : C.mg ("range" : Str) = none) (hse : ∀ env : Env, starEach [e] env = [(false, eval e env)]) (hfs : ∀ (env : Env) (v : Value), foldedSetIterable (.Call (.Name "range" pr) [e] [] pr2) env v = pure v)
    (h : WPE F C e ρ k fun k1 d => ∃ (I : Nat → Nat → List PyData → Prop) (z : Int), d = .int z ∧ -(2 ^ 62) ≤ z ∧ z ≤ 1000000 ∧ I 0 k1 [] ∧ (∀ D (j : Nat) k' acc, j < z.toNat → I j k' acc → WPE (F.ext D) (C.blk scope) elt (ρ.set i (.d (.int j))) k' fun k2 z => I (j + 1) k2 (acc ++ [z])) ∧ (∀ k' acc, I z.toNat k' acc → Φ k' (.list acc))) : WPE F C (.ListComp elt [⟨.Name x px, (.Call (.Name "range" pr) [e] [] pr2), [], 0⟩] scope pos) ρ k Φ :=
  of_pe (fun X fx => pe_lcX fx b (pi_range1 (by show X.env.scope.names.lookup ("range" : Str) = _; rw [fx.sc]; exact hg) (by rw [fx.mg]; exact hm) (pa_cons (peE fx) pa_nil (hse X.env)) (hse X.env)) (fun _ _ => pts_nil) hfs) (we_lcR i (h.imp fun k1 d ⟨I, z, e, z1, z2, i0, hs, he⟩ => ⟨I, z, e, z1, z2, i0, fun D j k' acc hj ii => wt_yes (by rw [if_pos rfl]; exact hs D j k' acc hj ii), he⟩))
theorem we_compR1 (i : Nat) {x : Str} {px : Pos} {c : Expr} (b : Blk C scope i x) {e : Expr} {pr pr2 : Pos} (hg : C.sc.names.lookup ("range" : Str) = some .globalImplicit) (hm : C.mg ("range" : Str) = none) (hse : ∀ env : Env, starEach [e] env = [(false, eval e env)]) (hfs : ∀ (env : Env) (v : Value), foldedSetIterable (.Call (.Name "range" pr) [e] [] pr2) env v = pure v)
    (h : WPE F C e ρ k fun k1 d => ∃ (I : Nat → Nat → List PyData → Prop) (z : Int), d = .int z ∧ -(2 ^ 62) ≤ z ∧ z ≤ 1000000 ∧ I 0 k1 [] ∧ (∀ D (j : Nat) k' acc, j < z.toNat → I j k' acc → WPT (F.ext D) (C.blk scope) c (ρ.set i (.d (.int j))) k' fun k1 b => if b = true then WPE (F.ext D) (C.blk scope) elt (ρ.set i (.d (.int j))) k1 fun k2 z => I (j + 1) k2 (acc ++ [z]) else I (j + 1) k1 acc) ∧ (∀ k' acc, I z.toNat k' acc → Φ k' (.list acc))) : WPE F C (.ListComp elt [⟨.Name x px, (.Call (.Name "range" pr) [e] [] pr2), [c], 0⟩] scope pos) ρ k Φ :=
  of_pe (fun X fx => pe_lcX fx b (pi_range1 (by show X.env.scope.names.lookup ("range" : Str) = _; rw [fx.sc]; exact hg) (by rw [fx.mg]; exact hm) (pa_cons (peE fx) pa_nil (hse X.env)) (hse X.env)) (fun X' fx' => pts_one (ptT fx')) hfs) (we_lcR i h)
end
end Dl

namespace Dl
open PySem PySem.Spec PyProof.Rows L2

/-! ### defs whose promise holds where no repr is under way -/
structure FnG (P : Program) (w : World) (K : PySem.W.Frag) (mg : Str → Option Value) (base : Heap) (k : Nat) (f : Addr) (fd : FuncData) (ps : List Str) (sp : Sp) : Prop where
  len : ∀ vs H Q E, sp vs H Q E → vs.length = ps.length
  run : ∀ (A : Around) (outer : List Env) (s : Shared) (H : Hp) (args : Args) (us : List Value) (vs : List V) (Q : VK), A.guards = some [] → Room k A → Env0 P w K mg base A outer s H → BindsTo s fd args (ps.zip us) → Vals vs us → sp vs H Q E0 →
    codeAny (model P w) A (.call (.ref f) args) (CR CX0 outer P w H s Q E0) s
section
variable {P : Program} {w : World} {K : PySem.W.Frag} {mg : Str → Option Value} {base : Heap}
theorem FnG.of_body {x qual : Str} {st : Stmt} {f : Addr} {fd : FuncData} {N ps : List Str} {k : Nat} {sp : Sp} (Fn : Fun K x qual st f fd) (Sc : FnScope N ps (defScope st)) (len : ∀ vs H Q E, sp vs H Q E → vs.length = ps.length)
    (body : ∀ (cdv : Value) (A : Around) (outer : List Env) (s : Shared) (H : Hp) (vs : List V) (Q : VK), A.guards = some [] → Room k (A.deeper (envOfC qual (defScope st) s.heap.objs.size f cdv)) → sp vs H Q E0 →
      ∃ t, PSs (cxOf CX0 P w K mg base N qual (defScope st) f cdv A outer s H E0).nox (defBody st) t ∧ t { nx := fun _ H' => Q .non H', rt := Q } (L2.start N vs) H) :
    FnG P w K mg base (k + 1) f fd ps sp := by
  obtain ⟨oc, od, kV, doc, pm, an, cdv, ct, osl, efd, look, hcode⟩ := Fn.ex
  subst efd
  constructor
  · exact len
  intro A outer s H args us vs Q hgd room env hbind rel hsp
  have hlen := len vs H Q E0 hsp
  have inK : K.In s.heap := env.mod.kin.keeps fun b o z => (env.bs b o z).1
  have nolim : s.heap.NoLimit := env.mod.nolimit.keeps fun b o z => (env.bs b o z).1
  refine codeAny_call_function room.depth (inK f _ look) rfl Sc.co Sc.gen rfl (PySem.W.codeRec_of inK hcode) (hbind _ _ _ _ ?_)
  have kinds : ∀ y ∈ ps.zip us, (defScope st).names.lookup y.1 = some .local ∨ ((defScope st).names.lookup y.1 = some .cell ∧ ((cellsFrom (s.heap.objs.size + 1) (defScope st).names []).lookup y.1).isSome = true) := by
    rintro ⟨n, v⟩ hy
    have hn : n ∈ ps := (List.of_mem_zip hy).1
    cases Sc.par n hn with
    | inl q => left; exact q
    | inr q => right; exact ⟨q, PySem.W.cellsFrom_some _ _ _ (Or.inl q)⟩
  apply wpAny_newFunctionEnv_cells Sc.kind kinds
  intro env' he s1 ic
  subst he
  refine ⟨nolim.keeps ic.toInCall.keep, codeAny_func ?_⟩
  obtain ⟨t, ht, hq⟩ := body cdv A outer s H vs Q hgd (room.deeper _) hsp
  have inv : Inv (cxOf CX0 P w K mg base N qual (defScope st) f cdv A outer s H E0) [] (L2.start N vs) H s1 := inv_start Sc room.hd env hlen rel ic
  refine wpAny_mono (ht.nox.run [] s1 _ H _ inv hq) ?_ (fun e s' z => z)
  intro fl s' hfl
  cases fl with
  | ret u => exact let ⟨v, _, H', j, rv, q⟩ := hfl; ⟨v, H', j.os, j.bare, j.base, j.hok, rv, q⟩
  | next => exact let ⟨_, H', j, q⟩ := hfl; ⟨V.non, H', j.os, j.bare, j.base, j.hok, rfl, q⟩
  | brk => exact let ⟨_, _, _, q⟩ := hfl; False.elim q
  | cont => exact let ⟨_, _, _, q⟩ := hfl; False.elim q
theorem FnG.mono {j k : Nat} {f : Addr} {fd : FuncData} {ps : List Str} {sp : Sp} (G : FnG P w K mg base j f fd ps sp) (h : j ≤ k) : FnG P w K mg base k f fd ps sp :=
  ⟨G.len, fun A outer s H args us vs Q g room => G.run A outer s H args us vs Q g (room.mono h)⟩
end
section
variable {X : Cx} {x : Str} {p pos : Pos} {e : Expr} {es : List Expr} {t : TA} {k : Nat} {f : Addr} {fd : FuncData} {ps : List Str} {sp : Sp}
theorem FnG.call_run {pins : List (Addr × Obj)} {σ : L2.St} {H : Hp} {s : Shared} {Q : VK} {us : List Value} {vs : List V} (G : FnG X.prog X.w X.K X.mg X.base k f fd ps sp) (gd : X.A.guards = some []) (room : Room k X.A) (hb : L2.Binds X.K fd ps [])
    (I : Inv X pins σ H s) (r : Vals vs us) (h : sp vs H Q E0) : wpAny (model X.prog X.w) X.A (call (.ref f) us) (EP X pins σ Q) X.xe s := by
  have hl : us.length = ps.length := r.length.symm.trans (G.len vs H Q E0 h)
  have bind := hb s us I.kIn (by rw [List.append_nil]; exact hl)
  rw [List.append_nil] at bind
  refine wpAny_call (codeAny_mono (G.run X.A X.stack s H ⟨us, []⟩ us vs Q gd room I.env0 bind r h) ?_)
  intro res s' hr
  match res, hr with
  | .ok (.ret u), hr => exact I.after hr
  | .ok .next, hr => exact False.elim hr
  | .ok .brk, hr => exact False.elim hr
  | .ok .cont, hr => exact False.elim hr
  | .error _, hr => exact False.elim hr
theorem FnG.pe (G : FnG X.prog X.w X.K X.mg X.base k f fd ps sp) (gd : X.A.guards = some []) (room : Room k X.A) (hb : L2.Binds X.K fd ps []) (hg : Gl X x) (hm : X.mg x = some (.ref f)) (kp : PySem.W.keepIn X.K (.ref f) = true)
    (ha : PA X (e :: es) t) (hdb : (x == ("__debug__" : Str)) = false) (hss : starEach (e :: es) X.env = (false, eval e X.env) :: starEach es X.env) (hpl : ((backTo pos (starEach es X.env)).any fun z => z.fst) = false) :
    PE X (.Call (.Name x p) (e :: es) [] pos) (fun σ H Q => t σ H fun vs H1 => sp vs H1 Q E0) := by
  constructor
  intro pins s σ H Q I h
  refine wpAny_Call_Name_kw (ld_glob I hg hm ?_ hdb)
  refine PySem.W.callWith_K (h₀ := X.base) I.ok.mod.kin kp (wpAny_mono (ha.run pos pins s σ H _ I h) ?_ fun _ _ z => z) hss hpl
  rintro us s1 ⟨vs, H1, I1, rv, q⟩
  exact ⟨I1.kIn, G.call_run gd room hb I1 rv q⟩
end
/-! ### the law's end -/
theorem law_end {P : Program} {w : World} {K : PySem.W.Frag} {mg mb : Str → Option Value} {k : Nat} {fa a : Addr} {fd : FuncData} {x : Str} {sp : Sp} {s1 : Shared} {vs : List Value} {ns : List Int}
    (inK : K.In s1.heap) (hns : s1.heap.Ns mainGlobals mg) (hbl : s1.heap.Ns builtinsNs mb) (hboot : ∀ x : Str, x ≠ "__name__" → mb x = bootBuiltins x) (nolim : s1.heap.NoLimit) (nogen : s1.gens = #[])
    (ha : s1.heap.get? a = some { cls := .type "list", data := .seq vs.toArray }) (hint : IntsAre vs ns) (hlen : ns.length ≤ sizeLine) (room : Room k callerA)
    (G : ∀ base : Heap, K.In base → base.Ns mainGlobals mg → FnG P w K mg base k fa fd [x] sp) (hbind : ∀ (s : Shared) (u : Value), BindsTo s fd ⟨[u], []⟩ [(x, u)])
    (hsp : ∀ H : Hp, (∀ b, H b = none ∨ ∃ o xs, H b = some (.frz o (.lst xs))) → SqL K H a (ns.map V.int) → sp [.ref a] H (fun v _ => v = .bl true) E0) :
    codeAny (model P w) callerA (.call (.ref fa) ⟨[.ref a], []⟩) (fun r s' => r = .ok (.ret (.bool true)) ∧ OldK s1.heap s'.heap ∧ s'.os = s1.os ∧ AllBare s'.gens) s1 := by
  -- the abstract heap: the script alone, where it is none of the module's own
  let H : Hp := fun b => if b = a ∧ K.lookup a = none then some (.frz { cls := .type "list", data := .seq vs.toArray } (.lst (ns.map V.int))) else none
  have Hcase : ∀ b, H b = none ∨ (b = a ∧ K.lookup a = none ∧ H b = some (.frz { cls := .type "list", data := .seq vs.toArray } (.lst (ns.map V.int)))) := by
    intro b
    by_cases c : b = a ∧ K.lookup a = none
    · exact Or.inr ⟨c.1, c.2, if_pos c⟩
    · exact Or.inl (if_neg c)
  have only : ∀ b, H b = none ∨ ∃ o xs, H b = some (.frz o (.lst xs)) := fun b => (Hcase b).imp id fun z => ⟨_, _, z.2.2⟩
  have rel : Vals (ns.map V.int) vs := vals_ints hint
  have hsq : SqL K H a (ns.map V.int) := by
    cases c : K.lookup a with
    | none => exact Or.inl (Or.inr ⟨_, if_pos ⟨rfl, c⟩⟩)
    | some o =>
      have z := inK a o c
      rw [ha] at z
      cases z
      exact Or.inr ⟨_, vs.toArray, _, c, rfl, rfl, rfl, (by rw [List.size_toArray, ← rel.length, List.length_map]; exact hlen), (by simpa using rel)⟩
  have hok : HOk P w H s1.heap := by
    intro b u z
    rcases Hcase b with q | ⟨e, _, q⟩
    · rw [q] at z; cases z
    · rw [q] at z
      cases z
      subst e
      exact ⟨ha, by rw [List.length_map]; exact hlen, vs, _, rel, ha⟩
  -- what is not the script stands in the base
  have keepB : ∀ {b : Addr} {o : Obj}, s1.heap.get? b = some o → H b = none → (hidT s1.heap H).get? b = some o := fun z n => hidT_get z n
  have nsB : ∀ {b : Addr} {m : Str → Option Value}, s1.heap.Ns b m → (hidT s1.heap H).Ns b m := by
    rintro b m ⟨o, es, ep, z, d, r⟩
    refine ⟨o, es, ep, keepB z ?_, d, r⟩
    rcases Hcase b with q | ⟨e, _, _⟩
    · exact q
    · rw [e, ha] at z
      cases z
      have d' : Data.seq vs.toArray _ = Data.dict es ep := d
      cases d'
  have inB : K.In (hidT s1.heap H) := by
    intro b o z
    refine keepB (inK b o z) ?_
    rcases Hcase b with q | ⟨e, c, _⟩
    · exact q
    · rw [e, c] at z; cases z
  have mod : Mod K mg (hidT s1.heap H) := ⟨inB, nsB hns, ⟨mb, nsB hbl, hboot⟩, let ⟨m, z1, z2⟩ := nolim; ⟨m, nsB z1, z2⟩⟩
  have env : Env0 P w K mg (hidT s1.heap H) callerA [] s1 H := by
    refine ⟨rfl, mod, fun b o z => of_hidT z, Nat.le_of_eq (hidT_size _ _), trivial, ?_, hok, .of_eq nogen⟩
    intro b z
    have z' : b ∈ ([] : List Addr) := z
    cases z'
  refine codeAny_mono ((G _ inB (nsB hns)).run callerA [] s1 H ⟨[.ref a], []⟩ [.ref a] [.ref a] _ rfl room env (hbind s1 (.ref a)) (.cons rfl .nil) (hsp H only hsq)) ?_
  intro res s' hr
  match res, hr with
  | .ok (.ret u), hr =>
    obtain ⟨v, H', os, bare, un, hok', rv, q⟩ := hr
    have q' : v = .bl true := q
    subst q'
    obtain rfl : u = Value.bool true := rv
    refine ⟨rfl, OldK.of_keep ?_, os, bare⟩
    intro b o z
    rcases Hcase b with c | ⟨e, _, c⟩
    · exact un.keep b o z c (fun y => by have y' : b ∈ ([] : List Addr) := y; cases y') (fun y => by cases y)
    · have c2 := un.frzs b _ _ c
      obtain ⟨e1, _⟩ := hok b _ c
      obtain ⟨e2, _⟩ := hok' b _ c2
      rw [z] at e1
      cases e1
      exact e2
  | .ok .next, hr => exact False.elim hr
  | .ok .brk, hr => exact False.elim hr
  | .ok .cont, hr => exact False.elim hr
  | .error _, hr => exact False.elim hr
theorem walk_end {l : PySem.W.OpenLaw} {n k : Nat} {q : Program} {loose : List Str} {XP : (Str → Option Value) → Heap → Prop} {YP : World → Heap → Prop} {d : DefRec} {K : Params → PySem.W.Frag} {sp : PySem.W.Frag → Sp} {x : Str}
    (hmost : l.most = some n) (hsmall : n ≤ sizeLine) (nodef : d.params.defaults = []) (room : Room k callerA) (hY : ∀ (w : World) (h : Heap), YP w h → (K w.params).In h)
    (G : ∀ (w : World) (mg : Str → Option Value) (fa : Addr) (h : Heap), (K w.params).In h → h.Ns mainGlobals mg → mg d.name = some (.ref fa) →
      ∃ fd : FuncData, (∀ (s : Shared) (u : Value), BindsTo s fd ⟨[u], []⟩ [(x, u)]) ∧ ∀ base : Heap, (K w.params).In base → base.Ns mainGlobals mg → FnG l.prog w (K w.params) mg base k fa fd [x] (sp (K w.params)))
    (hsp : ∀ (K : PySem.W.Frag) (H : Hp) (a : Addr) (ns : List Int), ns.length ≤ n → (∀ b, H b = none ∨ ∃ o xs, H b = some (.frz o (.lst xs))) → SqL K H a (ns.map V.int) → sp K [.ref a] H (fun v _ => v = .bl true) E0) :
    PySem.W.WalkO q loose XP YP l.row.toRowW d [] (fun f vs => PySem.call f vs) := by
  apply Att.attach_call hmost nodef
  intro w s0 s1 mg mb fa o pm cd doc a vs ns Gr Y _ _ _ hmg hobj hint hlen hgen
  obtain ⟨fd, hb, hG⟩ := G w mg fa _ (hY w _ Y) Gr.T.g hmg
  exact law_end (hY w _ Y) Gr.T.g Gr.T.b Gr.T.builtins Gr.T.nolimit hgen hobj hint (Nat.le_trans hlen hsmall) room hG hb fun H hO hS => hsp _ H a ns hlen hO hS
end Dl

namespace Dl
open PySem PySem.Spec PyProof.Rows L2

/-! ### defs that only read: the promise R, arguments to result -/
abbrev Rel := List PyData → PyData → Prop
def spPure (K : PySem.W.Frag) (R : Rel) : Sp := fun vs H Q _ => ∃ (S : Addr → Prop) (ds : List PyData) (d : PyData), (∀ b, S b → Lv H b) ∧ RepAll K S H vs ds ∧ R ds d ∧ ∀ v H', Same H H' → Rep K S H' v d → Q v H'
structure PFn (P : Program) (w : World) (K : PySem.W.Frag) (mg : Str → Option Value) (base : Heap) (lvl : Nat) (x : Str) (R : Rel) : Prop where
  ex : ∃ (fa : Addr) (fd : FuncData) (ps : List Str), FnG P w K mg base lvl fa fd ps (spPure K R) ∧ mg x = some (.ref fa) ∧ PySem.W.keepIn K (.ref fa) = true ∧ L2.Binds K fd ps []
def pureFm (K : PySem.W.Frag) (S : Addr → Prop) (H : Hp) : Fm := { K := K, S := S, M := fun _ => False, H0 := H, G := fun _ _ => True, ms := fun _ h => h.elim, gm := fun _ _ _ _ _ _ => trivial, gl := fun _ _ _ _ h => h.elim }
def bodyCs (P : Program) (w : World) (K : PySem.W.Frag) (mg : Str → Option Value) (base : Heap) (N : List Str) (sc : Scope) (lvl : Nat) : Cs := ⟨P, w, K, mg, base, N, sc, fun _ => true, lvl⟩
theorem fits_body {CX : CXT} {P : Program} {w : World} {K : PySem.W.Frag} {mg : Str → Option Value} {base : Heap} {N : List Str} {qual : Str} {sc : Scope} {f : Addr} {cd : Value} {A : Around} {outer : List Env} {s : Shared} {H : Hp} {E : XK} {k : Nat} (hgd : A.guards = some []) (hr : Room k (A.deeper (envOfC qual sc s.heap.objs.size f cd))) :
    Fits (bodyCs P w K mg base N sc k) (cxOf CX P w K mg base N qual sc f cd A outer s H E).nox := ⟨rfl, rfl, rfl, rfl, rfl, rfl, rfl, rfl, rfl, hr, rfl, hgd⟩
def startR (N : List Str) (ds : List PyData) : Rho := ds.map .d ++ List.replicate (N.length - ds.length) .un
theorem env_start {F : Fm} {H : Hp} {N : List Str} {vs : List V} {ds : List PyData} (r : RpAll F H vs ds) : EnvOk F H (start N vs) (startR N ds) := fun i sv e => by
  have hl := r.length
  unfold L2.start
  by_cases hi : i < ds.length
  · have e1 : (startR N ds)[i]? = some (.d ds[i]) := by
      unfold startR
      rw [List.getElem?_append_left (by simpa using hi), List.getElem?_map, List.getElem?_eq_getElem hi]; rfl
    rw [e1] at e
    cases e
    obtain ⟨v, hv, rv⟩ := r.get (List.getElem?_eq_getElem hi)
    refine ⟨some v, ?_, v, rfl, rv⟩
    rw [List.getElem?_append_left (by simpa [hl] using hi), List.getElem?_map, hv]; rfl
  · unfold startR at e
    rw [List.getElem?_append_right (by simpa using hi)] at e
    rw [List.getElem?_append_right (by simp; omega)]
    simp only [List.length_map] at e ⊢
    rw [List.getElem?_replicate] at e ⊢
    rw [hl]
    by_cases hj : i - ds.length < N.length - ds.length
    · rw [if_pos hj] at e ⊢
      cases e
      exact ⟨none, rfl, trivial⟩
    · rw [if_neg hj] at e; cases e
section
variable {P : Program} {w : World} {K : PySem.W.Frag} {mg : Str → Option Value} {base : Heap}
/-- a def that only reads keeps its promise -/
theorem pure_ok {x qual : Str} {st : Stmt} {f : Addr} {fd : FuncData} {N ps : List Str} {k : Nat} {R : Rel} (Fn : Fun K x qual st f fd) (Sc : FnScope N ps (defScope st)) (len : ∀ ds d, R ds d → ds.length = ps.length)
    (body : ∀ (F : Fm) (ds : List PyData) (d : PyData), F.K = K → R ds d → WPB F (bodyCs P w K mg base N (defScope st) k) (defBody st) (startR N ds) 0 { nx := fun _ _ => d = .none, rt := fun _ d' => d' = d, bk := fun _ _ => False, ct := fun _ _ => False }) :
    FnG P w K mg base (k + 1) f fd ps (spPure K R) := by
  refine FnG.of_body Fn Sc (fun vs H Q E h => ?_) (fun cdv A outer s H vs Q hgd hr h => ?_)
  · obtain ⟨S, ds, d, _, r, hR, _⟩ := h
    rw [RepAll.length r, len ds d hR]
  · obtain ⟨S, ds, d, al, r, hR, q⟩ := h
    refine ⟨_, pbB (fits_body hgd hr), ?_⟩
    refine body (pureFm K S H) ds d rfl hR (start N vs) H _ (env_start (F := pureFm K S H) r) ⟨trivial, fun b o _ e => e, al⟩ ?_ ?_ ?_ ?_
    · exact fun ρ' σ' k' H' _ _ j' e => q _ H' (fun b o h => j'.le b o (fun z => z.elim id id) h) (by rw [e]; exact .non)
    · exact fun v d' k' H' j' r' e => q v H' (fun b o h => j'.le b o (fun z => z.elim id id) h) (e ▸ r')
    · exact fun _ _ _ _ _ _ _ z => z.elim
    · exact fun _ _ _ _ _ _ _ z => z.elim
end
section
variable {F : Fm} {C : Cs} {ρ : Rho} {k : Nat} {Φ Φ' : Nat → PyData → Prop} {Ψ Ψ' : Nat → Bool → Prop} {e a b : Expr} {es : List Expr} {pos : Pos} {P : DE}
theorem pe_callF {x : Str} {p : Pos} {j : Nat} {fa : Addr} {fd : FuncData} {ps : List Str} {sp : Sp} {t : TA} {X : Cx} (fx : Fits C X) (G : FnG C.P C.w C.K C.mg C.base j fa fd ps sp) (hl : j ≤ C.lvl) (hg : C.sc.names.lookup x = some .globalImplicit) (hm : C.mg x = some (.ref fa)) (kp : PySem.W.keepIn C.K (.ref fa) = true) (hb : L2.Binds C.K fd ps [])
    (ha : PA X (e :: es) t) (hdb : (x == ("__debug__" : Str)) = false) (hss : ∀ env : Env, starEach (e :: es) env = (false, eval e env) :: starEach es env) (hpl : ∀ env : Env, ((backTo pos (starEach es env)).any fun x => x.fst) = false) : PE X (.Call (.Name x p) (e :: es) [] pos) (fun σ H Q => t σ H fun vs H1 => sp vs H1 Q E0) :=
  FnG.pe (by rw [fx.P, fx.w, fx.K, fx.mg, fx.base]; exact G) fx.gd (fx.room.mono hl) (by rw [fx.K]; exact hb) (by show X.env.scope.names.lookup x = _; rw [fx.sc]; exact hg) (by rw [fx.mg]; exact hm) (by rw [fx.K]; exact kp) ha hdb (hss X.env) (hpl X.env)
/-- a call of a def that only reads -/
theorem we_callP {x : Str} {R : Rel} {p : Pos} {j : Nat} (hF : PFn C.P C.w C.K C.mg C.base j x R) (hl : j ≤ C.lvl) (hK : F.K = C.K) (hg : C.sc.names.lookup x = some .globalImplicit)
    (h : WPA F C (e :: es) ρ k fun k1 ds => ∃ d, R ds d ∧ Φ k1 d) (hdb : (x == ("__debug__" : Str)) = false := by decide) (hss : ∀ env : Env, starEach (e :: es) env = (false, eval e env) :: starEach es env := by intro _; rfl) (hpl : ∀ env : Env, ((backTo pos (starEach es env)).any fun x => x.fst) = false := by intro _; rfl) :
    WPE F C (.Call (.Name x p) (e :: es) [] pos) ρ k Φ := by
  obtain ⟨fa, fd, ps, G, hm, kp, hb⟩ := hF.ex
  refine of_pe (fun X fx => pe_callF fx G hl hg hm kp hb (paA fx) hdb hss hpl) fun σ H Q en jj q => ?_
  refine h σ H _ en jj fun vs ds k1 H1 l1 j1 r1 ⟨d, hR, p⟩ => ?_
  refine ⟨F.S, ds, d, j1.al, hK ▸ r1, hR, fun v H' sm rv => ?_⟩
  have le : Le F H1 H' := fun b o _ e => sm b o e
  refine q v d k1 H' (l1.trans le) ⟨F.gm _ _ _ j1.g (fun b hb => ?_) (fun b o _ e => sm b o e), fun b o n e => sm b o (j1.le b o n e), fun b hb => (j1.al b hb).keep fun o e => sm b o e⟩ (by show Rep F.K F.S H' v d; rw [hK]; exact rv) p
  cases e : H1 b with
  | none => exact absurd e (F.gl _ _ j1.g b hb)
  | some o => exact sm b o e

/-! ### operations on data -/
theorem rd_II {g : Int → Int → Int} {i j : Int} (h : Φ k (.int (g i j))) : RD F (rI0 fun i j => .int (g i j)) (.int i) (.int j) k Φ := fun H vx vy Q jj rx ry q => by
  cases rx; cases ry; exact ⟨i, j, rfl, rfl, q _ _ k H .refl jj (.int _) h⟩
theorem rd_IB {g : Int → Int → Bool} {i j : Int} (h : Φ k (.bool (g i j))) : RD F (rI0 fun i j => .bl (g i j)) (.int i) (.int j) k Φ := fun H vx vy Q jj rx ry q => by
  cases rx; cases ry; exact ⟨i, j, rfl, rfl, q _ _ k H .refl jj (.bl _) h⟩
theorem rd_IC {c : Int → Int → Prop} {g : Int → Int → Int} {i j : Int} (hc : c i j) (h : Φ k (.int (g i j))) : RD F (rI c fun i j => .int (g i j)) (.int i) (.int j) k Φ := fun H vx vy Q jj rx ry q => by
  cases rx; cases ry; exact ⟨i, j, rfl, rfl, hc, q _ _ k H .refl jj (.int _) h⟩
theorem we_add (h : WPE F C a ρ k fun k1 x => WPE F C b ρ k1 fun k2 y => ∃ i j, x = .int i ∧ y = .int j ∧ Φ k2 (.int (i + j))) : WPE F C (.BinOp a .Add b pos) ρ k Φ :=
  we_bin (fun X _ => op_add) (h.imp fun k1 x h1 => h1.imp fun k2 y ⟨i, j, e1, e2, p⟩ => by subst e1 e2; exact rd_II p)
theorem we_sub (h : WPE F C a ρ k fun k1 x => WPE F C b ρ k1 fun k2 y => ∃ i j, x = .int i ∧ y = .int j ∧ Φ k2 (.int (i - j))) : WPE F C (.BinOp a .Sub b pos) ρ k Φ :=
  we_bin (fun X _ => op_sub) (h.imp fun k1 x h1 => h1.imp fun k2 y ⟨i, j, e1, e2, p⟩ => by subst e1 e2; exact rd_II p)
theorem we_shl (h : WPE F C a ρ k fun k1 x => WPE F C b ρ k1 fun k2 y => ∃ i j, x = .int i ∧ y = .int j ∧ (0 ≤ j ∧ j ≤ 1000000 ∧ i.natAbs < 2 ^ 64) ∧ Φ k2 (.int (i * 2 ^ j.toNat))) : WPE F C (.BinOp a .LShift b pos) ρ k Φ :=
  we_bin (fun X _ => op_shl) (h.imp fun k1 x h1 => h1.imp fun k2 y ⟨i, j, e1, e2, c, p⟩ => by subst e1 e2; exact rd_IC (c := CPow) c p)
theorem we_shr (h : WPE F C a ρ k fun k1 x => WPE F C b ρ k1 fun k2 y => ∃ i j, x = .int i ∧ y = .int j ∧ 0 ≤ j ∧ Φ k2 (.int (i / 2 ^ j.toNat))) : WPE F C (.BinOp a .RShift b pos) ρ k Φ :=
  we_bin (fun X _ => op_shr) (h.imp fun k1 x h1 => h1.imp fun k2 y ⟨i, j, e1, e2, c, p⟩ => by subst e1 e2; exact rd_IC c p)
theorem we_pow (h : WPE F C a ρ k fun k1 x => WPE F C b ρ k1 fun k2 y => ∃ i j, x = .int i ∧ y = .int j ∧ (0 ≤ j ∧ j ≤ 1000000 ∧ i.natAbs < 2 ^ 64) ∧ Φ k2 (.int (i ^ j.toNat))) : WPE F C (.BinOp a .Pow b pos) ρ k Φ :=
  we_bin (fun X _ => op_pow) (h.imp fun k1 x h1 => h1.imp fun k2 y ⟨i, j, e1, e2, c, p⟩ => by subst e1 e2; exact rd_IC (c := CPow) c p)
theorem we_band (h : WPE F C a ρ k fun k1 x => WPE F C b ρ k1 fun k2 y => ∃ i j, x = .int i ∧ y = .int j ∧ Φ k2 (.int (Builtin.bitAnd i j))) : WPE F C (.BinOp a .BitAnd b pos) ρ k Φ :=
  we_bin (fun X _ => op_and) (h.imp fun k1 x h1 => h1.imp fun k2 y ⟨i, j, e1, e2, p⟩ => by subst e1 e2; exact rd_II p)
theorem we_neg (h : WPE F C a ρ k fun k1 x => ∃ i, x = .int i ∧ Φ k1 (.int (-i))) : WPE F C (.UnaryOp .USub a pos) ρ k Φ :=
  of_pe (fun X fx => pe_un un_neg (peE fx)) fun σ H Q en j q => h σ H _ en j fun v d k1 H1 l1 j1 r ⟨i, e, p⟩ => by
    subst e; cases r; exact ⟨i, rfl, q _ _ k1 H1 l1 j1 (.int _) p⟩
/-- comparisons of ints, as values and as tests -/
abbrev I2 (F : Fm) (C : Cs) (a b : Expr) (ρ : Rho) (k : Nat) (Θ : Nat → Int → Int → Prop) : Prop := WPE F C a ρ k fun k1 x => WPE F C b ρ k1 fun k2 y => ∃ i j, x = .int i ∧ y = .int j ∧ Θ k2 i j
theorem we_gt (h : I2 F C a b ρ k fun k i j => Φ k (.bool (decide (j < i)))) : WPE F C (.Compare a [.Gt] [b] pos) ρ k Φ := we_cmp (fun X _ => op_gt) (nomark _) (h.imp fun k1 x h1 => h1.imp fun k2 y ⟨i, j, e1, e2, p⟩ => by subst e1 e2; exact rd_IB (g := fun i j => decide (j < i)) p)
theorem wt_le (h : I2 F C a b ρ k fun k i j => Ψ k (decide (i ≤ j))) : WPT F C (.Compare a [.LtE] [b] pos) ρ k Ψ := wt_cmp (fun X _ => op_le) (nomark _) (h.imp fun k1 x h1 => h1.imp fun k2 y ⟨i, j, e1, e2, p⟩ => by subst e1 e2; exact rd_IB (g := fun i j => decide (i ≤ j)) ⟨_, rfl, p⟩)
theorem wt_gt (h : I2 F C a b ρ k fun k i j => Ψ k (decide (j < i))) : WPT F C (.Compare a [.Gt] [b] pos) ρ k Ψ := wt_cmp (fun X _ => op_gt) (nomark _) (h.imp fun k1 x h1 => h1.imp fun k2 y ⟨i, j, e1, e2, p⟩ => by subst e1 e2; exact rd_IB (g := fun i j => decide (j < i)) ⟨_, rfl, p⟩)
/-- == and != of any data -/
theorem opEqK {X : Cx} (fx : Fits C X) : OpR X (compareOp .Eq) (rEqD C.K) := by rw [← fx.K]; exact op_eqD fx.room.units
theorem rd_eq {x y : PyData} (hK : F.K = C.K) (sx : SeqAt.shaped x = true) (sy : SeqAt.shaped y = true) (h : Φ k (.bool (PyData.eqv x y))) : RD F (rEqD C.K) x y k Φ := fun H vx vy Q j rx ry q =>
  ⟨x, y, hK ▸ Rep.dp x vx rx (nodict_sh sx), hK ▸ Rep.dp y vy ry (nodict_sh sy), sx, sy, q _ _ k H .refl j (.bl _) h⟩
abbrev D2 (F : Fm) (C : Cs) (a b : Expr) (ρ : Rho) (k : Nat) (Θ : Nat → PyData → PyData → Prop) : Prop := WPE F C a ρ k fun k1 x => WPE F C b ρ k1 fun k2 y => SeqAt.shaped x = true ∧ SeqAt.shaped y = true ∧ Θ k2 x y
theorem we_eq (hK : F.K = C.K) (h : D2 F C a b ρ k fun k x y => Φ k (.bool (PyData.eqv x y))) : WPE F C (.Compare a [.Eq] [b] pos) ρ k Φ := we_cmp (fun X fx => opEqK fx) (nomark _) (h.imp fun k1 x h1 => h1.imp fun k2 y ⟨s1, s2, p⟩ => rd_eq hK s1 s2 p)
/-- == of ints, of texts -/
theorem rd_eqS {x y : PyData} {c : Bool} (hx : ∀ H vx vy, Rp F H vx x → Rp F H vy y → scal vx vy = true ∧ decide (vx = vy) = c) (h : Φ k (.bool c)) : RD F rEq x y k Φ := fun H vx vy Q j rx ry q => by
  obtain ⟨h1, h2⟩ := hx H vx vy rx ry
  exact ⟨h1, by rw [h2]; exact q _ _ k H .refl j (.bl _) h⟩
theorem rd_neS {x y : PyData} {c : Bool} (hx : ∀ H vx vy, Rp F H vx x → Rp F H vy y → scal vx vy = true ∧ decide (vx = vy) = c) (h : Φ k (.bool (!c))) : RD F rNe x y k Φ := fun H vx vy Q j rx ry q => by
  obtain ⟨h1, h2⟩ := hx H vx vy rx ry
  exact ⟨h1, by rw [h2]; exact q _ _ k H .refl j (.bl _) h⟩
theorem scal_int {i j : Int} {H : Hp} {vx vy : V} (rx : Rp F H vx (.int i)) (ry : Rp F H vy (.int j)) : scal vx vy = true ∧ decide (vx = vy) = decide (i = j) := by
  cases rx; cases ry; exact ⟨rfl, by simp⟩
theorem scal_str {i j : Str} {H : Hp} {vx vy : V} (rx : Rp F H vx (.str i)) (ry : Rp F H vy (.str j)) : scal vx vy = true ∧ decide (vx = vy) = decide (i = j) := by
  cases rx; cases ry; exact ⟨rfl, by simp⟩
theorem wt_eqI (h : I2 F C a b ρ k fun k i j => Ψ k (decide (i = j))) : WPT F C (.Compare a [.Eq] [b] pos) ρ k Ψ := wt_cmp (fun X _ => op_eq) (nomark _) (h.imp fun k1 x h1 => h1.imp fun k2 y ⟨i, j, e1, e2, p⟩ => by subst e1 e2; exact rd_eqS (fun _ _ _ => scal_int) ⟨_, rfl, p⟩)
theorem wt_neI (h : I2 F C a b ρ k fun k i j => Ψ k (!decide (i = j))) : WPT F C (.Compare a [.NotEq] [b] pos) ρ k Ψ := wt_cmp (fun X _ => op_ne) (nomark _) (h.imp fun k1 x h1 => h1.imp fun k2 y ⟨i, j, e1, e2, p⟩ => by subst e1 e2; exact rd_neS (fun _ _ _ => scal_int) ⟨_, rfl, p⟩)
theorem we_eqI (h : I2 F C a b ρ k fun k i j => Φ k (.bool (decide (i = j)))) : WPE F C (.Compare a [.Eq] [b] pos) ρ k Φ := we_cmp (fun X _ => op_eq) (nomark _) (h.imp fun k1 x h1 => h1.imp fun k2 y ⟨i, j, e1, e2, p⟩ => by subst e1 e2; exact rd_eqS (fun _ _ _ => scal_int) p)
abbrev T2 (F : Fm) (C : Cs) (a b : Expr) (ρ : Rho) (k : Nat) (Θ : Nat → Str → Str → Prop) : Prop := WPE F C a ρ k fun k1 x => WPE F C b ρ k1 fun k2 y => ∃ i j, x = .str i ∧ y = .str j ∧ Θ k2 i j
theorem wt_eqT (h : T2 F C a b ρ k fun k i j => Ψ k (decide (i = j))) : WPT F C (.Compare a [.Eq] [b] pos) ρ k Ψ := wt_cmp (fun X _ => op_eq) (nomark _) (h.imp fun k1 x h1 => h1.imp fun k2 y ⟨i, j, e1, e2, p⟩ => by subst e1 e2; exact rd_eqS (fun _ _ _ => scal_str) ⟨_, rfl, p⟩)
theorem wt_neT (h : T2 F C a b ρ k fun k i j => Ψ k (!decide (i = j))) : WPT F C (.Compare a [.NotEq] [b] pos) ρ k Ψ := wt_cmp (fun X _ => op_ne) (nomark _) (h.imp fun k1 x h1 => h1.imp fun k2 y ⟨i, j, e1, e2, p⟩ => by subst e1 e2; exact rd_neS (fun _ _ _ => scal_str) ⟨_, rfl, p⟩)
end
end Dl

namespace Dl
open PySem PySem.Spec PyProof.Rows L2
section
variable {F : Fm} {C : Cs} {ρ : Rho} {k : Nat} {Φ Φ' : Nat → PyData → Prop} {Ψ Ψ' : Nat → Bool → Prop} {e a b : Expr} {es : List Expr} {pos : Pos} {P : DE}
/-! ### subscripts -/
theorem atI_some {α β : Type} {xs : List α} {ys : List β} (hl : xs.length = ys.length) {i : Int} {y : β} (h : atI ys i = some y) : ∃ j : Nat, ys[j]? = some y ∧ ∀ x, xs[j]? = some x → atI xs i = some x := by
  unfold atI at h ⊢
  rw [hl]
  cases e : ixN ys.length i with
  | none => rw [e] at h; cases h
  | some j => rw [e] at h; exact ⟨j, h, fun x hx => hx⟩
theorem ixK {X : Cx} (fx : Fits C X) : IxR X (rIx C.K) := by rw [← fx.K]; exact ix_seq
def ixD : PyData → PyData → Option PyData
  | .list ds, .int i => atI ds i
  | .tuple ds, .int i => atI ds i
  | _, _ => none
theorem we_ix (hK : F.K = C.K) (hs : PlainIx b) (h : WPE F C a ρ k fun k1 x => WPE F C b ρ k1 fun k2 y => ∃ d, ixD x y = some d ∧ Φ k2 d) : WPE F C (.Subscript a b pos) ρ k Φ :=
  of_pe (fun X fx => pe_ix (ixK fx) (peE fx) (peE fx) hs) (we_op (h.imp fun k1 x h1 => h1.imp fun k2 y ⟨d, e, p⟩ => fun H vx vy Q j rx ry q => by
    cases x with
    | list ds =>
      cases y with
      | int i =>
        cases rx with
        | @lst a xs _ ha hr =>
        cases ry
        obtain ⟨n, hn, hx⟩ := atI_some hr.length e
        obtain ⟨v, hv, rv⟩ := hr.get hn
        exact .inl ⟨a, xs, i, v, rfl, rfl, hK ▸ sql_of ha, hx v hv, q v d k2 H .refl j rv p⟩
      | _ => cases e
    | tuple ds =>
      cases y with
      | int i =>
        cases rx with
        | @tup a xs _ ha hr =>
        cases ry
        obtain ⟨n, hn, hx⟩ := atI_some hr.length e
        obtain ⟨v, hv, rv⟩ := hr.get hn
        exact .inr (.inl ⟨a, xs, i, v, rfl, rfl, hK ▸ sqt_of ha, hx v hv, q v d k2 H .refl j rv p⟩)
      | _ => cases e
    | _ => cases e))
/-! ### in, not in: flat things in a list or tuple of flat things -/
def flatD : PyData → Bool
  | .none | .bool _ | .int _ | .str _ => true
  | _ => false
theorem flat_rep {H : Hp} {v : V} {d : PyData} (r : Rp F H v d) (h : flatD d = true) : flatV v = true := by
  cases r <;> first | rfl | cases h
theorem flat_all {H : Hp} : ∀ {ds : List PyData} {vs : List V}, RpAll F H vs ds → ds.all flatD = true → vs.all flatV = true
  | [], _, r, _ => by cases r; rfl
  | d :: ds, _, r, h => by
    cases r with
    | cons r1 r2 =>
      rw [List.all_cons, Bool.and_eq_true] at h ⊢
      exact ⟨flat_rep r1 h.1, flat_all r2 h.2⟩
def seqD : PyData → Option (List PyData)
  | .list ds => some ds
  | .tuple ds => some ds
  | _ => none
theorem opInK {X : Cx} (fx : Fits C X) : OpR X (compareOp .In) (rIn C.K false) := by rw [← fx.K]; exact op_in_seq
theorem opNiK {X : Cx} (fx : Fits C X) : OpR X (compareOp .NotIn) (rIn C.K true) := by rw [← fx.K]; exact op_notIn_seq
theorem rd_in {neg : Bool} {x y : PyData} {ds : List PyData} {c : Bool} (hK : F.K = C.K) (hy : seqD y = some ds) (fx : flatD x = true) (fy : ds.all flatD = true) (hc : ∀ H vx vs, Rp F H vx x → RpAll F H vs ds → inV vx vs = c) (h : Φ k (.bool (if neg then !c else c))) : RD F (rIn C.K neg) x y k Φ := fun H vx vy Q j rx ry q => by
  cases ry with
  | @lst a xs _ ha hr => cases hy; exact ⟨a, xs, rfl, .inl (hK ▸ sql_of ha), flat_rep rx fx, flat_all hr fy, by rw [hc H vx xs rx hr]; exact q _ _ k H .refl j (.bl _) h⟩
  | @tup a xs _ ha hr => cases hy; exact ⟨a, xs, rfl, .inr (hK ▸ sqt_of ha), flat_rep rx fx, flat_all hr fy, by rw [hc H vx xs rx hr]; exact q _ _ k H .refl j (.bl _) h⟩
  | _ => cases hy
theorem inV_ints {i : Int} : ∀ (ns : List Int), inV (.int i) (ns.map V.int) = decide (i ∈ ns)
  | [] => by simp [inV]
  | n :: ns => by
    have ih := inV_ints (i := i) ns
    unfold inV at ih ⊢
    rw [List.map_cons, List.any_cons, ih]
    have : eqV (.int n) (.int i) = decide (n = i) := by
      unfold eqV
      by_cases h : n = i <;> simp [h]
    rw [this]
    by_cases h : n = i
    · simp [h]
    · simp [h, Ne.symm h, eq_comm]
/-- an int in a list or tuple of ints -/
theorem rd_inI {neg : Bool} {i : Int} {y : PyData} {ns : List Int} (hK : F.K = C.K) (hy : seqD y = some (ns.map PyData.int)) (h : Φ k (.bool (if neg then !decide (i ∈ ns) else decide (i ∈ ns)))) : RD F (rIn C.K neg) (.int i) y k Φ :=
  rd_in hK hy rfl (by rw [List.all_map]; exact List.all_eq_true.mpr fun _ _ => rfl) (fun H vx vs rx rv => by cases rx; rw [rv.ints]; exact inV_ints ns) h
abbrev N2 (F : Fm) (C : Cs) (a b : Expr) (ρ : Rho) (k : Nat) (Θ : Nat → Int → List Int → Prop) : Prop := WPE F C a ρ k fun k1 x => WPE F C b ρ k1 fun k2 y => ∃ i ns, x = .int i ∧ seqD y = some (ns.map PyData.int) ∧ Θ k2 i ns
theorem wt_niI (hK : F.K = C.K) (hm : behindInMarks .NotIn b = false) (h : N2 F C a b ρ k fun k i ns => Ψ k (!decide (i ∈ ns))) : WPT F C (.Compare a [.NotIn] [b] pos) ρ k Ψ := wt_cmp (fun X fx => opNiK fx) hm (h.imp fun k1 x h1 => h1.imp fun k2 y ⟨i, j, e1, e2, p⟩ => by subst e1; exact rd_inI hK e2 ⟨_, rfl, p⟩)
theorem we_inI (hK : F.K = C.K) (hm : behindInMarks .In b = false) (h : N2 F C a b ρ k fun k i ns => Φ k (.bool (decide (i ∈ ns)))) : WPE F C (.Compare a [.In] [b] pos) ρ k Φ := we_cmp (fun X fx => opInK fx) hm (h.imp fun k1 x h1 => h1.imp fun k2 y ⟨i, j, e1, e2, p⟩ => by subst e1; exact rd_inI hK e2 p)
def isNone : PyData → Bool
  | .none => true
  | _ => false
theorem dec_non {H : Hp} {v : V} {d : PyData} (r : Rp F H v d) : decide (v = .non) = isNone d := by
  cases r <;> rfl
theorem wt_isN {jj : Nat} {p' : Pos} (h : WPE F C a ρ k fun k1 x => Ψ k1 (isNone x)) : WPT F C (.Compare a [.Is] [.Constant .none jj p'] pos) ρ k Ψ :=
  of_pt (fun X fx => pt_cmp (pc_isN (peE fx)) rfl) fun σ H Q en j q => h σ H _ en j fun v d k1 H1 l1 j1 r p => by
    refine ⟨isNone d, ?_, q _ k1 H1 l1 j1 p⟩
    rw [dec_non r]
/-! ### built-ins -/
theorem lenK {X : Cx} (fx : Fits C X) : CallR X (.builtin "len") (fun xs H Q => ∃ p ys, xs = [.ref p] ∧ (SqL C.K H p ys ∨ SqT C.K H p ys) ∧ Q (.int ys.length) H) := by rw [← fx.K]; exact call_len_seq
theorem tupK {X : Cx} (fx : Fits C X) : CallR X (.type "tuple") (fun xs H Q => ∃ p ys, xs = [.ref p] ∧ ((SqL C.K H p ys ∧ ∀ l, H l = none → Q (.ref l) (upd H l (.tup ys))) ∨ (SqT C.K H p ys ∧ Q (.ref p) H))) := by rw [← fx.K]; exact call_tuple_of
abbrev A1 (F : Fm) (C : Cs) (e : Expr) (ρ : Rho) (k : Nat) (Θ : Nat → PyData → Prop) : Prop := WPE F C e ρ k Θ
theorem wa_one {Θ : Nat → List PyData → Prop} (hs : ∀ env : Env, starEach [e] env = (false, eval e env) :: starEach [] env) (h : WPE F C e ρ k fun k1 x => Θ k1 [x]) : WPA F C [e] ρ k Θ := wa_cons hs (h.imp fun k1 x p => wa_nil p)
variable {p : Pos}
section
variable (hK : F.K = C.K)
include hK
theorem we_len (hg : C.sc.names.lookup ("len" : Str) = some .globalImplicit) (hm : C.mg ("len" : Str) = none) (hs : ∀ env : Env, starEach [e] env = (false, eval e env) :: starEach [] env) (h : WPE F C e ρ k fun k1 x => ∃ ds, seqD x = some ds ∧ Φ k1 (.int ds.length)) : WPE F C (.Call (.Name "len" p) [e] [] pos) ρ k Φ :=
  we_callB (fun X fx => lenK fx) hg hm boot_len (wa_one hs (h.imp fun k1 x ⟨ds, e, p⟩ => fun H vs Q j r q => by
    cases r with
    | cons r1 r2 =>
    cases r2
    cases r1 with
    | @lst a xs _ ha hr => cases e; exact ⟨a, xs, rfl, .inl (hK ▸ sql_of ha), by rw [hr.length]; exact q _ _ k1 H .refl j (.int _) p⟩
    | @tup a xs _ ha hr => cases e; exact ⟨a, xs, rfl, .inr (hK ▸ sqt_of ha), by rw [hr.length]; exact q _ _ k1 H .refl j (.int _) p⟩
    | _ => cases e)) (by decide) (by decide) hs
theorem we_tuple (hg : C.sc.names.lookup ("tuple" : Str) = some .globalImplicit) (hm : C.mg ("tuple" : Str) = none) (hs : ∀ env : Env, starEach [e] env = (false, eval e env) :: starEach [] env) (h : WPE F C e ρ k fun k1 x => ∃ ds, seqD x = some ds ∧ Φ k1 (.tuple ds)) : WPE F C (.Call (.Name "tuple" p) [e] [] pos) ρ k Φ :=
  we_callTy (T := "tuple") (fun X fx => tupK fx) hg hm (by decide +kernel) (wa_one hs (h.imp fun k1 x ⟨ds, e, p⟩ => fun H vs Q j r q => by
    cases r with
    | cons r1 r2 =>
    cases r2
    cases r1 with
    | @lst a xs _ ha hr => cases e; exact ⟨a, xs, rfl, .inl ⟨hK ▸ sql_of ha, fun l hl => q _ _ k1 _ (.new hl) (j.new hl) (rep_newT j hl hr) p⟩⟩
    | @tup a xs _ ha hr => cases e; exact ⟨a, xs, rfl, .inr ⟨hK ▸ sqt_of ha, q _ _ k1 H .refl j (.tup ha hr) p⟩⟩
    | _ => cases e)) (by decide) (by decide) hs
end
theorem we_intB (hg : C.sc.names.lookup ("int" : Str) = some .globalImplicit) (hm : C.mg ("int" : Str) = none) (hs : ∀ env : Env, starEach [e] env = (false, eval e env) :: starEach [] env) (h : WPE F C e ρ k fun k1 x => ∃ c : Bool, x = .bool c ∧ Φ k1 (.int (if c then 1 else 0))) : WPE F C (.Call (.Name "int" p) [e] [] pos) ρ k Φ :=
  we_callTy (T := "int") (fun X fx => call_int1) hg hm (by decide +kernel) (wa_one hs (h.imp fun k1 x ⟨i, e, p⟩ => fun H vs Q j r q => by
    subst e
    cases r with
    | cons r1 r2 =>
    cases r2
    cases r1
    exact .inr ⟨i, rfl, q _ _ k1 H .refl j (.int _) p⟩)) (by decide) (by decide) hs
end
end Dl

namespace Dl
open PySem PySem.Spec PyProof.Rows L2
theorem iteD {c A B : Prop} [Decidable c] (h1 : c → A) (h2 : ¬ c → B) : if decide c = true then A else B := by
  by_cases h : c
  · rw [decide_eq_true h, if_pos rfl]; exact h1 h
  · rw [decide_eq_false h, if_neg Bool.false_ne_true]; exact h2 h
theorem iteB {c : Bool} {A B : Prop} (h1 : c = true → A) (h2 : c = false → B) : if c = true then A else B := by
  cases c with
  | true => rw [if_pos rfl]; exact h1 rfl
  | false => rw [if_neg Bool.false_ne_true]; exact h2 rfl
/-- 0, 1, .. below z -/
def rg (z : Int) : List Int := (List.range z.toNat).map fun (j : Nat) => (j : Int)
theorem mem_rg {z i : Int} : i ∈ rg z ↔ 0 ≤ i ∧ i < z := by
  unfold rg
  rw [List.mem_map]
  constructor
  · rintro ⟨j, hj, rfl⟩
    have := List.mem_range.mp hj
    omega
  · rintro ⟨h0, h1⟩
    exact ⟨i.toNat, List.mem_range.mpr (by omega), by omega⟩
theorem rg_length {z : Int} : (rg z).length = z.toNat := by unfold rg; simp
theorem rg_succ (j : Nat) : rg ((j : Int) + 1) = rg (j : Int) ++ [(j : Int)] := by
  unfold rg
  rw [show ((j : Int) + 1).toNat = j + 1 by omega, show (j : Int).toNat = j by omega, List.range_succ, List.map_append]; rfl
theorem rg_pairwise {z : Int} : (rg z).Pairwise (· < ·) := by
  unfold rg
  rw [List.pairwise_map]
  exact List.pairwise_lt_range.imp fun h => by omega
theorem take_next {α : Type} {xs : List α} {j : Nat} {x : α} (h : xs[j]? = some x) : xs.take (j + 1) = xs.take j ++ [x] := by
  rw [List.take_add_one, h]; rfl
section
variable {F : Fm} {C : Cs} {ρ : Rho} {k : Nat} {Φ : Nat → PyData → Prop} {P : DE} {pos spos : Pos} {elt iter : Expr} {scope : Scope} {α : Type}
theorem we_mL (ei : α → PyData) (g : α → PyData) (i : Nat) {x : Str} {px : Pos} (b : Blk C scope i x) (hK : F.K = C.K) (hfs : ∀ (env : Env) (v : Value), foldedSetIterable iter env v = pure v)
    (h : WPE F C iter ρ k fun k1 d => ∃ as : List α, d = .list (as.map ei) ∧ as.length ≤ 1000000 ∧ (∀ D (j : α), j ∈ as → WPE (F.ext D) (C.blk scope) elt (ρ.set i (.d (ei j))) k1 fun k3 y => k3 = k1 ∧ y = g j) ∧ Φ k1 (.list ((as).map g))) : WPE F C (.ListComp elt [⟨.Name x px, iter, [], 0⟩] scope pos) ρ k Φ := by
  refine we_compL0 i b hK hfs (h.imp fun k1 d hh => ?_)
  obtain ⟨as, e, hz, hb, hf⟩ := hh
  refine ⟨fun j k2 acc => k2 = k1 ∧ acc = (as.take j).map g, as.map ei, e, by rw [List.length_map]; exact hz, ⟨rfl, by simp⟩, ?_, ?_⟩
  · rintro D j y k2 acc hy ⟨rfl, rfl⟩
    rw [List.getElem?_map] at hy
    cases ha' : as[j]? with
    | none => rw [ha'] at hy; cases hy
    | some a' =>
    rw [ha'] at hy
    cases hy
    have tn := take_next ha'
    refine (hb D _ (List.mem_of_getElem? ha')).imp fun k4 y' ⟨e1, e2⟩ => ⟨e1, ?_⟩
    rw [tn, e2, List.map_append]; rfl
  · rintro k2 acc ⟨rfl, rfl⟩
    rw [List.length_map, List.take_length]; exact hf
theorem we_fL (p : α → Bool) (ei : α → PyData) (g : α → PyData) (i : Nat) {x : Str} {px : Pos} {c : Expr} (b : Blk C scope i x) (hK : F.K = C.K) (hfs : ∀ (env : Env) (v : Value), foldedSetIterable iter env v = pure v)
    (h : WPE F C iter ρ k fun k1 d => ∃ as : List α, d = .list (as.map ei) ∧ as.length ≤ 1000000 ∧ (∀ D (j : α), j ∈ as → WPT (F.ext D) (C.blk scope) c (ρ.set i (.d (ei j))) k1 fun k2 b => k2 = k1 ∧ b = p j ∧ (b = true → WPE (F.ext D) (C.blk scope) elt (ρ.set i (.d (ei j))) k1 fun k3 y => k3 = k1 ∧ y = g j)) ∧ Φ k1 (.list (((as).filter p).map g))) : WPE F C (.ListComp elt [⟨.Name x px, iter, [c], 0⟩] scope pos) ρ k Φ := by
  refine we_compL1 i b hK hfs (h.imp fun k1 d hh => ?_)
  obtain ⟨as, e, hz, hb, hf⟩ := hh
  refine ⟨fun j k2 acc => k2 = k1 ∧ acc = ((as.take j).filter p).map g, as.map ei, e, by rw [List.length_map]; exact hz, ⟨rfl, by simp⟩, ?_, ?_⟩
  · rintro D j y k2 acc hy ⟨rfl, rfl⟩
    rw [List.getElem?_map] at hy
    cases ha' : as[j]? with
    | none => rw [ha'] at hy; cases hy
    | some a' =>
    rw [ha'] at hy
    cases hy
    have tn := take_next ha'
    refine (hb D _ (List.mem_of_getElem? ha')).imp fun k3 c' hc => ?_
    obtain ⟨rfl, ec, hel⟩ := hc
    cases c' with
    | true =>
      rw [if_pos rfl]
      refine (hel rfl).imp fun k4 y' ⟨e1, e2⟩ => ⟨e1, ?_⟩
      rw [tn, List.filter_append, List.map_append, e2, List.filter_cons, if_pos ec.symm]; rfl
    | false =>
      rw [if_neg Bool.false_ne_true]
      refine ⟨rfl, ?_⟩
      rw [tn, List.filter_append, List.map_append, List.filter_cons, if_neg (by rw [← ec]; exact Bool.false_ne_true)]; simp
  · rintro k2 acc ⟨rfl, rfl⟩
    rw [List.length_map, List.take_length]; exact hf
theorem we_mT (ei : α → PyData) (g : α → PyData) (i : Nat) {x : Str} {px : Pos} (b : Blk C scope i x) (hK : F.K = C.K) (hfs : ∀ (env : Env) (v : Value), foldedSetIterable iter env v = pure v)
    (h : WPE F C iter ρ k fun k1 d => ∃ as : List α, d = .tuple (as.map ei) ∧ as.length ≤ 1000000 ∧ (∀ D (j : α), j ∈ as → WPE (F.ext D) (C.blk scope) elt (ρ.set i (.d (ei j))) k1 fun k3 y => k3 = k1 ∧ y = g j) ∧ Φ k1 (.list ((as).map g))) : WPE F C (.ListComp elt [⟨.Name x px, iter, [], 0⟩] scope pos) ρ k Φ := by
  refine we_compT0 i b hK hfs (h.imp fun k1 d hh => ?_)
  obtain ⟨as, e, hz, hb, hf⟩ := hh
  refine ⟨fun j k2 acc => k2 = k1 ∧ acc = (as.take j).map g, as.map ei, e, by rw [List.length_map]; exact hz, ⟨rfl, by simp⟩, ?_, ?_⟩
  · rintro D j y k2 acc hy ⟨rfl, rfl⟩
    rw [List.getElem?_map] at hy
    cases ha' : as[j]? with
    | none => rw [ha'] at hy; cases hy
    | some a' =>
    rw [ha'] at hy
    cases hy
    have tn := take_next ha'
    refine (hb D _ (List.mem_of_getElem? ha')).imp fun k4 y' ⟨e1, e2⟩ => ⟨e1, ?_⟩
    rw [tn, e2, List.map_append]; rfl
  · rintro k2 acc ⟨rfl, rfl⟩
    rw [List.length_map, List.take_length]; exact hf
theorem we_fT (p : α → Bool) (ei : α → PyData) (g : α → PyData) (i : Nat) {x : Str} {px : Pos} {c : Expr} (b : Blk C scope i x) (hK : F.K = C.K) (hfs : ∀ (env : Env) (v : Value), foldedSetIterable iter env v = pure v)
    (h : WPE F C iter ρ k fun k1 d => ∃ as : List α, d = .tuple (as.map ei) ∧ as.length ≤ 1000000 ∧ (∀ D (j : α), j ∈ as → WPT (F.ext D) (C.blk scope) c (ρ.set i (.d (ei j))) k1 fun k2 b => k2 = k1 ∧ b = p j ∧ (b = true → WPE (F.ext D) (C.blk scope) elt (ρ.set i (.d (ei j))) k1 fun k3 y => k3 = k1 ∧ y = g j)) ∧ Φ k1 (.list (((as).filter p).map g))) : WPE F C (.ListComp elt [⟨.Name x px, iter, [c], 0⟩] scope pos) ρ k Φ := by
  refine we_compT1 i b hK hfs (h.imp fun k1 d hh => ?_)
  obtain ⟨as, e, hz, hb, hf⟩ := hh
  refine ⟨fun j k2 acc => k2 = k1 ∧ acc = ((as.take j).filter p).map g, as.map ei, e, by rw [List.length_map]; exact hz, ⟨rfl, by simp⟩, ?_, ?_⟩
  · rintro D j y k2 acc hy ⟨rfl, rfl⟩
    rw [List.getElem?_map] at hy
    cases ha' : as[j]? with
    | none => rw [ha'] at hy; cases hy
    | some a' =>
    rw [ha'] at hy
    cases hy
    have tn := take_next ha'
    refine (hb D _ (List.mem_of_getElem? ha')).imp fun k3 c' hc => ?_
    obtain ⟨rfl, ec, hel⟩ := hc
    cases c' with
    | true =>
      rw [if_pos rfl]
      refine (hel rfl).imp fun k4 y' ⟨e1, e2⟩ => ⟨e1, ?_⟩
      rw [tn, List.filter_append, List.map_append, e2, List.filter_cons, if_pos ec.symm]; rfl
    | false =>
      rw [if_neg Bool.false_ne_true]
      refine ⟨rfl, ?_⟩
      rw [tn, List.filter_append, List.map_append, List.filter_cons, if_neg (by rw [← ec]; exact Bool.false_ne_true)]; simp
  · rintro k2 acc ⟨rfl, rfl⟩
    rw [List.length_map, List.take_length]; exact hf
theorem we_mR (g : Int → PyData) (i : Nat) {x : Str} {px : Pos} (b : Blk C scope i x) {e : Expr} {pr pr2 : Pos} (hg : C.sc.names.lookup ("range" : Str) = some .globalImplicit) (hm : C.mg ("range" : Str) = none) (hse : ∀ env : Env, starEach [e] env = [(false, eval e env)]) (hfs : ∀ (env : Env) (v : Value), foldedSetIterable (.Call (.Name "range" pr) [e] [] pr2) env v = pure v)
    (h : WPE F C e ρ k fun k1 d => ∃ z : Int, d = .int z ∧ -(2 ^ 62) ≤ z ∧ z ≤ 1000000 ∧ (∀ D (j : Int), 0 ≤ j → j < z → WPE (F.ext D) (C.blk scope) elt (ρ.set i (.d (.int j))) k1 fun k3 y => k3 = k1 ∧ y = g j) ∧ Φ k1 (.list ((rg z).map g))) : WPE F C (.ListComp elt [⟨.Name x px, (.Call (.Name "range" pr) [e] [] pr2), [], 0⟩] scope pos) ρ k Φ := by
  refine we_compR0 i b hg hm hse hfs (h.imp fun k1 d hh => ?_)
  obtain ⟨z, e, z1, z2, hb, hf⟩ := hh
  refine ⟨fun j k2 acc => k2 = k1 ∧ acc = (rg (j : Int)).map g, z, e, z1, z2, ⟨rfl, rfl⟩, ?_, ?_⟩
  · rintro D j k2 acc hj ⟨rfl, rfl⟩
    have tn : rg ((j + 1 : Nat) : Int) = rg (j : Int) ++ [(j : Int)] := by rw [show ((j + 1 : Nat) : Int) = (j : Int) + 1 by omega, rg_succ]
    refine (hb D _ (by omega) (by omega)).imp fun k4 y' ⟨e1, e2⟩ => ⟨e1, ?_⟩
    rw [tn, e2, List.map_append]; rfl
  · rintro k2 acc ⟨rfl, rfl⟩
    have ez : rg ((z.toNat : Nat) : Int) = rg z := by unfold rg; congr 2
    rw [ez]; exact hf
theorem we_fR (p : Int → Bool) (g : Int → PyData) (i : Nat) {x : Str} {px : Pos} {c : Expr} (b : Blk C scope i x) {e : Expr} {pr pr2 : Pos} (hg : C.sc.names.lookup ("range" : Str) = some .globalImplicit) (hm : C.mg ("range" : Str) = none) (hse : ∀ env : Env, starEach [e] env = [(false, eval e env)]) (hfs : ∀ (env : Env) (v : Value), foldedSetIterable (.Call (.Name "range" pr) [e] [] pr2) env v = pure v)
    (h : WPE F C e ρ k fun k1 d => ∃ z : Int, d = .int z ∧ -(2 ^ 62) ≤ z ∧ z ≤ 1000000 ∧ (∀ D (j : Int), 0 ≤ j → j < z → WPT (F.ext D) (C.blk scope) c (ρ.set i (.d (.int j))) k1 fun k2 b => k2 = k1 ∧ b = p j ∧ (b = true → WPE (F.ext D) (C.blk scope) elt (ρ.set i (.d (.int j))) k1 fun k3 y => k3 = k1 ∧ y = g j)) ∧ Φ k1 (.list (((rg z).filter p).map g))) : WPE F C (.ListComp elt [⟨.Name x px, (.Call (.Name "range" pr) [e] [] pr2), [c], 0⟩] scope pos) ρ k Φ := by
  refine we_compR1 i b hg hm hse hfs (h.imp fun k1 d hh => ?_)
  obtain ⟨z, e, z1, z2, hb, hf⟩ := hh
  refine ⟨fun j k2 acc => k2 = k1 ∧ acc = ((rg (j : Int)).filter p).map g, z, e, z1, z2, ⟨rfl, rfl⟩, ?_, ?_⟩
  · rintro D j k2 acc hj ⟨rfl, rfl⟩
    have tn : rg ((j + 1 : Nat) : Int) = rg (j : Int) ++ [(j : Int)] := by rw [show ((j + 1 : Nat) : Int) = (j : Int) + 1 by omega, rg_succ]
    refine (hb D _ (by omega) (by omega)).imp fun k3 c' hc => ?_
    obtain ⟨rfl, ec, hel⟩ := hc
    cases c' with
    | true =>
      rw [if_pos rfl]
      refine (hel rfl).imp fun k4 y' ⟨e1, e2⟩ => ⟨e1, ?_⟩
      rw [tn, List.filter_append, List.map_append, e2, List.filter_cons, if_pos ec.symm]; rfl
    | false =>
      rw [if_neg Bool.false_ne_true]
      refine ⟨rfl, ?_⟩
      rw [tn, List.filter_append, List.map_append, List.filter_cons, if_neg (by rw [← ec]; exact Bool.false_ne_true)]; simp
  · rintro k2 acc ⟨rfl, rfl⟩
    have ez : rg ((z.toNat : Nat) : Int) = rg z := by unfold rg; congr 2
    rw [ez]; exact hf
end
end Dl

namespace Dl
open PySem PySem.Spec PyProof.Rows L2
/-! ### the laws' draws: a list [cells, count, rests] -/
def DkM (st a r : Addr) (b : Addr) : Prop := b = st ∨ b = a ∨ b = r
def DkG (st a r : Addr) (k : Nat) (H : Hp) : Prop := ∃ (cells rests : List Int) (n : Int), H st = some (.lst [.ref a, .int n, .ref r]) ∧ H a = some (.lst (cells.map V.int)) ∧ H r = some (.lst (rests.map V.int)) ∧
  cells.length = rests.length ∧ 0 < cells.length ∧ 0 ≤ n ∧ n + k ≤ 1000000
theorem DkG.weak {st a r : Addr} {k k' : Nat} {H : Hp} (h : DkG st a r k H) (hk : k' ≤ k) : DkG st a r k' H := by
  obtain ⟨c, rs, n, h1, h2, h3, h4, h5, h6, h7⟩ := h
  exact ⟨c, rs, n, h1, h2, h3, h4, h5, h6, by omega⟩
theorem DkG.at {st a r : Addr} {k : Nat} {H H' : Hp} (h : DkG st a r k H) (e : ∀ b, DkM st a r b → H' b = H b) : DkG st a r k H' := by
  obtain ⟨c, rs, n, h1, h2, h3, h4⟩ := h
  exact ⟨c, rs, n, (e st (.inl rfl)).trans h1, (e a (.inr (.inl rfl))).trans h2, (e r (.inr (.inr rfl))).trans h3, h4⟩
theorem DkG.live {st a r : Addr} {k : Nat} {H : Hp} (h : DkG st a r k H) (b : Addr) (hb : DkM st a r b) : H b ≠ none := by
  obtain ⟨c, rs, n, h1, h2, h3, h4⟩ := h
  rcases hb with rfl | rfl | rfl
  · rw [h1]; exact fun z => nomatch z
  · rw [h2]; exact fun z => nomatch z
  · rw [h3]; exact fun z => nomatch z
theorem DkG.lv {st a r : Addr} {k : Nat} {H : Hp} (h : DkG st a r k H) (b : Addr) (hb : DkM st a r b) : Lv H b := by
  obtain ⟨c, rs, n, h1, h2, h3, h4⟩ := h
  rcases hb with rfl | rfl | rfl
  · exact lv_lst h1
  · exact lv_lst h2
  · exact lv_lst h3
def dkFm (K : PySem.W.Frag) (S : Addr → Prop) (H : Hp) (st a r : Addr) : Fm where
  K := K
  S := fun b => S b ∨ DkM st a r b
  M := DkM st a r
  H0 := H
  G := DkG st a r
  ms := fun b h => .inr h
  gm := fun k H H' g e _ => g.at e
  gl := fun k H g b hb => g.live b hb
/-- the frame knows the draws -/
structure IsDk (F : Fm) (st a r : Addr) : Prop where
  M : F.M = DkM st a r
  G : F.G = DkG st a r
theorem IsDk.ext {F : Fm} {st a r : Addr} (h : IsDk F st a r) (D : Addr) : IsDk (F.ext D) st a r := ⟨h.M, h.G⟩
/-- a def that draws: at most `cost` draws; Pre of its data, R what it may hand back -/
def spDraw (K : PySem.W.Frag) (cost : Nat) (Pre : List PyData → Prop) (R : Rel) : Sp := fun vs H Q _ => ∃ (S : Addr → Prop) (st a r : Addr) (vs' : List V) (ds : List PyData) (k : Nat), vs = .ref st :: vs' ∧ DkG st a r (k + cost) H ∧ (∀ b, S b → Lv H b) ∧ (∀ b, DkM st a r b → S b) ∧ RepAll K S H vs' ds ∧ Pre ds ∧
  ∀ v d H', (∀ b o, ¬ DkM st a r b → H b = some o → H' b = some o) → DkG st a r k H' → Rep K S H' v d → R ds d → Q v H'
structure DFn (P : Program) (w : World) (K : PySem.W.Frag) (mg : Str → Option Value) (base : Heap) (lvl : Nat) (x : Str) (cost : Nat) (Pre : List PyData → Prop) (R : Rel) : Prop where
  ex : ∃ (fa : Addr) (fd : FuncData) (ps : List Str), FnG P w K mg base lvl fa fd ps (spDraw K cost Pre R) ∧ mg x = some (.ref fa) ∧ PySem.W.keepIn K (.ref fa) = true ∧ L2.Binds K fd ps []
section
variable {P : Program} {w : World} {K : PySem.W.Frag} {mg : Str → Option Value} {base : Heap}
theorem env_raw {F : Fm} {H : Hp} {N : List Str} {v : V} {vs : List V} {ds : List PyData} (r : RpAll F H vs ds) : EnvOk F H (L2.start N (v :: vs)) (.raw v :: (ds.map SV.d ++ List.replicate (N.length - (ds.length + 1)) SV.un)) := fun i sv e => by
  have hl := r.length
  unfold L2.start
  cases i with
  | zero => cases e; exact ⟨some v, rfl, rfl⟩
  | succ i =>
    have e' : (ds.map SV.d ++ List.replicate (N.length - (ds.length + 1)) SV.un)[i]? = some sv := e
    show ∃ x, ((vs.map some) ++ List.replicate (N.length - (vs.length + 1)) none)[i]? = some x ∧ SlotOk F H sv x
    by_cases hi : i < ds.length
    · rw [List.getElem?_append_left (by simpa using hi), List.getElem?_map, List.getElem?_eq_getElem hi] at e'
      cases e'
      obtain ⟨u, hu, ru⟩ := r.get (List.getElem?_eq_getElem hi)
      refine ⟨some u, ?_, u, rfl, ru⟩
      rw [List.getElem?_append_left (by simpa [hl] using hi), List.getElem?_map, hu]; rfl
    · rw [List.getElem?_append_right (by simpa using hi)] at e'
      rw [List.getElem?_append_right (by simp; omega)]
      simp only [List.length_map] at e' ⊢
      rw [List.getElem?_replicate] at e' ⊢
      rw [hl]
      by_cases hj : i - ds.length < N.length - (ds.length + 1)
      · rw [if_pos hj] at e' ⊢
        cases e'
        exact ⟨none, rfl, trivial⟩
      · rw [if_neg hj] at e'; cases e'
def drawFm (K : PySem.W.Frag) (S : Addr → Prop) (H : Hp) (st a r : Addr) (hS : ∀ b, DkM st a r b → S b) : Fm where
  K := K
  S := S
  M := DkM st a r
  H0 := H
  G := DkG st a r
  ms := hS
  gm := fun k H H' g e _ => g.at e
  gl := fun k H g b hb => g.live b hb
end
section
variable {F : Fm} {C : Cs} {ρ : Rho} {k : Nat} {Φ : Nat → PyData → Prop} {es : List Expr} {pos p py : Pos} {x y : Str}
end
end Dl

namespace Dl
open PySem PySem.Spec PyProof.Rows L2
/-! ### data whose repr is within the line -/
structure Fine (n dp : Nat) (d : PyData) : Prop where
  sh : d.showable = true
  nd : d.hasDict = false
  dp : d.depth ≤ dp
  sz : d.shown.length ≤ n
theorem Fine.ok {n dp : Nat} {d : PyData} (h : Fine n dp d) (hn : n ≤ 16000000 := by decide) (hd : dp ≤ 60 := by decide) : d.showable = true ∧ d.hasDict = false ∧ d.depth ≤ 60 ∧ d.shown.length ≤ sizeLine :=
  ⟨h.sh, h.nd, Nat.le_trans h.dp hd, Nat.le_trans h.sz (Nat.le_trans hn (by decide))⟩
theorem Fine.mono {n n' dp dp' : Nat} {d : PyData} (h : Fine n dp d) (hn : n ≤ n') (hd : dp ≤ dp') : Fine n' dp' d := ⟨h.sh, h.nd, Nat.le_trans h.dp hd, Nat.le_trans h.sz hn⟩
section
variable {n dp : Nat}
end
/-! ### the law's own end, where its first statement makes the draws -/
def spDraws (K : PySem.W.Frag) : Sp := fun vs H Q _ => ∃ (sc : Addr) (ns : List Int), vs = [.ref sc] ∧ SqL K H sc (ns.map V.int) ∧ ns.length ≤ 63 ∧
  ∀ H' st a r, Same H H' → H st = none → H a = none → H r = none → DkG st a r 900000 H' → Q (.ref st) H'
def spLaw (K : PySem.W.Frag) : Sp := fun vs H Q _ => ∃ (sc : Addr) (ns : List Int), vs = [.ref sc] ∧ SqL K H sc (ns.map V.int) ∧ ns.length ≤ 63 ∧ ∀ H', Q (.bl true) H'
section
variable {P : Program} {w : World} {K : PySem.W.Frag} {mg : Str → Option Value} {base : Heap}
end
end Dl

namespace Dl
open PySem PySem.Spec PyProof.Rows L2
/-! ### a list of the def's own, that grows -/
def plainB : SV → Bool
  | .own _ _ => false
  | _ => true
theorem noOwn_of {ρ : Rho} {i : Nat} (h : (ρ.set i .un).all plainB = true) (j : Nat) (o : Addr) (xs : List PyData) (hj : j ≠ i) (e : ρ[j]? = some (.own o xs)) : False := by
  have e' : (ρ.set i .un)[j]? = some (.own o xs) := by rw [List.getElem?_set_ne (Ne.symm hj)]; exact e
  have := List.all_eq_true.mp h _ (List.mem_of_getElem? e')
  cases this
section
variable {F : Fm} {C : Cs} {ρ : Rho} {k : Nat} {P : DE} {Φ : Nat → PyData → Prop} {pos p px p2 ap cp : Pos} {x : Str} {rest : List Stmt} {e : Expr}
theorem wb_own (i : Nat) (t : Tgt C i x) (hi : i < ρ.length) (hs : ∀ env : Env, env.scope = C.sc → swapsWith (.List [] p2) (some (.Name x px)) pos.line env = pure false)
    (h : ∀ o, WPB (F.ext o) C rest (ρ.set i (.own o [])) k { nx := fun _ _ => False, rt := P.rt, bk := fun _ _ => False, ct := fun _ _ => False }) : WPB F C (.Assign [.Name x px] (.List [] p2) pos :: rest) ρ k P :=
  of_pb (fun X fx => pss_cons (ps_set (by rw [fx.N]; exact t.hN) (by rw [fx.N]; exact t.hi) (by rw [fx.sc]; exact t.hx) (pe_lst pa_nil) (hs X.env fx.sc) (by rw [fx.fn, fx.sc]; exact t.hf)) (pbB fx)) fun σ H E en j q1 q2 q3 q4 => by
    refine ⟨Nat.zero_le _, fun o no => ?_⟩
    have hM : ¬ F.M o := fun z => F.gl _ _ j.g o z no
    have h0 : F.H0 o = none := j.h0 hM no
    have en2 : EnvOk (F.ext o) (upd H o (.lst [])) (σ.set i (some (.ref o))) (ρ.set i (.own o [])) :=
      (en.ext no).set (sv := .own o []) ⟨rfl, .inr rfl, hM, h0, [], upd_same, .nil⟩
    refine h o (σ.set i (some (.ref o))) (upd H o (.lst [])) E en2 ((j.new no).ext (lv_new fun _ z => nomatch z)) ?_ ?_ ?_ ?_
    · exact fun _ _ _ _ _ _ _ z => z.elim
    · exact fun v d k' H' j' r' p => q2 v d k' H' j'.unext r'.unext p
    · exact fun _ _ _ _ _ _ _ z => z.elim
    · exact fun _ _ _ _ _ _ _ z => z.elim
theorem EnvOk.own {H : Hp} {σ : L2.St} {i : Nat} {o : Addr} {xs : List PyData} (en : EnvOk F H σ ρ) (e : ρ[i]? = some (.own o xs)) : σ[i]? = some (some (.ref o)) ∧ F.S o ∧ ¬ F.M o ∧ F.H0 o = none ∧ ∃ vs, H o = some (.lst vs) ∧ RpAll F H vs xs := by
  obtain ⟨y, q, h1, h2⟩ := en i _ e
  exact ⟨by rw [q, h1], h2⟩
/-- the own list becomes another one -/
theorem EnvOk.ownSet {H : Hp} {σ : L2.St} {i : Nat} {o : Addr} {xs ys : List PyData} {ws : List V} (en : EnvOk F H σ ρ) (e : ρ[i]? = some (.own o xs)) (hno : (ρ.set i .un).all plainB = true) (r : RpAll F H ws ys) : EnvOk F (upd H o (.lst ws)) σ (ρ.set i (.own o ys)) := by
  obtain ⟨hσ, hS, hM, h0, vs, hv, rv⟩ := en.own e
  have lz : ∀ b u, ¬ F.S b → H b = some u → (upd H o (.lst ws)) b = some u := fun b u hb z => by rw [upd_ne (show b ≠ o from fun y => hb (y ▸ hS))]; exact z
  intro j sv ej
  by_cases hj : i = j
  · subst hj
    have hl : i < ρ.length := (List.getElem?_eq_some_iff.mp e).1
    rw [List.getElem?_set_self hl] at ej
    cases ej
    exact ⟨_, hσ, rfl, hS, hM, h0, ws, upd_same, RepAll.keep lz (fun _ _ z => z) _ _ r⟩
  · rw [List.getElem?_set_ne hj] at ej
    obtain ⟨y, q, s⟩ := en j sv ej
    refine ⟨y, q, ?_⟩
    cases sv with
    | un => trivial
    | d d => obtain ⟨v, z, r⟩ := s; exact ⟨v, z, Rep.keep lz (fun _ _ z => z) _ _ r⟩
    | raw v => exact s
    | own o' xs' => exact (noOwn_of hno j o' xs' (Ne.symm hj) ej).elim
theorem ws_append (i : Nat) {o : Addr} {xs : List PyData} (hN : C.N[i]? = some x) (hv : Vis C.sc x) (hr : ρ[i]? = some (.own o xs)) (hno : (ρ.set i .un).all plainB = true) (hz : xs.length ≤ 1000000)
    (hse : ∀ env : Env, starEach [e] env = (false, eval e env) :: starEach [] env) (h : WPE F C e ρ k fun k1 d => P.nx k1 (ρ.set i (.own o (xs ++ [d]))))
    (hsw : ∀ env : Env, swapsWith (.Call (.Attribute (.Name x px) "append" ap) [e] [] cp) none pos.line env = pure false) (hd : (x == ("__debug__" : Str)) = false := by decide) (hcd : (x == ("__classdict__" : Str)) = false := by decide)
    (hbm : ∀ X : Cx, ∀ {to : TE} {t : TA}, PE X (.Name x px) to → PA X [e] t → PE X (.Call (.Attribute (.Name x px) "append" ap) [e] [] cp) (tBM X.K "list" rAppend to t) := by exact fun X {to t} h1 h2 => pe_bm PySem.F.plainAttrs_list PySem.F.slot_list_append PySem.F.type_list_append mt_append h1 h2) :
    WPS F C (.Expr (.Call (.Attribute (.Name x px) "append" ap) [e] [] cp) pos) ρ k P :=
  of_ps (t := tDrop (tBM C.K "list" rAppend (tVar i) (tCons (tE C e) tNil))) (fun X fx => ps_expr (by rw [← fx.K]; exact hbm X (pe_var (by rw [fx.N]; exact hN) (by rw [fx.sc]; exact hv) hd hcd) (pa_cons (peE fx) pa_nil (hse X.env))) (hsw X.env)) fun σ H E en j q1 q2 q3 q4 => by
    obtain ⟨hσ, hS, hM, h0, vs, hv', rv⟩ := en.own hr
    refine ⟨_, hσ, .inl ⟨rfl, _, SqL.of hv'⟩, ?_⟩
    show tE C e σ H _
    refine h σ H _ en j fun v d k1 H1 l1 j1 r1 p => ?_
    have hv1 : H1 o = some (.lst vs) := l1 o _ (Fm.mxA hM) hv'
    refine ⟨o, vs, v, rfl, rfl, hv1, ?_, ?_⟩
    · rw [rv.length]; exact Nat.lt_of_le_of_lt hz (by decide)
    · refine q1 _ σ k1 _ ?_ ((en.le l1).ownSet hr hno ((rv.le l1.lz).append (.cons r1 .nil))) (j1.own hM h0 (pl_lst (l1 o _ (Fm.mxA hM) hv'))) p
      exact fun b u hb z => by rw [upd_ne (show b ≠ o from fun y => hb (.inl (y ▸ hS)))]; exact l1.lz b u hb z
/-- tuple(x), x the own list -/
theorem we_tupOwn (i : Nat) {o : Addr} {xs : List PyData} (hK : F.K = C.K) (hN : C.N[i]? = some x) (hv : Vis C.sc x) (hr : ρ[i]? = some (.own o xs)) (hg : C.sc.names.lookup ("tuple" : Str) = some .globalImplicit) (hm : C.mg ("tuple" : Str) = none)
    (h : Φ k (.tuple xs)) (hd : (x == ("__debug__" : Str)) = false := by decide) (hcd : (x == ("__classdict__" : Str)) = false := by decide) (hse : ∀ env : Env, starEach [.Name x px] env = (false, eval (.Name x px) env) :: starEach [] env := by intro _; rfl) : WPE F C (.Call (.Name "tuple" p) [.Name x px] [] pos) ρ k Φ :=
  of_pe (fun X fx => pe_callTy (tupK fx) (by show X.env.scope.names.lookup ("tuple" : Str) = _; rw [fx.sc]; exact hg) (by rw [fx.mg]; exact hm) (by decide +kernel) (pa_cons (pe_var (i := i) (by rw [fx.N]; exact hN) (by rw [fx.sc]; exact hv) hd hcd) pa_nil (hse X.env)) (by decide) (by decide) (hse X.env) rfl) fun σ H Q en j q => by
    obtain ⟨hσ, hS, hM, h0, vs, hv', rv⟩ := en.own hr
    refine ⟨_, hσ, o, vs, rfl, .inl ⟨SqL.of hv', fun l hl => ?_⟩⟩
    exact q _ (.tuple xs) k _ (.new hl) (j.new hl) (rep_newT j hl rv) h
theorem lay_ints : ∀ ns : List Int, PyData.canLayAll0 (ns.map PyData.int) = true ∧ PyData.depthAll (ns.map PyData.int) = 0
  | [] => ⟨by simp [PyData.canLayAll0], by simp [PyData.depthAll]⟩
  | n :: ns => by
    obtain ⟨h1, h2⟩ := lay_ints ns
    exact ⟨by simp [PyData.canLayAll0, PyData.canLay0, h1], by simp [PyData.depthAll, PyData.depth, h2]⟩
theorem shaped_intsT (ns : List Int) : SeqAt.shaped (.tuple (ns.map PyData.int)) = true := by
  obtain ⟨h1, h2⟩ := lay_ints ns
  simp [SeqAt.shaped, PyData.canLay0, PyData.depth, h1, h2]
end
end Dl

namespace Dl
open PySem PySem.Spec PyProof.Rows L2
section
variable {F : Fm} {C : Cs} {ρ : Rho} {k : Nat} {P : DE} {Φ : Nat → PyData → Prop} {Ψ : Nat → Bool → Prop} {pos p p1 p2 p3 p4 pr pr2 : Pos} {x : Str} {rest : List Stmt} {e a b : Expr}
/-- a part of the state's slots is forgotten -/
def Forget : Rho → Rho → Prop
  | [], [] => True
  | x :: xs, y :: ys => (y = .un ∨ y = x) ∧ Forget xs ys
  | _, _ => False
theorem Forget.env : ∀ {H : Hp} {σ : L2.St} {ρ ρ' : Rho}, EnvOk F H σ ρ → Forget ρ ρ' → EnvOk F H σ ρ' := by
  intro H σ ρ ρ' en fo i sv e
  have key : ∀ (ρ ρ' : Rho), Forget ρ ρ' → ∀ (i : Nat) sv, ρ'[i]? = some sv → ∃ sv', ρ[i]? = some sv' ∧ (sv = .un ∨ sv = sv') := by
    intro ρ
    induction ρ with
    | nil => intro ρ' f i sv e; cases ρ' with
      | nil => simp at e
      | cons y ys => cases f
    | cons x xs ih => intro ρ' f i sv e; cases ρ' with
      | nil => cases f
      | cons y ys =>
        cases i with
        | zero => cases e; exact ⟨x, rfl, f.1⟩
        | succ i => exact ih ys f.2 i sv e
  obtain ⟨sv', e', h⟩ := key ρ ρ' fo i sv e
  obtain ⟨x, q, s⟩ := en i sv' e'
  rcases h with rfl | rfl
  · exact ⟨x, q, trivial⟩
  · exact ⟨x, q, s⟩
end
end Dl
namespace Dl
open PySem PySem.Spec PyProof.Rows L2
section
variable {F : Fm} {C : Cs} {ρ : Rho} {k : Nat} {P : DE} {st : Stmt} {rest : List Stmt}
/-- a statement, what holds behind it, the rest -/
theorem wb_mid (R : Nat → Rho → Prop) (h1 : WPS F C st ρ k (P.seq R)) (h2 : ∀ k ρ, R k ρ → WPB F C rest ρ k P) : WPB F C (st :: rest) ρ k P :=
  wb_cons (h1.imp h2 (fun _ _ z => z) (fun _ _ z => z) (fun _ _ z => z))
end
end Dl
namespace Dl
open PySem PySem.Spec PyProof.Rows L2
section
variable {F : Fm} {C : Cs} {ρ : Rho} {k : Nat} {Φ : Nat → PyData → Prop} {pos p2 : Pos} {a b e : Expr}
/-- xs + ys, lists -/
theorem we_cat (h : WPE F C a ρ k fun k1 x => WPE F C b ρ k1 fun k2 y => ∃ ds es, x = .list ds ∧ y = .list es ∧ ds.length + es.length ≤ 1000000 ∧ Φ k2 (.list (ds ++ es))) : WPE F C (.BinOp a .Add b pos) ρ k Φ :=
  we_bin (fun X _ => op_cat) (h.imp fun k1 x h1 => h1.imp fun k2 y ⟨ds, es, e1, e2, hz, p⟩ => by
    subst e1 e2
    intro H vx vy Q j rx ry q
    cases rx with
    | @lst a xs _ ha hr =>
    cases ry with
    | @lst b ys _ hb hs =>
    refine ⟨a, b, xs, ys, rfl, rfl, ha.1, hb.1, ?_, fun l hl => q _ _ k2 _ (.new hl) (j.new hl) (rep_newL j hl (hr.append hs)) p⟩
    rw [hr.length, hs.length]; exact Nat.le_trans hz (by decide))
end
end Dl
namespace Dl
open PySem PySem.Spec PyProof.Rows L2
section
variable {F : Fm} {C : Cs} {ρ : Rho} {k : Nat} {Φ : Nat → PyData → Prop} {pos p2 : Pos} {a b e : Expr}
end
end Dl

namespace Dl
open PySem PySem.Spec PyProof.Rows L2
/-! ### set(xs), xs a list of ints -/
abbrev nso (w : World) : Obj := ⟨.type "set", none, .set #[] 0 (.fresh 0 0 (!w.params.followText "set-order")), #[]⟩
abbrev GotSet (w : World) (s : Shared) (ns : List Int) (r : Value) (s2 : Shared) : Prop :=
  r = .none ∧ ∃ h' tk c, s2 = { s with heap := h', toks := tk } ∧ SetR w h' s.heap.objs.size (fun j => decide (j ∈ ns)) c ∧ c ≤ ns.length ∧ ∀ b o, s.heap.get? b = some o → h'.get? b = some o
section
variable {P : Program} {w : World} {A : Around} {E : Value → Shared → Prop} {s : Shared}
set_option maxHeartbeats 3200000 in
end
/-- .. over the layer -/
def rSetL (K : PySem.W.Frag) (w : World) : List V → Hp → VK → Prop := fun vs H Q => ∃ (a : Addr) (ns : List Int), vs = [.ref a] ∧ SqL K H a (ns.map V.int) ∧ ns.length ≤ 1000 ∧
  ∀ p c, H p = none → c ≤ ns.length → Q (.ref p) (upd H p (SetO w p (fun j => decide (j ∈ ns)) c))
section
variable {F : Fm} {C : Cs} {ρ : Rho} {k : Nat} {Φ : Nat → PyData → Prop} {pos p1 p2 p3 : Pos} {e : Expr}
end
end Dl

namespace Dl
open PySem PySem.Spec PyProof.Rows L2
/-! ### a comprehension of two clauses: over a tuple, then over a list made for each item -/
section
variable {F : Fm} {C : Cs} {ρ : Rho} {k : Nat} {Φ : Nat → PyData → Prop} {α β : Type} {Cb : Cs} {iter1 elt : Expr} {tl : TE} {K : PySem.W.Frag}
end
end Dl
namespace Dl
open PySem PySem.Spec PyProof.Rows L2
section
variable {F : Fm} {C : Cs} {ρ : Rho} {k : Nat} {P : DE} {Φ : Nat → PyData → Prop} {pos p px p2 ap cp : Pos} {x : Str} {e : Expr}
end
end Dl

namespace Dl
open PySem PySem.Spec PyProof.Rows L2
/-! ### sorted(x), x the own list of pairs of ints -/
def prD (p : Int × Int) : PyData := .tuple [.int p.1, .int p.2]
def pairAt (H : Hp) : V → Int × Int
  | .ref t => match H t with
    | some (.tup [.int a, .int b]) => (a, b)
    | _ => (0, 0)
  | _ => (0, 0)
section
variable {F : Fm} {C : Cs} {ρ : Rho} {k : Nat} {Φ : Nat → PyData → Prop} {pos p px : Pos} {x : Str}
end
end Dl

namespace Dl
open PySem PySem.Spec PyProof.Rows L2
/-! ### the comprehension of two clauses, given to a name -/
structure Blk2 (C : Cs) (scope : Scope) (i : Nat) (x : Str) (i1 : Nat) (x1 : Str) : Prop where
  ok : BlkOk C.N C.sc scope [(x, i), (x1, i1)]
  t : Tgt (C.blk scope) i x
  t1 : Tgt (C.blk scope) i1 x1
section
variable {F : Fm} {C : Cs} {ρ : Rho} {k : Nat} {Φ : Nat → PyData → Prop} {P : DE} {pos spos : Pos} {elt iter iter1 : Expr} {scope : Scope} {x x1 y : Str} {px px1 py : Pos} {α β : Type}
end
end Dl

namespace Dl
open PySem PySem.Spec PyProof.Rows L2
section
variable {F : Fm} {C : Cs} {ρ : Rho} {k : Nat} {Φ : Nat → PyData → Prop} {P : DE} {pos apos px p2 ap cp : Pos} {o e : Expr} {x : Str} {rest : List Stmt}
/-! ### i.bit_length() -/
/-! ### x = [c] * e, the def's own list -/
end
end Dl
namespace Dl
open PySem PySem.Spec PyProof.Rows L2
section
variable {F : Fm} {C : Cs} {ρ : Rho} {k : Nat} {Φ : Nat → PyData → Prop} {P : DE} {pos apos px px2 p2 ap cp spos : Pos} {o e ie : Expr} {x : Str} {rest : List Stmt}
/-! ### x[i], x the own list -/
/-! ### x[i] = v, x the own list -/
theorem ixN_nat {n j : Nat} (h : j < n) : ixN n (j : Int) = some j := by
  unfold ixN
  simp
  omega
/-! ### x.count(i), a list of ints -/
end
end Dl
namespace Dl
open PySem PySem.Spec PyProof.Rows L2
/-! ### [.. for a, b in a tuple of pairs] -/
section
variable {F : Fm} {C : Cs} {ρ : Rho} {k : Nat} {Φ : Nat → PyData → Prop} {P : DE} {pos spos : Pos} {elt iter : Expr} {scope : Scope} {x x1 y : Str} {px px1 py p3 : Pos} {kk : Nat} {α : Type}
end
end Dl

namespace Dl
open PySem PySem.Spec PyProof.Rows L2
/-! ### sorted(a set of hii), any number of members -/
section
variable {P : Program} {w : World} {A : Around} {E : Value → Shared → Prop} {s : Shared} {a : Addr}
theorem sortedSetAll {S : Int → Bool} {n : Nat} {Q : Value → Shared → Prop} (R : SetR w s.heap a S n) (calm : A.handled = none)
    (hQ : ∀ (t : Shared) (p : Addr) (res : List Value) (c : Nat) (ms : List Int), (∀ b o, s.heap.get? b = some o → t.heap.get? b = some o) → t.gens = s.gens → t.os = s.os → s.heap.objs.size ≤ p →
      t.heap.get? p = some (seqObj "list" res.toArray c) → IntsAre res ms → ms.Pairwise (· < ·) → (∀ i, i ∈ ms ↔ S i = true) → ms.length = n → Q (.ref p) t) :
    wpAny (model P w) A (call (.builtin "sorted") [.ref a]) Q E s := by
  obtain ⟨ob, els, epo, tab, hob, exact1, hdat, gd, nodup, memb, bnd, fit, cnt, ris, led⟩ := R
  refine Calls.call_function_entry PyProof.Rows.kind_sorted PyProof.Rows.plain_sorted PyProof.Rows.entry_sorted (PyProof.Rows.args_sorted1 _) ?_
  unfold Builtin.«sorted»
  refine wpAny_bind (m := checkCount "sorted" 1 1 _) (wpAny_pure (wpAny_bind (collect_set (A := A.in1) calm ⟨ob, hob, exact1.1, hdat⟩ fit bnd ris led fun s1 vs kp sz gs os pm => ?_)))
  have vlen : vs.length = n := (pm.length_eq.trans ((List.length_map _).trans Array.length_toList)).trans cnt
  have small : n < 4096 := cnt ▸ bnd
  have hii : IntsAre vs (vs.map Builtin.Re.reRawOf) := ints_of vs fun v hv => by
    obtain ⟨e, he, rfl⟩ := List.mem_map.mp (pm.mem_iff.mp hv)
    obtain ⟨k, tk, h1, _⟩ := gd e he
    exact ⟨k, tk, h1⟩
  have pkeys : (vs.map Builtin.Re.reRawOf).Perm (els.toList.map keyOf) := by
    have z := pm.map Builtin.Re.reRawOf
    rwa [List.map_map] at z
  have lim : vs.length ≤ sizeLine := by rw [vlen, sizeLine_eq]; omega
  refine wpAny_bind (wpAny_newList ?_ (by rw [vlen, sizeLine_eq]; omega))
  have here : (s1.heap.push (seqObj "list" vs.toArray 0)).get? s1.heap.objs.size = some (seqObj "list" vs.toArray 0) := Heap.get?_push_size _ rfl
  refine wpAny_bind (wpAny_holding (wpAny_call_entry PyProof.Rows.slot_list_sort ⟨_, here, rfl⟩ PyProof.Rows.entry_list_sort (SrtO.list_sort_ord SrtO.swo_int here lim (fun h2 => SrtO.ints_sortable hii h2) fun res r1 r2 => ⟨_, rfl, ?_⟩) (PyProof.Rows.args_list_sort _)))
  obtain ⟨z1, z2, z3⟩ := SrtO.ints_out hii r1 r2
  obtain ⟨c, hc⟩ := PyProof.Rows.sortedHeap_at (vs := vs) (out := res.toArray) here
  have pfin := z2.trans pkeys
  refine wpAny_pure ⟨_, rfl, hQ _ s1.heap.objs.size res c (res.map SrtO.iv) (fun b u e => ?_) gs os sz hc z1 (lt_of_le_nodup _ z3 (pfin.nodup_iff.mpr nodup)) (fun i => (pfin.mem_iff).trans (memb i).symm) ?_⟩
  · have old := kp b u e
    have blt := Heap.lt_size old
    show (sortedHeap (s1.heap.push (seqObj "list" vs.toArray 0)) s1.heap.objs.size vs res.toArray).get? b = _
    rw [PyProof.Rows.sortedHeap_old (Nat.ne_of_lt blt) (by rw [Heap.size_push]; exact Nat.lt_succ_of_lt blt)]
    exact Heap.get?_push_of_some _ old
  · exact (pfin.length_eq.trans ((List.length_map _).trans Array.length_toList)).trans cnt
end
def rSortSetA (w : World) : List V → Hp → VK → Prop := fun vs H Q => ∃ (a : Addr) (S : Int → Bool) (n : Nat), vs = [V.ref a] ∧ H a = some (SetO w a S n) ∧
  ∀ (ms : List Int) (p : Addr), ms.Pairwise (· < ·) → (∀ i : Int, i ∈ ms ↔ S i = true) → ms.length = n → H p = none → Q (.ref p) (upd H p (.lst (ms.map V.int)))
theorem cr_sortSetA {X : Cx} (hc : X.calm = true) : CallR X (.builtin "sorted") (rSortSetA X.w) := by
  intro pins s σ H vs us Q I r h
  obtain ⟨a, S, n, rfl, ha, q⟩ := h
  have R := setO_get I ha
  have nb : n < 4096 := by
    obtain ⟨_, els, _, _, _, _, _, _, _, _, bnd, _, cnt, _⟩ := R
    exact cnt ▸ bnd
  rw [Vals.ref1 r]
  refine sortedSetAll R (I.ok.hd hc) fun t p res c ms kp gs os sz at1 hii asc mem len => ?_
  have fits : (ms.map V.int).length ≤ sizeLine := by rw [List.length_map, len, sizeLine_eq]; omega
  have fresh : H p = none := I.hok.fresh sz
  have J1 : Inv X pins σ (upd H p (.lst (ms.map V.int))) { s with heap := t.heap, gens := t.gens, drawn := t.drawn, toks := t.toks } :=
    I.call (ch := []) (Un.laid kp sz fresh) (I.hok.laid kp sz ⟨fits, res, c, vals_of_ints hii, at1⟩) (by rw [gs]; exact I.bare) (fun _ z => nomatch z)
  have same : t = { s with heap := t.heap, gens := t.gens, drawn := t.drawn, toks := t.toks } := by
    cases t; cases s; cases os; rfl
  rw [same]
  exact ⟨.ref p, _, J1, rfl, q ms p asc mem len fresh⟩
/-! ### {elt for x in iter if ..}, elt an int -/
section
variable {X : Cx}
def tSci (w : World) (wi : TI) (g : TG) (tt : TT) (te : TE) (vs : List Nat) : TE := fun σ H Q => wi σ H fun J H1 => ∀ D, H1 D = none →
  ∃ W : Nat → Nat → Hp → Prop, (∃ m, W 0 m (upd H1 D (SetO w D (fun _ => false) 0))) ∧ ∀ i m H, W i m H → (J.stop i H ∧ Q (.ref D) H) ∨
    (J.go i H ∧ ∃ Nx : Hp → Prop, (∀ H', Nx H' → ∃ m', m' < m ∧ W (i + 1) m' H') ∧ ∀ x H', J.yld i H x H' → g x (wipe σ vs) H' fun σ2 H2 => wipe σ2 vs = wipe σ vs ∧ tt σ2 H2 fun b H3 =>
      if b = true then te σ2 H3 fun y H4 => ∃ (c : Int) (S : Int → Bool) (n : Nat), y = .int c ∧ H4 D = some (SetO w D S n) ∧ n + 1 < scanBound ∧ Nx (upd H4 D (SetO w D (fun j => S j || decide (j = c)) (if S c = true then n else n + 1))) else Nx H3)
set_option maxHeartbeats 4000000 in
theorem sci_core {pins : List (Addr × Obj)} {s : Shared} {σ : L2.St} {H : Hp} {Q : VK} {elt tg iter : Expr} {ifs : List Expr} {scope : Scope} {own : List (PySem.Str × Nat)} {pos pos' : Pos} {wi : TI} {g : TG} {tt : TT} {te : TE} {use : Option (Value → Sem Unit)} {Qf : Value → Shared → Prop}
    (calm : X.calm = true) (nodup : X.N.Nodup) (Iv : Inv X pins σ H s) (hit : PI X tg iter wi) (bok : BlkOk X.N X.env.scope scope own)
    (hg : ∀ (s : Shared) (H : Hp) (B : Addr) (cl : List (PySem.Str × Addr)) (fp : List Addr), PG (X.blk s H scope (compEnvC scope cl B X.env) fp) tg g)
    (ht : ∀ (s : Shared) (H : Hp) (B : Addr) (cl : List (PySem.Str × Addr)) (fp : List Addr), PTs (X.blk s H scope (compEnvC scope cl B X.env) fp) ifs tt)
    (he : ∀ (s : Shared) (H : Hp) (B : Addr) (cl : List (PySem.Str × Addr)) (fp : List Addr), PE (X.blk s H scope (compEnvC scope cl B X.env) fp) elt te)
    (hfold : ∀ x, foldedSetIterable iter X.env x = pure x) (hh : tSci X.w wi g tt te (own.map (·.2)) σ H Q)
    (hpost : ∀ D B s' m H', Inv X pins σ H' s' → Q (.ref D) H' → s'.heap.Ns B m → FpOk X pins H' B → compPost (model X.prog X.w) X.A X.xe use Qf (.ref D) B (.ok .next) s') :
    wpAny (model X.prog X.w) X.A (comprehension (.SetComp elt [⟨tg, iter, ifs, 0⟩] scope pos) scope X.env pos' (newSet (.type "set")) false (eval iter X.env) use) Qf X.xe s := by
  have frees : ∀ y ∈ scope.names, y.2 = .free → ∃ c, X.env.cells.lookup y.1 = some c := fun y hy e => (bok.free y hy e).elim (fun k => Iv.ok.has _ (.inl k)) (fun k => Iv.ok.has _ (.inr k))
  refine wpAny_comprehension_free (use := use) rfl hfold (closure_ok frees) bok.kind (fun y hy e => by rw [bok.uniq y hy, e]) ?_
  refine thn (hit.run pins s σ H _ Iv hh) fun xv s1 hx => thn hx fun itv s2 h2 => ?_
  obtain ⟨it, fp, tn, J, H2, rfl, Iv2, T, start2, fpo2, q⟩ := h2
  refine PpSet.newSet_ok (newEnv_comp ?_)
  generalize eD : s2.heap.objs.size = D
  have noD : H2 D = none := Iv2.hok.fresh (Nat.le_of_eq eD)
  obtain ⟨W, ⟨m0, w0⟩, turn⟩ := q D noD
  generalize e3 : ({ s2 with heap := s2.heap.push (nso X.w) } : Shared) = s3
  have there : (s2.heap.push (nso X.w)).get? s2.heap.objs.size = some (nso X.w) := Heap.get?_push_size _ rfl
  have new0 : SetR X.w (s2.heap.push (nso X.w)) s2.heap.objs.size (fun _ => false) 0 := by
    have z := setR_new_at (w := X.w) (ns := []) there
    exact z
  have Iv3 : Inv X pins σ (upd H2 D (SetO X.w D (fun _ => false) 0)) s3 := by
    subst e3 eD
    exact Iv2.laid (t' := s2.toks) (fun b o e => Heap.get?_push_of_some _ e) (Nat.le_refl _) (setO_new new0)
  have heap3 : s3.heap = s2.heap.push (nso X.w) := by rw [← e3]
  have below : ∀ b ∈ fp, b < s2.heap.objs.size := fun b hb => let ⟨o, e, _⟩ := T.obj _ _ start2 b hb; Heap.lt_size e
  have fpo3 : ∀ b ∈ fp, FpOk X pins (upd H2 D (SetO X.w D (fun _ => false) 0)) b ∧ b < s3.heap.objs.size := fun b hb => by
    have lt := below b hb
    refine ⟨⟨?_, (fpo2 b hb).2⟩, by rw [heap3, Heap.size_push]; exact Nat.lt_succ_of_lt lt⟩
    rw [upd_ne (show b ≠ D from eD ▸ Nat.ne_of_lt lt)]
    exact (fpo2 b hb).1
  have start3 : tn 0 s3.heap := T.keep _ _ _ start2 fun b _ o e => by rw [heap3]; exact Heap.get?_push_of_some _ e
  have Iv4 := block_start Iv3 bok nodup fpo3
  generalize eH3 : upd H2 D (SetO X.w D (fun _ => false) 0) = H3 at Iv3 Iv4 w0 fpo3
  have none3 : ∀ b ∈ fp, H3 b = none := fun b hb => (fpo3 b hb).1.1
  have pg := hg s3 H3 s3.heap.objs.size (cellsFrom (s3.heap.objs.size + 1) scope.names (cloFrom X.env.cells scope.names [])) fp
  have pt := ht s3 H3 s3.heap.objs.size (cellsFrom (s3.heap.objs.size + 1) scope.names (cloFrom X.env.cells scope.names [])) fp
  have pe := he s3 H3 s3.heap.objs.size (cellsFrom (s3.heap.objs.size + 1) scope.names (cloFrom X.env.cells scope.names [])) fp
  show codeAny _ _ (.compStart (.SetComp elt [⟨tg, iter, ifs, 0⟩] scope pos) 0 (.ref it) (.ref D) (compEnvC scope (cellsFrom (s3.heap.objs.size + 1) scope.names (cloFrom X.env.cells scope.names [])) s3.heap.objs.size X.env))
    (compPost (model X.prog X.w) X.A X.xe use Qf (.ref D) s3.heap.objs.size) { s3 with heap := pushCells (s3.heap.push { cls := .type "dict", data := .dict #[] }) scope.names }
  generalize eE : compEnvC scope (cellsFrom (s3.heap.objs.size + 1) scope.names (cloFrom X.env.cells scope.names [])) s3.heap.objs.size X.env = en at Iv4 pg pt pe ⊢
  have loc : en.locals = s3.heap.objs.size := by rw [← eE]; rfl
  generalize e4 : ({ s3 with heap := pushCells (s3.heap.push { cls := .type "dict", data := .dict #[] }) scope.names } : Shared) = s4 at Iv4 ⊢
  have start4 : tn 0 s4.heap := T.keep _ _ _ start3 fun b _ o e => by subst e4; exact pushCells_keeps _ _ _ _ (Heap.get?_push_of_some _ e)
  have stays : ∀ {σ' : L2.St} {H' : Hp} {s' : Shared}, Inv (X.blk s3 H3 scope en fp) [] σ' H' s' → (∀ b ∈ fp, H' b = none) → ∀ b ∈ fp, FpOk (X.blk s3 H3 scope en fp) [] H' b := fun {σ' H' s'} V hn b hb =>
    ⟨hn b hb, (V.ok.exf b hb).1, V.ok.exfs b hb, .inl hb, fun x c e => (V.ok.exf b hb).2 x c e, fun p hp => absurd (show p ∈ ([] : List (Addr × Obj)) ++ [] from hp) (by simp)⟩
  have run : codeAny (model X.prog X.w) X.A (.compLoop (.SetComp elt [⟨tg, iter, ifs, 0⟩] scope pos) 0 (.ref it) (.ref D) en) (compPost (model X.prog X.w) X.A X.xe use Qf (.ref D) s3.heap.objs.size) s4 := by
    refine PpSet.compLoopS_any (fun n s' => ∃ i H', Inv (X.blk s3 H3 scope en fp) [] (wipe σ (own.map (·.2))) H' s' ∧ tn i s'.heap ∧ (∀ b ∈ fp, H' b = none) ∧ W i n H') ?_ m0 ⟨0, H3, Iv4, start4, none3, w0⟩
    rintro n s5 ⟨i, H5, Iv5, start5, none5, w5⟩
    rcases turn i n H5 w5 with ⟨stop, fin⟩ | ⟨go, Nx, hNx, step⟩
    · have ends := T.done (X.blk s3 H3 scope en fp) rfl rfl rfl calm i [] s5 _ H5 (fun _ _ => False) Iv5 (stays Iv5 none5) start5 stop
      refine thnF ends fun r s6 ⟨hr, Iv6⟩ => ?_
      subst hr
      have back : Inv X pins σ H5 s6 := Iv3.call' (ch := fp) Iv6.os Iv6.base Iv6.hok Iv6.bare fun b hb => let z := (fpo3 b hb).1; ⟨z.2.2.2.1, z.2.1, z.2.2.2.2.1, z.2.2.2.2.2⟩
      have noC : H5 s3.heap.objs.size = none := by rw [← loc]; exact Iv6.free
      obtain ⟨m, hn, _⟩ := Iv6.loc
      have hn' : s6.heap.Ns s3.heap.objs.size m := by rw [← loc]; exact hn
      exact hpost D s3.heap.objs.size s6 m H5 back fin hn' (Iv3.fpOk (Nat.le_refl _) noC)
    · have next := T.item (X.blk s3 H3 scope en fp) rfl rfl rfl calm i [] s5 _ H5 (fun _ _ => False) Iv5 (stays Iv5 none5) start5 go
      refine thnF next fun r s6 ⟨u, hr, h6⟩ => ?_
      subst hr
      refine thnF h6 fun _ s7 ⟨x, H7, Iv7, r7, y7, start7, none7⟩ => ?_
      have pinned := Iv7.pinned (stays Iv7 none7) (T.obj _ _ start7)
      refine thnF (pg.run _ s7 _ H7 x u _ pinned r7 (step x H7 y7)) fun _ s8 ⟨σ8, H8, Iv8, wip8, q8⟩ => thnF (pt.run _ s8 σ8 H8 _ Iv8 q8) fun b s9 ⟨H9, Iv9, q9⟩ => ?_
      have close : ∀ {s' : Shared} {H' : Hp}, Inv (X.blk s3 H3 scope en fp) ([] ++ pinsAt fp s7.heap) σ8 H' s' → Nx H' → ∃ m, m < n ∧ ∃ i H', Inv (X.blk s3 H3 scope en fp) [] (wipe σ (own.map (·.2))) H' s' ∧ tn i s'.heap ∧ (∀ b ∈ fp, H' b = none) ∧ W i m H' := by
        intro s' H' V nx
        obtain ⟨m', less, w'⟩ := hNx H' nx
        have kept : ∀ b ∈ fp, ∀ o, s7.heap.get? b = some o → s'.heap.get? b = some o ∧ H' b = none := fun b hb o e =>
          have z := V.pin (b, o) (List.mem_append_right _ (List.mem_append_right _ (mem_pinsAt hb e)))
          ⟨z.1, z.2.1⟩
        refine ⟨m', less, i + 1, H', (V.unpinned (pins := [])).weak (by rw [← wip8, wipe_length]) (fun j v e => ?_), T.keep _ _ _ start7 fun b hb o e => (kept b hb o e).1, fun b hb => ?_, w'⟩
        · rw [← wip8] at e
          exact (wipe_some e).1
        · obtain ⟨o, e, _⟩ := T.obj _ _ start7 b hb
          exact (kept b hb o e).2
      cases b with
      | false => exact close Iv9 q9
      | true =>
        show wpAny _ _ _ _ _ _
        have q9' := (if_pos (c := true = true) rfl) ▸ q9
        refine thnF (pe.run _ s9 σ8 H9 _ Iv9 q9') fun z s10 ⟨yv, H10, Iv10, r10, cb, S0, n0, ey, hD10, hz10, nx⟩ => ?_
        subst ey
        have ad := mt_sadd (X := X.blk s3 H3 scope en fp) _ s10 σ8 H10 (.ref D) [.int cb] (.ref D) [z] (fun _ H' => Nx H') Iv10 rfl (.cons r10 .nil) ⟨D, cb, S0, n0, rfl, rfl, hD10, hz10, nx⟩
        refine thnF ad fun v s11 ⟨_, H11, Iv11, _, nx11⟩ => ?_
        exact close Iv11 nx11
  exact PpSet.codeAny_compStart_set run (T.self X.A 0 _ _ _ start4 run)
theorem pe_sci {elt tg iter : Expr} {ifs : List Expr} {scope : Scope} {own : List (PySem.Str × Nat)} {pos : Pos} {wi : TI} {g : TG} {tt : TT} {te : TE} (calm : X.calm = true) (nodup : X.N.Nodup) (hit : PI X tg iter wi) (bok : BlkOk X.N X.env.scope scope own)
    (hg : ∀ (s : Shared) (H : Hp) (B : Addr) (cl : List (PySem.Str × Addr)) (fp : List Addr), PG (X.blk s H scope (compEnvC scope cl B X.env) fp) tg g)
    (ht : ∀ (s : Shared) (H : Hp) (B : Addr) (cl : List (PySem.Str × Addr)) (fp : List Addr), PTs (X.blk s H scope (compEnvC scope cl B X.env) fp) ifs tt)
    (he : ∀ (s : Shared) (H : Hp) (B : Addr) (cl : List (PySem.Str × Addr)) (fp : List Addr), PE (X.blk s H scope (compEnvC scope cl B X.env) fp) elt te) (hfold : ∀ x, foldedSetIterable iter X.env x = pure x) :
    PE X (.SetComp elt [⟨tg, iter, ifs, 0⟩] scope pos) (tSci X.w wi g tt te (own.map (·.2))) :=
  ⟨fun pins s σ H Q I h => by
    rw [PpSet.eval_SetComp]
    refine sci_core calm nodup I hit bok hg ht he hfold h fun D B s' m H' I' q hn f => ⟨m, hn, fun h'' sb => ?_⟩
    obtain ⟨f0, f1, f2, f3, f4, f5⟩ := f
    exact ⟨.ref D, H', I'.turned (t' := s'.toks) (fun b o hb e => (sb.2 b hb).trans e) f0 f1 f3 f4 f5, rfl, q⟩⟩
end

/-! ### .. over data -/
section
variable {F : Fm} {C : Cs} {ρ : Rho} {k : Nat} {Φ : Nat → PyData → Prop} {pos p1 p2 p3 px : Pos} {elt iter e : Expr} {scope : Scope} {x : Str} {α : Type}
theorem pe_sciX {X : Cx} {i : Nat} (fx : Fits C X) (b : Blk C scope i x) {ifs : List Expr} {wi : TI} {tt : TT} (hi : PI X (.Name x px) iter wi) (ht : ∀ X', Fits (C.blk scope) X' → PTs X' ifs tt) (hs : ∀ (env : Env) (v : Value), foldedSetIterable iter env v = pure v) :
    PE X (.SetComp elt [⟨.Name x px, iter, ifs, 0⟩] scope pos) (tSci C.w wi (gName i) tt (tE (C.blk scope) elt) [i]) := by
  rw [← fx.w]
  exact pe_sci (own := [(x, i)]) fx.calm (by rw [fx.N]; exact b.t.hN) hi (by rw [fx.N, fx.sc]; exact b.ok) (fun s H a cl fp => b.t.pg (fx.blk s H scope a cl fp)) (fun s H a cl fp => ht _ (fx.blk s H scope a cl fp)) (fun s H a cl fp => peE (fx.blk s H scope a cl fp)) (hs X.env)
/-- a walk over a tuple for a set -/
theorem sci_tup {w : World} {K : PySem.W.Frag} {a : Addr} {xs : List V} {g : TG} {tt : TT} {te : TE} {vs : List Nat} {σ : L2.St} {H0 : Hp} {D : Addr} {Qd : Hp → Prop} (Pv : Nat → Hp → Prop) (h0 : Pv 0 H0) (hl : ∀ i H, Pv i H → SqT K H a xs)
    (hs : ∀ i v H, xs[i]? = some v → Pv i H → g v (wipe σ vs) H fun σ2 H2 => wipe σ2 vs = wipe σ vs ∧ tt σ2 H2 fun b H3 =>
      if b = true then te σ2 H3 fun y H4 => ∃ (c : Int) (S : Int → Bool) (n : Nat), y = .int c ∧ H4 D = some (SetO w D S n) ∧ n + 1 < scanBound ∧ Pv (i + 1) (upd H4 D (SetO w D (fun j => S j || decide (j = c)) (if S c = true then n else n + 1))) else Pv (i + 1) H3)
    (hd : ∀ H, Pv xs.length H → Qd H) :
    ∃ W : Nat → Nat → Hp → Prop, (∃ m, W 0 m H0) ∧ ∀ i m H, W i m H → ((Itt K a).stop i H ∧ Qd H) ∨
      ((Itt K a).go i H ∧ ∃ Nx : Hp → Prop, (∀ H', Nx H' → ∃ m', m' < m ∧ W (i + 1) m' H') ∧ ∀ x H', (Itt K a).yld i H x H' → g x (wipe σ vs) H' fun σ2 H2 => wipe σ2 vs = wipe σ vs ∧ tt σ2 H2 fun b H3 =>
        if b = true then te σ2 H3 fun y H4 => ∃ (c : Int) (S : Int → Bool) (n : Nat), y = .int c ∧ H4 D = some (SetO w D S n) ∧ n + 1 < scanBound ∧ Nx (upd H4 D (SetO w D (fun j => S j || decide (j = c)) (if S c = true then n else n + 1))) else Nx H3) := by
  refine ⟨fun i m H => m + i = xs.length ∧ Pv i H, ⟨xs.length, by simp, h0⟩, ?_⟩
  rintro i m H ⟨hm, pv⟩
  have sq := hl i H pv
  by_cases end1 : i = xs.length
  · subst end1
    exact .inl ⟨⟨xs, sq, Nat.le_refl _⟩, hd H pv⟩
  · have lt : i < xs.length := by omega
    refine .inr ⟨⟨xs, xs[i], sq, List.getElem?_eq_getElem lt⟩, Pv (i + 1), fun H' pv' => ⟨m - 1, by omega, by omega, pv'⟩, ?_⟩
    rintro v H' ⟨rfl, hy⟩
    exact hs i v _ (hy xs sq) pv
/-- sorted({elt for x in a tuple}), hii -/
theorem we_sortSc (ei : α → PyData) (g : α → Int) (i : Nat) (b : Blk C scope i x) (hK : F.K = C.K) (hg : C.sc.names.lookup ("sorted" : Str) = some .globalImplicit) (hm : C.mg ("sorted" : Str) = none) (hfs : ∀ (env : Env) (v : Value), foldedSetIterable iter env v = pure v)
    (hs : ∀ env : Env, starEach [.SetComp elt [⟨.Name x px, iter, [], 0⟩] scope p2] env = (false, eval (.SetComp elt [⟨.Name x px, iter, [], 0⟩] scope p2) env) :: starEach [] env)
    (h : WPE F C iter ρ k fun k1 d => ∃ as : List α, d = .tuple (as.map ei) ∧ as.length ≤ 1000 ∧ (∀ D a, a ∈ as → WPE (F.ext D) (C.blk scope) elt (ρ.set i (.d (ei a))) k1 fun k2 z => k2 = k1 ∧ z = .int (g a)) ∧
      ∀ ms : List Int, ms.Pairwise (· < ·) → (∀ z, z ∈ ms ↔ z ∈ as.map g) → Φ k1 (.list (ms.map PyData.int))) :
    WPE F C (.Call (.Name "sorted" p1) [.SetComp elt [⟨.Name x px, iter, [], 0⟩] scope p2] [] pos) ρ k Φ :=
  of_pe (t := tCB (rSortSetA C.w) (tCons (tSci C.w (iTup C.K (tE C iter)) (gName i) tYes (tE (C.blk scope) elt) [i]) tNil)) (fun X fx => pe_callB (by rw [← fx.w]; exact cr_sortSetA fx.calm) (by show X.env.scope.names.lookup ("sorted" : Str) = _; rw [fx.sc]; exact hg) (by rw [fx.mg]; exact hm) (by decide +kernel)
      (pa_cons (pe_sciX fx b (piT fx) (fun _ _ => pts_nil) hfs) pa_nil (hs X.env)) (by decide) (by decide) (hs X.env) rfl) fun σ H Q en j q => by
    show tE C iter σ H _
    refine h σ H _ en j fun v d k1 H1 l1 j1 r ⟨as, ed, hz, hbody, hend⟩ => ?_
    subst ed
    cases r with
    | @tup a xs _ ha hr =>
    refine ⟨a, rfl, ⟨xs, hK ▸ sqt_of ha⟩, fun D hD => ?_⟩
    have hlen : xs.length = as.length := by rw [hr.length, List.length_map]
    have en1 := en.le l1
    have hM : ¬ F.M D := fun z => F.gl _ _ j1.g D z hD
    have hS : ¬ F.S D := j1.fresh hD
    have h0 : F.H0 D = none := j1.h0 hM hD
    have hne : ∀ (i : Nat) o xs, ρ[i]? = some (SV.own o xs) → o ≠ D := fun i o xs e => by
      obtain ⟨x, _, s⟩ := en1 i _ e
      obtain ⟨_, _, _, _, vs, h1, _⟩ := s
      exact ne_of_none h1 hD
    have rr : Rp (F.ext D) (upd H1 D (SetO C.w D (fun _ => false) 0)) (.ref a) (.tuple (as.map ei)) := Rep.ext (.tup ha hr) hD
    cases rr with
    | @tup _ xs' _ ha' hr' =>
    have hlen' : xs'.length = as.length := by rw [hr'.length, List.length_map]
    refine sci_tup (xs := xs') (fun n H' => ∃ (S : Int → Bool) (c : Nat), c ≤ n ∧ EnvOk (F.ext D) H' σ ρ ∧ J (F.ext D) k1 H' ∧ LeD (F.ext D) D (upd H1 D (SetO C.w D (fun _ => false) 0)) H' ∧ H' D = some (SetO C.w D S c) ∧ ∀ z, S z = true ↔ z ∈ (as.take n).map g)
      ⟨fun _ => false, 0, Nat.le_refl _, en1.ext hD, (j1.new hD).ext (lv_new fun _ z => nomatch z), .refl, upd_same, by simp⟩ ?_ ?_ ?_
    · rintro n H' ⟨S, c, _, _, _, ld, _⟩
      have := sqt_of (K := F.K) (H := H') (S := (F.ext D).S) ⟨ld.lz (.inr rfl) _ _ (Fm.sxA ha'.2) ha'.1, ha'.2⟩
      exact hK ▸ this
    · rintro n v H' hv ⟨S, c, hc, en', j', ld, hd, hmem⟩
      obtain ⟨y, hy, ry⟩ := hr'.got hv
      rw [List.getElem?_map, Option.map_eq_some_iff] at hy
      obtain ⟨a1, ha1, rfl⟩ := hy
      have hn : n < as.length := (List.getElem?_eq_some_iff.mp ha1).1
      show (wipe ((wipe σ [i]).set i (some v)) [i] = wipe σ [i] ∧ _)
      rw [set_wipe]
      refine ⟨wipe_set σ, ?_⟩
      refine hbody D a1 (List.mem_of_getElem? ha1) (σ.set i (some v)) H' _ (en'.set (sv := .d (ei a1)) ⟨v, rfl, ry.le (ld.lz (.inr rfl))⟩) j' fun vz z k2 H4 l4 j4 r4 ⟨ek, ez⟩ => ?_
      subst ek ez
      cases r4
      have hd4 : H4 D = some (SetO C.w D S c) := l4 D _ (Fm.mxA hM) hd
      refine ⟨g a1, S, c, rfl, hd4, Nat.lt_of_le_of_lt (show c + 1 ≤ 1001 by omega) (by decide), ?_⟩
      have ld2 : LeD (F.ext D) D H' (upd H4 D (SetO C.w D (fun j => S j || decide (j = g a1)) (if S (g a1) = true then c else c + 1))) := fun b o nb m e => by rw [upd_ne m]; exact l4 b o nb e
      refine ⟨_, _, ?_, en'.ld ld2 (.inr rfl) hne, j4.own hM h0 (pl_set hd4), ld.trans ld2, upd_same, fun z => ?_⟩
      · split <;> omega
      · rw [take_next ha1, List.map_append, List.mem_append, Bool.or_eq_true, hmem z, decide_eq_true_eq]
        simp
    · rintro H' ⟨S, c, hc, en', j', ld, hd, hmem⟩
      refine ⟨D, S, c, rfl, hd, fun ms l2 hpw hms _ hl2 => ?_⟩
      have j2 := j'.unext
      refine q _ _ k1 _ ?_ (j2.new hl2) (rep_newL j2 hl2 (RepAll.of_ints ms)) (hend ms hpw fun z => ?_)
      · intro b o nb e
        have e1 := l1 b o nb e
        have e2 := ld b o nb (ne_of_none e1 hD) (by rw [upd_ne (ne_of_none e1 hD)]; exact e1)
        rw [upd_ne (ne_of_none e2 hl2)]; exact e2
      · rw [hms z, hmem z, hlen', List.take_length]
end

/-! ### len(set(xs)) -/
def rLenSetO (w : World) : List V → Hp → VK → Prop := fun vs H Q => ∃ (a : Addr) (S : Int → Bool) (n : Nat), vs = [V.ref a] ∧ H a = some (SetO w a S n) ∧ ∀ ks : List Int, ks.Nodup → (∀ z, z ∈ ks ↔ S z = true) → ks.length = n → Q (.int (n : Nat)) H
section
variable {F : Fm} {C : Cs} {ρ : Rho} {k : Nat} {Φ : Nat → PyData → Prop} {pos p1 p2 p3 px : Pos} {e : Expr}
end
/-! ### small steps that a walk takes by itself -/
section
variable {a b c d e f g h : PyData} {p : Prop}
theorem tl0 (h : p) : ([] : List PyData).length ≤ sizeLine ∧ p := ⟨Nat.zero_le _, h⟩
theorem tl1 (h : p) : [a].length ≤ sizeLine ∧ p := ⟨by show 1 ≤ sizeLine; decide, h⟩
theorem tl2 (h : p) : [a, b].length ≤ sizeLine ∧ p := ⟨by show 2 ≤ sizeLine; decide, h⟩
theorem tl3 (h : p) : [a, b, c].length ≤ sizeLine ∧ p := ⟨by show 3 ≤ sizeLine; decide, h⟩
theorem ii2 {i j : Int} {Θ : Int → Int → Prop} (h : Θ i j) : ∃ x y, PyData.int i = .int x ∧ PyData.int j = .int y ∧ Θ x y := ⟨i, j, rfl, rfl, h⟩
theorem ii1 {i : Int} {Θ : Int → Prop} (h : Θ i) : ∃ x, PyData.int i = .int x ∧ Θ x := ⟨i, rfl, h⟩
theorem bb1 {i : Bool} {Θ : Bool → Prop} (h : Θ i) : ∃ x, PyData.bool i = .bool x ∧ Θ x := ⟨i, rfl, h⟩
theorem sqT {ds : List PyData} {Θ : List PyData → Prop} (h : Θ ds) : ∃ xs, seqD (.tuple ds) = some xs ∧ Θ xs := ⟨ds, rfl, h⟩
theorem sqL {ds : List PyData} {Θ : List PyData → Prop} (h : Θ ds) : ∃ xs, seqD (.list ds) = some xs ∧ Θ xs := ⟨ds, rfl, h⟩
end
end Dl

namespace Dl
open PySem PySem.Spec PyProof.Rows L2
/-! ### max(xs, default=None), max(xs), ints -/
def rMaxDef (K : PySem.W.Frag) : List V → List V → Hp → VK → Prop := fun vs zs H Q => ∃ (a : Addr) (ns : List Int), vs = [V.ref a] ∧ zs = [V.non] ∧ SqL K H a (ns.map V.int) ∧ (ns = [] → Q .non H) ∧ ∀ m, m ∈ ns → (∀ y, y ∈ ns → y ≤ m) → Q (.int m) H
section
variable {F : Fm} {C : Cs} {ρ : Rho} {k : Nat} {Φ : Nat → PyData → Prop} {pos p1 p2 p3 px kp : Pos} {e : Expr} {jj : Nat} {P : DE} {x : Str} {rest : List Stmt}
end

section
variable {F : Fm} {C : Cs} {ρ : Rho} {k : Nat} {P : DE} {pos p2 px : Pos} {a b : Expr} {x : Str} {rest : List Stmt}
/-- x = xs + ys, lists: the new list is the def's own -/
theorem wb_ownCat (i : Nat) (t : Tgt C i x) (hi : i < ρ.length) (hs : ∀ env : Env, env.scope = C.sc → swapsWith (.BinOp a .Add b p2) (some (.Name x px)) pos.line env = pure false)
    (h : WPE F C a ρ k fun k1 u => WPE F C b ρ k1 fun k2 v => ∃ ds es, u = .list ds ∧ v = .list es ∧ ds.length + es.length ≤ 1000000 ∧
      ∀ o, WPB (F.ext o) C rest (ρ.set i (.own o (ds ++ es))) k2 { nx := fun _ _ => False, rt := P.rt, bk := fun _ _ => False, ct := fun _ _ => False }) : WPB F C (.Assign [.Name x px] (.BinOp a .Add b p2) pos :: rest) ρ k P :=
  of_pb (fun X fx => pss_cons (ps_set (by rw [fx.N]; exact t.hN) (by rw [fx.N]; exact t.hi) (by rw [fx.sc]; exact t.hx) (pe_op op_cat (peE fx) (peE fx)) (hs X.env fx.sc) (by rw [fx.fn, fx.sc]; exact t.hf)) (pbB fx)) fun σ H E en j q1 q2 q3 q4 => by
    refine h σ H _ en j fun vx u k1 H1 l1 j1 r1 hx => hx σ H1 _ (en.le l1) j1 fun vy v k2 H2 l2 j2 r2 ⟨ds, es, e1, e2, hz, p⟩ => ?_
    subst e1 e2
    have r1' := r1.le l2.lz
    cases r1' with
    | @lst pa xs _ ha hr =>
    cases r2 with
    | @lst pb ys _ hb hr2 =>
    refine ⟨pa, pb, xs, ys, rfl, rfl, ha.1, hb.1, by rw [hr.length, hr2.length]; exact Nat.le_trans hz (by decide), fun o no => ?_⟩
    have hM : ¬ F.M o := fun z => F.gl _ _ j2.g o z no
    have h0 : F.H0 o = none := j2.h0 hM no
    have en2 : EnvOk (F.ext o) (upd H2 o (.lst (xs ++ ys))) (σ.set i (some (.ref o))) (ρ.set i (.own o (ds ++ es))) :=
      (((en.le l1).le l2).ext no).set (sv := .own o (ds ++ es)) ⟨rfl, .inr rfl, hM, h0, xs ++ ys, upd_same, (hr.append hr2).ext no⟩
    refine p o (σ.set i (some (.ref o))) (upd H2 o (.lst (xs ++ ys))) E en2 ((j2.new no).ext (lv_new fun _ z => nomatch z)) ?_ ?_ ?_ ?_
    · exact fun _ _ _ _ _ _ _ z => z.elim
    · exact fun v d k' H' j' r' p => q2 v d k' H' j'.unext r'.unext p
    · exact fun _ _ _ _ _ _ _ z => z.elim
    · exact fun _ _ _ _ _ _ _ z => z.elim
/-- x = xs + ys, a statement that may change x, the rest with x as data -/
theorem wb_ownCat1 (i : Nat) {st : Stmt} (t : Tgt C i x) (hi : i < ρ.length) (hs : ∀ env : Env, env.scope = C.sc → swapsWith (.BinOp a .Add b p2) (some (.Name x px)) pos.line env = pure false)
    (h : WPE F C a ρ k fun k1 u => WPE F C b ρ k1 fun k2 v => ∃ ds es, u = .list ds ∧ v = .list es ∧ ds.length + es.length ≤ 1000000 ∧
      ∀ o, WPS (F.ext o) C st (ρ.set i (.own o (ds ++ es))) k2 { nx := fun k' ρ' => ∃ ys, ρ'[i]? = some (.own o ys) ∧ (ρ'.set i .un).all plainB = true ∧ WPB F C rest (ρ'.set i (.d (.list ys))) k' P, rt := P.rt, bk := fun _ _ => False, ct := fun _ _ => False }) :
    WPB F C (.Assign [.Name x px] (.BinOp a .Add b p2) pos :: st :: rest) ρ k P :=
  of_pb (fun X fx => pss_cons (ps_set (by rw [fx.N]; exact t.hN) (by rw [fx.N]; exact t.hi) (by rw [fx.sc]; exact t.hx) (pe_op op_cat (peE fx) (peE fx)) (hs X.env fx.sc) (by rw [fx.fn, fx.sc]; exact t.hf)) (pss_cons (psS fx) (pbB fx))) fun σ H E en j q1 q2 q3 q4 => by
    refine h σ H _ en j fun vx u k1 H1 l1 j1 r1 hx => hx σ H1 _ (en.le l1) j1 fun vy v k2 H2 l2 j2 r2 ⟨ds, es, e1, e2, hz, p⟩ => ?_
    subst e1 e2
    have r1' := r1.le l2.lz
    cases r1' with
    | @lst pa xs _ ha hr =>
    cases r2 with
    | @lst pb ys _ hb hr2 =>
    refine ⟨pa, pb, xs, ys, rfl, rfl, ha.1, hb.1, by rw [hr.length, hr2.length]; exact Nat.le_trans hz (by decide), fun o no => ?_⟩
    have hM : ¬ F.M o := fun z => F.gl _ _ j2.g o z no
    have hS : ¬ F.S o := j2.fresh no
    have h0 : F.H0 o = none := j2.h0 hM no
    have en2 : EnvOk (F.ext o) (upd H2 o (.lst (xs ++ ys))) (σ.set i (some (.ref o))) (ρ.set i (.own o (ds ++ es))) :=
      (((en.le l1).le l2).ext no).set (sv := .own o (ds ++ es)) ⟨rfl, .inr rfl, hM, h0, xs ++ ys, upd_same, (hr.append hr2).ext no⟩
    have lz0 : Lz F H H2 := l1.lz.trans l2.lz
    have lzo : ∀ H', Lz (F.ext o) (upd H2 o (.lst (xs ++ ys))) H' → Lz F H H' := fun H' lz b u hb e => by
      have e2 := lz0 b u hb e
      have ne : b ≠ o := ne_of_none e2 no
      exact lz b u (fun z => z.elim (fun y => y.elim (fun q => hb (.inl q)) ne) fun q => hb (.inr q)) (by rw [upd_ne ne]; exact e2)
    refine p o (σ.set i (some (.ref o))) (upd H2 o (.lst (xs ++ ys))) _ en2 ((j2.new no).ext (lv_new fun _ z => nomatch z)) ?_ ?_ ?_ ?_
    · rintro ρ' σ' k' H' lz en' j' ⟨zs, hown, hpl, hrest⟩
      have hlz := lzo H' lz
      obtain ⟨hσ', _, _, _, vs, hvs, rvs⟩ := en'.own hown
      have en3 : EnvOk F H' σ' (ρ'.set i (.d (.list zs))) := by
        intro m sv em
        by_cases hj : i = m
        · subst hj
          have hl : i < ρ'.length := (List.getElem?_eq_some_iff.mp hown).1
          rw [List.getElem?_set_self hl] at em
          cases em
          exact ⟨_, hσ', _, rfl, .lst ⟨hvs, hS⟩ rvs.unext⟩
        · rw [List.getElem?_set_ne hj] at em
          obtain ⟨y, qy, sy⟩ := en' m sv em
          refine ⟨y, qy, ?_⟩
          cases sv with
          | un => trivial
          | d d => obtain ⟨v, z, r⟩ := sy; exact ⟨v, z, r.unext⟩
          | raw v => exact sy
          | own o' xs' => exact (noOwn_of hpl m o' xs' (Ne.symm hj) em).elim
      exact hrest σ' H' E en3 j'.unext (fun ρ2 σ2 k2 H2 l2 => q1 ρ2 σ2 k2 H2 (hlz.trans l2)) q2 (fun ρ2 σ2 k2 H2 l2 => q3 ρ2 σ2 k2 H2 (hlz.trans l2)) (fun ρ2 σ2 k2 H2 l2 => q4 ρ2 σ2 k2 H2 (hlz.trans l2))
    · exact fun v d k' H' j' r' p => q2 v d k' H' j'.unext r'.unext p
    · exact fun _ _ _ _ _ _ _ z => z.elim
    · exact fun _ _ _ _ _ _ _ z => z.elim
end
end Dl

namespace Dl
open PySem PySem.Spec PyProof.Rows L2
section
variable {F : Fm} {C : Cs} {ρ : Rho} {k : Nat} {Φ : Nat → PyData → Prop}
/-! ### comprehensions over range(a, b) -/
end
section
variable {F : Fm} {C : Cs} {ρ : Rho} {k : Nat} {Φ : Nat → PyData → Prop} {P : DE} {pos spos pr pr2 p2 : Pos} {elt a b e : Expr} {scope : Scope}
/-- xs * n, lists -/
theorem we_repL (h : WPE F C a ρ k fun k1 x => WPE F C b ρ k1 fun k2 y => ∃ ds n, x = .list ds ∧ y = .int n ∧ (-1000 ≤ n ∧ n ≤ 1000) ∧ ds.length ≤ 1000 ∧ Φ k2 (.list (List.replicate n.toNat ds).flatten)) : WPE F C (.BinOp a .Mult b pos) ρ k Φ :=
  we_bin (fun X _ => op_rep) (h.imp fun k1 x h1 => h1.imp fun k2 y ⟨ds, n, e1, e2, hz, hl, p⟩ => by
    subst e1 e2
    intro H vx vy Q j rx ry q
    cases rx with
    | @lst pa xs _ ha hr =>
    cases ry
    refine ⟨pa, n, xs, rfl, rfl, ha.1, by omega, by omega, ?_, fun l hl => q _ _ k2 _ (.new hl) (j.new hl) (rep_newL j hl ?_) p⟩
    · rw [hr.length]
      exact Nat.le_trans (Nat.mul_le_mul hl (show n.toNat ≤ 1000 by omega)) (by decide)
    · have : ∀ m : Nat, RpAll F H (List.replicate m xs).flatten (List.replicate m ds).flatten := by
        intro m
        induction m with
        | zero => exact .nil
        | succ m ih =>
          rw [List.replicate_succ, List.replicate_succ, List.flatten_cons, List.flatten_cons]
          exact hr.append ih
      exact this _)
end
end Dl

namespace Dl
open PySem PySem.Spec PyProof.Rows L2
/-! ### the laws' draws: a list [cells, count, rests] -/
def DqM (st a : Addr) (b : Addr) : Prop := b = st ∨ b = a
def DqG (st a : Addr) (k : Nat) (H : Hp) : Prop := ∃ (cells : List Int) (n : Int), H st = some (.lst [.ref a, .int n]) ∧ H a = some (.lst (cells.map V.int)) ∧ cells.length ≤ 63 ∧ 0 ≤ n ∧ n + k ≤ 1000000
theorem DqG.weak {st a : Addr} {k k' : Nat} {H : Hp} (h : DqG st a k H) (hk : k' ≤ k) : DqG st a k' H := by
  obtain ⟨c, n, h1, h2, h3, h4, h5⟩ := h
  exact ⟨c, n, h1, h2, h3, h4, by omega⟩
theorem DqG.at {st a : Addr} {k : Nat} {H H' : Hp} (h : DqG st a k H) (e : ∀ b, DqM st a b → H' b = H b) : DqG st a k H' := by
  obtain ⟨c, n, h1, h2, h3⟩ := h
  exact ⟨c, n, (e st (.inl rfl)).trans h1, (e a (.inr rfl)).trans h2, h3⟩
theorem DqG.live {st a : Addr} {k : Nat} {H : Hp} (h : DqG st a k H) (b : Addr) (hb : DqM st a b) : H b ≠ none := by
  obtain ⟨c, n, h1, h2, h3⟩ := h
  rcases hb with rfl | rfl
  · rw [h1]; exact fun z => nomatch z
  · rw [h2]; exact fun z => nomatch z
theorem DqG.lv {st a : Addr} {k : Nat} {H : Hp} (h : DqG st a k H) (b : Addr) (hb : DqM st a b) : Lv H b := by
  obtain ⟨c, n, h1, h2, h3⟩ := h
  rcases hb with rfl | rfl
  · exact lv_lst h1
  · exact lv_lst h2
def dqFm (K : PySem.W.Frag) (S : Addr → Prop) (H : Hp) (st a : Addr) : Fm where
  K := K
  S := fun b => S b ∨ DqM st a b
  M := DqM st a
  H0 := H
  G := DqG st a
  ms := fun b h => .inr h
  gm := fun k H H' g e _ => g.at e
  gl := fun k H g b hb => g.live b hb
/-- the frame knows the draws -/
structure IsDq (F : Fm) (st a : Addr) : Prop where
  M : F.M = DqM st a
  G : F.G = DqG st a
theorem IsDq.ext {F : Fm} {st a : Addr} (h : IsDq F st a) (D : Addr) : IsDq (F.ext D) st a := ⟨h.M, h.G⟩
/-- a def that draws: at most `cost` draws; Pre of its data, R what it may hand back -/
def spDrawQ (K : PySem.W.Frag) (cost : Nat) (Pre : List PyData → Prop) (R : Rel) : Sp := fun vs H Q _ => ∃ (S : Addr → Prop) (st a : Addr) (vs' : List V) (ds : List PyData) (k : Nat), vs = .ref st :: vs' ∧ DqG st a (k + cost) H ∧ (∀ b, S b → Lv H b) ∧ (∀ b, DqM st a b → S b) ∧ RepAll K S H vs' ds ∧ Pre ds ∧
  ∀ v d H', (∀ b o, ¬ DqM st a b → H b = some o → H' b = some o) → DqG st a k H' → Rep K S H' v d → R ds d → Q v H'
structure DFnQ (P : Program) (w : World) (K : PySem.W.Frag) (mg : Str → Option Value) (base : Heap) (lvl : Nat) (x : Str) (cost : Nat) (Pre : List PyData → Prop) (R : Rel) : Prop where
  ex : ∃ (fa : Addr) (fd : FuncData) (ps : List Str), FnG P w K mg base lvl fa fd ps (spDrawQ K cost Pre R) ∧ mg x = some (.ref fa) ∧ PySem.W.keepIn K (.ref fa) = true ∧ L2.Binds K fd ps []
section
variable {P : Program} {w : World} {K : PySem.W.Frag} {mg : Str → Option Value} {base : Heap}
def drawFmQ (K : PySem.W.Frag) (S : Addr → Prop) (H : Hp) (st a : Addr) (hS : ∀ b, DqM st a b → S b) : Fm where
  K := K
  S := S
  M := DqM st a
  H0 := H
  G := DqG st a
  ms := hS
  gm := fun k H H' g e _ => g.at e
  gl := fun k H g b hb => g.live b hb
theorem draw_okQ {x qual : Str} {st : Stmt} {f : Addr} {fd : FuncData} {N ps : List Str} {k cost : Nat} {Pre : List PyData → Prop} {R : Rel} (Fn : Fun K x qual st f fd) (Sc : FnScope N ps (defScope st)) (len : ∀ ds, Pre ds → ds.length + 1 = ps.length)
    (body : ∀ (F : Fm) (s a : Addr) (ds : List PyData) (kk : Nat), IsDq F s a → F.K = K → Pre ds → WPB F (bodyCs P w K mg base N (defScope st) k) (defBody st) (.raw (.ref s) :: (ds.map SV.d ++ List.replicate (N.length - (ds.length + 1)) SV.un)) (kk + cost) { nx := fun k' _ => kk ≤ k' ∧ R ds .none, rt := fun k' d => kk ≤ k' ∧ R ds d, bk := fun _ _ => False, ct := fun _ _ => False }) :
    FnG P w K mg base (k + 1) f fd ps (spDrawQ K cost Pre R) := by
  refine FnG.of_body Fn Sc (fun vs H Q E h => ?_) (fun cdv A outer s H vs Q hgd hr h => ?_)
  · obtain ⟨S, st, a, vs', ds, k, rfl, _, _, _, rr, hp, _⟩ := h
    rw [List.length_cons, rr.length, len ds hp]
  · obtain ⟨S, st, a, vs', ds, kk, rfl, g, al, hS, rr, hp, q⟩ := h
    refine ⟨_, pbB (fits_body hgd hr), ?_⟩
    refine body (drawFmQ K S H st a hS) st a ds kk ⟨rfl, rfl⟩ rfl hp (L2.start N (.ref st :: vs')) H _ (env_raw (F := drawFmQ K S H st a hS) rr) ⟨g, fun b o _ e => e, al⟩ ?_ ?_ ?_ ?_
    · exact fun ρ' σ' k' H' _ _ j' e => q _ .none H' (fun b o n h => j'.le b o (fun z => z.elim n id) h) (DqG.weak j'.g e.1) .non e.2
    · exact fun v d' k' H' j' r' e => q v d' H' (fun b o n h => j'.le b o (fun z => z.elim n id) h) (DqG.weak j'.g e.1) r' e.2
    · exact fun _ _ _ _ _ _ _ z => z.elim
    · exact fun _ _ _ _ _ _ _ z => z.elim
end
section
variable {F : Fm} {C : Cs} {ρ : Rho} {k : Nat} {Φ : Nat → PyData → Prop} {es : List Expr} {pos p py : Pos} {x y : Str}
/-- a call of a def that draws, the state by its name -/
theorem we_callQ {s a : Addr} (dk : IsDq F s a) {j cost : Nat} {Pre : List PyData → Prop} {R : Rel} (hF : DFnQ C.P C.w C.K C.mg C.base j x cost Pre R) (hl : j ≤ C.lvl) (hK : F.K = C.K) (i : Nat) (hg : C.sc.names.lookup x = some .globalImplicit) (hN : C.N[i]? = some y) (hv : Vis C.sc y) (hr : ρ[i]? = some (.raw (.ref s)))
    (h : WPA F C es ρ k fun k1 ds => Pre ds ∧ ∃ k2, k1 = k2 + cost ∧ ∀ d, R ds d → Φ k2 d) (hdb : (x == ("__debug__" : Str)) = false := by decide) (hd : (y == ("__debug__" : Str)) = false := by decide) (hcd : (y == ("__classdict__" : Str)) = false := by decide)
    (hss : ∀ env : Env, starEach (.Name y py :: es) env = (false, eval (.Name y py) env) :: starEach es env := by intro _; rfl) (hpl : ∀ env : Env, ((backTo pos (starEach es env)).any fun x => x.fst) = false := by intro _; rfl) :
    WPE F C (.Call (.Name x p) (.Name y py :: es) [] pos) ρ k Φ := by
  obtain ⟨fa, fd, ps, G, hm, kp, hb⟩ := hF.ex
  refine of_pe (fun X fx => pe_callF fx G hl hg hm kp hb (pa_cons (pe_var (i := i) (by rw [fx.N]; exact hN) (by rw [fx.sc]; exact hv) hd hcd) (paA fx) (hss X.env)) hdb hss hpl) fun σ H Q en jj q => ?_
  refine ⟨_, en.raw hr, ?_⟩
  refine h σ H _ en jj fun vs ds k1 H1 l1 j1 r1 ⟨hp, k2, e, hf⟩ => ?_
  subst e
  refine ⟨F.S, s, a, vs, ds, k2, rfl, dk.G ▸ j1.g, j1.al, fun b hb => F.ms b (dk.M ▸ hb), hK ▸ r1, hp, fun v d H' keep g rv hR => ?_⟩
  have le : Le F H1 H' := fun b o n e => keep b o (fun z => n (.inl (by rw [dk.M]; exact z))) e
  refine q v d k2 H' (l1.trans le) ⟨by rw [dk.G]; exact g, fun b o n e => le b o n (j1.le b o n e), fun b hb => ?_⟩ (by show Rep F.K F.S H' v d; rw [hK]; exact rv) (hf d hR)
  by_cases hM : DqM s a b
  · exact g.lv b hM
  · exact (j1.al b hb).keep fun o e => keep b o hM e
end
/-! ### the law whose first statement makes the deck -/
def spDeck (K : PySem.W.Frag) : Sp := fun vs H Q _ => ∃ (sc : Addr) (ns : List Int), vs = [.ref sc] ∧ SqL K H sc (ns.map V.int) ∧ ns.length ≤ 63 ∧
  ∀ H' st a, Same H H' → H st = none → H a = none → DqG st a 900000 H' → Q (.ref st) H'
section
variable {P : Program} {w : World} {K : PySem.W.Frag} {mg : Str → Option Value} {base : Heap}
end
end Dl

namespace Sb
/-! ### sets of switches as numbers; boxes as tests on numbers below 2 ^ n; all by the last switch -/
def cnt : Nat → (Nat → Bool) → Nat
  | 0, p => if p 0 = true then 1 else 0
  | n + 1, p => cnt n p + cnt n fun i => p (i + 2 ^ n)
def up (n : Nat) (A : Nat → Bool) : Nat → Bool := fun c => A (c + 2 ^ n)
def oj (n : Nat) (A : Nat → Bool) : Nat → Bool := fun c => A c || A (c + 2 ^ n)
def aj (n : Nat) (A : Nat → Bool) : Nat → Bool := fun c => A c && A (c + 2 ^ n)
def sh : Nat → (Nat → Bool) → Nat → Bool
  | 0, A, _ => A 0
  | n + 1, A, s => if s < 2 ^ n then sh n (oj n A) s else sh n A (s - 2 ^ n) && sh n (up n A) (s - 2 ^ n)
def so : Nat → (Nat → Bool) → Nat → Bool
  | 0, A, _ => A 0
  | n + 1, A, s => if s < 2 ^ n then so n A s || so n (up n A) s else so n (aj n A) (s - 2 ^ n)
def smooth (n : Nat) (A : Nat → Bool) : Prop := ∀ s < 2 ^ n, sh n A s = so n A s
end Sb

namespace Sb
def Shown (n : Nat) (A : Nat → Bool) (s : Nat) : Prop := ∀ p, p &&& s = p → ∃ c, c < 2 ^ n ∧ A c = true ∧ c &&& s = p
def Solid (n : Nat) (A : Nat → Bool) (s : Nat) : Prop := ∃ b, b < 2 ^ n ∧ b &&& s = 0 ∧ ∀ p, p &&& s = p → A (b + p) = true
end Sb

namespace Dl
open PySem PySem.Spec PyProof.Rows L2
section
variable {F : Fm} {C : Cs} {ρ : Rho} {k : Nat} {P : DE} {Φ : Nat → PyData → Prop} {Ψ : Nat → Bool → Prop} {pos p p1 p2 p3 p4 p5 : Pos} {e a b c : Expr}
end
/-! ### sorted(set(a tuple)) -/
def rSetT (K : PySem.W.Frag) (w : World) : List V → Hp → VK → Prop := fun vs H Q => ∃ (a : Addr) (ns : List Int), vs = [.ref a] ∧ SqT K H a (ns.map V.int) ∧ ns.length ≤ 1000 ∧
  ∀ p c, H p = none → c ≤ ns.length → Q (.ref p) (upd H p (SetO w p (fun j => decide (j ∈ ns)) c))
section
variable {F : Fm} {C : Cs} {ρ : Rho} {k : Nat} {Φ : Nat → PyData → Prop} {pos p1 p2 p3 : Pos} {e : Expr}
end
end Dl

namespace Dl
open PySem PySem.Spec PyProof.Rows L2
section
variable {F : Fm} {C : Cs} {ρ : Rho} {k : Nat} {P : DE} {Φ : Nat → PyData → Prop} {Ψ : Nat → Bool → Prop} {pos p1 p2 : Pos} {a b c : Expr}
/-- the same as a value -/
theorem we_leLt (hm : lastMarks [.LtE, .Lt] [b, c] = false) (h : WPE F C a ρ k fun k1 x => WPE F C b ρ k1 fun k2 y => ∃ i j, x = .int i ∧ y = .int j ∧ if i ≤ j then WPE F C c ρ k2 fun k3 z => ∃ l, z = .int l ∧ Φ k3 (.bool (decide (j < l))) else Φ k2 (.bool false)) : WPE F C (.Compare a [.LtE, .Lt] [b, c] pos) ρ k Φ :=
  of_pe (fun X fx => pe_chain op_le op_lt (peE fx) (peE fx) (peE fx) hm) fun σ H Q en j q => by
    refine h σ H _ en j fun vx x k1 H1 l1 j1 r1 hx => hx σ H1 _ (en.le l1) j1 fun vy y k2 H2 l2 j2 r2 ⟨i, jj, e1, e2, hh⟩ => ?_
    subst e1 e2
    cases r1
    cases r2
    refine ⟨i, jj, rfl, rfl, decide (i ≤ jj), rfl, ?_⟩
    by_cases hle : i ≤ jj
    · rw [if_pos hle] at hh
      rw [if_pos (decide_eq_true hle)]
      refine hh σ H2 _ ((en.le l1).le l2) j2 fun vz z k3 H3 l3 j3 r3 ⟨l, e3, p⟩ => ?_
      subst e3
      cases r3
      exact ⟨jj, l, rfl, rfl, q _ _ k3 H3 ((l1.trans l2).trans l3) j3 (.bl _) p⟩
    · rw [if_neg hle] at hh
      rw [if_neg (by rw [decide_eq_true_eq]; exact hle)]
      exact q _ _ k2 H2 (l1.trans l2) j2 (.bl _) hh
end

/-! ### sorted(a tuple of ints) -/
section
variable {P : Program} {w : World} {A : Around} {E : Value → Shared → Prop} {s : Shared} {a : Addr}
end
def rSortTI (K : PySem.W.Frag) : List V → Hp → VK → Prop := fun vs H Q => ∃ (a : Addr) (ns : List Int), vs = [V.ref a] ∧ SqT K H a (ns.map V.int) ∧ ns.length ≤ 4000 ∧
  ∀ (ms : List Int) (p : Addr), ms.Perm ns → ms.Pairwise (· ≤ ·) → H p = none → Q (.ref p) (upd H p (.lst (ms.map V.int)))
section
variable {F : Fm} {C : Cs} {ρ : Rho} {k : Nat} {Φ : Nat → PyData → Prop} {pos p : Pos} {e : Expr}
end

section
variable {F : Fm} {C : Cs} {ρ : Rho} {k : Nat} {Ψ : Nat → Bool → Prop} {pos : Pos} {a b : Expr}
/-- a and b, a or b, as tests of known value -/
theorem wt_and2 {p q : Bool} (ha : WPT F C a ρ k fun k1 z => k1 = k ∧ z = p) (hb : p = true → WPT F C b ρ k fun k1 z => k1 = k ∧ z = q) (h : Ψ k (p && q)) : WPT F C (.BoolOp .And [a, b] pos) ρ k Ψ :=
  wt_bool (ww_and (ha.imp fun k1 z ⟨e1, e2⟩ => by
    subst e1 e2
    cases z with
    | false => exact h
    | true => rw [if_pos rfl]; exact ww_and1 ((hb rfl).imp fun k2 z ⟨e3, e4⟩ => by subst e3 e4; exact h)))
end
end Dl

set_option maxHeartbeats 2000000
namespace Dl
open PySem PySem.Spec PyProof.Rows L2
/-! ### zip of two sequences, each a list (true) or a tuple (false) -/
def Wk (b : Bool) (h : Heap) (it l : Addr) (i : Nat) : Prop := match b with | true => h.IsListIter it l i | false => h.IsTupleIter it l i
def Sk (b : Bool) (h : Heap) (l : Addr) (xs : Array Value) : Prop := match b with | true => h.IsList l xs | false => h.IsTuple l xs
section
variable {b : Bool} {h h' : Heap} {it l c : Addr} {i : Nat} {xs : Array Value}
theorem Wk.keep (x : Wk b h it l i) (e : ∀ o, h.get? it = some o → h'.get? it = some o) : Wk b h' it l i := by
  cases b with
  | true => exact Heap.IsListIter.at x e
  | false => exact Heap.IsTupleIter.at x e
theorem Sk.push (x : Sk b h l xs) (o : Obj) : Sk b (h.push o) l xs := by
  cases b with
  | true => exact Heap.IsList.push x o
  | false => exact Heap.IsTuple.push x o
theorem Sk.lt (x : Sk b h l xs) : l < h.objs.size := by
  cases b with
  | true => obtain ⟨o, e, _⟩ := x; exact Heap.lt_size e
  | false => obtain ⟨o, e, _⟩ := x; exact Heap.lt_size e
theorem Wk.obj (x : Wk b h it l i) : ∃ o, h.get? it = some o ∧ ∀ v, o.data ≠ Data.cell v := by
  cases b with
  | true => obtain ⟨o, e, _, d⟩ := x; exact ⟨o, e, fun v q => by rw [d] at q; cases q⟩
  | false => obtain ⟨o, e, _, d⟩ := x; exact ⟨o, e, fun v q => by rw [d] at q; cases q⟩
end
section
variable {prog : Program} {w : World} {A : Around} {E : Value → Shared → Prop} {s : Shared} {b b1 b2 : Bool}
end

/-! ### zip(a list, a tuple) -/
abbrev zg1 (h : Heap) (l1 : Addr) : Heap := h.push { cls := .type "list_iterator", data := .fields #[.ref l1, .int 0 0] }
abbrev zg2 (h : Heap) (l1 l2 : Addr) : Heap := (zg1 h l1).push { cls := .type "tuple_iterator", data := .fields #[.ref l2, .int 0 0] }
abbrev zg3 (h : Heap) (l1 l2 : Addr) : Heap := (zg2 h l1 l2).push { cls := .type "tuple", data := .seq #[.ref h.objs.size, .ref (zg1 h l1).objs.size] }
abbrev zg4 (h : Heap) (l1 l2 : Addr) : Heap := (zg3 h l1 l2).push { cls := .type "tuple", data := .seq #[.none, .none] }
abbrev zg5 (h : Heap) (l1 l2 : Addr) : Heap := (zg4 h l1 l2).push { cls := .type "zip", data := .fields #[.none, .bool false, .bool false, .ref (zg2 h l1 l2).objs.size, .ref (zg3 h l1 l2).objs.size] }
section
variable {prog : Program} {w : World} {A : Around} {E : Value → Shared → Prop} {s : Shared}
end
def Itg (K : PySem.W.Frag) (a b : Addr) : It :=
  ⟨fun i H => ∃ (xs ys : List V) (x y : V), SqL K H a xs ∧ SqT K H b ys ∧ xs[i]? = some x ∧ ys[i]? = some y,
    fun i H v H' => ∃ t x y, v = .ref t ∧ H t = none ∧ H' = upd H t (.tup [x, y]) ∧ (∀ xs, SqL K H a xs → xs[i]? = some x) ∧ ∀ ys, SqT K H b ys → ys[i]? = some y,
    fun i H => ∃ xs ys : List V, SqL K H a xs ∧ SqT K H b ys ∧ (xs.length ≤ i ∨ ys.length ≤ i)⟩
def iZg (K : PySem.W.Frag) (ta : TA) : TI := fun σ H R => ta σ H fun vs H1 => ∃ a b xs ys, vs = [.ref a, .ref b] ∧ SqL K H1 a xs ∧ SqT K H1 b ys ∧ R (Itg K a b) H1
section
variable {F : Fm} {C : Cs} {ρ : Rho} {k : Nat} {P : DE} {pos p p1 p2 tp : Pos} {a b : Expr} {x1 x2 : Str} {kk : Nat} {body : List Stmt}
end
end Dl

namespace Dl
open PySem PySem.Spec PyProof.Rows L2
/-! ### isinstance(data, a built-in type) -/
def tyN : PyData → String
  | .none => "NoneType"
  | .bool _ => "bool"
  | .int _ => "int"
  | .str _ => "str"
  | .list _ => "list"
  | .tuple _ => "tuple"
  | .dict _ => "dict"
def isiD (T : String) : PyData → Bool
  | .none => T == "NoneType"
  | .bool _ => T == "bool" || T == "int"
  | .int _ => T == "int"
  | .str _ => T == "str"
  | .list _ => T == "list"
  | .tuple _ => T == "tuple"
  | .dict _ => T == "dict"
theorem kit_int (K : PySem.W.Frag) (d : PyData) : PySem.W.kitOne K (.type (tyN d)) (.type "int") = some (isiD "int" d) := by cases d <;> kernel_rfl
theorem kit_bool (K : PySem.W.Frag) (d : PyData) : PySem.W.kitOne K (.type (tyN d)) (.type "bool") = some (isiD "bool" d) := by cases d <;> kernel_rfl
theorem kit_tuple (K : PySem.W.Frag) (d : PyData) : PySem.W.kitOne K (.type (tyN d)) (.type "tuple") = some (isiD "tuple" d) := by cases d <;> kernel_rfl
theorem kit_str (K : PySem.W.Frag) (d : PyData) : PySem.W.kitOne K (.type (tyN d)) (.type "str") = some (isiD "str" d) := by cases d <;> kernel_rfl
theorem ty_rep {F : Fm} {H : Hp} {v : V} {d : PyData} (r : Rp F H v d) : TyX F.K H v (.type (tyN d)) := by
  cases r with
  | non => exact .base .non
  | bl b => exact .base (.bl b)
  | int i => exact .base (.int i)
  | str x => exact .base (.str x)
  | lst h _ => exact .base (.lst h.1)
  | tup h _ => exact .base (.tup h.1)
  | dct h _ => exact .base (.dK h.1)
section
variable {F : Fm} {C : Cs} {ρ : Rho} {k : Nat} {Φ : Nat → PyData → Prop} {pos p p2 : Pos} {e : Expr} {x : Str}
theorem we_isi (T : String) (kit : ∀ (K : PySem.W.Frag) (d : PyData), PySem.W.kitOne K (.type (tyN d)) (.type T) = some (isiD T d)) (hK : F.K = C.K) (hg : C.sc.names.lookup ("isinstance" : Str) = some .globalImplicit) (hm : C.mg ("isinstance" : Str) = none) (hg2 : C.sc.names.lookup x = some .globalImplicit) (hm2 : C.mg x = none) (hx : bootBuiltins x = some (.type T)) (hxn : x ≠ "__name__") (hxd : (x == ("__debug__" : Str)) = false)
    (hs : ∀ env : Env, starEach [e, .Name x p2] env = (false, eval e env) :: starEach [.Name x p2] env)
    (h : WPE F C e ρ k fun k1 d => Φ k1 (.bool (isiD T d))) : WPE F C (.Call (.Name "isinstance" p) [e, .Name x p2] [] pos) ρ k Φ :=
  of_pe (t := tCB (rIsi C.K) (tCons (tE C e) (tCons (tC (.ty T)) tNil))) (fun X fx => pe_callB (by rw [← fx.K]; exact call_isi) (by show X.env.scope.names.lookup ("isinstance" : Str) = _; rw [fx.sc]; exact hg) (by rw [fx.mg]; exact hm) (by decide +kernel)
      (pa_cons (peE fx) (pa_cons (pe_bltn (v := .ty T) (by show X.env.scope.names.lookup x = _; rw [fx.sc]; exact hg2) (by rw [fx.mg]; exact hm2) hx rfl hxn hxd) pa_nil) (hs X.env)) (by decide) (by decide) (hs X.env) rfl) fun σ H Q en j q => by
    show tE C e σ H _
    refine h σ H _ en j fun v d k1 H1 l1 j1 r hp => ?_
    refine ⟨v, .ty T, _, _, isiD T d, rfl, .ty T, hK ▸ ty_rep r, kit _ d, q _ _ k1 H1 l1 j1 (.bl _) hp⟩
end
section
variable {F : Fm} {C : Cs} {ρ : Rho} {k : Nat} {Ψ : Nat → Bool → Prop} {pos : Pos} {a b : Expr}
end
end Dl

set_option maxHeartbeats 2000000
namespace Dl
open PySem PySem.Spec PyProof.Rows L2
/-! ### [.. for a, b in ..] where each turn makes a new pair: enumerate(list), zip(list, tuple) -/
structure PI2 (F : Fm) (Jt : It) (H1 : Hp) (ds : List (PyData × PyData)) : Prop where
  go : ∀ D, H1 D = none → ∀ n d, ds[n]? = some d → ∃ x y, Rp (F.ext D) (upd H1 D (.lst [])) x d.1 ∧ Rp (F.ext D) (upd H1 D (.lst [])) y d.2 ∧ ∀ H', Lz (F.ext D) (upd H1 D (.lst [])) H' → Jt.go n H' ∧ ∀ v H'', Jt.yld n H' v H'' → ∃ T, v = .ref T ∧ H' T = none ∧ H'' = upd H' T (.tup [x, y])
  stop : ∀ D, H1 D = none → ∀ H', Lz (F.ext D) (upd H1 D (.lst [])) H' → Jt.stop ds.length H'
section
variable {F : Fm} {C : Cs} {ρ : Rho} {k : Nat} {Φ : Nat → PyData → Prop}
end
section
variable {F : Fm} {C : Cs} {ρ : Rho} {k : Nat} {Φ : Nat → PyData → Prop} {P : DE} {pos spos : Pos} {elt e e2 c : Expr} {scope : Scope} {x x1 : Str} {px px1 p3 pr pr2 : Pos} {kk : Nat}
/-- enumerate as pairs -/
def enD : Nat → List PyData → List (PyData × PyData)
  | _, [] => []
  | n, d :: ds => (.int (n : Int), d) :: enD (n + 1) ds
end
/-! ### all, any of a list of bools -/
section
variable {F : Fm} {C : Cs} {ρ : Rho} {k : Nat} {Φ : Nat → PyData → Prop} {pos p : Pos} {e : Expr}
end
/-! ### xs[e:] of a list -/
section
variable {F : Fm} {C : Cs} {ρ : Rho} {k : Nat} {Φ : Nat → PyData → Prop} {pos p2 : Pos} {a e : Expr}
end
end Dl

namespace Dl
open PySem PySem.Spec PyProof.Rows L2
section
variable {F : Fm} {C : Cs} {ρ : Rho} {k : Nat} {Φ : Nat → PyData → Prop} {pos p p1 p2 p3 px : Pos} {x : Str}
end
section
variable {F : Fm} {C : Cs} {ρ : Rho} {k : Nat} {Φ : Nat → PyData → Prop} {pos : Pos} {a b : Expr}
end
end Dl

namespace Dl
open PySem PySem.Spec PyProof.Rows L2
section
variable {F : Fm} {C : Cs} {ρ : Rho} {k : Nat} {P : DE} {pos pos' pos2 p p2 px : Pos} {e : Expr} {x : Str} {body : List Stmt}
end
end Dl

namespace Dl
open PySem PySem.Spec PyProof.Rows L2
section
variable {F : Fm} {C : Cs} {ρ : Rho} {k : Nat} {P : DE} {pos p2 px : Pos} {es : List Expr} {x : Str} {rest : List Stmt}
end
section
variable {F : Fm} {C : Cs} {ρ : Rho} {k : Nat} {Φ : Nat → PyData → Prop} {pos : Pos} {elt iter iter1 : Expr} {scope : Scope} {x x1 : Str} {px px1 : Pos} {α β : Type}
end
end Dl

namespace Dl
open PySem PySem.Spec PyProof.Rows L2
/-! ### enumerate over a tuple -/
abbrev et1 (h : Heap) (t : Addr) : Heap := h.push { cls := .type "tuple_iterator", data := .fields #[.ref t, .int 0 0] }
abbrev et2 (h : Heap) (t : Addr) : Heap := (et1 h t).push { cls := .type "enumerate", data := .fields #[.none, .bool false, .ref h.objs.size, rawInt 0, .none, .none] }
set_option maxHeartbeats 1000000 in
theorem meets_et (t : Addr) (xs : Array Value) : Meets (Builtin.«enumerate.__new__» ⟨[.type "enumerate", .ref t], []⟩)
    (fun _ R s => s.heap.IsTuple t xs ∧ R (.ok (.ret (.ref (et1 s.heap t).objs.size))) { s with heap := et2 s.heap t }) :=
  .of_wp fun prog w A R s q => by
    obtain ⟨hp, g, d, tk, os⟩ := s; obtain ⟨q1, q⟩ := q
    have hsub := sub_enumerate
    have T1 : Heap.IsTuple (Shared.heap ⟨hp, g, d, tk, os⟩) t xs := q1
    obtain ⟨o, ho, hc, n, hd⟩ := id q1
    obtain ⟨c0, dct, dt, sl⟩ := o
    replace hc : c0 = .type "tuple" := hc
    replace hd : dt = .seq xs n := hd
    subst hc hd
    wp_walk using AutoSeq1.wpAny_loadPart' ho
    refine wpAny_stack_any (fun sk => wpAny_pure ?_)
    split
    · rename_i c _ _ _ _ _
      cases (c == Value.type "enumerate") <;> (wp_walk using AutoSeq1.wpAny_loadPart' ho, wpAny_pyIter_tuple T1) <;> exact ⟨_, rfl, q⟩
    · wp_walk using AutoSeq1.wpAny_loadPart' ho, wpAny_pyIter_tuple T1
      exact ⟨_, rfl, q⟩
section
variable {prog : Program} {w : World} {A : Around} {E : Value → Shared → Prop} {s : Shared}
theorem call_et {t : Addr} {xs : Array Value} {Q : Value → Shared → Prop} (q1 : s.heap.IsTuple t xs)
    (q : IsEnum (et2 s.heap t) (s.heap.objs.size + 1) s.heap.objs.size 0 .none → (et2 s.heap t).IsTupleIter s.heap.objs.size t 0 → (∀ c o, s.heap.get? c = some o → (et2 s.heap t).get? c = some o) → Q (.ref (s.heap.objs.size + 1)) { s with heap := et2 s.heap t }) :
    wpAny (model prog w) A (call (.type "enumerate") [.ref t]) Q E s := by
  refine callType_new F.called_enumerate (by decide) (F.typeCall_enumerate_1 _) (F.newCall_enumerate_1 _) (fun obj => F.args_object_init_2 obj _) F.entry_enumerate_new (meets_et t xs) ⟨q1, ?_⟩
  have n1 : (et1 s.heap t).objs.size = s.heap.objs.size + 1 := Heap.size_push ..
  have m2 : (et2 s.heap t).get? (et1 s.heap t).objs.size = some _ := Heap.get?_push_size _ rfl
  have m1 : (et2 s.heap t).get? s.heap.objs.size = some _ := Heap.get?_push_of_some _ (Heap.get?_push_size _ rfl)
  rw [n1] at m2
  show _ ∧ _
  rw [n1]
  exact ⟨⟨_, m2, rfl⟩, q m2 ⟨_, m1, rfl, rfl⟩ fun c o e => Heap.get?_push_of_some _ (Heap.get?_push_of_some _ e)⟩
end
def Itet (K : PySem.W.Frag) (a : Addr) : It :=
  ⟨fun i H => ∃ (xs : List V) (x : V), SqT K H a xs ∧ xs[i]? = some x, fun i H v H' => ∃ t x, v = .ref t ∧ H t = none ∧ H' = upd H t (.tup [.int (i : Nat), x]) ∧ ∀ xs, SqT K H a xs → xs[i]? = some x, fun i H => ∃ xs : List V, SqT K H a xs ∧ xs.length = i⟩
theorem turn_et {P : Program} {w : World} {K : PySem.W.Frag} {elts : List Expr} {kk : Nat} {tpos : Pos} (a e it : Addr) (hae : a ≠ e) (hai : a ≠ it) (hei : e ≠ it) :
    Turn P w K (.Tuple elts kk tpos) (Itet K a) [e, it] e (fun i h => (∃ old, IsEnum h e it ((i : Nat) : Int) old) ∧ h.IsTupleIter it a i) where
  mem := by simp
  obj := fun i h st c hc => by
    obtain ⟨⟨old, he⟩, ⟨o, ho, _, hd⟩⟩ := st
    have two : c = e ∨ c = it := by simpa using hc
    rcases two with rfl | rfl
    · exact ⟨_, he, fun v q => nomatch q⟩
    · exact ⟨o, ho, fun v q => by rw [hd] at q; cases q⟩
  keep := fun i h h' st k => by
    obtain ⟨⟨old, he⟩, wt⟩ := st
    exact ⟨⟨old, k e (by simp) _ he⟩, wt.at fun o q => k it (by simp) o q⟩
  item := by
    intro X hP hw hK hc i pins s σ H E I hf st hg
    subst hP hw hK
    obtain ⟨⟨old, he⟩, wt⟩ := st
    obtain ⟨xs, x, sq, hx⟩ := hg
    obtain ⟨its, rv, p, _⟩ := I.tuple sq
    obtain ⟨u, hu, ru⟩ := rv.get hx
    have elt : e < s.heap.objs.size := Heap.lt_size he
    have ilt : it < s.heap.objs.size := by obtain ⟨o, q, _⟩ := wt; exact Heap.lt_size q
    have hi : i < its.toArray.size := by
      have := (List.getElem?_eq_some_iff.mp hu).1
      simpa using this
    have D := Draws.tuple (prog := X.prog) (w := X.w) (A := X.A.in1) (I.ok.hd hc) it a hai its.toArray
    refine wpAny_pyNext_enum_itemD D he ⟨wt, p⟩ hi hei (by simp [hei, Ne.symm hae]) fun y h1 tk hy ho st1 hT hsz hk => ?_
    have ey : y = u := by
      have h2 : its.toArray[i]? = some u := by simpa using hu
      exact Option.some.inj (hy.symm.trans h2)
    subst ey
    refine ⟨_, rfl, wpAny_letOwnedTupleGo_enum (s := { s with heap := h1, toks := tk + 1 }) ho fun h2 he2 sb => ?_⟩
    have hT2 : h2.get? s.heap.objs.size = some { cls := .type "tuple", data := .seq #[.int i tk, y] } := (sb.2 _ (Nat.ne_of_gt elt)).trans hT
    have okn : ObjOk X.prog X.w (upd H s.heap.objs.size (.tup [.int (i : Nat), x])) h2 s.heap.objs.size (.tup [.int (i : Nat), x]) :=
      ⟨by show 2 ≤ sizeLine; decide, [.int i tk, y], .cons ⟨_, rfl⟩ (.cons ru .nil), ⟨_, hT2, rfl, _, rfl⟩⟩
    have V1 : Inv X pins σ (upd H s.heap.objs.size (.tup [.int (i : Nat), x])) { s with heap := h2, toks := tk + 1 } :=
      I.turnedNew (ch := [e, it]) (fun c o nb g => (sb.2 c fun q => nb (by simp [q])).trans (hk c o (fun q => nb (by simp [q])) (fun q => nb (by simp [q])) g)) hf (Nat.le_refl _) okn
    refine ⟨.ref s.heap.objs.size, _, V1, rfl, ⟨_, x, rfl, I.hok.fresh (Nat.le_refl _), rfl, fun ys hy => by rw [I.tuple_inj hy sq]; exact hx⟩, ⟨⟨y, ?_⟩, st1.1.at fun o q => (sb.2 it (Ne.symm hei)).trans q⟩, fun c hcm => ?_⟩
    · have eI : ((i + 1 : Nat) : Int) = (i : Int) + 1 := by omega
      rw [eI]; exact he2
    · have clt : c < s.heap.objs.size := by
        have two : c = e ∨ c = it := by simpa using hcm
        rcases two with rfl | rfl <;> assumption
      rw [upd_ne (Nat.ne_of_lt clt)]
      exact (hf c hcm).1
  done := by
    intro X hP hw hK hc i pins s σ H E I hf st hg
    subst hP hw hK
    obtain ⟨⟨old, he⟩, wt⟩ := st
    obtain ⟨xs, sq, hx⟩ := hg
    obtain ⟨its, rv, p, _⟩ := I.tuple sq
    obtain ⟨f0, f1, f2, f3, f4, f5⟩ := hf it (by simp)
    have hl := rv.length
    have ei : i = its.toArray.size := by rw [← hx, hl]; simp
    have D := Draws.tuple (prog := X.prog) (w := X.w) (A := X.A.in1) (I.ok.hd hc) it a hai its.toArray
    exact wpAny_pyNext_enum_endD D he ⟨ei ▸ wt, p⟩ fun h' eb => ⟨rfl, I.turned (t' := s.toks) (fun b o hb q => eb b o hb q) f0 f1 f3 f4 f5⟩
  self := fun A i s Q E st h => let ⟨⟨_, he⟩, _⟩ := st; wpAny_pyIter_enum he h
def iEt (K : PySem.W.Frag) (ta : TA) : TI := fun σ H R => ta σ H fun vs H1 => ∃ a xs, vs = [.ref a] ∧ SqT K H1 a xs ∧ R (Itet K a) H1
theorem pi_et {X : Cx} {e : Expr} {ta : TA} {p pos tpos : Pos} {elts : List Expr} {kk : Nat} (hg : Gl X "enumerate") (hm : X.mg "enumerate" = none) (ha : PA X [e] ta) (hs : starEach [e] X.env = [(false, eval e X.env)]) :
    PI X (.Tuple elts kk tpos) (.Call (.Name "enumerate" p) [e] [] pos) (iEt X.K ta) := by
  refine ⟨fun pins s σ H R I h => Call_ (ld_blt I hg hm boot_enumerate (PyProof.Rows.callWith_type1 (thn (ha.run pos pins s σ H _ I h) fun us s1 ⟨vs, H1, I1, r1, q1⟩ => ?_) hs rfl))⟩
  obtain ⟨a, xs, rfl, sq, q⟩ := q1
  cases r1 with
  | cons ra rr =>
  cases rr
  cases ra
  obtain ⟨vx, rx, lx, _⟩ := I1.tuple sq
  have lta : a < s1.heap.objs.size := by obtain ⟨o, q, _⟩ := lx; exact Heap.lt_size q
  refine call_et lx fun pe wt kp => wpAny_pyIter_enum pe ?_
  have V2 : Inv X pins σ H1 { s1 with heap := et2 s1.heap a } := I1.kept (t' := s1.toks) kp
  refine ⟨s1.heap.objs.size + 1, [s1.heap.objs.size + 1, s1.heap.objs.size], _, _, H1, rfl, V2, turn_et a (s1.heap.objs.size + 1) s1.heap.objs.size (Nat.ne_of_lt (Nat.lt_succ_of_lt lta)) (Nat.ne_of_lt lta) (Nat.succ_ne_self _), ⟨⟨.none, pe⟩, wt⟩, fun c hcm => ?_, q⟩
  have two : c = s1.heap.objs.size + 1 ∨ c = s1.heap.objs.size := by simpa using hcm
  have ge : s1.heap.objs.size ≤ c := by rcases two with z | z <;> rw [z] <;> first | exact Nat.le_add_right _ _ | exact Nat.le_refl _
  exact I1.fpOk ge (I1.hok.fresh ge)
section
variable {F : Fm} {C : Cs} {ρ : Rho} {k : Nat} {P : DE} {pos p p1 p2 tp : Pos} {a : Expr} {x1 x2 : Str} {kk : Nat} {body : List Stmt}
/-- for x1, x2 in enumerate(a tuple) -/
theorem ws_for_et (i1 i2 : Nat) (t1 : Tgt C i1 x1) (t2 : Tgt C i2 x2) (hK : F.K = C.K) (hg : C.sc.names.lookup ("enumerate" : Str) = some .globalImplicit) (hm : C.mg ("enumerate" : Str) = none)
    (hse : ∀ env : Env, starEach [a] env = [(false, eval a env)]) (hfs : ∀ (env : Env) (v : Value), foldedSetIterable (.Call (.Name "enumerate" p) [a] [] pos) env v = pure v)
    (h : WPE F C a ρ k fun k2 d => ∃ (I : Nat → Nat → Rho → Prop) (ds : List PyData), d = .tuple ds ∧ I 0 k2 ρ ∧
      (∀ (j : Nat) (y : PyData) k' ρ', ds[j]? = some y → I j k' ρ' → WPB F C body ((ρ'.set i1 (.d (.int (j : Int)))).set i2 (.d y)) k' (P.loop (I (j + 1)))) ∧ (∀ k' ρ', I ds.length k' ρ' → P.nx k' ρ')) :
    WPS F C (.For (.Tuple [.Name x1 p1, .Name x2 p2] kk tp) (.Call (.Name "enumerate" p) [a] [] pos) body [] pos) ρ k P :=
  of_ps (t := tFor (iEt C.K (tCons (tE C a) tNil)) (gTup C.K 2 (gCons (gName i1) (gCons (gName i2) gNil))) (tB C body)) (fun X fx => ps_for (by rw [fx.xe]; exact PassesOwn.never) fx.calm
      (by rw [← fx.K]; exact pi_et (by show X.env.scope.names.lookup ("enumerate" : Str) = _; rw [fx.sc]; exact hg) (by rw [fx.mg]; exact hm) (pa_cons (peE fx) pa_nil (hse X.env)) (hse X.env))
      (pgTup (n := 2) fx (pgs_cons (t1.pg fx) (pgs_cons (t2.pg fx) pgs_nil)) (by rfl) (by rfl)) (pbB fx) (hfs X.env)) fun σ H E en j q1 q2 q3 q4 => by
    show tE C a σ H _
    refine h σ H _ en j fun va da k2 H2 l2 j2 ra hh => ?_
    obtain ⟨I, ds, e1, i0, hstep, hend⟩ := hh
    subst e1
    cases ra with
    | @tup pa xs _ ha hra =>
    refine ⟨pa, xs, rfl, hK ▸ sqt_of ha, ?_⟩
    have nx : xs.length = ds.length := hra.length
    refine ⟨fun n m σ' H' => m + n = xs.length ∧ ∃ k' ρ', EnvOk F H' σ' ρ' ∧ J F k' H' ∧ Lz F H2 H' ∧ I n k' ρ', ⟨xs.length, by omega, k2, ρ, en.le l2, j2, .refl, i0⟩, ?_⟩
    rintro n m σ' H' ⟨hm', k', ρ', en', j', lz, ii⟩
    have sqa : SqT C.K H' pa xs := hK ▸ sqt_of (K := F.K) (⟨lz _ _ (Fm.sxA ha.2) ha.1, ha.2⟩ : H' pa = some (.tup xs) ∧ ¬ F.S pa)
    by_cases over : n = xs.length
    · exact .inl ⟨⟨xs, sqa, over.symm⟩, q1 ρ' σ' k' H' (l2.lz.trans lz) en' j' (hend k' ρ' (by rw [← nx, ← over]; exact ii))⟩
    · have lt1 : n < xs.length := by omega
      refine .inr ⟨⟨xs, xs[n], sqa, List.getElem?_eq_getElem lt1⟩, fun σ2 H2' => ∃ k' ρ', EnvOk F H2' σ2 ρ' ∧ J F k' H2' ∧ Lz F H2 H2' ∧ I (n + 1) k' ρ', fun σ2 H2' w => ⟨m - 1, by omega, by omega, w⟩, ?_⟩
      rintro v H3 ⟨t, x, rfl, ht, rfl, fx1⟩
      obtain ⟨dx, hdx, rdx⟩ := hra.got (fx1 xs sqa)
      have lnew : Le F H' (upd H' t (.tup [.int (n : Nat), x])) := .new ht
      have rx2 := (rdx.le lz).le lnew.lz
      refine ⟨t, [.int (n : Nat), x], rfl, .inl (.inl upd_same), rfl, .int (n : Nat), [x], rfl, x, [], rfl, rfl, ?_⟩
      refine hstep n dx k' ρ' hdx ii _ _ _ (((en'.le lnew).set (sv := .d (.int (n : Int))) ⟨_, rfl, .int _⟩).set (sv := .d dx) ⟨_, rfl, rx2⟩) (j'.new ht) ?_ q2 ?_ ?_
      · exact fun ρ2 σ2 k2' H2' l2' e2 j2' p => ⟨k2', ρ2, e2, j2', (lz.trans lnew.lz).trans l2', p⟩
      · exact fun ρ2 σ2 k2' H2' l2' e2 j2' p => q1 ρ2 σ2 k2' H2' (l2.lz.trans ((lz.trans lnew.lz).trans l2')) e2 j2' p
      · exact fun ρ2 σ2 k2' H2' l2' e2 j2' p => ⟨k2', ρ2, e2, j2', (lz.trans lnew.lz).trans l2', p⟩
end
end Dl

namespace Dl
open PySem PySem.Spec PyProof.Rows L2
/-! ### numbers for what is known of decks -/
def prN (a b : Nat) : Nat := 2 ^ a * (2 * b + 1)
theorem prN_inj : ∀ {a b c d : Nat}, prN a b = prN c d → a = c ∧ b = d
  | 0, b, 0, d, h => by unfold prN at h; omega
  | 0, b, c + 1, d, h => by
    unfold prN at h
    rw [Nat.pow_succ, Nat.mul_comm (2 ^ c) 2, Nat.mul_assoc] at h
    omega
  | a + 1, b, 0, d, h => by
    unfold prN at h
    rw [Nat.pow_succ, Nat.mul_comm (2 ^ a) 2, Nat.mul_assoc] at h
    omega
  | a + 1, b, c + 1, d, h => by
    unfold prN at h
    rw [Nat.pow_succ, Nat.pow_succ, Nat.mul_comm (2 ^ a) 2, Nat.mul_comm (2 ^ c) 2, Nat.mul_assoc, Nat.mul_assoc] at h
    have h2 : prN a b = prN c d := by unfold prN; omega
    obtain ⟨e1, e2⟩ := prN_inj h2
    exact ⟨by omega, e2⟩
theorem prN_pos (a b : Nat) : prN a b ≠ 0 := by
  unfold prN
  have := Nat.two_pow_pos a
  intro h
  rcases Nat.mul_eq_zero.mp h with h | h <;> omega
class Enc (α : Type) where
  enc : α → Nat
  inj : ∀ a b, enc a = enc b → a = b
instance : Enc Nat := ⟨id, fun _ _ h => h⟩
def encI : Int → Nat
  | .ofNat n => 2 * n
  | .negSucc n => 2 * n + 1
instance : Enc Int := ⟨encI, fun a b h => by
  cases a with
  | ofNat n => cases b with
    | ofNat m => simp only [encI] at h; rw [show n = m by omega]
    | negSucc m => simp only [encI] at h; omega
  | negSucc n => cases b with
    | ofNat m => simp only [encI] at h; omega
    | negSucc m => simp only [encI] at h; rw [show n = m by omega]⟩
instance {α β : Type} [Enc α] [Enc β] : Enc (α × β) := ⟨fun p => prN (Enc.enc p.1) (Enc.enc p.2), fun a b h => by
  obtain ⟨h1, h2⟩ := prN_inj h
  exact Prod.ext (Enc.inj _ _ h1) (Enc.inj _ _ h2)⟩
def encL {α : Type} [Enc α] : List α → Nat
  | [] => 0
  | x :: xs => prN (Enc.enc x) (encL xs)
theorem encL_inj {α : Type} [Enc α] : ∀ a b : List α, encL a = encL b → a = b
  | [], [], _ => rfl
  | [], y :: ys, h => absurd h.symm (prN_pos _ _)
  | x :: xs, [], h => absurd h (prN_pos _ _)
  | x :: xs, y :: ys, h => by
    obtain ⟨h1, h2⟩ := prN_inj h
    rw [Enc.inj _ _ h1, encL_inj xs ys h2]
instance {α : Type} [Enc α] : Enc (List α) := ⟨encL, encL_inj⟩
/-- boxes and edits of a deck -/
abbrev Pg := List (Nat × List Int) × List (Nat × Int)
def kk (c : Nat) (g : Pg) : Nat := Enc.enc (c, g)
theorem kk_inj {c c' : Nat} {g g' : Pg} (h : kk c g = kk c' g') : c = c' ∧ g = g' := by
  have := Enc.inj _ _ h
  exact ⟨congrArg Prod.fst this, congrArg Prod.snd this⟩

/-! ### the lists of a deck, redescribed -/
section
variable {X : Cx} {pins : List (Addr × Obj)} {σ : L2.St} {H : Hp} {s : Shared} {p : Addr} {as : List Addr}
theorem vals_refs : ∀ {as : List Addr} {its : List Value}, Vals (as.map V.ref) its → its = as.map Value.ref
  | [], _, h => by cases h; rfl
  | a :: as, _, h => by
    cases h with
    | cons h1 h2 => rw [vals_refs h2, show _ = Value.ref a from h1]; rfl
theorem refs_vals : ∀ (as : List Addr), Vals (as.map V.ref) (as.map Value.ref)
  | [] => .nil
  | _ :: as => .cons rfl (refs_vals as)
theorem inv_asLst (I : Inv X pins σ H s) (h : H p = some (extL p as)) : Inv X pins σ (upd H p (.lst (as.map V.ref))) s := by
  obtain ⟨⟨hl, n, e⟩, _, _⟩ := I.hok p _ h
  exact I.write (x := p) (e := p) (t' := s.toks) (h' := s.heap) (by rw [h]; exact trivial) (.inl rfl) (fun b v _ q => q) ⟨_, e⟩ ⟨by rw [List.length_map]; exact hl, _, n, refs_vals as, e⟩
theorem inv_asExt (I : Inv X pins σ H s) (h : H p = some (.lst (as.map V.ref))) : Inv X pins σ (upd H p (extL p as)) s := by
  obtain ⟨hl, its, n, r, e⟩ := I.hok p _ h
  rw [vals_refs r] at e
  rw [List.length_map] at hl
  exact I.write (x := p) (e := p) (t' := s.toks) (h' := s.heap) (by rw [h]; exact trivial) (.inl rfl) (fun b v _ q => q) ⟨_, e⟩ ⟨⟨hl, n, e⟩, ⟨_, e⟩, fun h1 h2 ⟨l, n, q⟩ k => ⟨l, n, k _ q⟩⟩
/-- the list at p is a plain one while e runs -/
def tOpen (t : TE) : TE := fun σ H Q => ∃ (p : Addr) (as : List Addr), H p = some (extL p as) ∧ t σ (upd H p (.lst (as.map V.ref))) fun v H' => ∃ as', H' p = some (.lst (as'.map V.ref)) ∧ Q v (upd H' p (extL p as'))
end
end Dl

namespace Dl
open PySem PySem.Spec PyProof.Rows L2
/-! ### data of tuples alone -/
def NT (H : Hp) (b : Addr) : Prop := ∀ xs, H b ≠ some (.tup xs)
abbrev TR (K : PySem.W.Frag) (H : Hp) (v : V) (d : PyData) : Prop := Rep K (NT H) H v d
abbrev TRs (K : PySem.W.Frag) (H : Hp) (vs : List V) (ds : List PyData) : Prop := RepAll K (NT H) H vs ds
section
variable {K : PySem.W.Frag} {H H' : Hp} {S : Addr → Prop}
theorem nt_of {b : Addr} (n : ¬ NT H b) : ∃ xs, H b = some (.tup xs) := Classical.byContradiction fun z => n fun xs hx => z ⟨xs, hx⟩
theorem TR.keep {v : V} {d : PyData} (r : TR K H v d) (e : ∀ b xs, H b = some (.tup xs) → H' b = some (.tup xs)) : TR K H' v d :=
  Rep.keepX (S := NT H) (S' := NT H') (fun b o n _ q => by obtain ⟨xs, hx⟩ := nt_of n; rw [q] at hx; cases hx; exact e b xs q) (fun b hb hn xs hx => hn xs (e b xs hx)) d v r
theorem TRs.keep {v : List V} {d : List PyData} (r : TRs K H v d) (e : ∀ b xs, H b = some (.tup xs) → H' b = some (.tup xs)) : TRs K H' v d :=
  RepAll.keepX (S := NT H) (S' := NT H') (fun b o n _ q => by obtain ⟨xs, hx⟩ := nt_of n; rw [q] at hx; cases hx; exact e b xs q) (fun b hb hn xs hx => hn xs (e b xs hx)) d v r
theorem TR.rep {v : V} {d : PyData} (r : TR K H v d) (al : ∀ b, S b → Lv H b) : Rep K S H v d :=
  Rep.keep (S := NT H) (S' := S) (fun _ _ _ q => q) (fun b _ hS xs hx => by obtain ⟨o, e, n⟩ := al b hS; rw [hx] at e; cases e; exact n xs rfl) d v r
theorem TRs.rep {v : List V} {d : List PyData} (r : TRs K H v d) (al : ∀ b, S b → Lv H b) : RepAll K S H v d :=
  RepAll.keep (S := NT H) (S' := S) (fun _ _ _ q => q) (fun b _ hS xs hx => by obtain ⟨o, e, n⟩ := al b hS; rw [hx] at e; cases e; exact n xs rfl) d v r
def boxP (p : Nat × List Int) : PyData := .tuple [.int (p.1 : Int), .tuple (p.2.map PyData.int)]
def wordS : Nat → Str
  | 0 => "add"
  | 1 => "remove"
  | 2 => "flip"
  | _ => "press"
def edP (e : Nat × Int) : PyData := .tuple [.str (wordS e.1), .int e.2]
theorem tr_box {v : V} {p : Nat × List Int} (r : Rep K S H v (boxP p)) : ∃ a, v = .ref a ∧ TR K H v (boxP p) := by
  cases r with
  | @tup a xs _ ha hr =>
  cases hr with
  | cons r1 hr =>
  cases hr with
  | cons r2 hr =>
  cases hr
  cases r1
  cases r2 with
  | @tup b ys _ hb hrb =>
  refine ⟨a, rfl, .tup ⟨ha.1, fun z => z _ ha.1⟩ (.cons (.int _) (.cons (.tup ⟨hb.1, fun z => z _ hb.1⟩ ?_) .nil))⟩
  rw [RepAll.ints hrb]; exact RepAll.of_ints _
end
/-! ### a deck in the heap -/
structure PiG (K : PySem.W.Frag) (C a dx s t : Addr) (g : Pg) (H : Hp) : Prop where
  ia : H a = some (.ins C dx [("states", .ref s), ("done", .ref t)])
  id : H dx = some (.own a)
  ne : s ≠ t
  ss : ∃ as, H s = some (extL s as) ∧ TRs K H (as.map V.ref) (g.1.map boxP)
  tt : ∃ bs, H t = some (extL t bs) ∧ TRs K H (bs.map V.ref) (g.2.map edP)
  ls : g.1.length ≤ 1000
  lt : g.2.length ≤ 1000
theorem isX_ext {s : Addr} {as : List Addr} (h : as.length ≤ sizeLine) : IsX (extL s as) := ⟨s, as, h, rfl⟩
section
variable {K : PySem.W.Frag} {C a dx s t : Addr} {g : Pg} {H H' : Hp}
theorem big1000 {n : Nat} (h : n ≤ 1000) : n ≤ sizeLine := Nat.le_trans h (by decide)
theorem PiG.xs (d : PiG K C a dx s t g H) : ∃ as, H s = some (extL s as) ∧ TRs K H (as.map V.ref) (g.1.map boxP) ∧ IsX (extL s as) ∧ as.length = g.1.length := by
  obtain ⟨as, h1, h2⟩ := d.ss
  have e := h2.length
  rw [List.length_map, List.length_map] at e
  exact ⟨as, h1, h2, isX_ext (by rw [e]; exact big1000 d.ls), e⟩
theorem PiG.xt (d : PiG K C a dx s t g H) : ∃ as, H t = some (extL t as) ∧ TRs K H (as.map V.ref) (g.2.map edP) ∧ IsX (extL t as) ∧ as.length = g.2.length := by
  obtain ⟨as, h1, h2⟩ := d.tt
  have e := h2.length
  rw [List.length_map, List.length_map] at e
  exact ⟨as, h1, h2, isX_ext (by rw [e]; exact big1000 d.lt), e⟩
theorem PiG.at (d : PiG K C a dx s t g H) (h1 : H' a = H a) (h2 : H' dx = H dx) (h3 : ∀ b o, (IsX o ∨ ∃ xs, o = .tup xs) → H b = some o → H' b = some o) : PiG K C a dx s t g H' := by
  obtain ⟨as, e1, e2, e3, _⟩ := d.xs
  obtain ⟨bs, f1, f2, f3, _⟩ := d.xt
  exact ⟨h1.trans d.ia, h2.trans d.id, d.ne, ⟨as, h3 s _ (.inl e3) e1, e2.keep fun b xs q => h3 b _ (.inr ⟨xs, rfl⟩) q⟩, ⟨bs, h3 t _ (.inl f3) f1, f2.keep fun b xs q => h3 b _ (.inr ⟨xs, rfl⟩) q⟩, d.ls, d.lt⟩
end
/-- the frame of a def that edits the deck at a -/
def piFm (K : PySem.W.Frag) (S : Addr → Prop) (H0 : Hp) (C a dx s0 t0 : Addr) (hS : ∀ b, b = a ∨ b = dx → S b) : Fm where
  K := K
  S := S
  M := fun b => b = a ∨ b = dx
  H0 := H0
  G := fun k H => ∃ g s t, k = Enc.enc g ∧ PiG K C a dx s t g H ∧ (s = s0 ∨ ∀ o, H0 s = some o → ¬ IsX o) ∧ (t = t0 ∨ ∀ o, H0 t = some o → ¬ IsX o) ∧ (∀ y o, y ≠ s0 → y ≠ t0 → IsX o → H0 y = some o → H y = some o) ∧ (∀ y o, IsX o → H0 y = some o → ∃ o', IsX o' ∧ H y = some o')
  ms := hS
  gm := fun k H H' ⟨g, s, t, e, d, h1, h2, h3, h4⟩ hm hx => ⟨g, s, t, e, d.at (hm a (.inl rfl)) (hm dx (.inr rfl)) hx, h1, h2, fun y o n1 n2 x q => hx y o (.inl x) (h3 y o n1 n2 x q), fun y o x q => by
    obtain ⟨o', x', q'⟩ := h4 y o x q
    exact ⟨o', x', hx y o' (.inl x') q'⟩⟩
  gl := fun k H ⟨g, s, t, e, d, _⟩ b hb => by
    rcases hb with rfl | rfl
    · rw [d.ia]; exact fun z => nomatch z
    · rw [d.id]; exact fun z => nomatch z
  X := IsX
  xi := fun _ h => h
  xa := fun k H ⟨g, s, t, e, d, _, _, _, h4⟩ b o _ x q => h4 b o x q
/-- the frame knows the deck at a: mk tells k by what is known of the deck -/
structure HasPi (F : Fm) (C a dx : Addr) (mk : Pg → Nat) : Prop where
  X : F.X = IsX
  ma : F.M a
  md : F.M dx
  get : ∀ g H, F.G (mk g) H → ∃ s t, PiG F.K C a dx s t g H
  put : ∀ g g' H H' s t s' t', F.G (mk g) H → PiG F.K C a dx s t g H → (∀ b o, b ≠ a → b ≠ dx → b ≠ s → b ≠ t → H b = some o → H' b = some o) → (∀ y o, IsX o → H y = some o → ∃ o', IsX o' ∧ H' y = some o') → PiG F.K C a dx s' t' g' H' → (s' = s ∨ H s' = none) → (t' = t ∨ H t' = none) → F.G (mk g') H'
theorem HasPi.ext {F : Fm} {C a dx : Addr} {mk : Pg → Nat} (h : HasPi F C a dx mk) (D : Addr) : HasPi (F.ext D) C a dx mk := ⟨h.X, h.ma, h.md, h.get, h.put⟩
theorem PiG.uniq {K : PySem.W.Frag} {C a dx s t s' t' : Addr} {g g' : Pg} {H : Hp} (d : PiG K C a dx s t g H) (d' : PiG K C a dx s' t' g' H) : s = s' ∧ t = t' := by
  have e := d.ia.symm.trans d'.ia
  injection e with e
  injection e with _ _ e
  injection e with e1 e2
  injection e2 with e2 _
  injection e1 with _ e1
  injection e2 with _ e2
  injection e1 with e1
  injection e2 with e2
  exact ⟨e1, e2⟩
theorem has_piFm {K : PySem.W.Frag} {S : Addr → Prop} {H0 : Hp} {C a dx s0 t0 : Addr} {hS : ∀ b, b = a ∨ b = dx → S b} : HasPi (piFm K S H0 C a dx s0 t0 hS) C a dx Enc.enc where
  X := rfl
  ma := .inl rfl
  md := .inr rfl
  get := fun g H ⟨g1, s, t, e, d, _⟩ => by
    have := Enc.inj _ _ e
    subst this
    exact ⟨s, t, d⟩
  put := fun g g' H H' s t s' t' ⟨g1, s1, t1, e, d1, h1, h2, h3, h4⟩ d keep e1 d' hs ht => by
    obtain ⟨rfl, rfl⟩ := d1.uniq d
    have gone : ∀ y, H y = none → ∀ o, H0 y = some o → ¬ IsX o := fun y hy o q x => by
      obtain ⟨o', _, q'⟩ := h4 y o x q
      rw [q'] at hy; cases hy
    refine ⟨g', s', t', rfl, d', ?_, ?_, fun y o n1 n2 x q => ?_, fun y o x q => ?_⟩
    · rcases hs with rfl | hs
      · exact h1
      · exact .inr (gone s' hs)
    · rcases ht with rfl | ht
      · exact h2
      · exact .inr (gone t' ht)
    · have q1 := h3 y o n1 n2 x q
      refine keep y o ?_ ?_ ?_ ?_ q1
      · rintro rfl; rw [d.ia] at q1; cases q1; exact nx_ins x
      · rintro rfl; rw [d.id] at q1; cases q1; exact nx_own x
      · rintro rfl
        rcases h1 with h1 | h1
        · exact n1 h1
        · exact h1 o q x
      · rintro rfl
        rcases h2 with h2 | h2
        · exact n2 h2
        · exact h2 o q x
    · obtain ⟨o', x', q'⟩ := h4 y o x q
      exact e1 y o' x' q'
/-! ### defs that edit a deck -/
def spPi (K : PySem.W.Frag) (C : Addr) (Pre : Pg → List PyData → Prop) (R : Pg → List PyData → Pg → PyData → Prop) : Sp := fun vs H Q _ => ∃ (S : Addr → Prop) (a dx s t : Addr) (vs' : List V) (ds : List PyData) (g : Pg), vs = .ref a :: vs' ∧ PiG K C a dx s t g H ∧ (∀ b, S b → Lv H b) ∧ S a ∧ S dx ∧ RepAll K S H vs' ds ∧ Pre g ds ∧
  ∀ v d g' s' t' H', (∀ b o, b ≠ a → b ≠ dx → b ≠ s → b ≠ t → H b = some o → H' b = some o) → (∀ y o, IsX o → H y = some o → ∃ o', IsX o' ∧ H' y = some o') → PiG K C a dx s' t' g' H' → (s' = s ∨ H s' = none) → (t' = t ∨ H t' = none) → Rep K S H' v d → R g ds g' d → Q v H'
section
variable {P : Program} {w : World} {K : PySem.W.Frag} {mg : Str → Option Value} {base : Heap} {C : Addr}
theorem pi_ok {x qual : Str} {st : Stmt} {f : Addr} {fd : FuncData} {N ps : List Str} {k : Nat} {Pre : Pg → List PyData → Prop} {R : Pg → List PyData → Pg → PyData → Prop} (Fn : Fun K x qual st f fd) (Sc : FnScope N ps (defScope st)) (len : ∀ g ds, Pre g ds → ds.length + 1 = ps.length)
    (body : ∀ (F : Fm) (a dx : Addr) (ds : List PyData) (g : Pg), HasPi F C a dx Enc.enc → F.K = K → Pre g ds → WPB F (bodyCs P w K mg base N (defScope st) k) (defBody st) (.raw (.ref a) :: (ds.map SV.d ++ List.replicate (N.length - (ds.length + 1)) SV.un)) (Enc.enc g) { nx := fun k' _ => ∃ g', k' = Enc.enc g' ∧ R g ds g' .none, rt := fun k' d => ∃ g', k' = Enc.enc g' ∧ R g ds g' d, bk := fun _ _ => False, ct := fun _ _ => False }) :
    FnG P w K mg base (k + 1) f fd ps (spPi K C Pre R) := by
  refine FnG.of_body Fn Sc (fun vs H Q E h => ?_) (fun cdv A outer s H vs Q hgd hr h => ?_)
  · obtain ⟨S, a, dx, s, t, vs', ds, g, rfl, _, _, _, _, rr, hp, _⟩ := h
    rw [List.length_cons, rr.length, len g ds hp]
  · obtain ⟨S, a, dx, s0, t0, vs', ds, g, rfl, dg, al, Sa, Sd, rr, hp, q⟩ := h
    refine ⟨_, pbB (fits_body hgd hr), ?_⟩
    have hS : ∀ b, b = a ∨ b = dx → S b := fun b hb => by rcases hb with rfl | rfl <;> assumption
    have fin : ∀ v d k' H', J (piFm K S H C a dx s0 t0 hS) k' H' → Rep K S H' v d → (∃ g', k' = Enc.enc g' ∧ R g ds g' d) → Q v H' := fun v d k' H' j' rv ⟨g', e, hR⟩ => by
      obtain ⟨g1, s, t, e1, d1, h1, h2, h3, h4⟩ := j'.g
      have := Enc.inj _ _ (e.symm.trans e1)
      subst this
      obtain ⟨as, x1, _, x3, _⟩ := d1.xs
      obtain ⟨bs, y1, _, y3, _⟩ := d1.xt
      have fresh : ∀ z o, H' z = some o → IsX o → (∀ o, H z = some o → ¬ IsX o) → H z = none := fun z o hz xo hn => by
        cases q : H z with
        | none => rfl
        | some u =>
          have nx := hn u q
          have nm : ¬ (z = a ∨ z = dx) := by
            rintro (rfl | rfl)
            · rw [d1.ia] at hz; cases hz; exact nx_ins xo
            · rw [d1.id] at hz; cases hz; exact nx_own xo
          have := j'.le z u (Fm.mx nm nx) q
          rw [hz] at this
          cases this
          exact absurd xo nx
      refine q v d g' s t H' (fun b o n1 n2 n3 n4 e => ?_) h4 d1 (h1.imp id fun h => fresh s _ x1 x3 h) (h2.imp id fun h => fresh t _ y1 y3 h) rv hR
      by_cases x : IsX o
      · exact h3 b o n3 n4 x e
      · exact j'.le b o (Fm.mx (fun z => z.elim n1 n2) x) e
    have j0 : J (piFm K S H C a dx s0 t0 hS) (Enc.enc g) H := ⟨⟨g, s0, t0, rfl, dg, .inl rfl, .inl rfl, fun _ _ _ _ _ q => q, fun y o x q => ⟨o, x, q⟩⟩, fun b o _ e => e, al⟩
    refine body (piFm K S H C a dx s0 t0 hS) a dx ds g has_piFm rfl hp (L2.start N (.ref a :: vs')) H _ (env_raw (F := piFm K S H C a dx s0 t0 hS) rr) j0 ?_ ?_ ?_ ?_
    · exact fun ρ' σ' k' H' _ _ j' e => fin _ .none k' H' j' .non e
    · exact fun v d' k' H' j' r' e => fin v d' k' H' j' r' e
    · exact fun _ _ _ _ _ _ _ z => z.elim
    · exact fun _ _ _ _ _ _ _ z => z.elim
end
/-- what the caller of such a def has of it -/
theorem pi_step {F : Fm} {K : PySem.W.Frag} {C a dx : Addr} {mk : Pg → Nat} {g : Pg} {H : Hp} {vs : List V} {ds : List PyData} {Q : VK} {Φ : Nat → PyData → Prop} {Pre : Pg → List PyData → Prop} {R : Pg → List PyData → Pg → PyData → Prop} (pi : HasPi F C a dx mk) (hK : F.K = K) (j : J F (mk g) H) (r : RpAll F H vs ds) (hp : Pre g ds) (hq : ∀ g' d, R g ds g' d → Φ (mk g') d)
    (q : ∀ v d k' H', Le F H H' → J F k' H' → Rp F H' v d → Φ k' d → Q v H') : spPi K C Pre R (.ref a :: vs) H Q E0 := by
  subst hK
  obtain ⟨s, t, dg⟩ := pi.get g H j.g
  obtain ⟨as, x1, _, x3, _⟩ := dg.xs
  obtain ⟨bs, y1, _, y3, _⟩ := dg.xt
  refine ⟨F.S, a, dx, s, t, vs, ds, g, rfl, dg, j.al, F.ms _ pi.ma, F.ms _ pi.md, r, hp, fun v d g' s' t' H' keep e1 dg' hs ht rv hR => ?_⟩
  have le : Le F H H' := fun b o n e => by
    refine keep b o ?_ ?_ ?_ ?_ e
    · rintro rfl; exact n (.inl pi.ma)
    · rintro rfl; exact n (.inl pi.md)
    · rintro rfl; rw [x1] at e; cases e; exact n (.inr (by rw [pi.X]; exact x3))
    · rintro rfl; rw [y1] at e; cases e; exact n (.inr (by rw [pi.X]; exact y3))
  refine q v d (mk g') H' le ⟨pi.put g g' H H' s t s' t' j.g dg keep e1 dg' hs ht, fun b o n e => le b o n (j.le b o n e), fun b hb => ?_⟩ rv (hq g' d hR)
  have lvx : ∀ {z : Addr} {o : HO}, H z = some o → IsX o → Lv H' z := fun {z o} hz xo => by
    obtain ⟨o', ⟨_, _, _, rfl⟩, q'⟩ := e1 z o xo hz
    exact lv_ext q'
  by_cases h1 : b = a
  · subst h1; exact ⟨_, dg'.ia, fun _ z => nomatch z⟩
  by_cases h2 : b = dx
  · subst h2; exact ⟨_, dg'.id, fun _ z => nomatch z⟩
  by_cases h3 : b = s
  · subst h3; exact lvx x1 x3
  by_cases h4 : b = t
  · subst h4; exact lvx y1 y3
  exact (j.al b hb).keep fun o e => keep b o h1 h2 h3 h4 e
end Dl

namespace Dl
open PySem PySem.Spec PyProof.Rows L2
section
variable {X : Cx} {x m : Str} {p pos apos : Pos} {o e : Expr} {es : List Expr} {t : TA} {ta : TE} {k : Nat} {f C : Addr} {fd : FuncData} {ps : List Str} {sp : Sp} {dvs : List V} {ds : List Value}
theorem FnG.call_runD {pins : List (Addr × Obj)} {σ : L2.St} {H : Hp} {s : Shared} {Q : VK} {us : List Value} {vs : List V} (G : FnG X.prog X.w X.K X.mg X.base k f fd ps sp) (gd : X.A.guards = some []) (room : Room k X.A) (hb : L2.Binds X.K fd ps ds) (hd : Vals dvs ds)
    (I : Inv X pins σ H s) (r : Vals vs us) (h : sp (vs ++ dvs) H Q E0) : wpAny (model X.prog X.w) X.A (call (.ref f) us) (EP X pins σ Q) X.xe s := by
  have r2 : Vals (vs ++ dvs) (us ++ ds) := r.append hd
  have hl : (us ++ ds).length = ps.length := by rw [← r2.length]; exact G.len _ _ _ _ h
  have bind := hb s us I.kIn hl
  refine wpAny_call (codeAny_mono (G.run X.A X.stack s H ⟨us, []⟩ (us ++ ds) (vs ++ dvs) Q gd room I.env0 bind r2 h) ?_)
  intro res s' hr
  match res, hr with
  | .ok (.ret u), hr => exact I.after hr
  | .ok .next, hr => exact False.elim hr
  | .ok .brk, hr => exact False.elim hr
  | .ok .cont, hr => exact False.elim hr
  | .error _, hr => exact False.elim hr
theorem pe_methG {pl : Sem Bool} (he : PE X o ta) (c : Cls X.K C) (hm : Meth X.K C m f) (G : FnG X.prog X.w X.K X.mg X.base k f fd ps sp) (gd : X.A.guards = some []) (room : Room k X.A) (hb : L2.Binds X.K fd ps ds) (hd : Vals dvs ds) (ha : PA X (e :: es) t)
    (hst : starEach (e :: es) X.env = (false, eval e X.env) :: starEach es X.env) (hpl : (backTo pos (starEach es X.env)).any (·.1) = false)
    (ht : eval (.Call (.Attribute o m apos) (e :: es) [] pos) X.env = (do
      let ov ← eval o X.env
      standAt apos.atName
      let (f, first) ← holding [ov] (getMethod ov m pl)
      callWith pos f first (backTo pos (starEach (e :: es) X.env)) (backToKw pos (keywordEach [] X.env)))) :
    PE X (.Call (.Attribute o m apos) (e :: es) [] pos) (tMeth C m sp dvs E0 ta t) := by
  refine ⟨fun pins s σ H Q I h => ?_⟩
  refine PySem.W.methodCall_KW (pl := pl) (thn (he.run pins s σ H _ I h) fun u s1 ⟨x, H1, I1, rx, a, dx, fs, ex, ea, l, q⟩ => ?_) ht
  subst ex
  obtain rfl : u = Value.ref a := rx
  refine getmeth_ok I1 ea c hm l ?_
  refine PySem.W.callWith_K (first := [.ref a]) (h₀ := X.base) I.ok.mod.kin hm.kp (thn (ha.run pos pins s1 σ H1 _ I1 q) fun us s2 ⟨vs, H2, I2, r, q2⟩ => ⟨I2.kIn, ?_⟩) hst hpl
  exact FnG.call_runD (us := .ref a :: us) (vs := .ref a :: vs) G gd room hb hd I2 (.cons rfl r) q2
theorem pe_methG0 {pl : Sem Bool} (he : PE X o ta) (c : Cls X.K C) (hm : Meth X.K C m f) (G : FnG X.prog X.w X.K X.mg X.base k f fd ps sp) (gd : X.A.guards = some []) (room : Room k X.A) (hb : L2.Binds X.K fd ps ds) (hd : Vals dvs ds)
    (ht : eval (.Call (.Attribute o m apos) [] [] pos) X.env = (do
      let ov ← eval o X.env
      standAt apos.atName
      let (f, first) ← holding [ov] (getMethod ov m pl)
      callWith pos f first (backTo pos (starEach [] X.env)) (backToKw pos (keywordEach [] X.env)))) :
    PE X (.Call (.Attribute o m apos) [] [] pos) (tMeth C m sp dvs E0 ta tNil) := by
  refine ⟨fun pins s σ H Q I h => ?_⟩
  refine PySem.W.methodCall_KW (pl := pl) (thn (he.run pins s σ H _ I h) fun u s1 ⟨x, H1, I1, rx, a, dx, fs, ex, ea, l, q⟩ => ?_) ht
  subst ex
  obtain rfl : u = Value.ref a := rx
  refine getmeth_ok I1 ea c hm l ?_
  exact PySem.W.callWith_K0 (first := [.ref a]) I1.kIn hm.kp (FnG.call_runD (us := [.ref a]) (vs := [.ref a]) G gd room hb hd I1 (.cons rfl .nil) q)
end
/-- a method that edits decks of the class at C -/
structure PiM (P : Program) (w : World) (K : PySem.W.Frag) (mg : Str → Option Value) (base : Heap) (C : Addr) (lvl : Nat) (m : Str) (dvs : List V) (Pre : Pg → List PyData → Prop) (R : Pg → List PyData → Pg → PyData → Prop) : Prop where
  cl : Cls K C
  ex : ∃ (fa : Addr) (fd : FuncData) (ps : List Str) (ds : List Value), FnG P w K mg base lvl fa fd ps (spPi K C Pre R) ∧ Meth K C m fa ∧ L2.Binds K fd ps ds ∧ Vals dvs ds
/-- a def that edits decks of the class at C -/
structure PiF (P : Program) (w : World) (K : PySem.W.Frag) (mg : Str → Option Value) (base : Heap) (C : Addr) (lvl : Nat) (x : Str) (Pre : Pg → List PyData → Prop) (R : Pg → List PyData → Pg → PyData → Prop) : Prop where
  ex : ∃ (fa : Addr) (fd : FuncData) (ps : List Str), FnG P w K mg base lvl fa fd ps (spPi K C Pre R) ∧ mg x = some (.ref fa) ∧ PySem.W.keepIn K (.ref fa) = true ∧ L2.Binds K fd ps []
section
variable {F : Fm} {C : Cs} {Cl a dx : Addr} {mk : Pg → Nat} {g : Pg} {ρ : Rho} {Φ : Nat → PyData → Prop} {e : Expr} {es : List Expr} {pos p py apos : Pos} {x y m : Str} {Pre : Pg → List PyData → Prop} {R : Pg → List PyData → Pg → PyData → Prop} {j : Nat} {P : DE}
theorem meth_none (h : m ≠ "states" ∧ m ≠ "done") {s t : Addr} : ([("states", V.ref s), ("done", V.ref t)] : List (Str × V)).lookup m = none := by
  simp only [List.lookup]
  rw [show (m == ("states" : Str)) = false from by simpa using h.1]
  simp only [List.lookup]
  rw [show (m == ("done" : Str)) = false from by simpa using h.2]
end
end Dl

namespace Dl
open PySem PySem.Spec PyProof.Rows L2
theorem upd_idp {H : Hp} {p : Addr} {o : HO} (h : H p = some o) : upd H p o = H := by
  funext b; unfold upd; split
  · subst_vars; exact h.symm
  · rfl
/-! ### reading and writing a deck's lists -/
section
variable {X : Cx}
def rIxX : R2 := fun x y H Q => ∃ p as i v, x = .ref p ∧ y = .int i ∧ H p = some (extL p as) ∧ atI (as.map V.ref) i = some v ∧ Q v H
theorem ix_ext : IxR X rIxX := by
  rintro value slice pins s σ H x y v u Q I rx ry ⟨p, as, i, w, rfl, rfl, hp, ha, q⟩ hs
  refine wpAny_mono (ix_list (X := X) value slice pins s σ _ _ _ v u (fun z H' => H' = upd H p (.lst (as.map V.ref)) ∧ z = w) (inv_asLst I hp) rx ry ⟨p, as.map V.ref, i, w, rfl, rfl, SqL.of upd_same, ha, rfl, rfl⟩ hs) ?_ fun _ _ z => z
  rintro z s' ⟨z', H', I', rz, rfl, rfl⟩
  refine ⟨z', H, ?_, rz, q⟩
  have := inv_asExt I' upd_same
  rw [upd_upd, upd_idp hp] at this
  exact this
def rLenX : List V → Hp → VK → Prop := fun xs H Q => ∃ p as, xs = [.ref p] ∧ H p = some (extL p as) ∧ Q (.int as.length) H
theorem len_ext : CallR X (.builtin "len") rLenX := by
  rintro pins s σ H xs us Q I r ⟨p, as, rfl, hp, q⟩
  refine wpAny_mono (call_len_seq (X := X) pins s σ _ _ us (fun z H' => H' = upd H p (.lst (as.map V.ref)) ∧ z = .int as.length) (inv_asLst I hp) r ⟨p, as.map V.ref, rfl, .inl (SqL.of upd_same), rfl, by rw [List.length_map]⟩) ?_ fun _ _ z => z
  rintro z s' ⟨z', H', I', rz, rfl, rfl⟩
  refine ⟨_, H, ?_, rz, q⟩
  have := inv_asExt I' upd_same
  rw [upd_upd, upd_idp hp] at this
  exact this
def rTupX : List V → Hp → VK → Prop := fun xs H Q => ∃ p as, xs = [.ref p] ∧ H p = some (extL p as) ∧ ∀ l, H l = none → Q (.ref l) (upd H l (.tup (as.map V.ref)))
def rSlX : V → Option Int → Option Int → Hp → VK → Prop := fun x lo hi H Q => ∃ p as, x = .ref p ∧ H p = some (extL p as) ∧ ∀ l, H l = none → Q (.ref l) (upd H l (.lst (cutV (as.map V.ref) lo hi)))
def rAppX : V → List V → Hp → VK → Prop := fun x vs H Q => ∃ l as y, x = .ref l ∧ vs = [.ref y] ∧ H l = some (extL l as) ∧ as.length < sizeLine ∧ Q .non (upd H l (extL l (as ++ [y])))
end
end Dl

namespace Dl
open PySem PySem.Spec PyProof.Rows L2
/-! ### readings that only lay new objects -/
def WNo (F : Fm) (t : TE) (ρ : Rho) (k : Nat) (Φ : PyData → Prop) : Prop :=
  ∀ (σ : L2.St) (H : Hp) (Q : VK), EnvOk F H σ ρ → J F k H → (∀ v d H', Same H H' → J F k H' → Rp F H' v d → Φ d → Q v H') → t σ H Q
section
variable {F : Fm} {C : Cs} {ρ : Rho} {k : Nat} {Φ : PyData → Prop} {e a b : Expr} {pos p p2 : Pos} {x : Str}
theorem same_le {H H' : Hp} (h : Same H H') : Le F H H' := fun b o _ e => h b o e
theorem of_pn {t : TE} (h : ∀ X, Fits C X → PE X e t) (hw : WNo F t ρ k Φ) : WNo F (tE C e) ρ k Φ := fun σ H Q en j q X fx pins s I => (h X fx).run pins s σ H Q I (hw σ H Q en j q)
theorem wn_name (i : Nat) {d : PyData} (hN : C.N[i]? = some x) (hv : Vis C.sc x) (hr : ρ[i]? = some (.d d)) (h : Φ d) (hd : (x == ("__debug__" : Str)) = false := by decide) (hcd : (x == ("__classdict__" : Str)) = false := by decide) : WNo F (tE C (.Name x pos)) ρ k Φ :=
  of_pn (t := tVar i) (fun X fx => pe_var (by rw [fx.N]; exact hN) (by rw [fx.sc]; exact hv) hd hcd) fun σ H Q en j q => by
    obtain ⟨v, e, r⟩ := en.d hr
    exact ⟨v, e, q v d H (fun _ _ z => z) j r h⟩
theorem wn_int {i : Int} {jj : Nat} (h : Φ (.int i)) : WNo F (tE C (.Constant (.int i) jj pos)) ρ k Φ := of_pn (fun X _ => pe_int) fun σ H Q en j q => q _ _ H (fun _ _ z => z) j (.int i) h
theorem wn_neg (h : WNo F (tE C a) ρ k fun x => ∃ i, x = .int i ∧ Φ (.int (-i))) : WNo F (tE C (.UnaryOp .USub a pos)) ρ k Φ :=
  of_pn (fun X fx => pe_un un_neg (peE fx)) fun σ H Q en j q => h σ H _ en j fun v d H1 l1 j1 r ⟨i, e, p⟩ => by
    subst e; cases r; exact ⟨i, rfl, q _ _ H1 l1 j1 (.int _) p⟩
end
section
variable {F : Fm} {C : Cs} {Cl a dx : Addr} {mk : Pg → Nat} {g : Pg} {ρ : Rho} {k : Nat} {Φ : Nat → PyData → Prop} {e b : Expr} {es : List Expr} {pos p py apos fpos cp : Pos} {x y m : Str} {Pre : Pg → List PyData → Prop} {R : Pg → List PyData → Pg → PyData → Prop} {j : Nat} {P : DE}
theorem lk_states {s t : Addr} : List.lookup ("states" : Str) [("states", V.ref s), ("done", V.ref t)] = some (.ref s) := rfl
theorem lk_done {s t : Addr} : List.lookup ("done" : Str) [("states", V.ref s), ("done", V.ref t)] = some (.ref t) := by
  simp only [List.lookup]
  rw [show (("done" : Str) == ("states" : Str)) = false from by decide +kernel]
  rfl
/-- the class of decks, for its fields -/
structure PiC (K : PySem.W.Frag) (Cl : Addr) : Prop where
  cl : Cls K Cl
  ns : NoAttr K Cl "states"
  nd : NoAttr K Cl "done"
theorem trs_at {K : PySem.W.Frag} {H : Hp} {vs : List V} {ds : List PyData} {i : Int} {d : PyData} (r : TRs K H vs ds) (h : atI ds i = some d) : ∃ v, atI vs i = some v ∧ TR K H v d := by
  have hl := r.length
  unfold atI at h ⊢
  rw [hl]
  cases e : ixN ds.length i with
  | none => rw [e] at h; cases h
  | some n => rw [e] at h; exact r.get h
theorem atI_map {α β : Type} (f : α → β) {xs : List α} {i : Int} {x : α} (h : atI xs i = some x) : atI (xs.map f) i = some (f x) := by
  unfold atI at h ⊢
  rw [List.length_map]
  cases e : ixN xs.length i with
  | none => rw [e] at h; cases h
  | some n =>
    rw [e] at h
    have h : xs[n]? = some x := h
    show (xs.map f)[n]? = _
    rw [List.getElem?_map, h]; rfl
theorem PiG.same {K : PySem.W.Frag} {s t : Addr} {H H' : Hp} (d : PiG K Cl a dx s t g H) (h : Same H H') : PiG K Cl a dx s t g H' :=
  d.at ((h _ _ d.ia).trans d.ia.symm) ((h _ _ d.id).trans d.id.symm) fun b o _ e => h b o e
theorem peFldN (i : Nat) {X : Cx} (fx : Fits C X) {f : Str} (hN : C.N[i]? = some y) (hv : Vis C.sc y) (hd : (y == ("__debug__" : Str)) = false) (hcd : (y == ("__classdict__" : Str)) = false) (hb : ∀ env : Env, attributeBase (.Name y py) f env (eval (.Name y py) env) = eval (.Name y py) env) : PE X (.Attribute (.Name y py) f apos) (tFld C.K (tVar i) f) := by
  rw [← fx.K]
  exact pe_fld (pe_var (i := i) (by rw [fx.N]; exact hN) (by rw [fx.sc]; exact hv) hd hcd) (hb X.env)
/-- y.states[e] -/
theorem we_pix (pc : PiC C.K Cl) (pi : HasPi F Cl a dx mk) (hK : F.K = C.K) (i : Nat) (hN : C.N[i]? = some y) (hv : Vis C.sc y) (hr : ρ[i]? = some (.raw (.ref a))) (hs : PlainIx b)
    (h : WNo F (tE C b) ρ (mk g) fun z => ∃ (n : Int) (d : Nat × List Int), z = .int n ∧ atI g.1 n = some d ∧ Φ (mk g) (boxP d))
    (hd : (y == ("__debug__" : Str)) = false := by decide) (hcd : (y == ("__classdict__" : Str)) = false := by decide) (hb : ∀ env : Env, attributeBase (.Name y py) "states" env (eval (.Name y py) env) = eval (.Name y py) env := by intro _; rfl) :
    WPE F C (.Subscript (.Attribute (.Name y py) "states" apos) b pos) ρ (mk g) Φ :=
  of_pe (fun X fx => pe_ix ix_ext (peFldN i fx hN hv hd hcd hb) (peE fx) hs) fun σ H Q en j q => by
    obtain ⟨s, t, dg⟩ := pi.get g H j.g
    refine ⟨_, en.raw hr, a, Cl, dx, _, _, rfl, dg.ia, pc.cl, pc.ns, lk_states, ?_⟩
    refine h σ H _ en j fun v z H1 l1 j1 r1 ⟨n, d, e, ha, p⟩ => ?_
    subst e
    cases r1
    obtain ⟨as, x1, x2, _, _⟩ := (dg.same l1).xs
    obtain ⟨w, hw, rw'⟩ := trs_at x2 (atI_map boxP ha)
    exact ⟨s, as, n, w, rfl, rfl, x1, hw, q w _ _ H1 (same_le l1) j1 (rw'.rep j1.al) p⟩
/-- len(y.done) -/
theorem we_plenD (pc : PiC C.K Cl) (pi : HasPi F Cl a dx mk) (i : Nat) (hN : C.N[i]? = some y) (hv : Vis C.sc y) (hr : ρ[i]? = some (.raw (.ref a))) (hg : C.sc.names.lookup ("len" : Str) = some .globalImplicit) (hm : C.mg ("len" : Str) = none)
    (h : Φ (mk g) (.int (g.2.length : Nat)))
    (hd : (y == ("__debug__" : Str)) = false := by decide) (hcd : (y == ("__classdict__" : Str)) = false := by decide) (hb : ∀ env : Env, attributeBase (.Name y py) "done" env (eval (.Name y py) env) = eval (.Name y py) env := by intro _; rfl) (hse : ∀ env : Env, starEach [.Attribute (.Name y py) "done" apos] env = (false, eval (.Attribute (.Name y py) "done" apos) env) :: starEach [] env := by intro _; rfl) :
    WPE F C (.Call (.Name "len" p) [.Attribute (.Name y py) "done" apos] [] pos) ρ (mk g) Φ :=
  of_pe (fun X fx => pe_callB len_ext (by show X.env.scope.names.lookup ("len" : Str) = _; rw [fx.sc]; exact hg) (by rw [fx.mg]; exact hm) PySem.boot_len (pa_cons (peFldN i fx hN hv hd hcd hb) pa_nil (hse X.env)) (by decide) (by decide) (hse X.env) rfl) fun σ H Q en j q => by
    obtain ⟨s, t, dg⟩ := pi.get g H j.g
    obtain ⟨as, x1, x2, _, xl⟩ := dg.xt
    refine ⟨_, en.raw hr, a, Cl, dx, _, _, rfl, dg.ia, pc.cl, pc.nd, lk_done, ?_⟩
    exact ⟨t, as, rfl, x1, q _ _ _ H .refl j (by rw [xl]; exact .int _) h⟩
/-- len(y.states) -/
theorem we_plenS (pc : PiC C.K Cl) (pi : HasPi F Cl a dx mk) (i : Nat) (hN : C.N[i]? = some y) (hv : Vis C.sc y) (hr : ρ[i]? = some (.raw (.ref a))) (hg : C.sc.names.lookup ("len" : Str) = some .globalImplicit) (hm : C.mg ("len" : Str) = none)
    (h : Φ (mk g) (.int (g.1.length : Nat)))
    (hd : (y == ("__debug__" : Str)) = false := by decide) (hcd : (y == ("__classdict__" : Str)) = false := by decide) (hb : ∀ env : Env, attributeBase (.Name y py) "states" env (eval (.Name y py) env) = eval (.Name y py) env := by intro _; rfl) (hse : ∀ env : Env, starEach [.Attribute (.Name y py) "states" apos] env = (false, eval (.Attribute (.Name y py) "states" apos) env) :: starEach [] env := by intro _; rfl) :
    WPE F C (.Call (.Name "len" p) [.Attribute (.Name y py) "states" apos] [] pos) ρ (mk g) Φ :=
  of_pe (fun X fx => pe_callB len_ext (by show X.env.scope.names.lookup ("len" : Str) = _; rw [fx.sc]; exact hg) (by rw [fx.mg]; exact hm) PySem.boot_len (pa_cons (peFldN i fx hN hv hd hcd hb) pa_nil (hse X.env)) (by decide) (by decide) (hse X.env) rfl) fun σ H Q en j q => by
    obtain ⟨s, t, dg⟩ := pi.get g H j.g
    obtain ⟨as, x1, x2, _, xl⟩ := dg.xs
    refine ⟨_, en.raw hr, a, Cl, dx, _, _, rfl, dg.ia, pc.cl, pc.ns, lk_states, ?_⟩
    exact ⟨s, as, rfl, x1, q _ _ _ H .refl j (by rw [xl]; exact .int _) h⟩
end
end Dl

namespace Dl
open PySem PySem.Spec PyProof.Rows L2
section
variable {F : Fm} {C : Cs} {Cl a dx : Addr} {mk : Pg → Nat} {g g' : Pg} {ρ : Rho} {k : Nat} {Φ : Nat → PyData → Prop} {e b : Expr} {es : List Expr} {pos p py apos fpos cp : Pos} {x y m : Str} {Pre : Pg → List PyData → Prop} {R : Pg → List PyData → Pg → PyData → Prop} {j : Nat} {P : DE}
/-- the deck is another, the rest as it was -/
theorem pi_move {H H' : Hp} {s t s' t' : Addr} (pi : HasPi F Cl a dx mk) (j : J F (mk g) H) (dg : PiG F.K Cl a dx s t g H) (keep : ∀ b o, b ≠ a → b ≠ dx → b ≠ s → b ≠ t → H b = some o → H' b = some o) (e1 : ∀ y o, IsX o → H y = some o → ∃ o', IsX o' ∧ H' y = some o') (dg' : PiG F.K Cl a dx s' t' g' H') (hs : s' = s ∨ H s' = none) (ht : t' = t ∨ H t' = none) : Le F H H' ∧ J F (mk g') H' := by
  obtain ⟨as, x1, _, x3, _⟩ := dg.xs
  obtain ⟨bs, y1, _, y3, _⟩ := dg.xt
  have le : Le F H H' := fun b o n e => by
    refine keep b o ?_ ?_ ?_ ?_ e
    · rintro rfl; exact n (.inl pi.ma)
    · rintro rfl; exact n (.inl pi.md)
    · rintro rfl; rw [x1] at e; cases e; exact n (.inr (by rw [pi.X]; exact x3))
    · rintro rfl; rw [y1] at e; cases e; exact n (.inr (by rw [pi.X]; exact y3))
  refine ⟨le, pi.put g g' H H' s t s' t' j.g dg keep e1 dg' hs ht, fun b o n e => le b o n (j.le b o n e), fun b hb => ?_⟩
  have lvx : ∀ {z : Addr} {o : HO}, H z = some o → IsX o → Lv H' z := fun {z o} hz xo => by
    obtain ⟨o', ⟨_, _, _, rfl⟩, q'⟩ := e1 z o xo hz
    exact lv_ext q'
  by_cases h1 : b = a
  · subst h1; exact ⟨_, dg'.ia, fun _ z => nomatch z⟩
  by_cases h2 : b = dx
  · subst h2; exact ⟨_, dg'.id, fun _ z => nomatch z⟩
  by_cases h3 : b = s
  · subst h3; exact lvx x1 x3
  by_cases h4 : b = t
  · subst h4; exact lvx y1 y3
  exact (j.al b hb).keep fun o e => keep b o h1 h2 h3 h4 e
/-! ### append to a deck's list -/
def tBMX (r : V → List V → Hp → VK → Prop) (to : TE) (t : TA) : TE := fun σ H Q => to σ H fun x H1 => (∃ p as, x = .ref p ∧ H1 p = some (extL p as)) ∧ t σ H1 fun xs H2 => r x xs H2 Q
/-! ### calls of methods and defs with arguments -/
/-- y.m(e, ..) of a deck -/
theorem we_pm (pi : HasPi F Cl a dx mk) (hF : PiM C.P C.w C.K C.mg C.base Cl j m [] Pre R) (hl : j ≤ C.lvl) (hK : F.K = C.K) (i : Nat) (hN : C.N[i]? = some y) (hv : Vis C.sc y) (hr : ρ[i]? = some (.raw (.ref a))) (hmn : m ≠ "states" ∧ m ≠ "done")
    (h : WPA F C (e :: es) ρ (mk g) fun k1 ds => ∃ mk1 g1, HasPi F Cl a dx mk1 ∧ k1 = mk1 g1 ∧ Pre g1 ds ∧ ∀ g' d, R g1 ds g' d → Φ (mk1 g') d)
    (hd : (y == ("__debug__" : Str)) = false := by decide) (hcd : (y == ("__classdict__" : Str)) = false := by decide) (hst : ∀ env : Env, starEach (e :: es) env = (false, eval e env) :: starEach es env := by intro _; rfl) (hpl : ∀ env : Env, (backTo pos (starEach es env)).any (·.1) = false := by intro _; rfl)
    {pl : Env → Sem Bool} (ht : ∀ env : Env, eval (.Call (.Attribute (.Name y py) m apos) (e :: es) [] pos) env = (do
      let ov ← eval (.Name y py) env
      standAt apos.atName
      let (f, first) ← holding [ov] (getMethod ov m (pl env))
      callWith pos f first (backTo pos (starEach (e :: es) env)) (backToKw pos (keywordEach [] env))) := by intro _; rfl) :
    WPE F C (.Call (.Attribute (.Name y py) m apos) (e :: es) [] pos) ρ (mk g) Φ := by
  obtain ⟨fa, fd, ps, ds, G, hm, hb, hd2⟩ := hF.ex
  refine of_pe (fun X fx => pe_methG (pl := pl X.env) (pe_var (i := i) (by rw [fx.N]; exact hN) (by rw [fx.sc]; exact hv) hd hcd) (by rw [fx.K]; exact hF.cl) (by rw [fx.K]; exact hm) (by rw [fx.P, fx.w, fx.K, fx.mg, fx.base]; exact G) fx.gd (fx.room.mono hl) (by rw [fx.K]; exact hb) hd2 (paA fx) (hst X.env) (hpl X.env) (ht X.env)) fun σ H Q en jj q => ?_
  obtain ⟨s, t, dg⟩ := pi.get g H jj.g
  refine ⟨_, en.raw hr, a, dx, _, rfl, dg.ia, meth_none hmn, ?_⟩
  refine h σ H _ en jj fun vs ds k1 H1 l1 j1 r1 ⟨mk1, g1, pi1, e1, hp, hq⟩ => ?_
  subst e1
  rw [List.append_nil]
  exact pi_step pi1 hK j1 r1 hp hq fun v d k' H' l' j' r' p => q v d k' H' (l1.trans l') j' r' p
/-- f(y, ..) of a def that edits decks -/
theorem we_pf (pi : HasPi F Cl a dx mk) (hF : PiF C.P C.w C.K C.mg C.base Cl j x Pre R) (hl : j ≤ C.lvl) (hK : F.K = C.K) (i : Nat) (hg : C.sc.names.lookup x = some .globalImplicit) (hN : C.N[i]? = some y) (hv : Vis C.sc y) (hr : ρ[i]? = some (.raw (.ref a)))
    (h : WPA F C es ρ (mk g) fun k1 ds => ∃ mk1 g1, HasPi F Cl a dx mk1 ∧ k1 = mk1 g1 ∧ Pre g1 ds ∧ ∀ g' d, R g1 ds g' d → Φ (mk1 g') d)
    (hdb : (x == ("__debug__" : Str)) = false := by decide) (hd : (y == ("__debug__" : Str)) = false := by decide) (hcd : (y == ("__classdict__" : Str)) = false := by decide)
    (hss : ∀ env : Env, starEach (.Name y py :: es) env = (false, eval (.Name y py) env) :: starEach es env := by intro _; rfl) (hpl : ∀ env : Env, ((backTo pos (starEach es env)).any fun x => x.fst) = false := by intro _; rfl) :
    WPE F C (.Call (.Name x p) (.Name y py :: es) [] pos) ρ (mk g) Φ := by
  obtain ⟨fa, fd, ps, G, hm, kp, hb⟩ := hF.ex
  refine of_pe (fun X fx => pe_callF fx G hl hg hm kp hb (pa_cons (pe_var (i := i) (by rw [fx.N]; exact hN) (by rw [fx.sc]; exact hv) hd hcd) (paA fx) (hss X.env)) hdb hss hpl) fun σ H Q en jj q => ?_
  refine ⟨_, en.raw hr, ?_⟩
  refine h σ H _ en jj fun vs ds k1 H1 l1 j1 r1 ⟨mk1, g1, pi1, e1, hp, hq⟩ => ?_
  subst e1
  exact pi_step pi1 hK j1 r1 hp hq fun v d k' H' l' j' r' p => q v d k' H' (l1.trans l') j' r' p
end
end Dl

namespace Dl
open PySem PySem.Spec PyProof.Rows L2
/-! ### len and str of an instance by its own defs -/
section
variable {X : Cx} {k : Nat} {f C a dx : Addr} {fd : FuncData} {ps : List Str} {sp : Sp} {H : Hp} {σ : L2.St} {pins : List (Addr × Obj)} {s : Shared} {fs : List (Str × V)} {A : Around} {name : Str}
theorem special_fn {Q : Option Value → Shared → Prop} {E : Value → Shared → Prop} (I : Inv X pins σ H s) (e : H a = some (.ins C dx fs)) (hf : PySem.W.findIn X.K (.ref C) name = some (some (.ref f))) (fn : PySem.W.isFn X.K (.ref f) = true)
    (hc : wpAny (model X.prog X.w) A (call (.ref f) [.ref a]) (fun v s' => Q (some v) s') E s) : wpAny (model X.prog X.w) A (callSpecial? (.ref a) name) Q E s := by
  obtain ⟨mA, O, _⟩ := ins_get I.hok e
  obtain ⟨od, J, hl⟩ := O.look
  unfold callSpecial? specialOf
  refine wpAny_bind (wpAny_bind (J.type.here ((PySem.W.looks_findIn I.kIn hf).here ?_)))
  refine wpAny_holding ?_
  refine wpAny_bind ((PySem.W.bind_fn I.kIn _ (beq_iff_eq.mp fn)).here ?_)
  exact wpAny_bind (wpAny_mono hc (fun v s' z => wpAny_pure z) fun _ _ z => z)
theorem FnG.run_in1 {Q : VK} (G : FnG X.prog X.w X.K X.mg X.base k f fd ps sp) (gd : X.A.guards = some []) (room : Room (k + 1) X.A) (hb : L2.Binds X.K fd ps []) (I : Inv X pins σ H s) (h : sp [.ref a] H Q E0) {E : Value → Shared → Prop} :
    wpAny (model X.prog X.w) X.A.in1 (call (.ref f) [.ref a]) (EP X pins σ Q) E s := by
  have hl : ([Value.ref a] : List Value).length = ps.length := (show ([V.ref a] : List V).length = ps.length from G.len _ _ _ _ h)
  have bind := hb s [.ref a] I.kIn (by rw [List.append_nil]; exact hl)
  rw [List.append_nil] at bind
  refine wpAny_call (codeAny_mono (G.run X.A.in1 X.stack s H ⟨[.ref a], []⟩ [.ref a] [.ref a] Q gd room.in1 I.env0.in1 bind (.cons rfl .nil) h) ?_)
  intro res s' hr
  match res, hr with
  | .ok (.ret u), hr => exact I.after hr
  | .ok .next, hr => exact False.elim hr
  | .ok .brk, hr => exact False.elim hr
  | .ok .cont, hr => exact False.elim hr
  | .error _, hr => exact False.elim hr
theorem len_inst (G : FnG X.prog X.w X.K X.mg X.base k f fd ps sp) (gd : X.A.guards = some []) (room : Room (k + 1) X.A) (hb : L2.Binds X.K fd ps []) (hf : PySem.W.findIn X.K (.ref C) "__len__" = some (some (.ref f))) (fn : PySem.W.isFn X.K (.ref f) = true) :
    CallR X (.builtin "len") (fun xs H Q => ∃ a dx fs, xs = [.ref a] ∧ H a = some (.ins C dx fs) ∧ sp [.ref a] H (fun v H' => ∃ n : Nat, v = .int n ∧ n < 1000000 ∧ Q (.int n) H') E0) := by
  rintro pins s σ H xs us Q I r ⟨a, dx, fs, rfl, e, h⟩
  obtain ⟨u, rfl, ru⟩ := vals1 r
  obtain rfl : u = Value.ref a := ru
  refine Calls.call_function_entry kind_len plain_len entry_len (args_len1 _) ?_
  unfold Builtin.«len»
  refine wpAny_bind (m := oneArg "len" _) (wpAny_pure ?_)
  refine wpAny_bind (m := callSpecial? (.ref a) (Str.ofString "__len__")) (special_fn I e hf fn (wpAny_mono (FnG.run_in1 G gd room hb I h) (fun v s' hq => ?_) fun _ _ z => z))
  obtain ⟨x, H', I', rx, n, rfl, hn, q⟩ := hq
  obtain ⟨t, rfl⟩ := (show ∃ t, v = Value.int n t from rx)
  refine wpAny_bind (wpAny_holding (wpAny_pure ?_))
  refine wpAny_bind (wpAny_letGo ?_)
  show wpAny _ _ (if (n : Int) < 0 then _ else _) _ _ _
  rw [if_neg (by omega)]
  show wpAny _ _ (if (n : Int) ≥ 2 ^ 63 then _ else _) _ _ _
  rw [if_neg (by omega)]
  exact wpAny_bind (wpAny_mkInt (wpAny_pure ⟨_, rfl, ⟨.int n, H', I'.tok _, ⟨_, rfl⟩, q⟩⟩))
end
end Dl

namespace Dl
open PySem PySem.Spec PyProof.Rows L2
/-! ### draws beside other things -/
structure HasDq (F : Fm) (st q : Addr) (mk : Nat → Nat) : Prop where
  ms : ∀ b, DqM st q b → F.M b
  get : ∀ n H, F.G (mk n) H → DqG st q n H
  put : ∀ n n' H H', F.G (mk n) H → DqG st q n' H' → (∀ b o, ¬ DqM st q b → H b = some o → H' b = some o) → F.G (mk n') H'
theorem HasDq.ext {F : Fm} {st q : Addr} {mk : Nat → Nat} (h : HasDq F st q mk) (D : Addr) : HasDq (F.ext D) st q mk := ⟨h.ms, h.get, h.put⟩
theorem IsDq.has {F : Fm} {st q : Addr} (h : IsDq F st q) : HasDq F st q id where
  ms := fun b hb => by rw [h.M]; exact hb
  get := fun n H g => by rw [h.G] at g; exact g
  put := fun n n' H H' _ d _ => by rw [h.G]; exact d
/-- the heap without the two lists -/
def hid (H : Hp) (s t : Addr) : Hp := fun b => if b = s ∨ b = t then none else H b
theorem hid_some {H : Hp} {s t b : Addr} {o : HO} (h : hid H s t b = some o) : b ≠ s ∧ b ≠ t ∧ H b = some o := by
  unfold hid at h
  by_cases c : b = s ∨ b = t
  · rw [if_pos c] at h; cases h
  · rw [if_neg c] at h; exact ⟨fun z => c (.inl z), fun z => c (.inr z), h⟩
theorem hid_of {H : Hp} {s t b : Addr} (h1 : b ≠ s) (h2 : b ≠ t) : hid H s t b = H b := by
  unfold hid; rw [if_neg (fun z => z.elim h1 h2)]
theorem hid_live {H : Hp} {s t b : Addr} (h : hid H s t b ≠ none) : b ≠ s ∧ b ≠ t ∧ H b ≠ none := by
  cases e : hid H s t b with
  | none => exact absurd e h
  | some o =>
    obtain ⟨h1, h2, h3⟩ := hid_some e
    exact ⟨h1, h2, by rw [h3]; exact fun z => nomatch z⟩
/-- the frame with a deck more -/
def Fm.deck (F : Fm) (C a dx : Addr) : Fm where
  K := F.K
  S := fun b => F.S b ∨ b = a ∨ b = dx
  M := fun b => F.M b ∨ b = a ∨ b = dx
  H0 := F.H0
  G := fun k H => ∃ c g s t, k = kk c g ∧ F.G c (hid H s t) ∧ PiG F.K C a dx s t g H ∧ (∀ y o, ¬ F.M y → IsX o → F.H0 y = some o → ∃ o', IsX o' ∧ H y = some o')
  ms := fun b h => h.imp (F.ms b) id
  gm := fun k H H' ⟨c, g, s, t, e, hF, d, h4⟩ hm hx => by
    refine ⟨c, g, s, t, e, F.gm c _ _ hF (fun b hb => ?_) (fun b o ho q => ?_), d.at (hm a (.inr (.inl rfl))) (hm dx (.inr (.inr rfl))) hx, fun y o nm x q => ?_⟩
    · unfold hid; rw [hm b (.inl hb)]
    · obtain ⟨h1, h2, h3⟩ := hid_some q
      rw [hid_of h1 h2]; exact hx b o ho h3
    · obtain ⟨o', x', q'⟩ := h4 y o nm x q
      exact ⟨o', x', hx y o' (.inl x') q'⟩
  gl := fun k H ⟨c, g, s, t, e, hF, d, _⟩ b hb => by
    rcases hb with hb | rfl | rfl
    · exact (hid_live (F.gl c _ hF b hb)).2.2
    · rw [d.ia]; exact fun z => nomatch z
    · rw [d.id]; exact fun z => nomatch z
  X := IsX
  xi := fun _ h => h
  xa := fun k H ⟨c, g, s, t, e, hF, d, h4⟩ b o nm x q => h4 b o (fun z => nm (.inl z)) x q
section
variable {F : Fm} {C a dx : Addr}
theorem has_deck (hMa : ¬ F.M a) (hMd : ¬ F.M dx) (c : Nat) : HasPi (F.deck C a dx) C a dx (kk c) where
  X := rfl
  ma := .inr (.inl rfl)
  md := .inr (.inr rfl)
  get := fun g H ⟨c1, g1, s, t, e, hF, d, _⟩ => by
    obtain ⟨rfl, rfl⟩ := kk_inj e
    exact ⟨s, t, d⟩
  put := fun g g' H H' s t s' t' ⟨c1, g1, s1, t1, e, hF, d1, h4⟩ d keep e1 d' hs ht => by
    obtain ⟨rfl, rfl⟩ := kk_inj e
    obtain ⟨rfl, rfl⟩ := d1.uniq d
    have neS : ∀ b, H b ≠ none → b ≠ s1 → b ≠ s' := fun b hb n z => by
      rcases hs with h | h
      · exact n (z.trans h)
      · rw [z] at hb; exact hb h
    have neT : ∀ b, H b ≠ none → b ≠ t1 → b ≠ t' := fun b hb n z => by
      rcases ht with h | h
      · exact n (z.trans h)
      · rw [z] at hb; exact hb h
    refine ⟨_, g', s', t', rfl, F.gm _ (hid H s1 t1) (hid H' s' t') hF (fun b hb => ?_) (fun b o ho q => ?_), d', fun y o nm x q => ?_⟩
    · obtain ⟨h1, h2, h3⟩ := hid_live (F.gl _ _ hF b hb)
      rw [hid_of h1 h2, hid_of (neS b h3 h1) (neT b h3 h2)]
      cases q : H b with
      | none => exact absurd q h3
      | some o => exact keep b o (fun z => hMa (z ▸ hb)) (fun z => hMd (z ▸ hb)) h1 h2 q
    · obtain ⟨h1, h2, h3⟩ := hid_some q
      have hn : H b ≠ none := by rw [h3]; exact fun z => nomatch z
      rw [hid_of (neS b hn h1) (neT b hn h2)]
      refine keep b o ?_ ?_ h1 h2 h3
      · rintro rfl; rw [d.ia] at h3; cases h3; exact ho.elim nx_ins fun ⟨_, z⟩ => nomatch z
      · rintro rfl; rw [d.id] at h3; cases h3; exact ho.elim nx_own fun ⟨_, z⟩ => nomatch z
    · obtain ⟨o', x', q'⟩ := h4 y o nm x q
      exact e1 y o' x' q'
theorem deck_dq {st q : Addr} {mk : Nat → Nat} (h : HasDq F st q mk) (g : Pg) : HasDq (F.deck C a dx) st q (fun n => kk (mk n) g) where
  ms := fun b hb => .inl (h.ms b hb)
  get := fun n H ⟨c1, g1, s, t, e, hF, d, _⟩ => by
    obtain ⟨rfl, rfl⟩ := kk_inj e
    obtain ⟨cells, m, h1, h2, h3⟩ := h.get n _ hF
    exact ⟨cells, m, (hid_some h1).2.2, (hid_some h2).2.2, h3⟩
  put := fun n n' H H' ⟨c1, g1, s, t, e, hF, d, h4⟩ dq keep => by
    obtain ⟨rfl, rfl⟩ := kk_inj e
    obtain ⟨cells, m, h1, h2, h3⟩ := h.get n _ hF
    obtain ⟨p1, p2, p3⟩ := hid_some h1
    obtain ⟨r1, r2, r3⟩ := hid_some h2
    obtain ⟨cells', m', f1, f2, f3⟩ := dq
    have ndq : ∀ b o, H b = some o → (∀ xs, o ≠ .lst xs) → ¬ DqM st q b := fun b o e n z => by
      rcases z with rfl | rfl
      · rw [p3] at e; cases e; exact n _ rfl
      · rw [r3] at e; cases e; exact n _ rfl
    have kx : ∀ b o, (IsX o ∨ ∃ xs, o = .tup xs) → H b = some o → H' b = some o := fun b o ho e => keep b o (ndq b o e fun xs z => by subst z; exact ho.elim nx_lst fun ⟨_, z⟩ => nomatch z) e
    refine ⟨_, g, s, t, rfl, h.put n n' (hid H s t) (hid H' s t) hF ⟨cells', m', by rw [hid_of p1 p2]; exact f1, by rw [hid_of r1 r2]; exact f2, f3⟩ (fun b o nb e => ?_), d.at ((keep a _ (ndq a _ d.ia fun _ z => nomatch z) d.ia).trans d.ia.symm) ((keep dx _ (ndq dx _ d.id fun _ z => nomatch z) d.id).trans d.id.symm) kx, fun y o nm x q => ?_⟩
    · obtain ⟨b1, b2, b3⟩ := hid_some e
      rw [hid_of b1 b2]; exact keep b o nb b3
    · obtain ⟨o', x', q'⟩ := h4 y o nm x q
      exact ⟨o', x', kx y o' (.inl x') q'⟩
end
section
variable {F : Fm} {C : Cs} {ρ : Rho} {k : Nat} {Φ : Nat → PyData → Prop} {es : List Expr} {pos p py : Pos} {x y : Str}
/-- a call of a def that draws, in any frame that knows the draws -/
theorem we_callQ2 {s a : Addr} {j cost : Nat} {Pre : List PyData → Prop} {R : Rel} (hF : DFnQ C.P C.w C.K C.mg C.base j x cost Pre R) (hl : j ≤ C.lvl) (hK : F.K = C.K) (i : Nat) (hg : C.sc.names.lookup x = some .globalImplicit) (hN : C.N[i]? = some y) (hv : Vis C.sc y) (hr : ρ[i]? = some (.raw (.ref s)))
    (h : WPA F C es ρ k fun k1 ds => Pre ds ∧ ∃ mk n, HasDq F s a mk ∧ k1 = mk (n + cost) ∧ ∀ d, R ds d → Φ (mk n) d) (hdb : (x == ("__debug__" : Str)) = false := by decide) (hd : (y == ("__debug__" : Str)) = false := by decide) (hcd : (y == ("__classdict__" : Str)) = false := by decide)
    (hss : ∀ env : Env, starEach (.Name y py :: es) env = (false, eval (.Name y py) env) :: starEach es env := by intro _; rfl) (hpl : ∀ env : Env, ((backTo pos (starEach es env)).any fun x => x.fst) = false := by intro _; rfl) :
    WPE F C (.Call (.Name x p) (.Name y py :: es) [] pos) ρ k Φ := by
  obtain ⟨fa, fd, ps, G, hm, kp, hb⟩ := hF.ex
  refine of_pe (fun X fx => pe_callF fx G hl hg hm kp hb (pa_cons (pe_var (i := i) (by rw [fx.N]; exact hN) (by rw [fx.sc]; exact hv) hd hcd) (paA fx) (hss X.env)) hdb hss hpl) fun σ H Q en jj q => ?_
  refine ⟨_, en.raw hr, ?_⟩
  refine h σ H _ en jj fun vs ds k1 H1 l1 j1 r1 ⟨hp, mk, n, dk, e, hf⟩ => ?_
  subst e
  refine ⟨F.S, s, a, vs, ds, n, rfl, dk.get _ _ j1.g, j1.al, fun b hb => F.ms b (dk.ms b hb), hK ▸ r1, hp, fun v d H' keep g rv hR => ?_⟩
  have le : Le F H1 H' := fun b o n e => keep b o (fun z => n (.inl (dk.ms b z))) e
  refine q v d (mk n) H' (l1.trans le) ⟨dk.put _ _ _ _ j1.g g keep, fun b o n e => le b o n (j1.le b o n e), fun b hb => ?_⟩ (by show Rep F.K F.S H' v d; rw [hK]; exact rv) (hf d hR)
  by_cases hM : DqM s a b
  · exact g.lv b hM
  · exact (j1.al b hb).keep fun o e => keep b o hM e
end
end Dl

namespace Dl
open PySem PySem.Spec PyProof.Rows L2
section
variable {X : Cx} {x : Str} {p pos : Pos} {e : Expr} {es : List Expr} {t : TA} {k : Nat} {f C : Addr} {fd : FuncData} {ps : List Str} {sp : Sp}
theorem FnG.run_make {pins : List (Addr × Obj)} {σ : L2.St} {H : Hp} {s : Shared} {Q : VK} {us : List Value} {vs : List V} (M : Mk X.K C f) (G : FnG X.prog X.w X.K X.mg X.base k f fd ps sp) (gd : X.A.guards = some []) (hr : Room (k + 1) X.A) (hb : L2.Binds X.K fd ps [])
    (hgd : ∀ us kw, (X.A.under (.builtin "type.__call__" ⟨.ref C :: us, kw⟩)).guards = some [])
    (I : Inv X pins σ H s) (r : Vals vs us)
    (h : ∀ x dx, H x = none → H dx = none → dx ≠ x → sp (.ref x :: vs) (upd (upd H dx (.own x)) x (.ins C dx [])) (fun v H2 => v = .non ∧ Q (.ref x) H2) E0) :
    wpAny (model X.prog X.w) X.A (call (.ref C) us) (EP X pins σ Q) X.xe s := by
  have hq := h (s.heap.objs.size + 1) s.heap.objs.size (I.hok.fresh (Nat.le_succ _)) (I.hok.fresh (Nat.le_refl _)) (Nat.ne_of_lt (Nat.lt_succ_self _))
  have I2 := L2.Inv.made (C := C) I
  have r2 : Vals (V.ref (s.heap.objs.size + 1) :: vs) (Value.ref (s.heap.objs.size + 1) :: us) := .cons rfl r
  have hl : (Value.ref (s.heap.objs.size + 1) :: us ++ []).length = ps.length := by
    have e := r2.length
    rw [G.len _ _ _ _ hq] at e
    rw [List.append_nil]
    exact e.symm
  have bind := hb _ (Value.ref (s.heap.objs.size + 1) :: us) I2.kIn hl
  rw [List.append_nil] at bind
  refine wpAny_call (make_map (f := f) I.kIn M.makes M.init (beq_iff_eq.mp M.fn) (codeAny_mono (G.run _ X.stack _ _ ⟨Value.ref (s.heap.objs.size + 1) :: us, []⟩ (Value.ref (s.heap.objs.size + 1) :: us) _ _ (hgd us []) (hr.make C us []) (I2.env0.make C us []) bind r2 hq) fun r s' hq' => ?_))
  cases r with
  | error e => exact False.elim hq'
  | ok fl =>
    cases fl with
    | ret u =>
      obtain ⟨v, H', I3, rv, ev, q3⟩ := I2.after hq'
      subst ev
      exact ⟨rv, ⟨V.ref (s.heap.objs.size + 1), H', I3, rfl, q3⟩⟩
    | next => exact False.elim hq'
    | brk => exact False.elim hq'
    | cont => exact False.elim hq'
theorem under_gd {A : Around} (gd : A.guards = some []) (C : Addr) (us : List Value) (kw : List (Str × Value)) : (A.under (.builtin "type.__call__" ⟨.ref C :: us, kw⟩)).guards = some [] := by
  first | exact gd | (simpa [Around.under, Code.isGuard, guardIds] using gd)
theorem pe_makeG (M : Mk X.K C f) (G : FnG X.prog X.w X.K X.mg X.base k f fd ps sp) (gd : X.A.guards = some []) (hr : Room (k + 1) X.A) (hg : Gl X x) (hm : X.mg x = some (.ref C)) (hb : L2.Binds X.K fd ps [])
    (ha : PA X (e :: es) t) (hdb : (x == ("__debug__" : Str)) = false) (he : starEach (e :: es) X.env = (false, eval e X.env) :: starEach es X.env) (hpl : (backTo pos (starEach es X.env)).any (·.1) = false) :
    PE X (.Call (.Name x p) (e :: es) [] pos) (tMake C sp [] E0 t) := by
  refine ⟨fun pins s σ H Q I h => ?_⟩
  refine wpAny_Call_Name_kw (ld_glob I hg hm ?_ hdb)
  refine PySem.W.callWith_K (h₀ := X.base) I.ok.mod.kin M.kp (thn (ha.run pos pins s σ H _ I h) fun us s1 ⟨vs, H1, I1, r, q⟩ => ⟨I1.kIn, ?_⟩) he hpl
  exact FnG.run_make M G gd hr hb (fun us kw => under_gd gd C us kw) I1 r fun x dx h1 h2 h3 => by
    have := q x dx h1 h2 h3
    rw [List.append_nil] at this
    exact this
end
/-- what __init__ promises of a box that is one -/
def spInit (K : PySem.W.Frag) (C : Addr) (Ok : Nat × List Int → Prop) : Sp := fun vs H Q _ => ∃ (S : Addr → Prop) (a dx : Addr) (v : V) (d : Nat × List Int), vs = [.ref a, v] ∧ H a = some (.ins C dx []) ∧ H dx = some (.own a) ∧ (∀ b, S b → Lv H b) ∧ Rep K S H v (boxP d) ∧ Ok d ∧
  ∀ s t H', (∀ b o, b ≠ a → H b = some o → H' b = some o) → H s = none → H t = none → PiG K C a dx s t ([d], []) H' → Q .non H'
end Dl

namespace Dl
open PySem PySem.Spec PyProof.Rows L2
section
variable {F : Fm} {C : Cs} {Cl f : Addr} {fd : FuncData} {ps : List Str} {ρ : Rho} {k j : Nat} {P : DE} {e : Expr} {rest : List Stmt} {x xc : Str} {px p cp pos : Pos} {Ok : Nat × List Int → Prop}
/-- x = Deck(e), and the rest in the frame with the deck -/
theorem wb_deck (i : Nat) (hX : F.X = IsX) (hK : F.K = C.K) (t : Tgt C i x) (hi : i < ρ.length) (M : Mk C.K Cl f) (G : FnG C.P C.w C.K C.mg C.base j f fd ps (spInit C.K Cl Ok)) (hl : j + 1 ≤ C.lvl) (hg : C.sc.names.lookup xc = some .globalImplicit) (hm : C.mg xc = some (.ref Cl)) (hb : L2.Binds C.K fd ps [])
    (hse : ∀ env : Env, starEach [e] env = (false, eval e env) :: starEach [] env) (hs : ∀ env : Env, env.scope = C.sc → swapsWith (.Call (.Name xc p) [e] [] cp) (some (.Name x px)) pos.line env = pure false)
    (h : WPE F C e ρ k fun k1 z => ∃ d, z = boxP d ∧ Ok d ∧ ∀ a dx, ¬ F.M a → ¬ F.M dx → WPB (F.deck Cl a dx) C rest (ρ.set i (.raw (.ref a))) (kk k1 ([d], [])) { nx := fun k' ρ' => ∃ c g, k' = kk c g ∧ P.nx c ρ', rt := fun k' v => ∃ c g, k' = kk c g ∧ P.rt c v, bk := fun k' ρ' => ∃ c g, k' = kk c g ∧ P.bk c ρ', ct := fun k' ρ' => ∃ c g, k' = kk c g ∧ P.ct c ρ' })
    (hdb : (xc == ("__debug__" : Str)) = false := by decide) : WPB F C (.Assign [.Name x px] (.Call (.Name xc p) [e] [] cp) pos :: rest) ρ k P :=
  of_pb (fun X fx => pss_cons (ps_set (by rw [fx.N]; exact t.hN) (by rw [fx.N]; exact t.hi) (by rw [fx.sc]; exact t.hx) (pe_makeG (by rw [fx.K]; exact M) (by rw [fx.P, fx.w, fx.K, fx.mg, fx.base]; exact G) fx.gd (fx.room.mono hl) (by show X.env.scope.names.lookup xc = _; rw [fx.sc]; exact hg) (by rw [fx.mg]; exact hm) (by rw [fx.K]; exact hb) (pa_cons (peE fx) pa_nil (hse X.env)) hdb (hse X.env) rfl) (hs X.env fx.sc) (by rw [fx.fn, fx.sc]; exact t.hf)) (pbB fx)) fun σ H E en jj q1 q2 q3 q4 => by
    show tE C e σ H _
    refine h σ H _ en jj fun v z k1 H1 l1 j1 r1 ⟨d, ez, hok, hrest⟩ a dx ha hdx hne => ?_
    subst ez
    have hMa : ¬ F.M a := fun z => F.gl _ _ j1.g a z ha
    have hMd : ¬ F.M dx := fun z => F.gl _ _ j1.g dx z hdx
    have keep0 : ∀ b o, H1 b = some o → upd (upd H1 dx (.own a)) a (.ins Cl dx []) b = some o := fun b o q => by
      rw [upd_ne (ne_of_none q ha), upd_ne (ne_of_none q hdx)]; exact q
    refine ⟨F.S, a, dx, v, d, rfl, upd_same, by rw [upd_ne hne, upd_same], fun b hb => (j1.al b hb).keep fun o q => keep0 b o q, ?_, hok, fun s t H' keep hs0 ht0 dg => ⟨rfl, ?_⟩⟩
    · have := Rep.keep (S := F.S) (S' := F.S) (fun b o _ q => keep0 b o q) (fun _ _ z => z) _ _ r1
      rw [← hK]; exact this
    have all : ∀ b o, H1 b = some o → H' b = some o ∧ b ≠ s ∧ b ≠ t := fun b o q => by
      have q0 := keep0 b o q
      exact ⟨keep b o (ne_of_none q ha) q0, ne_of_none q0 hs0, ne_of_none q0 ht0⟩
    rw [← hK] at dg
    have jd : J (F.deck Cl a dx) (kk k1 ([d], [])) H' := by
      refine ⟨⟨k1, ([d], []), s, t, rfl, F.gm k1 H1 _ j1.g (fun b hb => ?_) (fun b o _ q => ?_), dg, fun y o nm xo q => ?_⟩, fun b o n q => ?_, fun b hb => ?_⟩
      · cases q : H1 b with
        | none => exact absurd q (F.gl _ _ j1.g b hb)
        | some o =>
          obtain ⟨a1, a2, a3⟩ := all b o q
          rw [hid_of a2 a3]; exact a1
      · obtain ⟨a1, a2, a3⟩ := all b o q
        rw [hid_of a2 a3]; exact a1
      · obtain ⟨o', x', q'⟩ := F.xa k1 H1 j1.g y o nm (by rw [hX]; exact xo) q
        exact ⟨o', x', (all y o' q').1⟩
      · refine (all b o (j1.le b o (fun z => ?_) q)).1
        rcases z with z | z
        · exact n (.inl (.inl z))
        · exact n (.inr (F.xi _ z))
      · rcases hb with hb | rfl | rfl
        · exact (j1.al b hb).keep fun o q => (all b o q).1
        · exact ⟨_, dg.ia, fun _ z => nomatch z⟩
        · exact ⟨_, dg.id, fun _ z => nomatch z⟩
    have repd : ∀ {w : V} {u : PyData}, Rp F H1 w u → Rp (F.deck Cl a dx) H' w u := fun {w u} r => Rep.keep (S := F.S) (S' := (F.deck Cl a dx).S) (fun b o _ q => (all b o q).1) (fun b hb z => by
      rcases z with z | rfl | rfl
      · exact z
      · exact absurd ha hb
      · exact absurd hdx hb) _ _ r
    have repa : ∀ {w : List V} {u : List PyData}, RpAll F H1 w u → RpAll (F.deck Cl a dx) H' w u := fun {w u} r => RepAll.keep (S := F.S) (S' := (F.deck Cl a dx).S) (fun b o _ q => (all b o q).1) (fun b hb z => by
      rcases z with z | rfl | rfl
      · exact z
      · exact absurd ha hb
      · exact absurd hdx hb) _ _ r
    have en1 := en.le l1
    have end' : EnvOk (F.deck Cl a dx) H' σ ρ := fun m sv em => by
      obtain ⟨y, qy, r⟩ := en1 m sv em
      refine ⟨y, qy, ?_⟩
      cases sv with
      | un => trivial
      | d u => obtain ⟨w, e1, r⟩ := r; exact ⟨w, e1, repd r⟩
      | raw w => exact r
      | own o xs =>
        obtain ⟨e1, e2, e3, e4, vs, e5, e6⟩ := r
        refine ⟨e1, .inl e2, fun z => ?_, e4, vs, (all o _ e5).1, repa e6⟩
        rcases z with z | rfl | rfl
        · exact e3 z
        · rw [ha] at e5; cases e5
        · rw [hdx] at e5; cases e5
    have h0a := j1.h0 hMa ha
    have h0d := j1.h0 hMd hdx
    have back : ∀ {c : Nat} {g : Pg} {H2 : Hp}, J (F.deck Cl a dx) (kk c g) H2 → J F c H2 := fun {c g H2} j2 => by
      obtain ⟨c1, g1, s1, t1, e1, hF, _, _⟩ := j2.g
      obtain ⟨rfl, rfl⟩ := kk_inj e1
      refine ⟨F.gm _ _ _ hF (fun b hb => ?_) (fun b o _ q => (hid_some q).2.2), fun b o n q => j2.le b o (fun z => ?_) q, fun b hb => j2.al b (.inl hb)⟩
      · obtain ⟨b1, b2, _⟩ := hid_live (F.gl _ _ hF b hb)
        rw [hid_of b1 b2]
      · rcases z with (z | rfl | rfl) | z
        · exact n (.inl z)
        · rw [h0a] at q; cases q
        · rw [h0d] at q; cases q
        · exact n (.inr (by rw [hX]; exact z))
    have lzb : ∀ {H2 : Hp}, Lz (F.deck Cl a dx) H' H2 → Lz F H H2 := fun {H2} lz b o n q => by
      have q1 := l1.lz b o n q
      refine lz b o (fun z => ?_) (all b o q1).1
      rcases z with (z | rfl | rfl) | z
      · exact n (.inl z)
      · rw [ha] at q1; cases q1
      · rw [hdx] at q1; cases q1
      · exact n (.inr (by rw [hX]; exact z))
    have repb : ∀ {H2 : Hp} {w : V} {u : PyData}, Rp (F.deck Cl a dx) H2 w u → Rp F H2 w u := fun {H2 w u} r => Rep.keep (S := (F.deck Cl a dx).S) (S' := F.S) (fun _ _ _ q => q) (fun b _ z => .inl z) _ _ r
    have enb : ∀ {H2 : Hp} {σ2 : L2.St} {ρ2 : Rho}, EnvOk (F.deck Cl a dx) H2 σ2 ρ2 → EnvOk F H2 σ2 ρ2 := fun {H2 σ2 ρ2} en2 m sv em => by
      obtain ⟨y, qy, r⟩ := en2 m sv em
      refine ⟨y, qy, ?_⟩
      cases sv with
      | un => trivial
      | d u => obtain ⟨w, e1, r⟩ := r; exact ⟨w, e1, repb r⟩
      | raw w => exact r
      | own o xs =>
        obtain ⟨e1, e2, e3, e4, vs, e5, e6⟩ := r
        refine ⟨e1, ?_, fun z => e3 (.inl z), e4, vs, e5, RepAll.keep (S := (F.deck Cl a dx).S) (S' := F.S) (fun _ _ _ q => q) (fun b _ z => .inl z) _ _ e6⟩
        rcases e2 with z | z
        · exact z
        · exact absurd (.inr z) e3
    refine hrest a dx hMa hMd (σ.set i (some (.ref a))) H' E (end'.set (sv := .raw (.ref a)) rfl) jd ?_ ?_ ?_ ?_
    · rintro ρ' σ' k' H2 lz en' j' ⟨c, g, rfl, p⟩
      exact q1 ρ' σ' c H2 (lzb lz) (enb en') (back j') p
    · rintro v' u k' H2 j' r' ⟨c, g, rfl, p⟩
      exact q2 v' u c H2 (back j') (repb r') p
    · rintro ρ' σ' k' H2 lz en' j' ⟨c, g, rfl, p⟩
      exact q3 ρ' σ' c H2 (lzb lz) (enb en') (back j') p
    · rintro ρ' σ' k' H2 lz en' j' ⟨c, g, rfl, p⟩
      exact q4 ρ' σ' c H2 (lzb lz) (enb en') (back j') p
end
end Dl

namespace Dl
open PySem PySem.Spec PyProof.Rows L2
/-! ### an own list, lent as data while an expression runs -/
section
variable {K : PySem.W.Frag} {S : Addr → Prop} {H : Hp}
end
def Fm.less (F : Fm) (o : Addr) (h : ¬ F.M o) : Fm := { F with S := fun b => F.S b ∧ b ≠ o, ms := fun b hb => ⟨F.ms b hb, fun z => h (z ▸ hb)⟩ }
section
variable {F : Fm} {C : Cs} {ρ : Rho} {k : Nat} {Φ : Nat → PyData → Prop} {Ψ : Nat → Bool → Prop} {e : Expr} {o : Addr} {xs : List PyData} {H : Hp} {σ : L2.St}
theorem HasPi.less {Cl a dx : Addr} {mk : Pg → Nat} (h : HasPi F Cl a dx mk) (hM : ¬ F.M o) : HasPi (F.less o hM) Cl a dx mk := ⟨h.X, h.ma, h.md, h.get, h.put⟩
theorem HasDq.less {st q : Addr} {mk : Nat → Nat} (h : HasDq F st q mk) (hM : ¬ F.M o) : HasDq (F.less o hM) st q mk := ⟨h.ms, h.get, h.put⟩
end
end Dl

namespace Dl
open PySem PySem.Spec PyProof.Rows L2
section
variable {F : Fm} {C : Cs} {Cl a dx : Addr} {mk : Pg → Nat} {g : Pg} {ρ : Rho} {Φ : Nat → PyData → Prop} {pos p py : Pos} {y : Str} {Pre : Pg → List PyData → Prop} {R : Pg → List PyData → Pg → PyData → Prop} {j : Nat}
/-- len(y), y a deck -/
theorem we_plenO (pi : HasPi F Cl a dx mk) (hF : PiM C.P C.w C.K C.mg C.base Cl j "__len__" [] Pre R) (hl : j + 1 ≤ C.lvl) (hK : F.K = C.K) (i : Nat) (hN : C.N[i]? = some y) (hv : Vis C.sc y) (hr : ρ[i]? = some (.raw (.ref a))) (hg : C.sc.names.lookup ("len" : Str) = some .globalImplicit) (hm : C.mg ("len" : Str) = none)
    (hp : Pre g []) (h : ∀ g' d, R g [] g' d → ∃ n : Nat, d = .int n ∧ n < 1000000 ∧ Φ (mk g') (.int n))
    (hd : (y == ("__debug__" : Str)) = false := by decide) (hcd : (y == ("__classdict__" : Str)) = false := by decide) (hse : ∀ env : Env, starEach [.Name y py] env = (false, eval (.Name y py) env) :: starEach [] env := by intro _; rfl) :
    WPE F C (.Call (.Name "len" p) [.Name y py] [] pos) ρ (mk g) Φ := by
  obtain ⟨fa, fd, ps, ds, G, hmt, hb, hd2⟩ := hF.ex
  cases hd2
  refine of_pe (fun X fx => pe_callB (len_inst (by rw [fx.P, fx.w, fx.K, fx.mg, fx.base]; exact G) fx.gd (fx.room.mono hl) (by rw [fx.K]; exact hb) (C := Cl) (by rw [fx.K]; exact hmt.at_) (by rw [fx.K]; exact hmt.fn)) (by show X.env.scope.names.lookup ("len" : Str) = _; rw [fx.sc]; exact hg) (by rw [fx.mg]; exact hm) PySem.boot_len (pa_cons (pe_var (i := i) (by rw [fx.N]; exact hN) (by rw [fx.sc]; exact hv) hd hcd) pa_nil (hse X.env)) (by decide) (by decide) (hse X.env) rfl) fun σ H Q en jj q => ?_
  obtain ⟨s, t, dg⟩ := pi.get g H jj.g
  refine ⟨_, en.raw hr, a, dx, _, rfl, dg.ia, ?_⟩
  refine pi_step (vs := []) (ds := []) (Φ := fun k' d => ∃ n : Nat, d = .int n ∧ n < 1000000 ∧ Φ k' (.int n)) pi hK jj .nil hp h fun v d k' H' l' j' r' ⟨n, e, hn, p⟩ => ?_
  subst e
  cases r'
  exact ⟨n, rfl, hn, q _ _ k' H' l' j' (.int _) p⟩
end
end Dl

namespace Dl
open PySem PySem.Spec PyProof.Rows L2
/-! ### expressions that change one own list: left.pop(e), and tuple([left.pop(e) for k in range(z)]) -/
def WX (F : Fm) (o : Addr) (t : TE) (ρ : Rho) (k : Nat) (Φ : Nat → List PyData → PyData → Prop) : Prop :=
  ∀ (σ : L2.St) (H : Hp) (Q : VK), EnvOk F H σ ρ → J F k H → (∀ v d k' ys ws H', LeD F o H H' → H' o = some (.lst ws) → RpAll F H' ws ys → J F k' H' → Rp F H' v d → Φ k' ys d → Q v H') → t σ H Q
section
variable {F : Fm} {C : Cs} {ρ : Rho} {k : Nat} {P : DE} {Φ : Nat → PyData → Prop} {Ξ : Nat → List PyData → PyData → Prop} {pos p p0 px py ap cp spos pr pr2 : Pos} {x y : Str} {rest : List Stmt} {e ez : Expr} {o : Addr} {scope : Scope}
theorem WX.imp {t : TE} {Ξ' : Nat → List PyData → PyData → Prop} (h : WX F o t ρ k Ξ) (i : ∀ k' ys d, Ξ k' ys d → Ξ' k' ys d) : WX F o t ρ k Ξ' := fun σ H Q en j q => h σ H Q en j fun v d k' ys ws H' l hw r j' rv p => q v d k' ys ws H' l hw r j' rv (i k' ys d p)
/-- x.pop(e), x the own list -/
def tPop (C : Cs) (i : Nat) (e : Expr) : TE := tBM C.K "list" rPopAt (tVar i) (tCons (tE C e) tNil)
def rTup (C : Cs) : List V → Hp → VK → Prop := fun xs H Q => ∃ p ys, xs = [.ref p] ∧ ((SqL C.K H p ys ∧ ∀ l, H l = none → Q (.ref l) (upd H l (.tup ys))) ∨ (SqT C.K H p ys ∧ Q (.ref p) H))
end
end Dl

namespace Dl
open PySem PySem.Spec PyProof.Rows L2
/-! ### x = an expression that makes a new list, which is the def's own -/
def WN (F : Fm) (t : TE) (ρ : Rho) (k : Nat) (Φ : Nat → List PyData → Prop) : Prop :=
  ∀ (σ : L2.St) (H : Hp) (Q : VK), EnvOk F H σ ρ → J F k H → (∀ o vs ds k' H', Le F H H' → J F k' H' → H' o = none → RpAll F H' vs ds → Φ k' ds → Q (.ref o) (upd H' o (.lst vs))) → t σ H Q
section
variable {F : Fm} {C : Cs} {ρ : Rho} {k : Nat} {P : DE} {Φ : Nat → List PyData → Prop} {pos p p2 px pr pr2 : Pos} {a e : Expr} {x : Str} {rest : List Stmt}
end
end Dl

namespace Dl
open PySem PySem.Spec PyProof.Rows L2
/-! ### a comprehension of two clauses, over two tuples -/
section
variable {F : Fm} {C : Cs} {ρ : Rho} {k : Nat} {Φ : Nat → PyData → Prop} {α β : Type} {Cb : Cs} {iter1 elt : Expr} {tl : TE} {K : PySem.W.Frag}
end
section
variable {F : Fm} {C : Cs} {ρ : Rho} {k : Nat} {Φ : Nat → PyData → Prop} {pos : Pos} {elt iter iter1 : Expr} {scope : Scope} {x x1 : Str} {px px1 : Pos} {α β : Type}
end
section
variable {F : Fm} {C : Cs} {ρ : Rho} {k : Nat} {Φ : Nat → PyData → Prop} {pos p : Pos} {a b : Expr}
end
end Dl

namespace Dl
open PySem PySem.Spec PyProof.Rows L2
/-! ### list(d.values()), a dict of the def's own -/
/-- list(o.values()) -/
def tListVals (td : TE) : TE := fun σ H Q => td σ H fun x H1 => ∃ a kvs, x = V.ref a ∧ H1 a = some (.dK kvs) ∧ ∀ p, H1 p = none → Q (.ref p) (upd H1 p (.lst (kvs.map (·.2))))
/-! ### a dict that counts: d = {}; for c in a tuple: b = e; d[b] = d.get(b, 0) + 1 -/
structure CK (bs : List Int) (kvs : List (Key × V)) : Prop where
  val : ∀ b : Int, valV kvs (Sum.inl b) = if b ∈ bs then some (V.int (bs.count b)) else none
  mem : ∀ p ∈ kvs, ∃ b ∈ bs, p = (Sum.inl b, V.int (bs.count b))
  len : kvs.length ≤ bs.length
theorem CK.nil : CK [] [] := ⟨fun b => rfl, fun _ h => (nomatch h), Nat.le_refl _⟩
theorem CK.put {bs : List Int} {kvs : List (Key × V)} (c : CK bs kvs) (b : Int) : CK (bs ++ [b]) (putK kvs (Sum.inl b) (V.int (((bs.count b : Nat) : Int) + 1))) := by
  have hc : ∀ b', ((bs ++ [b]).count b' : Nat) = bs.count b' + if b = b' then 1 else 0 := fun b' => by
    rw [List.count_append, List.count_singleton]
    by_cases h : b = b' <;> simp [h]
  have hself : V.int (((bs.count b : Nat) : Int) + 1) = V.int (((bs ++ [b]).count b : Nat) : Int) := by rw [hc, if_pos rfl]; rfl
  refine ⟨fun b' => ?_, fun p hp => ?_, ?_⟩
  · rw [valV_put, c.val]
    by_cases h : b' = b
    · subst h
      rw [if_pos rfl, if_pos (by simp), hself]
    · rw [if_neg (fun e => h (Sum.inl.inj e)), hc, if_neg (show ¬ b = b' from fun e => h e.symm), Nat.add_zero]
      by_cases hm : b' ∈ bs
      · rw [if_pos hm, if_pos (by simp [hm])]
      · rw [if_neg hm, if_neg (by simp [hm, h])]
  · have old : ∀ q ∈ kvs, ¬ q.1 = Sum.inl b → ∃ b1 ∈ bs ++ [b], q = (Sum.inl b1, V.int ((bs ++ [b]).count b1)) := fun q hq hne => by
      obtain ⟨b1, h1, rfl⟩ := c.mem q hq
      have : ¬ b = b1 := fun e => hne (by rw [e])
      exact ⟨b1, by simp [h1], by rw [hc, if_neg this, Nat.add_zero]⟩
    unfold putK at hp
    split at hp
    · obtain ⟨q, hq, rfl⟩ := List.mem_map.mp hp
      by_cases hk : q.1 = Sum.inl b
      · rw [if_pos hk, hk]
        exact ⟨b, by simp, by rw [hself]⟩
      · rw [if_neg hk]
        exact old q hq hk
    · next hn =>
      rcases List.mem_append.mp hp with hp | hp
      · refine old p hp fun e => hn ?_
        rw [List.any_eq_true]
        exact ⟨p, hp, decide_eq_true e⟩
      · rw [List.mem_singleton.mp hp]
        exact ⟨b, by simp, by rw [hself]⟩
  · have := length_putK kvs (Sum.inl b) (V.int (((bs.count b : Nat) : Int) + 1))
    have := c.len
    rw [List.length_append, List.length_singleton]
    omega
/-- the values of such a dict -/
def cntI (kvs : List (Key × V)) : List Int := kvs.map fun p => match p.2 with
  | .int i => i
  | _ => 0
theorem CK.some {bs : List Int} {kvs : List (Key × V)} (c : CK bs kvs) {i : Int} (h : i ∈ cntI kvs) : ∃ b ∈ bs, i = (bs.count b : Nat) := by
  obtain ⟨p, hp, rfl⟩ := List.mem_map.mp h
  obtain ⟨b, hb, rfl⟩ := c.mem p hp
  exact ⟨b, hb, rfl⟩
theorem CK.all {bs : List Int} {kvs : List (Key × V)} (c : CK bs kvs) {b : Int} (h : b ∈ bs) : ((bs.count b : Nat) : Int) ∈ cntI kvs := by
  have hv := c.val b
  rw [if_pos h] at hv
  unfold valV at hv
  rw [Option.map_eq_some_iff] at hv
  obtain ⟨p, hp, e⟩ := hv
  refine List.mem_map.mpr ⟨p, List.mem_of_find?_eq_some hp, ?_⟩
  rw [e]
def Fm.dic (F : Fm) (o : Addr) (kvs : List (Key × V)) : Fm := { F.ext o with
  H0 := upd F.H0 o (.dK kvs)
  xa := fun k H g b u hm hu e => by
    by_cases hb : b = o
    · rw [hb, upd_same] at e; cases e; exact absurd (F.xi _ hu) nx_dK
    · rw [upd_ne hb] at e; exact F.xa k H g b u hm hu e }
section
variable {F : Fm} {C : Cs} {ρ : Rho} {k : Nat} {P : DE} {Φ : Nat → PyData → Prop} {x xc xb : Str} {px dp pc pb p3 p4 p5 p6 p7 p8 p9 p10 p11 p12 s1 s2 s3 s4 : Pos} {j1 j2 : Nat} {iter eb : Expr} {rest : List Stmt}
end
end Dl

namespace Dl
open PySem PySem.Spec PyProof.Rows L2
/-! ### xs[e:] of a tuple -/
section
variable {F : Fm} {C : Cs} {ρ : Rho} {k : Nat} {Φ : Nat → PyData → Prop} {pos p2 : Pos} {a e : Expr}
end
end Dl

namespace Dl
open PySem PySem.Spec PyProof.Rows L2
/-! ### zip of two tuples -/
section
variable {F : Fm} {C : Cs} {ρ : Rho} {k : Nat} {Φ : Nat → PyData → Prop} {P : DE} {pos spos : Pos} {elt e e2 c : Expr} {scope : Scope} {x x1 : Str} {px px1 p3 pr pr2 : Pos} {kk : Nat}
end
end Dl

namespace Dl
open PySem PySem.Spec PyProof.Rows L2
/-! ### x, y, z = (list(range(a)), e2, e3), the first an own list; the own list against [] -/
section
variable {F : Fm} {C : Cs} {ρ : Rho} {k : Nat} {P : DE} {Φ : Nat → PyData → Prop} {Ψ : Nat → Bool → Prop} {pos p pl p1 p2 p3 p4 pt pr pr2 px pq : Pos} {a e2 e3 : Expr} {x x1 x2 x3 : Str} {kk kt : Nat} {rest : List Stmt} {o : Addr}
end
end Dl

namespace Dl
open PySem PySem.Spec PyProof.Rows L2
/-! ### t.index(i), a tuple of ints -/
def rTupIx (K : PySem.W.Frag) : V → List V → Hp → VK → Prop := fun x xs H Q => ∃ p, ∃ ys : List Int, ∃ (z : Int) (j : Nat), x = .ref p ∧ xs = [.int z] ∧ SqT K H p (ys.map V.int) ∧ ys[j]? = some z ∧ (∀ m, m < j → ys[m]? ≠ some z) ∧ Q (.int (j : Nat)) H
/-! ### t[::-1], a tuple -/
section
variable {prog : Program} {w : World} {A : Around} {E : Value → Shared → Prop} {s : Shared}
end
def tRevT (K : PySem.W.Frag) (te : TE) : TE := fun σ H Q => te σ H fun x H1 => ∃ a xs, x = .ref a ∧ SqT K H1 a xs ∧ ∀ p, H1 p = none → Q (.ref p) (upd H1 p (.tup xs.reverse))
section
variable {F : Fm} {C : Cs} {ρ : Rho} {k : Nat} {Φ : Nat → PyData → Prop} {pos ap cp p1 p2 p3 : Pos} {a e : Expr} {jj : Nat}
end
end Dl

namespace Dl
open PySem PySem.Spec PyProof.Rows L2
/-! ### data of any kind in the heap, dicts too -/
section
variable {X : Cx} {pins : List (Addr × Obj)} {σ : L2.St} {H : Hp} {s : Shared}
end
/-! ### repr of data of any kind: where the texts come from -/
section
variable {X : Cx} {pins : List (Addr × Obj)} {σ : L2.St} {H : Hp} {s : Shared} {K : PySem.W.Frag} {S : Addr → Prop}
/-- the text of one datum, and the objects that it looks at -/
def TxOk (X : Cx) (h : Heap) (u : Value) (n : Nat) (t : Str) : Prop := ∃ bs, ReadAtMost h n bs ∧ ReprK X.prog X.w bs h n u t
def TxAll (X : Cx) (h : Heap) (us : List Value) (n : Nat) (ts : List Str) : Prop := ∃ bs, ReadAtMost h n bs ∧ ReprAllK X.prog X.w bs h n us ts
end
section
variable {F : Fm} {C : Cs} {ρ : Rho} {k : Nat} {Φ : Nat → PyData → Prop} {Ψ : Nat → Bool → Prop} {e a b c : Expr} {pos p p1 p2 : Pos} {x : Str}
/-- {} -/
theorem we_dict0 (h : Φ k (.dict [])) : WPE F C (.Dict [] [] pos) ρ k Φ :=
  of_pe (fun X fx => pe_dnewK) fun σ H Q en j q => fun p hp => q _ (.dict []) k _ (.new hp) (j.new hp) (.dct ⟨upd_same, j.fresh hp⟩ .nil) h
/-- {"word": a number} -/
theorem we_dictI {y : Str} {i : Int} {j1 j2 : Nat} (h : Φ k (.dict [(.str y, .int i)])) : WPE F C (.Dict [some (.Constant (.str y) j1 p1)] [.Constant (.int i) j2 p2] pos) ρ k Φ :=
  of_pe (fun X fx => pe_disp (pps_cons pe_str pe_int pps_nil) rfl rfl (by simp) (by show 1 ≤ 15; omega)) fun σ H Q en j q => fun p hp => by
    refine ⟨upd_same, [(.inr y, .int i)], rfl, by show 1 ≤ 15; omega, ?_⟩
    show Q _ (upd (upd H p (.dK [])) p (.dK [(.inr y, .int i)]))
    rw [upd_upd]
    exact q _ (.dict [(.str y, .int i)]) k _ (.new hp) (j.new hp) (.dct ⟨upd_same, j.fresh hp⟩ (.cons (k := .inr y) (.int i) .nil)) h
end
section
variable {F : Fm} {C : Cs} {ρ : Rho} {k : Nat} {Φ : Nat → PyData → Prop} {pos p2 : Pos} {a e : Expr}
end
/-! ### data whose repr is within the line, dicts too -/
structure FineA (n dp : Nat) (d : PyData) : Prop where
  sh : d.showable = true
  dp : d.depth ≤ dp
  sz : d.shown.length ≤ n
theorem FineA.ok {n dp : Nat} {d : PyData} (h : FineA n dp d) (hn : n ≤ 16000000 := by decide) (hd : dp ≤ 60 := by decide) : d.showable = true ∧ d.depth ≤ 60 ∧ d.shown.length ≤ sizeLine :=
  ⟨h.sh, Nat.le_trans h.dp hd, Nat.le_trans h.sz (Nat.le_trans hn (by decide))⟩
theorem FineA.mono {n n' dp dp' : Nat} {d : PyData} (h : FineA n dp d) (hn : n ≤ n' := by decide) (hd : dp ≤ dp' := by decide) : FineA n' dp' d := ⟨h.sh, Nat.le_trans h.dp hd, Nat.le_trans h.sz hn⟩
theorem Fine.a {n dp : Nat} {d : PyData} (h : Fine n dp d) : FineA n dp d := ⟨h.sh, h.dp, h.sz⟩
section
variable {n dp : Nat}
end
end Dl

namespace Dl
open PySem PySem.Spec PyProof.Rows L2
/-! ### the frame of a law with decks -/
def drawFmX (K : PySem.W.Frag) (S : Addr → Prop) (H : Hp) (st a : Addr) (hS : ∀ b, DqM st a b → S b) : Fm where
  K := K
  S := S
  M := DqM st a
  H0 := H
  G := fun k H' => DqG st a k H' ∧ ∀ b o, ¬ DqM st a b → IsX o → H b = some o → ∃ o', IsX o' ∧ H' b = some o'
  ms := hS
  gm := fun k H' H2 g e hx => ⟨g.1.at e, fun b o nb x q => by
    obtain ⟨o', x', q'⟩ := g.2 b o nb x q
    exact ⟨o', x', hx b o' (.inl x') q'⟩⟩
  gl := fun k H g b hb => g.1.live b hb
  X := IsX
  xi := fun _ h => h
  xa := fun k H' g b o nb x q => g.2 b o nb x q
theorem drawFmX_has {K : PySem.W.Frag} {S : Addr → Prop} {H : Hp} {st a : Addr} {hS : ∀ b, DqM st a b → S b} : HasDq (drawFmX K S H st a hS) st a id where
  ms := fun b hb => hb
  get := fun n H g => g.1
  put := fun n n' H1 H2 g d keep => ⟨d, fun b o nb x q => by
    obtain ⟨o', x', q'⟩ := g.2 b o nb x q
    exact ⟨o', x', keep b o' nb q'⟩⟩
section
variable {P : Program} {w : World} {K : PySem.W.Frag} {mg : Str → Option Value} {base : Heap}
theorem lawQX_ok {qual : Str} {st : Stmt} {f : Addr} {fd : FuncData} {N : List Str} {k j : Nat} {xs xd xt : Str} {p1 p2 p3 p4 p5 : Pos} {rest : List Stmt} (Fn : Fun K "law" qual st f fd) (Sc : FnScope N [xs] (defScope st)) (hbody : defBody st = .Assign [.Name xt p1] (.Call (.Name xd p2) [.Name xs p3] [] p4) p5 :: rest)
    (gd : ∃ (fa : Addr) (fdd : FuncData), FnG P w K mg base j fa fdd [xs] (spDeck K) ∧ mg xd = some (.ref fa) ∧ PySem.W.keepIn K (.ref fa) = true ∧ L2.Binds K fdd [xs] []) (hj : j ≤ k)
    (h0 : N[0]? = some xs) (h1 : N[1]? = some xt) (vs : Vis (defScope st) xs) (lt : Loc (defScope st) xt) (gl : (defScope st).names.lookup xd = some .globalImplicit)
    (hsw : ∀ env : Env, swapsWith (.Call (.Name xd p2) [.Name xs p3] [] p4) (some (.Name xt p1)) p5.line env = pure false)
    (body : ∀ (F : Fm) (s a : Addr), HasDq F s a id → F.X = IsX → F.K = K → WPB F (bodyCs P w K mg base N (defScope st) k) rest (.un :: .raw (.ref s) :: List.replicate (N.length - 2) SV.un) 900000 { nx := fun _ _ => False, rt := fun _ d => d = .bool true, bk := fun _ _ => False, ct := fun _ _ => False })
    (hdb : (xd == ("__debug__" : Str)) = false := by decide) (hdb2 : (xs == ("__debug__" : Str)) = false := by decide) (hcd : (xs == ("__classdict__" : Str)) = false := by decide) : FnG P w K mg base (k + 1) f fd [xs] (spLaw K) := by
  obtain ⟨fa, fdd, G, hm, kp, hb⟩ := gd
  refine FnG.of_body Fn Sc (fun vs H Q E h => ?_) (fun cdv A outer s H vs Q hgd hr h => ?_)
  · obtain ⟨sc, ns, rfl, _⟩ := h
    rfl
  obtain ⟨sc, ns, rfl, hS, hlen, q⟩ := h
  have fx := fits_body (CX := CX0) (P := P) (w := w) (K := K) (mg := mg) (base := base) (N := N) (outer := outer) (s := s) (H := H) (E := E0) hgd hr
  rw [hbody]
  have hN0 : 2 ≤ N.length := by
    have := (List.getElem?_eq_some_iff.mp h1).1
    omega
  refine ⟨_, pss_cons (ps_set (i := 1) Sc.nd h1 lt (FnG.pe G hgd (hr.mono hj) hb gl hm kp (pa_cons (pe_var (i := 0) h0 vs hdb2 hcd) pa_nil) hdb rfl rfl) (hsw _) (.inl rfl)) (pbB fx), ?_⟩
  have est : L2.start N [.ref sc] = some (.ref sc) :: none :: List.replicate (N.length - 2) none := by
    unfold L2.start
    show some (V.ref sc) :: List.replicate (N.length - 1) none = _
    rw [show N.length - 1 = (N.length - 2) + 1 by omega]; rfl
  rw [est]
  refine ⟨.ref sc, rfl, sc, ns, rfl, hS, hlen, fun H' st a sm hst ha g => ?_⟩
  refine body (drawFmX K (DqM st a) H' st a (fun b hb => hb)) st a drawFmX_has rfl rfl (some (.ref sc) :: some (.ref st) :: List.replicate (N.length - 2) none) H' _ (fun i sv e => ?_) ⟨⟨g, fun b o _ x q => ⟨o, x, q⟩⟩, fun b o _ e => e, fun b hb => g.lv b hb⟩ ?_ ?_ ?_ ?_
  · match i, e with
    | 0, e => cases e; exact ⟨_, rfl, trivial⟩
    | 1, e => cases e; exact ⟨_, rfl, rfl⟩
    | i + 2, e =>
      have e' : (List.replicate (N.length - 2) SV.un)[i]? = some sv := e
      rw [List.getElem?_replicate] at e'
      by_cases hi : i < N.length - 2
      · rw [if_pos hi] at e'
        cases e'
        exact ⟨none, by show (List.replicate (N.length - 2) none)[i]? = _; rw [List.getElem?_replicate, if_pos hi], trivial⟩
      · rw [if_neg hi] at e'; cases e'
  · exact fun _ _ _ _ _ _ _ z => z.elim
  · exact fun v d k' H2 _ rv e => by subst e; cases rv; exact q H2
  · exact fun _ _ _ _ _ _ _ z => z.elim
  · exact fun _ _ _ _ _ _ _ z => z.elim
end
/-! ### *xs in a display; f-strings -/
section
variable {F : Fm} {C : Cs} {ρ : Rho} {k : Nat} {Φ : Nat → PyData → Prop} {Ψ : Nat → Bool → Prop} {e a : Expr} {es : List Expr} {pos p : Pos}
def WJ (F : Fm) (C : Cs) (es : List Expr) (ρ : Rho) (k : Nat) (acc : Str) (Θ : Nat → Str → Prop) : Prop :=
  ∃ ts, (∀ X, Fits C X → PJ X es ts) ∧ ∀ (σ : L2.St) (H : Hp) (Q : Str → Hp → Prop), EnvOk F H σ ρ → J F k H → (∀ out k' H', Le F H H' → J F k' H' → Θ k' out → Q out H') → tJs ts acc σ H Q
theorem wj_int {acc : Str} {Θ : Nat → Str → Prop} {ts : List TE} (hts : ∀ X, Fits C X → PJ X es ts) (h : WPE F C e ρ k fun k1 d => ∃ i : Int, d = .int i ∧ i.natAbs < 10 ^ 30 ∧ (acc ++ (toString i : String)).length ≤ 100000 ∧ ∀ (σ : L2.St) (H : Hp) (Q : Str → Hp → Prop), EnvOk F H σ ρ → J F k1 H → (∀ out k' H', Le F H H' → J F k' H' → Θ k' out → Q out H') → tJs ts (acc ++ (toString i : String)) σ H Q) : WJ F C (.FormattedValue e (-1) none pos :: es) ρ k acc Θ :=
  ⟨_, fun X fx => .cons (pe_fmt (peE fx)) (hts X fx), fun σ H Q en j q => by
    show tE C e σ H _
    refine h σ H _ en j fun v d k1 H1 l1 j1 r1 ⟨i, ed, hi, hz, hh⟩ => ?_
    subst ed
    cases r1
    refine .inr ⟨i, rfl, ?_, ?_⟩
    · by_cases h0 : i.natAbs = 0
      · rw [h0]; decide
      · exact (Nat.log2_lt h0).mpr (Nat.lt_trans hi (by decide +kernel))
    · refine ⟨_, rfl, Nat.le_trans hz (by decide), ?_⟩
      exact hh σ H1 Q (en.le l1) j1 fun out k' H' l' j' p => q out k' H' (l1.trans l') j' p⟩
def jt (C : Cs) : Expr → TE
  | .Constant (.str x) _ _ => tC (.str x)
  | .FormattedValue e _ _ _ => tFmt (tE C e)
  | _ => fun _ _ _ => False
def isJ : Expr → Bool
  | .Constant (.str _) _ _ => true
  | .FormattedValue _ c none _ => decide (c = -1)
  | _ => false
theorem pj_of {X : Cx} (fx : Fits C X) : ∀ es : List Expr, es.all isJ = true → PJ X es (es.map (jt C))
  | [], _ => .nil
  | e :: es, h => by
    rw [List.all_cons, Bool.and_eq_true] at h
    refine .cons ?_ (pj_of fx es h.2)
    have h1 := h.1
    unfold isJ at h1
    split at h1
    · exact pe_str
    · have e1 := of_decide_eq_true h1
      subst e1
      exact pe_fmt (peE fx)
    · cases h1
def WKJ (F : Fm) (C : Cs) (es : List Expr) (ρ : Rho) (k : Nat) (acc : Str) (Θ : Nat → Str → Prop) : Prop :=
  ∀ (σ : L2.St) (H : Hp) (Q : Str → Hp → Prop), EnvOk F H σ ρ → J F k H → (∀ out k' H', Le F H H' → J F k' H' → Θ k' out → Q out H') → tJs (es.map (jt C)) acc σ H Q
theorem wkj_nil {acc : Str} {Θ : Nat → Str → Prop} (h : Θ k acc) : WKJ F C [] ρ k acc Θ := fun σ H Q en j q => q acc k H .refl j h
theorem wkj_str {acc x : Str} {jj : Nat} {Θ : Nat → Str → Prop} (hz : (acc ++ x).length ≤ 100000) (h : WKJ F C es ρ k (acc ++ x) Θ) : WKJ F C (.Constant (.str x) jj pos :: es) ρ k acc Θ :=
  fun σ H Q en j q => ⟨x, rfl, Nat.le_trans hz (by decide), h σ H Q en j q⟩
theorem wkj_int {acc : Str} {Θ : Nat → Str → Prop} (h : WPE F C e ρ k fun k1 d => ∃ i : Int, d = .int i ∧ i.natAbs < 10 ^ 30 ∧ (acc ++ (toString i : String)).length ≤ 100000 ∧ WKJ F C es ρ k1 (acc ++ (toString i : String)) Θ) : WKJ F C (.FormattedValue e (-1) none pos :: es) ρ k acc Θ :=
  fun σ H Q en j q => by
    show tE C e σ H _
    refine h σ H _ en j fun v d k1 H1 l1 j1 r1 ⟨i, ed, hi, hz, hh⟩ => ?_
    subst ed
    cases r1
    refine .inr ⟨i, rfl, ?_, ?_⟩
    · by_cases h0 : i.natAbs = 0
      · rw [h0]; decide
      · exact (Nat.log2_lt h0).mpr (Nat.lt_trans hi (by decide +kernel))
    · refine ⟨_, rfl, Nat.le_trans hz (by decide), ?_⟩
      exact hh σ H1 Q (en.le l1) j1 fun out k' H' l' j' p => q out k' H' (l1.trans l') j' p
theorem we_joinedK {v1 v2 : Expr} {rest : List Expr} (ok : (v1 :: v2 :: rest).all isJ = true) (h : WKJ F C (v1 :: v2 :: rest) ρ k Str.empty fun k' out => Φ k' (.str out)) : WPE F C (.JoinedStr (v1 :: v2 :: rest) pos) ρ k Φ :=
  of_pe (fun X fx => pe_joined (pj_of fx _ ok)) fun σ H Q en j q => h σ H _ en j fun out k' H' l j' p => q _ _ k' H' l j' (.str _) p
/-- x is not None -/
theorem wt_notN {jj : Nat} {p' : Pos} (h : WPE F C a ρ k fun k1 x => Ψ k1 (!isNone x)) : WPT F C (.Compare a [.IsNot] [.Constant .none jj p'] pos) ρ k Ψ :=
  of_pt (fun X fx => pt_cmp (pc_notN (peE fx)) rfl) fun σ H Q en j q => h σ H _ en j fun v d k1 H1 l1 j1 r p => by
    refine ⟨!isNone d, ?_, q _ k1 H1 l1 j1 p⟩
    rw [dec_non r]
end
end Dl

namespace Dl
open PySem PySem.Spec PyProof.Rows L2
/-! ### __init__ of a deck -/
def initFm (K : PySem.W.Frag) (S : Addr → Prop) (H0 : Hp) (C a dx : Addr) (d : Nat × List Int) : Fm where
  K := K
  S := fun b => S b ∨ b = a ∨ b = dx
  M := fun b => b = a ∨ b = dx
  H0 := H0
  G := fun k H => (k = 0 ∧ H a = some (.ins C dx []) ∧ H dx = some (.own a)) ∨ (k = 1 ∧ ∃ s t, PiG K C a dx s t ([d], []) H ∧ H0 s = none ∧ H0 t = none)
  ms := fun b h => .inr h
  gm := fun k H H' g hm hx => by
    rcases g with ⟨e, h1, h2⟩ | ⟨e, s, t, h, hs, ht⟩
    · exact .inl ⟨e, (hm a (.inl rfl)).trans h1, (hm dx (.inr rfl)).trans h2⟩
    · exact .inr ⟨e, s, t, h.at (hm a (.inl rfl)) (hm dx (.inr rfl)) hx, hs, ht⟩
  gl := fun k H g b hb => by
    rcases g with ⟨e, h1, h2⟩ | ⟨e, s, t, h, hs, ht⟩
    · rcases hb with rfl | rfl
      · rw [h1]; exact fun z => nomatch z
      · rw [h2]; exact fun z => nomatch z
    · rcases hb with rfl | rfl
      · rw [h.ia]; exact fun z => nomatch z
      · rw [h.id]; exact fun z => nomatch z
structure IsInit (F : Fm) (C a dx : Addr) (d : Nat × List Int) : Prop where
  ex : ∃ S H0, F = initFm F.K S H0 C a dx d
section
variable {P : Program} {w : World} {K : PySem.W.Frag} {mg : Str → Option Value} {base : Heap} {C : Addr}
theorem init_ok {x qual : Str} {st : Stmt} {f : Addr} {fd : FuncData} {N : List Str} {k : Nat} {x1 x2 : Str} {Ok : Nat × List Int → Prop} (Fn : Fun K x qual st f fd) (Sc : FnScope N [x1, x2] (defScope st))
    (body : ∀ (F : Fm) (a dx : Addr) (d : Nat × List Int), IsInit F C a dx d → F.K = K → Ok d → WPB F (bodyCs P w K mg base N (defScope st) k) (defBody st) (.raw (.ref a) :: ([boxP d].map SV.d ++ List.replicate (N.length - 2) SV.un)) 0 { nx := fun k' _ => k' = 1, rt := fun _ _ => False, bk := fun _ _ => False, ct := fun _ _ => False }) :
    FnG P w K mg base (k + 1) f fd [x1, x2] (spInit K C Ok) := by
  refine FnG.of_body Fn Sc (fun vs H Q E h => ?_) (fun cdv A outer s H vs Q hgd hr h => ?_)
  · obtain ⟨S, a, dx, v, d, rfl, _⟩ := h
    rfl
  · obtain ⟨S, a, dx, v, d, rfl, ha, hd, al, rv, ok, q⟩ := h
    refine ⟨_, pbB (fits_body hgd hr), ?_⟩
    have al2 : ∀ b, (S b ∨ b = a ∨ b = dx) → Lv H b := fun b hb => by
      rcases hb with hb | rfl | rfl
      · exact al b hb
      · exact ⟨_, ha, fun _ z => nomatch z⟩
      · exact ⟨_, hd, fun _ z => nomatch z⟩
    obtain ⟨va, rfl, rt⟩ := tr_box rv
    have r2 : RepAll K (fun b => S b ∨ b = a ∨ b = dx) H [.ref va] [boxP d] := .cons (rt.rep al2) .nil
    refine body (initFm K S H C a dx d) a dx d ⟨S, H, rfl⟩ rfl ok (L2.start N (.ref a :: [.ref va])) H _ (env_raw (F := initFm K S H C a dx d) r2) ⟨.inl ⟨rfl, ha, hd⟩, fun b o _ e => e, al2⟩ ?_ ?_ ?_ ?_
    · rintro ρ' σ' k' H' _ _ j' e
      have e : k' = 1 := e
      subst e
      rcases j'.g with ⟨e, _⟩ | ⟨_, s, t, pg, hs, ht⟩
      · cases e
      refine q s t H' (fun b o nb e => ?_) hs ht pg
      by_cases hb : b = dx
      · subst hb; rw [hd] at e; rw [pg.id]; exact e
      · exact j'.le b o (fun z => z.elim (fun z => z.elim nb hb) id) e
    · exact fun _ _ _ _ _ _ z => z.elim
    · exact fun _ _ _ _ _ _ _ z => z.elim
    · exact fun _ _ _ _ _ _ _ z => z.elim
end
section
variable {X : Cx}
/-- two lists come to rest, known to their owner alone -/
theorem pss_asExt {st : List Stmt} {t : TS} (h : PSs X st t) : PSs X st (fun D σ H => t { D with nx := fun σ' H' => ∃ (p q : Addr) (as bs : List Addr), H' p = some (.lst (as.map V.ref)) ∧ H' q = some (.lst (bs.map V.ref)) ∧ p ≠ q ∧ D.nx σ' (upd (upd H' p (extL p as)) q (extL q bs)) } σ H) := by
  refine ⟨fun pins s σ H D I hh => wpAny_mono (h.run pins s σ H _ I hh) ?_ fun _ _ z => z⟩
  intro f s' hs
  cases f with
  | next =>
    obtain ⟨σ', H', I', p, q, as, bs, hp, hq, hne, hn⟩ := hs
    exact ⟨σ', _, inv_asExt (inv_asExt I' hp) (by rw [upd_ne hne.symm]; exact hq), hn⟩
  | _ => exact hs
end
theorem psFld {C : Cs} {X : Cx} (fx : Fits C X) {o e : Expr} {f : Str} {ta tv : TE} {pos' pos : Pos} (ho : PE X o ta) (hv : PE X e tv) (hs : swapsWith e (some (.Attribute o f pos')) pos.line X.env = pure false) : PS X (.Assign [.Attribute o f pos'] e pos) (sFld C.K ta tv f) := by
  rw [← fx.K]; exact ps_fld ho hv hs
theorem putF_done {v x : V} : putF "done" v [(("states" : Str), x)] = [(("states" : Str), x), (("done" : Str), v)] := by
  unfold putF
  rw [if_neg (by decide +kernel)]
  rfl
section
variable {F : Fm} {C : Cs} {Cl a dx : Addr} {ρ : Rho} {P : DE} {y z : Str} {p1 p2 p3 p4 p5 p6 p7 p8 p9 : Pos} {d : Nat × List Int}
/-- self.states = [box]; self.done = [] -/
theorem wb_initEnd (pc : PiC C.K Cl) (ini : IsInit F Cl a dx d) (hK : F.K = C.K) (i j : Nat) (hN : C.N[i]? = some y) (hv : Vis C.sc y) (hr : ρ[i]? = some (.raw (.ref a))) (hN2 : C.N[j]? = some z) (hv2 : Vis C.sc z) (hr2 : ρ[j]? = some (.d (boxP d)))
    (hs1 : ∀ env : Env, swapsWith (.List [.Name z p3] p4) (some (.Attribute (.Name y p1) "states" p2)) p5.line env = pure false) (hs2 : ∀ env : Env, swapsWith (.List [] p8) (some (.Attribute (.Name y p6) "done" p7)) p9.line env = pure false)
    (h : P.nx 1 ρ) (hse : ∀ env : Env, starEach [.Name z p3] env = (false, eval (.Name z p3) env) :: starEach [] env := by intro _; rfl)
    (hd : (y == ("__debug__" : Str)) = false := by decide) (hcd : (y == ("__classdict__" : Str)) = false := by decide) (hd2 : (z == ("__debug__" : Str)) = false := by decide) (hcd2 : (z == ("__classdict__" : Str)) = false := by decide) :
    WPB F C [.Assign [.Attribute (.Name y p1) "states" p2] (.List [.Name z p3] p4) p5, .Assign [.Attribute (.Name y p6) "done" p7] (.List [] p8) p9] ρ 0 P :=
  of_pb (fun X fx => pss_asExt (pss_cons (psFld fx (pe_var (i := i) (by rw [fx.N]; exact hN) (by rw [fx.sc]; exact hv) hd hcd) (pe_lst (pa_cons (pe_var (i := j) (by rw [fx.N]; exact hN2) (by rw [fx.sc]; exact hv2) hd2 hcd2) pa_nil (hse X.env))) (hs1 X.env)) (pss_one (psFld fx (pe_var (i := i) (by rw [fx.N]; exact hN) (by rw [fx.sc]; exact hv) hd hcd) (pe_lst pa_nil) (hs2 X.env))))) fun σ H E en jj q1 q2 q3 q4 => by
    obtain ⟨S, H0, hF⟩ := ini.ex
    obtain ⟨K', hK'⟩ : ∃ K', K' = F.K := ⟨_, rfl⟩
    rw [← hK'] at hF hK
    subst hF
    rcases jj.g with ⟨_, ha, hdx⟩ | ⟨e, _⟩
    rotate_left
    · cases e
    obtain ⟨v, ev, rv⟩ := en.d hr2
    obtain ⟨va, rfl, rt⟩ := tr_box rv
    have ned : dx ≠ a := ne_of hdx ha (fun z => nomatch z)
    refine ⟨.ref va, ev, by show 1 ≤ sizeLine; decide, fun p hp => ?_⟩
    have npa : p ≠ a := (ne_of_none ha hp).symm
    have npd : p ≠ dx := (ne_of_none hdx hp).symm
    refine ⟨.ref a, en.raw hr, a, Cl, dx, [], rfl, by rw [upd_ne npa.symm]; exact ha, pc.cl, pc.ns, by decide, ?_⟩
    refine ⟨by show 0 ≤ sizeLine; decide, fun q hq => ?_⟩
    have nqa : q ≠ a := fun z => by rw [z, upd_same] at hq; cases hq
    rw [upd_ne nqa] at hq
    have nqp : q ≠ p := fun z => by rw [z, upd_same] at hq; cases hq
    rw [upd_ne nqp] at hq
    have nqd : q ≠ dx := (ne_of_none hdx hq).symm
    refine ⟨.ref a, en.raw hr, a, Cl, dx, [("states", .ref p)], rfl, by rw [upd_ne nqa.symm, upd_same]; rfl, pc.cl, pc.nd, by show 1 < 1000; decide, ?_⟩
    rw [putF_done]
    refine ⟨p, q, [va], [], by rw [upd_ne npa, upd_ne nqp.symm, upd_ne npa, upd_same]; rfl, by rw [upd_ne nqa, upd_same]; rfl, nqp.symm, ?_⟩
    generalize hH : upd (upd (upd (upd (upd (upd H p (.lst [.ref va])) a (.ins Cl dx (putF "states" (.ref p) []))) q (.lst [])) a (.ins Cl dx [("states", .ref p), ("done", .ref q)])) p (extL p [va])) q (extL q []) = H5
    have hk : ∀ b, b ≠ a → b ≠ p → b ≠ q → H5 b = H b := fun b h1 h2 h3 => by rw [← hH, upd_ne h3, upd_ne h2, upd_ne h1, upd_ne h3, upd_ne h1, upd_ne h2]
    have hka : H5 a = some (.ins Cl dx [("states", .ref p), ("done", .ref q)]) := by rw [← hH, upd_ne nqa.symm, upd_ne npa.symm, upd_same]
    have hkp : H5 p = some (extL p [va]) := by rw [← hH, upd_ne nqp.symm, upd_same]
    have hkq : H5 q = some (extL q []) := by rw [← hH, upd_same]
    have old : ∀ b o, b ≠ a → H b = some o → H5 b = some o := fun b o nb e => by rw [hk b nb (ne_of_none e hp) (ne_of_none e hq)]; exact e
    have pg : PiG K' Cl a dx p q ([d], []) H5 := ⟨hka, old dx _ ned hdx, nqp.symm, ⟨[va], hkp, .cons (rt.keep fun b xs e => old b _ (fun z => by rw [z, ha] at e; cases e) e) .nil⟩, ⟨[], hkq, .nil⟩, by show 1 ≤ 1000; decide, by show 0 ≤ 1000; decide⟩
    have hM : ∀ b, ¬ (initFm K' S H0 Cl a dx d).M b → b ≠ a := fun b z e => z (.inl e)
    have le : Le (initFm K' S H0 Cl a dx d) H H5 := fun b o n e => old b o (hM b fun z => n (.inl z)) e
    refine q1 ρ σ 1 H5 le.lz (en.le le) ⟨.inr ⟨rfl, p, q, pg, jj.h0 (fun z => z.elim npa npd) hp, jj.h0 (fun z => z.elim nqa nqd) hq⟩, fun b o n e => le b o n (jj.le b o n e), fun b hb => ?_⟩ h
    by_cases hba : b = a
    · subst hba; exact ⟨_, hka, fun _ z => nomatch z⟩
    · exact (jj.al b hb).keep fun o e => old b o hba e
end
end Dl

namespace Dl
open PySem PySem.Spec PyProof.Rows L2
theorem RpStrs {F : Fm} {H : Hp} : ∀ {bs : List Str} {vs : List V}, RpAll F H vs (bs.map PyData.str) → vs = bs.map V.str
  | [], _, h => by cases h; rfl
  | b :: bs, _, h => by
    cases h with
    | cons h1 h2 => cases h1; rw [RpStrs h2]; rfl
section
variable {F : Fm} {C : Cs} {Cl a dx : Addr} {mk : Pg → Nat} {g : Pg} {ρ : Rho} {k : Nat} {Φ : Nat → PyData → Prop} {e : Expr} {pos p py apos p1 : Pos} {x y m : Str} {Pre : Pg → List PyData → Prop} {R : Pg → List PyData → Pg → PyData → Prop} {j : Nat}
/-- y.m() of a deck, its one further parameter None by default -/
theorem we_pm0N (pi : HasPi F Cl a dx mk) (hF : PiM C.P C.w C.K C.mg C.base Cl j m [.non] Pre R) (hl : j ≤ C.lvl) (hK : F.K = C.K) (i : Nat) (hN : C.N[i]? = some y) (hv : Vis C.sc y) (hr : ρ[i]? = some (.raw (.ref a))) (hmn : m ≠ "states" ∧ m ≠ "done") (hp : Pre g [.none]) (h : ∀ g' d, R g [.none] g' d → Φ (mk g') d)
    (hd : (y == ("__debug__" : Str)) = false := by decide) (hcd : (y == ("__classdict__" : Str)) = false := by decide)
    {pl : Env → Sem Bool} (ht : ∀ env : Env, eval (.Call (.Attribute (.Name y py) m apos) [] [] pos) env = (do
      let ov ← eval (.Name y py) env
      standAt apos.atName
      let (f, first) ← holding [ov] (getMethod ov m (pl env))
      callWith pos f first (backTo pos (starEach [] env)) (backToKw pos (keywordEach [] env))) := by intro _; rfl) :
    WPE F C (.Call (.Attribute (.Name y py) m apos) [] [] pos) ρ (mk g) Φ := by
  obtain ⟨fa, fd, ps, ds, G, hm, hb, hd2⟩ := hF.ex
  refine of_pe (fun X fx => pe_methG0 (pl := pl X.env) (pe_var (i := i) (by rw [fx.N]; exact hN) (by rw [fx.sc]; exact hv) hd hcd) (by rw [fx.K]; exact hF.cl) (by rw [fx.K]; exact hm) (by rw [fx.P, fx.w, fx.K, fx.mg, fx.base]; exact G) fx.gd (fx.room.mono hl) (by rw [fx.K]; exact hb) hd2 (ht X.env)) fun σ H Q en jj q => ?_
  obtain ⟨s, t, dg⟩ := pi.get g H jj.g
  refine ⟨_, en.raw hr, a, dx, _, rfl, dg.ia, meth_none hmn, ?_⟩
  exact pi_step (vs := [.non]) (ds := [.none]) pi hK jj (.cons .non .nil) hp h q
/-- sep.join(texts), sep written -/
theorem we_joinS {sep : Str} {jj : Nat} (hbase : ∀ env : Env, attributeBase (.Constant (.str sep) jj p1) "join" env (eval (.Constant (.str sep) jj p1) env) = eval (.Constant (.str sep) jj p1) env) (hline : (apos.endLine == pos.line) = true) (hs : ∀ env : Env, starEach [e] env = [(false, eval e env)]) (hK : F.K = C.K)
    (h : WPE F C e ρ k fun k1 d => ∃ ys : List Str, seqD d = some (ys.map PyData.str) ∧ (ys.map (·.length)).sum + ys.length * sep.length ≤ 16777216 ∧ Φ k1 (.str (Txt.join sep ys))) : WPE F C (.Call (.Attribute (.Constant (.str sep) jj p1) "join" apos) [e] [] pos) ρ k Φ :=
  of_pe (t := tM1 (fun x xs H Q => ∃ a p, ∃ ys : List Str, x = .str a ∧ xs = [.ref p] ∧ (SqL C.K H p (ys.map V.str) ∨ SqT C.K H p (ys.map V.str)) ∧ (ys.map (·.length)).sum + ys.length * a.length ≤ 16777216 ∧ Q (.str (Txt.join a ys)) H) (tC (.str sep)) (tE C e)) (fun X fx => by rw [← fx.K]; exact pe_join pe_str (peE fx) (hs X.env) (hbase X.env) hline) fun σ H Q en j q => by
    refine ⟨⟨sep, rfl⟩, ?_⟩
    show tE C e σ H _
    refine h σ H _ en j fun v d k1 H1 l1 j1 r1 ⟨ys, hd, hz, hp⟩ => ?_
    cases r1 with
    | @lst b xs _ hb hr =>
      cases hd
      exact ⟨sep, b, ys, rfl, rfl, .inl (RpStrs hr ▸ hK ▸ sql_of hb), hz, q _ _ k1 H1 l1 j1 (.str _) hp⟩
    | @tup b xs _ hb hr =>
      cases hd
      exact ⟨sep, b, ys, rfl, rfl, .inr (RpStrs hr ▸ hK ▸ sqt_of hb), hz, q _ _ k1 H1 l1 j1 (.str _) hp⟩
    | _ => cases hd
/-- str(a number) -/
theorem we_strI (hg : C.sc.names.lookup ("str" : Str) = some .globalImplicit) (hm : C.mg ("str" : Str) = none) (hs : ∀ env : Env, starEach [e] env = (false, eval e env) :: starEach [] env) (h : WPE F C e ρ k fun k1 d => ∃ i : Int, d = .int i ∧ i.natAbs < 10 ^ 30 ∧ Φ k1 (.str (toString i : String))) : WPE F C (.Call (.Name "str" p) [e] [] pos) ρ k Φ :=
  we_callTy (T := "str") (fun X fx => call_str_int) hg hm (by decide +kernel) (wa_one hs (h.imp fun k1 x ⟨i, e, hi, p⟩ => fun H vs Q j r q => by
    subst e
    cases r with
    | cons r1 r2 =>
    cases r2
    cases r1
    refine ⟨i, rfl, ?_, q _ _ k1 H .refl j (.str _) p⟩
    by_cases h0 : i.natAbs = 0
    · rw [h0]; decide
    · exact (Nat.log2_lt h0).mpr (Nat.lt_trans hi (by decide +kernel)))) (by decide) (by decide) hs
end
theorem atI_last {α : Type} {xs : List α} {x : α} (h : xs.getLast? = some x) : atI xs (-1) = some x := by
  have hne : xs ≠ [] := fun z => by subst z; cases h
  have hl : 0 < xs.length := List.length_pos_iff.mpr hne
  unfold atI
  have e : ixN xs.length (-1) = some (xs.length - 1) := by
    unfold ixN
    rw [if_neg (by decide), if_pos (by omega)]
    congr 1; omega
  rw [e]
  show xs[xs.length - 1]? = _
  rw [← List.getLast?_eq_getElem?]; exact h
section
variable {F : Fm} {C : Cs} {ρ : Rho} {k : Nat} {Φ : Nat → PyData → Prop} {ie : Expr} {pos px : Pos} {x : Str}
end
end Dl

namespace Dl
open PySem PySem.Spec PyProof.Rows L2
/-! ### texts -/
section
variable {F : Fm} {C : Cs} {ρ : Rho} {k : Nat} {Φ : Nat → PyData → Prop} {a b e : Expr} {es : List Expr} {pos : Pos}
/-- {e} of a text in an f-string -/
theorem wkj_txt {acc : Str} {Θ : Nat → Str → Prop} (h : WPE F C e ρ k fun k1 d => ∃ x : Str, d = .str x ∧ x.length ≤ 100000 ∧ (acc ++ x).length ≤ 100000 ∧ WKJ F C es ρ k1 (acc ++ x) Θ) : WKJ F C (.FormattedValue e (-1) none pos :: es) ρ k acc Θ :=
  fun σ H Q en j q => by
    show tE C e σ H _
    refine h σ H _ en j fun v d k1 H1 l1 j1 r1 ⟨x, ed, hx, hz, hh⟩ => ?_
    subst ed
    cases r1
    refine .inl ⟨x, rfl, Nat.le_trans hx (by decide), ⟨_, rfl, Nat.le_trans hz (by decide), ?_⟩⟩
    exact hh σ H1 Q (en.le l1) j1 fun out k' H' l' j' p => q out k' H' (l1.trans l') j' p
/-- x + y of texts -/
theorem we_addS (h : WPE F C a ρ k fun k1 x => WPE F C b ρ k1 fun k2 y => ∃ i j : Str, x = .str i ∧ y = .str j ∧ i.length + j.length ≤ 1000000 ∧ Φ k2 (.str (i ++ j))) : WPE F C (.BinOp a .Add b pos) ρ k Φ :=
  we_bin (fun X _ => op_add_str) (h.imp fun k1 x h1 => h1.imp fun k2 y ⟨i, j, e1, e2, hz, p⟩ => by
    subst e1 e2
    intro H vx vy Q jj rx ry q
    cases rx
    cases ry
    exact ⟨i, j, rfl, rfl, Nat.le_trans hz (by decide), q _ _ k2 H .refl jj (.str _) p⟩)
/-- x[i] of a text -/
theorem we_ixS (hs : PlainIxT b) (h : WPE F C a ρ k fun k1 x => WPE F C b ρ k1 fun k2 y => ∃ (z : Str) (i : Int) (c : Nat), x = .str z ∧ y = .int i ∧ 0 ≤ i ∧ i < z.length ∧ z.length ≤ 1000000 ∧ z.cps[i.toNat]? = some c ∧ Φ k2 (.str ⟨#[c]⟩)) : WPE F C (.Subscript a b pos) ρ k Φ :=
  of_pe (fun X fx => pe_item_str (peE fx) (peE fx) hs) (we_op (h.imp fun k1 x h1 => h1.imp fun k2 y ⟨z, i, c, e1, e2, i0, i1, hz, hc, p⟩ => by
    subst e1 e2
    intro H vx vy Q jj rx ry q
    cases rx
    cases ry
    exact ⟨z, i, c, rfl, rfl, i0, by omega, i1, hc, q _ _ k2 H .refl jj (.str _) p⟩))
end
section
variable {F : Fm} {C : Cs} {ρ : Rho} {k : Nat} {P : DE} {x1 x2 : Str} {kk : Nat} {p p1 p2 tp pos : Pos} {a : Expr} {body : List Stmt}
end
end Dl

namespace Dl
open PySem PySem.Spec PyProof.Rows L2
/-! ### y = tuple(sorted(x + (left.pop(e),))): values over an expression that changes an own list -/
section
variable {F : Fm} {C : Cs} {ρ : Rho} {k : Nat} {P : DE} {Ξ : Nat → List PyData → PyData → Prop} {o : Addr} {te : TE}
end
section
variable {F : Fm} {C : Cs} {ρ : Rho} {k : Nat} {P : DE} {Φ : Nat → PyData → Prop}
end
section
variable {F : Fm} {C : Cs} {ρ : Rho} {k : Nat} {P : DE} {pos px py pz ap cp pc pt p1 p2 p3 p4 p5 : Pos} {x y z : Str} {e : Expr} {o : Addr} {kt : Nat}
end
section
variable {F : Fm} {C : Cs} {ρ : Rho} {k : Nat} {P : DE} {pos p pl p1 p2 p4 pt pr pr2 : Pos} {a e2 : Expr} {x1 x2 : Str} {kk kt : Nat} {rest : List Stmt}
end
section
variable {F : Fm} {C : Cs} {ρ : Rho} {k : Nat} {P : DE} {pos p2 px : Pos} {es : List Expr} {x : Str} {rest : List Stmt}
end
end Dl

namespace Dl
open PySem PySem.Spec PyProof.Rows L2
section
variable {F : Fm} {C : Cs} {ρ : Rho} {k : Nat} {P : DE} {pos p pl p1 p2 p4 pt : Pos} {e1 : Expr} {x1 x2 : Str} {kk kt : Nat} {rest : List Stmt}
end
end Dl

namespace Dl
open PySem PySem.Spec PyProof.Rows L2
section
variable {X : Cx} {x m q : Str} {p pos apos kpos : Pos} {o e : Expr} {ta te : TE} {k : Nat} {f C : Addr} {fd : FuncData} {ps : List Str} {sp : Sp}
theorem FnG.call_runN {pins : List (Addr × Obj)} {σ : L2.St} {H : Hp} {s : Shared} {Q : VK} {us ws : List Value} {vs zs : List V} {n : Nat} {ks : List Str} (G : FnG X.prog X.w X.K X.mg X.base k f fd ps sp) (gd : X.A.guards = some []) (room : Room k X.A) (hb : KBn X.K fd ps n ks (fun a b => a ++ b) (fun a b => a ++ b))
    (I : Inv X pins σ H s) (r : Vals vs us) (rz : Vals zs ws) (l1 : vs.length = n) (l2 : zs.length = ks.length) (h : sp (vs ++ zs) H Q E0) : wpAny (model X.prog X.w) X.A (call (.ref f) us (ks.zip ws)) (EP X pins σ Q) X.xe s := by
  have r2 : Vals (vs ++ zs) (us ++ ws) := r.append rz
  have bind := hb.to s us ws I.kIn (r.length.symm.trans l1) (rz.length.symm.trans l2)
  refine wpAny_call (codeAny_mono (G.run X.A X.stack s H ⟨us, ks.zip ws⟩ (us ++ ws) (vs ++ zs) Q gd room I.env0 bind r2 h) ?_)
  intro res s' hr
  match res, hr with
  | .ok (.ret u), hr => exact I.after hr
  | .ok .next, hr => exact False.elim hr
  | .ok .brk, hr => exact False.elim hr
  | .ok .cont, hr => exact False.elim hr
  | .error _, hr => exact False.elim hr
def tMethK (C : Addr) (m : Str) (sp : Sp) (ta te : TE) : TE := fun σ H Q => ta σ H fun x H1 => ∃ a dx fs, x = .ref a ∧ H1 a = some (.ins C dx fs) ∧ fs.lookup m = none ∧
  te σ H1 fun z H2 => [z].length = 1 ∧ sp [x, z] H2 Q E0
/-- o.m(q=e) -/
theorem pe_methGK {pl : Sem Bool} (he : PE X o ta) (c : Cls X.K C) (hm : Meth X.K C m f) (G : FnG X.prog X.w X.K X.mg X.base k f fd ps sp) (gd : X.A.guards = some []) (room : Room k X.A) (hb : KBn X.K fd ps 1 [q] (fun a b => a ++ b) (fun a b => a ++ b)) (hk : PE X e te)
    (ht : eval (.Call (.Attribute o m apos) [] [⟨some q, e, kpos⟩] pos) X.env = (do
      let ov ← eval o X.env
      standAt apos.atName
      let (f, first) ← holding [ov] (getMethod ov m pl)
      callWith pos f first (backTo pos (starEach [] X.env)) (backToKw pos (keywordEach [⟨some q, e, kpos⟩] X.env))))
    (hall : (backToKw pos (keywordEach [⟨some q, e, kpos⟩] X.env)).all (·.1.isSome) = true) (hks : (backToKw pos (keywordEach [⟨some q, e, kpos⟩] X.env)).filterMap (·.1) = [q])
    (hpl : ((backTo pos (starEach [] X.env)).any (·.1) || (backToKw pos (keywordEach [⟨some q, e, kpos⟩] X.env)).any (·.1.isNone)) = false) :
    PE X (.Call (.Attribute o m apos) [] [⟨some q, e, kpos⟩] pos) (tMethK C m sp ta te) := by
  refine ⟨fun pins s σ H Q I h => ?_⟩
  refine PySem.W.methodCall_KW (pl := pl) (thn (he.run pins s σ H _ I h) fun u s1 ⟨x, H1, I1, rx, a, dx, fs, ex, ea, l, q1⟩ => ?_) ht
  subst ex
  obtain rfl : u = Value.ref a := rx
  refine getmeth_ok I1 ea c hm l ?_
  refine PySem.W.callWith_KW0 (first := [.ref a]) I1.kIn hm.kp hall (thn ((pk_cons (nm := some q) (kpos := kpos) hk pk_nil).run pos pins s1 σ H1 (fun zs H2 => zs.length = 1 ∧ sp (.ref a :: zs) H2 Q E0) I1 ?_) fun ws s2 ⟨zs, H2, I2, rz, lz, q2⟩ => ⟨I2.kIn, ?_⟩) hpl
  · show te σ H1 fun z H2 => [z].length = 1 ∧ sp [.ref a, z] H2 Q E0
    exact q1
  rw [hks]
  exact FnG.call_runN (us := [.ref a]) (vs := [.ref a]) G gd room hb I2 (.cons rfl .nil) rz rfl lz q2
end
/-- a method of decks whose one keyword-only parameter is given -/
structure PiK (P : Program) (w : World) (K : PySem.W.Frag) (mg : Str → Option Value) (base : Heap) (C : Addr) (lvl : Nat) (m q : Str) (Pre : Pg → List PyData → Prop) (R : Pg → List PyData → Pg → PyData → Prop) : Prop where
  cl : Cls K C
  ex : ∃ (fa : Addr) (fd : FuncData) (ps : List Str), FnG P w K mg base lvl fa fd ps (spPi K C Pre R) ∧ Meth K C m fa ∧ KBn K fd ps 1 [q] (fun a b => a ++ b) (fun a b => a ++ b)
section
variable {F : Fm} {C : Cs} {Cl a dx : Addr} {mk : Pg → Nat} {g : Pg} {ρ : Rho} {k : Nat} {Φ : Nat → PyData → Prop} {e : Expr} {pos py apos kpos : Pos} {y m q : Str} {Pre : Pg → List PyData → Prop} {R : Pg → List PyData → Pg → PyData → Prop} {j : Nat}
/-- y.m(q=e) of a deck -/
theorem we_pmK (pi : HasPi F Cl a dx mk) (hF : PiK C.P C.w C.K C.mg C.base Cl j m q Pre R) (hl : j ≤ C.lvl) (hK : F.K = C.K) (i : Nat) (hN : C.N[i]? = some y) (hv : Vis C.sc y) (hr : ρ[i]? = some (.raw (.ref a))) (hmn : m ≠ "states" ∧ m ≠ "done")
    (h : WPE F C e ρ (mk g) fun k1 d => ∃ mk1 g1, HasPi F Cl a dx mk1 ∧ k1 = mk1 g1 ∧ Pre g1 [d] ∧ ∀ g' d', R g1 [d] g' d' → Φ (mk1 g') d')
    (hd : (y == ("__debug__" : Str)) = false := by decide) (hcd : (y == ("__classdict__" : Str)) = false := by decide)
    {pl : Env → Sem Bool} (ht : ∀ env : Env, eval (.Call (.Attribute (.Name y py) m apos) [] [⟨some q, e, kpos⟩] pos) env = (do
      let ov ← eval (.Name y py) env
      standAt apos.atName
      let (f, first) ← holding [ov] (getMethod ov m (pl env))
      callWith pos f first (backTo pos (starEach [] env)) (backToKw pos (keywordEach [⟨some q, e, kpos⟩] env))) := by intro _; rfl)
    (hall : ∀ env : Env, (backToKw pos (keywordEach [⟨some q, e, kpos⟩] env)).all (·.1.isSome) = true := by intro _; rfl) (hks : ∀ env : Env, (backToKw pos (keywordEach [⟨some q, e, kpos⟩] env)).filterMap (·.1) = [q] := by intro _; rfl)
    (hpl : ∀ env : Env, ((backTo pos (starEach [] env)).any (·.1) || (backToKw pos (keywordEach [⟨some q, e, kpos⟩] env)).any (·.1.isNone)) = false := by intro _; rfl) :
    WPE F C (.Call (.Attribute (.Name y py) m apos) [] [⟨some q, e, kpos⟩] pos) ρ (mk g) Φ := by
  obtain ⟨fa, fd, ps, G, hm, hb⟩ := hF.ex
  refine of_pe (fun X fx => pe_methGK (pl := pl X.env) (pe_var (i := i) (by rw [fx.N]; exact hN) (by rw [fx.sc]; exact hv) hd hcd) (by rw [fx.K]; exact hF.cl) (by rw [fx.K]; exact hm) (by rw [fx.P, fx.w, fx.K, fx.mg, fx.base]; exact G) fx.gd (fx.room.mono hl) (by rw [fx.K]; exact hb) (peE fx) (ht X.env) (hall X.env) (hks X.env) (hpl X.env)) fun σ H Q en jj q => ?_
  obtain ⟨s, t, dg⟩ := pi.get g H jj.g
  refine ⟨_, en.raw hr, a, dx, _, rfl, dg.ia, meth_none hmn, ?_⟩
  show tE C e σ H _
  refine h σ H _ en jj fun v d k1 H1 l1 j1 r1 ⟨mk1, g1, pi1, e1, hp, hq⟩ => ⟨rfl, ?_⟩
  subst e1
  exact pi_step (vs := [v]) (ds := [d]) pi1 hK j1 (.cons r1 .nil) hp hq fun v d k' H' l' j' r' p => q v d k' H' (l1.trans l') j' r' p
end
end Dl

namespace Dl
open PySem PySem.Spec PyProof.Rows L2
/-! ### a deck's lists cut -/
section
variable {X : Cx}
end
section
variable {F : Fm} {C : Cs} {Cl a dx : Addr} {mk : Pg → Nat} {g : Pg} {ρ : Rho} {e : Expr} {pos p1 p2 p3 p4 p5 p6 : Pos} {y : Str} {P : DE}
end
end Dl

namespace Dl
open PySem PySem.Spec PyProof.Rows L2
section
variable {F : Fm} {C : Cs} {ρ : Rho} {k : Nat} {Φ : Nat → PyData → Prop} {pos p p2 : Pos} {pos' : Pos} {a b c e : Expr} {P : DE}
end
end Dl

namespace Dl
open PySem PySem.Spec PyProof.Rows L2
/-! ### t[m::2], a tuple -/
def ev2 {α : Type} : List α → List α
  | [] => []
  | [a] => [a]
  | a :: _ :: r => a :: ev2 r
/-- where the slice begins -/
def loN : Option Int → Nat
  | none => 0
  | some i => i.toNat
section
variable {prog : Program} {w : World} {A : Around} {E : Value → Shared → Prop} {s : Shared}
end
def tTwoT (K : PySem.W.Frag) (te : TE) (tl : TO) : TE := fun σ H Q => te σ H fun x H1 => tl σ H1 fun lo H2 => (∀ i, lo = some i → 0 ≤ i) ∧ ∃ a xs, x = .ref a ∧ SqT K H2 a xs ∧ ∀ p, H2 p = none → Q (.ref p) (upd H2 p (.tup (ev2 (xs.drop (loN lo)))))
section
variable {F : Fm} {C : Cs} {ρ : Rho} {k : Nat} {Φ : Nat → PyData → Prop} {pos p1 p3 : Pos} {a e : Expr} {jj : Nat}
end
end Dl

namespace Dl
open PySem PySem.Spec PyProof.Rows L2
/-! ### any datum == a text -/
def isS (w : Str) : PyData → Bool
  | .str x => x == w
  | _ => false
def rEqS (K : PySem.W.Frag) : R2 := fun x y H Q => ∃ (S : Addr → Prop) (d : PyData) (w : Str), Rep K S H x d ∧ y = .str w ∧ Q (.bl (isS w d)) H
section
variable {F : Fm} {C : Cs} {ρ : Rho} {k : Nat} {Φ : Nat → PyData → Prop} {Ψ : Nat → Bool → Prop} {a b : Expr} {pos : Pos}
theorem RpAll.strs {H : Hp} : ∀ {bs : List Str} {vs : List V}, RpAll F H vs (bs.map PyData.str) → vs = bs.map V.str
  | [], _, h => by cases h; rfl
  | b :: bs, _, h => by
    cases h with
    | cons h1 h2 => cases h1; rw [RpAll.strs h2]; rfl
theorem inV_strs {v : Str} : ∀ (bs : List Str), inV (.str v) (bs.map V.str) = bs.any (· == v)
  | [] => by simp [inV]
  | x :: bs => by
    have ih := inV_strs (v := v) bs
    unfold inV at ih ⊢
    rw [List.map_cons, List.any_cons, ih, List.any_cons]
    congr 1
/-- a text in a list or tuple of texts -/
theorem rd_inTx {neg : Bool} {v : Str} {y : PyData} {bs : List Str} (hK : F.K = C.K) (hy : seqD y = some (bs.map PyData.str)) (h : Φ k (.bool (if neg then !bs.any (· == v) else bs.any (· == v)))) : RD F (rIn C.K neg) (.str v) y k Φ :=
  rd_in hK hy rfl (by rw [List.all_map]; exact List.all_eq_true.mpr fun _ _ => rfl) (fun H vx vs rx rv => by cases rx; rw [RpAll.strs rv]; exact inV_strs bs) h
end
/-! ### a list of any data != [] -/
def rNeNil (K : PySem.W.Frag) : R2 := fun x y H Q => ∃ (S S' : Addr → Prop) (ds : List PyData), Rep K S H x (.list ds) ∧ Rep K S' H y (.list []) ∧ Q (.bl (!ds.isEmpty)) H
section
variable {F : Fm} {C : Cs} {ρ : Rho} {k : Nat} {Ψ : Nat → Bool → Prop} {a : Expr} {pos pq : Pos}
end
end Dl

namespace Dl
open PySem PySem.Spec PyProof.Rows L2
section
variable {F : Fm} {C : Cs} {ρ : Rho} {k : Nat} {P : DE} {Φ : Nat → PyData → Prop} {pos p p2 px py ap cp spos : Pos} {x y : Str} {rest : List Stmt} {e : Expr} {es : List Expr} {o : Addr}
/-- x in y, texts -/
theorem wt_inTx (hK : F.K = C.K) {a b : Expr} {Ψ : Nat → Bool → Prop} (hm : behindInMarks .In b = false) (h : WPE F C a ρ k fun k1 x => WPE F C b ρ k1 fun k2 y => ∃ (v : Str) (bs : List Str), x = .str v ∧ seqD y = some (bs.map PyData.str) ∧ Ψ k2 (bs.any (· == v))) : WPT F C (.Compare a [.In] [b] pos) ρ k Ψ :=
  wt_cmp (fun X fx => opInK fx) hm (h.imp fun k1 x h1 => h1.imp fun k2 y ⟨v, bs, e1, e2, p⟩ => by subst e1; exact rd_inTx (neg := false) hK e2 ⟨_, rfl, p⟩)
end
end Dl

namespace Dl
open PySem PySem.Spec PyProof.Rows L2
/-! ### texts: split, index -/
theorem rp_strs {K : PySem.W.Frag} {S : Addr → Prop} {H : Hp} : ∀ ys : List Str, RepAll K S H (ys.map V.str) (ys.map PyData.str)
  | [] => .nil
  | y :: ys => .cons (.str y) (rp_strs ys)
theorem rep_vtxt {K : PySem.W.Frag} {S : Addr → Prop} {H : Hp} : ∀ {ns : List Str} {vs : List V}, RepAll K S H vs (ns.map PyData.str) → vs = ns.map V.str
  | [], _, r => by cases r; rfl
  | n :: ns, _, r => by
    cases r with
    | cons r1 r2 =>
      cases r1
      rw [rep_vtxt r2]; rfl
section
variable {F : Fm} {C : Cs} {ρ : Rho} {k : Nat} {Φ : Nat → PyData → Prop} {o e : Expr} {pos apos ap cp : Pos}
/-- x.split(y) -/
theorem we_split (hbase : ∀ env : Env, attributeBase o "split" env (eval o env) = eval o env) (hline : (apos.endLine == pos.line) = true) (hs : ∀ env : Env, starEach [e] env = [(false, eval e env)])
    (h : WPE F C o ρ k fun k1 d => ∃ a : Str, d = .str a ∧ WPE F C e ρ k1 fun k2 d2 => ∃ b : Str, d2 = .str b ∧ (b.length == 0) = false ∧ a.length ≤ 1000000 ∧ Φ k2 (.list ((Txt.split a b).map PyData.str))) : WPE F C (.Call (.Attribute o "split" apos) [e] [] pos) ρ k Φ :=
  of_pe (t := tM1 (fun x xs H Q => ∃ a b, x = .str a ∧ xs = [.str b] ∧ (b.length == 0) = false ∧ a.length + 2 ≤ sizeLine ∧ rNewStrs (Txt.split a b) H Q) (tE C o) (tE C e)) (fun X fx => pe_split (peE fx) (peE fx) (hs X.env) (hbase X.env) hline) fun σ H Q en j q => by
    show tE C o σ H _
    refine h σ H _ en j fun v d k1 H1 l1 j1 r1 ⟨a, ed, h2⟩ => ?_
    subst ed
    cases r1
    refine ⟨⟨a, rfl⟩, ?_⟩
    show tE C e σ H1 _
    refine h2 σ H1 _ (en.le l1) j1 fun v2 d2 k2 H2 l2 j2 r2 ⟨b, eb, hb, hz, p⟩ => ?_
    subst eb
    cases r2
    exact ⟨a, b, rfl, rfl, hb, Nat.le_trans (Nat.add_le_add_right hz 2) (by decide), fun p0 hp => q _ _ k2 _ ((l1.trans l2).trans (.new hp)) (j2.new hp) (rep_newL j2 hp (rp_strs _)) p⟩
/-- x.index(y), a list of texts and one of them -/
theorem we_indexT (hK : F.K = C.K) (hse : ∀ env : Env, starEach [e] env = (false, eval e env) :: starEach [] env)
    (h : WPE F C o ρ k fun k1 d => ∃ ts : List Str, d = .list (ts.map PyData.str) ∧ WPE F C e ρ k1 fun k2 d2 => ∃ (w : Str) (j : Nat), d2 = .str w ∧ ts[j]? = some w ∧ (∀ m < j, ts[m]? ≠ some w) ∧ Φ k2 (.int (j : Nat)))
    (hbm : ∀ X : Cx, ∀ {to : TE} {t : TA}, PE X o to → PA X [e] t → PE X (.Call (.Attribute o "index" ap) [e] [] cp) (tBM X.K "list" (rIndex X.K) to t)) :
    WPE F C (.Call (.Attribute o "index" ap) [e] [] cp) ρ k Φ :=
  of_pe (t := tBM C.K "list" (rIndex C.K) (tE C o) (tCons (tE C e) tNil)) (fun X fx => by rw [← fx.K]; exact hbm X (peE fx) (pa_cons (peE fx) pa_nil (hse X.env))) fun σ H Q en j q => by
    show tE C o σ H _
    refine h σ H _ en j fun v d k1 H1 l1 j1 r1 ⟨ts, ed, h2⟩ => ?_
    subst ed
    cases r1 with
    | @lst a vs _ ha hr =>
    obtain rfl := rep_vtxt hr
    have sq : ∀ H', Lz F H1 H' → SqL C.K H' a (ts.map V.str) := fun H' lz => hK ▸ sql_of (K := F.K) (S := F.S) ⟨lz _ _ (Fm.sxA ha.2) ha.1, ha.2⟩
    refine ⟨.inl ⟨rfl, _, sq H1 .refl⟩, ?_⟩
    show tE C e σ H1 _
    refine h2 σ H1 _ (en.le l1) j1 fun v2 d2 k2 H2 l2 j2 r2 ⟨w, i, ew, hi, hm, p⟩ => ?_
    subst ew
    cases r2
    refine ⟨a, ts.map V.str, .str w, i, .str w, rfl, rfl, sq H2 l2.lz, rfl, List.all_eq_true.mpr fun v hv => ?_, by rw [List.getElem?_map, hi]; rfl, ?_⟩
    · obtain ⟨t, _, rfl⟩ := List.mem_map.mp hv
      rfl
    refine ⟨by show (w == w) = true; exact beq_self_eq_true w, fun m z hmi hz => ?_, q _ _ k2 H2 (l1.trans l2) j2 (.int _) p⟩
    rw [List.getElem?_map, Option.map_eq_some_iff] at hz
    obtain ⟨t, ht, rfl⟩ := hz
    show (t == w) = false
    exact beq_eq_false_iff_ne.mpr fun z => hm m hmi (z ▸ ht)
end
/-- the first place of a text -/
def placeD (w : Str) (ts : List Str) : Option Nat := ts.findIdx? (· == w)
theorem place_some {w : Str} {ts : List Str} {j : Nat} (h : placeD w ts = some j) : ts[j]? = some w ∧ ∀ m < j, ts[m]? ≠ some w := by
  unfold placeD at h
  rw [List.findIdx?_eq_some_iff_getElem] at h
  obtain ⟨hj, h1, h2⟩ := h
  refine ⟨by rw [List.getElem?_eq_getElem hj]; exact congrArg some (by simpa using h1), fun m hm hz => ?_⟩
  obtain ⟨hl, e⟩ := List.getElem?_eq_some_iff.mp hz
  have := h2 m hm
  rw [e] at this
  exact this (beq_self_eq_true w)
theorem place_any (w : Str) (ts : List Str) : (ts.any (· == w)) = (placeD w ts).isSome := by
  unfold placeD
  rw [List.findIdx?_isSome]
end Dl

namespace Dl
open PySem PySem.Spec PyProof.Rows L2

/-! ### exceptions: what is known of one that flies: its class, its field -/
abbrev Xf := Option (Str × PyData)
def XOk (K : PySem.W.Frag) (S : Addr → Prop) (H : Hp) (d : Option Addr) : Xf → Prop
  | none => d = none
  | some (f, p) => ∃ (dx : Addr) (v : V), d = some dx ∧ ¬ S dx ∧ H dx = some (.xd [(f, v)]) ∧ Rep K S H v p
theorem nx_xd {fs : List (Str × V)} : ¬ IsX (.xd fs) := fun ⟨_, _, _, e⟩ => by unfold extL at e; cases e
theorem XOk.lz {F : Fm} {H H' : Hp} {d : Option Addr} {x : Xf} (h : XOk F.K F.S H d x) (l : Lz F H H') : XOk F.K F.S H' d x := by
  cases x with
  | none => exact h
  | some y =>
    obtain ⟨f, p⟩ := y
    obtain ⟨dx, v, e, ns, hd, r⟩ := h
    exact ⟨dx, v, e, ns, l dx _ (Fm.sxA ns nx_xd) hd, Rep.le (F := F) r l⟩
/-- the outcome of a def -/
inductive Out where
  | ok (d : PyData)
  | ex (c : Addr) (x : Xf)
/-- defs whose promise holds where no repr is under way, and that may raise -/
structure FnE (P : Program) (w : World) (K : PySem.W.Frag) (mg : Str → Option Value) (base : Heap) (k : Nat) (f : Addr) (fd : FuncData) (ps : List Str) (sp : Sp) : Prop where
  len : ∀ vs H Q E, sp vs H Q E → vs.length = ps.length
  run : ∀ (A : Around) (outer : List Env) (s : Shared) (H : Hp) (args : Args) (us : List Value) (vs : List V) (Q : VK) (E : XK), A.guards = some [] → Room k A → Env0 P w K mg base A outer s H → BindsTo s fd args (ps.zip us) → Vals vs us → sp vs H Q E →
    codeAny (model P w) A (.call (.ref f) args) (CR (L2.CX P w) outer P w H s Q E) s
section
variable {P : Program} {w : World} {K : PySem.W.Frag} {mg : Str → Option Value} {base : Heap}
theorem FnE.of_body {x qual : Str} {st : Stmt} {f : Addr} {fd : FuncData} {N ps : List Str} {k : Nat} {sp : Sp} (Fn : Fun K x qual st f fd) (Sc : FnScope N ps (defScope st)) (len : ∀ vs H Q E, sp vs H Q E → vs.length = ps.length)
    (body : ∀ (cdv : Value) (A : Around) (outer : List Env) (s : Shared) (H : Hp) (vs : List V) (Q : VK) (E : XK), A.guards = some [] → Room k (A.deeper (envOfC qual (defScope st) s.heap.objs.size f cdv)) → sp vs H Q E →
      ∃ t, PSs (cxOf (L2.CX P w) P w K mg base N qual (defScope st) f cdv A outer s H E) (defBody st) t ∧ t { nx := fun _ H' => Q .non H', rt := Q } (L2.start N vs) H) :
    FnE P w K mg base (k + 1) f fd ps sp := by
  obtain ⟨oc, od, kV, doc, pm, an, cdv, ct, osl, efd, look, hcode⟩ := Fn.ex
  subst efd
  constructor
  · exact len
  intro A outer s H args us vs Q E hgd room env hbind rel hsp
  have hlen := len vs H Q E hsp
  have inK : K.In s.heap := env.mod.kin.keeps fun b o z => (env.bs b o z).1
  have nolim : s.heap.NoLimit := env.mod.nolimit.keeps fun b o z => (env.bs b o z).1
  refine codeAny_call_function room.depth (inK f _ look) rfl Sc.co Sc.gen rfl (PySem.W.codeRec_of inK hcode) (hbind _ _ _ _ ?_)
  have kinds : ∀ y ∈ ps.zip us, (defScope st).names.lookup y.1 = some .local ∨ ((defScope st).names.lookup y.1 = some .cell ∧ ((cellsFrom (s.heap.objs.size + 1) (defScope st).names []).lookup y.1).isSome = true) := by
    rintro ⟨n, v⟩ hy
    have hn : n ∈ ps := (List.of_mem_zip hy).1
    cases Sc.par n hn with
    | inl q => left; exact q
    | inr q => right; exact ⟨q, PySem.W.cellsFrom_some _ _ _ (Or.inl q)⟩
  apply wpAny_newFunctionEnv_cells Sc.kind kinds
  intro env' he s1 ic
  subst he
  refine ⟨nolim.keeps ic.toInCall.keep, codeAny_func ?_⟩
  obtain ⟨t, ht, hq⟩ := body cdv A outer s H vs Q E hgd (room.deeper _) hsp
  have inv : Inv (cxOf (L2.CX P w) P w K mg base N qual (defScope st) f cdv A outer s H E) [] (L2.start N vs) H s1 := inv_start Sc room.hd env hlen rel ic
  refine wpAny_mono (ht.run [] s1 _ H _ inv hq) ?_ (fun e s' z => z)
  intro fl s' hfl
  cases fl with
  | ret u => exact let ⟨v, _, H', j, rv, q⟩ := hfl; ⟨v, H', j.os, j.bare, j.base, j.hok, rv, q⟩
  | next => exact let ⟨_, H', j, q⟩ := hfl; ⟨V.non, H', j.os, j.bare, j.base, j.hok, rfl, q⟩
  | brk => exact let ⟨_, _, _, q⟩ := hfl; False.elim q
  | cont => exact let ⟨_, _, _, q⟩ := hfl; False.elim q
theorem FnE.mono {j k : Nat} {f : Addr} {fd : FuncData} {ps : List Str} {sp : Sp} (G : FnE P w K mg base j f fd ps sp) (h : j ≤ k) : FnE P w K mg base k f fd ps sp :=
  ⟨G.len, fun A outer s H args us vs Q E g room => G.run A outer s H args us vs Q E g (room.mono h)⟩
end
section
variable {X : Cx} {x : Str} {p pos : Pos} {e : Expr} {es : List Expr} {t : TA} {k : Nat} {f : Addr} {fd : FuncData} {ps : List Str} {sp : Sp} {W : L2.WX}
theorem FnE.call_run {pins : List (Addr × Obj)} {σ : L2.St} {H : Hp} {s : Shared} {Q : VK} {us : List Value} {vs : List V} (G : FnE X.prog X.w X.K X.mg X.base k f fd ps sp) (gd : X.A.guards = some []) (room : Room k X.A) (hb : L2.Binds X.K fd ps []) (tk : L2.Takes X W)
    (I : Inv X pins σ H s) (r : Vals vs us) (h : sp vs H Q (fun cls d H' => W cls d σ H')) : wpAny (model X.prog X.w) X.A (call (.ref f) us) (EP X pins σ Q) X.xe s := by
  have hl : us.length = ps.length := r.length.symm.trans (G.len vs H Q _ h)
  have bind := hb s us I.kIn (by rw [List.append_nil]; exact hl)
  rw [List.append_nil] at bind
  refine wpAny_call (codeAny_mono (G.run X.A X.stack s H ⟨us, []⟩ us vs Q _ gd room I.env0 bind r h) ?_)
  intro res s' hr
  match res, hr with
  | .ok (.ret u), hr => exact I.after hr
  | .ok .next, hr => exact False.elim hr
  | .ok .brk, hr => exact False.elim hr
  | .ok .cont, hr => exact False.elim hr
  | .error e, hr => exact L2.passAt tk σ pins H s e s' I hr
theorem FnE.pe (G : FnE X.prog X.w X.K X.mg X.base k f fd ps sp) (gd : X.A.guards = some []) (room : Room k X.A) (hb : L2.Binds X.K fd ps []) (tk : L2.Takes X W) (hg : Gl X x) (hm : X.mg x = some (.ref f)) (kp : PySem.W.keepIn X.K (.ref f) = true)
    (ha : PA X (e :: es) t) (hdb : (x == ("__debug__" : Str)) = false) (hss : starEach (e :: es) X.env = (false, eval e X.env) :: starEach es X.env) (hpl : ((backTo pos (starEach es X.env)).any fun z => z.fst) = false) :
    PE X (.Call (.Name x p) (e :: es) [] pos) (fun σ H Q => t σ H fun vs H1 => sp vs H1 Q (fun cls d H' => W cls d σ H')) := by
  constructor
  intro pins s σ H Q I h
  refine wpAny_Call_Name_kw (ld_glob I hg hm ?_ hdb)
  refine PySem.W.callWith_K (h₀ := X.base) I.ok.mod.kin kp (wpAny_mono (ha.run pos pins s σ H _ I h) ?_ fun _ _ z => z) hss hpl
  rintro us s1 ⟨vs, H1, I1, rv, q⟩
  exact ⟨I1.kIn, G.call_run gd room hb tk I1 rv q⟩
end

/-! ### contexts that exceptions may leave -/
structure FitsX (C : Cs) (W : L2.WX) (X : Cx) : Prop where
  fit : Fits C X.nox
  tk : L2.Takes X W
  po : PassesOwn (model X.prog X.w) X.A X.env X.xe
  st : X.stack = X.env :: X.outer
  fr : X.env.frame = some X.env.locals
def tEX (C : Cs) (W : L2.WX) (e : Expr) : TE := fun σ H Q => ∀ X, FitsX C W X → ∀ pins s, Inv X pins σ H s → wpAny (model X.prog X.w) X.A (eval e X.env) (EP X pins σ Q) X.xe s
def tSX (C : Cs) (W : L2.WX) (st : Stmt) : TS := fun D σ H => ∀ X, FitsX C W X → ∀ pins s, Inv X pins σ H s → wpAny (model X.prog X.w) X.A (exec st X.env) (SP X pins D) X.xe s
def tBX (C : Cs) (W : L2.WX) (st : List Stmt) : TS := fun D σ H => ∀ X, FitsX C W X → ∀ pins s, Inv X pins σ H s → wpAny (model X.prog X.w) X.A (execs st X.env) (SP X pins D) X.xe s
section
variable {C : Cs} {X : Cx} {W : L2.WX}
end
/-- what the context wishes of exceptions -/
def WxS (F : Fm) (H : Hp) (W : L2.WX) (Ξ : Nat → Rho → Addr → Xf → Prop) : Prop := ∀ ρ' σ' k' H' c d x, Lz F H H' → EnvOk F H' σ' ρ' → J F k' H' → XOk F.K F.S H' d x → Ξ k' ρ' c x → W (.ref c) d σ' H'
def WSX (F : Fm) (t : L2.WX → TS) (ρ : Rho) (k : Nat) (P : DE) (Ξ : Nat → Rho → Addr → Xf → Prop) : Prop :=
  ∀ (σ : L2.St) (H : Hp) (E : Ends) (W : L2.WX), EnvOk F H σ ρ → J F k H →
    (∀ ρ' σ' k' H', Lz F H H' → EnvOk F H' σ' ρ' → J F k' H' → P.nx k' ρ' → E.nx σ' H') →
    (∀ v d k' H', J F k' H' → Rp F H' v d → P.rt k' d → E.rt v H') →
    (∀ ρ' σ' k' H', Lz F H H' → EnvOk F H' σ' ρ' → J F k' H' → P.bk k' ρ' → E.bk σ' H') →
    (∀ ρ' σ' k' H', Lz F H H' → EnvOk F H' σ' ρ' → J F k' H' → P.ct k' ρ' → E.ct σ' H') → WxS F H W Ξ → t W E σ H
def WEX (F : Fm) (t : L2.WX → TE) (ρ : Rho) (k : Nat) (Φ : Nat → PyData → Prop) (Ξ : Nat → Rho → Addr → Xf → Prop) : Prop :=
  ∀ (σ : L2.St) (H : Hp) (Q : VK) (W : L2.WX), EnvOk F H σ ρ → J F k H → (∀ v d k' H', Le F H H' → J F k' H' → Rp F H' v d → Φ k' d → Q v H') → WxS F H W Ξ → t W σ H Q
abbrev WPEX (F : Fm) (C : Cs) (e : Expr) (ρ : Rho) (k : Nat) (Φ : Nat → PyData → Prop) (Ξ : Nat → Rho → Addr → Xf → Prop) : Prop := WEX F (fun W => tEX C W e) ρ k Φ Ξ
abbrev WPSX (F : Fm) (C : Cs) (st : Stmt) (ρ : Rho) (k : Nat) (P : DE) (Ξ : Nat → Rho → Addr → Xf → Prop) : Prop := WSX F (fun W => tSX C W st) ρ k P Ξ
abbrev WPBX (F : Fm) (C : Cs) (st : List Stmt) (ρ : Rho) (k : Nat) (P : DE) (Ξ : Nat → Rho → Addr → Xf → Prop) : Prop := WSX F (fun W => tBX C W st) ρ k P Ξ
section
variable {F : Fm} {C : Cs} {ρ : Rho} {k : Nat} {Φ : Nat → PyData → Prop} {Ψ : Nat → Bool → Prop} {Ξ : Nat → Rho → Addr → Xf → Prop} {e a b c : Expr} {es : List Expr} {pos p : Pos} {P : DE} {x : Str}
theorem WxS.lz {H H1 : Hp} {W : L2.WX} (h : WxS F H W Ξ) (l : Lz F H H1) : WxS F H1 W Ξ := fun ρ' σ' k' H' c d x l2 => h ρ' σ' k' H' c d x (l.trans l2)
end

/-! ### defs that only read and may raise -/
abbrev RelE := List PyData → Out → Prop
def spPureE (K : PySem.W.Frag) (R : RelE) : Sp := fun vs H Q E => ∃ (S : Addr → Prop) (ds : List PyData) (o : Out), (∀ b, S b → Lv H b) ∧ RepAll K S H vs ds ∧ R ds o ∧
  match o with
  | .ok d => ∀ v H', Same H H' → Rep K S H' v d → Q v H'
  | .ex c x => ∀ d H', Same H H' → XOk K S H' d x → E (.ref c) d H'
structure PFE (P : Program) (w : World) (K : PySem.W.Frag) (mg : Str → Option Value) (base : Heap) (lvl : Nat) (x : Str) (R : RelE) : Prop where
  ex : ∃ (fa : Addr) (fd : FuncData) (ps : List Str), FnE P w K mg base lvl fa fd ps (spPureE K R) ∧ mg x = some (.ref fa) ∧ PySem.W.keepIn K (.ref fa) = true ∧ L2.Binds K fd ps []
section
variable {P : Program} {w : World} {K : PySem.W.Frag} {mg : Str → Option Value} {base : Heap}
end
section
variable {F : Fm} {C : Cs} {ρ : Rho} {k : Nat} {Φ : Nat → PyData → Prop} {Ξ : Nat → Rho → Addr → Xf → Prop} {e a b : Expr} {es : List Expr} {pos p : Pos} {P : DE} {x : Str}
end

/-! ### exception classes with one field -/
def spXI (K : PySem.W.Frag) (C : Addr) (f : Str) : Sp := fun vs H Q _ => ∃ (a : Addr) (v : V), vs = [.ref a, v] ∧ H a = some (exo a C none) ∧ ∀ dx, H dx = none → dx ≠ a → Q .non (upd (upd H dx (exd dx [(f, v)])) a (exo a C (some dx)))
structure XCl (P : Program) (w : World) (K : PySem.W.Frag) (mg : Str → Option Value) (base : Heap) (x : Str) (C : Addr) (f : Str) : Prop where
  T : OexC K C
  mx : mg x = some (.ref C)
  ex : ∃ (fI : Addr) (fd : FuncData) (ps : List Str), PySem.W.findIn K (.ref C) "__init__" = some (some (.ref fI)) ∧ PySem.W.typeIn K (.ref fI) = some (.type "function") ∧ FnOk P w K mg base CX0 1 fI fd ps (spXI K C f) ∧ L2.Binds K fd ps []
section
variable {F : Fm} {C : Cs} {ρ : Rho} {k : Nat} {Φ : Nat → PyData → Prop} {Ξ : Nat → Rho → Addr → Xf → Prop} {e a b : Expr} {es : List Expr} {pos p pos' : Pos} {P : DE} {x f : Str} {Cl : Addr}
end
end Dl

set_option maxHeartbeats 2000000
namespace Dl
open PySem PySem.Spec PyProof.Rows L2
/-! ### the frame of an except suite: all data of the moment stand -/
open Classical in
noncomputable def Fm.susH (F : Fm) (H : Hp) : Hp := fun b => match H b with
  | some o => if F.S b ∨ F.X o then F.H0 b else some o
  | none => F.H0 b
section
variable {F : Fm} {H H1 : Hp} {k : Nat} {b : Addr} {o : HO} {σ : L2.St} {ρ : Rho}
theorem susH_case (h : F.susH H b = some o) : F.H0 b = some o ∨ (H b = some o ∧ ¬ F.S b ∧ ¬ F.X o) := by
  unfold Fm.susH at h
  split at h
  · rename_i u hu
    split at h
    · exact .inl h
    · rename_i hn
      cases h
      exact .inr ⟨hu, fun z => hn (.inl z), fun z => hn (.inr z)⟩
  · exact .inl h
theorem susH_own (h : F.S b) (hn : F.H0 b = none) : F.susH H b = none := by
  unfold Fm.susH
  split
  · rw [if_pos (.inl h)]; exact hn
  · exact hn
noncomputable def Fm.sus (F : Fm) (H : Hp) : Fm where
  K := F.K
  S := F.S
  M := F.M
  H0 := F.susH H
  G := F.G
  ms := F.ms
  gm := F.gm
  gl := F.gl
  X := F.X
  xi := F.xi
  xa := fun k H2 g b o hm hx e => by
    rcases susH_case e with h | ⟨_, _, h⟩
    · exact F.xa k H2 g b o hm hx h
    · exact absurd hx h
theorem J.sus (j : J F k H) : J (F.sus H) k H := ⟨j.g, fun b o n e => by
  rcases susH_case e with h | ⟨h, _, _⟩
  · exact j.le b o n h
  · exact h, j.al⟩
theorem EnvOk.sus (en : EnvOk F H1 σ ρ) : EnvOk (F.sus H) H1 σ ρ := fun i sv e => by
  obtain ⟨x, q, r⟩ := en i sv e
  refine ⟨x, q, ?_⟩
  cases sv with
  | un => trivial
  | d d => exact r
  | raw v => exact r
  | own o xs =>
    obtain ⟨e, s, m, z, vs, h1, r⟩ := r
    exact ⟨e, s, m, susH_own s z, vs, h1, r⟩
end
/-- the frame knows the exception -/
def HasX (F : Fm) (d : Option Addr) (x : Xf) : Prop := ∀ k H, J F k H → XOk F.K F.S H d x
/-! ### except suites -/
structure FitsH (C : Cs) (a : Addr) (cls : Value) (d : Option Addr) (X : Cx) : Prop where
  P : X.prog = C.P
  w : X.w = C.w
  K : X.K = C.K
  mg : X.mg = C.mg
  base : X.base = C.base
  N : X.N = C.N
  sc : X.env.scope = C.sc
  fn : X.fn = C.fn
  room : L2H.RoomH C.lvl X.A
  gd : X.A.guards = some []
  xe : X.xe = fun _ _ => False
  exc : ∃ (X0 : Cx) (oe : Obj) (pn : List (Addr × Obj)), X = X0.suite a ((a, oe) :: pn) ∧ Zc cls d oe ∧ ∃ vs, oe.data = .fields vs
/-- a suite: where it stands, the exception, its class, its dict -/
structure Hc where
  C : Cs
  a : Addr
  cls : Addr
  d : Option Addr
abbrev FH (h : Hc) (X : Cx) : Prop := FitsH h.C h.a (.ref h.cls) h.d X
def tEH (h : Hc) (e : Expr) : TE := fun σ H Q => ∀ X, FH h X → ∀ pins s, Inv X pins σ H s → wpAny (model X.prog X.w) X.A (eval e X.env) (EP X pins σ Q) X.xe s
def tTH (h : Hc) (e : Expr) : TT := fun σ H Q => ∀ X, FH h X → ∀ pins s, Inv X pins σ H s → wpAny (model X.prog X.w) X.A (isTrue e X.env (eval e X.env)) (TP X pins σ Q) X.xe s
def tWH (h : Hc) (e : Expr) : TT := fun σ H Q => ∀ X, FH h X → ∀ (whole : Sem Value) pins s, Inv X pins σ H s → wpAny (model X.prog X.w) X.A (isTrue e X.env whole) (TP X pins σ Q) X.xe s
def tAH (h : Hc) (es : List Expr) : TA := fun σ H Q => ∀ X, FH h X → ∀ (pos : Pos) pins s, Inv X pins σ H s → wpAny (model X.prog X.w) X.A (spliced (backTo pos (starEach es X.env))) (AP X pins σ Q) X.xe s
def tSH (h : Hc) (st : Stmt) : TS := fun D σ H => ∀ X, FH h X → ∀ pins s, Inv X pins σ H s → wpAny (model X.prog X.w) X.A (exec st X.env) (SP X pins D) X.xe s
def tBH (h : Hc) (st : List Stmt) : TS := fun D σ H => ∀ X, FH h X → ∀ pins s, Inv X pins σ H s → wpAny (model X.prog X.w) X.A (execs st X.env) (SP X pins D) X.xe s
abbrev HPE (F : Fm) (h : Hc) (e : Expr) (ρ : Rho) (k : Nat) (Φ : Nat → PyData → Prop) : Prop := WE F (tEH h e) ρ k Φ
abbrev HPT (F : Fm) (h : Hc) (e : Expr) (ρ : Rho) (k : Nat) (Φ : Nat → Bool → Prop) : Prop := WT F (tTH h e) ρ k Φ
abbrev HPW (F : Fm) (h : Hc) (e : Expr) (ρ : Rho) (k : Nat) (Φ : Nat → Bool → Prop) : Prop := WT F (tWH h e) ρ k Φ
abbrev HPA (F : Fm) (h : Hc) (es : List Expr) (ρ : Rho) (k : Nat) (Φ : Nat → List PyData → Prop) : Prop := WA F (tAH h es) ρ k Φ
abbrev HPS (F : Fm) (h : Hc) (st : Stmt) (ρ : Rho) (k : Nat) (P : DE) : Prop := WS F (tSH h st) ρ k P
abbrev HPB (F : Fm) (h : Hc) (st : List Stmt) (ρ : Rho) (k : Nat) (P : DE) : Prop := WS F (tBH h st) ρ k P
section
variable {X : Cx} {h : Hc}
end
section
variable {F : Fm} {h : Hc} {ρ : Rho} {k : Nat} {Φ Φ' : Nat → PyData → Prop} {Ψ Ψ' : Nat → Bool → Prop} {e a b c : Expr} {es : List Expr} {pos p p2 : Pos} {P : DE} {x y : Str}
/-- isinstance(e, T) of the exception in hand; e its slot -/
def rIsX (K : PySem.W.Frag) (D a : Addr) : List V → Hp → VK → Prop := fun xs H Q => ∃ (c : V) (b : Bool), xs = [.ref a, c] ∧
  ((∃ cv, ClsV c cv ∧ PySem.W.kitOne K (.ref D) cv = some b) ∨ (∃ tp cs ws, c = .ref tp ∧ H tp = some (.tup cs) ∧ Paired ClsV cs ws ∧ PySem.W.kitAny K (.ref D) ws = some b)) ∧ Q (.bl b) H
def XdOk (d : Option Addr) (H : Hp) : Prop := ∀ dx, d = some dx → ∃ fs : List (Str × V), H dx = some (.xd fs)
end
end Dl

namespace Dl
open PySem PySem.Spec PyProof.Rows L2
/-! ### try: body, except X as n: suite -/
section
variable {F : Fm} {C : Cs} {ρ : Rho} {k : Nat} {Φ : Nat → PyData → Prop} {Ξ Ξ2 : Nat → Rho → Addr → Xf → Prop} {e : Expr} {pos p np pos' : Pos} {P : DE} {x n : Str} {body suite : List Stmt} {b₀ : Stmt} {cv : Value}
abbrev DE.out (P : DE) (i : Nat) : DE := ⟨fun k r => P.nx k (r.set i .un), P.rt, fun k r => P.bk k (r.set i .un), fun k r => P.ct k (r.set i .un)⟩
end

section
variable {F : Fm} {C : Cs} {ρ : Rho} {k : Nat} {Ξ : Nat → Rho → Addr → Xf → Prop} {P : DE}
theorem WSX.nx {t : L2.WX → TS} {P' : Nat → Rho → Prop} (h : WSX F t ρ k P Ξ) (h1 : ∀ k ρ, P.nx k ρ → P' k ρ) : WSX F t ρ k (P.seq P') Ξ :=
  fun σ H E W en j q1 q2 q3 q4 hx => h σ H E W en j (fun ρ' σ' k' H' l e j' p => q1 ρ' σ' k' H' l e j' (h1 _ _ p)) q2 q3 q4 hx
end

/-! ### a def that raises nothing, called as ever -/
section
variable {P : Program} {w : World} {K : PySem.W.Frag} {mg : Str → Option Value} {base : Heap}
end

/-! ### isinstance(e, ..) in a suite -/
/-- x is the name of a class -/
inductive CN (C : Cs) : Expr → V → Value → Prop
  | own {x : Str} {p : Pos} {D : Addr} (hg : C.sc.names.lookup x = some .globalImplicit) (hm : C.mg x = some (.ref D)) (hd : (x == ("__debug__" : Str)) = false) : CN C (.Name x p) (.ref D) (.ref D)
  | blt {x : Str} {p : Pos} {T : String} (hg : C.sc.names.lookup x = some .globalImplicit) (hm : C.mg x = none) (hv : bootBuiltins x = some (.type T)) (hn : x ≠ "__name__") (hd : (x == ("__debug__" : Str)) = false) : CN C (.Name x p) (.ty T) (.type T)
inductive CNs (C : Cs) : List Expr → List V → List Value → Prop
  | nil : CNs C [] [] []
  | cons {e : Expr} {es : List Expr} {c : V} {cs : List V} {v : Value} {vs : List Value} : CN C e c v → CNs C es cs vs → CNs C (e :: es) (c :: cs) (v :: vs)
theorem CN.cls {C : Cs} {e : Expr} {c : V} {v : Value} (h : CN C e c v) : ClsV c v := by
  cases h with
  | own => exact .own _
  | blt => exact .ty _
theorem CNs.cls {C : Cs} {es : List Expr} {cs : List V} {vs : List Value} (h : CNs C es cs vs) : Paired ClsV cs vs := by
  induction h with
  | nil => exact .nil
  | cons h _ ih => exact .cons h.cls ih
section
variable {X : Cx} {h : Hc}
theorem CN.pe {e : Expr} {c : V} {v : Value} (k : CN h.C e c v) (fx : FH h X) : PE X e (tC c) := by
  cases k with
  | own hg hm hd => exact pe_glob (v := .ref _) (u := .ref _) (by show X.env.scope.names.lookup _ = _; rw [fx.sc]; exact hg) (by rw [fx.mg]; exact hm) rfl hd
  | blt hg hm hv hn hd => exact pe_bltn (v := .ty _) (u := .type _) (by show X.env.scope.names.lookup _ = _; rw [fx.sc]; exact hg) (by rw [fx.mg]; exact hm) hv rfl hn hd
def tCs (cs : List V) : TA := fun σ H Q => Q cs H
end
section
variable {F : Fm} {h : Hc} {ρ : Rho} {k : Nat} {Φ : Nat → PyData → Prop} {Ψ : Nat → Bool → Prop} {e e2 : Expr} {es : List Expr} {pos p py pt : Pos} {y : Str} {kk : Nat} {b : Bool}
end
end Dl

namespace Dl
open PySem PySem.Spec PyProof.Rows L2
/-! ### the classes of errors, their __init__ -/
section
variable {P : Program} {w : World} {K : PySem.W.Frag} {mg : Str → Option Value} {base : Heap} {C : Addr}
end
end Dl

namespace Dl
open PySem PySem.Spec PyProof.Rows L2
/-! ### methods and defs of decks that may raise -/
theorem HasPi.sus {F : Fm} {Cl a dx : Addr} {mk : Pg → Nat} {H : Hp} (h : HasPi F Cl a dx mk) : HasPi (F.sus H) Cl a dx mk := ⟨h.X, h.ma, h.md, h.get, h.put⟩
section
variable {X : Cx} {x m : Str} {p pos apos : Pos} {o e : Expr} {es : List Expr} {t : TA} {ta : TE} {k : Nat} {f C : Addr} {fd : FuncData} {ps : List Str} {sp : Sp} {dvs : List V} {ds : List Value} {W : L2.WX}
theorem FnE.call_runD {pins : List (Addr × Obj)} {σ : L2.St} {H : Hp} {s : Shared} {Q : VK} {us : List Value} {vs : List V} (G : FnE X.prog X.w X.K X.mg X.base k f fd ps sp) (gd : X.A.guards = some []) (room : Room k X.A) (hb : L2.Binds X.K fd ps ds) (hd : Vals dvs ds) (tk : L2.Takes X W)
    (I : Inv X pins σ H s) (r : Vals vs us) (h : sp (vs ++ dvs) H Q (fun cls d H' => W cls d σ H')) : wpAny (model X.prog X.w) X.A (call (.ref f) us) (EP X pins σ Q) X.xe s := by
  have r2 : Vals (vs ++ dvs) (us ++ ds) := r.append hd
  have hl : (us ++ ds).length = ps.length := by rw [← r2.length]; exact G.len _ _ _ _ h
  have bind := hb s us I.kIn hl
  refine wpAny_call (codeAny_mono (G.run X.A X.stack s H ⟨us, []⟩ (us ++ ds) (vs ++ dvs) Q _ gd room I.env0 bind r2 h) ?_)
  intro res s' hr
  match res, hr with
  | .ok (.ret u), hr => exact I.after hr
  | .ok .next, hr => exact False.elim hr
  | .ok .brk, hr => exact False.elim hr
  | .ok .cont, hr => exact False.elim hr
  | .error e, hr => exact L2.passAt tk σ pins H s e s' I hr
def tMethE (C : Addr) (m : Str) (sp : Sp) (dvs : List V) (W : L2.WX) (ta : TE) (t : TA) : TE := fun σ H Q => ta σ H fun x H1 => ∃ a dx fs, x = .ref a ∧ H1 a = some (.ins C dx fs) ∧ fs.lookup m = none ∧ t σ H1 fun vs H2 => sp (.ref a :: (vs ++ dvs)) H2 Q (fun cls d H' => W cls d σ H')
end
abbrev RelPE := Pg → List PyData → Pg → Out → Prop
/-- as spPi, with what is left where an exception leaves -/
def spPiE (K : PySem.W.Frag) (C : Addr) (Pre : Pg → List PyData → Prop) (R : RelPE) : Sp := fun vs H Q E => ∃ (S : Addr → Prop) (a dx s t : Addr) (vs' : List V) (ds : List PyData) (g : Pg), vs = .ref a :: vs' ∧ PiG K C a dx s t g H ∧ (∀ b, S b → Lv H b) ∧ S a ∧ S dx ∧ RepAll K S H vs' ds ∧ Pre g ds ∧
  ∀ g' s' t' H', (∀ b o, b ≠ a → b ≠ dx → b ≠ s → b ≠ t → H b = some o → H' b = some o) → (∀ y o, IsX o → H y = some o → ∃ o', IsX o' ∧ H' y = some o') → PiG K C a dx s' t' g' H' → (s' = s ∨ H s' = none) → (t' = t ∨ H t' = none) →
    (∀ v d, Rep K S H' v d → R g ds g' (.ok d) → Q v H') ∧ ∀ dd c y, XOk K S H' dd y → R g ds g' (.ex c y) → E (.ref c) dd H'
section
variable {P : Program} {w : World} {K : PySem.W.Frag} {mg : Str → Option Value} {base : Heap} {C : Addr}
end
structure PiME (P : Program) (w : World) (K : PySem.W.Frag) (mg : Str → Option Value) (base : Heap) (C : Addr) (lvl : Nat) (m : Str) (dvs : List V) (Pre : Pg → List PyData → Prop) (R : RelPE) : Prop where
  cl : Cls K C
  ex : ∃ (fa : Addr) (fd : FuncData) (ps : List Str) (ds : List Value), FnE P w K mg base lvl fa fd ps (spPiE K C Pre R) ∧ Meth K C m fa ∧ L2.Binds K fd ps ds ∧ Vals dvs ds
structure PiFE (P : Program) (w : World) (K : PySem.W.Frag) (mg : Str → Option Value) (base : Heap) (C : Addr) (lvl : Nat) (x : Str) (Pre : Pg → List PyData → Prop) (R : RelPE) : Prop where
  ex : ∃ (fa : Addr) (fd : FuncData) (ps : List Str), FnE P w K mg base lvl fa fd ps (spPiE K C Pre R) ∧ mg x = some (.ref fa) ∧ PySem.W.keepIn K (.ref fa) = true ∧ L2.Binds K fd ps []
section
variable {F : Fm} {C : Cs} {Cl a dx : Addr} {mk : Pg → Nat} {g : Pg} {ρ : Rho} {Φ : Nat → PyData → Prop} {Ξ : Nat → Rho → Addr → Xf → Prop} {e : Expr} {es : List Expr} {pos p py apos pos' : Pos} {x y m : Str} {Pre : Pg → List PyData → Prop} {R : RelPE} {j k : Nat} {P : DE}
end
section
variable {P : Program} {w : World} {K : PySem.W.Frag} {mg : Str → Option Value} {base : Heap} {C : Addr}
end
/-! ### classes of errors without fields -/
section
variable {X : Cx} {C : Addr} {bmB : List Value} {B newId initId : String} {x : Str} {p pos : Pos}
end
structure XCl0 (K : PySem.W.Frag) (mg : Str → Option Value) (x : Str) (C : Addr) : Prop where
  q : PySem.W.excIn K C [.type "ValueError", .type "Exception", .type "BaseException", .type "object"] "ValueError.__new__" = true
  mx : mg x = some (.ref C)
  kC : PySem.W.keepIn K (.ref C) = true
  exC : PySem.W.subIn K (.ref C) (.type "BaseException") = some true
  tyC : PySem.W.typeIn K (.ref C) = some (.type "type")
section
variable {F : Fm} {C : Cs} {ρ : Rho} {k : Nat} {Ξ : Nat → Rho → Addr → Xf → Prop} {pos p pos' : Pos} {P : DE} {x : Str} {Cl : Addr}
end
end Dl

set_option maxHeartbeats 2000000
namespace Dl
open PySem PySem.Spec PyProof.Rows L2
/-! ### errors of any built-in base, with one field (LookupError too) -/
/-- a built-in base: what the library has of it -/
structure XBase (B newId initId : String) (mro : List Value) : Prop where
  fb : ExcBaseFacts B newId initId mro
  sf : StoreFacts B mro "object.__setattr__" "object"
/-- a class over such a base, as the text has it -/
structure OexG (K : PySem.W.Frag) (C : Addr) (mro : List Value) (newId : String) : Prop where
  q : PySem.W.excInitIn K C mro newId = true
  ov : PySem.W.excOver K C mro = true
  dc : PySem.W.hasDictIn K C = true
  sa : PySem.W.findIn K (.ref C) "__setattr__" = some (some (.builtin "object.__setattr__"))
  exC : PySem.W.subIn K (.ref C) (.type "BaseException") = some true
  tyC : PySem.W.typeIn K (.ref C) = some (.type "type")
  kC : PySem.W.keepIn K (.ref C) = true
section
variable {X : Cx} {pins : List (Addr × Obj)} {σ : L2.St} {H : Hp} {s : Shared} {a C : Addr} {f : Str} {y : V} {u : Value} {Q : Unit → Shared → Prop} {E : Value → Shared → Prop} {A : Around} {B newId initId : String} {mro : List Value}
open Builtin Builtin.ObjectAttr PySem.HandSPX in
end
/-- self.f = e, the first field -/
def tPutG (K : PySem.W.Frag) (mro : List Value) (newId : String) (f : Str) (to te : TE) : TS := fun D σ H => te σ H fun y H1 => to σ H1 fun x H2 => ∃ a C : Addr, x = .ref a ∧ OexG K C mro newId ∧ PySem.W.findIn K (.ref C) f = some none ∧
  H2 a = some (exo a C none) ∧ ∀ dx, H2 dx = none → dx ≠ a → D.nx σ (upd (upd H2 dx (exd dx [(f, y)])) a (exo a C (some dx)))
section
variable {X : Cx} {o e : Expr} {es : List Expr} {to te : TE} {ta : TA} {f : Str} {p p' pos : Pos} {B newId initId : String} {mro : List Value}
end
structure XClG (P : Program) (w : World) (K : PySem.W.Frag) (mg : Str → Option Value) (base : Heap) (x : Str) (C : Addr) (f : Str) : Prop where
  mx : mg x = some (.ref C)
  ex : ∃ (B newId initId : String) (mro : List Value) (fI : Addr) (fd : FuncData) (ps : List Str), XBase B newId initId mro ∧ OexG K C mro newId ∧ PySem.W.findIn K (.ref C) "__init__" = some (some (.ref fI)) ∧ PySem.W.typeIn K (.ref fI) = some (.type "function") ∧ FnOk P w K mg base CX0 1 fI fd ps (spXI K C f) ∧ L2.Binds K fd ps []
section
variable {P : Program} {w : World} {K : PySem.W.Frag} {mg : Str → Option Value} {base : Heap} {C : Addr} {B newId initId : String} {mro : List Value}
end
section
variable {F : Fm} {C : Cs} {ρ : Rho} {k : Nat} {Ξ : Nat → Rho → Addr → Xf → Prop} {e : Expr} {pos p pos' : Pos} {P : DE} {x f : Str} {Cl : Addr}
end
end Dl

set_option maxHeartbeats 2000000
namespace Dl
open PySem PySem.Spec PyProof.Rows L2
section
end
section
variable {F : Fm} {h : Hc} {ρ : Rho} {k : Nat} {Φ : Nat → PyData → Prop} {e : Expr} {pos p : Pos}
end
section
variable {X : Cx} {x m q : Str} {p pos apos kpos : Pos} {o e : Expr} {ta te : TE} {k : Nat} {f C : Addr} {fd : FuncData} {ps : List Str} {sp : Sp} {W : L2.WX}
theorem FnE.call_runN {pins : List (Addr × Obj)} {σ : L2.St} {H : Hp} {s : Shared} {Q : VK} {us ws : List Value} {vs zs : List V} {n : Nat} {ks : List Str} (G : FnE X.prog X.w X.K X.mg X.base k f fd ps sp) (gd : X.A.guards = some []) (room : Room k X.A) (hb : KBn X.K fd ps n ks (fun a b => a ++ b) (fun a b => a ++ b)) (tk : L2.Takes X W)
    (I : Inv X pins σ H s) (r : Vals vs us) (rz : Vals zs ws) (l1 : vs.length = n) (l2 : zs.length = ks.length) (h : sp (vs ++ zs) H Q (fun cls d H' => W cls d σ H')) : wpAny (model X.prog X.w) X.A (call (.ref f) us (ks.zip ws)) (EP X pins σ Q) X.xe s := by
  have r2 : Vals (vs ++ zs) (us ++ ws) := r.append rz
  have bind := hb.to s us ws I.kIn (r.length.symm.trans l1) (rz.length.symm.trans l2)
  refine wpAny_call (codeAny_mono (G.run X.A X.stack s H ⟨us, ks.zip ws⟩ (us ++ ws) (vs ++ zs) Q _ gd room I.env0 bind r2 h) ?_)
  intro res s' hr
  match res, hr with
  | .ok (.ret u), hr => exact I.after hr
  | .ok .next, hr => exact False.elim hr
  | .ok .brk, hr => exact False.elim hr
  | .ok .cont, hr => exact False.elim hr
  | .error e, hr => exact L2.passAt tk σ pins H s e s' I hr
def tMethEK (C : Addr) (m : Str) (sp : Sp) (W : L2.WX) (ta te : TE) : TE := fun σ H Q => ta σ H fun x H1 => ∃ a dx fs, x = .ref a ∧ H1 a = some (.ins C dx fs) ∧ fs.lookup m = none ∧
  te σ H1 fun z H2 => [z].length = 1 ∧ sp [x, z] H2 Q (fun cls d H' => W cls d σ H')
end
/-- a method of decks whose one keyword-only parameter is given, may raise -/
structure PiKE (P : Program) (w : World) (K : PySem.W.Frag) (mg : Str → Option Value) (base : Heap) (C : Addr) (lvl : Nat) (m q : Str) (Pre : Pg → List PyData → Prop) (R : RelPE) : Prop where
  cl : Cls K C
  ex : ∃ (fa : Addr) (fd : FuncData) (ps : List Str), FnE P w K mg base lvl fa fd ps (spPiE K C Pre R) ∧ Meth K C m fa ∧ KBn K fd ps 1 [q] (fun a b => a ++ b) (fun a b => a ++ b)
section
variable {F : Fm} {C : Cs} {Cl a dx : Addr} {mk : Pg → Nat} {g : Pg} {ρ : Rho} {k : Nat} {Φ : Nat → PyData → Prop} {Ξ : Nat → Rho → Addr → Xf → Prop} {e : Expr} {pos p py apos kpos : Pos} {x y m q : Str} {Pre : Pg → List PyData → Prop} {R : RelPE} {j : Nat} {P : DE}
end
end Dl

/-! ### a call of a built-in class with one keyword -/
namespace PyProof.Rows
open PySem PySem.Calls
section
variable {M : Model} {A : Around} {E : Value → Shared → Prop} {s : Shared} {env : Env}
end
end PyProof.Rows
namespace Dl
open PySem PySem.Spec PyProof.Rows L2
/-! ### for i, x in enumerate(list, start=1), the body may raise -/
def Ite1 (K : PySem.W.Frag) (a : Addr) : It :=
  ⟨fun i H => ∃ (xs : List V) (x : V), SqL K H a xs ∧ xs[i]? = some x, fun i H v H' => ∃ T x, v = .ref T ∧ H T = none ∧ H' = upd H T (.tup [.int ((1 : Int) + (i : Nat)), x]) ∧ ∀ xs, SqL K H a xs → xs[i]? = some x, fun i H => ∃ xs : List V, SqL K H a xs ∧ xs.length = i⟩
def iEnum1 (K : PySem.W.Frag) (ta : TA) : TI := fun σ H R => ta σ H fun vs H1 => ∃ a xs, vs = [.ref a] ∧ SqL K H1 a xs ∧ R (Ite1 K a) H1
end Dl

namespace Dl
open PySem PySem.Spec PyProof.Rows L2
/-! ### loops whose bodies may raise; an own list in a def that may raise -/
section
variable {F : Fm} {C : Cs} {ρ : Rho} {k : Nat} {Φ : Nat → PyData → Prop} {Ξ : Nat → Rho → Addr → Xf → Prop} {e a b : Expr} {es : List Expr} {pos p p1 p2 p3 p4 tp px : Pos} {P : DE} {x x1 x2 : Str} {body rest : List Stmt} {kk jj : Nat}
theorem XOk.unext {K : PySem.W.Frag} {S : Addr → Prop} {o : Addr} {H : Hp} {d : Option Addr} {y : Xf} (h : XOk K (fun b => S b ∨ b = o) H d y) : XOk K S H d y := by
  cases y with
  | none => exact h
  | some q =>
    obtain ⟨f, v⟩ := q
    obtain ⟨dx, w, e, ns, hd, r⟩ := h
    exact ⟨dx, w, e, fun z => ns (.inl z), hd, Rep.keep (fun _ _ _ q => q) (fun _ _ z => .inl z) _ _ r⟩
end
end Dl

namespace Dl
open PySem PySem.Spec PyProof.Rows L2
/-! ### texts: slices, text * int, int(text); dict([..]) with texts as keys -/
section
variable {F : Fm} {C : Cs} {ρ : Rho} {k : Nat} {Φ : Nat → PyData → Prop} {a b e e1 e2 : Expr} {pos p p2 ap cp : Pos}
/-- x * e of a text, e is 0 or 1 -/
def rMulS : R2 := fun x y H Q => ∃ (z : Str) (n : Int), x = .str z ∧ y = .int n ∧ (n = 0 ∨ n = 1) ∧ Q (.str (if n = 1 then z else Str.empty)) H
theorem op_mulS {X : Cx} : OpR X (binaryOp .Mult) rMulS := by
  intro pins s σ H x y v u Q I rx ry h
  obtain ⟨z, n, rfl, rfl, hn, q⟩ := h
  obtain ⟨t, rfl⟩ := rx
  obtain ⟨t2, rfl⟩ := ry
  rcases hn with rfl | rfl
  · refine PySem.P.mul_str_none (by decide) (by decide) ?_
    rw [if_neg (by decide)] at q
    exact ⟨.str Str.empty, H, I.tok _, ⟨_, rfl⟩, q⟩
  · refine PySem.P.mul_str (by decide) (fun _ h => by cases h) (fun _ h => by cases h) ?_
    rw [if_neg (by decide), if_pos (show ((1 : Int) == 1 || z.length == 0) = true from rfl)]
    rw [if_pos rfl] at q
    exact ⟨.str z, H, I, ⟨_, rfl⟩, q⟩
theorem we_mulS (h : WPE F C a ρ k fun k1 x => WPE F C b ρ k1 fun k2 y => ∃ (z : Str) (n : Int), x = .str z ∧ y = .int n ∧ (n = 0 ∨ n = 1) ∧ Φ k2 (.str (if n = 1 then z else Str.empty))) : WPE F C (.BinOp a .Mult b pos) ρ k Φ :=
  we_bin (fun X _ => op_mulS) (h.imp fun k1 x h1 => h1.imp fun k2 y ⟨z, n, e1, e2, hn, p⟩ => by
    subst e1 e2
    intro H vx vy Q jj rx ry q
    cases rx
    cases ry
    exact ⟨z, n, rfl, rfl, hn, q _ _ k2 H .refl jj (.str _) p⟩)
/-! ### a dict with texts as keys, ints as values -/
def dtD (ps : List (Str × Int)) : PyData := .dict (ps.map fun p => (.str p.1, .int p.2))
def valT (ps : List (Str × Int)) (w : Str) : Option Int := (ps.find? fun p => p.1 == w).map (·.2)
abbrev kvT (p : Str × Int) : Key × V := (.inr p.1, .int p.2)
abbrev txI (p : Str × Int) : PyData := .tuple [.str p.1, .int p.2]
end
end Dl

namespace Dl
open PySem PySem.Spec PyProof.Rows L2
/-! ### two decks -/
section
variable {K : PySem.W.Frag} {C a dx s t y z : Addr} {g : Pg} {H : Hp}
theorem PiG.unhid (d : PiG K C a dx s t g (hid H y z)) : PiG K C a dx s t g H := ⟨(hid_some d.ia).2.2, (hid_some d.id).2.2, d.ne, by
    obtain ⟨as, h1, h2⟩ := d.ss
    exact ⟨as, (hid_some h1).2.2, h2.keep fun b xs q => (hid_some q).2.2⟩, by
    obtain ⟨as, h1, h2⟩ := d.tt
    exact ⟨as, (hid_some h1).2.2, h2.keep fun b xs q => (hid_some q).2.2⟩, d.ls, d.lt⟩
end
/-! ### making a deck, as a step from one frame into the next -/
structure Into (F : Fm) (H : Hp) (Cl a dx : Addr) (k1 : Nat) (d : Nat × List Int) (H' : Hp) : Prop where
  j : J (F.deck Cl a dx) (kk k1 ([d], [])) H'
  en : ∀ (σ : L2.St) (ρ : Rho), EnvOk F H σ ρ → EnvOk (F.deck Cl a dx) H' σ ρ
  lz : ∀ H2, Lz (F.deck Cl a dx) H' H2 → Lz F H H2
  back : ∀ c g H2, J (F.deck Cl a dx) (kk c g) H2 → J F c H2
theorem repb {F : Fm} {Cl a dx : Addr} {H2 : Hp} {w : V} {u : PyData} (r : Rp (F.deck Cl a dx) H2 w u) : Rp F H2 w u := Rep.keep (S := (F.deck Cl a dx).S) (S' := F.S) (fun _ _ _ q => q) (fun b _ z => .inl z) _ _ r
section
variable {F : Fm} {C : Cs} {Cl f : Addr} {ρ : Rho} {k : Nat} {Φ : Nat → PyData → Prop} {P : DE} {e e2 : Expr} {pos p cp px : Pos} {xc : Str} {j : Nat} {fd : FuncData} {ps : List Str} {Ok : Nat × List Int → Prop}
end
section
variable {F : Fm} {C : Cs} {Cl Cl2 f f2 : Addr} {ρ : Rho} {k : Nat} {P : DE} {e e2 : Expr} {pos p p' cp cp2 p1 p2 p3 p4 : Pos} {kx kt : Nat} {xc xc2 x1 x2 : Str} {j j2 : Nat} {fd fd2 : FuncData} {ps ps2 : List Str} {Ok Ok2 : Nat × List Int → Prop} {rest : List Stmt}
end
/-! ### == of decks, by their own def -/
/-- a class of decks, for isinstance -/
structure PiI (K : PySem.W.Frag) (Cl : Addr) : Prop where
  cl : Cls K Cl
  ha : PySem.W.findIn K (.ref Cl) "__class__" = some (some (.builtin "object.__class__"))
  hn : PySem.W.specialIn K (.builtin "object.__class__") "__get__" = some (some (.builtin "getset_descriptor.__get__"))
  tk : PySem.W.takesIn K (.builtin "object.__class__") = some true
  hm : PySem.W.mroIn K Cl (.type "object") = some true
def spEqD (K : PySem.W.Frag) (C1 C2 : Addr) (Pre : Pg → Pg → Prop) (R : Pg → Pg → Bool → Prop) : Sp := fun vs H Q _ => ∃ (a dx s t : Addr) (g : Pg) (b dy s' t' : Addr) (g' : Pg), vs = [.ref a, .ref b] ∧ PiG K C1 a dx s t g H ∧ PiG K C2 b dy s' t' g' H ∧ Pre g g' ∧ ∀ c H', Same H H' → R g g' c → Q (.bl c) H'
section
variable {F : Fm} {C : Cs} {Cl a dx : Addr} {g : Pg} {ρ : Rho} {k : Nat} {Φ : Nat → PyData → Prop} {e b : Expr} {pos p py apos pc1 : Pos} {x y : Str}
end
section
variable {P : Program} {w : World} {K : PySem.W.Frag} {mg : Str → Option Value} {base : Heap} {C1 C2 : Addr}
end
section
variable {X : Cx} {k : Nat} {f C1 C2 : Addr} {fd : FuncData} {ps : List Str} {Pre : Pg → Pg → Prop} {R : Pg → Pg → Bool → Prop}
def rEqDk (K : PySem.W.Frag) (C1 C2 : Addr) (Pre : Pg → Pg → Prop) (R : Pg → Pg → Bool → Prop) : R2 := fun x y H Q => ∃ a b, x = .ref a ∧ y = .ref b ∧ (∃ dx fs, H a = some (.ins C1 dx fs)) ∧ (∃ dy gs, H b = some (.ins C2 dy gs)) ∧ spEqD K C1 C2 Pre R [.ref a, .ref b] H (fun v H' => Q v H') E0
end
/-- the own == of decks of two classes -/
structure PiE (P : Program) (w : World) (K : PySem.W.Frag) (mg : Str → Option Value) (base : Heap) (C1 C2 : Addr) (lvl : Nat) (Pre : Pg → Pg → Prop) (R : Pg → Pg → Bool → Prop) : Prop where
  ex : ∃ (fa : Addr) (fd : FuncData) (ps : List Str), FnG P w K mg base lvl fa fd ps (spEqD K C1 C2 Pre R) ∧ PySem.W.findIn K (.ref C1) "__eq__" = some (some (.ref fa)) ∧ PySem.W.isFn K (.ref fa) = true ∧ L2.Binds K fd ps []
  nf : PySem.W.notFirst K C1 (.ref C2) = true
section
variable {F : Fm} {C : Cs} {C1 C2 a dx b dy : Addr} {mk mk2 : Pg → Nat} {g g2 : Pg} {ρ : Rho} {k j : Nat} {Φ : Nat → PyData → Prop} {Ψ : Nat → Bool → Prop} {pos p1 p2 : Pos} {y1 y2 : Str} {Pre : Pg → Pg → Prop} {R : Pg → Pg → Bool → Prop}
end
end Dl

namespace Dl
open PySem PySem.Spec PyProof.Rows L2
section
variable {F : Fm} {C : Cs} {ρ : Rho} {k : Nat} {P : DE} {Φ : Nat → PyData → Prop} {Ψ : Nat → Bool → Prop} {pos p p1 p2 p3 p4 p5 tp : Pos} {a b e : Expr} {body : List Stmt} {h₀ : ExceptHandler} {hs : List ExceptHandler} {x x1 x2 x3 : Str} {kk k2 : Nat}
/-- a global name whose value is a written tuple of texts -/
structure KTx (K : PySem.W.Frag) (mg : Str → Option Value) (x : Str) (bs : List Str) : Prop where
  ex : ∃ (T : Addr) (o : Obj) (its : Array Value) (n : Nat), mg x = some (.ref T) ∧ K.lookup T = some o ∧ o.cls = .type "tuple" ∧ o.data = .seq its n ∧ its.size ≤ sizeLine ∧ Vals (bs.map V.str) its.toList
end
section
variable {F : Fm} {C : Cs} {C1 C2 a dx b dy : Addr} {mk mk2 : Pg → Nat} {g g2 : Pg} {ρ : Rho} {k j : Nat} {Ψ : Nat → Bool → Prop} {pos p1 p2 : Pos} {y1 y2 : Str} {Pre : Pg → Pg → Prop} {R : Pg → Pg → Bool → Prop}
end
end Dl

namespace Dl
open PySem PySem.Spec PyProof.Rows L2
/-! ### a def of a class called through the class -/
/-- what the text must say for Class.m(..), m a def of it at f -/
structure ClF (K : PySem.W.Frag) (D : Addr) (m : Str) (f : Addr) : Prop where
  rd : PySem.W.readsIn K D (.type "type") = true
  ga : PySem.W.specialIn K (.ref D) "__getattribute__" = some (some (.builtin "type.__getattribute__"))
  at_ : PySem.W.findCls K (.ref D) (.type "type") m = some (.val (.ref f))
  kp : PySem.W.keepIn K (.ref f) = true
def tClF (D : Addr) (sp : Sp) (ta : TE) (t : TA) : TE := fun σ H Q => ta σ H fun x H1 => x = .ref D ∧ t σ H1 fun vs H2 => sp (vs ++ []) H2 Q E0
section
variable {X : Cx} {x m : Str} {p pos apos : Pos} {o e : Expr} {es : List Expr} {t : TA} {ta : TE} {k : Nat} {f D : Addr} {fd : FuncData} {ps : List Str} {sp : Sp}
end
section
variable {F : Fm} {C : Cs} {Cl D a dx f : Addr} {ρ : Rho} {P : DE} {x y z m : Str} {p p1 p2 p3 apos pos cp : Pos} {d : Nat × List Int} {j : Nat} {fd : FuncData} {ps : List Str} {Ok : Nat × List Int → Prop}
end
end Dl

namespace Dl
open PySem PySem.Spec PyProof.Rows L2
/-! ### counting over a list -/
section
variable {F : Fm} {C : Cs} {ρ : Rho} {k : Nat} {P : DE} {Φ : Nat → PyData → Prop} {x xc xb : Str} {px dp pc pb p3 p4 p5 p6 p7 p8 p9 p10 p11 p12 s1 s2 s3 s4 : Pos} {j1 j2 : Nat} {iter eb : Expr} {rest : List Stmt}
end
end Dl

namespace Dl
open PySem PySem.Spec PyProof.Rows L2
section
variable {F : Fm} {C : Cs} {ρ : Rho} {k : Nat} {Φ : Nat → PyData → Prop} {a b : Expr} {pos : Pos}
end
end Dl

namespace Dl
open PySem PySem.Spec PyProof.Rows L2
section
variable {F : Fm} {C : Cs} {ρ : Rho} {k : Nat} {P : DE} {pos p pl pl2 p1 p2 p4 pt : Pos} {e : Expr} {x1 x2 : Str} {kk kt : Nat} {rest : List Stmt}
end
end Dl

namespace Dl
open PySem PySem.Spec PyProof.Rows L2
/-! ### two own lists side by side -/
def NoW (ρ : Rho) (i : Nat) (o : Addr) : Prop := ∀ (j : Nat) (o' : Addr) (xs : List PyData), j ≠ i → ρ[j]? = some (.own o' xs) → o' ≠ o
section
variable {F : Fm} {C : Cs} {ρ : Rho} {k : Nat} {P : DE} {Φ : Nat → PyData → Prop} {Ψ : Nat → Bool → Prop} {pos p px p2 ap cp py pl pl2 p1 p4 pt : Pos} {x y x1 x2 : Str} {rest : List Stmt} {e : Expr} {o : Addr} {kk kt : Nat}
end
end Dl

set_option maxHeartbeats 2000000
namespace Dl
open PySem PySem.Spec PyProof.Rows L2
/-! ### tokens: behind a written text there is one at least -/
section
variable {α β : Type}
def TokUp (t : Sem α) : Prop := ∀ (M : Model) (Γ : PySem.Ctx) (Q : α → Pos → Shared → Prop) (E : Value → Pos → Shared → Prop) (p : Pos) (s : Shared), Sem.wp M Γ t Q E p s → Sem.wp M Γ t (fun a p' s' => 1 ≤ s'.toks ∧ Q a p' s') E p s
theorem wp_tk {M : Model} {Γ : PySem.Ctx} {t : Sem α} {Q : α → Pos → Shared → Prop} {E : Value → Pos → Shared → Prop} {p : Pos} {s : Shared} (h : 1 ≤ s.toks) (hw : Sem.wp M Γ t Q E p s) : Sem.wp M Γ t (fun a p' s' => 1 ≤ s'.toks ∧ Q a p' s') E p s :=
  Sem.wp_mono _ _ t (fun _ _ _ z => z) (fun _ _ _ z => z.2) _ _ (Sem.wp_toks M Γ 1 t Q E p s h hw)
theorem TokUp.fresh {k : Tok → Sem α} : TokUp (Sem.fresh k) := fun M Γ Q E p s h => by
  have h : Sem.wp M Γ (k s.toks) Q E p { s with toks := s.toks + 1 } := h
  exact wp_tk (t := k s.toks) (s := { s with toks := s.toks + 1 }) (Nat.le_add_left _ _) h
theorem TokUp.bindL {m : Sem α} {f : α → Sem β} (h : TokUp m) : TokUp (m.bind f) := fun M Γ Q E p s hw => by
  rw [Sem.wp_bind] at hw ⊢
  exact Sem.wp_mono _ _ m (fun a p' s' ⟨h1, h2⟩ => wp_tk h1 h2) (fun _ _ _ z => z) _ _ (h M Γ _ E p s hw)
theorem TokUp.bindR {m : Sem α} {f : α → Sem β} (h : ∀ a, TokUp (f a)) : TokUp (m.bind f) := fun M Γ Q E p s hw => by
  rw [Sem.wp_bind] at hw ⊢
  exact Sem.wp_mono _ _ m (fun a p' s' h2 => h a M Γ Q E p' s' h2) (fun _ _ _ z => z) _ _ hw
theorem TokUp.at {q : Pos} {k : Unit → Sem α} (h : TokUp (k ())) : TokUp (Sem.at q k) := fun M Γ Q E p s hw => h M Γ Q E q s hw
theorem TokUp.holding {vs : List Value} {m : Sem α} (h : TokUp m) : TokUp (holding vs m) := fun M Γ Q E p s hw => by
  rw [Sem.wp_holding] at hw ⊢
  exact h M Γ Q E p s hw
end
section
variable {env : Env} {a b e : Expr} {es : List Expr} {op : Operator} {p q : Pos} {x c : Str} {j : Nat}
theorem TokUp.str : TokUp (eval (.Constant (.str c) j p) env) := by
  rw [show eval (.Constant (.str c) j p) env = Sem.fresh fun t => Sem.pure (.str c t) from rfl]
  exact .fresh
theorem TokUp.binR (h : TokUp (eval b env)) : TokUp (eval (.BinOp a op b p) env) := by
  rw [eval]
  exact TokUp.bindR fun _ => TokUp.bindL (.holding h)
theorem TokUp.lst (hse : starEach (e :: es) env = (false, eval e env) :: starEach es env) (h : TokUp (eval e env)) : TokUp (eval (.List (e :: es) p) env) := by
  rw [eval, hse]
  refine TokUp.bindR fun _ => TokUp.bindL ?_
  show TokUp (spliced ((false, eval e env) :: backTo p (starEach es env)))
  rw [spliced]
  exact TokUp.bindL h
theorem TokUp.asg (hs : swapsWith e (some (.Name x p)) q.line env = pure false) (h : TokUp (eval e env)) : TokUp (exec (.Assign [.Name x p] e q) env) := by
  conv => arg 1; whnf
  refine TokUp.at ?_
  show TokUp ((swapsWith e (some (.Name x p)) q.line env).bind _)
  rw [hs]
  show TokUp ((eval e env).bind _)
  exact TokUp.bindL h
end
theorem wpAny_tk {α : Type} {M : Model} {A : Around} {t : Sem α} {Q : α → Shared → Prop} {E : Value → Shared → Prop} {s : Shared} (h : 1 ≤ s.toks) (hw : wpAny M A t Q E s) : wpAny M A t (fun a s' => 1 ≤ s'.toks ∧ Q a s') E s := fun Γ p hΓ => wp_tk h (hw Γ p hΓ)
theorem wpAny_up {α : Type} {M : Model} {A : Around} {t : Sem α} {Q : α → Shared → Prop} {E : Value → Shared → Prop} {s : Shared} (h : TokUp t) (hw : wpAny M A t Q E s) : wpAny M A t (fun a s' => 1 ≤ s'.toks ∧ Q a s') E s := fun Γ p hΓ => h M Γ _ _ p s (hw Γ p hΓ)
theorem wpAny_fresh {α : Type} {M : Model} {A : Around} {k : Tok → Sem α} {Q : α → Shared → Prop} {E : Value → Shared → Prop} {s : Shared} (h : wpAny M A (k s.toks) Q E { s with toks := s.toks + 1 }) : wpAny M A (Sem.fresh k) Q E s := fun Γ p hΓ => h Γ p hΓ
/-! ### replace of a written text, once -/
def repl1 (x y z : Str) : Str := if ((Builtin.Str.occurrences x y 0 x.length (x.length + 1)).isEmpty || y.length == 0 && z.length == 0) = true then x else Builtin.Str.glued z (Builtin.Str.partsBetween x (Builtin.Str.occurrences x y 0 x.length (x.length + 1)) y.length)
theorem rep4 (x y z : Str) (t u v tk : Tok) (h : Builtin.Str.occurrences x y 0 x.length 1 = Builtin.Str.occurrences x y 0 x.length (x.length + 1)) : Builtin.«str.replace» { pos := [Value.str x t, Value.str y u, Value.str z v, Value.int 1 tk] } = Builtin.«str.replace» { pos := [Value.str x t, Value.str y u, Value.str z v] } := by
  have e1 : Builtin.«str.replace» { pos := [Value.str x t, Value.str y u, Value.str z v, Value.int 1 tk] } = (do
      let cuts := Builtin.Str.occurrences x y 0 x.length 1
      if (cuts.isEmpty || y.length == 0 && z.length == 0) = true then do
        rule "str.replace.nothing"
        ret (← Builtin.Str.strUnchanged (Value.str x t) x)
      else do
        if (← isSame (Value.str y u) (Value.str z v)) = true then do
          rule "str.replace.old-is-new"
          ret (← Builtin.Str.strUnchanged (Value.str x t) x)
        else do
          if Builtin.Str.tooLong (x.length + cuts.length * z.length) = true then
            unsupported "str.replace:memory"
          retStr (Builtin.Str.glued z (Builtin.Str.partsBetween x cuts y.length))) := rfl
  rw [e1, h]
  rfl
def tRep1 (to : TE) (y z : Str) : TE := fun σ H Q => to σ H fun v H1 => ∃ x : Str, v = .str x ∧ Builtin.Str.occurrences x y 0 x.length 1 = Builtin.Str.occurrences x y 0 x.length (x.length + 1) ∧ Builtin.Str.tooLong (x.length + (Builtin.Str.occurrences x y 0 x.length (x.length + 1)).length * z.length) = false ∧ (repl1 x y z).length ≤ sizeLine ∧ Q (.str (repl1 x y z)) H1
section
variable {X : Cx} {o e : Expr} {to : TE} {t : TA} {y z : Str} {j0 j1 j2 : Nat} {c0 c1 c2 apos pos : Pos}
theorem pet_rep1 {pl : Sem Bool} (ho : PE X o to) (hyz : (y == z) = false) (hs : ∀ cp : Pos, spliced (backTo cp (starEach [.Constant (.str y) j0 c0, .Constant (.str z) j1 c1, .Constant (.int 1) j2 c2] X.env)) = Sem.fresh fun t => Sem.fresh fun t' => Sem.fresh fun t2 => Sem.pure [Value.str y t, Value.str z t', Value.int 1 t2])
    (hb : backTo pos (starEach [.Constant (.str y) j0 c0, .Constant (.str z) j1 c1, .Constant (.int 1) j2 c2] X.env) = (false, eval (.Constant (.str y) j0 c0) X.env) :: backTo pos (starEach [.Constant (.str z) j1 c1, .Constant (.int 1) j2 c2] X.env)) (hany : ((backTo pos (starEach [.Constant (.str y) j0 c0, .Constant (.str z) j1 c1, .Constant (.int 1) j2 c2] X.env)).any fun x => x.fst) = false)
    (hf : eval (.Call (.Attribute o "replace" apos) [.Constant (.str y) j0 c0, .Constant (.str z) j1 c1, .Constant (.int 1) j2 c2] [] pos) X.env = (do
      let ov ← eval o X.env
      standAt apos.atName
      let (f, first) ← holding [ov] (getMethod ov "replace" pl)
      callWith pos f first (backTo pos (starEach [.Constant (.str y) j0 c0, .Constant (.str z) j1 c1, .Constant (.int 1) j2 c2] X.env)) (backToKw pos (keywordEach [] X.env)))) :
    PET X (.Call (.Attribute o "replace" apos) [.Constant (.str y) j0 c0, .Constant (.str z) j1 c1, .Constant (.int 1) j2 c2] [] pos) (tRep1 to y z) := fun pins s σ H Q ht I h => by
  refine PySem.W.methodCall_KW (pl := pl) (wpAny_mono (wpAny_tk ht (ho.run pins s σ H _ I h)) (fun u s1 ⟨h1, v, H1, I1, rv, x, ev, hoc, hlen, hsz, q⟩ => ?_) (fun _ _ z => z)) hf
  subst ev
  obtain ⟨tx, rfl⟩ : ∃ tx, u = .str x tx := rv
  refine PySem.GM.replace (PySem.method_gives (T := "str") PySem.F.slot_str_replace PySem.F.entry_str_replace hany ?_)
  rw [hb]
  refine PySem.Calls.evalArgs_plain ?_
  rw [← hb, hs]
  refine wpAny_fresh (wpAny_fresh (wpAny_fresh (wpAny_pure ?_)))
  have I2 : Inv X pins σ H1 { s1 with toks := s1.toks + 1 + 1 + 1 } := I1.tok (s1.toks + 1 + 1 + 1)
  have gv := PySem.gives_str_replace x y z tx s1.toks (s1.toks + 1) (fun _ => ⟨by
    have : s1.toks ≠ 0 := by omega
    simp [this], by simp, hyz, hlen⟩)
  rw [← rep4 x y z tx s1.toks (s1.toks + 1) (s1.toks + 1 + 1) hoc] at gv
  refine ⟨rfl, rfl, PySem.F.args_str_replace_4 _ _ _ _, _, gv, ?_⟩
  by_cases hc : ((Builtin.Str.occurrences x y 0 x.length (x.length + 1)).isEmpty || y.length == 0 && z.length == 0) = true
  · rw [if_pos hc]
    refine ⟨.str (repl1 x y z), H1, I2, ?_, q⟩
    unfold repl1
    rw [if_pos hc]
    exact ⟨tx, rfl⟩
  · rw [if_neg hc]
    have er : repl1 x y z = Builtin.Str.glued z (Builtin.Str.partsBetween x (Builtin.Str.occurrences x y 0 x.length (x.length + 1)) y.length) := by
      unfold repl1
      rw [if_neg hc]
    rw [← er]
    exact ⟨hsz, .str (repl1 x y z), H1, I2.tok _, ⟨_, rfl⟩, q⟩
end
end Dl

set_option maxHeartbeats 2000000
namespace Dl
open PySem PySem.Spec PyProof.Rows L2
section
variable {X : Cx} {o e : Expr} {to : TE} {t : TA} {apos pos : Pos}
/-- x.append(e), where there is a token -/
theorem pet_append {pl : Sem Bool} (he : PE X o to) (ha : PAT X [e] t) (hb : backTo pos (starEach [e] X.env) = (false, eval e X.env) :: backTo pos []) (hany : ((backTo pos (starEach [e] X.env)).any fun x => x.fst) = false)
    (hf : eval (.Call (.Attribute o "append" apos) [e] [] pos) X.env = (do
      let ov ← eval o X.env
      standAt apos.atName
      let (f, first) ← holding [ov] (getMethod ov "append" pl)
      callWith pos f first (backTo pos (starEach [e] X.env)) (backToKw pos (keywordEach [] X.env)))) :
    PET X (.Call (.Attribute o "append" apos) [e] [] pos) (tBM X.K "list" rAppend to t) := fun pins s σ H Q ht I h => by
  refine PySem.W.methodCall_KW (pl := pl) (wpAny_mono (wpAny_tk ht (he.run pins s σ H _ I h)) (fun u s1 ⟨h1, v, H1, I1, rv, ty, q⟩ => ?_) (fun _ _ z => z)) hf
  obtain ⟨p, rfl, xs, hx⟩ : ∃ p, v = .ref p ∧ ∃ xs, SqL X.K H1 p xs := by
    cases v with
    | ref p =>
      rcases ty with ⟨_, xs, hx⟩ | ⟨e, _⟩ | ⟨e, _⟩ | ⟨e, _⟩
      · exact ⟨p, rfl, xs, hx⟩
      · exact absurd e (by decide)
      · exact absurd e (by decide)
      · exact absurd e (by decide)
    | str x => exact absurd (show ("list" : String) = "str" from ty) (by decide)
    | int x => exact absurd (show ("list" : String) = "int" from ty) (by decide)
    | _ => exact ty.elim
  obtain rfl : u = .ref p := rv
  obtain ⟨its, ri, ⟨ob, n, hget, hcls, hdict, hdata⟩, hz⟩ := I1.list hx
  refine PySem.getMethod_builtin (T := "list") (id := "list.append") ⟨ob, hget, hcls⟩ PySem.F.plainAttrs_list PySem.F.slot_list_append PySem.F.type_list_append (fun a ea => by cases ea; exact ⟨ob, hget, hdict⟩) ?_
  refine PySem.Calls.callWith_builtin hany ?_
  rw [hb]
  refine PySem.Calls.evalArgs_plain ?_
  rw [← hb]
  refine wpAny_mono (ha pos pins s1 σ H1 _ h1 I1 q) (fun us s2 ⟨vs, H2, I2, r, q2⟩ => ?_) (fun _ _ z => z)
  exact mt_append pins s2 σ H2 (.ref p) vs (.ref p) us Q I2 rfl r q2
end
/-- an expression whose value is None, as a statement -/
theorem pst_exprN {X : Cx} {e : Expr} {te : TE} {pos : Pos} (he : PET X e te) (hin : interactive X.env = false) (hsw : swapsWith e none pos.line X.env = pure false) : PST X (.Expr e pos) (fun D σ H => te σ H fun v H1 => v = .non ∧ D.nx σ H1) := fun pins s σ H D ht I h =>
  wpAny_Expr (wpAny_mono (he pins s σ H _ ht I h) (fun u s' ⟨v, H', I', rv, ev, hn⟩ => by
    subst ev
    obtain rfl : u = .none := rv
    exact ⟨σ, H', I', hn⟩) fun _ _ z => z) hin hsw
/-! ### judgements where there is a token -/
def tET (C : Cs) (e : Expr) : TE := fun σ H Q => ∀ X, Fits C X → ∀ pins s, 1 ≤ s.toks → Inv X pins σ H s → wpAny (model X.prog X.w) X.A (eval e X.env) (EP X pins σ Q) X.xe s
def tST (C : Cs) (st : Stmt) : TS := fun D σ H => ∀ X, Fits C X → ∀ pins s, 1 ≤ s.toks → Inv X pins σ H s → wpAny (model X.prog X.w) X.A (exec st X.env) (SP X pins D) X.xe s
def tBT (C : Cs) (st : List Stmt) : TS := fun D σ H => ∀ X, Fits C X → ∀ pins s, 1 ≤ s.toks → Inv X pins σ H s → wpAny (model X.prog X.w) X.A (execs st X.env) (SP X pins D) X.xe s
abbrev WPET (F : Fm) (C : Cs) (e : Expr) (ρ : Rho) (k : Nat) (Φ : Nat → PyData → Prop) : Prop := WE F (tET C e) ρ k Φ
abbrev WPST (F : Fm) (C : Cs) (st : Stmt) (ρ : Rho) (k : Nat) (P : DE) : Prop := WS F (tST C st) ρ k P
abbrev WPBT (F : Fm) (C : Cs) (st : List Stmt) (ρ : Rho) (k : Nat) (P : DE) : Prop := WS F (tBT C st) ρ k P
section
variable {F : Fm} {C : Cs} {ρ : Rho} {k : Nat} {P : DE} {Φ : Nat → PyData → Prop} {e a b : Expr} {pos p px p2 ap cp : Pos} {x : Str} {st : Stmt} {rest : List Stmt} {o : Addr}
theorem petE {X : Cx} (f : Fits C X) : PET X e (tET C e) := fun pins s σ H Q ht I h => h X f pins s ht I
theorem of_pet {t : TE} (h : ∀ X, Fits C X → PET X e t) (hw : WE F t ρ k Φ) : WPET F C e ρ k Φ := fun σ H Q en j q X fx pins s ht I => h X fx pins s σ H Q ht I (hw σ H Q en j q)
theorem wet_of (h : WPE F C e ρ k Φ) : WPET F C e ρ k Φ := fun σ H Q en j q X fx pins s _ I => h σ H Q en j q X fx pins s I
/-- a + b, texts -/
theorem wet_addS (h : WPET F C a ρ k fun k1 x => WPET F C b ρ k1 fun k2 y => ∃ i j : Str, x = .str i ∧ y = .str j ∧ i.length + j.length ≤ 1000000 ∧ Φ k2 (.str (i ++ j))) : WPET F C (.BinOp a .Add b pos) ρ k Φ :=
  of_pet (fun X fx => CwR.pet_op op_add_str (petE fx) (petE fx)) fun σ H Q en j q => by
    show tET C a σ H _
    refine h σ H _ en j fun v d k1 H1 l1 j1 r1 hx => ?_
    show tET C b σ H1 _
    refine hx σ H1 _ (en.le l1) j1 fun v2 d2 k2 H2 l2 j2 r2 ⟨i, jj, e1, e2, hz, pp⟩ => ?_
    subst e1 e2
    cases r1
    cases r2
    exact ⟨i, jj, rfl, rfl, Nat.le_trans hz (by decide), q _ _ k2 H2 (l1.trans l2) j2 (.str _) pp⟩
/-- x.replace(y, z, 1), y and z written -/
theorem wet_rep1 {y z : Str} {j0 j1 j2 : Nat} {c0 c1 c2 apos : Pos} (hyz : (y == z) = false) {pl : Env → Sem Bool}
    (h : WPE F C a ρ k fun k1 d => ∃ t : Str, d = .str t ∧ Builtin.Str.occurrences t y 0 t.length 1 = Builtin.Str.occurrences t y 0 t.length (t.length + 1) ∧ Builtin.Str.tooLong (t.length + (Builtin.Str.occurrences t y 0 t.length (t.length + 1)).length * z.length) = false ∧ (repl1 t y z).length ≤ sizeLine ∧ Φ k1 (.str (repl1 t y z)))
    (hs : ∀ (env : Env) (cp : Pos), spliced (backTo cp (starEach [.Constant (.str y) j0 c0, .Constant (.str z) j1 c1, .Constant (.int 1) j2 c2] env)) = Sem.fresh fun t => Sem.fresh fun t' => Sem.fresh fun t2 => Sem.pure [Value.str y t, Value.str z t', Value.int 1 t2] := by intro _ _; rfl)
    (hb : ∀ env : Env, backTo pos (starEach [.Constant (.str y) j0 c0, .Constant (.str z) j1 c1, .Constant (.int 1) j2 c2] env) = (false, eval (.Constant (.str y) j0 c0) env) :: backTo pos (starEach [.Constant (.str z) j1 c1, .Constant (.int 1) j2 c2] env) := by intro _; rfl) (hany : ∀ env : Env, ((backTo pos (starEach [.Constant (.str y) j0 c0, .Constant (.str z) j1 c1, .Constant (.int 1) j2 c2] env)).any fun x => x.fst) = false := by intro _; rfl)
    (hf : ∀ env : Env, eval (.Call (.Attribute a "replace" apos) [.Constant (.str y) j0 c0, .Constant (.str z) j1 c1, .Constant (.int 1) j2 c2] [] pos) env = (do
      let ov ← eval a env
      standAt apos.atName
      let (f, first) ← holding [ov] (getMethod ov "replace" (pl env))
      callWith pos f first (backTo pos (starEach [.Constant (.str y) j0 c0, .Constant (.str z) j1 c1, .Constant (.int 1) j2 c2] env)) (backToKw pos (keywordEach [] env))) := by intro _; rfl) :
    WPET F C (.Call (.Attribute a "replace" apos) [.Constant (.str y) j0 c0, .Constant (.str z) j1 c1, .Constant (.int 1) j2 c2] [] pos) ρ k Φ :=
  of_pet (fun X fx => pet_rep1 (pl := pl X.env) (peE fx) hyz (hs X.env) (hb X.env) (hany X.env) (hf X.env)) fun σ H Q en j q => by
    show tE C a σ H _
    refine h σ H _ en j fun v d k1 H1 l1 j1 r1 ⟨t, e1, h1, h2, h3, pp⟩ => ?_
    subst e1
    cases r1
    exact ⟨t, rfl, h1, h2, h3, q _ _ k1 H1 l1 j1 (.str _) pp⟩
/-- x.append(e), x the own list, where there is a token -/
theorem wst_append (i : Nat) {xs : List PyData} {pl : Env → Sem Bool} (hN : C.N[i]? = some x) (hv : Vis C.sc x) (hr : ρ[i]? = some (.own o xs)) (hno : (ρ.set i .un).all plainB = true) (hz : xs.length ≤ 1000000)
    (h : WPET F C e ρ k fun k1 d => P.nx k1 (ρ.set i (.own o (xs ++ [d]))))
    (hsw : ∀ env : Env, swapsWith (.Call (.Attribute (.Name x px) "append" ap) [e] [] cp) none pos.line env = pure false) (hd : (x == ("__debug__" : Str)) = false := by decide) (hcd : (x == ("__classdict__" : Str)) = false := by decide)
    (hse : ∀ env : Env, starEach [e] env = (false, eval e env) :: starEach [] env := by intro _; rfl) (hb : ∀ env : Env, backTo cp (starEach [e] env) = (false, eval e env) :: backTo cp [] := by intro _; rfl) (hany : ∀ env : Env, ((backTo cp (starEach [e] env)).any fun x => x.fst) = false := by intro _; rfl)
    (hf : ∀ env : Env, eval (.Call (.Attribute (.Name x px) "append" ap) [e] [] cp) env = (do
      let ov ← eval (.Name x px) env
      standAt ap.atName
      let (f, first) ← holding [ov] (getMethod ov "append" (pl env))
      callWith cp f first (backTo cp (starEach [e] env)) (backToKw cp (keywordEach [] env))) := by intro _; rfl)
    (hin : ∀ env : Env, env.scope = C.sc → interactive env = false) :
    WPST F C (.Expr (.Call (.Attribute (.Name x px) "append" ap) [e] [] cp) pos) ρ k P := fun σ H E en j q1 q2 q3 q4 X fx pins s ht I => by
    have hp := pst_exprN (pos := pos) (pet_append (X := X) (pl := pl X.env) (pe_var (i := i) (by rw [fx.N]; exact hN) (by rw [fx.sc]; exact hv) hd hcd) (pat_cons (petE fx) pat_nil (hse X.env)) (hb X.env) (hany X.env) (hf X.env)) (hin X.env fx.sc) (hsw X.env)
    refine hp pins s σ H E ht I ?_
    rw [fx.K]
    obtain ⟨hσ, hS, hM, h0, vs, hv', rv⟩ := en.own hr
    refine ⟨_, hσ, .inl ⟨rfl, _, SqL.of hv'⟩, ?_⟩
    show tET C e σ H _
    refine h σ H _ en j fun v d k1 H1 l1 j1 r1 p => ?_
    have hv1 : H1 o = some (.lst vs) := l1 o _ (Fm.mxA hM) hv'
    refine ⟨o, vs, v, rfl, rfl, hv1, ?_, rfl, ?_⟩
    · rw [rv.length]; exact Nat.lt_of_le_of_lt hz (by decide)
    · refine q1 _ σ k1 _ ?_ ((en.le l1).ownSet hr hno ((rv.le l1.lz).append (.cons r1 .nil))) (j1.own hM h0 (pl_lst (l1 o _ (Fm.mxA hM) hv'))) p
      exact fun b u hb z => by rw [upd_ne (show b ≠ o from fun y => hb (.inl (y ▸ hS)))]; exact l1.lz b u hb z
theorem wbt_nil (h : P.nx k ρ) : WPBT F C [] ρ k P := fun σ H E en j q1 _ _ _ X fx pins s _ I => (pss_nil (X := X)).run pins s σ H E I (q1 ρ σ k H .refl en j h)
theorem wbt_consT (h : WPST F C st ρ k (P.seq fun k1 ρ1 => WPBT F C rest ρ1 k1 P)) : WPBT F C (st :: rest) ρ k P := fun σ H E en j q1 q2 q3 q4 X fx pins s ht I =>
  psst_cons (X := X) (t := tST C st) (u := tBT C rest) (fun pins s σ H D ht I h => h X fx pins s ht I) (fun pins s σ H D ht I h => h X fx pins s ht I) pins s σ H E ht I
    (h σ H { E with nx := tBT C rest E } en j (fun ρ' σ' k' H' l en' j' p => p σ' H' E en' j' (fun ρ2 σ2 k2 H2 l2 => q1 ρ2 σ2 k2 H2 (l.trans l2)) q2 (fun ρ2 σ2 k2 H2 l2 => q3 ρ2 σ2 k2 H2 (l.trans l2)) (fun ρ2 σ2 k2 H2 l2 => q4 ρ2 σ2 k2 H2 (l.trans l2))) q2 q3 q4)
/-- behind a statement that makes a token -/
theorem pss_tok {X : Cx} {t : TS} (fx : Fits C X) (hp : PS X st t) (up : TokUp (exec st X.env)) : PSs X (st :: rest) (fun D σ H => t { D with nx := tBT C rest D } σ H) := ⟨fun pins s σ H D I h => by
  rw [execs]
  refine wpAny_bind (wpAny_mono (wpAny_up up (hp.run pins s σ H _ I h)) (fun fl s' ⟨ht, hs⟩ => ?_) fun _ _ z => z)
  cases fl with
  | next => obtain ⟨σ', H', I', hn⟩ := hs; exact hn X fx pins s' ht I'
  | brk => exact wpAny_pure hs
  | cont => exact wpAny_pure hs
  | ret u => exact wpAny_pure hs⟩
/-- x = xs + ys, which makes a token; x is own on to the end of the block, then data -/
theorem wb_ownCatT (i : Nat) (t : Tgt C i x) (hi : i < ρ.length) (hs : ∀ env : Env, env.scope = C.sc → swapsWith (.BinOp a .Add b p2) (some (.Name x px)) pos.line env = pure false) (up : ∀ env : Env, env.scope = C.sc → TokUp (eval b env))
    (h : WPE F C a ρ k fun k1 u => WPE F C b ρ k1 fun k2 v => ∃ ds es, u = .list ds ∧ v = .list es ∧ ds.length + es.length ≤ 1000000 ∧
      ∀ o, WPBT (F.ext o) C rest (ρ.set i (.own o (ds ++ es))) k2 { nx := fun k' ρ' => ∃ ys, ρ'[i]? = some (.own o ys) ∧ (ρ'.set i .un).all plainB = true ∧ P.nx k' (ρ'.set i (.d (.list ys))), rt := P.rt, bk := fun _ _ => False, ct := fun _ _ => False }) :
    WPB F C (.Assign [.Name x px] (.BinOp a .Add b p2) pos :: rest) ρ k P :=
  of_pb (fun X fx => pss_tok fx (ps_set (by rw [fx.N]; exact t.hN) (by rw [fx.N]; exact t.hi) (by rw [fx.sc]; exact t.hx) (pe_op op_cat (peE fx) (peE fx)) (hs X.env fx.sc) (by rw [fx.fn, fx.sc]; exact t.hf)) (TokUp.asg (hs X.env fx.sc) (TokUp.binR (up X.env fx.sc)))) fun σ H E en j q1 q2 q3 q4 => by
    refine h σ H _ en j fun vx u k1 H1 l1 j1 r1 hx => hx σ H1 _ (en.le l1) j1 fun vy v k2 H2 l2 j2 r2 ⟨ds, es, e1, e2, hz, p⟩ => ?_
    subst e1 e2
    have r1' := r1.le l2.lz
    cases r1' with
    | @lst pa xs _ ha hr =>
    cases r2 with
    | @lst pb ys _ hb hr2 =>
    refine ⟨pa, pb, xs, ys, rfl, rfl, ha.1, hb.1, by rw [hr.length, hr2.length]; exact Nat.le_trans hz (by decide), fun o no => ?_⟩
    have hM : ¬ F.M o := fun z => F.gl _ _ j2.g o z no
    have hS : ¬ F.S o := j2.fresh no
    have h0 : F.H0 o = none := j2.h0 hM no
    have en2 : EnvOk (F.ext o) (upd H2 o (.lst (xs ++ ys))) (σ.set i (some (.ref o))) (ρ.set i (.own o (ds ++ es))) :=
      (((en.le l1).le l2).ext no).set (sv := .own o (ds ++ es)) ⟨rfl, .inr rfl, hM, h0, xs ++ ys, upd_same, (hr.append hr2).ext no⟩
    have lz0 : Lz F H H2 := l1.lz.trans l2.lz
    have lzo : ∀ H', Lz (F.ext o) (upd H2 o (.lst (xs ++ ys))) H' → Lz F H H' := fun H' lz b u hb e => by
      have e2 := lz0 b u hb e
      have ne : b ≠ o := ne_of_none e2 no
      exact lz b u (fun z => z.elim (fun y => y.elim (fun q => hb (.inl q)) ne) fun q => hb (.inr q)) (by rw [upd_ne ne]; exact e2)
    refine p o (σ.set i (some (.ref o))) (upd H2 o (.lst (xs ++ ys))) E en2 ((j2.new no).ext (lv_new fun _ z => nomatch z)) ?_ ?_ ?_ ?_
    · rintro ρ' σ' k' H' lz en' j' ⟨zs, hown, hpl, hrest⟩
      have hlz := lzo H' lz
      obtain ⟨hσ', _, _, _, vs, hvs, rvs⟩ := en'.own hown
      have en3 : EnvOk F H' σ' (ρ'.set i (.d (.list zs))) := by
        intro m sv em
        by_cases hj : i = m
        · subst hj
          have hl : i < ρ'.length := (List.getElem?_eq_some_iff.mp hown).1
          rw [List.getElem?_set_self hl] at em
          cases em
          exact ⟨_, hσ', _, rfl, .lst ⟨hvs, hS⟩ rvs.unext⟩
        · rw [List.getElem?_set_ne hj] at em
          obtain ⟨y, qy, sy⟩ := en' m sv em
          refine ⟨y, qy, ?_⟩
          cases sv with
          | un => trivial
          | d d => obtain ⟨v, z, r⟩ := sy; exact ⟨v, z, r.unext⟩
          | raw v => exact sy
          | own o' xs' => exact (noOwn_of hpl m o' xs' (Ne.symm hj) em).elim
      exact q1 _ σ' k' H' hlz en3 j'.unext hrest
    · exact fun v d k' H' j' r' p => q2 v d k' H' j'.unext r'.unext p
    · exact fun _ _ _ _ _ _ _ z => z.elim
    · exact fun _ _ _ _ _ _ _ z => z.elim
end
end Dl

namespace Dl
open PySem PySem.Spec PyProof.Rows L2
/-! ### an instance whose one field, deck, is a deck: a shell -/
structure ShO (CS a b db : Addr) (H : Hp) : Prop where
  ib : H b = some (.ins CS db [("deck", .ref a)])
  id : H db = some (.own b)
/-- the class of shells -/
structure ShC (K : PySem.W.Frag) (CS : Addr) : Prop where
  cl : Cls K CS
  nd : NoAttr K CS "deck"
/-- the frame with a shell more -/
def Fm.shl (F : Fm) (CS a b db : Addr) : Fm where
  K := F.K
  S := fun z => F.S z ∨ z = b ∨ z = db
  M := fun z => F.M z ∨ z = b ∨ z = db
  H0 := F.H0
  G := fun k H => F.G k H ∧ ShO CS a b db H
  ms := fun z h => h.imp (F.ms z) id
  gm := fun k H H' ⟨g, s⟩ hm hx => ⟨F.gm k H H' g (fun z hz => hm z (.inl hz)) hx, ⟨(hm b (.inr (.inl rfl))).trans s.ib, (hm db (.inr (.inr rfl))).trans s.id⟩⟩
  gl := fun k H ⟨g, s⟩ z hz => by
    rcases hz with hz | rfl | rfl
    · exact F.gl k H g z hz
    · rw [s.ib]; exact fun z => nomatch z
    · rw [s.id]; exact fun z => nomatch z
  X := F.X
  xi := F.xi
  xa := fun k H ⟨g, _⟩ z u nm x q => F.xa k H g z u (fun y => nm (.inl y)) x q
/-- the frame knows the shell at b, its deck is at a -/
structure HasSh (F : Fm) (CS a b : Addr) : Prop where
  ex : ∃ db, F.M b ∧ F.M db ∧ ∀ k H, F.G k H → ShO CS a b db H
theorem HasSh.ext {F : Fm} {CS a b : Addr} (h : HasSh F CS a b) (D : Addr) : HasSh (F.ext D) CS a b := ⟨h.ex⟩
theorem has_shl {F : Fm} {CS a b db : Addr} : HasSh (F.shl CS a b db) CS a b := ⟨db, .inr (.inl rfl), .inr (.inr rfl), fun _ _ g => g.2⟩
theorem HasSh.shl {F : Fm} {CS a b CS2 a2 b2 db2 : Addr} (h : HasSh F CS a b) : HasSh (F.shl CS2 a2 b2 db2) CS a b := by
  obtain ⟨db, m1, m2, g⟩ := h.ex
  exact ⟨db, .inl m1, .inl m2, fun k H z => g k H z.1⟩
theorem ShO.unhid {CS a b db s t : Addr} {H : Hp} (h : ShO CS a b db (hid H s t)) : ShO CS a b db H := ⟨(hid_some h.ib).2.2, (hid_some h.id).2.2⟩
theorem HasSh.deck {F : Fm} {CS a b C2 a2 dx2 : Addr} (h : HasSh F CS a b) : HasSh (F.deck C2 a2 dx2) CS a b := by
  obtain ⟨db, m1, m2, g⟩ := h.ex
  exact ⟨db, .inl m1, .inl m2, fun k H ⟨c, g1, s, t, e, hF, _⟩ => (g c _ hF).unhid⟩
section
variable {K : PySem.W.Frag} {C CS a b db dx s t a2 : Addr} {g : Pg} {H H' : Hp}
theorem sh_ne (d : PiG K C a dx s t g H) (h : ShO CS a2 b db H) : b ≠ a ∧ b ≠ dx ∧ b ≠ s ∧ b ≠ t ∧ db ≠ a ∧ db ≠ dx ∧ db ≠ s ∧ db ≠ t := by
  obtain ⟨as, x1, _⟩ := d.ss
  obtain ⟨bs, y1, _⟩ := d.tt
  have nb : b ≠ a := fun z => by
    have e := h.ib
    rw [z, d.ia] at e
    injection e with e
    injection e with _ _ e
    injection e with _ e
    cases e
  refine ⟨nb, fun z => ?_, fun z => ?_, fun z => ?_, fun z => ?_, fun z => ?_, fun z => ?_, fun z => ?_⟩
  · have e := h.ib; rw [z, d.id] at e; cases e
  · have e := h.ib; rw [z, x1] at e; unfold extL at e; cases e
  · have e := h.ib; rw [z, y1] at e; unfold extL at e; cases e
  · have e := h.id; rw [z, d.ia] at e; cases e
  · have e := h.id
    rw [z, d.id] at e
    exact nb (HO.own.inj (Option.some.inj e)).symm
  · have e := h.id; rw [z, x1] at e; unfold extL at e; cases e
  · have e := h.id; rw [z, y1] at e; unfold extL at e; cases e
end
/-- a deck of the frame, the shell beside -/
theorem HasPi.shl {F : Fm} {C a dx CS a2 b db : Addr} {mk : Pg → Nat} (h : HasPi F C a dx mk) : HasPi (F.shl CS a2 b db) C a dx mk where
  X := h.X
  ma := .inl h.ma
  md := .inl h.md
  get := fun g H g1 => h.get g H g1.1
  put := fun g g' H H' s t s' t' g1 d keep e1 d' hs ht => by
    obtain ⟨n1, n2, n3, n4, m1, m2, m3, m4⟩ := sh_ne d g1.2
    exact ⟨h.put g g' H H' s t s' t' g1.1 d keep e1 d' hs ht, ⟨keep b _ n1 n2 n3 n4 g1.2.ib, keep db _ m1 m2 m3 m4 g1.2.id⟩⟩
theorem HasDq.shl {F : Fm} {st q CS a2 b db : Addr} {mk : Nat → Nat} (h : HasDq F st q mk) : HasDq (F.shl CS a2 b db) st q mk where
  ms := fun z hz => .inl (h.ms z hz)
  get := fun n H g1 => h.get n H g1.1
  put := fun n n' H H' g1 d keep => by
    obtain ⟨cells, m, h1, h2, h3⟩ := h.get n H g1.1
    have ndq : ∀ b o, H b = some o → (∀ xs, o ≠ .lst xs) → ¬ DqM st q b := fun b o e n z => by
      rcases z with rfl | rfl
      · rw [h1] at e; cases e; exact n _ rfl
      · rw [h2] at e; cases e; exact n _ rfl
    exact ⟨h.put n n' H H' g1.1 d keep, ⟨keep b _ (ndq b _ g1.2.ib fun _ z => nomatch z) g1.2.ib, keep db _ (ndq db _ g1.2.id fun _ z => nomatch z) g1.2.id⟩⟩
end Dl

namespace Dl
open PySem PySem.Spec PyProof.Rows L2
/-! ### making a shell, as a step from one frame into the next -/
structure IntoS (F : Fm) (H : Hp) (CS a b db : Addr) (k : Nat) (H' : Hp) : Prop where
  j : J (F.shl CS a b db) k H'
  en : ∀ (σ : L2.St) (ρ : Rho), EnvOk F H σ ρ → EnvOk (F.shl CS a b db) H' σ ρ
  lz : ∀ H2, Lz (F.shl CS a b db) H' H2 → Lz F H H2
  back : ∀ c H2, J (F.shl CS a b db) c H2 → J F c H2
theorem repS {F : Fm} {CS a b db : Addr} {H2 : Hp} {w : V} {u : PyData} (r : Rp (F.shl CS a b db) H2 w u) : Rp F H2 w u := Rep.keep (S := (F.shl CS a b db).S) (S' := F.S) (fun _ _ _ q => q) (fun b _ z => .inl z) _ _ r
theorem envS {F : Fm} {CS a b db : Addr} {H2 : Hp} {σ2 : L2.St} {ρ2 : Rho} (hb : F.H0 b = none → ¬ F.M b) (en2 : EnvOk (F.shl CS a b db) H2 σ2 ρ2) : EnvOk F H2 σ2 ρ2 := fun m sv em => by
  obtain ⟨y, qy, r⟩ := en2 m sv em
  refine ⟨y, qy, ?_⟩
  cases sv with
  | un => trivial
  | d u => obtain ⟨w, e1, r⟩ := r; exact ⟨w, e1, repS r⟩
  | raw w => exact r
  | own o xs =>
    obtain ⟨e1, e2, e3, e4, vs, e5, e6⟩ := r
    refine ⟨e1, ?_, fun z => e3 (.inl z), e4, vs, e5, RepAll.keep (S := (F.shl CS a b db).S) (S' := F.S) (fun _ _ _ q => q) (fun b _ z => .inl z) _ _ e6⟩
    rcases e2 with z | z
    · exact z
    · exact absurd (.inr z) e3
def spShI (K : PySem.W.Frag) (CS : Addr) : Sp := fun vs H Q _ => ∃ a b db, vs = [.ref b, .ref a] ∧ H b = some (.ins CS db []) ∧ Q .non (upd H b (.ins CS db [("deck", .ref a)]))
section
variable {F : Fm} {C : Cs} {CS a f : Addr} {ρ : Rho} {k : Nat} {P : DE} {pos p cp px py : Pos} {xc x y : Str} {j : Nat} {fd : FuncData} {ps : List Str} {rest : List Stmt}
theorem make_shell {σ : L2.St} {H : Hp} {Q : VK} (jj : J F k H) {t : TE} (ht : ∀ R : VK, (R (.ref a) H) → t σ H R)
    (h : ∀ b db H', ¬ F.M b → ¬ F.M db → IntoS F H CS a b db k H' → Q (.ref b) H') :
    tMake CS (spShI C.K CS) [] E0 (tCons t tNil) σ H Q := by
  refine ht _ ?_
  intro b db hb hdb hne
  have hMb : ¬ F.M b := fun z => F.gl _ _ jj.g b z hb
  have hMd : ¬ F.M db := fun z => F.gl _ _ jj.g db z hdb
  refine ⟨a, b, db, rfl, upd_same, rfl, ?_⟩
  have eH : upd (upd (upd H db (.own b)) b (.ins CS db [])) b (.ins CS db [("deck", .ref a)]) = upd (upd H db (.own b)) b (.ins CS db [("deck", .ref a)]) := upd_upd
  rw [eH]
  generalize hH' : upd (upd H db (.own b)) b (.ins CS db [("deck", .ref a)]) = H'
  have all : ∀ z o, H z = some o → H' z = some o := fun z o q => by
    rw [← hH', upd_ne (ne_of_none q hb), upd_ne (ne_of_none q hdb)]; exact q
  have so : ShO CS a b db H' := ⟨by rw [← hH', upd_same], by rw [← hH', upd_ne hne, upd_same]⟩
  have h0b := jj.h0 hMb hb
  have h0d := jj.h0 hMd hdb
  refine h b db H' hMb hMd ⟨⟨⟨F.gm k H _ jj.g (fun z hz => ?_) (fun z o _ q => all z o q), so⟩, fun z o n q => all z o (jj.le z o (fun y => ?_) q), fun z hz => ?_⟩, fun σ ρ en m sv em => ?_, fun H2 lz z o n q => ?_, fun c H2 j2 => ?_⟩
  · cases q : H z with
    | none => exact absurd q (F.gl _ _ jj.g z hz)
    | some o => exact all z o q
  · rcases y with y | y
    · exact n (.inl (.inl y))
    · exact n (.inr y)
  · rcases hz with hz | rfl | rfl
    · exact (jj.al z hz).keep fun o q => all z o q
    · exact ⟨_, so.ib, fun _ z => nomatch z⟩
    · exact ⟨_, so.id, fun _ z => nomatch z⟩
  · obtain ⟨y, qy, r⟩ := en m sv em
    refine ⟨y, qy, ?_⟩
    have repd : ∀ {w : V} {u : PyData}, Rp F H w u → Rp (F.shl CS a b db) H' w u := fun {w u} r => Rep.keep (S := F.S) (S' := (F.shl CS a b db).S) (fun b o _ q => all b o q) (fun z hz w => by
      rcases w with w | rfl | rfl
      · exact w
      · exact absurd hb hz
      · exact absurd hdb hz) _ _ r
    have repa : ∀ {w : List V} {u : List PyData}, RpAll F H w u → RpAll (F.shl CS a b db) H' w u := fun {w u} r => RepAll.keep (S := F.S) (S' := (F.shl CS a b db).S) (fun b o _ q => all b o q) (fun z hz w => by
      rcases w with w | rfl | rfl
      · exact w
      · exact absurd hb hz
      · exact absurd hdb hz) _ _ r
    cases sv with
    | un => trivial
    | d u => obtain ⟨w, e1, r⟩ := r; exact ⟨w, e1, repd r⟩
    | raw w => exact r
    | own o xs =>
      obtain ⟨e1, e2, e3, e4, vs, e5, e6⟩ := r
      refine ⟨e1, .inl e2, fun z => ?_, e4, vs, all o _ e5, repa e6⟩
      rcases z with z | rfl | rfl
      · exact e3 z
      · rw [hb] at e5; cases e5
      · rw [hdb] at e5; cases e5
  · refine lz z o (fun y => ?_) (all z o q)
    rcases y with (y | rfl | rfl) | y
    · exact n (.inl y)
    · rw [hb] at q; cases q
    · rw [hdb] at q; cases q
    · exact n (.inr y)
  · refine ⟨j2.g.1, fun z o n q => j2.le z o (fun y => ?_) q, fun z hz => j2.al z (.inl hz)⟩
    rcases y with (y | rfl | rfl) | y
    · exact n (.inl y)
    · rw [h0b] at q; cases q
    · rw [h0d] at q; cases q
    · exact n (.inr y)
/-- x = Shell(y), the rest in the frame with the shell -/
theorem wb_shell (i i2 : Nat) (t : Tgt C i x) (hN2 : C.N[i2]? = some y) (hv2 : Vis C.sc y) (hr2 : ρ[i2]? = some (.raw (.ref a))) (M : Mk C.K CS f) (G : FnG C.P C.w C.K C.mg C.base j f fd ps (spShI C.K CS)) (hl : j + 1 ≤ C.lvl) (hg : C.sc.names.lookup xc = some .globalImplicit) (hm : C.mg xc = some (.ref CS)) (hb : L2.Binds C.K fd ps [])
    (hs : ∀ env : Env, env.scope = C.sc → swapsWith (.Call (.Name xc p) [.Name y py] [] cp) (some (.Name x px)) pos.line env = pure false)
    (h : ∀ b db, ¬ F.M b → ¬ F.M db → WPB (F.shl CS a b db) C rest (ρ.set i (.raw (.ref b))) k P)
    (hdb : (xc == ("__debug__" : Str)) = false := by decide) (hd : (y == ("__debug__" : Str)) = false := by decide) (hcd : (y == ("__classdict__" : Str)) = false := by decide)
    (hse : ∀ env : Env, starEach [.Name y py] env = (false, eval (.Name y py) env) :: starEach [] env := by intro _; rfl) :
    WPB F C (.Assign [.Name x px] (.Call (.Name xc p) [.Name y py] [] cp) pos :: rest) ρ k P :=
  of_pb (fun X fx => pss_cons (ps_set (by rw [fx.N]; exact t.hN) (by rw [fx.N]; exact t.hi) (by rw [fx.sc]; exact t.hx) (pe_makeG (by rw [fx.K]; exact M) (by rw [fx.P, fx.w, fx.K, fx.mg, fx.base]; exact G) fx.gd (fx.room.mono hl) (by show X.env.scope.names.lookup xc = _; rw [fx.sc]; exact hg) (by rw [fx.mg]; exact hm) (by rw [fx.K]; exact hb) (pa_cons (pe_var (i := i2) (by rw [fx.N]; exact hN2) (by rw [fx.sc]; exact hv2) hd hcd) pa_nil (hse X.env)) hdb (hse X.env) rfl) (hs X.env fx.sc) (by rw [fx.fn, fx.sc]; exact t.hf)) (pbB fx)) fun σ H E en jj q1 q2 q3 q4 => by
    refine make_shell (C := C) (CS := CS) (a := a) (F := F) (k := k) (t := tVar i2) (Q := fun v H' => tB C rest E (σ.set i (some v)) H') jj (fun R r => ⟨_, en.raw hr2, r⟩) fun b db H' hMb hMd into => ?_
    have h0 : F.H0 b = none → ¬ F.M b := fun _ => hMb
    refine h b db hMb hMd (σ.set i (some (.ref b))) H' E ((into.en σ ρ en).set (sv := .raw (.ref b)) rfl) into.j ?_ ?_ ?_ ?_
    · exact fun ρ' σ' k' H2 lz en' j' p => q1 ρ' σ' k' H2 (into.lz H2 lz) (envS h0 en') (into.back _ H2 j') p
    · exact fun v' u k' H2 j' r' p => q2 v' u k' H2 (into.back _ H2 j') (repS r') p
    · exact fun ρ' σ' k' H2 lz en' j' p => q3 ρ' σ' k' H2 (into.lz H2 lz) (envS h0 en') (into.back _ H2 j') p
    · exact fun ρ' σ' k' H2 lz en' j' p => q4 ρ' σ' k' H2 (into.lz H2 lz) (envS h0 en') (into.back _ H2 j') p
end
/-! ### __init__ of a shell -/
section
variable {P : Program} {w : World} {K : PySem.W.Frag} {mg : Str → Option Value} {base : Heap} {CS : Addr}
theorem putF_deck {v : V} : putF "deck" v [] = [(("deck" : Str), v)] := rfl
theorem shinit_ok {qual : Str} {st : Stmt} {f : Addr} {fd : FuncData} {x y z : Str} {p1 p2 p3 p4 : Pos} (Fn : Fun K x qual st f fd) (Sc : FnScope [y, z] [y, z] (defScope st)) (sc : ShC K CS) (hbd : defBody st = [.Assign [.Attribute (.Name y p1) "deck" p2] (.Name z p3) p4])
    (hv1 : Vis (defScope st) y) (hv2 : Vis (defScope st) z) (hs : ∀ env : Env, swapsWith (.Name z p3) (some (.Attribute (.Name y p1) "deck" p2)) p4.line env = pure false)
    (hd : (y == ("__debug__" : Str)) = false := by decide) (hcd : (y == ("__classdict__" : Str)) = false := by decide) (hd2 : (z == ("__debug__" : Str)) = false := by decide) (hcd2 : (z == ("__classdict__" : Str)) = false := by decide) : FnG P w K mg base 1 f fd [y, z] (spShI K CS) := by
  refine FnG.of_body (k := 0) Fn Sc (fun vs H Q E h => ?_) (fun cdv A outer s H vs Q hgd hr h => ?_)
  · obtain ⟨a, b, db, rfl, _⟩ := h
    rfl
  · obtain ⟨a, b, db, rfl, hb, q⟩ := h
    rw [hbd]
    refine ⟨_, pss_one (psFld (C := bodyCs P w K mg base [y, z] (defScope st) 0) (fits_body hgd hr) (pe_var (i := 0) rfl hv1 hd hcd) (pe_var (i := 1) rfl hv2 hd2 hcd2) (hs _)), ?_⟩
    refine ⟨.ref a, rfl, .ref b, rfl, b, CS, db, [], rfl, hb, sc.cl, sc.nd, by show 0 < 1000; decide, ?_⟩
    rw [putF_deck]
    exact q
end
end Dl

namespace Dl
open PySem PySem.Spec PyProof.Rows L2
/-! ### methods of shells -/
def spSh (K : PySem.W.Frag) (C CS : Addr) (Pre : Pg → List PyData → Prop) (R : Pg → List PyData → Pg → PyData → Prop) : Sp := fun vs H Q _ => ∃ (S : Addr → Prop) (a dx b db s t : Addr) (vs' : List V) (ds : List PyData) (g : Pg), vs = .ref b :: vs' ∧ ShO CS a b db H ∧ PiG K C a dx s t g H ∧ (∀ b, S b → Lv H b) ∧ S a ∧ S dx ∧ S b ∧ S db ∧ RepAll K S H vs' ds ∧ Pre g ds ∧
  ∀ v d g' s' t' H', (∀ b o, b ≠ a → b ≠ dx → b ≠ s → b ≠ t → H b = some o → H' b = some o) → (∀ y o, IsX o → H y = some o → ∃ o', IsX o' ∧ H' y = some o') → PiG K C a dx s' t' g' H' → (s' = s ∨ H s' = none) → (t' = t ∨ H t' = none) → Rep K S H' v d → R g ds g' d → Q v H'
section
variable {P : Program} {w : World} {K : PySem.W.Frag} {mg : Str → Option Value} {base : Heap} {C CS : Addr}
theorem sh_ok {x qual : Str} {st : Stmt} {f : Addr} {fd : FuncData} {N ps : List Str} {k : Nat} {Pre : Pg → List PyData → Prop} {R : Pg → List PyData → Pg → PyData → Prop} (Fn : Fun K x qual st f fd) (Sc : FnScope N ps (defScope st)) (len : ∀ g ds, Pre g ds → ds.length + 1 = ps.length)
    (body : ∀ (F : Fm) (a dx b : Addr) (ds : List PyData) (g : Pg), HasPi F C a dx Enc.enc → HasSh F CS a b → F.K = K → Pre g ds → WPB F (bodyCs P w K mg base N (defScope st) k) (defBody st) (.raw (.ref b) :: (ds.map SV.d ++ List.replicate (N.length - (ds.length + 1)) SV.un)) (Enc.enc g) { nx := fun k' _ => ∃ g', k' = Enc.enc g' ∧ R g ds g' .none, rt := fun k' d => ∃ g', k' = Enc.enc g' ∧ R g ds g' d, bk := fun _ _ => False, ct := fun _ _ => False }) :
    FnG P w K mg base (k + 1) f fd ps (spSh K C CS Pre R) := by
  refine FnG.of_body Fn Sc (fun vs H Q E h => ?_) (fun cdv A outer s H vs Q hgd hr h => ?_)
  · obtain ⟨S, a, dx, b, db, s, t, vs', ds, g, rfl, _, _, _, _, _, _, _, rr, hp, _⟩ := h
    rw [List.length_cons, rr.length, len g ds hp]
  · obtain ⟨S, a, dx, b, db, s0, t0, vs', ds, g, rfl, so, dg, al, Sa, Sd, Sb, Sdb, rr, hp, q⟩ := h
    refine ⟨_, pbB (fits_body hgd hr), ?_⟩
    have hS : ∀ b, b = a ∨ b = dx → S b := fun b hb => by rcases hb with rfl | rfl <;> assumption
    have seq : ∀ z, ((piFm K S H C a dx s0 t0 hS).shl CS a b db).S z → S z := fun z hz => by
      rcases hz with hz | rfl | rfl <;> assumption
    have fin : ∀ v d k' H', J ((piFm K S H C a dx s0 t0 hS).shl CS a b db) k' H' → Rep K S H' v d → (∃ g', k' = Enc.enc g' ∧ R g ds g' d) → Q v H' := fun v d k' H' j' rv ⟨g', e, hR⟩ => by
      obtain ⟨g1, s, t, e1, d1, h1, h2, h3, h4⟩ := j'.g.1
      have so' := j'.g.2
      have := Enc.inj _ _ (e.symm.trans e1)
      subst this
      obtain ⟨as, x1, _, x3, _⟩ := d1.xs
      obtain ⟨bs, y1, _, y3, _⟩ := d1.xt
      have jle : ∀ z o, ¬ (z = a ∨ z = dx) → ¬ IsX o → H z = some o → H' z = some o := fun z o nm nx e => by
        by_cases hb : z = b
        · subst hb; rw [so.ib] at e; rw [so'.ib]; exact e
        by_cases hdb : z = db
        · subst hdb; rw [so.id] at e; rw [so'.id]; exact e
        refine j'.le z o (fun y => ?_) e
        rcases y with (y | y | y) | y
        · exact nm y
        · exact hb y
        · exact hdb y
        · exact nx y
      have fresh : ∀ z o, H' z = some o → IsX o → (∀ o, H z = some o → ¬ IsX o) → H z = none := fun z o hz xo hn => by
        cases q : H z with
        | none => rfl
        | some u =>
          have nx := hn u q
          have nm : ¬ (z = a ∨ z = dx) := by
            rintro (rfl | rfl)
            · rw [d1.ia] at hz; cases hz; exact nx_ins xo
            · rw [d1.id] at hz; cases hz; exact nx_own xo
          have := jle z u nm nx q
          rw [hz] at this
          cases this
          exact absurd xo nx
      refine q v d g' s t H' (fun b o n1 n2 n3 n4 e => ?_) h4 d1 (h1.imp id fun h => fresh s _ x1 x3 h) (h2.imp id fun h => fresh t _ y1 y3 h) rv hR
      by_cases x : IsX o
      · exact h3 b o n3 n4 x e
      · exact jle b o (fun z => z.elim n1 n2) x e
    have j0 : J ((piFm K S H C a dx s0 t0 hS).shl CS a b db) (Enc.enc g) H := ⟨⟨⟨g, s0, t0, rfl, dg, .inl rfl, .inl rfl, fun _ _ _ _ _ q => q, fun y o x q => ⟨o, x, q⟩⟩, so⟩, fun b o _ e => e, fun z hz => al z (seq z hz)⟩
    have r2 : RepAll K ((piFm K S H C a dx s0 t0 hS).shl CS a b db).S H vs' ds := RepAll.keep (S := S) (S' := ((piFm K S H C a dx s0 t0 hS).shl CS a b db).S) (fun b o _ q => q) (fun z _ hz => seq z hz) _ _ rr
    have rb : ∀ {H' : Hp} {v : V} {d : PyData}, Rep K ((piFm K S H C a dx s0 t0 hS).shl CS a b db).S H' v d → Rep K S H' v d := fun {H' v d} r => Rep.keep (S := ((piFm K S H C a dx s0 t0 hS).shl CS a b db).S) (S' := S) (fun b o _ q => q) (fun z _ hz => .inl hz) _ _ r
    refine body ((piFm K S H C a dx s0 t0 hS).shl CS a b db) a dx b ds g has_piFm.shl has_shl rfl hp (L2.start N (.ref b :: vs')) H _ (env_raw (F := (piFm K S H C a dx s0 t0 hS).shl CS a b db) r2) j0 ?_ ?_ ?_ ?_
    · exact fun ρ' σ' k' H' _ _ j' e => fin _ .none k' H' j' .non e
    · exact fun v d' k' H' j' r' e => fin v d' k' H' j' (rb r') e
    · exact fun _ _ _ _ _ _ _ z => z.elim
    · exact fun _ _ _ _ _ _ _ z => z.elim
end
/-- what the caller of such a method has of it -/
theorem sh_step {F : Fm} {K : PySem.W.Frag} {C CS a dx b : Addr} {mk : Pg → Nat} {g : Pg} {H : Hp} {vs : List V} {ds : List PyData} {Q : VK} {Φ : Nat → PyData → Prop} {Pre : Pg → List PyData → Prop} {R : Pg → List PyData → Pg → PyData → Prop} (pi : HasPi F C a dx mk) (sh : HasSh F CS a b) (hK : F.K = K) (j : J F (mk g) H) (r : RpAll F H vs ds) (hp : Pre g ds) (hq : ∀ g' d, R g ds g' d → Φ (mk g') d)
    (q : ∀ v d k' H', Le F H H' → J F k' H' → Rp F H' v d → Φ k' d → Q v H') : spSh K C CS Pre R (.ref b :: vs) H Q E0 := by
  subst hK
  obtain ⟨s, t, dg⟩ := pi.get g H j.g
  obtain ⟨db, m1, m2, so⟩ := sh.ex
  refine ⟨F.S, a, dx, b, db, s, t, vs, ds, g, rfl, so _ _ j.g, dg, j.al, F.ms _ pi.ma, F.ms _ pi.md, F.ms _ m1, F.ms _ m2, r, hp, fun v d g' s' t' H' keep e1 dg' hs ht rv hR => ?_⟩
  obtain ⟨le, j'⟩ := pi_move pi j dg keep e1 dg' hs ht
  exact q v d (mk g') H' le j' rv (hq g' d hR)
/-- a method of shells of the class CS, their decks of the class C -/
structure ShM (P : Program) (w : World) (K : PySem.W.Frag) (mg : Str → Option Value) (base : Heap) (C CS : Addr) (lvl : Nat) (m : Str) (Pre : Pg → List PyData → Prop) (R : Pg → List PyData → Pg → PyData → Prop) : Prop where
  cl : Cls K CS
  ex : ∃ (fa : Addr) (fd : FuncData) (ps : List Str), FnG P w K mg base lvl fa fd ps (spSh K C CS Pre R) ∧ Meth K CS m fa ∧ L2.Binds K fd ps []
section
variable {F : Fm} {C : Cs} {Cl CS a dx b : Addr} {mk : Pg → Nat} {g : Pg} {ρ : Rho} {Φ : Nat → PyData → Prop} {e : Expr} {es : List Expr} {pos p py apos : Pos} {x y m : Str} {Pre : Pg → List PyData → Prop} {R : Pg → List PyData → Pg → PyData → Prop} {j : Nat} {P : DE}
theorem sm_none (h : m ≠ "deck") : ([("deck", V.ref a)] : List (Str × V)).lookup m = none := by
  simp only [List.lookup]
  rw [show (m == ("deck" : Str)) = false from by simpa using h]
/-- y.m(e, ..) of a shell -/
theorem we_sx (pi : HasPi F Cl a dx mk) (sh : HasSh F CS a b) (hF : ShM C.P C.w C.K C.mg C.base Cl CS j m Pre R) (hl : j ≤ C.lvl) (hK : F.K = C.K) (i : Nat) (hN : C.N[i]? = some y) (hv : Vis C.sc y) (hr : ρ[i]? = some (.raw (.ref b))) (hmn : m ≠ "deck")
    (h : WPA F C (e :: es) ρ (mk g) fun k1 ds => ∃ mk1 g1, HasPi F Cl a dx mk1 ∧ k1 = mk1 g1 ∧ Pre g1 ds ∧ ∀ g' d, R g1 ds g' d → Φ (mk1 g') d)
    (hd : (y == ("__debug__" : Str)) = false := by decide) (hcd : (y == ("__classdict__" : Str)) = false := by decide) (hst : ∀ env : Env, starEach (e :: es) env = (false, eval e env) :: starEach es env := by intro _; rfl) (hpl : ∀ env : Env, (backTo pos (starEach es env)).any (·.1) = false := by intro _; rfl)
    {pl : Env → Sem Bool} (ht : ∀ env : Env, eval (.Call (.Attribute (.Name y py) m apos) (e :: es) [] pos) env = (do
      let ov ← eval (.Name y py) env
      standAt apos.atName
      let (f, first) ← holding [ov] (getMethod ov m (pl env))
      callWith pos f first (backTo pos (starEach (e :: es) env)) (backToKw pos (keywordEach [] env))) := by intro _; rfl) :
    WPE F C (.Call (.Attribute (.Name y py) m apos) (e :: es) [] pos) ρ (mk g) Φ := by
  obtain ⟨fa, fd, ps, G, hm, hb⟩ := hF.ex
  refine of_pe (fun X fx => pe_methG (pl := pl X.env) (pe_var (i := i) (by rw [fx.N]; exact hN) (by rw [fx.sc]; exact hv) hd hcd) (by rw [fx.K]; exact hF.cl) (by rw [fx.K]; exact hm) (by rw [fx.P, fx.w, fx.K, fx.mg, fx.base]; exact G) fx.gd (fx.room.mono hl) (by rw [fx.K]; exact hb) .nil (paA fx) (hst X.env) (hpl X.env) (ht X.env)) fun σ H Q en jj q => ?_
  obtain ⟨db, m1, m2, so⟩ := sh.ex
  refine ⟨_, en.raw hr, b, db, _, rfl, (so _ _ jj.g).ib, sm_none hmn, ?_⟩
  refine h σ H _ en jj fun vs ds k1 H1 l1 j1 r1 ⟨mk1, g1, pi1, e1, hp, hq⟩ => ?_
  subst e1
  rw [List.append_nil]
  exact sh_step pi1 sh hK j1 r1 hp hq fun v d k' H' l' j' r' p => q v d k' H' (l1.trans l') j' r' p
/-- f(y.deck, ..) of a def that edits decks -/
theorem we_pfS (sc : ShC C.K CS) (pi : HasPi F Cl a dx mk) (sh : HasSh F CS a b) (hF : PiF C.P C.w C.K C.mg C.base Cl j x Pre R) (hl : j ≤ C.lvl) (hK : F.K = C.K) (i : Nat) (hg : C.sc.names.lookup x = some .globalImplicit) (hN : C.N[i]? = some y) (hv : Vis C.sc y) (hr : ρ[i]? = some (.raw (.ref b)))
    (h : WPA F C es ρ (mk g) fun k1 ds => ∃ mk1 g1, HasPi F Cl a dx mk1 ∧ k1 = mk1 g1 ∧ Pre g1 ds ∧ ∀ g' d, R g1 ds g' d → Φ (mk1 g') d)
    (hdb : (x == ("__debug__" : Str)) = false := by decide) (hd : (y == ("__debug__" : Str)) = false := by decide) (hcd : (y == ("__classdict__" : Str)) = false := by decide) (hba : ∀ env : Env, attributeBase (.Name y py) "deck" env (eval (.Name y py) env) = eval (.Name y py) env := by intro _; rfl)
    (hss : ∀ env : Env, starEach (.Attribute (.Name y py) "deck" apos :: es) env = (false, eval (.Attribute (.Name y py) "deck" apos) env) :: starEach es env := by intro _; rfl) (hpl : ∀ env : Env, ((backTo pos (starEach es env)).any fun x => x.fst) = false := by intro _; rfl) :
    WPE F C (.Call (.Name x p) (.Attribute (.Name y py) "deck" apos :: es) [] pos) ρ (mk g) Φ := by
  obtain ⟨fa, fd, ps, G, hm, kp, hb⟩ := hF.ex
  refine of_pe (fun X fx => pe_callF fx G hl hg hm kp hb (pa_cons (peFldN i fx hN hv hd hcd hba) (paA fx) (hss X.env)) hdb hss hpl) fun σ H Q en jj q => ?_
  obtain ⟨db, m1, m2, so⟩ := sh.ex
  refine ⟨_, en.raw hr, b, CS, db, _, _, rfl, (so _ _ jj.g).ib, sc.cl, sc.nd, rfl, ?_⟩
  refine h σ H _ en jj fun vs ds k1 H1 l1 j1 r1 ⟨mk1, g1, pi1, e1, hp, hq⟩ => ?_
  subst e1
  exact pi_step pi1 hK j1 r1 hp hq fun v d k' H' l' j' r' p => q v d k' H' (l1.trans l') j' r' p
end
end Dl

/-! ### x, *y = a list -/
namespace L2
open PySem PySem.Spec PySem.W PyProof.Rows
section
variable {X : Cx} {e1 e2 : Expr} {kk : Nat} {pos sp : Pos} {t : TGs}
def gStar1 (K : PySem.W.Frag) (t : TGs) : TG := fun v σ H Q => ∃ a x xs, v = .ref a ∧ SqL K H a (x :: xs) ∧ ∀ D, H D = none → t [x, .ref D] σ (upd H D (.lst xs)) Q
theorem star_items {pins : List (Addr × Obj)} {σ : St} {H : Hp} {s : Shared} {a : Addr} {x : V} {xs : List V} {Q : List Value → Shared → Prop} (hc : X.calm = true) (I : Inv X pins σ H s) (hq : SqL X.K H a (x :: xs))
    (h : ∀ (u d : Value) (s' : Shared) (D : Addr), H D = none → Inv X pins σ (upd H D (.lst xs)) s' → RelV x u → d = .ref D → Q [u, d] s') : wpAny (model X.prog X.w) X.A (unpackItems (.ref a) 2 (some 1)) Q X.xe s := by
  obtain ⟨its, rv, p, hz⟩ := I.list hq
  cases its with
  | nil => cases rv
  | cons u rest =>
  cases rv with
  | cons ru rr =>
  have hl := p.isList
  have hlt : a ≠ s.heap.objs.size := Nat.ne_of_lt p.lt
  have hsz : (u :: rest).toArray.size = xs.length + 1 := by rw [List.size_toArray, List.length_cons, ← rr.length]
  have hz2 : xs.length + 1 ≤ sizeLine := hz
  unfold unpackItems
  refine wpAny_bind ?_
  unfold notIterableAtAll
  refine wpAny_bind (wpAny_specialOf hl.typeIs slot_list_iter.lookup ?_)
  refine wpAny_pure ?_
  simp only [Bool.false_eq_true, if_false]
  refine wpAny_bind (wpAny_holding (wpAny_pyIter_list hl ?_))
  refine wpAny_bind (wpAny_holding (kun_draw hlt 1 0 _ _ ⟨_, Heap.get?_push_size _ rfl, rfl, rfl⟩ (hl.push _) (by omega) fun h₁ hit₁ hs₁ => ?_))
  have hl₁ : h₁.IsList a (u :: rest).toArray := (hl.push _).extBut hs₁.extBut hlt
  rw [Nat.zero_add] at hit₁
  obtain ⟨oi, hoi, _⟩ := id hit₁
  obtain ⟨ol, hol, _⟩ := id hl₁
  have etk : ((u :: rest).toArray.toList.drop 0).take 1 = [u] := rfl
  rw [etk, if_neg (show ¬ ([u] : List Value).length < 1 from Nat.lt_irrefl 1)]
  refine wpAny_bind (wpAny_holding (kun_collect (s := { s with heap := h₁ }) (T := "list_iterator") (.inr (.inr (.inl rfl))) (Walks.list (A := X.A.in1) (I.ok.hd hc) s.heap.objs.size a hlt (u :: rest).toArray) (fun j w st => st.1.typeIs) (k := 1) (by omega) ⟨hit₁, hl₁⟩ (Heap.lt_size hoi) (Heap.lt_size hol) (fun h₂ tk hk => ?_) (by rw [hsz]; exact hz2)))
  have edr : (u :: rest).toArray.toList.drop 1 = rest := rfl
  rw [edr]
  show wpAny _ _ (if rest.length < 2 - 1 - 1 then _ else _) _ _ _
  rw [if_neg (by omega)]
  show wpAny _ _ (newList (rest.take (rest.length - (2 - 1 - 1))) >>= fun d => pure ([u] ++ [d] ++ rest.drop (rest.length - (2 - 1 - 1)))) _ _ _
  rw [show rest.length - (2 - 1 - 1) = rest.length from rfl, List.take_length, List.drop_length]
  have I2 : Inv X pins σ H { s with heap := h₂, toks := tk } := I.kept (t' := tk) fun b o e => hk b o (Nat.ne_of_lt (Heap.lt_size e)) (hs₁.extBut b o (Nat.ne_of_lt (Heap.lt_size e)) (Heap.get?_push_of_some _ e))
  have hz3 : xs.length ≤ sizeLine := by omega
  refine wpAny_bind (wpAny_newList (wpAny_pure ?_) (by rw [← rr.length]; exact hz3))
  exact h u _ _ _ I2.fresh (I2.lnew (t' := tk) rr hz3) ru rfl
theorem pg_star1 (hc : X.calm = true) (h : PGs X [e1, e2] t) (h1 : (assignEach [e1, .Starred e2 sp] X.env).length = 2 := by rfl) (h2 : (assignEach [e1, .Starred e2 sp] X.env).findIdx? (·.1) = some 1 := by rfl)
    (h3 : (assignEach [e1, .Starred e2 sp] X.env).map (·.2) = (assignEach [e1, e2] X.env).map (·.2) := by rfl) : PG X (.Tuple [e1, .Starred e2 sp] kk pos) (gStar1 X.K t) := by
  refine ⟨fun pins s σ H v u Q I r hw => ?_⟩
  obtain ⟨a, x, xs, e, hq, hw⟩ := hw
  subst e
  cases r
  rw [assign_Tuple]
  refine wpAny_bind (wpAny_standAt ?_)
  unfold unpack
  rw [h1, h2, h3]
  refine wpAny_bind (wpAny_holding (star_items hc I hq fun u d s' D hD I' ru ed => ?_))
  subst ed
  exact h.run pins s' σ _ [x, .ref D] _ Q I' (.cons ru (.cons rfl .nil)) (hw D hD)
end
end L2
namespace Dl
open PySem PySem.Spec PyProof.Rows L2
section
variable {F : Fm} {C : Cs} {ρ : Rho} {k : Nat} {P : DE} {pos p1 p2 p3 p4 sp : Pos} {e : Expr} {x1 x2 : Str} {kk : Nat}
/-- a text that is a global name's -/
theorem we_gstr {x : Str} {n : Str} {t : Tok} {Φ : Nat → PyData → Prop} (hg : C.sc.names.lookup x = some .globalImplicit) (hm : C.mg x = some (.str n t)) (h : Φ k (.str n)) (hd : (x == ("__debug__" : Str)) = false := by decide) : WPE F C (.Name x pos) ρ k Φ :=
  of_pe (fun X fx => pe_glob (v := .str n) (u := .str n t) (by show X.env.scope.names.lookup x = _; rw [fx.sc]; exact hg) (by rw [fx.mg]; exact hm) ⟨t, rfl⟩ hd) fun σ H Q en j q => q _ _ k H .refl j (.str n) h
/-- x, *y = a list of one or more -/
theorem ws_asgStar (i1 i2 : Nat) (t1 : Tgt C i1 x1) (t2 : Tgt C i2 x2) (hK : F.K = C.K)
    (hs : ∀ env : Env, env.scope = C.sc → swapsWithSole [.Tuple [.Name x1 p1, .Starred (.Name x2 p2) sp] kk p4] e pos.line env = pure false) (hw : ∀ env : Env, env.scope = C.sc → swappedStores [.Tuple [.Name x1 p1, .Starred (.Name x2 p2) sp] kk p4] e env = pure none)
    (h : WPE F C e ρ k fun k1 d => ∃ d1 ds, d = .list (d1 :: ds) ∧ P.nx k1 ((ρ.set i1 (.d d1)).set i2 (.d (.list ds)))) : WPS F C (.Assign [.Tuple [.Name x1 p1, .Starred (.Name x2 p2) sp] kk p4] e pos) ρ k P :=
  of_ps (t := tAsg (tE C e) (gStar1 C.K (gCons (gName i1) (gCons (gName i2) gNil)))) (fun X fx => ps_asg (peE fx) (by rw [← fx.K]; exact pg_star1 fx.calm (pgs_cons (t1.pg fx) (pgs_cons (t2.pg fx) pgs_nil))) (hs X.env fx.sc) (hw X.env fx.sc)) fun σ H E en j q1 _ _ _ =>
    h σ H _ en j fun v d k1 H1 l1 j1 r ⟨d1, ds, e, q⟩ => by
      subst e
      cases r with
      | @lst a vs _ ha hr =>
      cases hr with
      | @cons v1 vs1 _ _ r1 hr =>
      refine ⟨a, v1, vs1, rfl, hK ▸ sql_of ha, fun D hD => ?_⟩
      have l2 : Le F H1 (upd H1 D (.lst vs1)) := .new hD
      refine ⟨_, _, rfl, _, _, rfl, rfl, ?_⟩
      exact q1 _ _ k1 _ (l1.trans l2).lz ((((en.le l1).le l2).set (sv := .d d1) ⟨_, rfl, r1.le l2.lz⟩).set (sv := .d (.list ds)) ⟨_, rfl, rep_newL j1 hD hr⟩) (j1.new hD) q
end
end Dl

namespace Dl
open PySem PySem.Spec PyProof.Rows L2
section
variable {F : Fm} {C : Cs} {ρ : Rho} {k : Nat} {P : DE} {Φ : Nat → PyData → Prop} {pos p1 p2 p4 pl pl2 pt : Pos} {a b e : Expr} {rest : List Stmt} {x1 x2 : Str} {kk kt : Nat}
end
end Dl

namespace Dl
open PySem PySem.Spec PyProof.Rows L2
section
variable {F : Fm} {C : Cs} {ρ : Rho} {k : Nat} {Φ : Nat → PyData → Prop} {a b e : Expr} {pos p2 p3 apos : Pos} {jj : Nat}
/-- x.upper() -/
theorem we_upperS (hbase : ∀ env : Env, attributeBase a "upper" env (eval a env) = eval a env) (hline : (apos.endLine == pos.line) = true) (h : WPE F C a ρ k fun k1 x => ∃ z : Str, x = .str z ∧ z.length ≤ 1000000 ∧ Φ k1 (.str (Txt.upper z))) : WPE F C (.Call (.Attribute a "upper" apos) [] [] pos) ρ k Φ :=
  of_pe (fun X fx => pe_upper (peE fx) (hbase X.env) hline) fun σ H Q en j q => by
    show tE C a σ H _
    refine h σ H _ en j fun v d k1 H1 l1 j1 r ⟨z, e1, hz, p⟩ => ?_
    subst e1
    cases r
    exact ⟨⟨_, rfl⟩, z, rfl, rfl, Nat.le_trans hz (by decide), q _ _ k1 H1 l1 j1 (.str _) p⟩
/-- 'c' not in x, texts, the first of one sign -/
theorem we_niSign (hm : behindInMarks .NotIn b = false) (h : WPE F C a ρ k fun k1 x => WPE F C b ρ k1 fun k2 y => ∃ (c : Nat) (z : Str), x = .str ⟨#[c]⟩ ∧ y = .str z ∧ Φ k2 (.bool (!decide (c ∈ z.cps.toList)))) : WPE F C (.Compare a [.NotIn] [b] pos) ρ k Φ :=
  of_pe (fun X fx => pe_cmpR op_notIn_sign (peE fx) (peE fx) hm) fun σ H Q en j q => by
    show tE C a σ H _
    refine h σ H _ en j fun v d k1 H1 l1 j1 r hx => ?_
    show tE C b σ H1 _
    refine hx σ H1 _ (en.le l1) j1 fun vy y k2 H2 l2 j2 r2 ⟨c, z, e1, e2, p⟩ => ?_
    subst e1 e2
    cases r
    cases r2
    exact ⟨c, z, rfl, rfl, q _ _ k2 H2 (l1.trans l2) j2 (.bl _) p⟩
theorem cut_m1 (z : Str) : cutS z none (some (-1)) = ⟨(z.cps.toList.take (z.length - 1)).toArray⟩ := by
  unfold cutS HT.sIx
  dsimp only
  rw [if_pos (by decide), List.drop_zero, Nat.sub_zero, show ((-1 : Int) + (z.length : Int)).toNat = z.length - 1 by omega]
/-- x[:-1] of a text -/
theorem we_cutM1 (h : WPE F C a ρ k fun k1 x => WPE F C e ρ k1 fun k2 y => ∃ z : Str, x = .str z ∧ y = .int (-1) ∧ z.length ≤ 1000000 ∧ Φ k2 (.str ⟨(z.cps.toList.take (z.length - 1)).toArray⟩)) : WPE F C (.Subscript a (.Slice none (some e) none p2) pos) ρ k Φ :=
  of_pe (fun X fx => pe_slice sl_str (peE fx) po_none (po_some (peE fx))) fun σ H Q en j q => by
    show tE C a σ H _
    refine h σ H _ en j fun v d k1 H1 l1 j1 r hx => ?_
    show tE C e σ H1 _
    refine hx σ H1 _ (en.le l1) j1 fun vy y k2 H2 l2 j2 r2 ⟨z, e1, e2, hz, p⟩ => ?_
    subst e1 e2
    cases r
    cases r2
    refine ⟨(-1 : Int), rfl, z, rfl, Nat.le_trans hz (by decide), ?_⟩
    rw [cut_m1]
    exact q _ _ k2 H2 (l1.trans l2) j2 (.str _) p
end
end Dl

set_option maxHeartbeats 2000000
namespace Dl
open PySem PySem.Spec PyProof.Rows L2
/-! ### try with several clauses, each with a name -/
structure Hd where
  x : Str
  n : Str
  np : Pos
  pos' : Pos
  cv : Value
  i : Nat
  b₀ : Stmt
  suite : List Stmt
abbrev Hd.ex (h : Hd) : ExceptHandler := .ExceptHandler (some (.Name h.x h.np)) (some h.n) (h.b₀ :: h.suite) h.pos'
abbrev SuT := Addr → Value → Option Addr → TS
abbrev outE (i : Nat) (D : Ends) : Ends := ⟨fun s h => D.nx (s.set i none) h, D.rt, fun s h => D.bk (s.set i none) h, fun s h => D.ct (s.set i none) h⟩
def wAll (K : PySem.W.Frag) (W : L2.WX) (D : Ends) : List (Hd × SuT) → L2.WX
  | [] => W
  | p :: r => fun cls d s h => ∃ b, PySem.W.exmOne K cls p.1.cv = some b ∧ (b = true → ∀ a, h a = none → p.2 a cls d (outE p.1.i D) (s.set p.1.i (some (.ref a))) h) ∧ (b = false → wAll K W D r cls d s h)
structure HdX (X : Cx) (p : Hd × SuT) : Prop where
  i : X.N[p.1.i]? = some p.1.n
  l : X.env.kindOf p.1.n = some .local
  c : Names X p.1.x p.1.cv
  s : ∀ (a : Addr) (oe : Obj) (cls : Value) (d : Option Addr) (pn : List (Addr × Obj)), Zc cls d oe → (∃ vs, oe.data = .fields vs) → PSs (X.suite a ((a, oe) :: pn)) (p.1.b₀ :: p.1.suite) (p.2 a cls d)
section
variable {X : Cx} {body : List Stmt} {pos : Pos} {tb : L2.WX → TS} {W : L2.WX}
end
section
variable {F : Fm} {C : Cs} {ρ : Rho} {k : Nat} {Ξ Ξ2 : Nat → Rho → Addr → Xf → Prop} {pos : Pos} {P : DE} {body : List Stmt}
structure HdC (C : Cs) (h : Hd) : Prop where
  t : Tgt C h.i h.n
  l : C.sc.names.lookup h.n = some .local
  g : C.sc.names.lookup h.x = some .globalImplicit
  m : C.mg h.x = some h.cv ∨ (C.mg h.x = none ∧ bootBuiltins h.x = some h.cv ∧ h.x ≠ "__name__")
  d : (h.x == ("__debug__" : Str)) = false
def AllW (F : Fm) (C : Cs) (P : DE) (Ξ2 : Nat → Rho → Addr → Xf → Prop) : List Hd → Nat → Rho → Addr → Xf → Prop
  | [], k, ρ, c, y => Ξ2 k ρ c y
  | h :: r, k, ρ, c, y => (PySem.W.exmOne C.K (.ref c) h.cv = some true ∧ ∀ H a d, HasX (F.sus H) d y → HPB (F.sus H) ⟨C, a, c, d⟩ (h.b₀ :: h.suite) (ρ.set h.i (.raw (.ref a))) k (P.out h.i)) ∨ (PySem.W.exmOne C.K (.ref c) h.cv = some false ∧ AllW F C P Ξ2 r k ρ c y)
abbrev suT (C : Cs) (h : Hd) : SuT := fun a cls d => match cls with | .ref c => tBH ⟨C, a, c, d⟩ (h.b₀ :: h.suite) | _ => fun _ _ _ => False
end
end Dl

namespace Dl
open PySem PySem.Spec PyProof.Rows L2
/-! ### try with several clauses that give no name to the exception -/
structure Hn where
  x : Str
  np : Pos
  pos' : Pos
  cv : Value
  b₀ : Stmt
  suite : List Stmt
abbrev Hn.ex (h : Hn) : ExceptHandler := .ExceptHandler (some (.Name h.x h.np)) none (h.b₀ :: h.suite) h.pos'
section
variable {F : Fm} {C : Cs} {ρ : Rho} {k : Nat} {Ξ Ξ2 : Nat → Rho → Addr → Xf → Prop} {pos : Pos} {P : DE} {body : List Stmt}
structure HnC (C : Cs) (h : Hn) : Prop where
  g : C.sc.names.lookup h.x = some .globalImplicit
  m : C.mg h.x = some h.cv ∨ (C.mg h.x = none ∧ bootBuiltins h.x = some h.cv ∧ h.x ≠ "__name__")
  d : (h.x == ("__debug__" : Str)) = false
def AllN (F : Fm) (C : Cs) (P : DE) (Ξ2 : Nat → Rho → Addr → Xf → Prop) : List Hn → Nat → Rho → Addr → Xf → Prop
  | [], k, ρ, c, y => Ξ2 k ρ c y
  | h :: r, k, ρ, c, y => (PySem.W.exmOne C.K (.ref c) h.cv = some true ∧ ∀ H a d, HasX (F.sus H) d y → HPB (F.sus H) ⟨C, a, c, d⟩ (h.b₀ :: h.suite) ρ k P) ∨ (PySem.W.exmOne C.K (.ref c) h.cv = some false ∧ AllN F C P Ξ2 r k ρ c y)
abbrev suN (C : Cs) (h : Hn) : SuT := fun a cls d => match cls with | .ref c => tBH ⟨C, a, c, d⟩ (h.b₀ :: h.suite) | _ => fun _ _ _ => False
end
section
variable {F : Fm} {C : Cs} {ρ : Rho} {k : Nat} {Φ : Nat → PyData → Prop} {Ξ : Nat → Rho → Addr → Xf → Prop} {a b : Expr} {pos : Pos}
end
end Dl

namespace Dl
open PySem PySem.Spec PyProof.Rows L2
/-! ### new decks and new shells inside expressions -/
structure Into2 (F : Fm) (H : Hp) (Cl a dx : Addr) (k1 : Nat) (d : Nat × List Int) (H' : Hp) : Prop extends Into F H Cl a dx k1 d H' where
  le : ∀ H2, Le (F.deck Cl a dx) H' H2 → Le F H H2
structure IntoS2 (F : Fm) (H : Hp) (CS a b db : Addr) (k : Nat) (H' : Hp) : Prop extends IntoS F H CS a b db k H' where
  le : ∀ H2, Le (F.shl CS a b db) H' H2 → Le F H H2
section
variable {F : Fm} {C : Cs} {Cl f : Addr} {ρ : Rho} {k : Nat} {Φ : Nat → PyData → Prop} {P : DE} {e e2 : Expr} {pos p cp px : Pos} {xc : Str} {j : Nat} {fd : FuncData} {ps : List Str} {Ok : Nat × List Int → Prop}
end
section
variable {F : Fm} {C : Cs} {CS a f : Addr} {ρ : Rho} {k : Nat} {P : DE} {pos p cp px py : Pos} {xc x y : Str} {j : Nat} {fd : FuncData} {ps : List Str} {rest : List Stmt}
end
section
variable {F : Fm} {C : Cs} {Cl CS f f2 : Addr} {ρ : Rho} {k : Nat} {Φ : Nat → PyData → Prop} {P : DE} {e : Expr} {es : List Expr} {pos p p2 cp cp2 px py : Pos} {xc xs x xf : Str} {j j2 lv : Nat} {fd fd2 : FuncData} {ps ps2 : List Str} {Ok : Nat × List Int → Prop} {rest : List Stmt} {Pre : Pg → List PyData → Prop} {R : Pg → List PyData → Pg → PyData → Prop}
end
/-! ### defs that have a shell -/
structure ShF (P : Program) (w : World) (K : PySem.W.Frag) (mg : Str → Option Value) (base : Heap) (C CS : Addr) (lvl : Nat) (x : Str) (Pre : Pg → List PyData → Prop) (R : Pg → List PyData → Pg → PyData → Prop) : Prop where
  ex : ∃ (fa : Addr) (fd : FuncData) (ps : List Str), FnG P w K mg base lvl fa fd ps (spSh K C CS Pre R) ∧ mg x = some (.ref fa) ∧ PySem.W.keepIn K (.ref fa) = true ∧ L2.Binds K fd ps []
section
variable {F : Fm} {C : Cs} {Cl CS a dx b : Addr} {mk : Pg → Nat} {g : Pg} {ρ : Rho} {Φ : Nat → PyData → Prop} {e : Expr} {es : List Expr} {pos p p1 p2 cp cp2 py apos : Pos} {x y xc xs : Str} {Pre : Pg → List PyData → Prop} {R : Pg → List PyData → Pg → PyData → Prop} {j j1 j2 k : Nat} {f1 f2 : Addr} {fd1 fd2 : FuncData} {ps1 ps2 : List Str} {Ok : Nat × List Int → Prop}
end
/-! ### what raises nothing, as what may raise -/
section
variable {P : Program} {w : World} {K : PySem.W.Frag} {mg : Str → Option Value} {base : Heap} {C : Addr}
def okR (R : Pg → List PyData → Pg → PyData → Prop) : RelPE := fun g ds g' o => ∃ d, o = .ok d ∧ R g ds g' d
end
end Dl

namespace Dl
open PySem PySem.Spec PyProof.Rows L2
section
variable {F : Fm} {C : Cs} {ρ : Rho} {k : Nat} {Φ : Nat → PyData → Prop} {pos p1 p2 p3 : Pos} {a : Expr} {jj : Nat}
end
end Dl

namespace Dl
open PySem PySem.Spec PyProof.Rows L2
/-! ### defs that make decks of their own: frames with X = IsX -/
def pureFmX (K : PySem.W.Frag) (S : Addr → Prop) (H : Hp) : Fm where
  K := K
  S := S
  M := fun _ => False
  H0 := H
  G := fun _ H' => ∀ b o, IsX o → H b = some o → H' b = some o
  ms := fun _ h => h.elim
  gm := fun _ _ _ g _ hx b o x q => hx b o (.inl x) (g b o x q)
  gl := fun _ _ _ _ h => h.elim
  X := IsX
  xi := fun _ h => h
  xa := fun _ _ g b o _ x q => ⟨o, x, g b o x q⟩
def drawFmY (K : PySem.W.Frag) (S : Addr → Prop) (H : Hp) (st a : Addr) (hS : ∀ b, DqM st a b → S b) : Fm where
  K := K
  S := S
  M := DqM st a
  H0 := H
  G := fun k H' => DqG st a k H' ∧ ∀ b o, ¬ DqM st a b → IsX o → H b = some o → H' b = some o
  ms := hS
  gm := fun k H' H2 g e hx => ⟨g.1.at e, fun b o nb x q => hx b o (.inl x) (g.2 b o nb x q)⟩
  gl := fun k H g b hb => g.1.live b hb
  X := IsX
  xi := fun _ h => h
  xa := fun k H' g b o nb x q => ⟨o, x, g.2 b o nb x q⟩
section
variable {P : Program} {w : World} {K : PySem.W.Frag} {mg : Str → Option Value} {base : Heap}
end
/-! ### Shell(y).m(e, ..), y a deck -/
section
variable {F : Fm} {C : Cs} {Cl CS a dx f2 : Addr} {mk : Pg → Nat} {g : Pg} {ρ : Rho} {Φ : Nat → PyData → Prop} {e : Expr} {es : List Expr} {pos p2 cp2 py apos : Pos} {y xs m : Str} {Pre : Pg → List PyData → Prop} {R : Pg → List PyData → Pg → PyData → Prop} {j j2 : Nat} {fd2 : FuncData} {ps2 : List Str}
end
/-! ### list(range(a, b)) -/
section
variable {F : Fm} {C : Cs} {ρ : Rho} {k : Nat} {Φ : Nat → PyData → Prop} {a b : Expr} {pos p pr pr2 : Pos}
end
end Dl

namespace Dl
open PySem PySem.Spec PyProof.Rows L2
/-! ### two shells: a loop over them, one of them by its place -/
section
variable {F : Fm} {C : Cs} {ρ : Rho} {k : Nat} {P : DE} {pos p1 p2 tp px : Pos} {x y1 y2 : Str} {kk : Nat} {body : List Stmt}
end
section
variable {F : Fm} {C : Cs} {Cl CS a dx b1 b2 : Addr} {mk : Pg → Nat} {g : Pg} {ρ : Rho} {Φ : Nat → PyData → Prop} {e ix : Expr} {es : List Expr} {pos p1 p2 lp sp apos : Pos} {y1 y2 m : Str} {Pre : Pg → List PyData → Prop} {R : Pg → List PyData → Pg → PyData → Prop} {j : Nat}
end
end Dl

namespace Dl
open PySem PySem.Spec PyProof.Rows L2
/-! ### t[::2], t[1::2], a tuple of one to six -/
def evs {α : Type} : List α → List α
  | [] => []
  | [a] => [a]
  | a :: _ :: r => a :: evs r
def ods {α : Type} : List α → List α
  | [] => []
  | [_] => []
  | _ :: b :: r => b :: ods r
section
variable {prog : Program} {w : World} {A : Around} {E : Value → Shared → Prop} {s : Shared}
end
def tStp (K : PySem.W.Frag) (te : TE) (g : List V → List V) : TE := fun σ H Q => te σ H fun x H1 => ∃ a xs, x = .ref a ∧ SqT K H1 a xs ∧ (1 ≤ xs.length ∧ xs.length ≤ 6) ∧ ∀ p, H1 p = none → Q (.ref p) (upd H1 p (.tup (g xs)))
section
variable {F : Fm} {C : Cs} {ρ : Rho} {k : Nat} {Φ : Nat → PyData → Prop} {pos p p0 p1 p2 p3 : Pos} {a e : Expr} {jj j0 : Nat}
end
end Dl

namespace Dl
open PySem PySem.Spec PyProof.Rows L2
/-! ### sum of a tuple of ints -/
section
variable {F : Fm} {C : Cs} {ρ : Rho} {k : Nat} {Φ : Nat → PyData → Prop} {e : Expr} {pos p : Pos}
end
/-! ### x = [.. for v in range(e)] as an own list -/
def WN2 (F : Fm) (t : TE) (ρ : Rho) (k : Nat) (Φ : Nat → List PyData → Prop) : Prop :=
  ∀ (σ : L2.St) (H : Hp) (Q : VK), EnvOk F H σ ρ → J F k H → (∀ o vs ds k' H', EnvOk (F.ext o) H' σ ρ → J (F.ext o) k' H' → ¬ F.M o → ¬ F.S o → F.H0 o = none → H' o = some (.lst vs) → RpAll (F.ext o) H' vs ds → (∀ H2, Lz (F.ext o) H' H2 → Lz F H H2) → Φ k' ds → Q (.ref o) H') → t σ H Q
section
variable {F : Fm} {ρ : Rho} {k : Nat} {Φ : Nat → List PyData → Prop}
end
section
variable {F : Fm} {C : Cs} {ρ : Rho} {k : Nat} {P : DE} {pos spos : Pos} {elt : Expr} {scope : Scope} {rest : List Stmt}
end
end Dl

namespace Dl
open PySem PySem.Spec PyProof.Rows L2
section
variable {F : Fm} {C : Cs} {ρ : Rho} {k : Nat} {P : DE} {e : Expr} {x a b : Str} {p1 p2 p3 p4 p5 p6 p7 spos : Pos} {kk : Nat}
end
end Dl

namespace Dl
open PySem PySem.Spec PyProof.Rows L2
/-! ### [elt for x, y in zip(tuple, tuple) if c] -/
section
variable {F : Fm} {C : Cs} {ρ : Rho} {k : Nat} {Φ : Nat → PyData → Prop} {P : DE} {pos spos : Pos} {elt e e2 c : Expr} {scope : Scope} {x x1 : Str} {px px1 p3 pr pr2 : Pos} {kk : Nat}
end
end Dl

namespace Dl
open PySem PySem.Spec PyProof.Rows L2
section
variable {F : Fm} {C : Cs} {ρ : Rho} {k : Nat} {P : DE} {pos p1 p2 tp : Pos} {iter : Expr} {x1 x2 : Str} {kk : Nat} {body : List Stmt}
end
end Dl

set_option maxHeartbeats 8000000
namespace K61
open PySem PySem.Spec PyProof.Rows L2 Dl
def topS (i : Nat) : Stmt := PySem.Challenge.pw_cardboxes_k61_unknown_commands.main.body.getD i (.Pass ⟨0, 0, 0, 0⟩)
local macro_rules | `(tactic| walk_at "vis") => `(tactic| first | exact Or.inl rfl | exact Or.inr (Or.inl rfl) | exact Or.inr (Or.inr rfl))
local macro_rules | `(tactic| walk_at "blk") => `(tactic| exact ⟨blkOk_by (by dsimp only [bodyCs, Cs.blk]; decide +kernel), ⟨by dsimp only [bodyCs, Cs.blk]; decide +kernel, rfl, (by first | exact Or.inl rfl | exact Or.inr rfl), (by first | exact Or.inl rfl | exact Or.inr rfl)⟩⟩)
local macro_rules | `(tactic| walk_at "tgt") => `(tactic| exact ⟨by dsimp only [bodyCs, Cs.blk]; decide +kernel, rfl, (by first | exact Or.inl rfl | exact Or.inr rfl), (by first | exact Or.inl rfl | exact Or.inr rfl)⟩)
local macro_rules | `(tactic| walk_at "name") => `(tactic| first
  | ((with_reducible refine' we_name 0 ?n1 ?n2 ?n3 ?_); (case n1 => rfl); (case n2 => walk_at "vis"); (case n3 => rfl))
  | ((with_reducible refine' we_name 1 ?n1 ?n2 ?n3 ?_); (case n1 => rfl); (case n2 => walk_at "vis"); (case n3 => rfl))
  | ((with_reducible refine' we_name 2 ?n1 ?n2 ?n3 ?_); (case n1 => rfl); (case n2 => walk_at "vis"); (case n3 => rfl))
  | ((with_reducible refine' we_name 3 ?n1 ?n2 ?n3 ?_); (case n1 => rfl); (case n2 => walk_at "vis"); (case n3 => rfl))
  | ((with_reducible refine' we_name 4 ?n1 ?n2 ?n3 ?_); (case n1 => rfl); (case n2 => walk_at "vis"); (case n3 => rfl))
  | ((with_reducible refine' we_name 5 ?n1 ?n2 ?n3 ?_); (case n1 => rfl); (case n2 => walk_at "vis"); (case n3 => rfl))
  | ((with_reducible refine' we_name 6 ?n1 ?n2 ?n3 ?_); (case n1 => rfl); (case n2 => walk_at "vis"); (case n3 => rfl))
  | ((with_reducible refine' we_name 7 ?n1 ?n2 ?n3 ?_); (case n1 => rfl); (case n2 => walk_at "vis"); (case n3 => rfl))
  | ((with_reducible refine' we_name 8 ?n1 ?n2 ?n3 ?_); (case n1 => rfl); (case n2 => walk_at "vis"); (case n3 => rfl))
  | ((with_reducible refine' we_name 9 ?n1 ?n2 ?n3 ?_); (case n1 => rfl); (case n2 => walk_at "vis"); (case n3 => rfl))
  | ((with_reducible refine' we_name 10 ?n1 ?n2 ?n3 ?_); (case n1 => rfl); (case n2 => walk_at "vis"); (case n3 => rfl))
  | ((with_reducible refine' we_name 11 ?n1 ?n2 ?n3 ?_); (case n1 => rfl); (case n2 => walk_at "vis"); (case n3 => rfl))
  | ((with_reducible refine' we_name 12 ?n1 ?n2 ?n3 ?_); (case n1 => rfl); (case n2 => walk_at "vis"); (case n3 => rfl))
  | ((with_reducible refine' we_name 13 ?n1 ?n2 ?n3 ?_); (case n1 => rfl); (case n2 => walk_at "vis"); (case n3 => rfl))
  | ((with_reducible refine' we_name 14 ?n1 ?n2 ?n3 ?_); (case n1 => rfl); (case n2 => walk_at "vis"); (case n3 => rfl))
  | ((with_reducible refine' we_name 15 ?n1 ?n2 ?n3 ?_); (case n1 => rfl); (case n2 => walk_at "vis"); (case n3 => rfl)))
local macro_rules | `(tactic| walk_at "dl") => `(tactic| first
  | walk_at "name"
  | with_reducible refine we_int ?_
  | with_reducible refine we_bl ?_
  | with_reducible refine we_str ?_
  | with_reducible refine we_non ?_
  | with_reducible refine wb_cons ?_
  | with_reducible refine wb_nil ?_
  | with_reducible refine ws_ret ?_
  | with_reducible refine ws_retN ?_
  | with_reducible refine ws_if ?_
  | with_reducible refine wa_nil ?_
  | with_reducible refine we_add ?_
  | with_reducible refine we_sub ?_
  | with_reducible refine we_mul ?_
  | with_reducible refine we_fdiv ?_
  | with_reducible refine we_mod ?_
  | with_reducible refine we_shl ?_
  | with_reducible refine we_shr ?_
  | with_reducible refine we_pow ?_
  | with_reducible refine we_band ?_
  | with_reducible refine we_bor ?_
  | with_reducible refine we_bxor ?_
  | with_reducible refine we_neg ?_
  | with_reducible refine wt_lt ?_
  | with_reducible refine wt_le ?_
  | with_reducible refine wt_gt ?_
  | with_reducible refine wt_ge ?_
  | with_reducible refine we_lt ?_
  | with_reducible refine we_le ?_
  | with_reducible refine we_gt ?_
  | with_reducible refine we_ge ?_
  | with_reducible refine wt_not ?_
  | with_reducible refine wt_bool ?_
  | with_reducible refine ww_and ?_
  | with_reducible refine ww_or ?_
  | with_reducible refine ww_and1 ?_
  | with_reducible refine ww_or1 ?_
  | with_reducible refine we_and ?_
  | with_reducible refine we_or ?_
  | with_reducible refine we_one ?_
  | with_reducible refine we_not ?_
  | with_reducible refine we_tup ?_
  | with_reducible refine we_lst ?_
  | with_reducible refine we_isN ?_
  | with_reducible refine wt_isN ?_
  | ((with_reducible refine wa_cons ?s1 ?_); (case s1 => exact fun _ => rfl))
  | ((with_reducible refine we_len ?c1 ?c2 ?c3 ?c4 ?_); (case c1 => assumption); (case c2 => rfl); (case c3 => assumption); (case c4 => exact fun _ => rfl))
  | ((with_reducible refine we_tuple ?c1 ?c2 ?c3 ?c4 ?_); (case c1 => assumption); (case c2 => rfl); (case c3 => assumption); (case c4 => exact fun _ => rfl))
  | ((with_reducible refine we_list ?c1 ?c2 ?c3 ?c4 ?_); (case c1 => assumption); (case c2 => rfl); (case c3 => assumption); (case c4 => exact fun _ => rfl))
  | ((with_reducible refine we_repr ?c1 ?c2 ?c3 ?c4 ?_); (case c1 => assumption); (case c2 => rfl); (case c3 => assumption); (case c4 => exact fun _ => rfl))
  | ((with_reducible refine we_sum ?c1 ?c2 ?c3 ?c4 ?_); (case c1 => assumption); (case c2 => rfl); (case c3 => assumption); (case c4 => exact fun _ => rfl))
  | ((with_reducible refine we_sorted ?c1 ?c2 ?c3 ?c4 ?_); (case c1 => assumption); (case c2 => rfl); (case c3 => assumption); (case c4 => exact fun _ => rfl))
  | ((with_reducible refine we_min ?c1 ?c2 ?c3 ?c4 ?_); (case c1 => assumption); (case c2 => rfl); (case c3 => assumption); (case c4 => exact fun _ => rfl))
  | ((with_reducible refine we_abs ?c2 ?c3 ?c4 ?_); (case c2 => rfl); (case c3 => assumption); (case c4 => exact fun _ => rfl))
  | ((with_reducible refine we_intB ?c2 ?c3 ?c4 ?_); (case c2 => rfl); (case c3 => assumption); (case c4 => exact fun _ => rfl))
  | ((with_reducible refine' we_callP ?c1 ?c2 ?c3 ?c4 ?_ ?c5 ?c6 ?c7); (case c1 => assumption); (case c2 => exact Nat.le_of_ble_eq_true rfl); (case c3 => assumption); (case c4 => rfl); (case c5 => decide); (case c6 => exact fun _ => rfl); (case c7 => exact fun _ => rfl))
  | ((with_reducible refine' we_callD ?c0 ?c1 ?c2 ?c3 0 ?c4 ?c5 ?c6 ?c7 ?_ ?c8 ?c9 ?c10 ?c11 ?c12); (case c0 => first | assumption | exact IsDk.ext (by assumption) _ | exact IsDk.ext (IsDk.ext (by assumption) _) _); (case c1 => assumption); (case c2 => exact Nat.le_of_ble_eq_true rfl); (case c3 => assumption); (case c4 => rfl); (case c5 => rfl); (case c6 => walk_at "vis"); (case c7 => rfl); (case c8 => decide); (case c9 => decide); (case c10 => decide); (case c11 => exact fun _ => rfl); (case c12 => exact fun _ => rfl))
  | ((with_reducible refine' we_callD ?c0 ?c1 ?c2 ?c3 1 ?c4 ?c5 ?c6 ?c7 ?_ ?c8 ?c9 ?c10 ?c11 ?c12); (case c0 => first | assumption | exact IsDk.ext (by assumption) _ | exact IsDk.ext (IsDk.ext (by assumption) _) _); (case c1 => assumption); (case c2 => exact Nat.le_of_ble_eq_true rfl); (case c3 => assumption); (case c4 => rfl); (case c5 => rfl); (case c6 => walk_at "vis"); (case c7 => rfl); (case c8 => decide); (case c9 => decide); (case c10 => decide); (case c11 => exact fun _ => rfl); (case c12 => exact fun _ => rfl))
  | ((with_reducible refine we_ix ?c1 ?c2 ?_); (case c1 => assumption); (case c2 => exact fun _ _ => rfl)))
local macro_rules | `(tactic| walk_at "dx") => `(tactic| first
  | with_reducible refine tl0 ?_
  | with_reducible refine tl1 ?_
  | with_reducible refine tl2 ?_
  | with_reducible refine tl3 ?_
  | with_reducible refine tl4 ?_
  | with_reducible refine tl5 ?_
  | with_reducible refine tl6 ?_
  | with_reducible refine tl7 ?_
  | with_reducible refine ii2 ?_
  | with_reducible refine ii1 ?_
  | with_reducible refine ss2 ?_
  | with_reducible refine bb1 ?_
  | with_reducible refine sqT ?_
  | with_reducible refine sqL ?_
  | walk_at "dl")
local macro_rules | `(tactic| walk_at "dq") => `(tactic| first
  | walk_at "dx"
  | ((with_reducible refine' we_callQ ?c0 ?c1 ?c2 ?c3 0 ?c4 ?c5 ?c6 ?c7 ?_ ?c8 ?c9 ?c10 ?c11 ?c12); (case c0 => first | assumption | exact IsDq.ext (by assumption) _ | exact IsDq.ext (IsDq.ext (by assumption) _) _); (case c1 => assumption); (case c2 => exact Nat.le_of_ble_eq_true rfl); (case c3 => assumption); (case c4 => rfl); (case c5 => rfl); (case c6 => walk_at "vis"); (case c7 => rfl); (case c8 => decide); (case c9 => decide); (case c10 => decide); (case c11 => exact fun _ => rfl); (case c12 => exact fun _ => rfl))
  | ((with_reducible refine' we_callQ ?c0 ?c1 ?c2 ?c3 1 ?c4 ?c5 ?c6 ?c7 ?_ ?c8 ?c9 ?c10 ?c11 ?c12); (case c0 => first | assumption | exact IsDq.ext (by assumption) _ | exact IsDq.ext (IsDq.ext (by assumption) _) _); (case c1 => assumption); (case c2 => exact Nat.le_of_ble_eq_true rfl); (case c3 => assumption); (case c4 => rfl); (case c5 => rfl); (case c6 => walk_at "vis"); (case c7 => rfl); (case c8 => decide); (case c9 => decide); (case c10 => decide); (case c11 => exact fun _ => rfl); (case c12 => exact fun _ => rfl)))
def parts (n : Int) : List Int := (rg (n + 1)).filter fun i => decide (Builtin.bitAnd i n = i)
def Rparts : Rel := fun ds d => ∃ n : Int, ds = [.int n] ∧ (0 ≤ n ∧ n < 1000) ∧ d = .list ((parts n).map PyData.int)
theorem parts_len {n : Int} (h0 : 0 ≤ n) (h1 : n < 1000) : (parts n).length ≤ 1000 := by
  refine Nat.le_trans (List.length_filter_le _ _) ?_
  rw [rg_length]; omega


abbrev nSub : List Str := ["switches", "part"]
theorem scSub : FnScope nSub ["switches"] (defScope (topS 13)) := ⟨rfl, rfl, rfl, by decide +kernel, rfl, by decide +kernel, by decide +kernel⟩
section
variable {P : Program} {w : World} {K : PySem.W.Frag} {mg : Str → Option Value} {base : Heap}
theorem ok_sub {f : Addr} {fd : FuncData} (Fn : Fun K "subsets_of" "subsets_of" (topS 13) f fd) (mr : mg "range" = none) : FnG P w K mg base 1 f fd ["switches"] (spPure K Rparts) := by
  refine pure_ok (k := 0) Fn scSub (fun ds d ⟨n, e, _⟩ => by rw [e]; rfl) (fun F ds d hK ⟨n, e, hn, ed⟩ => ?_)
  subst e ed
  refine wb_cons (ws_ret (we_fR (fun i => decide (Builtin.bitAnd i n = i)) PyData.int 1 (by walk_at "blk") rfl mr (fun _ => rfl) (fun _ _ => rfl) ?_))
  repeat walk_at "dl"
  refine ⟨_, _, rfl, rfl, _, rfl, by omega, by omega, fun D j j0 j1 => ?_, rfl⟩
  refine wt_eqI ?_
  repeat walk_at "dl"
  refine ⟨_, _, rfl, rfl, ?_⟩
  repeat walk_at "dl"
  refine ⟨_, _, rfl, rfl, rfl, rfl, fun _ => ?_⟩
  repeat walk_at "dl"
  exact ⟨rfl, rfl⟩
end


abbrev nCube : List Str := ["cube", "base", "directions", "part"]
theorem scCube : FnScope nCube ["cube"] (defScope (topS 16)) := ⟨rfl, rfl, rfl, by decide +kernel, rfl, by decide +kernel, by decide +kernel⟩
def cubeCards (b q : Int) : List Int := (parts q).map fun i => b + i
def Rcube : Rel := fun ds d => ∃ b q : Int, ds = [.tuple [.int b, .int q]] ∧ (0 ≤ q ∧ q < 1000) ∧ d = .tuple ((cubeCards b q).map PyData.int)
section
variable {P : Program} {w : World} {K : PySem.W.Frag} {mg : Str → Option Value} {base : Heap}
theorem ok_cube {f : Addr} {fd : FuncData} (Fn : Fun K "cube_cards" "cube_cards" (topS 16) f fd) (mt : mg "tuple" = none) (gs : PFn P w K mg base 1 "subsets_of" Rparts) : FnG P w K mg base 2 f fd ["cube"] (spPure K Rcube) := by
  refine pure_ok (k := 1) Fn scCube (fun ds d ⟨b, q, e, _⟩ => by rw [e]; rfl) (fun F ds d hK ⟨b, q, e, hn, ed⟩ => ?_)
  subst e ed
  refine wb_cons (ws_asg2 1 2 (by decide) (by walk_at "tgt") (by walk_at "tgt") hK (fun _ => rfl) (fun _ => rfl) ?_)
  repeat walk_at "dl"
  refine ⟨_, _, rfl, ?_⟩
  repeat walk_at "dl"
  refine we_mL PyData.int (fun i => PyData.int (b + i)) 3 (by walk_at "blk") hK (fun _ _ => rfl) ?_
  repeat walk_at "dl"
  refine ⟨_, ⟨q, rfl, hn, rfl⟩, _, rfl, ?_, fun D j hj => ?_, _, rfl, ?_⟩
  · have := parts_len hn.1 hn.2; omega
  · repeat walk_at "dl"
    exact ⟨_, _, rfl, rfl, rfl, rfl⟩
  · show PyData.tuple _ = PyData.tuple _
    unfold cubeCards
    rw [List.map_map]; rfl
end


theorem band_nat (a b : Nat) : Builtin.bitAnd (a : Int) (b : Int) = ((a &&& b : Nat) : Int) := by
  rw [bitAnd_pp (by omega) (by omega), Int.toNat_natCast, Int.toNat_natCast]
def partsN (q : Nat) : List Nat := (List.range (q + 1)).filter fun i => decide (i &&& q = i)
theorem one_shl (n : Nat) : (1 : Int) * 2 ^ ((n : Int)).toNat = 2 ^ n := by rw [Int.one_mul, Int.toNat_natCast]
theorem pow_le64 {n : Nat} (h : n ≤ 6) : (2 : Int) ^ n ≤ 64 ∧ (1 : Int) ≤ 2 ^ n := by
  have : n = 0 ∨ n = 1 ∨ n = 2 ∨ n = 3 ∨ n = 4 ∨ n = 5 ∨ n = 6 := by omega
  rcases this with rfl | rfl | rfl | rfl | rfl | rfl | rfl <;> decide
def outside (n : Nat) (s : Int) : List Int := (rg (2 ^ n)).filter fun i => decide (Builtin.bitAnd i s = 0)
theorem find_at {α : Type} {p : α → Bool} : ∀ {xs : List α} {j : Nat} {x : α}, xs[j]? = some x → (∀ y ∈ xs.take j, p y = false) → p x = true → xs.find? p = some x
  | y :: ys, 0, x, e, _, h => by cases e; rw [List.find?_cons, h]
  | y :: ys, j + 1, x, e, ha, h => by
    rw [List.find?_cons, ha y (by simp)]
    exact find_at (j := j) (by simpa using e) (fun z hz => ha z (by rw [List.take_succ_cons]; exact List.mem_cons_of_mem _ hz)) h
  | [], j, x, e, _, _ => by simp at e
def missing (cs : List Int) (b q : Int) : Option Int := (cubeCards b q).find? fun c => !decide (c ∈ cs)
def missD (cs : List Int) (b q : Int) : PyData := match missing cs b q with
  | some c => .int c
  | none => .none
def basesL (n : Nat) (cs : List Int) (s : Int) : List Int := (outside n s).filter fun b => (missing cs b s).isNone
theorem ix0T (x : Int) (r : List Int) : ixD (.tuple ((x :: r).map PyData.int)) (.int 0) = some (.int x) := atI_nat (xs := (x :: r).map PyData.int) (j := 0) rfl
def boxD (n : Nat) (cs : List Int) : PyData := .tuple [.int (n : Int), .tuple (cs.map PyData.int)]
theorem outside_len {n : Nat} (h : n ≤ 6) (s : Int) : (outside n s).length ≤ 64 := by
  refine Nat.le_trans (List.length_filter_le _ _) ?_
  rw [rg_length]
  have := pow_le64 h
  omega

abbrev nOut : List Str := ["n", "switches", "other"]
theorem scOut : FnScope nOut ["n", "switches"] (defScope (topS 14)) := ⟨rfl, rfl, rfl, by decide +kernel, rfl, by decide +kernel, by decide +kernel⟩
def Rout : Rel := fun ds d => ∃ (n : Nat) (s : Int), ds = [.int (n : Int), .int s] ∧ n ≤ 6 ∧ d = .list ((outside n s).map PyData.int)
section
variable {P : Program} {w : World} {K : PySem.W.Frag} {mg : Str → Option Value} {base : Heap}
theorem ok_out {f : Addr} {fd : FuncData} (Fn : Fun K "sets_outside" "sets_outside" (topS 14) f fd) (mr : mg "range" = none) : FnG P w K mg base 1 f fd ["n", "switches"] (spPure K Rout) := by
  refine pure_ok (k := 0) Fn scOut (fun ds d ⟨n, s, e, _⟩ => by rw [e]; rfl) (fun F ds d hK ⟨n, s, e, hn, ed⟩ => ?_)
  subst e ed
  refine wb_cons (ws_ret (we_fR (fun i => decide (Builtin.bitAnd i s = 0)) PyData.int 2 (by walk_at "blk") rfl mr (fun _ => rfl) (fun _ _ => rfl) ?_))
  repeat walk_at "dl"
  refine ⟨_, _, rfl, rfl, ⟨by omega, by omega, by decide⟩, ?_⟩
  rw [one_shl]
  have := pow_le64 hn
  refine ⟨_, rfl, by omega, by omega, fun D j j0 j1 => ?_, rfl⟩
  refine wt_eqI ?_
  repeat walk_at "dl"
  refine ⟨_, _, rfl, rfl, ?_⟩
  repeat walk_at "dl"
  refine ⟨_, _, rfl, rfl, rfl, rfl, fun _ => ?_⟩
  repeat walk_at "dl"
  exact ⟨rfl, rfl⟩
end

abbrev nMiss : List Str := ["cards", "cube", "card"]
theorem scMiss : FnScope nMiss ["cards", "cube"] (defScope (topS 17)) := ⟨rfl, rfl, rfl, by decide +kernel, rfl, by decide +kernel, by decide +kernel⟩
def Rmiss : Rel := fun ds d => ∃ (cs : List Int) (b q : Int), ds = [.tuple (cs.map PyData.int), .tuple [.int b, .int q]] ∧ (0 ≤ q ∧ q < 1000) ∧ d = missD cs b q
section
variable {P : Program} {w : World} {K : PySem.W.Frag} {mg : Str → Option Value} {base : Heap}
theorem ok_miss {f : Addr} {fd : FuncData} (Fn : Fun K "first_missing" "first_missing" (topS 17) f fd) (gc : PFn P w K mg base 2 "cube_cards" Rcube) : FnG P w K mg base 3 f fd ["cards", "cube"] (spPure K Rmiss) := by
  refine pure_ok (k := 2) Fn scMiss (fun ds d ⟨cs, b, q, e, _⟩ => by rw [e]; rfl) (fun F ds d hK ⟨cs, b, q, e, hq, ed⟩ => ?_)
  subst e ed
  refine wb_cons (ws_for_tup 2 (by walk_at "tgt") hK (fun _ _ => rfl) ?_)
  repeat walk_at "dl"
  refine ⟨_, ⟨b, q, rfl, hq, rfl⟩, ?_⟩
  refine ⟨fun j k ρ => (∀ y ∈ (cubeCards b q).take j, y ∈ cs) ∧ ∃ x, ρ = [.d (.tuple (cs.map PyData.int)), .d (.tuple [.int b, .int q]), x], _, rfl, ⟨by simp, _, rfl⟩, ?_, ?_⟩
  · rintro j y k ρ hy ⟨hin, x, rfl⟩
    rw [List.getElem?_map] at hy
    cases hc : (cubeCards b q)[j]? with
    | none => rw [hc] at hy; cases hy
    | some c =>
    rw [hc] at hy
    cases hy
    refine wb_cons (ws_if (wt_niI hK rfl ?_))
    repeat walk_at "dl"
    refine ⟨c, cs, rfl, rfl, iteB (fun h => ?_) (fun h => ?_)⟩
    · repeat walk_at "dl"
      show PyData.int c = missD cs b q
      unfold missD missing
      rw [find_at hc (fun y hy => by simp [hin y hy]) h]
    · repeat walk_at "dl"
      refine ⟨fun y hy => ?_, _, rfl⟩
      rw [take_next hc] at hy
      rcases List.mem_append.mp hy with hy | hy
      · exact hin y hy
      · have : y = c := by simpa using hy
        subst this
        simpa using h
  · rintro k ρ ⟨hin, x, rfl⟩
    repeat walk_at "dl"
    show PyData.none = missD cs b q
    unfold missD missing
    rw [List.find?_eq_none.mpr]
    intro y hy
    rw [List.length_map, List.take_length] at hin
    simp [hin y hy]
end

abbrev nBases : List Str := ["box", "switches", "n", "cards", "base"]
theorem scBases : FnScope nBases ["box", "switches"] (defScope (topS 18)) := ⟨rfl, rfl, rfl, by decide +kernel, rfl, by decide +kernel, by decide +kernel⟩
def Rbases : Rel := fun ds d => ∃ (n : Nat) (cs : List Int) (s : Int), ds = [boxD n cs, .int s] ∧ n ≤ 6 ∧ (0 ≤ s ∧ s < 1000) ∧ d = .tuple ((basesL n cs s).map PyData.int)
section
variable {P : Program} {w : World} {K : PySem.W.Frag} {mg : Str → Option Value} {base : Heap}
theorem ok_bases {f : Addr} {fd : FuncData} (Fn : Fun K "bases_of" "bases_of" (topS 18) f fd) (mt : mg "tuple" = none) (go : PFn P w K mg base 1 "sets_outside" Rout) (gm : PFn P w K mg base 3 "first_missing" Rmiss) : FnG P w K mg base 4 f fd ["box", "switches"] (spPure K Rbases) := by
  refine pure_ok (k := 3) Fn scBases (fun ds d ⟨n, cs, s, e, _⟩ => by rw [e]; rfl) (fun F ds d hK ⟨n, cs, s, e, hn, hs, ed⟩ => ?_)
  subst e ed
  refine wb_cons (ws_asg2 2 3 (by decide) (by walk_at "tgt") (by walk_at "tgt") hK (fun _ => rfl) (fun _ => rfl) ?_)
  repeat walk_at "dl"
  refine ⟨_, _, rfl, ?_⟩
  repeat walk_at "dl"
  refine we_fL (fun b => (missing cs b s).isNone) PyData.int PyData.int 4 (by walk_at "blk") hK (fun _ _ => rfl) ?_
  repeat walk_at "dl"
  refine ⟨_, ⟨n, s, rfl, hn, rfl⟩, _, rfl, ?_, fun D b hb => ?_, _, rfl, rfl⟩
  · have := outside_len hn s; omega
  · refine wt_isN ?_
    repeat walk_at "dl"
    refine ⟨by show 2 ≤ sizeLine; decide, ?_⟩
    repeat walk_at "dl"
    refine ⟨_, ⟨cs, b, s, rfl, hs, rfl⟩, rfl, ?_, fun _ => ?_⟩
    · unfold missD
      cases missing cs b s <;> rfl
    · repeat walk_at "dl"
      exact ⟨rfl, rfl⟩
end

abbrev nSolid : List Str := ["box", "switches"]
theorem scSolid : FnScope nSolid ["box", "switches"] (defScope (topS 19)) := ⟨rfl, rfl, rfl, by decide +kernel, rfl, by decide +kernel, by decide +kernel⟩
def solidB (n : Nat) (cs : List Int) (s : Int) : Bool := decide (0 < ((basesL n cs s).length : Int))
def Rsolid : Rel := fun ds d => ∃ (n : Nat) (cs : List Int) (s : Int), ds = [boxD n cs, .int s] ∧ n ≤ 6 ∧ (0 ≤ s ∧ s < 1000) ∧ d = .bool (solidB n cs s)
section
variable {P : Program} {w : World} {K : PySem.W.Frag} {mg : Str → Option Value} {base : Heap}
theorem ok_solid {f : Addr} {fd : FuncData} (Fn : Fun K "is_solid" "is_solid" (topS 19) f fd) (ml : mg "len" = none) (gb : PFn P w K mg base 4 "bases_of" Rbases) : FnG P w K mg base 5 f fd ["box", "switches"] (spPure K Rsolid) := by
  refine pure_ok (k := 4) Fn scSolid (fun ds d ⟨n, cs, s, e, _⟩ => by rw [e]; rfl) (fun F ds d hK ⟨n, cs, s, e, hn, hs, ed⟩ => ?_)
  subst e ed
  refine wb_cons (ws_ret ?_)
  repeat walk_at "dl"
  refine ⟨_, ⟨n, cs, s, rfl, hn, hs, rfl⟩, _, rfl, ?_⟩
  repeat walk_at "dl"
  refine ⟨_, _, rfl, rfl, ?_⟩
  rw [List.length_map]; rfl
end

abbrev nSets : List Str := ["box", "switches"]
theorem scSets : FnScope nSets ["box"] (defScope (topS 20)) := ⟨rfl, rfl, rfl, by decide +kernel, rfl, by decide +kernel, by decide +kernel⟩
def Rsets : Rel := fun ds d => ∃ (n : Nat) (cs : List Int), ds = [boxD n cs] ∧ n ≤ 6 ∧ d = .tuple (((rg (2 ^ n)).filter fun s => solidB n cs s).map PyData.int)
section
variable {P : Program} {w : World} {K : PySem.W.Frag} {mg : Str → Option Value} {base : Heap}
theorem ok_sets {f : Addr} {fd : FuncData} (Fn : Fun K "solid_sets" "solid_sets" (topS 20) f fd) (mt : mg "tuple" = none) (mr : mg "range" = none) (gs : PFn P w K mg base 5 "is_solid" Rsolid) : FnG P w K mg base 6 f fd ["box"] (spPure K Rsets) := by
  refine pure_ok (k := 5) Fn scSets (fun ds d ⟨n, cs, e, _⟩ => by rw [e]; rfl) (fun F ds d hK ⟨n, cs, e, hn, ed⟩ => ?_)
  subst e ed
  have hp := pow_le64 hn
  refine wb_cons (ws_ret (we_tuple hK rfl mt (fun _ => rfl) (we_fR (fun s => solidB n cs s) PyData.int 1 (by walk_at "blk") rfl mr (fun _ => rfl) (fun _ _ => rfl) ?_)))
  repeat walk_at "dl"
  refine ⟨_, rfl, ?_⟩
  refine ⟨_, _, rfl, rfl, ⟨by omega, by omega, by decide⟩, ?_⟩
  rw [one_shl]
  refine ⟨_, rfl, by omega, by omega, fun D s s0 s1 => ?_, _, rfl, rfl⟩
  refine wt_val (fun _ _ => rfl) ?_
  repeat walk_at "dl"
  refine ⟨_, ⟨n, cs, s, rfl, hn, ⟨s0, by omega⟩, rfl⟩, _, rfl, rfl, rfl, fun _ => ?_⟩
  repeat walk_at "dl"
  exact ⟨rfl, rfl⟩
end

structure IsBox (n : Nat) (cs : List Int) : Prop where
  asc : cs.Pairwise (· < ·)
  rng : ∀ c ∈ cs, 0 ≤ c ∧ c < 2 ^ n
structure GoodC (n : Nat) (cs : List Int) : Prop where
  nd : cs.Nodup
  rng : ∀ c ∈ cs, 0 ≤ c ∧ c < 2 ^ n
theorem box_len {n : Nat} {cs : List Int} (hn : n ≤ 6) (b : IsBox n cs) : cs.length ≤ 64 := by
  have key : ∀ (l : List Int) (lo : Int), l.Pairwise (· < ·) → (∀ c ∈ l, lo ≤ c ∧ c < 64) → lo ≤ 64 → (l.length : Int) ≤ 64 - lo := by
    intro l
    induction l with
    | nil => intro lo _ _ h; simp; omega
    | cons x xs ih =>
      intro lo hp hr hlo
      have hx := hr x List.mem_cons_self
      have := ih (x + 1) (List.pairwise_cons.mp hp).2 (fun c hc => ⟨(List.pairwise_cons.mp hp).1 c hc, (hr c (List.mem_cons_of_mem _ hc)).2⟩) (by omega)
      rw [List.length_cons]; omega
  have hp := pow_le64 hn
  have := key cs 0 b.asc (fun c hc => ⟨(b.rng c hc).1, by have := (b.rng c hc).2; omega⟩) (by omega)
  omega
def Boxed (d : PyData) : Prop := ∃ (n : Nat) (cs : List Int), n ≤ 6 ∧ IsBox n cs ∧ d = boxD n cs
theorem box00 (n : Nat) : IsBox n [0] := ⟨List.pairwise_singleton _ _, fun c h => by
  have : c = 0 := by simpa using h
  subst this
  exact ⟨by decide, Int.pow_pos (by decide)⟩⟩
/-- how many binary digits are 1 -/
def bits (n : Nat) : Nat := if n = 0 then 0 else n % 2 + bits (n / 2)
theorem uniqA {α : Type} {R : α → α → Prop} (ir : ∀ a, ¬ R a a) (tr : ∀ a b, R a b → ¬ R b a) : ∀ {xs ys : List α}, xs.Pairwise R → ys.Pairwise R → (∀ a, a ∈ xs ↔ a ∈ ys) → xs = ys
  | [], [], _, _, _ => rfl
  | [], y :: ys, _, _, h => by have := (h y).mpr List.mem_cons_self; cases this
  | x :: xs, [], _, _, h => by have := (h x).mp List.mem_cons_self; cases this
  | x :: xs, y :: ys, hx, hy, h => by
    have hx' := List.pairwise_cons.mp hx
    have hy' := List.pairwise_cons.mp hy
    have e : x = y := by
      rcases List.mem_cons.mp ((h x).mp List.mem_cons_self) with e | m1
      · exact e
      rcases List.mem_cons.mp ((h y).mpr List.mem_cons_self) with e | m2
      · exact e.symm
      exact absurd (hx'.1 y m2) (tr _ _ (hy'.1 x m1))
    subst e
    refine congrArg (x :: ·) (uniqA ir tr hx'.2 hy'.2 fun a => ⟨fun m => ?_, fun m => ?_⟩)
    · rcases List.mem_cons.mp ((h a).mp (List.mem_cons_of_mem _ m)) with e | m'
      · exact absurd (e ▸ hx'.1 a m) (ir x)
      · exact m'
    · rcases List.mem_cons.mp ((h a).mpr (List.mem_cons_of_mem _ m)) with e | m'
      · exact absurd (e ▸ hy'.1 a m) (ir x)
      · exact m'
theorem uniqI {xs ys : List Int} (hx : xs.Pairwise (· < ·)) (hy : ys.Pairwise (· < ·)) (h : ∀ a, a ∈ xs ↔ a ∈ ys) : xs = ys := uniqA (R := fun a b : Int => a < b) (fun a h => by omega) (fun a b h1 h2 => by omega) hx hy h
theorem eqvAll_ints : ∀ xs ys : List Int, PyData.eqvAll (xs.map PyData.int) (ys.map PyData.int) = decide (xs = ys)
  | [], [] => by simp [PyData.eqvAll]
  | [], y :: ys => by simp [PyData.eqvAll]
  | x :: xs, [] => by simp [PyData.eqvAll]
  | x :: xs, y :: ys => by
    have ih := eqvAll_ints xs ys
    simp only [List.map_cons, PyData.eqvAll, PyData.eqv, ih]
    by_cases h1 : x = y <;> by_cases h2 : xs = ys <;> simp [h1, h2]
theorem eqv_intsT (xs ys : List Int) : PyData.eqv (.tuple (xs.map PyData.int)) (.tuple (ys.map PyData.int)) = decide (xs = ys) := by
  simp only [PyData.eqv]; exact eqvAll_ints xs ys
def hasP (cs : List Int) (s p : Int) : Bool := cs.any fun c => decide (Builtin.bitAnd c s = p)
def patsL (cs : List Int) (s : Int) : List Int := (parts s).filter fun p => hasP cs s p
def shownB (cs : List Int) (s : Int) : Bool := (parts s).all fun p => hasP cs s p
theorem parts_asc (s : Int) : (parts s).Pairwise (· < ·) := rg_pairwise.filter _
theorem band_part {c s : Int} (hc : 0 ≤ c) (hs : 0 ≤ s) : Builtin.bitAnd c s ∈ parts s := by
  obtain ⟨c, rfl⟩ : ∃ m : Nat, c = (m : Int) := ⟨c.toNat, by omega⟩
  obtain ⟨s, rfl⟩ : ∃ m : Nat, s = (m : Int) := ⟨s.toNat, by omega⟩
  have h : c &&& s ≤ s := Nat.and_le_right
  rw [band_nat]
  refine List.mem_filter.mpr ⟨mem_rg.mpr ⟨by omega, by omega⟩, decide_eq_true ?_⟩
  rw [band_nat, Nat.and_assoc, Nat.and_self]
theorem mem_pats {cs : List Int} {s : Int} (hb : ∀ c ∈ cs, 0 ≤ c) (hs : 0 ≤ s) (z : Int) : z ∈ patsL cs s ↔ z ∈ cs.map fun c => Builtin.bitAnd c s := by
  unfold patsL hasP
  rw [List.mem_filter, List.any_eq_true, List.mem_map]
  constructor
  · rintro ⟨_, c, hc, e⟩
    exact ⟨c, hc, of_decide_eq_true e⟩
  · rintro ⟨c, hc, rfl⟩
    exact ⟨band_part (hb c hc) hs, c, hc, decide_eq_true rfl⟩
theorem pats_uniq {cs ms : List Int} {s : Int} (hb : ∀ c ∈ cs, 0 ≤ c) (hs : 0 ≤ s) (hw : ms.Pairwise (· < ·)) (hm : ∀ z, z ∈ ms ↔ z ∈ cs.map fun c => Builtin.bitAnd c s) : ms = patsL cs s :=
  uniqI hw ((parts_asc s).filter _) fun z => (hm z).trans (mem_pats hb hs z).symm
theorem shown_dec (cs : List Int) (s : Int) : decide (patsL cs s = parts s) = shownB cs s := by
  unfold patsL shownB
  rw [Bool.eq_iff_iff, decide_eq_true_eq, List.filter_eq_self, List.all_eq_true]
def b6 (s : Nat) : Nat := s % 2 + (s / 2 % 2 + (s / 4 % 2 + (s / 8 % 2 + (s / 16 % 2 + s / 32 % 2))))
theorem box_ge {n : Nat} {cs : List Int} (b : IsBox n cs) : ∀ c ∈ cs, 0 ≤ c := fun c hc => (b.rng c hc).1

abbrev nPat : List Str := ["box", "switches", "card"]
theorem scPat : FnScope nPat ["box", "switches"] (defScope (topS 37)) := ⟨rfl, rfl, rfl, by decide +kernel, rfl, by decide +kernel, by decide +kernel⟩
def Rpat : Rel := fun ds d => ∃ (n : Nat) (cs : List Int) (s : Int), ds = [boxD n cs, .int s] ∧ n ≤ 6 ∧ IsBox n cs ∧ (0 ≤ s ∧ s < 1000) ∧ d = .tuple ((patsL cs s).map PyData.int)
section
variable {P : Program} {w : World} {K : PySem.W.Frag} {mg : Str → Option Value} {base : Heap}
theorem ok_pat {f : Addr} {fd : FuncData} (Fn : Fun K "patterns_of" "patterns_of" (topS 37) f fd) (mt : mg "tuple" = none) (ms : mg "sorted" = none) : FnG P w K mg base 1 f fd ["box", "switches"] (spPure K Rpat) := by
  refine pure_ok (k := 0) Fn scPat (fun ds d ⟨n, cs, s, e, _⟩ => by rw [e]; rfl) (fun F ds d hK ⟨n, cs, s, e, hn, hb, hs, ed⟩ => ?_)
  subst e ed
  have hl := box_len hn hb
  refine wb_cons (ws_ret (we_tuple hK rfl mt (fun _ => rfl) (we_sortSc PyData.int (fun c => Builtin.bitAnd c s) 2 (by walk_at "blk") hK rfl ms (fun _ _ => rfl) (fun _ => rfl) ?_)))
  repeat walk_at "dx"
  refine ⟨.tuple (cs.map PyData.int), rfl, cs, rfl, by omega, fun D c hc => ?_, fun ms hw hm => ⟨_, rfl, ?_⟩⟩
  · repeat walk_at "dx"
    exact ⟨rfl, rfl⟩
  · show PyData.tuple _ = PyData.tuple _
    rw [pats_uniq (box_ge hb) hs.1 hw hm]
end

abbrev nShw : List Str := ["box", "switches"]
theorem scShw : FnScope nShw ["box", "switches"] (defScope (topS 38)) := ⟨rfl, rfl, rfl, by decide +kernel, rfl, by decide +kernel, by decide +kernel⟩
def Rshown : Rel := fun ds d => ∃ (n : Nat) (cs : List Int) (s : Int), ds = [boxD n cs, .int s] ∧ n ≤ 6 ∧ IsBox n cs ∧ (0 ≤ s ∧ s < 1000) ∧ d = .bool (shownB cs s)
section
variable {P : Program} {w : World} {K : PySem.W.Frag} {mg : Str → Option Value} {base : Heap}
theorem ok_shown {f : Addr} {fd : FuncData} (Fn : Fun K "is_shown" "is_shown" (topS 38) f fd) (mt : mg "tuple" = none) (gp : PFn P w K mg base 1 "patterns_of" Rpat) (gs : PFn P w K mg base 1 "subsets_of" Rparts) : FnG P w K mg base 2 f fd ["box", "switches"] (spPure K Rshown) := by
  refine pure_ok (k := 1) Fn scShw (fun ds d ⟨n, cs, s, e, _⟩ => by rw [e]; rfl) (fun F ds d hK ⟨n, cs, s, e, hn, hb, hs, ed⟩ => ?_)
  subst e ed
  refine wb_cons (ws_ret (we_eq hK ?_))
  repeat walk_at "dx"
  refine ⟨_, ⟨n, cs, s, rfl, hn, hb, hs, rfl⟩, ?_⟩
  repeat walk_at "dx"
  refine ⟨_, ⟨s, rfl, hs, rfl⟩, _, rfl, shaped_intsT _, shaped_intsT _, ?_⟩
  show PyData.bool _ = PyData.bool _
  rw [eqv_intsT, shown_dec]
end

abbrev nShs : List Str := ["box", "switches"]
theorem scShs : FnScope nShs ["box"] (defScope (topS 39)) := ⟨rfl, rfl, rfl, by decide +kernel, rfl, by decide +kernel, by decide +kernel⟩
def shownL (n : Nat) (cs : List Int) : List Int := (rg (2 ^ n)).filter fun s => shownB cs s
def Rshs : Rel := fun ds d => ∃ (n : Nat) (cs : List Int), ds = [boxD n cs] ∧ n ≤ 6 ∧ IsBox n cs ∧ d = .tuple ((shownL n cs).map PyData.int)
section
variable {P : Program} {w : World} {K : PySem.W.Frag} {mg : Str → Option Value} {base : Heap}
theorem ok_shs {f : Addr} {fd : FuncData} (Fn : Fun K "shown_sets" "shown_sets" (topS 39) f fd) (mt : mg "tuple" = none) (mr : mg "range" = none) (gs : PFn P w K mg base 2 "is_shown" Rshown) : FnG P w K mg base 3 f fd ["box"] (spPure K Rshs) := by
  refine pure_ok (k := 2) Fn scShs (fun ds d ⟨n, cs, e, _⟩ => by rw [e]; rfl) (fun F ds d hK ⟨n, cs, e, hn, hb, ed⟩ => ?_)
  subst e ed
  have hp := pow_le64 hn
  refine wb_cons (ws_ret (we_tuple hK rfl mt (fun _ => rfl) (we_fR (fun s => shownB cs s) PyData.int 1 (by walk_at "blk") rfl mr (fun _ => rfl) (fun _ _ => rfl) ?_)))
  repeat walk_at "dx"
  refine ⟨.int (n : Int), rfl, ?_⟩
  repeat walk_at "dx"
  refine ⟨⟨by omega, by omega, by decide⟩, ?_⟩
  refine ⟨_, rfl, by rw [one_shl]; omega, by rw [one_shl]; omega, fun D sw s0 s1 => ?_, _, rfl, by rw [one_shl]; rfl⟩
  have hKD : (F.ext D).K = K := hK
  rw [one_shl] at s1
  refine wt_val (fun _ _ => rfl) ?_
  repeat walk_at "dx"
  refine ⟨_, ⟨n, cs, sw, rfl, hn, hb, ⟨s0, by omega⟩, rfl⟩, _, rfl, rfl, rfl, fun _ => ?_⟩
  repeat walk_at "dx"
  exact ⟨rfl, rfl⟩
end


def optD : Option Int → PyData
  | some c => .int c
  | none => .none
theorem shown_mem {n : Nat} {cs : List Int} {s : Int} (h : s ∈ shownL n cs) : 0 ≤ s ∧ s < 2 ^ n := mem_rg.mp (List.mem_filter.mp h).1
def roughO (n : Nat) (cs : List Int) : Option Int := (shownL n cs).find? fun s => !solidB n cs s
abbrev nRgh : List Str := ["box", "switches"]
theorem scRgh : FnScope nRgh ["box"] (defScope (topS 43)) := ⟨rfl, rfl, rfl, by decide +kernel, rfl, by decide +kernel, by decide +kernel⟩
def Rrough : Rel := fun ds d => ∃ (n : Nat) (cs : List Int), ds = [boxD n cs] ∧ n ≤ 6 ∧ IsBox n cs ∧ d = optD (roughO n cs)
section
variable {P : Program} {w : World} {K : PySem.W.Frag} {mg : Str → Option Value} {base : Heap}
theorem ok_rough {f : Addr} {fd : FuncData} (Fn : Fun K "rough_set" "rough_set" (topS 43) f fd) (gh : PFn P w K mg base 3 "shown_sets" Rshs) (gs : PFn P w K mg base 5 "is_solid" Rsolid) : FnG P w K mg base 6 f fd ["box"] (spPure K Rrough) := by
  refine pure_ok (k := 5) Fn scRgh (fun ds d ⟨n, cs, e, _⟩ => by rw [e]; rfl) (fun F ds d hK ⟨n, cs, e, hn, hb, ed⟩ => ?_)
  subst e ed
  have hp := pow_le64 hn
  refine wb_cons (ws_for_tup 1 (by walk_at "tgt") hK (fun _ _ => rfl) ?_)
  repeat walk_at "dx"
  refine ⟨_, ⟨n, cs, rfl, hn, hb, rfl⟩, ?_⟩
  refine ⟨fun j k ρ => (∀ y ∈ (shownL n cs).take j, solidB n cs y = true) ∧ ∃ x, ρ = [.d (boxD n cs), x], _, rfl, ⟨by simp, _, rfl⟩, ?_, ?_⟩
  · rintro j y k ρ hy ⟨hin, x, rfl⟩
    rw [List.getElem?_map, Option.map_eq_some_iff] at hy
    obtain ⟨c, hc, rfl⟩ := hy
    have hcm := shown_mem (List.mem_of_getElem? hc)
    refine wb_cons (ws_if (wt_not (wt_val (fun _ _ => rfl) ?_)))
    repeat walk_at "dx"
    refine ⟨_, ⟨n, cs, c, rfl, hn, ⟨hcm.1, by omega⟩, rfl⟩, _, rfl, iteB (fun h => ?_) (fun h => ?_)⟩
    · repeat walk_at "dx"
      show PyData.int c = optD (roughO n cs)
      unfold roughO
      rw [find_at hc (fun y hy => by simp [hin y hy]) h]; rfl
    · repeat walk_at "dx"
      refine ⟨fun y hy => ?_, _, rfl⟩
      rw [take_next hc] at hy
      rcases List.mem_append.mp hy with hy | hy
      · exact hin y hy
      · have : y = c := by simpa using hy
        subst this
        simpa using h
  · rintro k ρ ⟨hin, x, rfl⟩
    repeat walk_at "dx"
    show PyData.none = optD (roughO n cs)
    unfold roughO
    rw [List.find?_eq_none.mpr]
    · rfl
    intro y hy
    rw [List.length_map, List.take_length] at hin
    simp [hin y hy]
end

def smoothB (n : Nat) (cs : List Int) : Bool := (roughO n cs).isNone

abbrev nScn : List Str := ["box"]
theorem scScn : FnScope nScn ["box"] (defScope (topS 44)) := ⟨rfl, rfl, rfl, by decide +kernel, rfl, by decide +kernel, by decide +kernel⟩
def solidL (n : Nat) (cs : List Int) : List Int := (rg (2 ^ n)).filter fun s => solidB n cs s
def cnt3D (n : Nat) (cs : List Int) : PyData := .tuple [.int ((solidL n cs).length : Nat), .int (cs.length : Nat), .int ((shownL n cs).length : Nat)]
def Rcn3 : Rel := fun ds d => ∃ (n : Nat) (cs : List Int), ds = [boxD n cs] ∧ n ≤ 6 ∧ IsBox n cs ∧ d = cnt3D n cs
section
variable {P : Program} {w : World} {K : PySem.W.Frag} {mg : Str → Option Value} {base : Heap}
theorem ok_cn3 {f : Addr} {fd : FuncData} (Fn : Fun K "set_counts" "set_counts" (topS 44) f fd) (ml : mg "len" = none) (gs : PFn P w K mg base 6 "solid_sets" Rsets) (gh : PFn P w K mg base 3 "shown_sets" Rshs) : FnG P w K mg base 7 f fd ["box"] (spPure K Rcn3) := by
  refine pure_ok (k := 6) Fn scScn (fun ds d ⟨n, cs, e, _⟩ => by rw [e]; rfl) (fun F ds d hK ⟨n, cs, e, hn, hb, ed⟩ => ?_)
  subst e ed
  refine wb_cons (ws_ret ?_)
  repeat walk_at "dx"
  refine ⟨_, ⟨n, cs, rfl, hn, rfl⟩, ?_⟩
  repeat walk_at "dx"
  refine ⟨.tuple (cs.map PyData.int), rfl, ?_⟩
  repeat walk_at "dx"
  refine ⟨_, ⟨n, cs, rfl, hn, hb, rfl⟩, ?_⟩
  repeat walk_at "dx"
  rw [List.length_map, List.length_map, List.length_map]; rfl
end

def cdB (cs : List Int) : Nat → Bool := fun c => decide ((c : Int) ∈ cs)
def oppL (n : Nat) (cs : List Int) : List Int := (rg (2 ^ n)).filter fun c => !decide (c ∈ cs)
def cwL (cs : List Int) (s p : Int) : List Int := cs.filter fun c => decide (Builtin.bitAnd c s = p)
def shcD (cs : List Int) (s : Int) : PyData := match (parts s).find? fun p => (cwL cs s p).isEmpty with
  | some p => .tuple [.str "missing", .int p]
  | none => .tuple [.str "shown", .tuple ((parts s).map fun p => .int ((cwL cs s p).headD 0))]
theorem findAt6 {α : Type} {f : α → Bool} : ∀ {l : List α} {j : Nat} {p : α}, l[j]? = some p → (∀ q ∈ l.take j, f q = false) → f p = true → l.find? f = some p
  | [], j, p, h, _, _ => by simp at h
  | x :: l, 0, p, h, _, hp => by
    have : x = p := by simpa using h
    subst this
    rw [List.find?_cons, hp]
  | x :: l, j + 1, p, h, hq, hp => by
    have hx : f x = false := hq x (by rw [List.take_succ_cons]; exact List.mem_cons_self)
    rw [List.find?_cons, hx]
    exact findAt6 (by simpa using h) (fun q hq' => hq q (by rw [List.take_succ_cons]; exact List.mem_cons_of_mem _ hq')) hp
theorem shc_miss {cs : List Int} {s p : Int} {j : Nat} (h : (parts s)[j]? = some p) (hq : ∀ q ∈ (parts s).take j, (cwL cs s q).isEmpty = false) (hp : (cwL cs s p).isEmpty = true) : shcD cs s = .tuple [.str "missing", .int p] := by
  unfold shcD; rw [findAt6 (f := fun p => (cwL cs s p).isEmpty) h hq hp]
theorem shc_all {cs : List Int} {s : Int} (hq : ∀ q ∈ parts s, (cwL cs s q).isEmpty = false) : shcD cs s = .tuple [.str "shown", .tuple ((parts s).map fun p => .int ((cwL cs s p).headD 0))] := by
  unfold shcD; rw [List.find?_eq_none.mpr fun q hm => by rw [hq q hm]; decide]
theorem ix0L6 (x : Int) (r : List Int) : ixD (.list ((x :: r).map PyData.int)) (.int 0) = some (.int x) := atI_nat (xs := (x :: r).map PyData.int) (j := 0) rfl
abbrev nCw : List Str := ["box", "switches", "pattern", "card"]
theorem scCw : FnScope nCw ["box", "switches", "pattern"] (defScope (topS 40)) := ⟨rfl, rfl, rfl, by decide +kernel, rfl, by decide +kernel, by decide +kernel⟩
def Rcw : Rel := fun ds d => ∃ (n : Nat) (cs : List Int) (s p : Int), ds = [boxD n cs, .int s, .int p] ∧ n ≤ 6 ∧ IsBox n cs ∧ d = .list ((cwL cs s p).map PyData.int)
section
variable {P : Program} {w : World} {K : PySem.W.Frag} {mg : Str → Option Value} {base : Heap}
theorem ok_cw {f : Addr} {fd : FuncData} (Fn : Fun K "cards_with" "cards_with" (topS 40) f fd) : FnG P w K mg base 1 f fd ["box", "switches", "pattern"] (spPure K Rcw) := by
  refine pure_ok (k := 0) Fn scCw (fun ds d ⟨n, cs, s, p, e, _⟩ => by rw [e]; rfl) (fun F ds d hK ⟨n, cs, s, p, e, hn, hb, ed⟩ => ?_)
  subst e ed
  have hl := box_len hn hb
  refine wb_cons (ws_ret (we_fT (fun c => decide (Builtin.bitAnd c s = p)) PyData.int PyData.int 3 (by walk_at "blk") hK (fun _ _ => rfl) ?_))
  repeat walk_at "dx"
  refine ⟨.tuple (cs.map PyData.int), rfl, cs, rfl, by omega, fun D c hc => ?_, rfl⟩
  refine wt_eqI ?_
  repeat walk_at "dx"
  refine ⟨rfl, rfl, fun _ => ?_⟩
  repeat walk_at "dx"
  exact ⟨rfl, rfl⟩
end

abbrev nShc : List Str := ["box", "switches", "smallest", "pattern", "cards"]
theorem scShc : FnScope nShc ["box", "switches"] (defScope (topS 41)) := ⟨rfl, rfl, rfl, by decide +kernel, rfl, by decide +kernel, by decide +kernel⟩
def Rshc : Rel := fun ds d => ∃ (n : Nat) (cs : List Int) (s : Int), ds = [boxD n cs, .int s] ∧ n ≤ 6 ∧ IsBox n cs ∧ (0 ≤ s ∧ s < 1000) ∧ d = shcD cs s
section
variable {P : Program} {w : World} {K : PySem.W.Frag} {mg : Str → Option Value} {base : Heap}
theorem ok_shc {f : Addr} {fd : FuncData} (Fn : Fun K "shown_certificate" "shown_certificate" (topS 41) f fd) (ml : mg "len" = none) (mt : mg "tuple" = none) (gs : PFn P w K mg base 1 "subsets_of" Rparts) (gc : PFn P w K mg base 1 "cards_with" Rcw) : FnG P w K mg base 2 f fd ["box", "switches"] (spPure K Rshc) := by
  refine pure_ok (k := 1) Fn scShc (fun ds d ⟨n, cs, s, e, _⟩ => by rw [e]; rfl) (fun F ds d hK ⟨n, cs, s, e, hn, hb, hs, ed⟩ => ?_)
  subst e ed
  refine wb_own 2 (by walk_at "tgt") (by show 2 < 5; decide) (fun _ _ => rfl) (fun o => ?_)
  have hKo : (F.ext o).K = K := hK
  refine wb_cons (ws_for_list 3 (by walk_at "tgt") hKo (fun _ _ => rfl) ?_)
  repeat walk_at "dx"
  refine ⟨_, ⟨s, rfl, hs, rfl⟩, ?_⟩
  refine ⟨fun j k ρ => (∀ q ∈ (parts s).take j, (cwL cs s q).isEmpty = false) ∧ ∃ x3 x4, plainB x3 = true ∧ plainB x4 = true ∧ ρ = [.d (boxD n cs), .d (.int s), .own o (((parts s).take j).map fun p => .int ((cwL cs s p).headD 0)), x3, x4], _, rfl, ⟨by simp, .un, .un, rfl, rfl, rfl⟩, ?_, ?_⟩
  · rintro j y k ρ hy ⟨hq, x3, x4, h3, h4, rfl⟩
    rw [List.getElem?_map, Option.map_eq_some_iff] at hy
    obtain ⟨p, hp, rfl⟩ := hy
    have hlen : (((parts s).take j).map fun p => PyData.int ((cwL cs s p).headD 0)).length ≤ 1000000 := by
      rw [List.length_map]
      have h1 := List.length_take_le j (parts s)
      have h2 := (List.getElem?_eq_some_iff.mp hp).1
      have h3 := parts_len hs.1 hs.2
      omega
    refine wb_cons (ws_set 4 (by walk_at "tgt") (fun _ _ => rfl) ?_)
    repeat walk_at "dx"
    refine ⟨_, ⟨n, cs, s, p, rfl, hn, hb, rfl⟩, ?_⟩
    refine wb_cons (ws_if (wt_eqI ?_))
    repeat walk_at "dx"
    cases hc : cwL cs s p with
    | nil =>
      refine iteD (fun _ => ?_) (fun h => absurd rfl h)
      rw [shc_miss hp hq (by rw [hc]; rfl)]
      repeat walk_at "dx"
      rfl
    | cons c r =>
      refine iteD (fun h => absurd h ?_) (fun _ => wb_nil ?_)
      · rw [List.length_map, List.length_cons]; omega
      refine wb_cons (ws_append 2 rfl (by walk_at "vis") rfl (by rfl) hlen (fun _ => rfl) ?_ (fun _ => rfl))
      repeat walk_at "dx"
      refine ⟨.int c, ix0L6 c r, ?_⟩
      refine wb_nil ⟨fun q hq' => ?_, .d (.int p), .d (.list ((c :: r).map PyData.int)), rfl, rfl, ?_⟩
      · rw [take_next hp] at hq'
        rcases List.mem_append.mp hq' with h | h
        · exact hq q h
        · have : q = p := by simpa using h
          subst this
          rw [hc]; rfl
      · rw [take_next hp, List.map_append]
        show _ = [_, _, SV.own o (_ ++ [PyData.int ((cwL cs s p).headD 0)]), _, _]
        rw [hc]; rfl
  · rintro k ρ ⟨hq, x3, x4, h3, h4, rfl⟩
    rw [List.length_map, List.take_length] at hq
    rw [shc_all hq]
    refine wb_cons (ws_ret (we_tup (wa_cons (fun _ => rfl) (we_str (wa_cons (fun _ => rfl) (we_tupOwn 2 hKo rfl (by walk_at "vis") rfl rfl mt (wa_nil ?_)))))))
    refine ⟨by show 2 ≤ sizeLine; decide, ?_⟩
    rw [List.length_map, List.take_length]
end

def certD (n : Nat) (cs : List Int) (s : Int) : PyData := match basesL n cs s with
  | b :: _ => .tuple [.str "solid", .int b]
  | [] => .tuple [.str "broken", .tuple ((outside n s).map fun b => missD cs b s)]
theorem certD_cons {n : Nat} {cs : List Int} {s b : Int} {r : List Int} (h : basesL n cs s = b :: r) : certD n cs s = .tuple [.str "solid", .int b] := by unfold certD; rw [h]
theorem certD_nil {n : Nat} {cs : List Int} {s : Int} (h : basesL n cs s = []) : certD n cs s = .tuple [.str "broken", .tuple ((outside n s).map fun b => missD cs b s)] := by unfold certD; rw [h]
abbrev nCert : List Str := ["box", "switches", "bases", "n", "cards", "base"]
theorem scCert : FnScope nCert ["box", "switches"] (defScope (topS 21)) := ⟨rfl, rfl, rfl, by decide +kernel, rfl, by decide +kernel, by decide +kernel⟩
def Rcert : Rel := fun ds d => ∃ (n : Nat) (cs : List Int) (s : Int), ds = [boxD n cs, .int s] ∧ n ≤ 6 ∧ (0 ≤ s ∧ s < 1000) ∧ d = certD n cs s
section
variable {P : Program} {w : World} {K : PySem.W.Frag} {mg : Str → Option Value} {base : Heap}
theorem ok_cert {f : Addr} {fd : FuncData} (Fn : Fun K "solid_certificate" "solid_certificate" (topS 21) f fd) (ml : mg "len" = none) (mt : mg "tuple" = none) (gb : PFn P w K mg base 4 "bases_of" Rbases) (go : PFn P w K mg base 1 "sets_outside" Rout) (gm : PFn P w K mg base 3 "first_missing" Rmiss) : FnG P w K mg base 5 f fd ["box", "switches"] (spPure K Rcert) := by
  refine pure_ok (k := 4) Fn scCert (fun ds d ⟨n, cs, s, e, _⟩ => by rw [e]; rfl) (fun F ds d hK ⟨n, cs, s, e, hn, hs, ed⟩ => ?_)
  subst e ed
  refine wb_cons (ws_set 2 (by walk_at "tgt") (fun _ _ => rfl) ?_)
  repeat walk_at "dl"
  refine ⟨_, ⟨n, cs, s, rfl, hn, hs, rfl⟩, ?_⟩
  refine wb_cons (ws_if ?_)
  repeat walk_at "dl"
  refine ⟨_, rfl, ?_⟩
  repeat walk_at "dl"
  refine ⟨_, _, rfl, rfl, iteD (fun h => ?_) (fun h => ?_)⟩
  · cases hb : basesL n cs s with
    | nil => rw [hb] at h; exact absurd h (by decide)
    | cons b r =>
    rw [certD_cons hb]
    repeat walk_at "dl"
    refine ⟨_, ix0T _ _, ?_⟩
    repeat walk_at "dl"
    exact ⟨by show 2 ≤ sizeLine; decide, rfl⟩
  · have hb : basesL n cs s = [] := by
      cases hb : basesL n cs s with
      | nil => rfl
      | cons b r => rw [hb] at h; exact absurd (show (0 : Int) < (((b :: r).map PyData.int).length : Int) by rw [List.length_map, List.length_cons]; omega) h
    rw [certD_nil hb]
    refine wb_nil ?_
    refine wb_cons (ws_asg2 3 4 (by decide) (by walk_at "tgt") (by walk_at "tgt") hK (fun _ => rfl) (fun _ => rfl) ?_)
    repeat walk_at "dl"
    refine ⟨_, _, rfl, ?_⟩
    repeat walk_at "dl"
    refine we_mL PyData.int (fun b => missD cs b s) 5 (by walk_at "blk") hK (fun _ _ => rfl) ?_
    repeat walk_at "dl"
    refine ⟨_, ⟨n, s, rfl, hn, rfl⟩, _, rfl, ?_, fun D b hbm => ?_, _, rfl, ?_⟩
    · have := outside_len hn s; omega
    · repeat walk_at "dl"
      refine ⟨by show 2 ≤ sizeLine; decide, ?_⟩
      repeat walk_at "dl"
      exact ⟨_, ⟨cs, b, s, rfl, hs, rfl⟩, rfl, rfl⟩
    · repeat walk_at "dl"
      exact ⟨by show 2 ≤ sizeLine; decide, rfl⟩
end

abbrev nDeck : List Str := ["_law_script", "_law_cell"]
theorem scDeck : FnScope nDeck ["_law_script"] (defScope (topS 77)) := ⟨rfl, rfl, rfl, by decide +kernel, rfl, by decide +kernel, by decide +kernel⟩
theorem cutV_ints (ns : List Int) (lo hi : Option Int) : ∃ ms : List Int, cutV (ns.map V.int) lo hi = ms.map V.int ∧ (lo = none → hi = some 63 → ns.length ≤ 63 → ms.length = ns.length) := by
  refine ⟨_, by unfold cutV; rw [← List.map_drop, ← List.map_take], ?_⟩
  rintro rfl rfl h
  rw [List.length_take, List.length_drop, List.length_map]
  rw [show HT.sIx ns.length ns.length (some 63) = min 63 ns.length from HT.sIx_nat ns.length ns.length 63, HT.sIx_none]
  omega
section
variable {P : Program} {w : World} {K : PySem.W.Frag} {mg : Str → Option Value} {base : Heap}
theorem ok_deck {f : Addr} {fd : FuncData} (Fn : Fun K "_law_deck" "_law_deck" (topS 77) f fd) (ma : mg "abs" = none) : FnG P w K mg base 1 f fd ["_law_script"] (spDeck K) := by
  refine FnG.of_body (k := 0) Fn scDeck (fun vs H Q E h => ?_) (fun cdv A outer s H vs Q hgd hr h => ?_)
  · obtain ⟨sc, ns, rfl, _⟩ := h
    rfl
  obtain ⟨sc, ns, rfl, hS, hlen, q⟩ := h
  refine ⟨_, pss_one (ps_ret (pe_lst (pa_cons
      (pe_lc (own := [("_law_cell", 1)]) (g := gName 1) (tt := tYes) rfl scDeck.nd (pi_list (pe_slice sl_list (pv 0) po_none (po_some pe_int))) (blkOk_by (own := [("_law_cell", 1)]) (N := nDeck) (sc := defScope (topS 77)) (by decide +kernel))
        (fun _ _ _ _ _ => pg_name (i := 1) scDeck.nd rfl (Or.inl rfl)) (fun _ _ _ _ _ => pts_nil) (fun _ _ _ _ _ => pe_callB call_abs (by rfl) ma (by decide +kernel) (pa_cons (pv 1) pa_nil)))
      (pa_cons pe_int pa_nil)))), ?_⟩
  refine ⟨.ref sc, rfl, 63, rfl, sc, _, rfl, hS, fun c0 nc0 => ?_⟩
  obtain ⟨ms, em, hml⟩ := cutV_ints ns none (some 63)
  rw [em]
  have hml := hml rfl rfl hlen
  have s0 : Same H (upd H c0 (.lst (ms.map V.int))) := fun b o e => by rw [upd_ne (ne_of_none e nc0)]; exact e
  generalize hH0 : upd H c0 (.lst (ms.map V.int)) = H0 at s0 ⊢
  have hc0 : H0 c0 = some (.lst (ms.map V.int)) := by rw [← hH0, upd_same]
  refine ⟨c0, rfl, ⟨_, SqL.of hc0⟩, fun D hD => ?_⟩
  have hDn : H D = none := s0.free hD
  have hDc : c0 ≠ D := ne_of_none hc0 hD
  refine lc_list (xs := ms.map V.int) (fun n H' => ∃ zs : List Int, zs.length = n ∧ (∀ b o, b ≠ D → H0 b = some o → H' b = some o) ∧ H' D = some (.lst (zs.map V.int))) ⟨[], rfl, fun b o nb e => by rw [upd_ne nb]; exact e, upd_same⟩ (fun n H' _ ⟨zs, _, kp, _⟩ => SqL.of (kp c0 _ hDc hc0)) ?_ ?_
  · rintro n v H' hv ⟨zs, hz, kp, hd⟩
    rw [List.getElem?_map] at hv
    cases hm : ms[n]? with
    | none => rw [hm] at hv; cases hv
    | some y =>
    rw [hm] at hv
    cases hv
    have hn : n < ms.length := (List.getElem?_eq_some_iff.mp hm).1
    refine ⟨rfl, .int y, rfl, y, rfl, _, hd, by rw [List.length_map, hz]; exact small1000 (by omega), zs ++ [if y < 0 then -y else y], by rw [List.length_append, hz]; rfl, fun b o nb e => by rw [upd_ne nb]; exact kp b o nb e, ?_⟩
    rw [upd_same, List.map_append]; rfl
  rintro H1 ⟨zs, hz, kp, hd⟩
  rw [List.length_map, hml] at hz
  have s1 : Same H H1 := fun b o e => kp b o (ne_of_none e hDn) (s0 b o e)
  refine ⟨(by show 2 ≤ sizeLine; decide), fun st nst => ?_⟩
  refine q _ st D (fun b o e => by rw [upd_ne (ne_of_none (s1 b o e) nst)]; exact s1 b o e) (s1.free nst) hDn ⟨zs, 0, upd_same, ?_, by omega, by omega, by omega⟩
  rw [upd_ne (ne_of_none hd nst)]; exact hd
end

abbrev nDrw : List Str := ["_law_deck_here", "_law_many", "_law_cell", "_law_place"]
theorem scDrw : FnScope nDrw ["_law_deck_here", "_law_many"] (defScope (topS 78)) := ⟨rfl, rfl, rfl, by decide +kernel, rfl, by decide +kernel, by decide +kernel⟩
def PreNext : List PyData → Prop := fun ds => ∃ m : Int, ds = [.int m] ∧ 0 < m ∧ m < 1073741824
def RNext : Rel := fun ds d => ∃ m i : Int, ds = [.int m] ∧ d = .int i ∧ 0 ≤ i ∧ i < m
theorem ints_at {ns : List Int} {i : Int} (h0 : 0 ≤ i) (h1 : i < (ns.length : Int)) : ∃ v : Int, atI (ns.map V.int) i = some (.int v) ∧ ixN (ns.map V.int).length i = some i.toNat := by
  have hl : i.toNat < ns.length := by omega
  refine ⟨ns[i.toNat], ?_, ?_⟩
  · have := atI_nat (xs := ns.map V.int) (j := i.toNat) (v := .int ns[i.toNat]) (by rw [List.getElem?_map, List.getElem?_eq_getElem hl]; rfl)
    rw [show ((i.toNat : Nat) : Int) = i by omega] at this
    exact this
  · unfold ixN
    rw [if_pos h0, if_pos (by rw [List.length_map]; exact h1)]
section
variable {P : Program} {w : World} {K : PySem.W.Frag} {mg : Str → Option Value} {base : Heap}
theorem ok_draw83 {f : Addr} {fd : FuncData} (Fn : Fun K "_law_draw" "_law_draw" (topS 78) f fd) (ml : mg "len" = none) : FnG P w K mg base 1 f fd ["_law_deck_here", "_law_many"] (spDrawQ K 1 PreNext RNext) := by
  refine FnG.of_body (k := 0) Fn scDrw (fun vs H Q E h => ?_) (fun cdv A outer s H vs Q hgd hr h => ?_)
  · obtain ⟨S, st, a, vs', ds, k, rfl, _, _, _, rr, ⟨m, rfl, _⟩, _⟩ := h
    rw [List.length_cons, rr.length]; rfl
  obtain ⟨S, st, a, vs', ds, k, rfl, ⟨cells, n, h1, h2, hlen, hn0, hnk⟩, al, hS, rr, ⟨m, rfl, hm0, hm1⟩, q⟩ := h
  cases rr with
  | cons r1 r2 =>
  cases r2
  cases r1
  refine ⟨_, pss_cons (ps_asg (pe_op op_add (pe_ix ix_list (pv 0) pe_int (fun _ _ => rfl)) pe_int) (pg_sub (pv 0) pe_int set_list))
    (pss_cons (ps_set (i := 2) scDrw.nd rfl (.inl rfl) pe_int) (pss_cons (ps_set (i := 3) scDrw.nd rfl (.inl rfl) (pe_un un_neg pe_int))
    (pss_cons (ps_if (pt_cmpR op_gt (pe_callB call_len_seq (by rfl) ml PySem.boot_len (pa_cons (pe_ix ix_list (pv 0) pe_int (fun _ _ => rfl)) pa_nil)) pe_int (nomark _))
      (pss_cons (ps_set (i := 3) scDrw.nd rfl (.inl rfl) (pe_op op_mod (pe_ix ix_list (pv 0) pe_int (fun _ _ => rfl)) (pe_callB call_len_seq (by rfl) ml PySem.boot_len (pa_cons (pe_ix ix_list (pv 0) pe_int (fun _ _ => rfl)) pa_nil))))
        (pss_one (ps_set (i := 2) scDrw.nd rfl (.inl rfl) (pe_ix ix_list (pe_ix ix_list (pv 0) pe_int (fun _ _ => rfl)) (pv 3) (fun _ _ => rfl))))) pss_nil)
    (pss_cons (ps_if (pt_cmpR op_ge (pv 2) (pe_op op_pow pe_int pe_int) (nomark _))
      (pss_cons (ps_asg (pe_op op_fdiv (pv 2) (pv 1)) (pg_sub (pe_ix ix_list (pv 0) pe_int (fun _ _ => rfl)) (pv 3) set_list))
        (pss_one (ps_ret (pe_op op_mod (pv 2) (pv 1))))) pss_nil)
    (pss_one (ps_ret (pe_op op_mod (pe_op op_mod (pe_op op_pow (pe_op op_add (pe_op op_add (pe_op op_mod (pv 2) pe_int) (pe_op op_mul pe_int (pe_ix ix_list (pv 0) pe_int (fun _ _ => rfl)))) pe_int) pe_int) pe_int) (pv 1)))))))), ?_⟩
  -- deck[1] = deck[1] + 1
  refine ⟨.ref st, rfl, st, _, 1, .int n, rfl, rfl, SqL.of h1, rfl, _, _, rfl, rfl, .ref st, rfl, st, _, 1, 1, rfl, rfl, h1, rfl, ?_⟩
  generalize hH0 : upd H st (.lst (List.set [.ref a, .int n] 1 (.int (n + 1)))) = H0
  have hst : st ≠ a := ne_of h1 h2 (fun z => by
    have z' := HO.lst.inj z
    cases cells with
    | nil => cases z'
    | cons c cs => rw [List.map_cons] at z'; injection z' with z1; cases z1)
  have f1 : H0 st = some (.lst [.ref a, .int (n + 1)]) := by rw [← hH0, upd_same]; rfl
  have f2 : H0 a = some (.lst (cells.map V.int)) := by rw [← hH0, upd_ne hst.symm]; exact h2
  have keep0 : ∀ b o, ¬ DqM st a b → H b = some o → H0 b = some o := fun b o nb e => by rw [← hH0, upd_ne (fun z => nb (.inl z))]; exact e
  refine ⟨_, rfl, ?_⟩
  have g1 := f1
  have g2 := f2
  have keep1 := keep0
  have GG : DqG st a k H0 := ⟨cells, n + 1, g1, g2, hlen, by omega, by omega⟩
  have fin : ∀ cv : Int, ((cv % 2147483587 + 7919 * (n + 1) + 1).natAbs < 2 ^ 64) := by
    intro cv
    have := Int.emod_nonneg cv (b := 2147483587) (by decide)
    have := Int.emod_lt_of_pos cv (b := 2147483587) (by decide)
    omega
  -- if len(deck[0]) > 0
  refine ⟨.ref st, rfl, st, _, 0, .ref a, rfl, rfl, SqL.of g1, rfl, a, _, rfl, .inl (SqL.of g2), _, _, rfl, rfl, _, rfl, ite2 (fun hpos => ?_) (fun _ => ?_)⟩
  · have hlc : (0 : Int) < ((cells.map V.int).length : Int) := of_decide_eq_true hpos
    refine ⟨.ref st, rfl, st, _, 1, .int (n + 1), rfl, rfl, SqL.of g1, rfl, .ref st, rfl, st, _, 0, .ref a, rfl, rfl, SqL.of g1, rfl, a, _, rfl, .inl (SqL.of g2), _, _, rfl, rfl, hlc, ?_⟩
    have i0 : 0 ≤ (n + 1) % ((cells.map V.int).length : Int) := Int.emod_nonneg _ (by omega)
    have i1 : (n + 1) % ((cells.map V.int).length : Int) < (cells.length : Int) := by rw [List.length_map] at hlc ⊢; exact Int.emod_lt_of_pos _ hlc
    dsimp only
    generalize (n + 1) % ((cells.map V.int).length : Int) = ix at i0 i1 ⊢
    obtain ⟨cv, c1, c2⟩ := ints_at i0 i1
    refine ⟨.ref st, rfl, st, _, 0, .ref a, rfl, rfl, SqL.of g1, rfl, .int ix, rfl, a, _, ix, _, rfl, rfl, SqL.of g2, c1, ?_⟩
    -- if cell >= 10 ** 18
    refine ⟨.int cv, rfl, _, _, rfl, rfl, ⟨by decide, by decide, by decide⟩, _, _, rfl, rfl, _, rfl, ite2 (fun _ => ?_) (fun _ => ?_)⟩
    · refine ⟨.int cv, rfl, .int m, rfl, _, _, rfl, rfl, ⟨hm0, hm1⟩, .ref st, rfl, st, _, 0, .ref a, rfl, rfl, SqL.of g1, rfl, .int ix, rfl, a, _, ix, _, rfl, rfl, g2, c2, ?_⟩
      refine ⟨.int cv, rfl, .int m, rfl, _, _, rfl, rfl, hm0, ?_⟩
      refine q _ (.int (cv % m)) _ (fun b o nb e => ?_) ?_ (.int _) ⟨m, _, rfl, rfl, Int.emod_nonneg _ (by omega), Int.emod_lt_of_pos _ hm0⟩
      · rw [upd_ne (fun z => nb (.inr z))]; exact keep1 b o nb e
      · have hset : (cells.map V.int).set ix.toNat (.int (cv / m)) = (cells.set ix.toNat (cv / m)).map V.int := by rw [List.map_set]
        rw [hset]
        exact ⟨cells.set ix.toNat (cv / m), n + 1, by rw [upd_ne hst]; exact g1, upd_same, by rw [List.length_set]; exact hlen, by omega, by omega⟩
    · refine ⟨.int cv, rfl, _, _, rfl, rfl, (by dsimp only; decide), .ref st, rfl, st, _, 1, .int (n + 1), rfl, rfl, SqL.of g1, rfl, _, _, rfl, rfl, .inl ⟨by decide, by decide⟩, _, _, rfl, rfl, _, _, rfl, rfl, _, _, rfl, rfl, ⟨by decide, by decide, fin cv⟩, _, _, rfl, rfl, (by dsimp only; decide), .int m, rfl, _, _, rfl, rfl, hm0, ?_⟩
      exact q _ (.int _) _ keep1 GG (.int _) ⟨m, _, rfl, rfl, Int.emod_nonneg _ (by omega), Int.emod_lt_of_pos _ hm0⟩
  · refine ⟨.int 0, rfl, _, _, rfl, rfl, ⟨by decide, by decide, by decide⟩, _, _, rfl, rfl, _, rfl, ite2 (fun z => ?_) (fun _ => ?_)⟩
    · exact absurd z (by decide)
    · refine ⟨.int 0, rfl, _, _, rfl, rfl, (by dsimp only; decide), .ref st, rfl, st, _, 1, .int (n + 1), rfl, rfl, SqL.of g1, rfl, _, _, rfl, rfl, .inl ⟨by decide, by decide⟩, _, _, rfl, rfl, _, _, rfl, rfl, _, _, rfl, rfl, ⟨by decide, by decide, fin 0⟩, _, _, rfl, rfl, (by dsimp only; decide), .int m, rfl, _, _, rfl, rfl, hm0, ?_⟩
      exact q _ (.int _) _ keep1 GG (.int _) ⟨m, _, rfl, rfl, Int.emod_nonneg _ (by omega), Int.emod_lt_of_pos _ hm0⟩
end


/-- the set image of a list of cards, as a box of m switches -/
def imgL (m : Nat) (g : Int → Int) (cs : List Int) : List Int := (rg (2 ^ m)).filter fun z => cs.any fun c => decide (g c = z)
def flipL (n : Nat) (cs : List Int) (f : Int) : List Int := imgL n (fun c => Builtin.bitXor c f) cs
def bitB (s k : Int) : Bool := decide (Builtin.bitAnd (s / 2 ^ k.toNat) 1 = 1)
def woI (c k : Int) : Int := c / 2 ^ (k + 1).toNat * 2 ^ k.toNat + Builtin.bitAnd c (1 * 2 ^ k.toNat - 1)
def bitN (c k : Nat) : Bool := decide (c / 2 ^ k % 2 = 1)
def woN (c k : Nat) : Nat := c / 2 ^ (k + 1) * 2 ^ k + c % 2 ^ k
def widN (m k : Nat) : Nat := m % 2 ^ k + m / 2 ^ k * 2 * 2 ^ k
theorem cast2 (k : Nat) : (2 : Int) ^ k = ((2 ^ k : Nat) : Int) := by rw [Int.natCast_pow]; rfl
theorem band1 (c : Nat) : Builtin.bitAnd (c : Int) 1 = ((c % 2 : Nat) : Int) := by
  have := band_nat c 1
  rw [Nat.and_one_is_mod] at this
  exact this
theorem bit_nat (c k : Nat) : bitB (c : Int) (k : Int) = bitN c k := by
  unfold bitB bitN
  rw [Int.toNat_natCast, cast2, ← Int.natCast_ediv, band1]
  exact decide_eq_decide.mpr (by omega)
def dropL (n : Nat) (cs : List Int) (k : Nat) : List Int := imgL (n - 1) (fun c => woI c k) cs
def holdL (n : Nat) (cs : List Int) (k : Nat) (on : Bool) : List Int := imgL (n - 1) (fun c => woI c k) (cs.filter fun c => bitB c k == on)
def edgeL (n : Nat) (cs : List Int) (k : Nat) : List Int := (holdL n cs k false).filter fun c => decide (c ∈ holdL n cs k true)
def digL (n : Nat) (c : Int) : List Int := (rg (n : Int)).map fun i => Builtin.bitAnd (c / 2 ^ i.toNat) 1
def numL (xs : List Int) : Int := (xs.mapIdx fun i x => x * 2 ^ i).sum
def digN (n c : Nat) : List Nat := (List.range n).map fun i => c / 2 ^ i % 2
def numN : List Nat → Nat
  | [] => 0
  | x :: xs => x + 2 * numN xs
def prcI (cs : List Int) (c k : Int) : Int := if (bitB c k && !decide (c - 1 * 2 ^ k.toNat ∈ cs)) = true then c - 1 * 2 ^ k.toNat else c
def pressL (n : Nat) (cs : List Int) (k : Nat) : List Int := imgL n (fun c => prcI cs c k) cs
section
variable {n k : Nat} {cs : List Int} {r : Nat}
end
def offI (s c : Int) : Int := c - Builtin.bitAnd c s
def Ld (m : Nat) (d : PyData) : Prop := d.canLay0 = true ∧ d.depth ≤ m
theorem Ld.mono {m m' : Nat} {d : PyData} (h : Ld m d) (hm : m ≤ m') : Ld m' d := ⟨h.1, Nat.le_trans h.2 hm⟩
theorem Ld.shaped {m : Nat} {d : PyData} (h : Ld m d) (hm : m ≤ 64) : SeqAt.shaped d = true := by
  unfold SeqAt.shaped
  rw [h.1, decide_eq_true (Nat.le_trans h.2 hm)]; rfl
theorem lay_all {m : Nat} : ∀ {ds : List PyData}, (∀ d ∈ ds, Ld m d) → PyData.canLayAll0 ds = true ∧ PyData.depthAll ds ≤ m
  | [], _ => ⟨by simp [PyData.canLayAll0], by simp [PyData.depthAll]⟩
  | d :: ds, h => by
    obtain ⟨h1, h2⟩ := lay_all (ds := ds) fun x hx => h x (List.mem_cons_of_mem _ hx)
    obtain ⟨h3, h4⟩ := h d List.mem_cons_self
    exact ⟨by simp [PyData.canLayAll0, h1, h3], by simp only [PyData.depthAll]; omega⟩
theorem Ld.list {m : Nat} {ds : List PyData} (h : ∀ d ∈ ds, Ld m d) : Ld (m + 1) (.list ds) := by
  obtain ⟨h1, h2⟩ := lay_all h
  exact ⟨by simp only [PyData.canLay0, h1], by simp only [PyData.depth]; omega⟩
theorem Ld.tuple {m : Nat} {ds : List PyData} (h : ∀ d ∈ ds, Ld m d) : Ld (m + 1) (.tuple ds) := by
  obtain ⟨h1, h2⟩ := lay_all h
  exact ⟨by simp only [PyData.canLay0, h1], by simp only [PyData.depth]; omega⟩
theorem Ld.int (i : Int) : Ld 0 (.int i) := ⟨rfl, Nat.le_refl _⟩
theorem Ld.bool (i : Bool) : Ld 0 (.bool i) := ⟨rfl, Nat.le_refl _⟩
theorem Ld.ints (xs : List Int) : Ld 1 (.list (xs.map PyData.int)) := .list fun d hd => by
  obtain ⟨i, _, rfl⟩ := List.mem_map.mp hd
  exact .int i
theorem Ld.intsT (xs : List Int) : Ld 1 (.tuple (xs.map PyData.int)) := .tuple fun d hd => by
  obtain ⟨i, _, rfl⟩ := List.mem_map.mp hd
  exact .int i
theorem Ld.box (n : Nat) (cs : List Int) : Ld 2 (boxD n cs) := .tuple fun d hd => by
  rcases List.mem_cons.mp hd with rfl | hd
  · exact (Ld.int _).mono (by decide)
  · rw [List.mem_singleton.mp hd]; exact .intsT cs
/-! ### values of any kind: is it a number, a card, a box -/
def numD : PyData → Bool
  | .int _ => true
  | _ => false
def belD (b : Int) : PyData → Bool
  | .int i => decide (0 ≤ i) && decide (i < b)
  | _ => false
def rngD (lo hi : Int) : PyData → Bool
  | .int i => decide (lo ≤ i) && decide (i ≤ hi)
  | _ => false
def pairD : PyData → Bool
  | .tuple ds => decide (ds.length = 2)
  | _ => false
def isTup : PyData → Bool
  | .tuple _ => true
  | _ => false
theorem numD_eq (x : PyData) : numD x = (isiD "int" x && !isiD "bool" x) := by cases x <;> rfl
theorem isTup_eq (x : PyData) : isiD "tuple" x = isTup x := by cases x <;> rfl
theorem num_int {x : PyData} (h : numD x = true) : ∃ i : Int, x = .int i := by cases x <;> first | exact ⟨_, rfl⟩ | cases h
theorem bel_int {b : Int} {x : PyData} (h : belD b x = true) : ∃ i : Int, x = .int i ∧ 0 ≤ i ∧ i < b := by
  cases x with
  | int i =>
    rw [belD, Bool.and_eq_true, decide_eq_true_eq, decide_eq_true_eq] at h
    exact ⟨i, rfl, h.1, h.2⟩
  | _ => cases h
theorem tup_some {x : PyData} (h : isTup x = true) : ∃ ds, x = .tuple ds := by cases x <;> first | exact ⟨_, rfl⟩ | cases h
theorem itP {p : Bool} {A B : Prop} (h : p = true) (x : A) : if p = true then A else B := by rw [if_pos h]; exact x
theorem itN {p : Bool} {A B : Prop} (h : p = false) (x : B) : if p = true then A else B := by rw [if_neg (by rw [h]; decide)]; exact x
def errP (i : PyData) (w : Str) : PyData := .tuple [i, .str w]
/-- the first error of the cards from the i-th on, p the card ahead -/
def cerr (b : Int) : Option Int → Nat → List PyData → PyData
  | _, _, [] => .none
  | p, i, c :: cs => if belD b c = true then (match c with
      | .int v => if (match p with | some q => decide (v ≤ q) | none => false) = true then errP (.int (i : Int)) "order" else cerr b (some v) (i + 1) cs
      | _ => .none) else errP (.int (i : Int)) "card"
theorem cerr_cons (b : Int) (p : Option Int) (i : Nat) (c : PyData) (cs : List PyData) : cerr b p i (c :: cs) = if belD b c = true then (match c with
      | .int v => if (match p with | some q => decide (v ≤ q) | none => false) = true then errP (.int (i : Int)) "order" else cerr b (some v) (i + 1) cs
      | _ => .none) else errP (.int (i : Int)) "card" := by cases c <;> rfl
def berr : PyData → PyData
  | .tuple [n, c] => if belD 7 n = true then (match n, c with
      | .int m, .tuple cs => cerr (2 ^ m.toNat) none 0 cs
      | _, _ => errP .none "cards") else errP .none "switches"
  | _ => errP .none "tuple"
theorem berr_two (a b : PyData) : berr (.tuple [a, b]) = if belD 7 a = true then (match a, b with
      | .int m, .tuple cs => cerr (2 ^ m.toNat) none 0 cs
      | _, _ => errP .none "cards") else errP .none "switches" := rfl
/-- the card ahead of the j-th -/
def prevI (cs : List PyData) : Nat → Option Int
  | 0 => none
  | j + 1 => match cs[j]? with
    | some (.int v) => some v
    | _ => none
def CInv (b : Int) (cs : List PyData) (j : Nat) : Prop := cerr b none 0 cs = cerr b (prevI cs j) j (cs.drop j) ∧ ∀ i, j = i + 1 → ∃ v : Int, cs[i]? = some (.int v)
theorem cinv_zero (b : Int) (cs : List PyData) : CInv b cs 0 := ⟨rfl, fun i h => by omega⟩
theorem cinv_step {b : Int} {cs : List PyData} {j : Nat} {y : PyData} (h : CInv b cs j) (e : cs[j]? = some y) :
    (belD b y = false → cerr b none 0 cs = errP (.int (j : Int)) "card") ∧
    (∀ v : Int, y = .int v → belD b y = true → (∀ q, prevI cs j = some q → v ≤ q → cerr b none 0 cs = errP (.int (j : Int)) "order") ∧ ((∀ q, prevI cs j = some q → ¬ v ≤ q) → CInv b cs (j + 1))) := by
  have hd : cs.drop j = y :: cs.drop (j + 1) := by
    obtain ⟨hl, hv⟩ := List.getElem?_eq_some_iff.mp e
    rw [List.drop_eq_getElem_cons hl, hv]
  have h1 := h.1
  rw [hd, cerr_cons] at h1
  refine ⟨fun hb => by rw [h1, hb]; rfl, fun v hy hb => ?_⟩
  subst hy
  rw [if_pos hb] at h1
  have h1 : cerr b none 0 cs = if (match prevI cs j with | some q => decide (v ≤ q) | none => false) = true then errP (.int (j : Int)) "order" else cerr b (some v) (j + 1) (cs.drop (j + 1)) := h1
  refine ⟨fun q hq hle => ?_, fun hno => ⟨?_, fun i hi => ?_⟩⟩
  · rw [h1, hq]
    show (if decide (v ≤ q) = true then _ else _) = _
    rw [if_pos (decide_eq_true hle)]
  · rw [h1]
    have : prevI cs (j + 1) = some v := by rw [prevI, e]
    rw [this, if_neg]
    cases hp : prevI cs j with
    | none => show ¬ (false = true); decide
    | some q =>
      show ¬ (decide (v ≤ q) = true)
      rw [decide_eq_true_eq]; exact hno q hp
  · have : i = j := by omega
    subst this
    exact ⟨v, e⟩
theorem cinv_end {b : Int} {cs : List PyData} (h : CInv b cs cs.length) : cerr b none 0 cs = .none := by
  have := h.1
  rw [List.drop_length] at this
  rw [this]; cases prevI cs cs.length <;> rfl
theorem pair_some {x : PyData} (h : pairD x = true) : ∃ a b, x = .tuple [a, b] := by
  cases x with
  | tuple ds =>
    have : ds.length = 2 := of_decide_eq_true h
    match ds, this with
    | [a, b], _ => exact ⟨a, b, rfl⟩
  | _ => cases h

abbrev nNum : List Str := ["value"]
theorem scNum : FnScope nNum ["value"] (defScope (topS 5)) := ⟨rfl, rfl, rfl, by decide +kernel, rfl, by decide +kernel, by decide +kernel⟩
def RnumA : Rel := fun ds d => ∃ x : PyData, ds = [x] ∧ d = .bool (numD x)
section
variable {P : Program} {w : World} {K : PySem.W.Frag} {mg : Str → Option Value} {base : Heap}
theorem ok_numA {f : Addr} {fd : FuncData} (Fn : Fun K "is_number" "is_number" (topS 5) f fd) (mi : mg "isinstance" = none) (mn : mg "int" = none) (mb : mg "bool" = none) : FnG P w K mg base 1 f fd ["value"] (spPure K RnumA) := by
  refine pure_ok (k := 0) Fn scNum (fun ds d ⟨x, e, _⟩ => by rw [e]; rfl) (fun F ds d hK ⟨x, e, ed⟩ => ?_)
  subst e ed
  refine wb_cons (ws_ret (we_and (we_isi "int" kit_int hK rfl mi rfl mn rfl (by decide) rfl (fun _ => rfl) ?_)))
  repeat walk_at "dx"
  show if isiD "int" x = true then _ else _
  rw [numD_eq]
  cases hx : isiD "int" x with
  | false => rw [if_neg (by decide)]; rfl
  | true =>
    rw [if_pos rfl]
    refine we_one (we_not (we_isi "bool" kit_bool hK rfl mi rfl mb rfl (by decide) rfl (fun _ => rfl) ?_))
    repeat walk_at "dx"
    rfl
end

abbrev nBel : List Str := ["value", "bound"]
theorem scBel : FnScope nBel ["value", "bound"] (defScope (topS 6)) := ⟨rfl, rfl, rfl, by decide +kernel, rfl, by decide +kernel, by decide +kernel⟩
def RbelA : Rel := fun ds d => ∃ (x : PyData) (b : Int), ds = [x, .int b] ∧ d = .bool (belD b x)
section
variable {P : Program} {w : World} {K : PySem.W.Frag} {mg : Str → Option Value} {base : Heap}
theorem ok_belA {f : Addr} {fd : FuncData} (Fn : Fun K "is_below" "is_below" (topS 6) f fd) (gn : PFn P w K mg base 1 "is_number" RnumA) : FnG P w K mg base 2 f fd ["value", "bound"] (spPure K RbelA) := by
  refine pure_ok (k := 1) Fn scBel (fun ds d ⟨x, b, e, _⟩ => by rw [e]; rfl) (fun F ds d hK ⟨x, b, e, ed⟩ => ?_)
  subst e ed
  refine wb_cons (ws_ret (we_and ?_))
  repeat walk_at "dx"
  refine ⟨_, ⟨x, rfl, rfl⟩, _, rfl, ?_⟩
  cases hx : numD x with
  | false =>
    rw [if_neg (by decide)]
    show PyData.bool false = PyData.bool (belD b x)
    cases x <;> first | rfl | cases hx
  | true =>
    obtain ⟨i, rfl⟩ := num_int hx
    rw [if_pos rfl]
    refine we_one (we_leLt rfl ?_)
    repeat walk_at "dx"
    by_cases h0 : 0 ≤ i
    · rw [if_pos h0]
      repeat walk_at "dx"
      show PyData.bool _ = PyData.bool (decide (0 ≤ i) && decide (i < b))
      rw [decide_eq_true h0]; rfl
    · rw [if_neg h0]
      show PyData.bool _ = PyData.bool (decide (0 ≤ i) && decide (i < b))
      rw [decide_eq_false h0]; rfl
end

abbrev nPr : List Str := ["value"]
theorem scPr : FnScope nPr ["value"] (defScope (topS 8)) := ⟨rfl, rfl, rfl, by decide +kernel, rfl, by decide +kernel, by decide +kernel⟩
def RprA : Rel := fun ds d => ∃ x : PyData, ds = [x] ∧ d = .bool (pairD x)
section
variable {P : Program} {w : World} {K : PySem.W.Frag} {mg : Str → Option Value} {base : Heap}
theorem ok_prA {f : Addr} {fd : FuncData} (Fn : Fun K "is_pair" "is_pair" (topS 8) f fd) (mi : mg "isinstance" = none) (mt : mg "tuple" = none) (ml : mg "len" = none) : FnG P w K mg base 1 f fd ["value"] (spPure K RprA) := by
  refine pure_ok (k := 0) Fn scPr (fun ds d ⟨x, e, _⟩ => by rw [e]; rfl) (fun F ds d hK ⟨x, e, ed⟩ => ?_)
  subst e ed
  refine wb_cons (ws_ret (we_and (we_isi "tuple" kit_tuple hK rfl mi rfl mt rfl (by decide) rfl (fun _ => rfl) ?_)))
  repeat walk_at "dx"
  show if isiD "tuple" x = true then _ else _
  rw [isTup_eq]
  cases hx : isTup x with
  | false =>
    rw [if_neg (by decide)]
    show PyData.bool false = PyData.bool (pairD x)
    cases x <;> first | rfl | cases hx
  | true =>
    obtain ⟨ds, rfl⟩ := tup_some hx
    rw [if_pos rfl]
    refine we_one (we_eqI ?_)
    repeat walk_at "dx"
    show PyData.bool _ = PyData.bool (decide (ds.length = 2))
    congr 1
    exact decide_eq_decide.mpr (by omega)
end

abbrev nIca : List Str := ["n", "value"]
theorem scIca : FnScope nIca ["n", "value"] (defScope (topS 9)) := ⟨rfl, rfl, rfl, by decide +kernel, rfl, by decide +kernel, by decide +kernel⟩
def RicA : Rel := fun ds d => ∃ (n : Int) (x : PyData), ds = [.int n, x] ∧ 0 ≤ n ∧ n ≤ 1000 ∧ d = .bool (belD (2 ^ n.toNat) x)
section
variable {P : Program} {w : World} {K : PySem.W.Frag} {mg : Str → Option Value} {base : Heap}
theorem ok_icA {f : Addr} {fd : FuncData} (Fn : Fun K "is_card" "is_card" (topS 9) f fd) (gb : PFn P w K mg base 2 "is_below" RbelA) : FnG P w K mg base 3 f fd ["n", "value"] (spPure K RicA) := by
  refine pure_ok (k := 2) Fn scIca (fun ds d ⟨n, x, e, _⟩ => by rw [e]; rfl) (fun F ds d hK ⟨n, x, e, h0, h1, ed⟩ => ?_)
  subst e ed
  refine wb_cons (ws_ret ?_)
  repeat walk_at "dx"
  refine ⟨⟨h0, by omega, by decide⟩, ?_⟩
  repeat walk_at "dx"
  rw [Int.one_mul]
  exact ⟨_, ⟨x, _, rfl, rfl⟩, rfl⟩
end

abbrev nCer : List Str := ["n", "cards", "index", "card"]
theorem scCer : FnScope nCer ["n", "cards"] (defScope (topS 11)) := ⟨rfl, rfl, rfl, by decide +kernel, rfl, by decide +kernel, by decide +kernel⟩
def RcerA : Rel := fun ds d => ∃ (n : Int) (cs : List PyData), ds = [.int n, .tuple cs] ∧ 0 ≤ n ∧ n ≤ 1000 ∧ d = cerr (2 ^ n.toNat) none 0 cs
section
variable {P : Program} {w : World} {K : PySem.W.Frag} {mg : Str → Option Value} {base : Heap}
theorem ok_cerA {f : Addr} {fd : FuncData} (Fn : Fun K "cards_error" "cards_error" (topS 11) f fd) (me : mg "enumerate" = none) (gc : PFn P w K mg base 3 "is_card" RicA) : FnG P w K mg base 4 f fd ["n", "cards"] (spPure K RcerA) := by
  refine pure_ok (k := 3) Fn scCer (fun ds d ⟨n, cs, e, _⟩ => by rw [e]; rfl) (fun F ds d hK ⟨n, cs, e, h0, h1, ed⟩ => ?_)
  subst e ed
  refine wb_cons (ws_for_et 2 3 (by walk_at "tgt") (by walk_at "tgt") hK rfl me (fun _ => rfl) (fun _ _ => rfl) ?_)
  repeat walk_at "dx"
  refine ⟨fun j k' ρ' => CInv (2 ^ n.toNat) cs j ∧ ∃ x2 x3, ρ' = [.d (.int n), .d (.tuple cs), x2, x3], cs, rfl, ⟨cinv_zero _ _, _, _, rfl⟩, ?_, ?_⟩
  · rintro j y k' ρ' hy ⟨hinv, x2, x3, rfl⟩
    obtain ⟨s1, s2⟩ := cinv_step hinv hy
    show WPB F _ _ [.d (.int n), .d (.tuple cs), .d (.int (j : Int)), .d y] _ _
    refine wb_cons (ws_if (wt_not (wt_val (fun _ _ => rfl) ?_)))
    repeat walk_at "dx"
    refine ⟨_, ⟨n, y, rfl, h0, h1, rfl⟩, _, rfl, ?_⟩
    cases hb : belD (2 ^ n.toNat) y with
    | false =>
      refine itP rfl ?_
      repeat walk_at "dx"
      rw [s1 hb]; rfl
    | true =>
      obtain ⟨v, rfl, v0, v1⟩ := bel_int hb
      obtain ⟨t1, t2⟩ := s2 v rfl hb
      refine itN rfl (wb_nil (wb_cons (ws_if (wt_bool (ww_and ?_)))))
      repeat walk_at "dx"
      cases j with
      | zero =>
        refine itN (decide_eq_false (by omega)) (itN rfl ?_)
        repeat walk_at "dx"
        exact ⟨t2 fun q hq => (by cases hq), _, _, rfl⟩
      | succ i =>
        refine itP (decide_eq_true (by omega)) ?_
        obtain ⟨q, hq⟩ := hinv.2 i rfl
        refine ww_and1 (wt_le ?_)
        repeat walk_at "dx"
        refine ⟨.int q, ?_, ?_⟩
        · have := atI_nat (xs := cs) (j := i) hq
          rw [show ((i + 1 : Nat) : Int) - 1 = (i : Int) by omega]
          exact this
        · repeat walk_at "dx"
          have hp : prevI cs (i + 1) = some q := by rw [prevI, hq]
          by_cases hle : v ≤ q
          · refine itP (decide_eq_true hle) ?_
            repeat walk_at "dx"
            rw [t1 q hp hle]; rfl
          · refine itN (decide_eq_false hle) ?_
            repeat walk_at "dx"
            exact ⟨t2 fun r hr => (by rw [hp] at hr; cases hr; exact hle), _, _, rfl⟩
  · rintro k' ρ' ⟨hinv, x2, x3, rfl⟩
    rw [cinv_end hinv]
    repeat walk_at "dx"
    rfl
end

abbrev nBer : List Str := ["value", "n", "cards"]
theorem scBer : FnScope nBer ["value"] (defScope (topS 10)) := ⟨rfl, rfl, rfl, by decide +kernel, rfl, by decide +kernel, by decide +kernel⟩
def RberA : Rel := fun ds d => ∃ x : PyData, ds = [x] ∧ d = berr x
theorem berr_nopair {x : PyData} (h : pairD x = false) : berr x = errP .none "tuple" := by
  cases x with
  | tuple ds =>
    match ds, h with
    | [], _ => rfl
    | [_], _ => rfl
    | [_, _], h => exact nomatch h
    | _ :: _ :: _ :: _, _ => rfl
  | _ => rfl
section
variable {P : Program} {w : World} {K : PySem.W.Frag} {mg : Str → Option Value} {base : Heap}
theorem ok_berA {f : Addr} {fd : FuncData} {tk : Tok} (Fn : Fun K "box_error" "box_error" (topS 10) f fd) (mi : mg "isinstance" = none) (mt : mg "tuple" = none) (vm : mg "MAX_SWITCHES" = some (.int 6 tk)) (gp : PFn P w K mg base 1 "is_pair" RprA) (gb : PFn P w K mg base 2 "is_below" RbelA) (gc : PFn P w K mg base 4 "cards_error" RcerA) : FnG P w K mg base 5 f fd ["value"] (spPure K RberA) := by
  refine pure_ok (k := 4) Fn scBer (fun ds d ⟨x, e, _⟩ => by rw [e]; rfl) (fun F ds d hK ⟨x, e, ed⟩ => ?_)
  subst e ed
  refine wb_cons (ws_if (wt_not (wt_val (fun _ _ => rfl) ?_)))
  repeat walk_at "dx"
  refine ⟨_, ⟨x, rfl, rfl⟩, _, rfl, ?_⟩
  cases hp : pairD x with
  | false =>
    refine itP rfl ?_
    repeat walk_at "dx"
    rw [berr_nopair hp]; rfl
  | true =>
    obtain ⟨a, b, rfl⟩ := pair_some hp
    refine itN rfl ?_
    refine wb_nil (wb_cons (ws_asg2 1 2 (by decide) (by walk_at "tgt") (by walk_at "tgt") hK (fun _ => rfl) (fun _ => rfl) ?_))
    repeat walk_at "dx"
    refine ⟨_, _, rfl, ?_⟩
    refine wb_cons (ws_if (wt_not (wt_val (fun _ _ => rfl) ?_)))
    repeat walk_at "dx"
    refine we_gint rfl vm ?_
    repeat walk_at "dx"
    refine ⟨_, ⟨a, 7, rfl, rfl⟩, _, rfl, ?_⟩
    rw [berr_two]
    cases hb : belD 7 a with
    | false =>
      rw [if_neg (show ¬ (false = true) by decide)]
      refine itP rfl ?_
      repeat walk_at "dx"
      rfl
    | true =>
      obtain ⟨n, rfl, n0, n1⟩ := bel_int hb
      rw [if_pos (show true = true from rfl)]
      refine itN rfl (wb_nil (wb_cons (ws_if (wt_not (wt_val (fun _ _ => rfl) (we_isi "tuple" kit_tuple hK rfl mi rfl mt rfl (by decide) rfl (fun _ => rfl) ?_))))))
      repeat walk_at "dx"
      show if (!isiD "tuple" b) = true then _ else _
      rw [isTup_eq]
      cases ht : isTup b with
      | false =>
        refine itP rfl ?_
        repeat walk_at "dx"
        cases b <;> first | rfl | cases ht
      | true =>
        obtain ⟨cs, rfl⟩ := tup_some ht
        refine itN rfl ?_
        repeat walk_at "dx"
        exact ⟨_, ⟨n, cs, rfl, n0, by omega, rfl⟩, rfl⟩
end

def isOne (xs : List Int) : PyData → Bool
  | .int v => decide (v ∈ xs)
  | _ => false

abbrev nOof : List Str := ["numbers", "value"]
theorem scOof : FnScope nOof ["numbers", "value"] (defScope (topS 7)) := ⟨rfl, rfl, rfl, by decide +kernel, rfl, by decide +kernel, by decide +kernel⟩
def RoofA : Rel := fun ds d => ∃ (y : PyData) (xs : List Int) (x : PyData), ds = [y, x] ∧ seqD y = some (xs.map PyData.int) ∧ d = .bool (isOne xs x)
section
variable {P : Program} {w : World} {K : PySem.W.Frag} {mg : Str → Option Value} {base : Heap}
theorem ok_oofA {f : Addr} {fd : FuncData} (Fn : Fun K "is_one_of" "is_one_of" (topS 7) f fd) (gn : PFn P w K mg base 1 "is_number" RnumA) : FnG P w K mg base 2 f fd ["numbers", "value"] (spPure K RoofA) := by
  refine pure_ok (k := 1) Fn scOof (fun ds d ⟨y, xs, x, e, _⟩ => by rw [e]; rfl) (fun F ds d hK ⟨y, xs, x, e, hy, ed⟩ => ?_)
  subst e ed
  refine wb_cons (ws_ret (we_and ?_))
  repeat walk_at "dx"
  refine ⟨_, ⟨x, rfl, rfl⟩, _, rfl, ?_⟩
  cases hx : numD x with
  | false =>
    refine itN rfl ?_
    show PyData.bool false = PyData.bool (isOne xs x)
    cases x <;> first | rfl | cases hx
  | true =>
    obtain ⟨v, rfl⟩ := num_int hx
    refine itP rfl (we_one (we_inI hK rfl ?_))
    repeat walk_at "dx"
    exact ⟨v, xs, rfl, hy, rfl⟩
end

/-! ### decks -/
def mS (i j : Nat) : Stmt := match topS i with
  | .ClassDef _ _ _ body _ _ _ _ _ _ _ => body.getD j (.Pass ⟨0, 0, 0, 0⟩)
  | s => s
/-- a box and one more card; one less -/
def addL (n : Nat) (cs : List Int) (c : Int) : List Int := (rg (2 ^ n)).filter fun x => decide (x ∈ cs) || decide (x = c)
def remL (cs : List Int) (c : Int) : List Int := cs.filter fun x => !decide (x = c)
/-- the box at the end -/
structure DkS (g : Pg) (n : Nat) (cs : List Int) : Prop where
  last : g.1.getLast? = some (n, cs)
  hn : n ≤ 6
  hb : IsBox n cs
  l1 : g.1.length ≤ 900
  l2 : g.2.length ≤ 900
theorem DkS.ne {g : Pg} {n : Nat} {cs : List Int} (h : DkS g n cs) : g.1 ≠ [] := fun z => by have := h.last; rw [z] at this; cases this
def dkPut (g : Pg) (b : Nat × List Int) (e : Nat × Int) : Pg := (g.1 ++ [b], g.2 ++ [e])
theorem DkS.put {g : Pg} {n : Nat} {cs : List Int} (h : DkS g n cs) (h3 : g.1.length < 900) (h4 : g.2.length < 900) {m : Nat} {ms : List Int} (hm : m ≤ 6) (hb : IsBox m ms) (e : Nat × Int) : DkS (dkPut g (m, ms) e) m ms where
  last := by show (g.1 ++ [(m, ms)]).getLast? = _; rw [List.getLast?_append]; rfl
  hn := hm
  hb := hb
  l1 := by show (g.1 ++ [_]).length ≤ _; rw [List.length_append]; show g.1.length + 1 ≤ _; omega
  l2 := by show (g.2 ++ [_]).length ≤ _; rw [List.length_append]; show g.2.length + 1 ≤ _; omega

abbrev nMb : List Str := ["self", "version"]
theorem scMb : FnScope nMb ["self", "version"] (defScope (mS 74 11)) := ⟨rfl, rfl, rfl, by decide +kernel, rfl, by decide +kernel, by decide +kernel⟩
def PmBox : Pg → List PyData → Prop := fun g ds => ds = [.none] ∧ g.1 ≠ []
def RmBox : Pg → List PyData → Pg → PyData → Prop := fun g _ g' d => g' = g ∧ ∃ b, g.1.getLast? = some b ∧ d = boxP b
section
variable {P : Program} {w : World} {K : PySem.W.Frag} {mg : Str → Option Value} {base : Heap} {C : Addr}
theorem ok_mbox {f : Addr} {fd : FuncData} (pc : PiC K C) (Fn : Fun K "box" "Deck.box" (mS 74 11) f fd) : FnG P w K mg base 1 f fd ["self", "version"] (spPi K C PmBox RmBox) := by
  refine pi_ok (k := 0) Fn scMb (fun g ds ⟨e, _⟩ => by rw [e]; rfl) (fun F a dx ds g pi hK ⟨e, hne⟩ => ?_)
  subst e
  obtain ⟨b, hb⟩ : ∃ b, g.1.getLast? = some b := ⟨_, List.getLast?_eq_some_getLast hne⟩
  refine wb_cons (ws_if (wt_isN ?_))
  walk_at "name"
  refine itP rfl (wb_cons (ws_ret (we_pix pc pi hK 0 rfl (.inl rfl) rfl (fun _ _ => rfl) (wn_neg (wn_int ⟨1, rfl, -1, b, rfl, atI_last hb, ?_⟩)))))
  exact ⟨g, rfl, rfl, b, hb, rfl⟩
end

abbrev nMs : List Str := ["self", "word", "value", "after"]
section
variable {P : Program} {w : World} {K : PySem.W.Frag} {mg : Str → Option Value} {base : Heap} {C : Addr}
end

abbrev nMe : List Str := ["self"]
def Pm0 : Pg → List PyData → Prop := fun _ ds => ds = []
def RmEds : Pg → List PyData → Pg → PyData → Prop := fun g _ g' d => g' = g ∧ d = .tuple (g.2.map edP)
section
variable {P : Program} {w : World} {K : PySem.W.Frag} {mg : Str → Option Value} {base : Heap} {C : Addr}
end

abbrev nMl : List Str := ["self"]
theorem scMl : FnScope nMl ["self"] (defScope (mS 74 17)) := ⟨rfl, rfl, rfl, by decide +kernel, rfl, by decide +kernel, by decide +kernel⟩
def RmLen : Pg → List PyData → Pg → PyData → Prop := fun g _ g' d => g' = g ∧ d = .int (g.2.length : Nat)
section
variable {P : Program} {w : World} {K : PySem.W.Frag} {mg : Str → Option Value} {base : Heap} {C : Addr}
theorem ok_mlen {f : Addr} {fd : FuncData} (pc : PiC K C) (Fn : Fun K "__len__" "Deck.__len__" (mS 74 17) f fd) (ml : mg "len" = none) : FnG P w K mg base 1 f fd ["self"] (spPi K C Pm0 RmLen) := by
  refine pi_ok (k := 0) Fn scMl (fun g ds e => by rw [show ds = [] from e]; rfl) (fun F a dx ds g pi hK e => ?_)
  have e : ds = [] := e
  subst e
  exact wb_cons (ws_ret (we_plenD pc pi 0 rfl (.inl rfl) rfl rfl ml ⟨g, rfl, rfl, rfl⟩))
end

abbrev nMt : List Str := ["self"]
def strI (i : Int) : Str := (toString i : String)
def deckT (n m l : Int) : Str := ((((((Str.empty ++ strI n) ++ " switches, ") ++ strI m) ++ " cards, ") ++ strI l) ++ " edits")
def PmStr : Pg → List PyData → Prop := fun g ds => ds = [] ∧ ∃ n cs, DkS g n cs
def RmStr : Pg → List PyData → Pg → PyData → Prop := fun g _ g' d => g' = g ∧ ∃ n cs, g.1.getLast? = some (n, cs) ∧ d = .str (deckT (n : Int) (cs.length : Nat) (g.2.length : Nat))
section
variable {P : Program} {w : World} {K : PySem.W.Frag} {mg : Str → Option Value} {base : Heap} {C : Addr}
end

abbrev nMi : List Str := ["self", "box", "error"]
theorem scMi : FnScope nMi ["self", "box"] (defScope (mS 74 0)) := ⟨rfl, rfl, rfl, by decide +kernel, rfl, by decide +kernel, by decide +kernel⟩
def OkB : Nat × List Int → Prop := fun d => d.1 ≤ 6 ∧ IsBox d.1 d.2
theorem cerr_box (b : Int) : ∀ (cs : List Int) (p : Option Int) (i : Nat), (∀ c ∈ cs, 0 ≤ c ∧ c < b) → cs.Pairwise (· < ·) → (∀ q, p = some q → ∀ c ∈ cs, q < c) → cerr b p i (cs.map PyData.int) = .none
  | [], p, i, _, _, _ => by cases p <;> rfl
  | c :: cs, p, i, h1, h2, h3 => by
    have hc := h1 c List.mem_cons_self
    rw [List.map_cons, cerr_cons, if_pos (by show (decide (0 ≤ c) && decide (c < b)) = true; rw [decide_eq_true hc.1, decide_eq_true hc.2]; rfl)]
    have key : (match (generalizing := false) p with | some q => decide (c ≤ q) | none => false) = false := by
      cases p with
      | none => rfl
      | some q =>
        have := h3 q rfl c List.mem_cons_self
        exact decide_eq_false (by omega)
    have e1 : ∀ (bb : Bool) (x y : PyData), bb = false → (if bb = true then x else y) = y := fun bb x y z => by rw [z]; rfl
    refine Eq.trans (e1 _ _ _ key) ?_
    exact cerr_box b cs (some c) (i + 1) (fun x hx => h1 x (List.mem_cons_of_mem _ hx)) (List.pairwise_cons.mp h2).2 fun q hq x hx => by cases hq; exact (List.pairwise_cons.mp h2).1 x hx
theorem berr_box {n : Nat} {cs : List Int} (hn : n ≤ 6) (hb : IsBox n cs) : berr (boxD n cs) = .none := by
  show berr (.tuple [.int (n : Int), .tuple (cs.map PyData.int)]) = .none
  rw [berr_two, if_pos (by show (decide (0 ≤ (n : Int)) && decide ((n : Int) < 7)) = true; rw [decide_eq_true (by omega), decide_eq_true (by omega)]; rfl)]
  show cerr (2 ^ ((n : Int)).toNat) none 0 (cs.map PyData.int) = .none
  rw [Int.toNat_natCast]
  exact cerr_box _ cs none 0 (fun c hc => hb.rng c hc) hb.asc fun q hq => nomatch hq
section
variable {P : Program} {w : World} {K : PySem.W.Frag} {mg : Str → Option Value} {base : Heap} {C : Addr}
theorem ok_minit {f : Addr} {fd : FuncData} (pc : PiC K C) (Fn : Fun K "__init__" "Deck.__init__" (mS 74 0) f fd) (gb : PFn P w K mg base 5 "box_error" RberA) : FnG P w K mg base 6 f fd ["self", "box"] (spInit K C OkB) := by
  refine init_ok (k := 5) Fn scMi (fun F a dx d ini hK ok => ?_)
  refine wb_cons (ws_set 2 (by walk_at "tgt") (fun _ _ => rfl) ?_)
  repeat walk_at "dl"
  refine ⟨_, ⟨_, rfl, rfl⟩, ?_⟩
  rw [show boxP d = boxD d.1 d.2 from rfl, berr_box ok.1 ok.2]
  refine wb_cons (ws_if (wt_notN ?_))
  walk_at "name"
  refine itN rfl (wb_nil ?_)
  exact wb_initEnd pc ini hK 0 1 rfl (.inl rfl) rfl rfl (.inl rfl) rfl (fun _ => rfl) (fun _ => rfl) rfl
end

abbrev nHsw : List Str := ["switches", "switch"]
theorem scHsw : FnScope nHsw ["switches", "switch"] (defScope (topS 12)) := ⟨rfl, rfl, rfl, by decide +kernel, rfl, by decide +kernel, by decide +kernel⟩
def Rhsw : Rel := fun ds d => ∃ s k : Int, ds = [.int s, .int k] ∧ 0 ≤ k ∧ d = .bool (bitB s k)
section
variable {P : Program} {w : World} {K : PySem.W.Frag} {mg : Str → Option Value} {base : Heap}
theorem ok_hsw {f : Addr} {fd : FuncData} (Fn : Fun K "has_switch" "has_switch" (topS 12) f fd) : FnG P w K mg base 1 f fd ["switches", "switch"] (spPure K Rhsw) := by
  refine pure_ok (k := 0) Fn scHsw (fun ds d ⟨s, k, e, _⟩ => by rw [e]; rfl) (fun F ds d hK ⟨s, k, e, hk, ed⟩ => ?_)
  subst e ed
  refine wb_cons (ws_ret (we_eqI ?_))
  repeat walk_at "dx"
  refine ⟨hk, ?_⟩
  repeat walk_at "dx"
  rfl
end

/-! ### all four edits -/
def aftL (n : Nat) (cs : List Int) (e : Nat × Int) : List Int := match e.1 with
  | 0 => addL n cs e.2
  | 1 => remL cs e.2
  | 2 => flipL n cs (2 ^ e.2.toNat)
  | _ => pressL n cs e.2.toNat
def EdFit (n : Nat) (cs : List Int) (e : Nat × Int) : Prop := (e.1 = 0 ∧ (0 ≤ e.2 ∧ e.2 < 2 ^ n) ∧ e.2 ∉ cs) ∨ (e.1 = 1 ∧ e.2 ∈ cs) ∨ (e.1 = 2 ∧ 0 ≤ e.2 ∧ e.2 < n) ∨ (e.1 = 3 ∧ 0 ≤ e.2 ∧ e.2 < n)
theorem EdFit.lt {n : Nat} {cs : List Int} {e : Nat × Int} (h : EdFit n cs e) : e.1 < 4 := by
  rcases h with ⟨h, _⟩ | ⟨h, _⟩ | ⟨h, _⟩ | ⟨h, _⟩ <;> rw [h] <;> decide
/-! ### texts of cards and boxes -/
open TL
def dgT (b : Bool) : Str := if b = true then "1" else "0"
def tx (n c : Nat) : Str := if n = 0 then "-" else Txt.join "" ((List.range n).map fun k => dgT (bitN c k))
def cardsT (n : Nat) (cs : List Int) : Str := if cs = [] then "none" else Txt.join " " (cs.map fun c => tx n c.toNat)
def boxT (n : Nat) (cs : List Int) : Str := (Str.empty ++ ((toString (n : Int) : String) : Str) ++ ": ") ++ cardsT n cs
def txW (n : Nat) : Nat := if n = 0 then 1 else n
theorem tx_facts : ∀ n ≤ 6, ∀ c < 2 ^ n, (tl (tx n c)).length = txW n ∧ (tl (tx n c)).head? ≠ some 110 ∧ PyData.strOk (tx n c) = true ∧ (tx n c).length ≤ 6 := by decide +kernel
open TL
abbrev nCt : List Str := ["n", "card", "switch"]
theorem scCt : FnScope nCt ["n", "card"] (defScope (topS 46)) := ⟨rfl, rfl, rfl, by decide +kernel, rfl, by decide +kernel, by decide +kernel⟩
def RctP : Rel := fun ds d => ∃ (n : Nat) (c : Int), ds = [.int (n : Int), .int c] ∧ n ≤ 6 ∧ (0 ≤ c ∧ c < 2 ^ n) ∧ d = .str (tx n c.toNat)
theorem dg_sum (n c : Nat) (hn : n ≤ 6) : (((List.range n).map fun k => dgT (bitN c k)).map (·.length)).sum ≤ 6 := by
  have h : ∀ m : Nat, (((List.range m).map fun k => dgT (bitN c k)).map (·.length)).sum = m := by
    intro m
    induction m with
    | zero => rfl
    | succ m ih =>
      rw [List.range_succ, List.map_append, List.map_append, List.sum_append, ih]
      have : (dgT (bitN c m)).length = 1 := by cases bitN c m <;> decide +kernel
      show m + ((dgT (bitN c m)).length + 0) = m + 1
      rw [this]
  rw [h]; exact hn
theorem dg_list {n : Nat} {c : Nat} : ((rg (n : Int)).map fun k => PyData.str (dgT (bitB (c : Int) k))) = ((List.range n).map fun k => dgT (bitN c k)).map PyData.str := by
  rw [List.map_map]
  unfold rg
  rw [Int.toNat_natCast, List.map_map]
  refine List.map_congr_left fun k _ => ?_
  show PyData.str (dgT (bitB (c : Int) ((k : Nat) : Int))) = PyData.str (dgT (bitN c k))
  rw [bit_nat]
section
variable {P : Program} {w : World} {K : PySem.W.Frag} {mg : Str → Option Value} {base : Heap}
theorem ok_ct {f : Addr} {fd : FuncData} (Fn : Fun K "card_text" "card_text" (topS 46) f fd) (mr : mg "range" = none) (gh : PFn P w K mg base 1 "has_switch" Rhsw) : FnG P w K mg base 2 f fd ["n", "card"] (spPure K RctP) := by
  refine pure_ok (k := 1) Fn scCt (fun ds d ⟨_, _, e, _⟩ => by rw [e]; rfl) (fun F ds d hK ⟨n, c, e, hn, hc, ed⟩ => ?_)
  subst e ed
  obtain ⟨c, rfl⟩ : ∃ m : Nat, c = (m : Int) := ⟨c.toNat, by omega⟩
  rw [Int.toNat_natCast]
  refine wb_cons (ws_if (wt_eqI ?_))
  walk_at "name"
  refine we_int ⟨_, _, rfl, rfl, ?_⟩
  by_cases h0 : n = 0
  · subst h0
    exact itP rfl (wb_cons (ws_ret (we_str rfl)))
  · refine itN (decide_eq_false (by omega)) (wb_nil (wb_cons (ws_ret (we_joinS (fun _ => rfl) rfl (fun _ => rfl) hK (we_mR (fun k => PyData.str (dgT (bitB (c : Int) k))) 2 (by walk_at "blk") rfl mr (fun _ => rfl) (fun _ _ => rfl) ?_)))))
    walk_at "name"
    refine ⟨_, rfl, by omega, by omega, fun D k k0 k1 => ?_, ?_⟩
    · have hKD : (F.ext D).K = K := hK
      refine we_ifExp (wt_val (fun _ _ => rfl) (we_callP gh (by show 1 ≤ 1; decide) hKD rfl (wa_cons (fun _ => rfl) ?_)))
      walk_at "name"
      refine wa_cons (fun _ => rfl) ?_
      walk_at "name"
      refine wa_nil ⟨_, ⟨_, _, rfl, k0, rfl⟩, _, rfl, ?_⟩
      cases bitB (c : Int) k with
      | true => exact itP rfl (we_str ⟨rfl, rfl⟩)
      | false => exact itN rfl (we_str ⟨rfl, rfl⟩)
    refine ⟨(List.range n).map fun k => dgT (bitN c k), ?_, ?_, ?_⟩
    · rw [dg_list]; rfl
    · have := dg_sum n c hn
      rw [show ((Str.ofString "").length) = 0 from rfl, Nat.mul_zero]
      omega
    · show PyData.str _ = PyData.str (tx n c)
      unfold tx
      rw [if_neg h0]
end

open TL
/-! ### texts read: what a text of a box says -/
def txs (n : Nat) : List Str := (List.range (2 ^ n)).map (tx n)
def hdT (m : Nat) : Str := Str.empty ++ ((toString ((m : Nat) : Int) : String) : Str) ++ ":"
def hds : List Str := (List.range 7).map hdT
def optI (o : Option Nat) : PyData := match o with | none => .none | some j => .int (j : Int)
inductive PrT where
  | bad (i : Option Nat)
  | box (n : Nat) (cs : List Int)
def PrT.dat : PrT → PyData
  | .bad i => .tuple [.str "BadText", optI i]
  | .box n cs => boxD n cs
def PrT.out (T : Addr) : PrT → Out
  | .bad i => .ex T (some ("index", optI i))
  | .box n cs => .ok (boxD n cs)
/-- the cards read from the words, the first of them has the number i -/
def prcL (n : Nat) : List Str → Nat → List Int → Nat ⊕ List Int
  | [], _, acc => .inr acc
  | w :: ws, i, acc => match placeD w (txs n) with
    | none => .inl i
    | some c => if acc ≠ [] ∧ (c : Int) ≤ acc.getLastD 0 then .inl i else prcL n ws (i + 1) (acc ++ [(c : Int)])
def pcs (n : Nat) (ws : List Str) : Nat ⊕ List Int := if ws.head? = some ("none" : Str) then (if 1 < ws.length then .inl 2 else .inr []) else prcL n ws 1 []
def outS (T : Addr) : Nat ⊕ List Int → Out
  | .inl i => .ex T (some ("index", .int (i : Int)))
  | .inr cs => .ok (.tuple (cs.map PyData.int))
def prcT (n : Nat) (ws : List Str) : PrT := match pcs n ws with | .inl i => .bad (some i) | .inr cs => .box n cs
def prsT (t : Str) : PrT :=
  match placeD ((Txt.split t " ").headD Str.empty) hds with
  | none => .bad (some 0)
  | some n => if (Txt.split t " ").length = 1 then .bad (some 1) else prcT n (Txt.split t " ").tail
def prsD : PyData → PrT
  | .str t => prsT t
  | _ => .bad none
theorem txs_len (n : Nat) : (txs n).length = 2 ^ n := by unfold txs; rw [List.length_map, List.length_range]
theorem txs_rg (n : Nat) : (rg (2 ^ n)).map (fun c : Int => PyData.str (tx n c.toNat)) = (txs n).map PyData.str := by
  have e2 : ((2 : Int) ^ n).toNat = 2 ^ n := by
    have : ((2 ^ n : Nat) : Int) = (2 : Int) ^ n := by rw [Int.natCast_pow]; rfl
    rw [← this, Int.toNat_natCast]
  unfold rg txs
  rw [e2, List.map_map, List.map_map]
  refine List.map_congr_left fun k _ => ?_
  show PyData.str (tx n ((k : Nat) : Int).toNat) = PyData.str (tx n k)
  rw [Int.toNat_natCast]
theorem place_lt {w : Str} {ts : List Str} {j : Nat} (h : placeD w ts = some j) : j < ts.length := (List.getElem?_eq_some_iff.mp (place_some h).1).1
/-! the words of a text -/
theorem sp_tl : tl (" " : Str) = [32] := by decide +kernel
theorem words_tl (t : Str) : (Txt.split t " ").map tl = spl [32] 0 [] (tl t) := by
  rw [split_spl t " " (by rw [sp_tl]; exact List.cons_ne_nil _ _) (kind_ok (by decide +kernel)), sp_tl]
theorem spl_ne : ∀ (l acc : List Nat), spl [32] 0 acc l ≠ []
  | [], acc => by rw [spl_nil]; exact List.cons_ne_nil _ _
  | c :: r, acc => by
    cases h : pre [32] (c :: r) with
    | true => rw [spl_hit h]; exact List.cons_ne_nil _ _
    | false => rw [spl_miss h]; exact spl_ne r _
/-- all words' lengths, and how many words -/
theorem spl_sum : ∀ (l acc : List Nat), ((spl [32] 0 acc l).map (·.length)).sum + (spl [32] 0 acc l).length = acc.length + l.length + 1
  | [], acc => by rw [spl_nil]; simp
  | x :: r, acc => by
    cases h : pre [32] (x :: r) with
    | true =>
      have ih := spl_sum r []
      rw [spl_hit h, show ([32] : List Nat).length - 1 = 0 from rfl]
      simp only [List.map_cons, List.sum_cons, List.length_cons, List.length_nil] at ih ⊢
      omega
    | false =>
      have ih := spl_sum r (acc ++ [x])
      rw [spl_miss h]
      simp only [List.length_append, List.length_cons, List.length_nil] at ih ⊢
      omega
/-- plain texts: every sign below 128 -/
def AS (t : Str) : Prop := ∀ c ∈ tl t, c < 128
instance (t : Str) : Decidable (AS t) := by unfold AS; infer_instance
theorem AS.ok {t : Str} (h : AS t) : PyData.strOk t = true := by
  unfold PyData.strOk
  rw [← Array.all_toList, List.all_eq_true]
  intro c hc
  have := h c hc
  exact decide_eq_true (by omega)
theorem words_ne (t : Str) : Txt.split t " " ≠ [] := fun z => by
  have := words_tl t
  rw [z] at this
  exact spl_ne _ _ this.symm
theorem words_sum (t : Str) : ((Txt.split t " ").map (·.length)).sum + (Txt.split t " ").length = t.length + 1 := by
  have h := spl_sum (tl t) []
  rw [← words_tl, List.map_map, List.length_map] at h
  have e : (Txt.split t " ").map (List.length ∘ tl) = (Txt.split t " ").map (·.length) := List.map_congr_left fun x _ => (len_tl x).symm
  rw [e, ← len_tl] at h
  simpa using h
theorem words_len (t : Str) : (Txt.split t " ").length ≤ t.length + 1 := by have := words_sum t; omega
abbrev nPof : List Str := ["word", "words"]
theorem scPof : FnScope nPof ["word", "words"] (defScope (topS 49)) := ⟨rfl, rfl, rfl, by decide +kernel, rfl, by decide +kernel, by decide +kernel⟩
def Rpof : Rel := fun ds d => ∃ (w : Str) (ts : List Str), ds = [.str w, .list (ts.map PyData.str)] ∧ d = optI (placeD w ts)
section
variable {P : Program} {w : World} {K : PySem.W.Frag} {mg : Str → Option Value} {base : Heap}
theorem ok_pof {f : Addr} {fd : FuncData} (Fn : Fun K "place_of" "place_of" (topS 49) f fd) : FnG P w K mg base 1 f fd ["word", "words"] (spPure K Rpof) := by
  refine pure_ok (k := 0) Fn scPof (fun ds d ⟨_, _, e, _⟩ => by rw [e]; rfl) (fun F ds d hK ⟨x, ts, e, ed⟩ => ?_)
  subst e ed
  refine wb_cons (ws_ret (we_ifExp (wt_inTx hK rfl ?_)))
  walk_at "name"
  walk_at "name"
  refine ⟨x, ts, rfl, rfl, ?_⟩
  rw [place_any]
  cases h : placeD x ts with
  | none => exact itN rfl (we_non rfl)
  | some j =>
    obtain ⟨h1, h2⟩ := place_some h
    refine itP rfl (we_indexT hK (fun _ => rfl) ?_ (fun X {to t} h1 h2 => pe_bm PySem.F.plainAttrs_list PySem.F.slot_list_index PySem.F.type_list_index mt_index h1 h2))
    walk_at "name"
    refine ⟨ts, rfl, ?_⟩
    walk_at "name"
    exact ⟨x, j, rfl, h1, h2, rfl⟩
end

abbrev nRcd : List Str := ["n", "word", "card"]
theorem scRcd : FnScope nRcd ["n", "word"] (defScope (topS 50)) := ⟨rfl, rfl, rfl, by decide +kernel, rfl, by decide +kernel, by decide +kernel⟩
def Rrcd : Rel := fun ds d => ∃ (n : Nat) (w : Str), ds = [.int (n : Int), .str w] ∧ n ≤ 6 ∧ d = optI (placeD w (txs n))
section
variable {P : Program} {w : World} {K : PySem.W.Frag} {mg : Str → Option Value} {base : Heap}
theorem ok_rcd {f : Addr} {fd : FuncData} (Fn : Fun K "read_card" "read_card" (topS 50) f fd) (mr : mg "range" = none) (gc : PFn P w K mg base 2 "card_text" RctP) (gp : PFn P w K mg base 1 "place_of" Rpof) : FnG P w K mg base 3 f fd ["n", "word"] (spPure K Rrcd) := by
  refine pure_ok (k := 2) Fn scRcd (fun ds d ⟨_, _, e, _⟩ => by rw [e]; rfl) (fun F ds d hK ⟨n, x, e, hn, ed⟩ => ?_)
  subst e ed
  have hp := pow_le64 hn
  refine wb_cons (ws_ret (we_callP gp (by show 1 ≤ 2; decide) hK rfl (wa_cons (fun _ => rfl) ?_)))
  walk_at "name"
  refine wa_cons (fun _ => rfl) (we_mR (fun c => PyData.str (tx n c.toNat)) 2 (by walk_at "blk") rfl mr (fun _ => rfl) (fun _ _ => rfl) (we_shl (we_int ?_)))
  walk_at "name"
  refine ⟨1, (n : Int), rfl, rfl, ⟨by omega, by omega⟩, ?_⟩
  rw [Int.toNat_natCast, Int.one_mul]
  refine ⟨_, rfl, by omega, by omega, fun D c c0 c1 => ?_, ?_⟩
  · have hKD : (F.ext D).K = K := hK
    refine we_callP gc (by show 2 ≤ 2; decide) hKD rfl (wa_cons (fun _ => rfl) ?_)
    walk_at "name"
    refine wa_cons (fun _ => rfl) ?_
    walk_at "name"
    exact wa_nil ⟨_, ⟨n, c, rfl, hn, ⟨c0, c1⟩, rfl⟩, rfl, rfl⟩
  rw [txs_rg]
  exact wa_nil ⟨_, ⟨x, txs n, rfl, rfl⟩, rfl⟩
end

open TL
def RcstP : Rel := fun ds d => ∃ (n : Nat) (cs : List Int), ds = [.int (n : Int), .tuple (cs.map PyData.int)] ∧ n ≤ 6 ∧ IsBox n cs ∧ d = .str (cardsT n cs)
theorem tx_sum {n : Nat} {cs : List Int} (hn : n ≤ 6) (hb : IsBox n cs) : ((cs.map fun c => tx n c.toNat).map (·.length)).sum + (cs.map fun c => tx n c.toNat).length * (Str.ofString " ").length ≤ 1000 := by
  have hl := box_len hn hb
  have h : ∀ xs : List Int, (∀ c ∈ xs, 0 ≤ c ∧ c < 2 ^ n) → ((xs.map fun c => tx n c.toNat).map (·.length)).sum ≤ 6 * xs.length := by
    intro xs
    induction xs with
    | nil => intro _; exact Nat.le_refl _
    | cons x xs ih =>
      intro hx
      have h1 := hx x List.mem_cons_self
      have e2 : ((2 ^ n : Nat) : Int) = (2 : Int) ^ n := by rw [Int.natCast_pow]; rfl
      have h2 := (tx_facts n hn x.toNat (by omega)).2.2.2
      have h3 := ih fun c hc => hx c (List.mem_cons_of_mem _ hc)
      show (tx n x.toNat).length + ((xs.map fun c => tx n c.toNat).map (·.length)).sum ≤ 6 * (xs.length + 1)
      omega
  have h1 := h cs hb.rng
  have e1 : (Str.ofString " ").length = 1 := rfl
  rw [e1, List.length_map]
  omega
theorem sep_len (sep : Str) : ∀ xs : List Str, (Str.join sep xs).length ≤ (xs.map (·.length)).sum + xs.length * sep.length
  | [] => by
    show Str.empty.length ≤ 0 + 0 * sep.length
    rw [Nat.zero_mul]
    exact Nat.le_refl _
  | [x] => by show x.length ≤ (x.length + 0) + 1 * sep.length; omega
  | x :: y :: r => by
    have ih := sep_len sep (y :: r)
    show (x ++ sep ++ Str.join sep (y :: r)).length ≤ (x.length + ((y :: r).map (·.length)).sum) + ((y :: r).length + 1) * sep.length
    rw [Nat.add_mul, Nat.one_mul]
    have e : (x ++ sep ++ Str.join sep (y :: r)).length = x.length + sep.length + (Str.join sep (y :: r)).length := by
      rw [Str.length_append, Str.length_append]
    omega
theorem cards_len {n : Nat} {cs : List Int} (hn : n ≤ 6) (hb : IsBox n cs) : (cardsT n cs).length ≤ 1000 := by
  unfold cardsT
  split
  · decide +kernel
  · rw [join_eq]
    exact Nat.le_trans (sep_len _ _) (tx_sum hn hb)
theorem head_len : ∀ n : Nat, n ≤ 6 → (Str.empty ++ ((toString (n : Int) : String) : Str)).length ≤ 10 ∧ (Str.empty ++ ((toString (n : Int) : String) : Str) ++ ": ").length ≤ 10 := by decide +kernel
/-! ### what a shell answers -/
open TL
abbrev EaF := Pg → Str → Option Int → Str × Pg
def unkT : Str := "unknown command"
def optZ (o : Option Int) : PyData := match o with | none => .none | some i => .int i
def boxG (g : Pg) : Nat × List Int := g.1.getLastD (0, [])
theorem DkS.bxg {g : Pg} {n : Nat} {cs : List Int} (h : DkS g n cs) : boxG g = (n, cs) := by
  unfold boxG
  rw [List.getLastD_eq_getLast?, h.last]; rfl
def okT (m : Nat) : Str := Str.empty ++ "ok " ++ ((toString (m : Int) : String) : Str)
def intT (i : Int) : Str := ((toString i : String) : Str)
def numsT : List Str := (rg 100).map intT
def cntT (n : Nat) (cs : List Int) : Str := Txt.join " " [intT ((solidL n cs).length : Nat), intT (cs.length : Nat), intT ((shownL n cs).length : Nat)]
def smoT (n : Nat) (cs : List Int) : Str := match roughO n cs with | none => "yes" | some s => Str.empty ++ "no " ++ tx n s.toNat
def crtT (n : Nat) (p : Str × List Int) : Str := Str.empty ++ p.1 ++ " " ++ cardsT n p.2
def whyP (cs : List Int) (s : Int) : Str × List Int := match (parts s).find? fun p => (cwL cs s p).isEmpty with
  | some p => ("missing", [p])
  | none => ("shown", (parts s).map fun p => (cwL cs s p).headD 0)
def mssL (cs : List Int) (b s : Int) : Int := (missing cs b s).getD 0
def basP (n : Nat) (cs : List Int) (s : Int) : Str × List Int := match basesL n cs s with
  | b :: _ => ("solid", [b])
  | [] => ("broken", (outside n s).map fun b => mssL cs b s)
def sglT (n : Nat) (cs : List Int) (word : Str) : Str :=
  if word = "box" then boxT n cs else if word = "counts" then cntT n cs else if word = "shown" then cardsT n (shownL n cs) else if word = "solid" then cardsT n (solidL n cs) else if word = "smooth" then smoT n cs else unkT
section
variable (ea : EaF) (g : Pg)
def sglA (word : Str) : Str × Pg := if word = "undo" then ea g word none else (sglT (boxG g).1 (boxG g).2 word, g)
def swtA (word text : Str) : Str × Pg := match placeD text numsT with | none => (unkT, g) | some k => ea g word (some (k : Int))
def crdA (word text : Str) : Str × Pg := match placeD text (txs (boxG g).1) with
  | none => (unkT, g)
  | some c => if word = "why" then (crtT (boxG g).1 (whyP (boxG g).2 (c : Int)), g) else if word = "base" then (crtT (boxG g).1 (basP (boxG g).1 (boxG g).2 (c : Int)), g) else ea g word (some (c : Int))
def wdsA : List Str → Str × Pg
  | [word] => sglA ea g word
  | [word, text] => if word = "flip" ∨ word = "press" then swtA ea g word text else if word = "add" ∨ word = "remove" ∨ word = "why" ∨ word = "base" then crdA ea g word text else (unkT, g)
  | _ => (unkT, g)
def linA : PyData → Str × Pg
  | .str t => wdsA ea g (Txt.split t " ")
  | _ => (unkT, g)
end
/-- where an edit is asked for, PE holds -/
structure PreW (PE : Pg → Str → Option Int → Prop) (g : Pg) (ws : List Str) : Prop where
  u : ws = [("undo" : Str)] → PE g "undo" none
  s : ∀ w t k, ws = [w, t] → (w = "flip" ∨ w = "press") → placeD t numsT = some k → PE g w (some (k : Int))
  c : ∀ w t c, ws = [w, t] → (w = "add" ∨ w = "remove") → placeD t (txs (boxG g).1) = some c → PE g w (some (c : Int))
/-- what a certificate is -/
def CrtOk (n : Nat) (d : PyData) (p : Str × List Int) : Prop := ((∃ i, d = .tuple [.str p.1, .int i] ∧ p.2 = [i]) ∨ d = .tuple [.str p.1, .tuple (p.2.map PyData.int)]) ∧ p.1.length ≤ 10 ∧ (∀ c ∈ p.2, 0 ≤ c ∧ c < 2 ^ n) ∧ p.2.length ≤ 64
/-! promises of the shell's defs -/
def PmEA (PE : Pg → Str → Option Int → Prop) : Pg → List PyData → Prop := fun g ds => ∃ w v, ds = [.str w, optZ v] ∧ PE g w v
def RmEA (ea : EaF) : Pg → List PyData → Pg → PyData → Prop := fun g ds g' d => ∃ w v, ds = [.str w, optZ v] ∧ d = .str (ea g w v).1 ∧ g' = (ea g w v).2
theorem optZ_inj {a b : Option Int} (h : optZ a = optZ b) : a = b := by
  cases a <;> cases b <;> first | rfl | exact congrArg some (PyData.int.inj h) | cases h
theorem RmEA.one {ea : EaF} {g g' : Pg} {w : Str} {v : Option Int} {d : PyData} (h : RmEA ea g [.str w, optZ v] g' d) : d = .str (ea g w v).1 ∧ g' = (ea g w v).2 := by
  obtain ⟨w', v', e, h1, h2⟩ := h
  obtain ⟨e1, e2⟩ := List.cons.inj e
  have e3 := optZ_inj (List.cons.inj e2).1
  have e4 := PyData.str.inj e1
  subst e3 e4
  exact ⟨h1, h2⟩
def PmSA (PE : Pg → Str → Option Int → Prop) : Pg → List PyData → Prop := fun g ds => ∃ w n cs, ds = [.str w] ∧ DkS g n cs ∧ (w = "undo" → PE g w none)
def RmSA (ea : EaF) : Pg → List PyData → Pg → PyData → Prop := fun g ds g' d => ∃ w, ds = [.str w] ∧ d = .str (sglA ea g w).1 ∧ g' = (sglA ea g w).2
def PmSW (PE : Pg → Str → Option Int → Prop) : Pg → List PyData → Prop := fun g ds => ∃ w t, ds = [.str w, .str t] ∧ ∀ k, placeD t numsT = some k → PE g w (some (k : Int))
def RmSW (ea : EaF) : Pg → List PyData → Pg → PyData → Prop := fun g ds g' d => ∃ w t, ds = [.str w, .str t] ∧ d = .str (swtA ea g w t).1 ∧ g' = (swtA ea g w t).2
def PmCA (PE : Pg → Str → Option Int → Prop) : Pg → List PyData → Prop := fun g ds => ∃ w t n cs, ds = [.str w, .str t] ∧ DkS g n cs ∧ ∀ c, placeD t (txs n) = some c → w ≠ "why" → w ≠ "base" → PE g w (some (c : Int))
def RmCA (ea : EaF) : Pg → List PyData → Pg → PyData → Prop := fun g ds g' d => ∃ w t, ds = [.str w, .str t] ∧ d = .str (crdA ea g w t).1 ∧ g' = (crdA ea g w t).2
def PmEx (PE : Pg → Str → Option Int → Prop) : Pg → List PyData → Prop := fun g ds => ∃ x n cs, ds = [x] ∧ DkS g n cs ∧ ∀ t, x = .str t → t.length ≤ 900000 ∧ PreW PE g (Txt.split t " ")
def RmEx (ea : EaF) : Pg → List PyData → Pg → PyData → Prop := fun g ds g' d => ∃ x, ds = [x] ∧ d = .str (linA ea g x).1 ∧ g' = (linA ea g x).2
theorem str2_inj {a b c d : Str} (h : ([.str a, .str b] : List PyData) = [.str c, .str d]) : a = c ∧ b = d :=
  ⟨PyData.str.inj (List.cons.inj h).1, PyData.str.inj (List.cons.inj (List.cons.inj h).2).1⟩
theorem len_txs {n : Nat} (hn : n ≤ 6) {cs : List Int} (hr : ∀ c ∈ cs, 0 ≤ c ∧ c < 2 ^ n) (hl : cs.length ≤ 64) : ((cs.map fun c => tx n c.toNat).map (·.length)).sum + (cs.map fun c => tx n c.toNat).length * (Str.ofString " ").length ≤ 1000 := by
  have h : ∀ xs : List Int, (∀ c ∈ xs, 0 ≤ c ∧ c < 2 ^ n) → ((xs.map fun c => tx n c.toNat).map (·.length)).sum ≤ 6 * xs.length := by
    intro xs
    induction xs with
    | nil => intro _; exact Nat.le_refl _
    | cons x xs ih =>
      intro hx
      have h1 := hx x List.mem_cons_self
      have e2 : ((2 ^ n : Nat) : Int) = (2 : Int) ^ n := by rw [Int.natCast_pow]; rfl
      have h2 := (tx_facts n hn x.toNat (by omega)).2.2.2
      have h3 := ih fun c hc => hx c (List.mem_cons_of_mem _ hc)
      show (tx n x.toNat).length + ((xs.map fun c => tx n c.toNat).map (·.length)).sum ≤ 6 * (xs.length + 1)
      omega
  have h1 := h cs hr
  have e1 : (Str.ofString " ").length = 1 := rfl
  rw [e1, List.length_map]
  omega
theorem crd_len {n : Nat} {cs : List Int} (hn : n ≤ 6) (hr : ∀ c ∈ cs, 0 ≤ c ∧ c < 2 ^ n) (hl : cs.length ≤ 64) : (cardsT n cs).length ≤ 1000 := by
  unfold cardsT
  split
  · decide +kernel
  · rw [join_eq]
    exact Nat.le_trans (sep_len _ _) (len_txs hn hr hl)
def RcstG : Rel := fun ds d => ∃ (n : Nat) (cs : List Int), ds = [.int (n : Int), .tuple (cs.map PyData.int)] ∧ n ≤ 6 ∧ (∀ c ∈ cs, 0 ≤ c ∧ c < 2 ^ n) ∧ cs.length ≤ 64 ∧ d = .str (cardsT n cs)
theorem RcstP.g {ds : List PyData} {d : PyData} (h : RcstP ds d) : RcstG ds d := by
  obtain ⟨n, cs, e, hn, hb, ed⟩ := h
  exact ⟨n, cs, e, hn, hb.rng, box_len hn hb, ed⟩

abbrev nCsg : List Str := ["n", "cards", "card"]
theorem scCsg : FnScope nCsg ["n", "cards"] (defScope (topS 47)) := ⟨rfl, rfl, rfl, by decide +kernel, rfl, by decide +kernel, by decide +kernel⟩
section
variable {P : Program} {w : World} {K : PySem.W.Frag} {mg : Str → Option Value} {base : Heap}
theorem ok_csg {f : Addr} {fd : FuncData} (Fn : Fun K "cards_text" "cards_text" (topS 47) f fd) (ml : mg "len" = none) (gc : PFn P w K mg base 2 "card_text" RctP) : FnG P w K mg base 3 f fd ["n", "cards"] (spPure K RcstG) := by
  refine pure_ok (k := 2) Fn scCsg (fun ds d ⟨_, _, e, _⟩ => by rw [e]; rfl) (fun F ds d hK ⟨n, cs, e, hn, hr, hl, ed⟩ => ?_)
  subst e ed
  refine wb_cons (ws_if (wt_eqI (we_len hK rfl ml (fun _ => rfl) ?_)))
  walk_at "name"
  refine ⟨_, rfl, we_int ⟨_, _, rfl, rfl, ?_⟩⟩
  rw [List.length_map]
  by_cases h0 : cs = []
  · subst h0
    exact itP rfl (wb_cons (ws_ret (we_str rfl)))
  · have hpos : cs.length ≠ 0 := fun z => h0 (List.length_eq_zero_iff.mp z)
    refine itN (decide_eq_false (by omega)) (wb_nil (wb_cons (ws_ret (we_joinS (fun _ => rfl) rfl (fun _ => rfl) hK (we_mT PyData.int (fun c => PyData.str (tx n c.toNat)) 2 (by walk_at "blk") hK (fun _ _ => rfl) ?_)))))
    walk_at "name"
    refine ⟨cs, rfl, by omega, fun D c hc => ?_, ?_⟩
    · have hKD : (F.ext D).K = K := hK
      refine we_callP gc (by show 2 ≤ 2; decide) hKD rfl (wa_cons (fun _ => rfl) ?_)
      walk_at "name"
      refine wa_cons (fun _ => rfl) ?_
      walk_at "name"
      exact wa_nil ⟨_, ⟨n, c, rfl, hn, hr c hc, rfl⟩, rfl, rfl⟩
    have hz := len_txs hn hr hl
    have e1 : cs.map (fun c => PyData.str (tx n c.toNat)) = (cs.map fun c => tx n c.toNat).map PyData.str := by rw [List.map_map]; rfl
    have e2 : cardsT n cs = Txt.join " " (cs.map fun c => tx n c.toNat) := if_neg h0
    rw [e1, e2]
    generalize (cs.map fun c => tx n c.toNat) = ys at hz ⊢
    exact ⟨ys, rfl, Nat.le_trans hz (by decide), rfl⟩
end

abbrev nSmA : List Str := ["box", "switches"]
theorem scSmA : FnScope nSmA ["box"] (defScope (topS 54)) := ⟨rfl, rfl, rfl, by decide +kernel, rfl, by decide +kernel, by decide +kernel⟩
def RsmA : Rel := fun ds d => ∃ (n : Nat) (cs : List Int), ds = [boxD n cs] ∧ n ≤ 6 ∧ IsBox n cs ∧ d = .str (smoT n cs)
section
variable {P : Program} {w : World} {K : PySem.W.Frag} {mg : Str → Option Value} {base : Heap}
theorem ok_sma {f : Addr} {fd : FuncData} (Fn : Fun K "smooth_answer" "smooth_answer" (topS 54) f fd) (gr : PFn P w K mg base 6 "rough_set" Rrough) (gc : PFn P w K mg base 2 "card_text" RctP) : FnG P w K mg base 7 f fd ["box"] (spPure K RsmA) := by
  refine pure_ok (k := 6) Fn scSmA (fun ds d ⟨_, _, e, _⟩ => by rw [e]; rfl) (fun F ds d hK ⟨n, cs, e, hn, hb, ed⟩ => ?_)
  subst e ed
  refine wb_cons (ws_set 1 (by walk_at "tgt") (fun env h => by cases env; cases h; rfl) (we_callP gr (by show 6 ≤ 6; decide) hK rfl (wa_cons (fun _ => rfl) ?_)))
  walk_at "name"
  refine wa_nil ⟨_, ⟨n, cs, rfl, hn, hb, rfl⟩, ?_⟩
  have es : smoT n cs = match roughO n cs with | none => "yes" | some s => Str.empty ++ "no " ++ tx n s.toNat := rfl
  rw [es]
  refine wb_cons (ws_ret (we_ifExp (wt_isN ?_)))
  walk_at "name"
  cases hr : roughO n cs with
  | none => exact itP rfl (we_str rfl)
  | some s =>
    have hs : 0 ≤ s ∧ s < 2 ^ n := by
      have := List.mem_of_find?_eq_some hr
      exact mem_rg.mp (List.mem_filter.mp this).1
    have e2 : ((2 ^ n : Nat) : Int) = (2 : Int) ^ n := by rw [Int.natCast_pow]; rfl
    have hl := (tx_facts n hn s.toNat (by omega)).2.2.2
    refine itN rfl (we_joinedK rfl (wkj_str (by decide +kernel) (wkj_txt (we_callP gc (by show 2 ≤ 6; decide) hK rfl (wa_cons (fun _ => rfl) (we_ix hK (fun _ _ => rfl) ?_))))))
    walk_at "name"
    refine we_int ⟨.int (n : Int), rfl, wa_cons (fun _ => rfl) ?_⟩
    walk_at "name"
    refine wa_nil ⟨_, ⟨n, s, rfl, hn, hs, rfl⟩, tx n s.toNat, rfl, by omega, ?_, wkj_nil rfl⟩
    rw [Str.length_append]
    have : (Str.empty ++ "no " : Str).length ≤ 10 := by decide +kernel
    omega
end

abbrev nCrt : List Str := ["n", "certificate", "word", "proof", "cards"]
theorem scCrt : FnScope nCrt ["n", "certificate"] (defScope (topS 55)) := ⟨rfl, rfl, rfl, by decide +kernel, rfl, by decide +kernel, by decide +kernel⟩
def Rcrt : Rel := fun ds d => ∃ (n : Nat) (c : PyData) (p : Str × List Int), ds = [.int (n : Int), c] ∧ n ≤ 6 ∧ CrtOk n c p ∧ d = .str (crtT n p)
section
variable {P : Program} {w : World} {K : PySem.W.Frag} {mg : Str → Option Value} {base : Heap}
theorem ok_crt {f : Addr} {fd : FuncData} (Fn : Fun K "certificate_answer" "certificate_answer" (topS 55) f fd) (mi : mg "isinstance" = none) (mt : mg "tuple" = none) (gc : PFn P w K mg base 3 "cards_text" RcstG) : FnG P w K mg base 4 f fd ["n", "certificate"] (spPure K Rcrt) := by
  refine pure_ok (k := 3) Fn scCrt (fun ds d ⟨_, _, _, e, _⟩ => by rw [e]; rfl) (fun F ds d hK ⟨n, c, ⟨x, ps⟩, e, hn, ⟨hc, hw, hr, hl⟩, ed⟩ => ?_)
  subst e ed
  have hz := crd_len hn hr hl
  have hw : x.length ≤ 10 := hw
  have hz : (cardsT n ps).length ≤ 1000 := hz
  obtain ⟨y, rfl, hy⟩ : ∃ y, c = .tuple [.str x, y] ∧ ((∃ i, y = .int i ∧ ps = [i]) ∨ y = .tuple (ps.map PyData.int)) := by
    rcases hc with ⟨i, e, e2⟩ | e
    · exact ⟨_, e, .inl ⟨i, rfl, e2⟩⟩
    · exact ⟨_, e, .inr rfl⟩
  refine wb_cons (ws_asg2 2 3 (by decide) (by walk_at "tgt") (by walk_at "tgt") hK (fun _ => rfl) (fun _ => rfl) ?_)
  walk_at "name"
  refine ⟨.str x, y, rfl, ?_⟩
  refine wb_mid (fun k' ρ' => ρ' = [.d (.int (n : Int)), .d (.tuple [.str x, y]), .d (.str x), .d y, .d (.tuple (ps.map PyData.int))]) ?_ ?_
  · refine ws_set 4 (by walk_at "tgt") (fun env h => by cases env; cases h; rfl) (we_ifExp (wt_val (fun _ _ => rfl) (we_isi "tuple" kit_tuple hK rfl mi rfl mt rfl (by decide) rfl (fun _ => rfl) ?_)))
    walk_at "name"
    rcases hy with ⟨i, rfl, rfl⟩ | rfl
    · refine ⟨false, rfl, itN rfl (we_tup (wa_cons (fun _ => rfl) ?_))⟩
      walk_at "name"
      exact wa_nil ⟨by show 1 ≤ _; decide, rfl⟩
    · refine ⟨true, rfl, itP rfl ?_⟩
      walk_at "name"
      rfl
  · rintro k' ρ' rfl
    refine wb_cons (ws_ret (we_joinedK rfl (wkj_txt ?_)))
    walk_at "name"
    have h1 : (Str.empty ++ x).length ≤ 10 := by rw [Str.length_append]; have : Str.empty.length = 0 := rfl; omega
    have h2 : (Str.empty ++ x ++ " ").length ≤ 11 := by rw [Str.length_append]; have : (" " : Str).length = 1 := rfl; omega
    refine ⟨x, rfl, by omega, by omega, wkj_str (by omega) (wkj_txt (we_callP gc (by show 3 ≤ 3; decide) hK rfl (wa_cons (fun _ => rfl) ?_)))⟩
    walk_at "name"
    refine wa_cons (fun _ => rfl) ?_
    walk_at "name"
    refine wa_nil ⟨_, ⟨n, ps, rfl, hn, hr, hl, rfl⟩, cardsT n ps, rfl, by omega, ?_, wkj_nil rfl⟩
    rw [Str.length_append]
    omega
end

/-! edits that are none of the errors -/
def edS (w : Str) : Nat := if w = "add" then 0 else if w = "remove" then 1 else if w = "flip" then 2 else 3
def eaK : EaF := fun g w v => if w = "undo" then (okT (g.2.length - 1), (g.1.take g.2.length, g.2.take (g.2.length - 1)))
  else (okT (g.2.length + 1), dkPut g ((boxG g).1, aftL (boxG g).1 (boxG g).2 (edS w, v.getD 0)) (edS w, v.getD 0))
def PeK (g : Pg) (w : Str) (v : Option Int) : Prop := (∃ n cs, DkS g n cs) ∧ ((w = "undo" ∧ v = none ∧ 0 < g.2.length) ∨ ∃ (n : Nat) (cs : List Int) (e : Nat × Int), DkS g n cs ∧ w = wordS e.1 ∧ v = some e.2 ∧ EdFit n cs e ∧ g.2.length < 60)
/-! ### versions of a deck -/
def verB (g : Pg) : PyData → Option (Nat × List Int)
  | .none => g.1.getLast?
  | .int v => if 0 ≤ v then g.1[v.toNat]? else none
  | _ => none
theorem atI_nat {α : Type} {xs : List α} {j : Nat} {x : α} (h : xs[j]? = some x) : atI xs (j : Int) = some x := by
  obtain ⟨hj, _⟩ := List.getElem?_eq_some_iff.mp h
  unfold atI
  rw [ixN_nat hj]
  exact h
def PmVer : Pg → List PyData → Prop := fun g ds => ∃ x n cs, ds = [x] ∧ verB g x = some (n, cs) ∧ n ≤ 6 ∧ IsBox n cs
def RmQ (f : Nat → List Int → PyData) : Pg → List PyData → Pg → PyData → Prop := fun g ds g' d => g' = g ∧ ∃ x n cs, ds = [x] ∧ verB g x = some (n, cs) ∧ d = f n cs
theorem RmQ.one {f : Nat → List Int → PyData} {g g' : Pg} {x d : PyData} {n : Nat} {cs : List Int} (h : RmQ f g [x] g' d) (hv : verB g x = some (n, cs)) : g' = g ∧ d = f n cs := by
  obtain ⟨e, x', n', cs', e1, e2, e3⟩ := h
  cases e1
  rw [hv] at e2
  cases e2
  exact ⟨e, e3⟩
def boxF (n : Nat) (cs : List Int) : PyData := boxP (n, cs)
def shownF (n : Nat) (cs : List Int) : PyData := .tuple ((shownL n cs).map PyData.int)
def solidF (n : Nat) (cs : List Int) : PyData := .tuple ((solidL n cs).map PyData.int)

section
variable {P : Program} {w : World} {K : PySem.W.Frag} {mg : Str → Option Value} {base : Heap} {C : Addr}
theorem ok_mboxV {f : Addr} {fd : FuncData} (pc : PiC K C) (Fn : Fun K "box" "Deck.box" (mS 74 11) f fd) (ml : mg "len" = none) (gb : PFn P w K mg base 2 "is_below" RbelA) : FnG P w K mg base 3 f fd ["self", "version"] (spPi K C PmVer (RmQ boxF)) := by
  refine pi_ok (k := 2) Fn scMb (fun g ds ⟨x, n, cs, e, _⟩ => by rw [e]; rfl) (fun F a dx ds g pi hK ⟨x, n, cs, e, hv, _⟩ => ?_)
  subst e
  refine wb_cons (ws_if (wt_isN ?_))
  walk_at "name"
  cases x with
  | none =>
    refine itP rfl (wb_cons (ws_ret (we_pix pc pi hK 0 rfl (.inl rfl) rfl (fun _ _ => rfl) (wn_neg (wn_int ⟨1, rfl, -1, (n, cs), rfl, atI_last hv, ?_⟩)))))
    exact ⟨g, rfl, rfl, _, n, cs, rfl, hv, rfl⟩
  | int v =>
    have hv2 : (if 0 ≤ v then g.1[v.toNat]? else none) = some (n, cs) := hv
    by_cases h0 : 0 ≤ v
    · rw [if_pos h0] at hv2
      obtain ⟨j, rfl⟩ : ∃ j : Nat, v = (j : Int) := ⟨v.toNat, by omega⟩
      rw [Int.toNat_natCast] at hv2
      obtain ⟨hj, _⟩ := List.getElem?_eq_some_iff.mp hv2
      refine itN rfl (wb_nil (wb_cons (ws_if (wt_not (wt_val (fun _ _ => rfl) ?_)))))
      refine we_callP gb (by show 2 ≤ 2; decide) hK rfl (wa_cons (fun _ => rfl) ?_)
      walk_at "name"
      refine wa_cons (fun _ => rfl) (we_plenS pc pi 0 rfl (.inl rfl) rfl rfl ml (wa_nil ⟨_, ⟨_, _, rfl, rfl⟩, _, rfl, ?_⟩))
      have hb : belD ((g.1.length : Nat) : Int) (.int (j : Int)) = true := by
        show (decide ((0 : Int) ≤ j) && decide ((j : Int) < (g.1.length : Nat))) = true
        rw [decide_eq_true h0, decide_eq_true (by omega)]; rfl
      rw [hb]
      refine itN rfl (wb_nil (wb_cons (ws_ret (we_pix pc pi hK 0 rfl (.inl rfl) rfl (fun _ _ => rfl) (wn_name 1 rfl (.inl rfl) rfl ⟨_, (n, cs), rfl, atI_nat hv2, ?_⟩)))))
      exact ⟨g, rfl, rfl, _, n, cs, rfl, hv, rfl⟩
    · rw [if_neg h0] at hv2
      cases hv2
  | bool _ => cases hv
  | str _ => cases hv
  | list _ => cases hv
  | tuple _ => cases hv
  | dict _ => cases hv
end

abbrev nMq : List Str := ["self", "version"]
theorem scMq1 : FnScope nMq ["self", "version"] (defScope (mS 74 12)) := ⟨rfl, rfl, rfl, by decide +kernel, rfl, by decide +kernel, by decide +kernel⟩
section
variable {P : Program} {w : World} {K : PySem.W.Frag} {mg : Str → Option Value} {base : Heap} {C : Addr}
theorem ok_mshown {f : Addr} {fd : FuncData} (Fn : Fun K "shown" "Deck.shown" (mS 74 12) f fd) (gb : PiK P w K mg base C 3 "box" "version" PmVer (RmQ boxF)) (gs : PFn P w K mg base 3 "shown_sets" Rshs) : FnG P w K mg base 4 f fd ["self", "version"] (spPi K C PmVer (RmQ shownF)) := by
  refine pi_ok (k := 3) Fn scMq1 (fun g ds ⟨x, n, cs, e, _⟩ => by rw [e]; rfl) (fun F a dx ds g pi hK ⟨x, n, cs, e, hv, hn, hb⟩ => ?_)
  subst e
  refine wb_cons (ws_ret (we_callP gs (by show 3 ≤ 3; decide) hK rfl (wa_cons (fun _ => rfl) (we_pmK pi gb (by show 3 ≤ 3; decide) hK 0 rfl (.inl rfl) rfl ⟨by decide, by decide⟩ ?_))))
  walk_at "name"
  refine ⟨Enc.enc, g, pi, rfl, ⟨x, n, cs, rfl, hv, hn, hb⟩, fun g' d h => ?_⟩
  obtain ⟨rfl, rfl⟩ := h.one hv
  exact wa_nil ⟨_, ⟨n, cs, rfl, hn, hb, rfl⟩, g', rfl, rfl, x, n, cs, rfl, hv, rfl⟩
end

theorem scMq2 : FnScope nMq ["self", "version"] (defScope (mS 74 13)) := ⟨rfl, rfl, rfl, by decide +kernel, rfl, by decide +kernel, by decide +kernel⟩
section
variable {P : Program} {w : World} {K : PySem.W.Frag} {mg : Str → Option Value} {base : Heap} {C : Addr}
theorem ok_msolid {f : Addr} {fd : FuncData} (Fn : Fun K "solid" "Deck.solid" (mS 74 13) f fd) (gb : PiK P w K mg base C 3 "box" "version" PmVer (RmQ boxF)) (gs : PFn P w K mg base 6 "solid_sets" Rsets) : FnG P w K mg base 7 f fd ["self", "version"] (spPi K C PmVer (RmQ solidF)) := by
  refine pi_ok (k := 6) Fn scMq2 (fun g ds ⟨x, n, cs, e, _⟩ => by rw [e]; rfl) (fun F a dx ds g pi hK ⟨x, n, cs, e, hv, hn, hb⟩ => ?_)
  subst e
  refine wb_cons (ws_ret (we_callP gs (by show 6 ≤ 6; decide) hK rfl (wa_cons (fun _ => rfl) (we_pmK pi gb (by show 3 ≤ 6; decide) hK 0 rfl (.inl rfl) rfl ⟨by decide, by decide⟩ ?_))))
  walk_at "name"
  refine ⟨Enc.enc, g, pi, rfl, ⟨x, n, cs, rfl, hv, hn, hb⟩, fun g' d h => ?_⟩
  obtain ⟨rfl, rfl⟩ := h.one hv
  exact wa_nil ⟨_, ⟨n, cs, rfl, hn, rfl⟩, g', rfl, rfl, x, n, cs, rfl, hv, rfl⟩
end

theorem scMq3 : FnScope nMq ["self", "version"] (defScope (mS 74 14)) := ⟨rfl, rfl, rfl, by decide +kernel, rfl, by decide +kernel, by decide +kernel⟩
section
variable {P : Program} {w : World} {K : PySem.W.Frag} {mg : Str → Option Value} {base : Heap} {C : Addr}
theorem ok_mcounts {f : Addr} {fd : FuncData} (Fn : Fun K "counts" "Deck.counts" (mS 74 14) f fd) (gb : PiK P w K mg base C 3 "box" "version" PmVer (RmQ boxF)) (gs : PFn P w K mg base 7 "set_counts" Rcn3) : FnG P w K mg base 8 f fd ["self", "version"] (spPi K C PmVer (RmQ cnt3D)) := by
  refine pi_ok (k := 7) Fn scMq3 (fun g ds ⟨x, n, cs, e, _⟩ => by rw [e]; rfl) (fun F a dx ds g pi hK ⟨x, n, cs, e, hv, hn, hb⟩ => ?_)
  subst e
  refine wb_cons (ws_ret (we_callP gs (by show 7 ≤ 7; decide) hK rfl (wa_cons (fun _ => rfl) (we_pmK pi gb (by show 3 ≤ 7; decide) hK 0 rfl (.inl rfl) rfl ⟨by decide, by decide⟩ ?_))))
  walk_at "name"
  refine ⟨Enc.enc, g, pi, rfl, ⟨x, n, cs, rfl, hv, hn, hb⟩, fun g' d h => ?_⟩
  obtain ⟨rfl, rfl⟩ := h.one hv
  exact wa_nil ⟨_, ⟨n, cs, rfl, hn, hb, rfl⟩, g', rfl, rfl, x, n, cs, rfl, hv, rfl⟩
end

abbrev nBt : List Str := ["box", "n", "cards"]
theorem scBt : FnScope nBt ["box"] (defScope (topS 48)) := ⟨rfl, rfl, rfl, by decide +kernel, rfl, by decide +kernel, by decide +kernel⟩
def RbtP : Rel := fun ds d => ∃ (n : Nat) (cs : List Int), ds = [boxD n cs] ∧ n ≤ 6 ∧ IsBox n cs ∧ d = .str (boxT n cs)
section
variable {P : Program} {w : World} {K : PySem.W.Frag} {mg : Str → Option Value} {base : Heap}
theorem ok_btG {f : Addr} {fd : FuncData} (Fn : Fun K "box_text" "box_text" (topS 48) f fd) (gc : PFn P w K mg base 3 "cards_text" RcstG) : FnG P w K mg base 4 f fd ["box"] (spPure K RbtP) := by
  refine pure_ok (k := 3) Fn scBt (fun ds d ⟨_, _, e, _⟩ => by rw [e]; rfl) (fun F ds d hK ⟨n, cs, e, hn, hb, ed⟩ => ?_)
  subst e ed
  obtain ⟨h1, h2⟩ := head_len n hn
  have h3 := cards_len hn hb
  refine wb_cons (ws_asg2 1 2 (by decide) (by walk_at "tgt") (by walk_at "tgt") hK (fun _ => rfl) (fun _ => rfl) ?_)
  walk_at "name"
  refine ⟨.int (n : Int), .tuple (cs.map PyData.int), rfl, ?_⟩
  refine wb_cons (ws_ret (we_joinedK rfl (wkj_int ?_)))
  walk_at "name"
  refine ⟨(n : Int), rfl, by omega, Nat.le_trans h1 (by decide), ?_⟩
  refine wkj_str (Nat.le_trans h2 (by decide)) ?_
  refine wkj_txt (we_callP gc (by show 3 ≤ 3; decide) hK rfl (wa_cons (fun _ => rfl) ?_))
  walk_at "name"
  refine wa_cons (fun _ => rfl) ?_
  walk_at "name"
  refine wa_nil ⟨.str (cardsT n cs), ⟨n, cs, rfl, hn, hb.rng, box_len hn hb, rfl⟩, cardsT n cs, rfl, Nat.le_trans h3 (by decide), ?_, ?_⟩
  · rw [Str.length_append]
    exact Nat.le_trans (Nat.add_le_add h2 h3) (by decide)
  · exact wkj_nil rfl
end

abbrev nSgl : List Str := ["deck", "word", "box", "count"]
theorem scSgl : FnScope nSgl ["deck", "word"] (defScope (topS 56)) := ⟨rfl, rfl, rfl, by decide +kernel, rfl, by decide +kernel, by decide +kernel⟩
theorem setL_rng {n : Nat} {p : Int → Bool} : (∀ c ∈ (rg (2 ^ n)).filter p, 0 ≤ c ∧ c < 2 ^ n) := fun c hc => mem_rg.mp (List.mem_filter.mp hc).1
theorem setL_len {n : Nat} (hn : n ≤ 6) (p : Int → Bool) : ((rg (2 ^ n)).filter p).length ≤ 64 := by
  have h1 := List.length_filter_le p (rg (2 ^ n))
  have h2 : (rg ((2 : Int) ^ n)).length = 2 ^ n := by
    unfold rg
    rw [List.length_map, List.length_range]
    have : ((2 ^ n : Nat) : Int) = (2 : Int) ^ n := by rw [Int.natCast_pow]; rfl
    rw [← this, Int.toNat_natCast]
  have h3 := pow_le64 hn
  have h4 : ((2 ^ n : Nat) : Int) = (2 : Int) ^ n := by rw [Int.natCast_pow]; rfl
  omega
section
variable {P : Program} {w : World} {K : PySem.W.Frag} {mg : Str → Option Value} {base : Heap} {C : Addr} {ea : EaF} {PE : Pg → Str → Option Int → Prop} {tk : Tok}
theorem ok_sa {f : Addr} {fd : FuncData} (Fn : Fun K "single_answer" "single_answer" (topS 56) f fd) (ms : mg "str" = none) (vu : mg "UNKNOWN" = some (.str "unknown command" tk)) (gb : PiM P w K mg base C 1 "box" [.non] PmBox RmBox) (gs : PiM P w K mg base C 4 "shown" [.non] PmVer (RmQ shownF)) (gl : PiM P w K mg base C 7 "solid" [.non] PmVer (RmQ solidF)) (gc : PiM P w K mg base C 8 "counts" [.non] PmVer (RmQ cnt3D))
    (ge : PiF P w K mg base C 7 "edit_answer" (PmEA PE) (RmEA ea)) (gx : PFn P w K mg base 4 "box_text" RbtP) (gt : PFn P w K mg base 3 "cards_text" RcstG) (gm : PFn P w K mg base 7 "smooth_answer" RsmA) : FnG P w K mg base 9 f fd ["deck", "word"] (spPi K C (PmSA PE) (RmSA ea)) := by
  refine pi_ok (k := 8) Fn scSgl (fun g ds ⟨_, _, _, e, _⟩ => by rw [e]; rfl) (fun F a dx ds g pi hK ⟨x, n, cs, e, hg, hp⟩ => ?_)
  subst e
  have hn := hg.hn
  have hb := hg.hb
  have hcl := box_len hn hb
  have hver : verB g .none = some (n, cs) := hg.last
  refine wb_cons (ws_set 2 (by walk_at "tgt") (fun env h => by cases env; cases h; rfl) (we_pm0N pi gb (by show 1 ≤ 8; decide) hK 0 rfl (by walk_at "vis") rfl ⟨by decide, by decide⟩ ⟨rfl, hg.ne⟩ ?_))
  rintro g1 d ⟨rfl, b, hbl, rfl⟩
  rw [hg.last] at hbl
  obtain rfl : (n, cs) = b := Option.some.inj hbl
  clear hbl
  have fin : ∀ {s : Str}, x ≠ "undo" → sglT n cs x = s → ∃ g', Enc.enc g1 = Enc.enc g' ∧ RmSA ea g1 [.str x] g' (.str s) := fun {s} h1 h2 => by
    refine ⟨g1, rfl, x, rfl, ?_, ?_⟩
    · unfold sglA
      rw [if_neg h1, hg.bxg]
      exact congrArg PyData.str h2.symm
    · unfold sglA
      rw [if_neg h1]
  refine wb_cons (ws_if (wt_eqT ?_))
  walk_at "name"
  refine we_str ⟨_, _, rfl, rfl, ?_⟩
  by_cases h1 : x = "undo"
  · refine itP (decide_eq_true h1) (wb_cons (ws_ret (we_pf pi ge (by show 7 ≤ 8; decide) hK 0 rfl rfl (by walk_at "vis") rfl (wa_cons (fun _ => rfl) ?_))))
    walk_at "name"
    refine wa_cons (fun _ => rfl) (we_non (wa_nil ⟨Enc.enc, g1, pi, rfl, ⟨x, none, rfl, hp h1⟩, ?_⟩))
    intro g' d hr
    obtain ⟨e1, e2⟩ := RmEA.one (v := none) hr
    refine ⟨g', rfl, x, rfl, ?_, ?_⟩
    · rw [e1]; unfold sglA; rw [if_pos h1]
    · rw [e2]; unfold sglA; rw [if_pos h1]
  refine itN (decide_eq_false h1) (wb_nil (wb_cons (ws_if (wt_eqT ?_))))
  walk_at "name"
  refine we_str ⟨_, _, rfl, rfl, ?_⟩
  by_cases h2 : x = "box"
  · refine itP (decide_eq_true h2) (wb_cons (ws_ret (we_callP gx (by show 4 ≤ 8; decide) hK rfl (wa_cons (fun _ => rfl) ?_))))
    walk_at "name"
    refine wa_nil ⟨_, ⟨n, cs, rfl, hn, hb, rfl⟩, fin h1 ?_⟩
    unfold sglT
    rw [if_pos h2]
  refine itN (decide_eq_false h2) (wb_nil (wb_cons (ws_if (wt_eqT ?_))))
  walk_at "name"
  refine we_str ⟨_, _, rfl, rfl, ?_⟩
  by_cases h3 : x = "counts"
  · refine itP (decide_eq_true h3) (wb_cons (ws_ret (we_joinS (fun _ => rfl) rfl (fun _ => rfl) hK (we_mT PyData.int (fun c => PyData.str (intT c)) 3 (by walk_at "blk") hK (fun _ _ => rfl) ?_))))
    refine we_pm0N pi gc (by show 8 ≤ 8; decide) hK 0 rfl (by walk_at "vis") rfl ⟨by decide, by decide⟩ ⟨_, n, cs, rfl, hver, hn, hb⟩ ?_
    intro g2 d hr
    obtain ⟨rfl, rfl⟩ := RmQ.one hr hver
    have l1 : (solidL n cs).length ≤ 64 := setL_len hn _
    have l2 : (shownL n cs).length ≤ 64 := setL_len hn _
    refine ⟨[((solidL n cs).length : Nat), (cs.length : Nat), ((shownL n cs).length : Nat)], rfl, by show 3 ≤ _; decide, fun D c hc => ?_, ?_⟩
    · have hc2 : 0 ≤ c ∧ c ≤ 64 := by
        simp only [List.mem_cons, List.not_mem_nil, or_false] at hc
        rcases hc with rfl | rfl | rfl <;> omega
      refine we_strI rfl ms (fun _ => rfl) ?_
      walk_at "name"
      exact ⟨c, rfl, by omega, rfl, rfl⟩
    have hl : ∀ m : Nat, m ≤ 64 → (intT (m : Int)).length ≤ 10 := by decide +kernel
    have q1 := hl _ l1
    have q2 := hl _ hcl
    have q3 := hl _ l2
    refine ⟨[intT ((solidL n cs).length : Nat), intT (cs.length : Nat), intT ((shownL n cs).length : Nat)], rfl, ?_, fin h1 ?_⟩
    · show (intT ((solidL n cs).length : Nat)).length + ((intT (cs.length : Nat)).length + ((intT ((shownL n cs).length : Nat)).length + 0)) + 3 * (Str.ofString " ").length ≤ _
      have e1 : (Str.ofString " ").length = 1 := rfl
      rw [e1]
      omega
    · unfold sglT
      rw [if_neg h2, if_pos h3]
      rfl
  refine itN (decide_eq_false h3) (wb_nil (wb_cons (ws_if (wt_eqT ?_))))
  walk_at "name"
  refine we_str ⟨_, _, rfl, rfl, ?_⟩
  by_cases h4 : x = "shown"
  · refine itP (decide_eq_true h4) (wb_cons (ws_ret (we_callP gt (by show 3 ≤ 8; decide) hK rfl (wa_cons (fun _ => rfl) (we_ix hK (fun _ _ => rfl) ?_)))))
    walk_at "name"
    refine we_int ⟨.int (n : Int), rfl, wa_cons (fun _ => rfl) (we_pm0N pi gs (by show 4 ≤ 8; decide) hK 0 rfl (by walk_at "vis") rfl ⟨by decide, by decide⟩ ⟨_, n, cs, rfl, hver, hn, hb⟩ ?_)⟩
    intro g2 d hr
    obtain ⟨rfl, rfl⟩ := RmQ.one hr hver
    refine wa_nil ⟨_, ⟨n, shownL n cs, rfl, hn, setL_rng, setL_len hn _, rfl⟩, fin h1 ?_⟩
    unfold sglT
    rw [if_neg h2, if_neg h3, if_pos h4]
  refine itN (decide_eq_false h4) (wb_nil (wb_cons (ws_if (wt_eqT ?_))))
  walk_at "name"
  refine we_str ⟨_, _, rfl, rfl, ?_⟩
  by_cases h5 : x = "solid"
  · refine itP (decide_eq_true h5) (wb_cons (ws_ret (we_callP gt (by show 3 ≤ 8; decide) hK rfl (wa_cons (fun _ => rfl) (we_ix hK (fun _ _ => rfl) ?_)))))
    walk_at "name"
    refine we_int ⟨.int (n : Int), rfl, wa_cons (fun _ => rfl) (we_pm0N pi gl (by show 7 ≤ 8; decide) hK 0 rfl (by walk_at "vis") rfl ⟨by decide, by decide⟩ ⟨_, n, cs, rfl, hver, hn, hb⟩ ?_)⟩
    intro g2 d hr
    obtain ⟨rfl, rfl⟩ := RmQ.one hr hver
    refine wa_nil ⟨_, ⟨n, solidL n cs, rfl, hn, setL_rng, setL_len hn _, rfl⟩, fin h1 ?_⟩
    unfold sglT
    rw [if_neg h2, if_neg h3, if_neg h4, if_pos h5]
  refine itN (decide_eq_false h5) (wb_nil (wb_cons (ws_if (wt_eqT ?_))))
  walk_at "name"
  refine we_str ⟨_, _, rfl, rfl, ?_⟩
  by_cases h6 : x = "smooth"
  · refine itP (decide_eq_true h6) (wb_cons (ws_ret (we_callP gm (by show 7 ≤ 8; decide) hK rfl (wa_cons (fun _ => rfl) ?_))))
    walk_at "name"
    refine wa_nil ⟨_, ⟨n, cs, rfl, hn, hb, rfl⟩, fin h1 ?_⟩
    unfold sglT
    rw [if_neg h2, if_neg h3, if_neg h4, if_neg h5, if_pos h6]
  refine itN (decide_eq_false h6) (wb_nil (wb_cons (ws_ret (we_gstr rfl vu (fin h1 ?_)))))
  unfold sglT
  rw [if_neg h2, if_neg h3, if_neg h4, if_neg h5, if_neg h6]
  rfl
end

abbrev nSwa : List Str := ["deck", "word", "text", "switch", "number"]
theorem scSwa : FnScope nSwa ["deck", "word", "text"] (defScope (topS 57)) := ⟨rfl, rfl, rfl, by decide +kernel, rfl, by decide +kernel, by decide +kernel⟩
section
variable {P : Program} {w : World} {K : PySem.W.Frag} {mg : Str → Option Value} {base : Heap} {C : Addr} {ea : EaF} {PE : Pg → Str → Option Int → Prop} {tk : Tok}
theorem ok_swa {f : Addr} {fd : FuncData} (Fn : Fun K "switch_answer" "switch_answer" (topS 57) f fd) (ms : mg "str" = none) (mr : mg "range" = none) (vu : mg "UNKNOWN" = some (.str "unknown command" tk)) (gp : PFn P w K mg base 1 "place_of" Rpof) (ge : PiF P w K mg base C 7 "edit_answer" (PmEA PE) (RmEA ea)) : FnG P w K mg base 8 f fd ["deck", "word", "text"] (spPi K C (PmSW PE) (RmSW ea)) := by
  refine pi_ok (k := 7) Fn scSwa (fun g ds ⟨_, _, e, _⟩ => by rw [e]; rfl) (fun F a dx ds g pi hK ⟨x, t, e, hp⟩ => ?_)
  subst e
  refine wb_cons (ws_set 3 (by walk_at "tgt") (fun env h => by cases env; cases h; rfl) (we_callP gp (by show 1 ≤ 7; decide) hK rfl (wa_cons (fun _ => rfl) ?_)))
  walk_at "name"
  refine wa_cons (fun _ => rfl) (we_mR (fun c => PyData.str (intT c)) 4 (by walk_at "blk") rfl mr (fun _ => rfl) (fun _ _ => rfl) (we_int ⟨100, rfl, by decide, by decide, fun D c c0 c1 => ?_, ?_⟩))
  · refine we_strI rfl ms (fun _ => rfl) ?_
    walk_at "name"
    exact ⟨c, rfl, by omega, rfl, rfl⟩
  have e1 : (rg (100 : Int)).map (fun c => PyData.str (intT c)) = numsT.map PyData.str := by unfold numsT; rw [List.map_map]; rfl
  rw [e1]
  refine wa_nil ⟨_, ⟨t, numsT, rfl, rfl⟩, ?_⟩
  refine wb_cons (ws_ret (we_ifExp (wt_isN ?_)))
  walk_at "name"
  cases hq : placeD t numsT with
  | none =>
    refine itP rfl (we_gstr rfl vu ⟨g, rfl, x, t, rfl, ?_, ?_⟩)
    · unfold swtA; rw [hq]; rfl
    · unfold swtA; rw [hq]
  | some j =>
    refine itN rfl (we_pf pi ge (by show 7 ≤ 7; decide) hK 0 rfl rfl (by walk_at "vis") rfl (wa_cons (fun _ => rfl) ?_))
    walk_at "name"
    refine wa_cons (fun _ => rfl) ?_
    walk_at "name"
    refine wa_nil ⟨Enc.enc, g, pi, rfl, ⟨x, some (j : Int), rfl, hp j hq⟩, ?_⟩
    intro g' d hr
    obtain ⟨e2, e3⟩ := RmEA.one (v := some (j : Int)) hr
    refine ⟨g', rfl, x, t, rfl, ?_, ?_⟩
    · rw [e2]; unfold swtA; rw [hq]
    · rw [e3]; unfold swtA; rw [hq]
end

theorem why_ok {n : Nat} {cs : List Int} {s : Int} (hn : n ≤ 6) (hb : IsBox n cs) (h0 : 0 ≤ s) (h1 : s < 2 ^ n) : CrtOk n (shcD cs s) (whyP cs s) := by
  have hp : ∀ p ∈ parts s, 0 ≤ p ∧ p < 2 ^ n := fun p hp => by
    unfold parts at hp
    have := mem_rg.mp (List.mem_filter.mp hp).1
    omega
  have hlen : (parts s).length ≤ 64 := by
    unfold parts
    have h2 := List.length_filter_le (fun p => decide (Builtin.bitAnd p s = p)) (rg (s + 1))
    have h3 : (rg (s + 1)).length = (s + 1).toNat := by unfold rg; rw [List.length_map, List.length_range]
    have h4 := pow_le64 hn
    have e2 : ((2 ^ n : Nat) : Int) = (2 : Int) ^ n := by rw [Int.natCast_pow]; rfl
    omega
  unfold shcD whyP CrtOk
  cases hf : (parts s).find? fun p => (cwL cs s p).isEmpty with
  | some p =>
    have hm := hp p (List.mem_of_find?_eq_some hf)
    exact ⟨.inl ⟨p, rfl, rfl⟩, by show ("missing" : Str).length ≤ 10; decide +kernel, fun c hc => by rw [List.mem_singleton.mp hc]; exact hm, by show 1 ≤ 64; decide⟩
  | none =>
    refine ⟨.inr (by rw [List.map_map]; rfl), by show ("shown" : Str).length ≤ 10; decide +kernel, fun c hc => ?_, by rw [List.length_map]; exact hlen⟩
    obtain ⟨p, hp1, rfl⟩ := List.mem_map.mp hc
    have hne := List.find?_eq_none.mp hf p hp1
    cases hcw : cwL cs s p with
    | nil => rw [hcw] at hne; exact absurd rfl hne
    | cons y r =>
      have : y ∈ cwL cs s p := by rw [hcw]; exact List.mem_cons_self
      exact hb.rng y (List.mem_filter.mp this).1
theorem cube_lt {n : Nat} {s b c : Int} (hn : n ≤ 6) (h0 : 0 ≤ s) (h1 : s < 2 ^ n) (hb : b ∈ outside n s) (hc : c ∈ cubeCards b s) : 0 ≤ c ∧ c < 2 ^ n := by
  have e2 : ((2 ^ n : Nat) : Int) = (2 : Int) ^ n := by rw [Int.natCast_pow]; rfl
  obtain ⟨hb1, hb2⟩ := List.mem_filter.mp hb
  obtain ⟨p, hp, rfl⟩ := List.mem_map.mp hc
  obtain ⟨hp1, hp2⟩ := List.mem_filter.mp hp
  have hb1 := mem_rg.mp hb1
  have hp1 := mem_rg.mp hp1
  have hb2 : Builtin.bitAnd b s = 0 := of_decide_eq_true hb2
  have hp2 : Builtin.bitAnd p s = p := of_decide_eq_true hp2
  obtain ⟨b, rfl⟩ : ∃ m : Nat, b = (m : Int) := ⟨b.toNat, by omega⟩
  obtain ⟨p, rfl⟩ : ∃ m : Nat, p = (m : Int) := ⟨p.toNat, by omega⟩
  obtain ⟨s, rfl⟩ : ∃ m : Nat, s = (m : Int) := ⟨s.toNat, by omega⟩
  rw [band_nat] at hb2 hp2
  have hb3 : b &&& s = 0 := by omega
  have hp3 : p &&& s = p := by omega
  have hz : b &&& p = 0 := by rw [← hp3, Nat.and_comm p s, ← Nat.and_assoc, hb3, Nat.zero_and]
  have fact : ∀ n ≤ 6, ∀ b < 2 ^ n, ∀ p < 2 ^ n, b &&& p = 0 → b + p < 2 ^ n := by decide +kernel
  have := fact n hn b (by omega) p (by omega) hz
  omega
theorem bas_ok {n : Nat} {cs : List Int} {s : Int} (hn : n ≤ 6) (h0 : 0 ≤ s) (h1 : s < 2 ^ n) : CrtOk n (certD n cs s) (basP n cs s) := by
  unfold certD basP CrtOk
  have hob : ∀ b ∈ outside n s, (0 ≤ b ∧ b < 2 ^ n) := fun b hb => by
    unfold outside at hb
    exact mem_rg.mp (List.mem_filter.mp hb).1
  cases hq : basesL n cs s with
  | cons b r =>
    have hm : b ∈ basesL n cs s := by rw [hq]; exact List.mem_cons_self
    have hm2 : b ∈ outside n s := by unfold basesL at hm; exact (List.mem_filter.mp hm).1
    exact ⟨.inl ⟨b, rfl, rfl⟩, by show ("solid" : Str).length ≤ 10; decide +kernel, fun c hc => by rw [List.mem_singleton.mp hc]; exact hob b hm2, by show 1 ≤ 64; decide⟩
  | nil =>
    have hsome : ∀ b ∈ outside n s, ∃ c, missing cs b s = some c := fun b hb => by
      cases hm : missing cs b s with
      | some c => exact ⟨c, rfl⟩
      | none =>
        have : b ∈ basesL n cs s := List.mem_filter.mpr ⟨hb, by rw [hm]; rfl⟩
        rw [hq] at this
        exact (List.not_mem_nil this).elim
    refine ⟨.inr ?_, by show ("broken" : Str).length ≤ 10; decide +kernel, fun c hc => ?_, ?_⟩
    · show PyData.tuple [.str "broken", .tuple ((outside n s).map fun b => missD cs b s)] = .tuple [.str "broken", .tuple (((outside n s).map fun b => mssL cs b s).map PyData.int)]
      rw [List.map_map]
      have : (outside n s).map (fun b => missD cs b s) = (outside n s).map (PyData.int ∘ fun b => mssL cs b s) := List.map_congr_left fun b hb => by
        obtain ⟨c, hc⟩ := hsome b hb
        show missD cs b s = PyData.int (mssL cs b s)
        unfold missD mssL
        rw [hc]
        rfl
      rw [this]
    · obtain ⟨b, hb, rfl⟩ := List.mem_map.mp hc
      obtain ⟨c, hc2⟩ := hsome b hb
      show 0 ≤ mssL cs b s ∧ mssL cs b s < 2 ^ n
      unfold mssL
      rw [hc2]
      show 0 ≤ c ∧ c < 2 ^ n
      have hcm : c ∈ cubeCards b s := List.mem_of_find?_eq_some hc2
      exact cube_lt hn h0 h1 hb hcm
    · rw [List.length_map]
      unfold outside
      exact setL_len hn _

abbrev nCa : List Str := ["deck", "word", "text", "box", "card"]
theorem scCa : FnScope nCa ["deck", "word", "text"] (defScope (topS 58)) := ⟨rfl, rfl, rfl, by decide +kernel, rfl, by decide +kernel, by decide +kernel⟩
section
variable {P : Program} {w : World} {K : PySem.W.Frag} {mg : Str → Option Value} {base : Heap} {C : Addr} {ea : EaF} {PE : Pg → Str → Option Int → Prop} {tk : Tok}
theorem ok_ca {f : Addr} {fd : FuncData} (Fn : Fun K "card_answer" "card_answer" (topS 58) f fd) (vu : mg "UNKNOWN" = some (.str "unknown command" tk)) (gb : PiM P w K mg base C 1 "box" [.non] PmBox RmBox) (gr : PFn P w K mg base 3 "read_card" Rrcd) (gc : PFn P w K mg base 4 "certificate_answer" Rcrt) (gs : PFn P w K mg base 2 "shown_certificate" Rshc) (gl : PFn P w K mg base 5 "solid_certificate" Rcert) (ge : PiF P w K mg base C 7 "edit_answer" (PmEA PE) (RmEA ea)) : FnG P w K mg base 9 f fd ["deck", "word", "text"] (spPi K C (PmCA PE) (RmCA ea)) := by
  refine pi_ok (k := 8) Fn scCa (fun g ds ⟨_, _, _, _, e, _⟩ => by rw [e]; rfl) (fun F a dx ds g pi hK ⟨x, t, n, cs, e, hg, hp⟩ => ?_)
  subst e
  have hn := hg.hn
  have hb := hg.hb
  refine wb_cons (ws_set 3 (by walk_at "tgt") (fun env h => by cases env; cases h; rfl) (we_pm0N pi gb (by show 1 ≤ 8; decide) hK 0 rfl (by walk_at "vis") rfl ⟨by decide, by decide⟩ ⟨rfl, hg.ne⟩ ?_))
  rintro g1 d ⟨rfl, b, hbl, rfl⟩
  rw [hg.last] at hbl
  obtain rfl : (n, cs) = b := Option.some.inj hbl
  clear hbl
  refine wb_cons (ws_set 4 (by walk_at "tgt") (fun env h => by cases env; cases h; rfl) (we_callP gr (by show 3 ≤ 8; decide) hK rfl (wa_cons (fun _ => rfl) (we_ix hK (fun _ _ => rfl) ?_))))
  walk_at "name"
  refine we_int ⟨.int (n : Int), rfl, wa_cons (fun _ => rfl) ?_⟩
  walk_at "name"
  refine wa_nil ⟨_, ⟨n, t, rfl, hn, rfl⟩, ?_⟩
  have ec : crdA ea g1 x t = match placeD t (txs n) with
    | none => (unkT, g1)
    | some c => if x = "why" then (crtT n (whyP cs (c : Int)), g1) else if x = "base" then (crtT n (basP n cs (c : Int)), g1) else ea g1 x (some (c : Int)) := by
    unfold crdA
    rw [hg.bxg]
    all_goals (cases hq : placeD t (txs n) <;> dsimp only)
  refine wb_cons (ws_if (wt_isN ?_))
  walk_at "name"
  cases hq : placeD t (txs n) with
  | none =>
    rw [hq] at ec
    refine itP rfl (wb_cons (ws_ret (we_gstr rfl vu ⟨g1, rfl, x, t, rfl, ?_, ?_⟩)))
    · rw [ec]; rfl
    · rw [ec]
  | some c =>
    rw [hq] at ec
    have ec : crdA ea g1 x t = if x = "why" then (crtT n (whyP cs (c : Int)), g1) else if x = "base" then (crtT n (basP n cs (c : Int)), g1) else ea g1 x (some (c : Int)) := ec
    have hc : c < 2 ^ n := by have := place_lt hq; rw [txs_len] at this; exact this
    have e2 : ((2 ^ n : Nat) : Int) = (2 : Int) ^ n := by rw [Int.natCast_pow]; rfl
    have hpw := pow_le64 hn
    refine itN rfl (wb_nil (wb_cons (ws_if (wt_eqT ?_))))
    walk_at "name"
    refine we_str ⟨_, _, rfl, rfl, ?_⟩
    by_cases h1 : x = "why"
    · rw [if_pos h1] at ec
      refine itP (decide_eq_true h1) (wb_cons (ws_ret (we_callP gc (by show 4 ≤ 8; decide) hK rfl (wa_cons (fun _ => rfl) (we_ix hK (fun _ _ => rfl) ?_)))))
      walk_at "name"
      refine we_int ⟨.int (n : Int), rfl, wa_cons (fun _ => rfl) (we_callP gs (by show 2 ≤ 8; decide) hK rfl (wa_cons (fun _ => rfl) ?_))⟩
      walk_at "name"
      refine wa_cons (fun _ => rfl) ?_
      walk_at "name"
      refine wa_nil ⟨_, ⟨n, cs, (c : Int), rfl, hn, hb, ⟨by omega, by omega⟩, rfl⟩, wa_nil ⟨_, ⟨n, _, whyP cs (c : Int), rfl, hn, why_ok hn hb (by omega) (by omega), rfl⟩, g1, rfl, x, t, rfl, ?_, ?_⟩⟩
      · rw [ec]
      · rw [ec]
    rw [if_neg h1] at ec
    refine itN (decide_eq_false h1) (wb_nil (wb_cons (ws_if (wt_eqT ?_))))
    walk_at "name"
    refine we_str ⟨_, _, rfl, rfl, ?_⟩
    by_cases h2 : x = "base"
    · rw [if_pos h2] at ec
      refine itP (decide_eq_true h2) (wb_cons (ws_ret (we_callP gc (by show 4 ≤ 8; decide) hK rfl (wa_cons (fun _ => rfl) (we_ix hK (fun _ _ => rfl) ?_)))))
      walk_at "name"
      refine we_int ⟨.int (n : Int), rfl, wa_cons (fun _ => rfl) (we_callP gl (by show 5 ≤ 8; decide) hK rfl (wa_cons (fun _ => rfl) ?_))⟩
      walk_at "name"
      refine wa_cons (fun _ => rfl) ?_
      walk_at "name"
      refine wa_nil ⟨_, ⟨n, cs, (c : Int), rfl, hn, ⟨by omega, by omega⟩, rfl⟩, wa_nil ⟨_, ⟨n, _, basP n cs (c : Int), rfl, hn, bas_ok hn (by omega) (by omega), rfl⟩, g1, rfl, x, t, rfl, ?_, ?_⟩⟩
      · rw [ec]
      · rw [ec]
    rw [if_neg h2] at ec
    refine itN (decide_eq_false h2) (wb_nil (wb_cons (ws_ret (we_pf pi ge (by show 7 ≤ 8; decide) hK 0 rfl rfl (by walk_at "vis") rfl (wa_cons (fun _ => rfl) ?_)))))
    walk_at "name"
    refine wa_cons (fun _ => rfl) ?_
    walk_at "name"
    refine wa_nil ⟨Enc.enc, g1, pi, rfl, ⟨x, some (c : Int), rfl, hp c hq h1 h2⟩, ?_⟩
    intro g' d hr
    obtain ⟨e3, e4⟩ := RmEA.one (v := some (c : Int)) hr
    refine ⟨g', rfl, x, t, rfl, ?_, ?_⟩
    · rw [e3, ec]
    · rw [e4, ec]
end

abbrev nEx : List Str := ["self", "line", "word", "rest"]
theorem scEx : FnScope nEx ["self", "line"] (defScope (mS 59 1)) := ⟨rfl, rfl, rfl, by decide +kernel, rfl, by decide +kernel, by decide +kernel⟩
section
variable {P : Program} {w : World} {K : PySem.W.Frag} {mg : Str → Option Value} {base : Heap} {C CS : Addr} {ea : EaF} {PE : Pg → Str → Option Int → Prop} {tk : Tok}
theorem ok_ex {f : Addr} {fd : FuncData} (sc : ShC K CS) (Fn : Fun K "execute" "Shell.execute" (mS 59 1) f fd) (mi : mg "isinstance" = none) (ms : mg "str" = none) (ml : mg "len" = none) (vu : mg "UNKNOWN" = some (.str "unknown command" tk)) (gs : PiF P w K mg base C 9 "single_answer" (PmSA PE) (RmSA ea)) (gw : PiF P w K mg base C 8 "switch_answer" (PmSW PE) (RmSW ea)) (gc : PiF P w K mg base C 9 "card_answer" (PmCA PE) (RmCA ea)) : FnG P w K mg base 10 f fd ["self", "line"] (spSh K C CS (PmEx PE) (RmEx ea)) := by
  refine sh_ok (k := 9) Fn scEx (fun g ds ⟨_, _, _, e, _⟩ => by rw [e]; rfl) (fun F a dx b ds g pi sh hK ⟨x, n, cs, e, hg, hp⟩ => ?_)
  subst e
  have unk : (linA ea g x) = (unkT, g) → ∃ g', Enc.enc g = Enc.enc g' ∧ RmEx ea g [x] g' (.str "unknown command") := fun h => ⟨g, rfl, x, rfl, by rw [h]; rfl, by rw [h]⟩
  refine wb_cons (ws_if (wt_not (wt_val (fun _ _ => rfl) (we_isi "str" kit_str hK rfl mi rfl ms rfl (by decide) rfl (fun _ => rfl) ?_))))
  walk_at "name"
  refine ⟨_, rfl, ?_⟩
  by_cases hs : isiD "str" x = false
  · refine itP (by rw [hs]; rfl) (wb_cons (ws_ret (we_gstr rfl vu (unk ?_))))
    cases x <;> first | rfl | cases hs
  have hs : isiD "str" x = true := by simpa using hs
  obtain ⟨t, rfl⟩ : ∃ t, x = .str t := by cases x <;> first | exact ⟨_, rfl⟩ | cases hs
  obtain ⟨hz, pw⟩ := hp t rfl
  have hne := words_ne t
  have hwl := words_len t
  have el : linA ea g (.str t) = wdsA ea g (Txt.split t " ") := rfl
  refine itN (by rw [hs]; rfl) (wb_nil (wb_cons (ws_asgStar 2 3 (by walk_at "tgt") (by walk_at "tgt") hK (fun env h => by cases env; cases h; rfl) (fun env h => by cases env; cases h; rfl) (we_split (fun _ => rfl) rfl (fun _ => rfl) ?_))))
  walk_at "name"
  refine ⟨t, rfl, we_str ⟨_, rfl, rfl, by omega, ?_⟩⟩
  generalize Txt.split t " " = ws at *
  obtain ⟨w0, ws0, rfl⟩ : ∃ a b, ws = a :: b := by
    cases ws with
    | nil => exact absurd rfl hne
    | cons a b => exact ⟨a, b, rfl⟩
  refine ⟨.str w0, ws0.map PyData.str, rfl, ?_⟩
  refine wb_cons (ws_if (wt_eqI (we_len hK rfl ml (fun _ => rfl) ?_)))
  walk_at "name"
  refine ⟨_, rfl, we_int ⟨_, _, rfl, rfl, ?_⟩⟩
  rw [List.length_map]
  by_cases h0 : ws0 = []
  · subst h0
    refine itP rfl (wb_cons (ws_ret (we_pfS sc pi sh gs (by show 9 ≤ 9; decide) hK 0 rfl rfl (by walk_at "vis") rfl (wa_cons (fun _ => rfl) ?_))))
    walk_at "name"
    refine wa_nil ⟨Enc.enc, g, pi, rfl, ⟨w0, n, cs, rfl, hg, fun h => by subst h; exact pw.u rfl⟩, ?_⟩
    rintro g' d ⟨w', e1, rfl, rfl⟩
    obtain rfl : w0 = w' := PyData.str.inj (List.cons.inj e1).1
    exact ⟨_, rfl, .str t, rfl, by rw [el]; rfl, by rw [el]; rfl⟩
  have hl0 : ws0.length ≠ 0 := fun z => h0 (List.length_eq_zero_iff.mp z)
  refine itN (decide_eq_false (by omega)) (wb_nil (wb_cons (ws_if (wt_and2 (p := decide (ws0.length = 1)) (q := decide (w0 = "flip" ∨ w0 = "press")) (wt_eqI (we_len hK rfl ml (fun _ => rfl) ?_)) (fun _ => wt_inTx hK rfl ?_) ?_))))
  · walk_at "name"
    refine ⟨_, rfl, we_int ⟨_, _, rfl, rfl, rfl, ?_⟩⟩
    rw [List.length_map]
    exact decide_eq_decide.mpr ⟨fun z => by omega, fun z => by omega⟩
  · walk_at "name"
    refine we_tup (wa_cons (fun _ => rfl) (we_str (wa_cons (fun _ => rfl) (we_str (wa_nil ⟨by show 2 ≤ _; decide, w0, ["flip", "press"], rfl, rfl, rfl, ?_⟩)))))
    by_cases h1 : w0 = "flip"
    · subst h1; decide +kernel
    by_cases h2 : w0 = "press"
    · subst h2; decide +kernel
    · rw [decide_eq_false (by rintro (h | h) <;> contradiction)]
      simp [List.any_cons, beq_eq_false_iff_ne.mpr (Ne.symm h1), beq_eq_false_iff_ne.mpr (Ne.symm h2)]
  have u2 : ∀ w1 r, ws0 = w1 :: r → r ≠ [] → wdsA ea g (w0 :: ws0) = (unkT, g) := fun w1 r e hr => by
    subst e
    cases r with
    | nil => exact absurd rfl hr
    | cons _ _ => rfl
  have unk3 : ws0.length ≠ 1 → wdsA ea g (w0 :: ws0) = (unkT, g) := fun h => by
    cases ws0 with
    | nil => exact absurd rfl h0
    | cons a r =>
      refine u2 a r rfl fun z => h ?_
      rw [z]; rfl
  by_cases h1 : ws0.length ≠ 1
  · refine itN (by rw [decide_eq_false h1]; rfl) (wb_nil (wb_cons (ws_if (wt_and2 (p := decide (ws0.length = 1)) (q := true) (wt_eqI (we_len hK rfl ml (fun _ => rfl) ?_)) (fun z => absurd (of_decide_eq_true z) h1) ?_))))
    · walk_at "name"
      refine ⟨_, rfl, we_int ⟨_, _, rfl, rfl, rfl, ?_⟩⟩
      rw [List.length_map]
      exact decide_eq_decide.mpr ⟨fun z => by omega, fun z => by omega⟩
    · refine itN (by rw [decide_eq_false h1]; rfl) (wb_nil (wb_cons (ws_ret (we_gstr rfl vu (unk ?_)))))
      rw [el]; exact unk3 h1
  have h1 : ws0.length = 1 := Classical.byContradiction h1
  obtain ⟨w1, rfl⟩ : ∃ w1, ws0 = [w1] := by
    cases ws0 with
    | nil => exact absurd rfl h0
    | cons a r =>
      cases r with
      | nil => exact ⟨a, rfl⟩
      | cons _ _ => simp at h1
  have ew : wdsA ea g [w0, w1] = if w0 = "flip" ∨ w0 = "press" then swtA ea g w0 w1 else if w0 = "add" ∨ w0 = "remove" ∨ w0 = "why" ∨ w0 = "base" then crdA ea g w0 w1 else (unkT, g) := rfl
  have ix0 : ixD (.list ([w1].map PyData.str)) (.int 0) = some (.str w1) := atI_nat (j := 0) (xs := [PyData.str w1]) rfl
  by_cases h2 : w0 = "flip" ∨ w0 = "press"
  · rw [if_pos h2] at ew
    refine itP (by rw [decide_eq_true h1, decide_eq_true h2]; rfl) (wb_cons (ws_ret (we_pfS sc pi sh gw (by show 8 ≤ 9; decide) hK 0 rfl rfl (by walk_at "vis") rfl (wa_cons (fun _ => rfl) ?_))))
    walk_at "name"
    refine wa_cons (fun _ => rfl) (we_ix hK (fun _ _ => rfl) ?_)
    walk_at "name"
    refine we_int ⟨.str w1, ix0, wa_nil ⟨Enc.enc, g, pi, rfl, ⟨w0, w1, rfl, fun k hk => pw.s w0 w1 k rfl h2 hk⟩, ?_⟩⟩
    rintro g' d ⟨w', t', e1, rfl, rfl⟩
    obtain ⟨rfl, rfl⟩ := str2_inj e1
    exact ⟨_, rfl, .str t, rfl, by rw [el, ew], by rw [el, ew]⟩
  rw [if_neg h2] at ew
  refine itN (by rw [decide_eq_false h2, Bool.and_false]) (wb_nil (wb_cons (ws_if (wt_and2 (p := true) (q := decide (w0 = "add" ∨ w0 = "remove" ∨ w0 = "why" ∨ w0 = "base")) (wt_eqI (we_len hK rfl ml (fun _ => rfl) ?_)) (fun _ => wt_inTx hK rfl ?_) ?_))))
  · walk_at "name"
    exact ⟨_, rfl, we_int ⟨_, _, rfl, rfl, rfl, rfl⟩⟩
  · walk_at "name"
    refine we_tup (wa_cons (fun _ => rfl) (we_str (wa_cons (fun _ => rfl) (we_str (wa_cons (fun _ => rfl) (we_str (wa_cons (fun _ => rfl) (we_str (wa_nil ⟨by show 4 ≤ _; decide, w0, ["add", "remove", "why", "base"], rfl, rfl, rfl, ?_⟩)))))))))
    by_cases k1 : w0 = "add"
    · subst k1; decide +kernel
    by_cases k2 : w0 = "remove"
    · subst k2; decide +kernel
    by_cases k3 : w0 = "why"
    · subst k3; decide +kernel
    by_cases k4 : w0 = "base"
    · subst k4; decide +kernel
    · rw [decide_eq_false (by rintro (h | h | h | h) <;> contradiction)]
      simp [List.any_cons, beq_eq_false_iff_ne.mpr (Ne.symm k1), beq_eq_false_iff_ne.mpr (Ne.symm k2), beq_eq_false_iff_ne.mpr (Ne.symm k3), beq_eq_false_iff_ne.mpr (Ne.symm k4)]
  rw [Bool.true_and]
  by_cases h3 : w0 = "add" ∨ w0 = "remove" ∨ w0 = "why" ∨ w0 = "base"
  · rw [if_pos h3] at ew
    refine itP (decide_eq_true h3) (wb_cons (ws_ret (we_pfS sc pi sh gc (by show 9 ≤ 9; decide) hK 0 rfl rfl (by walk_at "vis") rfl (wa_cons (fun _ => rfl) ?_))))
    walk_at "name"
    refine wa_cons (fun _ => rfl) (we_ix hK (fun _ _ => rfl) ?_)
    walk_at "name"
    refine we_int ⟨.str w1, ix0, wa_nil ⟨Enc.enc, g, pi, rfl, ⟨w0, w1, n, cs, rfl, hg, fun c hc m1 m2 => pw.c w0 w1 c rfl (h3.imp id fun h => h.elim id fun h => h.elim (fun z => absurd z m1) fun z => absurd z m2) (by rw [hg.bxg]; exact hc)⟩, ?_⟩⟩
    rintro g' d ⟨w', t', e1, rfl, rfl⟩
    obtain ⟨rfl, rfl⟩ := str2_inj e1
    exact ⟨_, rfl, .str t, rfl, by rw [el, ew], by rw [el, ew]⟩
  rw [if_neg h3] at ew
  exact itN (decide_eq_false h3) (wb_nil (wb_cons (ws_ret (we_gstr rfl vu (unk (by rw [el]; exact ew))))))
end


open TL
abbrev nLt : List Str := ["_law_n", "_law_card", "_law_k"]
theorem scLt : FnScope nLt ["_law_n", "_law_card"] (defScope (topS 79)) := ⟨rfl, rfl, rfl, by decide +kernel, rfl, by decide +kernel, by decide +kernel⟩
theorem dg_at (b : Bool) : ("01" : Str).cps[((if b = true then 1 else 0 : Int)).toNat]? = some (if b = true then 49 else 48) ∧ (⟨#[if b = true then 49 else 48]⟩ : Str) = dgT b := by cases b <;> decide +kernel
theorem join_one (sep x : Str) : Txt.join sep [x] = x := join_eq sep [x]
section
variable {P : Program} {w : World} {K : PySem.W.Frag} {mg : Str → Option Value} {base : Heap}
theorem ok_lt56 {f : Addr} {fd : FuncData} (Fn : Fun K "_law_text" "_law_text" (topS 79) f fd) (mr : mg "range" = none) (mi : mg "int" = none) : FnG P w K mg base 1 f fd ["_law_n", "_law_card"] (spPure K RctP) := by
  refine pure_ok (k := 0) Fn scLt (fun ds d ⟨_, _, e, _⟩ => by rw [e]; rfl) (fun F ds d hK ⟨n, c, e, hn, hc, ed⟩ => ?_)
  subst e ed
  obtain ⟨c, rfl⟩ : ∃ m : Nat, c = (m : Int) := ⟨c.toNat, by omega⟩
  rw [Int.toNat_natCast]
  refine wb_cons (ws_ret (we_joinS (fun _ => rfl) rfl (fun _ => rfl) hK (we_cat (we_mR (fun k => PyData.str (dgT (bitB (c : Int) k))) 2 (by walk_at "blk") rfl mr (fun _ => rfl) (fun _ _ => rfl) ?_))))
  walk_at "name"
  refine ⟨_, rfl, by omega, by omega, fun D k k0 k1 => ?_, ?_⟩
  · refine we_ixS (fun _ _ => rfl) (we_str (we_band (we_shr ?_)))
    walk_at "name"
    walk_at "name"
    obtain ⟨k, rfl⟩ : ∃ m : Nat, k = (m : Int) := ⟨k.toNat, by omega⟩
    refine ⟨_, _, rfl, rfl, k0, we_int ⟨_, _, rfl, rfl, ?_⟩⟩
    have hb : Builtin.bitAnd ((c : Int) / 2 ^ ((k : Nat) : Int).toNat) 1 = if bitN c k = true then 1 else 0 := by
      rw [Int.toNat_natCast]
      have e : ((c : Int) / 2 ^ k) = ((c / 2 ^ k : Nat) : Int) := by rw [Int.natCast_ediv, Int.natCast_pow]; rfl
      rw [e, band1]
      unfold bitN
      rcases Nat.mod_two_eq_zero_or_one (c / 2 ^ k) with h | h <;> rw [h] <;> rfl
    rw [hb]
    obtain ⟨h1, h2⟩ := dg_at (bitN c k)
    refine ⟨"01", _, _, rfl, rfl, ?_, ?_, by decide +kernel, h1, rfl, ?_⟩
    · cases bitN c k <;> decide
    · cases bitN c k <;> decide +kernel
    · show PyData.str _ = PyData.str (dgT (bitB (c : Int) ((k : Nat) : Int)))
      rw [h2, bit_nat]
  have e1 : (rg (n : Int)).map (fun k => PyData.str (dgT (bitB (c : Int) k))) = ((List.range n).map fun k => dgT (bitN c k)).map PyData.str := dg_list
  rw [e1]
  refine we_repL (we_lst (wa_cons (fun _ => rfl) (we_str (wa_nil ⟨by show 1 ≤ _; decide, we_intB rfl mi (fun _ => rfl) (we_eqI ?_)⟩))))
  walk_at "name"
  refine we_int ⟨_, _, rfl, rfl, _, rfl, _, _, rfl, rfl, ?_, by show 1 ≤ 1000; decide, _, _, rfl, rfl, ?_, ?_⟩
  · split <;> decide
  · rw [List.length_map, List.length_map, List.length_range]
    have : (List.replicate ((if decide ((n : Int) = 0) = true then 1 else 0 : Int)).toNat [PyData.str "-"]).flatten.length ≤ 1 := by split <;> decide
    omega
  · by_cases h0 : n = 0
    · subst h0
      have c0 : c = 0 := by have := hc.2; simp at this; omega
      subst c0
      refine ⟨["-"], rfl, by decide +kernel, ?_⟩
      rw [join_one]; rfl
    · rw [decide_eq_false (show ¬ (n : Int) = 0 by omega)]
      have e2 : (List.map PyData.str ((List.range n).map fun k => dgT (bitN c k))) ++ (List.replicate ((if false = true then 1 else 0 : Int)).toNat [PyData.str "-"]).flatten = List.map PyData.str ((List.range n).map fun k => dgT (bitN c k)) := List.append_nil _
      rw [e2]
      have hz := dg_sum n c hn
      have e3 : tx n c = Txt.join "" ((List.range n).map fun k => dgT (bitN c k)) := if_neg h0
      rw [e3]
      generalize ((List.range n).map fun k => dgT (bitN c k)) = ys at hz ⊢
      refine ⟨ys, rfl, ?_, rfl⟩
      rw [show ((Str.ofString "").length) = 0 from rfl, Nat.mul_zero]
      exact Nat.le_trans hz (by decide)
end

local macro_rules | `(tactic| walk_at "ds") => `(tactic| first
  | ((with_reducible refine wa_cons ?s1 ?_); (case s1 => exact fun _ => rfl))
  | with_reducible refine we_int ?_
  | with_reducible refine we_str ?_
  | with_reducible refine we_bl ?_
  | with_reducible refine we_non ?_
  | with_reducible refine we_tup ?_
  | with_reducible refine we_lst ?_
  | with_reducible refine wa_nil ?_
  | with_reducible refine tl0 ?_
  | with_reducible refine tl1 ?_
  | with_reducible refine ii2 ?_
  | with_reducible refine ii1 ?_)
abbrev nOddT : List Str := ["_law_deck_here", "_law_some"]
theorem scOddT : FnScope nOddT ["_law_deck_here"] (defScope (topS 80)) := ⟨rfl, rfl, rfl, by decide +kernel, rfl, by decide +kernel, by decide +kernel⟩
def oddT : List PyData := [.none, .bool true, .bool false, .int 0, .int (-1), .int (10 ^ 29), .tuple [], .list [], .dict [], .tuple [.int 2, .tuple [.int 0, .int 1]], .list [.str "2: 00"], .tuple [.str "2: 00"]]
def PreOT : List PyData → Prop := fun ds => ds = []
def RoddT : Rel := fun ds d => ds = [] ∧ d ∈ oddT
/-- what the law asks about: data that can be shown; a text is plain and not long -/
structure ThT (d : PyData) : Prop where
  fine : FineA 400000 5 d
  tx : ∀ t, d = .str t → AS t ∧ t.length ≤ 30000
section
variable {P : Program} {w : World} {K : PySem.W.Frag} {mg : Str → Option Value} {base : Heap}
theorem ok_oddT {f : Addr} {fd : FuncData} (Fn : Fun K "_law_odd" "_law_odd" (topS 80) f fd) (gn : DFnQ P w K mg base 1 "_law_draw" 1 PreNext RNext) : FnG P w K mg base 2 f fd ["_law_deck_here"] (spDrawQ K 1 PreOT RoddT) := by
  refine draw_okQ (k := 1) Fn scOddT (fun ds e => by rw [e]; rfl) (fun F s a ds kk dk hK e => ?_)
  subst e
  refine wb_cons (ws_set 1 (by walk_at "tgt") (fun _ _ => rfl) (we_lst ?_))
  repeat walk_at "ds"
  refine we_neg ?_
  repeat walk_at "ds"
  refine we_pow ?_
  repeat walk_at "ds"
  refine ⟨⟨by decide, by decide, by decide⟩, ?_⟩
  repeat walk_at "ds"
  refine we_dict0 ?_
  repeat walk_at "ds"
  refine ⟨by show 2 ≤ sizeLine; decide, ?_⟩
  repeat walk_at "ds"
  refine ⟨by show 2 ≤ sizeLine; decide, ?_⟩
  repeat walk_at "ds"
  refine ⟨by show 12 ≤ sizeLine; decide, ?_⟩
  refine wb_cons (ws_ret ?_)
  repeat walk_at "dq"
  refine ⟨⟨_, rfl, by decide, by decide⟩, kk, rfl, ?_⟩
  rintro d ⟨m', i, e1, rfl, i0, i1⟩
  cases e1
  obtain ⟨i, rfl⟩ : ∃ z : Nat, i = (z : Int) := ⟨i.toNat, by omega⟩
  have hi : i < oddT.length := by show i < 12; omega
  refine ⟨oddT[i], ?_, ⟨Nat.le_refl _, rfl, List.getElem_mem hi⟩⟩
  exact atI_nat (xs := oddT) (j := i) (List.getElem?_eq_getElem hi)
end

section
variable {P : Program} {w : World} {K : PySem.W.Frag} {mg : Str → Option Value} {base : Heap} {CS : Addr}
theorem ok_shi {f : Addr} {fd : FuncData} (sc : ShC K CS) (Fn : Fun K "__init__" "Shell.__init__" (mS 59 0) f fd) : FnG P w K mg base 1 f fd ["self", "deck"] (spShI K CS) :=
  shinit_ok Fn ⟨rfl, rfl, rfl, by decide +kernel, rfl, by decide +kernel, by decide +kernel⟩ sc rfl (.inl rfl) (.inl rfl) (fun _ => rfl)
end


/-! the lines that no shell knows -/
open TL
def good4 (t : Str) : List Str := ["add " ++ t, "remove " ++ t, "why " ++ t, "base " ++ t]
def good8 : List Str := ["flip 0", "press 0", "undo", "box", "counts", "shown", "solid", "smooth"]
def goodA (t : Str) : List Str := ["add " ++ t, "remove " ++ t, "why " ++ t, "base " ++ t, "flip 0", "press 0", "undo", "box"]
def goodL (t : Str) : List Str := goodA t ++ (["counts", "shown", "solid", "smooth"] : List Str)
def startL (t : Str) : List Str := ["", " ", "-", "ok", "error", "none", "edits", "attempt", "unknown command", t, "0", "flip", "press"]
def sixL (l : Str) : List Str := [l ++ " ", " " ++ l, l ++ " x", l ++ "\n", Txt.upper l, l ++ ","]
def noSp (l : Str) : Bool := !decide (32 ∈ l.cps.toList)
def twoL (l : Str) : List Str := [l ++ " 0 0", repl1 l " " "  " ++ (if noSp l = true then (" " : Str) else Str.empty)]
def cutL (t : Str) : Str := ⟨(t.cps.toList.take (t.length - 1)).toArray⟩
def dsh (n : Nat) : Str := if 0 < n then "-" else "0"
def vbA (t v : Str) : List Str := [v, v ++ " ", v ++ " x", v ++ " 2", v ++ " " ++ t ++ "0", v ++ " none"]
def vbB (t v : Str) : List Str := [v ++ " 0" ++ t, v ++ " " ++ cutL t, v ++ " " ++ t ++ " " ++ t, v ++ " 0000000"]
def vbL (n : Nat) (t v : Str) : List Str := vbA t v ++ vbB t v ++ [v ++ " " ++ dsh n]
def swA (v : Str) : List Str := [v ++ " 00", v ++ " 01", v ++ " -1", v ++ " +1", v ++ " 100", v ++ " x"]
def swL (v : Str) : List Str := swA v ++ [v ++ " 1 1"]
def tailL (t : Str) : List Str := ["undo 1", "box 0", "smooth " ++ t, "counts none", "flips 0", "adds " ++ t, "solid 1", "1"]
def verbs4 : List Str := ["add", "remove", "why", "base"]
def verbs2 : List Str := ["flip", "press"]
def linesL (n : Nat) (t : Str) : List Str := startL t ++ (goodL t).flatMap (fun l => sixL l ++ twoL l) ++ verbs4.flatMap (vbL n t) ++ verbs2.flatMap swL ++ tailL t
/-! the same in signs -/
def numsN : List (List Nat) := (List.range 100).map fun k => if k < 10 then [48 + k] else [48 + k / 10, 48 + k % 10]
theorem nums_tl : numsT.map tl = numsN := by decide +kernel
def txN (n c : Nat) : List Nat := if n = 0 then [45] else (List.range n).map fun k => 48 + c / 2 ^ k % 2
theorem tx_tl : ∀ n ≤ 6, ∀ c < 2 ^ n, tl (tx n c) = txN n c := by decide +kernel
/-- no text of a card -/
def badN (n : Nat) (u : List Nat) : Bool := u.length != (if n = 0 then 1 else n) || u.any (fun c => c != 48 && c != 49 && !(c == 45 && n == 0)) || (n == 0 && u != [45])
/-- no answer but 'unknown command' -/
def unkN (n : Nat) : List (List Nat) → Bool
  | [w] => !([[117, 110, 100, 111], [98, 111, 120], [99, 111, 117, 110, 116, 115], [115, 104, 111, 119, 110], [115, 111, 108, 105, 100], [115, 109, 111, 111, 116, 104]].any (· == w))
  | [w, t] => if w == [102, 108, 105, 112] || w == [112, 114, 101, 115, 115] then !(numsN.any (· == t)) else if [[97, 100, 100], [114, 101, 109, 111, 118, 101], [119, 104, 121], [98, 97, 115, 101]].any (· == w) then badN n t else true
  | _ => true
def unkC : List (List Nat) → Bool
  | [w] => !([[117, 110, 100, 111], [98, 111, 120], [99, 111, 117, 110, 116, 115], [115, 104, 111, 119, 110], [115, 111, 108, 105, 100], [115, 109, 111, 111, 116, 104]].any (· == w))
  | [w, t] => if w == [102, 108, 105, 112] || w == [112, 114, 101, 115, 115] then !(numsN.any (· == t)) else !([[97, 100, 100], [114, 101, 109, 111, 118, 101], [119, 104, 121], [98, 97, 115, 101]].any (· == w))
  | _ => true
theorem unkC_N {ws : List (List Nat)} (n : Nat) (h : unkC ws = true) : unkN n ws = true := by
  match ws, h with
  | [], _ => rfl
  | [w], h => exact h
  | [w, t], h =>
    have h : (if w == [102, 108, 105, 112] || w == [112, 114, 101, 115, 115] then !(numsN.any (· == t)) else !([[97, 100, 100], [114, 101, 109, 111, 118, 101], [119, 104, 121], [98, 97, 115, 101]].any (· == w))) = true := h
    show (if w == [102, 108, 105, 112] || w == [112, 114, 101, 115, 115] then !(numsN.any (· == t)) else if [[97, 100, 100], [114, 101, 109, 111, 118, 101], [119, 104, 121], [98, 97, 115, 101]].any (· == w) then badN n t else true) = true
    by_cases h1 : (w == [102, 108, 105, 112] || w == [112, 114, 101, 115, 115]) = true
    · rw [if_pos h1] at h ⊢; exact h
    · rw [if_neg h1] at h ⊢
      rw [Bool.not_eq_true'] at h
      rw [h]
      rfl
  | _ :: _ :: _ :: _, _ => rfl
def okN (n : Nat) (u : List Nat) : Bool := unkN n (spl [32] 0 [] u) && decide (u.length ≤ 100)
def okC (l : Str) : Bool := unkC (spl [32] 0 [] (tl l)) && decide ((tl l).length ≤ 100)
theorem okC_N {l : Str} (n : Nat) (h : okC l = true) : okN n (tl l) = true := by
  unfold okC at h
  unfold okN
  rw [Bool.and_eq_true] at h ⊢
  exact ⟨unkC_N n h.1, h.2⟩
def occB (l : Str) : Bool := (Builtin.Str.occurrences l " " 0 l.length 1 == Builtin.Str.occurrences l " " 0 l.length (l.length + 1)) && !Builtin.Str.tooLong (l.length + (Builtin.Str.occurrences l " " 0 l.length (l.length + 1)).length * ("  " : Str).length) && decide ((repl1 l " " "  ").length ≤ 100)
theorem occ8 : good8.all occB = true := by decide +kernel
theorem occ4 : ∀ n ≤ 6, ∀ c < 2 ^ n, (good4 (tx n c)).all occB = true := by decide +kernel
theorem con8 : (good8.all fun l => (sixL l ++ twoL l).all okC) = true := by decide +kernel
theorem con2 : (verbs2.all fun v => (swL v).all okC) = true := by decide +kernel
theorem conS : (["", " ", "-", "ok", "error", "none", "edits", "attempt", "unknown command", "0", "flip", "press", "undo 1", "box 0", "counts none", "flips 0", "solid 1", "1"] : List Str).all okC = true := by decide +kernel
def vbN : List (List Nat) := [[97, 100, 100], [114, 101, 109, 111, 118, 101], [119, 104, 121], [98, 97, 115, 101]]
def upN : List (List Nat) := [[65, 68, 68], [82, 69, 77, 79, 86, 69], [87, 72, 89], [66, 65, 83, 69]]
def sixN (v V u : List Nat) : List (List Nat) := [(v ++ 32 :: u) ++ [32], 32 :: (v ++ 32 :: u), (v ++ 32 :: u) ++ [32, 120], (v ++ 32 :: u) ++ [10], V ++ 32 :: u, (v ++ 32 :: u) ++ [44], (v ++ 32 :: u) ++ [32, 48, 32, 48], v ++ 32 :: 32 :: u]
def vbNL (n : Nat) (v u : List Nat) : List (List Nat) := [v, v ++ [32], v ++ [32, 120], v ++ [32, 50], v ++ 32 :: (u ++ [48]), v ++ [32, 110, 111, 110, 101], v ++ 32 :: 48 :: u, v ++ 32 :: u.take (u.length - 1), v ++ 32 :: (u ++ 32 :: u), v ++ [32, 48, 48, 48, 48, 48, 48, 48], v ++ [32, if 0 < n then 45 else 48]]
def depN (n : Nat) (u : List Nat) : List (List Nat) := (List.zipWith (fun v V => sixN v V u) vbN upN).flatten ++ vbN.flatMap (fun v => vbNL n v u) ++ [u, [115, 109, 111, 111, 116, 104, 32] ++ u, [97, 100, 100, 115, 32] ++ u]
theorem dep_ok : ∀ n ≤ 6, ∀ c < 2 ^ n, (depN n (txN n c)).all (okN n) = true := by decide +kernel
theorem lt0 : tl (" " : Str) = [32] := by decide +kernel
theorem lt1 : tl (" x" : Str) = [32, 120] := by decide +kernel
theorem lt2 : tl ("\n" : Str) = [10] := by decide +kernel
theorem lt3 : tl ("," : Str) = [44] := by decide +kernel
theorem lt4 : tl (" 0 0" : Str) = [32, 48, 32, 48] := by decide +kernel
theorem lt5 : tl ("add " : Str) = [97, 100, 100, 32] := by decide +kernel
theorem lt6 : tl ("remove " : Str) = [114, 101, 109, 111, 118, 101, 32] := by decide +kernel
theorem lt7 : tl ("why " : Str) = [119, 104, 121, 32] := by decide +kernel
theorem lt8 : tl ("base " : Str) = [98, 97, 115, 101, 32] := by decide +kernel
theorem lt9 : tl ("add" : Str) = [97, 100, 100] := by decide +kernel
theorem lt10 : tl ("remove" : Str) = [114, 101, 109, 111, 118, 101] := by decide +kernel
theorem lt11 : tl ("why" : Str) = [119, 104, 121] := by decide +kernel
theorem lt12 : tl ("base" : Str) = [98, 97, 115, 101] := by decide +kernel
theorem lt13 : tl (" 2" : Str) = [32, 50] := by decide +kernel
theorem lt14 : tl ("0" : Str) = [48] := by decide +kernel
theorem lt15 : tl (" none" : Str) = [32, 110, 111, 110, 101] := by decide +kernel
theorem lt16 : tl (" 0" : Str) = [32, 48] := by decide +kernel
theorem lt17 : tl (" 0000000" : Str) = [32, 48, 48, 48, 48, 48, 48, 48] := by decide +kernel
theorem lt19 : tl ("smooth " : Str) = [115, 109, 111, 111, 116, 104, 32] := by decide +kernel
theorem lt20 : tl ("adds " : Str) = [97, 100, 100, 115, 32] := by decide +kernel


theorem le_app {i j : Str} {a b : Nat} (h1 : i.length ≤ a) (h2 : j.length ≤ b) : (i ++ j).length ≤ a + b := by rw [Str.length_append]; omega
theorem bnd {i j : Str} {a b : Nat} (h1 : i.length ≤ a) (h2 : j.length ≤ b) (h : a + b ≤ 1000000) : i.length + j.length ≤ 1000000 := by omega
local macro_rules | `(tactic| walk_at "bn") => `(tactic| first
  | assumption
  | (with_reducible exact le_app (by walk_at "bn") (by walk_at "bn"))
  | exact Nat.le_refl _)
local macro_rules | `(tactic| walk_at "ts") => `(tactic| first
  | ((with_reducible refine wa_cons ?s1 ?_); (case s1 => exact fun _ => rfl))
  | with_reducible refine we_str ?_
  | with_reducible refine we_addS ?_
  | refine ⟨_, _, rfl, rfl, bnd (by walk_at "bn") (by walk_at "bn") (by decide +kernel), ?_⟩
  | walk_at "name")
theorem good_facts {n c : Nat} (hn : n ≤ 6) (hc : c < 2 ^ n) : ∀ l ∈ goodL (tx n c), occB l = true ∧ l.length ≤ 100 := by
  have hl := (tx_facts n hn c hc).2.2.2
  have o4 := List.all_eq_true.mp (occ4 n hn c hc)
  have o8 := List.all_eq_true.mp occ8
  have l8 : ∀ l ∈ good8, l.length ≤ 100 := by decide +kernel
  have l4 : ∀ l ∈ good4 (tx n c), l.length ≤ 100 := by
    intro l h
    simp only [good4, List.mem_cons, List.not_mem_nil, or_false] at h
    have b : ∀ v : Str, v.length ≤ 7 → (v ++ tx n c).length ≤ 100 := fun v hv => Nat.le_trans (le_app hv hl) (by decide)
    rcases h with rfl | rfl | rfl | rfl <;> exact b _ (by decide +kernel)
  intro l h
  have h : l ∈ good4 (tx n c) ++ good8 := h
  rcases List.mem_append.mp h with h | h
  · exact ⟨o4 l h, l4 l h⟩
  · exact ⟨o8 l h, l8 l h⟩
abbrev nLn : List Str := ["_law_n", "_law_text_here", "_law_good", "_law_found", "_law_line", "_law_verb"]
theorem scLn : FnScope nLn ["_law_n", "_law_text_here"] (defScope (topS 81)) := ⟨rfl, rfl, rfl, by decide +kernel, rfl, by decide +kernel, by decide +kernel⟩
abbrev SL (xs : List Str) : List PyData := xs.map PyData.str
def RlinesP : Rel := fun ds d => ∃ n c : Nat, ds = [.int (n : Int), .str (tx n c)] ∧ n ≤ 6 ∧ c < 2 ^ n ∧ d = .list (SL (linesL n (tx n c)))
theorem occ_of {l : Str} (h : occB l = true) : Builtin.Str.occurrences l " " 0 l.length 1 = Builtin.Str.occurrences l " " 0 l.length (l.length + 1) ∧ Builtin.Str.tooLong (l.length + (Builtin.Str.occurrences l " " 0 l.length (l.length + 1)).length * ("  " : Str).length) = false ∧ (repl1 l " " "  ").length ≤ 100 := by
  unfold occB at h
  rw [Bool.and_eq_true, Bool.and_eq_true] at h
  obtain ⟨⟨a, b⟩, c⟩ := h
  exact ⟨eq_of_beq a, by rw [Bool.not_eq_true'] at b; exact b, of_decide_eq_true c⟩
theorem mul_sp (b : Bool) : (if (if b = true then 1 else 0 : Int) = 1 then (" " : Str) else Str.empty) = if b = true then (" " : Str) else Str.empty := by cases b <;> rfl
theorem mul_le (b : Bool) : (if b = true then (" " : Str) else Str.empty).length ≤ 1 := by cases b <;> decide +kernel
def turn1 (l : Str) : List Str := sixL l ++ twoL l
theorem flat_len {f : Str → List Str} {m : Nat} (h : ∀ l, (f l).length = m) (xs : List Str) : (xs.flatMap f).length = xs.length * m := by
  induction xs with
  | nil => exact (Nat.zero_mul m).symm
  | cons x xs ih => rw [List.flatMap_cons, List.length_append, h, ih, List.length_cons, Nat.succ_mul]; omega
theorem flat_take {f : Str → List Str} {xs : List Str} {j : Nat} {y : Str} (h : xs[j]? = some y) : (xs.take (j + 1)).flatMap f = (xs.take j).flatMap f ++ f y := by
  obtain ⟨hl, rfl⟩ := List.getElem?_eq_some_iff.mp h
  rw [List.take_succ_eq_append_getElem hl, List.flatMap_append]
  exact congrArg _ (List.append_nil _)
section
variable {P : Program} {w : World} {K : PySem.W.Frag} {mg : Str → Option Value} {base : Heap}
theorem ok_lines {f : Addr} {fd : FuncData} (Fn : Fun K "_law_lines" "_law_lines" (topS 81) f fd) (mi : mg "int" = none) : FnG P w K mg base 1 f fd ["_law_n", "_law_text_here"] (spPure K RlinesP) := by
  refine pure_ok (k := 0) Fn scLn (fun ds d ⟨_, _, e, _⟩ => by rw [e]; rfl) (fun F ds d hK ⟨n, c, e, hn, hc, ed⟩ => ?_)
  subst e ed
  have hl : (tx n c).length ≤ 10 := Nat.le_trans (tx_facts n hn c hc).2.2.2 (by decide)
  have hg := good_facts hn hc
  generalize tx n c = t at hl hg ⊢
  refine wb_cons (ws_set 2 (by walk_at "tgt") (fun _ _ => rfl) (we_lst ?_))
  repeat walk_at "ts"
  refine wa_nil ⟨by show 8 ≤ _; decide, ?_⟩
  refine wb_cons (ws_set 2 (by walk_at "tgt") (fun _ _ => rfl) (we_cat ?_))
  walk_at "name"
  refine we_lst ?_
  repeat walk_at "ts"
  refine wa_nil ⟨by show 4 ≤ _; decide, ?_⟩
  refine ⟨_, _, rfl, rfl, by show 8 + 4 ≤ _; decide, ?_⟩
  change WPB F _ _ [.d (.int (n : Int)), .d (.str t), .d (.list (SL (goodL t))), .un, .un, .un] _ _
  refine wb_cons (ws_set 3 (by walk_at "tgt") (fun _ _ => rfl) (we_lst ?_))
  repeat walk_at "ts"
  refine wa_nil ⟨by show 13 ≤ _; decide, ?_⟩
  change WPB F _ _ [.d (.int (n : Int)), .d (.str t), .d (.list (SL (goodL t))), .d (.list (SL (startL t))), .un, .un] _ _
  refine wb_cons (ws_for_list 4 (by walk_at "tgt") hK (fun _ _ => rfl) ?_)
  walk_at "name"
  refine ⟨fun j k ρ => ∃ x4 : SV, plainB x4 = true ∧ ρ = [.d (.int (n : Int)), .d (.str t), .d (.list (SL (goodL t))), .d (.list (SL (startL t ++ ((goodL t).take j).flatMap turn1))), x4, .un], SL (goodL t), rfl, ⟨.un, rfl, by rw [List.take_zero, List.flatMap_nil, List.append_nil]⟩, ?_, ?_⟩
  · rintro j y k ρ hy ⟨x4, p4, rfl⟩
    rw [List.getElem?_map, Option.map_eq_some_iff] at hy
    obtain ⟨l, hlj, rfl⟩ := hy
    have hj12 := (List.getElem?_eq_some_iff.mp hlj).1
    have hj : j < 12 := hj12
    obtain ⟨ho, hll⟩ := hg l (List.mem_of_getElem? hlj)
    have hlen : (startL t ++ ((goodL t).take j).flatMap turn1).length = 13 + j * 8 := by
      rw [List.length_append, flat_len (m := 8) (fun _ => rfl), List.length_take, Nat.min_eq_left (Nat.le_of_lt hj12)]
      rfl
    have ef : startL t ++ ((goodL t).take (j + 1)).flatMap turn1 = (startL t ++ ((goodL t).take j).flatMap turn1) ++ turn1 l := by rw [flat_take hlj, List.append_assoc]
    generalize startL t ++ ((goodL t).take j).flatMap turn1 = acc at hlen ef ⊢
    have hb : (3 : Nat) < 6 := by decide
    refine wb_ownCatT 3 (by walk_at "tgt") hb (fun env h => by cases env; cases h; rfl) (fun env _ => TokUp.lst rfl (TokUp.binR TokUp.str)) ?_
    walk_at "name"
    refine we_lst ?_
    repeat walk_at "ts"
    refine we_upperS (fun _ => rfl) rfl ?_
    walk_at "name"
    refine ⟨l, rfl, by omega, ?_⟩
    repeat walk_at "ts"
    refine wa_nil ⟨by show 6 ≤ _; decide, _, _, rfl, rfl, by rw [List.length_map, hlen]; show 13 + j * 8 + 6 ≤ _; omega, fun o => ?_⟩
    have hKo : (F.ext o).K = K := hK
    have e1 : SL acc ++ [PyData.str (l ++ " "), .str (" " ++ l), .str (l ++ " x"), .str (l ++ "\n"), .str (Txt.upper l), .str (l ++ ",")] = SL (acc ++ sixL l) := (List.map_append (f := PyData.str) (l₁ := acc) (l₂ := sixL l)).symm
    rw [e1]
    generalize e2 : acc ++ sixL l = acc2
    have hl2 : acc2.length = 19 + j * 8 := by rw [← e2, List.length_append, hlen]; show 13 + j * 8 + 6 = _; omega
    refine wbt_consT (wst_append 3 rfl (by walk_at "vis") rfl rfl (by rw [List.length_map, hl2]; omega) (wet_of ?_) (fun _ => rfl) (hin := fun env h => by cases env; cases h; rfl))
    repeat walk_at "ts"
    refine wbt_consT (wst_append 3 rfl (by walk_at "vis") rfl rfl (by rw [List.length_append, List.length_map, hl2]; show _ + 1 ≤ _; omega) (wet_addS (wet_rep1 rfl ?_)) (fun _ => rfl) (hin := fun env h => by cases env; cases h; rfl))
    walk_at "name"
    obtain ⟨o1, o2, o3⟩ := occ_of ho
    refine ⟨l, rfl, o1, o2, Nat.le_trans o3 (by decide), wet_of (we_mulS (we_str (we_intB rfl mi (fun _ => rfl) (we_niSign rfl (we_str ?_)))))⟩
    walk_at "name"
    refine ⟨32, l, rfl, rfl, _, rfl, _, _, rfl, rfl, ?_, _, _, rfl, rfl, ?_, wbt_nil ?_⟩
    · split <;> decide
    · rw [mul_sp]; exact Nat.le_trans (Nat.add_le_add o3 (mul_le _)) (by decide)
    · rw [mul_sp]
      refine ⟨_, rfl, rfl, .d (.str l), rfl, ?_⟩
      rw [ef, ← e2]
      show [SV.d (.int (n : Int)), .d (.str t), .d (.list (SL (goodL t))), .d (.list ((SL (acc ++ sixL l) ++ [PyData.str (l ++ " 0 0")]) ++ [PyData.str (repl1 l " " "  " ++ (if noSp l = true then (" " : Str) else Str.empty))])), .d (.str l), .un] = _
      have e4 : (SL (acc ++ sixL l) ++ [PyData.str (l ++ " 0 0")]) ++ [PyData.str (repl1 l " " "  " ++ (if noSp l = true then (" " : Str) else Str.empty))] = SL (acc ++ turn1 l) := by
        unfold turn1
        rw [← List.append_assoc]
        show _ = SL ((acc ++ sixL l) ++ ([l ++ " 0 0"] ++ [repl1 l " " "  " ++ (if noSp l = true then (" " : Str) else Str.empty)]))
        simp only [SL, List.map_append]
        exact List.append_assoc _ _ _
      rw [e4]
  rintro k ρ ⟨x4, p4, rfl⟩
  rw [show ((goodL t).take (SL (goodL t)).length) = goodL t by rw [List.length_map]; exact List.take_length]
  have h0 : (startL t ++ (goodL t).flatMap turn1).length = 109 := by rw [List.length_append, flat_len (m := 8) (fun _ => rfl)]; rfl
  have eL : linesL n t = startL t ++ (goodL t).flatMap turn1 ++ verbs4.flatMap (vbL n t) ++ verbs2.flatMap swL ++ tailL t := rfl
  rw [eL]
  generalize startL t ++ (goodL t).flatMap turn1 = a0 at h0 ⊢
  have v4 : ∀ v ∈ verbs4, v.length ≤ 6 := by decide +kernel
  have hcut : (cutL t).length ≤ 10 := by
    show (t.cps.toList.take (t.length - 1)).toArray.size ≤ 10
    rw [List.size_toArray, List.length_take]
    have : t.cps.toList.length = t.length := Array.length_toList
    omega
  have hb : (3 : Nat) < 6 := by decide
  refine wb_cons (ws_for_list 5 (by walk_at "tgt") hK (fun _ _ => rfl) (we_lst ?_))
  repeat walk_at "ts"
  refine wa_nil ⟨by show 4 ≤ _; decide, ?_⟩
  refine ⟨fun j k ρ => ∃ x4 x5 : SV, (plainB x4 = true ∧ plainB x5 = true) ∧ ρ = [.d (.int (n : Int)), .d (.str t), .d (.list (SL (goodL t))), .d (.list (SL (a0 ++ (verbs4.take j).flatMap (vbL n t)))), x4, x5], SL verbs4, rfl, ⟨x4, .un, ⟨p4, rfl⟩, by rw [List.take_zero, List.flatMap_nil, List.append_nil]⟩, ?_, ?_⟩
  · clear p4 x4
    rintro j y k ρ hy ⟨x4, x5, ⟨p4, p5⟩, rfl⟩
    rw [List.getElem?_map, Option.map_eq_some_iff] at hy
    obtain ⟨v, hvj, rfl⟩ := hy
    have hj4 := (List.getElem?_eq_some_iff.mp hvj).1
    have hj : j < 4 := hj4
    have hv := v4 v (List.mem_of_getElem? hvj)
    have hlen : (a0 ++ (verbs4.take j).flatMap (vbL n t)).length = 109 + j * 11 := by
      rw [List.length_append, flat_len (m := 11) (fun _ => rfl), List.length_take, Nat.min_eq_left (Nat.le_of_lt hj4), h0]
    have ef : a0 ++ (verbs4.take (j + 1)).flatMap (vbL n t) = (a0 ++ (verbs4.take j).flatMap (vbL n t)) ++ vbL n t v := by rw [flat_take hvj, List.append_assoc]
    generalize a0 ++ (verbs4.take j).flatMap (vbL n t) = acc at hlen ef ⊢
    refine wb_cons (ws_set 3 (by walk_at "tgt") (fun env h => by cases env; cases h; rfl) (we_cat ?_))
    walk_at "name"
    refine we_lst ?_
    repeat walk_at "ts"
    refine wa_nil ⟨by show 6 ≤ _; decide, _, _, rfl, rfl, by rw [List.length_map, hlen]; show 109 + j * 11 + 6 ≤ _; omega, ?_⟩
    have e1 : SL acc ++ [PyData.str v, .str (v ++ " "), .str (v ++ " x"), .str (v ++ " 2"), .str (v ++ " " ++ t ++ "0"), .str (v ++ " none")] = SL (acc ++ vbA t v) := (List.map_append (f := PyData.str) (l₁ := acc) (l₂ := vbA t v)).symm
    rw [e1]
    generalize e2 : acc ++ vbA t v = acc2
    have hl2 : acc2.length = 115 + j * 11 := by rw [← e2, List.length_append, hlen]; show 109 + j * 11 + 6 = _; omega
    refine wb_ownCat1 3 (by walk_at "tgt") hb (fun env h => by cases env; cases h; rfl) ?_
    walk_at "name"
    refine we_lst ?_
    repeat walk_at "ts"
    refine we_cutM1 ?_
    walk_at "name"
    refine we_neg (we_int ⟨1, rfl, t, rfl, rfl, by omega, ?_⟩)
    repeat walk_at "ts"
    refine wa_nil ⟨by show 4 ≤ _; decide, _, _, rfl, rfl, by rw [List.length_map, hl2]; show 115 + j * 11 + 4 ≤ _; omega, fun o => ?_⟩
    have hKo : (F.ext o).K = K := hK
    have e3 : SL acc2 ++ [PyData.str (v ++ " 0" ++ t), .str (v ++ " " ++ cutL t), .str (v ++ " " ++ t ++ " " ++ t), .str (v ++ " 0000000")] = SL (acc2 ++ vbB t v) := (List.map_append (f := PyData.str) (l₁ := acc2) (l₂ := vbB t v)).symm
    change WPS (F.ext o) _ _ [.d (.int (n : Int)), .d (.str t), .d (.list (SL (goodL t))), .own o (SL acc2 ++ [PyData.str (v ++ " 0" ++ t), .str (v ++ " " ++ cutL t), .str (v ++ " " ++ t ++ " " ++ t), .str (v ++ " 0000000")]), x4, .d (.str v)] _ _
    rw [e3]
    refine ws_append 3 rfl (by walk_at "vis") rfl (by simp [plainB] at p4 ⊢; exact p4) (by rw [List.length_map, List.length_append, hl2]; show 115 + j * 11 + 4 ≤ _; omega) (fun _ => rfl) (we_addS (we_addS ?_)) (fun _ => rfl)
    repeat walk_at "ts"
    refine we_ix hKo (fun _ _ => rfl) (we_lst ?_)
    repeat walk_at "ts"
    refine wa_nil ⟨by show 2 ≤ _; decide, we_intB rfl mi (fun _ => rfl) (we_gt ?_)⟩
    walk_at "name"
    refine we_int ⟨_, _, rfl, rfl, _, rfl, .str (dsh n), ?_, ?_⟩
    · unfold dsh
      by_cases hz : 0 < n
      · rw [if_pos hz, decide_eq_true (show (0 : Int) < (n : Int) by omega)]; rfl
      · rw [if_neg hz, decide_eq_false (show ¬ (0 : Int) < (n : Int) by omega)]; rfl
    have hd : (dsh n).length ≤ 1 := by unfold dsh; split <;> decide +kernel
    repeat walk_at "ts"
    refine ⟨_, rfl, by simp [plainB] at p4 ⊢; exact p4, wb_nil ⟨x4, .d (.str v), ⟨p4, rfl⟩, ?_⟩⟩
    have e4 : SL (acc2 ++ vbB t v) ++ [PyData.str (v ++ " " ++ dsh n)] = SL (acc ++ vbL n t v) := by
      rw [← e2]
      unfold vbL
      simp only [SL, List.map_append, List.append_assoc]
      rfl
    rw [ef, ← e4]
    rfl
  clear p4 x4
  rintro k ρ ⟨x4, x5, ⟨p4, p5⟩, rfl⟩
  rw [show (verbs4.take (SL verbs4).length) = verbs4 from rfl]
  have h1 : (a0 ++ verbs4.flatMap (vbL n t)).length = 153 := by rw [List.length_append, flat_len (m := 11) (fun _ => rfl), h0]; rfl
  generalize a0 ++ verbs4.flatMap (vbL n t) = a1 at h1 ⊢
  have v2 : ∀ v ∈ verbs2, v.length ≤ 6 := by decide +kernel
  refine wb_cons (ws_for_list 5 (by walk_at "tgt") hK (fun _ _ => rfl) (we_lst ?_))
  repeat walk_at "ts"
  refine wa_nil ⟨by show 2 ≤ _; decide, ?_⟩
  refine ⟨fun j k ρ => ∃ x4 x5 : SV, (plainB x4 = true ∧ plainB x5 = true) ∧ ρ = [.d (.int (n : Int)), .d (.str t), .d (.list (SL (goodL t))), .d (.list (SL (a1 ++ (verbs2.take j).flatMap swL))), x4, x5], SL verbs2, rfl, ⟨x4, x5, ⟨p4, p5⟩, by rw [List.take_zero, List.flatMap_nil, List.append_nil]⟩, ?_, ?_⟩
  · clear p4 x4 p5 x5
    rintro j y k ρ hy ⟨x4, x5, ⟨p4, p5⟩, rfl⟩
    rw [List.getElem?_map, Option.map_eq_some_iff] at hy
    obtain ⟨v, hvj, rfl⟩ := hy
    have hj2 := (List.getElem?_eq_some_iff.mp hvj).1
    have hj : j < 2 := hj2
    have hv := v2 v (List.mem_of_getElem? hvj)
    have hlen : (a1 ++ (verbs2.take j).flatMap swL).length = 153 + j * 7 := by
      rw [List.length_append, flat_len (m := 7) (fun _ => rfl), List.length_take, Nat.min_eq_left (Nat.le_of_lt hj2), h1]
    have ef : a1 ++ (verbs2.take (j + 1)).flatMap swL = (a1 ++ (verbs2.take j).flatMap swL) ++ swL v := by rw [flat_take hvj, List.append_assoc]
    generalize a1 ++ (verbs2.take j).flatMap swL = acc at hlen ef ⊢
    refine wb_ownCat1 3 (by walk_at "tgt") hb (fun env h => by cases env; cases h; rfl) ?_
    walk_at "name"
    refine we_lst ?_
    repeat walk_at "ts"
    refine wa_nil ⟨by show 6 ≤ _; decide, _, _, rfl, rfl, by rw [List.length_map, hlen]; show 153 + j * 7 + 6 ≤ _; omega, fun o => ?_⟩
    have hKo : (F.ext o).K = K := hK
    have e3 : SL acc ++ [PyData.str (v ++ " 00"), .str (v ++ " 01"), .str (v ++ " -1"), .str (v ++ " +1"), .str (v ++ " 100"), .str (v ++ " x")] = SL (acc ++ swA v) := (List.map_append (f := PyData.str) (l₁ := acc) (l₂ := swA v)).symm
    change WPS (F.ext o) _ _ [.d (.int (n : Int)), .d (.str t), .d (.list (SL (goodL t))), .own o (SL acc ++ [PyData.str (v ++ " 00"), .str (v ++ " 01"), .str (v ++ " -1"), .str (v ++ " +1"), .str (v ++ " 100"), .str (v ++ " x")]), x4, .d (.str v)] _ _
    rw [e3]
    refine ws_append 3 rfl (by walk_at "vis") rfl (by simp [plainB] at p4 ⊢; exact p4) (by rw [List.length_map, List.length_append, hlen]; show 153 + j * 7 + 6 ≤ _; omega) (fun _ => rfl) (we_addS ?_) (fun _ => rfl)
    repeat walk_at "ts"
    refine ⟨_, rfl, by simp [plainB] at p4 ⊢; exact p4, wb_nil ⟨x4, .d (.str v), ⟨p4, rfl⟩, ?_⟩⟩
    have e4 : SL (acc ++ swA v) ++ [PyData.str (v ++ " 1 1")] = SL (acc ++ swL v) := by
      unfold swL
      simp only [SL, List.map_append, List.append_assoc]
      rfl
    rw [ef, ← e4]
    rfl
  clear p4 x4 p5 x5
  rintro k ρ ⟨x4, x5, ⟨p4, p5⟩, rfl⟩
  rw [show (verbs2.take (SL verbs2).length) = verbs2 from rfl]
  have h2 : (a1 ++ verbs2.flatMap swL).length = 167 := by rw [List.length_append, flat_len (m := 7) (fun _ => rfl), h1]; rfl
  generalize a1 ++ verbs2.flatMap swL = a2 at h2 ⊢
  refine wb_cons (ws_ret (we_cat ?_))
  walk_at "name"
  refine we_lst ?_
  repeat walk_at "ts"
  refine wa_nil ⟨by show 8 ≤ _; decide, _, _, rfl, rfl, by rw [List.length_map, h2]; show 167 + 8 ≤ _; decide, ?_⟩
  exact congrArg PyData.list (List.map_append (f := PyData.str) (l₁ := a2) (l₂ := tailL t)).symm
end


/-- nothing is promised of edits here -/
def PeN : Pg → Str → Option Int → Prop := fun _ _ _ => False
theorem ok_eaN {P : Program} {w : World} {K : PySem.W.Frag} {mg : Str → Option Value} {base : Heap} {C : Addr} {x q : Str} {st : Stmt} {f : Addr} {fd : FuncData} {ps : List Str} {k : Nat} (_ : Fun K x q st f fd) : FnG P w K mg base k f fd ps (spPi K C (PmEA PeN) (RmEA eaK)) where
  len := fun vs H Q E h => by
    obtain ⟨_, _, _, _, _, _, _, _, _, _, _, _, _, _, ⟨_, _, _, z⟩, _⟩ := h
    exact z.elim
  run := fun A outer s H args us vs Q gd room e0 hb r h => by
    obtain ⟨_, _, _, _, _, _, _, _, _, _, _, _, _, _, ⟨_, _, _, z⟩, _⟩ := h
    exact z.elim

open TL
theorem up_app (a b : Str) : Txt.upper (a ++ b) = Txt.upper a ++ Txt.upper b := by
  refine Str.ext' ?_
  show PySem.placed (a ++ b) (fun _ c => Unicode.upperOf c) = PySem.placed a (fun _ c => Unicode.upperOf c) ++ PySem.placed b (fun _ c => Unicode.upperOf c)
  unfold PySem.placed
  rw [PySem.Str.cps_append, Array.mapIdx_append, Array.flatten_append]
theorem up_tx : ∀ n ≤ 6, ∀ c < 2 ^ n, tl (Txt.upper (tx n c)) = txN n c := by decide +kernel
theorem up4 : tl (Txt.upper "add ") = [65, 68, 68] ++ [32] ∧ tl (Txt.upper "remove ") = [82, 69, 77, 79, 86, 69] ++ [32] ∧ tl (Txt.upper "why ") = [87, 72, 89] ++ [32] ∧ tl (Txt.upper "base ") = [66, 65, 83, 69] ++ [32] := by decide +kernel
theorem rp4 : ∀ n ≤ 6, ∀ c < 2 ^ n, (good4 (tx n c)).map (fun l => tl (repl1 l " " "  ")) = vbN.map (· ++ 32 :: 32 :: txN n c) := by decide +kernel
theorem tx_bad : ∀ n ≤ 6, ∀ c < 2 ^ n, badN n (txN n c) = false := by decide +kernel
theorem noSp_tl {l : Str} (h : 32 ∈ tl l) : noSp l = false := by
  unfold noSp
  rw [decide_eq_true h]; rfl
section
variable {n c : Nat}
theorem six_ok (hn : n ≤ 6) (hc : c < 2 ^ n) {v : Str} {a A : List Nat} (hv : tl v = a ++ [32]) (hu : tl (Txt.upper v) = A ++ [32]) (hr : tl (repl1 (v ++ tx n c) " " "  ") = a ++ 32 :: 32 :: txN n c) (hm : ∀ x ∈ sixN a A (txN n c), okN n x = true) : ∀ l ∈ sixL (v ++ tx n c) ++ twoL (v ++ tx n c), okN n (tl l) = true := by
  have et : tl (v ++ tx n c) = a ++ 32 :: txN n c := by rw [tl_append, hv, tx_tl n hn c hc, List.append_assoc]; rfl
  have eu : tl (Txt.upper (v ++ tx n c)) = A ++ 32 :: txN n c := by rw [up_app, tl_append, hu, up_tx n hn c hc, List.append_assoc]; rfl
  have ns : noSp (v ++ tx n c) = false := noSp_tl (by rw [et]; exact List.mem_append_right _ List.mem_cons_self)
  intro l h
  simp only [sixL, twoL, List.mem_append, List.mem_cons, List.not_mem_nil, or_false] at h
  rcases h with (rfl | rfl | rfl | rfl | rfl | rfl) | rfl | rfl
  · rw [tl_append, et, lt0]; exact hm _ (List.mem_of_getElem? (i := 0) rfl)
  · rw [tl_append, et, lt0]; exact hm _ (List.mem_of_getElem? (i := 1) rfl)
  · rw [tl_append, et, lt1]; exact hm _ (List.mem_of_getElem? (i := 2) rfl)
  · rw [tl_append, et, lt2]; exact hm _ (List.mem_of_getElem? (i := 3) rfl)
  · rw [eu]; exact hm _ (List.mem_of_getElem? (i := 4) rfl)
  · rw [tl_append, et, lt3]; exact hm _ (List.mem_of_getElem? (i := 5) rfl)
  · rw [tl_append, et, lt4]; exact hm _ (List.mem_of_getElem? (i := 6) rfl)
  · rw [ns, tl_append, hr]
    show okN n ((a ++ 32 :: 32 :: txN n c) ++ []) = true
    rw [List.append_nil]
    exact hm _ (List.mem_of_getElem? (i := 7) rfl)
theorem vb_ok (hn : n ≤ 6) (hc : c < 2 ^ n) {v : Str} {a : List Nat} (hv : tl v = a) (hm : ∀ x ∈ vbNL n a (txN n c), okN n x = true) : ∀ l ∈ vbL n (tx n c) v, okN n (tl l) = true := by
  have et := tx_tl n hn c hc
  have ec : tl (cutL (tx n c)) = (txN n c).take ((txN n c).length - 1) := by
    show (tl (tx n c)).take ((tx n c).length - 1) = _
    rw [len_tl, et]
  have ed : tl (dsh n) = [if 0 < n then 45 else 48] := by unfold dsh; split <;> decide +kernel
  intro l h
  simp only [vbL, vbA, vbB, List.mem_append, List.mem_cons, List.not_mem_nil, or_false] at h
  rcases h with ((rfl | rfl | rfl | rfl | rfl | rfl) | rfl | rfl | rfl | rfl) | rfl
  · rw [hv]; exact hm _ (List.mem_of_getElem? (i := 0) rfl)
  · rw [tl_append, hv, lt0]; exact hm _ (List.mem_of_getElem? (i := 1) rfl)
  · rw [tl_append, hv, lt1]; exact hm _ (List.mem_of_getElem? (i := 2) rfl)
  · rw [tl_append, hv, lt13]; exact hm _ (List.mem_of_getElem? (i := 3) rfl)
  · rw [tl_append, tl_append, tl_append, hv, lt0, et, lt14, List.append_assoc, List.append_assoc]; exact hm _ (List.mem_of_getElem? (i := 4) rfl)
  · rw [tl_append, hv, lt15]; exact hm _ (List.mem_of_getElem? (i := 5) rfl)
  · rw [tl_append, tl_append, hv, lt16, et, List.append_assoc]; exact hm _ (List.mem_of_getElem? (i := 6) rfl)
  · rw [tl_append, tl_append, hv, lt0, ec, List.append_assoc]; exact hm _ (List.mem_of_getElem? (i := 7) rfl)
  · rw [tl_append, tl_append, tl_append, tl_append, hv, lt0, et, List.append_assoc, List.append_assoc, List.append_assoc]; exact hm _ (List.mem_of_getElem? (i := 8) rfl)
  · rw [tl_append, hv, lt17]; exact hm _ (List.mem_of_getElem? (i := 9) rfl)
  · rw [tl_append, tl_append, hv, lt0, ed, List.append_assoc]; exact hm _ (List.mem_of_getElem? (i := 10) rfl)
theorem lines_ok (hn : n ≤ 6) (hc : c < 2 ^ n) : ∀ l ∈ linesL n (tx n c), okN n (tl l) = true := by
  have hd := List.all_eq_true.mp (dep_ok n hn c hc)
  have et := tx_tl n hn c hc
  have hr := rp4 n hn c hc
  have hr : [tl (repl1 ("add " ++ tx n c) " " "  "), tl (repl1 ("remove " ++ tx n c) " " "  "), tl (repl1 ("why " ++ tx n c) " " "  "), tl (repl1 ("base " ++ tx n c) " " "  ")] = [[97, 100, 100] ++ 32 :: 32 :: txN n c, [114, 101, 109, 111, 118, 101] ++ 32 :: 32 :: txN n c, [119, 104, 121] ++ 32 :: 32 :: txN n c, [98, 97, 115, 101] ++ 32 :: 32 :: txN n c] := hr
  obtain ⟨u1, u2, u3, u4⟩ := up4
  injection hr with r1 hr
  injection hr with r2 hr
  injection hr with r3 hr
  injection hr with r4 hr
  have c8 := List.all_eq_true.mp con8
  have c2 := List.all_eq_true.mp con2
  have cS := List.all_eq_true.mp conS
  have six : ∀ x ∈ (List.zipWith (fun v V => sixN v V (txN n c)) vbN upN).flatten, okN n x = true := fun x h => hd x (List.mem_append_left _ (List.mem_append_left _ h))
  have vbs : ∀ x ∈ vbN.flatMap (fun v => vbNL n v (txN n c)), okN n x = true := fun x h => hd x (List.mem_append_left _ (List.mem_append_right _ h))
  have last : ∀ x ∈ [txN n c, [115, 109, 111, 111, 116, 104, 32] ++ txN n c, [97, 100, 100, 115, 32] ++ txN n c], okN n x = true := fun x h => hd x (List.mem_append_right _ h)
  have hS : ∀ l ∈ (["", " ", "-", "ok", "error", "none", "edits", "attempt", "unknown command", "0", "flip", "press", "undo 1", "box 0", "counts none", "flips 0", "solid 1", "1"] : List Str), okN n (tl l) = true := fun l h => okC_N n (cS l h)
  have t0 : okN n (tl (tx n c)) = true := by rw [et]; exact last _ (List.mem_of_getElem? (i := 0) rfl)
  intro l h
  unfold linesL at h
  rcases List.mem_append.mp h with h | h
  · rcases List.mem_append.mp h with h | h
    · rcases List.mem_append.mp h with h | h
      · rcases List.mem_append.mp h with h | h
        · simp only [startL, List.mem_cons, List.not_mem_nil, or_false] at h
          rcases h with rfl | rfl | rfl | rfl | rfl | rfl | rfl | rfl | rfl | rfl | rfl | rfl | rfl
          · exact hS _ (List.mem_of_getElem? (i := 0) rfl)
          · exact hS _ (List.mem_of_getElem? (i := 1) rfl)
          · exact hS _ (List.mem_of_getElem? (i := 2) rfl)
          · exact hS _ (List.mem_of_getElem? (i := 3) rfl)
          · exact hS _ (List.mem_of_getElem? (i := 4) rfl)
          · exact hS _ (List.mem_of_getElem? (i := 5) rfl)
          · exact hS _ (List.mem_of_getElem? (i := 6) rfl)
          · exact hS _ (List.mem_of_getElem? (i := 7) rfl)
          · exact hS _ (List.mem_of_getElem? (i := 8) rfl)
          · exact t0
          · exact hS _ (List.mem_of_getElem? (i := 9) rfl)
          · exact hS _ (List.mem_of_getElem? (i := 10) rfl)
          · exact hS _ (List.mem_of_getElem? (i := 11) rfl)
        · obtain ⟨g, hg, hl⟩ := List.mem_flatMap.mp h
          have hg : g ∈ good4 (tx n c) ++ good8 := hg
          rcases List.mem_append.mp hg with hg | hg
          · simp only [good4, List.mem_cons, List.not_mem_nil, or_false] at hg
            rcases hg with rfl | rfl | rfl | rfl
            · exact six_ok hn hc (a := [97, 100, 100]) lt5 u1 r1 (fun x h => six x (List.mem_flatten.mpr ⟨_, List.mem_of_getElem? (i := 0) rfl, h⟩)) l hl
            · exact six_ok hn hc (a := [114, 101, 109, 111, 118, 101]) lt6 u2 r2 (fun x h => six x (List.mem_flatten.mpr ⟨_, List.mem_of_getElem? (i := 1) rfl, h⟩)) l hl
            · exact six_ok hn hc (a := [119, 104, 121]) lt7 u3 r3 (fun x h => six x (List.mem_flatten.mpr ⟨_, List.mem_of_getElem? (i := 2) rfl, h⟩)) l hl
            · exact six_ok hn hc (a := [98, 97, 115, 101]) lt8 u4 r4 (fun x h => six x (List.mem_flatten.mpr ⟨_, List.mem_of_getElem? (i := 3) rfl, h⟩)) l hl
          · exact okC_N n (List.all_eq_true.mp (c8 g hg) l hl)
      · obtain ⟨v, hv, hl⟩ := List.mem_flatMap.mp h
        simp only [verbs4, List.mem_cons, List.not_mem_nil, or_false] at hv
        rcases hv with rfl | rfl | rfl | rfl
        · exact vb_ok hn hc lt9 (fun x h => vbs x (List.mem_flatMap.mpr ⟨_, List.mem_of_getElem? (i := 0) rfl, h⟩)) l hl
        · exact vb_ok hn hc lt10 (fun x h => vbs x (List.mem_flatMap.mpr ⟨_, List.mem_of_getElem? (i := 1) rfl, h⟩)) l hl
        · exact vb_ok hn hc lt11 (fun x h => vbs x (List.mem_flatMap.mpr ⟨_, List.mem_of_getElem? (i := 2) rfl, h⟩)) l hl
        · exact vb_ok hn hc lt12 (fun x h => vbs x (List.mem_flatMap.mpr ⟨_, List.mem_of_getElem? (i := 3) rfl, h⟩)) l hl
    · obtain ⟨v, hv, hl⟩ := List.mem_flatMap.mp h
      exact okC_N n (List.all_eq_true.mp (c2 v hv) l hl)
  · simp only [tailL, List.mem_cons, List.not_mem_nil, or_false] at h
    rcases h with rfl | rfl | rfl | rfl | rfl | rfl | rfl | rfl
    · exact hS _ (List.mem_of_getElem? (i := 12) rfl)
    · exact hS _ (List.mem_of_getElem? (i := 13) rfl)
    · rw [tl_append, lt19, et]; exact last _ (List.mem_of_getElem? (i := 1) rfl)
    · exact hS _ (List.mem_of_getElem? (i := 14) rfl)
    · exact hS _ (List.mem_of_getElem? (i := 15) rfl)
    · rw [tl_append, lt20, et]; exact last _ (List.mem_of_getElem? (i := 2) rfl)
    · exact hS _ (List.mem_of_getElem? (i := 16) rfl)
    · exact hS _ (List.mem_of_getElem? (i := 17) rfl)
theorem place_no {w : Str} {ts : List Str} (h : w ∉ ts) : placeD w ts = none := by
  cases e : placeD w ts with
  | none => rfl
  | some j => exact absurd (List.mem_of_getElem? (place_some e).1) h
/-- a line of unknown words is answered so, and asks no edit -/
theorem unk_sem {ea : EaF} {g : Pg} {cs : List Int} (hg : DkS g n cs) {ws : List Str} (h : unkN n (ws.map tl) = true) : wdsA ea g ws = (unkT, g) ∧ PreW PeN g ws := by
  have hn := hg.hn
  match ws, h with
  | [], _ => exact ⟨rfl, ⟨(fun e => nomatch e), (fun _ _ _ e => nomatch e), (fun _ _ _ e => nomatch e)⟩⟩
  | [w], h =>
    have h : (!([[117, 110, 100, 111], [98, 111, 120], [99, 111, 117, 110, 116, 115], [115, 104, 111, 119, 110], [115, 111, 108, 105, 100], [115, 109, 111, 111, 116, 104]].any (· == tl w))) = true := h
    have n0 : w ≠ "undo" := fun e => by rw [e] at h; exact absurd h (by decide +kernel)
    have n1 : w ≠ "box" := fun e => by rw [e] at h; exact absurd h (by decide +kernel)
    have n2 : w ≠ "counts" := fun e => by rw [e] at h; exact absurd h (by decide +kernel)
    have n3 : w ≠ "shown" := fun e => by rw [e] at h; exact absurd h (by decide +kernel)
    have n4 : w ≠ "solid" := fun e => by rw [e] at h; exact absurd h (by decide +kernel)
    have n5 : w ≠ "smooth" := fun e => by rw [e] at h; exact absurd h (by decide +kernel)
    refine ⟨?_, fun e => absurd (List.cons.inj e).1 n0, (fun _ _ _ e => nomatch (List.cons.inj e).2), (fun _ _ _ e => nomatch (List.cons.inj e).2)⟩
    show sglA ea g w = _
    unfold sglA sglT
    rw [if_neg n0, if_neg n1, if_neg n2, if_neg n3, if_neg n4, if_neg n5]
  | [w, t], h =>
    have h : (if tl w == [102, 108, 105, 112] || tl w == [112, 114, 101, 115, 115] then !(numsN.any (· == tl t)) else if [[97, 100, 100], [114, 101, 109, 111, 118, 101], [119, 104, 121], [98, 97, 115, 101]].any (· == tl w) then badN n (tl t) else true) = true := h
    have hsw : w = "flip" ∨ w = "press" → placeD t numsT = none := by
      intro hw
      have e : (tl w == [102, 108, 105, 112] || tl w == [112, 114, 101, 115, 115]) = true := by rcases hw with rfl | rfl <;> decide +kernel
      rw [if_pos e] at h
      refine place_no fun hm => ?_
      have : numsN.any (· == tl t) = true := List.any_eq_true.mpr ⟨tl t, by rw [← nums_tl]; exact List.mem_map_of_mem hm, beq_self_eq_true _⟩
      rw [this] at h
      exact absurd h (by decide)
    have hcr : w = "add" ∨ w = "remove" ∨ w = "why" ∨ w = "base" → placeD t (txs (boxG g).1) = none := by
      intro hw
      have e1 : ¬ (tl w == [102, 108, 105, 112] || tl w == [112, 114, 101, 115, 115]) = true := by rcases hw with rfl | rfl | rfl | rfl <;> decide +kernel
      have e2 : [[97, 100, 100], [114, 101, 109, 111, 118, 101], [119, 104, 121], [98, 97, 115, 101]].any (· == tl w) = true := by rcases hw with rfl | rfl | rfl | rfl <;> decide +kernel
      rw [if_neg e1, if_pos e2] at h
      rw [hg.bxg]
      refine place_no fun hm => ?_
      obtain ⟨c, hc, rfl⟩ := List.mem_map.mp hm
      have hc := List.mem_range.mp hc
      rw [tx_tl n hn c hc, tx_bad n hn c hc] at h
      exact absurd h (by decide)
    refine ⟨?_, (fun e => nomatch (List.cons.inj e).2), fun w' t' k e hw hk => ?_, fun w' t' k e hw hk => ?_⟩
    · show (if w = "flip" ∨ w = "press" then swtA ea g w t else if w = "add" ∨ w = "remove" ∨ w = "why" ∨ w = "base" then crdA ea g w t else (unkT, g)) = _
      by_cases h1 : w = "flip" ∨ w = "press"
      · rw [if_pos h1]; unfold swtA; rw [hsw h1]
      · rw [if_neg h1]
        by_cases h2 : w = "add" ∨ w = "remove" ∨ w = "why" ∨ w = "base"
        · rw [if_pos h2]; unfold crdA; rw [hcr h2]
        · rw [if_neg h2]
    · injection e with e1 e2
      injection e2 with e2 _
      subst e1 e2
      rw [hsw hw] at hk
      cases hk
    · injection e with e1 e2
      injection e2 with e2 _
      subst e1 e2
      rw [hcr (hw.elim .inl fun z => .inr (.inl z))] at hk
      cases hk
  | _ :: _ :: _ :: _, _ => exact ⟨rfl, (fun e => nomatch (List.cons.inj e).2), (fun _ _ _ e => nomatch (List.cons.inj (List.cons.inj e).2).2), (fun _ _ _ e => nomatch (List.cons.inj (List.cons.inj e).2).2)⟩
theorem line_unk {ea : EaF} {g : Pg} {cs : List Int} (hc : c < 2 ^ n) (hg : DkS g n cs) {l : Str} (h : l ∈ linesL n (tx n c)) : linA ea g (.str l) = (unkT, g) ∧ l.length ≤ 100 ∧ PreW PeN g (Txt.split l " ") := by
  have ho := lines_ok hg.hn hc l h
  unfold okN at ho
  rw [Bool.and_eq_true] at ho
  have h2 : (tl l).length ≤ 100 := of_decide_eq_true ho.2
  have h1 := unk_sem (ea := ea) hg (ws := Txt.split l " ") (by rw [words_tl]; exact ho.1)
  exact ⟨h1.1, by rw [len_tl]; exact h2, h1.2⟩
end


local macro_rules | `(tactic| walk_at "us") => `(tactic| first
  | ((with_reducible refine wa_cons ?s1 ?_); (case s1 => exact fun _ => rfl))
  | with_reducible refine we_int ?_
  | with_reducible refine we_str ?_
  | with_reducible refine we_bl ?_
  | with_reducible refine we_non ?_
  | with_reducible refine we_tup ?_
  | with_reducible refine we_lst ?_
  | with_reducible refine wa_nil ?_
  | with_reducible refine we_dictI ?_
  | with_reducible refine we_pow ?_)
abbrev nLaw : List Str := ["_law_script", "_law_deck_here", "_law_n", "_law_text_here", "_law_box", "_law_pile", "_law_shell", "_law_line"]
theorem scLaw : FnScope nLaw ["_law_script"] (defScope (topS 82)) := ⟨rfl, rfl, rfl, by decide +kernel, rfl, by decide +kernel, by decide +kernel⟩
def LinOk (ea : EaF) (g : Pg) (x : PyData) : Prop := linA ea g x = (unkT, g) ∧ ∀ t, x = .str t → t.length ≤ 900000 ∧ PreW PeN g (Txt.split t " ")
theorem lin_odd {ea : EaF} {g : Pg} {x : PyData} (h : ∀ t, x ≠ .str t) : LinOk ea g x := ⟨by
  cases x with
  | str t => exact absurd rfl (h t)
  | _ => rfl, fun t e => absurd e (h t)⟩
def oddsL (od : PyData) : List PyData := [od, .none, .int 5, .bool true, .list [.str "undo"], .tuple [.str "undo"], .dict [(.str "undo", .int 1)], .int ((10 : Int) ^ (29 : Int).toNat)]
theorem asked_ok {ea : EaF} {g : Pg} {n c : Nat} {cs : List Int} {od x : PyData} (hc : c < 2 ^ n) (hg : DkS g n cs) (ho : od ∈ oddT) (hx : x ∈ SL (linesL n (tx n c)) ++ oddsL od) : LinOk ea g x := by
  rcases List.mem_append.mp hx with hx | hx
  · obtain ⟨l, hl, rfl⟩ := List.mem_map.mp hx
    obtain ⟨h1, h2, h3⟩ := line_unk (ea := ea) hc hg hl
    exact ⟨h1, fun t e => by cases e; exact ⟨Nat.le_trans h2 (by decide), h3⟩⟩
  · simp only [oddsL, List.mem_cons, List.not_mem_nil, or_false] at hx
    rcases hx with rfl | rfl | rfl | rfl | rfl | rfl | rfl | rfl
    · simp only [oddT, List.mem_cons, List.not_mem_nil, or_false] at ho
      rcases ho with rfl | rfl | rfl | rfl | rfl | rfl | rfl | rfl | rfl | rfl | rfl | rfl <;> exact lin_odd (fun t e => nomatch e)
    all_goals exact lin_odd (fun t e => nomatch e)
theorem lines_len (n : Nat) (t : Str) : (SL (linesL n t)).length = 175 := by
  have e : linesL n t = startL t ++ (goodL t).flatMap turn1 ++ verbs4.flatMap (vbL n t) ++ verbs2.flatMap swL ++ tailL t := rfl
  rw [List.length_map, e, List.length_append, List.length_append, List.length_append, List.length_append, flat_len (m := 8) (fun _ => rfl), flat_len (m := 11) (fun _ => rfl), flat_len (m := 7) (fun _ => rfl)]
  rfl
section
variable {P : Program} {w : World} {K : PySem.W.Frag} {mg : Str → Option Value} {base : Heap} {C CS : Addr} {ea : EaF}
theorem ok_law {f fi fs : Addr} {fd fdi fds : FuncData} (Fn : Fun K "law" "law" (topS 82) f fd) (ml : mg "len" = none)
    (gd : ∃ (fa : Addr) (fdd : FuncData), FnG P w K mg base 1 fa fdd ["_law_script"] (spDeck K) ∧ mg "_law_deck" = some (.ref fa) ∧ PySem.W.keepIn K (.ref fa) = true ∧ L2.Binds K fdd ["_law_script"] [])
    (gn : DFnQ P w K mg base 1 "_law_draw" 1 PreNext RNext) (gt : PFn P w K mg base 1 "_law_text" RctP) (go : DFnQ P w K mg base 2 "_law_odd" 1 PreOT RoddT) (gl : PFn P w K mg base 1 "_law_lines" RlinesP)
    (qb : PiM P w K mg base C 1 "box" [.non] PmBox RmBox) (ql : PiM P w K mg base C 1 "__len__" [] Pm0 RmLen) (qx : ShM P w K mg base C CS 10 "execute" (PmEx PeN) (RmEx ea))
    (M : Mk K C fi) (Gi : FnG P w K mg base 6 fi fdi ["self", "box"] (spInit K C OkB)) (mD : mg "Deck" = some (.ref C)) (bi : L2.Binds K fdi ["self", "box"] [])
    (MS : Mk K CS fs) (Gs : FnG P w K mg base 1 fs fds ["self", "deck"] (spShI K CS)) (mS2 : mg "Shell" = some (.ref CS)) (bs : L2.Binds K fds ["self", "deck"] []) :
    FnG P w K mg base 11 f fd ["_law_script"] (spLaw K) := by
  refine lawQX_ok (k := 10) Fn scLaw rfl gd (by decide) rfl rfl (.inl rfl) (.inl rfl) rfl (fun _ => rfl) (fun F s a dk hX hK => ?_)
  refine wb_cons (ws_set 2 (by walk_at "tgt") (fun env h => by cases env; cases h; rfl) ?_)
  refine we_callQ2 (a := a) gn (by show 1 ≤ 10; decide) hK 1 rfl rfl (by walk_at "vis") rfl (wa_cons (fun _ => rfl) (we_int (wa_nil ⟨⟨7, rfl, by decide, by decide⟩, id, 899999, dk, rfl, ?_⟩)))
  rintro d ⟨m', n, e1, rfl, n0, n7⟩
  cases e1
  obtain ⟨n, rfl⟩ : ∃ z : Nat, n = (z : Int) := ⟨n.toNat, by omega⟩
  have hn : n ≤ 6 := by omega
  have e2 : ((2 ^ n : Nat) : Int) = (2 : Int) ^ n := by rw [Int.natCast_pow]; rfl
  have hpw : 2 ^ n ≤ 2 ^ 6 := Nat.pow_le_pow_right (by decide) hn
  have hp0 : 0 < 2 ^ n := Nat.two_pow_pos n
  refine wb_cons (ws_set 3 (by walk_at "tgt") (fun env h => by cases env; cases h; rfl) (we_callP gt (by show 1 ≤ 10; decide) hK rfl (wa_cons (fun _ => rfl) ?_)))
  walk_at "name"
  refine wa_cons (fun _ => rfl) (we_callQ2 (a := a) gn (by show 1 ≤ 10; decide) hK 1 rfl rfl (by walk_at "vis") rfl (wa_cons (fun _ => rfl) (we_shl (we_int ?_))))
  walk_at "name"
  refine ⟨1, (n : Int), rfl, rfl, ⟨by omega, by omega, by decide⟩, wa_nil ⟨⟨_, rfl, ?_, ?_⟩, id, 899998, dk, rfl, ?_⟩⟩
  · rw [Int.toNat_natCast, Int.one_mul]; omega
  · rw [Int.toNat_natCast, Int.one_mul]; omega
  rintro d ⟨m', c, e1, rfl, c0, c1⟩
  cases e1
  obtain ⟨c, rfl⟩ : ∃ z : Nat, c = (z : Int) := ⟨c.toNat, by omega⟩
  rw [Int.toNat_natCast, Int.one_mul] at c1
  have hc : c < 2 ^ n := by omega
  refine wa_nil ⟨_, ⟨n, (c : Int), rfl, hn, ⟨c0, c1⟩, rfl⟩, ?_⟩
  rw [Int.toNat_natCast]
  refine wb_cons (ws_set 4 (by walk_at "tgt") (fun env h => by cases env; cases h; rfl) (we_tup (wa_cons (fun _ => rfl) ?_)))
  walk_at "name"
  refine wa_cons (fun _ => rfl) (we_tup (wa_cons (fun _ => rfl) (we_int (wa_nil ⟨by show 1 ≤ _; decide, wa_nil ⟨by show 2 ≤ _; decide, ?_⟩⟩))))
  change WPB F _ _ [.un, .raw (.ref s), .d (.int (n : Int)), .d (.str (tx n c)), .d (boxD n [0]), .un, .un, .un] _ _
  refine wb_deck 5 hX hK (by walk_at "tgt") (by show 5 < 8; decide) M Gi (by show 7 ≤ 10; decide) rfl mD bi (fun _ => rfl) (fun env h => by cases env; cases h; rfl) ?_
  walk_at "name"
  refine ⟨(n, [0]), rfl, ⟨hn, box00 n⟩, fun pa pd hMa hMd => ?_⟩
  refine wb_shell 6 5 (by walk_at "tgt") rfl (by walk_at "vis") rfl MS Gs (by show 2 ≤ 10; decide) rfl mS2 bs (fun env h => by cases env; cases h; rfl) (fun sb sd hMs hMsd => ?_)
  have hK1 : ((F.deck C pa pd).shl CS pa sb sd).K = K := hK
  have P1 : ∀ c, HasPi ((F.deck C pa pd).shl CS pa sb sd) C pa pd (kk c) := fun c => (has_deck hMa hMd c).shl
  have SH : HasSh ((F.deck C pa pd).shl CS pa sb sd) CS pa sb := has_shl
  have DQ : ∀ g1, HasDq ((F.deck C pa pd).shl CS pa sb sd) s a (fun c => kk c g1) := fun g1 => (deck_dq dk g1).shl
  have hg : DkS ([(n, [0])], []) n [0] := ⟨rfl, hn, box00 n, by show 1 ≤ 900; decide, by show 0 ≤ 900; decide⟩
  generalize ((F.deck C pa pd).shl CS pa sb sd) = F1 at hK1 P1 SH DQ ⊢
  have eg : (([(n, [0])], []) : Pg) = ([(n, [0])], []) := rfl
  generalize hgg : (([(n, [0])], []) : Pg) = g at hg ⊢
  refine wb_cons (ws_for_list 7 (by walk_at "tgt") hK1 (fun _ _ => rfl) (we_cat (we_callP gl (by show 1 ≤ 10; decide) hK1 rfl (wa_cons (fun _ => rfl) ?_))))
  walk_at "name"
  refine wa_cons (fun _ => rfl) ?_
  walk_at "name"
  refine wa_nil ⟨_, ⟨n, c, rfl, hn, hc, rfl⟩, ?_⟩
  obtain ⟨k0, hk0⟩ : ∃ k0 : Nat, k0 + 1 = 899998 := ⟨899997, rfl⟩
  refine we_lst (wa_cons (fun _ => rfl) (we_callQ2 (a := a) go (by show 2 ≤ 10; decide) hK1 1 rfl rfl (by walk_at "vis") rfl (wa_nil ⟨rfl, (fun c => kk c g), k0, DQ g, by rw [hk0]; rfl, ?_⟩)))
  intro od ho
  have ho := ho.2
  repeat walk_at "us"
  refine ⟨by show 1 ≤ sizeLine; decide, ?_⟩
  repeat walk_at "us"
  refine ⟨by show 1 ≤ sizeLine; decide, ?_⟩
  repeat walk_at "us"
  refine ⟨_, _, rfl, rfl, ⟨by decide, by decide, by decide⟩, ?_⟩
  repeat walk_at "us"
  refine ⟨by show 8 ≤ sizeLine; decide, _, _, rfl, rfl, by rw [lines_len]; show 175 + 8 ≤ _; decide, ?_⟩
  change ∃ (I : Nat → Nat → Rho → Prop) (ds : List PyData), PyData.list (SL (linesL n (tx n c)) ++ oddsL od) = .list ds ∧ _
  have hall : ∀ x ∈ SL (linesL n (tx n c)) ++ oddsL od, LinOk ea g x := fun x hx => asked_ok hc hg ho hx
  generalize SL (linesL n (tx n c)) ++ oddsL od = xs at hall ⊢
  have hl0 : g.2.length = 0 := by rw [← hgg]; rfl
  refine ⟨fun j k ρ => ∃ x7 : SV, plainB x7 = true ∧ k = kk k0 g ∧ ρ = [.un, .raw (.ref s), .d (.int (n : Int)), .d (.str (tx n c)), .d (boxD n [0]), .raw (.ref pa), .raw (.ref sb), x7], xs, rfl, ⟨.un, rfl, rfl, rfl⟩, ?_, ?_⟩
  · rintro j x k ρ hy ⟨x7, p7, rfl, rfl⟩
    obtain ⟨h1, h2⟩ := hall x (List.mem_of_getElem? hy)
    refine wb_cons (ws_if (wt_bool (ww_or (wt_neT (we_sx (mk := kk k0) (g := g) (P1 k0) SH qx (by show 10 ≤ 10; decide) hK1 6 rfl (by walk_at "vis") rfl (by decide) (wa_cons (fun _ => rfl) ?_))))))
    walk_at "name"
    refine wa_nil ⟨_, g, P1 k0, rfl, ⟨x, n, [0], rfl, hg, h2⟩, ?_⟩
    rintro g' d ⟨x', e, rfl, rfl⟩
    cases e
    rw [h1]
    refine we_str ⟨_, _, rfl, rfl, itN (by show (!decide (unkT = unkT)) = false; rw [decide_eq_true rfl]; rfl) (ww_or1 (wt_neI ?_))⟩
    refine we_plenO (mk := kk k0) (g := g) (P1 _) ql (by show 2 ≤ 10; decide) hK1 5 rfl (by walk_at "vis") rfl rfl ml rfl ?_
    intro g' d hr
    obtain ⟨eg', ed⟩ := hr
    rw [eg', ed]
    refine ⟨g.2.length, rfl, by omega, we_int ⟨_, _, rfl, rfl, ?_⟩⟩
    rw [hl0]
    exact itN rfl (wb_nil (wb_nil ⟨.d x, rfl, rfl, rfl⟩))
  · rintro k ρ ⟨x7, p7, rfl, rfl⟩
    refine wb_cons (ws_ret (we_eq hK1 ?_))
    refine we_pm0N (mk := kk k0) (g := g) (P1 _) qb (by show 1 ≤ 10; decide) hK1 5 rfl (by walk_at "vis") rfl ⟨by decide, by decide⟩ ⟨rfl, hg.ne⟩ ?_
    rintro g' d ⟨eg', b, hbx, rfl⟩
    rw [hg.last] at hbx
    cases hbx
    rw [eg']
    walk_at "name"
    refine ⟨(Ld.box n [0]).shaped (by decide), (Ld.box n [0]).shaped (by decide), ?_⟩
    refine ⟨_, g, rfl, ?_⟩
    exact congrArg PyData.bool (SeqAt.eqv_refl _ (Ld.box n [0]).1)
end



/-! ### what the top has written; the end -/
theorem all_mk {P : Program} {w : World} {K : PySem.W.Frag} {h : Heap} {mg : Str → Option Value} {fa f0 f1 f2 f3 f4 f5 f6 f7 f8 f9 f10 f11 f12 f13 f14 f15 f16 f17 f18 f19 f20 f21 f22 f23 f24 f25 f26 f27 f28 f29 f30 f31 f32 f33 f34 f35 f36 f37 f38 f39 : Addr} (X : K.In h) (G : h.Ns mainGlobals mg) (hfa : mg "law" = some (.ref fa))
    {od0 an0 od1 an1 od2 an2 od3 an3 od4 an4 od5 an5 od6 an6 od7 an7 od8 an8 od9 an9 od10 an10 od11 an11 od12 an12 od13 an13 od14 an14 od15 an15 od16 an16 od17 an17 od18 an18 od19 an19 od20 an20 od21 an21 od22 an22 od23 an23 od24 an24 od25 an25 od26 an26 od27 an27 od28 an28 od29 an29 od30 an30 od31 an31 od32 an32 od33 an33 od34 an34 od35 an35 od36 an36 od37 an37 od38 an38 od39 an39 : Option Addr} {sl0 sl1 sl2 sl3 sl4 sl5 sl6 sl7 sl8 sl9 sl10 sl11 sl12 sl13 sl14 sl15 sl16 sl17 sl18 sl19 sl20 sl21 sl22 sl23 sl24 sl25 sl26 sl27 sl28 sl29 sl30 sl31 sl32 sl33 sl34 sl35 sl36 sl37 sl38 sl39 : Array (Option Value)} {oc0 kV0 dc0 pm0 cd0 ct0 oc1 kV1 dc1 pm1 cd1 ct1 oc2 kV2 dc2 pm2 cd2 ct2 oc3 kV3 dc3 pm3 cd3 ct3 oc4 kV4 dc4 pm4 cd4 ct4 oc5 kV5 dc5 pm5 cd5 ct5 oc6 kV6 dc6 pm6 cd6 ct6 oc7 kV7 dc7 pm7 cd7 ct7 oc8 kV8 dc8 pm8 cd8 ct8 oc9 kV9 dc9 pm9 cd9 ct9 oc10 kV10 dc10 pm10 cd10 ct10 oc11 kV11 dc11 pm11 cd11 ct11 oc12 kV12 dc12 pm12 cd12 ct12 oc13 kV13 dc13 pm13 cd13 ct13 oc14 kV14 dc14 pm14 cd14 ct14 oc15 kV15 dc15 pm15 cd15 ct15 oc16 kV16 dc16 pm16 cd16 ct16 oc17 kV17 dc17 pm17 cd17 ct17 oc18 kV18 dc18 pm18 cd18 ct18 oc19 kV19 dc19 pm19 cd19 ct19 oc20 kV20 dc20 pm20 cd20 ct20 oc21 kV21 dc21 pm21 cd21 ct21 oc22 kV22 dc22 pm22 cd22 ct22 oc23 kV23 dc23 pm23 cd23 ct23 oc24 kV24 dc24 pm24 cd24 ct24 oc25 kV25 dc25 pm25 cd25 ct25 oc26 kV26 dc26 pm26 cd26 ct26 oc27 kV27 dc27 pm27 cd27 ct27 oc28 kV28 dc28 pm28 cd28 ct28 oc29 kV29 dc29 pm29 cd29 ct29 oc30 kV30 dc30 pm30 cd30 ct30 oc31 kV31 dc31 pm31 cd31 ct31 oc32 kV32 dc32 pm32 cd32 ct32 oc33 kV33 dc33 pm33 cd33 ct33 oc34 kV34 dc34 pm34 cd34 ct34 oc35 kV35 dc35 pm35 cd35 ct35 oc36 kV36 dc36 pm36 cd36 ct36 oc37 kV37 dc37 pm37 cd37 ct37 oc38 kV38 dc38 pm38 cd38 ct38 oc39 kV39 dc39 pm39 cd39 ct39 : Value}
    (a0 : PySem.W.nsIn K mainGlobals "is_number" = some (some (.ref f0))) (l0 : K.lookup f0 = some ⟨oc0, od0, .func (PySem.W.fnOf "is_number" "is_number" (defArgs (topS 5)) (defBody (topS 5)) (defScope (topS 5)) .none kV0 dc0 pm0 an0 cd0 ct0), sl0⟩) (c0 : PySem.W.codeIn K cd0 "is_number" = true) (k0 : PySem.W.keepIn K (.ref f0) = true)
    (a1 : PySem.W.nsIn K mainGlobals "is_below" = some (some (.ref f1))) (l1 : K.lookup f1 = some ⟨oc1, od1, .func (PySem.W.fnOf "is_below" "is_below" (defArgs (topS 6)) (defBody (topS 6)) (defScope (topS 6)) .none kV1 dc1 pm1 an1 cd1 ct1), sl1⟩) (c1 : PySem.W.codeIn K cd1 "is_below" = true) (k1 : PySem.W.keepIn K (.ref f1) = true)
    (a2 : PySem.W.nsIn K mainGlobals "is_one_of" = some (some (.ref f2))) (l2 : K.lookup f2 = some ⟨oc2, od2, .func (PySem.W.fnOf "is_one_of" "is_one_of" (defArgs (topS 7)) (defBody (topS 7)) (defScope (topS 7)) .none kV2 dc2 pm2 an2 cd2 ct2), sl2⟩) (c2 : PySem.W.codeIn K cd2 "is_one_of" = true) (k2 : PySem.W.keepIn K (.ref f2) = true)
    (a3 : PySem.W.nsIn K mainGlobals "is_pair" = some (some (.ref f3))) (l3 : K.lookup f3 = some ⟨oc3, od3, .func (PySem.W.fnOf "is_pair" "is_pair" (defArgs (topS 8)) (defBody (topS 8)) (defScope (topS 8)) .none kV3 dc3 pm3 an3 cd3 ct3), sl3⟩) (c3 : PySem.W.codeIn K cd3 "is_pair" = true) (k3 : PySem.W.keepIn K (.ref f3) = true)
    (a4 : PySem.W.nsIn K mainGlobals "is_card" = some (some (.ref f4))) (l4 : K.lookup f4 = some ⟨oc4, od4, .func (PySem.W.fnOf "is_card" "is_card" (defArgs (topS 9)) (defBody (topS 9)) (defScope (topS 9)) .none kV4 dc4 pm4 an4 cd4 ct4), sl4⟩) (c4 : PySem.W.codeIn K cd4 "is_card" = true) (k4 : PySem.W.keepIn K (.ref f4) = true)
    (a5 : PySem.W.nsIn K mainGlobals "box_error" = some (some (.ref f5))) (l5 : K.lookup f5 = some ⟨oc5, od5, .func (PySem.W.fnOf "box_error" "box_error" (defArgs (topS 10)) (defBody (topS 10)) (defScope (topS 10)) .none kV5 dc5 pm5 an5 cd5 ct5), sl5⟩) (c5 : PySem.W.codeIn K cd5 "box_error" = true) (k5 : PySem.W.keepIn K (.ref f5) = true)
    (a6 : PySem.W.nsIn K mainGlobals "cards_error" = some (some (.ref f6))) (l6 : K.lookup f6 = some ⟨oc6, od6, .func (PySem.W.fnOf "cards_error" "cards_error" (defArgs (topS 11)) (defBody (topS 11)) (defScope (topS 11)) .none kV6 dc6 pm6 an6 cd6 ct6), sl6⟩) (c6 : PySem.W.codeIn K cd6 "cards_error" = true) (k6 : PySem.W.keepIn K (.ref f6) = true)
    (a7 : PySem.W.nsIn K mainGlobals "has_switch" = some (some (.ref f7))) (l7 : K.lookup f7 = some ⟨oc7, od7, .func (PySem.W.fnOf "has_switch" "has_switch" (defArgs (topS 12)) (defBody (topS 12)) (defScope (topS 12)) .none kV7 dc7 pm7 an7 cd7 ct7), sl7⟩) (c7 : PySem.W.codeIn K cd7 "has_switch" = true) (k7 : PySem.W.keepIn K (.ref f7) = true)
    (a8 : PySem.W.nsIn K mainGlobals "subsets_of" = some (some (.ref f8))) (l8 : K.lookup f8 = some ⟨oc8, od8, .func (PySem.W.fnOf "subsets_of" "subsets_of" (defArgs (topS 13)) (defBody (topS 13)) (defScope (topS 13)) .none kV8 dc8 pm8 an8 cd8 ct8), sl8⟩) (c8 : PySem.W.codeIn K cd8 "subsets_of" = true) (k8 : PySem.W.keepIn K (.ref f8) = true)
    (a9 : PySem.W.nsIn K mainGlobals "sets_outside" = some (some (.ref f9))) (l9 : K.lookup f9 = some ⟨oc9, od9, .func (PySem.W.fnOf "sets_outside" "sets_outside" (defArgs (topS 14)) (defBody (topS 14)) (defScope (topS 14)) .none kV9 dc9 pm9 an9 cd9 ct9), sl9⟩) (c9 : PySem.W.codeIn K cd9 "sets_outside" = true) (k9 : PySem.W.keepIn K (.ref f9) = true)
    (a10 : PySem.W.nsIn K mainGlobals "cube_cards" = some (some (.ref f10))) (l10 : K.lookup f10 = some ⟨oc10, od10, .func (PySem.W.fnOf "cube_cards" "cube_cards" (defArgs (topS 16)) (defBody (topS 16)) (defScope (topS 16)) .none kV10 dc10 pm10 an10 cd10 ct10), sl10⟩) (c10 : PySem.W.codeIn K cd10 "cube_cards" = true) (k10 : PySem.W.keepIn K (.ref f10) = true)
    (a11 : PySem.W.nsIn K mainGlobals "first_missing" = some (some (.ref f11))) (l11 : K.lookup f11 = some ⟨oc11, od11, .func (PySem.W.fnOf "first_missing" "first_missing" (defArgs (topS 17)) (defBody (topS 17)) (defScope (topS 17)) .none kV11 dc11 pm11 an11 cd11 ct11), sl11⟩) (c11 : PySem.W.codeIn K cd11 "first_missing" = true) (k11 : PySem.W.keepIn K (.ref f11) = true)
    (a12 : PySem.W.nsIn K mainGlobals "bases_of" = some (some (.ref f12))) (l12 : K.lookup f12 = some ⟨oc12, od12, .func (PySem.W.fnOf "bases_of" "bases_of" (defArgs (topS 18)) (defBody (topS 18)) (defScope (topS 18)) .none kV12 dc12 pm12 an12 cd12 ct12), sl12⟩) (c12 : PySem.W.codeIn K cd12 "bases_of" = true) (k12 : PySem.W.keepIn K (.ref f12) = true)
    (a13 : PySem.W.nsIn K mainGlobals "is_solid" = some (some (.ref f13))) (l13 : K.lookup f13 = some ⟨oc13, od13, .func (PySem.W.fnOf "is_solid" "is_solid" (defArgs (topS 19)) (defBody (topS 19)) (defScope (topS 19)) .none kV13 dc13 pm13 an13 cd13 ct13), sl13⟩) (c13 : PySem.W.codeIn K cd13 "is_solid" = true) (k13 : PySem.W.keepIn K (.ref f13) = true)
    (a14 : PySem.W.nsIn K mainGlobals "solid_sets" = some (some (.ref f14))) (l14 : K.lookup f14 = some ⟨oc14, od14, .func (PySem.W.fnOf "solid_sets" "solid_sets" (defArgs (topS 20)) (defBody (topS 20)) (defScope (topS 20)) .none kV14 dc14 pm14 an14 cd14 ct14), sl14⟩) (c14 : PySem.W.codeIn K cd14 "solid_sets" = true) (k14 : PySem.W.keepIn K (.ref f14) = true)
    (a15 : PySem.W.nsIn K mainGlobals "solid_certificate" = some (some (.ref f15))) (l15 : K.lookup f15 = some ⟨oc15, od15, .func (PySem.W.fnOf "solid_certificate" "solid_certificate" (defArgs (topS 21)) (defBody (topS 21)) (defScope (topS 21)) .none kV15 dc15 pm15 an15 cd15 ct15), sl15⟩) (c15 : PySem.W.codeIn K cd15 "solid_certificate" = true) (k15 : PySem.W.keepIn K (.ref f15) = true)
    (a16 : PySem.W.nsIn K mainGlobals "patterns_of" = some (some (.ref f16))) (l16 : K.lookup f16 = some ⟨oc16, od16, .func (PySem.W.fnOf "patterns_of" "patterns_of" (defArgs (topS 37)) (defBody (topS 37)) (defScope (topS 37)) .none kV16 dc16 pm16 an16 cd16 ct16), sl16⟩) (c16 : PySem.W.codeIn K cd16 "patterns_of" = true) (k16 : PySem.W.keepIn K (.ref f16) = true)
    (a17 : PySem.W.nsIn K mainGlobals "is_shown" = some (some (.ref f17))) (l17 : K.lookup f17 = some ⟨oc17, od17, .func (PySem.W.fnOf "is_shown" "is_shown" (defArgs (topS 38)) (defBody (topS 38)) (defScope (topS 38)) .none kV17 dc17 pm17 an17 cd17 ct17), sl17⟩) (c17 : PySem.W.codeIn K cd17 "is_shown" = true) (k17 : PySem.W.keepIn K (.ref f17) = true)
    (a18 : PySem.W.nsIn K mainGlobals "shown_sets" = some (some (.ref f18))) (l18 : K.lookup f18 = some ⟨oc18, od18, .func (PySem.W.fnOf "shown_sets" "shown_sets" (defArgs (topS 39)) (defBody (topS 39)) (defScope (topS 39)) .none kV18 dc18 pm18 an18 cd18 ct18), sl18⟩) (c18 : PySem.W.codeIn K cd18 "shown_sets" = true) (k18 : PySem.W.keepIn K (.ref f18) = true)
    (a19 : PySem.W.nsIn K mainGlobals "cards_with" = some (some (.ref f19))) (l19 : K.lookup f19 = some ⟨oc19, od19, .func (PySem.W.fnOf "cards_with" "cards_with" (defArgs (topS 40)) (defBody (topS 40)) (defScope (topS 40)) .none kV19 dc19 pm19 an19 cd19 ct19), sl19⟩) (c19 : PySem.W.codeIn K cd19 "cards_with" = true) (k19 : PySem.W.keepIn K (.ref f19) = true)
    (a20 : PySem.W.nsIn K mainGlobals "shown_certificate" = some (some (.ref f20))) (l20 : K.lookup f20 = some ⟨oc20, od20, .func (PySem.W.fnOf "shown_certificate" "shown_certificate" (defArgs (topS 41)) (defBody (topS 41)) (defScope (topS 41)) .none kV20 dc20 pm20 an20 cd20 ct20), sl20⟩) (c20 : PySem.W.codeIn K cd20 "shown_certificate" = true) (k20 : PySem.W.keepIn K (.ref f20) = true)
    (a21 : PySem.W.nsIn K mainGlobals "rough_set" = some (some (.ref f21))) (l21 : K.lookup f21 = some ⟨oc21, od21, .func (PySem.W.fnOf "rough_set" "rough_set" (defArgs (topS 43)) (defBody (topS 43)) (defScope (topS 43)) .none kV21 dc21 pm21 an21 cd21 ct21), sl21⟩) (c21 : PySem.W.codeIn K cd21 "rough_set" = true) (k21 : PySem.W.keepIn K (.ref f21) = true)
    (a22 : PySem.W.nsIn K mainGlobals "set_counts" = some (some (.ref f22))) (l22 : K.lookup f22 = some ⟨oc22, od22, .func (PySem.W.fnOf "set_counts" "set_counts" (defArgs (topS 44)) (defBody (topS 44)) (defScope (topS 44)) .none kV22 dc22 pm22 an22 cd22 ct22), sl22⟩) (c22 : PySem.W.codeIn K cd22 "set_counts" = true) (k22 : PySem.W.keepIn K (.ref f22) = true)
    (a23 : PySem.W.nsIn K mainGlobals "card_text" = some (some (.ref f23))) (l23 : K.lookup f23 = some ⟨oc23, od23, .func (PySem.W.fnOf "card_text" "card_text" (defArgs (topS 46)) (defBody (topS 46)) (defScope (topS 46)) .none kV23 dc23 pm23 an23 cd23 ct23), sl23⟩) (c23 : PySem.W.codeIn K cd23 "card_text" = true) (k23 : PySem.W.keepIn K (.ref f23) = true)
    (a24 : PySem.W.nsIn K mainGlobals "cards_text" = some (some (.ref f24))) (l24 : K.lookup f24 = some ⟨oc24, od24, .func (PySem.W.fnOf "cards_text" "cards_text" (defArgs (topS 47)) (defBody (topS 47)) (defScope (topS 47)) .none kV24 dc24 pm24 an24 cd24 ct24), sl24⟩) (c24 : PySem.W.codeIn K cd24 "cards_text" = true) (k24 : PySem.W.keepIn K (.ref f24) = true)
    (a25 : PySem.W.nsIn K mainGlobals "box_text" = some (some (.ref f25))) (l25 : K.lookup f25 = some ⟨oc25, od25, .func (PySem.W.fnOf "box_text" "box_text" (defArgs (topS 48)) (defBody (topS 48)) (defScope (topS 48)) .none kV25 dc25 pm25 an25 cd25 ct25), sl25⟩) (c25 : PySem.W.codeIn K cd25 "box_text" = true) (k25 : PySem.W.keepIn K (.ref f25) = true)
    (a26 : PySem.W.nsIn K mainGlobals "place_of" = some (some (.ref f26))) (l26 : K.lookup f26 = some ⟨oc26, od26, .func (PySem.W.fnOf "place_of" "place_of" (defArgs (topS 49)) (defBody (topS 49)) (defScope (topS 49)) .none kV26 dc26 pm26 an26 cd26 ct26), sl26⟩) (c26 : PySem.W.codeIn K cd26 "place_of" = true) (k26 : PySem.W.keepIn K (.ref f26) = true)
    (a27 : PySem.W.nsIn K mainGlobals "read_card" = some (some (.ref f27))) (l27 : K.lookup f27 = some ⟨oc27, od27, .func (PySem.W.fnOf "read_card" "read_card" (defArgs (topS 50)) (defBody (topS 50)) (defScope (topS 50)) .none kV27 dc27 pm27 an27 cd27 ct27), sl27⟩) (c27 : PySem.W.codeIn K cd27 "read_card" = true) (k27 : PySem.W.keepIn K (.ref f27) = true)
    (a28 : PySem.W.nsIn K mainGlobals "edit_answer" = some (some (.ref f28))) (l28 : K.lookup f28 = some ⟨oc28, od28, .func (PySem.W.fnOf "edit_answer" "edit_answer" (defArgs (topS 53)) (defBody (topS 53)) (defScope (topS 53)) .none kV28 dc28 pm28 an28 cd28 ct28), sl28⟩) (c28 : PySem.W.codeIn K cd28 "edit_answer" = true) (k28 : PySem.W.keepIn K (.ref f28) = true)
    (a29 : PySem.W.nsIn K mainGlobals "smooth_answer" = some (some (.ref f29))) (l29 : K.lookup f29 = some ⟨oc29, od29, .func (PySem.W.fnOf "smooth_answer" "smooth_answer" (defArgs (topS 54)) (defBody (topS 54)) (defScope (topS 54)) .none kV29 dc29 pm29 an29 cd29 ct29), sl29⟩) (c29 : PySem.W.codeIn K cd29 "smooth_answer" = true) (k29 : PySem.W.keepIn K (.ref f29) = true)
    (a30 : PySem.W.nsIn K mainGlobals "certificate_answer" = some (some (.ref f30))) (l30 : K.lookup f30 = some ⟨oc30, od30, .func (PySem.W.fnOf "certificate_answer" "certificate_answer" (defArgs (topS 55)) (defBody (topS 55)) (defScope (topS 55)) .none kV30 dc30 pm30 an30 cd30 ct30), sl30⟩) (c30 : PySem.W.codeIn K cd30 "certificate_answer" = true) (k30 : PySem.W.keepIn K (.ref f30) = true)
    (a31 : PySem.W.nsIn K mainGlobals "single_answer" = some (some (.ref f31))) (l31 : K.lookup f31 = some ⟨oc31, od31, .func (PySem.W.fnOf "single_answer" "single_answer" (defArgs (topS 56)) (defBody (topS 56)) (defScope (topS 56)) .none kV31 dc31 pm31 an31 cd31 ct31), sl31⟩) (c31 : PySem.W.codeIn K cd31 "single_answer" = true) (k31 : PySem.W.keepIn K (.ref f31) = true)
    (a32 : PySem.W.nsIn K mainGlobals "switch_answer" = some (some (.ref f32))) (l32 : K.lookup f32 = some ⟨oc32, od32, .func (PySem.W.fnOf "switch_answer" "switch_answer" (defArgs (topS 57)) (defBody (topS 57)) (defScope (topS 57)) .none kV32 dc32 pm32 an32 cd32 ct32), sl32⟩) (c32 : PySem.W.codeIn K cd32 "switch_answer" = true) (k32 : PySem.W.keepIn K (.ref f32) = true)
    (a33 : PySem.W.nsIn K mainGlobals "card_answer" = some (some (.ref f33))) (l33 : K.lookup f33 = some ⟨oc33, od33, .func (PySem.W.fnOf "card_answer" "card_answer" (defArgs (topS 58)) (defBody (topS 58)) (defScope (topS 58)) .none kV33 dc33 pm33 an33 cd33 ct33), sl33⟩) (c33 : PySem.W.codeIn K cd33 "card_answer" = true) (k33 : PySem.W.keepIn K (.ref f33) = true)
    (a34 : PySem.W.nsIn K mainGlobals "_law_deck" = some (some (.ref f34))) (l34 : K.lookup f34 = some ⟨oc34, od34, .func (PySem.W.fnOf "_law_deck" "_law_deck" (defArgs (topS 77)) (defBody (topS 77)) (defScope (topS 77)) .none kV34 dc34 pm34 an34 cd34 ct34), sl34⟩) (c34 : PySem.W.codeIn K cd34 "_law_deck" = true) (k34 : PySem.W.keepIn K (.ref f34) = true)
    (a35 : PySem.W.nsIn K mainGlobals "_law_draw" = some (some (.ref f35))) (l35 : K.lookup f35 = some ⟨oc35, od35, .func (PySem.W.fnOf "_law_draw" "_law_draw" (defArgs (topS 78)) (defBody (topS 78)) (defScope (topS 78)) .none kV35 dc35 pm35 an35 cd35 ct35), sl35⟩) (c35 : PySem.W.codeIn K cd35 "_law_draw" = true) (k35 : PySem.W.keepIn K (.ref f35) = true)
    (a36 : PySem.W.nsIn K mainGlobals "_law_text" = some (some (.ref f36))) (l36 : K.lookup f36 = some ⟨oc36, od36, .func (PySem.W.fnOf "_law_text" "_law_text" (defArgs (topS 79)) (defBody (topS 79)) (defScope (topS 79)) .none kV36 dc36 pm36 an36 cd36 ct36), sl36⟩) (c36 : PySem.W.codeIn K cd36 "_law_text" = true) (k36 : PySem.W.keepIn K (.ref f36) = true)
    (a37 : PySem.W.nsIn K mainGlobals "_law_odd" = some (some (.ref f37))) (l37 : K.lookup f37 = some ⟨oc37, od37, .func (PySem.W.fnOf "_law_odd" "_law_odd" (defArgs (topS 80)) (defBody (topS 80)) (defScope (topS 80)) .none kV37 dc37 pm37 an37 cd37 ct37), sl37⟩) (c37 : PySem.W.codeIn K cd37 "_law_odd" = true) (k37 : PySem.W.keepIn K (.ref f37) = true)
    (a38 : PySem.W.nsIn K mainGlobals "_law_lines" = some (some (.ref f38))) (l38 : K.lookup f38 = some ⟨oc38, od38, .func (PySem.W.fnOf "_law_lines" "_law_lines" (defArgs (topS 81)) (defBody (topS 81)) (defScope (topS 81)) .none kV38 dc38 pm38 an38 cd38 ct38), sl38⟩) (c38 : PySem.W.codeIn K cd38 "_law_lines" = true) (k38 : PySem.W.keepIn K (.ref f38) = true)
    (a39 : PySem.W.nsIn K mainGlobals "law" = some (some (.ref f39))) (l39 : K.lookup f39 = some ⟨oc39, od39, .func (PySem.W.fnOf "law" "law" (defArgs (topS 82)) (defBody (topS 82)) (defScope (topS 82)) .none kV39 dc39 pm39 an39 cd39 ct39), sl39⟩) (c39 : PySem.W.codeIn K cd39 "law" = true) (k39 : PySem.W.keepIn K (.ref f39) = true)
    (z0 : PySem.W.nsIn K mainGlobals "range" = some none)
    (z1 : PySem.W.nsIn K mainGlobals "tuple" = some none)
    (z2 : PySem.W.nsIn K mainGlobals "len" = some none)
    (z3 : PySem.W.nsIn K mainGlobals "repr" = some none)
    (z4 : PySem.W.nsIn K mainGlobals "abs" = some none)
    (z5 : PySem.W.nsIn K mainGlobals "list" = some none)
    (z6 : PySem.W.nsIn K mainGlobals "sorted" = some none)
    (z7 : PySem.W.nsIn K mainGlobals "set" = some none)
    (z8 : PySem.W.nsIn K mainGlobals "sum" = some none)
    (z9 : PySem.W.nsIn K mainGlobals "isinstance" = some none)
    (z10 : PySem.W.nsIn K mainGlobals "int" = some none)
    (z11 : PySem.W.nsIn K mainGlobals "bool" = some none)
    (z12 : PySem.W.nsIn K mainGlobals "enumerate" = some none)
    (z13 : PySem.W.nsIn K mainGlobals "max" = some none)
    (z14 : PySem.W.nsIn K mainGlobals "str" = some none)
    {tk0 : Tok} (y0 : PySem.W.nsIn K mainGlobals "MAX_SWITCHES" = some (some (.int 6 tk0)))
    {tk1 : Tok} (y1 : PySem.W.nsIn K mainGlobals "UNKNOWN" = some (some (.str "unknown command" tk1)))
    {C : Addr} {fM0 fM1 fM2 fM3 fM4 fM5 : Addr} {odM0 anM0 odM1 anM1 odM2 anM2 odM3 anM3 odM4 anM4 odM5 anM5 : Option Addr} {slM0 slM1 slM2 slM3 slM4 slM5 : Array (Option Value)} {ocM0 dcM0 pmM0 cdM0 ctM0 kVM0 ocM1 dcM1 pmM1 cdM1 ctM1 ocM2 dcM2 pmM2 cdM2 ctM2 kVM2 ocM3 dcM3 pmM3 cdM3 ctM3 ocM4 dcM4 pmM4 cdM4 ctM4 ocM5 dcM5 pmM5 cdM5 ctM5 : Value}
    (aC : PySem.W.nsIn K mainGlobals "Deck" = some (some (.ref C))) (pg : PySem.W.plainGet K C Str.empty = true) (hd : PySem.W.hasDictIn K C = true) (po : PySem.W.plainOver K C = true) (sa : PySem.W.findIn K (.ref C) "__setattr__" = some (some (.builtin "object.__setattr__"))) (mkC : PySem.W.makesIn K C = true) (kC : PySem.W.keepIn K (.ref C) = true) (nS : PySem.W.findIn K (.ref C) "states" = some none) (nD : PySem.W.findIn K (.ref C) "done" = some none)
    (aM0 : PySem.W.findIn K (.ref C) "__init__" = some (some (.ref fM0))) (lM0 : K.lookup fM0 = some ⟨ocM0, odM0, .func (PySem.W.fnOf "__init__" "Deck.__init__" (defArgs (mS 74 0)) (defBody (mS 74 0)) (defScope (mS 74 0)) .none kVM0 dcM0 pmM0 anM0 cdM0 ctM0), slM0⟩) (cM0 : PySem.W.codeIn K cdM0 "Deck.__init__" = true) (kM0 : PySem.W.keepIn K (.ref fM0) = true) (iM0 : PySem.W.isFn K (.ref fM0) = true)
    {D1 : Addr}
    (aM1 : PySem.W.findIn K (.ref C) "box" = some (some (.ref fM1))) (lM1 : K.lookup fM1 = some ⟨ocM1, odM1, .func (PySem.W.fnOf "box" "Deck.box" (defArgs (mS 74 11)) (defBody (mS 74 11)) (defScope (mS 74 11)) .none (.ref D1) dcM1 pmM1 anM1 cdM1 ctM1), slM1⟩) (cM1 : PySem.W.codeIn K cdM1 "Deck.box" = true) (kM1 : PySem.W.keepIn K (.ref fM1) = true) (iM1 : PySem.W.isFn K (.ref fM1) = true)
    (dM1 : PySem.W.nsIn K D1 "version" = some (some .none))
    (aM2 : PySem.W.findIn K (.ref C) "__len__" = some (some (.ref fM2))) (lM2 : K.lookup fM2 = some ⟨ocM2, odM2, .func (PySem.W.fnOf "__len__" "Deck.__len__" (defArgs (mS 74 17)) (defBody (mS 74 17)) (defScope (mS 74 17)) .none kVM2 dcM2 pmM2 anM2 cdM2 ctM2), slM2⟩) (cM2 : PySem.W.codeIn K cdM2 "Deck.__len__" = true) (kM2 : PySem.W.keepIn K (.ref fM2) = true) (iM2 : PySem.W.isFn K (.ref fM2) = true)
    {D3 : Addr}
    (aM3 : PySem.W.findIn K (.ref C) "shown" = some (some (.ref fM3))) (lM3 : K.lookup fM3 = some ⟨ocM3, odM3, .func (PySem.W.fnOf "shown" "Deck.shown" (defArgs (mS 74 12)) (defBody (mS 74 12)) (defScope (mS 74 12)) .none (.ref D3) dcM3 pmM3 anM3 cdM3 ctM3), slM3⟩) (cM3 : PySem.W.codeIn K cdM3 "Deck.shown" = true) (kM3 : PySem.W.keepIn K (.ref fM3) = true) (iM3 : PySem.W.isFn K (.ref fM3) = true)
    (dM3 : PySem.W.nsIn K D3 "version" = some (some .none))
    {D4 : Addr}
    (aM4 : PySem.W.findIn K (.ref C) "solid" = some (some (.ref fM4))) (lM4 : K.lookup fM4 = some ⟨ocM4, odM4, .func (PySem.W.fnOf "solid" "Deck.solid" (defArgs (mS 74 13)) (defBody (mS 74 13)) (defScope (mS 74 13)) .none (.ref D4) dcM4 pmM4 anM4 cdM4 ctM4), slM4⟩) (cM4 : PySem.W.codeIn K cdM4 "Deck.solid" = true) (kM4 : PySem.W.keepIn K (.ref fM4) = true) (iM4 : PySem.W.isFn K (.ref fM4) = true)
    (dM4 : PySem.W.nsIn K D4 "version" = some (some .none))
    {D5 : Addr}
    (aM5 : PySem.W.findIn K (.ref C) "counts" = some (some (.ref fM5))) (lM5 : K.lookup fM5 = some ⟨ocM5, odM5, .func (PySem.W.fnOf "counts" "Deck.counts" (defArgs (mS 74 14)) (defBody (mS 74 14)) (defScope (mS 74 14)) .none (.ref D5) dcM5 pmM5 anM5 cdM5 ctM5), slM5⟩) (cM5 : PySem.W.codeIn K cdM5 "Deck.counts" = true) (kM5 : PySem.W.keepIn K (.ref fM5) = true) (iM5 : PySem.W.isFn K (.ref fM5) = true)
    (dM5 : PySem.W.nsIn K D5 "version" = some (some .none))
    {CH fH0 fH1 : Addr} {odH0 anH0 odH1 anH1 : Option Addr} {slH0 slH1 : Array (Option Value)} {ocH0 kVH0 dcH0 pmH0 cdH0 ctH0 ocH1 kVH1 dcH1 pmH1 cdH1 ctH1 : Value}
    (hCH : PySem.W.nsIn K mainGlobals "Shell" = some (some (.ref CH)))
    (hpg : PySem.W.plainGet K CH Str.empty = true)
    (hhd : PySem.W.hasDictIn K CH = true)
    (hpo : PySem.W.plainOver K CH = true)
    (hsa : PySem.W.findIn K (.ref CH) "__setattr__" = some (some (.builtin "object.__setattr__")))
    (hmk : PySem.W.makesIn K CH = true)
    (hkC : PySem.W.keepIn K (.ref CH) = true)
    (hnd : PySem.W.findIn K (.ref CH) "deck" = some none)
    (haH0 : PySem.W.findIn K (.ref CH) "__init__" = some (some (.ref fH0)))
    (hlH0 : K.lookup fH0 = some ⟨ocH0, odH0, .func (PySem.W.fnOf "__init__" "Shell.__init__" (defArgs (mS 59 0)) (defBody (mS 59 0)) (defScope (mS 59 0)) .none kVH0 dcH0 pmH0 anH0 cdH0 ctH0), slH0⟩)
    (hcH0 : PySem.W.codeIn K cdH0 "Shell.__init__" = true)
    (hkH0 : PySem.W.keepIn K (.ref fH0) = true)
    (hiH0 : PySem.W.isFn K (.ref fH0) = true)
    (haH1 : PySem.W.findIn K (.ref CH) "execute" = some (some (.ref fH1)))
    (hlH1 : K.lookup fH1 = some ⟨ocH1, odH1, .func (PySem.W.fnOf "execute" "Shell.execute" (defArgs (mS 59 1)) (defBody (mS 59 1)) (defScope (mS 59 1)) .none kVH1 dcH1 pmH1 anH1 cdH1 ctH1), slH1⟩)
    (hcH1 : PySem.W.codeIn K cdH1 "Shell.execute" = true)
    (hkH1 : PySem.W.keepIn K (.ref fH1) = true)
    (hiH1 : PySem.W.isFn K (.ref fH1) = true)
    : ∃ fd : FuncData, (∀ (s : Shared) (v : Value), BindsTo s fd ⟨[v], []⟩ [("_law_script", v)]) ∧ ∀ base : Heap, K.In base → base.Ns mainGlobals mg → FnG P w K mg base 11 fa fd ["_law_script"] (spLaw K) := by
  have e := hfa.symm.trans (PySem.W.mg_of X G a39)
  cases e
  have F0 := fun_mk (st := topS 5) l0 c0 k0
  have m0 := PySem.W.mg_of X G a0
  have b0 := F0.binds (ps := ["value"]) fun _ _ _ _ _ _ us hl => match us, hl with | [_], _ => rfl
  have F1 := fun_mk (st := topS 6) l1 c1 k1
  have m1 := PySem.W.mg_of X G a1
  have b1 := F1.binds (ps := ["value", "bound"]) fun _ _ _ _ _ _ us hl => match us, hl with | [_, _], _ => rfl
  have F2 := fun_mk (st := topS 7) l2 c2 k2
  have m2 := PySem.W.mg_of X G a2
  have b2 := F2.binds (ps := ["numbers", "value"]) fun _ _ _ _ _ _ us hl => match us, hl with | [_, _], _ => rfl
  have F3 := fun_mk (st := topS 8) l3 c3 k3
  have m3 := PySem.W.mg_of X G a3
  have b3 := F3.binds (ps := ["value"]) fun _ _ _ _ _ _ us hl => match us, hl with | [_], _ => rfl
  have F4 := fun_mk (st := topS 9) l4 c4 k4
  have m4 := PySem.W.mg_of X G a4
  have b4 := F4.binds (ps := ["n", "value"]) fun _ _ _ _ _ _ us hl => match us, hl with | [_, _], _ => rfl
  have F5 := fun_mk (st := topS 10) l5 c5 k5
  have m5 := PySem.W.mg_of X G a5
  have b5 := F5.binds (ps := ["value"]) fun _ _ _ _ _ _ us hl => match us, hl with | [_], _ => rfl
  have F6 := fun_mk (st := topS 11) l6 c6 k6
  have m6 := PySem.W.mg_of X G a6
  have b6 := F6.binds (ps := ["n", "cards"]) fun _ _ _ _ _ _ us hl => match us, hl with | [_, _], _ => rfl
  have F7 := fun_mk (st := topS 12) l7 c7 k7
  have m7 := PySem.W.mg_of X G a7
  have b7 := F7.binds (ps := ["switches", "switch"]) fun _ _ _ _ _ _ us hl => match us, hl with | [_, _], _ => rfl
  have F8 := fun_mk (st := topS 13) l8 c8 k8
  have m8 := PySem.W.mg_of X G a8
  have b8 := F8.binds (ps := ["switches"]) fun _ _ _ _ _ _ us hl => match us, hl with | [_], _ => rfl
  have F9 := fun_mk (st := topS 14) l9 c9 k9
  have m9 := PySem.W.mg_of X G a9
  have b9 := F9.binds (ps := ["n", "switches"]) fun _ _ _ _ _ _ us hl => match us, hl with | [_, _], _ => rfl
  have F10 := fun_mk (st := topS 16) l10 c10 k10
  have m10 := PySem.W.mg_of X G a10
  have b10 := F10.binds (ps := ["cube"]) fun _ _ _ _ _ _ us hl => match us, hl with | [_], _ => rfl
  have F11 := fun_mk (st := topS 17) l11 c11 k11
  have m11 := PySem.W.mg_of X G a11
  have b11 := F11.binds (ps := ["cards", "cube"]) fun _ _ _ _ _ _ us hl => match us, hl with | [_, _], _ => rfl
  have F12 := fun_mk (st := topS 18) l12 c12 k12
  have m12 := PySem.W.mg_of X G a12
  have b12 := F12.binds (ps := ["box", "switches"]) fun _ _ _ _ _ _ us hl => match us, hl with | [_, _], _ => rfl
  have F13 := fun_mk (st := topS 19) l13 c13 k13
  have m13 := PySem.W.mg_of X G a13
  have b13 := F13.binds (ps := ["box", "switches"]) fun _ _ _ _ _ _ us hl => match us, hl with | [_, _], _ => rfl
  have F14 := fun_mk (st := topS 20) l14 c14 k14
  have m14 := PySem.W.mg_of X G a14
  have b14 := F14.binds (ps := ["box"]) fun _ _ _ _ _ _ us hl => match us, hl with | [_], _ => rfl
  have F15 := fun_mk (st := topS 21) l15 c15 k15
  have m15 := PySem.W.mg_of X G a15
  have b15 := F15.binds (ps := ["box", "switches"]) fun _ _ _ _ _ _ us hl => match us, hl with | [_, _], _ => rfl
  have F16 := fun_mk (st := topS 37) l16 c16 k16
  have m16 := PySem.W.mg_of X G a16
  have b16 := F16.binds (ps := ["box", "switches"]) fun _ _ _ _ _ _ us hl => match us, hl with | [_, _], _ => rfl
  have F17 := fun_mk (st := topS 38) l17 c17 k17
  have m17 := PySem.W.mg_of X G a17
  have b17 := F17.binds (ps := ["box", "switches"]) fun _ _ _ _ _ _ us hl => match us, hl with | [_, _], _ => rfl
  have F18 := fun_mk (st := topS 39) l18 c18 k18
  have m18 := PySem.W.mg_of X G a18
  have b18 := F18.binds (ps := ["box"]) fun _ _ _ _ _ _ us hl => match us, hl with | [_], _ => rfl
  have F19 := fun_mk (st := topS 40) l19 c19 k19
  have m19 := PySem.W.mg_of X G a19
  have b19 := F19.binds (ps := ["box", "switches", "pattern"]) fun _ _ _ _ _ _ us hl => match us, hl with | [_, _, _], _ => rfl
  have F20 := fun_mk (st := topS 41) l20 c20 k20
  have m20 := PySem.W.mg_of X G a20
  have b20 := F20.binds (ps := ["box", "switches"]) fun _ _ _ _ _ _ us hl => match us, hl with | [_, _], _ => rfl
  have F21 := fun_mk (st := topS 43) l21 c21 k21
  have m21 := PySem.W.mg_of X G a21
  have b21 := F21.binds (ps := ["box"]) fun _ _ _ _ _ _ us hl => match us, hl with | [_], _ => rfl
  have F22 := fun_mk (st := topS 44) l22 c22 k22
  have m22 := PySem.W.mg_of X G a22
  have b22 := F22.binds (ps := ["box"]) fun _ _ _ _ _ _ us hl => match us, hl with | [_], _ => rfl
  have F23 := fun_mk (st := topS 46) l23 c23 k23
  have m23 := PySem.W.mg_of X G a23
  have b23 := F23.binds (ps := ["n", "card"]) fun _ _ _ _ _ _ us hl => match us, hl with | [_, _], _ => rfl
  have F24 := fun_mk (st := topS 47) l24 c24 k24
  have m24 := PySem.W.mg_of X G a24
  have b24 := F24.binds (ps := ["n", "cards"]) fun _ _ _ _ _ _ us hl => match us, hl with | [_, _], _ => rfl
  have F25 := fun_mk (st := topS 48) l25 c25 k25
  have m25 := PySem.W.mg_of X G a25
  have b25 := F25.binds (ps := ["box"]) fun _ _ _ _ _ _ us hl => match us, hl with | [_], _ => rfl
  have F26 := fun_mk (st := topS 49) l26 c26 k26
  have m26 := PySem.W.mg_of X G a26
  have b26 := F26.binds (ps := ["word", "words"]) fun _ _ _ _ _ _ us hl => match us, hl with | [_, _], _ => rfl
  have F27 := fun_mk (st := topS 50) l27 c27 k27
  have m27 := PySem.W.mg_of X G a27
  have b27 := F27.binds (ps := ["n", "word"]) fun _ _ _ _ _ _ us hl => match us, hl with | [_, _], _ => rfl
  have F28 := fun_mk (st := topS 53) l28 c28 k28
  have m28 := PySem.W.mg_of X G a28
  have b28 := F28.binds (ps := ["deck", "word", "value"]) fun _ _ _ _ _ _ us hl => match us, hl with | [_, _, _], _ => rfl
  have F29 := fun_mk (st := topS 54) l29 c29 k29
  have m29 := PySem.W.mg_of X G a29
  have b29 := F29.binds (ps := ["box"]) fun _ _ _ _ _ _ us hl => match us, hl with | [_], _ => rfl
  have F30 := fun_mk (st := topS 55) l30 c30 k30
  have m30 := PySem.W.mg_of X G a30
  have b30 := F30.binds (ps := ["n", "certificate"]) fun _ _ _ _ _ _ us hl => match us, hl with | [_, _], _ => rfl
  have F31 := fun_mk (st := topS 56) l31 c31 k31
  have m31 := PySem.W.mg_of X G a31
  have b31 := F31.binds (ps := ["deck", "word"]) fun _ _ _ _ _ _ us hl => match us, hl with | [_, _], _ => rfl
  have F32 := fun_mk (st := topS 57) l32 c32 k32
  have m32 := PySem.W.mg_of X G a32
  have b32 := F32.binds (ps := ["deck", "word", "text"]) fun _ _ _ _ _ _ us hl => match us, hl with | [_, _, _], _ => rfl
  have F33 := fun_mk (st := topS 58) l33 c33 k33
  have m33 := PySem.W.mg_of X G a33
  have b33 := F33.binds (ps := ["deck", "word", "text"]) fun _ _ _ _ _ _ us hl => match us, hl with | [_, _, _], _ => rfl
  have F34 := fun_mk (st := topS 77) l34 c34 k34
  have m34 := PySem.W.mg_of X G a34
  have b34 := F34.binds (ps := ["_law_script"]) fun _ _ _ _ _ _ us hl => match us, hl with | [_], _ => rfl
  have F35 := fun_mk (st := topS 78) l35 c35 k35
  have m35 := PySem.W.mg_of X G a35
  have b35 := F35.binds (ps := ["_law_deck_here", "_law_many"]) fun _ _ _ _ _ _ us hl => match us, hl with | [_, _], _ => rfl
  have F36 := fun_mk (st := topS 79) l36 c36 k36
  have m36 := PySem.W.mg_of X G a36
  have b36 := F36.binds (ps := ["_law_n", "_law_card"]) fun _ _ _ _ _ _ us hl => match us, hl with | [_, _], _ => rfl
  have F37 := fun_mk (st := topS 80) l37 c37 k37
  have m37 := PySem.W.mg_of X G a37
  have b37 := F37.binds (ps := ["_law_deck_here"]) fun _ _ _ _ _ _ us hl => match us, hl with | [_], _ => rfl
  have F38 := fun_mk (st := topS 81) l38 c38 k38
  have m38 := PySem.W.mg_of X G a38
  have b38 := F38.binds (ps := ["_law_n", "_law_text_here"]) fun _ _ _ _ _ _ us hl => match us, hl with | [_, _], _ => rfl
  have F39 := fun_mk (st := topS 82) l39 c39 k39
  have m39 := PySem.W.mg_of X G a39
  have n_range := PySem.W.mg_none_of X G z0
  have n_tuple := PySem.W.mg_none_of X G z1
  have n_len := PySem.W.mg_none_of X G z2
  have n_repr := PySem.W.mg_none_of X G z3
  have n_abs := PySem.W.mg_none_of X G z4
  have n_list := PySem.W.mg_none_of X G z5
  have n_sorted := PySem.W.mg_none_of X G z6
  have n_set := PySem.W.mg_none_of X G z7
  have n_sum := PySem.W.mg_none_of X G z8
  have n_isinstance := PySem.W.mg_none_of X G z9
  have n_int := PySem.W.mg_none_of X G z10
  have n_bool := PySem.W.mg_none_of X G z11
  have n_enumerate := PySem.W.mg_none_of X G z12
  have n_max := PySem.W.mg_none_of X G z13
  have n_str := PySem.W.mg_none_of X G z14
  have v_MAX_SWITCHES := PySem.W.mg_of X G y0
  have v_UNKNOWN := PySem.W.mg_of X G y1
  have mC := PySem.W.mg_of X G aC
  have pc : PiC K C := ⟨⟨pg, hd, po, sa⟩, nS, nD⟩
  have FM0 := fun_mk (st := (mS 74 0)) lM0 cM0 kM0
  have bM0 := FM0.binds (ps := ["self", "box"]) fun _ _ _ _ _ _ us hl => match us, hl with | [_, _], _ => rfl
  have FM1 := fun_mk (st := (mS 74 11)) lM1 cM1 kM1
  have FD1 : FunD K "box" "Deck.box" (defArgs (mS 74 11)) (defBody (mS 74 11)) (defScope (mS 74 11)) [] [("version", .non)] fM1 _ := ⟨⟨ocM1, odM1, .none, .ref D1, dcM1, pmM1, anM1, cdM1, ctM1, slM1, rfl, lM1, cM1, .inl ⟨rfl, rfl⟩, .inr ⟨D1, rfl, fun q hq => by rw [List.mem_singleton] at hq; subst hq; exact ⟨_, dM1, rfl⟩⟩⟩, kM1⟩
  obtain ⟨ds1, vd1, bM1⟩ := FD1.binds0 (ps := ["self", "version"]) 1 (List.cons_ne_nil _ _) rfl fun D doc pm an cdv ct us ks h1 h2 => match us, ks, h1, h2 with | [_], [_], _, _ => ⟨_, _, _, _, _, _, rfl, rfl, rfl⟩
  have FM2 := fun_mk (st := (mS 74 17)) lM2 cM2 kM2
  have bM2 := FM2.binds (ps := ["self"]) fun _ _ _ _ _ _ us hl => match us, hl with | [_], _ => rfl
  have FM3 := fun_mk (st := (mS 74 12)) lM3 cM3 kM3
  have FD3 : FunD K "shown" "Deck.shown" (defArgs (mS 74 12)) (defBody (mS 74 12)) (defScope (mS 74 12)) [] [("version", .non)] fM3 _ := ⟨⟨ocM3, odM3, .none, .ref D3, dcM3, pmM3, anM3, cdM3, ctM3, slM3, rfl, lM3, cM3, .inl ⟨rfl, rfl⟩, .inr ⟨D3, rfl, fun q hq => by rw [List.mem_singleton] at hq; subst hq; exact ⟨_, dM3, rfl⟩⟩⟩, kM3⟩
  obtain ⟨ds3, vd3, bM3⟩ := FD3.binds0 (ps := ["self", "version"]) 1 (List.cons_ne_nil _ _) rfl fun D doc pm an cdv ct us ks h1 h2 => match us, ks, h1, h2 with | [_], [_], _, _ => ⟨_, _, _, _, _, _, rfl, rfl, rfl⟩
  have FM4 := fun_mk (st := (mS 74 13)) lM4 cM4 kM4
  have FD4 : FunD K "solid" "Deck.solid" (defArgs (mS 74 13)) (defBody (mS 74 13)) (defScope (mS 74 13)) [] [("version", .non)] fM4 _ := ⟨⟨ocM4, odM4, .none, .ref D4, dcM4, pmM4, anM4, cdM4, ctM4, slM4, rfl, lM4, cM4, .inl ⟨rfl, rfl⟩, .inr ⟨D4, rfl, fun q hq => by rw [List.mem_singleton] at hq; subst hq; exact ⟨_, dM4, rfl⟩⟩⟩, kM4⟩
  obtain ⟨ds4, vd4, bM4⟩ := FD4.binds0 (ps := ["self", "version"]) 1 (List.cons_ne_nil _ _) rfl fun D doc pm an cdv ct us ks h1 h2 => match us, ks, h1, h2 with | [_], [_], _, _ => ⟨_, _, _, _, _, _, rfl, rfl, rfl⟩
  have FM5 := fun_mk (st := (mS 74 14)) lM5 cM5 kM5
  have FD5 : FunD K "counts" "Deck.counts" (defArgs (mS 74 14)) (defBody (mS 74 14)) (defScope (mS 74 14)) [] [("version", .non)] fM5 _ := ⟨⟨ocM5, odM5, .none, .ref D5, dcM5, pmM5, anM5, cdM5, ctM5, slM5, rfl, lM5, cM5, .inl ⟨rfl, rfl⟩, .inr ⟨D5, rfl, fun q hq => by rw [List.mem_singleton] at hq; subst hq; exact ⟨_, dM5, rfl⟩⟩⟩, kM5⟩
  obtain ⟨ds5, vd5, bM5⟩ := FD5.binds0 (ps := ["self", "version"]) 1 (List.cons_ne_nil _ _) rfl fun D doc pm an cdv ct us ks h1 h2 => match us, ks, h1, h2 with | [_], [_], _, _ => ⟨_, _, _, _, _, _, rfl, rfl, rfl⟩
  refine ⟨PySem.W.fnOf "law" "law" (defArgs (topS 82)) (defBody (topS 82)) (defScope (topS 82)) .none kV39 dc39 pm39 an39 cd39 ct39, fun s v => .of_eq rfl, fun base _ _ => ?_⟩
  have g_subsets_of : PFn P w K mg base 1 "subsets_of" Rparts := ⟨_, _, _, ok_sub F8 n_range, m8, k8, b8⟩
  have g_cube_cards : PFn P w K mg base 2 "cube_cards" Rcube := ⟨_, _, _, ok_cube F10 n_tuple g_subsets_of, m10, k10, b10⟩
  have g_sets_outside : PFn P w K mg base 1 "sets_outside" Rout := ⟨_, _, _, ok_out F9 n_range, m9, k9, b9⟩
  have g_first_missing : PFn P w K mg base 3 "first_missing" Rmiss := ⟨_, _, _, ok_miss F11 g_cube_cards, m11, k11, b11⟩
  have g_bases_of : PFn P w K mg base 4 "bases_of" Rbases := ⟨_, _, _, ok_bases F12 n_tuple g_sets_outside g_first_missing, m12, k12, b12⟩
  have g_is_solid : PFn P w K mg base 5 "is_solid" Rsolid := ⟨_, _, _, ok_solid F13 n_len g_bases_of, m13, k13, b13⟩
  have g_solid_sets : PFn P w K mg base 6 "solid_sets" Rsets := ⟨_, _, _, ok_sets F14 n_tuple n_range g_is_solid, m14, k14, b14⟩
  have g_patterns_of : PFn P w K mg base 1 "patterns_of" Rpat := ⟨_, _, _, ok_pat F16 n_tuple n_sorted, m16, k16, b16⟩
  have g_is_shown : PFn P w K mg base 2 "is_shown" Rshown := ⟨_, _, _, ok_shown F17 n_tuple g_patterns_of g_subsets_of, m17, k17, b17⟩
  have g_shown_sets : PFn P w K mg base 3 "shown_sets" Rshs := ⟨_, _, _, ok_shs F18 n_tuple n_range g_is_shown, m18, k18, b18⟩
  have g_rough_set : PFn P w K mg base 6 "rough_set" Rrough := ⟨_, _, _, ok_rough F21 g_shown_sets g_is_solid, m21, k21, b21⟩
  have g_set_counts : PFn P w K mg base 7 "set_counts" Rcn3 := ⟨_, _, _, ok_cn3 F22 n_len g_solid_sets g_shown_sets, m22, k22, b22⟩
  have g_cards_with : PFn P w K mg base 1 "cards_with" Rcw := ⟨_, _, _, ok_cw F19 , m19, k19, b19⟩
  have g_shown_certificate : PFn P w K mg base 2 "shown_certificate" Rshc := ⟨_, _, _, ok_shc F20 n_len n_tuple g_subsets_of g_cards_with, m20, k20, b20⟩
  have g_solid_certificate : PFn P w K mg base 5 "solid_certificate" Rcert := ⟨_, _, _, ok_cert F15 n_len n_tuple g_bases_of g_sets_outside g_first_missing, m15, k15, b15⟩
  have g__law_draw83 : DFnQ P w K mg base 1 "_law_draw" 1 PreNext RNext := ⟨_, _, _, ok_draw83 F35 n_len, m35, k35, b35⟩
  have g_is_numberA : PFn P w K mg base 1 "is_number" RnumA := ⟨_, _, _, ok_numA F0 n_isinstance n_int n_bool, m0, k0, b0⟩
  have g_is_belowA : PFn P w K mg base 2 "is_below" RbelA := ⟨_, _, _, ok_belA F1 g_is_numberA, m1, k1, b1⟩
  have g_is_pairA : PFn P w K mg base 1 "is_pair" RprA := ⟨_, _, _, ok_prA F3 n_isinstance n_tuple n_len, m3, k3, b3⟩
  have g_is_cardA : PFn P w K mg base 3 "is_card" RicA := ⟨_, _, _, ok_icA F4 g_is_belowA, m4, k4, b4⟩
  have g_cards_errorA : PFn P w K mg base 4 "cards_error" RcerA := ⟨_, _, _, ok_cerA F6 n_enumerate g_is_cardA, m6, k6, b6⟩
  have g_box_errorA : PFn P w K mg base 5 "box_error" RberA := ⟨_, _, _, ok_berA F5 n_isinstance n_tuple v_MAX_SWITCHES g_is_pairA g_is_belowA g_cards_errorA, m5, k5, b5⟩
  have g_is_one_ofA : PFn P w K mg base 2 "is_one_of" RoofA := ⟨_, _, _, ok_oofA F2 g_is_numberA, m2, k2, b2⟩
  have g_has_switch : PFn P w K mg base 1 "has_switch" Rhsw := ⟨_, _, _, ok_hsw F7 , m7, k7, b7⟩
  have g_card_text : PFn P w K mg base 2 "card_text" RctP := ⟨_, _, _, ok_ct F23 n_range g_has_switch, m23, k23, b23⟩
  have g_place_of : PFn P w K mg base 1 "place_of" Rpof := ⟨_, _, _, ok_pof F26 , m26, k26, b26⟩
  have g_read_card : PFn P w K mg base 3 "read_card" Rrcd := ⟨_, _, _, ok_rcd F27 n_range g_card_text g_place_of, m27, k27, b27⟩
  have g_cards_textG : PFn P w K mg base 3 "cards_text" RcstG := ⟨_, _, _, ok_csg F24 n_len g_card_text, m24, k24, b24⟩
  have g_smooth_answer : PFn P w K mg base 7 "smooth_answer" RsmA := ⟨_, _, _, ok_sma F29 g_rough_set g_card_text, m29, k29, b29⟩
  have g_certificate_answer : PFn P w K mg base 4 "certificate_answer" Rcrt := ⟨_, _, _, ok_crt F30 n_isinstance n_tuple g_cards_textG, m30, k30, b30⟩
  have g_box_textG : PFn P w K mg base 4 "box_text" RbtP := ⟨_, _, _, ok_btG F25 g_cards_textG, m25, k25, b25⟩
  have g__law_text56 : PFn P w K mg base 1 "_law_text" RctP := ⟨_, _, _, ok_lt56 F36 n_range n_int, m36, k36, b36⟩
  have g__law_odd57 : DFnQ P w K mg base 2 "_law_odd" 1 PreOT RoddT := ⟨_, _, _, ok_oddT F37 g__law_draw83, m37, k37, b37⟩
  have g__law_lines61 : PFn P w K mg base 1 "_law_lines" RlinesP := ⟨_, _, _, ok_lines F38 n_int, m38, k38, b38⟩
  have bK1 : KBn K (PySem.W.fnOf "box" "Deck.box" (defArgs (mS 74 11)) (defBody (mS 74 11)) (defScope (mS 74 11)) .none (.ref D1) dcM1 pmM1 anM1 cdM1 ctM1) ["self", "version"] 1 ["version"] (fun a b => a ++ b) (fun a b => a ++ b) := ⟨fun s us ws _ l1 l2 => match us, ws, l1, l2 with | [_], [_], _, _ => .of_eq rfl, fun r1 r2 => r1.append r2⟩
  have q_box : PiM P w K mg base C 1 "box" [.non] PmBox RmBox := ⟨pc.cl, _, _, _, _, ok_mbox pc FM1, ⟨aM1, iM1, kM1⟩, bM1, vd1⟩
  have kq_boxV : PiK P w K mg base C 3 "box" "version" PmVer (RmQ boxF) := ⟨pc.cl, _, _, _, ok_mboxV pc FM1 n_len g_is_belowA, ⟨aM1, iM1, kM1⟩, bK1⟩
  have q___len__ : PiM P w K mg base C 1 "__len__" [] Pm0 RmLen := ⟨pc.cl, _, _, _, _, ok_mlen pc FM2 n_len, ⟨aM2, iM2, kM2⟩, bM2, .nil⟩
  have bK3 : KBn K (PySem.W.fnOf "shown" "Deck.shown" (defArgs (mS 74 12)) (defBody (mS 74 12)) (defScope (mS 74 12)) .none (.ref D3) dcM3 pmM3 anM3 cdM3 ctM3) ["self", "version"] 1 ["version"] (fun a b => a ++ b) (fun a b => a ++ b) := ⟨fun s us ws _ l1 l2 => match us, ws, l1, l2 with | [_], [_], _, _ => .of_eq rfl, fun r1 r2 => r1.append r2⟩
  have q_shown : PiM P w K mg base C 4 "shown" [.non] PmVer (RmQ shownF) := ⟨pc.cl, _, _, _, _, ok_mshown FM3 kq_boxV g_shown_sets, ⟨aM3, iM3, kM3⟩, bM3, vd3⟩
  have kq_shown : PiK P w K mg base C 4 "shown" "version" PmVer (RmQ shownF) := ⟨pc.cl, _, _, _, ok_mshown FM3 kq_boxV g_shown_sets, ⟨aM3, iM3, kM3⟩, bK3⟩
  have bK4 : KBn K (PySem.W.fnOf "solid" "Deck.solid" (defArgs (mS 74 13)) (defBody (mS 74 13)) (defScope (mS 74 13)) .none (.ref D4) dcM4 pmM4 anM4 cdM4 ctM4) ["self", "version"] 1 ["version"] (fun a b => a ++ b) (fun a b => a ++ b) := ⟨fun s us ws _ l1 l2 => match us, ws, l1, l2 with | [_], [_], _, _ => .of_eq rfl, fun r1 r2 => r1.append r2⟩
  have q_solid : PiM P w K mg base C 7 "solid" [.non] PmVer (RmQ solidF) := ⟨pc.cl, _, _, _, _, ok_msolid FM4 kq_boxV g_solid_sets, ⟨aM4, iM4, kM4⟩, bM4, vd4⟩
  have kq_solid : PiK P w K mg base C 7 "solid" "version" PmVer (RmQ solidF) := ⟨pc.cl, _, _, _, ok_msolid FM4 kq_boxV g_solid_sets, ⟨aM4, iM4, kM4⟩, bK4⟩
  have bK5 : KBn K (PySem.W.fnOf "counts" "Deck.counts" (defArgs (mS 74 14)) (defBody (mS 74 14)) (defScope (mS 74 14)) .none (.ref D5) dcM5 pmM5 anM5 cdM5 ctM5) ["self", "version"] 1 ["version"] (fun a b => a ++ b) (fun a b => a ++ b) := ⟨fun s us ws _ l1 l2 => match us, ws, l1, l2 with | [_], [_], _, _ => .of_eq rfl, fun r1 r2 => r1.append r2⟩
  have q_counts : PiM P w K mg base C 8 "counts" [.non] PmVer (RmQ cnt3D) := ⟨pc.cl, _, _, _, _, ok_mcounts FM5 kq_boxV g_set_counts, ⟨aM5, iM5, kM5⟩, bM5, vd5⟩
  have kq_counts : PiK P w K mg base C 8 "counts" "version" PmVer (RmQ cnt3D) := ⟨pc.cl, _, _, _, ok_mcounts FM5 kq_boxV g_set_counts, ⟨aM5, iM5, kM5⟩, bK5⟩
  have mSh := PySem.W.mg_of X G hCH
  have scC : ShC K CH := ⟨⟨hpg, hhd, hpo, hsa⟩, hnd⟩
  have FH0 := fun_mk (st := (mS 59 0)) hlH0 hcH0 hkH0
  have bH0 := FH0.binds (ps := ["self", "deck"]) fun _ _ _ _ _ _ us hl => match us, hl with | [_, _], _ => rfl
  have FH1 := fun_mk (st := (mS 59 1)) hlH1 hcH1 hkH1
  have bH1 := FH1.binds (ps := ["self", "line"]) fun _ _ _ _ _ _ us hl => match us, hl with | [_, _], _ => rfl
  have g_ea : PiF P w K mg base C 7 "edit_answer" (PmEA PeN) (RmEA eaK) := ⟨⟨_, _, _, ok_eaN F28, m28, k28, b28⟩⟩
  have g_sa : PiF P w K mg base C 9 "single_answer" (PmSA PeN) (RmSA eaK) := ⟨⟨_, _, _, ok_sa F31 n_str v_UNKNOWN q_box q_shown q_solid q_counts g_ea g_box_textG g_cards_textG g_smooth_answer, m31, k31, b31⟩⟩
  have g_sw : PiF P w K mg base C 8 "switch_answer" (PmSW PeN) (RmSW eaK) := ⟨⟨_, _, _, ok_swa F32 n_str n_range v_UNKNOWN g_place_of g_ea, m32, k32, b32⟩⟩
  have g_ca : PiF P w K mg base C 9 "card_answer" (PmCA PeN) (RmCA eaK) := ⟨⟨_, _, _, ok_ca F33 v_UNKNOWN q_box g_read_card g_certificate_answer g_shown_certificate g_solid_certificate g_ea, m33, k33, b33⟩⟩
  have qx : ShM P w K mg base C CH 10 "execute" (PmEx PeN) (RmEx eaK) := ⟨scC.cl, _, _, _, ok_ex scC FH1 n_isinstance n_str n_len v_UNKNOWN g_sa g_sw g_ca, ⟨haH1, hiH1, hkH1⟩, bH1⟩
  exact ok_law F39 n_len ⟨_, _, ok_deck F34 n_abs, m34, k34, b34⟩ g__law_draw83 g__law_text56 g__law_odd57 g__law_lines61 q_box q___len__ qx ⟨mkC, aM0, iM0, kC⟩ (ok_minit pc FM0 g_box_errorA) mC bM0 ⟨hmk, haH0, hiH0, hkC⟩ (ok_shi scC FH0) mSh bH0
end K61
open PySem PySem.W PyProof.Rows
set_option maxHeartbeats 0 in
theorem PySem.Challenge.cw_cardboxes_k61_unknown_commands_holds : PySem.Challenge.rw_cardboxes_k61_unknown_commands.Holds := by
  w_on; o_law; k_head; (case hw => w_witness2)
  k_fill
  refine Dl.walk_end (l := PySem.Challenge.rw_cardboxes_k61_unknown_commands) (n := 63) (k := 11) (x := "_law_script") (sp := Dl.spLaw) rfl (by decide) rfl ⟨rfl, by decide, by decide⟩ (fun w h Y => PySem.W.kIn_of Y) ?F (fun _ _ a ns hl _ hS => ⟨a, ns, rfl, hS, hl, fun _ => rfl⟩)
  case F =>
    intro w mg fa h KX G hmg
    refine' K61.all_mk KX G hmg ?a0 ?l0 ?c0 ?k0 ?a1 ?l1 ?c1 ?k1 ?a2 ?l2 ?c2 ?k2 ?a3 ?l3 ?c3 ?k3 ?a4 ?l4 ?c4 ?k4 ?a5 ?l5 ?c5 ?k5 ?a6 ?l6 ?c6 ?k6 ?a7 ?l7 ?c7 ?k7 ?a8 ?l8 ?c8 ?k8 ?a9 ?l9 ?c9 ?k9 ?a10 ?l10 ?c10 ?k10 ?a11 ?l11 ?c11 ?k11 ?a12 ?l12 ?c12 ?k12 ?a13 ?l13 ?c13 ?k13 ?a14 ?l14 ?c14 ?k14 ?a15 ?l15 ?c15 ?k15 ?a16 ?l16 ?c16 ?k16 ?a17 ?l17 ?c17 ?k17 ?a18 ?l18 ?c18 ?k18 ?a19 ?l19 ?c19 ?k19 ?a20 ?l20 ?c20 ?k20 ?a21 ?l21 ?c21 ?k21 ?a22 ?l22 ?c22 ?k22 ?a23 ?l23 ?c23 ?k23 ?a24 ?l24 ?c24 ?k24 ?a25 ?l25 ?c25 ?k25 ?a26 ?l26 ?c26 ?k26 ?a27 ?l27 ?c27 ?k27 ?a28 ?l28 ?c28 ?k28 ?a29 ?l29 ?c29 ?k29 ?a30 ?l30 ?c30 ?k30 ?a31 ?l31 ?c31 ?k31 ?a32 ?l32 ?c32 ?k32 ?a33 ?l33 ?c33 ?k33 ?a34 ?l34 ?c34 ?k34 ?a35 ?l35 ?c35 ?k35 ?a36 ?l36 ?c36 ?k36 ?a37 ?l37 ?c37 ?k37 ?a38 ?l38 ?c38 ?k38 ?a39 ?l39 ?c39 ?k39 ?z0 ?z1 ?z2 ?z3 ?z4 ?z5 ?z6 ?z7 ?z8 ?z9 ?z10 ?z11 ?z12 ?z13 ?z14 ?y0 ?y1 ?aC ?pg ?hd ?po ?sa ?mkC ?kC ?nS ?nD ?aM0 ?lM0 ?cM0 ?kM0 ?iM0 ?aM1 ?lM1 ?cM1 ?kM1 ?iM1 ?dM1 ?aM2 ?lM2 ?cM2 ?kM2 ?iM2 ?aM3 ?lM3 ?cM3 ?kM3 ?iM3 ?dM3 ?aM4 ?lM4 ?cM4 ?kM4 ?iM4 ?dM4 ?aM5 ?lM5 ?cM5 ?kM5 ?iM5 ?dM5 ?hCH ?hpg ?hhd ?hpo ?hsa ?hmk ?hkC ?hnd ?haH0 ?hlH0 ?hcH0 ?hkH0 ?hiH0 ?haH1 ?hlH1 ?hcH1 ?hkH1 ?hiH1
    (case a0 => k_is); (case l0 => k_is); (case c0 => k_is); (case k0 => k_is)
    (case a1 => k_is); (case l1 => k_is); (case c1 => k_is); (case k1 => k_is)
    (case a2 => k_is); (case l2 => k_is); (case c2 => k_is); (case k2 => k_is)
    (case a3 => k_is); (case l3 => k_is); (case c3 => k_is); (case k3 => k_is)
    (case a4 => k_is); (case l4 => k_is); (case c4 => k_is); (case k4 => k_is)
    (case a5 => k_is); (case l5 => k_is); (case c5 => k_is); (case k5 => k_is)
    (case a6 => k_is); (case l6 => k_is); (case c6 => k_is); (case k6 => k_is)
    (case a7 => k_is); (case l7 => k_is); (case c7 => k_is); (case k7 => k_is)
    (case a8 => k_is); (case l8 => k_is); (case c8 => k_is); (case k8 => k_is)
    (case a9 => k_is); (case l9 => k_is); (case c9 => k_is); (case k9 => k_is)
    (case a10 => k_is); (case l10 => k_is); (case c10 => k_is); (case k10 => k_is)
    (case a11 => k_is); (case l11 => k_is); (case c11 => k_is); (case k11 => k_is)
    (case a12 => k_is); (case l12 => k_is); (case c12 => k_is); (case k12 => k_is)
    (case a13 => k_is); (case l13 => k_is); (case c13 => k_is); (case k13 => k_is)
    (case a14 => k_is); (case l14 => k_is); (case c14 => k_is); (case k14 => k_is)
    (case a15 => k_is); (case l15 => k_is); (case c15 => k_is); (case k15 => k_is)
    (case a16 => k_is); (case l16 => k_is); (case c16 => k_is); (case k16 => k_is)
    (case a17 => k_is); (case l17 => k_is); (case c17 => k_is); (case k17 => k_is)
    (case a18 => k_is); (case l18 => k_is); (case c18 => k_is); (case k18 => k_is)
    (case a19 => k_is); (case l19 => k_is); (case c19 => k_is); (case k19 => k_is)
    (case a20 => k_is); (case l20 => k_is); (case c20 => k_is); (case k20 => k_is)
    (case a21 => k_is); (case l21 => k_is); (case c21 => k_is); (case k21 => k_is)
    (case a22 => k_is); (case l22 => k_is); (case c22 => k_is); (case k22 => k_is)
    (case a23 => k_is); (case l23 => k_is); (case c23 => k_is); (case k23 => k_is)
    (case a24 => k_is); (case l24 => k_is); (case c24 => k_is); (case k24 => k_is)
    (case a25 => k_is); (case l25 => k_is); (case c25 => k_is); (case k25 => k_is)
    (case a26 => k_is); (case l26 => k_is); (case c26 => k_is); (case k26 => k_is)
    (case a27 => k_is); (case l27 => k_is); (case c27 => k_is); (case k27 => k_is)
    (case a28 => k_is); (case l28 => k_is); (case c28 => k_is); (case k28 => k_is)
    (case a29 => k_is); (case l29 => k_is); (case c29 => k_is); (case k29 => k_is)
    (case a30 => k_is); (case l30 => k_is); (case c30 => k_is); (case k30 => k_is)
    (case a31 => k_is); (case l31 => k_is); (case c31 => k_is); (case k31 => k_is)
    (case a32 => k_is); (case l32 => k_is); (case c32 => k_is); (case k32 => k_is)
    (case a33 => k_is); (case l33 => k_is); (case c33 => k_is); (case k33 => k_is)
    (case a34 => k_is); (case l34 => k_is); (case c34 => k_is); (case k34 => k_is)
    (case a35 => k_is); (case l35 => k_is); (case c35 => k_is); (case k35 => k_is)
    (case a36 => k_is); (case l36 => k_is); (case c36 => k_is); (case k36 => k_is)
    (case a37 => k_is); (case l37 => k_is); (case c37 => k_is); (case k37 => k_is)
    (case a38 => k_is); (case l38 => k_is); (case c38 => k_is); (case k38 => k_is)
    (case a39 => k_is); (case l39 => k_is); (case c39 => k_is); (case k39 => k_is)
    (case z0 => k_is); (case z1 => k_is); (case z2 => k_is); (case z3 => k_is); (case z4 => k_is); (case z5 => k_is); (case z6 => k_is); (case z7 => k_is); (case z8 => k_is); (case z9 => k_is); (case z10 => k_is); (case z11 => k_is); (case z12 => k_is); (case z13 => k_is); (case z14 => k_is)
    (case y0 => k_is); (case y1 => k_is)
    (case aC => k_is)
    (case pg => k_is)
    (case hd => k_is)
    (case po => k_is)
    (case sa => k_is)
    (case mkC => k_is)
    (case kC => k_is)
    (case nS => k_is)
    (case nD => k_is)
    (case aM0 => k_is)
    (case lM0 => k_is)
    (case cM0 => k_is)
    (case kM0 => k_is)
    (case iM0 => k_is)
    (case aM1 => k_is)
    (case lM1 => k_is)
    (case cM1 => k_is)
    (case kM1 => k_is)
    (case iM1 => k_is)
    (case dM1 => k_is)
    (case aM2 => k_is)
    (case lM2 => k_is)
    (case cM2 => k_is)
    (case kM2 => k_is)
    (case iM2 => k_is)
    (case aM3 => k_is)
    (case lM3 => k_is)
    (case cM3 => k_is)
    (case kM3 => k_is)
    (case iM3 => k_is)
    (case dM3 => k_is)
    (case aM4 => k_is)
    (case lM4 => k_is)
    (case cM4 => k_is)
    (case kM4 => k_is)
    (case iM4 => k_is)
    (case dM4 => k_is)
    (case aM5 => k_is)
    (case lM5 => k_is)
    (case cM5 => k_is)
    (case kM5 => k_is)
    (case iM5 => k_is)
    (case dM5 => k_is)
    (case hCH => k_is)
    (case hpg => k_is)
    (case hhd => k_is)
    (case hpo => k_is)
    (case hsa => k_is)
    (case hmk => k_is)
    (case hkC => k_is)
    (case hnd => k_is)
    (case haH0 => k_is)
    (case hlH0 => k_is)
    (case hcH0 => k_is)
    (case hkH0 => k_is)
    (case hiH0 => k_is)
    (case haH1 => k_is)
    (case hlH1 => k_is)
    (case hcH1 => k_is)
    (case hkH1 => k_is)
    (case hiH1 => k_is)

