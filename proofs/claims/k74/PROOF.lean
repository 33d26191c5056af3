import PyProof.Rows.All
import Wide.All
import OpenK.AllK
import Wide.FinOn
import HandS.ForMost
import HandS.Conv
import HandS.Strs
import HandS.SortInts
import HandS.Wide
import HandS.WideBits
import HandS.IsInst
import HandS.Style
import HandS.NoneIn
import HandS.SetFor
import HandS.SetBool
import HandS.SortKw
import KE.DataMinMax
import HandS.TupAny
import PyProof.TupleOfSeq
import PyProof.ReprRoads
import PyProof.ReprLen
import PyProof.ExcBaseAll.LookupError
import HandS.Zip
import HandS.TupLe
import HandS.RevRange
import KE.GoesMore
import HandS.Dict
import HandS.Sort
import KE.KDictList
import KE.KRevSl
import PyProof.EqKinds
import PyProof.NeKinds
import PyProof.FactsAll.dict_1
import HandS.Star
import HandS.FStr
import HandS.Defaults
import HandS.ClsMeth
import HandS.TupMul
import HandS.Exc
import HandS.ExcInit
import HandS.ExcField
import HandS.ExcIs
import HandS.TryMany
import HandS.ExcOwn
import HandS.HotCalls
import KE.KExcIs
import KE.KExcLine
import HandS.SortRule
import HandS.ExcValue
import HandS.TryOnly
import PySem.Challenge.RW_cardboxes_k74_deck_equality_and_errors
set_option Elab.async false
set_option linter.all false
set_option maxRecDepth 100000
set_option maxHeartbeats 4000000
namespace Dl
open PySem PySem.Spec PyProof.Rows L2

/-! ### lists that only their owner knows: described by what is true of the object; data are never such -/
def extL (s : Addr) (as : List Addr) : HO := .ext fun h => as.length ≤ sizeLine ∧ ∃ n : Nat, h.get? s = some { cls := .type "list", data := .seq (as.map Value.ref).toArray n }
def IsX (o : HO) : Prop := ∃ s as, as.length ≤ sizeLine ∧ o = extL s as
theorem nx_lst {xs : List V} : ¬ IsX (.lst xs) := fun ⟨_, _, _, e⟩ => by unfold extL at e; cases e
theorem nx_tup {xs : List V} : ¬ IsX (.tup xs) := fun ⟨_, _, _, e⟩ => by unfold extL at e; cases e
theorem nx_set {w : World} {D : Addr} {S : Int → Bool} {c : Nat} : ¬ IsX (SetO w D S c) := fun ⟨s, as, hl, e⟩ => by
  unfold SetO extL at e
  have e2 := HO.ext.inj e
  let ob : Obj := { cls := .type "list", data := .seq (as.map Value.ref).toArray 0 }
  let h : Heap := ⟨(List.replicate (s + 1) ob).toArray, {}⟩
  have hs : h.get? s = some ob := by
    unfold Heap.get?
    have : h.objs[s]? = some ob := by
      show (List.replicate (s + 1) ob).toArray[s]? = some ob
      simp
    rw [this]
  have hr : SetR w h D S c := by
    have := congrFun e2 h
    rw [this]
    exact ⟨hl, 0, hs⟩
  obtain ⟨o, es, ep, t, ho, _, hd, _⟩ := hr
  have : o = ob := by
    unfold Heap.get? at ho
    cases q : h.objs[D]? with
    | none => rw [q] at ho; cases ho
    | some u =>
      have hu : u = ob := by
        have q' : (List.replicate (s + 1) ob).toArray[D]? = some u := q
        rw [List.getElem?_toArray] at q'
        exact List.eq_of_mem_replicate (List.mem_of_getElem? q')
      subst hu
      rw [q] at ho
      exact (Option.some.inj ho).symm
  rw [this] at hd
  cases hd
theorem nx_dK {xs : List (Key × V)} : ¬ IsX (.dK xs) := fun ⟨_, _, _, e⟩ => by unfold extL at e; cases e
theorem nx_ins {C dx : Addr} {fs : List (Str × V)} : ¬ IsX (.ins C dx fs) := fun ⟨_, _, _, e⟩ => by unfold extL at e; cases e
theorem nx_own {x : Addr} : ¬ IsX (.own x) := fun ⟨_, _, _, e⟩ => by unfold extL at e; cases e
/-! ### data in the heap, away from the addresses S -/
def kP : Key → PyData
  | .inl i => .int i
  | .inr x => .str x
mutual
inductive Rep (K : PySem.W.Frag) (S : Addr → Prop) (H : Hp) : V → PyData → Prop
  | non : Rep K S H .non .none
  | bl (b : Bool) : Rep K S H (.bl b) (.bool b)
  | int (i : Int) : Rep K S H (.int i) (.int i)
  | str (x : Str) : Rep K S H (.str x) (.str x)
  | lst {a : Addr} {xs : List V} {ds : List PyData} : H a = some (.lst xs) ∧ ¬ S a → RepAll K S H xs ds → Rep K S H (.ref a) (.list ds)
  | tup {a : Addr} {xs : List V} {ds : List PyData} : H a = some (.tup xs) ∧ ¬ S a → RepAll K S H xs ds → Rep K S H (.ref a) (.tuple ds)
  | dct {a : Addr} {kvs : List (Key × V)} {es : List (PyData × PyData)} : H a = some (.dK kvs) ∧ ¬ S a → RepKV K S H kvs es → Rep K S H (.ref a) (.dict es)
inductive RepAll (K : PySem.W.Frag) (S : Addr → Prop) (H : Hp) : List V → List PyData → Prop
  | nil : RepAll K S H [] []
  | cons {v : V} {vs : List V} {d : PyData} {ds : List PyData} : Rep K S H v d → RepAll K S H vs ds → RepAll K S H (v :: vs) (d :: ds)
inductive RepKV (K : PySem.W.Frag) (S : Addr → Prop) (H : Hp) : List (Key × V) → List (PyData × PyData) → Prop
  | nil : RepKV K S H [] []
  | cons {k : Key} {v : V} {kvs : List (Key × V)} {d : PyData} {es : List (PyData × PyData)} : Rep K S H v d → RepKV K S H kvs es → RepKV K S H ((k, v) :: kvs) ((kP k, d) :: es)
end
section
variable {K : PySem.W.Frag} {S S' : Addr → Prop} {H H' : Hp}
theorem sql_of {a : Addr} {xs : List V} (h : H a = some (.lst xs) ∧ ¬ S a) : SqL K H a xs := .inl (.inl h.1)
theorem sqt_of {a : Addr} {xs : List V} (h : H a = some (.tup xs) ∧ ¬ S a) : SqT K H a xs := .inl (.inl h.1)
mutual
theorem Rep.keepX (e : ∀ b o, ¬ S b → ¬ IsX o → H b = some o → H' b = some o) (hs : ∀ b, H b ≠ none → S' b → S b) : ∀ (d : PyData) (v : V), Rep K S H v d → Rep K S' H' v d
  | .none, _, h => by cases h; exact .non
  | .bool b, _, h => by cases h; exact .bl b
  | .int i, _, h => by cases h; exact .int i
  | .str x, _, h => by cases h; exact .str x
  | .list ds, _, h => by
    cases h with
    | lst h1 h3 => exact .lst ⟨e _ _ h1.2 nx_lst h1.1, fun y => h1.2 (hs _ (by rw [h1.1]; exact fun z => nomatch z) y)⟩ (RepAll.keepX e hs ds _ h3)
  | .tuple ds, _, h => by
    cases h with
    | tup h1 h3 => exact .tup ⟨e _ _ h1.2 nx_tup h1.1, fun y => h1.2 (hs _ (by rw [h1.1]; exact fun z => nomatch z) y)⟩ (RepAll.keepX e hs ds _ h3)
  | .dict es, _, h => by
    cases h with
    | dct h1 h3 => exact .dct ⟨e _ _ h1.2 nx_dK h1.1, fun y => h1.2 (hs _ (by rw [h1.1]; exact fun z => nomatch z) y)⟩ (RepKV.keepX e hs es _ h3)
theorem RepAll.keepX (e : ∀ b o, ¬ S b → ¬ IsX o → H b = some o → H' b = some o) (hs : ∀ b, H b ≠ none → S' b → S b) : ∀ (ds : List PyData) (vs : List V), RepAll K S H vs ds → RepAll K S' H' vs ds
  | [], _, h => by cases h; exact .nil
  | d :: ds, _, h => by
    cases h with
    | cons h1 h2 => exact .cons (Rep.keepX e hs d _ h1) (RepAll.keepX e hs ds _ h2)
theorem RepKV.keepX (e : ∀ b o, ¬ S b → ¬ IsX o → H b = some o → H' b = some o) (hs : ∀ b, H b ≠ none → S' b → S b) : ∀ (es : List (PyData × PyData)) (vs : List (Key × V)), RepKV K S H vs es → RepKV K S' H' vs es
  | [], _, h => by cases h; exact .nil
  | (p, d) :: es, _, h => by
    cases h with
    | cons h1 h2 => exact .cons (Rep.keepX e hs d _ h1) (RepKV.keepX e hs es _ h2)
end
theorem Rep.keep (e : ∀ b o, ¬ S b → H b = some o → H' b = some o) (hs : ∀ b, H b ≠ none → S' b → S b) (d : PyData) (v : V) (r : Rep K S H v d) : Rep K S' H' v d := Rep.keepX (fun b o n _ q => e b o n q) hs d v r
theorem RepAll.keep (e : ∀ b o, ¬ S b → H b = some o → H' b = some o) (hs : ∀ b, H b ≠ none → S' b → S b) (d : List PyData) (v : List V) (r : RepAll K S H v d) : RepAll K S' H' v d := RepAll.keepX (fun b o n _ q => e b o n q) hs d v r
mutual
theorem Rep.dp : ∀ (d : PyData) (v : V), Rep K S H v d → d.hasDict = false → Dp K H v d
  | .none, _, h, _ => by cases h; exact .non
  | .bool b, _, h, _ => by cases h; exact .bl b
  | .int i, _, h, _ => by cases h; exact .int i
  | .str x, _, h, _ => by cases h; exact .str x
  | .list ds, _, h, n => by
    cases h with
    | lst h1 h3 => exact .lst (sql_of h1) (RepAll.dp ds _ h3 (by simpa only [PyData.hasDict] using n))
  | .tuple ds, _, h, n => by
    cases h with
    | tup h1 h3 => exact .tup (sqt_of h1) (RepAll.dp ds _ h3 (by simpa only [PyData.hasDict] using n))
  | .dict _, _, h, n => by simp [PyData.hasDict] at n
theorem RepAll.dp : ∀ (ds : List PyData) (vs : List V), RepAll K S H vs ds → PyData.hasDictAll ds = false → DpAll K H vs ds
  | [], _, h, _ => by cases h; exact .nil
  | d :: ds, _, h, n => by
    rw [PyData.hasDictAll, Bool.or_eq_false_iff] at n
    cases h with
    | cons h1 h2 => exact .cons (Rep.dp d _ h1 n.1) (RepAll.dp ds _ h2 n.2)
end
mutual
theorem nodict_of : ∀ d : PyData, d.canLay0 = true → d.hasDict = false
  | .none, _ => by simp only [PyData.hasDict]
  | .bool _, _ => by simp only [PyData.hasDict]
  | .int _, _ => by simp only [PyData.hasDict]
  | .str _, _ => by simp only [PyData.hasDict]
  | .list ds, h => by rw [PyData.hasDict]; exact nodictAll_of ds (by simpa only [PyData.canLay0] using h)
  | .tuple ds, h => by rw [PyData.hasDict]; exact nodictAll_of ds (by simpa only [PyData.canLay0] using h)
  | .dict _, h => by simp [PyData.canLay0] at h
theorem nodictAll_of : ∀ ds : List PyData, PyData.canLayAll0 ds = true → PyData.hasDictAll ds = false
  | [], _ => by simp only [PyData.hasDictAll]
  | d :: ds, h => by
    rw [PyData.canLayAll0, Bool.and_eq_true] at h
    rw [PyData.hasDictAll, nodict_of d h.1, nodictAll_of ds h.2]; rfl
end
theorem nodict_sh {d : PyData} (h : SeqAt.shaped d = true) : d.hasDict = false := nodict_of d (Bool.and_eq_true_iff.mp h).1
theorem RepAll.length : ∀ {ds : List PyData} {vs : List V}, RepAll K S H vs ds → vs.length = ds.length
  | [], _, h => by cases h; rfl
  | d :: ds, _, h => by
    cases h with
    | cons h1 h2 => rw [List.length_cons, List.length_cons, RepAll.length h2]
theorem RepAll.get : ∀ {ds : List PyData} {vs : List V} {i : Nat} {d : PyData}, RepAll K S H vs ds → ds[i]? = some d → ∃ v, vs[i]? = some v ∧ Rep K S H v d
  | _ :: _, _, 0, _, h, e => by
    cases h with
    | cons h1 h2 => cases e; exact ⟨_, rfl, h1⟩
  | _ :: ds, _, i + 1, d, h, e => by
    cases h with
    | cons h1 h2 =>
      obtain ⟨v, q, r⟩ := RepAll.get (i := i) (d := d) h2 (by simpa using e)
      exact ⟨v, by simpa using q, r⟩
  | [], _, i, _, _, e => by simp at e
theorem RepAll.got : ∀ {ds : List PyData} {vs : List V} {i : Nat} {v : V}, RepAll K S H vs ds → vs[i]? = some v → ∃ d, ds[i]? = some d ∧ Rep K S H v d
  | _ :: _, _, 0, _, h, e => by
    cases h with
    | cons h1 h2 => cases e; exact ⟨_, rfl, h1⟩
  | _ :: ds, _, i + 1, d, h, e => by
    cases h with
    | cons h1 h2 =>
      obtain ⟨v, q, r⟩ := RepAll.got (i := i) h2 (by simpa using e)
      exact ⟨v, by simpa using q, r⟩
  | [], _, i, _, h, e => by cases h; simp at e
theorem RepAll.append : ∀ {ds es : List PyData} {vs ws : List V}, RepAll K S H vs ds → RepAll K S H ws es → RepAll K S H (vs ++ ws) (ds ++ es)
  | [], _, _, _, h, h' => by cases h; exact h'
  | d :: ds, _, _, _, h, h' => by
    cases h with
    | cons h1 h2 => exact .cons h1 (RepAll.append h2 h')
theorem RepAll.take (n : Nat) : ∀ {ds : List PyData} {vs : List V}, RepAll K S H vs ds → RepAll K S H (vs.take n) (ds.take n) := by
  induction n with
  | zero => intro _ _ _; simp; exact .nil
  | succ n ih =>
    intro ds vs h
    cases h with
    | nil => exact .nil
    | cons h1 h2 => exact .cons h1 (ih h2)
theorem RepAll.drop (n : Nat) : ∀ {ds : List PyData} {vs : List V}, RepAll K S H vs ds → RepAll K S H (vs.drop n) (ds.drop n) := by
  induction n with
  | zero => intro _ _ h; exact h
  | succ n ih =>
    intro ds vs h
    cases h with
    | nil => exact .nil
    | cons h1 h2 => exact ih h2
theorem RepAll.ints : ∀ {ns : List Int} {vs : List V}, RepAll K S H vs (ns.map PyData.int) → vs = ns.map V.int
  | [], _, h => by cases h; rfl
  | n :: ns, _, h => by
    cases h with
    | cons h1 h2 => cases h1; rw [RepAll.ints h2]; rfl
theorem RepAll.of_ints : ∀ (ns : List Int), RepAll K S H (ns.map V.int) (ns.map PyData.int)
  | [] => .nil
  | n :: ns => .cons (.int n) (RepAll.of_ints ns)
end
end Dl

namespace Dl
open PySem PySem.Spec PyProof.Rows L2

/-- what stands, and is no tuple -/
def Lv (H : Hp) (b : Addr) : Prop := ∃ o, H b = some o ∧ ∀ xs, o ≠ .tup xs
theorem Lv.ne {H : Hp} {b : Addr} (h : Lv H b) : H b ≠ none := by obtain ⟨o, e, _⟩ := h; rw [e]; exact fun z => nomatch z
theorem lv_lst {H : Hp} {b : Addr} {xs : List V} (h : H b = some (.lst xs)) : Lv H b := ⟨_, h, fun _ z => nomatch z⟩
theorem lv_ext {H : Hp} {b : Addr} {φ : Heap → Prop} (h : H b = some (.ext φ)) : Lv H b := ⟨_, h, fun _ z => nomatch z⟩
theorem Lv.keep {H H' : Hp} {b : Addr} (h : Lv H b) (k : ∀ o, H b = some o → H' b = some o) : Lv H' b := by obtain ⟨o, e, n⟩ := h; exact ⟨o, k o e, n⟩

/-! ### the frame of a run: K the written part; S what data avoid; M what calls may change; H0 the heap at the entry; G what is known of M, with k draws left -/
structure Fm where
  K : PySem.W.Frag
  S : Addr → Prop
  M : Addr → Prop
  H0 : Hp
  G : Nat → Hp → Prop
  ms : ∀ b, M b → S b
  gm : ∀ k H H', G k H → (∀ b, M b → H' b = H b) → (∀ b o, (IsX o ∨ ∃ xs, o = .tup xs) → H b = some o → H' b = some o) → G k H'
  gl : ∀ k H, G k H → ∀ b, M b → H b ≠ none
  X : HO → Prop := fun _ => False
  xi : ∀ o, X o → IsX o := by exact fun _ h => h.elim
  xa : ∀ k H, G k H → ∀ b o, ¬ M b → X o → H0 b = some o → ∃ o', IsX o' ∧ H b = some o' := by exact fun _ _ _ _ _ _ h => h.elim
def Fm.Mx (F : Fm) (b : Addr) (o : HO) : Prop := F.M b ∨ F.X o
def Fm.Sx (F : Fm) (b : Addr) (o : HO) : Prop := F.S b ∨ F.X o
theorem Fm.mx {F : Fm} {b : Addr} {o : HO} (h : ¬ F.M b) (x : ¬ IsX o) : ¬ F.Mx b o := fun z => z.elim h fun y => x (F.xi _ y)
theorem Fm.sxA {F : Fm} {b : Addr} {o : HO} (h : ¬ F.S b) (x : ¬ IsX o := by first | exact nx_lst | exact nx_tup | exact nx_dK | exact nx_set) : ¬ F.Sx b o := fun z => z.elim h fun y => x (F.xi _ y)
theorem Fm.mxA {F : Fm} {b : Addr} {o : HO} (h : ¬ F.M b) (x : ¬ IsX o := by first | exact nx_lst | exact nx_tup | exact nx_dK | exact nx_set) : ¬ F.Mx b o := fun z => z.elim h fun y => x (F.xi _ y)
theorem lv_new {H : Hp} {p : Addr} {o : HO} (h : ∀ xs, o ≠ .tup xs) : Lv (upd H p o) p := ⟨o, upd_same, h⟩
theorem Fm.mxL {F : Fm} {b : Addr} {xs : List V} (h : ¬ F.M b) : ¬ F.Mx b (.lst xs) := Fm.mx h nx_lst
structure J (F : Fm) (k : Nat) (H : Hp) : Prop where
  g : F.G k H
  le : ∀ b o, ¬ F.Mx b o → F.H0 b = some o → H b = some o
  al : ∀ b, F.S b → Lv H b
def Le (F : Fm) (H H' : Hp) : Prop := ∀ b o, ¬ F.Mx b o → H b = some o → H' b = some o
def Lz (F : Fm) (H H' : Hp) : Prop := ∀ b o, ¬ F.Sx b o → H b = some o → H' b = some o
abbrev Rp (F : Fm) (H : Hp) (v : V) (d : PyData) : Prop := Rep F.K F.S H v d
abbrev RpAll (F : Fm) (H : Hp) (vs : List V) (ds : List PyData) : Prop := RepAll F.K F.S H vs ds
section
variable {F : Fm} {H H1 H2 : Hp} {k : Nat}
theorem Le.refl : Le F H H := fun _ _ _ h => h
theorem Le.trans (a : Le F H H1) (b : Le F H1 H2) : Le F H H2 := fun x o n h => b x o n (a x o n h)
theorem Lz.refl : Lz F H H := fun _ _ _ h => h
theorem Lz.trans (a : Lz F H H1) (b : Lz F H1 H2) : Lz F H H2 := fun x o n h => b x o n (a x o n h)
theorem Le.lz (a : Le F H H1) : Lz F H H1 := fun b o n h => a b o (fun z => n (z.imp (F.ms b) id)) h
theorem Le.new {p : Addr} {o : HO} (hp : H p = none) : Le F H (upd H p o) := fun b u _ e => by
  rw [upd_ne (ne_of_none e hp)]; exact e
theorem Rep.le {v : V} {d : PyData} (r : Rp F H v d) (a : Lz F H H1) : Rp F H1 v d := Rep.keepX (fun b o n hp e => a b o (fun z => z.elim n fun y => hp (F.xi _ y)) e) (fun _ _ z => z) d v r
theorem RepAll.le {v : List V} {d : List PyData} (r : RpAll F H v d) (a : Lz F H H1) : RpAll F H1 v d := RepAll.keepX (fun b o n hp e => a b o (fun z => z.elim n fun y => hp (F.xi _ y)) e) (fun _ _ z => z) d v r
theorem J.new {p : Addr} {o : HO} (j : J F k H) (hp : H p = none) : J F k (upd H p o) where
  g := F.gm k H _ j.g (fun b hb => upd_ne fun e => F.gl k H j.g b hb (e ▸ hp)) fun b u _ e => by rw [upd_ne (ne_of_none e hp)]; exact e
  le := fun b u hb e => by
    have q := j.le b u hb e
    rw [upd_ne (ne_of_none q hp)]; exact q
  al := fun b hb => (j.al b hb).keep fun u e => by rw [upd_ne (ne_of_none e hp)]; exact e
theorem J.h0 {p : Addr} (j : J F k H) (hm : ¬ F.M p) (hp : H p = none) : F.H0 p = none := by
  cases e : F.H0 p with
  | none => rfl
  | some u =>
    by_cases x : F.X u
    · obtain ⟨o', _, q⟩ := F.xa k H j.g p u hm x e
      rw [hp] at q; cases q
    · rw [j.le p u (fun z => z.elim hm x) e] at hp; cases hp
theorem J.fresh {p : Addr} (j : J F k H) (hp : H p = none) : ¬ F.S p := fun z => (j.al p z).ne hp
/-- what is neither a tuple nor known to its owner alone -/
def Pl (H : Hp) (p : Addr) : Prop := ∀ u, H p = some u → ¬ (IsX u ∨ ∃ xs, u = .tup xs)
theorem pl_lst {H : Hp} {p : Addr} {xs : List V} (h : H p = some (.lst xs)) : Pl H p := fun u e => by
  rw [h] at e; cases e; exact fun z => z.elim nx_lst fun ⟨_, q⟩ => nomatch q
theorem pl_set {H : Hp} {p : Addr} {w : World} {D : Addr} {S : Int → Bool} {c : Nat} (h : H p = some (SetO w D S c)) : Pl H p := fun u e => by
  rw [h] at e; cases e; exact fun z => z.elim nx_set fun ⟨_, q⟩ => nomatch q
theorem J.own {p : Addr} {o : HO} (j : J F k H) (hm : ¬ F.M p) (h0 : F.H0 p = none) (hp : Pl H p) (ho : ∀ xs, o ≠ .tup xs := by exact fun _ z => nomatch z) : J F k (upd H p o) where
  g := F.gm k H _ j.g (fun b hb => upd_ne fun e => hm (e ▸ hb)) fun b u hu e => by
    rw [upd_ne (show b ≠ p from fun z => hp u (z ▸ e) hu)]; exact e
  le := fun b u hb e => by
    rw [upd_ne (ne_of_none e h0)]; exact j.le b u hb e
  al := fun b hb => by
    by_cases e : b = p
    · rw [e]; exact ⟨o, upd_same, ho⟩
    · exact (j.al b hb).keep fun u q => by rw [upd_ne e]; exact q
theorem rep_newL {p : Addr} {vs : List V} {ds : List PyData} (j : J F k H) (hp : H p = none) (r : RpAll F H vs ds) : Rp F (upd H p (.lst vs)) (.ref p) (.list ds) :=
  .lst ⟨upd_same, j.fresh hp⟩ (r.le (Le.new hp).lz)
theorem rep_newT {p : Addr} {vs : List V} {ds : List PyData} (j : J F k H) (hp : H p = none) (r : RpAll F H vs ds) : Rp F (upd H p (.tup vs)) (.ref p) (.tuple ds) :=
  .tup ⟨upd_same, j.fresh hp⟩ (r.le (Le.new hp).lz)
end

/-! ### slots -/
inductive SV where
  | un
  | d (x : PyData)
  | raw (v : V)
  | own (o : Addr) (xs : List PyData)
def SlotOk (F : Fm) (H : Hp) : SV → Option V → Prop
  | .un, _ => True
  | .d d, x => ∃ v, x = some v ∧ Rp F H v d
  | .raw v, x => x = some v
  | .own o xs, x => x = some (.ref o) ∧ F.S o ∧ ¬ F.M o ∧ F.H0 o = none ∧ ∃ vs, H o = some (.lst vs) ∧ RpAll F H vs xs
abbrev Rho := List SV
def EnvOk (F : Fm) (H : Hp) (σ : L2.St) (ρ : Rho) : Prop := ∀ (i : Nat) (sv : SV), ρ[i]? = some sv → ∃ x, σ[i]? = some x ∧ SlotOk F H sv x
section
variable {F : Fm} {H H1 H2 : Hp} {k : Nat} {σ : L2.St} {ρ : Rho}
theorem SlotOk.le {sv : SV} {x : Option V} (h : SlotOk F H sv x) (a : Le F H H1) : SlotOk F H1 sv x := by
  cases sv with
  | un => trivial
  | d d => obtain ⟨v, e, r⟩ := h; exact ⟨v, e, r.le a.lz⟩
  | raw v => exact h
  | own o xs =>
    obtain ⟨e, s, m, z, vs, h1, r⟩ := h
    exact ⟨e, s, m, z, vs, a o _ (Fm.mxL m) h1, r.le a.lz⟩
theorem EnvOk.le (h : EnvOk F H σ ρ) (a : Le F H H1) : EnvOk F H1 σ ρ := fun i sv e => by
  obtain ⟨x, q, r⟩ := h i sv e
  exact ⟨x, q, r.le a⟩
theorem EnvOk.set {i : Nat} {sv : SV} {x : Option V} (h : EnvOk F H σ ρ) (s : SlotOk F H sv x) : EnvOk F H (σ.set i x) (ρ.set i sv) := fun j tv e => by
  by_cases hj : i = j
  · subst hj
    by_cases hl : i < ρ.length
    · rw [List.getElem?_set_self hl] at e
      cases e
      obtain ⟨y, q, _⟩ := h i _ (List.getElem?_eq_getElem hl)
      obtain ⟨hl', _⟩ := List.getElem?_eq_some_iff.mp q
      exact ⟨x, List.getElem?_set_self hl', s⟩
    · rw [List.getElem?_eq_none (by simpa using hl)] at e; cases e
  · rw [List.getElem?_set_ne hj] at e
    obtain ⟨y, q, r⟩ := h j tv e
    exact ⟨y, by rw [List.getElem?_set_ne hj]; exact q, r⟩
theorem EnvOk.d {i : Nat} {d : PyData} (h : EnvOk F H σ ρ) (e : ρ[i]? = some (.d d)) : ∃ v, σ[i]? = some (some v) ∧ Rp F H v d := by
  obtain ⟨x, q, v, rfl, r⟩ := h i _ e
  exact ⟨v, q, r⟩
theorem EnvOk.raw {i : Nat} {v : V} (h : EnvOk F H σ ρ) (e : ρ[i]? = some (.raw v)) : σ[i]? = some (some v) := by
  obtain ⟨x, q, r⟩ := h i _ e
  rw [q, show x = some v from r]
end

/-! ### runs of readings on data -/
def WE (F : Fm) (t : TE) (ρ : Rho) (k : Nat) (Φ : Nat → PyData → Prop) : Prop :=
  ∀ (σ : L2.St) (H : Hp) (Q : VK), EnvOk F H σ ρ → J F k H → (∀ v d k' H', Le F H H' → J F k' H' → Rp F H' v d → Φ k' d → Q v H') → t σ H Q
def WA (F : Fm) (t : TA) (ρ : Rho) (k : Nat) (Φ : Nat → List PyData → Prop) : Prop :=
  ∀ (σ : L2.St) (H : Hp) (Q : List V → Hp → Prop), EnvOk F H σ ρ → J F k H → (∀ vs ds k' H', Le F H H' → J F k' H' → RpAll F H' vs ds → Φ k' ds → Q vs H') → t σ H Q
def WT (F : Fm) (t : TT) (ρ : Rho) (k : Nat) (Φ : Nat → Bool → Prop) : Prop :=
  ∀ (σ : L2.St) (H : Hp) (Q : Bool → Hp → Prop), EnvOk F H σ ρ → J F k H → (∀ b k' H', Le F H H' → J F k' H' → Φ k' b → Q b H') → t σ H Q
structure DE where
  nx : Nat → Rho → Prop
  rt : Nat → PyData → Prop
  bk : Nat → Rho → Prop
  ct : Nat → Rho → Prop
def WS (F : Fm) (t : TS) (ρ : Rho) (k : Nat) (P : DE) : Prop :=
  ∀ (σ : L2.St) (H : Hp) (E : Ends), EnvOk F H σ ρ → J F k H →
    (∀ ρ' σ' k' H', Lz F H H' → EnvOk F H' σ' ρ' → J F k' H' → P.nx k' ρ' → E.nx σ' H') →
    (∀ v d k' H', J F k' H' → Rp F H' v d → P.rt k' d → E.rt v H') →
    (∀ ρ' σ' k' H', Lz F H H' → EnvOk F H' σ' ρ' → J F k' H' → P.bk k' ρ' → E.bk σ' H') →
    (∀ ρ' σ' k' H', Lz F H H' → EnvOk F H' σ' ρ' → J F k' H' → P.ct k' ρ' → E.ct σ' H') → t E σ H
/-- an operation on two data; on a list of data -/
def RD (F : Fm) (r : R2) (x y : PyData) (k : Nat) (Φ : Nat → PyData → Prop) : Prop :=
  ∀ (H : Hp) (vx vy : V) (Q : VK), J F k H → Rp F H vx x → Rp F H vy y → (∀ v d k' H', Le F H H' → J F k' H' → Rp F H' v d → Φ k' d → Q v H') → r vx vy H Q
def RA (F : Fm) (r : List V → Hp → VK → Prop) (ds : List PyData) (k : Nat) (Φ : Nat → PyData → Prop) : Prop :=
  ∀ (H : Hp) (vs : List V) (Q : VK), J F k H → RpAll F H vs ds → (∀ v d k' H', Le F H H' → J F k' H' → Rp F H' v d → Φ k' d → Q v H') → r vs H Q

/-! ### where the text stands -/
structure Cs where
  P : Program
  w : World
  K : PySem.W.Frag
  mg : Str → Option Value
  base : Heap
  N : List Str
  sc : Scope
  fn : Str → Bool
  lvl : Nat
structure Fits (C : Cs) (X : Cx) : Prop where
  P : X.prog = C.P
  w : X.w = C.w
  K : X.K = C.K
  mg : X.mg = C.mg
  base : X.base = C.base
  N : X.N = C.N
  sc : X.env.scope = C.sc
  fn : X.fn = C.fn
  calm : X.calm = true
  room : Room C.lvl X.A
  xe : X.xe = fun _ _ => False
  gd : X.A.guards = some []
abbrev Cs.blk (C : Cs) (scope : Scope) : Cs := { C with sc := relS scope C.sc, fn := fun x => scope.names.lookup x == some .cell }
theorem Fits.blk {C : Cs} {X : Cx} (f : Fits C X) (s : Shared) (H : Hp) (scope : Scope) (a : Addr) (cl : List (Str × Addr)) (fp : List Addr) : Fits (C.blk scope) (X.blk s H scope (compEnvC scope cl a X.env) fp) :=
  ⟨f.P, f.w, f.K, f.mg, f.base, f.N, by show relS scope X.env.scope = _; rw [f.sc], rfl, f.calm, f.room, rfl, f.gd⟩

/-- the widest readings -/
def tE (C : Cs) (e : Expr) : TE := fun σ H Q => ∀ X, Fits C X → ∀ pins s, Inv X pins σ H s → wpAny (model X.prog X.w) X.A (eval e X.env) (EP X pins σ Q) X.xe s
def tT (C : Cs) (e : Expr) : TT := fun σ H Q => ∀ X, Fits C X → ∀ pins s, Inv X pins σ H s → wpAny (model X.prog X.w) X.A (isTrue e X.env (eval e X.env)) (TP X pins σ Q) X.xe s
def tW (C : Cs) (e : Expr) : TT := fun σ H Q => ∀ X, Fits C X → ∀ (whole : Sem Value) pins s, Inv X pins σ H s → wpAny (model X.prog X.w) X.A (isTrue e X.env whole) (TP X pins σ Q) X.xe s
def tA (C : Cs) (es : List Expr) : TA := fun σ H Q => ∀ X, Fits C X → ∀ (pos : Pos) pins s, Inv X pins σ H s → wpAny (model X.prog X.w) X.A (spliced (backTo pos (starEach es X.env))) (AP X pins σ Q) X.xe s
def tS (C : Cs) (st : Stmt) : TS := fun D σ H => ∀ X, Fits C X → ∀ pins s, Inv X pins σ H s → wpAny (model X.prog X.w) X.A (exec st X.env) (SP X pins D) X.xe s
def tB (C : Cs) (st : List Stmt) : TS := fun D σ H => ∀ X, Fits C X → ∀ pins s, Inv X pins σ H s → wpAny (model X.prog X.w) X.A (execs st X.env) (SP X pins D) X.xe s
section
variable {C : Cs} {X : Cx}
theorem peE (f : Fits C X) {e : Expr} : PE X e (tE C e) := ⟨fun pins s σ H Q I h => h X f pins s I⟩
theorem ptT (f : Fits C X) {e : Expr} : PT X e (tT C e) := ⟨fun pins s σ H Q I h => h X f pins s I⟩
theorem pwW (f : Fits C X) {e : Expr} : PW X e (tW C e) := ⟨fun wh pins s σ H Q I h => h X f wh pins s I⟩
theorem paA (f : Fits C X) {es : List Expr} : PA X es (tA C es) := ⟨fun pos pins s σ H Q I h => h X f pos pins s I⟩
theorem psS (f : Fits C X) {st : Stmt} : PS X st (tS C st) := ⟨fun pins s σ H D I h => h X f pins s I⟩
theorem pbB (f : Fits C X) {st : List Stmt} : PSs X st (tB C st) := ⟨fun pins s σ H D I h => h X f pins s I⟩
end
abbrev WPE (F : Fm) (C : Cs) (e : Expr) (ρ : Rho) (k : Nat) (Φ : Nat → PyData → Prop) : Prop := WE F (tE C e) ρ k Φ
abbrev WPT (F : Fm) (C : Cs) (e : Expr) (ρ : Rho) (k : Nat) (Φ : Nat → Bool → Prop) : Prop := WT F (tT C e) ρ k Φ
abbrev WPW (F : Fm) (C : Cs) (e : Expr) (ρ : Rho) (k : Nat) (Φ : Nat → Bool → Prop) : Prop := WT F (tW C e) ρ k Φ
abbrev WPA (F : Fm) (C : Cs) (es : List Expr) (ρ : Rho) (k : Nat) (Φ : Nat → List PyData → Prop) : Prop := WA F (tA C es) ρ k Φ
abbrev WPS (F : Fm) (C : Cs) (st : Stmt) (ρ : Rho) (k : Nat) (P : DE) : Prop := WS F (tS C st) ρ k P
abbrev WPB (F : Fm) (C : Cs) (st : List Stmt) (ρ : Rho) (k : Nat) (P : DE) : Prop := WS F (tB C st) ρ k P

section
variable {F : Fm} {C : Cs} {ρ : Rho} {k : Nat} {Φ Φ' : Nat → PyData → Prop} {Ψ Ψ' : Nat → Bool → Prop} {e a b : Expr} {es : List Expr} {pos : Pos} {P : DE}
theorem of_pe {t : TE} (h : ∀ X, Fits C X → PE X e t) (hw : WE F t ρ k Φ) : WPE F C e ρ k Φ := fun σ H Q en j q X fx pins s I => (h X fx).run pins s σ H Q I (hw σ H Q en j q)
theorem of_pt {t : TT} (h : ∀ X, Fits C X → PT X e t) (hw : WT F t ρ k Ψ) : WPT F C e ρ k Ψ := fun σ H Q en j q X fx pins s I => (h X fx).run pins s σ H Q I (hw σ H Q en j q)
theorem of_pw {t : TT} (h : ∀ X, Fits C X → PW X e t) (hw : WT F t ρ k Ψ) : WPW F C e ρ k Ψ := fun σ H Q en j q X fx wh pins s I => (h X fx).run wh pins s σ H Q I (hw σ H Q en j q)
theorem of_pa {t : TA} {Φ : Nat → List PyData → Prop} (h : ∀ X, Fits C X → PA X es t) (hw : WA F t ρ k Φ) : WPA F C es ρ k Φ := fun σ H Q en j q X fx pos pins s I => (h X fx).run pos pins s σ H Q I (hw σ H Q en j q)
theorem of_ps {t : TS} {st : Stmt} (h : ∀ X, Fits C X → PS X st t) (hw : WS F t ρ k P) : WPS F C st ρ k P := fun σ H E en j q1 q2 q3 q4 X fx pins s I => (h X fx).run pins s σ H E I (hw σ H E en j q1 q2 q3 q4)
theorem of_pb {t : TS} {st : List Stmt} (h : ∀ X, Fits C X → PSs X st t) (hw : WS F t ρ k P) : WPB F C st ρ k P := fun σ H E en j q1 q2 q3 q4 X fx pins s I => (h X fx).run pins s σ H E I (hw σ H E en j q1 q2 q3 q4)
theorem WE.imp {t : TE} (h : WE F t ρ k Φ) (i : ∀ k' d, Φ k' d → Φ' k' d) : WE F t ρ k Φ' := fun σ H Q en j q => h σ H Q en j fun v d k' H' l j' r p => q v d k' H' l j' r (i k' d p)
theorem WT.imp {t : TT} (h : WT F t ρ k Ψ) (i : ∀ k' d, Ψ k' d → Ψ' k' d) : WT F t ρ k Ψ' := fun σ H Q en j q => h σ H Q en j fun b k' H' l j' p => q b k' H' l j' (i k' b p)

/-! ### names and constants -/
theorem we_name (i : Nat) {x : Str} {d : PyData} (hN : C.N[i]? = some x) (hv : Vis C.sc x) (hr : ρ[i]? = some (.d d)) (h : Φ k d) (hd : (x == ("__debug__" : Str)) = false := by decide) (hcd : (x == ("__classdict__" : Str)) = false := by decide) : WPE F C (.Name x pos) ρ k Φ :=
  of_pe (t := tVar i) (fun X fx => pe_var (by rw [fx.N]; exact hN) (by rw [fx.sc]; exact hv) hd hcd) fun σ H Q en j q => by
    obtain ⟨v, e, r⟩ := en.d hr
    exact ⟨v, e, q v d k H .refl j r h⟩
theorem we_int {i : Int} {jj : Nat} (h : Φ k (.int i)) : WPE F C (.Constant (.int i) jj pos) ρ k Φ := of_pe (fun X _ => pe_int) fun σ H Q en j q => q _ _ k H .refl j (.int i) h
theorem we_bl {i : Bool} {jj : Nat} (h : Φ k (.bool i)) : WPE F C (.Constant (.bool i) jj pos) ρ k Φ := of_pe (fun X _ => pe_bl) fun σ H Q en j q => q _ _ k H .refl j (.bl i) h
theorem we_str {i : Str} {jj : Nat} (h : Φ k (.str i)) : WPE F C (.Constant (.str i) jj pos) ρ k Φ := of_pe (fun X _ => pe_str) fun σ H Q en j q => q _ _ k H .refl j (.str i) h
theorem we_non {jj : Nat} (h : Φ k .none) : WPE F C (.Constant .none jj pos) ρ k Φ := of_pe (fun X _ => pe_non) fun σ H Q en j q => q _ _ k H .refl j .non h
theorem we_gint {x : Str} {n : Int} {t : Tok} (hg : C.sc.names.lookup x = some .globalImplicit) (hm : C.mg x = some (.int n t)) (h : Φ k (.int n)) (hd : (x == ("__debug__" : Str)) = false := by decide) : WPE F C (.Name x pos) ρ k Φ :=
  of_pe (fun X fx => pe_glob (v := .int n) (u := .int n t) (by show X.env.scope.names.lookup x = _; rw [fx.sc]; exact hg) (by rw [fx.mg]; exact hm) ⟨t, rfl⟩ hd) fun σ H Q en j q => q _ _ k H .refl j (.int n) h

/-! ### operations -/
theorem we_op {r : R2} {ta tb : TE} (h : WE F ta ρ k fun k1 x => WE F tb ρ k1 fun k2 y => RD F r x y k2 Φ) : WE F (tOp r ta tb) ρ k Φ := fun σ H Q en j q =>
  h σ H _ en j fun vx x k1 H1 l1 j1 r1 hx => hx σ H1 _ (en.le l1) j1 fun vy y k2 H2 l2 j2 r2 hy => hy H2 vx vy Q j2 (r1.le l2.lz) r2 fun v d k' H' l' j' r' p => q v d k' H' ((l1.trans l2).trans l') j' r' p
theorem we_bin {op : Operator} {r : R2} (ho : ∀ X, Fits C X → OpR X (binaryOp op) r) (h : WPE F C a ρ k fun k1 x => WPE F C b ρ k1 fun k2 y => RD F r x y k2 Φ) : WPE F C (.BinOp a op b pos) ρ k Φ :=
  of_pe (fun X fx => pe_op (ho X fx) (peE fx) (peE fx)) (we_op h)
theorem we_cmp {op : CmpOp} {r : R2} (ho : ∀ X, Fits C X → OpR X (compareOp op) r) (hm : behindInMarks op b = false) (h : WPE F C a ρ k fun k1 x => WPE F C b ρ k1 fun k2 y => RD F r x y k2 Φ) : WPE F C (.Compare a [op] [b] pos) ρ k Φ :=
  of_pe (fun X fx => pe_cmpR (ho X fx) (peE fx) (peE fx) hm) (we_op h)
theorem wt_test {t : TE} (h : WE F t ρ k fun k1 d => ∃ b, d = .bool b ∧ Ψ k1 b) : WT F (tTest t) ρ k Ψ := fun σ H Q en j q => h σ H _ en j fun v d k' H' l j' r ⟨b, e, p⟩ => by
  subst e; cases r; exact ⟨b, rfl, q b k' H' l j' p⟩
theorem wt_cmp {op : CmpOp} {r : R2} (ho : ∀ X, Fits C X → OpR X (compareOp op) r) (hm : behindInMarks op b = false) (h : WPE F C a ρ k fun k1 x => WPE F C b ρ k1 fun k2 y => RD F r x y k2 fun k3 d => ∃ b, d = .bool b ∧ Ψ k3 b) : WPT F C (.Compare a [op] [b] pos) ρ k Ψ :=
  of_pt (fun X fx => pt_cmpR (ho X fx) (peE fx) (peE fx) hm) (wt_test (we_op h))
/-- an expression whose value is a bool, as a test -/
theorem wt_val (he : ∀ (env : Env) (whole : Sem Value), isTrue e env whole = (do let v ← whole; standAt e.pos; holding [v] (truthy v))) (h : WPE F C e ρ k fun k1 d => ∃ b, d = .bool b ∧ Ψ k1 b) : WPT F C e ρ k Ψ :=
  of_pt (fun X fx => pt_val (peE fx) (he X.env)) fun σ H Q en j q => h σ H _ en j fun v d k' H' l j' r ⟨b, e, p⟩ => by
    subst e; cases r; exact ⟨b, rfl, q b k' H' l j' p⟩
theorem wt_not (h : WPT F C a ρ k fun k1 b => Ψ k1 (!b)) : WPT F C (.UnaryOp .Not a pos) ρ k Ψ :=
  of_pt (fun X fx => pt_not (ptT fx)) fun σ H Q en j q => h σ H _ en j fun b k' H' l j' p => q (!b) k' H' l j' p
theorem we_not (h : WPE F C a ρ k fun k1 d => ∃ b, d = .bool b ∧ Φ k1 (.bool (!b))) : WPE F C (.UnaryOp .Not a pos) ρ k Φ :=
  of_pe (fun X fx => pe_not (peE fx)) fun σ H Q en j q => h σ H _ en j fun v d k' H' l j' r ⟨b, e, p⟩ => by
    subst e; cases r; exact ⟨b, rfl, q _ _ k' H' l j' (.bl _) p⟩
/-- and, or as tests -/
theorem ww_and {rest : List Expr} (h : WPT F C a ρ k fun k1 c => if c = true then WPW F C (.BoolOp .And (b :: rest) pos) ρ k1 Ψ else Ψ k1 false) : WPW F C (.BoolOp .And (a :: b :: rest) pos) ρ k Ψ :=
  of_pw (fun X fx => pw_and (ptT fx) (pwW fx)) fun σ H Q en j q => h σ H _ en j fun c k1 H1 l1 j1 p => by
    cases c with
    | true => exact p σ H1 Q (en.le l1) j1 fun b k' H' l j' p' => q b k' H' (l1.trans l) j' p'
    | false => exact q false k1 H1 l1 j1 p
theorem ww_or {rest : List Expr} (h : WPT F C a ρ k fun k1 c => if c = true then Ψ k1 true else WPW F C (.BoolOp .Or (b :: rest) pos) ρ k1 Ψ) : WPW F C (.BoolOp .Or (a :: b :: rest) pos) ρ k Ψ :=
  of_pw (fun X fx => pw_or (ptT fx) (pwW fx)) fun σ H Q en j q => h σ H _ en j fun c k1 H1 l1 j1 p => by
    cases c with
    | false => exact p σ H1 Q (en.le l1) j1 fun b k' H' l j' p' => q b k' H' (l1.trans l) j' p'
    | true => exact q true k1 H1 l1 j1 p
theorem ww_and1 (h : WPT F C a ρ k Ψ) : WPW F C (.BoolOp .And [a] pos) ρ k Ψ := of_pw (fun X fx => pw_and1 (ptT fx)) h
theorem ww_or1 (h : WPT F C a ρ k Ψ) : WPW F C (.BoolOp .Or [a] pos) ρ k Ψ := of_pw (fun X fx => pw_or1 (ptT fx)) h
theorem wt_bool {op : BoolOp} {es : List Expr} (h : WPW F C (.BoolOp op es pos) ρ k Ψ) : WPT F C (.BoolOp op es pos) ρ k Ψ := of_pt (fun X fx => (pwW fx).pt) h
/-- .. as values -/
theorem we_and {rest : List Expr} (h : WPE F C a ρ k fun k1 d => ∃ c, d = .bool c ∧ if c = true then WPE F C (.BoolOp .And (b :: rest) pos) ρ k1 Φ else Φ k1 (.bool false)) : WPE F C (.BoolOp .And (a :: b :: rest) pos) ρ k Φ :=
  of_pe (fun X fx => pe_and (peE fx) (peE fx)) fun σ H Q en j q => h σ H _ en j fun v d k1 H1 l1 j1 r ⟨c, e, p⟩ => by
    subst e; cases r
    refine ⟨c, rfl, ?_⟩
    cases c with
    | true => exact p σ H1 Q (en.le l1) j1 fun v d k' H' l j' r' p' => q v d k' H' (l1.trans l) j' r' p'
    | false => exact q _ _ k1 H1 l1 j1 (.bl false) p
theorem we_one {op : BoolOp} (h : WPE F C a ρ k Φ) : WPE F C (.BoolOp op [a] pos) ρ k Φ := of_pe (fun X fx => pe_one (peE fx)) h
theorem we_ifExp {c : Expr} (h : WPT F C c ρ k fun k1 z => if z = true then WPE F C a ρ k1 Φ else WPE F C b ρ k1 Φ) : WPE F C (.IfExp c a b pos) ρ k Φ :=
  of_pe (fun X fx => pe_ifExp (ptT fx) (peE fx) (peE fx)) fun σ H Q en j q => h σ H _ en j fun c k1 H1 l1 j1 p => by
    cases c with
    | true => exact p σ H1 Q (en.le l1) j1 fun v d k' H' l j' r' p' => q v d k' H' (l1.trans l) j' r' p'
    | false => exact p σ H1 Q (en.le l1) j1 fun v d k' H' l j' r' p' => q v d k' H' (l1.trans l) j' r' p'
/-- arguments -/
theorem wa_nil {Φ : Nat → List PyData → Prop} (h : Φ k []) : WPA F C [] ρ k Φ := of_pa (fun X fx => pa_nil) fun σ H Q en j q => q [] [] k H .refl j .nil h
theorem wa_cons {Φ : Nat → List PyData → Prop} (hs : ∀ env : Env, starEach (e :: es) env = (false, eval e env) :: starEach es env) (h : WPE F C e ρ k fun k1 x => WPA F C es ρ k1 fun k2 xs => Φ k2 (x :: xs)) : WPA F C (e :: es) ρ k Φ :=
  of_pa (fun X fx => pa_cons (peE fx) (paA fx) (hs X.env)) fun σ H Q en j q => h σ H _ en j fun vx x k1 H1 l1 j1 r1 hx => hx σ H1 _ (en.le l1) j1 fun vs xs k2 H2 l2 j2 r2 hy =>
    q (vx :: vs) (x :: xs) k2 H2 (l1.trans l2) j2 (.cons (r1.le l2.lz) r2) hy
theorem we_tup {x1} (h : WPA F C es ρ k fun k1 ds => ds.length ≤ sizeLine ∧ Φ k1 (.tuple ds)) : WPE F C (.Tuple es x1 pos) ρ k Φ :=
  of_pe (fun X fx => pe_tup (paA fx)) fun σ H Q en j q => h σ H _ en j fun vs ds k1 H1 l1 j1 r1 ⟨hz, p⟩ => ⟨by rw [r1.length]; exact hz, fun p0 hp => q _ (.tuple ds) k1 _ (l1.trans (.new hp)) (j1.new hp) (rep_newT j1 hp r1) p⟩
theorem we_lst (h : WPA F C es ρ k fun k1 ds => ds.length ≤ sizeLine ∧ Φ k1 (.list ds)) : WPE F C (.List es pos) ρ k Φ :=
  of_pe (fun X fx => pe_lst (paA fx)) fun σ H Q en j q => h σ H _ en j fun vs ds k1 H1 l1 j1 r1 ⟨hz, p⟩ => ⟨by rw [r1.length]; exact hz, fun p0 hp => q _ (.list ds) k1 _ (l1.trans (.new hp)) (j1.new hp) (rep_newL j1 hp r1) p⟩
/-- a call of a built-in by its name -/
theorem we_cb {r : List V → Hp → VK → Prop} {ta : TA} (h : WA F ta ρ k fun k1 ds => RA F r ds k1 Φ) : WE F (tCB r ta) ρ k Φ := fun σ H Q en j q =>
  h σ H _ en j fun vs ds k1 H1 l1 j1 r1 p => p H1 vs Q j1 r1 fun v d k' H' l' j' r' p' => q v d k' H' (l1.trans l') j' r' p'
theorem we_callB {r : List V → Hp → VK → Prop} {x : Str} {id : String} {p : Pos} (hc : ∀ X, Fits C X → CallR X (.builtin id) r) (hg : C.sc.names.lookup x = some .globalImplicit) (hm : C.mg x = none) (hv : bootBuiltins x = some (.builtin id))
    (h : WPA F C (e :: es) ρ k fun k1 ds => RA F r ds k1 Φ) (hn : x ≠ "__name__" := by decide) (hdb : (x == ("__debug__" : Str)) = false := by decide) (hss : ∀ env : Env, starEach (e :: es) env = (false, eval e env) :: starEach es env := by intro _; rfl) (hpl : ∀ env : Env, ((backTo pos (starEach es env)).any fun x => x.fst) = false := by intro _; rfl) : WPE F C (.Call (.Name x p) (e :: es) [] pos) ρ k Φ :=
  of_pe (fun X fx => pe_callB (hc X fx) (by show X.env.scope.names.lookup x = _; rw [fx.sc]; exact hg) (by rw [fx.mg]; exact hm) hv (paA fx) hn hdb (hss X.env) (hpl X.env)) (we_cb h)
theorem we_callTy {r : List V → Hp → VK → Prop} {x : Str} {T : String} {p : Pos} (hc : ∀ X, Fits C X → CallR X (.type T) r) (hg : C.sc.names.lookup x = some .globalImplicit) (hm : C.mg x = none) (hv : bootBuiltins x = some (.type T))
    (h : WPA F C (e :: es) ρ k fun k1 ds => RA F r ds k1 Φ) (hn : x ≠ "__name__" := by decide) (hdb : (x == ("__debug__" : Str)) = false := by decide) (hss : ∀ env : Env, starEach (e :: es) env = (false, eval e env) :: starEach es env := by intro _; rfl) (hpl : ∀ env : Env, ((backTo pos (starEach es env)).any fun x => x.fst) = false := by intro _; rfl) : WPE F C (.Call (.Name x p) (e :: es) [] pos) ρ k Φ :=
  of_pe (fun X fx => pe_callTy (hc X fx) (by show X.env.scope.names.lookup x = _; rw [fx.sc]; exact hg) (by rw [fx.mg]; exact hm) hv (paA fx) hn hdb (hss X.env) (hpl X.env)) (we_cb h)
end
end Dl

namespace Dl
open PySem PySem.Spec PyProof.Rows L2

/-! ### statements -/
abbrev DE.seq (P : DE) (n : Nat → Rho → Prop) : DE := ⟨n, P.rt, P.bk, P.ct⟩
abbrev DE.loop (P : DE) (n : Nat → Rho → Prop) : DE := ⟨n, P.rt, P.nx, n⟩
section
variable {F : Fm} {C : Cs} {ρ : Rho} {k : Nat} {Φ Φ' : Nat → PyData → Prop} {Ψ Ψ' : Nat → Bool → Prop} {e a b : Expr} {es : List Expr} {pos : Pos} {P : DE}
theorem WS.imp {t : TS} {P' : DE} (h : WS F t ρ k P) (h1 : ∀ k ρ, P.nx k ρ → P'.nx k ρ) (h2 : ∀ k d, P.rt k d → P'.rt k d) (h3 : ∀ k ρ, P.bk k ρ → P'.bk k ρ) (h4 : ∀ k ρ, P.ct k ρ → P'.ct k ρ) : WS F t ρ k P' :=
  fun σ H E en j q1 q2 q3 q4 => h σ H E en j (fun ρ' σ' k' H' l e j' p => q1 ρ' σ' k' H' l e j' (h1 _ _ p)) (fun v d k' H' j' r p => q2 v d k' H' j' r (h2 _ _ p)) (fun ρ' σ' k' H' l e j' p => q3 ρ' σ' k' H' l e j' (h3 _ _ p)) (fun ρ' σ' k' H' l e j' p => q4 ρ' σ' k' H' l e j' (h4 _ _ p))
theorem wb_nil (h : P.nx k ρ) : WPB F C [] ρ k P := of_pb (fun X fx => pss_nil) fun σ H E en j q1 _ _ _ => q1 ρ σ k H .refl en j h
theorem wb_cons {st : Stmt} {rest : List Stmt} (h : WPS F C st ρ k (P.seq fun k1 ρ1 => WPB F C rest ρ1 k1 P)) : WPB F C (st :: rest) ρ k P :=
  of_pb (fun X fx => pss_cons (psS fx) (pbB fx)) fun σ H E en j q1 q2 q3 q4 =>
    h σ H { E with nx := tB C rest E } en j (fun ρ' σ' k' H' l en' j' p => p σ' H' E en' j' (fun ρ2 σ2 k2 H2 l2 => q1 ρ2 σ2 k2 H2 (l.trans l2)) q2 (fun ρ2 σ2 k2 H2 l2 => q3 ρ2 σ2 k2 H2 (l.trans l2)) (fun ρ2 σ2 k2 H2 l2 => q4 ρ2 σ2 k2 H2 (l.trans l2))) q2 q3 q4
theorem ws_ret (h : WPE F C e ρ k P.rt) : WPS F C (.Return (some e) pos) ρ k P := of_ps (fun X fx => ps_ret (peE fx)) fun σ H E en j _ q2 _ _ => h σ H _ en j fun v d k' H' _ j' r p => q2 v d k' H' j' r p
theorem ws_if {c : Expr} {s1 s2 : List Stmt} (h : WPT F C c ρ k fun k1 z => if z = true then WPB F C s1 ρ k1 P else WPB F C s2 ρ k1 P) : WPS F C (.If c s1 s2 pos) ρ k P :=
  of_ps (fun X fx => ps_if (ptT fx) (pbB fx) (pbB fx)) fun σ H E en j q1 q2 q3 q4 => h σ H _ en j fun z k1 H1 l1 j1 p => by
    have l := l1.lz
    cases z with
    | true => exact p σ H1 E (en.le l1) j1 (fun ρ2 σ2 k2 H2 l2 => q1 ρ2 σ2 k2 H2 (l.trans l2)) q2 (fun ρ2 σ2 k2 H2 l2 => q3 ρ2 σ2 k2 H2 (l.trans l2)) (fun ρ2 σ2 k2 H2 l2 => q4 ρ2 σ2 k2 H2 (l.trans l2))
    | false => exact p σ H1 E (en.le l1) j1 (fun ρ2 σ2 k2 H2 l2 => q1 ρ2 σ2 k2 H2 (l.trans l2)) q2 (fun ρ2 σ2 k2 H2 l2 => q3 ρ2 σ2 k2 H2 (l.trans l2)) (fun ρ2 σ2 k2 H2 l2 => q4 ρ2 σ2 k2 H2 (l.trans l2))
theorem ws_asgName {t : TE} (i : Nat) (h : WE F t ρ k fun k1 d => P.nx k1 (ρ.set i (.d d))) : WS F (tAsg t (gName i)) ρ k P := fun σ H E en j q1 _ _ _ =>
  h σ H _ en j fun v d k1 H1 l1 j1 r p => q1 _ (σ.set i (some v)) k1 H1 l1.lz ((en.le l1).set (sv := .d d) ⟨v, rfl, r⟩) j1 p
/-- what a target wants: no name twice, its place, its kind -/
structure Tgt (C : Cs) (i : Nat) (x : Str) : Prop where
  hN : C.N.Nodup
  hi : C.N[i]? = some x
  hx : Loc C.sc x
  hf : C.fn x = true ∨ C.sc.names.lookup x = some .local
theorem Tgt.pg {i : Nat} {x : Str} (t : Tgt C i x) {X : Cx} (fx : Fits C X) : PG X (.Name x pos) (gName i) :=
  pg_name (by rw [fx.N]; exact t.hN) (by rw [fx.N]; exact t.hi) (by rw [fx.sc]; exact t.hx) (by rw [fx.fn, fx.sc]; exact t.hf)
theorem ws_set (i : Nat) {x : Str} {pos' : Pos} (t : Tgt C i x) (hs : ∀ env : Env, env.scope = C.sc → swapsWith e (some (.Name x pos')) pos.line env = pure false) (h : WPE F C e ρ k fun k1 d => P.nx k1 (ρ.set i (.d d))) : WPS F C (.Assign [.Name x pos'] e pos) ρ k P :=
  of_ps (fun X fx => ps_set (by rw [fx.N]; exact t.hN) (by rw [fx.N]; exact t.hi) (by rw [fx.sc]; exact t.hx) (peE fx) (hs X.env fx.sc) (by rw [fx.fn, fx.sc]; exact t.hf)) (ws_asgName i h)
/-- a, b = a tuple -/
theorem pgTup {es : List Expr} {kk : Nat} {t : TGs} {n : Nat} {X : Cx} (fx : Fits C X) (h : PGs X es t) (hn : (assignEach es X.env).length = n) (hst : (assignEach es X.env).findIdx? (·.1) = none) : PG X (.Tuple es kk pos) (gTup C.K n t) := by
  rw [← fx.K]; exact pg_tup fx.calm h hn hst
theorem piL {X : Cx} (fx : Fits C X) {tg l : Expr} : PI X tg l (iList C.K (tE C l)) := by
  rw [← fx.K]; exact pi_list (peE fx)
theorem piT {X : Cx} (fx : Fits C X) {tg l : Expr} : PI X tg l (iTup C.K (tE C l)) := by
  rw [← fx.K]; exact pi_tup (peE fx)
theorem ws_asg2 (i1 i2 : Nat) {x1 x2 : Str} {p1 p2 p3 : Pos} {kk : Nat} (hne : i1 ≠ i2) (t1 : Tgt C i1 x1) (t2 : Tgt C i2 x2) (hK : F.K = C.K)
    (hs : ∀ env : Env, swapsWithSole [.Tuple [.Name x1 p1, .Name x2 p2] kk p3] e pos.line env = pure false) (hw : ∀ env : Env, swappedStores [.Tuple [.Name x1 p1, .Name x2 p2] kk p3] e env = pure none)
    (h : WPE F C e ρ k fun k1 d => ∃ d1 d2, d = .tuple [d1, d2] ∧ P.nx k1 ((ρ.set i1 (.d d1)).set i2 (.d d2))) : WPS F C (.Assign [.Tuple [.Name x1 p1, .Name x2 p2] kk p3] e pos) ρ k P :=
  of_ps (fun X fx => ps_asg (peE fx) (pgTup (n := 2) fx (pgs_cons (t1.pg fx) (pgs_cons (t2.pg fx) pgs_nil)) (by rfl) (by rfl)) (hs X.env) (hw X.env)) fun σ H E en j q1 _ _ _ =>
    h σ H _ en j fun v d k1 H1 l1 j1 r ⟨d1, d2, e, p⟩ => by
      subst e
      cases r with
      | tup ha hr =>
        cases hr with
        | cons r1 hr =>
          cases hr with
          | cons r2 hr =>
            cases hr
            exact ⟨_, _, rfl, hK ▸ sqt_of ha, rfl, _, _, rfl, _, _, rfl, rfl, q1 _ _ k1 H1 l1.lz (((en.le l1).set (sv := .d d1) ⟨_, rfl, r1⟩).set (sv := .d d2) ⟨_, rfl, r2⟩) j1 p⟩
theorem ws_expr (hs : ∀ env : Env, swapsWith e none pos.line env = pure false) (h : WPE F C e ρ k fun k1 _ => P.nx k1 ρ) : WPS F C (.Expr e pos) ρ k P :=
  of_ps (fun X fx => ps_expr (peE fx) (hs X.env)) fun σ H E en j q1 _ _ _ => h σ H _ en j fun v d k1 H1 l1 j1 r p => q1 ρ σ k1 H1 l1.lz (en.le l1) j1 p
/-! ### for, while -/
theorem ws_for_tup (i : Nat) {x : Str} {px : Pos} {iter : Expr} {body : List Stmt} (t : Tgt C i x) (hK : F.K = C.K) (hfs : ∀ (env : Env) (v : Value), foldedSetIterable iter env v = pure v)
    (h : WPE F C iter ρ k fun k1 d => ∃ (I : Nat → Nat → Rho → Prop) (ds : List PyData), d = .tuple ds ∧ I 0 k1 ρ ∧ (∀ (j : Nat) (y : PyData) k' ρ', ds[j]? = some y → I j k' ρ' → WPB F C body (ρ'.set i (.d y)) k' (P.loop (I (j + 1)))) ∧ (∀ k' ρ', I ds.length k' ρ' → P.nx k' ρ')) :
    WPS F C (.For (.Name x px) iter body [] pos) ρ k P :=
  of_ps (fun X fx => ps_for (by rw [fx.xe]; exact PassesOwn.never) fx.calm (piT fx) (t.pg fx) (pbB fx) (hfs X.env)) fun σ H E en j q1 q2 q3 q4 => by
    show tE C iter σ H _
    refine h σ H _ en j fun v d k1 H1 l1 j1 r hh => ?_
    obtain ⟨I, ds, e, i0, hstep, hend⟩ := hh
    subst e
    cases r with
    | @tup a xs _ ha hr =>
    refine ⟨a, rfl, ⟨xs, hK ▸ sqt_of ha⟩, ?_⟩
    have hlen : xs.length = ds.length := hr.length
    refine for_tup (xs := xs) (fun n σ' H' => ∃ k' ρ', EnvOk F H' σ' ρ' ∧ J F k' H' ∧ Lz F H1 H' ∧ I n k' ρ') ⟨k1, ρ, en.le l1, j1, .refl, i0⟩ ?_ ?_ ?_
    · rintro n σ' H' _ ⟨k', ρ', _, _, lz, _⟩
      have := sqt_of (K := F.K) (⟨lz _ _ (Fm.sxA ha.2) ha.1, ha.2⟩ : H' a = some (.tup xs) ∧ ¬ F.S a)
      exact hK ▸ this
    · rintro n v σ' H' hv ⟨k', ρ', en', j', lz, ii⟩
      obtain ⟨y, hy, ry⟩ := hr.got hv
      refine hstep n y k' ρ' hy ii (σ'.set i (some v)) H' _ (en'.set (sv := .d y) ⟨v, rfl, ry.le lz⟩) j' ?_ q2 ?_ ?_
      · exact fun ρ2 σ2 k2 H2 l2 e2 j2 p => ⟨k2, ρ2, e2, j2, lz.trans l2, p⟩
      · exact fun ρ2 σ2 k2 H2 l2 e2 j2 p => q1 ρ2 σ2 k2 H2 (l1.lz.trans (lz.trans l2)) e2 j2 p
      · exact fun ρ2 σ2 k2 H2 l2 e2 j2 p => ⟨k2, ρ2, e2, j2, lz.trans l2, p⟩
    · rintro σ' H' ⟨k', ρ', en', j', lz, ii⟩
      exact q1 ρ' σ' k' H' (l1.lz.trans lz) en' j' (hend k' ρ' (hlen ▸ ii))
theorem ws_for_range (i : Nat) {x : Str} {px p : Pos} {pos' : Pos} {body : List Stmt} (t : Tgt C i x) (hg : C.sc.names.lookup ("range" : Str) = some .globalImplicit) (hm : C.mg ("range" : Str) = none)
    (hse : ∀ env : Env, starEach [e] env = [(false, eval e env)]) (hfs : ∀ (env : Env) (v : Value), foldedSetIterable (.Call (.Name "range" p) [e] [] pos') env v = pure v)
    (h : WPE F C e ρ k fun k1 d => ∃ (I : Nat → Nat → Rho → Prop) (z : Int), d = .int z ∧ -(2 ^ 62) ≤ z ∧ z < 2 ^ 62 ∧ I 0 k1 ρ ∧ (∀ (j : Nat) k' ρ', j < z.toNat → I j k' ρ' → WPB F C body (ρ'.set i (.d (.int j))) k' (P.loop (I (j + 1)))) ∧ (∀ k' ρ', I z.toNat k' ρ' → P.nx k' ρ')) :
    WPS F C (.For (.Name x px) (.Call (.Name "range" p) [e] [] pos') body [] pos) ρ k P :=
  of_ps (fun X fx => ps_for (by rw [fx.xe]; exact PassesOwn.never) fx.calm (pi_range1 (by show X.env.scope.names.lookup ("range" : Str) = _; rw [fx.sc]; exact hg) (by rw [fx.mg]; exact hm) (pa_cons (peE fx) pa_nil (hse X.env)) (hse X.env)) (t.pg fx) (pbB fx) (hfs X.env)) fun σ H E en j q1 q2 q3 q4 => by
    show tE C e σ H _
    refine h σ H _ en j fun v d k1 H1 l1 j1 r hh => ?_
    obtain ⟨I, z, e, z1, z2, i0, hstep, hend⟩ := hh
    subst e
    cases r
    refine ⟨z, rfl, z1, z2, ?_⟩
    refine for_range (lo := 0) (n := z.toNat) (fun n σ' H' => ∃ k' ρ', EnvOk F H' σ' ρ' ∧ J F k' H' ∧ Lz F H1 H' ∧ I n k' ρ') ⟨k1, ρ, en.le l1, j1, .refl, i0⟩ ?_ ?_
    · rintro n σ' H' hn ⟨k', ρ', en', j', lz, ii⟩
      rw [Int.zero_add]
      refine hstep n k' ρ' hn ii (σ'.set i (some (.int n))) H' _ (en'.set (sv := .d (.int n)) ⟨_, rfl, .int n⟩) j' ?_ q2 ?_ ?_
      · exact fun ρ2 σ2 k2 H2 l2 e2 j2 p => ⟨k2, ρ2, e2, j2, lz.trans l2, p⟩
      · exact fun ρ2 σ2 k2 H2 l2 e2 j2 p => q1 ρ2 σ2 k2 H2 (l1.lz.trans (lz.trans l2)) e2 j2 p
      · exact fun ρ2 σ2 k2 H2 l2 e2 j2 p => ⟨k2, ρ2, e2, j2, lz.trans l2, p⟩
    · rintro σ' H' ⟨k', ρ', en', j', lz, ii⟩
      exact q1 ρ' σ' k' H' (l1.lz.trans lz) en' j' (hend k' ρ' ii)
/-- a while, by a word over the slots with a number that falls -/
theorem ws_while (I : Nat → Nat → Rho → Prop) {c : Expr} {body : List Stmt} (m0 : Nat) (h0 : I m0 k ρ)
    (hstep : ∀ m k' ρ', I m k' ρ' → WPT F C c ρ' k' fun k1 z => if z = true then WPB F C body ρ' k1 (P.loop fun k2 ρ2 => ∃ m2, m2 < m ∧ I m2 k2 ρ2) else P.nx k1 ρ') :
    WPS F C (.While c body [] pos) ρ k P :=
  of_ps (fun X fx => ps_while (by rw [fx.xe]; exact PassesOwn.never) (ptT fx) (pbB fx)) fun σ H E en j q1 q2 q3 q4 => by
    refine ⟨fun m σ' H' => ∃ k' ρ', EnvOk F H' σ' ρ' ∧ J F k' H' ∧ Lz F H H' ∧ I m k' ρ', ⟨m0, k, ρ, en, j, .refl, h0⟩, ?_⟩
    rintro m σ' H' ⟨k', ρ', en', j', lz, ii⟩
    refine hstep m k' ρ' ii σ' H' _ en' j' fun z k1 H1 l1 j1 p => ?_
    cases z with
    | true =>
      refine ⟨fun σ2 H2 => ∃ m2, m2 < m ∧ ∃ k2 ρ2, EnvOk F H2 σ2 ρ2 ∧ J F k2 H2 ∧ Lz F H H2 ∧ I m2 k2 ρ2, fun σ2 H2 ⟨m2, hm, w⟩ => ⟨m2, hm, w⟩, ?_⟩
      refine p σ' H1 _ (en'.le l1) j1 ?_ q2 ?_ ?_
      · exact fun ρ2 σ2 k2 H2 l2 e2 j2 ⟨m2, hm, p⟩ => ⟨m2, hm, k2, ρ2, e2, j2, lz.trans (l1.lz.trans l2), p⟩
      · exact fun ρ2 σ2 k2 H2 l2 e2 j2 p => q1 ρ2 σ2 k2 H2 (lz.trans (l1.lz.trans l2)) e2 j2 p
      · exact fun ρ2 σ2 k2 H2 l2 e2 j2 ⟨m2, hm, p⟩ => ⟨m2, hm, k2, ρ2, e2, j2, lz.trans (l1.lz.trans l2), p⟩
    | false => exact q1 ρ' σ' k1 H1 (lz.trans l1.lz) (en'.le l1) j1 p
end

/-! ### comprehensions -/
def Fm.ext (F : Fm) (D : Addr) : Fm := { F with S := fun b => F.S b ∨ b = D, ms := fun b h => .inl (F.ms b h) }
section
variable {F : Fm} {C : Cs} {ρ : Rho} {k : Nat} {H H1 : Hp} {D : Addr} {σ : L2.St}
theorem J.ext (j : J F k H) (h : Lv H D) : J (F.ext D) k H := ⟨j.g, j.le, fun b hb => hb.elim (j.al b) fun e => e ▸ h⟩
theorem J.unext (j : J (F.ext D) k H) : J F k H := ⟨j.g, j.le, fun b hb => j.al b (.inl hb)⟩
theorem Rep.unext {v : V} {d : PyData} (r : Rp (F.ext D) H v d) : Rp F H v d := Rep.keep (S := (F.ext D).S) (S' := F.S) (fun _ _ _ e => e) (fun b _ z => .inl z) d v r
theorem RepAll.unext {v : List V} {d : List PyData} (r : RpAll (F.ext D) H v d) : RpAll F H v d := RepAll.keep (S := (F.ext D).S) (S' := F.S) (fun _ _ _ e => e) (fun b _ z => .inl z) d v r
theorem Rep.ext {o : HO} {v : V} {d : PyData} (r : Rp F H v d) (h : H D = none) : Rp (F.ext D) (upd H D o) v d :=
  Rep.keep (S := F.S) (S' := (F.ext D).S) (fun b u _ e => by rw [upd_ne (ne_of_none e h)]; exact e) (fun b hb z => z.elim id fun e => absurd (e ▸ h) hb) d v r
theorem RepAll.ext {o : HO} {v : List V} {d : List PyData} (r : RpAll F H v d) (h : H D = none) : RpAll (F.ext D) (upd H D o) v d :=
  RepAll.keep (S := F.S) (S' := (F.ext D).S) (fun b u _ e => by rw [upd_ne (ne_of_none e h)]; exact e) (fun b hb z => z.elim id fun e => absurd (e ▸ h) hb) d v r
theorem EnvOk.ext {o : HO} (en : EnvOk F H σ ρ) (h : H D = none) : EnvOk (F.ext D) (upd H D o) σ ρ := fun i sv e => by
  obtain ⟨x, q, r⟩ := en i sv e
  refine ⟨x, q, ?_⟩
  cases sv with
  | un => trivial
  | d d => obtain ⟨v, e, r⟩ := r; exact ⟨v, e, r.ext h⟩
  | raw v => exact r
  | own o xs =>
    obtain ⟨e, s, m, z, vs, h1, r⟩ := r
    exact ⟨e, .inl s, m, z, vs, by rw [upd_ne (ne_of_none h1 h)]; exact h1, r.ext h⟩
/-- the new list at D changes: the rest is as it was -/
theorem EnvOk.at {o : HO} (en : EnvOk (F.ext D) H σ ρ) (hne : ∀ (i : Nat) o xs, ρ[i]? = some (SV.own o xs) → o ≠ D) : EnvOk (F.ext D) (upd H D o) σ ρ := fun i sv e => by
  obtain ⟨x, q, r⟩ := en i sv e
  have lz : ∀ b u, ¬ (F.ext D).S b → H b = some u → (upd H D o) b = some u := fun b u hb e => by rw [upd_ne fun z => hb (.inr z)]; exact e
  refine ⟨x, q, ?_⟩
  cases sv with
  | un => trivial
  | d d => obtain ⟨v, e, r⟩ := r; exact ⟨v, e, Rep.keep lz (fun _ _ z => z) _ _ r⟩
  | raw v => exact r
  | own o' xs =>
    obtain ⟨e, s, m, z, vs, h1, r⟩ := r
    exact ⟨e, s, m, z, vs, by rw [upd_ne (hne _ _ _ ‹_›)]; exact h1, RepAll.keep lz (fun _ _ z => z) _ _ r⟩
end
end Dl

namespace Dl
open PySem PySem.Spec PyProof.Rows L2
section
variable {F : Fm} {C : Cs} {ρ : Rho} {k : Nat} {H H1 : Hp} {D : Addr} {σ : L2.St} {Φ : Nat → PyData → Prop}
def LeD (F : Fm) (D : Addr) (H H' : Hp) : Prop := ∀ b o, ¬ F.Mx b o → b ≠ D → H b = some o → H' b = some o
theorem LeD.refl : LeD F D H H := fun _ _ _ _ e => e
theorem LeD.trans {H2 : Hp} (a : LeD F D H H1) (b : LeD F D H1 H2) : LeD F D H H2 := fun x o n m e => b x o n m (a x o n m e)
theorem Le.ld (a : Le F H H1) : LeD F D H H1 := fun b o n _ e => a b o n e
theorem LeD.lz (a : LeD F D H H1) (hs : F.S D) : Lz F H H1 := fun b o n e => a b o (fun z => n (z.imp (F.ms b) id)) (fun z => n (.inl (z ▸ hs))) e
theorem EnvOk.ld (en : EnvOk F H σ ρ) (a : LeD F D H H1) (hs : F.S D) (hne : ∀ (i : Nat) o xs, ρ[i]? = some (SV.own o xs) → o ≠ D) : EnvOk F H1 σ ρ := fun i sv e => by
  obtain ⟨x, q, r⟩ := en i sv e
  refine ⟨x, q, ?_⟩
  cases sv with
  | un => trivial
  | d d => obtain ⟨v, e, r⟩ := r; exact ⟨v, e, r.le (a.lz hs)⟩
  | raw v => exact r
  | own o' xs =>
    obtain ⟨e', s, m, z, vs, h1, r⟩ := r
    exact ⟨e', s, m, z, vs, a o' _ (Fm.mxA m) (hne _ _ _ e) h1, r.le (a.lz hs)⟩
theorem lc_turn {tt : TT} {te : TE} {ρ2 : Rho} {σ2 : L2.St} {vs : List V} {acc : List PyData} {I : Nat → List PyData → Prop} {Nx : Hp → Prop} (hM : ¬ F.M D) (hS : F.S D) (h0 : F.H0 D = none)
    (en : EnvOk F H σ2 ρ2) (j : J F k H) (hd : H D = some (.lst vs)) (ra : RpAll F H vs acc) (hz : acc.length < sizeLine)
    (body : WT F tt ρ2 k fun k1 b => if b = true then WE F te ρ2 k1 fun k2 y => I k2 (acc ++ [y]) else I k1 acc)
    (nx : ∀ H' k' vs' acc', acc'.length ≤ acc.length + 1 → LeD F D H H' → H' D = some (.lst vs') → RpAll F H' vs' acc' → J F k' H' → I k' acc' → Nx H') :
    tt σ2 H fun b H3 => if b = true then te σ2 H3 fun y H4 => ∃ acc, H4 D = some (.lst acc) ∧ acc.length < sizeLine ∧ Nx (upd H4 D (.lst (acc ++ [y]))) else Nx H3 := by
  refine body σ2 H _ en j fun b k1 H3 l3 j3 p => ?_
  cases b with
  | false => exact nx H3 k1 vs acc (Nat.le_succ _) l3.ld (l3 D _ (Fm.mxA hM) hd) (ra.le l3.lz) j3 p
  | true =>
    refine p σ2 H3 _ (en.le l3) j3 fun v y k2 H4 l4 j4 r4 q => ?_
    have hd4 : H4 D = some (.lst vs) := l4 D _ (Fm.mxA hM) (l3 D _ (Fm.mxA hM) hd)
    refine ⟨vs, hd4, by rw [ra.length]; exact hz, nx _ k2 _ _ (by rw [List.length_append]; exact Nat.le_refl _) ?_ upd_same ?_ (j4.own hM h0 (pl_lst hd4)) q⟩
    · exact fun b o n m e => by rw [upd_ne m]; exact l4 b o n (l3 b o n e)
    · have lz : Lz F H4 (upd H4 D (.lst (vs ++ [v]))) := fun b o n e => by rw [upd_ne (show b ≠ D from fun z => n (.inl (by rw [z]; exact hS)))]; exact e
      exact (((ra.le l3.lz).le l4.lz).le lz).append (.cons (r4.le lz) .nil)
theorem set_wipe {i : Nat} {x : V} (σ : L2.St) : (wipe σ [i]).set i (some x) = σ.set i (some x) := by
  show (σ.set i none).set i (some x) = _
  rw [List.set_set]
theorem wipe_set {i : Nat} {x : V} (σ : L2.St) : wipe (σ.set i (some x)) [i] = wipe σ [i] := by
  show (σ.set i (some x)).set i none = σ.set i none
  rw [List.set_set]
theorem we_lcL (i : Nat) {tl : TE} {K : PySem.W.Frag} (hK : F.K = K) {tt : TT} {te : TE}
    (h : WE F tl ρ k fun k1 d => ∃ (I : Nat → Nat → List PyData → Prop) (ds : List PyData), d = .list ds ∧ ds.length ≤ 1000000 ∧ I 0 k1 [] ∧ (∀ D (j : Nat) (y : PyData) k' acc, ds[j]? = some y → I j k' acc → WT (F.ext D) tt (ρ.set i (.d y)) k' fun k1 b => if b = true then WE (F.ext D) te (ρ.set i (.d y)) k1 fun k2 z => I (j + 1) k2 (acc ++ [z]) else I (j + 1) k1 acc) ∧ (∀ k' acc, I ds.length k' acc → Φ k' (.list acc))) : WE F (tLc (iList K tl) (gName i) tt te [i]) ρ k Φ := fun σ H Q en j q => by
  show tl σ H _
  refine h σ H _ en j fun v d k1 H1 l1 j1 r hh => ?_
  obtain ⟨I, ds, e, hz, i0, hstep, hend⟩ := hh
  subst e
  cases r with
  | @lst a xs _ ha hr =>
  refine ⟨a, rfl, ⟨xs, hK ▸ sql_of ha⟩, fun D hD => ?_⟩
  have hlen : xs.length = ds.length := hr.length
  have en1 := en.le l1
  have hM : ¬ F.M D := fun z => F.gl _ _ j1.g D z hD
  have hS : ¬ F.S D := j1.fresh hD
  have h0 : F.H0 D = none := j1.h0 hM hD
  have hne : ∀ (i : Nat) o xs, ρ[i]? = some (SV.own o xs) → o ≠ D := fun i o xs e => by
    obtain ⟨x, _, s⟩ := en1 i _ e
    obtain ⟨_, _, _, _, vs, h1, _⟩ := s
    exact ne_of_none h1 hD
  have rr : Rp (F.ext D) (upd H1 D (.lst [])) (.ref a) (.list ds) := Rep.ext (.lst ha hr) hD
  cases rr with
  | @lst _ xs' _ ha' hr' =>
  have exs : True := trivial
  refine lc_list (xs := xs') (fun n H' => ∃ k' vs acc, acc.length ≤ n ∧ EnvOk (F.ext D) H' σ ρ ∧ J (F.ext D) k' H' ∧ LeD (F.ext D) D (upd H1 D (.lst [])) H' ∧ H' D = some (.lst vs) ∧ RpAll (F.ext D) H' vs acc ∧ I n k' acc)
    ⟨k1, [], [], Nat.le_refl _, en1.ext hD, (j1.new hD).ext (lv_new fun _ z => nomatch z), .refl, upd_same, .nil, i0⟩ ?_ ?_ ?_
  · rintro n H' _ ⟨k', vs, acc, _, _, _, ld, _⟩
    have := sql_of (K := F.K) (H := H') (S := (F.ext D).S) ⟨ld.lz (.inr rfl) _ _ (Fm.sxA ha'.2) ha'.1, ha'.2⟩
    exact hK ▸ this
  · rintro n v H' hv ⟨k', vs, acc, hle, en', j', ld, hd, ra, ii⟩
    obtain ⟨y, hy, ry⟩ := hr'.got hv
    show (wipe ((wipe σ [i]).set i (some v)) [i] = wipe σ [i] ∧ _)
    rw [set_wipe]
    refine ⟨wipe_set σ, ?_⟩
    have hn : n < ds.length := (List.getElem?_eq_some_iff.mp hy).1
    refine lc_turn (F := F.ext D) (I := fun k acc => I (n + 1) k acc) hM (.inr rfl) h0 (en'.set (sv := .d y) ⟨v, rfl, ry.le (ld.lz (.inr rfl))⟩) j' hd ra (Nat.lt_of_le_of_lt (show acc.length ≤ 1000000 by omega) (by decide)) (hstep D n y k' acc hy ii) fun H2 k2 vs2 acc2 hl2 ld2 hd2 ra2 j2 i2 => ?_
    exact ⟨k2, vs2, acc2, by omega, en'.ld ld2 (.inr rfl) hne, j2, ld.trans ld2, hd2, ra2, i2⟩
  · rintro H' ⟨k', vs, acc, hle, en', j', ld, hd, ra, ii⟩
    refine q (.ref D) (.list acc) k' H' ?_ j'.unext (.lst ⟨hd, hS⟩ ra.unext) (hend k' acc (by rw [← hr'.length]; exact ii))
    exact fun b o n e => ld b o n (ne_of_none (l1 b o n e) hD) (by rw [upd_ne (ne_of_none (l1 b o n e) hD)]; exact l1 b o n e)
theorem we_lcT (i : Nat) {tl : TE} {K : PySem.W.Frag} (hK : F.K = K) {tt : TT} {te : TE}
    (h : WE F tl ρ k fun k1 d => ∃ (I : Nat → Nat → List PyData → Prop) (ds : List PyData), d = .tuple ds ∧ ds.length ≤ 1000000 ∧ I 0 k1 [] ∧ (∀ D (j : Nat) (y : PyData) k' acc, ds[j]? = some y → I j k' acc → WT (F.ext D) tt (ρ.set i (.d y)) k' fun k1 b => if b = true then WE (F.ext D) te (ρ.set i (.d y)) k1 fun k2 z => I (j + 1) k2 (acc ++ [z]) else I (j + 1) k1 acc) ∧ (∀ k' acc, I ds.length k' acc → Φ k' (.list acc))) : WE F (tLc (iTup K tl) (gName i) tt te [i]) ρ k Φ := fun σ H Q en j q => by
  show tl σ H _
  refine h σ H _ en j fun v d k1 H1 l1 j1 r hh => ?_
  obtain ⟨I, ds, e, hz, i0, hstep, hend⟩ := hh
  subst e
  cases r with
  | @tup a xs _ ha hr =>
  refine ⟨a, rfl, ⟨xs, hK ▸ sqt_of ha⟩, fun D hD => ?_⟩
  have hlen : xs.length = ds.length := hr.length
  have en1 := en.le l1
  have hM : ¬ F.M D := fun z => F.gl _ _ j1.g D z hD
  have hS : ¬ F.S D := j1.fresh hD
  have h0 : F.H0 D = none := j1.h0 hM hD
  have hne : ∀ (i : Nat) o xs, ρ[i]? = some (SV.own o xs) → o ≠ D := fun i o xs e => by
    obtain ⟨x, _, s⟩ := en1 i _ e
    obtain ⟨_, _, _, _, vs, h1, _⟩ := s
    exact ne_of_none h1 hD
  have rr : Rp (F.ext D) (upd H1 D (.lst [])) (.ref a) (.tuple ds) := Rep.ext (.tup ha hr) hD
  cases rr with
  | @tup _ xs' _ ha' hr' =>
  have exs : True := trivial
  refine lc_tup (xs := xs') (fun n H' => ∃ k' vs acc, acc.length ≤ n ∧ EnvOk (F.ext D) H' σ ρ ∧ J (F.ext D) k' H' ∧ LeD (F.ext D) D (upd H1 D (.lst [])) H' ∧ H' D = some (.lst vs) ∧ RpAll (F.ext D) H' vs acc ∧ I n k' acc)
    ⟨k1, [], [], Nat.le_refl _, en1.ext hD, (j1.new hD).ext (lv_new fun _ z => nomatch z), .refl, upd_same, .nil, i0⟩ ?_ ?_ ?_
  · rintro n H' _ ⟨k', vs, acc, _, _, _, ld, _⟩
    have := sqt_of (K := F.K) (H := H') (S := (F.ext D).S) ⟨ld.lz (.inr rfl) _ _ (Fm.sxA ha'.2) ha'.1, ha'.2⟩
    exact hK ▸ this
  · rintro n v H' hv ⟨k', vs, acc, hle, en', j', ld, hd, ra, ii⟩
    obtain ⟨y, hy, ry⟩ := hr'.got hv
    show (wipe ((wipe σ [i]).set i (some v)) [i] = wipe σ [i] ∧ _)
    rw [set_wipe]
    refine ⟨wipe_set σ, ?_⟩
    have hn : n < ds.length := (List.getElem?_eq_some_iff.mp hy).1
    refine lc_turn (F := F.ext D) (I := fun k acc => I (n + 1) k acc) hM (.inr rfl) h0 (en'.set (sv := .d y) ⟨v, rfl, ry.le (ld.lz (.inr rfl))⟩) j' hd ra (Nat.lt_of_le_of_lt (show acc.length ≤ 1000000 by omega) (by decide)) (hstep D n y k' acc hy ii) fun H2 k2 vs2 acc2 hl2 ld2 hd2 ra2 j2 i2 => ?_
    exact ⟨k2, vs2, acc2, by omega, en'.ld ld2 (.inr rfl) hne, j2, ld.trans ld2, hd2, ra2, i2⟩
  · rintro H' ⟨k', vs, acc, hle, en', j', ld, hd, ra, ii⟩
    refine q (.ref D) (.list acc) k' H' ?_ j'.unext (.lst ⟨hd, hS⟩ ra.unext) (hend k' acc (by rw [← hr'.length]; exact ii))
    exact fun b o n e => ld b o n (ne_of_none (l1 b o n e) hD) (by rw [upd_ne (ne_of_none (l1 b o n e) hD)]; exact l1 b o n e)
theorem we_lcR (i : Nat) {tl : TE} {tt : TT} {te : TE}
    (h : WE F tl ρ k fun k1 d => ∃ (I : Nat → Nat → List PyData → Prop) (z : Int), d = .int z ∧ -(2 ^ 62) ≤ z ∧ z ≤ 1000000 ∧ I 0 k1 [] ∧ (∀ D (j : Nat) k' acc, j < z.toNat → I j k' acc → WT (F.ext D) tt (ρ.set i (.d (.int j))) k' fun k1 b => if b = true then WE (F.ext D) te (ρ.set i (.d (.int j))) k1 fun k2 z => I (j + 1) k2 (acc ++ [z]) else I (j + 1) k1 acc) ∧ (∀ k' acc, I z.toNat k' acc → Φ k' (.list acc))) : WE F (tLc (iRng1 (tCons tl tNil)) (gName i) tt te [i]) ρ k Φ := fun σ H Q en j q => by
  show tl σ H _
  refine h σ H _ en j fun v d k1 H1 l1 j1 r hh => ?_
  obtain ⟨I, z, e, z1, z2, i0, hstep, hend⟩ := hh
  subst e
  cases r
  refine ⟨z, rfl, z1, by omega, fun D hD => ?_⟩
  have en1 := en.le l1
  have hM : ¬ F.M D := fun z => F.gl _ _ j1.g D z hD
  have hS : ¬ F.S D := j1.fresh hD
  have h0 : F.H0 D = none := j1.h0 hM hD
  have hne : ∀ (i : Nat) o xs, ρ[i]? = some (SV.own o xs) → o ≠ D := fun i o xs e => by
    obtain ⟨x, _, s⟩ := en1 i _ e
    obtain ⟨_, _, _, _, vs, h1, _⟩ := s
    exact ne_of_none h1 hD
  refine lc_range (lo := 0) (n := z.toNat) (fun n H' => ∃ k' vs acc, acc.length ≤ n ∧ EnvOk (F.ext D) H' σ ρ ∧ J (F.ext D) k' H' ∧ LeD (F.ext D) D (upd H1 D (.lst [])) H' ∧ H' D = some (.lst vs) ∧ RpAll (F.ext D) H' vs acc ∧ I n k' acc)
    ⟨k1, [], [], Nat.le_refl _, en1.ext hD, (j1.new hD).ext (lv_new fun _ z => nomatch z), .refl, upd_same, .nil, i0⟩ ?_ ?_
  · rintro n H' hn ⟨k', vs, acc, hle, en', j', ld, hd, ra, ii⟩
    rw [Int.zero_add]
    show (wipe ((wipe σ [i]).set i (some (.int n))) [i] = wipe σ [i] ∧ _)
    rw [set_wipe]
    refine ⟨wipe_set σ, ?_⟩
    refine lc_turn (F := F.ext D) (I := fun k acc => I (n + 1) k acc) hM (.inr rfl) h0 (en'.set (sv := .d (.int n)) ⟨_, rfl, .int n⟩) j' hd ra (Nat.lt_of_le_of_lt (show acc.length ≤ 1000000 by omega) (by decide)) (hstep D n k' acc hn ii) fun H2 k2 vs2 acc2 hl2 ld2 hd2 ra2 j2 i2 => ?_
    exact ⟨k2, vs2, acc2, by omega, en'.ld ld2 (.inr rfl) hne, j2, ld.trans ld2, hd2, ra2, i2⟩
  · rintro H' ⟨k', vs, acc, hle, en', j', ld, hd, ra, ii⟩
    refine q (.ref D) (.list acc) k' H' ?_ j'.unext (.lst ⟨hd, hS⟩ ra.unext) (hend k' acc ii)
    exact fun b o n e => ld b o n (ne_of_none (l1 b o n e) hD) (by rw [upd_ne (ne_of_none (l1 b o n e) hD)]; exact l1 b o n e)

theorem wt_yes {Ψ : Nat → Bool → Prop} (h : Ψ k true) : WT F tYes ρ k Ψ := fun σ H Q en j q => q true k H .refl j h
end
/-! comprehensions as expressions, as values given to a name -/
section
variable {F : Fm} {C : Cs} {ρ : Rho} {k : Nat} {Φ : Nat → PyData → Prop} {P : DE} {pos spos : Pos} {elt iter : Expr} {scope : Scope} {i : Nat} {x : Str} {px : Pos}
/-- what a comprehension's block wants: its own name at the place i -/
structure Blk (C : Cs) (scope : Scope) (i : Nat) (x : Str) : Prop where
  ok : BlkOk C.N C.sc scope [(x, i)]
  t : Tgt (C.blk scope) i x
theorem pe_lcX {X : Cx} (fx : Fits C X) (b : Blk C scope i x) {ifs : List Expr} {wi : TI} {tt : TT} (hi : PI X (.Name x px) iter wi) (ht : ∀ X', Fits (C.blk scope) X' → PTs X' ifs tt) (hs : ∀ (env : Env) (v : Value), foldedSetIterable iter env v = pure v) :
    PE X (.ListComp elt [⟨.Name x px, iter, ifs, 0⟩] scope pos) (tLc wi (gName i) tt (tE (C.blk scope) elt) [i]) :=
  pe_lc (own := [(x, i)]) fx.calm (by rw [fx.N]; exact b.t.hN) hi (by rw [fx.N, fx.sc]; exact b.ok) (fun s H a cl fp => b.t.pg (fx.blk s H scope a cl fp)) (fun s H a cl fp => ht _ (fx.blk s H scope a cl fp)) (fun s H a cl fp => peE (fx.blk s H scope a cl fp)) (hs X.env)
theorem we_compL0 (i : Nat) {x : Str} {px : Pos} (b : Blk C scope i x) (hK : F.K = C.K) (hfs : ∀ (env : Env) (v : Value), foldedSetIterable iter env v = pure v)
    (h : WPE F C iter ρ k fun k1 d => ∃ (I : Nat → Nat → List PyData → Prop) (ds : List PyData), d = .list ds ∧ ds.length ≤ 1000000 ∧ I 0 k1 [] ∧ (∀ D (j : Nat) (y : PyData) k' acc, ds[j]? = some y → I j k' acc → WPE (F.ext D) (C.blk scope) elt (ρ.set i (.d y)) k' fun k2 z => I (j + 1) k2 (acc ++ [z])) ∧ (∀ k' acc, I ds.length k' acc → Φ k' (.list acc))) : WPE F C (.ListComp elt [⟨.Name x px, iter, [], 0⟩] scope pos) ρ k Φ :=
  of_pe (fun X fx => pe_lcX fx b (piL fx) (fun _ _ => pts_nil) hfs) (we_lcL i hK (h.imp fun k1 d ⟨I, ds, e, hz, i0, hs, he⟩ => ⟨I, ds, e, hz, i0, fun D j y k' acc hy ii => wt_yes (by rw [if_pos rfl]; exact hs D j y k' acc hy ii), he⟩))
theorem we_compL1 (i : Nat) {x : Str} {px : Pos} {c : Expr} (b : Blk C scope i x) (hK : F.K = C.K) (hfs : ∀ (env : Env) (v : Value), foldedSetIterable iter env v = pure v)
    (h : WPE F C iter ρ k fun k1 d => ∃ (I : Nat → Nat → List PyData → Prop) (ds : List PyData), d = .list ds ∧ ds.length ≤ 1000000 ∧ I 0 k1 [] ∧ (∀ D (j : Nat) (y : PyData) k' acc, ds[j]? = some y → I j k' acc → WPT (F.ext D) (C.blk scope) c (ρ.set i (.d y)) k' fun k1 b => if b = true then WPE (F.ext D) (C.blk scope) elt (ρ.set i (.d y)) k1 fun k2 z => I (j + 1) k2 (acc ++ [z]) else I (j + 1) k1 acc) ∧ (∀ k' acc, I ds.length k' acc → Φ k' (.list acc))) : WPE F C (.ListComp elt [⟨.Name x px, iter, [c], 0⟩] scope pos) ρ k Φ :=
  of_pe (fun X fx => pe_lcX fx b (piL fx) (fun X' fx' => pts_one (ptT fx')) hfs) (we_lcL i hK h)
theorem we_compT0 (i : Nat) {x : Str} {px : Pos} (b : Blk C scope i x) (hK : F.K = C.K) (hfs : ∀ (env : Env) (v : Value), foldedSetIterable iter env v = pure v)
    (h : WPE F C iter ρ k fun k1 d => ∃ (I : Nat → Nat → List PyData → Prop) (ds : List PyData), d = .tuple ds ∧ ds.length ≤ 1000000 ∧ I 0 k1 [] ∧ (∀ D (j : Nat) (y : PyData) k' acc, ds[j]? = some y → I j k' acc → WPE (F.ext D) (C.blk scope) elt (ρ.set i (.d y)) k' fun k2 z => I (j + 1) k2 (acc ++ [z])) ∧ (∀ k' acc, I ds.length k' acc → Φ k' (.list acc))) : WPE F C (.ListComp elt [⟨.Name x px, iter, [], 0⟩] scope pos) ρ k Φ :=
  of_pe (fun X fx => pe_lcX fx b (piT fx) (fun _ _ => pts_nil) hfs) (we_lcT i hK (h.imp fun k1 d ⟨I, ds, e, hz, i0, hs, he⟩ => ⟨I, ds, e, hz, i0, fun D j y k' acc hy ii => wt_yes (by rw [if_pos rfl]; exact hs D j y k' acc hy ii), he⟩))
theorem we_compT1 (i : Nat) {x : Str} {px : Pos} {c : Expr} (b : Blk C scope i x) (hK : F.K = C.K) (hfs : ∀ (env : Env) (v : Value), foldedSetIterable iter env v = pure v)
    (h : WPE F C iter ρ k fun k1 d => ∃ (I : Nat → Nat → List PyData → Prop) (ds : List PyData), d = .tuple ds ∧ ds.length ≤ 1000000 ∧ I 0 k1 [] ∧ (∀ D (j : Nat) (y : PyData) k' acc, ds[j]? = some y → I j k' acc → WPT (F.ext D) (C.blk scope) c (ρ.set i (.d y)) k' fun k1 b => if b = true then WPE (F.ext D) (C.blk scope) elt (ρ.set i (.d y)) k1 fun k2 z => I (j + 1) k2 (acc ++ [z]) else I (j + 1) k1 acc) ∧ (∀ k' acc, I ds.length k' acc → Φ k' (.list acc))) : WPE F C (.ListComp elt [⟨.Name x px, iter, [c], 0⟩] scope pos) ρ k Φ :=
  of_pe (fun X fx => pe_lcX fx b (piT fx) (fun X' fx' => pts_one (ptT fx')) hfs) (we_lcT i hK h)
theorem we_compR0 (i : Nat) {x : Str} {px : Pos} (b : Blk C scope i x) {e : Expr} {pr pr2 : Pos} (hg : C.sc.names.lookup ("range" : Str) = some .globalImplicit) (hm : C.mg ("range" : Str) = none) (hse : ∀ env : Env, starEach [e] env = [(false, eval e env)]) (hfs : ∀ (env : Env) (v : Value), foldedSetIterable (.Call (.Name "range" pr) [e] [] pr2) env v = pure v)
    (h : WPE F C e ρ k fun k1 d => ∃ (I : Nat → Nat → List PyData → Prop) (z : Int), d = .int z ∧ -(2 ^ 62) ≤ z ∧ z ≤ 1000000 ∧ I 0 k1 [] ∧ (∀ D (j : Nat) k' acc, j < z.toNat → I j k' acc → WPE (F.ext D) (C.blk scope) elt (ρ.set i (.d (.int j))) k' fun k2 z => I (j + 1) k2 (acc ++ [z])) ∧ (∀ k' acc, I z.toNat k' acc → Φ k' (.list acc))) : WPE F C (.ListComp elt [⟨.Name x px, (.Call (.Name "range" pr) [e] [] pr2), [], 0⟩] scope pos) ρ k Φ :=
  of_pe (fun X fx => pe_lcX fx b (pi_range1 (by show X.env.scope.names.lookup ("range" : Str) = _; rw [fx.sc]; exact hg) (by rw [fx.mg]; exact hm) (pa_cons (peE fx) pa_nil (hse X.env)) (hse X.env)) (fun _ _ => pts_nil) hfs) (we_lcR i (h.imp fun k1 d ⟨I, z, e, z1, z2, i0, hs, he⟩ => ⟨I, z, e, z1, z2, i0, fun D j k' acc hj ii => wt_yes (by rw [if_pos rfl]; exact hs D j k' acc hj ii), he⟩))
theorem we_compR1 (i : Nat) {x : Str} {px : Pos} {c : Expr} (b : Blk C scope i x) {e : Expr} {pr pr2 : Pos} (hg : C.sc.names.lookup ("range" : Str) = some .globalImplicit) (hm : C.mg ("range" : Str) = none) (hse : ∀ env : Env, starEach [e] env = [(false, eval e env)]) (hfs : ∀ (env : Env) (v : Value), foldedSetIterable (.Call (.Name "range" pr) [e] [] pr2) env v = pure v)
    (h : WPE F C e ρ k fun k1 d => ∃ (I : Nat → Nat → List PyData → Prop) (z : Int), d = .int z ∧ -(2 ^ 62) ≤ z ∧ z ≤ 1000000 ∧ I 0 k1 [] ∧ (∀ D (j : Nat) k' acc, j < z.toNat → I j k' acc → WPT (F.ext D) (C.blk scope) c (ρ.set i (.d (.int j))) k' fun k1 b => if b = true then WPE (F.ext D) (C.blk scope) elt (ρ.set i (.d (.int j))) k1 fun k2 z => I (j + 1) k2 (acc ++ [z]) else I (j + 1) k1 acc) ∧ (∀ k' acc, I z.toNat k' acc → Φ k' (.list acc))) : WPE F C (.ListComp elt [⟨.Name x px, (.Call (.Name "range" pr) [e] [] pr2), [c], 0⟩] scope pos) ρ k Φ :=
  of_pe (fun X fx => pe_lcX fx b (pi_range1 (by show X.env.scope.names.lookup ("range" : Str) = _; rw [fx.sc]; exact hg) (by rw [fx.mg]; exact hm) (pa_cons (peE fx) pa_nil (hse X.env)) (hse X.env)) (fun X' fx' => pts_one (ptT fx')) hfs) (we_lcR i h)
end
end Dl

namespace Dl
open PySem PySem.Spec PyProof.Rows L2

/-! ### defs whose promise holds where no repr is under way -/
structure FnG (P : Program) (w : World) (K : PySem.W.Frag) (mg : Str → Option Value) (base : Heap) (k : Nat) (f : Addr) (fd : FuncData) (ps : List Str) (sp : Sp) : Prop where
  len : ∀ vs H Q E, sp vs H Q E → vs.length = ps.length
  run : ∀ (A : Around) (outer : List Env) (s : Shared) (H : Hp) (args : Args) (us : List Value) (vs : List V) (Q : VK), A.guards = some [] → Room k A → Env0 P w K mg base A outer s H → BindsTo s fd args (ps.zip us) → Vals vs us → sp vs H Q E0 →
    codeAny (model P w) A (.call (.ref f) args) (CR CX0 outer P w H s Q E0) s
section
variable {P : Program} {w : World} {K : PySem.W.Frag} {mg : Str → Option Value} {base : Heap}
theorem FnG.of_body {x qual : Str} {st : Stmt} {f : Addr} {fd : FuncData} {N ps : List Str} {k : Nat} {sp : Sp} (Fn : Fun K x qual st f fd) (Sc : FnScope N ps (defScope st)) (len : ∀ vs H Q E, sp vs H Q E → vs.length = ps.length)
    (body : ∀ (cdv : Value) (A : Around) (outer : List Env) (s : Shared) (H : Hp) (vs : List V) (Q : VK), A.guards = some [] → Room k (A.deeper (envOfC qual (defScope st) s.heap.objs.size f cdv)) → sp vs H Q E0 →
      ∃ t, PSs (cxOf CX0 P w K mg base N qual (defScope st) f cdv A outer s H E0).nox (defBody st) t ∧ t { nx := fun _ H' => Q .non H', rt := Q } (L2.start N vs) H) :
    FnG P w K mg base (k + 1) f fd ps sp := by
  obtain ⟨oc, od, kV, doc, pm, an, cdv, ct, osl, efd, look, hcode⟩ := Fn.ex
  subst efd
  constructor
  · exact len
  intro A outer s H args us vs Q hgd room env hbind rel hsp
  have hlen := len vs H Q E0 hsp
  have inK : K.In s.heap := env.mod.kin.keeps fun b o z => (env.bs b o z).1
  have nolim : s.heap.NoLimit := env.mod.nolimit.keeps fun b o z => (env.bs b o z).1
  refine codeAny_call_function room.depth (inK f _ look) rfl Sc.co Sc.gen rfl (PySem.W.codeRec_of inK hcode) (hbind _ _ _ _ ?_)
  have kinds : ∀ y ∈ ps.zip us, (defScope st).names.lookup y.1 = some .local ∨ ((defScope st).names.lookup y.1 = some .cell ∧ ((cellsFrom (s.heap.objs.size + 1) (defScope st).names []).lookup y.1).isSome = true) := by
    rintro ⟨n, v⟩ hy
    have hn : n ∈ ps := (List.of_mem_zip hy).1
    cases Sc.par n hn with
    | inl q => left; exact q
    | inr q => right; exact ⟨q, PySem.W.cellsFrom_some _ _ _ (Or.inl q)⟩
  apply wpAny_newFunctionEnv_cells Sc.kind kinds
  intro env' he s1 ic
  subst he
  refine ⟨nolim.keeps ic.toInCall.keep, codeAny_func ?_⟩
  obtain ⟨t, ht, hq⟩ := body cdv A outer s H vs Q hgd (room.deeper _) hsp
  have inv : Inv (cxOf CX0 P w K mg base N qual (defScope st) f cdv A outer s H E0) [] (L2.start N vs) H s1 := inv_start Sc room.hd env hlen rel ic
  refine wpAny_mono (ht.nox.run [] s1 _ H _ inv hq) ?_ (fun e s' z => z)
  intro fl s' hfl
  cases fl with
  | ret u => exact let ⟨v, _, H', j, rv, q⟩ := hfl; ⟨v, H', j.os, j.bare, j.base, j.hok, rv, q⟩
  | next => exact let ⟨_, H', j, q⟩ := hfl; ⟨V.non, H', j.os, j.bare, j.base, j.hok, rfl, q⟩
  | brk => exact let ⟨_, _, _, q⟩ := hfl; False.elim q
  | cont => exact let ⟨_, _, _, q⟩ := hfl; False.elim q
theorem FnG.mono {j k : Nat} {f : Addr} {fd : FuncData} {ps : List Str} {sp : Sp} (G : FnG P w K mg base j f fd ps sp) (h : j ≤ k) : FnG P w K mg base k f fd ps sp :=
  ⟨G.len, fun A outer s H args us vs Q g room => G.run A outer s H args us vs Q g (room.mono h)⟩
end
section
variable {X : Cx} {x : Str} {p pos : Pos} {e : Expr} {es : List Expr} {t : TA} {k : Nat} {f : Addr} {fd : FuncData} {ps : List Str} {sp : Sp}
theorem FnG.call_run {pins : List (Addr × Obj)} {σ : L2.St} {H : Hp} {s : Shared} {Q : VK} {us : List Value} {vs : List V} (G : FnG X.prog X.w X.K X.mg X.base k f fd ps sp) (gd : X.A.guards = some []) (room : Room k X.A) (hb : L2.Binds X.K fd ps [])
    (I : Inv X pins σ H s) (r : Vals vs us) (h : sp vs H Q E0) : wpAny (model X.prog X.w) X.A (call (.ref f) us) (EP X pins σ Q) X.xe s := by
  have hl : us.length = ps.length := r.length.symm.trans (G.len vs H Q E0 h)
  have bind := hb s us I.kIn (by rw [List.append_nil]; exact hl)
  rw [List.append_nil] at bind
  refine wpAny_call (codeAny_mono (G.run X.A X.stack s H ⟨us, []⟩ us vs Q gd room I.env0 bind r h) ?_)
  intro res s' hr
  match res, hr with
  | .ok (.ret u), hr => exact I.after hr
  | .ok .next, hr => exact False.elim hr
  | .ok .brk, hr => exact False.elim hr
  | .ok .cont, hr => exact False.elim hr
  | .error _, hr => exact False.elim hr
theorem FnG.pe (G : FnG X.prog X.w X.K X.mg X.base k f fd ps sp) (gd : X.A.guards = some []) (room : Room k X.A) (hb : L2.Binds X.K fd ps []) (hg : Gl X x) (hm : X.mg x = some (.ref f)) (kp : PySem.W.keepIn X.K (.ref f) = true)
    (ha : PA X (e :: es) t) (hdb : (x == ("__debug__" : Str)) = false) (hss : starEach (e :: es) X.env = (false, eval e X.env) :: starEach es X.env) (hpl : ((backTo pos (starEach es X.env)).any fun z => z.fst) = false) :
    PE X (.Call (.Name x p) (e :: es) [] pos) (fun σ H Q => t σ H fun vs H1 => sp vs H1 Q E0) := by
  constructor
  intro pins s σ H Q I h
  refine wpAny_Call_Name_kw (ld_glob I hg hm ?_ hdb)
  refine PySem.W.callWith_K (h₀ := X.base) I.ok.mod.kin kp (wpAny_mono (ha.run pos pins s σ H _ I h) ?_ fun _ _ z => z) hss hpl
  rintro us s1 ⟨vs, H1, I1, rv, q⟩
  exact ⟨I1.kIn, G.call_run gd room hb I1 rv q⟩
end
/-! ### the law's end -/
theorem law_end {P : Program} {w : World} {K : PySem.W.Frag} {mg mb : Str → Option Value} {k : Nat} {fa a : Addr} {fd : FuncData} {x : Str} {sp : Sp} {s1 : Shared} {vs : List Value} {ns : List Int}
    (inK : K.In s1.heap) (hns : s1.heap.Ns mainGlobals mg) (hbl : s1.heap.Ns builtinsNs mb) (hboot : ∀ x : Str, x ≠ "__name__" → mb x = bootBuiltins x) (nolim : s1.heap.NoLimit) (nogen : s1.gens = #[])
    (ha : s1.heap.get? a = some { cls := .type "list", data := .seq vs.toArray }) (hint : IntsAre vs ns) (hlen : ns.length ≤ sizeLine) (room : Room k callerA)
    (G : ∀ base : Heap, K.In base → base.Ns mainGlobals mg → FnG P w K mg base k fa fd [x] sp) (hbind : ∀ (s : Shared) (u : Value), BindsTo s fd ⟨[u], []⟩ [(x, u)])
    (hsp : ∀ H : Hp, (∀ b, H b = none ∨ ∃ o xs, H b = some (.frz o (.lst xs))) → SqL K H a (ns.map V.int) → sp [.ref a] H (fun v _ => v = .bl true) E0) :
    codeAny (model P w) callerA (.call (.ref fa) ⟨[.ref a], []⟩) (fun r s' => r = .ok (.ret (.bool true)) ∧ OldK s1.heap s'.heap ∧ s'.os = s1.os ∧ AllBare s'.gens) s1 := by
  -- the abstract heap: the script alone, where it is none of the module's own
  let H : Hp := fun b => if b = a ∧ K.lookup a = none then some (.frz { cls := .type "list", data := .seq vs.toArray } (.lst (ns.map V.int))) else none
  have Hcase : ∀ b, H b = none ∨ (b = a ∧ K.lookup a = none ∧ H b = some (.frz { cls := .type "list", data := .seq vs.toArray } (.lst (ns.map V.int)))) := by
    intro b
    by_cases c : b = a ∧ K.lookup a = none
    · exact Or.inr ⟨c.1, c.2, if_pos c⟩
    · exact Or.inl (if_neg c)
  have only : ∀ b, H b = none ∨ ∃ o xs, H b = some (.frz o (.lst xs)) := fun b => (Hcase b).imp id fun z => ⟨_, _, z.2.2⟩
  have rel : Vals (ns.map V.int) vs := vals_ints hint
  have hsq : SqL K H a (ns.map V.int) := by
    cases c : K.lookup a with
    | none => exact Or.inl (Or.inr ⟨_, if_pos ⟨rfl, c⟩⟩)
    | some o =>
      have z := inK a o c
      rw [ha] at z
      cases z
      exact Or.inr ⟨_, vs.toArray, _, c, rfl, rfl, rfl, (by rw [List.size_toArray, ← rel.length, List.length_map]; exact hlen), (by simpa using rel)⟩
  have hok : HOk P w H s1.heap := by
    intro b u z
    rcases Hcase b with q | ⟨e, _, q⟩
    · rw [q] at z; cases z
    · rw [q] at z
      cases z
      subst e
      exact ⟨ha, by rw [List.length_map]; exact hlen, vs, _, rel, ha⟩
  -- what is not the script stands in the base
  have keepB : ∀ {b : Addr} {o : Obj}, s1.heap.get? b = some o → H b = none → (hidT s1.heap H).get? b = some o := fun z n => hidT_get z n
  have nsB : ∀ {b : Addr} {m : Str → Option Value}, s1.heap.Ns b m → (hidT s1.heap H).Ns b m := by
    rintro b m ⟨o, es, ep, z, d, r⟩
    refine ⟨o, es, ep, keepB z ?_, d, r⟩
    rcases Hcase b with q | ⟨e, _, _⟩
    · exact q
    · rw [e, ha] at z
      cases z
      have d' : Data.seq vs.toArray _ = Data.dict es ep := d
      cases d'
  have inB : K.In (hidT s1.heap H) := by
    intro b o z
    refine keepB (inK b o z) ?_
    rcases Hcase b with q | ⟨e, c, _⟩
    · exact q
    · rw [e, c] at z; cases z
  have mod : Mod K mg (hidT s1.heap H) := ⟨inB, nsB hns, ⟨mb, nsB hbl, hboot⟩, let ⟨m, z1, z2⟩ := nolim; ⟨m, nsB z1, z2⟩⟩
  have env : Env0 P w K mg (hidT s1.heap H) callerA [] s1 H := by
    refine ⟨rfl, mod, fun b o z => of_hidT z, Nat.le_of_eq (hidT_size _ _), trivial, ?_, hok, .of_eq nogen⟩
    intro b z
    have z' : b ∈ ([] : List Addr) := z
    cases z'
  refine codeAny_mono ((G _ inB (nsB hns)).run callerA [] s1 H ⟨[.ref a], []⟩ [.ref a] [.ref a] _ rfl room env (hbind s1 (.ref a)) (.cons rfl .nil) (hsp H only hsq)) ?_
  intro res s' hr
  match res, hr with
  | .ok (.ret u), hr =>
    obtain ⟨v, H', os, bare, un, hok', rv, q⟩ := hr
    have q' : v = .bl true := q
    subst q'
    obtain rfl : u = Value.bool true := rv
    refine ⟨rfl, OldK.of_keep ?_, os, bare⟩
    intro b o z
    rcases Hcase b with c | ⟨e, _, c⟩
    · exact un.keep b o z c (fun y => by have y' : b ∈ ([] : List Addr) := y; cases y') (fun y => by cases y)
    · have c2 := un.frzs b _ _ c
      obtain ⟨e1, _⟩ := hok b _ c
      obtain ⟨e2, _⟩ := hok' b _ c2
      rw [z] at e1
      cases e1
      exact e2
  | .ok .next, hr => exact False.elim hr
  | .ok .brk, hr => exact False.elim hr
  | .ok .cont, hr => exact False.elim hr
  | .error _, hr => exact False.elim hr
theorem walk_end {l : PySem.W.OpenLaw} {n k : Nat} {q : Program} {loose : List Str} {XP : (Str → Option Value) → Heap → Prop} {YP : World → Heap → Prop} {d : DefRec} {K : Params → PySem.W.Frag} {sp : PySem.W.Frag → Sp} {x : Str}
    (hmost : l.most = some n) (hsmall : n ≤ sizeLine) (nodef : d.params.defaults = []) (room : Room k callerA) (hY : ∀ (w : World) (h : Heap), YP w h → (K w.params).In h)
    (G : ∀ (w : World) (mg : Str → Option Value) (fa : Addr) (h : Heap), (K w.params).In h → h.Ns mainGlobals mg → mg d.name = some (.ref fa) →
      ∃ fd : FuncData, (∀ (s : Shared) (u : Value), BindsTo s fd ⟨[u], []⟩ [(x, u)]) ∧ ∀ base : Heap, (K w.params).In base → base.Ns mainGlobals mg → FnG l.prog w (K w.params) mg base k fa fd [x] (sp (K w.params)))
    (hsp : ∀ (K : PySem.W.Frag) (H : Hp) (a : Addr) (ns : List Int), ns.length ≤ n → (∀ b, H b = none ∨ ∃ o xs, H b = some (.frz o (.lst xs))) → SqL K H a (ns.map V.int) → sp K [.ref a] H (fun v _ => v = .bl true) E0) :
    PySem.W.WalkO q loose XP YP l.row.toRowW d [] (fun f vs => PySem.call f vs) := by
  apply Att.attach_call hmost nodef
  intro w s0 s1 mg mb fa o pm cd doc a vs ns Gr Y _ _ _ hmg hobj hint hlen hgen
  obtain ⟨fd, hb, hG⟩ := G w mg fa _ (hY w _ Y) Gr.T.g hmg
  exact law_end (hY w _ Y) Gr.T.g Gr.T.b Gr.T.builtins Gr.T.nolimit hgen hobj hint (Nat.le_trans hlen hsmall) room hG hb fun H hO hS => hsp _ H a ns hlen hO hS
end Dl

namespace Dl
open PySem PySem.Spec PyProof.Rows L2

/-! ### defs that only read: the promise R, arguments to result -/
abbrev Rel := List PyData → PyData → Prop
def spPure (K : PySem.W.Frag) (R : Rel) : Sp := fun vs H Q _ => ∃ (S : Addr → Prop) (ds : List PyData) (d : PyData), (∀ b, S b → Lv H b) ∧ RepAll K S H vs ds ∧ R ds d ∧ ∀ v H', Same H H' → Rep K S H' v d → Q v H'
structure PFn (P : Program) (w : World) (K : PySem.W.Frag) (mg : Str → Option Value) (base : Heap) (lvl : Nat) (x : Str) (R : Rel) : Prop where
  ex : ∃ (fa : Addr) (fd : FuncData) (ps : List Str), FnG P w K mg base lvl fa fd ps (spPure K R) ∧ mg x = some (.ref fa) ∧ PySem.W.keepIn K (.ref fa) = true ∧ L2.Binds K fd ps []
def pureFm (K : PySem.W.Frag) (S : Addr → Prop) (H : Hp) : Fm := { K := K, S := S, M := fun _ => False, H0 := H, G := fun _ _ => True, ms := fun _ h => h.elim, gm := fun _ _ _ _ _ _ => trivial, gl := fun _ _ _ _ h => h.elim }
def bodyCs (P : Program) (w : World) (K : PySem.W.Frag) (mg : Str → Option Value) (base : Heap) (N : List Str) (sc : Scope) (lvl : Nat) : Cs := ⟨P, w, K, mg, base, N, sc, fun _ => true, lvl⟩
theorem fits_body {CX : CXT} {P : Program} {w : World} {K : PySem.W.Frag} {mg : Str → Option Value} {base : Heap} {N : List Str} {qual : Str} {sc : Scope} {f : Addr} {cd : Value} {A : Around} {outer : List Env} {s : Shared} {H : Hp} {E : XK} {k : Nat} (hgd : A.guards = some []) (hr : Room k (A.deeper (envOfC qual sc s.heap.objs.size f cd))) :
    Fits (bodyCs P w K mg base N sc k) (cxOf CX P w K mg base N qual sc f cd A outer s H E).nox := ⟨rfl, rfl, rfl, rfl, rfl, rfl, rfl, rfl, rfl, hr, rfl, hgd⟩
def startR (N : List Str) (ds : List PyData) : Rho := ds.map .d ++ List.replicate (N.length - ds.length) .un
theorem env_start {F : Fm} {H : Hp} {N : List Str} {vs : List V} {ds : List PyData} (r : RpAll F H vs ds) : EnvOk F H (start N vs) (startR N ds) := fun i sv e => by
  have hl := r.length
  unfold L2.start
  by_cases hi : i < ds.length
  · have e1 : (startR N ds)[i]? = some (.d ds[i]) := by
      unfold startR
      rw [List.getElem?_append_left (by simpa using hi), List.getElem?_map, List.getElem?_eq_getElem hi]; rfl
    rw [e1] at e
    cases e
    obtain ⟨v, hv, rv⟩ := r.get (List.getElem?_eq_getElem hi)
    refine ⟨some v, ?_, v, rfl, rv⟩
    rw [List.getElem?_append_left (by simpa [hl] using hi), List.getElem?_map, hv]; rfl
  · unfold startR at e
    rw [List.getElem?_append_right (by simpa using hi)] at e
    rw [List.getElem?_append_right (by simp; omega)]
    simp only [List.length_map] at e ⊢
    rw [List.getElem?_replicate] at e ⊢
    rw [hl]
    by_cases hj : i - ds.length < N.length - ds.length
    · rw [if_pos hj] at e ⊢
      cases e
      exact ⟨none, rfl, trivial⟩
    · rw [if_neg hj] at e; cases e
section
variable {P : Program} {w : World} {K : PySem.W.Frag} {mg : Str → Option Value} {base : Heap}
/-- a def that only reads keeps its promise -/
theorem pure_ok {x qual : Str} {st : Stmt} {f : Addr} {fd : FuncData} {N ps : List Str} {k : Nat} {R : Rel} (Fn : Fun K x qual st f fd) (Sc : FnScope N ps (defScope st)) (len : ∀ ds d, R ds d → ds.length = ps.length)
    (body : ∀ (F : Fm) (ds : List PyData) (d : PyData), F.K = K → R ds d → WPB F (bodyCs P w K mg base N (defScope st) k) (defBody st) (startR N ds) 0 { nx := fun _ _ => d = .none, rt := fun _ d' => d' = d, bk := fun _ _ => False, ct := fun _ _ => False }) :
    FnG P w K mg base (k + 1) f fd ps (spPure K R) := by
  refine FnG.of_body Fn Sc (fun vs H Q E h => ?_) (fun cdv A outer s H vs Q hgd hr h => ?_)
  · obtain ⟨S, ds, d, _, r, hR, _⟩ := h
    rw [RepAll.length r, len ds d hR]
  · obtain ⟨S, ds, d, al, r, hR, q⟩ := h
    refine ⟨_, pbB (fits_body hgd hr), ?_⟩
    refine body (pureFm K S H) ds d rfl hR (start N vs) H _ (env_start (F := pureFm K S H) r) ⟨trivial, fun b o _ e => e, al⟩ ?_ ?_ ?_ ?_
    · exact fun ρ' σ' k' H' _ _ j' e => q _ H' (fun b o h => j'.le b o (fun z => z.elim id id) h) (by rw [e]; exact .non)
    · exact fun v d' k' H' j' r' e => q v H' (fun b o h => j'.le b o (fun z => z.elim id id) h) (e ▸ r')
    · exact fun _ _ _ _ _ _ _ z => z.elim
    · exact fun _ _ _ _ _ _ _ z => z.elim
end
section
variable {F : Fm} {C : Cs} {ρ : Rho} {k : Nat} {Φ Φ' : Nat → PyData → Prop} {Ψ Ψ' : Nat → Bool → Prop} {e a b : Expr} {es : List Expr} {pos : Pos} {P : DE}
theorem pe_callF {x : Str} {p : Pos} {j : Nat} {fa : Addr} {fd : FuncData} {ps : List Str} {sp : Sp} {t : TA} {X : Cx} (fx : Fits C X) (G : FnG C.P C.w C.K C.mg C.base j fa fd ps sp) (hl : j ≤ C.lvl) (hg : C.sc.names.lookup x = some .globalImplicit) (hm : C.mg x = some (.ref fa)) (kp : PySem.W.keepIn C.K (.ref fa) = true) (hb : L2.Binds C.K fd ps [])
    (ha : PA X (e :: es) t) (hdb : (x == ("__debug__" : Str)) = false) (hss : ∀ env : Env, starEach (e :: es) env = (false, eval e env) :: starEach es env) (hpl : ∀ env : Env, ((backTo pos (starEach es env)).any fun x => x.fst) = false) : PE X (.Call (.Name x p) (e :: es) [] pos) (fun σ H Q => t σ H fun vs H1 => sp vs H1 Q E0) :=
  FnG.pe (by rw [fx.P, fx.w, fx.K, fx.mg, fx.base]; exact G) fx.gd (fx.room.mono hl) (by rw [fx.K]; exact hb) (by show X.env.scope.names.lookup x = _; rw [fx.sc]; exact hg) (by rw [fx.mg]; exact hm) (by rw [fx.K]; exact kp) ha hdb (hss X.env) (hpl X.env)
/-- a call of a def that only reads -/
theorem we_callP {x : Str} {R : Rel} {p : Pos} {j : Nat} (hF : PFn C.P C.w C.K C.mg C.base j x R) (hl : j ≤ C.lvl) (hK : F.K = C.K) (hg : C.sc.names.lookup x = some .globalImplicit)
    (h : WPA F C (e :: es) ρ k fun k1 ds => ∃ d, R ds d ∧ Φ k1 d) (hdb : (x == ("__debug__" : Str)) = false := by decide) (hss : ∀ env : Env, starEach (e :: es) env = (false, eval e env) :: starEach es env := by intro _; rfl) (hpl : ∀ env : Env, ((backTo pos (starEach es env)).any fun x => x.fst) = false := by intro _; rfl) :
    WPE F C (.Call (.Name x p) (e :: es) [] pos) ρ k Φ := by
  obtain ⟨fa, fd, ps, G, hm, kp, hb⟩ := hF.ex
  refine of_pe (fun X fx => pe_callF fx G hl hg hm kp hb (paA fx) hdb hss hpl) fun σ H Q en jj q => ?_
  refine h σ H _ en jj fun vs ds k1 H1 l1 j1 r1 ⟨d, hR, p⟩ => ?_
  refine ⟨F.S, ds, d, j1.al, hK ▸ r1, hR, fun v H' sm rv => ?_⟩
  have le : Le F H1 H' := fun b o _ e => sm b o e
  refine q v d k1 H' (l1.trans le) ⟨F.gm _ _ _ j1.g (fun b hb => ?_) (fun b o _ e => sm b o e), fun b o n e => sm b o (j1.le b o n e), fun b hb => (j1.al b hb).keep fun o e => sm b o e⟩ (by show Rep F.K F.S H' v d; rw [hK]; exact rv) p
  cases e : H1 b with
  | none => exact absurd e (F.gl _ _ j1.g b hb)
  | some o => exact sm b o e

/-! ### operations on data -/
theorem rd_II {g : Int → Int → Int} {i j : Int} (h : Φ k (.int (g i j))) : RD F (rI0 fun i j => .int (g i j)) (.int i) (.int j) k Φ := fun H vx vy Q jj rx ry q => by
  cases rx; cases ry; exact ⟨i, j, rfl, rfl, q _ _ k H .refl jj (.int _) h⟩
theorem rd_IB {g : Int → Int → Bool} {i j : Int} (h : Φ k (.bool (g i j))) : RD F (rI0 fun i j => .bl (g i j)) (.int i) (.int j) k Φ := fun H vx vy Q jj rx ry q => by
  cases rx; cases ry; exact ⟨i, j, rfl, rfl, q _ _ k H .refl jj (.bl _) h⟩
theorem rd_IC {c : Int → Int → Prop} {g : Int → Int → Int} {i j : Int} (hc : c i j) (h : Φ k (.int (g i j))) : RD F (rI c fun i j => .int (g i j)) (.int i) (.int j) k Φ := fun H vx vy Q jj rx ry q => by
  cases rx; cases ry; exact ⟨i, j, rfl, rfl, hc, q _ _ k H .refl jj (.int _) h⟩
theorem we_add (h : WPE F C a ρ k fun k1 x => WPE F C b ρ k1 fun k2 y => ∃ i j, x = .int i ∧ y = .int j ∧ Φ k2 (.int (i + j))) : WPE F C (.BinOp a .Add b pos) ρ k Φ :=
  we_bin (fun X _ => op_add) (h.imp fun k1 x h1 => h1.imp fun k2 y ⟨i, j, e1, e2, p⟩ => by subst e1 e2; exact rd_II p)
theorem we_sub (h : WPE F C a ρ k fun k1 x => WPE F C b ρ k1 fun k2 y => ∃ i j, x = .int i ∧ y = .int j ∧ Φ k2 (.int (i - j))) : WPE F C (.BinOp a .Sub b pos) ρ k Φ :=
  we_bin (fun X _ => op_sub) (h.imp fun k1 x h1 => h1.imp fun k2 y ⟨i, j, e1, e2, p⟩ => by subst e1 e2; exact rd_II p)
theorem we_fdiv (h : WPE F C a ρ k fun k1 x => WPE F C b ρ k1 fun k2 y => ∃ i j, x = .int i ∧ y = .int j ∧ (0 < j ∧ j < 1073741824) ∧ Φ k2 (.int (i / j))) : WPE F C (.BinOp a .FloorDiv b pos) ρ k Φ :=
  we_bin (fun X _ => op_fdiv) (h.imp fun k1 x h1 => h1.imp fun k2 y ⟨i, j, e1, e2, c, p⟩ => by subst e1 e2; exact rd_IC (c := CDiv) c p)
theorem we_mod (h : WPE F C a ρ k fun k1 x => WPE F C b ρ k1 fun k2 y => ∃ i j, x = .int i ∧ y = .int j ∧ 0 < j ∧ Φ k2 (.int (i % j))) : WPE F C (.BinOp a .Mod b pos) ρ k Φ :=
  we_bin (fun X _ => op_mod) (h.imp fun k1 x h1 => h1.imp fun k2 y ⟨i, j, e1, e2, c, p⟩ => by subst e1 e2; exact rd_IC c p)
theorem we_shl (h : WPE F C a ρ k fun k1 x => WPE F C b ρ k1 fun k2 y => ∃ i j, x = .int i ∧ y = .int j ∧ (0 ≤ j ∧ j ≤ 1000000 ∧ i.natAbs < 2 ^ 64) ∧ Φ k2 (.int (i * 2 ^ j.toNat))) : WPE F C (.BinOp a .LShift b pos) ρ k Φ :=
  we_bin (fun X _ => op_shl) (h.imp fun k1 x h1 => h1.imp fun k2 y ⟨i, j, e1, e2, c, p⟩ => by subst e1 e2; exact rd_IC (c := CPow) c p)
theorem we_shr (h : WPE F C a ρ k fun k1 x => WPE F C b ρ k1 fun k2 y => ∃ i j, x = .int i ∧ y = .int j ∧ 0 ≤ j ∧ Φ k2 (.int (i / 2 ^ j.toNat))) : WPE F C (.BinOp a .RShift b pos) ρ k Φ :=
  we_bin (fun X _ => op_shr) (h.imp fun k1 x h1 => h1.imp fun k2 y ⟨i, j, e1, e2, c, p⟩ => by subst e1 e2; exact rd_IC c p)
theorem we_band (h : WPE F C a ρ k fun k1 x => WPE F C b ρ k1 fun k2 y => ∃ i j, x = .int i ∧ y = .int j ∧ Φ k2 (.int (Builtin.bitAnd i j))) : WPE F C (.BinOp a .BitAnd b pos) ρ k Φ :=
  we_bin (fun X _ => op_and) (h.imp fun k1 x h1 => h1.imp fun k2 y ⟨i, j, e1, e2, p⟩ => by subst e1 e2; exact rd_II p)
theorem we_bxor (h : WPE F C a ρ k fun k1 x => WPE F C b ρ k1 fun k2 y => ∃ i j, x = .int i ∧ y = .int j ∧ Φ k2 (.int (Builtin.bitXor i j))) : WPE F C (.BinOp a .BitXor b pos) ρ k Φ :=
  we_bin (fun X _ => op_xor) (h.imp fun k1 x h1 => h1.imp fun k2 y ⟨i, j, e1, e2, p⟩ => by subst e1 e2; exact rd_II p)
theorem we_neg (h : WPE F C a ρ k fun k1 x => ∃ i, x = .int i ∧ Φ k1 (.int (-i))) : WPE F C (.UnaryOp .USub a pos) ρ k Φ :=
  of_pe (fun X fx => pe_un un_neg (peE fx)) fun σ H Q en j q => h σ H _ en j fun v d k1 H1 l1 j1 r ⟨i, e, p⟩ => by
    subst e; cases r; exact ⟨i, rfl, q _ _ k1 H1 l1 j1 (.int _) p⟩
/-- comparisons of ints, as values and as tests -/
abbrev I2 (F : Fm) (C : Cs) (a b : Expr) (ρ : Rho) (k : Nat) (Θ : Nat → Int → Int → Prop) : Prop := WPE F C a ρ k fun k1 x => WPE F C b ρ k1 fun k2 y => ∃ i j, x = .int i ∧ y = .int j ∧ Θ k2 i j
theorem we_lt (h : I2 F C a b ρ k fun k i j => Φ k (.bool (decide (i < j)))) : WPE F C (.Compare a [.Lt] [b] pos) ρ k Φ := we_cmp (fun X _ => op_lt) (nomark _) (h.imp fun k1 x h1 => h1.imp fun k2 y ⟨i, j, e1, e2, p⟩ => by subst e1 e2; exact rd_IB (g := fun i j => decide (i < j)) p)
theorem we_gt (h : I2 F C a b ρ k fun k i j => Φ k (.bool (decide (j < i)))) : WPE F C (.Compare a [.Gt] [b] pos) ρ k Φ := we_cmp (fun X _ => op_gt) (nomark _) (h.imp fun k1 x h1 => h1.imp fun k2 y ⟨i, j, e1, e2, p⟩ => by subst e1 e2; exact rd_IB (g := fun i j => decide (j < i)) p)
theorem wt_lt (h : I2 F C a b ρ k fun k i j => Ψ k (decide (i < j))) : WPT F C (.Compare a [.Lt] [b] pos) ρ k Ψ := wt_cmp (fun X _ => op_lt) (nomark _) (h.imp fun k1 x h1 => h1.imp fun k2 y ⟨i, j, e1, e2, p⟩ => by subst e1 e2; exact rd_IB (g := fun i j => decide (i < j)) ⟨_, rfl, p⟩)
theorem wt_le (h : I2 F C a b ρ k fun k i j => Ψ k (decide (i ≤ j))) : WPT F C (.Compare a [.LtE] [b] pos) ρ k Ψ := wt_cmp (fun X _ => op_le) (nomark _) (h.imp fun k1 x h1 => h1.imp fun k2 y ⟨i, j, e1, e2, p⟩ => by subst e1 e2; exact rd_IB (g := fun i j => decide (i ≤ j)) ⟨_, rfl, p⟩)
theorem wt_gt (h : I2 F C a b ρ k fun k i j => Ψ k (decide (j < i))) : WPT F C (.Compare a [.Gt] [b] pos) ρ k Ψ := wt_cmp (fun X _ => op_gt) (nomark _) (h.imp fun k1 x h1 => h1.imp fun k2 y ⟨i, j, e1, e2, p⟩ => by subst e1 e2; exact rd_IB (g := fun i j => decide (j < i)) ⟨_, rfl, p⟩)
theorem wt_ge (h : I2 F C a b ρ k fun k i j => Ψ k (decide (j ≤ i))) : WPT F C (.Compare a [.GtE] [b] pos) ρ k Ψ := wt_cmp (fun X _ => op_ge) (nomark _) (h.imp fun k1 x h1 => h1.imp fun k2 y ⟨i, j, e1, e2, p⟩ => by subst e1 e2; exact rd_IB (g := fun i j => decide (j ≤ i)) ⟨_, rfl, p⟩)
/-- == and != of any data -/
theorem opEqK {X : Cx} (fx : Fits C X) : OpR X (compareOp .Eq) (rEqD C.K) := by rw [← fx.K]; exact op_eqD fx.room.units
theorem opNeK {X : Cx} (fx : Fits C X) : OpR X (compareOp .NotEq) (rNeD C.K) := by rw [← fx.K]; exact op_neD fx.room.units
theorem rd_eq {x y : PyData} (hK : F.K = C.K) (sx : SeqAt.shaped x = true) (sy : SeqAt.shaped y = true) (h : Φ k (.bool (PyData.eqv x y))) : RD F (rEqD C.K) x y k Φ := fun H vx vy Q j rx ry q =>
  ⟨x, y, hK ▸ Rep.dp x vx rx (nodict_sh sx), hK ▸ Rep.dp y vy ry (nodict_sh sy), sx, sy, q _ _ k H .refl j (.bl _) h⟩
theorem rd_nE {x y : PyData} (hK : F.K = C.K) (sx : SeqAt.shaped x = true) (sy : SeqAt.shaped y = true) (h : Φ k (.bool (!PyData.eqv x y))) : RD F (rNeD C.K) x y k Φ := fun H vx vy Q j rx ry q =>
  ⟨x, y, hK ▸ Rep.dp x vx rx (nodict_sh sx), hK ▸ Rep.dp y vy ry (nodict_sh sy), sx, sy, q _ _ k H .refl j (.bl _) h⟩
abbrev D2 (F : Fm) (C : Cs) (a b : Expr) (ρ : Rho) (k : Nat) (Θ : Nat → PyData → PyData → Prop) : Prop := WPE F C a ρ k fun k1 x => WPE F C b ρ k1 fun k2 y => SeqAt.shaped x = true ∧ SeqAt.shaped y = true ∧ Θ k2 x y
theorem we_eq (hK : F.K = C.K) (h : D2 F C a b ρ k fun k x y => Φ k (.bool (PyData.eqv x y))) : WPE F C (.Compare a [.Eq] [b] pos) ρ k Φ := we_cmp (fun X fx => opEqK fx) (nomark _) (h.imp fun k1 x h1 => h1.imp fun k2 y ⟨s1, s2, p⟩ => rd_eq hK s1 s2 p)
theorem wt_ne (hK : F.K = C.K) (h : D2 F C a b ρ k fun k x y => Ψ k (!PyData.eqv x y)) : WPT F C (.Compare a [.NotEq] [b] pos) ρ k Ψ := wt_cmp (fun X fx => opNeK fx) (nomark _) (h.imp fun k1 x h1 => h1.imp fun k2 y ⟨s1, s2, p⟩ => rd_nE hK s1 s2 ⟨_, rfl, p⟩)
/-- == of ints, of texts -/
theorem rd_eqS {x y : PyData} {c : Bool} (hx : ∀ H vx vy, Rp F H vx x → Rp F H vy y → scal vx vy = true ∧ decide (vx = vy) = c) (h : Φ k (.bool c)) : RD F rEq x y k Φ := fun H vx vy Q j rx ry q => by
  obtain ⟨h1, h2⟩ := hx H vx vy rx ry
  exact ⟨h1, by rw [h2]; exact q _ _ k H .refl j (.bl _) h⟩
theorem rd_neS {x y : PyData} {c : Bool} (hx : ∀ H vx vy, Rp F H vx x → Rp F H vy y → scal vx vy = true ∧ decide (vx = vy) = c) (h : Φ k (.bool (!c))) : RD F rNe x y k Φ := fun H vx vy Q j rx ry q => by
  obtain ⟨h1, h2⟩ := hx H vx vy rx ry
  exact ⟨h1, by rw [h2]; exact q _ _ k H .refl j (.bl _) h⟩
theorem scal_int {i j : Int} {H : Hp} {vx vy : V} (rx : Rp F H vx (.int i)) (ry : Rp F H vy (.int j)) : scal vx vy = true ∧ decide (vx = vy) = decide (i = j) := by
  cases rx; cases ry; exact ⟨rfl, by simp⟩
theorem scal_str {i j : Str} {H : Hp} {vx vy : V} (rx : Rp F H vx (.str i)) (ry : Rp F H vy (.str j)) : scal vx vy = true ∧ decide (vx = vy) = decide (i = j) := by
  cases rx; cases ry; exact ⟨rfl, by simp⟩
theorem wt_eqI (h : I2 F C a b ρ k fun k i j => Ψ k (decide (i = j))) : WPT F C (.Compare a [.Eq] [b] pos) ρ k Ψ := wt_cmp (fun X _ => op_eq) (nomark _) (h.imp fun k1 x h1 => h1.imp fun k2 y ⟨i, j, e1, e2, p⟩ => by subst e1 e2; exact rd_eqS (fun _ _ _ => scal_int) ⟨_, rfl, p⟩)
theorem wt_neI (h : I2 F C a b ρ k fun k i j => Ψ k (!decide (i = j))) : WPT F C (.Compare a [.NotEq] [b] pos) ρ k Ψ := wt_cmp (fun X _ => op_ne) (nomark _) (h.imp fun k1 x h1 => h1.imp fun k2 y ⟨i, j, e1, e2, p⟩ => by subst e1 e2; exact rd_neS (fun _ _ _ => scal_int) ⟨_, rfl, p⟩)
theorem we_eqI (h : I2 F C a b ρ k fun k i j => Φ k (.bool (decide (i = j)))) : WPE F C (.Compare a [.Eq] [b] pos) ρ k Φ := we_cmp (fun X _ => op_eq) (nomark _) (h.imp fun k1 x h1 => h1.imp fun k2 y ⟨i, j, e1, e2, p⟩ => by subst e1 e2; exact rd_eqS (fun _ _ _ => scal_int) p)
abbrev T2 (F : Fm) (C : Cs) (a b : Expr) (ρ : Rho) (k : Nat) (Θ : Nat → Str → Str → Prop) : Prop := WPE F C a ρ k fun k1 x => WPE F C b ρ k1 fun k2 y => ∃ i j, x = .str i ∧ y = .str j ∧ Θ k2 i j
theorem wt_eqT (h : T2 F C a b ρ k fun k i j => Ψ k (decide (i = j))) : WPT F C (.Compare a [.Eq] [b] pos) ρ k Ψ := wt_cmp (fun X _ => op_eq) (nomark _) (h.imp fun k1 x h1 => h1.imp fun k2 y ⟨i, j, e1, e2, p⟩ => by subst e1 e2; exact rd_eqS (fun _ _ _ => scal_str) ⟨_, rfl, p⟩)
theorem wt_neT (h : T2 F C a b ρ k fun k i j => Ψ k (!decide (i = j))) : WPT F C (.Compare a [.NotEq] [b] pos) ρ k Ψ := wt_cmp (fun X _ => op_ne) (nomark _) (h.imp fun k1 x h1 => h1.imp fun k2 y ⟨i, j, e1, e2, p⟩ => by subst e1 e2; exact rd_neS (fun _ _ _ => scal_str) ⟨_, rfl, p⟩)
end
end Dl

namespace Dl
open PySem PySem.Spec PyProof.Rows L2
section
variable {F : Fm} {C : Cs} {ρ : Rho} {k : Nat} {Φ Φ' : Nat → PyData → Prop} {Ψ Ψ' : Nat → Bool → Prop} {e a b : Expr} {es : List Expr} {pos : Pos} {P : DE}
/-! ### subscripts -/
theorem atI_some {α β : Type} {xs : List α} {ys : List β} (hl : xs.length = ys.length) {i : Int} {y : β} (h : atI ys i = some y) : ∃ j : Nat, ys[j]? = some y ∧ ∀ x, xs[j]? = some x → atI xs i = some x := by
  unfold atI at h ⊢
  rw [hl]
  cases e : ixN ys.length i with
  | none => rw [e] at h; cases h
  | some j => rw [e] at h; exact ⟨j, h, fun x hx => hx⟩
theorem ixK {X : Cx} (fx : Fits C X) : IxR X (rIx C.K) := by rw [← fx.K]; exact ix_seq
def ixD : PyData → PyData → Option PyData
  | .list ds, .int i => atI ds i
  | .tuple ds, .int i => atI ds i
  | _, _ => none
theorem we_ix (hK : F.K = C.K) (hs : PlainIx b) (h : WPE F C a ρ k fun k1 x => WPE F C b ρ k1 fun k2 y => ∃ d, ixD x y = some d ∧ Φ k2 d) : WPE F C (.Subscript a b pos) ρ k Φ :=
  of_pe (fun X fx => pe_ix (ixK fx) (peE fx) (peE fx) hs) (we_op (h.imp fun k1 x h1 => h1.imp fun k2 y ⟨d, e, p⟩ => fun H vx vy Q j rx ry q => by
    cases x with
    | list ds =>
      cases y with
      | int i =>
        cases rx with
        | @lst a xs _ ha hr =>
        cases ry
        obtain ⟨n, hn, hx⟩ := atI_some hr.length e
        obtain ⟨v, hv, rv⟩ := hr.get hn
        exact .inl ⟨a, xs, i, v, rfl, rfl, hK ▸ sql_of ha, hx v hv, q v d k2 H .refl j rv p⟩
      | _ => cases e
    | tuple ds =>
      cases y with
      | int i =>
        cases rx with
        | @tup a xs _ ha hr =>
        cases ry
        obtain ⟨n, hn, hx⟩ := atI_some hr.length e
        obtain ⟨v, hv, rv⟩ := hr.get hn
        exact .inr (.inl ⟨a, xs, i, v, rfl, rfl, hK ▸ sqt_of ha, hx v hv, q v d k2 H .refl j rv p⟩)
      | _ => cases e
    | _ => cases e))
/-! ### in, not in: flat things in a list or tuple of flat things -/
def flatD : PyData → Bool
  | .none | .bool _ | .int _ | .str _ => true
  | _ => false
theorem flat_rep {H : Hp} {v : V} {d : PyData} (r : Rp F H v d) (h : flatD d = true) : flatV v = true := by
  cases r <;> first | rfl | cases h
theorem flat_all {H : Hp} : ∀ {ds : List PyData} {vs : List V}, RpAll F H vs ds → ds.all flatD = true → vs.all flatV = true
  | [], _, r, _ => by cases r; rfl
  | d :: ds, _, r, h => by
    cases r with
    | cons r1 r2 =>
      rw [List.all_cons, Bool.and_eq_true] at h ⊢
      exact ⟨flat_rep r1 h.1, flat_all r2 h.2⟩
def seqD : PyData → Option (List PyData)
  | .list ds => some ds
  | .tuple ds => some ds
  | _ => none
theorem opInK {X : Cx} (fx : Fits C X) : OpR X (compareOp .In) (rIn C.K false) := by rw [← fx.K]; exact op_in_seq
theorem opNiK {X : Cx} (fx : Fits C X) : OpR X (compareOp .NotIn) (rIn C.K true) := by rw [← fx.K]; exact op_notIn_seq
theorem rd_in {neg : Bool} {x y : PyData} {ds : List PyData} {c : Bool} (hK : F.K = C.K) (hy : seqD y = some ds) (fx : flatD x = true) (fy : ds.all flatD = true) (hc : ∀ H vx vs, Rp F H vx x → RpAll F H vs ds → inV vx vs = c) (h : Φ k (.bool (if neg then !c else c))) : RD F (rIn C.K neg) x y k Φ := fun H vx vy Q j rx ry q => by
  cases ry with
  | @lst a xs _ ha hr => cases hy; exact ⟨a, xs, rfl, .inl (hK ▸ sql_of ha), flat_rep rx fx, flat_all hr fy, by rw [hc H vx xs rx hr]; exact q _ _ k H .refl j (.bl _) h⟩
  | @tup a xs _ ha hr => cases hy; exact ⟨a, xs, rfl, .inr (hK ▸ sqt_of ha), flat_rep rx fx, flat_all hr fy, by rw [hc H vx xs rx hr]; exact q _ _ k H .refl j (.bl _) h⟩
  | _ => cases hy
theorem inV_ints {i : Int} : ∀ (ns : List Int), inV (.int i) (ns.map V.int) = decide (i ∈ ns)
  | [] => by simp [inV]
  | n :: ns => by
    have ih := inV_ints (i := i) ns
    unfold inV at ih ⊢
    rw [List.map_cons, List.any_cons, ih]
    have : eqV (.int n) (.int i) = decide (n = i) := by
      unfold eqV
      by_cases h : n = i <;> simp [h]
    rw [this]
    by_cases h : n = i
    · simp [h]
    · simp [h, Ne.symm h, eq_comm]
/-- an int in a list or tuple of ints -/
theorem rd_inI {neg : Bool} {i : Int} {y : PyData} {ns : List Int} (hK : F.K = C.K) (hy : seqD y = some (ns.map PyData.int)) (h : Φ k (.bool (if neg then !decide (i ∈ ns) else decide (i ∈ ns)))) : RD F (rIn C.K neg) (.int i) y k Φ :=
  rd_in hK hy rfl (by rw [List.all_map]; exact List.all_eq_true.mpr fun _ _ => rfl) (fun H vx vs rx rv => by cases rx; rw [rv.ints]; exact inV_ints ns) h
abbrev N2 (F : Fm) (C : Cs) (a b : Expr) (ρ : Rho) (k : Nat) (Θ : Nat → Int → List Int → Prop) : Prop := WPE F C a ρ k fun k1 x => WPE F C b ρ k1 fun k2 y => ∃ i ns, x = .int i ∧ seqD y = some (ns.map PyData.int) ∧ Θ k2 i ns
theorem wt_inI (hK : F.K = C.K) (hm : behindInMarks .In b = false) (h : N2 F C a b ρ k fun k i ns => Ψ k (decide (i ∈ ns))) : WPT F C (.Compare a [.In] [b] pos) ρ k Ψ := wt_cmp (fun X fx => opInK fx) hm (h.imp fun k1 x h1 => h1.imp fun k2 y ⟨i, j, e1, e2, p⟩ => by subst e1; exact rd_inI hK e2 ⟨_, rfl, p⟩)
theorem wt_niI (hK : F.K = C.K) (hm : behindInMarks .NotIn b = false) (h : N2 F C a b ρ k fun k i ns => Ψ k (!decide (i ∈ ns))) : WPT F C (.Compare a [.NotIn] [b] pos) ρ k Ψ := wt_cmp (fun X fx => opNiK fx) hm (h.imp fun k1 x h1 => h1.imp fun k2 y ⟨i, j, e1, e2, p⟩ => by subst e1; exact rd_inI hK e2 ⟨_, rfl, p⟩)
theorem we_inI (hK : F.K = C.K) (hm : behindInMarks .In b = false) (h : N2 F C a b ρ k fun k i ns => Φ k (.bool (decide (i ∈ ns)))) : WPE F C (.Compare a [.In] [b] pos) ρ k Φ := we_cmp (fun X fx => opInK fx) hm (h.imp fun k1 x h1 => h1.imp fun k2 y ⟨i, j, e1, e2, p⟩ => by subst e1; exact rd_inI hK e2 p)
def isNone : PyData → Bool
  | .none => true
  | _ => false
theorem dec_non {H : Hp} {v : V} {d : PyData} (r : Rp F H v d) : decide (v = .non) = isNone d := by
  cases r <;> rfl
theorem wt_isN {jj : Nat} {p' : Pos} (h : WPE F C a ρ k fun k1 x => Ψ k1 (isNone x)) : WPT F C (.Compare a [.Is] [.Constant .none jj p'] pos) ρ k Ψ :=
  of_pt (fun X fx => pt_cmp (pc_isN (peE fx)) rfl) fun σ H Q en j q => h σ H _ en j fun v d k1 H1 l1 j1 r p => by
    refine ⟨isNone d, ?_, q _ k1 H1 l1 j1 p⟩
    rw [dec_non r]
/-! ### built-ins -/
theorem lenK {X : Cx} (fx : Fits C X) : CallR X (.builtin "len") (fun xs H Q => ∃ p ys, xs = [.ref p] ∧ (SqL C.K H p ys ∨ SqT C.K H p ys) ∧ Q (.int ys.length) H) := by rw [← fx.K]; exact call_len_seq
theorem tupK {X : Cx} (fx : Fits C X) : CallR X (.type "tuple") (fun xs H Q => ∃ p ys, xs = [.ref p] ∧ ((SqL C.K H p ys ∧ ∀ l, H l = none → Q (.ref l) (upd H l (.tup ys))) ∨ (SqT C.K H p ys ∧ Q (.ref p) H))) := by rw [← fx.K]; exact call_tuple_of
theorem srtK {X : Cx} (fx : Fits C X) : CallR X (.builtin "sorted") (rSortedI C.K) := by rw [← fx.K]; exact cr_sortedI
abbrev A1 (F : Fm) (C : Cs) (e : Expr) (ρ : Rho) (k : Nat) (Θ : Nat → PyData → Prop) : Prop := WPE F C e ρ k Θ
theorem wa_one {Θ : Nat → List PyData → Prop} (hs : ∀ env : Env, starEach [e] env = (false, eval e env) :: starEach [] env) (h : WPE F C e ρ k fun k1 x => Θ k1 [x]) : WPA F C [e] ρ k Θ := wa_cons hs (h.imp fun k1 x p => wa_nil p)
variable {p : Pos}
section
variable (hK : F.K = C.K)
include hK
theorem we_len (hg : C.sc.names.lookup ("len" : Str) = some .globalImplicit) (hm : C.mg ("len" : Str) = none) (hs : ∀ env : Env, starEach [e] env = (false, eval e env) :: starEach [] env) (h : WPE F C e ρ k fun k1 x => ∃ ds, seqD x = some ds ∧ Φ k1 (.int ds.length)) : WPE F C (.Call (.Name "len" p) [e] [] pos) ρ k Φ :=
  we_callB (fun X fx => lenK fx) hg hm boot_len (wa_one hs (h.imp fun k1 x ⟨ds, e, p⟩ => fun H vs Q j r q => by
    cases r with
    | cons r1 r2 =>
    cases r2
    cases r1 with
    | @lst a xs _ ha hr => cases e; exact ⟨a, xs, rfl, .inl (hK ▸ sql_of ha), by rw [hr.length]; exact q _ _ k1 H .refl j (.int _) p⟩
    | @tup a xs _ ha hr => cases e; exact ⟨a, xs, rfl, .inr (hK ▸ sqt_of ha), by rw [hr.length]; exact q _ _ k1 H .refl j (.int _) p⟩
    | _ => cases e)) (by decide) (by decide) hs
theorem we_tuple (hg : C.sc.names.lookup ("tuple" : Str) = some .globalImplicit) (hm : C.mg ("tuple" : Str) = none) (hs : ∀ env : Env, starEach [e] env = (false, eval e env) :: starEach [] env) (h : WPE F C e ρ k fun k1 x => ∃ ds, seqD x = some ds ∧ Φ k1 (.tuple ds)) : WPE F C (.Call (.Name "tuple" p) [e] [] pos) ρ k Φ :=
  we_callTy (T := "tuple") (fun X fx => tupK fx) hg hm (by decide +kernel) (wa_one hs (h.imp fun k1 x ⟨ds, e, p⟩ => fun H vs Q j r q => by
    cases r with
    | cons r1 r2 =>
    cases r2
    cases r1 with
    | @lst a xs _ ha hr => cases e; exact ⟨a, xs, rfl, .inl ⟨hK ▸ sql_of ha, fun l hl => q _ _ k1 _ (.new hl) (j.new hl) (rep_newT j hl hr) p⟩⟩
    | @tup a xs _ ha hr => cases e; exact ⟨a, xs, rfl, .inr ⟨hK ▸ sqt_of ha, q _ _ k1 H .refl j (.tup ha hr) p⟩⟩
    | _ => cases e)) (by decide) (by decide) hs
theorem we_sorted (hg : C.sc.names.lookup ("sorted" : Str) = some .globalImplicit) (hm : C.mg ("sorted" : Str) = none) (hs : ∀ env : Env, starEach [e] env = (false, eval e env) :: starEach [] env) (h : WPE F C e ρ k fun k1 x => ∃ ns : List Int, x = .list (ns.map PyData.int) ∧ ∀ ms : List Int, ms.Perm ns → ms.Pairwise (· ≤ ·) → Φ k1 (.list (ms.map PyData.int))) : WPE F C (.Call (.Name "sorted" p) [e] [] pos) ρ k Φ :=
  we_callB (id := "sorted") (fun X fx => srtK fx) hg hm (by decide +kernel) (wa_one hs (h.imp fun k1 x ⟨ns, e, p⟩ => fun H vs Q j r q => by
    subst e
    cases r with
    | cons r1 r2 =>
    cases r2
    cases r1 with
    | @lst a xs _ ha hr => exact ⟨a, ns, rfl, hr.ints ▸ hK ▸ sql_of ha, fun ms l hp hw hl => q _ _ k1 _ (.new hl) (j.new hl) (rep_newL j hl (RepAll.of_ints ms)) (p ms hp hw)⟩)) (by decide) (by decide) hs
end
theorem we_intB (hg : C.sc.names.lookup ("int" : Str) = some .globalImplicit) (hm : C.mg ("int" : Str) = none) (hs : ∀ env : Env, starEach [e] env = (false, eval e env) :: starEach [] env) (h : WPE F C e ρ k fun k1 x => ∃ c : Bool, x = .bool c ∧ Φ k1 (.int (if c then 1 else 0))) : WPE F C (.Call (.Name "int" p) [e] [] pos) ρ k Φ :=
  we_callTy (T := "int") (fun X fx => call_int1) hg hm (by decide +kernel) (wa_one hs (h.imp fun k1 x ⟨i, e, p⟩ => fun H vs Q j r q => by
    subst e
    cases r with
    | cons r1 r2 =>
    cases r2
    cases r1
    exact .inr ⟨i, rfl, q _ _ k1 H .refl j (.int _) p⟩)) (by decide) (by decide) hs
/-- repr of data at any depth -/
theorem reprK {X : Cx} (fx : Fits C X) : CallR X (.builtin "repr") (fun xs H Q => ∃ v d, xs = [v] ∧ Dp C.K H v d ∧ d.showable = true ∧ d.hasDict = false ∧ d.depth ≤ 60 ∧ d.shown.length ≤ sizeLine ∧ Q (.str d.shown) H) := by
  intro pins s σ H vs us Q I rv h
  obtain ⟨v, d, e, hd, sh, nd, dp, sz, q⟩ := h
  subst e
  obtain ⟨u, rfl, ru⟩ := vals1 rv
  obtain ⟨as, rd⟩ := Dp.reads I d v u (fx.K ▸ hd) ru
  cases rd with
  | none => exact P.repr_of_none ⟨.str _, H, I.tok _, ⟨_, rfl⟩, q⟩
  | bool b => exact P.repr_of_bool ⟨.str _, H, I.tok _, ⟨_, rfl⟩, q⟩
  | int i t => exact P.repr_of_int (of_decide_eq_true sh) ⟨.str _, H, I.tok _, ⟨_, rfl⟩, q⟩
  | str x t => exact P.repr_of_str ⟨.str _, H, I.tok _, ⟨_, rfl⟩, q⟩ sz
  | list h1 h2 h3 h4 => exact repr_of_reads' (.list h1 h2 h3 h4) sh (fun z => by rw [nd] at z; cases z) fx.gd (by have := fx.room.units; omega) (fun _ _ z => z) (fun h' u tk hk => ⟨.str _, H, I.kept hk, ⟨_, rfl⟩, q⟩) sz
  | tuple h1 h2 h3 h4 => exact repr_of_reads' (.tuple h1 h2 h3 h4) sh (fun z => by rw [nd] at z; cases z) fx.gd (by have := fx.room.units; omega) (fun _ _ z => z) (fun h' u tk hk => ⟨.str _, H, I.kept hk, ⟨_, rfl⟩, q⟩) sz
  | dict h1 h2 h3 h4 h5 => cases nd
theorem we_repr (hK : F.K = C.K) (hg : C.sc.names.lookup ("repr" : Str) = some .globalImplicit) (hm : C.mg ("repr" : Str) = none) (hs : ∀ env : Env, starEach [e] env = (false, eval e env) :: starEach [] env) (h : WPE F C e ρ k fun k1 d => (d.showable = true ∧ d.hasDict = false ∧ d.depth ≤ 60 ∧ d.shown.length ≤ sizeLine) ∧ Φ k1 (.str d.shown)) : WPE F C (.Call (.Name "repr" p) [e] [] pos) ρ k Φ :=
  we_callB (id := "repr") (fun X fx => reprK fx) hg hm (by decide +kernel) (wa_one hs (h.imp fun k1 x ⟨⟨s1, s2, s3, s4⟩, p⟩ => fun H vs Q j r q => by
    cases r with
    | cons r1 r2 =>
    cases r2
    exact ⟨_, x, rfl, hK ▸ Rep.dp x _ r1 s2, s1, s2, s3, s4, q _ _ k1 H .refl j (.str _) p⟩)) (by decide) (by decide) hs
end
end Dl

namespace Dl
open PySem PySem.Spec PyProof.Rows L2
theorem iteD {c A B : Prop} [Decidable c] (h1 : c → A) (h2 : ¬ c → B) : if decide c = true then A else B := by
  by_cases h : c
  · rw [decide_eq_true h, if_pos rfl]; exact h1 h
  · rw [decide_eq_false h, if_neg Bool.false_ne_true]; exact h2 h
theorem iteB {c : Bool} {A B : Prop} (h1 : c = true → A) (h2 : c = false → B) : if c = true then A else B := by
  cases c with
  | true => rw [if_pos rfl]; exact h1 rfl
  | false => rw [if_neg Bool.false_ne_true]; exact h2 rfl
/-- 0, 1, .. below z -/
def rg (z : Int) : List Int := (List.range z.toNat).map fun (j : Nat) => (j : Int)
theorem mem_rg {z i : Int} : i ∈ rg z ↔ 0 ≤ i ∧ i < z := by
  unfold rg
  rw [List.mem_map]
  constructor
  · rintro ⟨j, hj, rfl⟩
    have := List.mem_range.mp hj
    omega
  · rintro ⟨h0, h1⟩
    exact ⟨i.toNat, List.mem_range.mpr (by omega), by omega⟩
theorem rg_length {z : Int} : (rg z).length = z.toNat := by unfold rg; simp
theorem rg_succ (j : Nat) : rg ((j : Int) + 1) = rg (j : Int) ++ [(j : Int)] := by
  unfold rg
  rw [show ((j : Int) + 1).toNat = j + 1 by omega, show (j : Int).toNat = j by omega, List.range_succ, List.map_append]; rfl
theorem rg_pairwise {z : Int} : (rg z).Pairwise (· < ·) := by
  unfold rg
  rw [List.pairwise_map]
  exact List.pairwise_lt_range.imp fun h => by omega
theorem take_next {α : Type} {xs : List α} {j : Nat} {x : α} (h : xs[j]? = some x) : xs.take (j + 1) = xs.take j ++ [x] := by
  rw [List.take_add_one, h]; rfl
section
variable {F : Fm} {C : Cs} {ρ : Rho} {k : Nat} {Φ : Nat → PyData → Prop} {P : DE} {pos spos : Pos} {elt iter : Expr} {scope : Scope} {α : Type}
theorem we_mL (ei : α → PyData) (g : α → PyData) (i : Nat) {x : Str} {px : Pos} (b : Blk C scope i x) (hK : F.K = C.K) (hfs : ∀ (env : Env) (v : Value), foldedSetIterable iter env v = pure v)
    (h : WPE F C iter ρ k fun k1 d => ∃ as : List α, d = .list (as.map ei) ∧ as.length ≤ 1000000 ∧ (∀ D (j : α), j ∈ as → WPE (F.ext D) (C.blk scope) elt (ρ.set i (.d (ei j))) k1 fun k3 y => k3 = k1 ∧ y = g j) ∧ Φ k1 (.list ((as).map g))) : WPE F C (.ListComp elt [⟨.Name x px, iter, [], 0⟩] scope pos) ρ k Φ := by
  refine we_compL0 i b hK hfs (h.imp fun k1 d hh => ?_)
  obtain ⟨as, e, hz, hb, hf⟩ := hh
  refine ⟨fun j k2 acc => k2 = k1 ∧ acc = (as.take j).map g, as.map ei, e, by rw [List.length_map]; exact hz, ⟨rfl, by simp⟩, ?_, ?_⟩
  · rintro D j y k2 acc hy ⟨rfl, rfl⟩
    rw [List.getElem?_map] at hy
    cases ha' : as[j]? with
    | none => rw [ha'] at hy; cases hy
    | some a' =>
    rw [ha'] at hy
    cases hy
    have tn := take_next ha'
    refine (hb D _ (List.mem_of_getElem? ha')).imp fun k4 y' ⟨e1, e2⟩ => ⟨e1, ?_⟩
    rw [tn, e2, List.map_append]; rfl
  · rintro k2 acc ⟨rfl, rfl⟩
    rw [List.length_map, List.take_length]; exact hf
theorem we_fL (p : α → Bool) (ei : α → PyData) (g : α → PyData) (i : Nat) {x : Str} {px : Pos} {c : Expr} (b : Blk C scope i x) (hK : F.K = C.K) (hfs : ∀ (env : Env) (v : Value), foldedSetIterable iter env v = pure v)
    (h : WPE F C iter ρ k fun k1 d => ∃ as : List α, d = .list (as.map ei) ∧ as.length ≤ 1000000 ∧ (∀ D (j : α), j ∈ as → WPT (F.ext D) (C.blk scope) c (ρ.set i (.d (ei j))) k1 fun k2 b => k2 = k1 ∧ b = p j ∧ (b = true → WPE (F.ext D) (C.blk scope) elt (ρ.set i (.d (ei j))) k1 fun k3 y => k3 = k1 ∧ y = g j)) ∧ Φ k1 (.list (((as).filter p).map g))) : WPE F C (.ListComp elt [⟨.Name x px, iter, [c], 0⟩] scope pos) ρ k Φ := by
  refine we_compL1 i b hK hfs (h.imp fun k1 d hh => ?_)
  obtain ⟨as, e, hz, hb, hf⟩ := hh
  refine ⟨fun j k2 acc => k2 = k1 ∧ acc = ((as.take j).filter p).map g, as.map ei, e, by rw [List.length_map]; exact hz, ⟨rfl, by simp⟩, ?_, ?_⟩
  · rintro D j y k2 acc hy ⟨rfl, rfl⟩
    rw [List.getElem?_map] at hy
    cases ha' : as[j]? with
    | none => rw [ha'] at hy; cases hy
    | some a' =>
    rw [ha'] at hy
    cases hy
    have tn := take_next ha'
    refine (hb D _ (List.mem_of_getElem? ha')).imp fun k3 c' hc => ?_
    obtain ⟨rfl, ec, hel⟩ := hc
    cases c' with
    | true =>
      rw [if_pos rfl]
      refine (hel rfl).imp fun k4 y' ⟨e1, e2⟩ => ⟨e1, ?_⟩
      rw [tn, List.filter_append, List.map_append, e2, List.filter_cons, if_pos ec.symm]; rfl
    | false =>
      rw [if_neg Bool.false_ne_true]
      refine ⟨rfl, ?_⟩
      rw [tn, List.filter_append, List.map_append, List.filter_cons, if_neg (by rw [← ec]; exact Bool.false_ne_true)]; simp
  · rintro k2 acc ⟨rfl, rfl⟩
    rw [List.length_map, List.take_length]; exact hf
theorem we_mT (ei : α → PyData) (g : α → PyData) (i : Nat) {x : Str} {px : Pos} (b : Blk C scope i x) (hK : F.K = C.K) (hfs : ∀ (env : Env) (v : Value), foldedSetIterable iter env v = pure v)
    (h : WPE F C iter ρ k fun k1 d => ∃ as : List α, d = .tuple (as.map ei) ∧ as.length ≤ 1000000 ∧ (∀ D (j : α), j ∈ as → WPE (F.ext D) (C.blk scope) elt (ρ.set i (.d (ei j))) k1 fun k3 y => k3 = k1 ∧ y = g j) ∧ Φ k1 (.list ((as).map g))) : WPE F C (.ListComp elt [⟨.Name x px, iter, [], 0⟩] scope pos) ρ k Φ := by
  refine we_compT0 i b hK hfs (h.imp fun k1 d hh => ?_)
  obtain ⟨as, e, hz, hb, hf⟩ := hh
  refine ⟨fun j k2 acc => k2 = k1 ∧ acc = (as.take j).map g, as.map ei, e, by rw [List.length_map]; exact hz, ⟨rfl, by simp⟩, ?_, ?_⟩
  · rintro D j y k2 acc hy ⟨rfl, rfl⟩
    rw [List.getElem?_map] at hy
    cases ha' : as[j]? with
    | none => rw [ha'] at hy; cases hy
    | some a' =>
    rw [ha'] at hy
    cases hy
    have tn := take_next ha'
    refine (hb D _ (List.mem_of_getElem? ha')).imp fun k4 y' ⟨e1, e2⟩ => ⟨e1, ?_⟩
    rw [tn, e2, List.map_append]; rfl
  · rintro k2 acc ⟨rfl, rfl⟩
    rw [List.length_map, List.take_length]; exact hf
theorem we_fT (p : α → Bool) (ei : α → PyData) (g : α → PyData) (i : Nat) {x : Str} {px : Pos} {c : Expr} (b : Blk C scope i x) (hK : F.K = C.K) (hfs : ∀ (env : Env) (v : Value), foldedSetIterable iter env v = pure v)
    (h : WPE F C iter ρ k fun k1 d => ∃ as : List α, d = .tuple (as.map ei) ∧ as.length ≤ 1000000 ∧ (∀ D (j : α), j ∈ as → WPT (F.ext D) (C.blk scope) c (ρ.set i (.d (ei j))) k1 fun k2 b => k2 = k1 ∧ b = p j ∧ (b = true → WPE (F.ext D) (C.blk scope) elt (ρ.set i (.d (ei j))) k1 fun k3 y => k3 = k1 ∧ y = g j)) ∧ Φ k1 (.list (((as).filter p).map g))) : WPE F C (.ListComp elt [⟨.Name x px, iter, [c], 0⟩] scope pos) ρ k Φ := by
  refine we_compT1 i b hK hfs (h.imp fun k1 d hh => ?_)
  obtain ⟨as, e, hz, hb, hf⟩ := hh
  refine ⟨fun j k2 acc => k2 = k1 ∧ acc = ((as.take j).filter p).map g, as.map ei, e, by rw [List.length_map]; exact hz, ⟨rfl, by simp⟩, ?_, ?_⟩
  · rintro D j y k2 acc hy ⟨rfl, rfl⟩
    rw [List.getElem?_map] at hy
    cases ha' : as[j]? with
    | none => rw [ha'] at hy; cases hy
    | some a' =>
    rw [ha'] at hy
    cases hy
    have tn := take_next ha'
    refine (hb D _ (List.mem_of_getElem? ha')).imp fun k3 c' hc => ?_
    obtain ⟨rfl, ec, hel⟩ := hc
    cases c' with
    | true =>
      rw [if_pos rfl]
      refine (hel rfl).imp fun k4 y' ⟨e1, e2⟩ => ⟨e1, ?_⟩
      rw [tn, List.filter_append, List.map_append, e2, List.filter_cons, if_pos ec.symm]; rfl
    | false =>
      rw [if_neg Bool.false_ne_true]
      refine ⟨rfl, ?_⟩
      rw [tn, List.filter_append, List.map_append, List.filter_cons, if_neg (by rw [← ec]; exact Bool.false_ne_true)]; simp
  · rintro k2 acc ⟨rfl, rfl⟩
    rw [List.length_map, List.take_length]; exact hf
theorem we_mR (g : Int → PyData) (i : Nat) {x : Str} {px : Pos} (b : Blk C scope i x) {e : Expr} {pr pr2 : Pos} (hg : C.sc.names.lookup ("range" : Str) = some .globalImplicit) (hm : C.mg ("range" : Str) = none) (hse : ∀ env : Env, starEach [e] env = [(false, eval e env)]) (hfs : ∀ (env : Env) (v : Value), foldedSetIterable (.Call (.Name "range" pr) [e] [] pr2) env v = pure v)
    (h : WPE F C e ρ k fun k1 d => ∃ z : Int, d = .int z ∧ -(2 ^ 62) ≤ z ∧ z ≤ 1000000 ∧ (∀ D (j : Int), 0 ≤ j → j < z → WPE (F.ext D) (C.blk scope) elt (ρ.set i (.d (.int j))) k1 fun k3 y => k3 = k1 ∧ y = g j) ∧ Φ k1 (.list ((rg z).map g))) : WPE F C (.ListComp elt [⟨.Name x px, (.Call (.Name "range" pr) [e] [] pr2), [], 0⟩] scope pos) ρ k Φ := by
  refine we_compR0 i b hg hm hse hfs (h.imp fun k1 d hh => ?_)
  obtain ⟨z, e, z1, z2, hb, hf⟩ := hh
  refine ⟨fun j k2 acc => k2 = k1 ∧ acc = (rg (j : Int)).map g, z, e, z1, z2, ⟨rfl, rfl⟩, ?_, ?_⟩
  · rintro D j k2 acc hj ⟨rfl, rfl⟩
    have tn : rg ((j + 1 : Nat) : Int) = rg (j : Int) ++ [(j : Int)] := by rw [show ((j + 1 : Nat) : Int) = (j : Int) + 1 by omega, rg_succ]
    refine (hb D _ (by omega) (by omega)).imp fun k4 y' ⟨e1, e2⟩ => ⟨e1, ?_⟩
    rw [tn, e2, List.map_append]; rfl
  · rintro k2 acc ⟨rfl, rfl⟩
    have ez : rg ((z.toNat : Nat) : Int) = rg z := by unfold rg; congr 2
    rw [ez]; exact hf
theorem we_fR (p : Int → Bool) (g : Int → PyData) (i : Nat) {x : Str} {px : Pos} {c : Expr} (b : Blk C scope i x) {e : Expr} {pr pr2 : Pos} (hg : C.sc.names.lookup ("range" : Str) = some .globalImplicit) (hm : C.mg ("range" : Str) = none) (hse : ∀ env : Env, starEach [e] env = [(false, eval e env)]) (hfs : ∀ (env : Env) (v : Value), foldedSetIterable (.Call (.Name "range" pr) [e] [] pr2) env v = pure v)
    (h : WPE F C e ρ k fun k1 d => ∃ z : Int, d = .int z ∧ -(2 ^ 62) ≤ z ∧ z ≤ 1000000 ∧ (∀ D (j : Int), 0 ≤ j → j < z → WPT (F.ext D) (C.blk scope) c (ρ.set i (.d (.int j))) k1 fun k2 b => k2 = k1 ∧ b = p j ∧ (b = true → WPE (F.ext D) (C.blk scope) elt (ρ.set i (.d (.int j))) k1 fun k3 y => k3 = k1 ∧ y = g j)) ∧ Φ k1 (.list (((rg z).filter p).map g))) : WPE F C (.ListComp elt [⟨.Name x px, (.Call (.Name "range" pr) [e] [] pr2), [c], 0⟩] scope pos) ρ k Φ := by
  refine we_compR1 i b hg hm hse hfs (h.imp fun k1 d hh => ?_)
  obtain ⟨z, e, z1, z2, hb, hf⟩ := hh
  refine ⟨fun j k2 acc => k2 = k1 ∧ acc = ((rg (j : Int)).filter p).map g, z, e, z1, z2, ⟨rfl, rfl⟩, ?_, ?_⟩
  · rintro D j k2 acc hj ⟨rfl, rfl⟩
    have tn : rg ((j + 1 : Nat) : Int) = rg (j : Int) ++ [(j : Int)] := by rw [show ((j + 1 : Nat) : Int) = (j : Int) + 1 by omega, rg_succ]
    refine (hb D _ (by omega) (by omega)).imp fun k3 c' hc => ?_
    obtain ⟨rfl, ec, hel⟩ := hc
    cases c' with
    | true =>
      rw [if_pos rfl]
      refine (hel rfl).imp fun k4 y' ⟨e1, e2⟩ => ⟨e1, ?_⟩
      rw [tn, List.filter_append, List.map_append, e2, List.filter_cons, if_pos ec.symm]; rfl
    | false =>
      rw [if_neg Bool.false_ne_true]
      refine ⟨rfl, ?_⟩
      rw [tn, List.filter_append, List.map_append, List.filter_cons, if_neg (by rw [← ec]; exact Bool.false_ne_true)]; simp
  · rintro k2 acc ⟨rfl, rfl⟩
    have ez : rg ((z.toNat : Nat) : Int) = rg z := by unfold rg; congr 2
    rw [ez]; exact hf
end
end Dl

namespace Dl
open PySem PySem.Spec PyProof.Rows L2
/-! ### the laws' draws: a list [cells, count, rests] -/
def DkM (st a r : Addr) (b : Addr) : Prop := b = st ∨ b = a ∨ b = r
def DkG (st a r : Addr) (k : Nat) (H : Hp) : Prop := ∃ (cells rests : List Int) (n : Int), H st = some (.lst [.ref a, .int n, .ref r]) ∧ H a = some (.lst (cells.map V.int)) ∧ H r = some (.lst (rests.map V.int)) ∧
  cells.length = rests.length ∧ 0 < cells.length ∧ 0 ≤ n ∧ n + k ≤ 1000000
theorem DkG.weak {st a r : Addr} {k k' : Nat} {H : Hp} (h : DkG st a r k H) (hk : k' ≤ k) : DkG st a r k' H := by
  obtain ⟨c, rs, n, h1, h2, h3, h4, h5, h6, h7⟩ := h
  exact ⟨c, rs, n, h1, h2, h3, h4, h5, h6, by omega⟩
theorem DkG.at {st a r : Addr} {k : Nat} {H H' : Hp} (h : DkG st a r k H) (e : ∀ b, DkM st a r b → H' b = H b) : DkG st a r k H' := by
  obtain ⟨c, rs, n, h1, h2, h3, h4⟩ := h
  exact ⟨c, rs, n, (e st (.inl rfl)).trans h1, (e a (.inr (.inl rfl))).trans h2, (e r (.inr (.inr rfl))).trans h3, h4⟩
theorem DkG.live {st a r : Addr} {k : Nat} {H : Hp} (h : DkG st a r k H) (b : Addr) (hb : DkM st a r b) : H b ≠ none := by
  obtain ⟨c, rs, n, h1, h2, h3, h4⟩ := h
  rcases hb with rfl | rfl | rfl
  · rw [h1]; exact fun z => nomatch z
  · rw [h2]; exact fun z => nomatch z
  · rw [h3]; exact fun z => nomatch z
theorem DkG.lv {st a r : Addr} {k : Nat} {H : Hp} (h : DkG st a r k H) (b : Addr) (hb : DkM st a r b) : Lv H b := by
  obtain ⟨c, rs, n, h1, h2, h3, h4⟩ := h
  rcases hb with rfl | rfl | rfl
  · exact lv_lst h1
  · exact lv_lst h2
  · exact lv_lst h3
def dkFm (K : PySem.W.Frag) (S : Addr → Prop) (H : Hp) (st a r : Addr) : Fm where
  K := K
  S := fun b => S b ∨ DkM st a r b
  M := DkM st a r
  H0 := H
  G := DkG st a r
  ms := fun b h => .inr h
  gm := fun k H H' g e _ => g.at e
  gl := fun k H g b hb => g.live b hb
/-- the frame knows the draws -/
structure IsDk (F : Fm) (st a r : Addr) : Prop where
  M : F.M = DkM st a r
  G : F.G = DkG st a r
theorem IsDk.ext {F : Fm} {st a r : Addr} (h : IsDk F st a r) (D : Addr) : IsDk (F.ext D) st a r := ⟨h.M, h.G⟩
/-- a def that draws: at most `cost` draws; Pre of its data, R what it may hand back -/
def spDraw (K : PySem.W.Frag) (cost : Nat) (Pre : List PyData → Prop) (R : Rel) : Sp := fun vs H Q _ => ∃ (S : Addr → Prop) (st a r : Addr) (vs' : List V) (ds : List PyData) (k : Nat), vs = .ref st :: vs' ∧ DkG st a r (k + cost) H ∧ (∀ b, S b → Lv H b) ∧ (∀ b, DkM st a r b → S b) ∧ RepAll K S H vs' ds ∧ Pre ds ∧
  ∀ v d H', (∀ b o, ¬ DkM st a r b → H b = some o → H' b = some o) → DkG st a r k H' → Rep K S H' v d → R ds d → Q v H'
structure DFn (P : Program) (w : World) (K : PySem.W.Frag) (mg : Str → Option Value) (base : Heap) (lvl : Nat) (x : Str) (cost : Nat) (Pre : List PyData → Prop) (R : Rel) : Prop where
  ex : ∃ (fa : Addr) (fd : FuncData) (ps : List Str), FnG P w K mg base lvl fa fd ps (spDraw K cost Pre R) ∧ mg x = some (.ref fa) ∧ PySem.W.keepIn K (.ref fa) = true ∧ L2.Binds K fd ps []
section
variable {P : Program} {w : World} {K : PySem.W.Frag} {mg : Str → Option Value} {base : Heap}
theorem env_raw {F : Fm} {H : Hp} {N : List Str} {v : V} {vs : List V} {ds : List PyData} (r : RpAll F H vs ds) : EnvOk F H (L2.start N (v :: vs)) (.raw v :: (ds.map SV.d ++ List.replicate (N.length - (ds.length + 1)) SV.un)) := fun i sv e => by
  have hl := r.length
  unfold L2.start
  cases i with
  | zero => cases e; exact ⟨some v, rfl, rfl⟩
  | succ i =>
    have e' : (ds.map SV.d ++ List.replicate (N.length - (ds.length + 1)) SV.un)[i]? = some sv := e
    show ∃ x, ((vs.map some) ++ List.replicate (N.length - (vs.length + 1)) none)[i]? = some x ∧ SlotOk F H sv x
    by_cases hi : i < ds.length
    · rw [List.getElem?_append_left (by simpa using hi), List.getElem?_map, List.getElem?_eq_getElem hi] at e'
      cases e'
      obtain ⟨u, hu, ru⟩ := r.get (List.getElem?_eq_getElem hi)
      refine ⟨some u, ?_, u, rfl, ru⟩
      rw [List.getElem?_append_left (by simpa [hl] using hi), List.getElem?_map, hu]; rfl
    · rw [List.getElem?_append_right (by simpa using hi)] at e'
      rw [List.getElem?_append_right (by simp; omega)]
      simp only [List.length_map] at e' ⊢
      rw [List.getElem?_replicate] at e' ⊢
      rw [hl]
      by_cases hj : i - ds.length < N.length - (ds.length + 1)
      · rw [if_pos hj] at e' ⊢
        cases e'
        exact ⟨none, rfl, trivial⟩
      · rw [if_neg hj] at e'; cases e'
def drawFm (K : PySem.W.Frag) (S : Addr → Prop) (H : Hp) (st a r : Addr) (hS : ∀ b, DkM st a r b → S b) : Fm where
  K := K
  S := S
  M := DkM st a r
  H0 := H
  G := DkG st a r
  ms := hS
  gm := fun k H H' g e _ => g.at e
  gl := fun k H g b hb => g.live b hb
end
section
variable {F : Fm} {C : Cs} {ρ : Rho} {k : Nat} {Φ : Nat → PyData → Prop} {es : List Expr} {pos p py : Pos} {x y : Str}
end
end Dl

namespace Dl
open PySem PySem.Spec PyProof.Rows L2
/-! ### data whose repr is within the line -/
structure Fine (n dp : Nat) (d : PyData) : Prop where
  sh : d.showable = true
  nd : d.hasDict = false
  dp : d.depth ≤ dp
  sz : d.shown.length ≤ n
theorem Fine.ok {n dp : Nat} {d : PyData} (h : Fine n dp d) (hn : n ≤ 16000000 := by decide) (hd : dp ≤ 60 := by decide) : d.showable = true ∧ d.hasDict = false ∧ d.depth ≤ 60 ∧ d.shown.length ≤ sizeLine :=
  ⟨h.sh, h.nd, Nat.le_trans h.dp hd, Nat.le_trans h.sz (Nat.le_trans hn (by decide))⟩
theorem Fine.mono {n n' dp dp' : Nat} {d : PyData} (h : Fine n dp d) (hn : n ≤ n') (hd : dp ≤ dp') : Fine n' dp' d := ⟨h.sh, h.nd, Nat.le_trans h.dp hd, Nat.le_trans h.sz hn⟩
theorem fine_int {i : Int} (h : i.natAbs < 10 ^ 30) : Fine 31 0 (.int i) := by
  refine ⟨?_, by simp only [PyData.hasDict], by simp only [PyData.depth]; exact Nat.le_refl _, ?_⟩
  · simp only [PyData.showable, decide_eq_true_eq]
    by_cases h0 : i.natAbs = 0
    · rw [h0]; decide
    · exact (Nat.log2_lt h0).mpr (Nat.lt_trans h (by decide +kernel))
  · simp only [PyData.shown]
    rw [PySem.ofString_length]
    exact int_text_length_le10 (by decide) h
theorem fine_bool (b : Bool) : Fine 5 0 (.bool b) := ⟨by simp only [PyData.showable], by simp only [PyData.hasDict], by simp only [PyData.depth]; exact Nat.le_refl _, by cases b <;> simp only [PyData.shown] <;> decide +kernel⟩
section
variable {n dp : Nat}
theorem fine_all : ∀ {ds : List PyData}, (∀ d ∈ ds, Fine n dp d) → PyData.showableAll ds = true ∧ PyData.hasDictAll ds = false ∧ PyData.depthAll ds ≤ dp ∧ ((PyData.shownAll ds).map (·.length)).sum ≤ ds.length * n ∧ (PyData.shownAll ds).length = ds.length
  | [], _ => by simp [PyData.showableAll, PyData.hasDictAll, PyData.depthAll, PyData.shownAll]
  | d :: ds, h => by
    obtain ⟨h1, h2, h3, h4, h5⟩ := fine_all (ds := ds) fun d hd => h d (List.mem_cons_of_mem _ hd)
    have f := h d List.mem_cons_self
    have := f.dp
    have := f.sz
    refine ⟨by simp only [PyData.showableAll, f.sh, h1, Bool.and_self], by simp only [PyData.hasDictAll, f.nd, h2, Bool.or_self], by simp only [PyData.depthAll]; omega, ?_, by simp only [PyData.shownAll, List.length_cons, h5]⟩
    simp only [PyData.shownAll, List.map_cons, List.sum_cons, List.length_cons, Nat.succ_mul]
    omega
theorem fine_tuple {ds : List PyData} {L : Nat} (h : ∀ d ∈ ds, Fine n dp d) (hl : ds.length ≤ L) : Fine (L * (n + 2) + 3) (dp + 1) (.tuple ds) := by
  obtain ⟨h1, h2, h3, h4, h5⟩ := fine_all h
  refine ⟨by simp only [PyData.showable, h1], by simp only [PyData.hasDict, h2], by simp only [PyData.depth]; omega, ?_⟩
  simp only [PyData.shown]
  refine Nat.le_trans (tupleText_len_le _) ?_
  rw [h5, Nat.mul_add]
  have : ds.length * n ≤ L * n := Nat.mul_le_mul_right n hl
  omega
theorem fine_list {ds : List PyData} {L : Nat} (h : ∀ d ∈ ds, Fine n dp d) (hl : ds.length ≤ L) : Fine (L * (n + 2) + 3) (dp + 1) (.list ds) := by
  obtain ⟨h1, h2, h3, h4, h5⟩ := fine_all h
  refine ⟨by simp only [PyData.showable, h1], by simp only [PyData.hasDict, h2], by simp only [PyData.depth]; omega, ?_⟩
  simp only [PyData.shown]
  refine Nat.le_trans (listText_len_le _) ?_
  rw [h5, Nat.mul_add]
  have : ds.length * n ≤ L * n := Nat.mul_le_mul_right n hl
  omega
end
theorem fine_ints {ns : List Int} {L : Nat} (h : ∀ i ∈ ns, i.natAbs < 10 ^ 30) (hl : ns.length ≤ L) : Fine (L * 33 + 3) 1 (.tuple (ns.map PyData.int)) :=
  fine_tuple (n := 31) (dp := 0) (fun d hd => by obtain ⟨i, hi, rfl⟩ := List.mem_map.mp hd; exact fine_int (h i hi)) (by rw [List.length_map]; exact hl)
/-! ### the law's own end, where its first statement makes the draws -/
def spDraws (K : PySem.W.Frag) : Sp := fun vs H Q _ => ∃ (sc : Addr) (ns : List Int), vs = [.ref sc] ∧ SqL K H sc (ns.map V.int) ∧ ns.length ≤ 63 ∧
  ∀ H' st a r, Same H H' → H st = none → H a = none → H r = none → DkG st a r 900000 H' → Q (.ref st) H'
def spLaw (K : PySem.W.Frag) : Sp := fun vs H Q _ => ∃ (sc : Addr) (ns : List Int), vs = [.ref sc] ∧ SqL K H sc (ns.map V.int) ∧ ns.length ≤ 63 ∧ ∀ H', Q (.bl true) H'
section
variable {P : Program} {w : World} {K : PySem.W.Frag} {mg : Str → Option Value} {base : Heap}
end
end Dl

namespace Dl
open PySem PySem.Spec PyProof.Rows L2

/-! ### exceptions: what is known of one that flies: its class, its field -/
abbrev Xf := Option (Str × PyData)
def XOk (K : PySem.W.Frag) (S : Addr → Prop) (H : Hp) (d : Option Addr) : Xf → Prop
  | none => d = none
  | some (f, p) => ∃ (dx : Addr) (v : V), d = some dx ∧ ¬ S dx ∧ H dx = some (.xd [(f, v)]) ∧ Rep K S H v p
theorem nx_xd {fs : List (Str × V)} : ¬ IsX (.xd fs) := fun ⟨_, _, _, e⟩ => by unfold extL at e; cases e
theorem XOk.lz {F : Fm} {H H' : Hp} {d : Option Addr} {x : Xf} (h : XOk F.K F.S H d x) (l : Lz F H H') : XOk F.K F.S H' d x := by
  cases x with
  | none => exact h
  | some y =>
    obtain ⟨f, p⟩ := y
    obtain ⟨dx, v, e, ns, hd, r⟩ := h
    exact ⟨dx, v, e, ns, l dx _ (Fm.sxA ns nx_xd) hd, Rep.le (F := F) r l⟩
/-- the outcome of a def -/
inductive Out where
  | ok (d : PyData)
  | ex (c : Addr) (x : Xf)
/-- defs whose promise holds where no repr is under way, and that may raise -/
structure FnE (P : Program) (w : World) (K : PySem.W.Frag) (mg : Str → Option Value) (base : Heap) (k : Nat) (f : Addr) (fd : FuncData) (ps : List Str) (sp : Sp) : Prop where
  len : ∀ vs H Q E, sp vs H Q E → vs.length = ps.length
  run : ∀ (A : Around) (outer : List Env) (s : Shared) (H : Hp) (args : Args) (us : List Value) (vs : List V) (Q : VK) (E : XK), A.guards = some [] → Room k A → Env0 P w K mg base A outer s H → BindsTo s fd args (ps.zip us) → Vals vs us → sp vs H Q E →
    codeAny (model P w) A (.call (.ref f) args) (CR (L2.CX P w) outer P w H s Q E) s
section
variable {P : Program} {w : World} {K : PySem.W.Frag} {mg : Str → Option Value} {base : Heap}
theorem FnE.of_body {x qual : Str} {st : Stmt} {f : Addr} {fd : FuncData} {N ps : List Str} {k : Nat} {sp : Sp} (Fn : Fun K x qual st f fd) (Sc : FnScope N ps (defScope st)) (len : ∀ vs H Q E, sp vs H Q E → vs.length = ps.length)
    (body : ∀ (cdv : Value) (A : Around) (outer : List Env) (s : Shared) (H : Hp) (vs : List V) (Q : VK) (E : XK), A.guards = some [] → Room k (A.deeper (envOfC qual (defScope st) s.heap.objs.size f cdv)) → sp vs H Q E →
      ∃ t, PSs (cxOf (L2.CX P w) P w K mg base N qual (defScope st) f cdv A outer s H E) (defBody st) t ∧ t { nx := fun _ H' => Q .non H', rt := Q } (L2.start N vs) H) :
    FnE P w K mg base (k + 1) f fd ps sp := by
  obtain ⟨oc, od, kV, doc, pm, an, cdv, ct, osl, efd, look, hcode⟩ := Fn.ex
  subst efd
  constructor
  · exact len
  intro A outer s H args us vs Q E hgd room env hbind rel hsp
  have hlen := len vs H Q E hsp
  have inK : K.In s.heap := env.mod.kin.keeps fun b o z => (env.bs b o z).1
  have nolim : s.heap.NoLimit := env.mod.nolimit.keeps fun b o z => (env.bs b o z).1
  refine codeAny_call_function room.depth (inK f _ look) rfl Sc.co Sc.gen rfl (PySem.W.codeRec_of inK hcode) (hbind _ _ _ _ ?_)
  have kinds : ∀ y ∈ ps.zip us, (defScope st).names.lookup y.1 = some .local ∨ ((defScope st).names.lookup y.1 = some .cell ∧ ((cellsFrom (s.heap.objs.size + 1) (defScope st).names []).lookup y.1).isSome = true) := by
    rintro ⟨n, v⟩ hy
    have hn : n ∈ ps := (List.of_mem_zip hy).1
    cases Sc.par n hn with
    | inl q => left; exact q
    | inr q => right; exact ⟨q, PySem.W.cellsFrom_some _ _ _ (Or.inl q)⟩
  apply wpAny_newFunctionEnv_cells Sc.kind kinds
  intro env' he s1 ic
  subst he
  refine ⟨nolim.keeps ic.toInCall.keep, codeAny_func ?_⟩
  obtain ⟨t, ht, hq⟩ := body cdv A outer s H vs Q E hgd (room.deeper _) hsp
  have inv : Inv (cxOf (L2.CX P w) P w K mg base N qual (defScope st) f cdv A outer s H E) [] (L2.start N vs) H s1 := inv_start Sc room.hd env hlen rel ic
  refine wpAny_mono (ht.run [] s1 _ H _ inv hq) ?_ (fun e s' z => z)
  intro fl s' hfl
  cases fl with
  | ret u => exact let ⟨v, _, H', j, rv, q⟩ := hfl; ⟨v, H', j.os, j.bare, j.base, j.hok, rv, q⟩
  | next => exact let ⟨_, H', j, q⟩ := hfl; ⟨V.non, H', j.os, j.bare, j.base, j.hok, rfl, q⟩
  | brk => exact let ⟨_, _, _, q⟩ := hfl; False.elim q
  | cont => exact let ⟨_, _, _, q⟩ := hfl; False.elim q
theorem FnE.mono {j k : Nat} {f : Addr} {fd : FuncData} {ps : List Str} {sp : Sp} (G : FnE P w K mg base j f fd ps sp) (h : j ≤ k) : FnE P w K mg base k f fd ps sp :=
  ⟨G.len, fun A outer s H args us vs Q E g room => G.run A outer s H args us vs Q E g (room.mono h)⟩
end
section
variable {X : Cx} {x : Str} {p pos : Pos} {e : Expr} {es : List Expr} {t : TA} {k : Nat} {f : Addr} {fd : FuncData} {ps : List Str} {sp : Sp} {W : L2.WX}
theorem FnE.call_run {pins : List (Addr × Obj)} {σ : L2.St} {H : Hp} {s : Shared} {Q : VK} {us : List Value} {vs : List V} (G : FnE X.prog X.w X.K X.mg X.base k f fd ps sp) (gd : X.A.guards = some []) (room : Room k X.A) (hb : L2.Binds X.K fd ps []) (tk : L2.Takes X W)
    (I : Inv X pins σ H s) (r : Vals vs us) (h : sp vs H Q (fun cls d H' => W cls d σ H')) : wpAny (model X.prog X.w) X.A (call (.ref f) us) (EP X pins σ Q) X.xe s := by
  have hl : us.length = ps.length := r.length.symm.trans (G.len vs H Q _ h)
  have bind := hb s us I.kIn (by rw [List.append_nil]; exact hl)
  rw [List.append_nil] at bind
  refine wpAny_call (codeAny_mono (G.run X.A X.stack s H ⟨us, []⟩ us vs Q _ gd room I.env0 bind r h) ?_)
  intro res s' hr
  match res, hr with
  | .ok (.ret u), hr => exact I.after hr
  | .ok .next, hr => exact False.elim hr
  | .ok .brk, hr => exact False.elim hr
  | .ok .cont, hr => exact False.elim hr
  | .error e, hr => exact L2.passAt tk σ pins H s e s' I hr
theorem FnE.pe (G : FnE X.prog X.w X.K X.mg X.base k f fd ps sp) (gd : X.A.guards = some []) (room : Room k X.A) (hb : L2.Binds X.K fd ps []) (tk : L2.Takes X W) (hg : Gl X x) (hm : X.mg x = some (.ref f)) (kp : PySem.W.keepIn X.K (.ref f) = true)
    (ha : PA X (e :: es) t) (hdb : (x == ("__debug__" : Str)) = false) (hss : starEach (e :: es) X.env = (false, eval e X.env) :: starEach es X.env) (hpl : ((backTo pos (starEach es X.env)).any fun z => z.fst) = false) :
    PE X (.Call (.Name x p) (e :: es) [] pos) (fun σ H Q => t σ H fun vs H1 => sp vs H1 Q (fun cls d H' => W cls d σ H')) := by
  constructor
  intro pins s σ H Q I h
  refine wpAny_Call_Name_kw (ld_glob I hg hm ?_ hdb)
  refine PySem.W.callWith_K (h₀ := X.base) I.ok.mod.kin kp (wpAny_mono (ha.run pos pins s σ H _ I h) ?_ fun _ _ z => z) hss hpl
  rintro us s1 ⟨vs, H1, I1, rv, q⟩
  exact ⟨I1.kIn, G.call_run gd room hb tk I1 rv q⟩
end

/-! ### contexts that exceptions may leave -/
structure FitsX (C : Cs) (W : L2.WX) (X : Cx) : Prop where
  fit : Fits C X.nox
  tk : L2.Takes X W
  po : PassesOwn (model X.prog X.w) X.A X.env X.xe
  st : X.stack = X.env :: X.outer
  fr : X.env.frame = some X.env.locals
def tEX (C : Cs) (W : L2.WX) (e : Expr) : TE := fun σ H Q => ∀ X, FitsX C W X → ∀ pins s, Inv X pins σ H s → wpAny (model X.prog X.w) X.A (eval e X.env) (EP X pins σ Q) X.xe s
def tSX (C : Cs) (W : L2.WX) (st : Stmt) : TS := fun D σ H => ∀ X, FitsX C W X → ∀ pins s, Inv X pins σ H s → wpAny (model X.prog X.w) X.A (exec st X.env) (SP X pins D) X.xe s
def tBX (C : Cs) (W : L2.WX) (st : List Stmt) : TS := fun D σ H => ∀ X, FitsX C W X → ∀ pins s, Inv X pins σ H s → wpAny (model X.prog X.w) X.A (execs st X.env) (SP X pins D) X.xe s
section
variable {C : Cs} {X : Cx} {W : L2.WX}
end
/-- what the context wishes of exceptions -/
def WxS (F : Fm) (H : Hp) (W : L2.WX) (Ξ : Nat → Rho → Addr → Xf → Prop) : Prop := ∀ ρ' σ' k' H' c d x, Lz F H H' → EnvOk F H' σ' ρ' → J F k' H' → XOk F.K F.S H' d x → Ξ k' ρ' c x → W (.ref c) d σ' H'
def WSX (F : Fm) (t : L2.WX → TS) (ρ : Rho) (k : Nat) (P : DE) (Ξ : Nat → Rho → Addr → Xf → Prop) : Prop :=
  ∀ (σ : L2.St) (H : Hp) (E : Ends) (W : L2.WX), EnvOk F H σ ρ → J F k H →
    (∀ ρ' σ' k' H', Lz F H H' → EnvOk F H' σ' ρ' → J F k' H' → P.nx k' ρ' → E.nx σ' H') →
    (∀ v d k' H', J F k' H' → Rp F H' v d → P.rt k' d → E.rt v H') →
    (∀ ρ' σ' k' H', Lz F H H' → EnvOk F H' σ' ρ' → J F k' H' → P.bk k' ρ' → E.bk σ' H') →
    (∀ ρ' σ' k' H', Lz F H H' → EnvOk F H' σ' ρ' → J F k' H' → P.ct k' ρ' → E.ct σ' H') → WxS F H W Ξ → t W E σ H
def WEX (F : Fm) (t : L2.WX → TE) (ρ : Rho) (k : Nat) (Φ : Nat → PyData → Prop) (Ξ : Nat → Rho → Addr → Xf → Prop) : Prop :=
  ∀ (σ : L2.St) (H : Hp) (Q : VK) (W : L2.WX), EnvOk F H σ ρ → J F k H → (∀ v d k' H', Le F H H' → J F k' H' → Rp F H' v d → Φ k' d → Q v H') → WxS F H W Ξ → t W σ H Q
abbrev WPEX (F : Fm) (C : Cs) (e : Expr) (ρ : Rho) (k : Nat) (Φ : Nat → PyData → Prop) (Ξ : Nat → Rho → Addr → Xf → Prop) : Prop := WEX F (fun W => tEX C W e) ρ k Φ Ξ
abbrev WPSX (F : Fm) (C : Cs) (st : Stmt) (ρ : Rho) (k : Nat) (P : DE) (Ξ : Nat → Rho → Addr → Xf → Prop) : Prop := WSX F (fun W => tSX C W st) ρ k P Ξ
abbrev WPBX (F : Fm) (C : Cs) (st : List Stmt) (ρ : Rho) (k : Nat) (P : DE) (Ξ : Nat → Rho → Addr → Xf → Prop) : Prop := WSX F (fun W => tBX C W st) ρ k P Ξ
section
variable {F : Fm} {C : Cs} {ρ : Rho} {k : Nat} {Φ : Nat → PyData → Prop} {Ψ : Nat → Bool → Prop} {Ξ : Nat → Rho → Addr → Xf → Prop} {e a b c : Expr} {es : List Expr} {pos p : Pos} {P : DE} {x : Str}
theorem WxS.lz {H H1 : Hp} {W : L2.WX} (h : WxS F H W Ξ) (l : Lz F H H1) : WxS F H1 W Ξ := fun ρ' σ' k' H' c d x l2 => h ρ' σ' k' H' c d x (l.trans l2)
end

/-! ### defs that only read and may raise -/
abbrev RelE := List PyData → Out → Prop
def spPureE (K : PySem.W.Frag) (R : RelE) : Sp := fun vs H Q E => ∃ (S : Addr → Prop) (ds : List PyData) (o : Out), (∀ b, S b → Lv H b) ∧ RepAll K S H vs ds ∧ R ds o ∧
  match o with
  | .ok d => ∀ v H', Same H H' → Rep K S H' v d → Q v H'
  | .ex c x => ∀ d H', Same H H' → XOk K S H' d x → E (.ref c) d H'
structure PFE (P : Program) (w : World) (K : PySem.W.Frag) (mg : Str → Option Value) (base : Heap) (lvl : Nat) (x : Str) (R : RelE) : Prop where
  ex : ∃ (fa : Addr) (fd : FuncData) (ps : List Str), FnE P w K mg base lvl fa fd ps (spPureE K R) ∧ mg x = some (.ref fa) ∧ PySem.W.keepIn K (.ref fa) = true ∧ L2.Binds K fd ps []
section
variable {P : Program} {w : World} {K : PySem.W.Frag} {mg : Str → Option Value} {base : Heap}
end
section
variable {F : Fm} {C : Cs} {ρ : Rho} {k : Nat} {Φ : Nat → PyData → Prop} {Ξ : Nat → Rho → Addr → Xf → Prop} {e a b : Expr} {es : List Expr} {pos p : Pos} {P : DE} {x : Str}
end

/-! ### exception classes with one field -/
def spXI (K : PySem.W.Frag) (C : Addr) (f : Str) : Sp := fun vs H Q _ => ∃ (a : Addr) (v : V), vs = [.ref a, v] ∧ H a = some (exo a C none) ∧ ∀ dx, H dx = none → dx ≠ a → Q .non (upd (upd H dx (exd dx [(f, v)])) a (exo a C (some dx)))
structure XCl (P : Program) (w : World) (K : PySem.W.Frag) (mg : Str → Option Value) (base : Heap) (x : Str) (C : Addr) (f : Str) : Prop where
  T : OexC K C
  mx : mg x = some (.ref C)
  ex : ∃ (fI : Addr) (fd : FuncData) (ps : List Str), PySem.W.findIn K (.ref C) "__init__" = some (some (.ref fI)) ∧ PySem.W.typeIn K (.ref fI) = some (.type "function") ∧ FnOk P w K mg base CX0 1 fI fd ps (spXI K C f) ∧ L2.Binds K fd ps []
section
variable {F : Fm} {C : Cs} {ρ : Rho} {k : Nat} {Φ : Nat → PyData → Prop} {Ξ : Nat → Rho → Addr → Xf → Prop} {e a b : Expr} {es : List Expr} {pos p pos' : Pos} {P : DE} {x f : Str} {Cl : Addr}
end
end Dl

set_option maxHeartbeats 2000000
namespace Dl
open PySem PySem.Spec PyProof.Rows L2
/-! ### the frame of an except suite: all data of the moment stand -/
open Classical in
noncomputable def Fm.susH (F : Fm) (H : Hp) : Hp := fun b => match H b with
  | some o => if F.S b ∨ F.X o then F.H0 b else some o
  | none => F.H0 b
section
variable {F : Fm} {H H1 : Hp} {k : Nat} {b : Addr} {o : HO} {σ : L2.St} {ρ : Rho}
theorem susH_case (h : F.susH H b = some o) : F.H0 b = some o ∨ (H b = some o ∧ ¬ F.S b ∧ ¬ F.X o) := by
  unfold Fm.susH at h
  split at h
  · rename_i u hu
    split at h
    · exact .inl h
    · rename_i hn
      cases h
      exact .inr ⟨hu, fun z => hn (.inl z), fun z => hn (.inr z)⟩
  · exact .inl h
theorem susH_data (h : H b = some o) (s : ¬ F.S b) (x : ¬ F.X o) : F.susH H b = some o := by
  unfold Fm.susH
  rw [h]
  exact if_neg (fun z => z.elim s x)
theorem susH_own (h : F.S b) (hn : F.H0 b = none) : F.susH H b = none := by
  unfold Fm.susH
  split
  · rw [if_pos (.inl h)]; exact hn
  · exact hn
noncomputable def Fm.sus (F : Fm) (H : Hp) : Fm where
  K := F.K
  S := F.S
  M := F.M
  H0 := F.susH H
  G := F.G
  ms := F.ms
  gm := F.gm
  gl := F.gl
  X := F.X
  xi := F.xi
  xa := fun k H2 g b o hm hx e => by
    rcases susH_case e with h | ⟨_, _, h⟩
    · exact F.xa k H2 g b o hm hx h
    · exact absurd hx h
theorem J.sus (j : J F k H) : J (F.sus H) k H := ⟨j.g, fun b o n e => by
  rcases susH_case e with h | ⟨h, _, _⟩
  · exact j.le b o n h
  · exact h, j.al⟩
theorem J.unsus {k1 : Nat} (j : J F k H) (j1 : J (F.sus H) k1 H1) : J F k1 H1 := ⟨j1.g, fun b o n e => by
  have hb := j.le b o n e
  by_cases hx : F.S b ∨ F.X o
  · refine j1.le b o n ?_
    show F.susH H b = some o
    unfold Fm.susH
    rw [hb]
    exact (if_pos hx).trans e
  · exact j1.le b o n (susH_data hb (fun z => hx (.inl z)) fun z => hx (.inr z)), j1.al⟩
theorem EnvOk.sus (en : EnvOk F H1 σ ρ) : EnvOk (F.sus H) H1 σ ρ := fun i sv e => by
  obtain ⟨x, q, r⟩ := en i sv e
  refine ⟨x, q, ?_⟩
  cases sv with
  | un => trivial
  | d d => exact r
  | raw v => exact r
  | own o xs =>
    obtain ⟨e, s, m, z, vs, h1, r⟩ := r
    exact ⟨e, s, m, susH_own s z, vs, h1, r⟩
/-- ghost: own lists are away from what stood -/
theorem EnvOk.unsus (hn : ∀ b, F.S b → F.susH H b = none → F.H0 b = none) (en : EnvOk (F.sus H) H1 σ ρ) : EnvOk F H1 σ ρ := fun i sv e => by
  obtain ⟨x, q, r⟩ := en i sv e
  refine ⟨x, q, ?_⟩
  cases sv with
  | un => trivial
  | d d => exact r
  | raw v => exact r
  | own o xs =>
    obtain ⟨e, s, m, z, vs, h1, r⟩ := r
    exact ⟨e, s, m, hn o s z, vs, h1, r⟩
end
/-- the frame knows the exception -/
def HasX (F : Fm) (d : Option Addr) (x : Xf) : Prop := ∀ k H, J F k H → XOk F.K F.S H d x
/-! ### except suites -/
structure FitsH (C : Cs) (a : Addr) (cls : Value) (d : Option Addr) (X : Cx) : Prop where
  P : X.prog = C.P
  w : X.w = C.w
  K : X.K = C.K
  mg : X.mg = C.mg
  base : X.base = C.base
  N : X.N = C.N
  sc : X.env.scope = C.sc
  fn : X.fn = C.fn
  room : L2H.RoomH C.lvl X.A
  gd : X.A.guards = some []
  xe : X.xe = fun _ _ => False
  exc : ∃ (X0 : Cx) (oe : Obj) (pn : List (Addr × Obj)), X = X0.suite a ((a, oe) :: pn) ∧ Zc cls d oe ∧ ∃ vs, oe.data = .fields vs
/-- a suite: where it stands, the exception, its class, its dict -/
structure Hc where
  C : Cs
  a : Addr
  cls : Addr
  d : Option Addr
abbrev FH (h : Hc) (X : Cx) : Prop := FitsH h.C h.a (.ref h.cls) h.d X
def tEH (h : Hc) (e : Expr) : TE := fun σ H Q => ∀ X, FH h X → ∀ pins s, Inv X pins σ H s → wpAny (model X.prog X.w) X.A (eval e X.env) (EP X pins σ Q) X.xe s
def tTH (h : Hc) (e : Expr) : TT := fun σ H Q => ∀ X, FH h X → ∀ pins s, Inv X pins σ H s → wpAny (model X.prog X.w) X.A (isTrue e X.env (eval e X.env)) (TP X pins σ Q) X.xe s
def tWH (h : Hc) (e : Expr) : TT := fun σ H Q => ∀ X, FH h X → ∀ (whole : Sem Value) pins s, Inv X pins σ H s → wpAny (model X.prog X.w) X.A (isTrue e X.env whole) (TP X pins σ Q) X.xe s
def tAH (h : Hc) (es : List Expr) : TA := fun σ H Q => ∀ X, FH h X → ∀ (pos : Pos) pins s, Inv X pins σ H s → wpAny (model X.prog X.w) X.A (spliced (backTo pos (starEach es X.env))) (AP X pins σ Q) X.xe s
def tSH (h : Hc) (st : Stmt) : TS := fun D σ H => ∀ X, FH h X → ∀ pins s, Inv X pins σ H s → wpAny (model X.prog X.w) X.A (exec st X.env) (SP X pins D) X.xe s
def tBH (h : Hc) (st : List Stmt) : TS := fun D σ H => ∀ X, FH h X → ∀ pins s, Inv X pins σ H s → wpAny (model X.prog X.w) X.A (execs st X.env) (SP X pins D) X.xe s
abbrev HPE (F : Fm) (h : Hc) (e : Expr) (ρ : Rho) (k : Nat) (Φ : Nat → PyData → Prop) : Prop := WE F (tEH h e) ρ k Φ
abbrev HPT (F : Fm) (h : Hc) (e : Expr) (ρ : Rho) (k : Nat) (Φ : Nat → Bool → Prop) : Prop := WT F (tTH h e) ρ k Φ
abbrev HPW (F : Fm) (h : Hc) (e : Expr) (ρ : Rho) (k : Nat) (Φ : Nat → Bool → Prop) : Prop := WT F (tWH h e) ρ k Φ
abbrev HPA (F : Fm) (h : Hc) (es : List Expr) (ρ : Rho) (k : Nat) (Φ : Nat → List PyData → Prop) : Prop := WA F (tAH h es) ρ k Φ
abbrev HPS (F : Fm) (h : Hc) (st : Stmt) (ρ : Rho) (k : Nat) (P : DE) : Prop := WS F (tSH h st) ρ k P
abbrev HPB (F : Fm) (h : Hc) (st : List Stmt) (ρ : Rho) (k : Nat) (P : DE) : Prop := WS F (tBH h st) ρ k P
section
variable {X : Cx} {h : Hc}
end
section
variable {F : Fm} {h : Hc} {ρ : Rho} {k : Nat} {Φ Φ' : Nat → PyData → Prop} {Ψ Ψ' : Nat → Bool → Prop} {e a b c : Expr} {es : List Expr} {pos p p2 : Pos} {P : DE} {x y : Str}
/-- isinstance(e, T) of the exception in hand; e its slot -/
def rIsX (K : PySem.W.Frag) (D a : Addr) : List V → Hp → VK → Prop := fun xs H Q => ∃ (c : V) (b : Bool), xs = [.ref a, c] ∧
  ((∃ cv, ClsV c cv ∧ PySem.W.kitOne K (.ref D) cv = some b) ∨ (∃ tp cs ws, c = .ref tp ∧ H tp = some (.tup cs) ∧ Paired ClsV cs ws ∧ PySem.W.kitAny K (.ref D) ws = some b)) ∧ Q (.bl b) H
theorem kitx_ofC {K : PySem.W.Frag} {D x : Addr} {ox : Obj} {od : Option Obj} (c : ExcC K D) : PySem.W.KitX K (.ref x) (.ref D) (fun h => PySem.W.InstAt h x ox D od) :=
  PySem.W.kitx_exc (by obtain ⟨cd, h, _⟩ := PySem.W.any_some c.hd; rw [h]; rfl) c.hg c.hk c.hs c.ha c.hn c.ht c.hm
def XdOk (d : Option Addr) (H : Hp) : Prop := ∀ dx, d = some dx → ∃ fs : List (Str × V), H dx = some (.xd fs)
end
end Dl

namespace Dl
open PySem PySem.Spec PyProof.Rows L2
/-! ### try: body, except X as n: suite -/
section
variable {F : Fm} {C : Cs} {ρ : Rho} {k : Nat} {Φ : Nat → PyData → Prop} {Ξ Ξ2 : Nat → Rho → Addr → Xf → Prop} {e : Expr} {pos p np pos' : Pos} {P : DE} {x n : Str} {body suite : List Stmt} {b₀ : Stmt} {cv : Value}
abbrev DE.out (P : DE) (i : Nat) : DE := ⟨fun k r => P.nx k (r.set i .un), P.rt, fun k r => P.bk k (r.set i .un), fun k r => P.ct k (r.set i .un)⟩
end

section
variable {F : Fm} {C : Cs} {ρ : Rho} {k : Nat} {Ξ : Nat → Rho → Addr → Xf → Prop} {P : DE}
theorem WSX.nx {t : L2.WX → TS} {P' : Nat → Rho → Prop} (h : WSX F t ρ k P Ξ) (h1 : ∀ k ρ, P.nx k ρ → P' k ρ) : WSX F t ρ k (P.seq P') Ξ :=
  fun σ H E W en j q1 q2 q3 q4 hx => h σ H E W en j (fun ρ' σ' k' H' l e j' p => q1 ρ' σ' k' H' l e j' (h1 _ _ p)) q2 q3 q4 hx
end

/-! ### a def that raises nothing, called as ever -/
section
variable {P : Program} {w : World} {K : PySem.W.Frag} {mg : Str → Option Value} {base : Heap}
theorem FnE.toG {k : Nat} {f : Addr} {fd : FuncData} {ps : List Str} {sp sp' : Sp} (G : FnE P w K mg base k f fd ps sp) (h : ∀ vs H Q, sp' vs H Q E0 → sp vs H Q E0) (hl : ∀ vs H Q E, sp' vs H Q E → vs.length = ps.length) : FnG P w K mg base k f fd ps sp' where
  len := hl
  run := fun A outer s H args us vs Q gd room e0 hb r hsp => by
    refine codeAny_mono (G.run A outer s H args us vs Q E0 gd room e0 hb r (h vs H Q hsp)) ?_
    intro res s' hr
    match res, hr with
    | .ok (.ret u), hr => exact hr
    | .ok .next, hr => exact False.elim hr
    | .ok .brk, hr => exact False.elim hr
    | .ok .cont, hr => exact False.elim hr
    | .error e, hr =>
      obtain ⟨_, _, _, _, _, _, _, _, _, _, _, _, z⟩ := hr
      exact z.elim
end

/-! ### isinstance(e, ..) in a suite -/
/-- x is the name of a class -/
inductive CN (C : Cs) : Expr → V → Value → Prop
  | own {x : Str} {p : Pos} {D : Addr} (hg : C.sc.names.lookup x = some .globalImplicit) (hm : C.mg x = some (.ref D)) (hd : (x == ("__debug__" : Str)) = false) : CN C (.Name x p) (.ref D) (.ref D)
  | blt {x : Str} {p : Pos} {T : String} (hg : C.sc.names.lookup x = some .globalImplicit) (hm : C.mg x = none) (hv : bootBuiltins x = some (.type T)) (hn : x ≠ "__name__") (hd : (x == ("__debug__" : Str)) = false) : CN C (.Name x p) (.ty T) (.type T)
inductive CNs (C : Cs) : List Expr → List V → List Value → Prop
  | nil : CNs C [] [] []
  | cons {e : Expr} {es : List Expr} {c : V} {cs : List V} {v : Value} {vs : List Value} : CN C e c v → CNs C es cs vs → CNs C (e :: es) (c :: cs) (v :: vs)
theorem CN.cls {C : Cs} {e : Expr} {c : V} {v : Value} (h : CN C e c v) : ClsV c v := by
  cases h with
  | own => exact .own _
  | blt => exact .ty _
theorem CNs.cls {C : Cs} {es : List Expr} {cs : List V} {vs : List Value} (h : CNs C es cs vs) : Paired ClsV cs vs := by
  induction h with
  | nil => exact .nil
  | cons h _ ih => exact .cons h.cls ih
section
variable {X : Cx} {h : Hc}
theorem CN.pe {e : Expr} {c : V} {v : Value} (k : CN h.C e c v) (fx : FH h X) : PE X e (tC c) := by
  cases k with
  | own hg hm hd => exact pe_glob (v := .ref _) (u := .ref _) (by show X.env.scope.names.lookup _ = _; rw [fx.sc]; exact hg) (by rw [fx.mg]; exact hm) rfl hd
  | blt hg hm hv hn hd => exact pe_bltn (v := .ty _) (u := .type _) (by show X.env.scope.names.lookup _ = _; rw [fx.sc]; exact hg) (by rw [fx.mg]; exact hm) hv rfl hn hd
def tCs (cs : List V) : TA := fun σ H Q => Q cs H
end
section
variable {F : Fm} {h : Hc} {ρ : Rho} {k : Nat} {Φ : Nat → PyData → Prop} {Ψ : Nat → Bool → Prop} {e e2 : Expr} {es : List Expr} {pos p py pt : Pos} {y : Str} {kk : Nat} {b : Bool}
end
end Dl

namespace Dl
open PySem PySem.Spec PyProof.Rows L2
/-! ### the classes of errors, their __init__ -/
section
variable {P : Program} {w : World} {K : PySem.W.Frag} {mg : Str → Option Value} {base : Heap} {C : Addr}
end
end Dl

namespace Dl
open PySem PySem.Spec PyProof.Rows L2
/-! ### a list of the def's own, that grows -/
def plainB : SV → Bool
  | .own _ _ => false
  | _ => true
theorem noOwn_of {ρ : Rho} {i : Nat} (h : (ρ.set i .un).all plainB = true) (j : Nat) (o : Addr) (xs : List PyData) (hj : j ≠ i) (e : ρ[j]? = some (.own o xs)) : False := by
  have e' : (ρ.set i .un)[j]? = some (.own o xs) := by rw [List.getElem?_set_ne (Ne.symm hj)]; exact e
  have := List.all_eq_true.mp h _ (List.mem_of_getElem? e')
  cases this
section
variable {F : Fm} {C : Cs} {ρ : Rho} {k : Nat} {P : DE} {Φ : Nat → PyData → Prop} {pos p px p2 ap cp : Pos} {x : Str} {rest : List Stmt} {e : Expr}
theorem wb_own (i : Nat) (t : Tgt C i x) (hi : i < ρ.length) (hs : ∀ env : Env, env.scope = C.sc → swapsWith (.List [] p2) (some (.Name x px)) pos.line env = pure false)
    (h : ∀ o, WPB (F.ext o) C rest (ρ.set i (.own o [])) k { nx := fun _ _ => False, rt := P.rt, bk := fun _ _ => False, ct := fun _ _ => False }) : WPB F C (.Assign [.Name x px] (.List [] p2) pos :: rest) ρ k P :=
  of_pb (fun X fx => pss_cons (ps_set (by rw [fx.N]; exact t.hN) (by rw [fx.N]; exact t.hi) (by rw [fx.sc]; exact t.hx) (pe_lst pa_nil) (hs X.env fx.sc) (by rw [fx.fn, fx.sc]; exact t.hf)) (pbB fx)) fun σ H E en j q1 q2 q3 q4 => by
    refine ⟨Nat.zero_le _, fun o no => ?_⟩
    have hM : ¬ F.M o := fun z => F.gl _ _ j.g o z no
    have h0 : F.H0 o = none := j.h0 hM no
    have en2 : EnvOk (F.ext o) (upd H o (.lst [])) (σ.set i (some (.ref o))) (ρ.set i (.own o [])) :=
      (en.ext no).set (sv := .own o []) ⟨rfl, .inr rfl, hM, h0, [], upd_same, .nil⟩
    refine h o (σ.set i (some (.ref o))) (upd H o (.lst [])) E en2 ((j.new no).ext (lv_new fun _ z => nomatch z)) ?_ ?_ ?_ ?_
    · exact fun _ _ _ _ _ _ _ z => z.elim
    · exact fun v d k' H' j' r' p => q2 v d k' H' j'.unext r'.unext p
    · exact fun _ _ _ _ _ _ _ z => z.elim
    · exact fun _ _ _ _ _ _ _ z => z.elim
theorem EnvOk.own {H : Hp} {σ : L2.St} {i : Nat} {o : Addr} {xs : List PyData} (en : EnvOk F H σ ρ) (e : ρ[i]? = some (.own o xs)) : σ[i]? = some (some (.ref o)) ∧ F.S o ∧ ¬ F.M o ∧ F.H0 o = none ∧ ∃ vs, H o = some (.lst vs) ∧ RpAll F H vs xs := by
  obtain ⟨y, q, h1, h2⟩ := en i _ e
  exact ⟨by rw [q, h1], h2⟩
/-- the own list becomes another one -/
theorem EnvOk.ownSet {H : Hp} {σ : L2.St} {i : Nat} {o : Addr} {xs ys : List PyData} {ws : List V} (en : EnvOk F H σ ρ) (e : ρ[i]? = some (.own o xs)) (hno : (ρ.set i .un).all plainB = true) (r : RpAll F H ws ys) : EnvOk F (upd H o (.lst ws)) σ (ρ.set i (.own o ys)) := by
  obtain ⟨hσ, hS, hM, h0, vs, hv, rv⟩ := en.own e
  have lz : ∀ b u, ¬ F.S b → H b = some u → (upd H o (.lst ws)) b = some u := fun b u hb z => by rw [upd_ne (show b ≠ o from fun y => hb (y ▸ hS))]; exact z
  intro j sv ej
  by_cases hj : i = j
  · subst hj
    have hl : i < ρ.length := (List.getElem?_eq_some_iff.mp e).1
    rw [List.getElem?_set_self hl] at ej
    cases ej
    exact ⟨_, hσ, rfl, hS, hM, h0, ws, upd_same, RepAll.keep lz (fun _ _ z => z) _ _ r⟩
  · rw [List.getElem?_set_ne hj] at ej
    obtain ⟨y, q, s⟩ := en j sv ej
    refine ⟨y, q, ?_⟩
    cases sv with
    | un => trivial
    | d d => obtain ⟨v, z, r⟩ := s; exact ⟨v, z, Rep.keep lz (fun _ _ z => z) _ _ r⟩
    | raw v => exact s
    | own o' xs' => exact (noOwn_of hno j o' xs' (Ne.symm hj) ej).elim
theorem ws_append (i : Nat) {o : Addr} {xs : List PyData} (hN : C.N[i]? = some x) (hv : Vis C.sc x) (hr : ρ[i]? = some (.own o xs)) (hno : (ρ.set i .un).all plainB = true) (hz : xs.length ≤ 1000000)
    (hse : ∀ env : Env, starEach [e] env = (false, eval e env) :: starEach [] env) (h : WPE F C e ρ k fun k1 d => P.nx k1 (ρ.set i (.own o (xs ++ [d]))))
    (hsw : ∀ env : Env, swapsWith (.Call (.Attribute (.Name x px) "append" ap) [e] [] cp) none pos.line env = pure false) (hd : (x == ("__debug__" : Str)) = false := by decide) (hcd : (x == ("__classdict__" : Str)) = false := by decide)
    (hbm : ∀ X : Cx, ∀ {to : TE} {t : TA}, PE X (.Name x px) to → PA X [e] t → PE X (.Call (.Attribute (.Name x px) "append" ap) [e] [] cp) (tBM X.K "list" rAppend to t) := by exact fun X {to t} h1 h2 => pe_bm PySem.F.plainAttrs_list PySem.F.slot_list_append PySem.F.type_list_append mt_append h1 h2) :
    WPS F C (.Expr (.Call (.Attribute (.Name x px) "append" ap) [e] [] cp) pos) ρ k P :=
  of_ps (t := tDrop (tBM C.K "list" rAppend (tVar i) (tCons (tE C e) tNil))) (fun X fx => ps_expr (by rw [← fx.K]; exact hbm X (pe_var (by rw [fx.N]; exact hN) (by rw [fx.sc]; exact hv) hd hcd) (pa_cons (peE fx) pa_nil (hse X.env))) (hsw X.env)) fun σ H E en j q1 q2 q3 q4 => by
    obtain ⟨hσ, hS, hM, h0, vs, hv', rv⟩ := en.own hr
    refine ⟨_, hσ, .inl ⟨rfl, _, SqL.of hv'⟩, ?_⟩
    show tE C e σ H _
    refine h σ H _ en j fun v d k1 H1 l1 j1 r1 p => ?_
    have hv1 : H1 o = some (.lst vs) := l1 o _ (Fm.mxA hM) hv'
    refine ⟨o, vs, v, rfl, rfl, hv1, ?_, ?_⟩
    · rw [rv.length]; exact Nat.lt_of_le_of_lt hz (by decide)
    · refine q1 _ σ k1 _ ?_ ((en.le l1).ownSet hr hno ((rv.le l1.lz).append (.cons r1 .nil))) (j1.own hM h0 (pl_lst (l1 o _ (Fm.mxA hM) hv'))) p
      exact fun b u hb z => by rw [upd_ne (show b ≠ o from fun y => hb (.inl (y ▸ hS)))]; exact l1.lz b u hb z
/-- eqv with an empty list or tuple -/
theorem eqv_nilL (ds : List PyData) : PyData.eqv (.list ds) (.list []) = ds.isEmpty := by cases ds <;> simp [PyData.eqv, PyData.eqvAll]
theorem lay_ints : ∀ ns : List Int, PyData.canLayAll0 (ns.map PyData.int) = true ∧ PyData.depthAll (ns.map PyData.int) = 0
  | [] => ⟨by simp [PyData.canLayAll0], by simp [PyData.depthAll]⟩
  | n :: ns => by
    obtain ⟨h1, h2⟩ := lay_ints ns
    exact ⟨by simp [PyData.canLayAll0, PyData.canLay0, h1], by simp [PyData.depthAll, PyData.depth, h2]⟩
theorem shaped_intsL (ns : List Int) : SeqAt.shaped (.list (ns.map PyData.int)) = true := by
  obtain ⟨h1, h2⟩ := lay_ints ns
  simp [SeqAt.shaped, PyData.canLay0, PyData.depth, h1, h2]
theorem shaped_intsT (ns : List Int) : SeqAt.shaped (.tuple (ns.map PyData.int)) = true := by
  obtain ⟨h1, h2⟩ := lay_ints ns
  simp [SeqAt.shaped, PyData.canLay0, PyData.depth, h1, h2]
end
end Dl

namespace Dl
open PySem PySem.Spec PyProof.Rows L2
section
variable {F : Fm} {C : Cs} {ρ : Rho} {k : Nat} {P : DE} {Φ : Nat → PyData → Prop} {Ψ : Nat → Bool → Prop} {pos p p1 p2 p3 p4 pr pr2 : Pos} {x : Str} {rest : List Stmt} {e a b : Expr}
theorem rgV_rg (z : Int) : rgV 0 z = (rg z).map V.int := by
  unfold rgV rg
  rw [List.map_map, Int.sub_zero]
  apply List.map_congr_left
  intro i _
  show V.int (0 + (i : Int)) = V.int (i : Int)
  rw [Int.zero_add]
/-- list(range(z)), tuple(range(z)) -/
theorem we_listRg (hg : C.sc.names.lookup ("list" : Str) = some .globalImplicit) (hm : C.mg ("list" : Str) = none) (hg2 : C.sc.names.lookup ("range" : Str) = some .globalImplicit) (hm2 : C.mg ("range" : Str) = none)
    (hs : ∀ env : Env, starEach [a] env = (false, eval a env) :: starEach [] env) (hs2 : ∀ env : Env, starEach [.Call (.Name "range" pr) [a] [] pr2] env = (false, eval (.Call (.Name "range" pr) [a] [] pr2) env) :: starEach [] env)
    (h : WPE F C a ρ k fun k1 d => ∃ z : Int, d = .int z ∧ (0 ≤ z ∧ z ≤ 16777216) ∧ Φ k1 (.list ((rg z).map PyData.int))) : WPE F C (.Call (.Name "list" p) [.Call (.Name "range" pr) [a] [] pr2] [] pos) ρ k Φ :=
  of_pe (fun X fx => pe_listRg fx.calm (by show X.env.scope.names.lookup ("list" : Str) = _; rw [fx.sc]; exact hg) (by rw [fx.mg]; exact hm) (prg_1 (by show X.env.scope.names.lookup ("range" : Str) = _; rw [fx.sc]; exact hg2) (by rw [fx.mg]; exact hm2) (peE fx) (hs X.env)) (hs2 X.env)) fun σ H Q en j q => by
    show tE C a σ H _
    refine h σ H _ en j fun v d k1 H1 l1 j1 r ⟨z, e, hz, p⟩ => ?_
    subst e
    cases r
    refine ⟨z, rfl, RgOk.of_le (by decide) hz.2 (by decide) hz.1, fun l hl => ?_⟩
    rw [rgV_rg]
    exact q _ _ k1 _ (l1.trans (.new hl)) (j1.new hl) (rep_newL j1 hl (RepAll.of_ints _)) p
theorem we_tupRg (hg : C.sc.names.lookup ("tuple" : Str) = some .globalImplicit) (hm : C.mg ("tuple" : Str) = none) (hg2 : C.sc.names.lookup ("range" : Str) = some .globalImplicit) (hm2 : C.mg ("range" : Str) = none)
    (hs : ∀ env : Env, starEach [a] env = (false, eval a env) :: starEach [] env) (hs2 : ∀ env : Env, starEach [.Call (.Name "range" pr) [a] [] pr2] env = (false, eval (.Call (.Name "range" pr) [a] [] pr2) env) :: starEach [] env)
    (h : WPE F C a ρ k fun k1 d => ∃ z : Int, d = .int z ∧ (0 ≤ z ∧ z ≤ 16777216) ∧ Φ k1 (.tuple ((rg z).map PyData.int))) : WPE F C (.Call (.Name "tuple" p) [.Call (.Name "range" pr) [a] [] pr2] [] pos) ρ k Φ :=
  of_pe (fun X fx => pe_tupRg fx.calm (by show X.env.scope.names.lookup ("tuple" : Str) = _; rw [fx.sc]; exact hg) (by rw [fx.mg]; exact hm) (prg_1 (by show X.env.scope.names.lookup ("range" : Str) = _; rw [fx.sc]; exact hg2) (by rw [fx.mg]; exact hm2) (peE fx) (hs X.env)) (hs2 X.env)) fun σ H Q en j q => by
    show tE C a σ H _
    refine h σ H _ en j fun v d k1 H1 l1 j1 r ⟨z, e, hz, p⟩ => ?_
    subst e
    cases r
    refine ⟨z, rfl, RgOk.of_le (by decide) hz.2 (by decide) hz.1, fun l hl => ?_⟩
    rw [rgV_rg]
    exact q _ _ k1 _ (l1.trans (.new hl)) (j1.new hl) (rep_newT j1 hl (RepAll.of_ints _)) p
/-- a, b = a tuple, the scope known -/
theorem ws_asg2s (i1 i2 : Nat) {x1 x2 : Str} {kk : Nat} (hne : i1 ≠ i2) (t1 : Tgt C i1 x1) (t2 : Tgt C i2 x2) (hK : F.K = C.K)
    (hs : ∀ env : Env, env.scope = C.sc → swapsWithSole [.Tuple [.Name x1 p1, .Name x2 p2] kk p3] e pos.line env = pure false) (hw : ∀ env : Env, env.scope = C.sc → swappedStores [.Tuple [.Name x1 p1, .Name x2 p2] kk p3] e env = pure none)
    (h : WPE F C e ρ k fun k1 d => ∃ d1 d2, d = .tuple [d1, d2] ∧ P.nx k1 ((ρ.set i1 (.d d1)).set i2 (.d d2))) : WPS F C (.Assign [.Tuple [.Name x1 p1, .Name x2 p2] kk p3] e pos) ρ k P :=
  of_ps (fun X fx => ps_asg (peE fx) (pgTup (n := 2) fx (pgs_cons (t1.pg fx) (pgs_cons (t2.pg fx) pgs_nil)) (by rfl) (by rfl)) (hs X.env fx.sc) (hw X.env fx.sc)) fun σ H E en j q1 _ _ _ =>
    h σ H _ en j fun v d k1 H1 l1 j1 r ⟨d1, d2, e, p⟩ => by
      subst e
      cases r with
      | tup ha hr =>
        cases hr with
        | cons r1 hr =>
          cases hr with
          | cons r2 hr =>
            cases hr
            exact ⟨_, _, rfl, hK ▸ sqt_of ha, rfl, _, _, rfl, _, _, rfl, rfl, q1 _ _ k1 H1 l1.lz (((en.le l1).set (sv := .d d1) ⟨_, rfl, r1⟩).set (sv := .d d2) ⟨_, rfl, r2⟩) j1 p⟩
/-- a part of the state's slots is forgotten -/
def Forget : Rho → Rho → Prop
  | [], [] => True
  | x :: xs, y :: ys => (y = .un ∨ y = x) ∧ Forget xs ys
  | _, _ => False
theorem Forget.env : ∀ {H : Hp} {σ : L2.St} {ρ ρ' : Rho}, EnvOk F H σ ρ → Forget ρ ρ' → EnvOk F H σ ρ' := by
  intro H σ ρ ρ' en fo i sv e
  have key : ∀ (ρ ρ' : Rho), Forget ρ ρ' → ∀ (i : Nat) sv, ρ'[i]? = some sv → ∃ sv', ρ[i]? = some sv' ∧ (sv = .un ∨ sv = sv') := by
    intro ρ
    induction ρ with
    | nil => intro ρ' f i sv e; cases ρ' with
      | nil => simp at e
      | cons y ys => cases f
    | cons x xs ih => intro ρ' f i sv e; cases ρ' with
      | nil => cases f
      | cons y ys =>
        cases i with
        | zero => cases e; exact ⟨x, rfl, f.1⟩
        | succ i => exact ih ys f.2 i sv e
  obtain ⟨sv', e', h⟩ := key ρ ρ' fo i sv e
  obtain ⟨x, q, s⟩ := en i sv' e'
  rcases h with rfl | rfl
  · exact ⟨x, q, trivial⟩
  · exact ⟨x, q, s⟩
end
end Dl
namespace Dl
open PySem PySem.Spec PyProof.Rows L2
section
variable {F : Fm} {C : Cs} {ρ : Rho} {k : Nat} {P : DE} {st : Stmt} {rest : List Stmt}
end
end Dl
namespace Dl
open PySem PySem.Spec PyProof.Rows L2
section
variable {F : Fm} {C : Cs} {ρ : Rho} {k : Nat} {Φ : Nat → PyData → Prop} {pos p2 : Pos} {a b e : Expr}
/-- xs + ys, lists -/
theorem we_cat (h : WPE F C a ρ k fun k1 x => WPE F C b ρ k1 fun k2 y => ∃ ds es, x = .list ds ∧ y = .list es ∧ ds.length + es.length ≤ 1000000 ∧ Φ k2 (.list (ds ++ es))) : WPE F C (.BinOp a .Add b pos) ρ k Φ :=
  we_bin (fun X _ => op_cat) (h.imp fun k1 x h1 => h1.imp fun k2 y ⟨ds, es, e1, e2, hz, p⟩ => by
    subst e1 e2
    intro H vx vy Q j rx ry q
    cases rx with
    | @lst a xs _ ha hr =>
    cases ry with
    | @lst b ys _ hb hs =>
    refine ⟨a, b, xs, ys, rfl, rfl, ha.1, hb.1, ?_, fun l hl => q _ _ k2 _ (.new hl) (j.new hl) (rep_newL j hl (hr.append hs)) p⟩
    rw [hr.length, hs.length]; exact Nat.le_trans hz (by decide))
end
end Dl
namespace Dl
open PySem PySem.Spec PyProof.Rows L2
section
variable {F : Fm} {C : Cs} {ρ : Rho} {k : Nat} {Φ : Nat → PyData → Prop} {pos p2 : Pos} {a b e : Expr}
end
end Dl

namespace Dl
open PySem PySem.Spec PyProof.Rows L2
/-! ### set(xs), xs a list of ints -/
abbrev nso (w : World) : Obj := ⟨.type "set", none, .set #[] 0 (.fresh 0 0 (!w.params.followText "set-order")), #[]⟩
abbrev GotSet (w : World) (s : Shared) (ns : List Int) (r : Value) (s2 : Shared) : Prop :=
  r = .none ∧ ∃ h' tk c, s2 = { s with heap := h', toks := tk } ∧ SetR w h' s.heap.objs.size (fun j => decide (j ∈ ns)) c ∧ c ≤ ns.length ∧ ∀ b o, s.heap.get? b = some o → h'.get? b = some o
section
variable {P : Program} {w : World} {A : Around} {E : Value → Shared → Prop} {s : Shared}
set_option maxHeartbeats 3200000 in
end
/-- .. over the layer -/
def rSetL (K : PySem.W.Frag) (w : World) : List V → Hp → VK → Prop := fun vs H Q => ∃ (a : Addr) (ns : List Int), vs = [.ref a] ∧ SqL K H a (ns.map V.int) ∧ ns.length ≤ 1000 ∧
  ∀ p c, H p = none → c ≤ ns.length → Q (.ref p) (upd H p (SetO w p (fun j => decide (j ∈ ns)) c))
section
variable {F : Fm} {C : Cs} {ρ : Rho} {k : Nat} {Φ : Nat → PyData → Prop} {pos p1 p2 p3 : Pos} {e : Expr}
end
end Dl

namespace Dl
open PySem PySem.Spec PyProof.Rows L2
/-! ### a comprehension of two clauses: over a tuple, then over a list made for each item -/
section
variable {F : Fm} {C : Cs} {ρ : Rho} {k : Nat} {Φ : Nat → PyData → Prop} {α β : Type} {Cb : Cs} {iter1 elt : Expr} {tl : TE} {K : PySem.W.Frag}
end
end Dl
namespace Dl
open PySem PySem.Spec PyProof.Rows L2
section
variable {F : Fm} {C : Cs} {ρ : Rho} {k : Nat} {P : DE} {Φ : Nat → PyData → Prop} {pos p px p2 ap cp : Pos} {x : Str} {e : Expr}
end
end Dl

namespace Dl
open PySem PySem.Spec PyProof.Rows L2
/-! ### sorted(x), x the own list of pairs of ints -/
def prD (p : Int × Int) : PyData := .tuple [.int p.1, .int p.2]
def pairAt (H : Hp) : V → Int × Int
  | .ref t => match H t with
    | some (.tup [.int a, .int b]) => (a, b)
    | _ => (0, 0)
  | _ => (0, 0)
section
variable {F : Fm} {C : Cs} {ρ : Rho} {k : Nat} {Φ : Nat → PyData → Prop} {pos p px : Pos} {x : Str}
end
end Dl

namespace Dl
open PySem PySem.Spec PyProof.Rows L2
/-! ### the comprehension of two clauses, given to a name -/
structure Blk2 (C : Cs) (scope : Scope) (i : Nat) (x : Str) (i1 : Nat) (x1 : Str) : Prop where
  ok : BlkOk C.N C.sc scope [(x, i), (x1, i1)]
  t : Tgt (C.blk scope) i x
  t1 : Tgt (C.blk scope) i1 x1
section
variable {F : Fm} {C : Cs} {ρ : Rho} {k : Nat} {Φ : Nat → PyData → Prop} {P : DE} {pos spos : Pos} {elt iter iter1 : Expr} {scope : Scope} {x x1 y : Str} {px px1 py : Pos} {α β : Type}
end
end Dl

namespace Dl
open PySem PySem.Spec PyProof.Rows L2
section
variable {F : Fm} {C : Cs} {ρ : Rho} {k : Nat} {Φ : Nat → PyData → Prop} {P : DE} {pos apos px p2 ap cp : Pos} {o e : Expr} {x : Str} {rest : List Stmt}
/-! ### i.bit_length() -/
/-! ### x = [c] * e, the def's own list -/
end
end Dl
namespace Dl
open PySem PySem.Spec PyProof.Rows L2
section
variable {F : Fm} {C : Cs} {ρ : Rho} {k : Nat} {Φ : Nat → PyData → Prop} {P : DE} {pos apos px px2 p2 ap cp spos : Pos} {o e ie : Expr} {x : Str} {rest : List Stmt}
/-! ### x[i], x the own list -/
theorem ixlK {X : Cx} (fx : Fits C X) : IxR X (rIxL C.K) := by rw [← fx.K]; exact ix_list
/-! ### x[i] = v, x the own list -/
theorem rep_set {K : PySem.W.Frag} {S : Addr → Prop} {H : Hp} {v : V} {d : PyData} (rv : Rep K S H v d) : ∀ {vs : List V} {xs : List PyData} (j : Nat), RepAll K S H vs xs → RepAll K S H (vs.set j v) (xs.set j d)
  | _, _, 0, .nil => .nil
  | _, _, j + 1, .nil => .nil
  | _, _, 0, .cons r rs => .cons rv rs
  | _, _, j + 1, .cons r rs => .cons r (rep_set rv j rs)
theorem ixN_nat {n j : Nat} (h : j < n) : ixN n (j : Int) = some j := by
  unfold ixN
  simp
  omega
theorem ws_setOwn (i : Nat) {ow : Addr} {xs : List PyData} (hN : C.N[i]? = some x) (hv : Vis C.sc x) (hr : ρ[i]? = some (.own ow xs)) (hno : (ρ.set i .un).all plainB = true)
    (h : WPE F C e ρ k fun k1 d => WPE F C ie ρ k1 fun k2 d2 => ∃ j : Nat, j < xs.length ∧ d2 = .int (j : Int) ∧ P.nx k2 (ρ.set i (.own ow (xs.set j d))))
    (hs1 : ∀ env : Env, swapsWithSole [.Subscript (.Name x px) ie p2] e spos.line env = pure false) (hs2 : ∀ env : Env, swappedStores [.Subscript (.Name x px) ie p2] e env = pure none)
    (ha : ∀ (X : Cx) (v : Value), assign (.Subscript (.Name x px) ie p2) X.env v = (do
      let ov ← holding [v] (eval (.Name x px) X.env)
      let iv ← holding [v, ov] (eval ie X.env)
      standAt p2
      holding [v, ov, iv] (setItem ov iv v)
      release [v, ov, iv] []) := by intro _ _; rfl) (hd : (x == ("__debug__" : Str)) = false := by decide) (hcd : (x == ("__classdict__" : Str)) = false := by decide) :
    WPS F C (.Assign [.Subscript (.Name x px) ie p2] e spos) ρ k P :=
  of_ps (fun X fx => ps_asg (peE fx) (pg_sub (pe_var (i := i) (by rw [fx.N]; exact hN) (by rw [fx.sc]; exact hv) hd hcd) (peE fx) set_list (ha X)) (hs1 X.env) (hs2 X.env)) fun σ H E en j q1 q2 q3 q4 => by
    show tE C e σ H _
    refine h σ H _ en j fun v d k1 H1 l1 j1 r1 h2 => ?_
    have en1 := en.le l1
    obtain ⟨hσ, hS, hM, h0, vs, hv', rv⟩ := en1.own hr
    refine ⟨_, hσ, ?_⟩
    show tE C ie σ H1 _
    refine h2 σ H1 _ en1 j1 fun v2 d2 k2 H2 l2 j2 r2 ⟨jj, hj, ed, p⟩ => ?_
    subst ed
    cases r2
    have hv2 : H2 ow = some (.lst vs) := l2 ow _ (Fm.mxA hM) hv'
    refine ⟨ow, vs, _, jj, rfl, rfl, hv2, ixN_nat (by rw [rv.length]; exact hj), ?_⟩
    refine q1 _ σ k2 _ ?_ ((en1.le l2).ownSet hr hno (rep_set (r1.le l2.lz) jj (rv.le l2.lz))) (j2.own hM h0 (pl_lst hv2)) p
    exact fun b u hb z => by rw [upd_ne (show b ≠ ow from fun y => hb (.inl (y ▸ hS)))]; exact l2.lz b u hb (l1.lz b u hb z)
/-! ### x.count(i), a list of ints -/
theorem rep_vints {K : PySem.W.Frag} {S : Addr → Prop} {H : Hp} : ∀ {ns : List Int} {vs : List V}, RepAll K S H vs (ns.map PyData.int) → vs = ns.map V.int
  | [], _, r => by cases r; rfl
  | n :: ns, _, r => by
    cases r with
    | cons r1 r2 =>
      cases r1
      rw [rep_vints r2]; rfl
end
end Dl
namespace Dl
open PySem PySem.Spec PyProof.Rows L2
/-! ### [.. for a, b in a tuple of pairs] -/
theorem wipe3 {i i1 : Nat} {a b : V} (hne : i ≠ i1) (σ : L2.St) : ((wipe σ [i, i1]).set i (some a)).set i1 (some b) = (σ.set i (some a)).set i1 (some b) := by
  show (((σ.set i1 none).set i none).set i (some a)).set i1 (some b) = _
  rw [List.set_set, List.set_comm _ _ (Ne.symm hne), List.set_set]
theorem wipe3' {i i1 : Nat} {a b : V} (hne : i ≠ i1) (σ : L2.St) : wipe ((σ.set i (some a)).set i1 (some b)) [i, i1] = wipe σ [i, i1] := by
  show ((((σ.set i (some a)).set i1 (some b)).set i1 none).set i none) = (σ.set i1 none).set i none
  rw [List.set_set, List.set_comm _ _ hne, List.set_set]
section
variable {F : Fm} {C : Cs} {ρ : Rho} {k : Nat} {Φ : Nat → PyData → Prop} {P : DE} {pos spos : Pos} {elt iter : Expr} {scope : Scope} {x x1 y : Str} {px px1 py p3 : Pos} {kk : Nat} {α : Type}
end
end Dl

namespace Dl
open PySem PySem.Spec PyProof.Rows L2
/-! ### sorted(a set of hii), any number of members -/
section
variable {P : Program} {w : World} {A : Around} {E : Value → Shared → Prop} {s : Shared} {a : Addr}
theorem sortedSetAll {S : Int → Bool} {n : Nat} {Q : Value → Shared → Prop} (R : SetR w s.heap a S n) (calm : A.handled = none)
    (hQ : ∀ (t : Shared) (p : Addr) (res : List Value) (c : Nat) (ms : List Int), (∀ b o, s.heap.get? b = some o → t.heap.get? b = some o) → t.gens = s.gens → t.os = s.os → s.heap.objs.size ≤ p →
      t.heap.get? p = some (seqObj "list" res.toArray c) → IntsAre res ms → ms.Pairwise (· < ·) → (∀ i, i ∈ ms ↔ S i = true) → ms.length = n → Q (.ref p) t) :
    wpAny (model P w) A (call (.builtin "sorted") [.ref a]) Q E s := by
  obtain ⟨ob, els, epo, tab, hob, exact1, hdat, gd, nodup, memb, bnd, fit, cnt, ris, led⟩ := R
  refine Calls.call_function_entry PyProof.Rows.kind_sorted PyProof.Rows.plain_sorted PyProof.Rows.entry_sorted (PyProof.Rows.args_sorted1 _) ?_
  unfold Builtin.«sorted»
  refine wpAny_bind (m := checkCount "sorted" 1 1 _) (wpAny_pure (wpAny_bind (collect_set (A := A.in1) calm ⟨ob, hob, exact1.1, hdat⟩ fit bnd ris led fun s1 vs kp sz gs os pm => ?_)))
  have vlen : vs.length = n := (pm.length_eq.trans ((List.length_map _).trans Array.length_toList)).trans cnt
  have small : n < 4096 := cnt ▸ bnd
  have hii : IntsAre vs (vs.map Builtin.Re.reRawOf) := ints_of vs fun v hv => by
    obtain ⟨e, he, rfl⟩ := List.mem_map.mp (pm.mem_iff.mp hv)
    obtain ⟨k, tk, h1, _⟩ := gd e he
    exact ⟨k, tk, h1⟩
  have pkeys : (vs.map Builtin.Re.reRawOf).Perm (els.toList.map keyOf) := by
    have z := pm.map Builtin.Re.reRawOf
    rwa [List.map_map] at z
  have lim : vs.length ≤ sizeLine := by rw [vlen, sizeLine_eq]; omega
  refine wpAny_bind (wpAny_newList ?_ (by rw [vlen, sizeLine_eq]; omega))
  have here : (s1.heap.push (seqObj "list" vs.toArray 0)).get? s1.heap.objs.size = some (seqObj "list" vs.toArray 0) := Heap.get?_push_size _ rfl
  refine wpAny_bind (wpAny_holding (wpAny_call_entry PyProof.Rows.slot_list_sort ⟨_, here, rfl⟩ PyProof.Rows.entry_list_sort (SrtO.list_sort_ord SrtO.swo_int here lim (fun h2 => SrtO.ints_sortable hii h2) fun res r1 r2 => ⟨_, rfl, ?_⟩) (PyProof.Rows.args_list_sort _)))
  obtain ⟨z1, z2, z3⟩ := SrtO.ints_out hii r1 r2
  obtain ⟨c, hc⟩ := PyProof.Rows.sortedHeap_at (vs := vs) (out := res.toArray) here
  have pfin := z2.trans pkeys
  refine wpAny_pure ⟨_, rfl, hQ _ s1.heap.objs.size res c (res.map SrtO.iv) (fun b u e => ?_) gs os sz hc z1 (lt_of_le_nodup _ z3 (pfin.nodup_iff.mpr nodup)) (fun i => (pfin.mem_iff).trans (memb i).symm) ?_⟩
  · have old := kp b u e
    have blt := Heap.lt_size old
    show (sortedHeap (s1.heap.push (seqObj "list" vs.toArray 0)) s1.heap.objs.size vs res.toArray).get? b = _
    rw [PyProof.Rows.sortedHeap_old (Nat.ne_of_lt blt) (by rw [Heap.size_push]; exact Nat.lt_succ_of_lt blt)]
    exact Heap.get?_push_of_some _ old
  · exact (pfin.length_eq.trans ((List.length_map _).trans Array.length_toList)).trans cnt
end
def rSortSetA (w : World) : List V → Hp → VK → Prop := fun vs H Q => ∃ (a : Addr) (S : Int → Bool) (n : Nat), vs = [V.ref a] ∧ H a = some (SetO w a S n) ∧
  ∀ (ms : List Int) (p : Addr), ms.Pairwise (· < ·) → (∀ i : Int, i ∈ ms ↔ S i = true) → ms.length = n → H p = none → Q (.ref p) (upd H p (.lst (ms.map V.int)))
theorem cr_sortSetA {X : Cx} (hc : X.calm = true) : CallR X (.builtin "sorted") (rSortSetA X.w) := by
  intro pins s σ H vs us Q I r h
  obtain ⟨a, S, n, rfl, ha, q⟩ := h
  have R := setO_get I ha
  have nb : n < 4096 := by
    obtain ⟨_, els, _, _, _, _, _, _, _, _, bnd, _, cnt, _⟩ := R
    exact cnt ▸ bnd
  rw [Vals.ref1 r]
  refine sortedSetAll R (I.ok.hd hc) fun t p res c ms kp gs os sz at1 hii asc mem len => ?_
  have fits : (ms.map V.int).length ≤ sizeLine := by rw [List.length_map, len, sizeLine_eq]; omega
  have fresh : H p = none := I.hok.fresh sz
  have J1 : Inv X pins σ (upd H p (.lst (ms.map V.int))) { s with heap := t.heap, gens := t.gens, drawn := t.drawn, toks := t.toks } :=
    I.call (ch := []) (Un.laid kp sz fresh) (I.hok.laid kp sz ⟨fits, res, c, vals_of_ints hii, at1⟩) (by rw [gs]; exact I.bare) (fun _ z => nomatch z)
  have same : t = { s with heap := t.heap, gens := t.gens, drawn := t.drawn, toks := t.toks } := by
    cases t; cases s; cases os; rfl
  rw [same]
  exact ⟨.ref p, _, J1, rfl, q ms p asc mem len fresh⟩
/-! ### {elt for x in iter if ..}, elt an int -/
section
variable {X : Cx}
def tSci (w : World) (wi : TI) (g : TG) (tt : TT) (te : TE) (vs : List Nat) : TE := fun σ H Q => wi σ H fun J H1 => ∀ D, H1 D = none →
  ∃ W : Nat → Nat → Hp → Prop, (∃ m, W 0 m (upd H1 D (SetO w D (fun _ => false) 0))) ∧ ∀ i m H, W i m H → (J.stop i H ∧ Q (.ref D) H) ∨
    (J.go i H ∧ ∃ Nx : Hp → Prop, (∀ H', Nx H' → ∃ m', m' < m ∧ W (i + 1) m' H') ∧ ∀ x H', J.yld i H x H' → g x (wipe σ vs) H' fun σ2 H2 => wipe σ2 vs = wipe σ vs ∧ tt σ2 H2 fun b H3 =>
      if b = true then te σ2 H3 fun y H4 => ∃ (c : Int) (S : Int → Bool) (n : Nat), y = .int c ∧ H4 D = some (SetO w D S n) ∧ n + 1 < scanBound ∧ Nx (upd H4 D (SetO w D (fun j => S j || decide (j = c)) (if S c = true then n else n + 1))) else Nx H3)
set_option maxHeartbeats 4000000 in
theorem sci_core {pins : List (Addr × Obj)} {s : Shared} {σ : L2.St} {H : Hp} {Q : VK} {elt tg iter : Expr} {ifs : List Expr} {scope : Scope} {own : List (PySem.Str × Nat)} {pos pos' : Pos} {wi : TI} {g : TG} {tt : TT} {te : TE} {use : Option (Value → Sem Unit)} {Qf : Value → Shared → Prop}
    (calm : X.calm = true) (nodup : X.N.Nodup) (Iv : Inv X pins σ H s) (hit : PI X tg iter wi) (bok : BlkOk X.N X.env.scope scope own)
    (hg : ∀ (s : Shared) (H : Hp) (B : Addr) (cl : List (PySem.Str × Addr)) (fp : List Addr), PG (X.blk s H scope (compEnvC scope cl B X.env) fp) tg g)
    (ht : ∀ (s : Shared) (H : Hp) (B : Addr) (cl : List (PySem.Str × Addr)) (fp : List Addr), PTs (X.blk s H scope (compEnvC scope cl B X.env) fp) ifs tt)
    (he : ∀ (s : Shared) (H : Hp) (B : Addr) (cl : List (PySem.Str × Addr)) (fp : List Addr), PE (X.blk s H scope (compEnvC scope cl B X.env) fp) elt te)
    (hfold : ∀ x, foldedSetIterable iter X.env x = pure x) (hh : tSci X.w wi g tt te (own.map (·.2)) σ H Q)
    (hpost : ∀ D B s' m H', Inv X pins σ H' s' → Q (.ref D) H' → s'.heap.Ns B m → FpOk X pins H' B → compPost (model X.prog X.w) X.A X.xe use Qf (.ref D) B (.ok .next) s') :
    wpAny (model X.prog X.w) X.A (comprehension (.SetComp elt [⟨tg, iter, ifs, 0⟩] scope pos) scope X.env pos' (newSet (.type "set")) false (eval iter X.env) use) Qf X.xe s := by
  have frees : ∀ y ∈ scope.names, y.2 = .free → ∃ c, X.env.cells.lookup y.1 = some c := fun y hy e => (bok.free y hy e).elim (fun k => Iv.ok.has _ (.inl k)) (fun k => Iv.ok.has _ (.inr k))
  refine wpAny_comprehension_free (use := use) rfl hfold (closure_ok frees) bok.kind (fun y hy e => by rw [bok.uniq y hy, e]) ?_
  refine thn (hit.run pins s σ H _ Iv hh) fun xv s1 hx => thn hx fun itv s2 h2 => ?_
  obtain ⟨it, fp, tn, J, H2, rfl, Iv2, T, start2, fpo2, q⟩ := h2
  refine PpSet.newSet_ok (newEnv_comp ?_)
  generalize eD : s2.heap.objs.size = D
  have noD : H2 D = none := Iv2.hok.fresh (Nat.le_of_eq eD)
  obtain ⟨W, ⟨m0, w0⟩, turn⟩ := q D noD
  generalize e3 : ({ s2 with heap := s2.heap.push (nso X.w) } : Shared) = s3
  have there : (s2.heap.push (nso X.w)).get? s2.heap.objs.size = some (nso X.w) := Heap.get?_push_size _ rfl
  have new0 : SetR X.w (s2.heap.push (nso X.w)) s2.heap.objs.size (fun _ => false) 0 := by
    have z := setR_new_at (w := X.w) (ns := []) there
    exact z
  have Iv3 : Inv X pins σ (upd H2 D (SetO X.w D (fun _ => false) 0)) s3 := by
    subst e3 eD
    exact Iv2.laid (t' := s2.toks) (fun b o e => Heap.get?_push_of_some _ e) (Nat.le_refl _) (setO_new new0)
  have heap3 : s3.heap = s2.heap.push (nso X.w) := by rw [← e3]
  have below : ∀ b ∈ fp, b < s2.heap.objs.size := fun b hb => let ⟨o, e, _⟩ := T.obj _ _ start2 b hb; Heap.lt_size e
  have fpo3 : ∀ b ∈ fp, FpOk X pins (upd H2 D (SetO X.w D (fun _ => false) 0)) b ∧ b < s3.heap.objs.size := fun b hb => by
    have lt := below b hb
    refine ⟨⟨?_, (fpo2 b hb).2⟩, by rw [heap3, Heap.size_push]; exact Nat.lt_succ_of_lt lt⟩
    rw [upd_ne (show b ≠ D from eD ▸ Nat.ne_of_lt lt)]
    exact (fpo2 b hb).1
  have start3 : tn 0 s3.heap := T.keep _ _ _ start2 fun b _ o e => by rw [heap3]; exact Heap.get?_push_of_some _ e
  have Iv4 := block_start Iv3 bok nodup fpo3
  generalize eH3 : upd H2 D (SetO X.w D (fun _ => false) 0) = H3 at Iv3 Iv4 w0 fpo3
  have none3 : ∀ b ∈ fp, H3 b = none := fun b hb => (fpo3 b hb).1.1
  have pg := hg s3 H3 s3.heap.objs.size (cellsFrom (s3.heap.objs.size + 1) scope.names (cloFrom X.env.cells scope.names [])) fp
  have pt := ht s3 H3 s3.heap.objs.size (cellsFrom (s3.heap.objs.size + 1) scope.names (cloFrom X.env.cells scope.names [])) fp
  have pe := he s3 H3 s3.heap.objs.size (cellsFrom (s3.heap.objs.size + 1) scope.names (cloFrom X.env.cells scope.names [])) fp
  show codeAny _ _ (.compStart (.SetComp elt [⟨tg, iter, ifs, 0⟩] scope pos) 0 (.ref it) (.ref D) (compEnvC scope (cellsFrom (s3.heap.objs.size + 1) scope.names (cloFrom X.env.cells scope.names [])) s3.heap.objs.size X.env))
    (compPost (model X.prog X.w) X.A X.xe use Qf (.ref D) s3.heap.objs.size) { s3 with heap := pushCells (s3.heap.push { cls := .type "dict", data := .dict #[] }) scope.names }
  generalize eE : compEnvC scope (cellsFrom (s3.heap.objs.size + 1) scope.names (cloFrom X.env.cells scope.names [])) s3.heap.objs.size X.env = en at Iv4 pg pt pe ⊢
  have loc : en.locals = s3.heap.objs.size := by rw [← eE]; rfl
  generalize e4 : ({ s3 with heap := pushCells (s3.heap.push { cls := .type "dict", data := .dict #[] }) scope.names } : Shared) = s4 at Iv4 ⊢
  have start4 : tn 0 s4.heap := T.keep _ _ _ start3 fun b _ o e => by subst e4; exact pushCells_keeps _ _ _ _ (Heap.get?_push_of_some _ e)
  have stays : ∀ {σ' : L2.St} {H' : Hp} {s' : Shared}, Inv (X.blk s3 H3 scope en fp) [] σ' H' s' → (∀ b ∈ fp, H' b = none) → ∀ b ∈ fp, FpOk (X.blk s3 H3 scope en fp) [] H' b := fun {σ' H' s'} V hn b hb =>
    ⟨hn b hb, (V.ok.exf b hb).1, V.ok.exfs b hb, .inl hb, fun x c e => (V.ok.exf b hb).2 x c e, fun p hp => absurd (show p ∈ ([] : List (Addr × Obj)) ++ [] from hp) (by simp)⟩
  have run : codeAny (model X.prog X.w) X.A (.compLoop (.SetComp elt [⟨tg, iter, ifs, 0⟩] scope pos) 0 (.ref it) (.ref D) en) (compPost (model X.prog X.w) X.A X.xe use Qf (.ref D) s3.heap.objs.size) s4 := by
    refine PpSet.compLoopS_any (fun n s' => ∃ i H', Inv (X.blk s3 H3 scope en fp) [] (wipe σ (own.map (·.2))) H' s' ∧ tn i s'.heap ∧ (∀ b ∈ fp, H' b = none) ∧ W i n H') ?_ m0 ⟨0, H3, Iv4, start4, none3, w0⟩
    rintro n s5 ⟨i, H5, Iv5, start5, none5, w5⟩
    rcases turn i n H5 w5 with ⟨stop, fin⟩ | ⟨go, Nx, hNx, step⟩
    · have ends := T.done (X.blk s3 H3 scope en fp) rfl rfl rfl calm i [] s5 _ H5 (fun _ _ => False) Iv5 (stays Iv5 none5) start5 stop
      refine thnF ends fun r s6 ⟨hr, Iv6⟩ => ?_
      subst hr
      have back : Inv X pins σ H5 s6 := Iv3.call' (ch := fp) Iv6.os Iv6.base Iv6.hok Iv6.bare fun b hb => let z := (fpo3 b hb).1; ⟨z.2.2.2.1, z.2.1, z.2.2.2.2.1, z.2.2.2.2.2⟩
      have noC : H5 s3.heap.objs.size = none := by rw [← loc]; exact Iv6.free
      obtain ⟨m, hn, _⟩ := Iv6.loc
      have hn' : s6.heap.Ns s3.heap.objs.size m := by rw [← loc]; exact hn
      exact hpost D s3.heap.objs.size s6 m H5 back fin hn' (Iv3.fpOk (Nat.le_refl _) noC)
    · have next := T.item (X.blk s3 H3 scope en fp) rfl rfl rfl calm i [] s5 _ H5 (fun _ _ => False) Iv5 (stays Iv5 none5) start5 go
      refine thnF next fun r s6 ⟨u, hr, h6⟩ => ?_
      subst hr
      refine thnF h6 fun _ s7 ⟨x, H7, Iv7, r7, y7, start7, none7⟩ => ?_
      have pinned := Iv7.pinned (stays Iv7 none7) (T.obj _ _ start7)
      refine thnF (pg.run _ s7 _ H7 x u _ pinned r7 (step x H7 y7)) fun _ s8 ⟨σ8, H8, Iv8, wip8, q8⟩ => thnF (pt.run _ s8 σ8 H8 _ Iv8 q8) fun b s9 ⟨H9, Iv9, q9⟩ => ?_
      have close : ∀ {s' : Shared} {H' : Hp}, Inv (X.blk s3 H3 scope en fp) ([] ++ pinsAt fp s7.heap) σ8 H' s' → Nx H' → ∃ m, m < n ∧ ∃ i H', Inv (X.blk s3 H3 scope en fp) [] (wipe σ (own.map (·.2))) H' s' ∧ tn i s'.heap ∧ (∀ b ∈ fp, H' b = none) ∧ W i m H' := by
        intro s' H' V nx
        obtain ⟨m', less, w'⟩ := hNx H' nx
        have kept : ∀ b ∈ fp, ∀ o, s7.heap.get? b = some o → s'.heap.get? b = some o ∧ H' b = none := fun b hb o e =>
          have z := V.pin (b, o) (List.mem_append_right _ (List.mem_append_right _ (mem_pinsAt hb e)))
          ⟨z.1, z.2.1⟩
        refine ⟨m', less, i + 1, H', (V.unpinned (pins := [])).weak (by rw [← wip8, wipe_length]) (fun j v e => ?_), T.keep _ _ _ start7 fun b hb o e => (kept b hb o e).1, fun b hb => ?_, w'⟩
        · rw [← wip8] at e
          exact (wipe_some e).1
        · obtain ⟨o, e, _⟩ := T.obj _ _ start7 b hb
          exact (kept b hb o e).2
      cases b with
      | false => exact close Iv9 q9
      | true =>
        show wpAny _ _ _ _ _ _
        have q9' := (if_pos (c := true = true) rfl) ▸ q9
        refine thnF (pe.run _ s9 σ8 H9 _ Iv9 q9') fun z s10 ⟨yv, H10, Iv10, r10, cb, S0, n0, ey, hD10, hz10, nx⟩ => ?_
        subst ey
        have ad := mt_sadd (X := X.blk s3 H3 scope en fp) _ s10 σ8 H10 (.ref D) [.int cb] (.ref D) [z] (fun _ H' => Nx H') Iv10 rfl (.cons r10 .nil) ⟨D, cb, S0, n0, rfl, rfl, hD10, hz10, nx⟩
        refine thnF ad fun v s11 ⟨_, H11, Iv11, _, nx11⟩ => ?_
        exact close Iv11 nx11
  exact PpSet.codeAny_compStart_set run (T.self X.A 0 _ _ _ start4 run)
theorem pe_sci {elt tg iter : Expr} {ifs : List Expr} {scope : Scope} {own : List (PySem.Str × Nat)} {pos : Pos} {wi : TI} {g : TG} {tt : TT} {te : TE} (calm : X.calm = true) (nodup : X.N.Nodup) (hit : PI X tg iter wi) (bok : BlkOk X.N X.env.scope scope own)
    (hg : ∀ (s : Shared) (H : Hp) (B : Addr) (cl : List (PySem.Str × Addr)) (fp : List Addr), PG (X.blk s H scope (compEnvC scope cl B X.env) fp) tg g)
    (ht : ∀ (s : Shared) (H : Hp) (B : Addr) (cl : List (PySem.Str × Addr)) (fp : List Addr), PTs (X.blk s H scope (compEnvC scope cl B X.env) fp) ifs tt)
    (he : ∀ (s : Shared) (H : Hp) (B : Addr) (cl : List (PySem.Str × Addr)) (fp : List Addr), PE (X.blk s H scope (compEnvC scope cl B X.env) fp) elt te) (hfold : ∀ x, foldedSetIterable iter X.env x = pure x) :
    PE X (.SetComp elt [⟨tg, iter, ifs, 0⟩] scope pos) (tSci X.w wi g tt te (own.map (·.2))) :=
  ⟨fun pins s σ H Q I h => by
    rw [PpSet.eval_SetComp]
    refine sci_core calm nodup I hit bok hg ht he hfold h fun D B s' m H' I' q hn f => ⟨m, hn, fun h'' sb => ?_⟩
    obtain ⟨f0, f1, f2, f3, f4, f5⟩ := f
    exact ⟨.ref D, H', I'.turned (t' := s'.toks) (fun b o hb e => (sb.2 b hb).trans e) f0 f1 f3 f4 f5, rfl, q⟩⟩
end

/-! ### .. over data -/
section
variable {F : Fm} {C : Cs} {ρ : Rho} {k : Nat} {Φ : Nat → PyData → Prop} {pos p1 p2 p3 px : Pos} {elt iter e : Expr} {scope : Scope} {x : Str} {α : Type}
theorem pe_sciX {X : Cx} {i : Nat} (fx : Fits C X) (b : Blk C scope i x) {ifs : List Expr} {wi : TI} {tt : TT} (hi : PI X (.Name x px) iter wi) (ht : ∀ X', Fits (C.blk scope) X' → PTs X' ifs tt) (hs : ∀ (env : Env) (v : Value), foldedSetIterable iter env v = pure v) :
    PE X (.SetComp elt [⟨.Name x px, iter, ifs, 0⟩] scope pos) (tSci C.w wi (gName i) tt (tE (C.blk scope) elt) [i]) := by
  rw [← fx.w]
  exact pe_sci (own := [(x, i)]) fx.calm (by rw [fx.N]; exact b.t.hN) hi (by rw [fx.N, fx.sc]; exact b.ok) (fun s H a cl fp => b.t.pg (fx.blk s H scope a cl fp)) (fun s H a cl fp => ht _ (fx.blk s H scope a cl fp)) (fun s H a cl fp => peE (fx.blk s H scope a cl fp)) (hs X.env)
/-- a walk over a tuple for a set -/
theorem sci_tup {w : World} {K : PySem.W.Frag} {a : Addr} {xs : List V} {g : TG} {tt : TT} {te : TE} {vs : List Nat} {σ : L2.St} {H0 : Hp} {D : Addr} {Qd : Hp → Prop} (Pv : Nat → Hp → Prop) (h0 : Pv 0 H0) (hl : ∀ i H, Pv i H → SqT K H a xs)
    (hs : ∀ i v H, xs[i]? = some v → Pv i H → g v (wipe σ vs) H fun σ2 H2 => wipe σ2 vs = wipe σ vs ∧ tt σ2 H2 fun b H3 =>
      if b = true then te σ2 H3 fun y H4 => ∃ (c : Int) (S : Int → Bool) (n : Nat), y = .int c ∧ H4 D = some (SetO w D S n) ∧ n + 1 < scanBound ∧ Pv (i + 1) (upd H4 D (SetO w D (fun j => S j || decide (j = c)) (if S c = true then n else n + 1))) else Pv (i + 1) H3)
    (hd : ∀ H, Pv xs.length H → Qd H) :
    ∃ W : Nat → Nat → Hp → Prop, (∃ m, W 0 m H0) ∧ ∀ i m H, W i m H → ((Itt K a).stop i H ∧ Qd H) ∨
      ((Itt K a).go i H ∧ ∃ Nx : Hp → Prop, (∀ H', Nx H' → ∃ m', m' < m ∧ W (i + 1) m' H') ∧ ∀ x H', (Itt K a).yld i H x H' → g x (wipe σ vs) H' fun σ2 H2 => wipe σ2 vs = wipe σ vs ∧ tt σ2 H2 fun b H3 =>
        if b = true then te σ2 H3 fun y H4 => ∃ (c : Int) (S : Int → Bool) (n : Nat), y = .int c ∧ H4 D = some (SetO w D S n) ∧ n + 1 < scanBound ∧ Nx (upd H4 D (SetO w D (fun j => S j || decide (j = c)) (if S c = true then n else n + 1))) else Nx H3) := by
  refine ⟨fun i m H => m + i = xs.length ∧ Pv i H, ⟨xs.length, by simp, h0⟩, ?_⟩
  rintro i m H ⟨hm, pv⟩
  have sq := hl i H pv
  by_cases end1 : i = xs.length
  · subst end1
    exact .inl ⟨⟨xs, sq, Nat.le_refl _⟩, hd H pv⟩
  · have lt : i < xs.length := by omega
    refine .inr ⟨⟨xs, xs[i], sq, List.getElem?_eq_getElem lt⟩, Pv (i + 1), fun H' pv' => ⟨m - 1, by omega, by omega, pv'⟩, ?_⟩
    rintro v H' ⟨rfl, hy⟩
    exact hs i v _ (hy xs sq) pv
/-- sorted({elt for x in a tuple}), hii -/
theorem we_sortSc (ei : α → PyData) (g : α → Int) (i : Nat) (b : Blk C scope i x) (hK : F.K = C.K) (hg : C.sc.names.lookup ("sorted" : Str) = some .globalImplicit) (hm : C.mg ("sorted" : Str) = none) (hfs : ∀ (env : Env) (v : Value), foldedSetIterable iter env v = pure v)
    (hs : ∀ env : Env, starEach [.SetComp elt [⟨.Name x px, iter, [], 0⟩] scope p2] env = (false, eval (.SetComp elt [⟨.Name x px, iter, [], 0⟩] scope p2) env) :: starEach [] env)
    (h : WPE F C iter ρ k fun k1 d => ∃ as : List α, d = .tuple (as.map ei) ∧ as.length ≤ 1000 ∧ (∀ D a, a ∈ as → WPE (F.ext D) (C.blk scope) elt (ρ.set i (.d (ei a))) k1 fun k2 z => k2 = k1 ∧ z = .int (g a)) ∧
      ∀ ms : List Int, ms.Pairwise (· < ·) → (∀ z, z ∈ ms ↔ z ∈ as.map g) → Φ k1 (.list (ms.map PyData.int))) :
    WPE F C (.Call (.Name "sorted" p1) [.SetComp elt [⟨.Name x px, iter, [], 0⟩] scope p2] [] pos) ρ k Φ :=
  of_pe (t := tCB (rSortSetA C.w) (tCons (tSci C.w (iTup C.K (tE C iter)) (gName i) tYes (tE (C.blk scope) elt) [i]) tNil)) (fun X fx => pe_callB (by rw [← fx.w]; exact cr_sortSetA fx.calm) (by show X.env.scope.names.lookup ("sorted" : Str) = _; rw [fx.sc]; exact hg) (by rw [fx.mg]; exact hm) (by decide +kernel)
      (pa_cons (pe_sciX fx b (piT fx) (fun _ _ => pts_nil) hfs) pa_nil (hs X.env)) (by decide) (by decide) (hs X.env) rfl) fun σ H Q en j q => by
    show tE C iter σ H _
    refine h σ H _ en j fun v d k1 H1 l1 j1 r ⟨as, ed, hz, hbody, hend⟩ => ?_
    subst ed
    cases r with
    | @tup a xs _ ha hr =>
    refine ⟨a, rfl, ⟨xs, hK ▸ sqt_of ha⟩, fun D hD => ?_⟩
    have hlen : xs.length = as.length := by rw [hr.length, List.length_map]
    have en1 := en.le l1
    have hM : ¬ F.M D := fun z => F.gl _ _ j1.g D z hD
    have hS : ¬ F.S D := j1.fresh hD
    have h0 : F.H0 D = none := j1.h0 hM hD
    have hne : ∀ (i : Nat) o xs, ρ[i]? = some (SV.own o xs) → o ≠ D := fun i o xs e => by
      obtain ⟨x, _, s⟩ := en1 i _ e
      obtain ⟨_, _, _, _, vs, h1, _⟩ := s
      exact ne_of_none h1 hD
    have rr : Rp (F.ext D) (upd H1 D (SetO C.w D (fun _ => false) 0)) (.ref a) (.tuple (as.map ei)) := Rep.ext (.tup ha hr) hD
    cases rr with
    | @tup _ xs' _ ha' hr' =>
    have hlen' : xs'.length = as.length := by rw [hr'.length, List.length_map]
    refine sci_tup (xs := xs') (fun n H' => ∃ (S : Int → Bool) (c : Nat), c ≤ n ∧ EnvOk (F.ext D) H' σ ρ ∧ J (F.ext D) k1 H' ∧ LeD (F.ext D) D (upd H1 D (SetO C.w D (fun _ => false) 0)) H' ∧ H' D = some (SetO C.w D S c) ∧ ∀ z, S z = true ↔ z ∈ (as.take n).map g)
      ⟨fun _ => false, 0, Nat.le_refl _, en1.ext hD, (j1.new hD).ext (lv_new fun _ z => nomatch z), .refl, upd_same, by simp⟩ ?_ ?_ ?_
    · rintro n H' ⟨S, c, _, _, _, ld, _⟩
      have := sqt_of (K := F.K) (H := H') (S := (F.ext D).S) ⟨ld.lz (.inr rfl) _ _ (Fm.sxA ha'.2) ha'.1, ha'.2⟩
      exact hK ▸ this
    · rintro n v H' hv ⟨S, c, hc, en', j', ld, hd, hmem⟩
      obtain ⟨y, hy, ry⟩ := hr'.got hv
      rw [List.getElem?_map, Option.map_eq_some_iff] at hy
      obtain ⟨a1, ha1, rfl⟩ := hy
      have hn : n < as.length := (List.getElem?_eq_some_iff.mp ha1).1
      show (wipe ((wipe σ [i]).set i (some v)) [i] = wipe σ [i] ∧ _)
      rw [set_wipe]
      refine ⟨wipe_set σ, ?_⟩
      refine hbody D a1 (List.mem_of_getElem? ha1) (σ.set i (some v)) H' _ (en'.set (sv := .d (ei a1)) ⟨v, rfl, ry.le (ld.lz (.inr rfl))⟩) j' fun vz z k2 H4 l4 j4 r4 ⟨ek, ez⟩ => ?_
      subst ek ez
      cases r4
      have hd4 : H4 D = some (SetO C.w D S c) := l4 D _ (Fm.mxA hM) hd
      refine ⟨g a1, S, c, rfl, hd4, Nat.lt_of_le_of_lt (show c + 1 ≤ 1001 by omega) (by decide), ?_⟩
      have ld2 : LeD (F.ext D) D H' (upd H4 D (SetO C.w D (fun j => S j || decide (j = g a1)) (if S (g a1) = true then c else c + 1))) := fun b o nb m e => by rw [upd_ne m]; exact l4 b o nb e
      refine ⟨_, _, ?_, en'.ld ld2 (.inr rfl) hne, j4.own hM h0 (pl_set hd4), ld.trans ld2, upd_same, fun z => ?_⟩
      · split <;> omega
      · rw [take_next ha1, List.map_append, List.mem_append, Bool.or_eq_true, hmem z, decide_eq_true_eq]
        simp
    · rintro H' ⟨S, c, hc, en', j', ld, hd, hmem⟩
      refine ⟨D, S, c, rfl, hd, fun ms l2 hpw hms _ hl2 => ?_⟩
      have j2 := j'.unext
      refine q _ _ k1 _ ?_ (j2.new hl2) (rep_newL j2 hl2 (RepAll.of_ints ms)) (hend ms hpw fun z => ?_)
      · intro b o nb e
        have e1 := l1 b o nb e
        have e2 := ld b o nb (ne_of_none e1 hD) (by rw [upd_ne (ne_of_none e1 hD)]; exact e1)
        rw [upd_ne (ne_of_none e2 hl2)]; exact e2
      · rw [hms z, hmem z, hlen', List.take_length]
end

/-! ### len(set(xs)) -/
def rLenSetO (w : World) : List V → Hp → VK → Prop := fun vs H Q => ∃ (a : Addr) (S : Int → Bool) (n : Nat), vs = [V.ref a] ∧ H a = some (SetO w a S n) ∧ ∀ ks : List Int, ks.Nodup → (∀ z, z ∈ ks ↔ S z = true) → ks.length = n → Q (.int (n : Nat)) H
section
variable {F : Fm} {C : Cs} {ρ : Rho} {k : Nat} {Φ : Nat → PyData → Prop} {pos p1 p2 p3 px : Pos} {e : Expr}
end
/-! ### small steps that a walk takes by itself -/
section
variable {a b c d e f g h : PyData} {p : Prop}
theorem tl0 (h : p) : ([] : List PyData).length ≤ sizeLine ∧ p := ⟨Nat.zero_le _, h⟩
theorem tl2 (h : p) : [a, b].length ≤ sizeLine ∧ p := ⟨by show 2 ≤ sizeLine; decide, h⟩
theorem tl3 (h : p) : [a, b, c].length ≤ sizeLine ∧ p := ⟨by show 3 ≤ sizeLine; decide, h⟩
theorem ii2 {i j : Int} {Θ : Int → Int → Prop} (h : Θ i j) : ∃ x y, PyData.int i = .int x ∧ PyData.int j = .int y ∧ Θ x y := ⟨i, j, rfl, rfl, h⟩
theorem ii1 {i : Int} {Θ : Int → Prop} (h : Θ i) : ∃ x, PyData.int i = .int x ∧ Θ x := ⟨i, rfl, h⟩
theorem bb1 {i : Bool} {Θ : Bool → Prop} (h : Θ i) : ∃ x, PyData.bool i = .bool x ∧ Θ x := ⟨i, rfl, h⟩
theorem sqT {ds : List PyData} {Θ : List PyData → Prop} (h : Θ ds) : ∃ xs, seqD (.tuple ds) = some xs ∧ Θ xs := ⟨ds, rfl, h⟩
theorem sqL {ds : List PyData} {Θ : List PyData → Prop} (h : Θ ds) : ∃ xs, seqD (.list ds) = some xs ∧ Θ xs := ⟨ds, rfl, h⟩
end
end Dl

namespace Dl
open PySem PySem.Spec PyProof.Rows L2
/-! ### max(xs, default=None), max(xs), ints -/
def rMaxDef (K : PySem.W.Frag) : List V → List V → Hp → VK → Prop := fun vs zs H Q => ∃ (a : Addr) (ns : List Int), vs = [V.ref a] ∧ zs = [V.non] ∧ SqL K H a (ns.map V.int) ∧ (ns = [] → Q .non H) ∧ ∀ m, m ∈ ns → (∀ y, y ∈ ns → y ≤ m) → Q (.int m) H
section
variable {F : Fm} {C : Cs} {ρ : Rho} {k : Nat} {Φ : Nat → PyData → Prop} {pos p1 p2 p3 px kp : Pos} {e : Expr} {jj : Nat} {P : DE} {x : Str} {rest : List Stmt}
end

section
variable {F : Fm} {C : Cs} {ρ : Rho} {k : Nat} {P : DE} {pos p2 px : Pos} {a b : Expr} {x : Str} {rest : List Stmt}
end
end Dl

namespace Dl
open PySem PySem.Spec PyProof.Rows L2
section
variable {F : Fm} {C : Cs} {ρ : Rho} {k : Nat} {Φ : Nat → PyData → Prop}
/-! ### comprehensions over range(a, b) -/
end
section
variable {F : Fm} {C : Cs} {ρ : Rho} {k : Nat} {Φ : Nat → PyData → Prop} {P : DE} {pos spos pr pr2 p2 : Pos} {elt a b e : Expr} {scope : Scope}
/-- xs * n, lists -/
theorem we_repL (h : WPE F C a ρ k fun k1 x => WPE F C b ρ k1 fun k2 y => ∃ ds n, x = .list ds ∧ y = .int n ∧ (-1000 ≤ n ∧ n ≤ 1000) ∧ ds.length ≤ 1000 ∧ Φ k2 (.list (List.replicate n.toNat ds).flatten)) : WPE F C (.BinOp a .Mult b pos) ρ k Φ :=
  we_bin (fun X _ => op_rep) (h.imp fun k1 x h1 => h1.imp fun k2 y ⟨ds, n, e1, e2, hz, hl, p⟩ => by
    subst e1 e2
    intro H vx vy Q j rx ry q
    cases rx with
    | @lst pa xs _ ha hr =>
    cases ry
    refine ⟨pa, n, xs, rfl, rfl, ha.1, by omega, by omega, ?_, fun l hl => q _ _ k2 _ (.new hl) (j.new hl) (rep_newL j hl ?_) p⟩
    · rw [hr.length]
      exact Nat.le_trans (Nat.mul_le_mul hl (show n.toNat ≤ 1000 by omega)) (by decide)
    · have : ∀ m : Nat, RpAll F H (List.replicate m xs).flatten (List.replicate m ds).flatten := by
        intro m
        induction m with
        | zero => exact .nil
        | succ m ih =>
          rw [List.replicate_succ, List.replicate_succ, List.flatten_cons, List.flatten_cons]
          exact hr.append ih
      exact this _)
end
end Dl

namespace Dl
open PySem PySem.Spec PyProof.Rows L2
/-! ### the laws' draws: a list [cells, count, rests] -/
def DqM (st a : Addr) (b : Addr) : Prop := b = st ∨ b = a
def DqG (st a : Addr) (k : Nat) (H : Hp) : Prop := ∃ (cells : List Int) (n : Int), H st = some (.lst [.ref a, .int n]) ∧ H a = some (.lst (cells.map V.int)) ∧ cells.length ≤ 63 ∧ 0 ≤ n ∧ n + k ≤ 1000000
theorem DqG.weak {st a : Addr} {k k' : Nat} {H : Hp} (h : DqG st a k H) (hk : k' ≤ k) : DqG st a k' H := by
  obtain ⟨c, n, h1, h2, h3, h4, h5⟩ := h
  exact ⟨c, n, h1, h2, h3, h4, by omega⟩
theorem DqG.at {st a : Addr} {k : Nat} {H H' : Hp} (h : DqG st a k H) (e : ∀ b, DqM st a b → H' b = H b) : DqG st a k H' := by
  obtain ⟨c, n, h1, h2, h3⟩ := h
  exact ⟨c, n, (e st (.inl rfl)).trans h1, (e a (.inr rfl)).trans h2, h3⟩
theorem DqG.live {st a : Addr} {k : Nat} {H : Hp} (h : DqG st a k H) (b : Addr) (hb : DqM st a b) : H b ≠ none := by
  obtain ⟨c, n, h1, h2, h3⟩ := h
  rcases hb with rfl | rfl
  · rw [h1]; exact fun z => nomatch z
  · rw [h2]; exact fun z => nomatch z
theorem DqG.lv {st a : Addr} {k : Nat} {H : Hp} (h : DqG st a k H) (b : Addr) (hb : DqM st a b) : Lv H b := by
  obtain ⟨c, n, h1, h2, h3⟩ := h
  rcases hb with rfl | rfl
  · exact lv_lst h1
  · exact lv_lst h2
def dqFm (K : PySem.W.Frag) (S : Addr → Prop) (H : Hp) (st a : Addr) : Fm where
  K := K
  S := fun b => S b ∨ DqM st a b
  M := DqM st a
  H0 := H
  G := DqG st a
  ms := fun b h => .inr h
  gm := fun k H H' g e _ => g.at e
  gl := fun k H g b hb => g.live b hb
/-- the frame knows the draws -/
structure IsDq (F : Fm) (st a : Addr) : Prop where
  M : F.M = DqM st a
  G : F.G = DqG st a
theorem IsDq.ext {F : Fm} {st a : Addr} (h : IsDq F st a) (D : Addr) : IsDq (F.ext D) st a := ⟨h.M, h.G⟩
/-- a def that draws: at most `cost` draws; Pre of its data, R what it may hand back -/
def spDrawQ (K : PySem.W.Frag) (cost : Nat) (Pre : List PyData → Prop) (R : Rel) : Sp := fun vs H Q _ => ∃ (S : Addr → Prop) (st a : Addr) (vs' : List V) (ds : List PyData) (k : Nat), vs = .ref st :: vs' ∧ DqG st a (k + cost) H ∧ (∀ b, S b → Lv H b) ∧ (∀ b, DqM st a b → S b) ∧ RepAll K S H vs' ds ∧ Pre ds ∧
  ∀ v d H', (∀ b o, ¬ DqM st a b → H b = some o → H' b = some o) → DqG st a k H' → Rep K S H' v d → R ds d → Q v H'
structure DFnQ (P : Program) (w : World) (K : PySem.W.Frag) (mg : Str → Option Value) (base : Heap) (lvl : Nat) (x : Str) (cost : Nat) (Pre : List PyData → Prop) (R : Rel) : Prop where
  ex : ∃ (fa : Addr) (fd : FuncData) (ps : List Str), FnG P w K mg base lvl fa fd ps (spDrawQ K cost Pre R) ∧ mg x = some (.ref fa) ∧ PySem.W.keepIn K (.ref fa) = true ∧ L2.Binds K fd ps []
section
variable {P : Program} {w : World} {K : PySem.W.Frag} {mg : Str → Option Value} {base : Heap}
def drawFmQ (K : PySem.W.Frag) (S : Addr → Prop) (H : Hp) (st a : Addr) (hS : ∀ b, DqM st a b → S b) : Fm where
  K := K
  S := S
  M := DqM st a
  H0 := H
  G := DqG st a
  ms := hS
  gm := fun k H H' g e _ => g.at e
  gl := fun k H g b hb => g.live b hb
theorem draw_okQ {x qual : Str} {st : Stmt} {f : Addr} {fd : FuncData} {N ps : List Str} {k cost : Nat} {Pre : List PyData → Prop} {R : Rel} (Fn : Fun K x qual st f fd) (Sc : FnScope N ps (defScope st)) (len : ∀ ds, Pre ds → ds.length + 1 = ps.length)
    (body : ∀ (F : Fm) (s a : Addr) (ds : List PyData) (kk : Nat), IsDq F s a → F.K = K → Pre ds → WPB F (bodyCs P w K mg base N (defScope st) k) (defBody st) (.raw (.ref s) :: (ds.map SV.d ++ List.replicate (N.length - (ds.length + 1)) SV.un)) (kk + cost) { nx := fun k' _ => kk ≤ k' ∧ R ds .none, rt := fun k' d => kk ≤ k' ∧ R ds d, bk := fun _ _ => False, ct := fun _ _ => False }) :
    FnG P w K mg base (k + 1) f fd ps (spDrawQ K cost Pre R) := by
  refine FnG.of_body Fn Sc (fun vs H Q E h => ?_) (fun cdv A outer s H vs Q hgd hr h => ?_)
  · obtain ⟨S, st, a, vs', ds, k, rfl, _, _, _, rr, hp, _⟩ := h
    rw [List.length_cons, rr.length, len ds hp]
  · obtain ⟨S, st, a, vs', ds, kk, rfl, g, al, hS, rr, hp, q⟩ := h
    refine ⟨_, pbB (fits_body hgd hr), ?_⟩
    refine body (drawFmQ K S H st a hS) st a ds kk ⟨rfl, rfl⟩ rfl hp (L2.start N (.ref st :: vs')) H _ (env_raw (F := drawFmQ K S H st a hS) rr) ⟨g, fun b o _ e => e, al⟩ ?_ ?_ ?_ ?_
    · exact fun ρ' σ' k' H' _ _ j' e => q _ .none H' (fun b o n h => j'.le b o (fun z => z.elim n id) h) (DqG.weak j'.g e.1) .non e.2
    · exact fun v d' k' H' j' r' e => q v d' H' (fun b o n h => j'.le b o (fun z => z.elim n id) h) (DqG.weak j'.g e.1) r' e.2
    · exact fun _ _ _ _ _ _ _ z => z.elim
    · exact fun _ _ _ _ _ _ _ z => z.elim
end
section
variable {F : Fm} {C : Cs} {ρ : Rho} {k : Nat} {Φ : Nat → PyData → Prop} {es : List Expr} {pos p py : Pos} {x y : Str}
/-- a call of a def that draws, the state by its name -/
theorem we_callQ {s a : Addr} (dk : IsDq F s a) {j cost : Nat} {Pre : List PyData → Prop} {R : Rel} (hF : DFnQ C.P C.w C.K C.mg C.base j x cost Pre R) (hl : j ≤ C.lvl) (hK : F.K = C.K) (i : Nat) (hg : C.sc.names.lookup x = some .globalImplicit) (hN : C.N[i]? = some y) (hv : Vis C.sc y) (hr : ρ[i]? = some (.raw (.ref s)))
    (h : WPA F C es ρ k fun k1 ds => Pre ds ∧ ∃ k2, k1 = k2 + cost ∧ ∀ d, R ds d → Φ k2 d) (hdb : (x == ("__debug__" : Str)) = false := by decide) (hd : (y == ("__debug__" : Str)) = false := by decide) (hcd : (y == ("__classdict__" : Str)) = false := by decide)
    (hss : ∀ env : Env, starEach (.Name y py :: es) env = (false, eval (.Name y py) env) :: starEach es env := by intro _; rfl) (hpl : ∀ env : Env, ((backTo pos (starEach es env)).any fun x => x.fst) = false := by intro _; rfl) :
    WPE F C (.Call (.Name x p) (.Name y py :: es) [] pos) ρ k Φ := by
  obtain ⟨fa, fd, ps, G, hm, kp, hb⟩ := hF.ex
  refine of_pe (fun X fx => pe_callF fx G hl hg hm kp hb (pa_cons (pe_var (i := i) (by rw [fx.N]; exact hN) (by rw [fx.sc]; exact hv) hd hcd) (paA fx) (hss X.env)) hdb hss hpl) fun σ H Q en jj q => ?_
  refine ⟨_, en.raw hr, ?_⟩
  refine h σ H _ en jj fun vs ds k1 H1 l1 j1 r1 ⟨hp, k2, e, hf⟩ => ?_
  subst e
  refine ⟨F.S, s, a, vs, ds, k2, rfl, dk.G ▸ j1.g, j1.al, fun b hb => F.ms b (dk.M ▸ hb), hK ▸ r1, hp, fun v d H' keep g rv hR => ?_⟩
  have le : Le F H1 H' := fun b o n e => keep b o (fun z => n (.inl (by rw [dk.M]; exact z))) e
  refine q v d k2 H' (l1.trans le) ⟨by rw [dk.G]; exact g, fun b o n e => le b o n (j1.le b o n e), fun b hb => ?_⟩ (by show Rep F.K F.S H' v d; rw [hK]; exact rv) (hf d hR)
  by_cases hM : DqM s a b
  · exact g.lv b hM
  · exact (j1.al b hb).keep fun o e => keep b o hM e
end
/-! ### the law whose first statement makes the deck -/
def spDeck (K : PySem.W.Frag) : Sp := fun vs H Q _ => ∃ (sc : Addr) (ns : List Int), vs = [.ref sc] ∧ SqL K H sc (ns.map V.int) ∧ ns.length ≤ 63 ∧
  ∀ H' st a, Same H H' → H st = none → H a = none → DqG st a 900000 H' → Q (.ref st) H'
section
variable {P : Program} {w : World} {K : PySem.W.Frag} {mg : Str → Option Value} {base : Heap}
end
end Dl

namespace Dl
open PySem PySem.Spec PyProof.Rows L2
/-! ### numbers for what is known of decks -/
def prN (a b : Nat) : Nat := 2 ^ a * (2 * b + 1)
theorem prN_inj : ∀ {a b c d : Nat}, prN a b = prN c d → a = c ∧ b = d
  | 0, b, 0, d, h => by unfold prN at h; omega
  | 0, b, c + 1, d, h => by
    unfold prN at h
    rw [Nat.pow_succ, Nat.mul_comm (2 ^ c) 2, Nat.mul_assoc] at h
    omega
  | a + 1, b, 0, d, h => by
    unfold prN at h
    rw [Nat.pow_succ, Nat.mul_comm (2 ^ a) 2, Nat.mul_assoc] at h
    omega
  | a + 1, b, c + 1, d, h => by
    unfold prN at h
    rw [Nat.pow_succ, Nat.pow_succ, Nat.mul_comm (2 ^ a) 2, Nat.mul_comm (2 ^ c) 2, Nat.mul_assoc, Nat.mul_assoc] at h
    have h2 : prN a b = prN c d := by unfold prN; omega
    obtain ⟨e1, e2⟩ := prN_inj h2
    exact ⟨by omega, e2⟩
theorem prN_pos (a b : Nat) : prN a b ≠ 0 := by
  unfold prN
  have := Nat.two_pow_pos a
  intro h
  rcases Nat.mul_eq_zero.mp h with h | h <;> omega
class Enc (α : Type) where
  enc : α → Nat
  inj : ∀ a b, enc a = enc b → a = b
instance : Enc Nat := ⟨id, fun _ _ h => h⟩
def encI : Int → Nat
  | .ofNat n => 2 * n
  | .negSucc n => 2 * n + 1
instance : Enc Int := ⟨encI, fun a b h => by
  cases a with
  | ofNat n => cases b with
    | ofNat m => simp only [encI] at h; rw [show n = m by omega]
    | negSucc m => simp only [encI] at h; omega
  | negSucc n => cases b with
    | ofNat m => simp only [encI] at h; omega
    | negSucc m => simp only [encI] at h; rw [show n = m by omega]⟩
instance {α β : Type} [Enc α] [Enc β] : Enc (α × β) := ⟨fun p => prN (Enc.enc p.1) (Enc.enc p.2), fun a b h => by
  obtain ⟨h1, h2⟩ := prN_inj h
  exact Prod.ext (Enc.inj _ _ h1) (Enc.inj _ _ h2)⟩
def encL {α : Type} [Enc α] : List α → Nat
  | [] => 0
  | x :: xs => prN (Enc.enc x) (encL xs)
theorem encL_inj {α : Type} [Enc α] : ∀ a b : List α, encL a = encL b → a = b
  | [], [], _ => rfl
  | [], y :: ys, h => absurd h.symm (prN_pos _ _)
  | x :: xs, [], h => absurd h (prN_pos _ _)
  | x :: xs, y :: ys, h => by
    obtain ⟨h1, h2⟩ := prN_inj h
    rw [Enc.inj _ _ h1, encL_inj xs ys h2]
instance {α : Type} [Enc α] : Enc (List α) := ⟨encL, encL_inj⟩
/-- boxes and edits of a deck -/
abbrev Pg := List (Nat × List Int) × List (Nat × Int)
def kk (c : Nat) (g : Pg) : Nat := Enc.enc (c, g)
theorem kk_inj {c c' : Nat} {g g' : Pg} (h : kk c g = kk c' g') : c = c' ∧ g = g' := by
  have := Enc.inj _ _ h
  exact ⟨congrArg Prod.fst this, congrArg Prod.snd this⟩

/-! ### the lists of a deck, redescribed -/
section
variable {X : Cx} {pins : List (Addr × Obj)} {σ : L2.St} {H : Hp} {s : Shared} {p : Addr} {as : List Addr}
theorem vals_refs : ∀ {as : List Addr} {its : List Value}, Vals (as.map V.ref) its → its = as.map Value.ref
  | [], _, h => by cases h; rfl
  | a :: as, _, h => by
    cases h with
    | cons h1 h2 => rw [vals_refs h2, show _ = Value.ref a from h1]; rfl
theorem refs_vals : ∀ (as : List Addr), Vals (as.map V.ref) (as.map Value.ref)
  | [] => .nil
  | _ :: as => .cons rfl (refs_vals as)
theorem inv_asLst (I : Inv X pins σ H s) (h : H p = some (extL p as)) : Inv X pins σ (upd H p (.lst (as.map V.ref))) s := by
  obtain ⟨⟨hl, n, e⟩, _, _⟩ := I.hok p _ h
  exact I.write (x := p) (e := p) (t' := s.toks) (h' := s.heap) (by rw [h]; exact trivial) (.inl rfl) (fun b v _ q => q) ⟨_, e⟩ ⟨by rw [List.length_map]; exact hl, _, n, refs_vals as, e⟩
theorem inv_asExt (I : Inv X pins σ H s) (h : H p = some (.lst (as.map V.ref))) : Inv X pins σ (upd H p (extL p as)) s := by
  obtain ⟨hl, its, n, r, e⟩ := I.hok p _ h
  rw [vals_refs r] at e
  rw [List.length_map] at hl
  exact I.write (x := p) (e := p) (t' := s.toks) (h' := s.heap) (by rw [h]; exact trivial) (.inl rfl) (fun b v _ q => q) ⟨_, e⟩ ⟨⟨hl, n, e⟩, ⟨_, e⟩, fun h1 h2 ⟨l, n, q⟩ k => ⟨l, n, k _ q⟩⟩
/-- the list at p is a plain one while e runs -/
def tOpen (t : TE) : TE := fun σ H Q => ∃ (p : Addr) (as : List Addr), H p = some (extL p as) ∧ t σ (upd H p (.lst (as.map V.ref))) fun v H' => ∃ as', H' p = some (.lst (as'.map V.ref)) ∧ Q v (upd H' p (extL p as'))
end
end Dl

namespace Dl
open PySem PySem.Spec PyProof.Rows L2
/-! ### data of tuples alone -/
def NT (H : Hp) (b : Addr) : Prop := ∀ xs, H b ≠ some (.tup xs)
abbrev TR (K : PySem.W.Frag) (H : Hp) (v : V) (d : PyData) : Prop := Rep K (NT H) H v d
abbrev TRs (K : PySem.W.Frag) (H : Hp) (vs : List V) (ds : List PyData) : Prop := RepAll K (NT H) H vs ds
section
variable {K : PySem.W.Frag} {H H' : Hp} {S : Addr → Prop}
theorem nt_of {b : Addr} (n : ¬ NT H b) : ∃ xs, H b = some (.tup xs) := Classical.byContradiction fun z => n fun xs hx => z ⟨xs, hx⟩
theorem TR.keep {v : V} {d : PyData} (r : TR K H v d) (e : ∀ b xs, H b = some (.tup xs) → H' b = some (.tup xs)) : TR K H' v d :=
  Rep.keepX (S := NT H) (S' := NT H') (fun b o n _ q => by obtain ⟨xs, hx⟩ := nt_of n; rw [q] at hx; cases hx; exact e b xs q) (fun b hb hn xs hx => hn xs (e b xs hx)) d v r
theorem TRs.keep {v : List V} {d : List PyData} (r : TRs K H v d) (e : ∀ b xs, H b = some (.tup xs) → H' b = some (.tup xs)) : TRs K H' v d :=
  RepAll.keepX (S := NT H) (S' := NT H') (fun b o n _ q => by obtain ⟨xs, hx⟩ := nt_of n; rw [q] at hx; cases hx; exact e b xs q) (fun b hb hn xs hx => hn xs (e b xs hx)) d v r
theorem TR.rep {v : V} {d : PyData} (r : TR K H v d) (al : ∀ b, S b → Lv H b) : Rep K S H v d :=
  Rep.keep (S := NT H) (S' := S) (fun _ _ _ q => q) (fun b _ hS xs hx => by obtain ⟨o, e, n⟩ := al b hS; rw [hx] at e; cases e; exact n xs rfl) d v r
theorem TRs.rep {v : List V} {d : List PyData} (r : TRs K H v d) (al : ∀ b, S b → Lv H b) : RepAll K S H v d :=
  RepAll.keep (S := NT H) (S' := S) (fun _ _ _ q => q) (fun b _ hS xs hx => by obtain ⟨o, e, n⟩ := al b hS; rw [hx] at e; cases e; exact n xs rfl) d v r
def boxP (p : Nat × List Int) : PyData := .tuple [.int (p.1 : Int), .tuple (p.2.map PyData.int)]
def wordS : Nat → Str
  | 0 => "add"
  | 1 => "remove"
  | 2 => "flip"
  | _ => "press"
def edP (e : Nat × Int) : PyData := .tuple [.str (wordS e.1), .int e.2]
theorem tr_box {v : V} {p : Nat × List Int} (r : Rep K S H v (boxP p)) : ∃ a, v = .ref a ∧ TR K H v (boxP p) := by
  cases r with
  | @tup a xs _ ha hr =>
  cases hr with
  | cons r1 hr =>
  cases hr with
  | cons r2 hr =>
  cases hr
  cases r1
  cases r2 with
  | @tup b ys _ hb hrb =>
  refine ⟨a, rfl, .tup ⟨ha.1, fun z => z _ ha.1⟩ (.cons (.int _) (.cons (.tup ⟨hb.1, fun z => z _ hb.1⟩ ?_) .nil))⟩
  rw [RepAll.ints hrb]; exact RepAll.of_ints _
theorem tr_ed {v : V} {e : Nat × Int} (r : Rep K S H v (edP e)) : ∃ a, v = .ref a ∧ TR K H v (edP e) := by
  cases r with
  | @tup a xs _ ha hr =>
  cases hr with
  | cons r1 hr =>
  cases hr with
  | cons r2 hr =>
  cases hr
  cases r1
  cases r2
  exact ⟨a, rfl, .tup ⟨ha.1, fun z => z _ ha.1⟩ (.cons (.str _) (.cons (.int _) .nil))⟩
end
/-! ### a deck in the heap -/
structure PiG (K : PySem.W.Frag) (C a dx s t : Addr) (g : Pg) (H : Hp) : Prop where
  ia : H a = some (.ins C dx [("states", .ref s), ("done", .ref t)])
  id : H dx = some (.own a)
  ne : s ≠ t
  ss : ∃ as, H s = some (extL s as) ∧ TRs K H (as.map V.ref) (g.1.map boxP)
  tt : ∃ bs, H t = some (extL t bs) ∧ TRs K H (bs.map V.ref) (g.2.map edP)
  ls : g.1.length ≤ 1000
  lt : g.2.length ≤ 1000
theorem isX_ext {s : Addr} {as : List Addr} (h : as.length ≤ sizeLine) : IsX (extL s as) := ⟨s, as, h, rfl⟩
section
variable {K : PySem.W.Frag} {C a dx s t : Addr} {g : Pg} {H H' : Hp}
theorem big1000 {n : Nat} (h : n ≤ 1000) : n ≤ sizeLine := Nat.le_trans h (by decide)
theorem PiG.xs (d : PiG K C a dx s t g H) : ∃ as, H s = some (extL s as) ∧ TRs K H (as.map V.ref) (g.1.map boxP) ∧ IsX (extL s as) ∧ as.length = g.1.length := by
  obtain ⟨as, h1, h2⟩ := d.ss
  have e := h2.length
  rw [List.length_map, List.length_map] at e
  exact ⟨as, h1, h2, isX_ext (by rw [e]; exact big1000 d.ls), e⟩
theorem PiG.xt (d : PiG K C a dx s t g H) : ∃ as, H t = some (extL t as) ∧ TRs K H (as.map V.ref) (g.2.map edP) ∧ IsX (extL t as) ∧ as.length = g.2.length := by
  obtain ⟨as, h1, h2⟩ := d.tt
  have e := h2.length
  rw [List.length_map, List.length_map] at e
  exact ⟨as, h1, h2, isX_ext (by rw [e]; exact big1000 d.lt), e⟩
theorem PiG.at (d : PiG K C a dx s t g H) (h1 : H' a = H a) (h2 : H' dx = H dx) (h3 : ∀ b o, (IsX o ∨ ∃ xs, o = .tup xs) → H b = some o → H' b = some o) : PiG K C a dx s t g H' := by
  obtain ⟨as, e1, e2, e3, _⟩ := d.xs
  obtain ⟨bs, f1, f2, f3, _⟩ := d.xt
  exact ⟨h1.trans d.ia, h2.trans d.id, d.ne, ⟨as, h3 s _ (.inl e3) e1, e2.keep fun b xs q => h3 b _ (.inr ⟨xs, rfl⟩) q⟩, ⟨bs, h3 t _ (.inl f3) f1, f2.keep fun b xs q => h3 b _ (.inr ⟨xs, rfl⟩) q⟩, d.ls, d.lt⟩
end
/-- the frame of a def that edits the deck at a -/
def piFm (K : PySem.W.Frag) (S : Addr → Prop) (H0 : Hp) (C a dx s0 t0 : Addr) (hS : ∀ b, b = a ∨ b = dx → S b) : Fm where
  K := K
  S := S
  M := fun b => b = a ∨ b = dx
  H0 := H0
  G := fun k H => ∃ g s t, k = Enc.enc g ∧ PiG K C a dx s t g H ∧ (s = s0 ∨ ∀ o, H0 s = some o → ¬ IsX o) ∧ (t = t0 ∨ ∀ o, H0 t = some o → ¬ IsX o) ∧ (∀ y o, y ≠ s0 → y ≠ t0 → IsX o → H0 y = some o → H y = some o) ∧ (∀ y o, IsX o → H0 y = some o → ∃ o', IsX o' ∧ H y = some o')
  ms := hS
  gm := fun k H H' ⟨g, s, t, e, d, h1, h2, h3, h4⟩ hm hx => ⟨g, s, t, e, d.at (hm a (.inl rfl)) (hm dx (.inr rfl)) hx, h1, h2, fun y o n1 n2 x q => hx y o (.inl x) (h3 y o n1 n2 x q), fun y o x q => by
    obtain ⟨o', x', q'⟩ := h4 y o x q
    exact ⟨o', x', hx y o' (.inl x') q'⟩⟩
  gl := fun k H ⟨g, s, t, e, d, _⟩ b hb => by
    rcases hb with rfl | rfl
    · rw [d.ia]; exact fun z => nomatch z
    · rw [d.id]; exact fun z => nomatch z
  X := IsX
  xi := fun _ h => h
  xa := fun k H ⟨g, s, t, e, d, _, _, _, h4⟩ b o _ x q => h4 b o x q
/-- the frame knows the deck at a: mk tells k by what is known of the deck -/
structure HasPi (F : Fm) (C a dx : Addr) (mk : Pg → Nat) : Prop where
  X : F.X = IsX
  ma : F.M a
  md : F.M dx
  get : ∀ g H, F.G (mk g) H → ∃ s t, PiG F.K C a dx s t g H
  put : ∀ g g' H H' s t s' t', F.G (mk g) H → PiG F.K C a dx s t g H → (∀ b o, b ≠ a → b ≠ dx → b ≠ s → b ≠ t → H b = some o → H' b = some o) → (∀ y o, IsX o → H y = some o → ∃ o', IsX o' ∧ H' y = some o') → PiG F.K C a dx s' t' g' H' → (s' = s ∨ H s' = none) → (t' = t ∨ H t' = none) → F.G (mk g') H'
theorem HasPi.ext {F : Fm} {C a dx : Addr} {mk : Pg → Nat} (h : HasPi F C a dx mk) (D : Addr) : HasPi (F.ext D) C a dx mk := ⟨h.X, h.ma, h.md, h.get, h.put⟩
theorem PiG.uniq {K : PySem.W.Frag} {C a dx s t s' t' : Addr} {g g' : Pg} {H : Hp} (d : PiG K C a dx s t g H) (d' : PiG K C a dx s' t' g' H) : s = s' ∧ t = t' := by
  have e := d.ia.symm.trans d'.ia
  injection e with e
  injection e with _ _ e
  injection e with e1 e2
  injection e2 with e2 _
  injection e1 with _ e1
  injection e2 with _ e2
  injection e1 with e1
  injection e2 with e2
  exact ⟨e1, e2⟩
theorem has_piFm {K : PySem.W.Frag} {S : Addr → Prop} {H0 : Hp} {C a dx s0 t0 : Addr} {hS : ∀ b, b = a ∨ b = dx → S b} : HasPi (piFm K S H0 C a dx s0 t0 hS) C a dx Enc.enc where
  X := rfl
  ma := .inl rfl
  md := .inr rfl
  get := fun g H ⟨g1, s, t, e, d, _⟩ => by
    have := Enc.inj _ _ e
    subst this
    exact ⟨s, t, d⟩
  put := fun g g' H H' s t s' t' ⟨g1, s1, t1, e, d1, h1, h2, h3, h4⟩ d keep e1 d' hs ht => by
    obtain ⟨rfl, rfl⟩ := d1.uniq d
    have gone : ∀ y, H y = none → ∀ o, H0 y = some o → ¬ IsX o := fun y hy o q x => by
      obtain ⟨o', _, q'⟩ := h4 y o x q
      rw [q'] at hy; cases hy
    refine ⟨g', s', t', rfl, d', ?_, ?_, fun y o n1 n2 x q => ?_, fun y o x q => ?_⟩
    · rcases hs with rfl | hs
      · exact h1
      · exact .inr (gone s' hs)
    · rcases ht with rfl | ht
      · exact h2
      · exact .inr (gone t' ht)
    · have q1 := h3 y o n1 n2 x q
      refine keep y o ?_ ?_ ?_ ?_ q1
      · rintro rfl; rw [d.ia] at q1; cases q1; exact nx_ins x
      · rintro rfl; rw [d.id] at q1; cases q1; exact nx_own x
      · rintro rfl
        rcases h1 with h1 | h1
        · exact n1 h1
        · exact h1 o q x
      · rintro rfl
        rcases h2 with h2 | h2
        · exact n2 h2
        · exact h2 o q x
    · obtain ⟨o', x', q'⟩ := h4 y o x q
      exact e1 y o' x' q'
/-! ### defs that edit a deck -/
def spPi (K : PySem.W.Frag) (C : Addr) (Pre : Pg → List PyData → Prop) (R : Pg → List PyData → Pg → PyData → Prop) : Sp := fun vs H Q _ => ∃ (S : Addr → Prop) (a dx s t : Addr) (vs' : List V) (ds : List PyData) (g : Pg), vs = .ref a :: vs' ∧ PiG K C a dx s t g H ∧ (∀ b, S b → Lv H b) ∧ S a ∧ S dx ∧ RepAll K S H vs' ds ∧ Pre g ds ∧
  ∀ v d g' s' t' H', (∀ b o, b ≠ a → b ≠ dx → b ≠ s → b ≠ t → H b = some o → H' b = some o) → (∀ y o, IsX o → H y = some o → ∃ o', IsX o' ∧ H' y = some o') → PiG K C a dx s' t' g' H' → (s' = s ∨ H s' = none) → (t' = t ∨ H t' = none) → Rep K S H' v d → R g ds g' d → Q v H'
section
variable {P : Program} {w : World} {K : PySem.W.Frag} {mg : Str → Option Value} {base : Heap} {C : Addr}
theorem pi_ok {x qual : Str} {st : Stmt} {f : Addr} {fd : FuncData} {N ps : List Str} {k : Nat} {Pre : Pg → List PyData → Prop} {R : Pg → List PyData → Pg → PyData → Prop} (Fn : Fun K x qual st f fd) (Sc : FnScope N ps (defScope st)) (len : ∀ g ds, Pre g ds → ds.length + 1 = ps.length)
    (body : ∀ (F : Fm) (a dx : Addr) (ds : List PyData) (g : Pg), HasPi F C a dx Enc.enc → F.K = K → Pre g ds → WPB F (bodyCs P w K mg base N (defScope st) k) (defBody st) (.raw (.ref a) :: (ds.map SV.d ++ List.replicate (N.length - (ds.length + 1)) SV.un)) (Enc.enc g) { nx := fun k' _ => ∃ g', k' = Enc.enc g' ∧ R g ds g' .none, rt := fun k' d => ∃ g', k' = Enc.enc g' ∧ R g ds g' d, bk := fun _ _ => False, ct := fun _ _ => False }) :
    FnG P w K mg base (k + 1) f fd ps (spPi K C Pre R) := by
  refine FnG.of_body Fn Sc (fun vs H Q E h => ?_) (fun cdv A outer s H vs Q hgd hr h => ?_)
  · obtain ⟨S, a, dx, s, t, vs', ds, g, rfl, _, _, _, _, rr, hp, _⟩ := h
    rw [List.length_cons, rr.length, len g ds hp]
  · obtain ⟨S, a, dx, s0, t0, vs', ds, g, rfl, dg, al, Sa, Sd, rr, hp, q⟩ := h
    refine ⟨_, pbB (fits_body hgd hr), ?_⟩
    have hS : ∀ b, b = a ∨ b = dx → S b := fun b hb => by rcases hb with rfl | rfl <;> assumption
    have fin : ∀ v d k' H', J (piFm K S H C a dx s0 t0 hS) k' H' → Rep K S H' v d → (∃ g', k' = Enc.enc g' ∧ R g ds g' d) → Q v H' := fun v d k' H' j' rv ⟨g', e, hR⟩ => by
      obtain ⟨g1, s, t, e1, d1, h1, h2, h3, h4⟩ := j'.g
      have := Enc.inj _ _ (e.symm.trans e1)
      subst this
      obtain ⟨as, x1, _, x3, _⟩ := d1.xs
      obtain ⟨bs, y1, _, y3, _⟩ := d1.xt
      have fresh : ∀ z o, H' z = some o → IsX o → (∀ o, H z = some o → ¬ IsX o) → H z = none := fun z o hz xo hn => by
        cases q : H z with
        | none => rfl
        | some u =>
          have nx := hn u q
          have nm : ¬ (z = a ∨ z = dx) := by
            rintro (rfl | rfl)
            · rw [d1.ia] at hz; cases hz; exact nx_ins xo
            · rw [d1.id] at hz; cases hz; exact nx_own xo
          have := j'.le z u (Fm.mx nm nx) q
          rw [hz] at this
          cases this
          exact absurd xo nx
      refine q v d g' s t H' (fun b o n1 n2 n3 n4 e => ?_) h4 d1 (h1.imp id fun h => fresh s _ x1 x3 h) (h2.imp id fun h => fresh t _ y1 y3 h) rv hR
      by_cases x : IsX o
      · exact h3 b o n3 n4 x e
      · exact j'.le b o (Fm.mx (fun z => z.elim n1 n2) x) e
    have j0 : J (piFm K S H C a dx s0 t0 hS) (Enc.enc g) H := ⟨⟨g, s0, t0, rfl, dg, .inl rfl, .inl rfl, fun _ _ _ _ _ q => q, fun y o x q => ⟨o, x, q⟩⟩, fun b o _ e => e, al⟩
    refine body (piFm K S H C a dx s0 t0 hS) a dx ds g has_piFm rfl hp (L2.start N (.ref a :: vs')) H _ (env_raw (F := piFm K S H C a dx s0 t0 hS) rr) j0 ?_ ?_ ?_ ?_
    · exact fun ρ' σ' k' H' _ _ j' e => fin _ .none k' H' j' .non e
    · exact fun v d' k' H' j' r' e => fin v d' k' H' j' r' e
    · exact fun _ _ _ _ _ _ _ z => z.elim
    · exact fun _ _ _ _ _ _ _ z => z.elim
end
/-- what the caller of such a def has of it -/
theorem pi_step {F : Fm} {K : PySem.W.Frag} {C a dx : Addr} {mk : Pg → Nat} {g : Pg} {H : Hp} {vs : List V} {ds : List PyData} {Q : VK} {Φ : Nat → PyData → Prop} {Pre : Pg → List PyData → Prop} {R : Pg → List PyData → Pg → PyData → Prop} (pi : HasPi F C a dx mk) (hK : F.K = K) (j : J F (mk g) H) (r : RpAll F H vs ds) (hp : Pre g ds) (hq : ∀ g' d, R g ds g' d → Φ (mk g') d)
    (q : ∀ v d k' H', Le F H H' → J F k' H' → Rp F H' v d → Φ k' d → Q v H') : spPi K C Pre R (.ref a :: vs) H Q E0 := by
  subst hK
  obtain ⟨s, t, dg⟩ := pi.get g H j.g
  obtain ⟨as, x1, _, x3, _⟩ := dg.xs
  obtain ⟨bs, y1, _, y3, _⟩ := dg.xt
  refine ⟨F.S, a, dx, s, t, vs, ds, g, rfl, dg, j.al, F.ms _ pi.ma, F.ms _ pi.md, r, hp, fun v d g' s' t' H' keep e1 dg' hs ht rv hR => ?_⟩
  have le : Le F H H' := fun b o n e => by
    refine keep b o ?_ ?_ ?_ ?_ e
    · rintro rfl; exact n (.inl pi.ma)
    · rintro rfl; exact n (.inl pi.md)
    · rintro rfl; rw [x1] at e; cases e; exact n (.inr (by rw [pi.X]; exact x3))
    · rintro rfl; rw [y1] at e; cases e; exact n (.inr (by rw [pi.X]; exact y3))
  refine q v d (mk g') H' le ⟨pi.put g g' H H' s t s' t' j.g dg keep e1 dg' hs ht, fun b o n e => le b o n (j.le b o n e), fun b hb => ?_⟩ rv (hq g' d hR)
  have lvx : ∀ {z : Addr} {o : HO}, H z = some o → IsX o → Lv H' z := fun {z o} hz xo => by
    obtain ⟨o', ⟨_, _, _, rfl⟩, q'⟩ := e1 z o xo hz
    exact lv_ext q'
  by_cases h1 : b = a
  · subst h1; exact ⟨_, dg'.ia, fun _ z => nomatch z⟩
  by_cases h2 : b = dx
  · subst h2; exact ⟨_, dg'.id, fun _ z => nomatch z⟩
  by_cases h3 : b = s
  · subst h3; exact lvx x1 x3
  by_cases h4 : b = t
  · subst h4; exact lvx y1 y3
  exact (j.al b hb).keep fun o e => keep b o h1 h2 h3 h4 e
end Dl

namespace Dl
open PySem PySem.Spec PyProof.Rows L2
section
variable {X : Cx} {x m : Str} {p pos apos : Pos} {o e : Expr} {es : List Expr} {t : TA} {ta : TE} {k : Nat} {f C : Addr} {fd : FuncData} {ps : List Str} {sp : Sp} {dvs : List V} {ds : List Value}
theorem FnG.call_runD {pins : List (Addr × Obj)} {σ : L2.St} {H : Hp} {s : Shared} {Q : VK} {us : List Value} {vs : List V} (G : FnG X.prog X.w X.K X.mg X.base k f fd ps sp) (gd : X.A.guards = some []) (room : Room k X.A) (hb : L2.Binds X.K fd ps ds) (hd : Vals dvs ds)
    (I : Inv X pins σ H s) (r : Vals vs us) (h : sp (vs ++ dvs) H Q E0) : wpAny (model X.prog X.w) X.A (call (.ref f) us) (EP X pins σ Q) X.xe s := by
  have r2 : Vals (vs ++ dvs) (us ++ ds) := r.append hd
  have hl : (us ++ ds).length = ps.length := by rw [← r2.length]; exact G.len _ _ _ _ h
  have bind := hb s us I.kIn hl
  refine wpAny_call (codeAny_mono (G.run X.A X.stack s H ⟨us, []⟩ (us ++ ds) (vs ++ dvs) Q gd room I.env0 bind r2 h) ?_)
  intro res s' hr
  match res, hr with
  | .ok (.ret u), hr => exact I.after hr
  | .ok .next, hr => exact False.elim hr
  | .ok .brk, hr => exact False.elim hr
  | .ok .cont, hr => exact False.elim hr
  | .error _, hr => exact False.elim hr
theorem pe_methG {pl : Sem Bool} (he : PE X o ta) (c : Cls X.K C) (hm : Meth X.K C m f) (G : FnG X.prog X.w X.K X.mg X.base k f fd ps sp) (gd : X.A.guards = some []) (room : Room k X.A) (hb : L2.Binds X.K fd ps ds) (hd : Vals dvs ds) (ha : PA X (e :: es) t)
    (hst : starEach (e :: es) X.env = (false, eval e X.env) :: starEach es X.env) (hpl : (backTo pos (starEach es X.env)).any (·.1) = false)
    (ht : eval (.Call (.Attribute o m apos) (e :: es) [] pos) X.env = (do
      let ov ← eval o X.env
      standAt apos.atName
      let (f, first) ← holding [ov] (getMethod ov m pl)
      callWith pos f first (backTo pos (starEach (e :: es) X.env)) (backToKw pos (keywordEach [] X.env)))) :
    PE X (.Call (.Attribute o m apos) (e :: es) [] pos) (tMeth C m sp dvs E0 ta t) := by
  refine ⟨fun pins s σ H Q I h => ?_⟩
  refine PySem.W.methodCall_KW (pl := pl) (thn (he.run pins s σ H _ I h) fun u s1 ⟨x, H1, I1, rx, a, dx, fs, ex, ea, l, q⟩ => ?_) ht
  subst ex
  obtain rfl : u = Value.ref a := rx
  refine getmeth_ok I1 ea c hm l ?_
  refine PySem.W.callWith_K (first := [.ref a]) (h₀ := X.base) I.ok.mod.kin hm.kp (thn (ha.run pos pins s1 σ H1 _ I1 q) fun us s2 ⟨vs, H2, I2, r, q2⟩ => ⟨I2.kIn, ?_⟩) hst hpl
  exact FnG.call_runD (us := .ref a :: us) (vs := .ref a :: vs) G gd room hb hd I2 (.cons rfl r) q2
theorem pe_methG0 {pl : Sem Bool} (he : PE X o ta) (c : Cls X.K C) (hm : Meth X.K C m f) (G : FnG X.prog X.w X.K X.mg X.base k f fd ps sp) (gd : X.A.guards = some []) (room : Room k X.A) (hb : L2.Binds X.K fd ps ds) (hd : Vals dvs ds)
    (ht : eval (.Call (.Attribute o m apos) [] [] pos) X.env = (do
      let ov ← eval o X.env
      standAt apos.atName
      let (f, first) ← holding [ov] (getMethod ov m pl)
      callWith pos f first (backTo pos (starEach [] X.env)) (backToKw pos (keywordEach [] X.env)))) :
    PE X (.Call (.Attribute o m apos) [] [] pos) (tMeth C m sp dvs E0 ta tNil) := by
  refine ⟨fun pins s σ H Q I h => ?_⟩
  refine PySem.W.methodCall_KW (pl := pl) (thn (he.run pins s σ H _ I h) fun u s1 ⟨x, H1, I1, rx, a, dx, fs, ex, ea, l, q⟩ => ?_) ht
  subst ex
  obtain rfl : u = Value.ref a := rx
  refine getmeth_ok I1 ea c hm l ?_
  exact PySem.W.callWith_K0 (first := [.ref a]) I1.kIn hm.kp (FnG.call_runD (us := [.ref a]) (vs := [.ref a]) G gd room hb hd I1 (.cons rfl .nil) q)
end
/-- a method that edits decks of the class at C -/
structure PiM (P : Program) (w : World) (K : PySem.W.Frag) (mg : Str → Option Value) (base : Heap) (C : Addr) (lvl : Nat) (m : Str) (dvs : List V) (Pre : Pg → List PyData → Prop) (R : Pg → List PyData → Pg → PyData → Prop) : Prop where
  cl : Cls K C
  ex : ∃ (fa : Addr) (fd : FuncData) (ps : List Str) (ds : List Value), FnG P w K mg base lvl fa fd ps (spPi K C Pre R) ∧ Meth K C m fa ∧ L2.Binds K fd ps ds ∧ Vals dvs ds
/-- a def that edits decks of the class at C -/
structure PiF (P : Program) (w : World) (K : PySem.W.Frag) (mg : Str → Option Value) (base : Heap) (C : Addr) (lvl : Nat) (x : Str) (Pre : Pg → List PyData → Prop) (R : Pg → List PyData → Pg → PyData → Prop) : Prop where
  ex : ∃ (fa : Addr) (fd : FuncData) (ps : List Str), FnG P w K mg base lvl fa fd ps (spPi K C Pre R) ∧ mg x = some (.ref fa) ∧ PySem.W.keepIn K (.ref fa) = true ∧ L2.Binds K fd ps []
section
variable {F : Fm} {C : Cs} {Cl a dx : Addr} {mk : Pg → Nat} {g : Pg} {ρ : Rho} {Φ : Nat → PyData → Prop} {e : Expr} {es : List Expr} {pos p py apos : Pos} {x y m : Str} {Pre : Pg → List PyData → Prop} {R : Pg → List PyData → Pg → PyData → Prop} {j : Nat} {P : DE}
theorem meth_none (h : m ≠ "states" ∧ m ≠ "done") {s t : Addr} : ([("states", V.ref s), ("done", V.ref t)] : List (Str × V)).lookup m = none := by
  simp only [List.lookup]
  rw [show (m == ("states" : Str)) = false from by simpa using h.1]
  simp only [List.lookup]
  rw [show (m == ("done" : Str)) = false from by simpa using h.2]
/-- y.m() of a deck, the rest of the arguments by default -/
theorem we_pm0 (pi : HasPi F Cl a dx mk) (hF : PiM C.P C.w C.K C.mg C.base Cl j m [] Pre R) (hl : j ≤ C.lvl) (hK : F.K = C.K) (i : Nat) (hN : C.N[i]? = some y) (hv : Vis C.sc y) (hr : ρ[i]? = some (.raw (.ref a))) (hmn : m ≠ "states" ∧ m ≠ "done") (hp : Pre g []) (h : ∀ g' d, R g [] g' d → Φ (mk g') d)
    (hd : (y == ("__debug__" : Str)) = false := by decide) (hcd : (y == ("__classdict__" : Str)) = false := by decide)
    {pl : Env → Sem Bool} (ht : ∀ env : Env, eval (.Call (.Attribute (.Name y py) m apos) [] [] pos) env = (do
      let ov ← eval (.Name y py) env
      standAt apos.atName
      let (f, first) ← holding [ov] (getMethod ov m (pl env))
      callWith pos f first (backTo pos (starEach [] env)) (backToKw pos (keywordEach [] env))) := by intro _; rfl) :
    WPE F C (.Call (.Attribute (.Name y py) m apos) [] [] pos) ρ (mk g) Φ := by
  obtain ⟨fa, fd, ps, ds, G, hm, hb, hd2⟩ := hF.ex
  refine of_pe (fun X fx => pe_methG0 (pl := pl X.env) (pe_var (i := i) (by rw [fx.N]; exact hN) (by rw [fx.sc]; exact hv) hd hcd) (by rw [fx.K]; exact hF.cl) (by rw [fx.K]; exact hm) (by rw [fx.P, fx.w, fx.K, fx.mg, fx.base]; exact G) fx.gd (fx.room.mono hl) (by rw [fx.K]; exact hb) hd2 (ht X.env)) fun σ H Q en jj q => ?_
  obtain ⟨s, t, dg⟩ := pi.get g H jj.g
  refine ⟨_, en.raw hr, a, dx, _, rfl, dg.ia, meth_none hmn, ?_⟩
  exact pi_step (vs := []) (ds := []) pi hK jj .nil hp h q
end
end Dl

namespace Dl
open PySem PySem.Spec PyProof.Rows L2
theorem upd_idp {H : Hp} {p : Addr} {o : HO} (h : H p = some o) : upd H p o = H := by
  funext b; unfold upd; split
  · subst_vars; exact h.symm
  · rfl
theorem upd_cm {H : Hp} {p l : Addr} {o u : HO} (h : p ≠ l) : upd (upd H p o) l u = upd (upd H l u) p o := by
  funext b; unfold upd
  by_cases h1 : b = l
  · rw [if_pos h1, if_neg (fun z => h (z.symm.trans h1)), if_pos h1]
  · rw [if_neg h1]
    by_cases h2 : b = p
    · rw [if_pos h2, if_pos h2]
    · rw [if_neg h2, if_neg h2, if_neg h1]
/-! ### reading and writing a deck's lists -/
section
variable {X : Cx}
def rIxX : R2 := fun x y H Q => ∃ p as i v, x = .ref p ∧ y = .int i ∧ H p = some (extL p as) ∧ atI (as.map V.ref) i = some v ∧ Q v H
theorem ix_ext : IxR X rIxX := by
  rintro value slice pins s σ H x y v u Q I rx ry ⟨p, as, i, w, rfl, rfl, hp, ha, q⟩ hs
  refine wpAny_mono (ix_list (X := X) value slice pins s σ _ _ _ v u (fun z H' => H' = upd H p (.lst (as.map V.ref)) ∧ z = w) (inv_asLst I hp) rx ry ⟨p, as.map V.ref, i, w, rfl, rfl, SqL.of upd_same, ha, rfl, rfl⟩ hs) ?_ fun _ _ z => z
  rintro z s' ⟨z', H', I', rz, rfl, rfl⟩
  refine ⟨z', H, ?_, rz, q⟩
  have := inv_asExt I' upd_same
  rw [upd_upd, upd_idp hp] at this
  exact this
def rLenX : List V → Hp → VK → Prop := fun xs H Q => ∃ p as, xs = [.ref p] ∧ H p = some (extL p as) ∧ Q (.int as.length) H
theorem len_ext : CallR X (.builtin "len") rLenX := by
  rintro pins s σ H xs us Q I r ⟨p, as, rfl, hp, q⟩
  refine wpAny_mono (call_len_seq (X := X) pins s σ _ _ us (fun z H' => H' = upd H p (.lst (as.map V.ref)) ∧ z = .int as.length) (inv_asLst I hp) r ⟨p, as.map V.ref, rfl, .inl (SqL.of upd_same), rfl, by rw [List.length_map]⟩) ?_ fun _ _ z => z
  rintro z s' ⟨z', H', I', rz, rfl, rfl⟩
  refine ⟨_, H, ?_, rz, q⟩
  have := inv_asExt I' upd_same
  rw [upd_upd, upd_idp hp] at this
  exact this
def rTupX : List V → Hp → VK → Prop := fun xs H Q => ∃ p as, xs = [.ref p] ∧ H p = some (extL p as) ∧ ∀ l, H l = none → Q (.ref l) (upd H l (.tup (as.map V.ref)))
def rSlX : V → Option Int → Option Int → Hp → VK → Prop := fun x lo hi H Q => ∃ p as, x = .ref p ∧ H p = some (extL p as) ∧ ∀ l, H l = none → Q (.ref l) (upd H l (.lst (cutV (as.map V.ref) lo hi)))
theorem sl_ext : SlR X rSlX := by
  rintro pins s σ H x v vl vu lo hi sl Q I rx hs pl pu ⟨p, as, rfl, hp, q⟩
  obtain ⟨T, id, h1, h2, h3⟩ := sl_list (X := X) pins s σ _ _ v vl vu lo hi sl (fun z H' => ∃ l, H l = none ∧ H' = upd (upd H p (.lst (as.map V.ref))) l (.lst (cutV (as.map V.ref) lo hi)) ∧ z = .ref l) (inv_asLst I hp) rx hs pl pu ⟨p, as.map V.ref, rfl, SqL.of upd_same, fun l hl => ⟨l, by
    have hne : l ≠ p := fun z => by rw [z, upd_same] at hl; cases hl
    rw [upd_ne hne] at hl; exact hl, rfl, rfl⟩⟩
  refine ⟨T, id, h1, h2, wpAny_mono h3 ?_ fun _ _ z => z⟩
  rintro z s' ⟨z', H', I', rz, l, hl, rfl, rfl⟩
  have hne : p ≠ l := fun z => by rw [z, hl] at hp; cases hp
  refine ⟨_, _, ?_, rz, q l hl⟩
  have := inv_asExt (p := p) (as := as) I' (by rw [upd_ne hne, upd_same])
  rw [upd_cm hne, upd_upd, ← upd_cm hne, upd_idp hp] at this
  exact this
def rAppX : V → List V → Hp → VK → Prop := fun x vs H Q => ∃ l as y, x = .ref l ∧ vs = [.ref y] ∧ H l = some (extL l as) ∧ as.length < sizeLine ∧ Q .non (upd H l (extL l (as ++ [y])))
theorem mt_appX : MtM X "list.append" rAppX := by
  rintro pins s σ H x vs v us Q I rx rv ⟨l, as, y, rfl, rfl, hp, hz, q⟩
  refine wpAny_mono (mt_append (X := X) pins s σ _ _ _ v us (fun z H' => H' = upd (upd H l (.lst (as.map V.ref))) l (.lst (as.map V.ref ++ [.ref y])) ∧ z = .non) (inv_asLst I hp) rx rv ⟨l, as.map V.ref, .ref y, rfl, rfl, upd_same, by rw [List.length_map]; exact hz, rfl, rfl⟩) ?_ fun _ _ z => z
  rintro z s' ⟨z', H', I', rz, rfl, rfl⟩
  refine ⟨_, _, ?_, rz, q⟩
  have := inv_asExt (p := l) (as := as ++ [y]) I' (by rw [upd_same, List.map_append]; rfl)
  rw [upd_upd, upd_upd] at this
  exact this
end
end Dl

namespace Dl
open PySem PySem.Spec PyProof.Rows L2
/-! ### readings that only lay new objects -/
def WNo (F : Fm) (t : TE) (ρ : Rho) (k : Nat) (Φ : PyData → Prop) : Prop :=
  ∀ (σ : L2.St) (H : Hp) (Q : VK), EnvOk F H σ ρ → J F k H → (∀ v d H', Same H H' → J F k H' → Rp F H' v d → Φ d → Q v H') → t σ H Q
section
variable {F : Fm} {C : Cs} {ρ : Rho} {k : Nat} {Φ : PyData → Prop} {e a b : Expr} {pos p p2 : Pos} {x : Str}
theorem same_le {H H' : Hp} (h : Same H H') : Le F H H' := fun b o _ e => h b o e
theorem of_pn {t : TE} (h : ∀ X, Fits C X → PE X e t) (hw : WNo F t ρ k Φ) : WNo F (tE C e) ρ k Φ := fun σ H Q en j q X fx pins s I => (h X fx).run pins s σ H Q I (hw σ H Q en j q)
theorem wn_name (i : Nat) {d : PyData} (hN : C.N[i]? = some x) (hv : Vis C.sc x) (hr : ρ[i]? = some (.d d)) (h : Φ d) (hd : (x == ("__debug__" : Str)) = false := by decide) (hcd : (x == ("__classdict__" : Str)) = false := by decide) : WNo F (tE C (.Name x pos)) ρ k Φ :=
  of_pn (t := tVar i) (fun X fx => pe_var (by rw [fx.N]; exact hN) (by rw [fx.sc]; exact hv) hd hcd) fun σ H Q en j q => by
    obtain ⟨v, e, r⟩ := en.d hr
    exact ⟨v, e, q v d H (fun _ _ z => z) j r h⟩
theorem wn_int {i : Int} {jj : Nat} (h : Φ (.int i)) : WNo F (tE C (.Constant (.int i) jj pos)) ρ k Φ := of_pn (fun X _ => pe_int) fun σ H Q en j q => q _ _ H (fun _ _ z => z) j (.int i) h
theorem wn_neg (h : WNo F (tE C a) ρ k fun x => ∃ i, x = .int i ∧ Φ (.int (-i))) : WNo F (tE C (.UnaryOp .USub a pos)) ρ k Φ :=
  of_pn (fun X fx => pe_un un_neg (peE fx)) fun σ H Q en j q => h σ H _ en j fun v d H1 l1 j1 r ⟨i, e, p⟩ => by
    subst e; cases r; exact ⟨i, rfl, q _ _ H1 l1 j1 (.int _) p⟩
theorem wn_add (h : WNo F (tE C a) ρ k fun x => WNo F (tE C b) ρ k fun y => ∃ i j, x = .int i ∧ y = .int j ∧ Φ (.int (i + j))) : WNo F (tE C (.BinOp a .Add b pos)) ρ k Φ :=
  of_pn (fun X fx => pe_op op_add (peE fx) (peE fx)) fun σ H Q en j q => h σ H _ en j fun v d H1 l1 j1 r hb => hb σ H1 _ (en.le (same_le l1)) j1 fun v2 d2 H2 l2 j2 r2 ⟨i, j', e1, e2, p⟩ => by
    subst e1 e2; cases r; cases r2
    exact ⟨i, j', rfl, rfl, q _ _ H2 (fun b o z => l2 b o (l1 b o z)) j2 (.int _) p⟩
theorem wn_tup2 {x1} (h : WNo F (tE C a) ρ k fun x => WNo F (tE C b) ρ k fun y => Φ (.tuple [x, y])) (hs1 : ∀ env : Env, starEach [a, b] env = (false, eval a env) :: starEach [b] env := by intro _; rfl) (hs2 : ∀ env : Env, starEach [b] env = (false, eval b env) :: starEach [] env := by intro _; rfl) : WNo F (tE C (.Tuple [a, b] x1 pos)) ρ k Φ :=
  of_pn (fun X fx => pe_tup (pa_cons (peE fx) (pa_cons (peE fx) pa_nil (hs2 X.env)) (hs1 X.env))) fun σ H Q en j q => h σ H _ en j fun v d H1 l1 j1 r hb => hb σ H1 _ (en.le (same_le l1)) j1 fun v2 d2 H2 l2 j2 r2 p => by
    refine ⟨by show 2 ≤ _; decide, fun p0 hp => ?_⟩
    refine q _ (.tuple [d, d2]) _ (fun b o z => by rw [upd_ne (ne_of_none (l2 b o (l1 b o z)) hp)]; exact l2 b o (l1 b o z)) (j2.new hp) (rep_newT j2 hp (.cons (r.le (same_le l2).lz) (.cons r2 .nil))) p
end
section
variable {F : Fm} {C : Cs} {Cl a dx : Addr} {mk : Pg → Nat} {g : Pg} {ρ : Rho} {k : Nat} {Φ : Nat → PyData → Prop} {e b : Expr} {es : List Expr} {pos p py apos fpos cp : Pos} {x y m : Str} {Pre : Pg → List PyData → Prop} {R : Pg → List PyData → Pg → PyData → Prop} {j : Nat} {P : DE}
theorem lk_states {s t : Addr} : List.lookup ("states" : Str) [("states", V.ref s), ("done", V.ref t)] = some (.ref s) := rfl
theorem lk_done {s t : Addr} : List.lookup ("done" : Str) [("states", V.ref s), ("done", V.ref t)] = some (.ref t) := by
  simp only [List.lookup]
  rw [show (("done" : Str) == ("states" : Str)) = false from by decide +kernel]
  rfl
/-- the class of decks, for its fields -/
structure PiC (K : PySem.W.Frag) (Cl : Addr) : Prop where
  cl : Cls K Cl
  ns : NoAttr K Cl "states"
  nd : NoAttr K Cl "done"
theorem trs_at {K : PySem.W.Frag} {H : Hp} {vs : List V} {ds : List PyData} {i : Int} {d : PyData} (r : TRs K H vs ds) (h : atI ds i = some d) : ∃ v, atI vs i = some v ∧ TR K H v d := by
  have hl := r.length
  unfold atI at h ⊢
  rw [hl]
  cases e : ixN ds.length i with
  | none => rw [e] at h; cases h
  | some n => rw [e] at h; exact r.get h
theorem atI_map {α β : Type} (f : α → β) {xs : List α} {i : Int} {x : α} (h : atI xs i = some x) : atI (xs.map f) i = some (f x) := by
  unfold atI at h ⊢
  rw [List.length_map]
  cases e : ixN xs.length i with
  | none => rw [e] at h; cases h
  | some n =>
    rw [e] at h
    have h : xs[n]? = some x := h
    show (xs.map f)[n]? = _
    rw [List.getElem?_map, h]; rfl
theorem PiG.same {K : PySem.W.Frag} {s t : Addr} {H H' : Hp} (d : PiG K Cl a dx s t g H) (h : Same H H') : PiG K Cl a dx s t g H' :=
  d.at ((h _ _ d.ia).trans d.ia.symm) ((h _ _ d.id).trans d.id.symm) fun b o _ e => h b o e
theorem peFldN (i : Nat) {X : Cx} (fx : Fits C X) {f : Str} (hN : C.N[i]? = some y) (hv : Vis C.sc y) (hd : (y == ("__debug__" : Str)) = false) (hcd : (y == ("__classdict__" : Str)) = false) (hb : ∀ env : Env, attributeBase (.Name y py) f env (eval (.Name y py) env) = eval (.Name y py) env) : PE X (.Attribute (.Name y py) f apos) (tFld C.K (tVar i) f) := by
  rw [← fx.K]
  exact pe_fld (pe_var (i := i) (by rw [fx.N]; exact hN) (by rw [fx.sc]; exact hv) hd hcd) (hb X.env)
/-- y.states[e] -/
theorem we_pix (pc : PiC C.K Cl) (pi : HasPi F Cl a dx mk) (hK : F.K = C.K) (i : Nat) (hN : C.N[i]? = some y) (hv : Vis C.sc y) (hr : ρ[i]? = some (.raw (.ref a))) (hs : PlainIx b)
    (h : WNo F (tE C b) ρ (mk g) fun z => ∃ (n : Int) (d : Nat × List Int), z = .int n ∧ atI g.1 n = some d ∧ Φ (mk g) (boxP d))
    (hd : (y == ("__debug__" : Str)) = false := by decide) (hcd : (y == ("__classdict__" : Str)) = false := by decide) (hb : ∀ env : Env, attributeBase (.Name y py) "states" env (eval (.Name y py) env) = eval (.Name y py) env := by intro _; rfl) :
    WPE F C (.Subscript (.Attribute (.Name y py) "states" apos) b pos) ρ (mk g) Φ :=
  of_pe (fun X fx => pe_ix ix_ext (peFldN i fx hN hv hd hcd hb) (peE fx) hs) fun σ H Q en j q => by
    obtain ⟨s, t, dg⟩ := pi.get g H j.g
    refine ⟨_, en.raw hr, a, Cl, dx, _, _, rfl, dg.ia, pc.cl, pc.ns, lk_states, ?_⟩
    refine h σ H _ en j fun v z H1 l1 j1 r1 ⟨n, d, e, ha, p⟩ => ?_
    subst e
    cases r1
    obtain ⟨as, x1, x2, _, _⟩ := (dg.same l1).xs
    obtain ⟨w, hw, rw'⟩ := trs_at x2 (atI_map boxP ha)
    exact ⟨s, as, n, w, rfl, rfl, x1, hw, q w _ _ H1 (same_le l1) j1 (rw'.rep j1.al) p⟩
/-- len(y.done) -/
theorem we_plenD (pc : PiC C.K Cl) (pi : HasPi F Cl a dx mk) (i : Nat) (hN : C.N[i]? = some y) (hv : Vis C.sc y) (hr : ρ[i]? = some (.raw (.ref a))) (hg : C.sc.names.lookup ("len" : Str) = some .globalImplicit) (hm : C.mg ("len" : Str) = none)
    (h : Φ (mk g) (.int (g.2.length : Nat)))
    (hd : (y == ("__debug__" : Str)) = false := by decide) (hcd : (y == ("__classdict__" : Str)) = false := by decide) (hb : ∀ env : Env, attributeBase (.Name y py) "done" env (eval (.Name y py) env) = eval (.Name y py) env := by intro _; rfl) (hse : ∀ env : Env, starEach [.Attribute (.Name y py) "done" apos] env = (false, eval (.Attribute (.Name y py) "done" apos) env) :: starEach [] env := by intro _; rfl) :
    WPE F C (.Call (.Name "len" p) [.Attribute (.Name y py) "done" apos] [] pos) ρ (mk g) Φ :=
  of_pe (fun X fx => pe_callB len_ext (by show X.env.scope.names.lookup ("len" : Str) = _; rw [fx.sc]; exact hg) (by rw [fx.mg]; exact hm) PySem.boot_len (pa_cons (peFldN i fx hN hv hd hcd hb) pa_nil (hse X.env)) (by decide) (by decide) (hse X.env) rfl) fun σ H Q en j q => by
    obtain ⟨s, t, dg⟩ := pi.get g H j.g
    obtain ⟨as, x1, x2, _, xl⟩ := dg.xt
    refine ⟨_, en.raw hr, a, Cl, dx, _, _, rfl, dg.ia, pc.cl, pc.nd, lk_done, ?_⟩
    exact ⟨t, as, rfl, x1, q _ _ _ H .refl j (by rw [xl]; exact .int _) h⟩
end
end Dl

namespace Dl
open PySem PySem.Spec PyProof.Rows L2
section
variable {F : Fm} {C : Cs} {Cl a dx : Addr} {mk : Pg → Nat} {g g' : Pg} {ρ : Rho} {k : Nat} {Φ : Nat → PyData → Prop} {e b : Expr} {es : List Expr} {pos p py apos fpos cp : Pos} {x y m : Str} {Pre : Pg → List PyData → Prop} {R : Pg → List PyData → Pg → PyData → Prop} {j : Nat} {P : DE}
/-- the deck is another, the rest as it was -/
theorem pi_move {H H' : Hp} {s t s' t' : Addr} (pi : HasPi F Cl a dx mk) (j : J F (mk g) H) (dg : PiG F.K Cl a dx s t g H) (keep : ∀ b o, b ≠ a → b ≠ dx → b ≠ s → b ≠ t → H b = some o → H' b = some o) (e1 : ∀ y o, IsX o → H y = some o → ∃ o', IsX o' ∧ H' y = some o') (dg' : PiG F.K Cl a dx s' t' g' H') (hs : s' = s ∨ H s' = none) (ht : t' = t ∨ H t' = none) : Le F H H' ∧ J F (mk g') H' := by
  obtain ⟨as, x1, _, x3, _⟩ := dg.xs
  obtain ⟨bs, y1, _, y3, _⟩ := dg.xt
  have le : Le F H H' := fun b o n e => by
    refine keep b o ?_ ?_ ?_ ?_ e
    · rintro rfl; exact n (.inl pi.ma)
    · rintro rfl; exact n (.inl pi.md)
    · rintro rfl; rw [x1] at e; cases e; exact n (.inr (by rw [pi.X]; exact x3))
    · rintro rfl; rw [y1] at e; cases e; exact n (.inr (by rw [pi.X]; exact y3))
  refine ⟨le, pi.put g g' H H' s t s' t' j.g dg keep e1 dg' hs ht, fun b o n e => le b o n (j.le b o n e), fun b hb => ?_⟩
  have lvx : ∀ {z : Addr} {o : HO}, H z = some o → IsX o → Lv H' z := fun {z o} hz xo => by
    obtain ⟨o', ⟨_, _, _, rfl⟩, q'⟩ := e1 z o xo hz
    exact lv_ext q'
  by_cases h1 : b = a
  · subst h1; exact ⟨_, dg'.ia, fun _ z => nomatch z⟩
  by_cases h2 : b = dx
  · subst h2; exact ⟨_, dg'.id, fun _ z => nomatch z⟩
  by_cases h3 : b = s
  · subst h3; exact lvx x1 x3
  by_cases h4 : b = t
  · subst h4; exact lvx y1 y3
  exact (j.al b hb).keep fun o e => keep b o h1 h2 h3 h4 e
/-! ### append to a deck's list -/
def tBMX (r : V → List V → Hp → VK → Prop) (to : TE) (t : TA) : TE := fun σ H Q => to σ H fun x H1 => (∃ p as, x = .ref p ∧ H1 p = some (extL p as)) ∧ t σ H1 fun xs H2 => r x xs H2 Q
theorem pe_bmX {X : Cx} {o : Expr} {to : TE} {t : TA} {name : Str} {id : String} {r : V → List V → Hp → VK → Prop} (pa : PlainAttrs "list") (slot : Slot "list" name id) (hty : typeOf (.builtin id) = pure (.type "method_descriptor")) (hm : MtM X id r) (ho : PE X o to) (ha : PA X (e :: es) t)
    (hbase : attributeBase o name X.env (eval o X.env) = eval o X.env)
    (hfew : ((backTo cp (starEach (e :: es) X.env)).all (fun x => !x.1) && (backToKw cp (keywordEach [] X.env)).all (fun x => x.1.isSome)
      && decide ((e :: es).length + ([] : List Keyword).length + (if ([] : List Keyword).isEmpty then 0 else 1) < 30)) = true)
    (hline : (apos.endLine == cp.line) = true) (hs : starEach (e :: es) X.env = (false, eval e X.env) :: starEach es X.env) (hplain : (backTo cp (starEach es X.env)).any (·.1) = false) :
    PE X (.Call (.Attribute o name apos) (e :: es) [] cp) (tBMX r to t) := by
  refine ⟨fun pins s σ H Q I h => ?_⟩
  refine wpAny_Call_method_late hbase hfew hline rfl (thn (ho.run pins s σ H _ I h) fun v s1 ⟨x, H1, I1, r1, ⟨p, as, ep, hp⟩, q1⟩ => ?_)
  subst ep
  obtain ⟨h1, h2⟩ := tyV_is (T := "list") (inv_asLst I1 hp) r1 (.inl ⟨rfl, _, SqL.of upd_same⟩)
  refine ⟨"list", id, pa, slot, hty, h1, h2, ?_⟩
  have hA := ha.run cp pins s1 σ H1 _ I1 q1
  rw [hs] at hA ⊢
  refine Calls.callWith_builtin (by show (false || (backTo cp (starEach es X.env)).any (·.1)) = false; rw [hplain] <;> rfl) (Calls.evalArgs_plain ?_)
  exact thn hA fun us s2 ⟨vs, H2, I2, r2, q2⟩ => hm pins s2 σ H2 _ vs v us Q I2 r1 r2 q2
theorem trs_snoc {K : PySem.W.Frag} {H H' : Hp} {as : List Addr} {y : Addr} {ds : List PyData} {d : PyData} (r : TRs K H (as.map V.ref) ds) (rd : TR K H (.ref y) d) (e : ∀ b xs, H b = some (.tup xs) → H' b = some (.tup xs)) : TRs K H' ((as ++ [y]).map V.ref) (ds ++ [d]) := by
  rw [List.map_append]
  exact (r.keep e).append (.cons (rd.keep e) .nil)
theorem map_snoc {α β : Type} (f : α → β) (xs : List α) (x : α) : (xs ++ [x]).map f = xs.map f ++ [f x] := by rw [List.map_append]; rfl
theorem snoc_len {α : Type} (xs : List α) (x : α) : (xs ++ [x]).length = xs.length + 1 := by rw [List.length_append]; rfl
/-- y.states.append(e) -/
theorem ws_pappS (pc : PiC C.K Cl) (pi : HasPi F Cl a dx mk) (hK : F.K = C.K) (i : Nat) (hN : C.N[i]? = some y) (hv : Vis C.sc y) (hr : ρ[i]? = some (.raw (.ref a))) (hz : g.1.length < 1000)
    (h : WNo F (tE C e) ρ (mk g) fun z => ∃ d, z = boxP d ∧ P.nx (mk (g.1 ++ [d], g.2)) ρ)
    (hd : (y == ("__debug__" : Str)) = false := by decide) (hcd : (y == ("__classdict__" : Str)) = false := by decide) (hb : ∀ env : Env, attributeBase (.Name y py) "states" env (eval (.Name y py) env) = eval (.Name y py) env := by intro _; rfl)
    (hb2 : ∀ env : Env, attributeBase (.Attribute (.Name y py) "states" fpos) "append" env (eval (.Attribute (.Name y py) "states" fpos) env) = eval (.Attribute (.Name y py) "states" fpos) env := by intro _; rfl)
    (hfew : ∀ env : Env, ((backTo cp (starEach [e] env)).all (fun x => !x.1) && (backToKw cp (keywordEach [] env)).all (fun x => x.1.isSome)
      && decide ([e].length + ([] : List Keyword).length + (if ([] : List Keyword).isEmpty then 0 else 1) < 30)) = true := by intro _; rfl)
    (hline : (apos.endLine == cp.line) = true := by rfl) (hse : ∀ env : Env, starEach [e] env = (false, eval e env) :: starEach [] env := by intro _; rfl) (hsw : ∀ env : Env, swapsWith (.Call (.Attribute (.Attribute (.Name y py) "states" fpos) "append" apos) [e] [] cp) none pos.line env = pure false := by intro _; rfl) :
    WPS F C (.Expr (.Call (.Attribute (.Attribute (.Name y py) "states" fpos) "append" apos) [e] [] cp) pos) ρ (mk g) P :=
  of_ps (fun X fx => ps_expr (pe_bmX PySem.F.plainAttrs_list PySem.F.slot_list_append PySem.F.type_list_append mt_appX (peFldN i fx hN hv hd hcd hb) (pa_cons (peE fx) pa_nil (hse X.env)) (hb2 X.env) (hfew X.env) hline (hse X.env) rfl) (hsw X.env)) fun σ H E en j q1 _ _ _ => by
    obtain ⟨s, t, dg⟩ := pi.get g H j.g
    obtain ⟨as, x1, x2, x3, x4⟩ := dg.xs
    refine ⟨_, en.raw hr, a, Cl, dx, _, _, rfl, dg.ia, pc.cl, pc.ns, lk_states, ⟨s, as, rfl, x1⟩, ?_⟩
    show tE C e σ H _
    refine h σ H _ en j fun v z H2 l2 j2 r2 ⟨d, ez, p⟩ => ?_
    subst ez
    obtain ⟨yb, rfl, rt⟩ := tr_box r2
    have dg2 := dg.same l2
    have hs2 := l2 _ _ x1
    refine ⟨s, as, yb, rfl, rfl, hs2, Nat.lt_of_lt_of_le (show as.length < 1000 by omega) (by decide), ?_⟩
    have nea : a ≠ s := fun z => by rw [z] at dg2; rw [dg2.ia] at hs2; unfold extL at hs2; cases hs2
    have ned : dx ≠ s := fun z => by rw [z] at dg2; rw [dg2.id] at hs2; unfold extL at hs2; cases hs2
    have keepT : ∀ b xs, H2 b = some (.tup xs) → upd H2 s (extL s (as ++ [yb])) b = some (.tup xs) := fun b xs q => by
      rw [upd_ne (fun z => by rw [z, hs2] at q; unfold extL at q; cases q)]; exact q
    obtain ⟨bs, y1, y2, y3, y4⟩ := dg2.xt
    have dg' : PiG F.K Cl a dx s t (g.1 ++ [d], g.2) (upd H2 s (extL s (as ++ [yb]))) := ⟨by rw [upd_ne nea]; exact dg2.ia, by rw [upd_ne ned]; exact dg2.id, dg.ne, ⟨as ++ [yb], upd_same, by
      show TRs _ _ _ ((g.1 ++ [d]).map boxP)
      rw [map_snoc boxP]
      exact trs_snoc (x2.keep fun b xs q => l2 b _ q) rt keepT⟩, ⟨bs, by rw [upd_ne dg.ne.symm]; exact y1, y2.keep keepT⟩, by show (g.1 ++ [d]).length ≤ 1000; rw [snoc_len]; omega, dg.lt⟩
    obtain ⟨le, j3⟩ := pi_move pi j2 dg2 (fun b o _ _ n3 _ q => by rw [upd_ne n3]; exact q) (fun y o x q => by
      by_cases hy : y = s
      · subst hy; exact ⟨_, isX_ext (by rw [snoc_len]; exact big1000 (by omega)), upd_same⟩
      · exact ⟨o, x, by rw [upd_ne hy]; exact q⟩) dg' (.inl rfl) (.inl rfl)
    exact q1 ρ σ _ _ ((same_le l2).lz.trans le.lz) ((en.le (same_le l2)).le le) j3 p
/-- y.done.append(e) -/
theorem ws_pappD (pc : PiC C.K Cl) (pi : HasPi F Cl a dx mk) (hK : F.K = C.K) (i : Nat) (hN : C.N[i]? = some y) (hv : Vis C.sc y) (hr : ρ[i]? = some (.raw (.ref a))) (hz : g.2.length < 1000)
    (h : WNo F (tE C e) ρ (mk g) fun z => ∃ d, z = edP d ∧ P.nx (mk (g.1, g.2 ++ [d])) ρ)
    (hd : (y == ("__debug__" : Str)) = false := by decide) (hcd : (y == ("__classdict__" : Str)) = false := by decide) (hb : ∀ env : Env, attributeBase (.Name y py) "done" env (eval (.Name y py) env) = eval (.Name y py) env := by intro _; rfl)
    (hb2 : ∀ env : Env, attributeBase (.Attribute (.Name y py) "done" fpos) "append" env (eval (.Attribute (.Name y py) "done" fpos) env) = eval (.Attribute (.Name y py) "done" fpos) env := by intro _; rfl)
    (hfew : ∀ env : Env, ((backTo cp (starEach [e] env)).all (fun x => !x.1) && (backToKw cp (keywordEach [] env)).all (fun x => x.1.isSome)
      && decide ([e].length + ([] : List Keyword).length + (if ([] : List Keyword).isEmpty then 0 else 1) < 30)) = true := by intro _; rfl)
    (hline : (apos.endLine == cp.line) = true := by rfl) (hse : ∀ env : Env, starEach [e] env = (false, eval e env) :: starEach [] env := by intro _; rfl) (hsw : ∀ env : Env, swapsWith (.Call (.Attribute (.Attribute (.Name y py) "done" fpos) "append" apos) [e] [] cp) none pos.line env = pure false := by intro _; rfl) :
    WPS F C (.Expr (.Call (.Attribute (.Attribute (.Name y py) "done" fpos) "append" apos) [e] [] cp) pos) ρ (mk g) P :=
  of_ps (fun X fx => ps_expr (pe_bmX PySem.F.plainAttrs_list PySem.F.slot_list_append PySem.F.type_list_append mt_appX (peFldN i fx hN hv hd hcd hb) (pa_cons (peE fx) pa_nil (hse X.env)) (hb2 X.env) (hfew X.env) hline (hse X.env) rfl) (hsw X.env)) fun σ H E en j q1 _ _ _ => by
    obtain ⟨s, t, dg⟩ := pi.get g H j.g
    obtain ⟨as, x1, x2, x3, x4⟩ := dg.xt
    refine ⟨_, en.raw hr, a, Cl, dx, _, _, rfl, dg.ia, pc.cl, pc.nd, lk_done, ⟨t, as, rfl, x1⟩, ?_⟩
    show tE C e σ H _
    refine h σ H _ en j fun v z H2 l2 j2 r2 ⟨d, ez, p⟩ => ?_
    subst ez
    obtain ⟨yb, rfl, rt⟩ := tr_ed r2
    have dg2 := dg.same l2
    have hs2 := l2 _ _ x1
    refine ⟨t, as, yb, rfl, rfl, hs2, Nat.lt_of_lt_of_le (show as.length < 1000 by omega) (by decide), ?_⟩
    have nea : a ≠ t := fun z => by rw [z] at dg2; rw [dg2.ia] at hs2; unfold extL at hs2; cases hs2
    have ned : dx ≠ t := fun z => by rw [z] at dg2; rw [dg2.id] at hs2; unfold extL at hs2; cases hs2
    have keepT : ∀ b xs, H2 b = some (.tup xs) → upd H2 t (extL t (as ++ [yb])) b = some (.tup xs) := fun b xs q => by
      rw [upd_ne (fun z => by rw [z, hs2] at q; unfold extL at q; cases q)]; exact q
    obtain ⟨bs, y1, y2, y3, y4⟩ := dg2.xs
    have dg' : PiG F.K Cl a dx s t (g.1, g.2 ++ [d]) (upd H2 t (extL t (as ++ [yb]))) := ⟨by rw [upd_ne nea]; exact dg2.ia, by rw [upd_ne ned]; exact dg2.id, dg.ne, ⟨bs, by rw [upd_ne dg.ne]; exact y1, y2.keep keepT⟩, ⟨as ++ [yb], upd_same, by
      show TRs _ _ _ ((g.2 ++ [d]).map edP)
      rw [map_snoc edP]
      exact trs_snoc (x2.keep fun b xs q => l2 b _ q) rt keepT⟩, dg.ls, by show (g.2 ++ [d]).length ≤ 1000; rw [snoc_len]; omega⟩
    obtain ⟨le, j3⟩ := pi_move pi j2 dg2 (fun b o _ _ _ n4 q => by rw [upd_ne n4]; exact q) (fun y o x q => by
      by_cases hy : y = t
      · subst hy; exact ⟨_, isX_ext (by rw [snoc_len]; exact big1000 (by omega)), upd_same⟩
      · exact ⟨o, x, by rw [upd_ne hy]; exact q⟩) dg' (.inl rfl) (.inl rfl)
    exact q1 ρ σ _ _ ((same_le l2).lz.trans le.lz) ((en.le (same_le l2)).le le) j3 p
/-! ### calls of methods and defs with arguments -/
/-- y.m(e, ..) of a deck -/
theorem we_pm (pi : HasPi F Cl a dx mk) (hF : PiM C.P C.w C.K C.mg C.base Cl j m [] Pre R) (hl : j ≤ C.lvl) (hK : F.K = C.K) (i : Nat) (hN : C.N[i]? = some y) (hv : Vis C.sc y) (hr : ρ[i]? = some (.raw (.ref a))) (hmn : m ≠ "states" ∧ m ≠ "done")
    (h : WPA F C (e :: es) ρ (mk g) fun k1 ds => ∃ mk1 g1, HasPi F Cl a dx mk1 ∧ k1 = mk1 g1 ∧ Pre g1 ds ∧ ∀ g' d, R g1 ds g' d → Φ (mk1 g') d)
    (hd : (y == ("__debug__" : Str)) = false := by decide) (hcd : (y == ("__classdict__" : Str)) = false := by decide) (hst : ∀ env : Env, starEach (e :: es) env = (false, eval e env) :: starEach es env := by intro _; rfl) (hpl : ∀ env : Env, (backTo pos (starEach es env)).any (·.1) = false := by intro _; rfl)
    {pl : Env → Sem Bool} (ht : ∀ env : Env, eval (.Call (.Attribute (.Name y py) m apos) (e :: es) [] pos) env = (do
      let ov ← eval (.Name y py) env
      standAt apos.atName
      let (f, first) ← holding [ov] (getMethod ov m (pl env))
      callWith pos f first (backTo pos (starEach (e :: es) env)) (backToKw pos (keywordEach [] env))) := by intro _; rfl) :
    WPE F C (.Call (.Attribute (.Name y py) m apos) (e :: es) [] pos) ρ (mk g) Φ := by
  obtain ⟨fa, fd, ps, ds, G, hm, hb, hd2⟩ := hF.ex
  refine of_pe (fun X fx => pe_methG (pl := pl X.env) (pe_var (i := i) (by rw [fx.N]; exact hN) (by rw [fx.sc]; exact hv) hd hcd) (by rw [fx.K]; exact hF.cl) (by rw [fx.K]; exact hm) (by rw [fx.P, fx.w, fx.K, fx.mg, fx.base]; exact G) fx.gd (fx.room.mono hl) (by rw [fx.K]; exact hb) hd2 (paA fx) (hst X.env) (hpl X.env) (ht X.env)) fun σ H Q en jj q => ?_
  obtain ⟨s, t, dg⟩ := pi.get g H jj.g
  refine ⟨_, en.raw hr, a, dx, _, rfl, dg.ia, meth_none hmn, ?_⟩
  refine h σ H _ en jj fun vs ds k1 H1 l1 j1 r1 ⟨mk1, g1, pi1, e1, hp, hq⟩ => ?_
  subst e1
  rw [List.append_nil]
  exact pi_step pi1 hK j1 r1 hp hq fun v d k' H' l' j' r' p => q v d k' H' (l1.trans l') j' r' p
end
end Dl

namespace Dl
open PySem PySem.Spec PyProof.Rows L2
/-! ### methods and defs of decks that may raise -/
theorem HasPi.sus {F : Fm} {Cl a dx : Addr} {mk : Pg → Nat} {H : Hp} (h : HasPi F Cl a dx mk) : HasPi (F.sus H) Cl a dx mk := ⟨h.X, h.ma, h.md, h.get, h.put⟩
section
variable {X : Cx} {x m : Str} {p pos apos : Pos} {o e : Expr} {es : List Expr} {t : TA} {ta : TE} {k : Nat} {f C : Addr} {fd : FuncData} {ps : List Str} {sp : Sp} {dvs : List V} {ds : List Value} {W : L2.WX}
theorem FnE.call_runD {pins : List (Addr × Obj)} {σ : L2.St} {H : Hp} {s : Shared} {Q : VK} {us : List Value} {vs : List V} (G : FnE X.prog X.w X.K X.mg X.base k f fd ps sp) (gd : X.A.guards = some []) (room : Room k X.A) (hb : L2.Binds X.K fd ps ds) (hd : Vals dvs ds) (tk : L2.Takes X W)
    (I : Inv X pins σ H s) (r : Vals vs us) (h : sp (vs ++ dvs) H Q (fun cls d H' => W cls d σ H')) : wpAny (model X.prog X.w) X.A (call (.ref f) us) (EP X pins σ Q) X.xe s := by
  have r2 : Vals (vs ++ dvs) (us ++ ds) := r.append hd
  have hl : (us ++ ds).length = ps.length := by rw [← r2.length]; exact G.len _ _ _ _ h
  have bind := hb s us I.kIn hl
  refine wpAny_call (codeAny_mono (G.run X.A X.stack s H ⟨us, []⟩ (us ++ ds) (vs ++ dvs) Q _ gd room I.env0 bind r2 h) ?_)
  intro res s' hr
  match res, hr with
  | .ok (.ret u), hr => exact I.after hr
  | .ok .next, hr => exact False.elim hr
  | .ok .brk, hr => exact False.elim hr
  | .ok .cont, hr => exact False.elim hr
  | .error e, hr => exact L2.passAt tk σ pins H s e s' I hr
def tMethE (C : Addr) (m : Str) (sp : Sp) (dvs : List V) (W : L2.WX) (ta : TE) (t : TA) : TE := fun σ H Q => ta σ H fun x H1 => ∃ a dx fs, x = .ref a ∧ H1 a = some (.ins C dx fs) ∧ fs.lookup m = none ∧ t σ H1 fun vs H2 => sp (.ref a :: (vs ++ dvs)) H2 Q (fun cls d H' => W cls d σ H')
end
abbrev RelPE := Pg → List PyData → Pg → Out → Prop
/-- as spPi, with what is left where an exception leaves -/
def spPiE (K : PySem.W.Frag) (C : Addr) (Pre : Pg → List PyData → Prop) (R : RelPE) : Sp := fun vs H Q E => ∃ (S : Addr → Prop) (a dx s t : Addr) (vs' : List V) (ds : List PyData) (g : Pg), vs = .ref a :: vs' ∧ PiG K C a dx s t g H ∧ (∀ b, S b → Lv H b) ∧ S a ∧ S dx ∧ RepAll K S H vs' ds ∧ Pre g ds ∧
  ∀ g' s' t' H', (∀ b o, b ≠ a → b ≠ dx → b ≠ s → b ≠ t → H b = some o → H' b = some o) → (∀ y o, IsX o → H y = some o → ∃ o', IsX o' ∧ H' y = some o') → PiG K C a dx s' t' g' H' → (s' = s ∨ H s' = none) → (t' = t ∨ H t' = none) →
    (∀ v d, Rep K S H' v d → R g ds g' (.ok d) → Q v H') ∧ ∀ dd c y, XOk K S H' dd y → R g ds g' (.ex c y) → E (.ref c) dd H'
section
variable {P : Program} {w : World} {K : PySem.W.Frag} {mg : Str → Option Value} {base : Heap} {C : Addr}
end
structure PiME (P : Program) (w : World) (K : PySem.W.Frag) (mg : Str → Option Value) (base : Heap) (C : Addr) (lvl : Nat) (m : Str) (dvs : List V) (Pre : Pg → List PyData → Prop) (R : RelPE) : Prop where
  cl : Cls K C
  ex : ∃ (fa : Addr) (fd : FuncData) (ps : List Str) (ds : List Value), FnE P w K mg base lvl fa fd ps (spPiE K C Pre R) ∧ Meth K C m fa ∧ L2.Binds K fd ps ds ∧ Vals dvs ds
structure PiFE (P : Program) (w : World) (K : PySem.W.Frag) (mg : Str → Option Value) (base : Heap) (C : Addr) (lvl : Nat) (x : Str) (Pre : Pg → List PyData → Prop) (R : RelPE) : Prop where
  ex : ∃ (fa : Addr) (fd : FuncData) (ps : List Str), FnE P w K mg base lvl fa fd ps (spPiE K C Pre R) ∧ mg x = some (.ref fa) ∧ PySem.W.keepIn K (.ref fa) = true ∧ L2.Binds K fd ps []
section
variable {F : Fm} {C : Cs} {Cl a dx : Addr} {mk : Pg → Nat} {g : Pg} {ρ : Rho} {Φ : Nat → PyData → Prop} {Ξ : Nat → Rho → Addr → Xf → Prop} {e : Expr} {es : List Expr} {pos p py apos pos' : Pos} {x y m : Str} {Pre : Pg → List PyData → Prop} {R : RelPE} {j k : Nat} {P : DE}
end
section
variable {P : Program} {w : World} {K : PySem.W.Frag} {mg : Str → Option Value} {base : Heap} {C : Addr}
end
/-! ### classes of errors without fields -/
section
variable {X : Cx} {C : Addr} {bmB : List Value} {B newId initId : String} {x : Str} {p pos : Pos}
end
structure XCl0 (K : PySem.W.Frag) (mg : Str → Option Value) (x : Str) (C : Addr) : Prop where
  q : PySem.W.excIn K C [.type "ValueError", .type "Exception", .type "BaseException", .type "object"] "ValueError.__new__" = true
  mx : mg x = some (.ref C)
  kC : PySem.W.keepIn K (.ref C) = true
  exC : PySem.W.subIn K (.ref C) (.type "BaseException") = some true
  tyC : PySem.W.typeIn K (.ref C) = some (.type "type")
section
variable {F : Fm} {C : Cs} {ρ : Rho} {k : Nat} {Ξ : Nat → Rho → Addr → Xf → Prop} {pos p pos' : Pos} {P : DE} {x : Str} {Cl : Addr}
end
end Dl

set_option maxHeartbeats 2000000
namespace Dl
open PySem PySem.Spec PyProof.Rows L2
/-! ### errors of any built-in base, with one field (LookupError too) -/
/-- a built-in base: what the library has of it -/
structure XBase (B newId initId : String) (mro : List Value) : Prop where
  fb : ExcBaseFacts B newId initId mro
  sf : StoreFacts B mro "object.__setattr__" "object"
theorem xbase_LE : XBase "LookupError" "LookupError.__new__" "LookupError.__init__" [.type "LookupError", .type "Exception", .type "BaseException", .type "object"] := ⟨PySem.F.excBase_LookupError, PySem.F.store_LookupError⟩
/-- a class over such a base, as the text has it -/
structure OexG (K : PySem.W.Frag) (C : Addr) (mro : List Value) (newId : String) : Prop where
  q : PySem.W.excInitIn K C mro newId = true
  ov : PySem.W.excOver K C mro = true
  dc : PySem.W.hasDictIn K C = true
  sa : PySem.W.findIn K (.ref C) "__setattr__" = some (some (.builtin "object.__setattr__"))
  exC : PySem.W.subIn K (.ref C) (.type "BaseException") = some true
  tyC : PySem.W.typeIn K (.ref C) = some (.type "type")
  kC : PySem.W.keepIn K (.ref C) = true
theorem taker_none {K : PySem.W.Frag} {C : Addr} {f : Str} (h : PySem.W.findIn K (.ref C) f = some none) : PySem.W.takerIn K C f = some none := by
  unfold PySem.W.takerIn; rw [h]; rfl
section
variable {X : Cx} {pins : List (Addr × Obj)} {σ : L2.St} {H : Hp} {s : Shared} {a C : Addr} {f : Str} {y : V} {u : Value} {Q : Unit → Shared → Prop} {E : Value → Shared → Prop} {A : Around} {B newId initId : String} {mro : List Value}
open Builtin Builtin.ObjectAttr PySem.HandSPX in
/-- the first field of a new error: its dict is laid -/
theorem putG (xb : XBase B newId initId mro) (T : OexG X.K C mro newId) (I : Inv X pins σ H s) (e : H a = some (exo a C none)) (hno : PySem.W.findIn X.K (.ref C) f = some none) (ry : RelV y u)
    (h : ∀ dx s', H dx = none → dx ≠ a → Inv X pins σ (upd (upd H dx (exd dx [(f, y)])) a (exo a C (some dx))) s' → Q () s') : wpAny (model X.prog X.w) A (setAttr (.ref a) f u) Q E s := by
  obtain ⟨cd, hcd, hdc⟩ := PySem.W.any_some T.dc
  obtain ⟨t1, ho⟩ := exo_at I.hok e
  obtain ⟨hp, gs, dr, tk, os⟩ := s
  have kin := I.kIn
  have II : PySem.W.InstAt hp a { cls := .ref C, dict := none, data := .fields #[.ref t1, .none, .none, .none, .bool false, .none] } C none := ⟨ho, rfl, rfl, trivial⟩
  refine PySem.W.set_plain kin II T.sa (PySem.W.osa_openX (s := ⟨hp, gs, dr, tk + 1, os⟩) xb.sf kin II T.ov (taker_none hno) fun _ => ?_)
  have ne : a ≠ hp.objs.size := Nat.ne_of_lt (Heap.lt_size ho)
  have look : PySem.W.Looks (model X.prog X.w) hp (classData C) cd := PySem.W.looks_clsIn kin hcd
  show wpAny _ _ (storeInOwnDict (.ref a) (.ref C) _ f u _) _ _ _
  obtain ⟨nm, bs, mr, ns, qn, hd, sn, sb, ab, col, del⟩ := cd
  cases (show hd = true from hdc)
  unfold ownDictForStores storeInOwnDict at *
  repeat (first | with_reducible refine PySem.HandSPX.store_in_new ?_ ?_ | with_reducible refine wpAny_loadPart_at ho ?_ | with_reducible refine look.at ?_ | wp_step)
  · exact ⟨_, #[], _, (Heap.get?_update_ne _ _ _ _ ne.symm).trans (Heap.get?_push_at rfl rfl), rfl, fun e he => absurd he (by simp), fun _ => rfl⟩
  intro h' tk' hn' hs
  have old : ∀ b o, b ≠ a → hp.get? b = some o → h'.get? b = some o := fun b o hb hb2 =>
    (hs.2 b (Nat.ne_of_lt (Heap.lt_size hb2))).trans ((Heap.get?_update_ne _ _ _ _ hb).trans (Heap.get?_push_of_some _ hb2))
  have now : h'.get? a = some { cls := .ref C, dict := some hp.objs.size, data := .fields #[.ref t1, .none, .none, .none, .bool false, .none] } :=
    (hs.2 a ne).trans (Heap.get?_update_self _ (Heap.get?_push_of_some _ ho) rfl)
  have hnd : H hp.objs.size = none := I.hok.fresh (Nat.le_refl _)
  have lt : ∀ {b : Addr} {o : Obj}, hp.get? b = some o → b ≠ hp.objs.size := fun {b o} z => Nat.ne_of_lt (Heap.lt_size z)
  have na : ∀ {b : Addr}, H b = none → b ≠ a := fun {b} n z => by rw [z, e] at n; cases n
  have stay : ∀ {b : Addr} {o : HO}, H b = some o → o ≠ exo a C none → (upd (upd H hp.objs.size (exd hp.objs.size [(f, y)])) a (exo a C (some hp.objs.size))) b = some o := fun {b o} z d => by
    rw [upd_ne (at_ne e z (Ne.symm d)), upd_ne (ne_of_none z hnd)]; exact z
  refine h hp.objs.size _ hnd ne.symm (I.un (t' := tk') (h' := h') (H' := upd (upd H hp.objs.size (exd hp.objs.size [(f, y)])) a (exo a C (some hp.objs.size))) ?_ ?_)
  · constructor
    · exact fun b o z n _ _ => old b o (na n) z
    · exact fun b o z n _ _ => ⟨o.slots, old b o (na n) z⟩
    · exact fun b o z n _ => by rw [upd_ne (na n), upd_ne (lt z)]; exact n
    · intro b o z _
      by_cases hb : b = a
      · exact ⟨_, hb ▸ now⟩
      · exact ⟨o, old b o hb z⟩
    · exact fun b xs z => stay z (Ne.symm exo_tup)
    · exact fun b o v z => stay z (Ne.symm exo_frz)
    · exact fun b ps z => ⟨#[], by rw [stay z (Ne.symm exo_tbl)]; simp⟩
  · intro b o z
    by_cases hb : b = a
    · subst hb
      rw [upd_same] at z
      cases z
      exact exo_ok now
    rw [upd_ne hb] at z
    by_cases hd : b = hp.objs.size
    · subst hd
      rw [upd_same] at z
      cases z
      exact exd_ok hn' (relO_put (fs := []) ry fun _ => trivial)
    rw [upd_ne hd] at z
    refine (I.hok b o z).stay (fun c v hc q => old c v ?_ q) (fun c hc => stay hc (Ne.symm exo_own)) (fun c xs hc => stay hc (Ne.symm exo_tup))
    rcases hc with rfl | hc
    · exact hb
    · exact at_ne e hc exo_own
end
/-- self.f = e, the first field -/
def tPutG (K : PySem.W.Frag) (mro : List Value) (newId : String) (f : Str) (to te : TE) : TS := fun D σ H => te σ H fun y H1 => to σ H1 fun x H2 => ∃ a C : Addr, x = .ref a ∧ OexG K C mro newId ∧ PySem.W.findIn K (.ref C) f = some none ∧
  H2 a = some (exo a C none) ∧ ∀ dx, H2 dx = none → dx ≠ a → D.nx σ (upd (upd H2 dx (exd dx [(f, y)])) a (exo a C (some dx)))
section
variable {X : Cx} {o e : Expr} {es : List Expr} {to te : TE} {ta : TA} {f : Str} {p p' pos : Pos} {B newId initId : String} {mro : List Value}
theorem ps_putG (xb : XBase B newId initId mro) (ho : PE X o to) (he : PE X e te) (hs : swapsWith e (some (.Attribute o f p')) pos.line X.env = pure false) : PS X (.Assign [.Attribute o f p'] e pos) (tPutG X.K mro newId f to te) := by
  constructor
  intro pins s σ H D I h
  refine plainObj_wpAny_Assign_Attribute (thn (he.run pins s σ H _ I h) ?_) hs
  rintro v s1 ⟨y, H1, I1, r1, q1⟩
  refine thn (ho.run pins s1 σ H1 _ I1 q1) ?_
  rintro u s2 ⟨x, H2, I2, r2, a, C, rfl, T, hno, ea, q⟩
  cases (show u = Value.ref a from r2)
  exact putG xb T I2 ea hno r1 fun dx s' n ne J => ⟨σ, _, J, q dx n ne⟩
end
structure XClG (P : Program) (w : World) (K : PySem.W.Frag) (mg : Str → Option Value) (base : Heap) (x : Str) (C : Addr) (f : Str) : Prop where
  mx : mg x = some (.ref C)
  ex : ∃ (B newId initId : String) (mro : List Value) (fI : Addr) (fd : FuncData) (ps : List Str), XBase B newId initId mro ∧ OexG K C mro newId ∧ PySem.W.findIn K (.ref C) "__init__" = some (some (.ref fI)) ∧ PySem.W.typeIn K (.ref fI) = some (.type "function") ∧ FnOk P w K mg base CX0 1 fI fd ps (spXI K C f) ∧ L2.Binds K fd ps []
section
variable {P : Program} {w : World} {K : PySem.W.Frag} {mg : Str → Option Value} {base : Heap} {C : Addr} {B newId initId : String} {mro : List Value}
theorem xinit_G {qual fld : Str} {st : Stmt} {f : Addr} {fd : FuncData} {p1 p2 p3 p4 : Pos} (xb : XBase B newId initId mro) (Fn : Fun K "__init__" qual st f fd) (Sc : FnScope ["self", fld] ["self", fld] (defScope st)) (hb : defBody st = [.Assign [.Attribute (.Name "self" p1) fld p2] (.Name fld p3) p4])
    (T : OexG K C mro newId) (no : PySem.W.findIn K (.ref C) fld = some none) (hs : Vis (defScope st) "self") (hv : Vis (defScope st) fld) (hsw : ∀ env : Env, swapsWith (.Name fld p3) (some (.Attribute (.Name "self" p1) fld p2)) p4.line env = pure false)
    (hd : (fld == ("__debug__" : Str)) = false := by decide) (hcd : (fld == ("__classdict__" : Str)) = false := by decide) : FnOk P w K mg base CX0 1 f fd ["self", fld] (spXI K C fld) := by
  refine Fun.ok Fn Sc (fun vs H Q E h => ?_) (fun cdv A outer s H vs Q E hr h => ?_)
  · obtain ⟨a, v, e, _⟩ := h
    rw [e]; rfl
  · obtain ⟨a, v, e, ha, q⟩ := h
    subst e
    refine ⟨_, by rw [hb]; exact pss_one (ps_putG xb (pe_var (i := 0) rfl hs (by decide) (by decide)) (pe_var (i := 1) rfl hv hd hcd) (hsw _)), ?_⟩
    exact ⟨v, rfl, .ref a, rfl, a, C, rfl, T, no, ha, fun dx n ne => q dx n ne⟩
end
section
variable {F : Fm} {C : Cs} {ρ : Rho} {k : Nat} {Ξ : Nat → Rho → Addr → Xf → Prop} {e : Expr} {pos p pos' : Pos} {P : DE} {x f : Str} {Cl : Addr}
end
end Dl

namespace Dl
open PySem PySem.Spec PyProof.Rows L2
/-! ### len and str of an instance by its own defs -/
section
variable {X : Cx} {k : Nat} {f C a dx : Addr} {fd : FuncData} {ps : List Str} {sp : Sp} {H : Hp} {σ : L2.St} {pins : List (Addr × Obj)} {s : Shared} {fs : List (Str × V)} {A : Around} {name : Str}
theorem special_fn {Q : Option Value → Shared → Prop} {E : Value → Shared → Prop} (I : Inv X pins σ H s) (e : H a = some (.ins C dx fs)) (hf : PySem.W.findIn X.K (.ref C) name = some (some (.ref f))) (fn : PySem.W.isFn X.K (.ref f) = true)
    (hc : wpAny (model X.prog X.w) A (call (.ref f) [.ref a]) (fun v s' => Q (some v) s') E s) : wpAny (model X.prog X.w) A (callSpecial? (.ref a) name) Q E s := by
  obtain ⟨mA, O, _⟩ := ins_get I.hok e
  obtain ⟨od, J, hl⟩ := O.look
  unfold callSpecial? specialOf
  refine wpAny_bind (wpAny_bind (J.type.here ((PySem.W.looks_findIn I.kIn hf).here ?_)))
  refine wpAny_holding ?_
  refine wpAny_bind ((PySem.W.bind_fn I.kIn _ (beq_iff_eq.mp fn)).here ?_)
  exact wpAny_bind (wpAny_mono hc (fun v s' z => wpAny_pure z) fun _ _ z => z)
theorem FnG.run_in1 {Q : VK} (G : FnG X.prog X.w X.K X.mg X.base k f fd ps sp) (gd : X.A.guards = some []) (room : Room (k + 1) X.A) (hb : L2.Binds X.K fd ps []) (I : Inv X pins σ H s) (h : sp [.ref a] H Q E0) {E : Value → Shared → Prop} :
    wpAny (model X.prog X.w) X.A.in1 (call (.ref f) [.ref a]) (EP X pins σ Q) E s := by
  have hl : ([Value.ref a] : List Value).length = ps.length := (show ([V.ref a] : List V).length = ps.length from G.len _ _ _ _ h)
  have bind := hb s [.ref a] I.kIn (by rw [List.append_nil]; exact hl)
  rw [List.append_nil] at bind
  refine wpAny_call (codeAny_mono (G.run X.A.in1 X.stack s H ⟨[.ref a], []⟩ [.ref a] [.ref a] Q gd room.in1 I.env0.in1 bind (.cons rfl .nil) h) ?_)
  intro res s' hr
  match res, hr with
  | .ok (.ret u), hr => exact I.after hr
  | .ok .next, hr => exact False.elim hr
  | .ok .brk, hr => exact False.elim hr
  | .ok .cont, hr => exact False.elim hr
  | .error _, hr => exact False.elim hr
theorem len_inst (G : FnG X.prog X.w X.K X.mg X.base k f fd ps sp) (gd : X.A.guards = some []) (room : Room (k + 1) X.A) (hb : L2.Binds X.K fd ps []) (hf : PySem.W.findIn X.K (.ref C) "__len__" = some (some (.ref f))) (fn : PySem.W.isFn X.K (.ref f) = true) :
    CallR X (.builtin "len") (fun xs H Q => ∃ a dx fs, xs = [.ref a] ∧ H a = some (.ins C dx fs) ∧ sp [.ref a] H (fun v H' => ∃ n : Nat, v = .int n ∧ n < 1000000 ∧ Q (.int n) H') E0) := by
  rintro pins s σ H xs us Q I r ⟨a, dx, fs, rfl, e, h⟩
  obtain ⟨u, rfl, ru⟩ := vals1 r
  obtain rfl : u = Value.ref a := ru
  refine Calls.call_function_entry kind_len plain_len entry_len (args_len1 _) ?_
  unfold Builtin.«len»
  refine wpAny_bind (m := oneArg "len" _) (wpAny_pure ?_)
  refine wpAny_bind (m := callSpecial? (.ref a) (Str.ofString "__len__")) (special_fn I e hf fn (wpAny_mono (FnG.run_in1 G gd room hb I h) (fun v s' hq => ?_) fun _ _ z => z))
  obtain ⟨x, H', I', rx, n, rfl, hn, q⟩ := hq
  obtain ⟨t, rfl⟩ := (show ∃ t, v = Value.int n t from rx)
  refine wpAny_bind (wpAny_holding (wpAny_pure ?_))
  refine wpAny_bind (wpAny_letGo ?_)
  show wpAny _ _ (if (n : Int) < 0 then _ else _) _ _ _
  rw [if_neg (by omega)]
  show wpAny _ _ (if (n : Int) ≥ 2 ^ 63 then _ else _) _ _ _
  rw [if_neg (by omega)]
  exact wpAny_bind (wpAny_mkInt (wpAny_pure ⟨_, rfl, ⟨.int n, H', I'.tok _, ⟨_, rfl⟩, q⟩⟩))
end
end Dl

namespace Dl
open PySem PySem.Spec PyProof.Rows L2
/-! ### draws beside other things -/
structure HasDq (F : Fm) (st q : Addr) (mk : Nat → Nat) : Prop where
  ms : ∀ b, DqM st q b → F.M b
  get : ∀ n H, F.G (mk n) H → DqG st q n H
  put : ∀ n n' H H', F.G (mk n) H → DqG st q n' H' → (∀ b o, ¬ DqM st q b → H b = some o → H' b = some o) → F.G (mk n') H'
theorem HasDq.ext {F : Fm} {st q : Addr} {mk : Nat → Nat} (h : HasDq F st q mk) (D : Addr) : HasDq (F.ext D) st q mk := ⟨h.ms, h.get, h.put⟩
theorem IsDq.has {F : Fm} {st q : Addr} (h : IsDq F st q) : HasDq F st q id where
  ms := fun b hb => by rw [h.M]; exact hb
  get := fun n H g => by rw [h.G] at g; exact g
  put := fun n n' H H' _ d _ => by rw [h.G]; exact d
/-- the heap without the two lists -/
def hid (H : Hp) (s t : Addr) : Hp := fun b => if b = s ∨ b = t then none else H b
theorem hid_some {H : Hp} {s t b : Addr} {o : HO} (h : hid H s t b = some o) : b ≠ s ∧ b ≠ t ∧ H b = some o := by
  unfold hid at h
  by_cases c : b = s ∨ b = t
  · rw [if_pos c] at h; cases h
  · rw [if_neg c] at h; exact ⟨fun z => c (.inl z), fun z => c (.inr z), h⟩
theorem hid_of {H : Hp} {s t b : Addr} (h1 : b ≠ s) (h2 : b ≠ t) : hid H s t b = H b := by
  unfold hid; rw [if_neg (fun z => z.elim h1 h2)]
theorem hid_live {H : Hp} {s t b : Addr} (h : hid H s t b ≠ none) : b ≠ s ∧ b ≠ t ∧ H b ≠ none := by
  cases e : hid H s t b with
  | none => exact absurd e h
  | some o =>
    obtain ⟨h1, h2, h3⟩ := hid_some e
    exact ⟨h1, h2, by rw [h3]; exact fun z => nomatch z⟩
/-- the frame with a deck more -/
def Fm.deck (F : Fm) (C a dx : Addr) : Fm where
  K := F.K
  S := fun b => F.S b ∨ b = a ∨ b = dx
  M := fun b => F.M b ∨ b = a ∨ b = dx
  H0 := F.H0
  G := fun k H => ∃ c g s t, k = kk c g ∧ F.G c (hid H s t) ∧ PiG F.K C a dx s t g H ∧ (∀ y o, ¬ F.M y → IsX o → F.H0 y = some o → ∃ o', IsX o' ∧ H y = some o')
  ms := fun b h => h.imp (F.ms b) id
  gm := fun k H H' ⟨c, g, s, t, e, hF, d, h4⟩ hm hx => by
    refine ⟨c, g, s, t, e, F.gm c _ _ hF (fun b hb => ?_) (fun b o ho q => ?_), d.at (hm a (.inr (.inl rfl))) (hm dx (.inr (.inr rfl))) hx, fun y o nm x q => ?_⟩
    · unfold hid; rw [hm b (.inl hb)]
    · obtain ⟨h1, h2, h3⟩ := hid_some q
      rw [hid_of h1 h2]; exact hx b o ho h3
    · obtain ⟨o', x', q'⟩ := h4 y o nm x q
      exact ⟨o', x', hx y o' (.inl x') q'⟩
  gl := fun k H ⟨c, g, s, t, e, hF, d, _⟩ b hb => by
    rcases hb with hb | rfl | rfl
    · exact (hid_live (F.gl c _ hF b hb)).2.2
    · rw [d.ia]; exact fun z => nomatch z
    · rw [d.id]; exact fun z => nomatch z
  X := IsX
  xi := fun _ h => h
  xa := fun k H ⟨c, g, s, t, e, hF, d, h4⟩ b o nm x q => h4 b o (fun z => nm (.inl z)) x q
section
variable {F : Fm} {C a dx : Addr}
theorem has_deck (hMa : ¬ F.M a) (hMd : ¬ F.M dx) (c : Nat) : HasPi (F.deck C a dx) C a dx (kk c) where
  X := rfl
  ma := .inr (.inl rfl)
  md := .inr (.inr rfl)
  get := fun g H ⟨c1, g1, s, t, e, hF, d, _⟩ => by
    obtain ⟨rfl, rfl⟩ := kk_inj e
    exact ⟨s, t, d⟩
  put := fun g g' H H' s t s' t' ⟨c1, g1, s1, t1, e, hF, d1, h4⟩ d keep e1 d' hs ht => by
    obtain ⟨rfl, rfl⟩ := kk_inj e
    obtain ⟨rfl, rfl⟩ := d1.uniq d
    have neS : ∀ b, H b ≠ none → b ≠ s1 → b ≠ s' := fun b hb n z => by
      rcases hs with h | h
      · exact n (z.trans h)
      · rw [z] at hb; exact hb h
    have neT : ∀ b, H b ≠ none → b ≠ t1 → b ≠ t' := fun b hb n z => by
      rcases ht with h | h
      · exact n (z.trans h)
      · rw [z] at hb; exact hb h
    refine ⟨_, g', s', t', rfl, F.gm _ (hid H s1 t1) (hid H' s' t') hF (fun b hb => ?_) (fun b o ho q => ?_), d', fun y o nm x q => ?_⟩
    · obtain ⟨h1, h2, h3⟩ := hid_live (F.gl _ _ hF b hb)
      rw [hid_of h1 h2, hid_of (neS b h3 h1) (neT b h3 h2)]
      cases q : H b with
      | none => exact absurd q h3
      | some o => exact keep b o (fun z => hMa (z ▸ hb)) (fun z => hMd (z ▸ hb)) h1 h2 q
    · obtain ⟨h1, h2, h3⟩ := hid_some q
      have hn : H b ≠ none := by rw [h3]; exact fun z => nomatch z
      rw [hid_of (neS b hn h1) (neT b hn h2)]
      refine keep b o ?_ ?_ h1 h2 h3
      · rintro rfl; rw [d.ia] at h3; cases h3; exact ho.elim nx_ins fun ⟨_, z⟩ => nomatch z
      · rintro rfl; rw [d.id] at h3; cases h3; exact ho.elim nx_own fun ⟨_, z⟩ => nomatch z
    · obtain ⟨o', x', q'⟩ := h4 y o nm x q
      exact e1 y o' x' q'
theorem deck_dq {st q : Addr} {mk : Nat → Nat} (h : HasDq F st q mk) (g : Pg) : HasDq (F.deck C a dx) st q (fun n => kk (mk n) g) where
  ms := fun b hb => .inl (h.ms b hb)
  get := fun n H ⟨c1, g1, s, t, e, hF, d, _⟩ => by
    obtain ⟨rfl, rfl⟩ := kk_inj e
    obtain ⟨cells, m, h1, h2, h3⟩ := h.get n _ hF
    exact ⟨cells, m, (hid_some h1).2.2, (hid_some h2).2.2, h3⟩
  put := fun n n' H H' ⟨c1, g1, s, t, e, hF, d, h4⟩ dq keep => by
    obtain ⟨rfl, rfl⟩ := kk_inj e
    obtain ⟨cells, m, h1, h2, h3⟩ := h.get n _ hF
    obtain ⟨p1, p2, p3⟩ := hid_some h1
    obtain ⟨r1, r2, r3⟩ := hid_some h2
    obtain ⟨cells', m', f1, f2, f3⟩ := dq
    have ndq : ∀ b o, H b = some o → (∀ xs, o ≠ .lst xs) → ¬ DqM st q b := fun b o e n z => by
      rcases z with rfl | rfl
      · rw [p3] at e; cases e; exact n _ rfl
      · rw [r3] at e; cases e; exact n _ rfl
    have kx : ∀ b o, (IsX o ∨ ∃ xs, o = .tup xs) → H b = some o → H' b = some o := fun b o ho e => keep b o (ndq b o e fun xs z => by subst z; exact ho.elim nx_lst fun ⟨_, z⟩ => nomatch z) e
    refine ⟨_, g, s, t, rfl, h.put n n' (hid H s t) (hid H' s t) hF ⟨cells', m', by rw [hid_of p1 p2]; exact f1, by rw [hid_of r1 r2]; exact f2, f3⟩ (fun b o nb e => ?_), d.at ((keep a _ (ndq a _ d.ia fun _ z => nomatch z) d.ia).trans d.ia.symm) ((keep dx _ (ndq dx _ d.id fun _ z => nomatch z) d.id).trans d.id.symm) kx, fun y o nm x q => ?_⟩
    · obtain ⟨b1, b2, b3⟩ := hid_some e
      rw [hid_of b1 b2]; exact keep b o nb b3
    · obtain ⟨o', x', q'⟩ := h4 y o nm x q
      exact ⟨o', x', kx y o' (.inl x') q'⟩
end
section
variable {F : Fm} {C : Cs} {ρ : Rho} {k : Nat} {Φ : Nat → PyData → Prop} {es : List Expr} {pos p py : Pos} {x y : Str}
/-- a call of a def that draws, in any frame that knows the draws -/
theorem we_callQ2 {s a : Addr} {j cost : Nat} {Pre : List PyData → Prop} {R : Rel} (hF : DFnQ C.P C.w C.K C.mg C.base j x cost Pre R) (hl : j ≤ C.lvl) (hK : F.K = C.K) (i : Nat) (hg : C.sc.names.lookup x = some .globalImplicit) (hN : C.N[i]? = some y) (hv : Vis C.sc y) (hr : ρ[i]? = some (.raw (.ref s)))
    (h : WPA F C es ρ k fun k1 ds => Pre ds ∧ ∃ mk n, HasDq F s a mk ∧ k1 = mk (n + cost) ∧ ∀ d, R ds d → Φ (mk n) d) (hdb : (x == ("__debug__" : Str)) = false := by decide) (hd : (y == ("__debug__" : Str)) = false := by decide) (hcd : (y == ("__classdict__" : Str)) = false := by decide)
    (hss : ∀ env : Env, starEach (.Name y py :: es) env = (false, eval (.Name y py) env) :: starEach es env := by intro _; rfl) (hpl : ∀ env : Env, ((backTo pos (starEach es env)).any fun x => x.fst) = false := by intro _; rfl) :
    WPE F C (.Call (.Name x p) (.Name y py :: es) [] pos) ρ k Φ := by
  obtain ⟨fa, fd, ps, G, hm, kp, hb⟩ := hF.ex
  refine of_pe (fun X fx => pe_callF fx G hl hg hm kp hb (pa_cons (pe_var (i := i) (by rw [fx.N]; exact hN) (by rw [fx.sc]; exact hv) hd hcd) (paA fx) (hss X.env)) hdb hss hpl) fun σ H Q en jj q => ?_
  refine ⟨_, en.raw hr, ?_⟩
  refine h σ H _ en jj fun vs ds k1 H1 l1 j1 r1 ⟨hp, mk, n, dk, e, hf⟩ => ?_
  subst e
  refine ⟨F.S, s, a, vs, ds, n, rfl, dk.get _ _ j1.g, j1.al, fun b hb => F.ms b (dk.ms b hb), hK ▸ r1, hp, fun v d H' keep g rv hR => ?_⟩
  have le : Le F H1 H' := fun b o n e => keep b o (fun z => n (.inl (dk.ms b z))) e
  refine q v d (mk n) H' (l1.trans le) ⟨dk.put _ _ _ _ j1.g g keep, fun b o n e => le b o n (j1.le b o n e), fun b hb => ?_⟩ (by show Rep F.K F.S H' v d; rw [hK]; exact rv) (hf d hR)
  by_cases hM : DqM s a b
  · exact g.lv b hM
  · exact (j1.al b hb).keep fun o e => keep b o hM e
end
end Dl

namespace Dl
open PySem PySem.Spec PyProof.Rows L2
section
variable {X : Cx} {x : Str} {p pos : Pos} {e : Expr} {es : List Expr} {t : TA} {k : Nat} {f C : Addr} {fd : FuncData} {ps : List Str} {sp : Sp}
theorem FnG.run_make {pins : List (Addr × Obj)} {σ : L2.St} {H : Hp} {s : Shared} {Q : VK} {us : List Value} {vs : List V} (M : Mk X.K C f) (G : FnG X.prog X.w X.K X.mg X.base k f fd ps sp) (gd : X.A.guards = some []) (hr : Room (k + 1) X.A) (hb : L2.Binds X.K fd ps [])
    (hgd : ∀ us kw, (X.A.under (.builtin "type.__call__" ⟨.ref C :: us, kw⟩)).guards = some [])
    (I : Inv X pins σ H s) (r : Vals vs us)
    (h : ∀ x dx, H x = none → H dx = none → dx ≠ x → sp (.ref x :: vs) (upd (upd H dx (.own x)) x (.ins C dx [])) (fun v H2 => v = .non ∧ Q (.ref x) H2) E0) :
    wpAny (model X.prog X.w) X.A (call (.ref C) us) (EP X pins σ Q) X.xe s := by
  have hq := h (s.heap.objs.size + 1) s.heap.objs.size (I.hok.fresh (Nat.le_succ _)) (I.hok.fresh (Nat.le_refl _)) (Nat.ne_of_lt (Nat.lt_succ_self _))
  have I2 := L2.Inv.made (C := C) I
  have r2 : Vals (V.ref (s.heap.objs.size + 1) :: vs) (Value.ref (s.heap.objs.size + 1) :: us) := .cons rfl r
  have hl : (Value.ref (s.heap.objs.size + 1) :: us ++ []).length = ps.length := by
    have e := r2.length
    rw [G.len _ _ _ _ hq] at e
    rw [List.append_nil]
    exact e.symm
  have bind := hb _ (Value.ref (s.heap.objs.size + 1) :: us) I2.kIn hl
  rw [List.append_nil] at bind
  refine wpAny_call (make_map (f := f) I.kIn M.makes M.init (beq_iff_eq.mp M.fn) (codeAny_mono (G.run _ X.stack _ _ ⟨Value.ref (s.heap.objs.size + 1) :: us, []⟩ (Value.ref (s.heap.objs.size + 1) :: us) _ _ (hgd us []) (hr.make C us []) (I2.env0.make C us []) bind r2 hq) fun r s' hq' => ?_))
  cases r with
  | error e => exact False.elim hq'
  | ok fl =>
    cases fl with
    | ret u =>
      obtain ⟨v, H', I3, rv, ev, q3⟩ := I2.after hq'
      subst ev
      exact ⟨rv, ⟨V.ref (s.heap.objs.size + 1), H', I3, rfl, q3⟩⟩
    | next => exact False.elim hq'
    | brk => exact False.elim hq'
    | cont => exact False.elim hq'
theorem under_gd {A : Around} (gd : A.guards = some []) (C : Addr) (us : List Value) (kw : List (Str × Value)) : (A.under (.builtin "type.__call__" ⟨.ref C :: us, kw⟩)).guards = some [] := by
  first | exact gd | (simpa [Around.under, Code.isGuard, guardIds] using gd)
theorem pe_makeG (M : Mk X.K C f) (G : FnG X.prog X.w X.K X.mg X.base k f fd ps sp) (gd : X.A.guards = some []) (hr : Room (k + 1) X.A) (hg : Gl X x) (hm : X.mg x = some (.ref C)) (hb : L2.Binds X.K fd ps [])
    (ha : PA X (e :: es) t) (hdb : (x == ("__debug__" : Str)) = false) (he : starEach (e :: es) X.env = (false, eval e X.env) :: starEach es X.env) (hpl : (backTo pos (starEach es X.env)).any (·.1) = false) :
    PE X (.Call (.Name x p) (e :: es) [] pos) (tMake C sp [] E0 t) := by
  refine ⟨fun pins s σ H Q I h => ?_⟩
  refine wpAny_Call_Name_kw (ld_glob I hg hm ?_ hdb)
  refine PySem.W.callWith_K (h₀ := X.base) I.ok.mod.kin M.kp (thn (ha.run pos pins s σ H _ I h) fun us s1 ⟨vs, H1, I1, r, q⟩ => ⟨I1.kIn, ?_⟩) he hpl
  exact FnG.run_make M G gd hr hb (fun us kw => under_gd gd C us kw) I1 r fun x dx h1 h2 h3 => by
    have := q x dx h1 h2 h3
    rw [List.append_nil] at this
    exact this
end
/-- what __init__ promises of a box that is one -/
def spInit (K : PySem.W.Frag) (C : Addr) (Ok : Nat × List Int → Prop) : Sp := fun vs H Q _ => ∃ (S : Addr → Prop) (a dx : Addr) (v : V) (d : Nat × List Int), vs = [.ref a, v] ∧ H a = some (.ins C dx []) ∧ H dx = some (.own a) ∧ (∀ b, S b → Lv H b) ∧ Rep K S H v (boxP d) ∧ Ok d ∧
  ∀ s t H', (∀ b o, b ≠ a → H b = some o → H' b = some o) → H s = none → H t = none → PiG K C a dx s t ([d], []) H' → Q .non H'
end Dl

namespace Dl
open PySem PySem.Spec PyProof.Rows L2
section
variable {F : Fm} {C : Cs} {Cl f : Addr} {fd : FuncData} {ps : List Str} {ρ : Rho} {k j : Nat} {P : DE} {e : Expr} {rest : List Stmt} {x xc : Str} {px p cp pos : Pos} {Ok : Nat × List Int → Prop}
end
end Dl

namespace Dl
open PySem PySem.Spec PyProof.Rows L2
/-! ### an own list, lent as data while an expression runs -/
section
variable {K : PySem.W.Frag} {S : Addr → Prop} {H : Hp}
end
def Fm.less (F : Fm) (o : Addr) (h : ¬ F.M o) : Fm := { F with S := fun b => F.S b ∧ b ≠ o, ms := fun b hb => ⟨F.ms b hb, fun z => h (z ▸ hb)⟩ }
section
variable {F : Fm} {C : Cs} {ρ : Rho} {k : Nat} {Φ : Nat → PyData → Prop} {Ψ : Nat → Bool → Prop} {e : Expr} {o : Addr} {xs : List PyData} {H : Hp} {σ : L2.St}
theorem HasPi.less {Cl a dx : Addr} {mk : Pg → Nat} (h : HasPi F Cl a dx mk) (hM : ¬ F.M o) : HasPi (F.less o hM) Cl a dx mk := ⟨h.X, h.ma, h.md, h.get, h.put⟩
theorem HasDq.less {st q : Addr} {mk : Nat → Nat} (h : HasDq F st q mk) (hM : ¬ F.M o) : HasDq (F.less o hM) st q mk := ⟨h.ms, h.get, h.put⟩
end
end Dl

namespace Dl
open PySem PySem.Spec PyProof.Rows L2
section
variable {F : Fm} {C : Cs} {Cl a dx : Addr} {mk : Pg → Nat} {g : Pg} {ρ : Rho} {Φ : Nat → PyData → Prop} {pos p py : Pos} {y : Str} {Pre : Pg → List PyData → Prop} {R : Pg → List PyData → Pg → PyData → Prop} {j : Nat}
end
end Dl

namespace Sb
/-! ### sets of switches as numbers; boxes as tests on numbers below 2 ^ n; all by the last switch -/
def cnt : Nat → (Nat → Bool) → Nat
  | 0, p => if p 0 = true then 1 else 0
  | n + 1, p => cnt n p + cnt n fun i => p (i + 2 ^ n)
def up (n : Nat) (A : Nat → Bool) : Nat → Bool := fun c => A (c + 2 ^ n)
def oj (n : Nat) (A : Nat → Bool) : Nat → Bool := fun c => A c || A (c + 2 ^ n)
def aj (n : Nat) (A : Nat → Bool) : Nat → Bool := fun c => A c && A (c + 2 ^ n)
def sh : Nat → (Nat → Bool) → Nat → Bool
  | 0, A, _ => A 0
  | n + 1, A, s => if s < 2 ^ n then sh n (oj n A) s else sh n A (s - 2 ^ n) && sh n (up n A) (s - 2 ^ n)
def so : Nat → (Nat → Bool) → Nat → Bool
  | 0, A, _ => A 0
  | n + 1, A, s => if s < 2 ^ n then so n A s || so n (up n A) s else so n (aj n A) (s - 2 ^ n)
def smooth (n : Nat) (A : Nat → Bool) : Prop := ∀ s < 2 ^ n, sh n A s = so n A s
end Sb

namespace Sb
def Shown (n : Nat) (A : Nat → Bool) (s : Nat) : Prop := ∀ p, p &&& s = p → ∃ c, c < 2 ^ n ∧ A c = true ∧ c &&& s = p
def Solid (n : Nat) (A : Nat → Bool) (s : Nat) : Prop := ∃ b, b < 2 ^ n ∧ b &&& s = 0 ∧ ∀ p, p &&& s = p → A (b + p) = true
end Sb

namespace Dl
open PySem PySem.Spec PyProof.Rows L2
section
variable {F : Fm} {C : Cs} {ρ : Rho} {k : Nat} {P : DE} {Φ : Nat → PyData → Prop} {Ψ : Nat → Bool → Prop} {pos p p1 p2 p3 p4 p5 : Pos} {e a b c : Expr}
/-- xs + ys, tuples -/
theorem catTK {X : Cx} (fx : Fits C X) : OpR X (binaryOp .Add) (rCatA C.K) := by rw [← fx.K]; exact op_catA
theorem we_catT (hK : F.K = C.K) (h : WPE F C a ρ k fun k1 x => WPE F C b ρ k1 fun k2 y => ∃ ds es, x = .tuple ds ∧ y = .tuple es ∧ ds.length + es.length ≤ 1000000 ∧ Φ k2 (.tuple (ds ++ es))) : WPE F C (.BinOp a .Add b pos) ρ k Φ :=
  we_bin (fun X fx => catTK fx) (h.imp fun k1 x h1 => h1.imp fun k2 y ⟨ds, es, e1, e2, hz, q⟩ => by
    subst e1 e2
    intro H vx vy Q j rx ry qq
    have rx0 := rx
    have ry0 := ry
    cases rx with
    | @tup pa xs _ ha hr =>
    cases ry with
    | @tup pb ys _ hb hs =>
    refine ⟨pa, pb, xs, ys, rfl, rfl, hK ▸ sqt_of ha, hK ▸ sqt_of hb, by rw [hr.length, hs.length]; exact Nat.le_trans hz (by decide), fun e => ?_, fun _ e => ?_, fun _ _ l hl => ?_⟩
    · subst e
      have : ds = [] := List.eq_nil_of_length_eq_zero (by rw [← hr.length]; rfl)
      subst this
      exact qq _ _ k2 H .refl j ry0 q
    · subst e
      have : es = [] := List.eq_nil_of_length_eq_zero (by rw [← hs.length]; rfl)
      subst this
      rw [List.append_nil] at q
      exact qq _ _ k2 H .refl j rx0 q
    · exact qq _ _ k2 _ (.new hl) (j.new hl) (rep_newT j hl (hr.append hs)) q)
end
/-! ### sorted(set(a tuple)) -/
def rSetT (K : PySem.W.Frag) (w : World) : List V → Hp → VK → Prop := fun vs H Q => ∃ (a : Addr) (ns : List Int), vs = [.ref a] ∧ SqT K H a (ns.map V.int) ∧ ns.length ≤ 1000 ∧
  ∀ p c, H p = none → c ≤ ns.length → Q (.ref p) (upd H p (SetO w p (fun j => decide (j ∈ ns)) c))
section
variable {F : Fm} {C : Cs} {ρ : Rho} {k : Nat} {Φ : Nat → PyData → Prop} {pos p1 p2 p3 : Pos} {e : Expr}
end
end Dl

namespace Dl
open PySem PySem.Spec PyProof.Rows L2
section
variable {F : Fm} {C : Cs} {ρ : Rho} {k : Nat} {P : DE} {Φ : Nat → PyData → Prop} {Ψ : Nat → Bool → Prop} {pos p1 p2 : Pos} {a b c : Expr}
/-- the same as a value -/
theorem we_leLt (hm : lastMarks [.LtE, .Lt] [b, c] = false) (h : WPE F C a ρ k fun k1 x => WPE F C b ρ k1 fun k2 y => ∃ i j, x = .int i ∧ y = .int j ∧ if i ≤ j then WPE F C c ρ k2 fun k3 z => ∃ l, z = .int l ∧ Φ k3 (.bool (decide (j < l))) else Φ k2 (.bool false)) : WPE F C (.Compare a [.LtE, .Lt] [b, c] pos) ρ k Φ :=
  of_pe (fun X fx => pe_chain op_le op_lt (peE fx) (peE fx) (peE fx) hm) fun σ H Q en j q => by
    refine h σ H _ en j fun vx x k1 H1 l1 j1 r1 hx => hx σ H1 _ (en.le l1) j1 fun vy y k2 H2 l2 j2 r2 ⟨i, jj, e1, e2, hh⟩ => ?_
    subst e1 e2
    cases r1
    cases r2
    refine ⟨i, jj, rfl, rfl, decide (i ≤ jj), rfl, ?_⟩
    by_cases hle : i ≤ jj
    · rw [if_pos hle] at hh
      rw [if_pos (decide_eq_true hle)]
      refine hh σ H2 _ ((en.le l1).le l2) j2 fun vz z k3 H3 l3 j3 r3 ⟨l, e3, p⟩ => ?_
      subst e3
      cases r3
      exact ⟨jj, l, rfl, rfl, q _ _ k3 H3 ((l1.trans l2).trans l3) j3 (.bl _) p⟩
    · rw [if_neg hle] at hh
      rw [if_neg (by rw [decide_eq_true_eq]; exact hle)]
      exact q _ _ k2 H2 (l1.trans l2) j2 (.bl _) hh
end

/-! ### sorted(a tuple of ints) -/
section
variable {P : Program} {w : World} {A : Around} {E : Value → Shared → Prop} {s : Shared} {a : Addr}
theorem collectT {Q : List Value → Shared → Prop} {ob : Obj} {vals : Array Value} {n : Nat} (at0 : s.heap.get? a = some ob) (cl : ob.cls = .type "tuple") (da : ob.data = .seq vals n) (lim : vals.size ≤ sizeLine)
    (hQ : ∀ h1, (∀ b u, s.heap.get? b = some u → h1.get? b = some u) → s.heap.objs.size ≤ h1.objs.size → Q vals.toList { s with heap := h1 }) : wpAny (model P w) A (collect (.ref a)) Q E s := by
  unfold collect
  refine wpAny_bind (wpAny_runValue (codeAny_builtin F.entry_proto_collect ?_))
  rw [Around.under_plainId F.plain_proto_collect _]
  show wpAny _ A.in1 (do let l ← newList []; again (.builtin "list.__iadd__" ⟨[l, .ref a], []⟩)) _ _ s
  refine wpAny_bind (wpAny_newObj_type (wpAny_pure ⟨plainId_quiet F.plain_list_iadd _, codeAny_builtin F.entry_list_iadd ?_⟩))
  rw [Around.under_plainId F.plain_list_iadd _]
  have new0 : (s.heap.push { cls := .type "list", data := .seq ([] : List Value).toArray }).get? s.heap.objs.size = some { cls := .type "list", data := .seq #[] 0 } := Heap.get?_push_size _ rfl
  have new1 := Heap.get?_update_self (Obj.mapSeq (· ++ vals)) new0 rfl
  have done1 : wpAny (model P w) A (match Value.ref s.heap.objs.size with | Value.ref l => do { match (← load l).data with | Data.seq xs _ => pure xs.toList | _ => unsupported "internal:collect" } | _ => unsupported "internal:collect") Q E
      { s with heap := (s.heap.push { cls := .type "list", data := .seq ([] : List Value).toArray }).update s.heap.objs.size (Obj.mapSeq (· ++ vals)) } := by
    refine wpAny_bind (wpAny_load new1 (wpAny_pure ?_))
    have e : ((#[] : Array Value) ++ vals).toList = vals.toList := by simp
    show Q (#[] ++ vals : Array Value).toList _
    rw [e]
    refine hQ _ (fun b u hb => ?_) (by rw [Heap.size_update, Heap.size_push]; exact Nat.le_succ _)
    exact (Heap.get?_update_other _ _ (Nat.ne_of_gt (Heap.lt_size hb))).trans (Heap.get?_push_of_some _ hb)
  refine wpAny_mono (wpAny_extend_seq (hsz := lim) (A := A) (R := fun r t => r = .ok (.ret (.ref s.heap.objs.size)) ∧ t = { s with heap := (s.heap.push { cls := .type "list", data := .seq ([] : List Value).toArray }).update s.heap.objs.size (Obj.mapSeq (· ++ vals)) })
    (s := { s with heap := s.heap.push { cls := .type "list", data := .seq ([] : List Value).toArray } }) _ a _ 0 (.inr rfl) new0 (Heap.get?_push_of_some _ at0) cl da ⟨rfl, rfl⟩) (fun fin t h => ?_) (fun e t h => absurd h.1 (by simp))
  cases fin with
  | done fl => obtain ⟨e, rfl⟩ := h; cases e; exact done1
  | again c => exact ⟨h.1, codeAny_mono h.2 fun r t2 hr => by rw [hr.1, hr.2]; exact done1⟩
theorem sortedTupAll {its : Array Value} {ns : List Int} {Q : Value → Shared → Prop} (tp : s.heap.IsTuple a its) (hi : IntsAre its.toList ns) (hz : its.size ≤ 4000)
    (hQ : ∀ (t : Shared) (p : Addr) (res : List Value) (c : Nat) (ms : List Int), (∀ b o, s.heap.get? b = some o → t.heap.get? b = some o) → t.gens = s.gens → t.os = s.os → s.heap.objs.size ≤ p →
      t.heap.get? p = some (seqObj "list" res.toArray c) → IntsAre res ms → ms.Perm ns → ms.Pairwise (· ≤ ·) → Q (.ref p) t) :
    wpAny (model P w) A (call (.builtin "sorted") [.ref a]) Q E s := by
  obtain ⟨o, ho, hc, n, hd⟩ := tp
  refine Calls.call_function_entry PyProof.Rows.kind_sorted PyProof.Rows.plain_sorted PyProof.Rows.entry_sorted (PyProof.Rows.args_sorted1 _) ?_
  unfold Builtin.«sorted»
  have lim : its.toList.length ≤ sizeLine := by rw [Array.length_toList, sizeLine_eq]; omega
  refine wpAny_bind (m := checkCount "sorted" 1 1 _) (wpAny_pure (wpAny_bind (collectT (A := A.in1) ho hc hd (by rw [sizeLine_eq]; omega) fun h1 kp szs => ?_)))
  refine wpAny_bind (wpAny_newList ?_ lim)
  have here : (h1.push (seqObj "list" its.toList.toArray 0)).get? h1.objs.size = some (seqObj "list" its.toList.toArray 0) := Heap.get?_push_size _ rfl
  refine wpAny_bind (wpAny_holding (wpAny_call_entry PyProof.Rows.slot_list_sort ⟨_, here, rfl⟩ PyProof.Rows.entry_list_sort (SrtO.list_sort_ord SrtO.swo_int here lim (fun h2 => SrtO.ints_sortable hi h2) fun res r1 r2 => ⟨_, rfl, ?_⟩) (PyProof.Rows.args_list_sort _)))
  obtain ⟨z1, z2, z3⟩ := SrtO.ints_out hi r1 r2
  obtain ⟨c, hcc⟩ := PyProof.Rows.sortedHeap_at (vs := its.toList) (out := res.toArray) here
  refine wpAny_pure ⟨_, rfl, hQ _ h1.objs.size res c (res.map SrtO.iv) (fun b u e => ?_) rfl rfl szs hcc z1 z2 z3⟩
  have old := kp b u e
  have blt := Heap.lt_size old
  show (sortedHeap (h1.push (seqObj "list" its.toList.toArray 0)) h1.objs.size its.toList res.toArray).get? b = _
  rw [PyProof.Rows.sortedHeap_old (Nat.ne_of_lt blt) (by rw [Heap.size_push]; exact Nat.lt_succ_of_lt blt)]
  exact Heap.get?_push_of_some _ old
end
def rSortTI (K : PySem.W.Frag) : List V → Hp → VK → Prop := fun vs H Q => ∃ (a : Addr) (ns : List Int), vs = [V.ref a] ∧ SqT K H a (ns.map V.int) ∧ ns.length ≤ 4000 ∧
  ∀ (ms : List Int) (p : Addr), ms.Perm ns → ms.Pairwise (· ≤ ·) → H p = none → Q (.ref p) (upd H p (.lst (ms.map V.int)))
theorem cr_sortTI {X : Cx} : CallR X (.builtin "sorted") (rSortTI X.K) := by
  intro pins s σ H vs us Q I r h
  obtain ⟨a, ns, rfl, hS, hz, q⟩ := h
  rw [Vals.ref1 r]
  obtain ⟨its, rv, pl, _⟩ := I.tuple hS
  have hlen : its.length = ns.length := by rw [← rv.length, List.length_map]
  refine sortedTupAll (show s.heap.IsTuple a its.toArray from pl) (by simpa using rv.ints) (by rw [List.size_toArray, hlen]; exact hz) fun t p res c ms kp gs os sz at1 hii perm asc => ?_
  have fits : (ms.map V.int).length ≤ sizeLine := by rw [List.length_map, perm.length_eq, sizeLine_eq]; omega
  have fresh : H p = none := I.hok.fresh sz
  have J1 : Inv X pins σ (upd H p (.lst (ms.map V.int))) { s with heap := t.heap, gens := t.gens, drawn := t.drawn, toks := t.toks } :=
    I.call (ch := []) (Un.laid kp sz fresh) (I.hok.laid kp sz ⟨fits, res, c, vals_of_ints hii, at1⟩) (by rw [gs]; exact I.bare) (fun _ z => nomatch z)
  have same : t = { s with heap := t.heap, gens := t.gens, drawn := t.drawn, toks := t.toks } := by
    cases t; cases s; cases os; rfl
  rw [same]
  exact ⟨.ref p, _, J1, rfl, q ms p perm asc fresh⟩
section
variable {F : Fm} {C : Cs} {ρ : Rho} {k : Nat} {Φ : Nat → PyData → Prop} {pos p : Pos} {e : Expr}
theorem srtTK {X : Cx} (fx : Fits C X) : CallR X (.builtin "sorted") (rSortTI C.K) := by rw [← fx.K]; exact cr_sortTI
theorem we_sortedT (hK : F.K = C.K) (hg : C.sc.names.lookup ("sorted" : Str) = some .globalImplicit) (hm : C.mg ("sorted" : Str) = none) (hs : ∀ env : Env, starEach [e] env = (false, eval e env) :: starEach [] env) (h : WPE F C e ρ k fun k1 x => ∃ ns : List Int, x = .tuple (ns.map PyData.int) ∧ ns.length ≤ 4000 ∧ ∀ ms : List Int, ms.Perm ns → ms.Pairwise (· ≤ ·) → Φ k1 (.list (ms.map PyData.int))) : WPE F C (.Call (.Name "sorted" p) [e] [] pos) ρ k Φ :=
  we_callB (id := "sorted") (fun X fx => srtTK fx) hg hm (by decide +kernel) (wa_one hs (h.imp fun k1 x ⟨ns, e, hz, p⟩ => fun H vs Q j r q => by
    subst e
    cases r with
    | cons r1 r2 =>
    cases r2
    cases r1 with
    | @tup a xs _ ha hr => exact ⟨a, ns, rfl, hr.ints ▸ hK ▸ sqt_of ha, hz, fun ms l hp hw hl => q _ _ k1 _ (.new hl) (j.new hl) (rep_newL j hl (RepAll.of_ints ms)) (p ms hp hw)⟩)) (by decide) (by decide) hs
end

section
variable {F : Fm} {C : Cs} {ρ : Rho} {k : Nat} {Ψ : Nat → Bool → Prop} {pos : Pos} {a b : Expr}
/-- a and b, a or b, as tests of known value -/
theorem wt_and2 {p q : Bool} (ha : WPT F C a ρ k fun k1 z => k1 = k ∧ z = p) (hb : p = true → WPT F C b ρ k fun k1 z => k1 = k ∧ z = q) (h : Ψ k (p && q)) : WPT F C (.BoolOp .And [a, b] pos) ρ k Ψ :=
  wt_bool (ww_and (ha.imp fun k1 z ⟨e1, e2⟩ => by
    subst e1 e2
    cases z with
    | false => exact h
    | true => rw [if_pos rfl]; exact ww_and1 ((hb rfl).imp fun k2 z ⟨e3, e4⟩ => by subst e3 e4; exact h)))
theorem wt_or2 {p q : Bool} (ha : WPT F C a ρ k fun k1 z => k1 = k ∧ z = p) (hb : p = false → WPT F C b ρ k fun k1 z => k1 = k ∧ z = q) (h : Ψ k (p || q)) : WPT F C (.BoolOp .Or [a, b] pos) ρ k Ψ :=
  wt_bool (ww_or (ha.imp fun k1 z ⟨e1, e2⟩ => by
    subst e1 e2
    cases z with
    | true => exact h
    | false => rw [if_neg (by decide)]; exact ww_or1 ((hb rfl).imp fun k2 z ⟨e3, e4⟩ => by subst e3 e4; exact h)))
end
end Dl

set_option maxHeartbeats 2000000
namespace Dl
open PySem PySem.Spec PyProof.Rows L2
/-! ### zip of two sequences, each a list (true) or a tuple (false) -/
def Wk (b : Bool) (h : Heap) (it l : Addr) (i : Nat) : Prop := match b with | true => h.IsListIter it l i | false => h.IsTupleIter it l i
def Sk (b : Bool) (h : Heap) (l : Addr) (xs : Array Value) : Prop := match b with | true => h.IsList l xs | false => h.IsTuple l xs
section
variable {b : Bool} {h h' : Heap} {it l c : Addr} {i : Nat} {xs : Array Value}
theorem Wk.keep (x : Wk b h it l i) (e : ∀ o, h.get? it = some o → h'.get? it = some o) : Wk b h' it l i := by
  cases b with
  | true => exact Heap.IsListIter.at x e
  | false => exact Heap.IsTupleIter.at x e
theorem Sk.push (x : Sk b h l xs) (o : Obj) : Sk b (h.push o) l xs := by
  cases b with
  | true => exact Heap.IsList.push x o
  | false => exact Heap.IsTuple.push x o
theorem Sk.lt (x : Sk b h l xs) : l < h.objs.size := by
  cases b with
  | true => obtain ⟨o, e, _⟩ := x; exact Heap.lt_size e
  | false => obtain ⟨o, e, _⟩ := x; exact Heap.lt_size e
theorem Wk.obj (x : Wk b h it l i) : ∃ o, h.get? it = some o ∧ ∀ v, o.data ≠ Data.cell v := by
  cases b with
  | true => obtain ⟨o, e, _, d⟩ := x; exact ⟨o, e, fun v q => by rw [d] at q; cases q⟩
  | false => obtain ⟨o, e, _, d⟩ := x; exact ⟨o, e, fun v q => by rw [d] at q; cases q⟩
end
section
variable {prog : Program} {w : World} {A : Around} {E : Value → Shared → Prop} {s : Shared} {b b1 b2 : Bool}
end

/-! ### zip(a list, a tuple) -/
abbrev zg1 (h : Heap) (l1 : Addr) : Heap := h.push { cls := .type "list_iterator", data := .fields #[.ref l1, .int 0 0] }
abbrev zg2 (h : Heap) (l1 l2 : Addr) : Heap := (zg1 h l1).push { cls := .type "tuple_iterator", data := .fields #[.ref l2, .int 0 0] }
abbrev zg3 (h : Heap) (l1 l2 : Addr) : Heap := (zg2 h l1 l2).push { cls := .type "tuple", data := .seq #[.ref h.objs.size, .ref (zg1 h l1).objs.size] }
abbrev zg4 (h : Heap) (l1 l2 : Addr) : Heap := (zg3 h l1 l2).push { cls := .type "tuple", data := .seq #[.none, .none] }
abbrev zg5 (h : Heap) (l1 l2 : Addr) : Heap := (zg4 h l1 l2).push { cls := .type "zip", data := .fields #[.none, .bool false, .bool false, .ref (zg2 h l1 l2).objs.size, .ref (zg3 h l1 l2).objs.size] }
section
variable {prog : Program} {w : World} {A : Around} {E : Value → Shared → Prop} {s : Shared}
end
def Itg (K : PySem.W.Frag) (a b : Addr) : It :=
  ⟨fun i H => ∃ (xs ys : List V) (x y : V), SqL K H a xs ∧ SqT K H b ys ∧ xs[i]? = some x ∧ ys[i]? = some y,
    fun i H v H' => ∃ t x y, v = .ref t ∧ H t = none ∧ H' = upd H t (.tup [x, y]) ∧ (∀ xs, SqL K H a xs → xs[i]? = some x) ∧ ∀ ys, SqT K H b ys → ys[i]? = some y,
    fun i H => ∃ xs ys : List V, SqL K H a xs ∧ SqT K H b ys ∧ (xs.length ≤ i ∨ ys.length ≤ i)⟩
def iZg (K : PySem.W.Frag) (ta : TA) : TI := fun σ H R => ta σ H fun vs H1 => ∃ a b xs ys, vs = [.ref a, .ref b] ∧ SqL K H1 a xs ∧ SqT K H1 b ys ∧ R (Itg K a b) H1
section
variable {F : Fm} {C : Cs} {ρ : Rho} {k : Nat} {P : DE} {pos p p1 p2 tp : Pos} {a b : Expr} {x1 x2 : Str} {kk : Nat} {body : List Stmt}
end
end Dl

namespace Dl
open PySem PySem.Spec PyProof.Rows L2
/-! ### isinstance(data, a built-in type) -/
def tyN : PyData → String
  | .none => "NoneType"
  | .bool _ => "bool"
  | .int _ => "int"
  | .str _ => "str"
  | .list _ => "list"
  | .tuple _ => "tuple"
  | .dict _ => "dict"
def isiD (T : String) : PyData → Bool
  | .none => T == "NoneType"
  | .bool _ => T == "bool" || T == "int"
  | .int _ => T == "int"
  | .str _ => T == "str"
  | .list _ => T == "list"
  | .tuple _ => T == "tuple"
  | .dict _ => T == "dict"
theorem kit_int (K : PySem.W.Frag) (d : PyData) : PySem.W.kitOne K (.type (tyN d)) (.type "int") = some (isiD "int" d) := by cases d <;> kernel_rfl
theorem kit_bool (K : PySem.W.Frag) (d : PyData) : PySem.W.kitOne K (.type (tyN d)) (.type "bool") = some (isiD "bool" d) := by cases d <;> kernel_rfl
theorem kit_tuple (K : PySem.W.Frag) (d : PyData) : PySem.W.kitOne K (.type (tyN d)) (.type "tuple") = some (isiD "tuple" d) := by cases d <;> kernel_rfl
theorem ty_rep {F : Fm} {H : Hp} {v : V} {d : PyData} (r : Rp F H v d) : TyX F.K H v (.type (tyN d)) := by
  cases r with
  | non => exact .base .non
  | bl b => exact .base (.bl b)
  | int i => exact .base (.int i)
  | str x => exact .base (.str x)
  | lst h _ => exact .base (.lst h.1)
  | tup h _ => exact .base (.tup h.1)
  | dct h _ => exact .base (.dK h.1)
section
variable {F : Fm} {C : Cs} {ρ : Rho} {k : Nat} {Φ : Nat → PyData → Prop} {pos p p2 : Pos} {e : Expr} {x : Str}
theorem we_isi (T : String) (kit : ∀ (K : PySem.W.Frag) (d : PyData), PySem.W.kitOne K (.type (tyN d)) (.type T) = some (isiD T d)) (hK : F.K = C.K) (hg : C.sc.names.lookup ("isinstance" : Str) = some .globalImplicit) (hm : C.mg ("isinstance" : Str) = none) (hg2 : C.sc.names.lookup x = some .globalImplicit) (hm2 : C.mg x = none) (hx : bootBuiltins x = some (.type T)) (hxn : x ≠ "__name__") (hxd : (x == ("__debug__" : Str)) = false)
    (hs : ∀ env : Env, starEach [e, .Name x p2] env = (false, eval e env) :: starEach [.Name x p2] env)
    (h : WPE F C e ρ k fun k1 d => Φ k1 (.bool (isiD T d))) : WPE F C (.Call (.Name "isinstance" p) [e, .Name x p2] [] pos) ρ k Φ :=
  of_pe (t := tCB (rIsi C.K) (tCons (tE C e) (tCons (tC (.ty T)) tNil))) (fun X fx => pe_callB (by rw [← fx.K]; exact call_isi) (by show X.env.scope.names.lookup ("isinstance" : Str) = _; rw [fx.sc]; exact hg) (by rw [fx.mg]; exact hm) (by decide +kernel)
      (pa_cons (peE fx) (pa_cons (pe_bltn (v := .ty T) (by show X.env.scope.names.lookup x = _; rw [fx.sc]; exact hg2) (by rw [fx.mg]; exact hm2) hx rfl hxn hxd) pa_nil) (hs X.env)) (by decide) (by decide) (hs X.env) rfl) fun σ H Q en j q => by
    show tE C e σ H _
    refine h σ H _ en j fun v d k1 H1 l1 j1 r hp => ?_
    refine ⟨v, .ty T, _, _, isiD T d, rfl, .ty T, hK ▸ ty_rep r, kit _ d, q _ _ k1 H1 l1 j1 (.bl _) hp⟩
end
section
variable {F : Fm} {C : Cs} {ρ : Rho} {k : Nat} {Ψ : Nat → Bool → Prop} {pos : Pos} {a b : Expr}
end
end Dl

set_option maxHeartbeats 2000000
namespace Dl
open PySem PySem.Spec PyProof.Rows L2
/-! ### [.. for a, b in ..] where each turn makes a new pair: enumerate(list), zip(list, tuple) -/
structure PI2 (F : Fm) (Jt : It) (H1 : Hp) (ds : List (PyData × PyData)) : Prop where
  go : ∀ D, H1 D = none → ∀ n d, ds[n]? = some d → ∃ x y, Rp (F.ext D) (upd H1 D (.lst [])) x d.1 ∧ Rp (F.ext D) (upd H1 D (.lst [])) y d.2 ∧ ∀ H', Lz (F.ext D) (upd H1 D (.lst [])) H' → Jt.go n H' ∧ ∀ v H'', Jt.yld n H' v H'' → ∃ T, v = .ref T ∧ H' T = none ∧ H'' = upd H' T (.tup [x, y])
  stop : ∀ D, H1 D = none → ∀ H', Lz (F.ext D) (upd H1 D (.lst [])) H' → Jt.stop ds.length H'
section
variable {F : Fm} {C : Cs} {ρ : Rho} {k : Nat} {Φ : Nat → PyData → Prop}
end
section
variable {F : Fm} {C : Cs} {ρ : Rho} {k : Nat} {Φ : Nat → PyData → Prop} {P : DE} {pos spos : Pos} {elt e e2 c : Expr} {scope : Scope} {x x1 : Str} {px px1 p3 pr pr2 : Pos} {kk : Nat}
/-- enumerate as pairs -/
def enD : Nat → List PyData → List (PyData × PyData)
  | _, [] => []
  | n, d :: ds => (.int (n : Int), d) :: enD (n + 1) ds
end
/-! ### all, any of a list of bools -/
section
variable {F : Fm} {C : Cs} {ρ : Rho} {k : Nat} {Φ : Nat → PyData → Prop} {pos p : Pos} {e : Expr}
end
/-! ### xs[e:] of a list -/
section
variable {F : Fm} {C : Cs} {ρ : Rho} {k : Nat} {Φ : Nat → PyData → Prop} {pos p2 : Pos} {a e : Expr}
end
end Dl

namespace Dl
open PySem PySem.Spec PyProof.Rows L2
section
variable {F : Fm} {C : Cs} {ρ : Rho} {k : Nat} {Φ : Nat → PyData → Prop} {pos p p1 p2 p3 px : Pos} {x : Str}
/-- sorted(own list of ints) -/
theorem we_sortOwnI (i : Nat) {o : Addr} {ns : List Int} (hK : F.K = C.K) (hN : C.N[i]? = some x) (hv : Vis C.sc x) (hr : ρ[i]? = some (.own o (ns.map PyData.int))) (hg : C.sc.names.lookup ("sorted" : Str) = some .globalImplicit) (hm : C.mg ("sorted" : Str) = none)
    (h : ∀ ms : List Int, ms.Perm ns → ms.Pairwise (· ≤ ·) → Φ k (.list (ms.map PyData.int))) (hd : (x == ("__debug__" : Str)) = false := by decide) (hcd : (x == ("__classdict__" : Str)) = false := by decide) (hse : ∀ env : Env, starEach [.Name x px] env = (false, eval (.Name x px) env) :: starEach [] env := by intro _; rfl) :
    WPE F C (.Call (.Name "sorted" p) [.Name x px] [] pos) ρ k Φ :=
  of_pe (fun X fx => pe_callB (srtK fx) (by show X.env.scope.names.lookup ("sorted" : Str) = _; rw [fx.sc]; exact hg) (by rw [fx.mg]; exact hm) (by decide +kernel) (pa_cons (pe_var (i := i) (by rw [fx.N]; exact hN) (by rw [fx.sc]; exact hv) hd hcd) pa_nil (hse X.env)) (by decide) (by decide) (hse X.env) rfl) fun σ H Q en j q => by
    obtain ⟨hσ, hS, hM, h0, vs, hv', rv⟩ := en.own hr
    refine ⟨_, hσ, o, ns, rfl, rep_vints rv ▸ SqL.of hv', fun ms l hp hw hl => ?_⟩
    exact q _ _ k _ (.new hl) (j.new hl) (rep_newL j hl (RepAll.of_ints ms)) (h ms hp hw)
end
section
variable {F : Fm} {C : Cs} {ρ : Rho} {k : Nat} {Φ : Nat → PyData → Prop} {pos : Pos} {a b : Expr}
end
end Dl

namespace Dl
open PySem PySem.Spec PyProof.Rows L2
section
variable {F : Fm} {C : Cs} {ρ : Rho} {k : Nat} {P : DE} {pos pos' pos2 p p2 px : Pos} {e : Expr} {x : Str} {body : List Stmt}
end
end Dl

namespace Dl
open PySem PySem.Spec PyProof.Rows L2
section
variable {F : Fm} {C : Cs} {ρ : Rho} {k : Nat} {P : DE} {pos p2 px : Pos} {es : List Expr} {x : Str} {rest : List Stmt}
end
section
variable {F : Fm} {C : Cs} {ρ : Rho} {k : Nat} {Φ : Nat → PyData → Prop} {pos : Pos} {elt iter iter1 : Expr} {scope : Scope} {x x1 : Str} {px px1 : Pos} {α β : Type}
end
end Dl

namespace Dl
open PySem PySem.Spec PyProof.Rows L2
/-! ### expressions that change one own list: left.pop(e), and tuple([left.pop(e) for k in range(z)]) -/
def WX (F : Fm) (o : Addr) (t : TE) (ρ : Rho) (k : Nat) (Φ : Nat → List PyData → PyData → Prop) : Prop :=
  ∀ (σ : L2.St) (H : Hp) (Q : VK), EnvOk F H σ ρ → J F k H → (∀ v d k' ys ws H', LeD F o H H' → H' o = some (.lst ws) → RpAll F H' ws ys → J F k' H' → Rp F H' v d → Φ k' ys d → Q v H') → t σ H Q
section
variable {F : Fm} {C : Cs} {ρ : Rho} {k : Nat} {P : DE} {Φ : Nat → PyData → Prop} {Ξ : Nat → List PyData → PyData → Prop} {pos p p0 px py ap cp spos pr pr2 : Pos} {x y : Str} {rest : List Stmt} {e ez : Expr} {o : Addr} {scope : Scope}
theorem WX.imp {t : TE} {Ξ' : Nat → List PyData → PyData → Prop} (h : WX F o t ρ k Ξ) (i : ∀ k' ys d, Ξ k' ys d → Ξ' k' ys d) : WX F o t ρ k Ξ' := fun σ H Q en j q => h σ H Q en j fun v d k' ys ws H' l hw r j' rv p => q v d k' ys ws H' l hw r j' rv (i k' ys d p)
/-- x.pop(e), x the own list -/
def tPop (C : Cs) (i : Nat) (e : Expr) : TE := tBM C.K "list" rPopAt (tVar i) (tCons (tE C e) tNil)
def rTup (C : Cs) : List V → Hp → VK → Prop := fun xs H Q => ∃ p ys, xs = [.ref p] ∧ ((SqL C.K H p ys ∧ ∀ l, H l = none → Q (.ref l) (upd H l (.tup ys))) ∨ (SqT C.K H p ys ∧ Q (.ref p) H))
end
end Dl

namespace Dl
open PySem PySem.Spec PyProof.Rows L2
/-! ### x = an expression that makes a new list, which is the def's own -/
def WN (F : Fm) (t : TE) (ρ : Rho) (k : Nat) (Φ : Nat → List PyData → Prop) : Prop :=
  ∀ (σ : L2.St) (H : Hp) (Q : VK), EnvOk F H σ ρ → J F k H → (∀ o vs ds k' H', Le F H H' → J F k' H' → H' o = none → RpAll F H' vs ds → Φ k' ds → Q (.ref o) (upd H' o (.lst vs))) → t σ H Q
section
variable {F : Fm} {C : Cs} {ρ : Rho} {k : Nat} {P : DE} {Φ : Nat → List PyData → Prop} {pos p p2 px pr pr2 : Pos} {a e : Expr} {x : Str} {rest : List Stmt}
end
end Dl

namespace Dl
open PySem PySem.Spec PyProof.Rows L2
/-! ### a comprehension of two clauses, over two tuples -/
section
variable {F : Fm} {C : Cs} {ρ : Rho} {k : Nat} {Φ : Nat → PyData → Prop} {α β : Type} {Cb : Cs} {iter1 elt : Expr} {tl : TE} {K : PySem.W.Frag}
end
section
variable {F : Fm} {C : Cs} {ρ : Rho} {k : Nat} {Φ : Nat → PyData → Prop} {pos : Pos} {elt iter iter1 : Expr} {scope : Scope} {x x1 : Str} {px px1 : Pos} {α β : Type}
end
section
variable {F : Fm} {C : Cs} {ρ : Rho} {k : Nat} {Φ : Nat → PyData → Prop} {pos p : Pos} {a b : Expr}
/-- min(a, b) of two ints -/
theorem we_min2 (hg : C.sc.names.lookup ("min" : Str) = some .globalImplicit) (hm : C.mg ("min" : Str) = none) (hs1 : ∀ env : Env, starEach [a, b] env = (false, eval a env) :: starEach [b] env) (hs2 : ∀ env : Env, starEach [b] env = (false, eval b env) :: starEach [] env)
    (h : WPE F C a ρ k fun k1 x => WPE F C b ρ k1 fun k2 y => ∃ i j : Int, x = .int i ∧ y = .int j ∧ Φ k2 (.int (if j < i then j else i))) : WPE F C (.Call (.Name "min" p) [a, b] [] pos) ρ k Φ :=
  we_callB (id := "min") (fun X fx => call_min2 fx.calm) hg hm (by decide +kernel) (wa_cons hs1 (h.imp fun k1 x h1 => wa_cons hs2 (h1.imp fun k2 y ⟨i, j, e1, e2, pp⟩ => wa_nil fun H vs Q jj r q => by
    subst e1 e2
    cases r with
    | cons r1 r2 =>
    cases r2 with
    | cons r3 r4 =>
    cases r4
    cases r1
    cases r3
    exact ⟨i, j, rfl, q _ _ k2 H .refl jj (.int _) pp⟩))) (by decide) (by decide) hs1 (fun env => by rw [hs2 env]; rfl)
end
end Dl

namespace Dl
open PySem PySem.Spec PyProof.Rows L2
/-! ### list(d.values()), a dict of the def's own -/
/-- list(o.values()) -/
def tListVals (td : TE) : TE := fun σ H Q => td σ H fun x H1 => ∃ a kvs, x = V.ref a ∧ H1 a = some (.dK kvs) ∧ ∀ p, H1 p = none → Q (.ref p) (upd H1 p (.lst (kvs.map (·.2))))
/-! ### a dict that counts: d = {}; for c in a tuple: b = e; d[b] = d.get(b, 0) + 1 -/
structure CK (bs : List Int) (kvs : List (Key × V)) : Prop where
  val : ∀ b : Int, valV kvs (Sum.inl b) = if b ∈ bs then some (V.int (bs.count b)) else none
  mem : ∀ p ∈ kvs, ∃ b ∈ bs, p = (Sum.inl b, V.int (bs.count b))
  len : kvs.length ≤ bs.length
theorem CK.nil : CK [] [] := ⟨fun b => rfl, fun _ h => (nomatch h), Nat.le_refl _⟩
theorem CK.put {bs : List Int} {kvs : List (Key × V)} (c : CK bs kvs) (b : Int) : CK (bs ++ [b]) (putK kvs (Sum.inl b) (V.int (((bs.count b : Nat) : Int) + 1))) := by
  have hc : ∀ b', ((bs ++ [b]).count b' : Nat) = bs.count b' + if b = b' then 1 else 0 := fun b' => by
    rw [List.count_append, List.count_singleton]
    by_cases h : b = b' <;> simp [h]
  have hself : V.int (((bs.count b : Nat) : Int) + 1) = V.int (((bs ++ [b]).count b : Nat) : Int) := by rw [hc, if_pos rfl]; rfl
  refine ⟨fun b' => ?_, fun p hp => ?_, ?_⟩
  · rw [valV_put, c.val]
    by_cases h : b' = b
    · subst h
      rw [if_pos rfl, if_pos (by simp), hself]
    · rw [if_neg (fun e => h (Sum.inl.inj e)), hc, if_neg (show ¬ b = b' from fun e => h e.symm), Nat.add_zero]
      by_cases hm : b' ∈ bs
      · rw [if_pos hm, if_pos (by simp [hm])]
      · rw [if_neg hm, if_neg (by simp [hm, h])]
  · have old : ∀ q ∈ kvs, ¬ q.1 = Sum.inl b → ∃ b1 ∈ bs ++ [b], q = (Sum.inl b1, V.int ((bs ++ [b]).count b1)) := fun q hq hne => by
      obtain ⟨b1, h1, rfl⟩ := c.mem q hq
      have : ¬ b = b1 := fun e => hne (by rw [e])
      exact ⟨b1, by simp [h1], by rw [hc, if_neg this, Nat.add_zero]⟩
    unfold putK at hp
    split at hp
    · obtain ⟨q, hq, rfl⟩ := List.mem_map.mp hp
      by_cases hk : q.1 = Sum.inl b
      · rw [if_pos hk, hk]
        exact ⟨b, by simp, by rw [hself]⟩
      · rw [if_neg hk]
        exact old q hq hk
    · next hn =>
      rcases List.mem_append.mp hp with hp | hp
      · refine old p hp fun e => hn ?_
        rw [List.any_eq_true]
        exact ⟨p, hp, decide_eq_true e⟩
      · rw [List.mem_singleton.mp hp]
        exact ⟨b, by simp, by rw [hself]⟩
  · have := length_putK kvs (Sum.inl b) (V.int (((bs.count b : Nat) : Int) + 1))
    have := c.len
    rw [List.length_append, List.length_singleton]
    omega
/-- the values of such a dict -/
def cntI (kvs : List (Key × V)) : List Int := kvs.map fun p => match p.2 with
  | .int i => i
  | _ => 0
theorem CK.some {bs : List Int} {kvs : List (Key × V)} (c : CK bs kvs) {i : Int} (h : i ∈ cntI kvs) : ∃ b ∈ bs, i = (bs.count b : Nat) := by
  obtain ⟨p, hp, rfl⟩ := List.mem_map.mp h
  obtain ⟨b, hb, rfl⟩ := c.mem p hp
  exact ⟨b, hb, rfl⟩
theorem CK.all {bs : List Int} {kvs : List (Key × V)} (c : CK bs kvs) {b : Int} (h : b ∈ bs) : ((bs.count b : Nat) : Int) ∈ cntI kvs := by
  have hv := c.val b
  rw [if_pos h] at hv
  unfold valV at hv
  rw [Option.map_eq_some_iff] at hv
  obtain ⟨p, hp, e⟩ := hv
  refine List.mem_map.mpr ⟨p, List.mem_of_find?_eq_some hp, ?_⟩
  rw [e]
def Fm.dic (F : Fm) (o : Addr) (kvs : List (Key × V)) : Fm := { F.ext o with
  H0 := upd F.H0 o (.dK kvs)
  xa := fun k H g b u hm hu e => by
    by_cases hb : b = o
    · rw [hb, upd_same] at e; cases e; exact absurd (F.xi _ hu) nx_dK
    · rw [upd_ne hb] at e; exact F.xa k H g b u hm hu e }
section
variable {F : Fm} {C : Cs} {ρ : Rho} {k : Nat} {P : DE} {Φ : Nat → PyData → Prop} {x xc xb : Str} {px dp pc pb p3 p4 p5 p6 p7 p8 p9 p10 p11 p12 s1 s2 s3 s4 : Pos} {j1 j2 : Nat} {iter eb : Expr} {rest : List Stmt}
end
end Dl

namespace Dl
open PySem PySem.Spec PyProof.Rows L2
/-! ### xs[e:] of a tuple -/
section
variable {F : Fm} {C : Cs} {ρ : Rho} {k : Nat} {Φ : Nat → PyData → Prop} {pos p2 : Pos} {a e : Expr}
end
end Dl

namespace Dl
open PySem PySem.Spec PyProof.Rows L2
/-! ### zip of two tuples -/
section
variable {F : Fm} {C : Cs} {ρ : Rho} {k : Nat} {Φ : Nat → PyData → Prop} {P : DE} {pos spos : Pos} {elt e e2 c : Expr} {scope : Scope} {x x1 : Str} {px px1 p3 pr pr2 : Pos} {kk : Nat}
end
end Dl

namespace Dl
open PySem PySem.Spec PyProof.Rows L2
/-! ### x, y, z = (list(range(a)), e2, e3), the first an own list; the own list against [] -/
section
variable {F : Fm} {C : Cs} {ρ : Rho} {k : Nat} {P : DE} {Φ : Nat → PyData → Prop} {Ψ : Nat → Bool → Prop} {pos p pl p1 p2 p3 p4 pt pr pr2 px pq : Pos} {a e2 e3 : Expr} {x x1 x2 x3 : Str} {kk kt : Nat} {rest : List Stmt} {o : Addr}
end
end Dl

namespace Dl
open PySem PySem.Spec PyProof.Rows L2
/-! ### t.index(i), a tuple of ints -/
def rTupIx (K : PySem.W.Frag) : V → List V → Hp → VK → Prop := fun x xs H Q => ∃ p, ∃ ys : List Int, ∃ (z : Int) (j : Nat), x = .ref p ∧ xs = [.int z] ∧ SqT K H p (ys.map V.int) ∧ ys[j]? = some z ∧ (∀ m, m < j → ys[m]? ≠ some z) ∧ Q (.int (j : Nat)) H
/-! ### t[::-1], a tuple -/
section
variable {prog : Program} {w : World} {A : Around} {E : Value → Shared → Prop} {s : Shared}
end
def tRevT (K : PySem.W.Frag) (te : TE) : TE := fun σ H Q => te σ H fun x H1 => ∃ a xs, x = .ref a ∧ SqT K H1 a xs ∧ ∀ p, H1 p = none → Q (.ref p) (upd H1 p (.tup xs.reverse))
section
variable {F : Fm} {C : Cs} {ρ : Rho} {k : Nat} {Φ : Nat → PyData → Prop} {pos ap cp p1 p2 p3 : Pos} {a e : Expr} {jj : Nat}
end
end Dl

namespace Dl
open PySem PySem.Spec PyProof.Rows L2
/-! ### enumerate over a tuple -/
abbrev et1 (h : Heap) (t : Addr) : Heap := h.push { cls := .type "tuple_iterator", data := .fields #[.ref t, .int 0 0] }
abbrev et2 (h : Heap) (t : Addr) : Heap := (et1 h t).push { cls := .type "enumerate", data := .fields #[.none, .bool false, .ref h.objs.size, rawInt 0, .none, .none] }
set_option maxHeartbeats 1000000 in
theorem meets_et (t : Addr) (xs : Array Value) : Meets (Builtin.«enumerate.__new__» ⟨[.type "enumerate", .ref t], []⟩)
    (fun _ R s => s.heap.IsTuple t xs ∧ R (.ok (.ret (.ref (et1 s.heap t).objs.size))) { s with heap := et2 s.heap t }) :=
  .of_wp fun prog w A R s q => by
    obtain ⟨hp, g, d, tk, os⟩ := s; obtain ⟨q1, q⟩ := q
    have hsub := sub_enumerate
    have T1 : Heap.IsTuple (Shared.heap ⟨hp, g, d, tk, os⟩) t xs := q1
    obtain ⟨o, ho, hc, n, hd⟩ := id q1
    obtain ⟨c0, dct, dt, sl⟩ := o
    replace hc : c0 = .type "tuple" := hc
    replace hd : dt = .seq xs n := hd
    subst hc hd
    wp_walk using AutoSeq1.wpAny_loadPart' ho
    refine wpAny_stack_any (fun sk => wpAny_pure ?_)
    split
    · rename_i c _ _ _ _ _
      cases (c == Value.type "enumerate") <;> (wp_walk using AutoSeq1.wpAny_loadPart' ho, wpAny_pyIter_tuple T1) <;> exact ⟨_, rfl, q⟩
    · wp_walk using AutoSeq1.wpAny_loadPart' ho, wpAny_pyIter_tuple T1
      exact ⟨_, rfl, q⟩
section
variable {prog : Program} {w : World} {A : Around} {E : Value → Shared → Prop} {s : Shared}
theorem call_et {t : Addr} {xs : Array Value} {Q : Value → Shared → Prop} (q1 : s.heap.IsTuple t xs)
    (q : IsEnum (et2 s.heap t) (s.heap.objs.size + 1) s.heap.objs.size 0 .none → (et2 s.heap t).IsTupleIter s.heap.objs.size t 0 → (∀ c o, s.heap.get? c = some o → (et2 s.heap t).get? c = some o) → Q (.ref (s.heap.objs.size + 1)) { s with heap := et2 s.heap t }) :
    wpAny (model prog w) A (call (.type "enumerate") [.ref t]) Q E s := by
  refine callType_new F.called_enumerate (by decide) (F.typeCall_enumerate_1 _) (F.newCall_enumerate_1 _) (fun obj => F.args_object_init_2 obj _) F.entry_enumerate_new (meets_et t xs) ⟨q1, ?_⟩
  have n1 : (et1 s.heap t).objs.size = s.heap.objs.size + 1 := Heap.size_push ..
  have m2 : (et2 s.heap t).get? (et1 s.heap t).objs.size = some _ := Heap.get?_push_size _ rfl
  have m1 : (et2 s.heap t).get? s.heap.objs.size = some _ := Heap.get?_push_of_some _ (Heap.get?_push_size _ rfl)
  rw [n1] at m2
  show _ ∧ _
  rw [n1]
  exact ⟨⟨_, m2, rfl⟩, q m2 ⟨_, m1, rfl, rfl⟩ fun c o e => Heap.get?_push_of_some _ (Heap.get?_push_of_some _ e)⟩
end
def Itet (K : PySem.W.Frag) (a : Addr) : It :=
  ⟨fun i H => ∃ (xs : List V) (x : V), SqT K H a xs ∧ xs[i]? = some x, fun i H v H' => ∃ t x, v = .ref t ∧ H t = none ∧ H' = upd H t (.tup [.int (i : Nat), x]) ∧ ∀ xs, SqT K H a xs → xs[i]? = some x, fun i H => ∃ xs : List V, SqT K H a xs ∧ xs.length = i⟩
theorem turn_et {P : Program} {w : World} {K : PySem.W.Frag} {elts : List Expr} {kk : Nat} {tpos : Pos} (a e it : Addr) (hae : a ≠ e) (hai : a ≠ it) (hei : e ≠ it) :
    Turn P w K (.Tuple elts kk tpos) (Itet K a) [e, it] e (fun i h => (∃ old, IsEnum h e it ((i : Nat) : Int) old) ∧ h.IsTupleIter it a i) where
  mem := by simp
  obj := fun i h st c hc => by
    obtain ⟨⟨old, he⟩, ⟨o, ho, _, hd⟩⟩ := st
    have two : c = e ∨ c = it := by simpa using hc
    rcases two with rfl | rfl
    · exact ⟨_, he, fun v q => nomatch q⟩
    · exact ⟨o, ho, fun v q => by rw [hd] at q; cases q⟩
  keep := fun i h h' st k => by
    obtain ⟨⟨old, he⟩, wt⟩ := st
    exact ⟨⟨old, k e (by simp) _ he⟩, wt.at fun o q => k it (by simp) o q⟩
  item := by
    intro X hP hw hK hc i pins s σ H E I hf st hg
    subst hP hw hK
    obtain ⟨⟨old, he⟩, wt⟩ := st
    obtain ⟨xs, x, sq, hx⟩ := hg
    obtain ⟨its, rv, p, _⟩ := I.tuple sq
    obtain ⟨u, hu, ru⟩ := rv.get hx
    have elt : e < s.heap.objs.size := Heap.lt_size he
    have ilt : it < s.heap.objs.size := by obtain ⟨o, q, _⟩ := wt; exact Heap.lt_size q
    have hi : i < its.toArray.size := by
      have := (List.getElem?_eq_some_iff.mp hu).1
      simpa using this
    have D := Draws.tuple (prog := X.prog) (w := X.w) (A := X.A.in1) (I.ok.hd hc) it a hai its.toArray
    refine wpAny_pyNext_enum_itemD D he ⟨wt, p⟩ hi hei (by simp [hei, Ne.symm hae]) fun y h1 tk hy ho st1 hT hsz hk => ?_
    have ey : y = u := by
      have h2 : its.toArray[i]? = some u := by simpa using hu
      exact Option.some.inj (hy.symm.trans h2)
    subst ey
    refine ⟨_, rfl, wpAny_letOwnedTupleGo_enum (s := { s with heap := h1, toks := tk + 1 }) ho fun h2 he2 sb => ?_⟩
    have hT2 : h2.get? s.heap.objs.size = some { cls := .type "tuple", data := .seq #[.int i tk, y] } := (sb.2 _ (Nat.ne_of_gt elt)).trans hT
    have okn : ObjOk X.prog X.w (upd H s.heap.objs.size (.tup [.int (i : Nat), x])) h2 s.heap.objs.size (.tup [.int (i : Nat), x]) :=
      ⟨by show 2 ≤ sizeLine; decide, [.int i tk, y], .cons ⟨_, rfl⟩ (.cons ru .nil), ⟨_, hT2, rfl, _, rfl⟩⟩
    have V1 : Inv X pins σ (upd H s.heap.objs.size (.tup [.int (i : Nat), x])) { s with heap := h2, toks := tk + 1 } :=
      I.turnedNew (ch := [e, it]) (fun c o nb g => (sb.2 c fun q => nb (by simp [q])).trans (hk c o (fun q => nb (by simp [q])) (fun q => nb (by simp [q])) g)) hf (Nat.le_refl _) okn
    refine ⟨.ref s.heap.objs.size, _, V1, rfl, ⟨_, x, rfl, I.hok.fresh (Nat.le_refl _), rfl, fun ys hy => by rw [I.tuple_inj hy sq]; exact hx⟩, ⟨⟨y, ?_⟩, st1.1.at fun o q => (sb.2 it (Ne.symm hei)).trans q⟩, fun c hcm => ?_⟩
    · have eI : ((i + 1 : Nat) : Int) = (i : Int) + 1 := by omega
      rw [eI]; exact he2
    · have clt : c < s.heap.objs.size := by
        have two : c = e ∨ c = it := by simpa using hcm
        rcases two with rfl | rfl <;> assumption
      rw [upd_ne (Nat.ne_of_lt clt)]
      exact (hf c hcm).1
  done := by
    intro X hP hw hK hc i pins s σ H E I hf st hg
    subst hP hw hK
    obtain ⟨⟨old, he⟩, wt⟩ := st
    obtain ⟨xs, sq, hx⟩ := hg
    obtain ⟨its, rv, p, _⟩ := I.tuple sq
    obtain ⟨f0, f1, f2, f3, f4, f5⟩ := hf it (by simp)
    have hl := rv.length
    have ei : i = its.toArray.size := by rw [← hx, hl]; simp
    have D := Draws.tuple (prog := X.prog) (w := X.w) (A := X.A.in1) (I.ok.hd hc) it a hai its.toArray
    exact wpAny_pyNext_enum_endD D he ⟨ei ▸ wt, p⟩ fun h' eb => ⟨rfl, I.turned (t' := s.toks) (fun b o hb q => eb b o hb q) f0 f1 f3 f4 f5⟩
  self := fun A i s Q E st h => let ⟨⟨_, he⟩, _⟩ := st; wpAny_pyIter_enum he h
def iEt (K : PySem.W.Frag) (ta : TA) : TI := fun σ H R => ta σ H fun vs H1 => ∃ a xs, vs = [.ref a] ∧ SqT K H1 a xs ∧ R (Itet K a) H1
theorem pi_et {X : Cx} {e : Expr} {ta : TA} {p pos tpos : Pos} {elts : List Expr} {kk : Nat} (hg : Gl X "enumerate") (hm : X.mg "enumerate" = none) (ha : PA X [e] ta) (hs : starEach [e] X.env = [(false, eval e X.env)]) :
    PI X (.Tuple elts kk tpos) (.Call (.Name "enumerate" p) [e] [] pos) (iEt X.K ta) := by
  refine ⟨fun pins s σ H R I h => Call_ (ld_blt I hg hm boot_enumerate (PyProof.Rows.callWith_type1 (thn (ha.run pos pins s σ H _ I h) fun us s1 ⟨vs, H1, I1, r1, q1⟩ => ?_) hs rfl))⟩
  obtain ⟨a, xs, rfl, sq, q⟩ := q1
  cases r1 with
  | cons ra rr =>
  cases rr
  cases ra
  obtain ⟨vx, rx, lx, _⟩ := I1.tuple sq
  have lta : a < s1.heap.objs.size := by obtain ⟨o, q, _⟩ := lx; exact Heap.lt_size q
  refine call_et lx fun pe wt kp => wpAny_pyIter_enum pe ?_
  have V2 : Inv X pins σ H1 { s1 with heap := et2 s1.heap a } := I1.kept (t' := s1.toks) kp
  refine ⟨s1.heap.objs.size + 1, [s1.heap.objs.size + 1, s1.heap.objs.size], _, _, H1, rfl, V2, turn_et a (s1.heap.objs.size + 1) s1.heap.objs.size (Nat.ne_of_lt (Nat.lt_succ_of_lt lta)) (Nat.ne_of_lt lta) (Nat.succ_ne_self _), ⟨⟨.none, pe⟩, wt⟩, fun c hcm => ?_, q⟩
  have two : c = s1.heap.objs.size + 1 ∨ c = s1.heap.objs.size := by simpa using hcm
  have ge : s1.heap.objs.size ≤ c := by rcases two with z | z <;> rw [z] <;> first | exact Nat.le_add_right _ _ | exact Nat.le_refl _
  exact I1.fpOk ge (I1.hok.fresh ge)
section
variable {F : Fm} {C : Cs} {ρ : Rho} {k : Nat} {P : DE} {pos p p1 p2 tp : Pos} {a : Expr} {x1 x2 : Str} {kk : Nat} {body : List Stmt}
/-- for x1, x2 in enumerate(a tuple) -/
theorem ws_for_et (i1 i2 : Nat) (t1 : Tgt C i1 x1) (t2 : Tgt C i2 x2) (hK : F.K = C.K) (hg : C.sc.names.lookup ("enumerate" : Str) = some .globalImplicit) (hm : C.mg ("enumerate" : Str) = none)
    (hse : ∀ env : Env, starEach [a] env = [(false, eval a env)]) (hfs : ∀ (env : Env) (v : Value), foldedSetIterable (.Call (.Name "enumerate" p) [a] [] pos) env v = pure v)
    (h : WPE F C a ρ k fun k2 d => ∃ (I : Nat → Nat → Rho → Prop) (ds : List PyData), d = .tuple ds ∧ I 0 k2 ρ ∧
      (∀ (j : Nat) (y : PyData) k' ρ', ds[j]? = some y → I j k' ρ' → WPB F C body ((ρ'.set i1 (.d (.int (j : Int)))).set i2 (.d y)) k' (P.loop (I (j + 1)))) ∧ (∀ k' ρ', I ds.length k' ρ' → P.nx k' ρ')) :
    WPS F C (.For (.Tuple [.Name x1 p1, .Name x2 p2] kk tp) (.Call (.Name "enumerate" p) [a] [] pos) body [] pos) ρ k P :=
  of_ps (t := tFor (iEt C.K (tCons (tE C a) tNil)) (gTup C.K 2 (gCons (gName i1) (gCons (gName i2) gNil))) (tB C body)) (fun X fx => ps_for (by rw [fx.xe]; exact PassesOwn.never) fx.calm
      (by rw [← fx.K]; exact pi_et (by show X.env.scope.names.lookup ("enumerate" : Str) = _; rw [fx.sc]; exact hg) (by rw [fx.mg]; exact hm) (pa_cons (peE fx) pa_nil (hse X.env)) (hse X.env))
      (pgTup (n := 2) fx (pgs_cons (t1.pg fx) (pgs_cons (t2.pg fx) pgs_nil)) (by rfl) (by rfl)) (pbB fx) (hfs X.env)) fun σ H E en j q1 q2 q3 q4 => by
    show tE C a σ H _
    refine h σ H _ en j fun va da k2 H2 l2 j2 ra hh => ?_
    obtain ⟨I, ds, e1, i0, hstep, hend⟩ := hh
    subst e1
    cases ra with
    | @tup pa xs _ ha hra =>
    refine ⟨pa, xs, rfl, hK ▸ sqt_of ha, ?_⟩
    have nx : xs.length = ds.length := hra.length
    refine ⟨fun n m σ' H' => m + n = xs.length ∧ ∃ k' ρ', EnvOk F H' σ' ρ' ∧ J F k' H' ∧ Lz F H2 H' ∧ I n k' ρ', ⟨xs.length, by omega, k2, ρ, en.le l2, j2, .refl, i0⟩, ?_⟩
    rintro n m σ' H' ⟨hm', k', ρ', en', j', lz, ii⟩
    have sqa : SqT C.K H' pa xs := hK ▸ sqt_of (K := F.K) (⟨lz _ _ (Fm.sxA ha.2) ha.1, ha.2⟩ : H' pa = some (.tup xs) ∧ ¬ F.S pa)
    by_cases over : n = xs.length
    · exact .inl ⟨⟨xs, sqa, over.symm⟩, q1 ρ' σ' k' H' (l2.lz.trans lz) en' j' (hend k' ρ' (by rw [← nx, ← over]; exact ii))⟩
    · have lt1 : n < xs.length := by omega
      refine .inr ⟨⟨xs, xs[n], sqa, List.getElem?_eq_getElem lt1⟩, fun σ2 H2' => ∃ k' ρ', EnvOk F H2' σ2 ρ' ∧ J F k' H2' ∧ Lz F H2 H2' ∧ I (n + 1) k' ρ', fun σ2 H2' w => ⟨m - 1, by omega, by omega, w⟩, ?_⟩
      rintro v H3 ⟨t, x, rfl, ht, rfl, fx1⟩
      obtain ⟨dx, hdx, rdx⟩ := hra.got (fx1 xs sqa)
      have lnew : Le F H' (upd H' t (.tup [.int (n : Nat), x])) := .new ht
      have rx2 := (rdx.le lz).le lnew.lz
      refine ⟨t, [.int (n : Nat), x], rfl, .inl (.inl upd_same), rfl, .int (n : Nat), [x], rfl, x, [], rfl, rfl, ?_⟩
      refine hstep n dx k' ρ' hdx ii _ _ _ (((en'.le lnew).set (sv := .d (.int (n : Int))) ⟨_, rfl, .int _⟩).set (sv := .d dx) ⟨_, rfl, rx2⟩) (j'.new ht) ?_ q2 ?_ ?_
      · exact fun ρ2 σ2 k2' H2' l2' e2 j2' p => ⟨k2', ρ2, e2, j2', (lz.trans lnew.lz).trans l2', p⟩
      · exact fun ρ2 σ2 k2' H2' l2' e2 j2' p => q1 ρ2 σ2 k2' H2' (l2.lz.trans ((lz.trans lnew.lz).trans l2')) e2 j2' p
      · exact fun ρ2 σ2 k2' H2' l2' e2 j2' p => ⟨k2', ρ2, e2, j2', (lz.trans lnew.lz).trans l2', p⟩
end
end Dl

namespace Dl
open PySem PySem.Spec PyProof.Rows L2
/-! ### data of any kind in the heap, dicts too -/
section
variable {X : Cx} {pins : List (Addr × Obj)} {σ : L2.St} {H : Hp} {s : Shared}
theorem tup_get {a : Addr} {xs : List V} (I : Inv X pins σ H s) (h : H a = some (.tup xs)) : ∃ (its : Array Value) (o : Obj) (n : Nat), Vals xs its.toList ∧ s.heap.get? a = some o ∧ o.cls = .type "tuple" ∧ o.data = .seq its n := by
  obtain ⟨_, its, r, o, e, c, n, d⟩ := I.hok a _ h
  exact ⟨_, o, n, by simpa using r, e, c, d⟩
theorem kv_reads {P : Program} {w : World} : ∀ {es : List DictEntry} {vs : List (Key × Value)} {kvs : List (Key × V)}, Pairs (mixKind P w) es vs → KV kvs vs → (∀ h : Heap, ReadsAll h (es.map (·.key)) (kvs.map fun p => kP p.1) []) ∧ Vals (kvs.map (·.2)) (es.map (·.val))
  | [], _, _, hp, hk => by
    cases hp
    cases hk
    exact ⟨fun h => .nil, .nil⟩
  | e :: es, _, _, hp, hk => by
    cases hp with
    | @cons _ kv _ kvs hi hv hp =>
    cases hk with
    | @cons p _ ps _ hr hk =>
    obtain ⟨h1, h2⟩ := kv_reads hp hk
    obtain ⟨hr1, hr2⟩ := hr
    refine ⟨fun h => ?_, .cons (show RelV p.2 e.val from hv ▸ hr2) h2⟩
    have hi' : keyIs p.1 e.key = true := by rw [hr1]; exact hi
    refine ReadsAll.cons (as := []) (bs := []) ?_ (h1 h)
    show Reads h e.key (kP p.1) []
    rcases keyIs_shape hi' with ⟨i, t, e1, e2⟩ | ⟨x, t, e1, e2⟩
    · rw [e1, e2]; exact .int i t
    · rw [e1, e2]; exact .str x t
theorem repKV_split {K : PySem.W.Frag} {S : Addr → Prop} : ∀ {es : List (PyData × PyData)} {kvs : List (Key × V)}, RepKV K S H kvs es → es.map (·.1) = kvs.map (fun p => kP p.1)
  | [], _, h => by cases h; rfl
  | _ :: _, _, h => by
    cases h with
    | cons h1 h2 => rw [List.map_cons, List.map_cons, repKV_split h2]
mutual
theorem Rep.reads {K : PySem.W.Frag} {S : Addr → Prop} (I : Inv X pins σ H s) : ∀ (d : PyData) (v : V) (u : Value), Rep K S H v d → RelV v u → ∃ as, Reads s.heap u d as
  | .none, _, _, h, r => by
    cases h
    cases r
    exact ⟨_, .none⟩
  | .bool b, _, _, h, r => by
    cases h
    cases r
    exact ⟨_, .bool b⟩
  | .int i, _, _, h, r => by
    cases h
    obtain ⟨t, rfl⟩ := r
    exact ⟨_, .int i t⟩
  | .str x, _, _, h, r => by
    cases h
    obtain ⟨t, rfl⟩ := r
    exact ⟨_, .str x t⟩
  | .list ds, _, _, h, r => by
    cases h with
    | lst h1 h3 =>
      cases r
      obtain ⟨_, its, n, rv, e⟩ := I.hok _ _ h1.1
      obtain ⟨as, hr⟩ := RepAll.reads I ds _ its h3 rv
      exact ⟨_, .list e rfl rfl hr⟩
  | .tuple ds, _, _, h, r => by
    cases h with
    | tup h1 h3 =>
      cases r
      obtain ⟨its, o, n, rv, e, c, dd⟩ := tup_get I h1.1
      obtain ⟨as, hr⟩ := RepAll.reads I ds _ _ h3 rv
      exact ⟨_, .tuple e c dd hr⟩
  | .dict es, _, _, h, r => by
    cases h with
    | dct h1 h3 =>
      cases r
      obtain ⟨_, _, vs, rk, o, ents, ep, e, ex, dd, _, hp, _⟩ := I.hok _ _ h1.1
      obtain ⟨q1, q2⟩ := kv_reads hp rk
      obtain ⟨bs, hr⟩ := RepKV.reads I es _ _ h3 q2
      exact ⟨_, .dict e ex.1 dd (by rw [repKV_split h3]; exact q1 _) hr⟩
theorem RepAll.reads {K : PySem.W.Frag} {S : Addr → Prop} (I : Inv X pins σ H s) : ∀ (ds : List PyData) (vs : List V) (us : List Value), RepAll K S H vs ds → Vals vs us → ∃ as, ReadsAll s.heap us ds as
  | [], _, _, h, r => by
    cases h
    cases r
    exact ⟨_, .nil⟩
  | d :: ds, _, _, h, r => by
    cases h with
    | cons h1 h2 =>
      cases r with
      | cons r1 r2 =>
        obtain ⟨as, q1⟩ := Rep.reads I d _ _ h1 r1
        obtain ⟨bs, q2⟩ := RepAll.reads I ds _ _ h2 r2
        exact ⟨_, .cons q1 q2⟩
theorem RepKV.reads {K : PySem.W.Frag} {S : Addr → Prop} (I : Inv X pins σ H s) : ∀ (es : List (PyData × PyData)) (kvs : List (Key × V)) (us : List Value), RepKV K S H kvs es → Vals (kvs.map (·.2)) us → ∃ as, ReadsAll s.heap us (es.map (·.2)) as
  | [], _, _, h, r => by
    cases h
    cases r
    exact ⟨_, .nil⟩
  | (p, d) :: es, _, _, h, r => by
    cases h with
    | cons h1 h2 =>
      cases r with
      | cons r1 r2 =>
        obtain ⟨as, q1⟩ := Rep.reads I d _ _ h1 r1
        obtain ⟨bs, q2⟩ := RepKV.reads I es _ _ h2 r2
        exact ⟨_, .cons q1 q2⟩
end
end
/-! ### repr of data of any kind: where the texts come from -/
section
variable {X : Cx} {pins : List (Addr × Obj)} {σ : L2.St} {H : Hp} {s : Shared} {K : PySem.W.Frag} {S : Addr → Prop}
/-- the text of one datum, and the objects that it looks at -/
def TxOk (X : Cx) (h : Heap) (u : Value) (n : Nat) (t : Str) : Prop := ∃ bs, ReadAtMost h n bs ∧ ReprK X.prog X.w bs h n u t
def TxAll (X : Cx) (h : Heap) (us : List Value) (n : Nat) (ts : List Str) : Prop := ∃ bs, ReadAtMost h n bs ∧ ReprAllK X.prog X.w bs h n us ts
theorem txAll_nil {h : Heap} {n : Nat} : TxAll X h [] n [] := ⟨[], fun _ z => (List.not_mem_nil z).elim, .nil⟩
theorem txAll_cons {h : Heap} {u : Value} {us : List Value} {n m : Nat} {t : Str} {ts : List Str} (a : TxOk X h u n t) (b : TxAll X h us m ts) : TxAll X h (u :: us) (max n m) (t :: ts) := by
  obtain ⟨b1, l1, k1⟩ := a
  obtain ⟨b2, l2, k2⟩ := b
  refine ⟨b1 ++ b2, (l1.mono (Nat.le_max_left n m)).append (l2.mono (Nat.le_max_right n m)), .cons ((k1.more fun x hx => ?_).level_le (Nat.le_max_left n m)) (k2.more_le (fun x hx => ?_) (Nat.le_max_right n m))⟩
  · rw [List.mem_append]; exact .inl hx
  · rw [List.mem_append]; exact .inr hx
theorem tx_list {h : Heap} {a : Addr} {o : Obj} {its : List Value} {nn n : Nat} {d : PyData} {as : List Addr} {ts : List Str} (e : h.get? a = some o) (c : o.cls = .type "list") (dt : o.data = .seq its.toArray nn) (r : Reads h (.ref a) d as) (hd : d.depth = n + 1) (x : TxAll X h its n ts) : TxOk X h (.ref a) (n + 1) (listText ts) ∧ ∃ bs, ReadAtMost h n bs ∧ a ∉ bs ∧ ReprAllK X.prog X.w bs h n its ts := by
  obtain ⟨bs, lb, kb⟩ := x
  have na : a ∉ bs := not_mem_of_deeper r (show n < d.depth by omega) lb
  refine ⟨⟨a :: bs, hd ▸ ReadAtMost.cons r (show n ≤ d.depth by omega) lb, ?_⟩, bs, lb, na, kb⟩
  cases its with
  | nil => cases kb; rw [listText_nil]; exact ReprK.listEmpty e c dt
  | cons y ys => exact ReprK.list e c dt na (by have := kb.length_eq; simpa using this) fun i z q => kb.item i z (by simpa using q)
theorem keys_tx {P : Program} {w : World} : ∀ {es : List DictEntry} {vs : List (Key × Value)}, Pairs (mixKind P w) es vs → ∀ (es' : List (PyData × PyData)), es'.map (·.1) = vs.map (fun p => kP p.1) → PyData.showableAll (es'.map (·.1)) = true → (∀ t ∈ PyData.shownAll (es'.map (·.1)), t.length ≤ sizeLine) → (h : Heap) → X.prog = P → X.w = w → TxAll X h (es.map (·.key)) 0 (PyData.shownAll (es'.map (·.1)))
  | [], _, hp, es', he, _, _, h, _, _ => by
    cases hp
    cases es' with
    | nil => exact txAll_nil
    | cons _ _ => cases he
  | e :: es, _, hp, es', he, hs, hz, h, hP, hw => by
    cases hp with
    | @cons _ kv _ kvs hi hv hp =>
    cases es' with
    | nil => cases he
    | cons q qs =>
    rw [List.map_cons, List.map_cons] at he
    injection he with he1 he2
    simp only [List.map_cons, PyData.showableAll, Bool.and_eq_true] at hs
    simp only [List.map_cons, PyData.shownAll] at hz ⊢
    have ih := keys_tx hp qs he2 hs.2 (fun t ht => hz t (List.mem_cons_of_mem _ ht)) h hP hw
    refine txAll_cons (n := 0) (m := 0) ⟨[], fun _ z => (List.not_mem_nil z).elim, ?_⟩ ih
    have hz0 := hz _ List.mem_cons_self
    have hs0 := hs.1
    have hi' : keyIs kv.1 e.key = true := hi
    rw [he1] at hz0 hs0 ⊢
    rcases keyIs_shape hi' with ⟨i, t, e1, e2⟩ | ⟨x, t, e1, e2⟩
    · rw [e1] at hz0 hs0 ⊢; rw [e2]
      simp only [kP, PyData.showable, PyData.shown] at hz0 hs0 ⊢
      exact .of_is (ReprIs.int t (of_decide_eq_true hs0)) _ _ _
    · rw [e1] at hz0 hs0 ⊢; rw [e2]
      simp only [kP, PyData.shown] at hz0 ⊢
      exact .of_is (ReprIs.str x t hz0) _ _ _
theorem kvKeys : ∀ {vs : List (Key × Value)} {kvs : List (Key × V)}, KV kvs vs → vs.map (fun p => kP p.1) = kvs.map (fun p => kP p.1)
  | [], _, hk => by
    cases hk
    rfl
  | _ :: _, _, hk => by
    cases hk with
    | cons hr hk =>
    rw [List.map_cons, List.map_cons, kvKeys hk, hr.1]
mutual
theorem Rep.tx (I : Inv X pins σ H s) : ∀ (d : PyData) (v : V) (u : Value), Rep K S H v d → RelV v u → d.showable = true → d.shown.length ≤ sizeLine → TxOk X s.heap u d.depth d.shown
  | .none, _, _, h, r, _, _ => by
    cases h; cases r
    simp only [PyData.shown]
    exact ⟨[], fun _ z => (List.not_mem_nil z).elim, .of_is ReprIs.none _ _ _⟩
  | .bool b, _, _, h, r, _, _ => by
    cases h; cases r
    simp only [PyData.shown]
    exact ⟨[], fun _ z => (List.not_mem_nil z).elim, .of_is (ReprIs.bool b) _ _ _⟩
  | .int i, _, _, h, r, hs, _ => by
    cases h
    obtain ⟨t, rfl⟩ := r
    simp only [PyData.shown, PyData.showable] at hs ⊢
    exact ⟨[], fun _ z => (List.not_mem_nil z).elim, .of_is (ReprIs.int t (of_decide_eq_true hs)) _ _ _⟩
  | .str x, _, _, h, r, _, hz => by
    cases h
    obtain ⟨t, rfl⟩ := r
    simp only [PyData.shown] at hz ⊢
    exact ⟨[], fun _ z => (List.not_mem_nil z).elim, .of_is (ReprIs.str x t hz) _ _ _⟩
  | .list ds, _, _, h, r, hs, hz => by
    obtain ⟨as, hrd⟩ := Rep.reads I (.list ds) _ _ h r
    cases h with
    | lst h1 h3 =>
      cases r
      obtain ⟨_, its, n, rv, e⟩ := I.hok _ _ h1.1
      simp only [PyData.showable, PyData.shown, PyData.depth] at hs hz ⊢
      have x := RepAll.tx I ds _ its h3 rv hs fun t ht => Nat.le_trans (listText_mem_le ht) hz
      exact (tx_list e rfl rfl hrd (by simp only [PyData.depth]; try omega) x).1
  | .tuple ds, _, _, h, r, hs, hz => by
    obtain ⟨as, hrd⟩ := Rep.reads I (.tuple ds) _ _ h r
    cases h with
    | tup h1 h3 =>
      cases r
      obtain ⟨its, o, n, rv, e, c, dd⟩ := tup_get I h1.1
      simp only [PyData.showable, PyData.shown, PyData.depth] at hs hz ⊢
      obtain ⟨bs, lb, kb⟩ := RepAll.tx I ds _ _ h3 rv hs fun t ht => Nat.le_trans (tupleText_mem_le ht) hz
      have lt : PyData.depthAll ds < (PyData.tuple ds).depth := by simp only [PyData.depth]; omega
      have l2 := ReadAtMost.cons hrd (Nat.le_of_lt lt) lb
      simp only [PyData.depth] at l2
      exact ⟨_, l2, ReprK.tuple e c dd (not_mem_of_deeper hrd lt lb) kb⟩
  | .dict es, _, _, h, r, hs, hz => by
    obtain ⟨as, hrd⟩ := Rep.reads I (.dict es) _ _ h r
    cases h with
    | dct h1 h3 =>
      cases r
      obtain ⟨_, ns, vs, rk, o, ents, ep, e, ex, dd, _, hp, _⟩ := I.hok _ _ h1.1
      obtain ⟨_, q2⟩ := kv_reads hp rk
      simp only [PyData.showable, PyData.shown, PyData.depth] at hs hz ⊢
      obtain ⟨s1, s2⟩ := PyData.showableKv_split es hs
      obtain ⟨b1, l1, k1⟩ := keys_tx (X := X) hp es (by rw [repKV_split h3, kvKeys rk]) s1 (fun t ht => by
        obtain ⟨p, hp, hl⟩ := PyData.shownKv_key_le es t ht
        exact Nat.le_trans hl (Nat.le_trans (dictText_mem_le hp) hz)) s.heap rfl rfl
      obtain ⟨b2, l2, k2⟩ := RepKV.tx I es _ _ h3 q2 s2 (fun t ht => by
        obtain ⟨p, hp, hl⟩ := PyData.shownKv_val_le es t ht
        exact Nat.le_trans hl (Nat.le_trans (dictText_mem_le hp) hz))
      have hv := PyData.depthAll_vals_le es
      have lb : ReadAtMost s.heap (PyData.depthKv es) (b1 ++ b2) := (l1.mono (Nat.zero_le _)).append (l2.mono hv)
      have lt : PyData.depthKv es < (PyData.dict es).depth := by simp only [PyData.depth]; omega
      have l3 := ReadAtMost.cons hrd (Nat.le_of_lt lt) lb
      simp only [PyData.depth] at l3
      refine ⟨_, l3, ?_⟩
      have fin := ReprK.dict e ex.1 dd ns (not_mem_of_deeper hrd lt lb) (ReprEntriesK.of_two ents.toList _ _ (k1.more_le (fun b hb => by rw [List.mem_append]; exact .inl hb) (Nat.zero_le _)) (k2.more_le (fun b hb => by rw [List.mem_append]; exact .inr hb) hv))
      rw [PyData.shownKv_eq]
      exact fin
theorem RepAll.tx (I : Inv X pins σ H s) : ∀ (ds : List PyData) (vs : List V) (us : List Value), RepAll K S H vs ds → Vals vs us → PyData.showableAll ds = true → (∀ t ∈ PyData.shownAll ds, t.length ≤ sizeLine) → TxAll X s.heap us (PyData.depthAll ds) (PyData.shownAll ds)
  | [], _, _, h, r, _, _ => by
    cases h; cases r
    simp only [PyData.shownAll]
    exact txAll_nil
  | d :: ds, _, _, h, r, hs, hz => by
    cases h with
    | cons h1 h2 =>
      cases r with
      | cons r1 r2 =>
        simp only [PyData.showableAll, Bool.and_eq_true] at hs
        simp only [PyData.shownAll, PyData.depthAll] at hz ⊢
        exact txAll_cons (Rep.tx I d _ _ h1 r1 hs.1 (hz _ List.mem_cons_self)) (RepAll.tx I ds _ _ h2 r2 hs.2 fun t ht => hz t (List.mem_cons_of_mem _ ht))
theorem RepKV.tx (I : Inv X pins σ H s) : ∀ (es : List (PyData × PyData)) (kvs : List (Key × V)) (us : List Value), RepKV K S H kvs es → Vals (kvs.map (·.2)) us → PyData.showableAll (es.map (·.2)) = true → (∀ t ∈ PyData.shownAll (es.map (·.2)), t.length ≤ sizeLine) → TxAll X s.heap us (PyData.depthAll (es.map (·.2))) (PyData.shownAll (es.map (·.2)))
  | [], _, _, h, r, _, _ => by
    cases h; cases r
    simp only [List.map_nil, PyData.shownAll]
    exact txAll_nil
  | (p, d) :: es, _, _, h, r, hs, hz => by
    cases h with
    | cons h1 h2 =>
      cases r with
      | cons r1 r2 =>
        simp only [List.map_cons, PyData.showableAll, Bool.and_eq_true] at hs
        simp only [List.map_cons, PyData.shownAll, PyData.depthAll] at hz ⊢
        exact txAll_cons (Rep.tx I d _ _ h1 r1 hs.1 (hz _ List.mem_cons_self)) (RepKV.tx I es _ _ h2 r2 hs.2 fun t ht => hz t (List.mem_cons_of_mem _ ht))
end
end
/-- repr of any data -/
theorem reprA {X : Cx} {C : Cs} (fx : Fits C X) : CallR X (.builtin "repr") (fun xs H Q => ∃ v d, ∃ S : Addr → Prop, xs = [v] ∧ Rep C.K S H v d ∧ d.showable = true ∧ d.depth ≤ 60 ∧ d.shown.length ≤ sizeLine ∧ Q (.str d.shown) H) := by
  intro pins s σ H vs us Q I rv h
  obtain ⟨v, d, S, e, hd, sh, dp, sz, q⟩ := h
  subst e
  obtain ⟨u, rfl, ru⟩ := vals1 rv
  have un := fx.room.units
  have hd0 := hd
  cases hd with
  | non => cases ru; exact P.repr_of_none ⟨.str _, H, I.tok _, ⟨_, rfl⟩, q⟩
  | bl b => cases ru; exact P.repr_of_bool ⟨.str _, H, I.tok _, ⟨_, rfl⟩, q⟩
  | int i => obtain ⟨t, rfl⟩ := ru; exact P.repr_of_int (of_decide_eq_true sh) ⟨.str _, H, I.tok _, ⟨_, rfl⟩, q⟩
  | str x => obtain ⟨t, rfl⟩ := ru; exact P.repr_of_str ⟨.str _, H, I.tok _, ⟨_, rfl⟩, q⟩ sz
  | @lst a xs ds h1 h3 =>
    obtain ⟨as, hrd⟩ := Rep.reads I (.list ds) _ _ hd0 ru
    cases ru
    obtain ⟨_, its, n, rv, e⟩ := I.hok _ _ h1.1
    simp only [PyData.showable, PyData.shown, PyData.depth] at sh sz dp q
    have x := RepAll.tx I ds _ its h3 rv sh fun t ht => Nat.le_trans (listText_mem_le ht) sz
    obtain ⟨_, bs, lb, na, kb⟩ := tx_list (d := .list ds) e rfl rfl hrd (by simp only [PyData.depth]; try omega) x
    refine call_repr_slot (by omega) ⟨_, e, rfl⟩ F.slot_list_repr.toG ?_
    generalize PyData.shownAll ds = sa at kb q sz
    cases its with
    | nil =>
      cases kb
      rw [listText_nil] at q
      exact call_list_repr_empty ⟨_, e, rfl⟩ e rfl ⟨_, _, rfl, ⟨.str _, H, I.tok _, ⟨_, rfl⟩, q⟩⟩
    | cons y ys => exact call_list_reprK e rfl rfl na (by have := kb.length_eq; simpa using this) (fun i z p => kb.item i z (by simpa using p)) fx.gd (fun b _ => Clear.nil b) (by show X.A.units + 1 + _ < cLine; omega) (fun _ _ z => z) (fun h' u tk hk => ⟨_, _, rfl, ⟨.str _, H, I.kept hk, ⟨_, rfl⟩, q⟩⟩) sz
  | @tup a xs ds h1 h3 =>
    obtain ⟨as, hrd⟩ := Rep.reads I (.tuple ds) _ _ hd0 ru
    cases ru
    obtain ⟨its, o, n, rv, e, c, dd⟩ := tup_get I h1.1
    have lt : PyData.depthAll ds < (PyData.tuple ds).depth := by simp only [PyData.depth]; omega
    simp only [PyData.showable, PyData.shown, PyData.depth] at sh sz dp q
    obtain ⟨bs, lb, kb⟩ := RepAll.tx I ds _ _ h3 rv sh fun t ht => Nat.le_trans (tupleText_mem_le ht) sz
    refine call_repr_slot (by omega) ⟨_, e, c⟩ F.slot_tuple_repr ?_
    exact call_tuple_reprK e c dd (not_mem_of_deeper hrd lt lb) kb fx.gd (fun b _ => Clear.nil b) (by show X.A.units + 1 + _ < cLine; omega) (fun _ _ z => z) (fun h' u tk hk => ⟨_, _, rfl, ⟨.str _, H, I.kept hk, ⟨_, rfl⟩, q⟩⟩) sz
  | @dct a kvs es h1 h3 =>
    obtain ⟨as, hrd⟩ := Rep.reads I (.dict es) _ _ hd0 ru
    cases ru
    obtain ⟨_, ns, vs, rk, o, ents, ep, e, ex, dd, _, hp, _⟩ := I.hok _ _ h1.1
    obtain ⟨_, q2⟩ := kv_reads hp rk
    have lt : PyData.depthKv es < (PyData.dict es).depth := by simp only [PyData.depth]; omega
    simp only [PyData.showable, PyData.shown, PyData.depth] at sh sz dp q
    obtain ⟨s1, s2⟩ := PyData.showableKv_split es sh
    obtain ⟨b1, l1, k1⟩ := keys_tx (X := X) hp es (by rw [repKV_split h3, kvKeys rk]) s1 (fun t ht => by
      obtain ⟨p, hp, hl⟩ := PyData.shownKv_key_le es t ht
      exact Nat.le_trans hl (Nat.le_trans (dictText_mem_le hp) sz)) s.heap rfl rfl
    obtain ⟨b2, l2, k2⟩ := RepKV.tx I es _ _ h3 q2 s2 (fun t ht => by
      obtain ⟨p, hp, hl⟩ := PyData.shownKv_val_le es t ht
      exact Nat.le_trans hl (Nat.le_trans (dictText_mem_le hp) sz))
    have hv := PyData.depthAll_vals_le es
    have lb : ReadAtMost s.heap (PyData.depthKv es) (b1 ++ b2) := (l1.mono (Nat.zero_le _)).append (l2.mono hv)
    rw [PyData.shownKv_eq] at sz q
    refine call_repr_slot (by omega) ⟨_, e, ex.1⟩ F.slot_dict_repr ?_
    exact call_dict_reprK e ex.1 dd ns (not_mem_of_deeper hrd lt lb) (ReprEntriesK.of_two ents.toList _ _ (k1.more_le (fun b hb => by rw [List.mem_append]; exact .inl hb) (Nat.zero_le _)) (k2.more_le (fun b hb => by rw [List.mem_append]; exact .inr hb) hv)) fx.gd (fun b _ => Clear.nil b) (by show X.A.units + 1 + _ < cLine; omega) (fun _ _ z => z) (fun h' u tk hk => ⟨_, _, rfl, ⟨.str _, H, I.kept hk, ⟨_, rfl⟩, q⟩⟩) sz
section
variable {F : Fm} {C : Cs} {ρ : Rho} {k : Nat} {Φ : Nat → PyData → Prop} {Ψ : Nat → Bool → Prop} {e a b c : Expr} {pos p p1 p2 : Pos} {x : Str}
theorem we_reprA (hK : F.K = C.K) (hg : C.sc.names.lookup ("repr" : Str) = some .globalImplicit) (hm : C.mg ("repr" : Str) = none) (hs : ∀ env : Env, starEach [e] env = (false, eval e env) :: starEach [] env) (h : WPE F C e ρ k fun k1 d => (d.showable = true ∧ d.depth ≤ 60 ∧ d.shown.length ≤ sizeLine) ∧ Φ k1 (.str d.shown)) : WPE F C (.Call (.Name "repr" p) [e] [] pos) ρ k Φ :=
  we_callB (id := "repr") (fun X fx => reprA fx) hg hm (by decide +kernel) (wa_one hs (h.imp fun k1 x ⟨⟨s1, s3, s4⟩, p⟩ => fun H vs Q j r q => by
    cases r with
    | cons r1 r2 =>
    cases r2
    exact ⟨_, x, F.S, rfl, hK ▸ r1, s1, s3, s4, q _ _ k1 H .refl j (.str _) p⟩)) (by decide) (by decide) hs
/-- {} -/
theorem we_dict0 (h : Φ k (.dict [])) : WPE F C (.Dict [] [] pos) ρ k Φ :=
  of_pe (fun X fx => pe_dnewK) fun σ H Q en j q => fun p hp => q _ (.dict []) k _ (.new hp) (j.new hp) (.dct ⟨upd_same, j.fresh hp⟩ .nil) h
end
section
variable {F : Fm} {C : Cs} {ρ : Rho} {k : Nat} {Φ : Nat → PyData → Prop} {pos p2 : Pos} {a e : Expr}
end
/-! ### data whose repr is within the line, dicts too -/
structure FineA (n dp : Nat) (d : PyData) : Prop where
  sh : d.showable = true
  dp : d.depth ≤ dp
  sz : d.shown.length ≤ n
theorem FineA.ok {n dp : Nat} {d : PyData} (h : FineA n dp d) (hn : n ≤ 16000000 := by decide) (hd : dp ≤ 60 := by decide) : d.showable = true ∧ d.depth ≤ 60 ∧ d.shown.length ≤ sizeLine :=
  ⟨h.sh, Nat.le_trans h.dp hd, Nat.le_trans h.sz (Nat.le_trans hn (by decide))⟩
theorem FineA.mono {n n' dp dp' : Nat} {d : PyData} (h : FineA n dp d) (hn : n ≤ n' := by decide) (hd : dp ≤ dp' := by decide) : FineA n' dp' d := ⟨h.sh, Nat.le_trans h.dp hd, Nat.le_trans h.sz hn⟩
theorem Fine.a {n dp : Nat} {d : PyData} (h : Fine n dp d) : FineA n dp d := ⟨h.sh, h.dp, h.sz⟩
section
variable {n dp : Nat}
end
end Dl

namespace Dl
open PySem PySem.Spec PyProof.Rows L2
/-! ### the frame of a law with decks -/
def drawFmX (K : PySem.W.Frag) (S : Addr → Prop) (H : Hp) (st a : Addr) (hS : ∀ b, DqM st a b → S b) : Fm where
  K := K
  S := S
  M := DqM st a
  H0 := H
  G := fun k H' => DqG st a k H' ∧ ∀ b o, ¬ DqM st a b → IsX o → H b = some o → ∃ o', IsX o' ∧ H' b = some o'
  ms := hS
  gm := fun k H' H2 g e hx => ⟨g.1.at e, fun b o nb x q => by
    obtain ⟨o', x', q'⟩ := g.2 b o nb x q
    exact ⟨o', x', hx b o' (.inl x') q'⟩⟩
  gl := fun k H g b hb => g.1.live b hb
  X := IsX
  xi := fun _ h => h
  xa := fun k H' g b o nb x q => g.2 b o nb x q
theorem drawFmX_has {K : PySem.W.Frag} {S : Addr → Prop} {H : Hp} {st a : Addr} {hS : ∀ b, DqM st a b → S b} : HasDq (drawFmX K S H st a hS) st a id where
  ms := fun b hb => hb
  get := fun n H g => g.1
  put := fun n n' H1 H2 g d keep => ⟨d, fun b o nb x q => by
    obtain ⟨o', x', q'⟩ := g.2 b o nb x q
    exact ⟨o', x', keep b o' nb q'⟩⟩
section
variable {P : Program} {w : World} {K : PySem.W.Frag} {mg : Str → Option Value} {base : Heap}
theorem lawQX_ok {qual : Str} {st : Stmt} {f : Addr} {fd : FuncData} {N : List Str} {k j : Nat} {xs xd xt : Str} {p1 p2 p3 p4 p5 : Pos} {rest : List Stmt} (Fn : Fun K "law" qual st f fd) (Sc : FnScope N [xs] (defScope st)) (hbody : defBody st = .Assign [.Name xt p1] (.Call (.Name xd p2) [.Name xs p3] [] p4) p5 :: rest)
    (gd : ∃ (fa : Addr) (fdd : FuncData), FnG P w K mg base j fa fdd [xs] (spDeck K) ∧ mg xd = some (.ref fa) ∧ PySem.W.keepIn K (.ref fa) = true ∧ L2.Binds K fdd [xs] []) (hj : j ≤ k)
    (h0 : N[0]? = some xs) (h1 : N[1]? = some xt) (vs : Vis (defScope st) xs) (lt : Loc (defScope st) xt) (gl : (defScope st).names.lookup xd = some .globalImplicit)
    (hsw : ∀ env : Env, swapsWith (.Call (.Name xd p2) [.Name xs p3] [] p4) (some (.Name xt p1)) p5.line env = pure false)
    (body : ∀ (F : Fm) (s a : Addr), HasDq F s a id → F.X = IsX → F.K = K → WPB F (bodyCs P w K mg base N (defScope st) k) rest (.un :: .raw (.ref s) :: List.replicate (N.length - 2) SV.un) 900000 { nx := fun _ _ => False, rt := fun _ d => d = .bool true, bk := fun _ _ => False, ct := fun _ _ => False })
    (hdb : (xd == ("__debug__" : Str)) = false := by decide) (hdb2 : (xs == ("__debug__" : Str)) = false := by decide) (hcd : (xs == ("__classdict__" : Str)) = false := by decide) : FnG P w K mg base (k + 1) f fd [xs] (spLaw K) := by
  obtain ⟨fa, fdd, G, hm, kp, hb⟩ := gd
  refine FnG.of_body Fn Sc (fun vs H Q E h => ?_) (fun cdv A outer s H vs Q hgd hr h => ?_)
  · obtain ⟨sc, ns, rfl, _⟩ := h
    rfl
  obtain ⟨sc, ns, rfl, hS, hlen, q⟩ := h
  have fx := fits_body (CX := CX0) (P := P) (w := w) (K := K) (mg := mg) (base := base) (N := N) (outer := outer) (s := s) (H := H) (E := E0) hgd hr
  rw [hbody]
  have hN0 : 2 ≤ N.length := by
    have := (List.getElem?_eq_some_iff.mp h1).1
    omega
  refine ⟨_, pss_cons (ps_set (i := 1) Sc.nd h1 lt (FnG.pe G hgd (hr.mono hj) hb gl hm kp (pa_cons (pe_var (i := 0) h0 vs hdb2 hcd) pa_nil) hdb rfl rfl) (hsw _) (.inl rfl)) (pbB fx), ?_⟩
  have est : L2.start N [.ref sc] = some (.ref sc) :: none :: List.replicate (N.length - 2) none := by
    unfold L2.start
    show some (V.ref sc) :: List.replicate (N.length - 1) none = _
    rw [show N.length - 1 = (N.length - 2) + 1 by omega]; rfl
  rw [est]
  refine ⟨.ref sc, rfl, sc, ns, rfl, hS, hlen, fun H' st a sm hst ha g => ?_⟩
  refine body (drawFmX K (DqM st a) H' st a (fun b hb => hb)) st a drawFmX_has rfl rfl (some (.ref sc) :: some (.ref st) :: List.replicate (N.length - 2) none) H' _ (fun i sv e => ?_) ⟨⟨g, fun b o _ x q => ⟨o, x, q⟩⟩, fun b o _ e => e, fun b hb => g.lv b hb⟩ ?_ ?_ ?_ ?_
  · match i, e with
    | 0, e => cases e; exact ⟨_, rfl, trivial⟩
    | 1, e => cases e; exact ⟨_, rfl, rfl⟩
    | i + 2, e =>
      have e' : (List.replicate (N.length - 2) SV.un)[i]? = some sv := e
      rw [List.getElem?_replicate] at e'
      by_cases hi : i < N.length - 2
      · rw [if_pos hi] at e'
        cases e'
        exact ⟨none, by show (List.replicate (N.length - 2) none)[i]? = _; rw [List.getElem?_replicate, if_pos hi], trivial⟩
      · rw [if_neg hi] at e'; cases e'
  · exact fun _ _ _ _ _ _ _ z => z.elim
  · exact fun v d k' H2 _ rv e => by subst e; cases rv; exact q H2
  · exact fun _ _ _ _ _ _ _ z => z.elim
  · exact fun _ _ _ _ _ _ _ z => z.elim
end
/-! ### *xs in a display; f-strings -/
section
variable {F : Fm} {C : Cs} {ρ : Rho} {k : Nat} {Φ : Nat → PyData → Prop} {Ψ : Nat → Bool → Prop} {e a : Expr} {es : List Expr} {pos p : Pos}
theorem wa_star {Φ : Nat → List PyData → Prop} (hK : F.K = C.K) (hs : ∀ env : Env, starEach (.Starred e p :: es) env = (true, eval e env) :: starEach es env) (h : WPE F C e ρ k fun k1 x => ∃ ds, seqD x = some ds ∧ WPA F C es ρ k1 fun k2 xs => Φ k2 (ds ++ xs)) : WPA F C (.Starred e p :: es) ρ k Φ :=
  of_pa (fun X fx => by have := StX.pa_star (p := p) (peE (e := e) fx) (paA (es := es) fx) (hs X.env); rw [fx.K] at this; exact this) fun σ H Q en j q => by
    show tE C e σ H _
    refine h σ H _ en j fun v x k1 H1 l1 j1 r1 ⟨ds, hx, hh⟩ => ?_
    cases r1 with
    | @lst a xs _ ha hr =>
      cases hx
      refine ⟨a, xs, rfl, .inr (hK ▸ sql_of ha), ?_⟩
      exact hh σ H1 _ (en.le l1) j1 fun vs ys k2 H2 l2 j2 r2 hp => q _ _ k2 H2 (l1.trans l2) j2 (RepAll.append (hr.le l2.lz) r2) hp
    | @tup a xs _ ha hr =>
      cases hx
      refine ⟨a, xs, rfl, .inl (hK ▸ sqt_of ha), ?_⟩
      exact hh σ H1 _ (en.le l1) j1 fun vs ys k2 H2 l2 j2 r2 hp => q _ _ k2 H2 (l1.trans l2) j2 (RepAll.append (hr.le l2.lz) r2) hp
    | _ => cases hx
def WJ (F : Fm) (C : Cs) (es : List Expr) (ρ : Rho) (k : Nat) (acc : Str) (Θ : Nat → Str → Prop) : Prop :=
  ∃ ts, (∀ X, Fits C X → PJ X es ts) ∧ ∀ (σ : L2.St) (H : Hp) (Q : Str → Hp → Prop), EnvOk F H σ ρ → J F k H → (∀ out k' H', Le F H H' → J F k' H' → Θ k' out → Q out H') → tJs ts acc σ H Q
def jt (C : Cs) : Expr → TE
  | .Constant (.str x) _ _ => tC (.str x)
  | .FormattedValue e _ _ _ => tFmt (tE C e)
  | _ => fun _ _ _ => False
def isJ : Expr → Bool
  | .Constant (.str _) _ _ => true
  | .FormattedValue _ c none _ => decide (c = -1)
  | _ => false
def WKJ (F : Fm) (C : Cs) (es : List Expr) (ρ : Rho) (k : Nat) (acc : Str) (Θ : Nat → Str → Prop) : Prop :=
  ∀ (σ : L2.St) (H : Hp) (Q : Str → Hp → Prop), EnvOk F H σ ρ → J F k H → (∀ out k' H', Le F H H' → J F k' H' → Θ k' out → Q out H') → tJs (es.map (jt C)) acc σ H Q
/-- x is not None -/
theorem wt_notN {jj : Nat} {p' : Pos} (h : WPE F C a ρ k fun k1 x => Ψ k1 (!isNone x)) : WPT F C (.Compare a [.IsNot] [.Constant .none jj p'] pos) ρ k Ψ :=
  of_pt (fun X fx => pt_cmp (pc_notN (peE fx)) rfl) fun σ H Q en j q => h σ H _ en j fun v d k1 H1 l1 j1 r p => by
    refine ⟨!isNone d, ?_, q _ k1 H1 l1 j1 p⟩
    rw [dec_non r]
end
end Dl

namespace Dl
open PySem PySem.Spec PyProof.Rows L2
/-! ### __init__ of a deck -/
def initFm (K : PySem.W.Frag) (S : Addr → Prop) (H0 : Hp) (C a dx : Addr) (d : Nat × List Int) : Fm where
  K := K
  S := fun b => S b ∨ b = a ∨ b = dx
  M := fun b => b = a ∨ b = dx
  H0 := H0
  G := fun k H => (k = 0 ∧ H a = some (.ins C dx []) ∧ H dx = some (.own a)) ∨ (k = 1 ∧ ∃ s t, PiG K C a dx s t ([d], []) H ∧ H0 s = none ∧ H0 t = none)
  ms := fun b h => .inr h
  gm := fun k H H' g hm hx => by
    rcases g with ⟨e, h1, h2⟩ | ⟨e, s, t, h, hs, ht⟩
    · exact .inl ⟨e, (hm a (.inl rfl)).trans h1, (hm dx (.inr rfl)).trans h2⟩
    · exact .inr ⟨e, s, t, h.at (hm a (.inl rfl)) (hm dx (.inr rfl)) hx, hs, ht⟩
  gl := fun k H g b hb => by
    rcases g with ⟨e, h1, h2⟩ | ⟨e, s, t, h, hs, ht⟩
    · rcases hb with rfl | rfl
      · rw [h1]; exact fun z => nomatch z
      · rw [h2]; exact fun z => nomatch z
    · rcases hb with rfl | rfl
      · rw [h.ia]; exact fun z => nomatch z
      · rw [h.id]; exact fun z => nomatch z
structure IsInit (F : Fm) (C a dx : Addr) (d : Nat × List Int) : Prop where
  ex : ∃ S H0, F = initFm F.K S H0 C a dx d
section
variable {P : Program} {w : World} {K : PySem.W.Frag} {mg : Str → Option Value} {base : Heap} {C : Addr}
theorem init_ok {x qual : Str} {st : Stmt} {f : Addr} {fd : FuncData} {N : List Str} {k : Nat} {x1 x2 : Str} {Ok : Nat × List Int → Prop} (Fn : Fun K x qual st f fd) (Sc : FnScope N [x1, x2] (defScope st))
    (body : ∀ (F : Fm) (a dx : Addr) (d : Nat × List Int), IsInit F C a dx d → F.K = K → Ok d → WPB F (bodyCs P w K mg base N (defScope st) k) (defBody st) (.raw (.ref a) :: ([boxP d].map SV.d ++ List.replicate (N.length - 2) SV.un)) 0 { nx := fun k' _ => k' = 1, rt := fun _ _ => False, bk := fun _ _ => False, ct := fun _ _ => False }) :
    FnG P w K mg base (k + 1) f fd [x1, x2] (spInit K C Ok) := by
  refine FnG.of_body Fn Sc (fun vs H Q E h => ?_) (fun cdv A outer s H vs Q hgd hr h => ?_)
  · obtain ⟨S, a, dx, v, d, rfl, _⟩ := h
    rfl
  · obtain ⟨S, a, dx, v, d, rfl, ha, hd, al, rv, ok, q⟩ := h
    refine ⟨_, pbB (fits_body hgd hr), ?_⟩
    have al2 : ∀ b, (S b ∨ b = a ∨ b = dx) → Lv H b := fun b hb => by
      rcases hb with hb | rfl | rfl
      · exact al b hb
      · exact ⟨_, ha, fun _ z => nomatch z⟩
      · exact ⟨_, hd, fun _ z => nomatch z⟩
    obtain ⟨va, rfl, rt⟩ := tr_box rv
    have r2 : RepAll K (fun b => S b ∨ b = a ∨ b = dx) H [.ref va] [boxP d] := .cons (rt.rep al2) .nil
    refine body (initFm K S H C a dx d) a dx d ⟨S, H, rfl⟩ rfl ok (L2.start N (.ref a :: [.ref va])) H _ (env_raw (F := initFm K S H C a dx d) r2) ⟨.inl ⟨rfl, ha, hd⟩, fun b o _ e => e, al2⟩ ?_ ?_ ?_ ?_
    · rintro ρ' σ' k' H' _ _ j' e
      have e : k' = 1 := e
      subst e
      rcases j'.g with ⟨e, _⟩ | ⟨_, s, t, pg, hs, ht⟩
      · cases e
      refine q s t H' (fun b o nb e => ?_) hs ht pg
      by_cases hb : b = dx
      · subst hb; rw [hd] at e; rw [pg.id]; exact e
      · exact j'.le b o (fun z => z.elim (fun z => z.elim nb hb) id) e
    · exact fun _ _ _ _ _ _ z => z.elim
    · exact fun _ _ _ _ _ _ _ z => z.elim
    · exact fun _ _ _ _ _ _ _ z => z.elim
end
section
variable {X : Cx}
/-- two lists come to rest, known to their owner alone -/
theorem pss_asExt {st : List Stmt} {t : TS} (h : PSs X st t) : PSs X st (fun D σ H => t { D with nx := fun σ' H' => ∃ (p q : Addr) (as bs : List Addr), H' p = some (.lst (as.map V.ref)) ∧ H' q = some (.lst (bs.map V.ref)) ∧ p ≠ q ∧ D.nx σ' (upd (upd H' p (extL p as)) q (extL q bs)) } σ H) := by
  refine ⟨fun pins s σ H D I hh => wpAny_mono (h.run pins s σ H _ I hh) ?_ fun _ _ z => z⟩
  intro f s' hs
  cases f with
  | next =>
    obtain ⟨σ', H', I', p, q, as, bs, hp, hq, hne, hn⟩ := hs
    exact ⟨σ', _, inv_asExt (inv_asExt I' hp) (by rw [upd_ne hne.symm]; exact hq), hn⟩
  | _ => exact hs
end
theorem psFld {C : Cs} {X : Cx} (fx : Fits C X) {o e : Expr} {f : Str} {ta tv : TE} {pos' pos : Pos} (ho : PE X o ta) (hv : PE X e tv) (hs : swapsWith e (some (.Attribute o f pos')) pos.line X.env = pure false) : PS X (.Assign [.Attribute o f pos'] e pos) (sFld C.K ta tv f) := by
  rw [← fx.K]; exact ps_fld ho hv hs
theorem putF_done {v x : V} : putF "done" v [(("states" : Str), x)] = [(("states" : Str), x), (("done" : Str), v)] := by
  unfold putF
  rw [if_neg (by decide +kernel)]
  rfl
section
variable {F : Fm} {C : Cs} {Cl a dx : Addr} {ρ : Rho} {P : DE} {y z : Str} {p1 p2 p3 p4 p5 p6 p7 p8 p9 : Pos} {d : Nat × List Int}
/-- self.states = [box]; self.done = [] -/
theorem wb_initEnd (pc : PiC C.K Cl) (ini : IsInit F Cl a dx d) (hK : F.K = C.K) (i j : Nat) (hN : C.N[i]? = some y) (hv : Vis C.sc y) (hr : ρ[i]? = some (.raw (.ref a))) (hN2 : C.N[j]? = some z) (hv2 : Vis C.sc z) (hr2 : ρ[j]? = some (.d (boxP d)))
    (hs1 : ∀ env : Env, swapsWith (.List [.Name z p3] p4) (some (.Attribute (.Name y p1) "states" p2)) p5.line env = pure false) (hs2 : ∀ env : Env, swapsWith (.List [] p8) (some (.Attribute (.Name y p6) "done" p7)) p9.line env = pure false)
    (h : P.nx 1 ρ) (hse : ∀ env : Env, starEach [.Name z p3] env = (false, eval (.Name z p3) env) :: starEach [] env := by intro _; rfl)
    (hd : (y == ("__debug__" : Str)) = false := by decide) (hcd : (y == ("__classdict__" : Str)) = false := by decide) (hd2 : (z == ("__debug__" : Str)) = false := by decide) (hcd2 : (z == ("__classdict__" : Str)) = false := by decide) :
    WPB F C [.Assign [.Attribute (.Name y p1) "states" p2] (.List [.Name z p3] p4) p5, .Assign [.Attribute (.Name y p6) "done" p7] (.List [] p8) p9] ρ 0 P :=
  of_pb (fun X fx => pss_asExt (pss_cons (psFld fx (pe_var (i := i) (by rw [fx.N]; exact hN) (by rw [fx.sc]; exact hv) hd hcd) (pe_lst (pa_cons (pe_var (i := j) (by rw [fx.N]; exact hN2) (by rw [fx.sc]; exact hv2) hd2 hcd2) pa_nil (hse X.env))) (hs1 X.env)) (pss_one (psFld fx (pe_var (i := i) (by rw [fx.N]; exact hN) (by rw [fx.sc]; exact hv) hd hcd) (pe_lst pa_nil) (hs2 X.env))))) fun σ H E en jj q1 q2 q3 q4 => by
    obtain ⟨S, H0, hF⟩ := ini.ex
    obtain ⟨K', hK'⟩ : ∃ K', K' = F.K := ⟨_, rfl⟩
    rw [← hK'] at hF hK
    subst hF
    rcases jj.g with ⟨_, ha, hdx⟩ | ⟨e, _⟩
    rotate_left
    · cases e
    obtain ⟨v, ev, rv⟩ := en.d hr2
    obtain ⟨va, rfl, rt⟩ := tr_box rv
    have ned : dx ≠ a := ne_of hdx ha (fun z => nomatch z)
    refine ⟨.ref va, ev, by show 1 ≤ sizeLine; decide, fun p hp => ?_⟩
    have npa : p ≠ a := (ne_of_none ha hp).symm
    have npd : p ≠ dx := (ne_of_none hdx hp).symm
    refine ⟨.ref a, en.raw hr, a, Cl, dx, [], rfl, by rw [upd_ne npa.symm]; exact ha, pc.cl, pc.ns, by decide, ?_⟩
    refine ⟨by show 0 ≤ sizeLine; decide, fun q hq => ?_⟩
    have nqa : q ≠ a := fun z => by rw [z, upd_same] at hq; cases hq
    rw [upd_ne nqa] at hq
    have nqp : q ≠ p := fun z => by rw [z, upd_same] at hq; cases hq
    rw [upd_ne nqp] at hq
    have nqd : q ≠ dx := (ne_of_none hdx hq).symm
    refine ⟨.ref a, en.raw hr, a, Cl, dx, [("states", .ref p)], rfl, by rw [upd_ne nqa.symm, upd_same]; rfl, pc.cl, pc.nd, by show 1 < 1000; decide, ?_⟩
    rw [putF_done]
    refine ⟨p, q, [va], [], by rw [upd_ne npa, upd_ne nqp.symm, upd_ne npa, upd_same]; rfl, by rw [upd_ne nqa, upd_same]; rfl, nqp.symm, ?_⟩
    generalize hH : upd (upd (upd (upd (upd (upd H p (.lst [.ref va])) a (.ins Cl dx (putF "states" (.ref p) []))) q (.lst [])) a (.ins Cl dx [("states", .ref p), ("done", .ref q)])) p (extL p [va])) q (extL q []) = H5
    have hk : ∀ b, b ≠ a → b ≠ p → b ≠ q → H5 b = H b := fun b h1 h2 h3 => by rw [← hH, upd_ne h3, upd_ne h2, upd_ne h1, upd_ne h3, upd_ne h1, upd_ne h2]
    have hka : H5 a = some (.ins Cl dx [("states", .ref p), ("done", .ref q)]) := by rw [← hH, upd_ne nqa.symm, upd_ne npa.symm, upd_same]
    have hkp : H5 p = some (extL p [va]) := by rw [← hH, upd_ne nqp.symm, upd_same]
    have hkq : H5 q = some (extL q []) := by rw [← hH, upd_same]
    have old : ∀ b o, b ≠ a → H b = some o → H5 b = some o := fun b o nb e => by rw [hk b nb (ne_of_none e hp) (ne_of_none e hq)]; exact e
    have pg : PiG K' Cl a dx p q ([d], []) H5 := ⟨hka, old dx _ ned hdx, nqp.symm, ⟨[va], hkp, .cons (rt.keep fun b xs e => old b _ (fun z => by rw [z, ha] at e; cases e) e) .nil⟩, ⟨[], hkq, .nil⟩, by show 1 ≤ 1000; decide, by show 0 ≤ 1000; decide⟩
    have hM : ∀ b, ¬ (initFm K' S H0 Cl a dx d).M b → b ≠ a := fun b z e => z (.inl e)
    have le : Le (initFm K' S H0 Cl a dx d) H H5 := fun b o n e => old b o (hM b fun z => n (.inl z)) e
    refine q1 ρ σ 1 H5 le.lz (en.le le) ⟨.inr ⟨rfl, p, q, pg, jj.h0 (fun z => z.elim npa npd) hp, jj.h0 (fun z => z.elim nqa nqd) hq⟩, fun b o n e => le b o n (jj.le b o n e), fun b hb => ?_⟩ h
    by_cases hba : b = a
    · subst hba; exact ⟨_, hka, fun _ z => nomatch z⟩
    · exact (jj.al b hb).keep fun o e => old b o hba e
end
end Dl

namespace Dl
open PySem PySem.Spec PyProof.Rows L2
section
variable {F : Fm} {C : Cs} {Cl a dx : Addr} {mk : Pg → Nat} {g : Pg} {ρ : Rho} {k : Nat} {Φ : Nat → PyData → Prop} {e : Expr} {pos p py apos p1 : Pos} {x y m : Str} {Pre : Pg → List PyData → Prop} {R : Pg → List PyData → Pg → PyData → Prop} {j : Nat}
/-- y.m() of a deck, its one further parameter None by default -/
theorem we_pm0N (pi : HasPi F Cl a dx mk) (hF : PiM C.P C.w C.K C.mg C.base Cl j m [.non] Pre R) (hl : j ≤ C.lvl) (hK : F.K = C.K) (i : Nat) (hN : C.N[i]? = some y) (hv : Vis C.sc y) (hr : ρ[i]? = some (.raw (.ref a))) (hmn : m ≠ "states" ∧ m ≠ "done") (hp : Pre g [.none]) (h : ∀ g' d, R g [.none] g' d → Φ (mk g') d)
    (hd : (y == ("__debug__" : Str)) = false := by decide) (hcd : (y == ("__classdict__" : Str)) = false := by decide)
    {pl : Env → Sem Bool} (ht : ∀ env : Env, eval (.Call (.Attribute (.Name y py) m apos) [] [] pos) env = (do
      let ov ← eval (.Name y py) env
      standAt apos.atName
      let (f, first) ← holding [ov] (getMethod ov m (pl env))
      callWith pos f first (backTo pos (starEach [] env)) (backToKw pos (keywordEach [] env))) := by intro _; rfl) :
    WPE F C (.Call (.Attribute (.Name y py) m apos) [] [] pos) ρ (mk g) Φ := by
  obtain ⟨fa, fd, ps, ds, G, hm, hb, hd2⟩ := hF.ex
  refine of_pe (fun X fx => pe_methG0 (pl := pl X.env) (pe_var (i := i) (by rw [fx.N]; exact hN) (by rw [fx.sc]; exact hv) hd hcd) (by rw [fx.K]; exact hF.cl) (by rw [fx.K]; exact hm) (by rw [fx.P, fx.w, fx.K, fx.mg, fx.base]; exact G) fx.gd (fx.room.mono hl) (by rw [fx.K]; exact hb) hd2 (ht X.env)) fun σ H Q en jj q => ?_
  obtain ⟨s, t, dg⟩ := pi.get g H jj.g
  refine ⟨_, en.raw hr, a, dx, _, rfl, dg.ia, meth_none hmn, ?_⟩
  exact pi_step (vs := [.non]) (ds := [.none]) pi hK jj (.cons .non .nil) hp h q
end
theorem repAll_at {K : PySem.W.Frag} {S : Addr → Prop} {H : Hp} {vs : List V} {ds : List PyData} {i : Int} {d : PyData} (r : RepAll K S H vs ds) (h : atI ds i = some d) : ∃ v, atI vs i = some v ∧ Rep K S H v d := by
  have hl := r.length
  unfold atI at h ⊢
  rw [hl]
  cases e : ixN ds.length i with
  | none => rw [e] at h; cases h
  | some n => rw [e] at h; exact r.get h
theorem atI_last {α : Type} {xs : List α} {x : α} (h : xs.getLast? = some x) : atI xs (-1) = some x := by
  have hne : xs ≠ [] := fun z => by subst z; cases h
  have hl : 0 < xs.length := List.length_pos_iff.mpr hne
  unfold atI
  have e : ixN xs.length (-1) = some (xs.length - 1) := by
    unfold ixN
    rw [if_neg (by decide), if_pos (by omega)]
    congr 1; omega
  rw [e]
  show xs[xs.length - 1]? = _
  rw [← List.getLast?_eq_getElem?]; exact h
section
variable {F : Fm} {C : Cs} {ρ : Rho} {k : Nat} {Φ : Nat → PyData → Prop} {ie : Expr} {pos px : Pos} {x : Str}
/-- x[i], x the own list, i any number in bounds -/
theorem we_ixOwnZ (i : Nat) {ow : Addr} {xs : List PyData} (hK : F.K = C.K) (hN : C.N[i]? = some x) (hv : Vis C.sc x) (hr : ρ[i]? = some (.own ow xs)) (hs : PlainIx ie)
    (h : WPE F C ie ρ k fun k1 d => ∃ (j : Int) (z : PyData), d = .int j ∧ atI xs j = some z ∧ Φ k1 z) (hd : (x == ("__debug__" : Str)) = false := by decide) (hcd : (x == ("__classdict__" : Str)) = false := by decide) :
    WPE F C (.Subscript (.Name x px) ie pos) ρ k Φ :=
  of_pe (fun X fx => pe_ix (ixlK fx) (pe_var (i := i) (by rw [fx.N]; exact hN) (by rw [fx.sc]; exact hv) hd hcd) (peE fx) hs) fun σ H Q en j q => by
    obtain ⟨hσ, hS, hM, h0, vs, hv', rv⟩ := en.own hr
    refine ⟨_, hσ, ?_⟩
    show tE C ie σ H _
    refine h σ H _ en j fun v d k1 H1 l1 j1 r ⟨jj, z, ed, ha, p⟩ => ?_
    subst ed
    cases r
    obtain ⟨v, hat, ry⟩ := repAll_at rv ha
    exact ⟨ow, vs, _, v, rfl, rfl, SqL.of (l1 ow _ (Fm.mxA hM) hv'), hat, q _ _ k1 H1 l1 j1 (ry.le l1.lz) p⟩
end
end Dl

namespace Dl
open PySem PySem.Spec PyProof.Rows L2
/-! ### y = tuple(sorted(x + (left.pop(e),))): values over an expression that changes an own list -/
section
variable {F : Fm} {C : Cs} {ρ : Rho} {k : Nat} {P : DE} {Ξ : Nat → List PyData → PyData → Prop} {o : Addr} {te : TE}
end
section
variable {F : Fm} {C : Cs} {ρ : Rho} {k : Nat} {P : DE} {Φ : Nat → PyData → Prop}
end
section
variable {F : Fm} {C : Cs} {ρ : Rho} {k : Nat} {P : DE} {pos px py pz ap cp pc pt p1 p2 p3 p4 p5 : Pos} {x y z : Str} {e : Expr} {o : Addr} {kt : Nat}
end
section
variable {F : Fm} {C : Cs} {ρ : Rho} {k : Nat} {P : DE} {pos p pl p1 p2 p4 pt pr pr2 : Pos} {a e2 : Expr} {x1 x2 : Str} {kk kt : Nat} {rest : List Stmt}
end
section
variable {F : Fm} {C : Cs} {ρ : Rho} {k : Nat} {P : DE} {pos p2 px : Pos} {es : List Expr} {x : Str} {rest : List Stmt}
end
end Dl

namespace Dl
open PySem PySem.Spec PyProof.Rows L2
section
variable {F : Fm} {C : Cs} {ρ : Rho} {k : Nat} {P : DE} {pos p pl p1 p2 p4 pt : Pos} {e1 : Expr} {x1 x2 : Str} {kk kt : Nat} {rest : List Stmt}
end
end Dl

namespace Dl
open PySem PySem.Spec PyProof.Rows L2
section
variable {X : Cx} {x m q : Str} {p pos apos kpos : Pos} {o e : Expr} {ta te : TE} {k : Nat} {f C : Addr} {fd : FuncData} {ps : List Str} {sp : Sp}
def tMethK (C : Addr) (m : Str) (sp : Sp) (ta te : TE) : TE := fun σ H Q => ta σ H fun x H1 => ∃ a dx fs, x = .ref a ∧ H1 a = some (.ins C dx fs) ∧ fs.lookup m = none ∧
  te σ H1 fun z H2 => [z].length = 1 ∧ sp [x, z] H2 Q E0
end
/-- a method of decks whose one keyword-only parameter is given -/
structure PiK (P : Program) (w : World) (K : PySem.W.Frag) (mg : Str → Option Value) (base : Heap) (C : Addr) (lvl : Nat) (m q : Str) (Pre : Pg → List PyData → Prop) (R : Pg → List PyData → Pg → PyData → Prop) : Prop where
  cl : Cls K C
  ex : ∃ (fa : Addr) (fd : FuncData) (ps : List Str), FnG P w K mg base lvl fa fd ps (spPi K C Pre R) ∧ Meth K C m fa ∧ KBn K fd ps 1 [q] (fun a b => a ++ b) (fun a b => a ++ b)
section
variable {F : Fm} {C : Cs} {Cl a dx : Addr} {mk : Pg → Nat} {g : Pg} {ρ : Rho} {k : Nat} {Φ : Nat → PyData → Prop} {e : Expr} {pos py apos kpos : Pos} {y m q : Str} {Pre : Pg → List PyData → Prop} {R : Pg → List PyData → Pg → PyData → Prop} {j : Nat}
end
end Dl

namespace Dl
open PySem PySem.Spec PyProof.Rows L2
/-! ### a deck's lists cut -/
section
variable {X : Cx}
theorem ps_asExt1 {st : Stmt} {t : TS} (h : PS X st t) : PS X st (fun D σ H => t { D with nx := fun σ' H' => ∃ (p : Addr) (as : List Addr), H' p = some (.lst (as.map V.ref)) ∧ D.nx σ' (upd H' p (extL p as)) } σ H) := by
  refine ⟨fun pins s σ H D I hh => wpAny_mono (h.run pins s σ H _ I hh) ?_ fun _ _ z => z⟩
  intro f s' hs
  cases f with
  | next =>
    obtain ⟨σ', H', I', p, as, hp, hn⟩ := hs
    exact ⟨σ', _, inv_asExt I' hp, hn⟩
  | _ => exact hs
end
theorem cutV_refs (as : List Addr) (m : Nat) : cutV (as.map V.ref) none (some (m : Int)) = (as.take m).map V.ref := by
  unfold cutV
  rw [HT.sIx_nat, HT.sIx_none, List.drop_zero, Nat.sub_zero, List.map_take, List.take_eq_take_iff]
  omega
theorem putF_st {v x y : V} : putF "states" v [(("states" : Str), x), (("done" : Str), y)] = [(("states" : Str), v), (("done" : Str), y)] := by
  unfold putF
  rw [if_pos rfl]
theorem putF_dn {v x y : V} : putF "done" v [(("states" : Str), x), (("done" : Str), y)] = [(("states" : Str), x), (("done" : Str), v)] := by
  unfold putF
  rw [if_neg (by decide +kernel)]
  unfold putF
  rw [if_pos rfl]
section
variable {F : Fm} {C : Cs} {Cl a dx : Addr} {mk : Pg → Nat} {g : Pg} {ρ : Rho} {e : Expr} {pos p1 p2 p3 p4 p5 p6 : Pos} {y : Str} {P : DE}
/-- y.states = y.states[:e] -/
theorem ws_pcutS (pc : PiC C.K Cl) (pi : HasPi F Cl a dx mk) (hK : F.K = C.K) (i : Nat) (hN : C.N[i]? = some y) (hv : Vis C.sc y) (hr : ρ[i]? = some (.raw (.ref a)))
    (h : WNo F (tE C e) ρ (mk g) fun z => ∃ m : Nat, z = .int (m : Int) ∧ P.nx (mk (g.1.take m, g.2)) ρ)
    (hs : ∀ env : Env, swapsWith (.Subscript (.Attribute (.Name y p1) "states" p2) (.Slice none (some e) none p3) p4) (some (.Attribute (.Name y p6) "states" p5)) pos.line env = pure false := by intro _; rfl)
    (hd : (y == ("__debug__" : Str)) = false := by decide) (hcd : (y == ("__classdict__" : Str)) = false := by decide) (hb : ∀ env : Env, attributeBase (.Name y p1) "states" env (eval (.Name y p1) env) = eval (.Name y p1) env := by intro _; rfl) :
    WPS F C (.Assign [.Attribute (.Name y p6) "states" p5] (.Subscript (.Attribute (.Name y p1) "states" p2) (.Slice none (some e) none p3) p4) pos) ρ (mk g) P :=
  of_ps (fun X fx => ps_asExt1 (psFld fx (pe_var (i := i) (by rw [fx.N]; exact hN) (by rw [fx.sc]; exact hv) hd hcd) (pe_slice sl_ext (peFldN i fx hN hv hd hcd hb) po_none (po_some (peE fx))) (hs X.env))) fun σ H E en j q1 _ _ _ => by
    obtain ⟨s, t, dg⟩ := pi.get g H j.g
    refine ⟨_, en.raw hr, a, Cl, dx, _, _, rfl, dg.ia, pc.cl, pc.ns, lk_states, ?_⟩
    show tE C e σ H _
    refine h σ H _ en j fun v z H2 l2 j2 r2 ⟨m, ez, p⟩ => ?_
    subst ez
    cases r2
    have dg2 := dg.same l2
    obtain ⟨as, x1, x2, x3, x4⟩ := dg2.xs
    refine ⟨(m : Int), rfl, s, as, rfl, x1, fun l hl => ?_⟩
    have nla : l ≠ a := (ne_of_none dg2.ia hl).symm
    have nld : l ≠ dx := (ne_of_none dg2.id hl).symm
    refine ⟨.ref a, (en.le (same_le l2)).raw hr, a, Cl, dx, _, rfl, by rw [upd_ne nla.symm]; exact dg2.ia, pc.cl, pc.ns, by show 2 < 1000; decide, ?_⟩
    rw [putF_st, cutV_refs]
    refine ⟨l, as.take m, by rw [upd_ne nla, upd_same], ?_⟩
    generalize hH : upd (upd (upd H2 l (.lst ((as.take m).map V.ref))) a (.ins Cl dx [("states", .ref l), ("done", .ref t)])) l (extL l (as.take m)) = H5
    have hk : ∀ b, b ≠ a → b ≠ l → H5 b = H2 b := fun b h1 h2 => by rw [← hH, upd_ne h2, upd_ne h1, upd_ne h2]
    have old : ∀ b o, b ≠ a → H2 b = some o → H5 b = some o := fun b o nb e => by rw [hk b nb (ne_of_none e hl)]; exact e
    have oldT : ∀ b xs, H2 b = some (.tup xs) → H5 b = some (.tup xs) := fun b xs e => old b _ (fun z => by rw [z, dg2.ia] at e; cases e) e
    obtain ⟨bs, y1, y2, y3, y4⟩ := dg2.xt
    have x2' : TRs F.K H2 ((as.take m).map V.ref) ((g.1.take m).map boxP) := by
      rw [List.map_take, List.map_take]
      exact RepAll.take m x2
    have dg' : PiG F.K Cl a dx l t (g.1.take m, g.2) H5 := ⟨by rw [← hH, upd_ne nla.symm, upd_same], old dx _ (fun z => by have q := dg2.id; rw [z, dg2.ia] at q; cases q) dg2.id, ne_of_none y1 hl |>.symm, ⟨as.take m, by rw [← hH, upd_same], x2'.keep oldT⟩, ⟨bs, old t _ (fun z => by have q := y1; rw [z, dg2.ia] at q; unfold extL at q; cases q) y1, y2.keep oldT⟩, Nat.le_trans (by show (g.1.take m).length ≤ g.1.length; rw [List.length_take]; omega) dg.ls, dg.lt⟩
    obtain ⟨le, j3⟩ := pi_move pi j2 dg2 (fun b o n1 _ _ _ q => old b o n1 q) (fun y o x q => ⟨o, x, old y o (fun z => by rw [z, dg2.ia] at q; cases q; exact nx_ins x) q⟩) dg' (.inr hl) (.inl rfl)
    exact q1 ρ σ _ _ ((same_le l2).lz.trans le.lz) ((en.le (same_le l2)).le le) j3 p
/-- y.done = y.done[:e] -/
theorem ws_pcutD (pc : PiC C.K Cl) (pi : HasPi F Cl a dx mk) (hK : F.K = C.K) (i : Nat) (hN : C.N[i]? = some y) (hv : Vis C.sc y) (hr : ρ[i]? = some (.raw (.ref a)))
    (h : WNo F (tE C e) ρ (mk g) fun z => ∃ m : Nat, z = .int (m : Int) ∧ P.nx (mk (g.1, g.2.take m)) ρ)
    (hs : ∀ env : Env, swapsWith (.Subscript (.Attribute (.Name y p1) "done" p2) (.Slice none (some e) none p3) p4) (some (.Attribute (.Name y p6) "done" p5)) pos.line env = pure false := by intro _; rfl)
    (hd : (y == ("__debug__" : Str)) = false := by decide) (hcd : (y == ("__classdict__" : Str)) = false := by decide) (hb : ∀ env : Env, attributeBase (.Name y p1) "done" env (eval (.Name y p1) env) = eval (.Name y p1) env := by intro _; rfl) :
    WPS F C (.Assign [.Attribute (.Name y p6) "done" p5] (.Subscript (.Attribute (.Name y p1) "done" p2) (.Slice none (some e) none p3) p4) pos) ρ (mk g) P :=
  of_ps (fun X fx => ps_asExt1 (psFld fx (pe_var (i := i) (by rw [fx.N]; exact hN) (by rw [fx.sc]; exact hv) hd hcd) (pe_slice sl_ext (peFldN i fx hN hv hd hcd hb) po_none (po_some (peE fx))) (hs X.env))) fun σ H E en j q1 _ _ _ => by
    obtain ⟨s, t, dg⟩ := pi.get g H j.g
    refine ⟨_, en.raw hr, a, Cl, dx, _, _, rfl, dg.ia, pc.cl, pc.nd, lk_done, ?_⟩
    show tE C e σ H _
    refine h σ H _ en j fun v z H2 l2 j2 r2 ⟨m, ez, p⟩ => ?_
    subst ez
    cases r2
    have dg2 := dg.same l2
    obtain ⟨as, x1, x2, x3, x4⟩ := dg2.xt
    refine ⟨(m : Int), rfl, t, as, rfl, x1, fun l hl => ?_⟩
    have nla : l ≠ a := (ne_of_none dg2.ia hl).symm
    have nld : l ≠ dx := (ne_of_none dg2.id hl).symm
    refine ⟨.ref a, (en.le (same_le l2)).raw hr, a, Cl, dx, _, rfl, by rw [upd_ne nla.symm]; exact dg2.ia, pc.cl, pc.nd, by show 2 < 1000; decide, ?_⟩
    rw [putF_dn, cutV_refs]
    refine ⟨l, as.take m, by rw [upd_ne nla, upd_same], ?_⟩
    generalize hH : upd (upd (upd H2 l (.lst ((as.take m).map V.ref))) a (.ins Cl dx [("states", .ref s), ("done", .ref l)])) l (extL l (as.take m)) = H5
    have hk : ∀ b, b ≠ a → b ≠ l → H5 b = H2 b := fun b h1 h2 => by rw [← hH, upd_ne h2, upd_ne h1, upd_ne h2]
    have old : ∀ b o, b ≠ a → H2 b = some o → H5 b = some o := fun b o nb e => by rw [hk b nb (ne_of_none e hl)]; exact e
    have oldT : ∀ b xs, H2 b = some (.tup xs) → H5 b = some (.tup xs) := fun b xs e => old b _ (fun z => by rw [z, dg2.ia] at e; cases e) e
    obtain ⟨bs, y1, y2, y3, y4⟩ := dg2.xs
    have x2' : TRs F.K H2 ((as.take m).map V.ref) ((g.2.take m).map edP) := by
      rw [List.map_take, List.map_take]
      exact RepAll.take m x2
    have dg' : PiG F.K Cl a dx s l (g.1, g.2.take m) H5 := ⟨by rw [← hH, upd_ne nla.symm, upd_same], old dx _ (fun z => by have q := dg2.id; rw [z, dg2.ia] at q; cases q) dg2.id, ne_of_none y1 hl, ⟨bs, old s _ (fun z => by have q := y1; rw [z, dg2.ia] at q; unfold extL at q; cases q) y1, y2.keep oldT⟩, ⟨as.take m, by rw [← hH, upd_same], x2'.keep oldT⟩, dg.ls, Nat.le_trans (by show (g.2.take m).length ≤ g.2.length; rw [List.length_take]; omega) dg.lt⟩
    obtain ⟨le, j3⟩ := pi_move pi j2 dg2 (fun b o n1 _ _ _ q => old b o n1 q) (fun y o x q => ⟨o, x, old y o (fun z => by rw [z, dg2.ia] at q; cases q; exact nx_ins x) q⟩) dg' (.inl rfl) (.inr hl)
    exact q1 ρ σ _ _ ((same_le l2).lz.trans le.lz) ((en.le (same_le l2)).le le) j3 p
end
end Dl

namespace Dl
open PySem PySem.Spec PyProof.Rows L2
section
variable {F : Fm} {C : Cs} {ρ : Rho} {k : Nat} {Φ : Nat → PyData → Prop} {pos p p2 : Pos} {pos' : Pos} {a b c e : Expr} {P : DE}
end
end Dl

namespace Dl
open PySem PySem.Spec PyProof.Rows L2
/-! ### t[m::2], a tuple -/
def ev2 {α : Type} : List α → List α
  | [] => []
  | [a] => [a]
  | a :: _ :: r => a :: ev2 r
/-- where the slice begins -/
def loN : Option Int → Nat
  | none => 0
  | some i => i.toNat
section
variable {prog : Program} {w : World} {A : Around} {E : Value → Shared → Prop} {s : Shared}
end
def tTwoT (K : PySem.W.Frag) (te : TE) (tl : TO) : TE := fun σ H Q => te σ H fun x H1 => tl σ H1 fun lo H2 => (∀ i, lo = some i → 0 ≤ i) ∧ ∃ a xs, x = .ref a ∧ SqT K H2 a xs ∧ ∀ p, H2 p = none → Q (.ref p) (upd H2 p (.tup (ev2 (xs.drop (loN lo)))))
section
variable {F : Fm} {C : Cs} {ρ : Rho} {k : Nat} {Φ : Nat → PyData → Prop} {pos p1 p3 : Pos} {a e : Expr} {jj : Nat}
end
end Dl

namespace Dl
open PySem PySem.Spec PyProof.Rows L2
/-! ### any datum == a text -/
def isS (w : Str) : PyData → Bool
  | .str x => x == w
  | _ => false
def rEqS (K : PySem.W.Frag) : R2 := fun x y H Q => ∃ (S : Addr → Prop) (d : PyData) (w : Str), Rep K S H x d ∧ y = .str w ∧ Q (.bl (isS w d)) H
section
variable {F : Fm} {C : Cs} {ρ : Rho} {k : Nat} {Φ : Nat → PyData → Prop} {Ψ : Nat → Bool → Prop} {a b : Expr} {pos : Pos}
end
/-! ### a list of any data != [] -/
def rNeNil (K : PySem.W.Frag) : R2 := fun x y H Q => ∃ (S S' : Addr → Prop) (ds : List PyData), Rep K S H x (.list ds) ∧ Rep K S' H y (.list []) ∧ Q (.bl (!ds.isEmpty)) H
section
variable {F : Fm} {C : Cs} {ρ : Rho} {k : Nat} {Ψ : Nat → Bool → Prop} {a : Expr} {pos pq : Pos}
end
end Dl

namespace Dl
open PySem PySem.Spec PyProof.Rows L2
section
variable {F : Fm} {C : Cs} {ρ : Rho} {k : Nat} {P : DE} {Φ : Nat → PyData → Prop} {pos p p2 px py ap cp spos : Pos} {x y : Str} {rest : List Stmt} {e : Expr} {es : List Expr} {o : Addr}
end
end Dl

namespace Dl
open PySem PySem.Spec PyProof.Rows L2
/-! ### two decks -/
section
variable {K : PySem.W.Frag} {C a dx s t y z : Addr} {g : Pg} {H : Hp}
theorem PiG.unhid (d : PiG K C a dx s t g (hid H y z)) : PiG K C a dx s t g H := ⟨(hid_some d.ia).2.2, (hid_some d.id).2.2, d.ne, by
    obtain ⟨as, h1, h2⟩ := d.ss
    exact ⟨as, (hid_some h1).2.2, h2.keep fun b xs q => (hid_some q).2.2⟩, by
    obtain ⟨as, h1, h2⟩ := d.tt
    exact ⟨as, (hid_some h1).2.2, h2.keep fun b xs q => (hid_some q).2.2⟩, d.ls, d.lt⟩
theorem PiG.tohid (d : PiG K C a dx s t g H) (n1 : s ≠ y) (n2 : s ≠ z) (n3 : t ≠ y) (n4 : t ≠ z) (hy : ∃ as, H y = some (extL y as)) (hz : ∃ as, H z = some (extL z as)) : PiG K C a dx s t g (hid H y z) := by
  obtain ⟨ys, hy⟩ := hy
  obtain ⟨zs, hz⟩ := hz
  have ne : ∀ b o, H b = some o → ¬ (∃ u us, o = extL u us) → b ≠ y ∧ b ≠ z := fun b o q n => ⟨fun e => n ⟨y, ys, by rw [e, hy] at q; exact (Option.some.inj q).symm⟩, fun e => n ⟨z, zs, by rw [e, hz] at q; exact (Option.some.inj q).symm⟩⟩
  have nt : ∀ b xs, H b = some (.tup xs) → hid H y z b = some (.tup xs) := fun b xs q => by
    obtain ⟨e1, e2⟩ := ne b _ q (fun ⟨u, us, e⟩ => by unfold extL at e; cases e)
    rw [hid_of e1 e2]; exact q
  obtain ⟨a1, a2⟩ := ne a _ d.ia (fun ⟨u, us, e⟩ => by unfold extL at e; cases e)
  obtain ⟨b1, b2⟩ := ne dx _ d.id (fun ⟨u, us, e⟩ => by unfold extL at e; cases e)
  refine ⟨by rw [hid_of a1 a2]; exact d.ia, by rw [hid_of b1 b2]; exact d.id, d.ne, ?_, ?_, d.ls, d.lt⟩
  · obtain ⟨as, h1, h2⟩ := d.ss
    exact ⟨as, by rw [hid_of n1 n2]; exact h1, h2.keep nt⟩
  · obtain ⟨as, h1, h2⟩ := d.tt
    exact ⟨as, by rw [hid_of n3 n4]; exact h1, h2.keep nt⟩
end
/-- the first deck in the frame with a second one -/
theorem deck_pi {F : Fm} {C a dx C2 b dy : Addr} {mk : Pg → Nat} (h : HasPi F C a dx mk) (hMb : ¬ F.M b) (hMy : ¬ F.M dy) (gB : Pg) : HasPi (F.deck C2 b dy) C a dx (fun g => kk (mk g) gB) where
  X := rfl
  ma := .inl h.ma
  md := .inl h.md
  get := fun g H ⟨c1, g1, s, t, e, hF, d, _⟩ => by
    obtain ⟨rfl, rfl⟩ := kk_inj e
    obtain ⟨s', t', d'⟩ := h.get g _ hF
    exact ⟨s', t', d'.unhid⟩
  put := fun g g' H H' s t s' t' ⟨c1, g1, sB, tB, e, hF, dB, h4⟩ d keep e1 d' hs ht => by
    obtain ⟨rfl, rfl⟩ := kk_inj e
    obtain ⟨s0, t0, d0⟩ := h.get g _ hF
    obtain ⟨es, et⟩ := d0.unhid.uniq d
    subst es et
    obtain ⟨as, x1, _, x3, _⟩ := dB.xs
    obtain ⟨bs, y1, _, y3, _⟩ := dB.xt
    obtain ⟨_, z1, _⟩ := d0.ss
    obtain ⟨_, z2, _⟩ := d0.tt
    obtain ⟨n1, n2, z1⟩ := hid_some z1
    obtain ⟨n3, n4, z2⟩ := hid_some z2
    have nea : ∀ b o, H b = some o → (∀ C dx fs, o ≠ .ins C dx fs) → b ≠ a := fun b o q n e => by rw [e, d.ia] at q; cases q; exact n _ _ _ rfl
    have nex : ∀ b o, H b = some o → (∀ x, o ≠ .own x) → b ≠ dx := fun b o q n e => by rw [e, d.id] at q; cases q; exact n _ rfl
    have nes : ∀ b o, H b = some o → (∀ u us, o ≠ extL u us) → b ≠ s0 ∧ b ≠ t0 := fun b o q n => ⟨fun e => by rw [e, z1] at q; cases q; exact n _ _ rfl, fun e => by rw [e, z2] at q; cases q; exact n _ _ rfl⟩
    have kT : ∀ b xs, H b = some (.tup xs) → H' b = some (.tup xs) := fun b xs q => by
      obtain ⟨e1, e2⟩ := nes b _ q (fun u us e => by unfold extL at e; cases e)
      exact keep b _ (nea b _ q fun _ _ _ e => nomatch e) (nex b _ q fun _ e => nomatch e) e1 e2 q
    have x1' : H' sB = some (extL sB as) := keep sB _ (nea sB _ x1 fun _ _ _ e => by unfold extL at e; cases e) (nex sB _ x1 fun _ e => by unfold extL at e; cases e) n1.symm n3.symm x1
    have y1' : H' tB = some (extL tB bs) := keep tB _ (nea tB _ y1 fun _ _ _ e => by unfold extL at e; cases e) (nex tB _ y1 fun _ e => by unfold extL at e; cases e) n2.symm n4.symm y1
    have nb : b ≠ a := fun e => hMb (e ▸ h.ma)
    have ny : dy ≠ dx := fun e => hMy (e ▸ h.md)
    have nb2 : b ≠ dx := fun e => hMb (e ▸ h.md)
    have ny2 : dy ≠ a := fun e => hMy (e ▸ h.ma)
    obtain ⟨b1, b2⟩ := nes b _ dB.ia (fun u us e => by unfold extL at e; cases e)
    obtain ⟨c1, c2⟩ := nes dy _ dB.id (fun u us e => by unfold extL at e; cases e)
    have dB' : PiG F.K C2 b dy sB tB gB H' := by
      refine ⟨keep b _ nb nb2 b1 b2 dB.ia, keep dy _ ny2 ny c1 c2 dB.id, dB.ne, ?_, ?_, dB.ls, dB.lt⟩
      · obtain ⟨as2, q1, q2⟩ := dB.ss
        rw [x1] at q1
        have e : extL sB as = extL sB as2 := Option.some.inj q1
        exact ⟨as2, by rw [x1', e], q2.keep kT⟩
      · obtain ⟨as2, q1, q2⟩ := dB.tt
        rw [y1] at q1
        have e : extL tB bs = extL tB as2 := Option.some.inj q1
        exact ⟨as2, by rw [y1', e], q2.keep kT⟩
    have ns1 : s' ≠ sB := fun e => by
      rcases hs with hs | hs
      · exact n1 (hs.symm.trans e)
      · rw [e, x1] at hs; cases hs
    have ns2 : s' ≠ tB := fun e => by
      rcases hs with hs | hs
      · exact n2 (hs.symm.trans e)
      · rw [e, y1] at hs; cases hs
    have nt1 : t' ≠ sB := fun e => by
      rcases ht with hs | hs
      · exact n3 (hs.symm.trans e)
      · rw [e, x1] at hs; cases hs
    have nt2 : t' ≠ tB := fun e => by
      rcases ht with hs | hs
      · exact n4 (hs.symm.trans e)
      · rw [e, y1] at hs; cases hs
    have hidn : ∀ u, H u = none → hid H sB tB u = none := fun u hu => by unfold hid; split; rfl; exact hu
    refine ⟨mk g', gB, sB, tB, rfl, h.put g g' (hid H sB tB) (hid H' sB tB) s0 t0 s' t' hF d0 (fun u o m1 m2 m3 m4 q => ?_) (fun u o x q => ?_) (d'.tohid ns1 ns2 nt1 nt2 ⟨_, x1'⟩ ⟨_, y1'⟩) (hs.imp id (hidn _)) (ht.imp id (hidn _)), dB', fun u o nm x q => ?_⟩
    · obtain ⟨q1, q2, q3⟩ := hid_some q
      rw [hid_of q1 q2]; exact keep u o m1 m2 m3 m4 q3
    · obtain ⟨q1, q2, q3⟩ := hid_some q
      rw [hid_of q1 q2]; exact e1 u o x q3
    · obtain ⟨o', x', q'⟩ := h4 u o nm x q
      exact e1 u o' x' q'
/-! ### making a deck, as a step from one frame into the next -/
structure Into (F : Fm) (H : Hp) (Cl a dx : Addr) (k1 : Nat) (d : Nat × List Int) (H' : Hp) : Prop where
  j : J (F.deck Cl a dx) (kk k1 ([d], [])) H'
  en : ∀ (σ : L2.St) (ρ : Rho), EnvOk F H σ ρ → EnvOk (F.deck Cl a dx) H' σ ρ
  lz : ∀ H2, Lz (F.deck Cl a dx) H' H2 → Lz F H H2
  back : ∀ c g H2, J (F.deck Cl a dx) (kk c g) H2 → J F c H2
theorem repb {F : Fm} {Cl a dx : Addr} {H2 : Hp} {w : V} {u : PyData} (r : Rp (F.deck Cl a dx) H2 w u) : Rp F H2 w u := Rep.keep (S := (F.deck Cl a dx).S) (S' := F.S) (fun _ _ _ q => q) (fun b _ z => .inl z) _ _ r
section
variable {F : Fm} {C : Cs} {Cl f : Addr} {ρ : Rho} {k : Nat} {Φ : Nat → PyData → Prop} {P : DE} {e e2 : Expr} {pos p cp px : Pos} {xc : Str} {j : Nat} {fd : FuncData} {ps : List Str} {Ok : Nat × List Int → Prop}
theorem make_into (hX : F.X = IsX) (hK : F.K = C.K) {σ : L2.St} {H : Hp} {Q : VK} (en : EnvOk F H σ ρ) (jj : J F k H)
    (h : WPE F C e ρ k fun k1 z => ∃ d, z = boxP d ∧ Ok d ∧ ∀ a dx H', ¬ F.M a → ¬ F.M dx → Into F H Cl a dx k1 d H' → Q (.ref a) H') :
    tMake Cl (spInit C.K Cl Ok) [] E0 (tCons (tE C e) tNil) σ H Q := by
  show tE C e σ H _
  refine h σ H _ en jj fun v z k1 H1 l1 j1 r1 ⟨d, ez, hok, hrest⟩ a dx ha hdx hne => ?_
  subst ez
  have hMa : ¬ F.M a := fun z => F.gl _ _ j1.g a z ha
  have hMd : ¬ F.M dx := fun z => F.gl _ _ j1.g dx z hdx
  have keep0 : ∀ b o, H1 b = some o → upd (upd H1 dx (.own a)) a (.ins Cl dx []) b = some o := fun b o q => by
    rw [upd_ne (ne_of_none q ha), upd_ne (ne_of_none q hdx)]; exact q
  rw [List.append_nil]
  refine ⟨F.S, a, dx, v, d, rfl, upd_same, by rw [upd_ne hne, upd_same], fun b hb => (j1.al b hb).keep fun o q => keep0 b o q, ?_, hok, fun s t H' keep hs0 ht0 dg => ⟨rfl, ?_⟩⟩
  · have := Rep.keep (S := F.S) (S' := F.S) (fun b o _ q => keep0 b o q) (fun _ _ z => z) _ _ r1
    rw [← hK]; exact this
  have all : ∀ b o, H1 b = some o → H' b = some o ∧ b ≠ s ∧ b ≠ t := fun b o q => by
    have q0 := keep0 b o q
    exact ⟨keep b o (ne_of_none q ha) q0, ne_of_none q0 hs0, ne_of_none q0 ht0⟩
  rw [← hK] at dg
  have jd : J (F.deck Cl a dx) (kk k1 ([d], [])) H' := by
    refine ⟨⟨k1, ([d], []), s, t, rfl, F.gm k1 H1 _ j1.g (fun b hb => ?_) (fun b o _ q => ?_), dg, fun y o nm xo q => ?_⟩, fun b o n q => ?_, fun b hb => ?_⟩
    · cases q : H1 b with
      | none => exact absurd q (F.gl _ _ j1.g b hb)
      | some o =>
        obtain ⟨a1, a2, a3⟩ := all b o q
        rw [hid_of a2 a3]; exact a1
    · obtain ⟨a1, a2, a3⟩ := all b o q
      rw [hid_of a2 a3]; exact a1
    · obtain ⟨o', x', q'⟩ := F.xa k1 H1 j1.g y o nm (by rw [hX]; exact xo) q
      exact ⟨o', x', (all y o' q').1⟩
    · refine (all b o (j1.le b o (fun z => ?_) q)).1
      rcases z with z | z
      · exact n (.inl (.inl z))
      · exact n (.inr (F.xi _ z))
    · rcases hb with hb | rfl | rfl
      · exact (j1.al b hb).keep fun o q => (all b o q).1
      · exact ⟨_, dg.ia, fun _ z => nomatch z⟩
      · exact ⟨_, dg.id, fun _ z => nomatch z⟩
  have repd : ∀ {w : V} {u : PyData}, Rp F H1 w u → Rp (F.deck Cl a dx) H' w u := fun {w u} r => Rep.keep (S := F.S) (S' := (F.deck Cl a dx).S) (fun b o _ q => (all b o q).1) (fun b hb z => by
    rcases z with z | rfl | rfl
    · exact z
    · exact absurd ha hb
    · exact absurd hdx hb) _ _ r
  have repa : ∀ {w : List V} {u : List PyData}, RpAll F H1 w u → RpAll (F.deck Cl a dx) H' w u := fun {w u} r => RepAll.keep (S := F.S) (S' := (F.deck Cl a dx).S) (fun b o _ q => (all b o q).1) (fun b hb z => by
    rcases z with z | rfl | rfl
    · exact z
    · exact absurd ha hb
    · exact absurd hdx hb) _ _ r
  have h0a := j1.h0 hMa ha
  have h0d := j1.h0 hMd hdx
  refine hrest a dx H' hMa hMd ⟨jd, fun σ ρ en m sv em => ?_, fun H2 lz b o n q => ?_, fun c g H2 j2 => ?_⟩
  · obtain ⟨y, qy, r⟩ := (en.le l1) m sv em
    refine ⟨y, qy, ?_⟩
    cases sv with
    | un => trivial
    | d u => obtain ⟨w, e1, r⟩ := r; exact ⟨w, e1, repd r⟩
    | raw w => exact r
    | own o xs =>
      obtain ⟨e1, e2, e3, e4, vs, e5, e6⟩ := r
      refine ⟨e1, .inl e2, fun z => ?_, e4, vs, (all o _ e5).1, repa e6⟩
      rcases z with z | rfl | rfl
      · exact e3 z
      · rw [ha] at e5; cases e5
      · rw [hdx] at e5; cases e5
  · have q1 := l1.lz b o n q
    refine lz b o (fun z => ?_) (all b o q1).1
    rcases z with (z | rfl | rfl) | z
    · exact n (.inl z)
    · rw [ha] at q1; cases q1
    · rw [hdx] at q1; cases q1
    · exact n (.inr (by rw [hX]; exact z))
  · obtain ⟨c1, g1, s1, t1, e1, hF, _, _⟩ := j2.g
    obtain ⟨rfl, rfl⟩ := kk_inj e1
    refine ⟨F.gm _ _ _ hF (fun b hb => ?_) (fun b o _ q => (hid_some q).2.2), fun b o n q => j2.le b o (fun z => ?_) q, fun b hb => j2.al b (.inl hb)⟩
    · obtain ⟨b1, b2, _⟩ := hid_live (F.gl _ _ hF b hb)
      rw [hid_of b1 b2]
    · rcases z with (z | rfl | rfl) | z
      · exact n (.inl z)
      · rw [h0a] at q; cases q
      · rw [h0d] at q; cases q
      · exact n (.inr (by rw [hX]; exact z))
end
section
variable {F : Fm} {C : Cs} {Cl Cl2 f f2 : Addr} {ρ : Rho} {k : Nat} {P : DE} {e e2 : Expr} {pos p p' cp cp2 p1 p2 p3 p4 : Pos} {kx kt : Nat} {xc xc2 x1 x2 : Str} {j j2 : Nat} {fd fd2 : FuncData} {ps ps2 : List Str} {Ok Ok2 : Nat × List Int → Prop} {rest : List Stmt}
end
/-! ### == of decks, by their own def -/
/-- a class of decks, for isinstance -/
structure PiI (K : PySem.W.Frag) (Cl : Addr) : Prop where
  cl : Cls K Cl
  ha : PySem.W.findIn K (.ref Cl) "__class__" = some (some (.builtin "object.__class__"))
  hn : PySem.W.specialIn K (.builtin "object.__class__") "__get__" = some (some (.builtin "getset_descriptor.__get__"))
  tk : PySem.W.takesIn K (.builtin "object.__class__") = some true
  hm : PySem.W.mroIn K Cl (.type "object") = some true
def spEqD (K : PySem.W.Frag) (C1 C2 : Addr) (Pre : Pg → Pg → Prop) (R : Pg → Pg → Bool → Prop) : Sp := fun vs H Q _ => ∃ (a dx s t : Addr) (g : Pg) (b dy s' t' : Addr) (g' : Pg), vs = [.ref a, .ref b] ∧ PiG K C1 a dx s t g H ∧ PiG K C2 b dy s' t' g' H ∧ Pre g g' ∧ ∀ c H', Same H H' → R g g' c → Q (.bl c) H'
section
variable {F : Fm} {C : Cs} {Cl a dx : Addr} {g : Pg} {ρ : Rho} {k : Nat} {Φ : Nat → PyData → Prop} {e b : Expr} {pos p py apos pc1 : Pos} {x y : Str}
/-- y.states[e], y only read -/
theorem we_pixR (pc : PiC C.K Cl) (rd : ∀ H, J F k H → ∃ s t, PiG C.K Cl a dx s t g H) (hK : F.K = C.K) (i : Nat) (hN : C.N[i]? = some y) (hv : Vis C.sc y) (hr : ρ[i]? = some (.raw (.ref a))) (hs : PlainIx b)
    (h : WNo F (tE C b) ρ k fun z => ∃ (n : Int) (d : Nat × List Int), z = .int n ∧ atI g.1 n = some d ∧ Φ k (boxP d))
    (hd : (y == ("__debug__" : Str)) = false := by decide) (hcd : (y == ("__classdict__" : Str)) = false := by decide) (hb : ∀ env : Env, attributeBase (.Name y py) "states" env (eval (.Name y py) env) = eval (.Name y py) env := by intro _; rfl) :
    WPE F C (.Subscript (.Attribute (.Name y py) "states" apos) b pos) ρ k Φ :=
  of_pe (fun X fx => pe_ix ix_ext (peFldN i fx hN hv hd hcd hb) (peE fx) hs) fun σ H Q en j q => by
    obtain ⟨s, t, dg⟩ := rd H j
    refine ⟨_, en.raw hr, a, Cl, dx, _, _, rfl, dg.ia, pc.cl, pc.ns, lk_states, ?_⟩
    refine h σ H _ en j fun v z H1 l1 j1 r1 ⟨n, d, e, ha, p⟩ => ?_
    subst e
    cases r1
    obtain ⟨as, x1, x2, _, _⟩ := (dg.same l1).xs
    obtain ⟨w, hw, rw'⟩ := trs_at x2 (atI_map boxP ha)
    rw [← hK] at rw'
    exact ⟨s, as, n, w, rfl, rfl, x1, hw, q w _ _ H1 (same_le l1) j1 (rw'.rep j1.al) p⟩
theorem isiK {X : Cx} (fx : Fits C X) : CallR X (.builtin "isinstance") (rIsi C.K) := by rw [← fx.K]; exact call_isi
/-- isinstance(y, D), y an instance, D a class of the program -/
theorem we_isiO {D : Addr} {r : Bool} {xc : Str} (pi : PiI C.K Cl) (rd : ∀ H, J F k H → ∃ dx fs, H a = some (.ins Cl dx fs)) (i : Nat) (hN : C.N[i]? = some y) (hv : Vis C.sc y) (hr : ρ[i]? = some (.raw (.ref a))) (hg : C.sc.names.lookup ("isinstance" : Str) = some .globalImplicit) (hm : C.mg ("isinstance" : Str) = none)
    (hgc : C.sc.names.lookup xc = some .globalImplicit) (hmc : C.mg xc = some (.ref D)) (kit : PySem.W.kitOne C.K (.ref Cl) (.ref D) = some r) (h : Φ k (.bool r))
    (hd : (y == ("__debug__" : Str)) = false := by decide) (hcd : (y == ("__classdict__" : Str)) = false := by decide) (hdx : (xc == ("__debug__" : Str)) = false := by decide)
    (hs1 : ∀ env : Env, starEach [.Name y py, .Name xc pc1] env = (false, eval (.Name y py) env) :: starEach [.Name xc pc1] env := by intro _; rfl) (hs2 : ∀ env : Env, starEach [.Name xc pc1] env = (false, eval (.Name xc pc1) env) :: starEach [] env := by intro _; rfl)
    (hpl : ∀ env : Env, (backTo pos (starEach [.Name xc pc1] env)).any (·.1) = false := by intro _; rfl) :
    WPE F C (.Call (.Name "isinstance" p) [.Name y py, .Name xc pc1] [] pos) ρ k Φ :=
  of_pe (fun X fx => pe_callB (isiK fx) (by show X.env.scope.names.lookup ("isinstance" : Str) = _; rw [fx.sc]; exact hg) (by rw [fx.mg]; exact hm) (by decide +kernel) (pa_cons (pe_var (i := i) (by rw [fx.N]; exact hN) (by rw [fx.sc]; exact hv) hd hcd) (pa_cons (pe_glob (v := .ref D) (u := .ref D) (by show X.env.scope.names.lookup xc = _; rw [fx.sc]; exact hgc) (by rw [fx.mg]; exact hmc) rfl hdx) pa_nil (hs2 X.env)) (hs1 X.env)) (by decide) (by decide) (hs1 X.env) (hpl X.env)) fun σ H Q en j q => by
    obtain ⟨dx, fs, ea⟩ := rd H j
    refine ⟨_, en.raw hr, ?_⟩
    exact ⟨.ref a, .ref D, .ref Cl, .ref D, r, rfl, .own D, .base (.ins ea pi.cl pi.ha pi.hn pi.tk pi.hm), kit, q _ _ k H .refl j (.bl r) h⟩
end
section
variable {P : Program} {w : World} {K : PySem.W.Frag} {mg : Str → Option Value} {base : Heap} {C1 C2 : Addr}
theorem eqD_ok {x qual : Str} {st : Stmt} {f : Addr} {fd : FuncData} {N : List Str} {x1 x2 : Str} {k : Nat} {Pre : Pg → Pg → Prop} {R : Pg → Pg → Bool → Prop} (Fn : Fun K x qual st f fd) (Sc : FnScope N [x1, x2] (defScope st))
    (body : ∀ (F : Fm) (a dx b dy : Addr) (g g' : Pg), F.K = K → (∀ k H, J F k H → ∃ s t, PiG K C1 a dx s t g H) → (∀ k H, J F k H → ∃ s t, PiG K C2 b dy s t g' H) → Pre g g' → WPB F (bodyCs P w K mg base N (defScope st) k) (defBody st) (.raw (.ref a) :: .raw (.ref b) :: List.replicate (N.length - 2) SV.un) 0 { nx := fun _ _ => False, rt := fun _ d => ∃ c, d = .bool c ∧ R g g' c, bk := fun _ _ => False, ct := fun _ _ => False }) :
    FnG P w K mg base (k + 1) f fd [x1, x2] (spEqD K C1 C2 Pre R) := by
  refine FnG.of_body Fn Sc (fun vs H Q E h => ?_) (fun cdv A outer s H vs Q hgd hr h => ?_)
  · obtain ⟨a, dx, s, t, g, b, dy, s', t', g', rfl, _⟩ := h
    rfl
  · obtain ⟨a, dx, s, t, g, b, dy, s', t', g', rfl, d1, d2, hp, q⟩ := h
    refine ⟨_, pbB (fits_body hgd hr), ?_⟩
    have sm : ∀ {k' H'}, J (pureFm K (fun _ => False) H) k' H' → Same H H' := fun {k' H'} j b o e => j.le b o (fun z => z.elim id id) e
    have est : L2.start N [.ref a, .ref b] = some (.ref a) :: some (.ref b) :: List.replicate (N.length - 2) none := by
      unfold L2.start
      rfl
    refine body (pureFm K (fun _ => False) H) a dx b dy g g' rfl (fun k' H' j => ⟨s, t, d1.same (sm j)⟩) (fun k' H' j => ⟨s', t', d2.same (sm j)⟩) hp (L2.start N [.ref a, .ref b]) H _ ?_ ⟨trivial, fun b o _ e => e, fun _ z => z.elim⟩ ?_ ?_ ?_ ?_
    · rw [est]
      intro i sv e
      match i, e with
      | 0, e => cases e; exact ⟨_, rfl, rfl⟩
      | 1, e => cases e; exact ⟨_, rfl, rfl⟩
      | i + 2, e =>
        have e' : (List.replicate (N.length - 2) SV.un)[i]? = some sv := e
        rw [List.getElem?_replicate] at e'
        by_cases hi : i < N.length - 2
        · rw [if_pos hi] at e'
          cases e'
          exact ⟨none, by show (List.replicate (N.length - 2) none)[i]? = _; rw [List.getElem?_replicate, if_pos hi], trivial⟩
        · rw [if_neg hi] at e'; cases e'
    · exact fun _ _ _ _ _ _ _ z => z.elim
    · rintro v d k' H' j' r' ⟨c, rfl, hR⟩
      cases r'
      exact q c H' (sm j') hR
    · exact fun _ _ _ _ _ _ _ z => z.elim
    · exact fun _ _ _ _ _ _ _ z => z.elim
end
section
variable {X : Cx} {k : Nat} {f C1 C2 : Addr} {fd : FuncData} {ps : List Str} {Pre : Pg → Pg → Prop} {R : Pg → Pg → Bool → Prop}
def rEqDk (K : PySem.W.Frag) (C1 C2 : Addr) (Pre : Pg → Pg → Prop) (R : Pg → Pg → Bool → Prop) : R2 := fun x y H Q => ∃ a b, x = .ref a ∧ y = .ref b ∧ (∃ dx fs, H a = some (.ins C1 dx fs)) ∧ (∃ dy gs, H b = some (.ins C2 dy gs)) ∧ spEqD K C1 C2 Pre R [.ref a, .ref b] H (fun v H' => Q v H') E0
theorem op_eqDk (G : FnG X.prog X.w X.K X.mg X.base k f fd ps (spEqD X.K C1 C2 Pre R)) (gd : X.A.guards = some []) (room : Room k X.A) (hs : PySem.W.findIn X.K (.ref C1) "__eq__" = some (some (.ref f))) (hf : PySem.W.isFn X.K (.ref f) = true) (hb : L2.Binds X.K fd ps []) (hn : PySem.W.notFirst X.K C1 (.ref C2) = true) : OpR X (compareOp .Eq) (rEqDk X.K C1 C2 Pre R) := by
  intro pins s σ H x y v u Q I rx ry hq
  obtain ⟨a, b, rfl, rfl, ⟨dx, fs, ha⟩, ⟨dy, gs, hb'⟩, hsp⟩ := hq
  cases rx
  cases ry
  obtain ⟨mA, J1, _⟩ := ins_get I.hok ha
  obtain ⟨mB, J2, _⟩ := ins_get I.hok hb'
  obtain ⟨od, J1, _⟩ := J1.look
  obtain ⟨od', J2, _⟩ := J2.look
  obtain ⟨m, hF⟩ := I.fr
  show wpAny (model X.prog X.w) X.A (richCompare .Eq (.ref a) (.ref b)) (EP X pins σ Q) X.xe s
  refine PySem.W.cmp_K (op := .Eq) (tb := .ref C2) room.units0 hF I.ok.mod.kin J1 J2.type hn hs hf ?_
  have hl := G.len _ _ _ _ hsp
  have r2 : Vals [V.ref a, V.ref b] [Value.ref a, Value.ref b] := .cons rfl (.cons rfl .nil)
  have bind := hb s [.ref a, .ref b] I.kIn (by simpa using hl)
  rw [List.append_nil] at bind
  have hsp2 : spEqD X.K C1 C2 Pre R [.ref a, .ref b] H (fun v H' => (∃ c, v = .bl c) ∧ Q v H') E0 := by
    obtain ⟨a', dx, s, t, g, b', dy, s', t', g', e, d1, d2, hp, q⟩ := hsp
    exact ⟨a', dx, s, t, g, b', dy, s', t', g', e, d1, d2, hp, fun c H' sm hR => ⟨⟨c, rfl⟩, q c H' sm hR⟩⟩
  refine wpAny_call (codeAny_mono (G.run X.A X.stack s H ⟨[.ref a, .ref b], []⟩ [.ref a, .ref b] [.ref a, .ref b] _ gd room I.env0 bind r2 hsp2) fun r s' hq => ?_)
  match r, hq with
  | .ok (.ret w), hq =>
    obtain ⟨z, H', I', rz, ⟨c, ez⟩, qz⟩ := I.after hq
    subst ez
    cases rz
    exact ⟨.bl c, H', I', rfl, qz⟩
  | .ok .next, hq => exact False.elim hq
  | .ok .brk, hq => exact False.elim hq
  | .ok .cont, hq => exact False.elim hq
  | .error _, hq => exact False.elim hq
end
/-- the own == of decks of two classes -/
structure PiE (P : Program) (w : World) (K : PySem.W.Frag) (mg : Str → Option Value) (base : Heap) (C1 C2 : Addr) (lvl : Nat) (Pre : Pg → Pg → Prop) (R : Pg → Pg → Bool → Prop) : Prop where
  ex : ∃ (fa : Addr) (fd : FuncData) (ps : List Str), FnG P w K mg base lvl fa fd ps (spEqD K C1 C2 Pre R) ∧ PySem.W.findIn K (.ref C1) "__eq__" = some (some (.ref fa)) ∧ PySem.W.isFn K (.ref fa) = true ∧ L2.Binds K fd ps []
  nf : PySem.W.notFirst K C1 (.ref C2) = true
section
variable {F : Fm} {C : Cs} {C1 C2 a dx b dy : Addr} {mk mk2 : Pg → Nat} {g g2 : Pg} {ρ : Rho} {k j : Nat} {Φ : Nat → PyData → Prop} {Ψ : Nat → Bool → Prop} {pos p1 p2 : Pos} {y1 y2 : Str} {Pre : Pg → Pg → Prop} {R : Pg → Pg → Bool → Prop}
end
theorem kit_self {K : PySem.W.Frag} {C : Addr} : PySem.W.kitOne K (.ref C) (.ref C) = some true := by simp [PySem.W.kitOne]
theorem kit_sub {K : PySem.W.Frag} {C D : Addr} {b : Bool} (h1 : PySem.W.isClsIn K D = true) (h2 : PySem.W.typeIn K (.ref D) = some (.type "type")) (h3 : PySem.W.subIn K (.ref C) (.ref D) = some b) (h4 : C ≠ D) : PySem.W.kitOne K (.ref C) (.ref D) = some b := by
  have hne : (Value.ref C == Value.ref D) = false := by simpa using h4
  unfold PySem.W.kitOne
  rw [hne, if_neg Bool.false_ne_true]
  unfold PySem.W.kitCls
  have hc : ((PySem.W.clsIn K D).isSome && PySem.W.typeIn K (.ref D) == some (.type "type")) = true := by
    have h1 : (PySem.W.clsIn K D).isSome = true := h1
    rw [h1, h2]; rfl
  show (if ((PySem.W.clsIn K D).isSome && PySem.W.typeIn K (.ref D) == some (.type "type")) = true then _ else _) = _
  rw [if_pos hc]
  exact h3
end Dl

set_option maxHeartbeats 2000000
namespace Dl
open PySem PySem.Spec PyProof.Rows L2
/-! ### error objects as values: made, asked for their class, their field read -/
theorem xbase_VE : XBase "ValueError" "ValueError.__new__" "ValueError.__init__" [.type "ValueError", .type "Exception", .type "BaseException", .type "object"] := ⟨PySem.F.excBase_ValueError, PySem.F.store_ValueError⟩
def tErr (C : Addr) (sp : Sp) (t : TA) : TE := fun σ H Q => t σ H fun vs H1 => vs.length ≤ 1000 ∧ ∀ a, H1 a = none → sp (.ref a :: vs) (upd H1 a (exo a C none)) (fun v H2 => v = .non ∧ Q (.ref a) H2) E0
section
variable {X : Cx} {o e : Expr} {es : List Expr} {to te : TE} {ta : TA} {f : Str} {p p' pos : Pos} {B newId initId : String} {mro : List Value}
theorem pe_errG {x : Str} {C fI : Addr} {k : Nat} {fd : FuncData} {ps : List Str} {sp : Sp} (xb : XBase B newId initId mro) (T : OexG X.K C mro newId) (iC : PySem.W.findIn X.K (.ref C) "__init__" = some (some (.ref fI))) (tI : PySem.W.typeIn X.K (.ref fI) = some (.type "function"))
    (G : FnOk X.prog X.w X.K X.mg X.base CX0 k fI fd ps sp) (room : Room (k + 1) X.A) (hb : L2.Binds X.K fd ps []) (hg : Gl X x) (hm : X.mg x = some (.ref C)) (ha : PA X (e :: es) ta)
    (hdb : (x == ("__debug__" : Str)) = false) (he : starEach (e :: es) X.env = (false, eval e X.env) :: starEach es X.env) (hpl : (backTo pos (starEach es X.env)).any (·.1) = false) :
    PE X (.Call (.Name x p) (e :: es) [] pos) (tErr C sp ta) := by
  refine ⟨fun pins s σ H Q I h => ?_⟩
  refine wpAny_Call_Name_kw (ld_glob I hg hm (PySem.W.callWith_K (h₀ := X.base) I.ok.mod.kin T.kC (thn (ha.run pos pins s σ H _ I h) ?_) he hpl) hdb)
  rintro us ⟨hp, gs, dr, tk, os⟩ ⟨vs, H1, I1, r1, hz, q1⟩
  refine ⟨I1.kIn, ?_⟩
  show wpAny _ _ (call (.ref C) us) _ _ _
  obtain ⟨nm, N, qn, bs, bm, hdct, sn, sub, ab, col, dd, k0, k1, k2, k3, k5, hC, hT⟩ := PySem.W.excInit_of I1.kIn T.q
  let z : Addr := hp.objs.size + 1
  let hp2 : Heap := (hp.push (PySem.W.kdv_tup us)).push (PySem.HandSPX.excO C hp.objs.size)
  have le : hp.objs.size ≤ z := Nat.le_succ _
  have spz := q1 z (I1.hok.fresh le)
  have stay : ∀ b o, hp.get? b = some o → hp2.get? b = some o := fun b o q => Heap.get?_push_of_some _ (Heap.get?_push_of_some _ q)
  have at_z : ((hp.push (PySem.W.kdv_tup us)).push (PySem.HandSPX.excO C hp.objs.size)).get? (hp.objs.size + 1) = some (PySem.HandSPX.excO C hp.objs.size) := by heap_get
  have I2 : Inv X pins σ (upd H1 z (exo z C none)) ⟨hp2, gs, dr, tk, os⟩ := I1.laid (t' := tk) (a := z) (o := exo z C none) (h' := hp2) stay le (exo_ok at_z)
  have rz : Vals (V.ref z :: vs) (Value.ref z :: us) := .cons rfl r1
  have len : (Value.ref z :: us).length = ps.length := rz.length.symm.trans (G.len _ _ _ _ spz)
  have few : us.length ≤ sizeLine := by
    have := Paired.length r1
    rw [sizeLine_eq]; omega
  have bind := hb ⟨hp2, gs, dr, tk, os⟩ (Value.ref z :: us) I2.kIn (by rw [List.append_nil]; exact len)
  rw [List.append_nil] at bind
  refine wpAny_call (PySem.HandSPX.call_own xb.fb hT hC (PySem.W.looks_findIn I1.kIn iC) (fun self => PySem.W.bind_fn I1.kIn self tI) few (codeAny_mono (G.run _ X.stack _ _ ⟨Value.ref z :: us, []⟩ (Value.ref z :: us) _ _ E0 (room.make C us []) (I2.env0.make C us []) bind rz spz) ?_))
  intro r s' hr
  match r, hr with
  | .error _, hr => exact hr.elim
  | .ok .next, hr => exact hr.elim
  | .ok .brk, hr => exact hr.elim
  | .ok .cont, hr => exact hr.elim
  | .ok (.ret u), hr =>
    obtain ⟨v, H2, I3, rv, ev, q2⟩ := I2.after hr
    subst ev
    exact ⟨rv, V.ref z, H2, I3, rfl, q2⟩
theorem pe_err0 {x : Str} {C : Addr} (F : ExcBaseFacts B newId initId mro) (q : PySem.W.excIn X.K C mro newId = true) (gC : X.mg x = some (.ref C)) (kC : PySem.W.keepIn X.K (.ref C) = true) (hg : Gl X x)
    (hdb : (x == ("__debug__" : Str)) = false := by decide) : PE X (.Call (.Name x p) [] [] pos) (fun _ H Q => ∀ a, H a = none → Q (.ref a) (upd H a (exo a C none))) := by
  refine ⟨fun pins s σ H Q I h => ?_⟩
  refine wpAny_Call_Name_kw (ld_glob I hg gC ?_ hdb)
  refine PySem.W.callWith_K0 (first := []) I.kIn kC ?_
  show wpAny _ _ (call (.ref C) []) _ _ _
  obtain ⟨bm, N, nm, qn, bs, hdct, sn, sub, ab, col, dd, k0, k1, k2, k3, k5, mN, hC, hN, hni, T⟩ := exc_obj I.kIn q
  refine wpAny_call_exc_subT F T hC hN hni (fun h' e hm => ?_) (Nat.zero_le _)
  obtain ⟨keeps, new, t, there, _⟩ := hm
  have hn := I.hok.gone new
  exact ⟨.ref e, _, I.laidN (t' := s.toks) keeps new hn (exo_ok there), rfl, h e hn⟩
/-- isinstance(e, c), e an error object -/
def rIsErr (K : PySem.W.Frag) : List V → Hp → VK → Prop := fun xs H Q => ∃ (a C : Addr) (d : Option Addr) (c : V) (cv : Value) (b : Bool), xs = [.ref a, c] ∧ H a = some (exo a C d) ∧ (∀ dx, d = some dx → ∃ fs, H dx = some (exd dx fs)) ∧ ExcC K C ∧ ClsV c cv ∧ PySem.W.kitOne K (.ref C) cv = some b ∧ Q (.bl b) H
theorem call_isErr : CallR X (.builtin "isinstance") (rIsErr X.K) := by
  intro pins s σ H xs us Q I r h
  obtain ⟨a, C, d, c, cv, b, rfl, ha, hd, T, hcv, e, q⟩ := h
  cases r with
  | cons rx rr =>
    cases rr with
    | cons rt rr =>
      cases rr
      cases rx
      have ec := hcv.eq rt
      subst ec
      obtain ⟨t1, hget⟩ := exo_at I.hok ha
      cases d with
      | none =>
        have J : PySem.W.InstAt s.heap a _ C none := ⟨hget, rfl, rfl, trivial⟩
        exact PySem.W.kia_one (kitx_ofC T) I.kIn J e (fun z => nomatch z) fun tk => ⟨.bl b, H, I.tok tk, rfl, q⟩
      | some dx =>
        obtain ⟨fs, hx⟩ := hd dx rfl
        obtain ⟨mA, hns, hr⟩ := exd_at I.hok hx
        obtain ⟨od, ho, hl⟩ := lookIn_ns hns
        have J : PySem.W.InstAt s.heap a _ C (some od) := ⟨hget, rfl, rfl, ho⟩
        exact PySem.W.kia_one (kitx_ofC T) I.kIn J e (fun z => nomatch z) fun tk => ⟨.bl b, H, I.tok tk, rfl, q⟩
/-- e.f, e an error object with that field -/
def tErrF (K : PySem.W.Frag) (n : Str) (te : TE) : TE := fun σ H Q => te σ H fun x H1 => ∃ (a C dx : Addr) (fs : List (Str × V)) (v : V), x = .ref a ∧ XfC K C ∧ PySem.W.findIn K (.ref C) n = some none ∧ H1 a = some (exo a C (some dx)) ∧ H1 dx = some (exd dx fs) ∧ fs.lookup n = some v ∧ Q v H1
theorem pe_errF {n : Str} (he : PE X e te) (hb : attributeBase e n X.env (eval e X.env) = eval e X.env) : PE X (.Attribute e n pos) (tErrF X.K n te) := by
  refine ⟨fun pins s σ H Q I h => ?_⟩
  refine attr_of hb (thn (he.run pins s σ H _ I h) fun u s1 hh => ?_)
  obtain ⟨x, H1, I1, rx, a, C, dx, fs, v, ex, T, hno, ha, hx, l, q⟩ := hh
  subst ex
  obtain rfl : u = Value.ref a := rx
  obtain ⟨t1, hget⟩ := exo_at I1.hok ha
  obtain ⟨mA, hns, hr⟩ := exd_at I1.hok hx
  obtain ⟨od, ho, hl⟩ := lookIn_ns hns
  obtain ⟨u, hu, ru⟩ := RelO.some_of (v := v) (o := mA n) (by rw [← l]; exact hr n)
  have J : PySem.W.InstAt s1.heap a _ C (some od) := ⟨hget, rfl, rfl, ho⟩
  exact HandSPX.exc_get I1.kIn J T.ga T.gg T.exC (PySem.W.findObj_own T.hdC hno rfl (by rw [hl, hu])) (handed_of ru) ⟨v, H1, I1.tok _, ru, q⟩
end
end Dl

set_option maxHeartbeats 2000000
namespace Dl
open PySem PySem.Spec PyProof.Rows L2
/-! ### objects that are no data: handed on as they are -/
def WRaw (F : Fm) (C : Cs) (e : Expr) (ρ : Rho) (k : Nat) (Θ : V → Hp → Prop) : Prop :=
  ∀ (σ : L2.St) (H : Hp) (Q : VK), EnvOk F H σ ρ → J F k H → (∀ v H', Same H H' → J F k H' → Θ v H' → Q v H') → tE C e σ H Q
def WRaws (F : Fm) (C : Cs) (es : List Expr) (ρ : Rho) (k : Nat) (Θ : List V → Hp → Prop) : Prop :=
  ∀ (σ : L2.St) (H : Hp) (Q : List V → Hp → Prop), EnvOk F H σ ρ → J F k H → (∀ vs H', Same H H' → J F k H' → Θ vs H' → Q vs H') → tA C es σ H Q
theorem nl_heap {o : HO} (s : Addr) (as : List Addr) (hl : as.length ≤ sizeLine) (e : o = extL s as) (φ : Heap → Prop) (ho : o = .ext φ) :
    ∃ h : Heap, φ h ∧ ∀ b u, h.get? b = some u → u = { cls := .type "list", data := .seq (as.map Value.ref).toArray 0 } := by
  let ob : Obj := { cls := .type "list", data := .seq (as.map Value.ref).toArray 0 }
  let h : Heap := ⟨(List.replicate (s + 1) ob).toArray, {}⟩
  have hs : h.get? s = some ob := by
    unfold Heap.get?
    have : h.objs[s]? = some ob := by
      show (List.replicate (s + 1) ob).toArray[s]? = some ob
      simp
    rw [this]
  refine ⟨h, ?_, fun b u q => ?_⟩
  · have e2 := ho.symm.trans e
    unfold extL at e2
    have e3 := congrFun (HO.ext.inj e2) h
    rw [e3]
    exact ⟨hl, 0, hs⟩
  · unfold Heap.get? at q
    cases z : h.objs[b]? with
    | none => rw [z] at q; cases q
    | some v =>
      have hv : v = ob := by
        have z' : (List.replicate (s + 1) ob).toArray[b]? = some v := z
        rw [List.getElem?_toArray] at z'
        exact List.eq_of_mem_replicate (List.mem_of_getElem? z')
      subst hv
      rw [z] at q
      exact (Option.some.inj q).symm
theorem nx_exo {a C : Addr} {d : Option Addr} : ¬ IsX (exo a C d) := fun ⟨s, as, hl, e⟩ => by
  obtain ⟨h, ⟨t1, q⟩, all⟩ := nl_heap s as hl e _ rfl
  have := all _ _ q
  cases this
theorem nx_exd {a : Addr} {fs : List (Str × V)} : ¬ IsX (exd a fs) := fun ⟨s, as, hl, e⟩ => by
  obtain ⟨h, ⟨mA, ⟨o, es, ep, q, hd, _⟩, _⟩, all⟩ := nl_heap s as hl e _ rfl
  have := all _ _ q
  subst this
  cases hd
section
variable {F : Fm} {C : Cs} {ρ : Rho} {k : Nat} {H H1 H' : Hp}
theorem sl_le (l : Same H H') : Le F H H' := fun b o _ e => l b o e
theorem sl_tr (l : Same H H1) (m : Same H1 H') : Same H H' := fun b o e => m b o (l b o e)
theorem sl_new {p : Addr} {o : HO} (hp : H p = none) : Same H (upd H p o) := fun b u e => by rw [upd_ne (ne_of_none e hp)]; exact e
theorem J.same2 (j : J F k H) (l : Same H H') : J F k H' := ⟨F.gm _ _ _ j.g (fun b hb => by
    cases e : H b with
    | none => exact absurd e (F.gl _ _ j.g b hb)
    | some o => exact l b o e) (fun b o _ e => l b o e), fun b o n e => l b o (j.le b o n e), fun b hb => (j.al b hb).keep fun o e => l b o e⟩
/-- an error object of the class Cl at a, with the field f -/
def ErrF (F : Fm) (H : Hp) (a Cl : Addr) : Option (Str × PyData) → Prop
  | none => ¬ F.S a ∧ H a = some (exo a Cl none)
  | some (x, u) => ¬ F.S a ∧ ∃ dx v, ¬ F.S dx ∧ H a = some (exo a Cl (some dx)) ∧ H dx = some (exd dx [(x, v)]) ∧ Rp F H v u
def ErrV (F : Fm) (H : Hp) (v : V) (Cl : Addr) : Prop := ∃ a d, v = .ref a ∧ ¬ F.S a ∧ H a = some (exo a Cl d) ∧ ∀ dx, d = some dx → ¬ F.S dx ∧ ∃ fs, H dx = some (exd dx fs)
theorem ErrV.st {v : V} {Cl : Addr} (h : ErrV F H v Cl) (st : ∀ b o, ¬ F.S b → ¬ IsX o → H b = some o → H' b = some o) : ErrV F H' v Cl := by
  obtain ⟨a, d, e, n, h, hd⟩ := h
  exact ⟨a, d, e, n, st a _ n nx_exo h, fun dx z => ⟨(hd dx z).1, let ⟨fs, q⟩ := (hd dx z).2; ⟨fs, st dx _ (hd dx z).1 nx_exd q⟩⟩⟩
theorem ErrV.same {v : V} {Cl : Addr} (h : ErrV F H v Cl) (l : Same H H') : ErrV F H' v Cl := h.st fun b o _ _ e => l b o e
theorem ErrF.toV {a Cl : Addr} {f : Option (Str × PyData)} (h : ErrF F H a Cl f) : ErrV F H (.ref a) Cl := by
  cases f with
  | none => exact ⟨a, none, rfl, h.1, h.2, fun dx z => by cases z⟩
  | some y =>
    obtain ⟨x, u⟩ := y
    obtain ⟨h1, dx, v, h2, h3, h4, _⟩ := h
    exact ⟨a, some dx, rfl, h1, h3, fun dy z => by cases z; exact ⟨h2, _, h4⟩⟩
abbrev ErrsV (F : Fm) (H : Hp) (vs : List V) (cs : List Addr) : Prop := Paired (ErrV F H) vs cs
theorem ErrsV.st {vs : List V} {cs : List Addr} (h : ErrsV F H vs cs) (st : ∀ b o, ¬ F.S b → ¬ IsX o → H b = some o → H' b = some o) : ErrsV F H' vs cs := by
  induction h with
  | nil => exact .nil
  | cons h1 _ ih => exact .cons (h1.st st) ih
theorem ErrsV.at {vs : List V} {cs : List Addr} (h : ErrsV F H vs cs) : ∀ {i : Nat} {c : Addr}, cs[i]? = some c → ∃ v, vs[i]? = some v ∧ ErrV F H v c := by
  induction h with
  | nil => intro i c e; cases e
  | cons h1 _ ih =>
    intro i c e
    cases i with
    | zero => cases e; exact ⟨_, rfl, h1⟩
    | succ i => exact ih e
theorem ErrsV.app {vs ws : List V} {cs ds : List Addr} (h : ErrsV F H vs cs) (h2 : ErrsV F H ws ds) : ErrsV F H (vs ++ ws) (cs ++ ds) := by
  induction h with
  | nil => exact h2
  | cons h1 _ ih => exact .cons h1 ih
/-- the frame knows a list of error objects -/
def HasErrs (F : Fm) (o : Addr) (cs : List Addr) : Prop := ∀ k H, J F k H → ∃ vs, H o = some (.lst vs) ∧ ¬ F.S o ∧ ErrsV F H vs cs
theorem sus_st {b : Addr} {o : HO} (j : J (F.sus H) k H1) (n : ¬ F.S b) (x : ¬ IsX o) (e : H b = some o) : H1 b = some o :=
  j.le b o (fun z => z.elim (fun m => n (F.ms b m)) fun y => x (F.xi _ y)) (susH_data e n fun y => x (F.xi _ y))
theorem hasErrs_sus {o : Addr} {vs : List V} {cs : List Addr} (hS : ¬ F.S o) (ho : H o = some (.lst vs)) (he : ErrsV F H vs cs) : HasErrs (F.sus H) o cs := fun k H1 j =>
  ⟨vs, sus_st j hS nx_lst ho, hS, show ErrsV F H1 vs cs from he.st fun b u n x e => sus_st j n x e⟩
end
section
variable {F : Fm} {C : Cs} {ρ : Rho} {k : Nat} {Θ Θ' : V → Hp → Prop} {Φ : Nat → PyData → Prop} {e a b : Expr} {es : List Expr} {pos p p2 p3 px pos' pc : Pos} {x xc f : Str} {Cl : Addr} {P : DE} {rest : List Stmt}
theorem wraw_name (i : Nat) {v : V} (hN : C.N[i]? = some x) (hv : Vis C.sc x) (hr : ρ[i]? = some (.raw v)) (h : ∀ H, J F k H → Θ v H) (hd : (x == ("__debug__" : Str)) = false := by decide) (hcd : (x == ("__classdict__" : Str)) = false := by decide) : WRaw F C (.Name x pos) ρ k Θ := fun σ H Q en j q X fx pins s I =>
  (pe_var (X := X) (i := i) (by rw [fx.N]; exact hN) (by rw [fx.sc]; exact hv) hd hcd).run pins s σ H Q I ⟨v, en.raw hr, q v H (fun _ _ e => e) j (h H j)⟩
/-- xs[e], xs a known list of objects -/
theorem wraw_ix (i : Nat) {o : Addr} {Λ : List V → Hp → Prop} (hK : F.K = C.K) (hN : C.N[i]? = some x) (hv : Vis C.sc x) (hr : ρ[i]? = some (.raw (.ref o))) (hs : PlainIx b) (hl : ∀ H, J F k H → ∃ vs, H o = some (.lst vs) ∧ Λ vs H)
    (h : WNo F (tE C b) ρ k fun z => ∃ n : Int, z = .int n ∧ ∀ vs H, Λ vs H → ∃ v, atI vs n = some v ∧ Θ v H) (hd : (x == ("__debug__" : Str)) = false := by decide) (hcd : (x == ("__classdict__" : Str)) = false := by decide) : WRaw F C (.Subscript (.Name x px) b pos) ρ k Θ := fun σ H Q en j q X fx pins s I => by
  refine (pe_ix (X := X) (ixK fx) (pe_var (i := i) (by rw [fx.N]; exact hN) (by rw [fx.sc]; exact hv) hd hcd) (peE fx) hs).run pins s σ H Q I ⟨_, en.raw hr, ?_⟩
  refine h σ H _ en j fun v z H1 l1 j1 r1 ⟨n, ez, hh⟩ => ?_
  subst ez
  cases r1
  obtain ⟨vs, ho, hL⟩ := hl H1 j1
  obtain ⟨v, hv', hΘ⟩ := hh vs H1 hL
  exact .inl ⟨o, vs, n, v, rfl, rfl, SqL.of ho, hv', q v H1 l1 j1 hΘ⟩
/-- error objects in a row -/
theorem werrs_nil : WRaws F C [] ρ k fun vs H => ErrsV F H vs [] := fun σ H Q en j q X fx pos pins s I => (pa_nil (X := X)).run pos pins s σ H Q I (q [] H (fun _ _ e => e) j .nil)
theorem werrs_cons {cs : List Addr} (h : WRaw F C e ρ k fun v H => ErrV F H v Cl) (h2 : WRaws F C es ρ k fun vs H => ErrsV F H vs cs) (hs : ∀ env : Env, starEach (e :: es) env = (false, eval e env) :: starEach es env := by intro _; rfl) : WRaws F C (e :: es) ρ k fun vs H => ErrsV F H vs (Cl :: cs) := fun σ H Q en j q X fx pos pins s I => by
  refine (pa_cons (X := X) (peE fx) (paA fx) (hs X.env)).run pos pins s σ H Q I ?_
  refine h σ H _ en j fun v H1 l1 j1 r1 => ?_
  refine h2 σ H1 _ (en.le (sl_le l1)) j1 fun vs H2 l2 j2 r2 => ?_
  exact q _ H2 (sl_tr l1 l2) j2 (.cons (r1.same l2) r2)
/-- X(e) -/
theorem werr_G {d : PyData} (hX : XClG C.P C.w C.K C.mg C.base x Cl f) (hl : 2 ≤ C.lvl) (hg : C.sc.names.lookup x = some .globalImplicit) (h : WNo F (tE C e) ρ k fun u => u = d)
    (hdb : (x == ("__debug__" : Str)) = false := by decide) (hss : ∀ env : Env, starEach [e] env = (false, eval e env) :: starEach [] env := by intro _; rfl) :
    WRaw F C (.Call (.Name x p) [e] [] pos') ρ k fun v H => ∃ a, v = .ref a ∧ ErrF F H a Cl (some (f, d)) := fun σ H Q en j q X fx pins s I => by
  obtain ⟨B, newId, initId, mro, fI, fd, ps, xb, T, iC, tI, G, hb⟩ := hX.ex
  refine (pe_errG (X := X) xb (by rw [fx.K]; exact T) (by rw [fx.K]; exact iC) (by rw [fx.K]; exact tI) (by rw [fx.P, fx.w, fx.K, fx.mg, fx.base]; exact G) (fx.room.mono hl) (by rw [fx.K]; exact hb) (by show X.env.scope.names.lookup x = _; rw [fx.sc]; exact hg) (by rw [fx.mg]; exact hX.mx) (pa_cons (peE fx) pa_nil (hss X.env)) hdb (hss X.env) rfl).run pins s σ H Q I ?_
  show tE C e σ H _
  refine h σ H _ en j fun v u H1 l1 j1 r1 eu => ?_
  subst eu
  refine ⟨by show 1 ≤ 1000; decide, fun a na => ⟨a, v, rfl, upd_same, fun dx ndx ne => ⟨rfl, ?_⟩⟩⟩
  have hdx : H1 dx = none := by rw [upd_ne ne] at ndx; exact ndx
  have eH : upd (upd (upd H1 a (exo a Cl none)) dx (exd dx [(f, v)])) a (exo a Cl (some dx)) = upd (upd H1 dx (exd dx [(f, v)])) a (exo a Cl (some dx)) := by
    funext b
    by_cases h1 : b = a
    · rw [h1, upd_same, upd_same]
    · rw [upd_ne h1, upd_ne h1]
      by_cases h2 : b = dx
      · rw [h2, upd_same, upd_same]
      · rw [upd_ne h2, upd_ne h2, upd_ne h1]
  rw [eH]
  have na2 : upd H1 dx (exd dx [(f, v)]) a = none := by rw [upd_ne ne.symm]; exact na
  have l2 := sl_tr (sl_new (o := exd dx [(f, v)]) hdx) (sl_new (o := exo a Cl (some dx)) na2)
  refine q _ _ (sl_tr l1 l2) ((j1.new hdx).new na2) ⟨a, rfl, j1.fresh na, dx, v, j1.fresh hdx, upd_same, by rw [upd_ne ne, upd_same], ?_⟩
  exact Rep.keepX (fun b o _ _ e => l2 b o e) (fun _ _ z => z) _ _ r1
theorem WRaw.imp (h : WRaw F C e ρ k Θ) (i : ∀ v H, Θ v H → Θ' v H) : WRaw F C e ρ k Θ' := fun σ H Q en j q => h σ H Q en j fun v H' l j' t => q v H' l j' (i v H' t)
theorem werr_V {g : Option (Str × PyData)} (h : WRaw F C e ρ k fun v H => ∃ a, v = .ref a ∧ ErrF F H a Cl g) : WRaw F C e ρ k fun v H => ErrV F H v Cl := h.imp fun v H ⟨a, e, z⟩ => by rw [e]; exact z.toV
/-- X() -/
theorem werr_0 (hX : XCl0 C.K C.mg x Cl) (hg : C.sc.names.lookup x = some .globalImplicit) (hdb : (x == ("__debug__" : Str)) = false := by decide) :
    WRaw F C (.Call (.Name x p) [] [] pos') ρ k fun v H => ErrV F H v Cl := fun σ H Q en j q X fx pins s I => by
  refine (pe_err0 (X := X) PySem.F.excBase_ValueError (by rw [fx.K]; exact hX.q) (by rw [fx.mg]; exact hX.mx) (by rw [fx.K]; exact hX.kC) (by show X.env.scope.names.lookup x = _; rw [fx.sc]; exact hg) hdb).run pins s σ H Q I fun a na => ?_
  exact q _ _ (sl_new na) (j.new na) ⟨a, none, rfl, j.fresh na, upd_same, fun dx z => by cases z⟩
/-- X(e).f -/
theorem we_errF {d : PyData} (T : XfC C.K Cl) (no : PySem.W.findIn C.K (.ref Cl) f = some none) (h : WRaw F C e ρ k fun v H => ∃ a, v = .ref a ∧ ErrF F H a Cl (some (f, d))) (hΦ : Φ k d)
    (hb : ∀ env : Env, attributeBase e f env (eval e env) = eval e env := by intro _; rfl) : WPE F C (.Attribute e f pos) ρ k Φ := fun σ H Q en j q X fx pins s I => by
  refine (pe_errF (X := X) (peE fx) (hb X.env)).run pins s σ H Q I ?_
  refine h σ H _ en j fun v H1 l1 j1 ⟨a, ev, z⟩ => ?_
  obtain ⟨_, dx, u, _, h3, h4, r⟩ := z
  refine ⟨a, Cl, dx, [(f, u)], u, ev, by rw [fx.K]; exact T, by rw [fx.K]; exact no, h3, h4, ?_, q u d k H1 (sl_le l1) j1 r hΦ⟩
  simp
/-- isinstance(e, D) of an error object -/
theorem we_isErr {D : Addr} {r : Bool} (T : ExcC C.K Cl) (h : WRaw F C e ρ k fun v H => ErrV F H v Cl) (hg : C.sc.names.lookup ("isinstance" : Str) = some .globalImplicit) (hm : C.mg ("isinstance" : Str) = none)
    (hgc : C.sc.names.lookup xc = some .globalImplicit) (hmc : C.mg xc = some (.ref D)) (kit : PySem.W.kitOne C.K (.ref Cl) (.ref D) = some r) (hΦ : Φ k (.bool r)) (hdx : (xc == ("__debug__" : Str)) = false := by decide)
    (hs1 : ∀ env : Env, starEach [e, .Name xc pc] env = (false, eval e env) :: starEach [.Name xc pc] env := by intro _; rfl) :
    WPE F C (.Call (.Name "isinstance" p) [e, .Name xc pc] [] pos) ρ k Φ := fun σ H Q en j q X fx pins s I => by
  refine (pe_callB (X := X) (id := "isinstance") (r := rIsErr C.K) (by rw [← fx.K]; exact call_isErr) (by show X.env.scope.names.lookup ("isinstance" : Str) = _; rw [fx.sc]; exact hg) (by rw [fx.mg]; exact hm) (by decide +kernel)
    (pa_cons (peE fx) (pa_cons (pe_glob (v := .ref D) (u := .ref D) (by show X.env.scope.names.lookup xc = _; rw [fx.sc]; exact hgc) (by rw [fx.mg]; exact hmc) rfl hdx) pa_nil (by rfl)) (hs1 X.env)) (by decide) (by decide) (hs1 X.env) rfl).run pins s σ H Q I ?_
  refine h σ H _ en j fun v H1 l1 j1 z => ?_
  obtain ⟨a, d, ev, _, ha, hd⟩ := z
  subst ev
  exact ⟨a, Cl, d, .ref D, .ref D, r, rfl, ha, fun dx e => (hd dx e).2, T, .own D, kit, q _ _ k H1 (sl_le l1) j1 (.bl r) hΦ⟩
/-- isinstance(e, T), T a built-in type -/
theorem we_isErrB {r : Bool} (T' : String) (T : ExcC C.K Cl) (h : WRaw F C e ρ k fun v H => ErrV F H v Cl) (hg : C.sc.names.lookup ("isinstance" : Str) = some .globalImplicit) (hm : C.mg ("isinstance" : Str) = none)
    (hgc : C.sc.names.lookup xc = some .globalImplicit) (hmc : C.mg xc = none) (hx : bootBuiltins xc = some (.type T')) (kit : PySem.W.kitOne C.K (.ref Cl) (.type T') = some r) (hΦ : Φ k (.bool r)) (hxn : xc ≠ "__name__" := by decide) (hdx : (xc == ("__debug__" : Str)) = false := by decide)
    (hs1 : ∀ env : Env, starEach [e, .Name xc pc] env = (false, eval e env) :: starEach [.Name xc pc] env := by intro _; rfl) :
    WPE F C (.Call (.Name "isinstance" p) [e, .Name xc pc] [] pos) ρ k Φ := fun σ H Q en j q X fx pins s I => by
  refine (pe_callB (X := X) (id := "isinstance") (r := rIsErr C.K) (by rw [← fx.K]; exact call_isErr) (by show X.env.scope.names.lookup ("isinstance" : Str) = _; rw [fx.sc]; exact hg) (by rw [fx.mg]; exact hm) (by decide +kernel)
    (pa_cons (peE fx) (pa_cons (pe_bltn (v := .ty T') (by show X.env.scope.names.lookup xc = _; rw [fx.sc]; exact hgc) (by rw [fx.mg]; exact hmc) hx rfl hxn hdx) pa_nil (by rfl)) (hs1 X.env)) (by decide) (by decide) (hs1 X.env) rfl).run pins s σ H Q I ?_
  refine h σ H _ en j fun v H1 l1 j1 z => ?_
  obtain ⟨a, d, ev, _, ha, hd⟩ := z
  subst ev
  exact ⟨a, Cl, d, .ty T', .type T', r, rfl, ha, fun dx e => (hd dx e).2, T, .ty T', kit, q _ _ k H1 (sl_le l1) j1 (.bl r) hΦ⟩
/-! ### lists of error objects -/
abbrev endP (P : DE) : DE := { nx := fun _ _ => False, rt := P.rt, bk := fun _ _ => False, ct := fun _ _ => False }
theorem wb_errs {cs : List Addr} (i : Nat) (t : Tgt C i x) (hs : ∀ env : Env, env.scope = C.sc → swapsWith (.List es p2) (some (.Name x px)) pos.line env = pure false) (hz : cs.length ≤ 1000)
    (h : WRaws F C es ρ k fun vs H => ErrsV F H vs cs) (hrest : ∀ (F' : Fm) (o : Addr), F'.K = F.K → HasErrs F' o cs → WPB F' C rest (ρ.set i (.raw (.ref o))) k (endP P)) : WPB F C (.Assign [.Name x px] (.List es p2) pos :: rest) ρ k P :=
  of_pb (fun X fx => pss_cons (ps_set (by rw [fx.N]; exact t.hN) (by rw [fx.N]; exact t.hi) (by rw [fx.sc]; exact t.hx) (pe_lst (paA fx)) (hs X.env fx.sc) (by rw [fx.fn, fx.sc]; exact t.hf)) (pbB fx)) fun σ H E en j q1 q2 q3 q4 => by
    show tA C es σ H _
    refine h σ H _ en j fun vs H1 l1 j1 z => ⟨?_, fun o no => ?_⟩
    · have := Paired.length z
      rw [sizeLine_eq]; omega
    · have j2 := j1.new (o := .lst vs) no
      have l2 := sl_tr l1 (sl_new (o := .lst vs) no)
      refine hrest (F.sus (upd H1 o (.lst vs))) o rfl (hasErrs_sus (j1.fresh no) upd_same (z.st fun b u _ _ e => sl_new no b u e)) (σ.set i (some (.ref o))) _ E (EnvOk.set (sv := .raw (.ref o)) (en.le (sl_le l2)).sus rfl) j2.sus (fun _ _ _ _ _ _ _ y => y.elim) (fun v d k' H' j' r' p => q2 v d k' H' (J.unsus j2 j') r' p) (fun _ _ _ _ _ _ _ y => y.elim) fun _ _ _ _ _ _ _ y => y.elim
/-- x = x + [..] -/
theorem wb_errsCat {cs ds : List Addr} {o : Addr} (i : Nat) (t : Tgt C i x) (hv : Vis C.sc x) (hr : ρ[i]? = some (.raw (.ref o))) (hE : HasErrs F o cs) (hs : ∀ env : Env, env.scope = C.sc → swapsWith (.BinOp (.Name x p) .Add (.List es p2) p3) (some (.Name x px)) pos.line env = pure false) (hz : cs.length + ds.length ≤ 1000)
    (h : WRaws F C es ρ k fun vs H => ErrsV F H vs ds) (hrest : ∀ (F' : Fm) (o : Addr), F'.K = F.K → HasErrs F' o (cs ++ ds) → WPB F' C rest (ρ.set i (.raw (.ref o))) k (endP P)) (hd : (x == ("__debug__" : Str)) = false := by decide) (hcd : (x == ("__classdict__" : Str)) = false := by decide) :
    WPB F C (.Assign [.Name x px] (.BinOp (.Name x p) .Add (.List es p2) p3) pos :: rest) ρ k P :=
  of_pb (fun X fx => pss_cons (ps_set (by rw [fx.N]; exact t.hN) (by rw [fx.N]; exact t.hi) (by rw [fx.sc]; exact t.hx) (pe_op op_cat (pe_var (i := i) (by rw [fx.N]; exact t.hi) (by rw [fx.sc]; exact hv) hd hcd) (pe_lst (paA fx))) (hs X.env fx.sc) (by rw [fx.fn, fx.sc]; exact t.hf)) (pbB fx)) fun σ H E en j q1 q2 q3 q4 => by
    refine ⟨_, en.raw hr, ?_⟩
    show tA C es σ H _
    refine h σ H _ en j fun vs H1 l1 j1 z => ⟨?_, fun o1 no1 => ?_⟩
    · have := Paired.length z
      rw [sizeLine_eq]; omega
    · obtain ⟨us, hu, hSo, zu⟩ := hE k H1 j1
      have hu1 : upd H1 o1 (.lst vs) o = some (.lst us) := by rw [upd_ne (ne_of_none hu no1)]; exact hu
      have n1 := Paired.length z
      have n2 := Paired.length zu
      refine ⟨o, o1, us, vs, rfl, rfl, hu1, upd_same, by rw [sizeLine_eq]; omega, fun o2 no2 => ?_⟩
      have l2 := sl_tr (sl_new (o := .lst vs) no1) (sl_new (o := .lst (us ++ vs)) no2)
      have j1' := j1.new (o := .lst vs) no1
      have j2 := j1'.new (o := .lst (us ++ vs)) no2
      refine hrest (F.sus (upd (upd H1 o1 (.lst vs)) o2 (.lst (us ++ vs)))) o2 rfl (hasErrs_sus (j1'.fresh no2) upd_same ((zu.app z).st fun b u _ _ e => l2 b u e)) (σ.set i (some (.ref o2))) _ E (EnvOk.set (sv := .raw (.ref o2)) (en.le (sl_le (sl_tr l1 l2))).sus rfl) j2.sus (fun _ _ _ _ _ _ _ y => y.elim) (fun v d k' H' j' r' p => q2 v d k' H' (J.unsus j2 j') r' p) (fun _ _ _ _ _ _ _ y => y.elim) fun _ _ _ _ _ _ _ y => y.elim
/-! ### defs of one error object -/
def spErr (K : PySem.W.Frag) (R : Addr → PyData → Prop) : Sp := fun vs H Q _ => ∃ (S : Addr → Prop) (a Cl : Addr) (dd : Option Addr) (d : PyData), vs = [.ref a] ∧ (∀ b, S b → Lv H b) ∧ ¬ S a ∧ H a = some (exo a Cl dd) ∧ (∀ dx, dd = some dx → ¬ S dx ∧ ∃ fs, H dx = some (exd dx fs)) ∧ R Cl d ∧ ∀ v H', Same H H' → Rep K S H' v d → Q v H'
structure EFn (P : Program) (w : World) (K : PySem.W.Frag) (mg : Str → Option Value) (base : Heap) (lvl : Nat) (x : Str) (R : Addr → PyData → Prop) : Prop where
  ex : ∃ (fa : Addr) (fd : FuncData) (ps : List Str), FnG P w K mg base lvl fa fd ps (spErr K R) ∧ mg x = some (.ref fa) ∧ PySem.W.keepIn K (.ref fa) = true ∧ L2.Binds K fd ps []
theorem we_callErr {R : Addr → PyData → Prop} {j : Nat} {d : PyData} (hF : EFn C.P C.w C.K C.mg C.base j x R) (hl : j ≤ C.lvl) (hK : F.K = C.K) (hg : C.sc.names.lookup x = some .globalImplicit) (h : WRaw F C e ρ k fun v H => ErrV F H v Cl) (hR : R Cl d) (hΦ : Φ k d)
    (hdb : (x == ("__debug__" : Str)) = false := by decide) (hss : ∀ env : Env, starEach [e] env = (false, eval e env) :: starEach [] env := by intro _; rfl) : WPE F C (.Call (.Name x p) [e] [] pos) ρ k Φ := by
  obtain ⟨fa, fd, ps, G, hm, kp, hb⟩ := hF.ex
  refine of_pe (fun X fx => pe_callF fx G hl hg hm kp hb (pa_cons (peE fx) pa_nil (hss X.env)) hdb hss (fun _ => rfl)) fun σ H Q en jj q => ?_
  show tE C e σ H _
  refine h σ H _ en jj fun v H1 l1 j1 z => ?_
  obtain ⟨a, f, ev, nS, ha, hd⟩ := z
  subst ev
  refine ⟨F.S, a, Cl, f, d, rfl, j1.al, nS, ha, hd, hR, fun v H' sm rv => ?_⟩
  exact q v d k H' (sl_le (sl_tr l1 sm)) (j1.same2 sm) (by show Rep F.K F.S H' v d; rw [hK]; exact rv) hΦ
end
section
variable {P : Program} {w : World} {K : PySem.W.Frag} {mg : Str → Option Value} {base : Heap}
theorem err_ok {x qual y : Str} {st : Stmt} {f : Addr} {fd : FuncData} {N : List Str} {k : Nat} {R : Addr → PyData → Prop} (Fn : Fun K x qual st f fd) (Sc : FnScope N [y] (defScope st))
    (body : ∀ (F : Fm) (a Cl : Addr) (d : PyData), F.K = K → R Cl d → (∀ k H, J F k H → ErrV F H (.ref a) Cl) → WPB F (bodyCs P w K mg base N (defScope st) k) (defBody st) (.raw (.ref a) :: List.replicate (N.length - 1) SV.un) 0 { nx := fun _ _ => False, rt := fun _ d' => d' = d, bk := fun _ _ => False, ct := fun _ _ => False }) :
    FnG P w K mg base (k + 1) f fd [y] (spErr K R) := by
  refine FnG.of_body Fn Sc (fun vs H Q E h => ?_) (fun cdv A outer s H vs Q hgd hr h => ?_)
  · obtain ⟨S, a, Cl, dd, d, e, _⟩ := h
    rw [e]; rfl
  · obtain ⟨S, a, Cl, dd, d, e, al, nS, ha, hd, hR, q⟩ := h
    subst e
    refine ⟨_, pbB (fits_body hgd hr), ?_⟩
    have est : L2.start N [.ref a] = some (.ref a) :: List.replicate (N.length - 1) none := by
      unfold L2.start
      rfl
    have sm : ∀ {k' H'}, J (pureFm K S H) k' H' → Same H H' := fun {k' H'} j b o e => j.le b o (fun z => z.elim id id) e
    have hE : ∀ k' H', J (pureFm K S H) k' H' → ErrV (pureFm K S H) H' (.ref a) Cl := fun k' H' j => ⟨a, dd, rfl, nS, sm j a _ ha, fun dx z => ⟨(hd dx z).1, let ⟨fs, q⟩ := (hd dx z).2; ⟨fs, sm j dx _ q⟩⟩⟩
    refine body (pureFm K S H) a Cl d rfl hR hE (L2.start N [.ref a]) H _ ?_ ⟨trivial, fun b o _ e => e, al⟩ ?_ ?_ ?_ ?_
    · rw [est]
      intro i sv e
      match i, e with
      | 0, e => cases e; exact ⟨_, rfl, rfl⟩
      | i + 1, e =>
        have e' : (List.replicate (N.length - 1) SV.un)[i]? = some sv := e
        rw [List.getElem?_replicate] at e'
        by_cases hi : i < N.length - 1
        · rw [if_pos hi] at e'
          cases e'
          exact ⟨none, by show (List.replicate (N.length - 1) none)[i]? = _; rw [List.getElem?_replicate, if_pos hi], trivial⟩
        · rw [if_neg hi] at e'; cases e'
    · exact fun _ _ _ _ _ _ _ z => z.elim
    · exact fun v d' k' H' j' r' e => q v H' (sm j') (e ▸ r')
    · exact fun _ _ _ _ _ _ _ z => z.elim
    · exact fun _ _ _ _ _ _ _ z => z.elim
end
end Dl

namespace Dl
open PySem PySem.Spec PyProof.Rows L2
section
variable {F : Fm} {C : Cs} {ρ : Rho} {k : Nat} {P : DE} {Φ : Nat → PyData → Prop} {Ψ : Nat → Bool → Prop} {pos p p1 p2 p3 p4 p5 tp : Pos} {a b e : Expr} {body : List Stmt} {h₀ : ExceptHandler} {hs : List ExceptHandler} {x x1 x2 x3 : Str} {kk k2 : Nat}
/-- a global name whose value is a written tuple of texts -/
structure KTx (K : PySem.W.Frag) (mg : Str → Option Value) (x : Str) (bs : List Str) : Prop where
  ex : ∃ (T : Addr) (o : Obj) (its : Array Value) (n : Nat), mg x = some (.ref T) ∧ K.lookup T = some o ∧ o.cls = .type "tuple" ∧ o.data = .seq its n ∧ its.size ≤ sizeLine ∧ Vals (bs.map V.str) its.toList
end
section
variable {F : Fm} {C : Cs} {C1 C2 a dx b dy : Addr} {mk mk2 : Pg → Nat} {g g2 : Pg} {ρ : Rho} {k j : Nat} {Ψ : Nat → Bool → Prop} {pos p1 p2 : Pos} {y1 y2 : Str} {Pre : Pg → Pg → Prop} {R : Pg → Pg → Bool → Prop}
end
end Dl

namespace Dl
open PySem PySem.Spec PyProof.Rows L2
section
variable {F : Fm} {C : Cs} {C1 C2 a dx f : Addr} {fd : FuncData} {ps : List Str} {mk : Pg → Nat} {g : Pg} {ρ : Rho} {k j jj : Nat} {Φ : Nat → PyData → Prop} {pos p p1 cp : Pos} {y1 xc : Str} {e : Expr} {Pre : Pg → Pg → Prop} {R : Pg → Pg → Bool → Prop} {Ok : Nat × List Int → Prop}
end
section
variable {F : Fm} {C : Cs} {ρ : Rho} {k : Nat} {Φ : Nat → PyData → Prop} {pos : Pos} {a b c : Expr}
end
end Dl

set_option maxHeartbeats 2000000
namespace PySem.W
open PySem PySem.Spec PySem.Calls PyProof.Rows
section
variable {prog : Program} {w : World} {A : Around} {E : Value → Shared → Prop} {s : Shared} {K : Frag} {x C L f : Addr} {h₀ : Heap} {m : Str → Option Value} {ox : Obj} {od : Option Obj} {b tb : Value}
/-- != by the own ==: the class has no != -/
theorem tryNe_K {Q : Option Value → Shared → Prop} (hu : A.units + 1 < cLine) (X : K.In s.heap) (I : InstAt s.heap x ox C od) (hne : findIn K (.ref C) "__ne__" = some (some (.builtin "object.__ne__"))) (hob : subIn K (.ref C) (.type "object") = some true)
    (hs : findIn K (.ref C) "__eq__" = some (some (.ref f))) (hf : isFn K (.ref f) = true)
    (h : wpAny (model prog w) A.in1 (call (.ref f) [.ref x, b]) (fun v s' => ∃ c, v = .bool c ∧ Q (some (.bool (!c))) s') E s) : wpAny (model prog w) A (tryCompare (.ref x) "__ne__" b) Q E s := by
  obtain ⟨hp, g, d, t, os⟩ := s
  have sub : Looks (model prog w) hp (isInstance (.ref x) (.type "object")) true := I.type.andThen (looks_subIn X hob)
  have ent : wpAny (model prog w) A.in1 (Builtin.«object.__ne__» ⟨[.ref x, b], []⟩) (fun fin s' => match fin with | .done (.ret v) => ∃ c, v = .bool c ∧ Q (some (.bool c)) s' | _ => False) E ⟨hp, g, d, t, os⟩ := by
    unfold Builtin.«object.__ne__»
    refine wpAny_bind (wpAny_of_eq (a := ((Value.ref x : Value), [b])) (by first | rfl | (simp only [slotArgs]; rfl)) ?_)
    refine wpAny_bind (wpAny_cRoomFor (by show A.units + 1 < cLine; exact hu) ?_)
    refine wpAny_bind (ifBound_K X I hs hf (wpAny_mono h (fun v s' hv => ?_) fun _ _ e => e))
    obtain ⟨c, rfl, hq⟩ := hv
    refine wpAny_bind (m := truthy (.bool c)) (wpAny_truthy_bool ?_)
    exact wpAny_pure ⟨_, rfl, hq⟩
  have cal : wpAny (model prog w) A (call (.builtin "object.__ne__") [.ref x, b]) (fun v s' => ∃ c, v = .bool c ∧ Q (some (.bool c)) s') E ⟨hp, g, d, t, os⟩ := by
    refine wpAny_call (codeAny_call_builtin PySem.F.slot_object_ne.plain PySem.F.cmpEntry_ne ?_)
    refine @check_slot (model prog w) _ _ ⟨hp, g, d, t, os⟩ "object.__ne__" "object" "__ne__" (.ref x) [b] [] _ PySem.F.cmpKind_ne PySem.F.cmpSplit_ne sub (PySem.F.cmpArgs_ne _ _) ?_
    refine wpAny_mono ent (fun fin s' z => ?_) fun _ _ e => e
    cases fin with
    | done fl =>
      cases fl with
      | ret v => exact z
      | next => exact z.elim
      | brk => exact z.elim
      | cont => exact z.elim
    | again c => exact z.elim
  simp only [tryCompare]
  refine wpAny_bind (wpAny_mono (Q := fun r s' => ∃ c, r = some (.bool c) ∧ Q (some (.bool c)) s') ?_ (fun r s' z => ?_) fun _ _ e => e)
  · simp only [callSpecialIfBound?, bindSpecialIfBound?]
    refine wpAny_holding (wpAny_bind (wpAny_bind (wpAny_bind (I.type.here ((looks_findIn X hne).here ?_)))))
    simp only [PySem.F.slot_object_ne.bind]
    refine wpAny_bind (wpAny_askSetting (wpAny_ite ?_))
    have fin : wpAny (model prog w) A (call (.builtin "object.__ne__") ([.ref x] ++ [b]) >>= fun v => pure (some v)) (fun r s' => ∃ c, r = some (.bool c) ∧ Q (some (.bool c)) s') E ⟨hp, g, d, t, os⟩ :=
      wpAny_bind (wpAny_mono cal (fun v s' ⟨c, e, hq⟩ => wpAny_pure ⟨c, by rw [e], hq⟩) fun _ _ h' => h')
    split
    · exact wpAny_bind (wpAny_pure (wpAny_pure fin))
    · exact wpAny_tryCatch (wpAny_bind (wpAny_pure (wpAny_pure fin)))
  · obtain ⟨c, rfl, hq⟩ := z
    exact wpAny_pure hq
theorem cmpNe_K {Q : Value → Shared → Prop} (hu : A.units + 1 < cLine) (F : Fr h₀ L s.heap m) (X₀ : K.In h₀) (I : InstAt s.heap x ox C od) (hb : Looks (model prog w) s.heap (typeOf b) tb) (hn : notFirst K C tb = true) (hne : findIn K (.ref C) "__ne__" = some (some (.builtin "object.__ne__"))) (hob : subIn K (.ref C) (.type "object") = some true)
    (hs : findIn K (.ref C) "__eq__" = some (some (.ref f))) (hf : isFn K (.ref f) = true)
    (h : wpAny (model prog w) A.in1 (call (.ref f) [.ref x, b]) (fun v s' => ∃ c, v = .bool c ∧ Q (.bool (!c)) s') E s) : wpAny (model prog w) A (richCompare .NotEq (.ref x) b) Q E s := by
  have X := X₀.keeps F.keep
  have one : wpAny (model prog w) A (tryCompare (.ref x) (cmpInfo .NotEq).2.1 b) (fun r s' => ∃ v, r = some v ∧ Q v s') E s :=
    tryNe_K hu X I hne hob hs hf (wpAny_mono h (fun v s' ⟨c, e, hq⟩ => ⟨c, e, _, rfl, hq⟩) fun _ _ e => e)
  unfold richCompare
  simp only [oneThing_ref]
  refine wpAny_holding (wpAny_bind (wpAny_cRoomFor (Nat.lt_of_succ_lt hu) ?_))
  refine wpAny_bind (I.type.here (wpAny_bind (hb.here ?_)))
  split
  · rename_i q
    have e : subIn K tb (.ref C) = some false := by
      rcases Bool.or_eq_true_iff.mp hn with e | e
      · rw [beq_iff_eq.mp e] at q; simp at q
      · exact beq_iff_eq.mp e
    refine wpAny_bind ((looks_subIn X e).here ?_)
    simp only [Bool.false_eq_true, if_false]
    refine wpAny_bind (wpAny_mono one (fun r s' z => ?_) fun _ _ e => e)
    obtain ⟨v, rfl, hq⟩ := z
    exact wpAny_pure hq
  · refine wpAny_bind (wpAny_pure ?_)
    simp only [Bool.false_eq_true, if_false]
    refine wpAny_bind (wpAny_mono one (fun r s' z => ?_) fun _ _ e => e)
    obtain ⟨v, rfl, hq⟩ := z
    exact wpAny_pure hq
end
end PySem.W
namespace Dl
open PySem PySem.Spec PyProof.Rows L2
/-! ### decks as values of expressions -/
def WDeck (F : Fm) (C : Cs) (e : Expr) (ρ : Rho) (k : Nat) (Cl : Addr) (g : Pg) : Prop := WRaw F C e ρ k fun v H => ∃ a dx s t, v = .ref a ∧ PiG F.K Cl a dx s t g H
section
variable {F : Fm} {C : Cs} {Cl C1 C2 a dx f : Addr} {fd : FuncData} {ps : List Str} {mk : Pg → Nat} {g g1 g2 : Pg} {ρ : Rho} {k j : Nat} {Φ : Nat → PyData → Prop} {e ea eb o : Expr} {es : List Expr} {pos p pc cp apos : Pos} {x xc m : Str} {Pre : Pg → Pg → Prop} {R : Pg → Pg → Bool → Prop} {Ok : Nat × List Int → Prop}
theorem wdeck_raw (pi : HasPi F Cl a dx mk) (e1 : k = mk g) (h : WRaw F C e ρ k fun v _ => v = .ref a) : WDeck F C e ρ k Cl g := fun σ H Q en jj q => h σ H Q en jj fun v H' l j' ev => q v H' l j' (by
  obtain ⟨s, t, d⟩ := pi.get g H' (e1 ▸ j').g
  exact ⟨a, dx, s, t, ev, d⟩)
/-- A(e), a new deck -/
theorem wdeck_mk {d : Nat × List Int} (M : Mk C.K Cl f) (G : FnG C.P C.w C.K C.mg C.base j f fd ps (spInit C.K Cl Ok)) (hl : j + 1 ≤ C.lvl) (hg : C.sc.names.lookup xc = some .globalImplicit) (hm : C.mg xc = some (.ref Cl)) (hb : L2.Binds C.K fd ps []) (hK : F.K = C.K)
    (h : WNo F (tE C e) ρ k fun z => z = boxP d) (hok : Ok d) (hse : ∀ env : Env, starEach [e] env = (false, eval e env) :: starEach [] env := by intro _; rfl) (hdb : (xc == ("__debug__" : Str)) = false := by decide) : WDeck F C (.Call (.Name xc p) [e] [] cp) ρ k Cl ([d], []) := fun σ H Q en jj q X fx pins s I => by
  refine (pe_makeG (X := X) (by rw [fx.K]; exact M) (by rw [fx.P, fx.w, fx.K, fx.mg, fx.base]; exact G) fx.gd (fx.room.mono hl) (by show X.env.scope.names.lookup xc = _; rw [fx.sc]; exact hg) (by rw [fx.mg]; exact hm) (by rw [fx.K]; exact hb) (pa_cons (peE fx) pa_nil (hse X.env)) hdb (hse X.env) rfl).run pins s σ H Q I ?_
  show tE C e σ H _
  refine h σ H _ en jj fun v z H1 l1 j1 r1 ez b dy hbn hdn hne => ?_
  subst ez
  have keep0 : ∀ b' o, H1 b' = some o → upd (upd H1 dy (.own b)) b (.ins Cl dy []) b' = some o := fun b' o q => by
    rw [upd_ne (ne_of_none q hbn), upd_ne (ne_of_none q hdn)]; exact q
  refine ⟨F.S, b, dy, v, d, rfl, upd_same, by rw [upd_ne hne, upd_same], fun b' hb' => (j1.al b' hb').keep fun o q => keep0 b' o q, ?_, hok, fun s t H' keep hs0 ht0 dg => ⟨rfl, ?_⟩⟩
  · have := Rep.keep (S := F.S) (S' := F.S) (fun b' o _ q => keep0 b' o q) (fun _ _ z => z) _ _ r1
    rw [← hK]; exact this
  have all : Same H1 H' := fun b' o q => keep b' o (ne_of_none q hbn) (keep0 b' o q)
  exact q (.ref b) H' (sl_tr l1 all) (j1.same2 all) ⟨b, dy, s, t, rfl, by rw [hK]; exact dg⟩
theorem we_eqDR (hE : PiE C.P C.w C.K C.mg C.base C1 C2 j Pre R) (hl : j ≤ C.lvl) (hK : F.K = C.K) (h1 : WDeck F C ea ρ k C1 g1) (h2 : WDeck F C eb ρ k C2 g2) (hp : Pre g1 g2) (h : ∀ c, R g1 g2 c → Φ k (.bool c)) (hm : behindInMarks .Eq eb = false := by rfl) :
    WPE F C (.Compare ea [.Eq] [eb] pos) ρ k Φ := fun σ H Q en jj q X fx pins s I => by
  obtain ⟨⟨fa, fd, ps, G, hs, hf, hb⟩, hn⟩ := hE
  have ho : OpR X (compareOp .Eq) (rEqDk C.K C1 C2 Pre R) := by
    rw [← fx.K]
    exact op_eqDk (by rw [fx.P, fx.w, fx.K, fx.mg, fx.base]; exact G) fx.gd (fx.room.mono hl) (by rw [fx.K]; exact hs) (by rw [fx.K]; exact hf) (by rw [fx.K]; exact hb) (by rw [fx.K]; exact hn)
  refine (pe_cmpR (X := X) ho (peE fx) (peE fx) hm).run pins s σ H Q I ?_
  refine h1 σ H _ en jj fun v1 H1 l1 j1 ⟨a, dx, s1, t1, e1, d1⟩ => ?_
  refine h2 σ H1 _ (en.le (sl_le l1)) j1 fun v2 H2 l2 j2 ⟨b, dy, s2, t2, e2, d2⟩ => ?_
  rw [hK] at d1 d2
  have d1' := d1.same l2
  exact ⟨a, b, e1, e2, ⟨dx, _, d1'.ia⟩, ⟨dy, _, d2.ia⟩, a, dx, s1, t1, g1, b, dy, s2, t2, g2, rfl, d1', d2, hp, fun c H' sm hR => q _ _ k H' (sl_le (sl_tr (sl_tr l1 l2) sm)) (j2.same2 sm) (.bl c) (h c hR)⟩
/-- the class has no != of its own -/
structure NoNe (K : PySem.W.Frag) (Cl : Addr) : Prop where
  ne : PySem.W.findIn K (.ref Cl) "__ne__" = some (some (.builtin "object.__ne__"))
  ob : PySem.W.subIn K (.ref Cl) (.type "object") = some true
def rNeDk (K : PySem.W.Frag) (C1 C2 : Addr) (Pre : Pg → Pg → Prop) (R : Pg → Pg → Bool → Prop) : R2 := fun x y H Q => ∃ a b, x = .ref a ∧ y = .ref b ∧ (∃ dx fs, H a = some (.ins C1 dx fs)) ∧ (∃ dy gs, H b = some (.ins C2 dy gs)) ∧ spEqD K C1 C2 Pre R [.ref a, .ref b] H (fun v H' => ∃ c, v = .bl c ∧ Q (.bl (!c)) H') E0
theorem op_neDk {X : Cx} (G : FnG X.prog X.w X.K X.mg X.base k f fd ps (spEqD X.K C1 C2 Pre R)) (gd : X.A.guards = some []) (room : Room (k + 1) X.A) (nn : NoNe X.K C1) (hs : PySem.W.findIn X.K (.ref C1) "__eq__" = some (some (.ref f))) (hf : PySem.W.isFn X.K (.ref f) = true) (hb : L2.Binds X.K fd ps []) (hn : PySem.W.notFirst X.K C1 (.ref C2) = true) : OpR X (compareOp .NotEq) (rNeDk X.K C1 C2 Pre R) := by
  intro pins s σ H x y v u Q I rx ry hq
  obtain ⟨a, b, rfl, rfl, ⟨dx, fs, ha⟩, ⟨dy, gs, hb'⟩, hsp⟩ := hq
  cases rx
  cases ry
  obtain ⟨mA, J1, _⟩ := ins_get I.hok ha
  obtain ⟨mB, J2, _⟩ := ins_get I.hok hb'
  obtain ⟨od, J1, _⟩ := J1.look
  obtain ⟨od', J2, _⟩ := J2.look
  obtain ⟨m, hF⟩ := I.fr
  show wpAny (model X.prog X.w) X.A (richCompare .NotEq (.ref a) (.ref b)) (EP X pins σ Q) X.xe s
  refine PySem.W.cmpNe_K (tb := .ref C2) (by have := room.in1.units0; exact this) hF I.ok.mod.kin J1 J2.type hn nn.ne nn.ob hs hf ?_
  have hl := G.len _ _ _ _ hsp
  have r2 : Vals [V.ref a, V.ref b] [Value.ref a, Value.ref b] := .cons rfl (.cons rfl .nil)
  have bind := hb s [.ref a, .ref b] I.kIn (by simpa using hl)
  rw [List.append_nil] at bind
  refine wpAny_call (codeAny_mono (G.run X.A.in1 X.stack s H ⟨[.ref a, .ref b], []⟩ [.ref a, .ref b] [.ref a, .ref b] _ gd room.in1 I.env0.in1 bind r2 hsp) fun r s' hq => ?_)
  match r, hq with
  | .ok (.ret w), hq =>
    obtain ⟨z, H', I', rz, c, ez, qz⟩ := I.after hq
    subst ez
    cases rz
    exact ⟨c, rfl, .bl (!c), H', I', rfl, qz⟩
  | .ok .next, hq => exact False.elim hq
  | .ok .brk, hq => exact False.elim hq
  | .ok .cont, hq => exact False.elim hq
  | .error _, hq => exact False.elim hq
theorem we_neDR (hE : PiE C.P C.w C.K C.mg C.base C1 C2 j Pre R) (nn : NoNe C.K C1) (hl : j + 1 ≤ C.lvl) (hK : F.K = C.K) (h1 : WDeck F C ea ρ k C1 g1) (h2 : WDeck F C eb ρ k C2 g2) (hp : Pre g1 g2) (h : ∀ c, R g1 g2 c → Φ k (.bool (!c))) (hm : behindInMarks .NotEq eb = false := by rfl) :
    WPE F C (.Compare ea [.NotEq] [eb] pos) ρ k Φ := fun σ H Q en jj q X fx pins s I => by
  obtain ⟨⟨fa, fd, ps, G, hs, hf, hb⟩, hn⟩ := hE
  have ho : OpR X (compareOp .NotEq) (rNeDk C.K C1 C2 Pre R) := by
    rw [← fx.K]
    exact op_neDk (by rw [fx.P, fx.w, fx.K, fx.mg, fx.base]; exact G) fx.gd (fx.room.mono hl) (by rw [fx.K]; exact nn) (by rw [fx.K]; exact hs) (by rw [fx.K]; exact hf) (by rw [fx.K]; exact hb) (by rw [fx.K]; exact hn)
  refine (pe_cmpR (X := X) ho (peE fx) (peE fx) hm).run pins s σ H Q I ?_
  refine h1 σ H _ en jj fun v1 H1 l1 j1 ⟨a, dx, s1, t1, e1, d1⟩ => ?_
  refine h2 σ H1 _ (en.le (sl_le l1)) j1 fun v2 H2 l2 j2 ⟨b, dy, s2, t2, e2, d2⟩ => ?_
  rw [hK] at d1 d2
  have d1' := d1.same l2
  exact ⟨a, b, e1, e2, ⟨dx, _, d1'.ia⟩, ⟨dy, _, d2.ia⟩, a, dx, s1, t1, g1, b, dy, s2, t2, g2, rfl, d1', d2, hp, fun c H' sm hR => ⟨c, rfl, q _ _ k H' (sl_le (sl_tr (sl_tr l1 l2) sm)) (j2.same2 sm) (.bl _) (h c hR)⟩⟩
/-- isinstance(e, D) of a deck -/
theorem we_isiDk {D : Addr} {r : Bool} (pi : PiI C.K Cl) (hK : F.K = C.K) (h : WDeck F C e ρ k Cl g) (hg : C.sc.names.lookup ("isinstance" : Str) = some .globalImplicit) (hm : C.mg ("isinstance" : Str) = none)
    (hgc : C.sc.names.lookup xc = some .globalImplicit) (hmc : C.mg xc = some (.ref D)) (kit : PySem.W.kitOne C.K (.ref Cl) (.ref D) = some r) (hΦ : Φ k (.bool r)) (hdx : (xc == ("__debug__" : Str)) = false := by decide)
    (hs1 : ∀ env : Env, starEach [e, .Name xc pc] env = (false, eval e env) :: starEach [.Name xc pc] env := by intro _; rfl) :
    WPE F C (.Call (.Name "isinstance" p) [e, .Name xc pc] [] pos) ρ k Φ := fun σ H Q en jj q X fx pins s I => by
  refine (pe_callB (X := X) (id := "isinstance") (r := rIsi C.K) (isiK fx) (by show X.env.scope.names.lookup ("isinstance" : Str) = _; rw [fx.sc]; exact hg) (by rw [fx.mg]; exact hm) (by decide +kernel)
    (pa_cons (peE fx) (pa_cons (pe_glob (v := .ref D) (u := .ref D) (by show X.env.scope.names.lookup xc = _; rw [fx.sc]; exact hgc) (by rw [fx.mg]; exact hmc) rfl hdx) pa_nil (by rfl)) (hs1 X.env)) (by decide) (by decide) (hs1 X.env) rfl).run pins s σ H Q I ?_
  refine h σ H _ en jj fun v H1 l1 j1 ⟨a, dx, s1, t1, e1, d1⟩ => ?_
  subst e1
  exact ⟨.ref a, .ref D, .ref Cl, .ref D, r, rfl, .own D, .base (.ins d1.ia pi.cl pi.ha pi.hn pi.tk pi.hm), kit, q _ _ k H1 (sl_le l1) j1 (.bl r) hΦ⟩
end
/-! ### calls with a deck that an expression tells -/
section
variable {F : Fm} {C : Cs} {Cl a dx : Addr} {mk : Pg → Nat} {g : Pg} {ρ : Rho} {k j : Nat} {Φ : Nat → PyData → Prop} {o : Expr} {es : List Expr} {pos p apos : Pos} {x m : Str} {Pre : Pg → List PyData → Prop} {R : Pg → List PyData → Pg → PyData → Prop}
theorem we_pfR (pi : HasPi F Cl a dx mk) (hF : PiF C.P C.w C.K C.mg C.base Cl j x Pre R) (hl : j ≤ C.lvl) (hK : F.K = C.K) (hg : C.sc.names.lookup x = some .globalImplicit) (ho : WRaw F C o ρ (mk g) fun v _ => v = .ref a)
    (h : WPA F C es ρ (mk g) fun k1 ds => ∃ mk1 g1, HasPi F Cl a dx mk1 ∧ k1 = mk1 g1 ∧ Pre g1 ds ∧ ∀ g' d, R g1 ds g' d → Φ (mk1 g') d) (hdb : (x == ("__debug__" : Str)) = false := by decide)
    (hss : ∀ env : Env, starEach (o :: es) env = (false, eval o env) :: starEach es env := by intro _; rfl) (hpl : ∀ env : Env, ((backTo pos (starEach es env)).any fun x => x.fst) = false := by intro _; rfl) :
    WPE F C (.Call (.Name x p) (o :: es) [] pos) ρ (mk g) Φ := by
  obtain ⟨fa, fd, ps, G, hm, kp, hb⟩ := hF.ex
  refine of_pe (fun X fx => pe_callF fx G hl hg hm kp hb (pa_cons (peE fx) (paA fx) (hss X.env)) hdb hss hpl) fun σ H Q en jj q => ?_
  show tE C o σ H _
  refine ho σ H _ en jj fun v0 H0 l0 j0 e0 => ?_
  subst e0
  refine h σ H0 _ (en.le (sl_le l0)) j0 fun vs ds k1 H1 l1 j1 r1 ⟨mk1, g1, pi1, e1, hp, hq⟩ => ?_
  subst e1
  exact pi_step pi1 hK j1 r1 hp hq fun v d k' H' l' j' r' p => q v d k' H' ((sl_le l0).trans (l1.trans l')) j' r' p
theorem we_pm0R (pi : HasPi F Cl a dx mk) (hF : PiM C.P C.w C.K C.mg C.base Cl j m [] Pre R) (hl : j ≤ C.lvl) (hK : F.K = C.K) (ho : WRaw F C o ρ (mk g) fun v _ => v = .ref a) (hmn : m ≠ "states" ∧ m ≠ "done") (hp : Pre g []) (h : ∀ g' d, R g [] g' d → Φ (mk g') d)
    {pl : Env → Sem Bool} (ht : ∀ env : Env, eval (.Call (.Attribute o m apos) [] [] pos) env = (do
      let ov ← eval o env
      standAt apos.atName
      let (f, first) ← holding [ov] (getMethod ov m (pl env))
      callWith pos f first (backTo pos (starEach [] env)) (backToKw pos (keywordEach [] env))) := by intro _; rfl) :
    WPE F C (.Call (.Attribute o m apos) [] [] pos) ρ (mk g) Φ := by
  obtain ⟨fa, fd, ps, ds, G, hm, hb, hd2⟩ := hF.ex
  refine of_pe (fun X fx => pe_methG0 (pl := pl X.env) (peE fx) (by rw [fx.K]; exact hF.cl) (by rw [fx.K]; exact hm) (by rw [fx.P, fx.w, fx.K, fx.mg, fx.base]; exact G) fx.gd (fx.room.mono hl) (by rw [fx.K]; exact hb) hd2 (ht X.env)) fun σ H Q en jj q => ?_
  show tE C o σ H _
  refine ho σ H _ en jj fun v0 H0 l0 j0 e0 => ?_
  subst e0
  obtain ⟨s, t, dg⟩ := pi.get g H0 j0.g
  refine ⟨a, dx, _, rfl, dg.ia, meth_none hmn, ?_⟩
  exact pi_step (vs := []) (ds := []) pi hK j0 .nil hp h fun v d k' H' l' j' r' p => q v d k' H' ((sl_le l0).trans l') j' r' p
theorem we_pm0NR (pi : HasPi F Cl a dx mk) (hF : PiM C.P C.w C.K C.mg C.base Cl j m [.non] Pre R) (hl : j ≤ C.lvl) (hK : F.K = C.K) (ho : WRaw F C o ρ (mk g) fun v _ => v = .ref a) (hmn : m ≠ "states" ∧ m ≠ "done") (hp : Pre g [.none]) (h : ∀ g' d, R g [.none] g' d → Φ (mk g') d)
    {pl : Env → Sem Bool} (ht : ∀ env : Env, eval (.Call (.Attribute o m apos) [] [] pos) env = (do
      let ov ← eval o env
      standAt apos.atName
      let (f, first) ← holding [ov] (getMethod ov m (pl env))
      callWith pos f first (backTo pos (starEach [] env)) (backToKw pos (keywordEach [] env))) := by intro _; rfl) :
    WPE F C (.Call (.Attribute o m apos) [] [] pos) ρ (mk g) Φ := by
  obtain ⟨fa, fd, ps, ds, G, hm, hb, hd2⟩ := hF.ex
  refine of_pe (fun X fx => pe_methG0 (pl := pl X.env) (peE fx) (by rw [fx.K]; exact hF.cl) (by rw [fx.K]; exact hm) (by rw [fx.P, fx.w, fx.K, fx.mg, fx.base]; exact G) fx.gd (fx.room.mono hl) (by rw [fx.K]; exact hb) hd2 (ht X.env)) fun σ H Q en jj q => ?_
  show tE C o σ H _
  refine ho σ H _ en jj fun v0 H0 l0 j0 e0 => ?_
  subst e0
  obtain ⟨s, t, dg⟩ := pi.get g H0 j0.g
  refine ⟨a, dx, _, rfl, dg.ia, meth_none hmn, ?_⟩
  exact pi_step (vs := [.non]) (ds := [.none]) pi hK j0 (.cons .non .nil) hp h fun v d k' H' l' j' r' p => q v d k' H' ((sl_le l0).trans l') j' r' p
theorem we_plenR (pi : HasPi F Cl a dx mk) (hF : PiM C.P C.w C.K C.mg C.base Cl j "__len__" [] Pre R) (hl : j + 1 ≤ C.lvl) (hK : F.K = C.K) (ho : WRaw F C o ρ (mk g) fun v _ => v = .ref a) (hg : C.sc.names.lookup ("len" : Str) = some .globalImplicit) (hm : C.mg ("len" : Str) = none)
    (hp : Pre g []) (h : ∀ g' d, R g [] g' d → ∃ n : Nat, d = .int n ∧ n < 1000000 ∧ Φ (mk g') (.int n)) (hse : ∀ env : Env, starEach [o] env = (false, eval o env) :: starEach [] env := by intro _; rfl) :
    WPE F C (.Call (.Name "len" p) [o] [] pos) ρ (mk g) Φ := by
  obtain ⟨fa, fd, ps, ds, G, hmt, hb, hd2⟩ := hF.ex
  cases hd2
  refine of_pe (fun X fx => pe_callB (len_inst (by rw [fx.P, fx.w, fx.K, fx.mg, fx.base]; exact G) fx.gd (fx.room.mono hl) (by rw [fx.K]; exact hb) (C := Cl) (by rw [fx.K]; exact hmt.at_) (by rw [fx.K]; exact hmt.fn)) (by show X.env.scope.names.lookup ("len" : Str) = _; rw [fx.sc]; exact hg) (by rw [fx.mg]; exact hm) PySem.boot_len (pa_cons (peE fx) pa_nil (hse X.env)) (by decide) (by decide) (hse X.env) rfl) fun σ H Q en jj q => ?_
  show tE C o σ H _
  refine ho σ H _ en jj fun v0 H0 l0 j0 e0 => ?_
  subst e0
  obtain ⟨s, t, dg⟩ := pi.get g H0 j0.g
  refine ⟨a, dx, _, rfl, dg.ia, ?_⟩
  refine pi_step (vs := []) (ds := []) (Φ := fun k' d => ∃ n : Nat, d = .int n ∧ n < 1000000 ∧ Φ k' (.int n)) pi hK j0 .nil hp h fun v d k' H' l' j' r' ⟨n, e, hn, p⟩ => ?_
  subst e
  cases r'
  exact ⟨n, rfl, hn, q _ _ k' H' ((sl_le l0).trans l') j' (.int _) p⟩
end
end Dl

set_option maxHeartbeats 2000000
namespace Dl
open PySem PySem.Spec PyProof.Rows L2
/-! ### a deck beside what is no deck -/
theorem ty_repK {K : PySem.W.Frag} {S : Addr → Prop} {H : Hp} {v : V} {d : PyData} (r : Rep K S H v d) : TyX K H v (.type (tyN d)) := by
  cases r with
  | non => exact .base .non
  | bl b => exact .base (.bl b)
  | int i => exact .base (.int i)
  | str x => exact .base (.str x)
  | lst h _ => exact .base (.lst h.1)
  | tup h _ => exact .base (.tup h.1)
  | dct h _ => exact .base (.dK h.1)
def spEqV (K : PySem.W.Frag) (Cl : Addr) (Pre : PyData → Prop) : Sp := fun vs H Q _ => ∃ (S : Addr → Prop) (a dx : Addr) (fs : List (Str × V)) (v : V) (d : PyData), vs = [.ref a, v] ∧ (∀ b, S b → Lv H b) ∧ H a = some (.ins Cl dx fs) ∧ Rep K S H v d ∧ Pre d ∧ ∀ H', Same H H' → Q (.bl false) H'
structure PiEV (P : Program) (w : World) (K : PySem.W.Frag) (mg : Str → Option Value) (base : Heap) (Cl : Addr) (lvl : Nat) (Pre : PyData → Prop) : Prop where
  ex : ∃ (fa : Addr) (fd : FuncData) (ps : List Str), FnG P w K mg base lvl fa fd ps (spEqV K Cl Pre) ∧ PySem.W.findIn K (.ref Cl) "__eq__" = some (some (.ref fa)) ∧ PySem.W.isFn K (.ref fa) = true ∧ L2.Binds K fd ps []
  nf : ∀ d, Pre d → PySem.W.notFirst K Cl (.type (tyN d)) = true
section
variable {P : Program} {w : World} {K : PySem.W.Frag} {mg : Str → Option Value} {base : Heap} {Cl : Addr}
theorem eqV_ok {x qual : Str} {st : Stmt} {f : Addr} {fd : FuncData} {N : List Str} {x1 x2 : Str} {k : Nat} {Pre : PyData → Prop} (Fn : Fun K x qual st f fd) (Sc : FnScope N [x1, x2] (defScope st))
    (body : ∀ (F : Fm) (a : Addr) (d : PyData), F.K = K → (∀ k H, J F k H → ∃ dx fs, H a = some (.ins Cl dx fs)) → Pre d → WPB F (bodyCs P w K mg base N (defScope st) k) (defBody st) (.raw (.ref a) :: .d d :: List.replicate (N.length - 2) SV.un) 0 { nx := fun _ _ => False, rt := fun _ d => d = .bool false, bk := fun _ _ => False, ct := fun _ _ => False }) :
    FnG P w K mg base (k + 1) f fd [x1, x2] (spEqV K Cl Pre) := by
  refine FnG.of_body Fn Sc (fun vs H Q E h => ?_) (fun cdv A outer s H vs Q hgd hr h => ?_)
  · obtain ⟨S, a, dx, fs, v, d, rfl, _⟩ := h
    rfl
  · obtain ⟨S, a, dx, fs, v, d, rfl, al, ha, r, hp, q⟩ := h
    refine ⟨_, pbB (fits_body hgd hr), ?_⟩
    have sm : ∀ {k' H'}, J (pureFm K S H) k' H' → Same H H' := fun {k' H'} j b o e => j.le b o (fun z => z.elim id id) e
    have est : L2.start N [.ref a, v] = some (.ref a) :: some v :: List.replicate (N.length - 2) none := by
      unfold L2.start
      rfl
    refine body (pureFm K S H) a d rfl (fun k' H' j => ⟨dx, fs, sm j a _ ha⟩) hp (L2.start N [.ref a, v]) H _ ?_ ⟨trivial, fun b o _ e => e, al⟩ ?_ ?_ ?_ ?_
    · rw [est]
      intro i sv e
      match i, e with
      | 0, e => cases e; exact ⟨_, rfl, rfl⟩
      | 1, e => cases e; exact ⟨_, rfl, v, rfl, r⟩
      | i + 2, e =>
        have e' : (List.replicate (N.length - 2) SV.un)[i]? = some sv := e
        rw [List.getElem?_replicate] at e'
        by_cases hi : i < N.length - 2
        · rw [if_pos hi] at e'
          cases e'
          exact ⟨none, by show (List.replicate (N.length - 2) none)[i]? = _; rw [List.getElem?_replicate, if_pos hi], trivial⟩
        · rw [if_neg hi] at e'; cases e'
    · exact fun _ _ _ _ _ _ _ z => z.elim
    · rintro v d k' H' j' r' rfl
      cases r'
      exact q H' (sm j')
    · exact fun _ _ _ _ _ _ _ z => z.elim
    · exact fun _ _ _ _ _ _ _ z => z.elim
end
section
variable {X : Cx} {k : Nat} {f Cl : Addr} {fd : FuncData} {ps : List Str} {Pre : PyData → Prop}
def rEqV (K : PySem.W.Frag) (Cl : Addr) (Pre : PyData → Prop) (r : Bool) : R2 := fun x y H Q => ∃ (S : Addr → Prop) (a dx : Addr) (fs : List (Str × V)) (d : PyData), x = .ref a ∧ (∀ b, S b → Lv H b) ∧ H a = some (.ins Cl dx fs) ∧ Rep K S H y d ∧ Pre d ∧ ∀ H', Same H H' → Q (.bl r) H'
theorem op_eqV (G : FnG X.prog X.w X.K X.mg X.base k f fd ps (spEqV X.K Cl Pre)) (gd : X.A.guards = some []) (room : Room k X.A) (hs : PySem.W.findIn X.K (.ref Cl) "__eq__" = some (some (.ref f))) (hf : PySem.W.isFn X.K (.ref f) = true) (hb : L2.Binds X.K fd ps []) (hn : ∀ d, Pre d → PySem.W.notFirst X.K Cl (.type (tyN d)) = true) : OpR X (compareOp .Eq) (rEqV X.K Cl Pre false) := by
  intro pins s σ H x y v u Q I rx ry hq
  obtain ⟨S, a, dx, fs, d, rfl, al, ha, rd, hp, q⟩ := hq
  cases rx
  obtain ⟨mA, J1, _⟩ := ins_get I.hok ha
  obtain ⟨od, J1, _⟩ := J1.look
  obtain ⟨m, hF⟩ := I.fr
  obtain ⟨Pk, kx, pk, _⟩ := kit_of I ry (ty_repK rd)
  show wpAny (model X.prog X.w) X.A (richCompare .Eq (.ref a) u) (EP X pins σ Q) X.xe s
  refine PySem.W.cmp_K (op := .Eq) (tb := .type (tyN d)) room.units0 hF I.ok.mod.kin J1 (kx.ty _ _ I.kIn pk) (hn d hp) hs hf ?_
  have hsp : spEqV X.K Cl Pre [.ref a, y] H (fun v H' => v = .bl false ∧ Q (.bl false) H') E0 := ⟨S, a, dx, fs, y, d, rfl, al, ha, rd, hp, fun H' sm => ⟨rfl, q H' sm⟩⟩
  have hl := G.len _ _ _ _ hsp
  have r2 : Vals [V.ref a, y] [Value.ref a, u] := .cons rfl (.cons ry .nil)
  have bind := hb s [.ref a, u] I.kIn (by simpa using hl)
  rw [List.append_nil] at bind
  refine wpAny_call (codeAny_mono (G.run X.A X.stack s H ⟨[.ref a, u], []⟩ [.ref a, u] [.ref a, y] _ gd room I.env0 bind r2 hsp) fun r s' hq => ?_)
  match r, hq with
  | .ok (.ret w), hq =>
    obtain ⟨z, H', I', rz, ez, qz⟩ := I.after hq
    subst ez
    cases rz
    exact ⟨.bl false, H', I', rfl, qz⟩
  | .ok .next, hq => exact False.elim hq
  | .ok .brk, hq => exact False.elim hq
  | .ok .cont, hq => exact False.elim hq
  | .error _, hq => exact False.elim hq
theorem op_neV (G : FnG X.prog X.w X.K X.mg X.base k f fd ps (spEqV X.K Cl Pre)) (gd : X.A.guards = some []) (room : Room (k + 1) X.A) (nn : NoNe X.K Cl) (hs : PySem.W.findIn X.K (.ref Cl) "__eq__" = some (some (.ref f))) (hf : PySem.W.isFn X.K (.ref f) = true) (hb : L2.Binds X.K fd ps []) (hn : ∀ d, Pre d → PySem.W.notFirst X.K Cl (.type (tyN d)) = true) : OpR X (compareOp .NotEq) (rEqV X.K Cl Pre true) := by
  intro pins s σ H x y v u Q I rx ry hq
  obtain ⟨S, a, dx, fs, d, rfl, al, ha, rd, hp, q⟩ := hq
  cases rx
  obtain ⟨mA, J1, _⟩ := ins_get I.hok ha
  obtain ⟨od, J1, _⟩ := J1.look
  obtain ⟨m, hF⟩ := I.fr
  obtain ⟨Pk, kx, pk, _⟩ := kit_of I ry (ty_repK rd)
  show wpAny (model X.prog X.w) X.A (richCompare .NotEq (.ref a) u) (EP X pins σ Q) X.xe s
  refine PySem.W.cmpNe_K (tb := .type (tyN d)) (by have := room.in1.units0; exact this) hF I.ok.mod.kin J1 (kx.ty _ _ I.kIn pk) (hn d hp) nn.ne nn.ob hs hf ?_
  have hsp : spEqV X.K Cl Pre [.ref a, y] H (fun v H' => v = .bl false ∧ Q (.bl true) H') E0 := ⟨S, a, dx, fs, y, d, rfl, al, ha, rd, hp, fun H' sm => ⟨rfl, q H' sm⟩⟩
  have hl := G.len _ _ _ _ hsp
  have r2 : Vals [V.ref a, y] [Value.ref a, u] := .cons rfl (.cons ry .nil)
  have bind := hb s [.ref a, u] I.kIn (by simpa using hl)
  rw [List.append_nil] at bind
  refine wpAny_call (codeAny_mono (G.run X.A.in1 X.stack s H ⟨[.ref a, u], []⟩ [.ref a, u] [.ref a, y] _ gd room.in1 I.env0.in1 bind r2 hsp) fun r s' hq => ?_)
  match r, hq with
  | .ok (.ret w), hq =>
    obtain ⟨z, H', I', rz, ez, qz⟩ := I.after hq
    subst ez
    cases rz
    exact ⟨false, rfl, .bl true, H', I', rfl, qz⟩
  | .ok .next, hq => exact False.elim hq
  | .ok .brk, hq => exact False.elim hq
  | .ok .cont, hq => exact False.elim hq
  | .error _, hq => exact False.elim hq
end
section
variable {F : Fm} {C : Cs} {Cl : Addr} {g : Pg} {ρ : Rho} {k j : Nat} {Φ : Nat → PyData → Prop} {e ea eb : Expr} {pos p pc : Pos} {xc : Str} {Pre : PyData → Prop}
/-- a deck == / != what is no deck -/
theorem we_eqV (hE : PiEV C.P C.w C.K C.mg C.base Cl j Pre) (hl : j ≤ C.lvl) (hK : F.K = C.K) (h1 : WDeck F C ea ρ k Cl g) (h2 : WNo F (tE C eb) ρ k fun d => Pre d) (h : Φ k (.bool false)) (hm : behindInMarks .Eq eb = false := by rfl) :
    WPE F C (.Compare ea [.Eq] [eb] pos) ρ k Φ := fun σ H Q en jj q X fx pins s I => by
  obtain ⟨⟨fa, fd, ps, G, hs, hf, hb⟩, hn⟩ := hE
  have ho : OpR X (compareOp .Eq) (rEqV C.K Cl Pre false) := by
    rw [← fx.K]
    exact op_eqV (by rw [fx.P, fx.w, fx.K, fx.mg, fx.base]; exact G) fx.gd (fx.room.mono hl) (by rw [fx.K]; exact hs) (by rw [fx.K]; exact hf) (by rw [fx.K]; exact hb) (by rw [fx.K]; exact hn)
  refine (pe_cmpR (X := X) ho (peE fx) (peE fx) hm).run pins s σ H Q I ?_
  refine h1 σ H _ en jj fun v1 H1 l1 j1 ⟨a, dx, s1, t1, e1, d1⟩ => ?_
  refine h2 σ H1 _ (en.le (sl_le l1)) j1 fun v2 d H2 l2 j2 r2 hp => ?_
  exact ⟨F.S, a, dx, _, d, e1, j2.al, (d1.same l2).ia, hK ▸ r2, hp, fun H' sm => q _ _ k H' (sl_le (sl_tr (sl_tr l1 l2) sm)) (j2.same2 sm) (.bl _) h⟩
theorem we_neV (hE : PiEV C.P C.w C.K C.mg C.base Cl j Pre) (nn : NoNe C.K Cl) (hl : j + 1 ≤ C.lvl) (hK : F.K = C.K) (h1 : WDeck F C ea ρ k Cl g) (h2 : WNo F (tE C eb) ρ k fun d => Pre d) (h : Φ k (.bool true)) (hm : behindInMarks .NotEq eb = false := by rfl) :
    WPE F C (.Compare ea [.NotEq] [eb] pos) ρ k Φ := fun σ H Q en jj q X fx pins s I => by
  obtain ⟨⟨fa, fd, ps, G, hs, hf, hb⟩, hn⟩ := hE
  have ho : OpR X (compareOp .NotEq) (rEqV C.K Cl Pre true) := by
    rw [← fx.K]
    exact op_neV (by rw [fx.P, fx.w, fx.K, fx.mg, fx.base]; exact G) fx.gd (fx.room.mono hl) (by rw [fx.K]; exact nn) (by rw [fx.K]; exact hs) (by rw [fx.K]; exact hf) (by rw [fx.K]; exact hb) (by rw [fx.K]; exact hn)
  refine (pe_cmpR (X := X) ho (peE fx) (peE fx) hm).run pins s σ H Q I ?_
  refine h1 σ H _ en jj fun v1 H1 l1 j1 ⟨a, dx, s1, t1, e1, d1⟩ => ?_
  refine h2 σ H1 _ (en.le (sl_le l1)) j1 fun v2 d H2 l2 j2 r2 hp => ?_
  exact ⟨F.S, a, dx, _, d, e1, j2.al, (d1.same l2).ia, hK ▸ r2, hp, fun H' sm => q _ _ k H' (sl_le (sl_tr (sl_tr l1 l2) sm)) (j2.same2 sm) (.bl _) h⟩
/-- isinstance(e, D) of what is data, D a class of the program -/
theorem we_isiV {D : Addr} {r : Bool} (hK : F.K = C.K) (hg : C.sc.names.lookup ("isinstance" : Str) = some .globalImplicit) (hm : C.mg ("isinstance" : Str) = none)
    (hgc : C.sc.names.lookup xc = some .globalImplicit) (hmc : C.mg xc = some (.ref D)) (h : WPE F C e ρ k fun k1 d => PySem.W.kitOne C.K (.type (tyN d)) (.ref D) = some r ∧ Φ k1 (.bool r)) (hdx : (xc == ("__debug__" : Str)) = false := by decide)
    (hs1 : ∀ env : Env, starEach [e, .Name xc pc] env = (false, eval e env) :: starEach [.Name xc pc] env := by intro _; rfl) :
    WPE F C (.Call (.Name "isinstance" p) [e, .Name xc pc] [] pos) ρ k Φ := fun σ H Q en jj q X fx pins s I => by
  refine (pe_callB (X := X) (id := "isinstance") (r := rIsi C.K) (isiK fx) (by show X.env.scope.names.lookup ("isinstance" : Str) = _; rw [fx.sc]; exact hg) (by rw [fx.mg]; exact hm) (by decide +kernel)
    (pa_cons (peE fx) (pa_cons (pe_glob (v := .ref D) (u := .ref D) (by show X.env.scope.names.lookup xc = _; rw [fx.sc]; exact hgc) (by rw [fx.mg]; exact hmc) rfl hdx) pa_nil (by rfl)) (hs1 X.env)) (by decide) (by decide) (hs1 X.env) rfl).run pins s σ H Q I ?_
  show tE C e σ H _
  refine h σ H _ en jj fun v d k1 H1 l1 j1 r1 ⟨kit, hp⟩ => ?_
  exact ⟨v, .ref D, .type (tyN d), .ref D, r, rfl, .own D, hK ▸ ty_rep r1, kit, q _ _ k1 H1 l1 j1 (.bl r) hp⟩
end
/-! ### x, y = [A(e), A(e2)], [b1, b2]: a list of two new decks, an own list -/
theorem tCons_app {t : TE} {u : TA} {σ : L2.St} {H : Hp} {Q : List V → Hp → Prop} : tCons t u σ H Q = t σ H fun x H1 => u σ H1 fun xs H2 => Q (x :: xs) H2 := rfl
theorem tLst_app {t : TA} {σ : L2.St} {H : Hp} {Q : VK} : tLst t σ H Q = t σ H fun xs H1 => xs.length ≤ sizeLine ∧ ∀ p, H1 p = none → Q (.ref p) (upd H1 p (.lst xs)) := rfl
def HasL (F : Fm) (o : Addr) (vs : List V) : Prop := ∀ k H, J F k H → H o = some (.lst vs)
theorem HasDq.sus {F : Fm} {st q : Addr} {mk : Nat → Nat} {H : Hp} (h : HasDq F st q mk) : HasDq (F.sus H) st q mk := ⟨h.ms, h.get, h.put⟩
theorem susH_un {F : Fm} {H : Hp} {b : Addr} (h : H b = none) : F.susH H b = F.H0 b := by
  unfold Fm.susH
  rw [h]
section
variable {F : Fm} {C : Cs} {Cl f : Addr} {ρ : Rho} {k : Nat} {P : DE} {e e2 b1 b2 : Expr} {pos p p' cp cp2 p1 p2 p3 p4 l1 l2 : Pos} {kx kt : Nat} {xc x1 x2 : Str} {j : Nat} {fd : FuncData} {ps : List Str} {Ok : Nat × List Int → Prop} {rest : List Stmt}
theorem wb_piles (i1 i2 : Nat) (h12 : i1 ≠ i2) (hX : F.X = IsX) (hK : F.K = C.K) (t1 : Tgt C i1 x1) (t2 : Tgt C i2 x2) (hl1 : C.sc.names.lookup x1 = some .local) (hl2 : C.sc.names.lookup x2 = some .local)
    (M : Mk C.K Cl f) (G : FnG C.P C.w C.K C.mg C.base j f fd ps (spInit C.K Cl Ok)) (hl : j + 1 ≤ C.lvl) (hg : C.sc.names.lookup xc = some .globalImplicit) (hm : C.mg xc = some (.ref Cl)) (hb : L2.Binds C.K fd ps [])
    (hse : ∀ env : Env, starEach [e] env = (false, eval e env) :: starEach [] env) (hse2 : ∀ env : Env, starEach [e2] env = (false, eval e2 env) :: starEach [] env)
    (he1 : ∀ env : Env, starEach [.Call (.Name xc p) [e] [] cp, .Call (.Name xc p') [e2] [] cp2] env = (false, eval (.Call (.Name xc p) [e] [] cp) env) :: starEach [.Call (.Name xc p') [e2] [] cp2] env)
    (he2 : ∀ env : Env, starEach [.Call (.Name xc p') [e2] [] cp2] env = (false, eval (.Call (.Name xc p') [e2] [] cp2) env) :: starEach [] env)
    (he3 : ∀ env : Env, starEach [.List [.Call (.Name xc p) [e] [] cp, .Call (.Name xc p') [e2] [] cp2] l1, .List [b1, b2] l2] env = (false, eval (.List [.Call (.Name xc p) [e] [] cp, .Call (.Name xc p') [e2] [] cp2] l1) env) :: starEach [.List [b1, b2] l2] env)
    (he4 : ∀ env : Env, starEach [.List [b1, b2] l2] env = (false, eval (.List [b1, b2] l2) env) :: starEach [] env)
    (hs : ∀ env : Env, swapsWithSole [.Tuple [.Name x1 p1, .Name x2 p2] kx p4] (.Tuple [.List [.Call (.Name xc p) [e] [] cp, .Call (.Name xc p') [e2] [] cp2] l1, .List [b1, b2] l2] kt p3) pos.line env = pure false)
    (hw : ∀ env : Env, env.scope = C.sc → swappedStores [.Tuple [.Name x1 p1, .Name x2 p2] kx p4] (.Tuple [.List [.Call (.Name xc p) [e] [] cp, .Call (.Name xc p') [e2] [] cp2] l1, .List [b1, b2] l2] kt p3) env = pure (some [x1, x2]))
    (hdb : (xc == ("__debug__" : Str)) = false := by decide)
    (h : WPE F C e ρ k fun k1 z => ∃ d, z = boxP d ∧ Ok d ∧ ∀ a dx, ¬ F.M a → ¬ F.M dx → WPE (F.deck Cl a dx) C e2 ρ (kk k1 ([d], [])) fun k2 z2 => ∃ d2, z2 = boxP d2 ∧ Ok d2 ∧ ∀ b dy, ¬ (F.deck Cl a dx).M b → ¬ (F.deck Cl a dx).M dy →
      WPA ((F.deck Cl a dx).deck Cl b dy) C [b1, b2] ρ (kk k2 ([d2], [])) fun k3 ds => ∃ c g g2, k3 = kk (kk c g) g2 ∧ ds.length = 2 ∧ ∀ (Hs : Hp) (o o2 : Addr), HasL (((F.deck Cl a dx).deck Cl b dy).sus Hs) o [.ref a, .ref b] →
        WPB ((((F.deck Cl a dx).deck Cl b dy).sus Hs).ext o2) C rest ((ρ.set i1 (.raw (.ref o))).set i2 (.own o2 ds)) k3 { nx := fun _ _ => False, rt := fun k' u => ∃ c g g2, k' = kk (kk c g) g2 ∧ P.rt c u, bk := fun _ _ => False, ct := fun _ _ => False }) :
    WPB F C (.Assign [.Tuple [.Name x1 p1, .Name x2 p2] kx p4] (.Tuple [.List [.Call (.Name xc p) [e] [] cp, .Call (.Name xc p') [e2] [] cp2] l1, .List [b1, b2] l2] kt p3) pos :: rest) ρ k P :=
  of_pb (fun X fx => pss_cons (ps_par fx.calm (by rw [fx.N]; exact t1.hN) (by rw [fx.N]; exact t1.hi) (by rw [fx.N]; exact t2.hi) h12 (by rw [fx.sc]; exact hl1) (by rw [fx.sc]; exact hl2)
      (pa_cons (pe_lst (pa_cons (pe_makeG (by rw [fx.K]; exact M) (by rw [fx.P, fx.w, fx.K, fx.mg, fx.base]; exact G) fx.gd (fx.room.mono hl) (by show X.env.scope.names.lookup xc = _; rw [fx.sc]; exact hg) (by rw [fx.mg]; exact hm) (by rw [fx.K]; exact hb) (pa_cons (peE fx) pa_nil (hse X.env)) hdb (hse X.env) rfl)
        (pa_cons (pe_makeG (by rw [fx.K]; exact M) (by rw [fx.P, fx.w, fx.K, fx.mg, fx.base]; exact G) fx.gd (fx.room.mono hl) (by show X.env.scope.names.lookup xc = _; rw [fx.sc]; exact hg) (by rw [fx.mg]; exact hm) (by rw [fx.K]; exact hb) (pa_cons (peE fx) pa_nil (hse2 X.env)) hdb (hse2 X.env) rfl) pa_nil (he2 X.env)) (he1 X.env)))
        (pa_cons (pe_lst (paA fx)) pa_nil (he4 X.env)) (he3 X.env))
      (hw X.env fx.sc) (hs X.env)) (pbB fx)) fun σ H E en jj q1 q2 q3 q4 => by
    unfold tSeq tPar
    rw [tCons]
    rw [tLst_app, tCons_app]
    refine make_into (F := F) hX hK en jj (h.imp fun k1 z ⟨d, ez, ok, hh⟩ => ⟨d, ez, ok, fun a dx H1 ha hd I1 => ?_⟩)
    rw [tCons_app]
    refine make_into (F := F.deck Cl a dx) rfl hK (I1.en σ ρ en) I1.j ((hh a dx ha hd).imp fun k2 z2 ⟨d2, ez2, ok2, hh2⟩ => ⟨d2, ez2, ok2, fun b dy H2 hb' hdy I2 => ?_⟩)
    refine ⟨by show 2 ≤ sizeLine; decide, fun o no => ?_⟩
    have en2 := I2.en σ ρ (I1.en σ ρ en)
    have j3 := I2.j.new (o := .lst [V.ref a, V.ref b]) no
    have fo := I2.j.fresh no
    have Mo : ¬ ((F.deck Cl a dx).deck Cl b dy).M o := fun z => fo (((F.deck Cl a dx).deck Cl b dy).ms _ z)
    show tA C [b1, b2] σ _ _
    refine hh2 b dy hb' hdy σ _ _ (en2.le (.new no)) j3 fun vs ds k3 H4 l4 j4 r4 ⟨c, g, g2, ek, hlen, hrest⟩ => ?_
    refine ⟨by rw [r4.length, hlen]; show 2 ≤ sizeLine; decide, fun o2 no2 => ⟨.ref o, .ref o2, rfl, ?_⟩⟩
    have ho4 : H4 o = some (.lst [V.ref a, V.ref b]) := l4 o _ (Fm.mxL Mo) upd_same
    have hM2 : ¬ ((F.deck Cl a dx).deck Cl b dy).M o2 := fun z => ((F.deck Cl a dx).deck Cl b dy).gl _ _ j4.g o2 z no2
    have h02 : (((F.deck Cl a dx).deck Cl b dy).sus H4).H0 o2 = none := (susH_un no2).trans (j4.h0 hM2 no2)
    have en4 : EnvOk (((F.deck Cl a dx).deck Cl b dy).sus H4) H4 σ ρ := ((en2.le (.new no)).le l4).sus
    have en5 := EnvOk.ext (o := .lst vs) en4 no2
    have r5 : RpAll ((((F.deck Cl a dx).deck Cl b dy).sus H4).ext o2) (upd H4 o2 (.lst vs)) vs ds := RepAll.ext (F := ((F.deck Cl a dx).deck Cl b dy).sus H4) r4 no2
    refine hrest H4 o o2 (fun k' H' j' => sus_st j' fo nx_lst ho4) _ (upd H4 o2 (.lst vs)) E ((EnvOk.set (sv := .raw (.ref o)) en5 rfl).set (sv := .own o2 ds) ⟨rfl, .inr rfl, hM2, h02, vs, upd_same, r5⟩) (((j4.sus).new no2).ext (lv_new fun _ z => nomatch z)) ?_ ?_ ?_ ?_
    · exact fun _ _ _ _ _ _ _ z => z.elim
    · rintro v' u k' H6 j6 r6 ⟨c', g', g2', rfl, p⟩
      have j7 : J ((F.deck Cl a dx).deck Cl b dy) (kk (kk c' g') g2') H6 := J.unsus j4 j6.unext
      have r7 : Rp ((F.deck Cl a dx).deck Cl b dy) H6 v' u := Rep.unext (F := ((F.deck Cl a dx).deck Cl b dy).sus H4) r6
      exact q2 v' u c' H6 (I1.back c' g' H6 (I2.back (kk c' g') g2' H6 j7)) (repb (repb r7)) p
    · exact fun _ _ _ _ _ _ _ z => z.elim
    · exact fun _ _ _ _ _ _ _ z => z.elim
end
end Dl

set_option maxHeartbeats 2000000
namespace PySem.W
open PySem PySem.Spec PySem.Calls PyProof.Rows
section
variable {prog : Program} {w : World} {A : Around} {E : Value → Shared → Prop} {s : Shared} {K : Frag} {x y C D L f : Addr} {h₀ : Heap} {m : Str → Option Value} {ox oy : Obj} {od od' : Option Obj}
/-- == where the right one's class lies below the left one's: the right one is asked first -/
theorem cmpR_K {Q : Value → Shared → Prop} (hu : A.units < cLine) (F : Fr h₀ L s.heap m) (X₀ : K.In h₀) (I : InstAt s.heap x ox C od) (J : InstAt s.heap y oy D od') (hsub : subIn K (.ref D) (.ref C) = some true) (hne : C ≠ D)
    (hs : findIn K (.ref D) "__eq__" = some (some (.ref f))) (hf : isFn K (.ref f) = true)
    (h : wpAny (model prog w) A (call (.ref f) [.ref y, .ref x]) (CmpBack Q) E s) : wpAny (model prog w) A (richCompare .Eq (.ref x) (.ref y)) Q E s := by
  have X := X₀.keeps F.keep
  have one : wpAny (model prog w) A (tryCompare (.ref y) (cmpInfo .Eq).2.2 (.ref x)) (fun r s' => ∃ v, r = some v ∧ Q v s') E s := by
    unfold tryCompare
    refine wpAny_bind (ifBound_K X J hs hf (wpAny_mono h (fun v s' hv => ?_) fun _ _ e => e))
    cases v <;> first | exact hv.elim | exact wpAny_pure ⟨_, rfl, hv⟩
  have ne : ((Value.ref C : Value) != .ref D) = true := by
    simp only [bne_iff_ne, ne_eq, Value.ref.injEq]
    exact hne
  unfold richCompare
  simp only [oneThing_ref]
  refine wpAny_holding (wpAny_bind (wpAny_cRoomFor hu ?_))
  refine wpAny_bind (I.type.here (wpAny_bind (J.type.here ?_)))
  rw [ne, if_pos rfl]
  refine wpAny_bind ((looks_subIn X hsub).here ?_)
  rw [if_pos rfl]
  refine wpAny_bind (wpAny_mono one (fun r s' z => ?_) fun _ _ e => e)
  obtain ⟨v, rfl, hq⟩ := z
  exact wpAny_bind (wpAny_rule (wpAny_pure hq))
end
end PySem.W
namespace Dl
open PySem PySem.Spec PyProof.Rows L2
/-! ### [a == b for a, b in xs], xs a list of pairs of decks -/
def PairR (r : R2) (H : Hp) (v : V) (c : Bool) : Prop := ∃ p a b, v = .ref p ∧ H p = some (.lst [.ref a, .ref b]) ∧ ∀ (H' : Hp) (Q : VK), Same H H' → (∀ H'', Same H' H'' → Q (.bl c) H'') → r (.ref a) (.ref b) H' Q
theorem PairR.same {r : R2} {H H1 : Hp} {v : V} {c : Bool} (h : PairR r H v c) (l : Same H H1) : PairR r H1 v c := by
  obtain ⟨p, a, b, e, hp, hr⟩ := h
  exact ⟨p, a, b, e, l p _ hp, fun H' Q sm q => hr H' Q (sl_tr l sm) q⟩
theorem pairs_same {r : R2} {H H1 : Hp} {vs : List V} {cs : List Bool} (h : Paired (PairR r H) vs cs) (l : Same H H1) : Paired (PairR r H1) vs cs := by
  induction h with
  | nil => exact .nil
  | cons h1 _ ih => exact .cons (h1.same l) ih
theorem pairs_at {r : R2} {H : Hp} {vs : List V} {cs : List Bool} (h : Paired (PairR r H) vs cs) : ∀ {n : Nat} {v : V}, vs[n]? = some v → ∃ c, cs[n]? = some c ∧ PairR r H v c := by
  induction h with
  | nil => intro n v e; cases e
  | cons h1 _ ih =>
    intro n v e
    cases n with
    | zero => cases e; exact ⟨_, rfl, h1⟩
    | succ n => exact ih e
theorem op_orR {X : Cx} {op : CmpOp} {r r' : R2} (h : OpR X (compareOp op) r) (h' : OpR X (compareOp op) r') : OpR X (compareOp op) (fun x y H Q => r x y H Q ∨ r' x y H Q) := by
  intro pins s σ H x y v u Q I rx ry hq
  rcases hq with hq | hq
  · exact h pins s σ H x y v u Q I rx ry hq
  · exact h' pins s σ H x y v u Q I rx ry hq
section
variable {X : Cx} {k : Nat} {f C1 C2 : Addr} {fd : FuncData} {ps : List Str} {Pre : Pg → Pg → Prop} {R : Pg → Pg → Bool → Prop}
/-- a == b where b's class C2 lies below a's class C1: b's == is asked, with b and a -/
def rEqDr (K : PySem.W.Frag) (C1 C2 : Addr) (Pre : Pg → Pg → Prop) (R : Pg → Pg → Bool → Prop) : R2 := fun x y H Q => ∃ a b, x = .ref a ∧ y = .ref b ∧ (∃ dx fs, H a = some (.ins C1 dx fs)) ∧ (∃ dy gs, H b = some (.ins C2 dy gs)) ∧ spEqD K C2 C1 Pre R [.ref b, .ref a] H (fun v H' => Q v H') E0
theorem op_eqDr (G : FnG X.prog X.w X.K X.mg X.base k f fd ps (spEqD X.K C2 C1 Pre R)) (gd : X.A.guards = some []) (room : Room k X.A) (hs : PySem.W.findIn X.K (.ref C2) "__eq__" = some (some (.ref f))) (hf : PySem.W.isFn X.K (.ref f) = true) (hb : L2.Binds X.K fd ps []) (hsub : PySem.W.subIn X.K (.ref C2) (.ref C1) = some true) (hne : C1 ≠ C2) : OpR X (compareOp .Eq) (rEqDr X.K C1 C2 Pre R) := by
  intro pins s σ H x y v u Q I rx ry hq
  obtain ⟨a, b, rfl, rfl, ⟨dx, fs, ha⟩, ⟨dy, gs, hb'⟩, hsp⟩ := hq
  cases rx
  cases ry
  obtain ⟨mA, J1, _⟩ := ins_get I.hok ha
  obtain ⟨mB, J2, _⟩ := ins_get I.hok hb'
  obtain ⟨od, J1, _⟩ := J1.look
  obtain ⟨od', J2, _⟩ := J2.look
  obtain ⟨m, hF⟩ := I.fr
  show wpAny (model X.prog X.w) X.A (richCompare .Eq (.ref a) (.ref b)) (EP X pins σ Q) X.xe s
  refine PySem.W.cmpR_K room.units0 hF I.ok.mod.kin J1 J2 hsub hne hs hf ?_
  have hl := G.len _ _ _ _ hsp
  have r2 : Vals [V.ref b, V.ref a] [Value.ref b, Value.ref a] := .cons rfl (.cons rfl .nil)
  have bind := hb s [.ref b, .ref a] I.kIn (by simpa using hl)
  rw [List.append_nil] at bind
  have hsp2 : spEqD X.K C2 C1 Pre R [.ref b, .ref a] H (fun v H' => (∃ c, v = .bl c) ∧ Q v H') E0 := by
    obtain ⟨a', dx, s, t, g, b', dy, s', t', g', e, d1, d2, hp, q⟩ := hsp
    exact ⟨a', dx, s, t, g, b', dy, s', t', g', e, d1, d2, hp, fun c H' sm hR => ⟨⟨c, rfl⟩, q c H' sm hR⟩⟩
  refine wpAny_call (codeAny_mono (G.run X.A X.stack s H ⟨[.ref b, .ref a], []⟩ [.ref b, .ref a] [.ref b, .ref a] _ gd room I.env0 bind r2 hsp2) fun r s' hq => ?_)
  match r, hq with
  | .ok (.ret w), hq =>
    obtain ⟨z, H', I', rz, ⟨c, ez⟩, qz⟩ := I.after hq
    subst ez
    cases rz
    exact ⟨.bl c, H', I', rfl, qz⟩
  | .ok .next, hq => exact False.elim hq
  | .ok .brk, hq => exact False.elim hq
  | .ok .cont, hq => exact False.elim hq
  | .error _, hq => exact False.elim hq
end
theorem op_ofEr {C : Cs} {j : Nat} {C1 C2 : Addr} {Pre : Pg → Pg → Prop} {R : Pg → Pg → Bool → Prop} (hE : PiE C.P C.w C.K C.mg C.base C2 C1 j Pre R) (hl : j ≤ C.lvl) (hsub : PySem.W.subIn C.K (.ref C2) (.ref C1) = some true) (hne : C1 ≠ C2) (X : Cx) (fx : Fits C X) : OpR X (compareOp .Eq) (rEqDr C.K C1 C2 Pre R) := by
  obtain ⟨⟨fa, fd, ps, G, hs, hf, hb⟩, hn⟩ := hE
  rw [← fx.K]
  exact op_eqDr (by rw [fx.P, fx.w, fx.K, fx.mg, fx.base]; exact G) fx.gd (fx.room.mono hl) (by rw [fx.K]; exact hs) (by rw [fx.K]; exact hf) (by rw [fx.K]; exact hb) (by rw [fx.K]; exact hsub) hne
theorem rep_bools {K : PySem.W.Frag} {S : Addr → Prop} {H : Hp} : ∀ cs : List Bool, RepAll K S H (cs.map V.bl) (cs.map PyData.bool)
  | [] => .nil
  | c :: cs => .cons (.bl c) (rep_bools cs)
section
variable {F : Fm} {C : Cs} {D1 D2 : Addr} {g1 g2 : Pg} {ρ : Rho} {k : Nat} {c1 c2 : Expr} {q : Pos} {Pre : Pg → Pg → Prop} {R : Pg → Pg → Bool → Prop} {r : R2} {c : Bool}
theorem wraw_pair (hK : F.K = C.K) (h1 : WDeck F C c1 ρ k D1 g1) (h2 : WDeck F C c2 ρ k D2 g2) (hp : Pre g1 g2) (hc : ∀ c', R g1 g2 c' → c' = c) (hr : ∀ x y H Q, rEqDk C.K D1 D2 Pre R x y H Q → r x y H Q)
    (hs1 : ∀ env : Env, starEach [c1, c2] env = (false, eval c1 env) :: starEach [c2] env := by intro _; rfl) (hs2 : ∀ env : Env, starEach [c2] env = (false, eval c2 env) :: starEach [] env := by intro _; rfl) : WRaw F C (.List [c1, c2] q) ρ k fun v H => PairR r H v c := fun σ H Q en jj qq X fx pins s I => by
  refine (pe_lst (X := X) (pa_cons (peE fx) (pa_cons (peE fx) pa_nil (hs2 X.env)) (hs1 X.env))).run pins s σ H Q I ?_
  refine h1 σ H _ en jj fun v1 H1 l1 j1 ⟨a, dx, s1, t1, e1, d1⟩ => ?_
  refine h2 σ H1 _ (en.le (sl_le l1)) j1 fun v2 H2 l2 j2 ⟨b, dy, s2, t2, e2, d2⟩ => ?_
  subst e1 e2
  rw [hK] at d1 d2
  refine ⟨by show 2 ≤ sizeLine; decide, fun p np => ?_⟩
  have l3 := sl_new (o := .lst [V.ref a, V.ref b]) np
  refine qq (.ref p) _ (sl_tr (sl_tr l1 l2) l3) (j2.new np) ⟨p, a, b, rfl, upd_same, fun H' Q' sm q' => hr _ _ _ _ ?_⟩
  have d1' := d1.same (sl_tr (sl_tr l2 l3) sm)
  have d2' := d2.same (sl_tr l3 sm)
  exact ⟨a, b, rfl, rfl, ⟨dx, _, d1'.ia⟩, ⟨dy, _, d2'.ia⟩, a, dx, s1, t1, g1, b, dy, s2, t2, g2, rfl, d1', d2', hp, fun c' H'' sm2 hR => by rw [hc c' hR]; exact q' H'' sm2⟩
theorem wraw_pairR (hK : F.K = C.K) (h1 : WDeck F C c1 ρ k D1 g1) (h2 : WDeck F C c2 ρ k D2 g2) (hp : Pre g2 g1) (hc : ∀ c', R g2 g1 c' → c' = c) (hr : ∀ x y H Q, rEqDr C.K D1 D2 Pre R x y H Q → r x y H Q)
    (hs1 : ∀ env : Env, starEach [c1, c2] env = (false, eval c1 env) :: starEach [c2] env := by intro _; rfl) (hs2 : ∀ env : Env, starEach [c2] env = (false, eval c2 env) :: starEach [] env := by intro _; rfl) : WRaw F C (.List [c1, c2] q) ρ k fun v H => PairR r H v c := fun σ H Q en jj qq X fx pins s I => by
  refine (pe_lst (X := X) (pa_cons (peE fx) (pa_cons (peE fx) pa_nil (hs2 X.env)) (hs1 X.env))).run pins s σ H Q I ?_
  refine h1 σ H _ en jj fun v1 H1 l1 j1 ⟨a, dx, s1, t1, e1, d1⟩ => ?_
  refine h2 σ H1 _ (en.le (sl_le l1)) j1 fun v2 H2 l2 j2 ⟨b, dy, s2, t2, e2, d2⟩ => ?_
  subst e1 e2
  rw [hK] at d1 d2
  refine ⟨by show 2 ≤ sizeLine; decide, fun p np => ?_⟩
  have l3 := sl_new (o := .lst [V.ref a, V.ref b]) np
  refine qq (.ref p) _ (sl_tr (sl_tr l1 l2) l3) (j2.new np) ⟨p, a, b, rfl, upd_same, fun H' Q' sm q' => hr _ _ _ _ ?_⟩
  have d1' := d1.same (sl_tr (sl_tr l2 l3) sm)
  have d2' := d2.same (sl_tr l3 sm)
  exact ⟨a, b, rfl, rfl, ⟨dx, _, d1'.ia⟩, ⟨dy, _, d2'.ia⟩, b, dy, s2, t2, g2, a, dx, s1, t1, g1, rfl, d2', d1', hp, fun c' H'' sm2 hR => by rw [hc c' hR]; exact q' H'' sm2⟩
theorem wpairs_nil : WRaws F C [] ρ k fun vs H => Paired (PairR r H) vs [] := fun σ H Q en j qq X fx pos pins s I => (pa_nil (X := X)).run pos pins s σ H Q I (qq [] H (fun _ _ e => e) j .nil)
theorem wpairs_cons {e : Expr} {es : List Expr} {cs : List Bool} (h : WRaw F C e ρ k fun v H => PairR r H v c) (h2 : WRaws F C es ρ k fun vs H => Paired (PairR r H) vs cs) (hs : ∀ env : Env, starEach (e :: es) env = (false, eval e env) :: starEach es env := by intro _; rfl) : WRaws F C (e :: es) ρ k fun vs H => Paired (PairR r H) vs (c :: cs) := fun σ H Q en j qq X fx pos pins s I => by
  refine (pa_cons (X := X) (peE fx) (paA fx) (hs X.env)).run pos pins s σ H Q I ?_
  refine h σ H _ en j fun v H1 l1 j1 r1 => ?_
  refine h2 σ H1 _ (en.le (sl_le l1)) j1 fun vs H2 l2 j2 r2 => ?_
  exact qq _ H2 (sl_tr l1 l2) j2 (.cons (r1.same l2) r2)
end
section
variable {F : Fm} {C : Cs} {ρ : Rho} {k : Nat} {P : DE} {es : List Expr} {rhs : Expr} {pos pos2 p1 p2 p3 p4 p5 p6 p7 p8 p9 p10 py q4 r1 : Pos} {kk : Nat} {scope : Scope} {x x1 y : Str} {r : R2} {cs : List Bool} {body rest : List Stmt}
theorem we_lcPd (i i1 ip : Nat) (hne : i ≠ i1) (b : Blk2 C scope i x i1 x1) (hK : F.K = C.K) (hNp : C.N[ip]? = some y) (hvp : Vis C.sc y) (hv : Vis (C.blk scope).sc x) (hv1 : Vis (C.blk scope).sc x1) (ho : ∀ X, Fits (C.blk scope) X → OpR X (compareOp .Eq) r) (hz : cs.length ≤ 1000)
    {o : Addr} {vs : List V} {σ : L2.St} {H : Hp} {Q : VK} {u u1 : Option V} (hσ : σ[ip]? = some (some (.ref o))) (hi : σ[i]? = some u) (hi1 : σ[i1]? = some u1) (j : J F k H) (hH : H o = some (.lst vs)) (hp : Paired (PairR r H) vs cs)
    (q : ∀ v H', Same H H' → J F k H' → Rp F H' v (.list (cs.map PyData.bool)) → Q v H')
    (hd : (y == ("__debug__" : Str)) = false := by decide) (hcd : (y == ("__classdict__" : Str)) = false := by decide) (hdx : (x == ("__debug__" : Str)) = false := by decide) (hcdx : (x == ("__classdict__" : Str)) = false := by decide) (hdx1 : (x1 == ("__debug__" : Str)) = false := by decide) (hcdx1 : (x1 == ("__classdict__" : Str)) = false := by decide) :
    tE C (.ListComp (.Compare (.Name x p1) [.Eq] [.Name x1 p2] p3) [⟨.Tuple [.Name x p4, .Name x1 p5] kk p6, .Name y p7, [], 0⟩] scope p8) σ H Q := fun X fx pins s I => by
  refine (pe_lc (X := X) (own := [(x, i), (x1, i1)]) (wi := iList C.K (tVar ip)) (g := gLst C.K 2 (gCons (gName i) (gCons (gName i1) gNil))) (tt := tYes) (te := tOp r (tVar i) (tVar i1)) fx.calm (by rw [fx.N]; exact b.t.hN) (by rw [← fx.K]; exact pi_list (pe_var (by rw [fx.N]; exact hNp) (by rw [fx.sc]; exact hvp) hd hcd)) (by rw [fx.N, fx.sc]; exact b.ok)
    (fun s H a cl fp => by
      have e : (X.blk s H scope (compEnvC scope cl a X.env) fp).K = C.K := (fx.blk s H scope a cl fp).K
      rw [← e]
      exact pg_lst (n := 2) (fx.blk s H scope a cl fp).calm (pgs_cons (b.t.pg (fx.blk s H scope a cl fp)) (pgs_cons (b.t1.pg (fx.blk s H scope a cl fp)) pgs_nil)) (by rfl) (by rfl)) (fun s H a cl fp => pts_nil)
    (fun s H a cl fp => pe_cmpR (ho _ (fx.blk s H scope a cl fp)) (pe_var (by rw [(fx.blk s H scope a cl fp).N]; exact b.t.hi) (by rw [(fx.blk s H scope a cl fp).sc]; exact hv) hdx hcdx) (pe_var (by rw [(fx.blk s H scope a cl fp).N]; exact b.t1.hi) (by rw [(fx.blk s H scope a cl fp).sc]; exact hv1) hdx1 hcdx1) rfl) (fun _ => rfl)).run pins s σ H Q I ?_
  refine ⟨_, hσ, o, rfl, ⟨vs, SqL.of hH⟩, fun D hD => ?_⟩
  have li : i < σ.length := (List.getElem?_eq_some_iff.mp hi).1
  have li1 : i1 < σ.length := (List.getElem?_eq_some_iff.mp hi1).1
  have lens := Paired.length hp
  refine lc_list (xs := vs) (fun n H' => Same H H' ∧ H' D = some (.lst ((cs.take n).map V.bl))) ⟨sl_new hD, upd_same⟩ (fun n H' _ ⟨sm, _⟩ => SqL.of (sm o _ hH)) ?_ ?_
  · rintro n v H' hv' ⟨sm, hd'⟩
    obtain ⟨c, hc, p, a, b', e, hp', hr⟩ := pairs_at hp hv'
    subst e
    refine ⟨p, [.ref a, .ref b'], rfl, SqL.of (sm p _ hp'), rfl, .ref a, [.ref b'], rfl, .ref b', [], rfl, rfl, ?_⟩
    show wipe (((wipe σ [i, i1]).set i (some (.ref a))).set i1 (some (.ref b'))) [i, i1] = wipe σ [i, i1] ∧ _
    rw [wipe3 hne]
    refine ⟨wipe3' hne σ, ?_⟩
    show tOp r (tVar i) (tVar i1) _ H' _
    refine ⟨.ref a, by rw [List.getElem?_set_ne hne.symm]; exact List.getElem?_set_self (by rw [wipe_length]; exact li), .ref b', List.getElem?_set_self (by rw [List.length_set, wipe_length]; exact li1), hr H' _ sm fun H'' sm2 => ?_⟩
    refine ⟨_, sm2 D _ hd', ?_, fun b0 o0 e0 => ?_, ?_⟩
    · rw [List.length_map, List.length_take, sizeLine_eq]; omega
    · rw [upd_ne (ne_of_none e0 hD)]; exact sm2 b0 o0 (sm b0 o0 e0)
    · have et : cs.take (n + 1) = cs.take n ++ [c] := by
        rw [List.take_succ, hc]; rfl
      rw [et, List.map_append]
      exact upd_same
  · rintro H' ⟨sm, hd'⟩
    rw [lens, List.take_length] at hd'
    exact q (.ref D) H' sm (j.same2 sm) (.lst ⟨hd', j.fresh hD⟩ (rep_bools cs))
theorem wb_pairs (i i1 ip : Nat) (hne : i ≠ i1) (hpi : ip ≠ i) (hpi1 : ip ≠ i1) (b : Blk2 C scope i x i1 x1) (hK : F.K = C.K) (t : Tgt C ip y) (hvp : Vis C.sc y) (hv : Vis (C.blk scope).sc x) (hv1 : Vis (C.blk scope).sc x1) (hi : ρ[i]? = some .un) (hi1 : ρ[i1]? = some .un) (hip : ip < ρ.length)
    (ho : ∀ X, Fits (C.blk scope) X → OpR X (compareOp .Eq) r) (hz : cs.length ≤ 1000) (hs : ∀ env : Env, env.scope = C.sc → swapsWith (.List es q4) (some (.Name y py)) pos.line env = pure false)
    (h : WRaws F C es ρ k fun vs H => Paired (PairR r H) vs cs) (hgr : C.sc.names.lookup ("repr" : Str) = some .globalImplicit) (hmr : C.mg ("repr" : Str) = none)
    (hsh : (PyData.list (cs.map PyData.bool)).showable = true ∧ (PyData.list (cs.map PyData.bool)).depth ≤ 60 ∧ (PyData.list (cs.map PyData.bool)).shown.length ≤ sizeLine)
    (hm : behindInMarks .NotEq rhs = false) (hr : WPE F C rhs (ρ.set ip .un) k fun k' d => k' = k ∧ d = .str (PyData.list (cs.map PyData.bool)).shown) (hrest : WPB F C rest (ρ.set ip .un) k P)
    (hd : (y == ("__debug__" : Str)) = false := by decide) (hcd : (y == ("__classdict__" : Str)) = false := by decide) (hdx : (x == ("__debug__" : Str)) = false := by decide) (hcdx : (x == ("__classdict__" : Str)) = false := by decide) (hdx1 : (x1 == ("__debug__" : Str)) = false := by decide) (hcdx1 : (x1 == ("__classdict__" : Str)) = false := by decide) :
    WPB F C (.Assign [.Name y py] (.List es q4) pos :: .If (.Compare (.Call (.Name "repr" r1) [.ListComp (.Compare (.Name x p1) [.Eq] [.Name x1 p2] p3) [⟨.Tuple [.Name x p4, .Name x1 p5] kk p6, .Name y p7, [], 0⟩] scope p8] [] p9) [.NotEq] [rhs] p10) body [] pos2 :: rest) ρ k P :=
  of_pb (fun X fx => pss_cons (ps_set (by rw [fx.N]; exact t.hN) (by rw [fx.N]; exact t.hi) (by rw [fx.sc]; exact t.hx) (pe_lst (paA fx)) (hs X.env fx.sc) (by rw [fx.fn, fx.sc]; exact t.hf))
    (pss_cons (ps_if (pt_cmpR op_ne (pe_callB (reprA fx) (by show X.env.scope.names.lookup ("repr" : Str) = _; rw [fx.sc]; exact hgr) (by rw [fx.mg]; exact hmr) (by decide +kernel) (pa_cons (peE fx) pa_nil (by rfl)) (by decide) (by decide) (by rfl) rfl) (peE fx) hm) (pbB fx) pss_nil) (pbB fx))) fun σ H E en j q1 q2 q3 q4 => by
    show tA C es σ H _
    refine h σ H _ en j fun vs H1 l1 j1 z => ⟨?_, fun o no => ?_⟩
    · have := Paired.length z
      rw [sizeLine_eq]; omega
    have l2 := sl_new (o := .lst vs) no
    obtain ⟨u, hu, _⟩ := en i _ hi
    obtain ⟨u1, hu1, _⟩ := en i1 _ hi1
    have en2 : EnvOk F (upd H1 o (.lst vs)) (σ.set ip (some (.ref o))) (ρ.set ip .un) := EnvOk.set (sv := .un) (en.le (sl_le (sl_tr l1 l2))) trivial
    have hσp : ip < σ.length := by
      obtain ⟨w, hw, _⟩ := en ip _ (List.getElem?_eq_getElem hip)
      exact (List.getElem?_eq_some_iff.mp hw).1
    show tE C _ (σ.set ip (some (.ref o))) (upd H1 o (.lst vs)) _
    refine we_lcPd i i1 ip hne b hK t.hi hvp hv hv1 ho hz (u := u) (u1 := u1) (List.getElem?_set_self hσp) (by rw [List.getElem?_set_ne hpi]; exact hu) (by rw [List.getElem?_set_ne hpi1]; exact hu1) (j1.new no) upd_same (pairs_same z l2) (fun v H3 l3 j3 r3 => ?_) hd hcd hdx hcdx hdx1 hcdx1
    refine ⟨v, _, F.S, rfl, hK ▸ r3, hsh.1, hsh.2.1, hsh.2.2, ?_⟩
    refine hr _ H3 _ (en2.le (sl_le l3)) j3 fun v4 d4 k4 H4 l4 j4 r4 ⟨ek, ed⟩ => ?_
    subst ek ed
    cases r4
    refine ⟨rfl, false, by rw [decide_eq_true rfl]; rfl, ?_⟩
    show tB C rest E _ H4
    have lz : Lz F H H4 := (sl_le (sl_tr (sl_tr l1 l2) l3)).lz.trans l4.lz
    exact hrest _ H4 E ((en2.le (sl_le l3)).le l4) j4 (fun ρ2 σ2 k2 H2 m => q1 ρ2 σ2 k2 H2 (lz.trans m)) q2 (fun ρ2 σ2 k2 H2 m => q3 ρ2 σ2 k2 H2 (lz.trans m)) (fun ρ2 σ2 k2 H2 m => q4 ρ2 σ2 k2 H2 (lz.trans m))
end
section
variable {F : Fm} {C : Cs} {ρ : Rho} {k j : Nat} {Φ : PyData → Prop} {ie : Expr} {pos px : Pos} {x : Str} {C1 C2 : Addr} {Pre : Pg → Pg → Prop} {R : Pg → Pg → Bool → Prop}
/-- x[i] of the own list, where nothing else is done -/
theorem wn_ixOwn (i : Nat) {ow : Addr} {xs : List PyData} (hK : F.K = C.K) (hN : C.N[i]? = some x) (hv : Vis C.sc x) (hr : ρ[i]? = some (.own ow xs)) (hs : PlainIx ie)
    (h : WNo F (tE C ie) ρ k fun d => ∃ (j : Int) (z : PyData), d = .int j ∧ atI xs j = some z ∧ Φ z) (hd : (x == ("__debug__" : Str)) = false := by decide) (hcd : (x == ("__classdict__" : Str)) = false := by decide) :
    WNo F (tE C (.Subscript (.Name x px) ie pos)) ρ k Φ :=
  of_pn (fun X fx => pe_ix (ixlK fx) (pe_var (i := i) (by rw [fx.N]; exact hN) (by rw [fx.sc]; exact hv) hd hcd) (peE fx) hs) fun σ H Q en j q => by
    obtain ⟨hσ, hS, hM, h0, vs, hv', rv⟩ := en.own hr
    refine ⟨_, hσ, ?_⟩
    show tE C ie σ H _
    refine h σ H _ en j fun v d H1 l1 j1 r ⟨jj, z, ed, ha, p⟩ => ?_
    subst ed
    cases r
    obtain ⟨v, hat, ry⟩ := repAll_at rv ha
    exact ⟨ow, vs, _, v, rfl, rfl, SqL.of (l1 ow _ hv'), hat, q _ _ H1 l1 j1 (ry.le (sl_le l1).lz) p⟩
theorem op_ofE (hE : PiE C.P C.w C.K C.mg C.base C1 C2 j Pre R) (hl : j ≤ C.lvl) (X : Cx) (fx : Fits C X) : OpR X (compareOp .Eq) (rEqDk C.K C1 C2 Pre R) := by
  obtain ⟨⟨fa, fd, ps, G, hs, hf, hb⟩, hn⟩ := hE
  rw [← fx.K]
  exact op_eqDk (by rw [fx.P, fx.w, fx.K, fx.mg, fx.base]; exact G) fx.gd (fx.room.mono hl) (by rw [fx.K]; exact hs) (by rw [fx.K]; exact hf) (by rw [fx.K]; exact hb) (by rw [fx.K]; exact hn)
end
end Dl

namespace Dl
open PySem PySem.Spec PyProof.Rows L2
/-! ### a def of a class called through the class -/
/-- what the text must say for Class.m(..), m a def of it at f -/
structure ClF (K : PySem.W.Frag) (D : Addr) (m : Str) (f : Addr) : Prop where
  rd : PySem.W.readsIn K D (.type "type") = true
  ga : PySem.W.specialIn K (.ref D) "__getattribute__" = some (some (.builtin "type.__getattribute__"))
  at_ : PySem.W.findCls K (.ref D) (.type "type") m = some (.val (.ref f))
  kp : PySem.W.keepIn K (.ref f) = true
def tClF (D : Addr) (sp : Sp) (ta : TE) (t : TA) : TE := fun σ H Q => ta σ H fun x H1 => x = .ref D ∧ t σ H1 fun vs H2 => sp (vs ++ []) H2 Q E0
section
variable {X : Cx} {x m : Str} {p pos apos : Pos} {o e : Expr} {es : List Expr} {t : TA} {ta : TE} {k : Nat} {f D : Addr} {fd : FuncData} {ps : List Str} {sp : Sp}
theorem pe_clf {pl : Sem Bool} (he : PE X o ta) (c : ClF X.K D m f) (G : FnG X.prog X.w X.K X.mg X.base k f fd ps sp) (gd : X.A.guards = some []) (room : Room k X.A) (hb : L2.Binds X.K fd ps []) (ha : PA X (e :: es) t)
    (hst : starEach (e :: es) X.env = (false, eval e X.env) :: starEach es X.env) (hpl : (backTo pos (starEach es X.env)).any (·.1) = false)
    (ht : eval (.Call (.Attribute o m apos) (e :: es) [] pos) X.env = (do
      let ov ← eval o X.env
      standAt apos.atName
      let (f, first) ← holding [ov] (getMethod ov m pl)
      callWith pos f first (backTo pos (starEach (e :: es) X.env)) (backToKw pos (keywordEach [] X.env)))) :
    PE X (.Call (.Attribute o m apos) (e :: es) [] pos) (tClF D sp ta t) := by
  refine ⟨fun pins s σ H Q I h => ?_⟩
  refine PySem.W.methodCall_KW (pl := pl) (thn (he.run pins s σ H _ I h) fun u s1 ⟨x, H1, I1, rx, ex, q⟩ => ?_) ht
  subst ex
  obtain rfl : u = Value.ref D := rx
  refine PySem.W.method_cls I1.kIn c.ga (PySem.W.cls_value I1.kIn c.rd c.at_ rfl ?_)
  have I2 : Inv X pins σ H1 { s1 with toks := s1.toks + 1 } := I1.tok (s1.toks + 1)
  refine PySem.W.callWith_K (first := []) (h₀ := X.base) I2.ok.mod.kin c.kp (thn (ha.run pos pins _ σ H1 _ I2 q) fun us s2 ⟨vs, H2, I3, r, q2⟩ => ⟨I3.kIn, ?_⟩) hst hpl
  exact FnG.call_runD (us := us) (vs := vs) G gd room hb .nil I3 r q2
end
section
variable {F : Fm} {C : Cs} {Cl D a dx f : Addr} {ρ : Rho} {P : DE} {x y z m : Str} {p p1 p2 p3 apos pos cp : Pos} {d : Nat × List Int} {j : Nat} {fd : FuncData} {ps : List Str} {Ok : Nat × List Int → Prop}
/-- Base.__init__(self, box) at the start of an __init__ -/
theorem ws_initSub (ini : IsInit F Cl a dx d) (hK : F.K = C.K) (c : ClF C.K D m f) (G : FnG C.P C.w C.K C.mg C.base j f fd ps (spInit C.K Cl Ok)) (hl : j ≤ C.lvl) (hb : L2.Binds C.K fd ps [])
    (hg : C.sc.names.lookup x = some .globalImplicit) (hm : C.mg x = some (.ref D)) (i1 i2 : Nat) (hN : C.N[i1]? = some y) (hv : Vis C.sc y) (hr : ρ[i1]? = some (.raw (.ref a))) (hN2 : C.N[i2]? = some z) (hv2 : Vis C.sc z) (hr2 : ρ[i2]? = some (.d (boxP d))) (ok : Ok d)
    (hs : ∀ env : Env, swapsWith (.Call (.Attribute (.Name x p) m apos) [.Name y p1, .Name z p2] [] cp) none pos.line env = pure false) (h : P.nx 1 ρ)
    (hdb : (x == ("__debug__" : Str)) = false := by decide) (hd : (y == ("__debug__" : Str)) = false := by decide) (hcd : (y == ("__classdict__" : Str)) = false := by decide) (hd2 : (z == ("__debug__" : Str)) = false := by decide) (hcd2 : (z == ("__classdict__" : Str)) = false := by decide)
    (hst : ∀ env : Env, starEach [.Name y p1, .Name z p2] env = (false, eval (.Name y p1) env) :: starEach [.Name z p2] env := by intro _; rfl) (hst2 : ∀ env : Env, starEach [.Name z p2] env = (false, eval (.Name z p2) env) :: starEach [] env := by intro _; rfl) (hpl : ∀ env : Env, ((backTo cp (starEach [.Name z p2] env)).any fun x => x.fst) = false := by intro _; rfl)
    {pl : Env → Sem Bool} (ht : ∀ env : Env, eval (.Call (.Attribute (.Name x p) m apos) [.Name y p1, .Name z p2] [] cp) env = (do
      let ov ← eval (.Name x p) env
      standAt apos.atName
      let (f, first) ← holding [ov] (getMethod ov m (pl env))
      callWith cp f first (backTo cp (starEach [.Name y p1, .Name z p2] env)) (backToKw cp (keywordEach [] env))) := by intro _; rfl) :
    WPS F C (.Expr (.Call (.Attribute (.Name x p) m apos) [.Name y p1, .Name z p2] [] cp) pos) ρ 0 P :=
  of_ps (fun X fx => ps_expr (pe_clf (pl := pl X.env) (pe_glob (v := .ref D) (u := .ref D) (by show X.env.scope.names.lookup x = _; rw [fx.sc]; exact hg) (by rw [fx.mg]; exact hm) rfl hdb) (by rw [fx.K]; exact c) (by rw [fx.P, fx.w, fx.K, fx.mg, fx.base]; exact G) fx.gd (fx.room.mono hl) (by rw [fx.K]; exact hb)
      (pa_cons (pe_var (i := i1) (by rw [fx.N]; exact hN) (by rw [fx.sc]; exact hv) hd hcd) (pa_cons (pe_var (i := i2) (by rw [fx.N]; exact hN2) (by rw [fx.sc]; exact hv2) hd2 hcd2) pa_nil (hst2 X.env)) (hst X.env)) (hst X.env) (hpl X.env) (ht X.env)) (hs X.env)) fun σ H E en jj q1 q2 q3 q4 => by
    obtain ⟨S, H0, hF⟩ := ini.ex
    obtain ⟨K', hK'⟩ : ∃ K', K' = F.K := ⟨_, rfl⟩
    rw [← hK'] at hF hK
    subst hF
    rcases jj.g with ⟨_, ha, hdx⟩ | ⟨e, _⟩
    rotate_left
    · cases e
    obtain ⟨v, ev, rv⟩ := en.d hr2
    have ned : dx ≠ a := ne_of hdx ha (fun z => nomatch z)
    refine ⟨rfl, .ref a, en.raw hr, v, ev, ?_⟩
    refine ⟨(initFm K' S H0 Cl a dx d).S, a, dx, v, d, rfl, ha, hdx, jj.al, hK ▸ rv, ok, fun s t H' keep hs0 ht0 pg => ?_⟩
    rw [← hK] at pg
    have nsa : s ≠ a := fun z => by rw [z, ha] at hs0; cases hs0
    have nsd : s ≠ dx := fun z => by rw [z, hdx] at hs0; cases hs0
    have nta : t ≠ a := fun z => by rw [z, ha] at ht0; cases ht0
    have ntd : t ≠ dx := fun z => by rw [z, hdx] at ht0; cases ht0
    have le : Le (initFm K' S H0 Cl a dx d) H H' := fun b o n e => keep b o (fun z => n (.inl (.inl z))) e
    refine q1 ρ σ 1 H' le.lz (en.le le) ⟨.inr ⟨rfl, s, t, pg, jj.h0 (fun z => z.elim nsa nsd) hs0, jj.h0 (fun z => z.elim nta ntd) ht0⟩, fun b o n e => le b o n (jj.le b o n e), fun b hb => ?_⟩ h
    by_cases hba : b = a
    · subst hba; exact ⟨_, pg.ia, fun _ z => nomatch z⟩
    · exact (jj.al b hb).keep fun o e => keep b o hba e
end
end Dl

namespace Dl
open PySem PySem.Spec PyProof.Rows L2
/-! ### counting over a list -/
section
variable {F : Fm} {C : Cs} {ρ : Rho} {k : Nat} {P : DE} {Φ : Nat → PyData → Prop} {x xc xb : Str} {px dp pc pb p3 p4 p5 p6 p7 p8 p9 p10 p11 p12 s1 s2 s3 s4 : Pos} {j1 j2 : Nat} {iter eb : Expr} {rest : List Stmt}
end
end Dl

namespace Dl
open PySem PySem.Spec PyProof.Rows L2
section
variable {F : Fm} {C : Cs} {ρ : Rho} {k : Nat} {Φ : Nat → PyData → Prop} {a b : Expr} {pos : Pos}
end
end Dl

namespace Dl
open PySem PySem.Spec PyProof.Rows L2
section
variable {F : Fm} {C : Cs} {ρ : Rho} {k : Nat} {P : DE} {pos p pl pl2 p1 p2 p4 pt : Pos} {e : Expr} {x1 x2 : Str} {kk kt : Nat} {rest : List Stmt}
end
end Dl

namespace Dl
open PySem PySem.Spec PyProof.Rows L2
/-! ### two own lists side by side -/
def NoW (ρ : Rho) (i : Nat) (o : Addr) : Prop := ∀ (j : Nat) (o' : Addr) (xs : List PyData), j ≠ i → ρ[j]? = some (.own o' xs) → o' ≠ o
section
variable {F : Fm} {C : Cs} {ρ : Rho} {k : Nat} {P : DE} {Φ : Nat → PyData → Prop} {Ψ : Nat → Bool → Prop} {pos p px p2 ap cp py pl pl2 p1 p4 pt : Pos} {x y x1 x2 : Str} {rest : List Stmt} {e : Expr} {o : Addr} {kk kt : Nat}
end
end Dl

namespace Dl
open PySem PySem.Spec PyProof.Rows L2
section
variable {F : Fm} {C : Cs} {ρ : Rho} {k : Nat} {P : DE} {e : Expr} {x a b : Str} {p1 p2 p3 p4 p5 p6 p7 spos : Pos} {kk : Nat}
end
end Dl

namespace Dl
open PySem PySem.Spec PyProof.Rows L2
/-! ### [elt for x, y in zip(tuple, tuple) if c] -/
section
variable {F : Fm} {C : Cs} {ρ : Rho} {k : Nat} {Φ : Nat → PyData → Prop} {P : DE} {pos spos : Pos} {elt e e2 c : Expr} {scope : Scope} {x x1 : Str} {px px1 p3 pr pr2 : Pos} {kk : Nat}
end
end Dl

set_option maxHeartbeats 8000000
namespace K74
open PySem PySem.Spec PyProof.Rows L2 Dl
def topS (i : Nat) : Stmt := PySem.Challenge.pw_cardboxes_k74_deck_equality_and_errors.main.body.getD i (.Pass ⟨0, 0, 0, 0⟩)
local macro_rules | `(tactic| walk_at "vis") => `(tactic| first | exact Or.inl rfl | exact Or.inr (Or.inl rfl) | exact Or.inr (Or.inr rfl))
local macro_rules | `(tactic| walk_at "blk") => `(tactic| exact ⟨blkOk_by (by dsimp only [bodyCs, Cs.blk]; decide +kernel), ⟨by dsimp only [bodyCs, Cs.blk]; decide +kernel, rfl, (by first | exact Or.inl rfl | exact Or.inr rfl), (by first | exact Or.inl rfl | exact Or.inr rfl)⟩⟩)
local macro_rules | `(tactic| walk_at "tgt") => `(tactic| exact ⟨by dsimp only [bodyCs, Cs.blk]; decide +kernel, rfl, (by first | exact Or.inl rfl | exact Or.inr rfl), (by first | exact Or.inl rfl | exact Or.inr rfl)⟩)
local macro_rules | `(tactic| walk_at "name") => `(tactic| first
  | ((with_reducible refine' we_name 0 ?n1 ?n2 ?n3 ?_); (case n1 => rfl); (case n2 => walk_at "vis"); (case n3 => rfl))
  | ((with_reducible refine' we_name 1 ?n1 ?n2 ?n3 ?_); (case n1 => rfl); (case n2 => walk_at "vis"); (case n3 => rfl))
  | ((with_reducible refine' we_name 2 ?n1 ?n2 ?n3 ?_); (case n1 => rfl); (case n2 => walk_at "vis"); (case n3 => rfl))
  | ((with_reducible refine' we_name 3 ?n1 ?n2 ?n3 ?_); (case n1 => rfl); (case n2 => walk_at "vis"); (case n3 => rfl))
  | ((with_reducible refine' we_name 4 ?n1 ?n2 ?n3 ?_); (case n1 => rfl); (case n2 => walk_at "vis"); (case n3 => rfl))
  | ((with_reducible refine' we_name 5 ?n1 ?n2 ?n3 ?_); (case n1 => rfl); (case n2 => walk_at "vis"); (case n3 => rfl))
  | ((with_reducible refine' we_name 6 ?n1 ?n2 ?n3 ?_); (case n1 => rfl); (case n2 => walk_at "vis"); (case n3 => rfl))
  | ((with_reducible refine' we_name 7 ?n1 ?n2 ?n3 ?_); (case n1 => rfl); (case n2 => walk_at "vis"); (case n3 => rfl))
  | ((with_reducible refine' we_name 8 ?n1 ?n2 ?n3 ?_); (case n1 => rfl); (case n2 => walk_at "vis"); (case n3 => rfl))
  | ((with_reducible refine' we_name 9 ?n1 ?n2 ?n3 ?_); (case n1 => rfl); (case n2 => walk_at "vis"); (case n3 => rfl))
  | ((with_reducible refine' we_name 10 ?n1 ?n2 ?n3 ?_); (case n1 => rfl); (case n2 => walk_at "vis"); (case n3 => rfl))
  | ((with_reducible refine' we_name 11 ?n1 ?n2 ?n3 ?_); (case n1 => rfl); (case n2 => walk_at "vis"); (case n3 => rfl))
  | ((with_reducible refine' we_name 12 ?n1 ?n2 ?n3 ?_); (case n1 => rfl); (case n2 => walk_at "vis"); (case n3 => rfl))
  | ((with_reducible refine' we_name 13 ?n1 ?n2 ?n3 ?_); (case n1 => rfl); (case n2 => walk_at "vis"); (case n3 => rfl))
  | ((with_reducible refine' we_name 14 ?n1 ?n2 ?n3 ?_); (case n1 => rfl); (case n2 => walk_at "vis"); (case n3 => rfl))
  | ((with_reducible refine' we_name 15 ?n1 ?n2 ?n3 ?_); (case n1 => rfl); (case n2 => walk_at "vis"); (case n3 => rfl)))
local macro_rules | `(tactic| walk_at "dl") => `(tactic| first
  | walk_at "name"
  | with_reducible refine we_int ?_
  | with_reducible refine we_bl ?_
  | with_reducible refine we_str ?_
  | with_reducible refine we_non ?_
  | with_reducible refine wb_cons ?_
  | with_reducible refine wb_nil ?_
  | with_reducible refine ws_ret ?_
  | with_reducible refine ws_retN ?_
  | with_reducible refine ws_if ?_
  | with_reducible refine wa_nil ?_
  | with_reducible refine we_add ?_
  | with_reducible refine we_sub ?_
  | with_reducible refine we_mul ?_
  | with_reducible refine we_fdiv ?_
  | with_reducible refine we_mod ?_
  | with_reducible refine we_shl ?_
  | with_reducible refine we_shr ?_
  | with_reducible refine we_pow ?_
  | with_reducible refine we_band ?_
  | with_reducible refine we_bor ?_
  | with_reducible refine we_bxor ?_
  | with_reducible refine we_neg ?_
  | with_reducible refine wt_lt ?_
  | with_reducible refine wt_le ?_
  | with_reducible refine wt_gt ?_
  | with_reducible refine wt_ge ?_
  | with_reducible refine we_lt ?_
  | with_reducible refine we_le ?_
  | with_reducible refine we_gt ?_
  | with_reducible refine we_ge ?_
  | with_reducible refine wt_not ?_
  | with_reducible refine wt_bool ?_
  | with_reducible refine ww_and ?_
  | with_reducible refine ww_or ?_
  | with_reducible refine ww_and1 ?_
  | with_reducible refine ww_or1 ?_
  | with_reducible refine we_and ?_
  | with_reducible refine we_or ?_
  | with_reducible refine we_one ?_
  | with_reducible refine we_not ?_
  | with_reducible refine we_tup ?_
  | with_reducible refine we_lst ?_
  | with_reducible refine we_isN ?_
  | with_reducible refine wt_isN ?_
  | ((with_reducible refine wa_cons ?s1 ?_); (case s1 => exact fun _ => rfl))
  | ((with_reducible refine we_len ?c1 ?c2 ?c3 ?c4 ?_); (case c1 => assumption); (case c2 => rfl); (case c3 => assumption); (case c4 => exact fun _ => rfl))
  | ((with_reducible refine we_tuple ?c1 ?c2 ?c3 ?c4 ?_); (case c1 => assumption); (case c2 => rfl); (case c3 => assumption); (case c4 => exact fun _ => rfl))
  | ((with_reducible refine we_list ?c1 ?c2 ?c3 ?c4 ?_); (case c1 => assumption); (case c2 => rfl); (case c3 => assumption); (case c4 => exact fun _ => rfl))
  | ((with_reducible refine we_repr ?c1 ?c2 ?c3 ?c4 ?_); (case c1 => assumption); (case c2 => rfl); (case c3 => assumption); (case c4 => exact fun _ => rfl))
  | ((with_reducible refine we_sum ?c1 ?c2 ?c3 ?c4 ?_); (case c1 => assumption); (case c2 => rfl); (case c3 => assumption); (case c4 => exact fun _ => rfl))
  | ((with_reducible refine we_sorted ?c1 ?c2 ?c3 ?c4 ?_); (case c1 => assumption); (case c2 => rfl); (case c3 => assumption); (case c4 => exact fun _ => rfl))
  | ((with_reducible refine we_min ?c1 ?c2 ?c3 ?c4 ?_); (case c1 => assumption); (case c2 => rfl); (case c3 => assumption); (case c4 => exact fun _ => rfl))
  | ((with_reducible refine we_abs ?c2 ?c3 ?c4 ?_); (case c2 => rfl); (case c3 => assumption); (case c4 => exact fun _ => rfl))
  | ((with_reducible refine we_intB ?c2 ?c3 ?c4 ?_); (case c2 => rfl); (case c3 => assumption); (case c4 => exact fun _ => rfl))
  | ((with_reducible refine' we_callP ?c1 ?c2 ?c3 ?c4 ?_ ?c5 ?c6 ?c7); (case c1 => assumption); (case c2 => exact Nat.le_of_ble_eq_true rfl); (case c3 => assumption); (case c4 => rfl); (case c5 => decide); (case c6 => exact fun _ => rfl); (case c7 => exact fun _ => rfl))
  | ((with_reducible refine' we_callD ?c0 ?c1 ?c2 ?c3 0 ?c4 ?c5 ?c6 ?c7 ?_ ?c8 ?c9 ?c10 ?c11 ?c12); (case c0 => first | assumption | exact IsDk.ext (by assumption) _ | exact IsDk.ext (IsDk.ext (by assumption) _) _); (case c1 => assumption); (case c2 => exact Nat.le_of_ble_eq_true rfl); (case c3 => assumption); (case c4 => rfl); (case c5 => rfl); (case c6 => walk_at "vis"); (case c7 => rfl); (case c8 => decide); (case c9 => decide); (case c10 => decide); (case c11 => exact fun _ => rfl); (case c12 => exact fun _ => rfl))
  | ((with_reducible refine' we_callD ?c0 ?c1 ?c2 ?c3 1 ?c4 ?c5 ?c6 ?c7 ?_ ?c8 ?c9 ?c10 ?c11 ?c12); (case c0 => first | assumption | exact IsDk.ext (by assumption) _ | exact IsDk.ext (IsDk.ext (by assumption) _) _); (case c1 => assumption); (case c2 => exact Nat.le_of_ble_eq_true rfl); (case c3 => assumption); (case c4 => rfl); (case c5 => rfl); (case c6 => walk_at "vis"); (case c7 => rfl); (case c8 => decide); (case c9 => decide); (case c10 => decide); (case c11 => exact fun _ => rfl); (case c12 => exact fun _ => rfl))
  | ((with_reducible refine we_ix ?c1 ?c2 ?_); (case c1 => assumption); (case c2 => exact fun _ _ => rfl)))
local macro_rules | `(tactic| walk_at "dx") => `(tactic| first
  | with_reducible refine tl0 ?_
  | with_reducible refine tl1 ?_
  | with_reducible refine tl2 ?_
  | with_reducible refine tl3 ?_
  | with_reducible refine tl4 ?_
  | with_reducible refine tl5 ?_
  | with_reducible refine tl6 ?_
  | with_reducible refine tl7 ?_
  | with_reducible refine ii2 ?_
  | with_reducible refine ii1 ?_
  | with_reducible refine ss2 ?_
  | with_reducible refine bb1 ?_
  | with_reducible refine sqT ?_
  | with_reducible refine sqL ?_
  | walk_at "dl")
local macro_rules | `(tactic| walk_at "dq") => `(tactic| first
  | walk_at "dx"
  | ((with_reducible refine' we_callQ ?c0 ?c1 ?c2 ?c3 0 ?c4 ?c5 ?c6 ?c7 ?_ ?c8 ?c9 ?c10 ?c11 ?c12); (case c0 => first | assumption | exact IsDq.ext (by assumption) _ | exact IsDq.ext (IsDq.ext (by assumption) _) _); (case c1 => assumption); (case c2 => exact Nat.le_of_ble_eq_true rfl); (case c3 => assumption); (case c4 => rfl); (case c5 => rfl); (case c6 => walk_at "vis"); (case c7 => rfl); (case c8 => decide); (case c9 => decide); (case c10 => decide); (case c11 => exact fun _ => rfl); (case c12 => exact fun _ => rfl))
  | ((with_reducible refine' we_callQ ?c0 ?c1 ?c2 ?c3 1 ?c4 ?c5 ?c6 ?c7 ?_ ?c8 ?c9 ?c10 ?c11 ?c12); (case c0 => first | assumption | exact IsDq.ext (by assumption) _ | exact IsDq.ext (IsDq.ext (by assumption) _) _); (case c1 => assumption); (case c2 => exact Nat.le_of_ble_eq_true rfl); (case c3 => assumption); (case c4 => rfl); (case c5 => rfl); (case c6 => walk_at "vis"); (case c7 => rfl); (case c8 => decide); (case c9 => decide); (case c10 => decide); (case c11 => exact fun _ => rfl); (case c12 => exact fun _ => rfl)))
def parts (n : Int) : List Int := (rg (n + 1)).filter fun i => decide (Builtin.bitAnd i n = i)
def Rparts : Rel := fun ds d => ∃ n : Int, ds = [.int n] ∧ (0 ≤ n ∧ n < 1000) ∧ d = .list ((parts n).map PyData.int)
theorem parts_len {n : Int} (h0 : 0 ≤ n) (h1 : n < 1000) : (parts n).length ≤ 1000 := by
  refine Nat.le_trans (List.length_filter_le _ _) ?_
  rw [rg_length]; omega


abbrev nSub : List Str := ["switches", "part"]
theorem scSub : FnScope nSub ["switches"] (defScope (topS 12)) := ⟨rfl, rfl, rfl, by decide +kernel, rfl, by decide +kernel, by decide +kernel⟩
section
variable {P : Program} {w : World} {K : PySem.W.Frag} {mg : Str → Option Value} {base : Heap}
theorem ok_sub {f : Addr} {fd : FuncData} (Fn : Fun K "subsets_of" "subsets_of" (topS 12) f fd) (mr : mg "range" = none) : FnG P w K mg base 1 f fd ["switches"] (spPure K Rparts) := by
  refine pure_ok (k := 0) Fn scSub (fun ds d ⟨n, e, _⟩ => by rw [e]; rfl) (fun F ds d hK ⟨n, e, hn, ed⟩ => ?_)
  subst e ed
  refine wb_cons (ws_ret (we_fR (fun i => decide (Builtin.bitAnd i n = i)) PyData.int 1 (by walk_at "blk") rfl mr (fun _ => rfl) (fun _ _ => rfl) ?_))
  repeat walk_at "dl"
  refine ⟨_, _, rfl, rfl, _, rfl, by omega, by omega, fun D j j0 j1 => ?_, rfl⟩
  refine wt_eqI ?_
  repeat walk_at "dl"
  refine ⟨_, _, rfl, rfl, ?_⟩
  repeat walk_at "dl"
  refine ⟨_, _, rfl, rfl, rfl, rfl, fun _ => ?_⟩
  repeat walk_at "dl"
  exact ⟨rfl, rfl⟩
end


abbrev nCube : List Str := ["cube", "base", "directions", "part"]
theorem scCube : FnScope nCube ["cube"] (defScope (topS 33)) := ⟨rfl, rfl, rfl, by decide +kernel, rfl, by decide +kernel, by decide +kernel⟩
def cubeCards (b q : Int) : List Int := (parts q).map fun i => b + i
def Rcube : Rel := fun ds d => ∃ b q : Int, ds = [.tuple [.int b, .int q]] ∧ (0 ≤ q ∧ q < 1000) ∧ d = .tuple ((cubeCards b q).map PyData.int)
section
variable {P : Program} {w : World} {K : PySem.W.Frag} {mg : Str → Option Value} {base : Heap}
theorem ok_cube {f : Addr} {fd : FuncData} (Fn : Fun K "cube_cards" "cube_cards" (topS 33) f fd) (mt : mg "tuple" = none) (gs : PFn P w K mg base 1 "subsets_of" Rparts) : FnG P w K mg base 2 f fd ["cube"] (spPure K Rcube) := by
  refine pure_ok (k := 1) Fn scCube (fun ds d ⟨b, q, e, _⟩ => by rw [e]; rfl) (fun F ds d hK ⟨b, q, e, hn, ed⟩ => ?_)
  subst e ed
  refine wb_cons (ws_asg2 1 2 (by decide) (by walk_at "tgt") (by walk_at "tgt") hK (fun _ => rfl) (fun _ => rfl) ?_)
  repeat walk_at "dl"
  refine ⟨_, _, rfl, ?_⟩
  repeat walk_at "dl"
  refine we_mL PyData.int (fun i => PyData.int (b + i)) 3 (by walk_at "blk") hK (fun _ _ => rfl) ?_
  repeat walk_at "dl"
  refine ⟨_, ⟨q, rfl, hn, rfl⟩, _, rfl, ?_, fun D j hj => ?_, _, rfl, ?_⟩
  · have := parts_len hn.1 hn.2; omega
  · repeat walk_at "dl"
    exact ⟨_, _, rfl, rfl, rfl, rfl⟩
  · show PyData.tuple _ = PyData.tuple _
    unfold cubeCards
    rw [List.map_map]; rfl
end


theorem band_nat (a b : Nat) : Builtin.bitAnd (a : Int) (b : Int) = ((a &&& b : Nat) : Int) := by
  rw [bitAnd_pp (by omega) (by omega), Int.toNat_natCast, Int.toNat_natCast]
def partsN (q : Nat) : List Nat := (List.range (q + 1)).filter fun i => decide (i &&& q = i)
theorem one_shl (n : Nat) : (1 : Int) * 2 ^ ((n : Int)).toNat = 2 ^ n := by rw [Int.one_mul, Int.toNat_natCast]
theorem pow_le64 {n : Nat} (h : n ≤ 6) : (2 : Int) ^ n ≤ 64 ∧ (1 : Int) ≤ 2 ^ n := by
  have : n = 0 ∨ n = 1 ∨ n = 2 ∨ n = 3 ∨ n = 4 ∨ n = 5 ∨ n = 6 := by omega
  rcases this with rfl | rfl | rfl | rfl | rfl | rfl | rfl <;> decide
def outside (n : Nat) (s : Int) : List Int := (rg (2 ^ n)).filter fun i => decide (Builtin.bitAnd i s = 0)
theorem find_at {α : Type} {p : α → Bool} : ∀ {xs : List α} {j : Nat} {x : α}, xs[j]? = some x → (∀ y ∈ xs.take j, p y = false) → p x = true → xs.find? p = some x
  | y :: ys, 0, x, e, _, h => by cases e; rw [List.find?_cons, h]
  | y :: ys, j + 1, x, e, ha, h => by
    rw [List.find?_cons, ha y (by simp)]
    exact find_at (j := j) (by simpa using e) (fun z hz => ha z (by rw [List.take_succ_cons]; exact List.mem_cons_of_mem _ hz)) h
  | [], j, x, e, _, _ => by simp at e
def missing (cs : List Int) (b q : Int) : Option Int := (cubeCards b q).find? fun c => !decide (c ∈ cs)
def missD (cs : List Int) (b q : Int) : PyData := match missing cs b q with
  | some c => .int c
  | none => .none
def basesL (n : Nat) (cs : List Int) (s : Int) : List Int := (outside n s).filter fun b => (missing cs b s).isNone
def boxD (n : Nat) (cs : List Int) : PyData := .tuple [.int (n : Int), .tuple (cs.map PyData.int)]
theorem outside_len {n : Nat} (h : n ≤ 6) (s : Int) : (outside n s).length ≤ 64 := by
  refine Nat.le_trans (List.length_filter_le _ _) ?_
  rw [rg_length]
  have := pow_le64 h
  omega

abbrev nOut : List Str := ["n", "switches", "other"]
theorem scOut : FnScope nOut ["n", "switches"] (defScope (topS 13)) := ⟨rfl, rfl, rfl, by decide +kernel, rfl, by decide +kernel, by decide +kernel⟩
def Rout : Rel := fun ds d => ∃ (n : Nat) (s : Int), ds = [.int (n : Int), .int s] ∧ n ≤ 6 ∧ d = .list ((outside n s).map PyData.int)
section
variable {P : Program} {w : World} {K : PySem.W.Frag} {mg : Str → Option Value} {base : Heap}
theorem ok_out {f : Addr} {fd : FuncData} (Fn : Fun K "sets_outside" "sets_outside" (topS 13) f fd) (mr : mg "range" = none) : FnG P w K mg base 1 f fd ["n", "switches"] (spPure K Rout) := by
  refine pure_ok (k := 0) Fn scOut (fun ds d ⟨n, s, e, _⟩ => by rw [e]; rfl) (fun F ds d hK ⟨n, s, e, hn, ed⟩ => ?_)
  subst e ed
  refine wb_cons (ws_ret (we_fR (fun i => decide (Builtin.bitAnd i s = 0)) PyData.int 2 (by walk_at "blk") rfl mr (fun _ => rfl) (fun _ _ => rfl) ?_))
  repeat walk_at "dl"
  refine ⟨_, _, rfl, rfl, ⟨by omega, by omega, by decide⟩, ?_⟩
  rw [one_shl]
  have := pow_le64 hn
  refine ⟨_, rfl, by omega, by omega, fun D j j0 j1 => ?_, rfl⟩
  refine wt_eqI ?_
  repeat walk_at "dl"
  refine ⟨_, _, rfl, rfl, ?_⟩
  repeat walk_at "dl"
  refine ⟨_, _, rfl, rfl, rfl, rfl, fun _ => ?_⟩
  repeat walk_at "dl"
  exact ⟨rfl, rfl⟩
end

abbrev nMiss : List Str := ["cards", "cube", "card"]
theorem scMiss : FnScope nMiss ["cards", "cube"] (defScope (topS 34)) := ⟨rfl, rfl, rfl, by decide +kernel, rfl, by decide +kernel, by decide +kernel⟩
def Rmiss : Rel := fun ds d => ∃ (cs : List Int) (b q : Int), ds = [.tuple (cs.map PyData.int), .tuple [.int b, .int q]] ∧ (0 ≤ q ∧ q < 1000) ∧ d = missD cs b q
section
variable {P : Program} {w : World} {K : PySem.W.Frag} {mg : Str → Option Value} {base : Heap}
theorem ok_miss {f : Addr} {fd : FuncData} (Fn : Fun K "first_missing" "first_missing" (topS 34) f fd) (gc : PFn P w K mg base 2 "cube_cards" Rcube) : FnG P w K mg base 3 f fd ["cards", "cube"] (spPure K Rmiss) := by
  refine pure_ok (k := 2) Fn scMiss (fun ds d ⟨cs, b, q, e, _⟩ => by rw [e]; rfl) (fun F ds d hK ⟨cs, b, q, e, hq, ed⟩ => ?_)
  subst e ed
  refine wb_cons (ws_for_tup 2 (by walk_at "tgt") hK (fun _ _ => rfl) ?_)
  repeat walk_at "dl"
  refine ⟨_, ⟨b, q, rfl, hq, rfl⟩, ?_⟩
  refine ⟨fun j k ρ => (∀ y ∈ (cubeCards b q).take j, y ∈ cs) ∧ ∃ x, ρ = [.d (.tuple (cs.map PyData.int)), .d (.tuple [.int b, .int q]), x], _, rfl, ⟨by simp, _, rfl⟩, ?_, ?_⟩
  · rintro j y k ρ hy ⟨hin, x, rfl⟩
    rw [List.getElem?_map] at hy
    cases hc : (cubeCards b q)[j]? with
    | none => rw [hc] at hy; cases hy
    | some c =>
    rw [hc] at hy
    cases hy
    refine wb_cons (ws_if (wt_niI hK rfl ?_))
    repeat walk_at "dl"
    refine ⟨c, cs, rfl, rfl, iteB (fun h => ?_) (fun h => ?_)⟩
    · repeat walk_at "dl"
      show PyData.int c = missD cs b q
      unfold missD missing
      rw [find_at hc (fun y hy => by simp [hin y hy]) h]
    · repeat walk_at "dl"
      refine ⟨fun y hy => ?_, _, rfl⟩
      rw [take_next hc] at hy
      rcases List.mem_append.mp hy with hy | hy
      · exact hin y hy
      · have : y = c := by simpa using hy
        subst this
        simpa using h
  · rintro k ρ ⟨hin, x, rfl⟩
    repeat walk_at "dl"
    show PyData.none = missD cs b q
    unfold missD missing
    rw [List.find?_eq_none.mpr]
    intro y hy
    rw [List.length_map, List.take_length] at hin
    simp [hin y hy]
end

abbrev nBases : List Str := ["box", "switches", "n", "cards", "base"]
theorem scBases : FnScope nBases ["box", "switches"] (defScope (topS 35)) := ⟨rfl, rfl, rfl, by decide +kernel, rfl, by decide +kernel, by decide +kernel⟩
def Rbases : Rel := fun ds d => ∃ (n : Nat) (cs : List Int) (s : Int), ds = [boxD n cs, .int s] ∧ n ≤ 6 ∧ (0 ≤ s ∧ s < 1000) ∧ d = .tuple ((basesL n cs s).map PyData.int)
section
variable {P : Program} {w : World} {K : PySem.W.Frag} {mg : Str → Option Value} {base : Heap}
theorem ok_bases {f : Addr} {fd : FuncData} (Fn : Fun K "bases_of" "bases_of" (topS 35) f fd) (mt : mg "tuple" = none) (go : PFn P w K mg base 1 "sets_outside" Rout) (gm : PFn P w K mg base 3 "first_missing" Rmiss) : FnG P w K mg base 4 f fd ["box", "switches"] (spPure K Rbases) := by
  refine pure_ok (k := 3) Fn scBases (fun ds d ⟨n, cs, s, e, _⟩ => by rw [e]; rfl) (fun F ds d hK ⟨n, cs, s, e, hn, hs, ed⟩ => ?_)
  subst e ed
  refine wb_cons (ws_asg2 2 3 (by decide) (by walk_at "tgt") (by walk_at "tgt") hK (fun _ => rfl) (fun _ => rfl) ?_)
  repeat walk_at "dl"
  refine ⟨_, _, rfl, ?_⟩
  repeat walk_at "dl"
  refine we_fL (fun b => (missing cs b s).isNone) PyData.int PyData.int 4 (by walk_at "blk") hK (fun _ _ => rfl) ?_
  repeat walk_at "dl"
  refine ⟨_, ⟨n, s, rfl, hn, rfl⟩, _, rfl, ?_, fun D b hb => ?_, _, rfl, rfl⟩
  · have := outside_len hn s; omega
  · refine wt_isN ?_
    repeat walk_at "dl"
    refine ⟨by show 2 ≤ sizeLine; decide, ?_⟩
    repeat walk_at "dl"
    refine ⟨_, ⟨cs, b, s, rfl, hs, rfl⟩, rfl, ?_, fun _ => ?_⟩
    · unfold missD
      cases missing cs b s <;> rfl
    · repeat walk_at "dl"
      exact ⟨rfl, rfl⟩
end

abbrev nSolid : List Str := ["box", "switches"]
theorem scSolid : FnScope nSolid ["box", "switches"] (defScope (topS 36)) := ⟨rfl, rfl, rfl, by decide +kernel, rfl, by decide +kernel, by decide +kernel⟩
def solidB (n : Nat) (cs : List Int) (s : Int) : Bool := decide (0 < ((basesL n cs s).length : Int))
def Rsolid : Rel := fun ds d => ∃ (n : Nat) (cs : List Int) (s : Int), ds = [boxD n cs, .int s] ∧ n ≤ 6 ∧ (0 ≤ s ∧ s < 1000) ∧ d = .bool (solidB n cs s)
section
variable {P : Program} {w : World} {K : PySem.W.Frag} {mg : Str → Option Value} {base : Heap}
theorem ok_solid {f : Addr} {fd : FuncData} (Fn : Fun K "is_solid" "is_solid" (topS 36) f fd) (ml : mg "len" = none) (gb : PFn P w K mg base 4 "bases_of" Rbases) : FnG P w K mg base 5 f fd ["box", "switches"] (spPure K Rsolid) := by
  refine pure_ok (k := 4) Fn scSolid (fun ds d ⟨n, cs, s, e, _⟩ => by rw [e]; rfl) (fun F ds d hK ⟨n, cs, s, e, hn, hs, ed⟩ => ?_)
  subst e ed
  refine wb_cons (ws_ret ?_)
  repeat walk_at "dl"
  refine ⟨_, ⟨n, cs, s, rfl, hn, hs, rfl⟩, _, rfl, ?_⟩
  repeat walk_at "dl"
  refine ⟨_, _, rfl, rfl, ?_⟩
  rw [List.length_map]; rfl
end

abbrev nSets : List Str := ["box", "switches"]
theorem scSets : FnScope nSets ["box"] (defScope (topS 37)) := ⟨rfl, rfl, rfl, by decide +kernel, rfl, by decide +kernel, by decide +kernel⟩
def Rsets : Rel := fun ds d => ∃ (n : Nat) (cs : List Int), ds = [boxD n cs] ∧ n ≤ 6 ∧ d = .tuple (((rg (2 ^ n)).filter fun s => solidB n cs s).map PyData.int)
section
variable {P : Program} {w : World} {K : PySem.W.Frag} {mg : Str → Option Value} {base : Heap}
theorem ok_sets {f : Addr} {fd : FuncData} (Fn : Fun K "solid_sets" "solid_sets" (topS 37) f fd) (mt : mg "tuple" = none) (mr : mg "range" = none) (gs : PFn P w K mg base 5 "is_solid" Rsolid) : FnG P w K mg base 6 f fd ["box"] (spPure K Rsets) := by
  refine pure_ok (k := 5) Fn scSets (fun ds d ⟨n, cs, e, _⟩ => by rw [e]; rfl) (fun F ds d hK ⟨n, cs, e, hn, ed⟩ => ?_)
  subst e ed
  have hp := pow_le64 hn
  refine wb_cons (ws_ret (we_tuple hK rfl mt (fun _ => rfl) (we_fR (fun s => solidB n cs s) PyData.int 1 (by walk_at "blk") rfl mr (fun _ => rfl) (fun _ _ => rfl) ?_)))
  repeat walk_at "dl"
  refine ⟨_, rfl, ?_⟩
  refine ⟨_, _, rfl, rfl, ⟨by omega, by omega, by decide⟩, ?_⟩
  rw [one_shl]
  refine ⟨_, rfl, by omega, by omega, fun D s s0 s1 => ?_, _, rfl, rfl⟩
  refine wt_val (fun _ _ => rfl) ?_
  repeat walk_at "dl"
  refine ⟨_, ⟨n, cs, s, rfl, hn, ⟨s0, by omega⟩, rfl⟩, _, rfl, rfl, rfl, fun _ => ?_⟩
  repeat walk_at "dl"
  exact ⟨rfl, rfl⟩
end

structure IsBox (n : Nat) (cs : List Int) : Prop where
  asc : cs.Pairwise (· < ·)
  rng : ∀ c ∈ cs, 0 ≤ c ∧ c < 2 ^ n
structure GoodC (n : Nat) (cs : List Int) : Prop where
  nd : cs.Nodup
  rng : ∀ c ∈ cs, 0 ≤ c ∧ c < 2 ^ n
theorem GoodC.sorted {n : Nat} {as ms : List Int} (g : GoodC n as) (hp : ms.Perm as) (hw : ms.Pairwise (· ≤ ·)) : IsBox n ms := by
  refine ⟨?_, fun c hc => g.rng c (hp.mem_iff.mp hc)⟩
  have nd : ms.Nodup := hp.symm.nodup g.nd
  exact (hw.and nd).imp fun ⟨h1, h2⟩ => by omega
theorem GoodC.sub {n : Nat} {as : List Int} (h : as.Sublist (rg (2 ^ n))) : GoodC n as := by
  refine ⟨?_, fun c hc => mem_rg.mp (h.subset hc)⟩
  have : (rg (2 ^ n)).Nodup := rg_pairwise.imp fun h => by omega
  exact h.nodup this
theorem box_len {n : Nat} {cs : List Int} (hn : n ≤ 6) (b : IsBox n cs) : cs.length ≤ 64 := by
  have key : ∀ (l : List Int) (lo : Int), l.Pairwise (· < ·) → (∀ c ∈ l, lo ≤ c ∧ c < 64) → lo ≤ 64 → (l.length : Int) ≤ 64 - lo := by
    intro l
    induction l with
    | nil => intro lo _ _ h; simp; omega
    | cons x xs ih =>
      intro lo hp hr hlo
      have hx := hr x List.mem_cons_self
      have := ih (x + 1) (List.pairwise_cons.mp hp).2 (fun c hc => ⟨(List.pairwise_cons.mp hp).1 c hc, (hr c (List.mem_cons_of_mem _ hc)).2⟩) (by omega)
      rw [List.length_cons]; omega
  have hp := pow_le64 hn
  have := key cs 0 b.asc (fun c hc => ⟨(b.rng c hc).1, by have := (b.rng c hc).2; omega⟩) (by omega)
  omega
theorem xor_small : ∀ a < 64, ∀ b < 64, (a ||| b) - (a &&& b) = a ^^^ b := by decide +kernel
theorem and_le_or : ∀ a < 64, ∀ b < 64, a &&& b ≤ a ||| b := by decide +kernel
theorem bxor_nat {a b : Nat} (ha : a < 64) (hb : b < 64) : Builtin.bitXor (a : Int) (b : Int) = ((a ^^^ b : Nat) : Int) := by
  unfold Builtin.bitXor
  rw [bitOr_nn (by omega) (by omega), band_nat, Int.toNat_natCast, Int.toNat_natCast, ← xor_small a ha b hb]
  have := and_le_or a ha b hb
  omega
theorem xor_good {n : Nat} {f : Int} (hn : n ≤ 6) (f0 : 0 ≤ f) (f1 : f < 2 ^ n) {as : List Int} (h : as.Sublist (rg (2 ^ n))) : GoodC n (as.map fun c => Builtin.bitXor c f) := by
  have hp := pow_le64 hn
  have h1 : ((2 ^ n : Nat) : Int) = (2 : Int) ^ n := by rw [Int.natCast_pow]; rfl
  have g := GoodC.sub h
  obtain ⟨f, rfl⟩ : ∃ m : Nat, f = (m : Int) := ⟨f.toNat, by omega⟩
  have conv : ∀ c ∈ as, ∃ m : Nat, c = (m : Int) ∧ m < 2 ^ n ∧ Builtin.bitXor c (f : Int) = ((m ^^^ f : Nat) : Int) := fun c hc => by
    have := g.rng c hc
    refine ⟨c.toNat, by omega, by omega, ?_⟩
    rw [← bxor_nat (a := c.toNat) (b := f) (by omega) (by omega), show ((c.toNat : Nat) : Int) = c by omega]
  constructor
  · rw [List.nodup_iff_pairwise_ne, List.pairwise_map]
    refine (List.Pairwise.and_mem.mp (List.nodup_iff_pairwise_ne.mp g.nd)).imp ?_
    rintro a b ⟨ha, hb, hne⟩ e
    obtain ⟨m, rfl, _, e1⟩ := conv a ha
    obtain ⟨m', rfl, _, e2⟩ := conv b hb
    rw [e1, e2] at e
    have e3 : m ^^^ f = m' ^^^ f := by omega
    have : m = m' := by
      have := congrArg (· ^^^ f) e3
      simpa [Nat.xor_assoc] using this
    exact hne (by rw [this])
  · intro c hc
    obtain ⟨a, ha, rfl⟩ := List.mem_map.mp hc
    obtain ⟨m, rfl, hm, e1⟩ := conv a ha
    rw [e1]
    have : m ^^^ f < 2 ^ n := Nat.xor_lt_two_pow hm (by omega)
    omega

def Boxed (d : PyData) : Prop := ∃ (n : Nat) (cs : List Int), n ≤ 6 ∧ IsBox n cs ∧ d = boxD n cs
theorem sub_fine {n : Nat} (hn : n ≤ 6) {as : List Int} (h : as.Sublist (rg (2 ^ n))) : Fine (64 * 33 + 3) 1 (.tuple (as.map PyData.int)) := by
  have hp := pow_le64 hn
  refine fine_ints (fun i hi => ?_) (Nat.le_trans h.length_le (by rw [rg_length]; omega))
  have := mem_rg.mp (h.subset hi)
  have h2 : i.natAbs < 64 := by omega
  exact Nat.lt_trans h2 (by decide)

/-- how many binary digits are 1 -/
def bits (n : Nat) : Nat := if n = 0 then 0 else n % 2 + bits (n / 2)
theorem bits_pos {n : Nat} (h : 0 < n) : bits n = n % 2 + bits (n / 2) := by
  rw [bits, if_neg (by omega)]

theorem uniqA {α : Type} {R : α → α → Prop} (ir : ∀ a, ¬ R a a) (tr : ∀ a b, R a b → ¬ R b a) : ∀ {xs ys : List α}, xs.Pairwise R → ys.Pairwise R → (∀ a, a ∈ xs ↔ a ∈ ys) → xs = ys
  | [], [], _, _, _ => rfl
  | [], y :: ys, _, _, h => by have := (h y).mpr List.mem_cons_self; cases this
  | x :: xs, [], _, _, h => by have := (h x).mp List.mem_cons_self; cases this
  | x :: xs, y :: ys, hx, hy, h => by
    have hx' := List.pairwise_cons.mp hx
    have hy' := List.pairwise_cons.mp hy
    have e : x = y := by
      rcases List.mem_cons.mp ((h x).mp List.mem_cons_self) with e | m1
      · exact e
      rcases List.mem_cons.mp ((h y).mpr List.mem_cons_self) with e | m2
      · exact e.symm
      exact absurd (hx'.1 y m2) (tr _ _ (hy'.1 x m1))
    subst e
    refine congrArg (x :: ·) (uniqA ir tr hx'.2 hy'.2 fun a => ⟨fun m => ?_, fun m => ?_⟩)
    · rcases List.mem_cons.mp ((h a).mp (List.mem_cons_of_mem _ m)) with e | m'
      · exact absurd (e ▸ hx'.1 a m) (ir x)
      · exact m'
    · rcases List.mem_cons.mp ((h a).mpr (List.mem_cons_of_mem _ m)) with e | m'
      · exact absurd (e ▸ hy'.1 a m) (ir x)
      · exact m'
theorem uniqI {xs ys : List Int} (hx : xs.Pairwise (· < ·)) (hy : ys.Pairwise (· < ·)) (h : ∀ a, a ∈ xs ↔ a ∈ ys) : xs = ys := uniqA (R := fun a b : Int => a < b) (fun a h => by omega) (fun a b h1 h2 => by omega) hx hy h
theorem eqvAll_ints : ∀ xs ys : List Int, PyData.eqvAll (xs.map PyData.int) (ys.map PyData.int) = decide (xs = ys)
  | [], [] => by simp [PyData.eqvAll]
  | [], y :: ys => by simp [PyData.eqvAll]
  | x :: xs, [] => by simp [PyData.eqvAll]
  | x :: xs, y :: ys => by
    have ih := eqvAll_ints xs ys
    simp only [List.map_cons, PyData.eqvAll, PyData.eqv, ih]
    by_cases h1 : x = y <;> by_cases h2 : xs = ys <;> simp [h1, h2]
theorem eqv_intsT (xs ys : List Int) : PyData.eqv (.tuple (xs.map PyData.int)) (.tuple (ys.map PyData.int)) = decide (xs = ys) := by
  simp only [PyData.eqv]; exact eqvAll_ints xs ys
def hasP (cs : List Int) (s p : Int) : Bool := cs.any fun c => decide (Builtin.bitAnd c s = p)
def patsL (cs : List Int) (s : Int) : List Int := (parts s).filter fun p => hasP cs s p
def shownB (cs : List Int) (s : Int) : Bool := (parts s).all fun p => hasP cs s p
theorem parts_asc (s : Int) : (parts s).Pairwise (· < ·) := rg_pairwise.filter _
theorem band_part {c s : Int} (hc : 0 ≤ c) (hs : 0 ≤ s) : Builtin.bitAnd c s ∈ parts s := by
  obtain ⟨c, rfl⟩ : ∃ m : Nat, c = (m : Int) := ⟨c.toNat, by omega⟩
  obtain ⟨s, rfl⟩ : ∃ m : Nat, s = (m : Int) := ⟨s.toNat, by omega⟩
  have h : c &&& s ≤ s := Nat.and_le_right
  rw [band_nat]
  refine List.mem_filter.mpr ⟨mem_rg.mpr ⟨by omega, by omega⟩, decide_eq_true ?_⟩
  rw [band_nat, Nat.and_assoc, Nat.and_self]
theorem mem_pats {cs : List Int} {s : Int} (hb : ∀ c ∈ cs, 0 ≤ c) (hs : 0 ≤ s) (z : Int) : z ∈ patsL cs s ↔ z ∈ cs.map fun c => Builtin.bitAnd c s := by
  unfold patsL hasP
  rw [List.mem_filter, List.any_eq_true, List.mem_map]
  constructor
  · rintro ⟨_, c, hc, e⟩
    exact ⟨c, hc, of_decide_eq_true e⟩
  · rintro ⟨c, hc, rfl⟩
    exact ⟨band_part (hb c hc) hs, c, hc, decide_eq_true rfl⟩
theorem pats_uniq {cs ms : List Int} {s : Int} (hb : ∀ c ∈ cs, 0 ≤ c) (hs : 0 ≤ s) (hw : ms.Pairwise (· < ·)) (hm : ∀ z, z ∈ ms ↔ z ∈ cs.map fun c => Builtin.bitAnd c s) : ms = patsL cs s :=
  uniqI hw ((parts_asc s).filter _) fun z => (hm z).trans (mem_pats hb hs z).symm
theorem shown_dec (cs : List Int) (s : Int) : decide (patsL cs s = parts s) = shownB cs s := by
  unfold patsL shownB
  rw [Bool.eq_iff_iff, decide_eq_true_eq, List.filter_eq_self, List.all_eq_true]
def b6 (s : Nat) : Nat := s % 2 + (s / 2 % 2 + (s / 4 % 2 + (s / 8 % 2 + (s / 16 % 2 + s / 32 % 2))))
theorem box_ge {n : Nat} {cs : List Int} (b : IsBox n cs) : ∀ c ∈ cs, 0 ≤ c := fun c hc => (b.rng c hc).1

abbrev nPat : List Str := ["box", "switches", "card"]
theorem scPat : FnScope nPat ["box", "switches"] (defScope (topS 42)) := ⟨rfl, rfl, rfl, by decide +kernel, rfl, by decide +kernel, by decide +kernel⟩
def Rpat : Rel := fun ds d => ∃ (n : Nat) (cs : List Int) (s : Int), ds = [boxD n cs, .int s] ∧ n ≤ 6 ∧ IsBox n cs ∧ (0 ≤ s ∧ s < 1000) ∧ d = .tuple ((patsL cs s).map PyData.int)
section
variable {P : Program} {w : World} {K : PySem.W.Frag} {mg : Str → Option Value} {base : Heap}
theorem ok_pat {f : Addr} {fd : FuncData} (Fn : Fun K "patterns_of" "patterns_of" (topS 42) f fd) (mt : mg "tuple" = none) (ms : mg "sorted" = none) : FnG P w K mg base 1 f fd ["box", "switches"] (spPure K Rpat) := by
  refine pure_ok (k := 0) Fn scPat (fun ds d ⟨n, cs, s, e, _⟩ => by rw [e]; rfl) (fun F ds d hK ⟨n, cs, s, e, hn, hb, hs, ed⟩ => ?_)
  subst e ed
  have hl := box_len hn hb
  refine wb_cons (ws_ret (we_tuple hK rfl mt (fun _ => rfl) (we_sortSc PyData.int (fun c => Builtin.bitAnd c s) 2 (by walk_at "blk") hK rfl ms (fun _ _ => rfl) (fun _ => rfl) ?_)))
  repeat walk_at "dx"
  refine ⟨.tuple (cs.map PyData.int), rfl, cs, rfl, by omega, fun D c hc => ?_, fun ms hw hm => ⟨_, rfl, ?_⟩⟩
  · repeat walk_at "dx"
    exact ⟨rfl, rfl⟩
  · show PyData.tuple _ = PyData.tuple _
    rw [pats_uniq (box_ge hb) hs.1 hw hm]
end

abbrev nShw : List Str := ["box", "switches"]
theorem scShw : FnScope nShw ["box", "switches"] (defScope (topS 43)) := ⟨rfl, rfl, rfl, by decide +kernel, rfl, by decide +kernel, by decide +kernel⟩
def Rshown : Rel := fun ds d => ∃ (n : Nat) (cs : List Int) (s : Int), ds = [boxD n cs, .int s] ∧ n ≤ 6 ∧ IsBox n cs ∧ (0 ≤ s ∧ s < 1000) ∧ d = .bool (shownB cs s)
section
variable {P : Program} {w : World} {K : PySem.W.Frag} {mg : Str → Option Value} {base : Heap}
theorem ok_shown {f : Addr} {fd : FuncData} (Fn : Fun K "is_shown" "is_shown" (topS 43) f fd) (mt : mg "tuple" = none) (gp : PFn P w K mg base 1 "patterns_of" Rpat) (gs : PFn P w K mg base 1 "subsets_of" Rparts) : FnG P w K mg base 2 f fd ["box", "switches"] (spPure K Rshown) := by
  refine pure_ok (k := 1) Fn scShw (fun ds d ⟨n, cs, s, e, _⟩ => by rw [e]; rfl) (fun F ds d hK ⟨n, cs, s, e, hn, hb, hs, ed⟩ => ?_)
  subst e ed
  refine wb_cons (ws_ret (we_eq hK ?_))
  repeat walk_at "dx"
  refine ⟨_, ⟨n, cs, s, rfl, hn, hb, hs, rfl⟩, ?_⟩
  repeat walk_at "dx"
  refine ⟨_, ⟨s, rfl, hs, rfl⟩, _, rfl, shaped_intsT _, shaped_intsT _, ?_⟩
  show PyData.bool _ = PyData.bool _
  rw [eqv_intsT, shown_dec]
end

abbrev nShs : List Str := ["box", "switches"]
theorem scShs : FnScope nShs ["box"] (defScope (topS 44)) := ⟨rfl, rfl, rfl, by decide +kernel, rfl, by decide +kernel, by decide +kernel⟩
def shownL (n : Nat) (cs : List Int) : List Int := (rg (2 ^ n)).filter fun s => shownB cs s
def Rshs : Rel := fun ds d => ∃ (n : Nat) (cs : List Int), ds = [boxD n cs] ∧ n ≤ 6 ∧ IsBox n cs ∧ d = .tuple ((shownL n cs).map PyData.int)
section
variable {P : Program} {w : World} {K : PySem.W.Frag} {mg : Str → Option Value} {base : Heap}
theorem ok_shs {f : Addr} {fd : FuncData} (Fn : Fun K "shown_sets" "shown_sets" (topS 44) f fd) (mt : mg "tuple" = none) (mr : mg "range" = none) (gs : PFn P w K mg base 2 "is_shown" Rshown) : FnG P w K mg base 3 f fd ["box"] (spPure K Rshs) := by
  refine pure_ok (k := 2) Fn scShs (fun ds d ⟨n, cs, e, _⟩ => by rw [e]; rfl) (fun F ds d hK ⟨n, cs, e, hn, hb, ed⟩ => ?_)
  subst e ed
  have hp := pow_le64 hn
  refine wb_cons (ws_ret (we_tuple hK rfl mt (fun _ => rfl) (we_fR (fun s => shownB cs s) PyData.int 1 (by walk_at "blk") rfl mr (fun _ => rfl) (fun _ _ => rfl) ?_)))
  repeat walk_at "dx"
  refine ⟨.int (n : Int), rfl, ?_⟩
  repeat walk_at "dx"
  refine ⟨⟨by omega, by omega, by decide⟩, ?_⟩
  refine ⟨_, rfl, by rw [one_shl]; omega, by rw [one_shl]; omega, fun D sw s0 s1 => ?_, _, rfl, by rw [one_shl]; rfl⟩
  have hKD : (F.ext D).K = K := hK
  rw [one_shl] at s1
  refine wt_val (fun _ _ => rfl) ?_
  repeat walk_at "dx"
  refine ⟨_, ⟨n, cs, sw, rfl, hn, hb, ⟨s0, by omega⟩, rfl⟩, _, rfl, rfl, rfl, fun _ => ?_⟩
  repeat walk_at "dx"
  exact ⟨rfl, rfl⟩
end


def optD : Option Int → PyData
  | some c => .int c
  | none => .none
theorem shown_mem {n : Nat} {cs : List Int} {s : Int} (h : s ∈ shownL n cs) : 0 ≤ s ∧ s < 2 ^ n := mem_rg.mp (List.mem_filter.mp h).1
def roughO (n : Nat) (cs : List Int) : Option Int := (shownL n cs).find? fun s => !solidB n cs s
abbrev nRgh : List Str := ["box", "switches"]
theorem scRgh : FnScope nRgh ["box"] (defScope (topS 46)) := ⟨rfl, rfl, rfl, by decide +kernel, rfl, by decide +kernel, by decide +kernel⟩
def Rrough : Rel := fun ds d => ∃ (n : Nat) (cs : List Int), ds = [boxD n cs] ∧ n ≤ 6 ∧ IsBox n cs ∧ d = optD (roughO n cs)
section
variable {P : Program} {w : World} {K : PySem.W.Frag} {mg : Str → Option Value} {base : Heap}
theorem ok_rough {f : Addr} {fd : FuncData} (Fn : Fun K "rough_set" "rough_set" (topS 46) f fd) (gh : PFn P w K mg base 3 "shown_sets" Rshs) (gs : PFn P w K mg base 5 "is_solid" Rsolid) : FnG P w K mg base 6 f fd ["box"] (spPure K Rrough) := by
  refine pure_ok (k := 5) Fn scRgh (fun ds d ⟨n, cs, e, _⟩ => by rw [e]; rfl) (fun F ds d hK ⟨n, cs, e, hn, hb, ed⟩ => ?_)
  subst e ed
  have hp := pow_le64 hn
  refine wb_cons (ws_for_tup 1 (by walk_at "tgt") hK (fun _ _ => rfl) ?_)
  repeat walk_at "dx"
  refine ⟨_, ⟨n, cs, rfl, hn, hb, rfl⟩, ?_⟩
  refine ⟨fun j k ρ => (∀ y ∈ (shownL n cs).take j, solidB n cs y = true) ∧ ∃ x, ρ = [.d (boxD n cs), x], _, rfl, ⟨by simp, _, rfl⟩, ?_, ?_⟩
  · rintro j y k ρ hy ⟨hin, x, rfl⟩
    rw [List.getElem?_map, Option.map_eq_some_iff] at hy
    obtain ⟨c, hc, rfl⟩ := hy
    have hcm := shown_mem (List.mem_of_getElem? hc)
    refine wb_cons (ws_if (wt_not (wt_val (fun _ _ => rfl) ?_)))
    repeat walk_at "dx"
    refine ⟨_, ⟨n, cs, c, rfl, hn, ⟨hcm.1, by omega⟩, rfl⟩, _, rfl, iteB (fun h => ?_) (fun h => ?_)⟩
    · repeat walk_at "dx"
      show PyData.int c = optD (roughO n cs)
      unfold roughO
      rw [find_at hc (fun y hy => by simp [hin y hy]) h]; rfl
    · repeat walk_at "dx"
      refine ⟨fun y hy => ?_, _, rfl⟩
      rw [take_next hc] at hy
      rcases List.mem_append.mp hy with hy | hy
      · exact hin y hy
      · have : y = c := by simpa using hy
        subst this
        simpa using h
  · rintro k ρ ⟨hin, x, rfl⟩
    repeat walk_at "dx"
    show PyData.none = optD (roughO n cs)
    unfold roughO
    rw [List.find?_eq_none.mpr]
    · rfl
    intro y hy
    rw [List.length_map, List.take_length] at hin
    simp [hin y hy]
end

def smoothB (n : Nat) (cs : List Int) : Bool := (roughO n cs).isNone

def cdB (cs : List Int) : Nat → Bool := fun c => decide ((c : Int) ∈ cs)
abbrev nDeck : List Str := ["_law_script", "_law_cell"]
theorem scDeck : FnScope nDeck ["_law_script"] (defScope (topS 57)) := ⟨rfl, rfl, rfl, by decide +kernel, rfl, by decide +kernel, by decide +kernel⟩
theorem cutV_ints (ns : List Int) (lo hi : Option Int) : ∃ ms : List Int, cutV (ns.map V.int) lo hi = ms.map V.int ∧ (lo = none → hi = some 63 → ns.length ≤ 63 → ms.length = ns.length) := by
  refine ⟨_, by unfold cutV; rw [← List.map_drop, ← List.map_take], ?_⟩
  rintro rfl rfl h
  rw [List.length_take, List.length_drop, List.length_map]
  rw [show HT.sIx ns.length ns.length (some 63) = min 63 ns.length from HT.sIx_nat ns.length ns.length 63, HT.sIx_none]
  omega
section
variable {P : Program} {w : World} {K : PySem.W.Frag} {mg : Str → Option Value} {base : Heap}
theorem ok_deck {f : Addr} {fd : FuncData} (Fn : Fun K "_law_deck" "_law_deck" (topS 57) f fd) (ma : mg "abs" = none) : FnG P w K mg base 1 f fd ["_law_script"] (spDeck K) := by
  refine FnG.of_body (k := 0) Fn scDeck (fun vs H Q E h => ?_) (fun cdv A outer s H vs Q hgd hr h => ?_)
  · obtain ⟨sc, ns, rfl, _⟩ := h
    rfl
  obtain ⟨sc, ns, rfl, hS, hlen, q⟩ := h
  refine ⟨_, pss_one (ps_ret (pe_lst (pa_cons
      (pe_lc (own := [("_law_cell", 1)]) (g := gName 1) (tt := tYes) rfl scDeck.nd (pi_list (pe_slice sl_list (pv 0) po_none (po_some pe_int))) (blkOk_by (own := [("_law_cell", 1)]) (N := nDeck) (sc := defScope (topS 57)) (by decide +kernel))
        (fun _ _ _ _ _ => pg_name (i := 1) scDeck.nd rfl (Or.inl rfl)) (fun _ _ _ _ _ => pts_nil) (fun _ _ _ _ _ => pe_callB call_abs (by rfl) ma (by decide +kernel) (pa_cons (pv 1) pa_nil)))
      (pa_cons pe_int pa_nil)))), ?_⟩
  refine ⟨.ref sc, rfl, 63, rfl, sc, _, rfl, hS, fun c0 nc0 => ?_⟩
  obtain ⟨ms, em, hml⟩ := cutV_ints ns none (some 63)
  rw [em]
  have hml := hml rfl rfl hlen
  have s0 : Same H (upd H c0 (.lst (ms.map V.int))) := fun b o e => by rw [upd_ne (ne_of_none e nc0)]; exact e
  generalize hH0 : upd H c0 (.lst (ms.map V.int)) = H0 at s0 ⊢
  have hc0 : H0 c0 = some (.lst (ms.map V.int)) := by rw [← hH0, upd_same]
  refine ⟨c0, rfl, ⟨_, SqL.of hc0⟩, fun D hD => ?_⟩
  have hDn : H D = none := s0.free hD
  have hDc : c0 ≠ D := ne_of_none hc0 hD
  refine lc_list (xs := ms.map V.int) (fun n H' => ∃ zs : List Int, zs.length = n ∧ (∀ b o, b ≠ D → H0 b = some o → H' b = some o) ∧ H' D = some (.lst (zs.map V.int))) ⟨[], rfl, fun b o nb e => by rw [upd_ne nb]; exact e, upd_same⟩ (fun n H' _ ⟨zs, _, kp, _⟩ => SqL.of (kp c0 _ hDc hc0)) ?_ ?_
  · rintro n v H' hv ⟨zs, hz, kp, hd⟩
    rw [List.getElem?_map] at hv
    cases hm : ms[n]? with
    | none => rw [hm] at hv; cases hv
    | some y =>
    rw [hm] at hv
    cases hv
    have hn : n < ms.length := (List.getElem?_eq_some_iff.mp hm).1
    refine ⟨rfl, .int y, rfl, y, rfl, _, hd, by rw [List.length_map, hz]; exact small1000 (by omega), zs ++ [if y < 0 then -y else y], by rw [List.length_append, hz]; rfl, fun b o nb e => by rw [upd_ne nb]; exact kp b o nb e, ?_⟩
    rw [upd_same, List.map_append]; rfl
  rintro H1 ⟨zs, hz, kp, hd⟩
  rw [List.length_map, hml] at hz
  have s1 : Same H H1 := fun b o e => kp b o (ne_of_none e hDn) (s0 b o e)
  refine ⟨(by show 2 ≤ sizeLine; decide), fun st nst => ?_⟩
  refine q _ st D (fun b o e => by rw [upd_ne (ne_of_none (s1 b o e) nst)]; exact s1 b o e) (s1.free nst) hDn ⟨zs, 0, upd_same, ?_, by omega, by omega, by omega⟩
  rw [upd_ne (ne_of_none hd nst)]; exact hd
end

abbrev nDrw : List Str := ["_law_deck_here", "_law_many", "_law_cell", "_law_place"]
theorem scDrw : FnScope nDrw ["_law_deck_here", "_law_many"] (defScope (topS 58)) := ⟨rfl, rfl, rfl, by decide +kernel, rfl, by decide +kernel, by decide +kernel⟩
def PreNext : List PyData → Prop := fun ds => ∃ m : Int, ds = [.int m] ∧ 0 < m ∧ m < 1073741824
def RNext : Rel := fun ds d => ∃ m i : Int, ds = [.int m] ∧ d = .int i ∧ 0 ≤ i ∧ i < m
theorem ints_at {ns : List Int} {i : Int} (h0 : 0 ≤ i) (h1 : i < (ns.length : Int)) : ∃ v : Int, atI (ns.map V.int) i = some (.int v) ∧ ixN (ns.map V.int).length i = some i.toNat := by
  have hl : i.toNat < ns.length := by omega
  refine ⟨ns[i.toNat], ?_, ?_⟩
  · have := atI_nat (xs := ns.map V.int) (j := i.toNat) (v := .int ns[i.toNat]) (by rw [List.getElem?_map, List.getElem?_eq_getElem hl]; rfl)
    rw [show ((i.toNat : Nat) : Int) = i by omega] at this
    exact this
  · unfold ixN
    rw [if_pos h0, if_pos (by rw [List.length_map]; exact h1)]
section
variable {P : Program} {w : World} {K : PySem.W.Frag} {mg : Str → Option Value} {base : Heap}
theorem ok_draw83 {f : Addr} {fd : FuncData} (Fn : Fun K "_law_draw" "_law_draw" (topS 58) f fd) (ml : mg "len" = none) : FnG P w K mg base 1 f fd ["_law_deck_here", "_law_many"] (spDrawQ K 1 PreNext RNext) := by
  refine FnG.of_body (k := 0) Fn scDrw (fun vs H Q E h => ?_) (fun cdv A outer s H vs Q hgd hr h => ?_)
  · obtain ⟨S, st, a, vs', ds, k, rfl, _, _, _, rr, ⟨m, rfl, _⟩, _⟩ := h
    rw [List.length_cons, rr.length]; rfl
  obtain ⟨S, st, a, vs', ds, k, rfl, ⟨cells, n, h1, h2, hlen, hn0, hnk⟩, al, hS, rr, ⟨m, rfl, hm0, hm1⟩, q⟩ := h
  cases rr with
  | cons r1 r2 =>
  cases r2
  cases r1
  refine ⟨_, pss_cons (ps_asg (pe_op op_add (pe_ix ix_list (pv 0) pe_int (fun _ _ => rfl)) pe_int) (pg_sub (pv 0) pe_int set_list))
    (pss_cons (ps_set (i := 2) scDrw.nd rfl (.inl rfl) pe_int) (pss_cons (ps_set (i := 3) scDrw.nd rfl (.inl rfl) (pe_un un_neg pe_int))
    (pss_cons (ps_if (pt_cmpR op_gt (pe_callB call_len_seq (by rfl) ml PySem.boot_len (pa_cons (pe_ix ix_list (pv 0) pe_int (fun _ _ => rfl)) pa_nil)) pe_int (nomark _))
      (pss_cons (ps_set (i := 3) scDrw.nd rfl (.inl rfl) (pe_op op_mod (pe_ix ix_list (pv 0) pe_int (fun _ _ => rfl)) (pe_callB call_len_seq (by rfl) ml PySem.boot_len (pa_cons (pe_ix ix_list (pv 0) pe_int (fun _ _ => rfl)) pa_nil))))
        (pss_one (ps_set (i := 2) scDrw.nd rfl (.inl rfl) (pe_ix ix_list (pe_ix ix_list (pv 0) pe_int (fun _ _ => rfl)) (pv 3) (fun _ _ => rfl))))) pss_nil)
    (pss_cons (ps_if (pt_cmpR op_ge (pv 2) (pe_op op_pow pe_int pe_int) (nomark _))
      (pss_cons (ps_asg (pe_op op_fdiv (pv 2) (pv 1)) (pg_sub (pe_ix ix_list (pv 0) pe_int (fun _ _ => rfl)) (pv 3) set_list))
        (pss_one (ps_ret (pe_op op_mod (pv 2) (pv 1))))) pss_nil)
    (pss_one (ps_ret (pe_op op_mod (pe_op op_mod (pe_op op_pow (pe_op op_add (pe_op op_add (pe_op op_mod (pv 2) pe_int) (pe_op op_mul pe_int (pe_ix ix_list (pv 0) pe_int (fun _ _ => rfl)))) pe_int) pe_int) pe_int) (pv 1)))))))), ?_⟩
  -- deck[1] = deck[1] + 1
  refine ⟨.ref st, rfl, st, _, 1, .int n, rfl, rfl, SqL.of h1, rfl, _, _, rfl, rfl, .ref st, rfl, st, _, 1, 1, rfl, rfl, h1, rfl, ?_⟩
  generalize hH0 : upd H st (.lst (List.set [.ref a, .int n] 1 (.int (n + 1)))) = H0
  have hst : st ≠ a := ne_of h1 h2 (fun z => by
    have z' := HO.lst.inj z
    cases cells with
    | nil => cases z'
    | cons c cs => rw [List.map_cons] at z'; injection z' with z1; cases z1)
  have f1 : H0 st = some (.lst [.ref a, .int (n + 1)]) := by rw [← hH0, upd_same]; rfl
  have f2 : H0 a = some (.lst (cells.map V.int)) := by rw [← hH0, upd_ne hst.symm]; exact h2
  have keep0 : ∀ b o, ¬ DqM st a b → H b = some o → H0 b = some o := fun b o nb e => by rw [← hH0, upd_ne (fun z => nb (.inl z))]; exact e
  refine ⟨_, rfl, ?_⟩
  have g1 := f1
  have g2 := f2
  have keep1 := keep0
  have GG : DqG st a k H0 := ⟨cells, n + 1, g1, g2, hlen, by omega, by omega⟩
  have fin : ∀ cv : Int, ((cv % 2147483587 + 7919 * (n + 1) + 1).natAbs < 2 ^ 64) := by
    intro cv
    have := Int.emod_nonneg cv (b := 2147483587) (by decide)
    have := Int.emod_lt_of_pos cv (b := 2147483587) (by decide)
    omega
  -- if len(deck[0]) > 0
  refine ⟨.ref st, rfl, st, _, 0, .ref a, rfl, rfl, SqL.of g1, rfl, a, _, rfl, .inl (SqL.of g2), _, _, rfl, rfl, _, rfl, ite2 (fun hpos => ?_) (fun _ => ?_)⟩
  · have hlc : (0 : Int) < ((cells.map V.int).length : Int) := of_decide_eq_true hpos
    refine ⟨.ref st, rfl, st, _, 1, .int (n + 1), rfl, rfl, SqL.of g1, rfl, .ref st, rfl, st, _, 0, .ref a, rfl, rfl, SqL.of g1, rfl, a, _, rfl, .inl (SqL.of g2), _, _, rfl, rfl, hlc, ?_⟩
    have i0 : 0 ≤ (n + 1) % ((cells.map V.int).length : Int) := Int.emod_nonneg _ (by omega)
    have i1 : (n + 1) % ((cells.map V.int).length : Int) < (cells.length : Int) := by rw [List.length_map] at hlc ⊢; exact Int.emod_lt_of_pos _ hlc
    dsimp only
    generalize (n + 1) % ((cells.map V.int).length : Int) = ix at i0 i1 ⊢
    obtain ⟨cv, c1, c2⟩ := ints_at i0 i1
    refine ⟨.ref st, rfl, st, _, 0, .ref a, rfl, rfl, SqL.of g1, rfl, .int ix, rfl, a, _, ix, _, rfl, rfl, SqL.of g2, c1, ?_⟩
    -- if cell >= 10 ** 18
    refine ⟨.int cv, rfl, _, _, rfl, rfl, ⟨by decide, by decide, by decide⟩, _, _, rfl, rfl, _, rfl, ite2 (fun _ => ?_) (fun _ => ?_)⟩
    · refine ⟨.int cv, rfl, .int m, rfl, _, _, rfl, rfl, ⟨hm0, hm1⟩, .ref st, rfl, st, _, 0, .ref a, rfl, rfl, SqL.of g1, rfl, .int ix, rfl, a, _, ix, _, rfl, rfl, g2, c2, ?_⟩
      refine ⟨.int cv, rfl, .int m, rfl, _, _, rfl, rfl, hm0, ?_⟩
      refine q _ (.int (cv % m)) _ (fun b o nb e => ?_) ?_ (.int _) ⟨m, _, rfl, rfl, Int.emod_nonneg _ (by omega), Int.emod_lt_of_pos _ hm0⟩
      · rw [upd_ne (fun z => nb (.inr z))]; exact keep1 b o nb e
      · have hset : (cells.map V.int).set ix.toNat (.int (cv / m)) = (cells.set ix.toNat (cv / m)).map V.int := by rw [List.map_set]
        rw [hset]
        exact ⟨cells.set ix.toNat (cv / m), n + 1, by rw [upd_ne hst]; exact g1, upd_same, by rw [List.length_set]; exact hlen, by omega, by omega⟩
    · refine ⟨.int cv, rfl, _, _, rfl, rfl, (by dsimp only; decide), .ref st, rfl, st, _, 1, .int (n + 1), rfl, rfl, SqL.of g1, rfl, _, _, rfl, rfl, .inl ⟨by decide, by decide⟩, _, _, rfl, rfl, _, _, rfl, rfl, _, _, rfl, rfl, ⟨by decide, by decide, fin cv⟩, _, _, rfl, rfl, (by dsimp only; decide), .int m, rfl, _, _, rfl, rfl, hm0, ?_⟩
      exact q _ (.int _) _ keep1 GG (.int _) ⟨m, _, rfl, rfl, Int.emod_nonneg _ (by omega), Int.emod_lt_of_pos _ hm0⟩
  · refine ⟨.int 0, rfl, _, _, rfl, rfl, ⟨by decide, by decide, by decide⟩, _, _, rfl, rfl, _, rfl, ite2 (fun z => ?_) (fun _ => ?_)⟩
    · exact absurd z (by decide)
    · refine ⟨.int 0, rfl, _, _, rfl, rfl, (by dsimp only; decide), .ref st, rfl, st, _, 1, .int (n + 1), rfl, rfl, SqL.of g1, rfl, _, _, rfl, rfl, .inl ⟨by decide, by decide⟩, _, _, rfl, rfl, _, _, rfl, rfl, _, _, rfl, rfl, ⟨by decide, by decide, fin 0⟩, _, _, rfl, rfl, (by dsimp only; decide), .int m, rfl, _, _, rfl, rfl, hm0, ?_⟩
      exact q _ (.int _) _ keep1 GG (.int _) ⟨m, _, rfl, rfl, Int.emod_nonneg _ (by omega), Int.emod_lt_of_pos _ hm0⟩
end


abbrev nClo : List Str := ["_law_deck_here", "_law_n", "_law_tops", "_law_k", "_law_card", "_law_top"]
theorem scClo : FnScope nClo ["_law_deck_here", "_law_n"] (defScope (topS 59)) := ⟨rfl, rfl, rfl, by decide +kernel, rfl, by decide +kernel, by decide +kernel⟩
def PreN : List PyData → Prop := fun ds => ∃ n : Nat, ds = [.int (n : Int)] ∧ n ≤ 6
def RCards : Rel := fun ds d => ∃ (n : Nat) (as : List Int), ds = [.int (n : Int)] ∧ as.Sublist (rg (2 ^ n)) ∧ d = .list (as.map PyData.int)
section
variable {P : Program} {w : World} {K : PySem.W.Frag} {mg : Str → Option Value} {base : Heap}
theorem ok_clo83 {f : Addr} {fd : FuncData} (Fn : Fun K "_law_closed" "_law_closed" (topS 59) f fd) (mr : mg "range" = none) (gn : DFnQ P w K mg base 1 "_law_draw" 1 PreNext RNext) : FnG P w K mg base 2 f fd ["_law_deck_here", "_law_n"] (spDrawQ K 5 PreN RCards) := by
  refine draw_okQ (k := 1) Fn scClo (fun ds ⟨m, e, _⟩ => by rw [e]; rfl) (fun F s a ds kk dk hK ⟨n, e, hn⟩ => ?_)
  subst e
  have hp := pow_le64 hn
  refine wb_cons (ws_set 2 (by walk_at "tgt") (fun env h => by cases env; cases h; rfl) (we_compR0 3 (by walk_at "blk") rfl mr (fun _ => rfl) (fun _ _ => rfl) ?_))
  repeat walk_at "dq"
  refine ⟨⟨_, rfl, by decide, by decide⟩, kk + 4, rfl, ?_⟩
  rintro d ⟨m', z, e1, rfl, z0, z1⟩
  cases e1
  repeat walk_at "dq"
  refine ⟨fun j k acc => k + j = kk + 4 ∧ ∃ as : List Int, acc = as.map PyData.int ∧ as.length = j, z, rfl, by omega, by omega, ⟨rfl, [], rfl, rfl⟩, ?_, ?_⟩
  · rintro D j k acc hj ⟨hk, as, rfl, hal⟩
    have hKD : (F.ext D).K = K := hK
    obtain ⟨k2, rfl⟩ : ∃ k2, k = k2 + 1 := ⟨k - 1, by omega⟩
    repeat walk_at "dq"
    refine ⟨⟨by omega, by omega, by decide⟩, ?_⟩
    rw [one_shl]
    repeat walk_at "dq"
    refine ⟨⟨_, rfl, by omega, by omega⟩, k2, rfl, ?_⟩
    rintro d ⟨m', v, e1, rfl, v0, v1⟩
    cases e1
    exact ⟨by omega, as ++ [v], by rw [List.map_append]; rfl, by rw [List.length_append, hal]; rfl⟩
  rintro k acc ⟨hk, tops, rfl, htl⟩
  refine wb_cons (ws_ret (we_fR (fun c => !((tops.filter fun o => decide (Builtin.bitAnd c o = c)).map PyData.int).isEmpty) PyData.int 4 (by walk_at "blk") rfl mr (fun _ => rfl) (fun _ _ => rfl) ?_))
  repeat walk_at "dq"
  refine ⟨⟨by omega, by omega, by decide⟩, ?_⟩
  rw [one_shl]
  refine ⟨_, rfl, by omega, by omega, fun D c c0 c1 => ?_, by omega, n, _, rfl, List.filter_sublist, rfl⟩
  have hKD : (F.ext D).K = K := hK
  refine wt_ne hKD (we_fL (fun o => decide (Builtin.bitAnd c o = c)) PyData.int PyData.int 5 (by walk_at "blk") hKD (fun _ _ => rfl) ?_)
  repeat walk_at "dq"
  refine ⟨tops, rfl, by omega, fun D2 o ho => ?_, ?_⟩
  · refine wt_eqI ?_
    repeat walk_at "dq"
    refine ⟨rfl, rfl, fun _ => ?_⟩
    repeat walk_at "dq"
    exact ⟨rfl, rfl⟩
  repeat walk_at "dq"
  refine ⟨shaped_intsL _, shaped_intsL [], rfl, ?_, fun _ => ?_⟩
  · exact congrArg (!·) (eqv_nilL _)
  · repeat walk_at "dq"
    exact ⟨rfl, rfl⟩
end

abbrev nSz47 : List Str := ["_law_number", "_law_found"]
theorem scSz47 : FnScope nSz47 ["_law_number"] (defScope (topS 61)) := ⟨rfl, rfl, rfl, by decide +kernel, rfl, by decide +kernel, by decide +kernel⟩
def Rsize : Rel := fun ds d => ∃ n : Nat, ds = [.int n] ∧ d = .int (bits n : Nat)
section
variable {P : Program} {w : World} {K : PySem.W.Frag} {mg : Str → Option Value} {base : Heap}
theorem ok_size {f : Addr} {fd : FuncData} (Fn : Fun K "_law_size" "_law_size" (topS 61) f fd) : FnG P w K mg base 1 f fd ["_law_number"] (spPure K Rsize) := by
  refine pure_ok (k := 0) Fn scSz47 (fun ds d ⟨n, e, _⟩ => by rw [e]; rfl) (fun F ds d hK ⟨n, e, ed⟩ => ?_)
  subst e ed
  refine wb_cons (ws_set 1 (by walk_at "tgt") (fun _ _ => rfl) (we_int ?_))
  refine wb_cons (ws_while (fun m k ρ => ∃ c : Nat, ρ = [.d (.int (m : Nat)), .d (.int (c : Nat))] ∧ c + bits m = bits n) n ⟨0, rfl, by simp⟩ ?_)
  rintro m k ρ ⟨c, rfl, hc⟩
  repeat walk_at "dl"
  refine ⟨_, _, rfl, rfl, iteD (fun hm => ?_) (fun hm => ?_)⟩
  · have hm' : 0 < m := by omega
    refine wb_cons (ws_set 1 (by walk_at "tgt") (fun _ _ => rfl) ?_)
    repeat walk_at "dl"
    refine ⟨_, _, rfl, rfl, by decide, ?_⟩
    refine ⟨_, _, rfl, rfl, ?_⟩
    refine wb_cons (ws_set 0 (by walk_at "tgt") (fun _ _ => rfl) ?_)
    repeat walk_at "dl"
    refine ⟨_, _, rfl, rfl, ⟨by decide, by decide⟩, ?_⟩
    refine wb_nil ⟨m / 2, by omega, c + m % 2, ?_, ?_⟩
    · have e1 : ((m : Nat) : Int) / 2 = ((m / 2 : Nat) : Int) := by omega
      have e2 : ((c : Nat) : Int) + ((m : Nat) : Int) % 2 = ((c + m % 2 : Nat) : Int) := by omega
      rw [← e1, ← e2]; rfl
    · rw [bits_pos hm'] at hc; omega
  · have hm' : m = 0 := by omega
    subst hm'
    repeat walk_at "dl"
    have : bits 0 = 0 := by rw [bits]; rfl
    rw [this] at hc
    show PyData.int _ = PyData.int _
    rw [← hc]; rfl
end


abbrev nCd83 : List Str := ["_law_deck_here", "_law_n", "_law_way", "_law_some", "_law_turned", "_law_share", "_law_card", "_law_most", "_law_kept"]
theorem scCd83 : FnScope nCd83 ["_law_deck_here", "_law_n"] (defScope (topS 60)) := ⟨rfl, rfl, rfl, by decide +kernel, rfl, by decide +kernel, by decide +kernel⟩
def RCd83 : Rel := fun ds d => ∃ (n : Nat) (cs : List Int), ds = [.int (n : Int)] ∧ IsBox n cs ∧ d = .list (cs.map PyData.int)
theorem sub_bx {n : Nat} {as : List Int} (h : as.Sublist (rg (2 ^ n))) : IsBox n as := ⟨rg_pairwise.sublist h, fun c hc => mem_rg.mp (h.subset hc)⟩
theorem pick3 (z : Int) (h0 : 0 ≤ z) (h1 : z < 3) : ∃ v : Int, ixD (.list [.int 4, .int 7, .int 1]) (.int z) = some (.int v) := by
  have : z = 0 ∨ z = 1 ∨ z = 2 := by omega
  rcases this with rfl | rfl | rfl
  · exact ⟨4, rfl⟩
  · exact ⟨7, rfl⟩
  · exact ⟨1, rfl⟩
section
variable {P : Program} {w : World} {K : PySem.W.Frag} {mg : Str → Option Value} {base : Heap}
theorem ok_cd83 {f : Addr} {fd : FuncData} (Fn : Fun K "_law_cards" "_law_cards" (topS 60) f fd) (mr : mg "range" = none) (mL : mg "list" = none) (ms : mg "sorted" = none) (gn : DFnQ P w K mg base 1 "_law_draw" 1 PreNext RNext) (gc : DFnQ P w K mg base 2 "_law_closed" 5 PreN RCards) (gz : PFn P w K mg base 1 "_law_size" Rsize) : FnG P w K mg base 3 f fd ["_law_deck_here", "_law_n"] (spDrawQ K 66 PreN RCd83) := by
  refine draw_okQ (k := 2) Fn scCd83 (fun ds ⟨m, e, _⟩ => by rw [e]; rfl) (fun F s a ds kk dk hK ⟨n, e, hn⟩ => ?_)
  subst e
  have hp := pow_le64 hn
  have hrl : (rg ((2 : Int) ^ n)).length ≤ 64 := by rw [rg_length]; omega
  refine wb_cons (ws_set 2 (by walk_at "tgt") (fun env h => by cases env; cases h; rfl) ?_)
  repeat walk_at "dq"
  refine ⟨⟨_, rfl, by decide, by decide⟩, kk + 65, rfl, ?_⟩
  rintro d ⟨m', wy, e1, rfl, w0, w1⟩
  cases e1
  refine wb_cons (ws_set 3 (by walk_at "tgt") (fun env h => by cases env; cases h; rfl) (we_listRg rfl mL rfl mr (fun _ => rfl) (fun _ => rfl) ?_))
  repeat walk_at "dq"
  refine ⟨⟨by omega, by omega, by decide⟩, ?_⟩
  rw [one_shl]
  refine ⟨_, rfl, ⟨by omega, by omega⟩, ?_⟩
  refine wb_cons (ws_set 4 (by walk_at "tgt") (fun env h => by cases env; cases h; rfl) ?_)
  repeat walk_at "dq"
  refine ⟨⟨by omega, by omega, by decide⟩, ?_⟩
  rw [one_shl]
  repeat walk_at "dq"
  refine ⟨⟨_, rfl, by omega, by omega⟩, kk + 64, rfl, ?_⟩
  rintro d ⟨m', fl, e1, rfl, f0, f1⟩
  cases e1
  refine wb_cons (ws_if (wt_lt ?_))
  repeat walk_at "dq"
  refine iteD (fun hw3 => ?_) (fun hw3 => ?_)
  · refine wb_cons (ws_set 5 (by walk_at "tgt") (fun env h => by cases env; cases h; rfl) ?_)
    repeat walk_at "dq"
    obtain ⟨ch, hix⟩ := pick3 wy w0 (by omega)
    refine ⟨_, hix, ?_⟩
    refine wb_cons (ws_ret (we_compL1 6 (by walk_at "blk") hK (fun _ _ => rfl) ?_))
    repeat walk_at "dq"
    refine ⟨fun j k acc => k + j = kk + 64 ∧ ∃ as : List Int, acc = as.map PyData.int ∧ as.Sublist ((rg ((2 : Int) ^ n)).take j), _, rfl, by rw [List.length_map]; omega, ⟨rfl, [], rfl, by simp⟩, ?_, ?_⟩
    · rintro D j y k acc hy ⟨hk', as, rfl, hsub⟩
      rw [List.getElem?_map, Option.map_eq_some_iff] at hy
      obtain ⟨c, hc, rfl⟩ := hy
      have hj : j < 64 := Nat.lt_of_lt_of_le (List.getElem?_eq_some_iff.mp hc).1 hrl
      have tn := take_next hc
      have hKD : (F.ext D).K = K := hK
      obtain ⟨k2, rfl⟩ : ∃ k2, k = k2 + 1 := ⟨k - 1, by omega⟩
      refine wt_lt ?_
      repeat walk_at "dq"
      refine ⟨⟨_, rfl, by omega, by omega⟩, k2, rfl, ?_⟩
      rintro d ⟨m', v, e1, rfl, v0, v1⟩
      repeat walk_at "dq"
      refine iteD (fun _ => ?_) (fun _ => ?_)
      · repeat walk_at "dq"
        exact ⟨by omega, as ++ [c], by rw [List.map_append]; rfl, by rw [tn]; exact hsub.append (List.Sublist.refl _)⟩
      · exact ⟨by omega, as, rfl, by rw [tn]; exact hsub.trans (List.sublist_append_left _ _)⟩
    · rintro k acc ⟨hk', as, rfl, hsub⟩
      rw [List.length_map] at hk' hsub
      rw [List.take_length] at hsub
      exact ⟨by omega, n, as, rfl, sub_bx hsub, rfl⟩
  refine wb_nil (wb_cons (ws_if (wt_eqI ?_)))
  repeat walk_at "dq"
  refine iteD (fun _ => ?_) (fun _ => ?_)
  · refine wb_cons (ws_ret (we_sorted hK rfl ms (fun _ => rfl) (we_mL PyData.int (fun c : Int => .int (Builtin.bitXor c fl)) 6 (by walk_at "blk") hK (fun _ _ => rfl) ?_)))
    repeat walk_at "dq"
    refine ⟨⟨n, rfl, hn⟩, kk + 59, rfl, ?_⟩
    rintro d ⟨n', as, e1, hs, rfl⟩
    have : n' = n := by
      have := PyData.int.inj (List.cons.inj e1).1
      omega
    subst this
    have hal := Nat.le_trans hs.length_le hrl
    refine ⟨as, rfl, by omega, fun D c hc => ?_, ?_⟩
    · repeat walk_at "dq"
      exact ⟨rfl, rfl⟩
    exact ⟨as.map fun c : Int => Builtin.bitXor c fl, by rw [List.map_map]; rfl, fun ms' hperm hw => ⟨by omega, n', ms', rfl, (xor_good hn f0 f1 hs).sorted hperm hw, rfl⟩⟩
  refine wb_nil (wb_cons (ws_if (wt_eqI ?_)))
  repeat walk_at "dq"
  refine iteD (fun _ => ?_) (fun _ => ?_)
  · refine wb_cons (ws_set 7 (by walk_at "tgt") (fun env h => by cases env; cases h; rfl) ?_)
    repeat walk_at "dq"
    refine ⟨⟨_, rfl, by omega, by omega⟩, kk + 63, rfl, ?_⟩
    rintro d ⟨m', mo, e1, rfl, o0, o1⟩
    cases e1
    refine wb_cons (ws_ret (we_sorted hK rfl ms (fun _ => rfl) (we_fL (fun c => decide (((bits c.toNat : Nat) : Int) ≤ mo)) PyData.int (fun c : Int => .int (Builtin.bitXor c fl)) 6 (by walk_at "blk") hK (fun _ _ => rfl) ?_)))
    walk_at "name"
    refine ⟨rg ((2 : Int) ^ n), rfl, by omega, fun D c hc => ?_, ?_⟩
    · have hKD : (F.ext D).K = K := hK
      have hcr := mem_rg.mp hc
      refine wt_le ?_
      repeat walk_at "dq"
      refine ⟨_, ⟨c.toNat, by rw [show ((c.toNat : Nat) : Int) = c by omega], rfl⟩, ?_⟩
      repeat walk_at "dq"
      refine ⟨rfl, rfl, fun _ => ?_⟩
      repeat walk_at "dq"
      exact ⟨rfl, rfl⟩
    exact ⟨((rg ((2 : Int) ^ n)).filter fun c => decide (((bits c.toNat : Nat) : Int) ≤ mo)).map fun c : Int => Builtin.bitXor c fl, by rw [List.map_map]; rfl, fun ms' hperm hw => ⟨by omega, n, ms', rfl, (xor_good hn f0 f1 List.filter_sublist).sorted hperm hw, rfl⟩⟩
  refine wb_nil (wb_cons (ws_if (wt_eqI ?_)))
  repeat walk_at "dq"
  refine iteD (fun _ => ?_) (fun _ => ?_)
  · refine wb_cons (ws_set 8 (by walk_at "tgt") (fun env h => by cases env; cases h; rfl) ?_)
    repeat walk_at "dq"
    refine ⟨⟨by omega, by omega, by decide⟩, ?_⟩
    rw [one_shl]
    repeat walk_at "dq"
    refine ⟨⟨_, rfl, by omega, by omega⟩, kk + 63, rfl, ?_⟩
    rintro d ⟨m', kp, e1, rfl, o0, o1⟩
    cases e1
    refine wb_cons (ws_ret (we_fL (fun c => decide (Builtin.bitAnd c kp = Builtin.bitAnd fl kp)) PyData.int PyData.int 6 (by walk_at "blk") hK (fun _ _ => rfl) ?_))
    walk_at "name"
    refine ⟨rg ((2 : Int) ^ n), rfl, by omega, fun D c hc => ?_, by omega, n, _, rfl, sub_bx List.filter_sublist, rfl⟩
    refine wt_eqI ?_
    repeat walk_at "dq"
    refine ⟨rfl, rfl, fun _ => ?_⟩
    repeat walk_at "dq"
    exact ⟨rfl, rfl⟩
  refine wb_nil (wb_cons (ws_ret (we_fL (fun c => !decide (c = fl) && !decide (c = 2 ^ n - 1 - fl)) PyData.int PyData.int 6 (by walk_at "blk") hK (fun _ _ => rfl) ?_)))
  walk_at "name"
  refine ⟨rg ((2 : Int) ^ n), rfl, by omega, fun D c hc => ?_, by omega, n, _, rfl, sub_bx List.filter_sublist, rfl⟩
  refine wt_and2 (p := !decide (c = fl)) (q := !decide (c = 2 ^ n - 1 - fl)) (wt_neI ?_) (fun _ => wt_neI ?_) ?_
  · repeat walk_at "dq"
    exact ⟨rfl, rfl⟩
  · repeat walk_at "dq"
    refine ⟨⟨by omega, by omega, by decide⟩, ?_⟩
    rw [one_shl]
    repeat walk_at "dq"
    exact ⟨rfl, rfl⟩
  refine ⟨rfl, rfl, fun _ => ?_⟩
  repeat walk_at "dq"
  exact ⟨rfl, rfl⟩
end


/-- the set image of a list of cards, as a box of m switches -/
def imgL (m : Nat) (g : Int → Int) (cs : List Int) : List Int := (rg (2 ^ m)).filter fun z => cs.any fun c => decide (g c = z)
theorem img_box (m : Nat) (g : Int → Int) (cs : List Int) : IsBox m (imgL m g cs) := ⟨rg_pairwise.filter _, fun c hc => mem_rg.mp (List.mem_filter.mp hc).1⟩
theorem mem_img {m : Nat} {g : Int → Int} {cs : List Int} (hr : ∀ c ∈ cs, 0 ≤ g c ∧ g c < 2 ^ m) (z : Int) : z ∈ imgL m g cs ↔ ∃ c ∈ cs, g c = z := by
  unfold imgL
  rw [List.mem_filter, List.any_eq_true, mem_rg]
  constructor
  · rintro ⟨_, c, hc, e⟩
    exact ⟨c, hc, of_decide_eq_true e⟩
  · rintro ⟨c, hc, rfl⟩
    exact ⟨hr c hc, c, hc, decide_eq_true rfl⟩
theorem img_uniq {m : Nat} {g : Int → Int} {cs ms : List Int} (hr : ∀ c ∈ cs, 0 ≤ g c ∧ g c < 2 ^ m) (hw : ms.Pairwise (· < ·)) (hm : ∀ z, z ∈ ms ↔ z ∈ cs.map g) : ms = imgL m g cs :=
  uniqI hw (img_box m g cs).asc fun z => by rw [hm, mem_img hr, List.mem_map]
theorem img_perm {m : Nat} {g : Int → Int} {cs ms : List Int} (hg : GoodC m (cs.map g)) (hp : ms.Perm (cs.map g)) (hw : ms.Pairwise (· ≤ ·)) : ms = imgL m g cs :=
  img_uniq (fun c hc => hg.rng _ (List.mem_map_of_mem hc)) (hg.sorted hp hw).asc fun z => hp.mem_iff
theorem box_sub {n : Nat} {cs : List Int} (hb : IsBox n cs) : cs.Sublist (rg (2 ^ n)) := by
  have : (rg (2 ^ n)).filter (fun c => decide (c ∈ cs)) = cs :=
    uniqI (rg_pairwise.filter _) hb.asc fun a => by
      rw [List.mem_filter, decide_eq_true_eq, mem_rg]
      exact ⟨fun h => h.2, fun h => ⟨hb.rng a h, h⟩⟩
  exact this ▸ List.filter_sublist
theorem eqv_box (n m : Nat) (cs ds : List Int) : PyData.eqv (boxD n cs) (boxD m ds) = decide (n = m ∧ cs = ds) := by
  have := eqvAll_ints cs ds
  simp only [boxD, PyData.eqv, PyData.eqvAll, this]
  by_cases h1 : n = m <;> by_cases h2 : cs = ds <;> simp [h1, h2] <;> omega
def flipL (n : Nat) (cs : List Int) (f : Int) : List Int := imgL n (fun c => Builtin.bitXor c f) cs
theorem flip_box (n : Nat) (cs : List Int) (f : Int) : IsBox n (flipL n cs f) := img_box _ _ _
def bitB (s k : Int) : Bool := decide (Builtin.bitAnd (s / 2 ^ k.toNat) 1 = 1)
def woI (c k : Int) : Int := c / 2 ^ (k + 1).toNat * 2 ^ k.toNat + Builtin.bitAnd c (1 * 2 ^ k.toNat - 1)
def bitN (c k : Nat) : Bool := decide (c / 2 ^ k % 2 = 1)
def woN (c k : Nat) : Nat := c / 2 ^ (k + 1) * 2 ^ k + c % 2 ^ k
def widN (m k : Nat) : Nat := m % 2 ^ k + m / 2 ^ k * 2 * 2 ^ k
theorem cast2 (k : Nat) : (2 : Int) ^ k = ((2 ^ k : Nat) : Int) := by rw [Int.natCast_pow]; rfl
theorem band1 (c : Nat) : Builtin.bitAnd (c : Int) 1 = ((c % 2 : Nat) : Int) := by
  have := band_nat c 1
  rw [Nat.and_one_is_mod] at this
  exact this
theorem bit_nat (c k : Nat) : bitB (c : Int) (k : Int) = bitN c k := by
  unfold bitB bitN
  rw [Int.toNat_natCast, cast2, ← Int.natCast_ediv, band1]
  exact decide_eq_decide.mpr (by omega)
theorem wo_nat (c k : Nat) : woI (c : Int) (k : Int) = ((woN c k : Nat) : Int) := by
  unfold woI woN
  have h1 : (((k : Nat) : Int) + 1).toNat = k + 1 := by omega
  have hp := Nat.two_pow_pos k
  have h2 : (1 : Int) * ((2 ^ k : Nat) : Int) - 1 = ((2 ^ k - 1 : Nat) : Int) := by omega
  rw [h1, Int.toNat_natCast, cast2, cast2, h2, band_nat, Nat.and_two_pow_sub_one_eq_mod, ← Int.natCast_ediv, ← Int.natCast_mul, ← Int.natCast_add]
theorem wo_rngN : ∀ n ≤ 6, ∀ k < n, ∀ c < 2 ^ n, woN c k < 2 ^ (n - 1) := by decide +kernel
theorem wo_mono : ∀ k < 6, ∀ b < 64, ∀ a < b, bitN a k = bitN b k → woN a k < woN b k := by decide +kernel
theorem to_nat {n : Nat} {c : Int} (hc : 0 ≤ c ∧ c < 2 ^ n) : ∃ m : Nat, c = (m : Int) ∧ m < 2 ^ n := by
  rw [cast2] at hc
  exact ⟨c.toNat, by omega, by omega⟩
theorem lt64 {n m : Nat} (hn : n ≤ 6) (h : m < 2 ^ n) : m < 64 := Nat.lt_of_lt_of_le h (Nat.pow_le_pow_right (by decide) hn)
theorem wo_rng {n k : Nat} (hn : n ≤ 6) (hk : k < n) {c : Int} (hc : 0 ≤ c ∧ c < 2 ^ n) : 0 ≤ woI c k ∧ woI c k < 2 ^ (n - 1) := by
  obtain ⟨m, rfl, hm⟩ := to_nat hc
  rw [wo_nat, cast2]
  have := wo_rngN n hn k hk m hm
  omega
def dropL (n : Nat) (cs : List Int) (k : Nat) : List Int := imgL (n - 1) (fun c => woI c k) cs
def holdL (n : Nat) (cs : List Int) (k : Nat) (on : Bool) : List Int := imgL (n - 1) (fun c => woI c k) (cs.filter fun c => bitB c k == on)
def edgeL (n : Nat) (cs : List Int) (k : Nat) : List Int := (holdL n cs k false).filter fun c => decide (c ∈ holdL n cs k true)
theorem filter_box {n : Nat} {cs : List Int} (hb : IsBox n cs) (p : Int → Bool) : IsBox n (cs.filter p) := ⟨hb.asc.filter _, fun c hc => hb.rng c (List.mem_filter.mp hc).1⟩
theorem wo_rngL {n k : Nat} {cs : List Int} (hn : n ≤ 6) (hk : k < n) (hb : IsBox n cs) : ∀ c ∈ cs, 0 ≤ woI c k ∧ woI c k < 2 ^ (n - 1) := fun c hc => wo_rng hn hk (hb.rng c hc)
theorem hold_map {n k : Nat} {cs : List Int} {on : Bool} (hn : n ≤ 6) (hk : k < n) (hb : IsBox n cs) : (cs.filter fun c => bitB c k == on).map (fun c => woI c k) = holdL n cs k on := by
  have hf := filter_box hb fun c => bitB c k == on
  refine img_uniq (wo_rngL hn hk hf) ?_ fun z => Iff.rfl
  rw [List.pairwise_map]
  refine (List.Pairwise.and_mem.mp hf.asc).imp ?_
  rintro a b ⟨ha, hb', hlt⟩
  obtain ⟨a', rfl, ha1⟩ := to_nat (hf.rng a ha)
  obtain ⟨b', rfl, hb1⟩ := to_nat (hf.rng b hb')
  have e1 : bitN a' k = on := by have := (List.mem_filter.mp ha).2; rw [bit_nat] at this; exact eq_of_beq this
  have e2 : bitN b' k = on := by have := (List.mem_filter.mp hb').2; rw [bit_nat] at this; exact eq_of_beq this
  rw [wo_nat, wo_nat]
  have := wo_mono k (by omega) b' (lt64 hn hb1) a' (by omega) (by rw [e1, e2])
  omega
def prcI (cs : List Int) (c k : Int) : Int := if (bitB c k && !decide (c - 1 * 2 ^ k.toNat ∈ cs)) = true then c - 1 * 2 ^ k.toNat else c
theorem bit_le : ∀ k < 6, ∀ c < 64, bitN c k = true → 2 ^ k ≤ c := by decide +kernel
theorem prc_nat {n k c : Nat} {cs : List Int} (hn : n ≤ 6) (hk : k < n) (hc : c < 2 ^ n) : prcI cs (c : Int) (k : Int) = (((if (bitN c k && !decide (((c - 2 ^ k : Nat) : Int) ∈ cs)) = true then c - 2 ^ k else c : Nat)) : Int) := by
  unfold prcI
  rw [bit_nat, one_shl, cast2]
  cases hb : bitN c k with
  | false => simp
  | true =>
    have hle := bit_le k (by omega) c (lt64 hn hc) hb
    rw [show ((c : Nat) : Int) - ((2 ^ k : Nat) : Int) = ((c - 2 ^ k : Nat) : Int) by omega]
    split <;> rfl
def pressL (n : Nat) (cs : List Int) (k : Nat) : List Int := imgL n (fun c => prcI cs c k) cs
theorem press_box (n : Nat) (cs : List Int) (k : Nat) : IsBox n (pressL n cs k) := img_box _ _ _
theorem prc_rng {n k : Nat} {cs : List Int} (hn : n ≤ 6) (hk : k < n) {c : Int} (hc : 0 ≤ c ∧ c < 2 ^ n) : 0 ≤ prcI cs c k ∧ prcI cs c k < 2 ^ n := by
  obtain ⟨m, rfl, hm⟩ := to_nat hc
  have hp2 := Nat.two_pow_pos k
  rw [prc_nat hn hk hm, cast2]
  split <;> omega
theorem prc_inj {n k : Nat} {cs : List Int} (hn : n ≤ 6) (hk : k < n) {a b : Nat} (ha : a < 2 ^ n) (hb : b < 2 ^ n) (ma : (a : Int) ∈ cs) (mb : (b : Int) ∈ cs) (e : prcI cs (a : Int) k = prcI cs (b : Int) k) : a = b := by
  rw [prc_nat hn hk ha, prc_nat hn hk hb] at e
  by_cases pa : (bitN a k && !decide (((a - 2 ^ k : Nat) : Int) ∈ cs)) = true
  · by_cases pb : (bitN b k && !decide (((b - 2 ^ k : Nat) : Int) ∈ cs)) = true
    · rw [if_pos pa, if_pos pb] at e
      rw [Bool.and_eq_true] at pa pb
      have h1 := bit_le k (by omega) a (lt64 hn ha) pa.1
      have h2 := bit_le k (by omega) b (lt64 hn hb) pb.1
      omega
    · rw [if_pos pa, if_neg pb] at e
      rw [Bool.and_eq_true] at pa
      have h3 : ((a - 2 ^ k : Nat) : Int) ∈ cs := by rw [e]; exact mb
      simp [h3] at pa
  · by_cases pb : (bitN b k && !decide (((b - 2 ^ k : Nat) : Int) ∈ cs)) = true
    · rw [if_neg pa, if_pos pb] at e
      rw [Bool.and_eq_true] at pb
      have h3 : ((b - 2 ^ k : Nat) : Int) ∈ cs := by rw [← e]; exact ma
      simp [h3] at pb
    · rw [if_neg pa, if_neg pb] at e
      omega
theorem press_good {n k : Nat} {cs : List Int} (hn : n ≤ 6) (hk : k < n) (hb : IsBox n cs) : GoodC n (cs.map fun c => prcI cs c k) := by
  constructor
  · rw [List.nodup_iff_pairwise_ne, List.pairwise_map]
    refine (List.Pairwise.and_mem.mp hb.asc).imp ?_
    rintro a b ⟨ha, hb', hlt⟩ e
    obtain ⟨a, rfl, ha1⟩ := to_nat (hb.rng a ha)
    obtain ⟨b, rfl, hb1⟩ := to_nat (hb.rng b hb')
    have := prc_inj hn hk ha1 hb1 ha hb' e
    omega
  · intro c hc
    obtain ⟨a, ha, rfl⟩ := List.mem_map.mp hc
    exact prc_rng hn hk (hb.rng a ha)
theorem press_perm {n k : Nat} {cs ms : List Int} (hn : n ≤ 6) (hk : k < n) (hb : IsBox n cs) (hp : ms.Perm (cs.map fun c => prcI cs c k)) (hw : ms.Pairwise (· ≤ ·)) : ms = pressL n cs k := img_perm (press_good hn hk hb) hp hw
def Ld (m : Nat) (d : PyData) : Prop := d.canLay0 = true ∧ d.depth ≤ m
theorem Ld.mono {m m' : Nat} {d : PyData} (h : Ld m d) (hm : m ≤ m') : Ld m' d := ⟨h.1, Nat.le_trans h.2 hm⟩
theorem Ld.shaped {m : Nat} {d : PyData} (h : Ld m d) (hm : m ≤ 64) : SeqAt.shaped d = true := by
  unfold SeqAt.shaped
  rw [h.1, decide_eq_true (Nat.le_trans h.2 hm)]; rfl
theorem lay_all {m : Nat} : ∀ {ds : List PyData}, (∀ d ∈ ds, Ld m d) → PyData.canLayAll0 ds = true ∧ PyData.depthAll ds ≤ m
  | [], _ => ⟨by simp [PyData.canLayAll0], by simp [PyData.depthAll]⟩
  | d :: ds, h => by
    obtain ⟨h1, h2⟩ := lay_all (ds := ds) fun x hx => h x (List.mem_cons_of_mem _ hx)
    obtain ⟨h3, h4⟩ := h d List.mem_cons_self
    exact ⟨by simp [PyData.canLayAll0, h1, h3], by simp only [PyData.depthAll]; omega⟩
theorem Ld.list {m : Nat} {ds : List PyData} (h : ∀ d ∈ ds, Ld m d) : Ld (m + 1) (.list ds) := by
  obtain ⟨h1, h2⟩ := lay_all h
  exact ⟨by simp only [PyData.canLay0, h1], by simp only [PyData.depth]; omega⟩
theorem Ld.tuple {m : Nat} {ds : List PyData} (h : ∀ d ∈ ds, Ld m d) : Ld (m + 1) (.tuple ds) := by
  obtain ⟨h1, h2⟩ := lay_all h
  exact ⟨by simp only [PyData.canLay0, h1], by simp only [PyData.depth]; omega⟩
theorem Ld.int (i : Int) : Ld 0 (.int i) := ⟨rfl, Nat.le_refl _⟩
theorem Ld.bool (i : Bool) : Ld 0 (.bool i) := ⟨rfl, Nat.le_refl _⟩
theorem Ld.ints (xs : List Int) : Ld 1 (.list (xs.map PyData.int)) := .list fun d hd => by
  obtain ⟨i, _, rfl⟩ := List.mem_map.mp hd
  exact .int i
theorem Ld.intsT (xs : List Int) : Ld 1 (.tuple (xs.map PyData.int)) := .tuple fun d hd => by
  obtain ⟨i, _, rfl⟩ := List.mem_map.mp hd
  exact .int i
theorem Ld.box (n : Nat) (cs : List Int) : Ld 2 (boxD n cs) := .tuple fun d hd => by
  rcases List.mem_cons.mp hd with rfl | hd
  · exact (Ld.int _).mono (by decide)
  · rw [List.mem_singleton.mp hd]; exact .intsT cs
theorem iteNl {m : Nat} {x y : PyData} {A B : Prop} (e : x = y) (h : Ld m x) (q : B) : if (!PyData.eqv x y) = true then A else B := by
  subst e
  rw [SeqAt.eqv_refl x h.1, if_neg (by decide)]; exact q

/-! ### values of any kind: is it a number, a card, a box -/
def numD : PyData → Bool
  | .int _ => true
  | _ => false
def belD (b : Int) : PyData → Bool
  | .int i => decide (0 ≤ i) && decide (i < b)
  | _ => false
def rngD (lo hi : Int) : PyData → Bool
  | .int i => decide (lo ≤ i) && decide (i ≤ hi)
  | _ => false
def pairD : PyData → Bool
  | .tuple ds => decide (ds.length = 2)
  | _ => false
def isTup : PyData → Bool
  | .tuple _ => true
  | _ => false
theorem numD_eq (x : PyData) : numD x = (isiD "int" x && !isiD "bool" x) := by cases x <;> rfl
theorem isTup_eq (x : PyData) : isiD "tuple" x = isTup x := by cases x <;> rfl
theorem num_int {x : PyData} (h : numD x = true) : ∃ i : Int, x = .int i := by cases x <;> first | exact ⟨_, rfl⟩ | cases h
theorem bel_int {b : Int} {x : PyData} (h : belD b x = true) : ∃ i : Int, x = .int i ∧ 0 ≤ i ∧ i < b := by
  cases x with
  | int i =>
    rw [belD, Bool.and_eq_true, decide_eq_true_eq, decide_eq_true_eq] at h
    exact ⟨i, rfl, h.1, h.2⟩
  | _ => cases h
theorem tup_some {x : PyData} (h : isTup x = true) : ∃ ds, x = .tuple ds := by cases x <;> first | exact ⟨_, rfl⟩ | cases h
theorem itP {p : Bool} {A B : Prop} (h : p = true) (x : A) : if p = true then A else B := by rw [if_pos h]; exact x
theorem itN {p : Bool} {A B : Prop} (h : p = false) (x : B) : if p = true then A else B := by rw [if_neg (by rw [h]; decide)]; exact x
def errP (i : PyData) (w : Str) : PyData := .tuple [i, .str w]
/-- the first error of the cards from the i-th on, p the card ahead -/
def cerr (b : Int) : Option Int → Nat → List PyData → PyData
  | _, _, [] => .none
  | p, i, c :: cs => if belD b c = true then (match c with
      | .int v => if (match p with | some q => decide (v ≤ q) | none => false) = true then errP (.int (i : Int)) "order" else cerr b (some v) (i + 1) cs
      | _ => .none) else errP (.int (i : Int)) "card"
theorem cerr_cons (b : Int) (p : Option Int) (i : Nat) (c : PyData) (cs : List PyData) : cerr b p i (c :: cs) = if belD b c = true then (match c with
      | .int v => if (match p with | some q => decide (v ≤ q) | none => false) = true then errP (.int (i : Int)) "order" else cerr b (some v) (i + 1) cs
      | _ => .none) else errP (.int (i : Int)) "card" := by cases c <;> rfl
def berr : PyData → PyData
  | .tuple [n, c] => if belD 7 n = true then (match n, c with
      | .int m, .tuple cs => cerr (2 ^ m.toNat) none 0 cs
      | _, _ => errP .none "cards") else errP .none "switches"
  | _ => errP .none "tuple"
theorem berr_two (a b : PyData) : berr (.tuple [a, b]) = if belD 7 a = true then (match a, b with
      | .int m, .tuple cs => cerr (2 ^ m.toNat) none 0 cs
      | _, _ => errP .none "cards") else errP .none "switches" := rfl
/-- the card ahead of the j-th -/
def prevI (cs : List PyData) : Nat → Option Int
  | 0 => none
  | j + 1 => match cs[j]? with
    | some (.int v) => some v
    | _ => none
def CInv (b : Int) (cs : List PyData) (j : Nat) : Prop := cerr b none 0 cs = cerr b (prevI cs j) j (cs.drop j) ∧ ∀ i, j = i + 1 → ∃ v : Int, cs[i]? = some (.int v)
theorem cinv_zero (b : Int) (cs : List PyData) : CInv b cs 0 := ⟨rfl, fun i h => by omega⟩
theorem cinv_step {b : Int} {cs : List PyData} {j : Nat} {y : PyData} (h : CInv b cs j) (e : cs[j]? = some y) :
    (belD b y = false → cerr b none 0 cs = errP (.int (j : Int)) "card") ∧
    (∀ v : Int, y = .int v → belD b y = true → (∀ q, prevI cs j = some q → v ≤ q → cerr b none 0 cs = errP (.int (j : Int)) "order") ∧ ((∀ q, prevI cs j = some q → ¬ v ≤ q) → CInv b cs (j + 1))) := by
  have hd : cs.drop j = y :: cs.drop (j + 1) := by
    obtain ⟨hl, hv⟩ := List.getElem?_eq_some_iff.mp e
    rw [List.drop_eq_getElem_cons hl, hv]
  have h1 := h.1
  rw [hd, cerr_cons] at h1
  refine ⟨fun hb => by rw [h1, hb]; rfl, fun v hy hb => ?_⟩
  subst hy
  rw [if_pos hb] at h1
  have h1 : cerr b none 0 cs = if (match prevI cs j with | some q => decide (v ≤ q) | none => false) = true then errP (.int (j : Int)) "order" else cerr b (some v) (j + 1) (cs.drop (j + 1)) := h1
  refine ⟨fun q hq hle => ?_, fun hno => ⟨?_, fun i hi => ?_⟩⟩
  · rw [h1, hq]
    show (if decide (v ≤ q) = true then _ else _) = _
    rw [if_pos (decide_eq_true hle)]
  · rw [h1]
    have : prevI cs (j + 1) = some v := by rw [prevI, e]
    rw [this, if_neg]
    cases hp : prevI cs j with
    | none => show ¬ (false = true); decide
    | some q =>
      show ¬ (decide (v ≤ q) = true)
      rw [decide_eq_true_eq]; exact hno q hp
  · have : i = j := by omega
    subst this
    exact ⟨v, e⟩
theorem cinv_end {b : Int} {cs : List PyData} (h : CInv b cs cs.length) : cerr b none 0 cs = .none := by
  have := h.1
  rw [List.drop_length] at this
  rw [this]; cases prevI cs cs.length <;> rfl
theorem pair_some {x : PyData} (h : pairD x = true) : ∃ a b, x = .tuple [a, b] := by
  cases x with
  | tuple ds =>
    have : ds.length = 2 := of_decide_eq_true h
    match ds, this with
    | [a, b], _ => exact ⟨a, b, rfl⟩
  | _ => cases h

abbrev nNum : List Str := ["value"]
theorem scNum : FnScope nNum ["value"] (defScope (topS 4)) := ⟨rfl, rfl, rfl, by decide +kernel, rfl, by decide +kernel, by decide +kernel⟩
def RnumA : Rel := fun ds d => ∃ x : PyData, ds = [x] ∧ d = .bool (numD x)
section
variable {P : Program} {w : World} {K : PySem.W.Frag} {mg : Str → Option Value} {base : Heap}
theorem ok_numA {f : Addr} {fd : FuncData} (Fn : Fun K "is_number" "is_number" (topS 4) f fd) (mi : mg "isinstance" = none) (mn : mg "int" = none) (mb : mg "bool" = none) : FnG P w K mg base 1 f fd ["value"] (spPure K RnumA) := by
  refine pure_ok (k := 0) Fn scNum (fun ds d ⟨x, e, _⟩ => by rw [e]; rfl) (fun F ds d hK ⟨x, e, ed⟩ => ?_)
  subst e ed
  refine wb_cons (ws_ret (we_and (we_isi "int" kit_int hK rfl mi rfl mn rfl (by decide) rfl (fun _ => rfl) ?_)))
  repeat walk_at "dx"
  show if isiD "int" x = true then _ else _
  rw [numD_eq]
  cases hx : isiD "int" x with
  | false => rw [if_neg (by decide)]; rfl
  | true =>
    rw [if_pos rfl]
    refine we_one (we_not (we_isi "bool" kit_bool hK rfl mi rfl mb rfl (by decide) rfl (fun _ => rfl) ?_))
    repeat walk_at "dx"
    rfl
end

abbrev nBel : List Str := ["value", "bound"]
theorem scBel : FnScope nBel ["value", "bound"] (defScope (topS 5)) := ⟨rfl, rfl, rfl, by decide +kernel, rfl, by decide +kernel, by decide +kernel⟩
def RbelA : Rel := fun ds d => ∃ (x : PyData) (b : Int), ds = [x, .int b] ∧ d = .bool (belD b x)
section
variable {P : Program} {w : World} {K : PySem.W.Frag} {mg : Str → Option Value} {base : Heap}
theorem ok_belA {f : Addr} {fd : FuncData} (Fn : Fun K "is_below" "is_below" (topS 5) f fd) (gn : PFn P w K mg base 1 "is_number" RnumA) : FnG P w K mg base 2 f fd ["value", "bound"] (spPure K RbelA) := by
  refine pure_ok (k := 1) Fn scBel (fun ds d ⟨x, b, e, _⟩ => by rw [e]; rfl) (fun F ds d hK ⟨x, b, e, ed⟩ => ?_)
  subst e ed
  refine wb_cons (ws_ret (we_and ?_))
  repeat walk_at "dx"
  refine ⟨_, ⟨x, rfl, rfl⟩, _, rfl, ?_⟩
  cases hx : numD x with
  | false =>
    rw [if_neg (by decide)]
    show PyData.bool false = PyData.bool (belD b x)
    cases x <;> first | rfl | cases hx
  | true =>
    obtain ⟨i, rfl⟩ := num_int hx
    rw [if_pos rfl]
    refine we_one (we_leLt rfl ?_)
    repeat walk_at "dx"
    by_cases h0 : 0 ≤ i
    · rw [if_pos h0]
      repeat walk_at "dx"
      show PyData.bool _ = PyData.bool (decide (0 ≤ i) && decide (i < b))
      rw [decide_eq_true h0]; rfl
    · rw [if_neg h0]
      show PyData.bool _ = PyData.bool (decide (0 ≤ i) && decide (i < b))
      rw [decide_eq_false h0]; rfl
end

abbrev nPr : List Str := ["value"]
theorem scPr : FnScope nPr ["value"] (defScope (topS 7)) := ⟨rfl, rfl, rfl, by decide +kernel, rfl, by decide +kernel, by decide +kernel⟩
def RprA : Rel := fun ds d => ∃ x : PyData, ds = [x] ∧ d = .bool (pairD x)
section
variable {P : Program} {w : World} {K : PySem.W.Frag} {mg : Str → Option Value} {base : Heap}
theorem ok_prA {f : Addr} {fd : FuncData} (Fn : Fun K "is_pair" "is_pair" (topS 7) f fd) (mi : mg "isinstance" = none) (mt : mg "tuple" = none) (ml : mg "len" = none) : FnG P w K mg base 1 f fd ["value"] (spPure K RprA) := by
  refine pure_ok (k := 0) Fn scPr (fun ds d ⟨x, e, _⟩ => by rw [e]; rfl) (fun F ds d hK ⟨x, e, ed⟩ => ?_)
  subst e ed
  refine wb_cons (ws_ret (we_and (we_isi "tuple" kit_tuple hK rfl mi rfl mt rfl (by decide) rfl (fun _ => rfl) ?_)))
  repeat walk_at "dx"
  show if isiD "tuple" x = true then _ else _
  rw [isTup_eq]
  cases hx : isTup x with
  | false =>
    rw [if_neg (by decide)]
    show PyData.bool false = PyData.bool (pairD x)
    cases x <;> first | rfl | cases hx
  | true =>
    obtain ⟨ds, rfl⟩ := tup_some hx
    rw [if_pos rfl]
    refine we_one (we_eqI ?_)
    repeat walk_at "dx"
    show PyData.bool _ = PyData.bool (decide (ds.length = 2))
    congr 1
    exact decide_eq_decide.mpr (by omega)
end

abbrev nIca : List Str := ["n", "value"]
theorem scIca : FnScope nIca ["n", "value"] (defScope (topS 8)) := ⟨rfl, rfl, rfl, by decide +kernel, rfl, by decide +kernel, by decide +kernel⟩
def RicA : Rel := fun ds d => ∃ (n : Int) (x : PyData), ds = [.int n, x] ∧ 0 ≤ n ∧ n ≤ 1000 ∧ d = .bool (belD (2 ^ n.toNat) x)
section
variable {P : Program} {w : World} {K : PySem.W.Frag} {mg : Str → Option Value} {base : Heap}
theorem ok_icA {f : Addr} {fd : FuncData} (Fn : Fun K "is_card" "is_card" (topS 8) f fd) (gb : PFn P w K mg base 2 "is_below" RbelA) : FnG P w K mg base 3 f fd ["n", "value"] (spPure K RicA) := by
  refine pure_ok (k := 2) Fn scIca (fun ds d ⟨n, x, e, _⟩ => by rw [e]; rfl) (fun F ds d hK ⟨n, x, e, h0, h1, ed⟩ => ?_)
  subst e ed
  refine wb_cons (ws_ret ?_)
  repeat walk_at "dx"
  refine ⟨⟨h0, by omega, by decide⟩, ?_⟩
  repeat walk_at "dx"
  rw [Int.one_mul]
  exact ⟨_, ⟨x, _, rfl, rfl⟩, rfl⟩
end

abbrev nCer : List Str := ["n", "cards", "index", "card"]
theorem scCer : FnScope nCer ["n", "cards"] (defScope (topS 10)) := ⟨rfl, rfl, rfl, by decide +kernel, rfl, by decide +kernel, by decide +kernel⟩
def RcerA : Rel := fun ds d => ∃ (n : Int) (cs : List PyData), ds = [.int n, .tuple cs] ∧ 0 ≤ n ∧ n ≤ 1000 ∧ d = cerr (2 ^ n.toNat) none 0 cs
section
variable {P : Program} {w : World} {K : PySem.W.Frag} {mg : Str → Option Value} {base : Heap}
theorem ok_cerA {f : Addr} {fd : FuncData} (Fn : Fun K "cards_error" "cards_error" (topS 10) f fd) (me : mg "enumerate" = none) (gc : PFn P w K mg base 3 "is_card" RicA) : FnG P w K mg base 4 f fd ["n", "cards"] (spPure K RcerA) := by
  refine pure_ok (k := 3) Fn scCer (fun ds d ⟨n, cs, e, _⟩ => by rw [e]; rfl) (fun F ds d hK ⟨n, cs, e, h0, h1, ed⟩ => ?_)
  subst e ed
  refine wb_cons (ws_for_et 2 3 (by walk_at "tgt") (by walk_at "tgt") hK rfl me (fun _ => rfl) (fun _ _ => rfl) ?_)
  repeat walk_at "dx"
  refine ⟨fun j k' ρ' => CInv (2 ^ n.toNat) cs j ∧ ∃ x2 x3, ρ' = [.d (.int n), .d (.tuple cs), x2, x3], cs, rfl, ⟨cinv_zero _ _, _, _, rfl⟩, ?_, ?_⟩
  · rintro j y k' ρ' hy ⟨hinv, x2, x3, rfl⟩
    obtain ⟨s1, s2⟩ := cinv_step hinv hy
    show WPB F _ _ [.d (.int n), .d (.tuple cs), .d (.int (j : Int)), .d y] _ _
    refine wb_cons (ws_if (wt_not (wt_val (fun _ _ => rfl) ?_)))
    repeat walk_at "dx"
    refine ⟨_, ⟨n, y, rfl, h0, h1, rfl⟩, _, rfl, ?_⟩
    cases hb : belD (2 ^ n.toNat) y with
    | false =>
      refine itP rfl ?_
      repeat walk_at "dx"
      rw [s1 hb]; rfl
    | true =>
      obtain ⟨v, rfl, v0, v1⟩ := bel_int hb
      obtain ⟨t1, t2⟩ := s2 v rfl hb
      refine itN rfl (wb_nil (wb_cons (ws_if (wt_bool (ww_and ?_)))))
      repeat walk_at "dx"
      cases j with
      | zero =>
        refine itN (decide_eq_false (by omega)) (itN rfl ?_)
        repeat walk_at "dx"
        exact ⟨t2 fun q hq => (by cases hq), _, _, rfl⟩
      | succ i =>
        refine itP (decide_eq_true (by omega)) ?_
        obtain ⟨q, hq⟩ := hinv.2 i rfl
        refine ww_and1 (wt_le ?_)
        repeat walk_at "dx"
        refine ⟨.int q, ?_, ?_⟩
        · have := atI_nat (xs := cs) (j := i) hq
          rw [show ((i + 1 : Nat) : Int) - 1 = (i : Int) by omega]
          exact this
        · repeat walk_at "dx"
          have hp : prevI cs (i + 1) = some q := by rw [prevI, hq]
          by_cases hle : v ≤ q
          · refine itP (decide_eq_true hle) ?_
            repeat walk_at "dx"
            rw [t1 q hp hle]; rfl
          · refine itN (decide_eq_false hle) ?_
            repeat walk_at "dx"
            exact ⟨t2 fun r hr => (by rw [hp] at hr; cases hr; exact hle), _, _, rfl⟩
  · rintro k' ρ' ⟨hinv, x2, x3, rfl⟩
    rw [cinv_end hinv]
    repeat walk_at "dx"
    rfl
end

abbrev nBer : List Str := ["value", "n", "cards"]
theorem scBer : FnScope nBer ["value"] (defScope (topS 9)) := ⟨rfl, rfl, rfl, by decide +kernel, rfl, by decide +kernel, by decide +kernel⟩
def RberA : Rel := fun ds d => ∃ x : PyData, ds = [x] ∧ d = berr x
theorem berr_nopair {x : PyData} (h : pairD x = false) : berr x = errP .none "tuple" := by
  cases x with
  | tuple ds =>
    match ds, h with
    | [], _ => rfl
    | [_], _ => rfl
    | [_, _], h => exact nomatch h
    | _ :: _ :: _ :: _, _ => rfl
  | _ => rfl
section
variable {P : Program} {w : World} {K : PySem.W.Frag} {mg : Str → Option Value} {base : Heap}
theorem ok_berA {f : Addr} {fd : FuncData} {tk : Tok} (Fn : Fun K "box_error" "box_error" (topS 9) f fd) (mi : mg "isinstance" = none) (mt : mg "tuple" = none) (vm : mg "MAX_SWITCHES" = some (.int 6 tk)) (gp : PFn P w K mg base 1 "is_pair" RprA) (gb : PFn P w K mg base 2 "is_below" RbelA) (gc : PFn P w K mg base 4 "cards_error" RcerA) : FnG P w K mg base 5 f fd ["value"] (spPure K RberA) := by
  refine pure_ok (k := 4) Fn scBer (fun ds d ⟨x, e, _⟩ => by rw [e]; rfl) (fun F ds d hK ⟨x, e, ed⟩ => ?_)
  subst e ed
  refine wb_cons (ws_if (wt_not (wt_val (fun _ _ => rfl) ?_)))
  repeat walk_at "dx"
  refine ⟨_, ⟨x, rfl, rfl⟩, _, rfl, ?_⟩
  cases hp : pairD x with
  | false =>
    refine itP rfl ?_
    repeat walk_at "dx"
    rw [berr_nopair hp]; rfl
  | true =>
    obtain ⟨a, b, rfl⟩ := pair_some hp
    refine itN rfl ?_
    refine wb_nil (wb_cons (ws_asg2 1 2 (by decide) (by walk_at "tgt") (by walk_at "tgt") hK (fun _ => rfl) (fun _ => rfl) ?_))
    repeat walk_at "dx"
    refine ⟨_, _, rfl, ?_⟩
    refine wb_cons (ws_if (wt_not (wt_val (fun _ _ => rfl) ?_)))
    repeat walk_at "dx"
    refine we_gint rfl vm ?_
    repeat walk_at "dx"
    refine ⟨_, ⟨a, 7, rfl, rfl⟩, _, rfl, ?_⟩
    rw [berr_two]
    cases hb : belD 7 a with
    | false =>
      rw [if_neg (show ¬ (false = true) by decide)]
      refine itP rfl ?_
      repeat walk_at "dx"
      rfl
    | true =>
      obtain ⟨n, rfl, n0, n1⟩ := bel_int hb
      rw [if_pos (show true = true from rfl)]
      refine itN rfl (wb_nil (wb_cons (ws_if (wt_not (wt_val (fun _ _ => rfl) (we_isi "tuple" kit_tuple hK rfl mi rfl mt rfl (by decide) rfl (fun _ => rfl) ?_))))))
      repeat walk_at "dx"
      show if (!isiD "tuple" b) = true then _ else _
      rw [isTup_eq]
      cases ht : isTup b with
      | false =>
        refine itP rfl ?_
        repeat walk_at "dx"
        cases b <;> first | rfl | cases ht
      | true =>
        obtain ⟨cs, rfl⟩ := tup_some ht
        refine itN rfl ?_
        repeat walk_at "dx"
        exact ⟨_, ⟨n, cs, rfl, n0, by omega, rfl⟩, rfl⟩
end

def isOne (xs : List Int) : PyData → Bool
  | .int v => decide (v ∈ xs)
  | _ => false

abbrev nOof : List Str := ["numbers", "value"]
theorem scOof : FnScope nOof ["numbers", "value"] (defScope (topS 6)) := ⟨rfl, rfl, rfl, by decide +kernel, rfl, by decide +kernel, by decide +kernel⟩
def RoofA : Rel := fun ds d => ∃ (y : PyData) (xs : List Int) (x : PyData), ds = [y, x] ∧ seqD y = some (xs.map PyData.int) ∧ d = .bool (isOne xs x)
section
variable {P : Program} {w : World} {K : PySem.W.Frag} {mg : Str → Option Value} {base : Heap}
theorem ok_oofA {f : Addr} {fd : FuncData} (Fn : Fun K "is_one_of" "is_one_of" (topS 6) f fd) (gn : PFn P w K mg base 1 "is_number" RnumA) : FnG P w K mg base 2 f fd ["numbers", "value"] (spPure K RoofA) := by
  refine pure_ok (k := 1) Fn scOof (fun ds d ⟨y, xs, x, e, _⟩ => by rw [e]; rfl) (fun F ds d hK ⟨y, xs, x, e, hy, ed⟩ => ?_)
  subst e ed
  refine wb_cons (ws_ret (we_and ?_))
  repeat walk_at "dx"
  refine ⟨_, ⟨x, rfl, rfl⟩, _, rfl, ?_⟩
  cases hx : numD x with
  | false =>
    refine itN rfl ?_
    show PyData.bool false = PyData.bool (isOne xs x)
    cases x <;> first | rfl | cases hx
  | true =>
    obtain ⟨v, rfl⟩ := num_int hx
    refine itP rfl (we_one (we_inI hK rfl ?_))
    repeat walk_at "dx"
    exact ⟨v, xs, rfl, hy, rfl⟩
end

/-! ### decks -/
def mS (i j : Nat) : Stmt := match topS i with
  | .ClassDef _ _ _ body _ _ _ _ _ _ _ => body.getD j (.Pass ⟨0, 0, 0, 0⟩)
  | s => s
/-- a box and one more card; one less -/
def addL (n : Nat) (cs : List Int) (c : Int) : List Int := (rg (2 ^ n)).filter fun x => decide (x ∈ cs) || decide (x = c)
def remL (cs : List Int) (c : Int) : List Int := cs.filter fun x => !decide (x = c)
theorem addL_box (n : Nat) (cs : List Int) (c : Int) : IsBox n (addL n cs c) := ⟨rg_pairwise.filter _, fun x hx => mem_rg.mp (List.mem_filter.mp hx).1⟩
theorem remL_box {n : Nat} {cs : List Int} (hb : IsBox n cs) (c : Int) : IsBox n (remL cs c) := ⟨hb.asc.filter _, fun x hx => hb.rng x (List.mem_filter.mp hx).1⟩
theorem mem_addL {n : Nat} {cs : List Int} (hb : IsBox n cs) {c : Int} (h0 : 0 ≤ c) (h1 : c < 2 ^ n) (x : Int) : x ∈ addL n cs c ↔ x ∈ cs ∨ x = c := by
  unfold addL
  rw [List.mem_filter, mem_rg, Bool.or_eq_true, decide_eq_true_eq, decide_eq_true_eq]
  constructor
  · exact fun h => h.2
  · rintro (h | rfl)
    · exact ⟨hb.rng x h, .inl h⟩
    · exact ⟨⟨h0, h1⟩, .inr rfl⟩
theorem addL_sorted {n : Nat} {cs ms : List Int} (hb : IsBox n cs) {c : Int} (h0 : 0 ≤ c) (h1 : c < 2 ^ n) (hc : c ∉ cs) (hp : ms.Perm (cs ++ [c])) (hw : ms.Pairwise (· ≤ ·)) : ms = addL n cs c := by
  have nd : (cs ++ [c]).Nodup := by
    rw [List.nodup_append]
    refine ⟨hb.asc.imp fun h => Int.ne_of_lt h, by simp, fun a ha b hb' => ?_⟩
    rw [List.mem_singleton] at hb'
    subst hb'
    exact fun z => hc (z ▸ ha)
  have nd2 : ms.Nodup := hp.nodup_iff.mpr nd
  have st : ms.Pairwise (· < ·) := by
    have := hw.and nd2
    exact this.imp fun ⟨a, b⟩ => by omega
  refine uniqI st (addL_box n cs c).asc fun a => ?_
  rw [mem_addL hb h0 h1, hp.mem_iff, List.mem_append, List.mem_singleton]
/-- the box at the end -/
structure DkS (g : Pg) (n : Nat) (cs : List Int) : Prop where
  last : g.1.getLast? = some (n, cs)
  hn : n ≤ 6
  hb : IsBox n cs
  l1 : g.1.length ≤ 900
  l2 : g.2.length ≤ 900
theorem DkS.ne {g : Pg} {n : Nat} {cs : List Int} (h : DkS g n cs) : g.1 ≠ [] := fun z => by have := h.last; rw [z] at this; cases this
def dkPut (g : Pg) (b : Nat × List Int) (e : Nat × Int) : Pg := (g.1 ++ [b], g.2 ++ [e])
theorem DkS.put {g : Pg} {n : Nat} {cs : List Int} (h : DkS g n cs) (h3 : g.1.length < 900) (h4 : g.2.length < 900) {m : Nat} {ms : List Int} (hm : m ≤ 6) (hb : IsBox m ms) (e : Nat × Int) : DkS (dkPut g (m, ms) e) m ms where
  last := by show (g.1 ++ [(m, ms)]).getLast? = _; rw [List.getLast?_append]; rfl
  hn := hm
  hb := hb
  l1 := by show (g.1 ++ [_]).length ≤ _; rw [List.length_append]; show g.1.length + 1 ≤ _; omega
  l2 := by show (g.2 ++ [_]).length ≤ _; rw [List.length_append]; show g.2.length + 1 ≤ _; omega

abbrev nMb : List Str := ["self", "version"]
theorem scMb : FnScope nMb ["self", "version"] (defScope (mS 54 11)) := ⟨rfl, rfl, rfl, by decide +kernel, rfl, by decide +kernel, by decide +kernel⟩
def PmBox : Pg → List PyData → Prop := fun g ds => ds = [.none] ∧ g.1 ≠ []
def RmBox : Pg → List PyData → Pg → PyData → Prop := fun g _ g' d => g' = g ∧ ∃ b, g.1.getLast? = some b ∧ d = boxP b
section
variable {P : Program} {w : World} {K : PySem.W.Frag} {mg : Str → Option Value} {base : Heap} {C : Addr}
theorem ok_mbox {f : Addr} {fd : FuncData} (pc : PiC K C) (Fn : Fun K "box" "Deck.box" (mS 54 11) f fd) : FnG P w K mg base 1 f fd ["self", "version"] (spPi K C PmBox RmBox) := by
  refine pi_ok (k := 0) Fn scMb (fun g ds ⟨e, _⟩ => by rw [e]; rfl) (fun F a dx ds g pi hK ⟨e, hne⟩ => ?_)
  subst e
  obtain ⟨b, hb⟩ : ∃ b, g.1.getLast? = some b := ⟨_, List.getLast?_eq_some_getLast hne⟩
  refine wb_cons (ws_if (wt_isN ?_))
  walk_at "name"
  refine itP rfl (wb_cons (ws_ret (we_pix pc pi hK 0 rfl (.inl rfl) rfl (fun _ _ => rfl) (wn_neg (wn_int ⟨1, rfl, -1, b, rfl, atI_last hb, ?_⟩)))))
  exact ⟨g, rfl, rfl, b, hb, rfl⟩
end

abbrev nMc : List Str := ["self"]
theorem scMc : FnScope nMc ["self"] (defScope (mS 54 5)) := ⟨rfl, rfl, rfl, by decide +kernel, rfl, by decide +kernel, by decide +kernel⟩
def PmRoom : Pg → List PyData → Prop := fun g ds => ds = [] ∧ g.2.length < 60
def RmRoom : Pg → List PyData → Pg → PyData → Prop := fun g _ g' d => g' = g ∧ d = .none
section
variable {P : Program} {w : World} {K : PySem.W.Frag} {mg : Str → Option Value} {base : Heap} {C : Addr}
theorem ok_mroom {f : Addr} {fd : FuncData} {tk : Tok} (pc : PiC K C) (Fn : Fun K "check_room" "Deck.check_room" (mS 54 5) f fd) (ml : mg "len" = none) (vm : mg "MAX_EDITS" = some (.int 60 tk)) : FnG P w K mg base 1 f fd ["self"] (spPi K C PmRoom RmRoom) := by
  refine pi_ok (k := 0) Fn scMc (fun g ds ⟨e, _⟩ => by rw [e]; rfl) (fun F a dx ds g pi hK ⟨e, hl⟩ => ?_)
  subst e
  refine wb_cons (ws_if (wt_ge ?_))
  refine we_plenD pc pi 0 rfl (.inl rfl) rfl rfl ml ?_
  refine we_gint rfl vm ?_
  refine ⟨_, _, rfl, rfl, ?_⟩
  refine itN (decide_eq_false (by omega)) (wb_nil (wb_nil ?_))
  exact ⟨g, rfl, rfl, rfl⟩
end

abbrev nMs : List Str := ["self", "word", "value", "after"]
theorem scMs : FnScope nMs ["self", "word", "value", "after"] (defScope (mS 54 6)) := ⟨rfl, rfl, rfl, by decide +kernel, rfl, by decide +kernel, by decide +kernel⟩
theorem wordS_inj : ∀ {a b : Nat}, a < 4 → b < 4 → wordS a = wordS b → a = b := by
  intro a b ha hb h
  have key : ∀ a : Fin 4, ∀ b : Fin 4, wordS a.1 = wordS b.1 → a = b := by decide +kernel
  exact congrArg Fin.val (key ⟨a, ha⟩ ⟨b, hb⟩ h)
section
variable {P : Program} {w : World} {K : PySem.W.Frag} {mg : Str → Option Value} {base : Heap} {C : Addr}
theorem ok_mstand {f : Addr} {fd : FuncData} (pc : PiC K C) (Fn : Fun K "stand" "Deck.stand" (mS 54 6) f fd) (ml : mg "len" = none) : FnG P w K mg base 1 f fd ["self", "word", "value", "after"] (spPi K C (fun g ds => ∃ (e : Nat × Int) (b : Nat × List Int), e.1 < 4 ∧ ds = [.str (wordS e.1), .int e.2, boxP b] ∧ g.1.length < 1000 ∧ g.2.length < 1000) (fun g ds g' d => ∃ (e : Nat × Int) (b : Nat × List Int), e.1 < 4 ∧ ds = [.str (wordS e.1), .int e.2, boxP b] ∧ g' = dkPut g b e ∧ d = .int ((g.2.length + 1 : Nat) : Int))) := by
  refine pi_ok (k := 0) Fn scMs (fun g ds ⟨e, b, _, h, _⟩ => by rw [h]; rfl) (fun F a dx ds g pi hK ⟨e, b, he, h, h1, h2⟩ => ?_)
  subst h
  refine wb_cons (ws_pappS pc pi hK 0 rfl (.inl rfl) rfl h1 (wn_name 3 rfl (.inl rfl) rfl ⟨b, rfl, ?_⟩))
  refine wb_cons (ws_pappD pc pi hK 0 rfl (.inl rfl) rfl h2 (wn_tup2 (wn_name 1 rfl (.inl rfl) rfl (wn_name 2 rfl (.inl rfl) rfl ⟨e, rfl, ?_⟩))))
  refine wb_cons (ws_ret (we_plenD pc pi 0 rfl (.inl rfl) rfl rfl ml ?_))
  exact ⟨_, rfl, e, b, he, rfl, rfl, by show PyData.int (((g.2 ++ [e]).length : Nat) : Int) = _; rw [List.length_append]; rfl⟩
end

abbrev nMe : List Str := ["self"]
def Pm0 : Pg → List PyData → Prop := fun _ ds => ds = []
def RmEds : Pg → List PyData → Pg → PyData → Prop := fun g _ g' d => g' = g ∧ d = .tuple (g.2.map edP)
section
variable {P : Program} {w : World} {K : PySem.W.Frag} {mg : Str → Option Value} {base : Heap} {C : Addr}
end

abbrev nMl : List Str := ["self"]
theorem scMl : FnScope nMl ["self"] (defScope (mS 54 17)) := ⟨rfl, rfl, rfl, by decide +kernel, rfl, by decide +kernel, by decide +kernel⟩
def RmLen : Pg → List PyData → Pg → PyData → Prop := fun g _ g' d => g' = g ∧ d = .int (g.2.length : Nat)
section
variable {P : Program} {w : World} {K : PySem.W.Frag} {mg : Str → Option Value} {base : Heap} {C : Addr}
theorem ok_mlen {f : Addr} {fd : FuncData} (pc : PiC K C) (Fn : Fun K "__len__" "Deck.__len__" (mS 54 17) f fd) (ml : mg "len" = none) : FnG P w K mg base 1 f fd ["self"] (spPi K C Pm0 RmLen) := by
  refine pi_ok (k := 0) Fn scMl (fun g ds e => by rw [show ds = [] from e]; rfl) (fun F a dx ds g pi hK e => ?_)
  have e : ds = [] := e
  subst e
  exact wb_cons (ws_ret (we_plenD pc pi 0 rfl (.inl rfl) rfl rfl ml ⟨g, rfl, rfl, rfl⟩))
end

abbrev nMt : List Str := ["self"]
def strI (i : Int) : Str := (toString i : String)
def deckT (n m l : Int) : Str := ((((((Str.empty ++ strI n) ++ " switches, ") ++ strI m) ++ " cards, ") ++ strI l) ++ " edits")
def PmStr : Pg → List PyData → Prop := fun g ds => ds = [] ∧ ∃ n cs, DkS g n cs
def RmStr : Pg → List PyData → Pg → PyData → Prop := fun g _ g' d => g' = g ∧ ∃ n cs, g.1.getLast? = some (n, cs) ∧ d = .str (deckT (n : Int) (cs.length : Nat) (g.2.length : Nat))
section
variable {P : Program} {w : World} {K : PySem.W.Frag} {mg : Str → Option Value} {base : Heap} {C : Addr}
end

abbrev nMi : List Str := ["self", "box", "error"]
theorem scMi : FnScope nMi ["self", "box"] (defScope (mS 54 0)) := ⟨rfl, rfl, rfl, by decide +kernel, rfl, by decide +kernel, by decide +kernel⟩
def OkB : Nat × List Int → Prop := fun d => d.1 ≤ 6 ∧ IsBox d.1 d.2
theorem cerr_box (b : Int) : ∀ (cs : List Int) (p : Option Int) (i : Nat), (∀ c ∈ cs, 0 ≤ c ∧ c < b) → cs.Pairwise (· < ·) → (∀ q, p = some q → ∀ c ∈ cs, q < c) → cerr b p i (cs.map PyData.int) = .none
  | [], p, i, _, _, _ => by cases p <;> rfl
  | c :: cs, p, i, h1, h2, h3 => by
    have hc := h1 c List.mem_cons_self
    rw [List.map_cons, cerr_cons, if_pos (by show (decide (0 ≤ c) && decide (c < b)) = true; rw [decide_eq_true hc.1, decide_eq_true hc.2]; rfl)]
    have key : (match (generalizing := false) p with | some q => decide (c ≤ q) | none => false) = false := by
      cases p with
      | none => rfl
      | some q =>
        have := h3 q rfl c List.mem_cons_self
        exact decide_eq_false (by omega)
    have e1 : ∀ (bb : Bool) (x y : PyData), bb = false → (if bb = true then x else y) = y := fun bb x y z => by rw [z]; rfl
    refine Eq.trans (e1 _ _ _ key) ?_
    exact cerr_box b cs (some c) (i + 1) (fun x hx => h1 x (List.mem_cons_of_mem _ hx)) (List.pairwise_cons.mp h2).2 fun q hq x hx => by cases hq; exact (List.pairwise_cons.mp h2).1 x hx
theorem berr_box {n : Nat} {cs : List Int} (hn : n ≤ 6) (hb : IsBox n cs) : berr (boxD n cs) = .none := by
  show berr (.tuple [.int (n : Int), .tuple (cs.map PyData.int)]) = .none
  rw [berr_two, if_pos (by show (decide (0 ≤ (n : Int)) && decide ((n : Int) < 7)) = true; rw [decide_eq_true (by omega), decide_eq_true (by omega)]; rfl)]
  show cerr (2 ^ ((n : Int)).toNat) none 0 (cs.map PyData.int) = .none
  rw [Int.toNat_natCast]
  exact cerr_box _ cs none 0 (fun c hc => hb.rng c hc) hb.asc fun q hq => nomatch hq
section
variable {P : Program} {w : World} {K : PySem.W.Frag} {mg : Str → Option Value} {base : Heap} {C : Addr}
theorem ok_minit {f : Addr} {fd : FuncData} (pc : PiC K C) (Fn : Fun K "__init__" "Deck.__init__" (mS 54 0) f fd) (gb : PFn P w K mg base 5 "box_error" RberA) : FnG P w K mg base 6 f fd ["self", "box"] (spInit K C OkB) := by
  refine init_ok (k := 5) Fn scMi (fun F a dx d ini hK ok => ?_)
  refine wb_cons (ws_set 2 (by walk_at "tgt") (fun _ _ => rfl) ?_)
  repeat walk_at "dl"
  refine ⟨_, ⟨_, rfl, rfl⟩, ?_⟩
  rw [show boxP d = boxD d.1 d.2 from rfl, berr_box ok.1 ok.2]
  refine wb_cons (ws_if (wt_notN ?_))
  walk_at "name"
  refine itN rfl (wb_nil ?_)
  exact wb_initEnd pc ini hK 0 1 rfl (.inl rfl) rfl rfl (.inl rfl) rfl (fun _ => rfl) (fun _ => rfl) rfl
end

abbrev nWc : List Str := ["box", "card", "n", "cards"]
theorem scWc : FnScope nWc ["box", "card"] (defScope (topS 48)) := ⟨rfl, rfl, rfl, by decide +kernel, rfl, by decide +kernel, by decide +kernel⟩
def Rwc : Rel := fun ds d => ∃ (n : Nat) (cs : List Int) (c : Int), ds = [boxD n cs, .int c] ∧ n ≤ 6 ∧ IsBox n cs ∧ (0 ≤ c ∧ c < 2 ^ n) ∧ c ∉ cs ∧ d = boxD n (addL n cs c)
section
variable {P : Program} {w : World} {K : PySem.W.Frag} {mg : Str → Option Value} {base : Heap}
theorem ok_wc {f : Addr} {fd : FuncData} (Fn : Fun K "with_card" "with_card" (topS 48) f fd) (mt : mg "tuple" = none) (ms : mg "sorted" = none) : FnG P w K mg base 1 f fd ["box", "card"] (spPure K Rwc) := by
  refine pure_ok (k := 0) Fn scWc (fun ds d ⟨n, cs, c, e, _⟩ => by rw [e]; rfl) (fun F ds d hK ⟨n, cs, c, e, hn, hb, hc, hnc, ed⟩ => ?_)
  subst e ed
  have hcl := box_len hn hb
  refine wb_cons (ws_asg2 2 3 (by decide) (by walk_at "tgt") (by walk_at "tgt") hK (fun _ => rfl) (fun _ => rfl) ?_)
  walk_at "name"
  refine ⟨_, _, rfl, ?_⟩
  refine wb_cons (ws_ret (we_tup (wa_cons (fun _ => rfl) ?_)))
  walk_at "name"
  refine wa_cons (fun _ => rfl) (we_tuple hK rfl mt (fun _ => rfl) ?_)
  refine we_sorted hK rfl ms (fun _ => rfl) ?_
  refine we_lst (wa_star hK (fun _ => rfl) ?_)
  walk_at "name"
  refine ⟨_, rfl, wa_cons (fun _ => rfl) ?_⟩
  walk_at "name"
  refine wa_nil ⟨Nat.le_trans (show (cs.map PyData.int ++ [PyData.int c]).length ≤ 1000 by rw [List.length_append, List.length_map]; show cs.length + 1 ≤ 1000; omega) (by decide), cs ++ [c], by rw [List.map_append]; rfl, fun ms' hp hw => ?_⟩
  refine ⟨_, rfl, wa_nil (tl2 ?_)⟩
  rw [addL_sorted hb hc.1 hc.2 hnc hp hw]
  rfl
end

abbrev nWo : List Str := ["box", "card", "n", "cards", "other"]
theorem scWo : FnScope nWo ["box", "card"] (defScope (topS 49)) := ⟨rfl, rfl, rfl, by decide +kernel, rfl, by decide +kernel, by decide +kernel⟩
def Rwo : Rel := fun ds d => ∃ (n : Nat) (cs : List Int) (c : Int), ds = [boxD n cs, .int c] ∧ n ≤ 6 ∧ IsBox n cs ∧ d = boxD n (remL cs c)
section
variable {P : Program} {w : World} {K : PySem.W.Frag} {mg : Str → Option Value} {base : Heap}
theorem ok_wo {f : Addr} {fd : FuncData} (Fn : Fun K "without_card" "without_card" (topS 49) f fd) (mt : mg "tuple" = none) : FnG P w K mg base 1 f fd ["box", "card"] (spPure K Rwo) := by
  refine pure_ok (k := 0) Fn scWo (fun ds d ⟨n, cs, c, e, _⟩ => by rw [e]; rfl) (fun F ds d hK ⟨n, cs, c, e, hn, hb, ed⟩ => ?_)
  subst e ed
  have hcl := box_len hn hb
  refine wb_cons (ws_asg2 2 3 (by decide) (by walk_at "tgt") (by walk_at "tgt") hK (fun _ => rfl) (fun _ => rfl) ?_)
  walk_at "name"
  refine ⟨_, _, rfl, ?_⟩
  refine wb_cons (ws_ret (we_tup (wa_cons (fun _ => rfl) ?_)))
  walk_at "name"
  refine wa_cons (fun _ => rfl) (we_tuple hK rfl mt (fun _ => rfl) (we_fT (fun x => !decide (x = c)) PyData.int PyData.int 4 (by walk_at "blk") hK (fun _ _ => rfl) ?_))
  walk_at "name"
  refine ⟨cs, rfl, by omega, fun D x hx => ?_, ?_⟩
  · refine wt_neI ?_
    repeat walk_at "dx"
    refine ⟨rfl, rfl, fun _ => ?_⟩
    repeat walk_at "dx"
    exact ⟨rfl, rfl⟩
  exact ⟨_, rfl, wa_nil (tl2 rfl)⟩
end

abbrev nCn : List Str := ["box", "value", "n", "cards"]
theorem scCn : FnScope nCn ["box", "value"] (defScope (topS 50)) := ⟨rfl, rfl, rfl, by decide +kernel, rfl, by decide +kernel, by decide +kernel⟩
def Rcn : Rel := fun ds d => ∃ (n : Nat) (cs : List Int) (c : Int), ds = [boxD n cs, .int c] ∧ n ≤ 6 ∧ (0 ≤ c ∧ c < 2 ^ n) ∧ c ∉ cs ∧ d = .none
section
variable {P : Program} {w : World} {K : PySem.W.Frag} {mg : Str → Option Value} {base : Heap}
theorem ok_cnc {f : Addr} {fd : FuncData} (Fn : Fun K "check_new_card" "check_new_card" (topS 50) f fd) (gc : PFn P w K mg base 3 "is_card" RicA) : FnG P w K mg base 4 f fd ["box", "value"] (spPure K Rcn) := by
  refine pure_ok (k := 3) Fn scCn (fun ds d ⟨n, cs, c, e, _⟩ => by rw [e]; rfl) (fun F ds d hK ⟨n, cs, c, e, hn, hc, hnc, ed⟩ => ?_)
  subst e ed
  refine wb_cons (ws_asg2 2 3 (by decide) (by walk_at "tgt") (by walk_at "tgt") hK (fun _ => rfl) (fun _ => rfl) ?_)
  walk_at "name"
  refine ⟨_, _, rfl, ?_⟩
  refine wb_cons (ws_if (wt_not (wt_val (fun _ _ => rfl) ?_)))
  repeat walk_at "dx"
  refine ⟨_, ⟨_, _, rfl, by omega, by omega, rfl⟩, _, rfl, ?_⟩
  have hb : belD (2 ^ ((n : Int)).toNat) (.int c) = true := by
    rw [Int.toNat_natCast]
    show (decide (0 ≤ c) && decide (c < 2 ^ n)) = true
    rw [decide_eq_true hc.1, decide_eq_true hc.2]; rfl
  rw [hb]
  refine itN rfl (wb_nil (wb_cons (ws_if (wt_inI hK rfl ?_))))
  repeat walk_at "dx"
  refine ⟨c, cs, rfl, rfl, ?_⟩
  refine itN (decide_eq_false hnc) (wb_nil (wb_nil ?_))
  rfl
end

abbrev nCo : List Str := ["box", "value"]
theorem scCo : FnScope nCo ["box", "value"] (defScope (topS 51)) := ⟨rfl, rfl, rfl, by decide +kernel, rfl, by decide +kernel, by decide +kernel⟩
def Rco : Rel := fun ds d => ∃ (n : Nat) (cs : List Int) (c : Int), ds = [boxD n cs, .int c] ∧ c ∈ cs ∧ d = .none
section
variable {P : Program} {w : World} {K : PySem.W.Frag} {mg : Str → Option Value} {base : Heap}
theorem ok_coc {f : Addr} {fd : FuncData} (Fn : Fun K "check_old_card" "check_old_card" (topS 51) f fd) (go : PFn P w K mg base 2 "is_one_of" RoofA) : FnG P w K mg base 3 f fd ["box", "value"] (spPure K Rco) := by
  refine pure_ok (k := 2) Fn scCo (fun ds d ⟨n, cs, c, e, _⟩ => by rw [e]; rfl) (fun F ds d hK ⟨n, cs, c, e, hc, ed⟩ => ?_)
  subst e ed
  refine wb_cons (ws_if (wt_not (wt_val (fun _ _ => rfl) ?_)))
  repeat walk_at "dx"
  refine ⟨.tuple (cs.map PyData.int), rfl, ?_⟩
  repeat walk_at "dx"
  refine ⟨_, ⟨_, cs, .int c, rfl, rfl, rfl⟩, _, rfl, ?_⟩
  refine itN (by show (!decide (c ∈ cs)) = false; rw [decide_eq_true hc]; rfl) (wb_nil (wb_nil ?_))
  rfl
end

abbrev nMa : List Str := ["self", "card"]
theorem scMa : FnScope nMa ["self", "card"] (defScope (mS 54 1)) := ⟨rfl, rfl, rfl, by decide +kernel, rfl, by decide +kernel, by decide +kernel⟩
def PmAdd : Pg → List PyData → Prop := fun g ds => ∃ (n : Nat) (cs : List Int) (c : Int), DkS g n cs ∧ g.2.length < 60 ∧ ds = [.int c] ∧ (0 ≤ c ∧ c < 2 ^ n) ∧ c ∉ cs
def RmAdd : Pg → List PyData → Pg → PyData → Prop := fun g ds g' d => ∃ (n : Nat) (cs : List Int) (c : Int), g.1.getLast? = some (n, cs) ∧ ds = [.int c] ∧ g' = dkPut g (n, addL n cs c) (0, c) ∧ d = .int ((g.2.length + 1 : Nat) : Int)
def PmStand : Pg → List PyData → Prop := fun g ds => ∃ (e : Nat × Int) (b : Nat × List Int), e.1 < 4 ∧ ds = [.str (wordS e.1), .int e.2, boxP b] ∧ g.1.length < 1000 ∧ g.2.length < 1000
def RmStand : Pg → List PyData → Pg → PyData → Prop := fun g ds g' d => ∃ (e : Nat × Int) (b : Nat × List Int), e.1 < 4 ∧ ds = [.str (wordS e.1), .int e.2, boxP b] ∧ g' = dkPut g b e ∧ d = .int ((g.2.length + 1 : Nat) : Int)
theorem boxP_inj {b b' : Nat × List Int} (h : boxP b = boxP b') : b = b' := by
  obtain ⟨n, cs⟩ := b
  obtain ⟨m, ms⟩ := b'
  have h : PyData.tuple [.int (n : Int), .tuple (cs.map PyData.int)] = .tuple [.int (m : Int), .tuple (ms.map PyData.int)] := h
  injection h with h
  injection h with h1 h2
  injection h2 with h2 _
  injection h1 with h1
  injection h2 with h2
  have : ∀ {as bs : List Int}, as.map PyData.int = bs.map PyData.int → as = bs := fun {as bs} e => by
    induction as generalizing bs with
    | nil => cases bs with
      | nil => rfl
      | cons _ _ => cases e
    | cons a as ih => cases bs with
      | nil => cases e
      | cons b bs =>
        rw [List.map_cons, List.map_cons] at e
        injection e with e1 e2
        injection e1 with e1
        rw [e1, ih e2]
  rw [this h2, show n = m by omega]
theorem stand_one {g g' : Pg} {d : PyData} {e : Nat × Int} {b : Nat × List Int} (he : e.1 < 4) (h : RmStand g [.str (wordS e.1), .int e.2, boxP b] g' d) : g' = dkPut g b e ∧ d = .int ((g.2.length + 1 : Nat) : Int) := by
  obtain ⟨e', b', he', h1, h2, h3⟩ := h
  injection h1 with h4 h5
  injection h5 with h5 h6
  injection h6 with h6 _
  injection h4 with h4
  injection h5 with h5
  have e1 := wordS_inj he he' h4
  have e2 := boxP_inj h6
  have : e = e' := Prod.ext e1 h5
  subst this e2
  exact ⟨h2, h3⟩
section
variable {P : Program} {w : World} {K : PySem.W.Frag} {mg : Str → Option Value} {base : Heap} {C : Addr}
theorem ok_madd {f : Addr} {fd : FuncData} (Fn : Fun K "add" "Deck.add" (mS 54 1) f fd) (gr : PiM P w K mg base C 1 "check_room" [] PmRoom RmRoom) (gb : PiM P w K mg base C 1 "box" [.non] PmBox RmBox) (gs : PiM P w K mg base C 1 "stand" [] PmStand RmStand) (gc : PFn P w K mg base 4 "check_new_card" Rcn) (gw : PFn P w K mg base 1 "with_card" Rwc) : FnG P w K mg base 5 f fd ["self", "card"] (spPi K C PmAdd RmAdd) := by
  refine pi_ok (k := 4) Fn scMa (fun g ds ⟨_, _, _, _, _, e, _⟩ => by rw [e]; rfl) (fun F a dx ds g pi hK ⟨n, cs, c, hg, hl, e, hc, hnc⟩ => ?_)
  subst e
  refine wb_cons (ws_expr (fun _ => rfl) (we_pm0 pi gr (by show 1 ≤ 4; decide) hK 0 rfl (.inl rfl) rfl ⟨by decide, by decide⟩ ⟨rfl, hl⟩ ?_))
  rintro g1 d1 ⟨rfl, rfl⟩
  refine wb_cons (ws_expr (fun _ => rfl) (we_callP gc (by show 4 ≤ 4; decide) hK rfl (wa_cons (fun _ => rfl) (we_pm0N pi gb (by show 1 ≤ 4; decide) hK 0 rfl (.inl rfl) rfl ⟨by decide, by decide⟩ ⟨rfl, hg.ne⟩ ?_))))
  rintro g2 d2 ⟨rfl, b, hb, rfl⟩
  rw [hg.last] at hb
  cases hb
  repeat walk_at "dl"
  refine ⟨_, ⟨n, cs, c, rfl, hg.hn, hc, hnc, rfl⟩, ?_⟩
  refine wb_cons (ws_ret (we_pm pi gs (by show 1 ≤ 4; decide) hK 0 rfl (.inl rfl) rfl ⟨by decide, by decide⟩ (wa_cons (fun _ => rfl) (we_str (wa_cons (fun _ => rfl) ?_)))))
  walk_at "name"
  refine wa_cons (fun _ => rfl) (we_callP gw (by show 1 ≤ 4; decide) hK rfl (wa_cons (fun _ => rfl) (we_pm0N pi gb (by show 1 ≤ 4; decide) hK 0 rfl (.inl rfl) rfl ⟨by decide, by decide⟩ ⟨rfl, hg.ne⟩ ?_)))
  rintro g3 d3 ⟨rfl, b, hb, rfl⟩
  rw [hg.last] at hb
  cases hb
  repeat walk_at "dl"
  refine ⟨_, ⟨n, cs, c, rfl, hg.hn, hg.hb, hc, hnc, rfl⟩, wa_nil ?_⟩
  have l1 := hg.l1
  have l2 := hg.l2
  refine ⟨Enc.enc, g3, pi, rfl, ⟨(0, c), (n, addL n cs c), by show 0 < 4; decide, rfl, by omega, by omega⟩, fun g' d h => ?_⟩
  obtain ⟨rfl, rfl⟩ := stand_one (e := (0, c)) (b := (n, addL n cs c)) (by show 0 < 4; decide) h
  exact ⟨_, rfl, n, cs, c, hg.last, rfl, rfl, rfl⟩
end

abbrev nMr : List Str := ["self", "card"]
theorem scMr : FnScope nMr ["self", "card"] (defScope (mS 54 2)) := ⟨rfl, rfl, rfl, by decide +kernel, rfl, by decide +kernel, by decide +kernel⟩
def PmRem : Pg → List PyData → Prop := fun g ds => ∃ (n : Nat) (cs : List Int) (c : Int), DkS g n cs ∧ g.2.length < 60 ∧ ds = [.int c] ∧ c ∈ cs
def RmRem : Pg → List PyData → Pg → PyData → Prop := fun g ds g' d => ∃ (n : Nat) (cs : List Int) (c : Int), g.1.getLast? = some (n, cs) ∧ ds = [.int c] ∧ g' = dkPut g (n, remL cs c) (1, c) ∧ d = .int ((g.2.length + 1 : Nat) : Int)
section
variable {P : Program} {w : World} {K : PySem.W.Frag} {mg : Str → Option Value} {base : Heap} {C : Addr}
theorem ok_mrem {f : Addr} {fd : FuncData} (Fn : Fun K "remove" "Deck.remove" (mS 54 2) f fd) (gr : PiM P w K mg base C 1 "check_room" [] PmRoom RmRoom) (gb : PiM P w K mg base C 1 "box" [.non] PmBox RmBox) (gs : PiM P w K mg base C 1 "stand" [] PmStand RmStand) (gc : PFn P w K mg base 3 "check_old_card" Rco) (gw : PFn P w K mg base 1 "without_card" Rwo) : FnG P w K mg base 5 f fd ["self", "card"] (spPi K C PmRem RmRem) := by
  refine pi_ok (k := 4) Fn scMr (fun g ds ⟨_, _, _, _, _, e, _⟩ => by rw [e]; rfl) (fun F a dx ds g pi hK ⟨n, cs, c, hg, hl, e, hc⟩ => ?_)
  subst e
  refine wb_cons (ws_expr (fun _ => rfl) (we_pm0 pi gr (by show 1 ≤ 4; decide) hK 0 rfl (.inl rfl) rfl ⟨by decide, by decide⟩ ⟨rfl, hl⟩ ?_))
  rintro g1 d1 ⟨rfl, rfl⟩
  refine wb_cons (ws_expr (fun _ => rfl) (we_callP gc (by show 3 ≤ 4; decide) hK rfl (wa_cons (fun _ => rfl) (we_pm0N pi gb (by show 1 ≤ 4; decide) hK 0 rfl (.inl rfl) rfl ⟨by decide, by decide⟩ ⟨rfl, hg.ne⟩ ?_))))
  rintro g2 d2 ⟨rfl, b, hb, rfl⟩
  rw [hg.last] at hb
  cases hb
  repeat walk_at "dl"
  refine ⟨_, ⟨n, cs, c, rfl, hc, rfl⟩, ?_⟩
  refine wb_cons (ws_ret (we_pm pi gs (by show 1 ≤ 4; decide) hK 0 rfl (.inl rfl) rfl ⟨by decide, by decide⟩ (wa_cons (fun _ => rfl) (we_str (wa_cons (fun _ => rfl) ?_)))))
  walk_at "name"
  refine wa_cons (fun _ => rfl) (we_callP gw (by show 1 ≤ 4; decide) hK rfl (wa_cons (fun _ => rfl) (we_pm0N pi gb (by show 1 ≤ 4; decide) hK 0 rfl (.inl rfl) rfl ⟨by decide, by decide⟩ ⟨rfl, hg.ne⟩ ?_)))
  rintro g3 d3 ⟨rfl, b, hb, rfl⟩
  rw [hg.last] at hb
  cases hb
  repeat walk_at "dl"
  refine ⟨_, ⟨n, cs, c, rfl, hg.hn, hg.hb, rfl⟩, wa_nil ?_⟩
  have l1 := hg.l1
  have l2 := hg.l2
  refine ⟨Enc.enc, g3, pi, rfl, ⟨(1, c), (n, remL cs c), by show 1 < 4; decide, rfl, by omega, by omega⟩, fun g' d h => ?_⟩
  obtain ⟨rfl, rfl⟩ := stand_one (e := (1, c)) (b := (n, remL cs c)) (by show 1 < 4; decide) h
  exact ⟨_, rfl, n, cs, c, hg.last, rfl, rfl, rfl⟩
end


abbrev nFlp : List Str := ["box", "switches", "n", "cards", "card"]
theorem scFlp : FnScope nFlp ["box", "switches"] (defScope (topS 31)) := ⟨rfl, rfl, rfl, by decide +kernel, rfl, by decide +kernel, by decide +kernel⟩
def Rflip : Rel := fun ds d => ∃ (n : Nat) (cs : List Int) (s : Int), ds = [boxD n cs, .int s] ∧ n ≤ 6 ∧ IsBox n cs ∧ (0 ≤ s ∧ s < 2 ^ n) ∧ d = boxD n (flipL n cs s)
section
variable {P : Program} {w : World} {K : PySem.W.Frag} {mg : Str → Option Value} {base : Heap}
theorem ok_flip {f : Addr} {fd : FuncData} (Fn : Fun K "flip_switches" "flip_switches" (topS 31) f fd) (mt : mg "tuple" = none) (ms : mg "sorted" = none) : FnG P w K mg base 1 f fd ["box", "switches"] (spPure K Rflip) := by
  refine pure_ok (k := 0) Fn scFlp (fun ds d ⟨n, cs, s, e, _⟩ => by rw [e]; rfl) (fun F ds d hK ⟨n, cs, s, e, hn, hb, hs, ed⟩ => ?_)
  subst e ed
  have hl := box_len hn hb
  refine wb_cons (ws_asg2s 2 3 (by decide) (by walk_at "tgt") (by walk_at "tgt") hK (fun env h => by cases env; cases h; rfl) (fun env h => by cases env; cases h; rfl) ?_)
  repeat walk_at "dx"
  refine ⟨.int (n : Int), .tuple (cs.map PyData.int), rfl, ?_⟩
  refine wb_cons (ws_ret (we_tup (wa_cons (fun _ => rfl) ?_)))
  repeat walk_at "name"
  refine wa_cons (fun _ => rfl) (we_tuple hK rfl mt (fun _ => rfl) (we_sorted hK rfl ms (fun _ => rfl) (we_mT PyData.int (fun c : Int => .int (Builtin.bitXor c s)) 4 (by walk_at "blk") hK (fun _ _ => rfl) ?_)))
  repeat walk_at "dx"
  refine ⟨cs, rfl, by omega, fun D c hc => ?_, ?_⟩
  · repeat walk_at "dx"
    exact ⟨rfl, rfl⟩
  refine ⟨cs.map fun c => Builtin.bitXor c s, by rw [List.map_map]; rfl, fun ms' hperm hw => ?_⟩
  repeat walk_at "dx"
  show boxD n ms' = boxD n _
  rw [img_perm (xor_good hn hs.1 hs.2 (box_sub hb)) hperm hw]; rfl
end

abbrev nHsw : List Str := ["switches", "switch"]
theorem scHsw : FnScope nHsw ["switches", "switch"] (defScope (topS 11)) := ⟨rfl, rfl, rfl, by decide +kernel, rfl, by decide +kernel, by decide +kernel⟩
def Rhsw : Rel := fun ds d => ∃ s k : Int, ds = [.int s, .int k] ∧ 0 ≤ k ∧ d = .bool (bitB s k)
section
variable {P : Program} {w : World} {K : PySem.W.Frag} {mg : Str → Option Value} {base : Heap}
theorem ok_hsw {f : Addr} {fd : FuncData} (Fn : Fun K "has_switch" "has_switch" (topS 11) f fd) : FnG P w K mg base 1 f fd ["switches", "switch"] (spPure K Rhsw) := by
  refine pure_ok (k := 0) Fn scHsw (fun ds d ⟨s, k, e, _⟩ => by rw [e]; rfl) (fun F ds d hK ⟨s, k, e, hk, ed⟩ => ?_)
  subst e ed
  refine wb_cons (ws_ret (we_eqI ?_))
  repeat walk_at "dx"
  refine ⟨hk, ?_⟩
  repeat walk_at "dx"
  rfl
end

abbrev nPrc : List Str := ["cards", "card", "switch", "off"]
theorem scPrc : FnScope nPrc ["cards", "card", "switch"] (defScope (topS 40)) := ⟨rfl, rfl, rfl, by decide +kernel, rfl, by decide +kernel, by decide +kernel⟩
def Rprc : Rel := fun ds d => ∃ (cs : List Int) (c : Int) (k : Nat), ds = [.tuple (cs.map PyData.int), .int c, .int (k : Int)] ∧ k ≤ 100 ∧ d = .int (prcI cs c k)
section
variable {P : Program} {w : World} {K : PySem.W.Frag} {mg : Str → Option Value} {base : Heap}
theorem ok_prc {f : Addr} {fd : FuncData} (Fn : Fun K "pressed_card" "pressed_card" (topS 40) f fd) (gh : PFn P w K mg base 1 "has_switch" Rhsw) : FnG P w K mg base 2 f fd ["cards", "card", "switch"] (spPure K Rprc) := by
  refine pure_ok (k := 1) Fn scPrc (fun ds d ⟨cs, c, k, e, _⟩ => by rw [e]; rfl) (fun F ds d hK ⟨cs, c, k, e, hk, ed⟩ => ?_)
  subst e ed
  refine wb_cons (ws_set 3 (by walk_at "tgt") (fun _ _ => rfl) ?_)
  repeat walk_at "dx"
  refine ⟨⟨by omega, by omega, by decide⟩, ?_⟩
  repeat walk_at "dx"
  refine we_ifExp (wt_and2 (p := bitB c k) (q := !decide (c - 1 * 2 ^ ((k : Nat) : Int).toNat ∈ cs)) (wt_val (fun _ _ => rfl) ?_) (fun _ => wt_niI hK rfl ?_) ?_)
  · repeat walk_at "dx"
    exact ⟨_, ⟨c, k, rfl, by omega, rfl⟩, _, rfl, rfl, rfl⟩
  · repeat walk_at "dx"
    exact ⟨_, _, rfl, rfl, rfl, rfl⟩
  unfold prcI
  show if (bitB c k && !decide (c - 1 * 2 ^ ((k : Nat) : Int).toNat ∈ cs)) = true then _ else _
  cases h : (bitB c k && !decide (c - 1 * 2 ^ ((k : Nat) : Int).toNat ∈ cs)) with
  | true =>
    rw [if_pos rfl]
    repeat walk_at "dx"
    rfl
  | false =>
    rw [if_neg (by decide)]
    repeat walk_at "dx"
    rfl
end

abbrev nPrs : List Str := ["box", "switch", "n", "cards", "card"]
theorem scPrs : FnScope nPrs ["box", "switch"] (defScope (topS 39)) := ⟨rfl, rfl, rfl, by decide +kernel, rfl, by decide +kernel, by decide +kernel⟩
def Rprs : Rel := fun ds d => ∃ (n : Nat) (cs : List Int) (k : Nat), ds = [boxD n cs, .int (k : Int)] ∧ n ≤ 6 ∧ IsBox n cs ∧ k < n ∧ d = boxD n (pressL n cs k)
section
variable {P : Program} {w : World} {K : PySem.W.Frag} {mg : Str → Option Value} {base : Heap}
theorem ok_prs {f : Addr} {fd : FuncData} (Fn : Fun K "press_switch" "press_switch" (topS 39) f fd) (mt : mg "tuple" = none) (ms : mg "sorted" = none) (gp : PFn P w K mg base 2 "pressed_card" Rprc) : FnG P w K mg base 3 f fd ["box", "switch"] (spPure K Rprs) := by
  refine pure_ok (k := 2) Fn scPrs (fun ds d ⟨n, cs, k, e, _⟩ => by rw [e]; rfl) (fun F ds d hK ⟨n, cs, k, e, hn, hb, hk, ed⟩ => ?_)
  subst e ed
  have hl := box_len hn hb
  refine wb_cons (ws_asg2s 2 3 (by decide) (by walk_at "tgt") (by walk_at "tgt") hK (fun env h => by cases env; cases h; rfl) (fun env h => by cases env; cases h; rfl) ?_)
  repeat walk_at "dx"
  refine ⟨.int (n : Int), .tuple (cs.map PyData.int), rfl, ?_⟩
  refine wb_cons (ws_ret (we_tup (wa_cons (fun _ => rfl) ?_)))
  repeat walk_at "name"
  refine wa_cons (fun _ => rfl) (we_tuple hK rfl mt (fun _ => rfl) (we_sorted hK rfl ms (fun _ => rfl) (we_mT PyData.int (fun c : Int => .int (prcI cs c k)) 4 (by walk_at "blk") hK (fun _ _ => rfl) ?_)))
  repeat walk_at "dx"
  refine ⟨cs, rfl, by omega, fun D c hc => ?_, ?_⟩
  · have hKD : (F.ext D).K = K := hK
    repeat walk_at "dx"
    exact ⟨_, ⟨cs, c, k, rfl, by omega, rfl⟩, rfl, rfl⟩
  refine ⟨cs.map fun c => prcI cs c k, by rw [List.map_map]; rfl, fun ms' hperm hw => ?_⟩
  repeat walk_at "dx"
  show boxD n ms' = boxD n _
  rw [press_perm hn hk hb hperm hw]
end

/-! ### all four edits -/
def aftL (n : Nat) (cs : List Int) (e : Nat × Int) : List Int := match e.1 with
  | 0 => addL n cs e.2
  | 1 => remL cs e.2
  | 2 => flipL n cs (2 ^ e.2.toNat)
  | _ => pressL n cs e.2.toNat
def EdFit (n : Nat) (cs : List Int) (e : Nat × Int) : Prop := (e.1 = 0 ∧ (0 ≤ e.2 ∧ e.2 < 2 ^ n) ∧ e.2 ∉ cs) ∨ (e.1 = 1 ∧ e.2 ∈ cs) ∨ (e.1 = 2 ∧ 0 ≤ e.2 ∧ e.2 < n) ∨ (e.1 = 3 ∧ 0 ≤ e.2 ∧ e.2 < n)
theorem EdFit.lt {n : Nat} {cs : List Int} {e : Nat × Int} (h : EdFit n cs e) : e.1 < 4 := by
  rcases h with ⟨h, _⟩ | ⟨h, _⟩ | ⟨h, _⟩ | ⟨h, _⟩ <;> rw [h] <;> decide
theorem aft_box {n : Nat} {cs : List Int} (hb : IsBox n cs) (e : Nat × Int) : IsBox n (aftL n cs e) := by
  unfold aftL
  split
  · exact addL_box _ _ _
  · exact remL_box hb _
  · exact flip_box _ _ _
  · exact press_box _ _ _
theorem edP_inj {a b : Nat × Int} (ha : a.1 < 4) (hb : b.1 < 4) (h : edP a = edP b) : a = b := by
  have h : PyData.tuple [.str (wordS a.1), .int a.2] = .tuple [.str (wordS b.1), .int b.2] := h
  injection h with h
  injection h with h1 h2
  injection h1 with h1
  injection h2 with h2 _
  injection h2 with h2
  exact Prod.ext (wordS_inj ha hb h1) h2
theorem two_rng {n : Nat} {k : Int} (h0 : 0 ≤ k) (h1 : k < n) : (0 : Int) ≤ 2 ^ k.toNat ∧ (2 : Int) ^ k.toNat < 2 ^ n := by
  have h2 : 2 ^ k.toNat < 2 ^ n := Nat.pow_lt_pow_right (by decide) (by omega)
  rw [cast2, cast2]
  exact ⟨Int.natCast_nonneg _, Int.ofNat_lt.mpr h2⟩
theorem bitp : ∀ k < 6, ∀ c < 64, decide (0 < c &&& 2 ^ k) = bitN c k := by decide +kernel

abbrev nCsw : List Str := ["box", "value"]
theorem scCsw : FnScope nCsw ["box", "value"] (defScope (topS 52)) := ⟨rfl, rfl, rfl, by decide +kernel, rfl, by decide +kernel, by decide +kernel⟩
def Rcsw : Rel := fun ds d => ∃ (n : Nat) (cs : List Int) (k : Int), ds = [boxD n cs, .int k] ∧ 0 ≤ k ∧ k < n ∧ d = .none
section
variable {P : Program} {w : World} {K : PySem.W.Frag} {mg : Str → Option Value} {base : Heap}
theorem ok_csw {f : Addr} {fd : FuncData} (Fn : Fun K "check_switch" "check_switch" (topS 52) f fd) (gb : PFn P w K mg base 2 "is_below" RbelA) : FnG P w K mg base 3 f fd ["box", "value"] (spPure K Rcsw) := by
  refine pure_ok (k := 2) Fn scCsw (fun ds d ⟨n, cs, c, e, _⟩ => by rw [e]; rfl) (fun F ds d hK ⟨n, cs, c, e, h0, h1, ed⟩ => ?_)
  subst e
  refine wb_cons (ws_if (wt_not (wt_val (fun _ _ => rfl) ?_)))
  repeat walk_at "dx"
  refine ⟨.int (n : Int), rfl, ?_⟩
  repeat walk_at "dx"
  refine ⟨_, ⟨_, _, rfl, rfl⟩, _, rfl, ?_⟩
  have hb : belD (n : Int) (.int c) = true := by
    show (decide (0 ≤ c) && decide (c < (n : Int))) = true
    rw [decide_eq_true h0, decide_eq_true h1]; rfl
  rw [hb]
  refine itN rfl (wb_nil (wb_nil ?_))
  exact ed.symm ▸ rfl
end

abbrev nMf : List Str := ["self", "switch"]
theorem scMf : FnScope nMf ["self", "switch"] (defScope (mS 54 3)) := ⟨rfl, rfl, rfl, by decide +kernel, rfl, by decide +kernel, by decide +kernel⟩
def PmSw : Pg → List PyData → Prop := fun g ds => ∃ (n : Nat) (cs : List Int) (k : Int), DkS g n cs ∧ g.2.length < 60 ∧ ds = [.int k] ∧ 0 ≤ k ∧ k < n
def RmSw (t : Nat) : Pg → List PyData → Pg → PyData → Prop := fun g ds g' d => ∃ (n : Nat) (cs : List Int) (k : Int), g.1.getLast? = some (n, cs) ∧ ds = [.int k] ∧ g' = dkPut g (n, aftL n cs (t, k)) (t, k) ∧ d = .int ((g.2.length + 1 : Nat) : Int)
section
variable {P : Program} {w : World} {K : PySem.W.Frag} {mg : Str → Option Value} {base : Heap} {C : Addr}
theorem ok_mflip {f : Addr} {fd : FuncData} (Fn : Fun K "flip" "Deck.flip" (mS 54 3) f fd) (gr : PiM P w K mg base C 1 "check_room" [] PmRoom RmRoom) (gb : PiM P w K mg base C 1 "box" [.non] PmBox RmBox) (gs : PiM P w K mg base C 1 "stand" [] PmStand RmStand) (gc : PFn P w K mg base 3 "check_switch" Rcsw) (gw : PFn P w K mg base 1 "flip_switches" Rflip) : FnG P w K mg base 5 f fd ["self", "switch"] (spPi K C PmSw (RmSw 2)) := by
  refine pi_ok (k := 4) Fn scMf (fun g ds ⟨_, _, _, _, _, e, _⟩ => by rw [e]; rfl) (fun F a dx ds g pi hK ⟨n, cs, c, hg, hl, e, h0, h1⟩ => ?_)
  subst e
  have hn := hg.hn
  refine wb_cons (ws_expr (fun _ => rfl) (we_pm0 pi gr (by show 1 ≤ 4; decide) hK 0 rfl (.inl rfl) rfl ⟨by decide, by decide⟩ ⟨rfl, hl⟩ ?_))
  rintro g1 d1 ⟨rfl, rfl⟩
  refine wb_cons (ws_expr (fun _ => rfl) (we_callP gc (by show 3 ≤ 4; decide) hK rfl (wa_cons (fun _ => rfl) (we_pm0N pi gb (by show 1 ≤ 4; decide) hK 0 rfl (.inl rfl) rfl ⟨by decide, by decide⟩ ⟨rfl, hg.ne⟩ ?_))))
  rintro g2 d2 ⟨rfl, b, hb, rfl⟩
  rw [hg.last] at hb
  cases hb
  repeat walk_at "dl"
  refine ⟨_, ⟨n, cs, c, rfl, h0, h1, rfl⟩, ?_⟩
  refine wb_cons (ws_ret (we_pm pi gs (by show 1 ≤ 4; decide) hK 0 rfl (.inl rfl) rfl ⟨by decide, by decide⟩ (wa_cons (fun _ => rfl) (we_str (wa_cons (fun _ => rfl) ?_)))))
  walk_at "name"
  refine wa_cons (fun _ => rfl) (we_callP gw (by show 1 ≤ 4; decide) hK rfl (wa_cons (fun _ => rfl) (we_pm0N pi gb (by show 1 ≤ 4; decide) hK 0 rfl (.inl rfl) rfl ⟨by decide, by decide⟩ ⟨rfl, hg.ne⟩ ?_)))
  rintro g3 d3 ⟨rfl, b, hb, rfl⟩
  rw [hg.last] at hb
  cases hb
  repeat walk_at "dl"
  refine ⟨_, _, rfl, rfl, ⟨by omega, by omega, by decide⟩, ?_⟩
  rw [Int.one_mul]
  refine wa_nil ⟨_, ⟨n, cs, 2 ^ c.toNat, rfl, hg.hn, hg.hb, two_rng h0 h1, rfl⟩, wa_nil ?_⟩
  have l1 := hg.l1
  have l2 := hg.l2
  refine ⟨Enc.enc, g3, pi, rfl, ⟨(2, c), (n, flipL n cs (2 ^ c.toNat)), by show 2 < 4; decide, rfl, by omega, by omega⟩, fun g' d h => ?_⟩
  obtain ⟨rfl, rfl⟩ := stand_one (e := (2, c)) (b := (n, flipL n cs (2 ^ c.toNat))) (by show 2 < 4; decide) h
  exact ⟨_, rfl, n, cs, c, hg.last, rfl, rfl, rfl⟩
end

abbrev nMp : List Str := ["self", "switch"]
theorem scMp : FnScope nMp ["self", "switch"] (defScope (mS 54 4)) := ⟨rfl, rfl, rfl, by decide +kernel, rfl, by decide +kernel, by decide +kernel⟩
section
variable {P : Program} {w : World} {K : PySem.W.Frag} {mg : Str → Option Value} {base : Heap} {C : Addr}
theorem ok_mpress {f : Addr} {fd : FuncData} (Fn : Fun K "press" "Deck.press" (mS 54 4) f fd) (gr : PiM P w K mg base C 1 "check_room" [] PmRoom RmRoom) (gb : PiM P w K mg base C 1 "box" [.non] PmBox RmBox) (gs : PiM P w K mg base C 1 "stand" [] PmStand RmStand) (gc : PFn P w K mg base 3 "check_switch" Rcsw) (gw : PFn P w K mg base 3 "press_switch" Rprs) : FnG P w K mg base 5 f fd ["self", "switch"] (spPi K C PmSw (RmSw 3)) := by
  refine pi_ok (k := 4) Fn scMp (fun g ds ⟨_, _, _, _, _, e, _⟩ => by rw [e]; rfl) (fun F a dx ds g pi hK ⟨n, cs, c, hg, hl, e, h0, h1⟩ => ?_)
  subst e
  have hn := hg.hn
  refine wb_cons (ws_expr (fun _ => rfl) (we_pm0 pi gr (by show 1 ≤ 4; decide) hK 0 rfl (.inl rfl) rfl ⟨by decide, by decide⟩ ⟨rfl, hl⟩ ?_))
  rintro g1 d1 ⟨rfl, rfl⟩
  refine wb_cons (ws_expr (fun _ => rfl) (we_callP gc (by show 3 ≤ 4; decide) hK rfl (wa_cons (fun _ => rfl) (we_pm0N pi gb (by show 1 ≤ 4; decide) hK 0 rfl (.inl rfl) rfl ⟨by decide, by decide⟩ ⟨rfl, hg.ne⟩ ?_))))
  rintro g2 d2 ⟨rfl, b, hb, rfl⟩
  rw [hg.last] at hb
  cases hb
  repeat walk_at "dl"
  refine ⟨_, ⟨n, cs, c, rfl, h0, h1, rfl⟩, ?_⟩
  refine wb_cons (ws_ret (we_pm pi gs (by show 1 ≤ 4; decide) hK 0 rfl (.inl rfl) rfl ⟨by decide, by decide⟩ (wa_cons (fun _ => rfl) (we_str (wa_cons (fun _ => rfl) ?_)))))
  walk_at "name"
  refine wa_cons (fun _ => rfl) (we_callP gw (by show 3 ≤ 4; decide) hK rfl (wa_cons (fun _ => rfl) (we_pm0N pi gb (by show 1 ≤ 4; decide) hK 0 rfl (.inl rfl) rfl ⟨by decide, by decide⟩ ⟨rfl, hg.ne⟩ ?_)))
  rintro g3 d3 ⟨rfl, b, hb, rfl⟩
  rw [hg.last] at hb
  cases hb
  obtain ⟨c, rfl⟩ : ∃ k : Nat, c = (k : Int) := ⟨c.toNat, by omega⟩
  repeat walk_at "dl"
  refine ⟨_, ⟨n, cs, c, rfl, hg.hn, hg.hb, by omega, rfl⟩, wa_nil ?_⟩
  have l1 := hg.l1
  have l2 := hg.l2
  refine ⟨Enc.enc, g3, pi, rfl, ⟨(3, (c : Int)), (n, pressL n cs c), by show 3 < 4; decide, rfl, by omega, by omega⟩, fun g' d h => ?_⟩
  obtain ⟨rfl, rfl⟩ := stand_one (e := (3, (c : Int))) (b := (n, pressL n cs c)) (by show 3 < 4; decide) h
  exact ⟨_, rfl, n, cs, (c : Int), hg.last, rfl, by show _ = dkPut g3 (n, pressL n cs ((c : Int)).toNat) _; rw [Int.toNat_natCast], rfl⟩
end


abbrev nCks : List Str := ["box", "switches"]
theorem scCks : FnScope nCks ["box"] (defScope (topS 53)) := ⟨rfl, rfl, rfl, by decide +kernel, rfl, by decide +kernel, by decide +kernel⟩
def Rcks : Rel := fun ds d => ∃ (n : Nat) (cs : List Int), ds = [boxD n cs] ∧ n ≤ 6 ∧ IsBox n cs ∧ smoothB n cs = true ∧ d = .none
theorem rough_none {n : Nat} {cs : List Int} (h : smoothB n cs = true) : roughO n cs = none := by
  unfold smoothB at h
  cases e : roughO n cs with
  | none => rfl
  | some x => rw [e] at h; cases h
section
variable {P : Program} {w : World} {K : PySem.W.Frag} {mg : Str → Option Value} {base : Heap}
theorem ok_cks {f : Addr} {fd : FuncData} (Fn : Fun K "check_smooth" "check_smooth" (topS 53) f fd) (gr : PFn P w K mg base 6 "rough_set" Rrough) : FnG P w K mg base 7 f fd ["box"] (spPure K Rcks) := by
  refine pure_ok (k := 6) Fn scCks (fun ds d ⟨n, cs, e, _⟩ => by rw [e]; rfl) (fun F ds d hK ⟨n, cs, e, hn, hb, hs, ed⟩ => ?_)
  subst e ed
  refine wb_cons (ws_set 1 (by walk_at "tgt") (fun env h => by cases env; cases h; rfl) (we_callP gr (by show 6 ≤ 6; decide) hK rfl (wa_cons (fun _ => rfl) ?_)))
  walk_at "name"
  refine wa_nil ⟨_, ⟨n, cs, rfl, hn, hb, rfl⟩, ?_⟩
  rw [rough_none hs]
  refine wb_cons (ws_if (wt_notN ?_))
  walk_at "name"
  exact itN rfl (wb_nil (wb_nil rfl))
end

abbrev nSi : List Str := ["self", "box"]
theorem scSi : FnScope nSi ["self", "box"] (defScope (mS 55 0)) := ⟨rfl, rfl, rfl, by decide +kernel, rfl, by decide +kernel, by decide +kernel⟩
def OkS : Nat × List Int → Prop := fun d => OkB d ∧ smoothB d.1 d.2 = true
section
variable {P : Program} {w : World} {K : PySem.W.Frag} {mg : Str → Option Value} {base : Heap} {C D : Addr}
theorem ok_sinit {f f0 : Addr} {fd fd0 : FuncData} (Fn : Fun K "__init__" "SmoothDeck.__init__" (mS 55 0) f fd) (c : ClF K D "__init__" f0) (G : FnG P w K mg base 6 f0 fd0 ["self", "box"] (spInit K C OkB)) (hb : L2.Binds K fd0 ["self", "box"] []) (mD : mg "Deck" = some (.ref D)) (gc : PFn P w K mg base 7 "check_smooth" Rcks) : FnG P w K mg base 8 f fd ["self", "box"] (spInit K C OkS) := by
  refine init_ok (k := 7) Fn scSi (fun F a dx d ini hK ok => ?_)
  refine wb_cons (ws_initSub ini hK c G (by show 6 ≤ 7; decide) hb rfl mD 0 1 rfl (.inl rfl) rfl rfl (.inl rfl) rfl ok.1 (fun _ => rfl) ?_)
  refine wb_cons (ws_expr (fun _ => rfl) (we_callP gc (by show 7 ≤ 7; decide) hK rfl (wa_cons (fun _ => rfl) ?_)))
  walk_at "name"
  exact wa_nil ⟨_, ⟨d.1, d.2, rfl, ok.1.1, ok.1.2, ok.2, rfl⟩, wb_nil rfl⟩
end

/-! the fourteen classes of errors -/
def namesE : List Str := ["TooManyEdits", "NothingToUndo", "BadEdits", "TooManySwitches", "BadBox", "NoCard", "Present", "BadEdit", "Rejected", "Rough", "BadText", "Absent", "NoSwitch", "NoVersion"]
def fldE : List Str := ["", "", "", "bound", "error", "value", "value", "index", "index", "switches", "index", "value", "value", "value"]
structure Ers (K : PySem.W.Frag) (mg : Str → Option Value) (cs : List Addr) (bx : Addr) : Prop where
  len : cs.length = 14
  ex : ∀ (i : Nat) (c : Addr), cs[i]? = some c → ExcC K c ∧ XfC K c
  kit : ∀ (i j : Nat) (c d : Addr), cs[i]? = some c → cs[j]? = some d → PySem.W.kitOne K (.ref c) (.ref d) = some (decide ((j : Int) = (i : Int)))
  mgE : ∀ (i : Nat) (c : Addr) (x : Str), cs[i]? = some c → namesE[i]? = some x → mg x = some (.ref c)
  kb : ∀ (i : Nat) (c : Addr), cs[i]? = some c → PySem.W.kitOne K (.ref c) (.ref bx) = some (decide ((i : Int) < 11))
  kv : ∀ (i : Nat) (c : Addr), cs[i]? = some c → PySem.W.kitOne K (.ref c) (.type "ValueError") = some (decide ((i : Int) < 11))
  kl : ∀ (i : Nat) (c : Addr), cs[i]? = some c → PySem.W.kitOne K (.ref c) (.type "LookupError") = some (decide ((10 : Int) < (i : Int)))
  mb : mg "BoxError" = some (.ref bx)
  no : ∀ (i : Nat) (c : Addr) (x : Str), cs[i]? = some c → fldE[i]? = some x → PySem.W.findIn K (.ref c) x = some none
def errB (K : PySem.W.Frag) (bx c : Addr) (i : Nat) : Bool := xfB K c && (decide (PySem.W.findIn K (.ref c) "__class__" = some (some (.builtin "object.__class__"))) && (decide (PySem.W.mroIn K c (.type "object") = some true) && (decide (PySem.W.kitOne K (.ref c) (.ref bx) = some (decide ((i : Int) < 11))) && (decide (PySem.W.kitOne K (.ref c) (.type "ValueError") = some (decide ((i : Int) < 11))) && (decide (PySem.W.kitOne K (.ref c) (.type "LookupError") = some (decide ((10 : Int) < (i : Int)))) && decide (PySem.W.findIn K (.ref c) (fldE.getD i "") = some none))))))
def errsB (K : PySem.W.Frag) (bx : Addr) (cs : List Addr) : Bool := decide (cs.length = 14) && (List.range 14).all fun i => match cs[i]? with
  | none => false
  | some c => errB K bx c i && (List.range 14).all fun j => match cs[j]? with
    | none => false
    | some d => decide (PySem.W.kitOne K (.ref c) (.ref d) = some (decide ((j : Int) = (i : Int))))
theorem errsB_at {K : PySem.W.Frag} {cs : List Addr} {bx : Addr} (h : errsB K bx cs = true) : cs.length = 14 ∧ ∀ (i : Nat) (c : Addr), cs[i]? = some c → errB K bx c i = true ∧ ∀ (j : Nat) (d : Addr), cs[j]? = some d → PySem.W.kitOne K (.ref c) (.ref d) = some (decide ((j : Int) = (i : Int))) := by
  obtain ⟨h0, h⟩ := Bool.and_eq_true_iff.mp h
  have hl := of_decide_eq_true h0
  have lt : ∀ (i : Nat) (c : Addr), cs[i]? = some c → i ∈ List.range 14 := fun i c e => List.mem_range.mpr (hl ▸ (List.getElem?_eq_some_iff.mp e).1)
  refine ⟨hl, fun i c e => ?_⟩
  have hi := List.all_eq_true.mp h i (lt i c e)
  rw [e] at hi
  obtain ⟨h1, h2⟩ := Bool.and_eq_true_iff.mp hi
  refine ⟨h1, fun j d e2 => ?_⟩
  have hj := List.all_eq_true.mp h2 j (lt j d e2)
  rw [e2] at hj
  exact of_decide_eq_true hj
theorem Ers.of {K : PySem.W.Frag} {mg : Str → Option Value} {cs : List Addr} {bx : Addr} (h : errsB K bx cs = true) (xhn : PySem.W.specialIn K (.builtin "object.__class__") "__get__" = some (some (.builtin "getset_descriptor.__get__"))) (xtk : PySem.W.takesIn K (.builtin "object.__class__") = some true)
    (mgE : ∀ (i : Nat) (c : Addr) (x : Str), cs[i]? = some c → namesE[i]? = some x → mg x = some (.ref c)) (mb : mg "BoxError" = some (.ref bx)) : Ers K mg cs bx := by
  obtain ⟨hl, ha⟩ := errsB_at h
  have parts : ∀ (i : Nat) (c : Addr), cs[i]? = some c → (ExcC K c ∧ XfC K c) ∧ PySem.W.kitOne K (.ref c) (.ref bx) = some (decide ((i : Int) < 11)) ∧ PySem.W.kitOne K (.ref c) (.type "ValueError") = some (decide ((i : Int) < 11)) ∧ PySem.W.kitOne K (.ref c) (.type "LookupError") = some (decide ((10 : Int) < (i : Int))) ∧ PySem.W.findIn K (.ref c) (fldE.getD i "") = some none := by
    intro i c e
    obtain ⟨h1, h⟩ := Bool.and_eq_true_iff.mp (ha i c e).1
    obtain ⟨h2, h⟩ := Bool.and_eq_true_iff.mp h
    obtain ⟨h3, h⟩ := Bool.and_eq_true_iff.mp h
    obtain ⟨h4, h⟩ := Bool.and_eq_true_iff.mp h
    obtain ⟨h5, h⟩ := Bool.and_eq_true_iff.mp h
    obtain ⟨h6, h7⟩ := Bool.and_eq_true_iff.mp h
    have x := xfB_ok h1
    exact ⟨⟨⟨x.ga, x.gg, x.exC, x.hdC, of_decide_eq_true h2, xhn, xtk, of_decide_eq_true h3⟩, x⟩, of_decide_eq_true h4, of_decide_eq_true h5, of_decide_eq_true h6, of_decide_eq_true h7⟩
  exact ⟨hl, fun i c e => (parts i c e).1, fun i j c d e e2 => (ha i c e).2 j d e2, mgE, fun i c e => (parts i c e).2.1, fun i c e => (parts i c e).2.2.1, fun i c e => (parts i c e).2.2.2.1, mb, fun i c x e ex => by
    have := (parts i c e).2.2.2.2
    rw [List.getD_eq_getElem?_getD, ex] at this
    exact this⟩
def flD (i : Nat) : PyData := .list ((List.range 14).map fun j : Nat => .bool (decide ((j : Int) = (i : Int))))
def baD (i : Nat) : PyData := .list [.bool (decide ((i : Int) < 11)), .bool (decide ((i : Int) < 11)), .bool (decide ((10 : Int) < (i : Int)))]
def Rfl74 (cs : List Addr) : Addr → PyData → Prop := fun c d => ∃ i : Nat, cs[i]? = some c ∧ d = flD i
theorem flD_ok : ∀ i < 14, SeqAt.shaped (flD i) = true ∧ PyData.eqv (flD i) (flD i) = true ∧ SeqAt.shaped (baD i) = true ∧ PyData.eqv (baD i) (baD i) = true := by decide +kernel
def vals74 : List PyData := [.none, .int 5, .bool true, .str "a", .tuple [.int 1, .str "b"], .list [], .dict [], .int (-1)]
theorem vals_ok : ∀ u ∈ vals74, (u.showable = true ∧ u.depth ≤ 60 ∧ u.shown.length ≤ 100) ∧ SeqAt.shaped (.list (List.replicate 11 (.str u.shown))) = true ∧ PyData.eqv (.list (List.replicate 11 (.str u.shown))) (.list (List.replicate 11 (.str u.shown))) = true := by decide +kernel
section
variable {F : Fm} {C : Cs} {ρ : Rho} {k : Nat} {Φ : Nat → PyData → Prop} {e : Expr} {pos p pc px py : Pos} {x y xc : Str} {cs : List Addr} {bx c o : Addr}
theorem we_is74 (E : Ers C.K C.mg cs bx) (i j : Nat) (hc : cs[i]? = some c) (hx : namesE[j]? = some xc) (hj : j < 14) (h : WRaw F C e ρ k fun v H => ErrV F H v c) (hg : C.sc.names.lookup ("isinstance" : Str) = some .globalImplicit) (hm : C.mg ("isinstance" : Str) = none)
    (hgc : C.sc.names.lookup xc = some .globalImplicit) (hΦ : Φ k (.bool (decide ((j : Int) = (i : Int))))) (hdx : (xc == ("__debug__" : Str)) = false := by decide) (hs1 : ∀ env : Env, starEach [e, .Name xc pc] env = (false, eval e env) :: starEach [.Name xc pc] env := by intro _; rfl) :
    WPE F C (.Call (.Name "isinstance" p) [e, .Name xc pc] [] pos) ρ k Φ := by
  have hd : cs[j]? = some (cs[j]'(by rw [E.len]; exact hj)) := List.getElem?_eq_getElem _
  exact we_isErr (E.ex i c hc).1 h hg hm hgc (E.mgE j _ xc hd hx) (E.kit i j c _ hc hd) hΦ hdx hs1
theorem raw74 {j : Nat} (ix iz : Nat) (hK : F.K = C.K) (hE : HasErrs F o cs) (hN : C.N[ix]? = some x) (hv : Vis C.sc x) (hr : ρ[ix]? = some (.raw (.ref o))) (hN2 : C.N[iz]? = some y) (hv2 : Vis C.sc y) (hr2 : ρ[iz]? = some (.d (.int (j : Int)))) (hc : cs[j]? = some c)
    (hd : (x == ("__debug__" : Str)) = false := by decide) (hcd : (x == ("__classdict__" : Str)) = false := by decide) (hd2 : (y == ("__debug__" : Str)) = false := by decide) (hcd2 : (y == ("__classdict__" : Str)) = false := by decide) : WRaw F C (.Subscript (.Name x px) (.Name y py) pos) ρ k fun v H => ErrV F H v c :=
  wraw_ix ix (Λ := fun vs H => ErrsV F H vs cs) hK hN hv hr (fun _ _ => rfl) (fun H jj => let ⟨vs, h1, _, h3⟩ := hE k H jj; ⟨vs, h1, h3⟩) (wn_name iz hN2 hv2 hr2 ⟨j, rfl, fun vs H L => by
    obtain ⟨v, h1, h2⟩ := L.at hc
    refine ⟨v, ?_, h2⟩
    unfold atI
    rw [ixN_nat (List.getElem?_eq_some_iff.mp h1).1]
    exact h1⟩ hd2 hcd2) hd hcd
end

abbrev nFl74 : List Str := ["_law_e", "_law_found"]
theorem scFl74 : FnScope nFl74 ["_law_e"] (defScope (topS 66)) := ⟨rfl, rfl, rfl, by decide +kernel, rfl, by decide +kernel, by decide +kernel⟩
section
variable {P : Program} {w : World} {K : PySem.W.Frag} {mg : Str → Option Value} {base : Heap}
theorem ok_fl74 {cs : List Addr} {bx : Addr} {f : Addr} {fd : FuncData} (Fn : Fun K "_law_flags" "_law_flags" (topS 66) f fd) (mi : mg "isinstance" = none) (E : Ers K mg cs bx) : FnG P w K mg base 2 f fd ["_law_e"] (spErr K (Rfl74 cs)) := by
  refine err_ok (k := 1) Fn scFl74 (fun F a Cl d hK ⟨i, hc, ed⟩ hE => ?_)
  subst ed
  refine wb_cons (ws_set 1 (by walk_at "tgt") (fun env h => by cases env; cases h; rfl) (we_lst ?_))
  refine wa_cons (fun _ => rfl) (we_is74 E i 0 hc rfl (by decide) (wraw_name 0 rfl (by walk_at "vis") rfl fun H j => hE _ H j) rfl mi rfl ?_)
  refine wa_cons (fun _ => rfl) (we_is74 E i 1 hc rfl (by decide) (wraw_name 0 rfl (by walk_at "vis") rfl fun H j => hE _ H j) rfl mi rfl ?_)
  refine wa_cons (fun _ => rfl) (we_is74 E i 2 hc rfl (by decide) (wraw_name 0 rfl (by walk_at "vis") rfl fun H j => hE _ H j) rfl mi rfl ?_)
  refine wa_nil ⟨by show 3 ≤ _; decide, ?_⟩
  refine wb_cons (ws_set 1 (by walk_at "tgt") (fun env h => by cases env; cases h; rfl) (we_cat ?_))
  walk_at "name"
  refine we_lst ?_
  refine wa_cons (fun _ => rfl) (we_is74 E i 3 hc rfl (by decide) (wraw_name 0 rfl (by walk_at "vis") rfl fun H j => hE _ H j) rfl mi rfl ?_)
  refine wa_cons (fun _ => rfl) (we_is74 E i 4 hc rfl (by decide) (wraw_name 0 rfl (by walk_at "vis") rfl fun H j => hE _ H j) rfl mi rfl ?_)
  refine wa_cons (fun _ => rfl) (we_is74 E i 5 hc rfl (by decide) (wraw_name 0 rfl (by walk_at "vis") rfl fun H j => hE _ H j) rfl mi rfl ?_)
  refine wa_nil ⟨by show 3 ≤ _; decide, ?_⟩
  refine ⟨_, _, rfl, rfl, by show 6 ≤ _; decide, ?_⟩
  refine wb_cons (ws_set 1 (by walk_at "tgt") (fun env h => by cases env; cases h; rfl) (we_cat ?_))
  walk_at "name"
  refine we_lst ?_
  refine wa_cons (fun _ => rfl) (we_is74 E i 6 hc rfl (by decide) (wraw_name 0 rfl (by walk_at "vis") rfl fun H j => hE _ H j) rfl mi rfl ?_)
  refine wa_cons (fun _ => rfl) (we_is74 E i 7 hc rfl (by decide) (wraw_name 0 rfl (by walk_at "vis") rfl fun H j => hE _ H j) rfl mi rfl ?_)
  refine wa_cons (fun _ => rfl) (we_is74 E i 8 hc rfl (by decide) (wraw_name 0 rfl (by walk_at "vis") rfl fun H j => hE _ H j) rfl mi rfl ?_)
  refine wa_cons (fun _ => rfl) (we_is74 E i 9 hc rfl (by decide) (wraw_name 0 rfl (by walk_at "vis") rfl fun H j => hE _ H j) rfl mi rfl ?_)
  refine wa_nil ⟨by show 4 ≤ _; decide, ?_⟩
  refine ⟨_, _, rfl, rfl, by show 10 ≤ _; decide, ?_⟩
  refine wb_cons (ws_ret (we_cat ?_))
  walk_at "name"
  refine we_lst ?_
  refine wa_cons (fun _ => rfl) (we_is74 E i 10 hc rfl (by decide) (wraw_name 0 rfl (by walk_at "vis") rfl fun H j => hE _ H j) rfl mi rfl ?_)
  refine wa_cons (fun _ => rfl) (we_is74 E i 11 hc rfl (by decide) (wraw_name 0 rfl (by walk_at "vis") rfl fun H j => hE _ H j) rfl mi rfl ?_)
  refine wa_cons (fun _ => rfl) (we_is74 E i 12 hc rfl (by decide) (wraw_name 0 rfl (by walk_at "vis") rfl fun H j => hE _ H j) rfl mi rfl ?_)
  refine wa_cons (fun _ => rfl) (we_is74 E i 13 hc rfl (by decide) (wraw_name 0 rfl (by walk_at "vis") rfl fun H j => hE _ H j) rfl mi rfl ?_)
  refine wa_nil ⟨by show 4 ≤ _; decide, ?_⟩
  exact ⟨_, _, rfl, rfl, by show 14 ≤ _; decide, rfl⟩
end

abbrev nEr74 : List Str := ["_law_value", "_law_some", "_law_k", "_law_bases", "_law_fields", "_law_j", "_law_field"]
theorem scEr74 : FnScope nEr74 ["_law_value"] (defScope (topS 67)) := ⟨rfl, rfl, rfl, by decide +kernel, rfl, by decide +kernel, by decide +kernel⟩
def Rer74 : Rel := fun ds d => ∃ u, ds = [u] ∧ u ∈ vals74 ∧ d = .bool true
section
variable {P : Program} {w : World} {K : PySem.W.Frag} {mg : Str → Option Value} {base : Heap}
theorem ok_er74 {cs : List Addr} {bx : Addr} {f : Addr} {fd : FuncData} (Fn : Fun K "_law_errors_right" "_law_errors_right" (topS 67) f fd) (mr : mg "range" = none) (mi : mg "isinstance" = none) (mv : mg "ValueError" = none) (mL : mg "LookupError" = none) (mp : mg "repr" = none) (E : Ers K mg cs bx)
    (X0 : ∀ (i : Nat) (c : Addr) (x : Str), i < 3 → cs[i]? = some c → namesE[i]? = some x → XCl0 K mg x c) (XG : ∀ (i : Nat) (c : Addr) (x y : Str), 3 ≤ i → cs[i]? = some c → namesE[i]? = some x → fldE[i]? = some y → XClG P w K mg base x c y) (gf : EFn P w K mg base 2 "_law_flags" (Rfl74 cs)) : FnG P w K mg base 3 f fd ["_law_value"] (spPure K Rer74) := by
  refine pure_ok (k := 2) Fn scEr74 (fun ds d ⟨u, e, _⟩ => by rw [e]; rfl) (fun F ds d hK ⟨u, e, hu, ed⟩ => ?_)
  subst e ed
  obtain ⟨⟨u1, u2, u3⟩, u4, u5⟩ := vals_ok u hu
  obtain ⟨c0, c1, c2, c3, c4, c5, c6, c7, c8, c9, c10, c11, c12, c13, ecs⟩ : ∃ c0 c1 c2 c3 c4 c5 c6 c7 c8 c9 c10 c11 c12 c13, cs = [c0, c1, c2, c3, c4, c5, c6, c7, c8, c9, c10, c11, c12, c13] := by
    match cs, E.len with
    | [a0, a1, a2, a3, a4, a5, a6, a7, a8, a9, a10, a11, a12, a13], _ => exact ⟨a0, a1, a2, a3, a4, a5, a6, a7, a8, a9, a10, a11, a12, a13, rfl⟩
  subst ecs
  refine wb_errs 1 (by walk_at "tgt") (fun env h => by cases env; cases h; rfl) (by show 6 ≤ _; decide) (werrs_cons (werr_0 (X0 0 _ _ (by decide) rfl rfl) rfl) (werrs_cons (werr_0 (X0 1 _ _ (by decide) rfl rfl) rfl) (werrs_cons (werr_0 (X0 2 _ _ (by decide) rfl rfl) rfl) (werrs_cons (werr_V (werr_G (XG 3 _ _ _ (by decide) rfl rfl rfl) (by show 2 ≤ 2; decide) rfl (wn_name 0 rfl (by walk_at "vis") rfl rfl))) (werrs_cons (werr_V (werr_G (XG 4 _ _ _ (by decide) rfl rfl rfl) (by show 2 ≤ 2; decide) rfl (wn_name 0 rfl (by walk_at "vis") rfl rfl))) (werrs_cons (werr_V (werr_G (XG 5 _ _ _ (by decide) rfl rfl rfl) (by show 2 ≤ 2; decide) rfl (wn_name 0 rfl (by walk_at "vis") rfl rfl))) werrs_nil)))))) (fun F1 o1 hK1 hE1 => ?_)
  refine wb_errsCat 1 (by walk_at "tgt") (by walk_at "vis") rfl hE1 (fun env h => by cases env; cases h; rfl) (by show 6 + 5 ≤ _; decide) (werrs_cons (werr_V (werr_G (XG 6 _ _ _ (by decide) rfl rfl rfl) (by show 2 ≤ 2; decide) rfl (wn_name 0 rfl (by walk_at "vis") rfl rfl))) (werrs_cons (werr_V (werr_G (XG 7 _ _ _ (by decide) rfl rfl rfl) (by show 2 ≤ 2; decide) rfl (wn_name 0 rfl (by walk_at "vis") rfl rfl))) (werrs_cons (werr_V (werr_G (XG 8 _ _ _ (by decide) rfl rfl rfl) (by show 2 ≤ 2; decide) rfl (wn_name 0 rfl (by walk_at "vis") rfl rfl))) (werrs_cons (werr_V (werr_G (XG 9 _ _ _ (by decide) rfl rfl rfl) (by show 2 ≤ 2; decide) rfl (wn_name 0 rfl (by walk_at "vis") rfl rfl))) (werrs_cons (werr_V (werr_G (XG 10 _ _ _ (by decide) rfl rfl rfl) (by show 2 ≤ 2; decide) rfl (wn_name 0 rfl (by walk_at "vis") rfl rfl))) werrs_nil))))) (fun F2 o2 hK2 hE2 => ?_)
  refine wb_errsCat 1 (by walk_at "tgt") (by walk_at "vis") rfl hE2 (fun env h => by cases env; cases h; rfl) (by show 11 + 3 ≤ _; decide) (werrs_cons (werr_V (werr_G (XG 11 _ _ _ (by decide) rfl rfl rfl) (by show 2 ≤ 2; decide) rfl (wn_name 0 rfl (by walk_at "vis") rfl rfl))) (werrs_cons (werr_V (werr_G (XG 12 _ _ _ (by decide) rfl rfl rfl) (by show 2 ≤ 2; decide) rfl (wn_name 0 rfl (by walk_at "vis") rfl rfl))) (werrs_cons (werr_V (werr_G (XG 13 _ _ _ (by decide) rfl rfl rfl) (by show 2 ≤ 2; decide) rfl (wn_name 0 rfl (by walk_at "vis") rfl rfl))) werrs_nil))) (fun F3 o3 hK3 hE3 => ?_)
  have hKo : F3.K = K := hK3.trans (hK2.trans (hK1.trans hK))
  have hEr : HasErrs F3 o3 [c0, c1, c2, c3, c4, c5, c6, c7, c8, c9, c10, c11, c12, c13] := hE3
  clear hE1 hE2 hE3 hK1 hK2 hK3
  refine wb_cons (ws_for_range 2 (by walk_at "tgt") rfl mr (fun _ => rfl) (fun _ _ => rfl) (we_int ?_))
  refine ⟨fun j k' ρ' => ∃ x2 x3, ρ' = [.d u, .raw (.ref o3), x2, x3, .un, .un, .un], 14, rfl, by omega, by omega, ⟨.un, .un, rfl⟩, ?_, ?_⟩
  · rintro j k' ρ' hj ⟨x2, x3, rfl⟩
    have hj : j < 14 := hj
    obtain ⟨s1, q1, s2, q2⟩ := flD_ok j hj
    obtain ⟨c, hc⟩ : ∃ c, ([c0, c1, c2, c3, c4, c5, c6, c7, c8, c9, c10, c11, c12, c13] : List Addr)[j]? = some c := ⟨_, List.getElem?_eq_getElem hj⟩
    refine wb_cons (ws_set 3 (by walk_at "tgt") (fun env h => by cases env; cases h; rfl) (we_lst ?_))
    refine wa_cons (fun _ => rfl) (we_isErr (E.ex j c hc).1 (raw74 1 2 hKo hEr rfl (by walk_at "vis") rfl rfl (by walk_at "vis") rfl hc) rfl mi rfl E.mb (E.kb j c hc) ?_)
    refine wa_cons (fun _ => rfl) (we_isErrB "ValueError" (E.ex j c hc).1 (raw74 1 2 hKo hEr rfl (by walk_at "vis") rfl rfl (by walk_at "vis") rfl hc) rfl mi rfl mv (by decide +kernel) (E.kv j c hc) ?_)
    refine wa_cons (fun _ => rfl) (we_isErrB "LookupError" (E.ex j c hc).1 (raw74 1 2 hKo hEr rfl (by walk_at "vis") rfl rfl (by walk_at "vis") rfl hc) rfl mi rfl mL (by decide +kernel) (E.kl j c hc) ?_)
    refine wa_nil ⟨by show 3 ≤ _; decide, ?_⟩
    refine wb_cons (ws_if (wt_bool (ww_or (wt_ne hKo (we_callErr gf (by show 2 ≤ 2; decide) hKo rfl (raw74 1 2 hKo hEr rfl (by walk_at "vis") rfl rfl (by walk_at "vis") rfl hc) ⟨j, hc, rfl⟩ ?_)))))
    refine we_compR0 5 (by walk_at "blk") rfl mr (fun _ => rfl) (fun _ _ => rfl) (we_int ?_)
    refine ⟨fun n k'' acc => acc = (List.range n).map fun i : Nat => PyData.bool (decide ((i : Int) = (j : Int))), 14, rfl, by omega, by omega, rfl, ?_, ?_⟩
    · rintro D n k'' acc hn rfl
      refine we_eqI ?_
      walk_at "name"
      walk_at "name"
      refine ⟨_, _, rfl, rfl, ?_⟩
      show _ = (List.range (n + 1)).map _
      rw [List.range_succ, List.map_append]
      rfl
    · rintro k'' acc rfl
      refine ⟨s1, s1, ?_⟩
      show if (!PyData.eqv (flD j) (flD j)) = true then _ else _
      rw [q1]
      refine itN rfl (ww_or1 (wt_ne hKo ?_))
      walk_at "name"
      refine we_lst (wa_cons (fun _ => rfl) (we_lt ?_))
      walk_at "name"
      refine we_int ⟨_, _, rfl, rfl, ?_⟩
      refine wa_cons (fun _ => rfl) (we_lt ?_)
      walk_at "name"
      refine we_int ⟨_, _, rfl, rfl, ?_⟩
      refine wa_cons (fun _ => rfl) (we_gt ?_)
      walk_at "name"
      refine we_int ⟨_, _, rfl, rfl, ?_⟩
      refine wa_nil ⟨by show 3 ≤ _; decide, s2, s2, ?_⟩
      show if (!PyData.eqv (baD j) (baD j)) = true then _ else _
      rw [q2]
      exact itN rfl (wb_nil (wb_nil ⟨_, _, rfl⟩))
  · rintro k' ρ' ⟨x2, x3, rfl⟩
    refine wb_cons (ws_set 4 (by walk_at "tgt") (fun env h => by cases env; cases h; rfl) (we_lst ?_))
    refine wa_cons (fun _ => rfl) (we_errF (E.ex 3 _ rfl).2 (E.no 3 _ _ rfl rfl) (werr_G (XG 3 _ _ _ (by decide) rfl rfl rfl) (by show 2 ≤ 2; decide) rfl (wn_name 0 rfl (by walk_at "vis") rfl rfl)) ?_)
    refine wa_cons (fun _ => rfl) (we_errF (E.ex 4 _ rfl).2 (E.no 4 _ _ rfl rfl) (werr_G (XG 4 _ _ _ (by decide) rfl rfl rfl) (by show 2 ≤ 2; decide) rfl (wn_name 0 rfl (by walk_at "vis") rfl rfl)) ?_)
    refine wa_cons (fun _ => rfl) (we_errF (E.ex 5 _ rfl).2 (E.no 5 _ _ rfl rfl) (werr_G (XG 5 _ _ _ (by decide) rfl rfl rfl) (by show 2 ≤ 2; decide) rfl (wn_name 0 rfl (by walk_at "vis") rfl rfl)) ?_)
    refine wa_cons (fun _ => rfl) (we_errF (E.ex 6 _ rfl).2 (E.no 6 _ _ rfl rfl) (werr_G (XG 6 _ _ _ (by decide) rfl rfl rfl) (by show 2 ≤ 2; decide) rfl (wn_name 0 rfl (by walk_at "vis") rfl rfl)) ?_)
    refine wa_nil ⟨by show 4 ≤ _; decide, ?_⟩
    refine wb_cons (ws_set 4 (by walk_at "tgt") (fun env h => by cases env; cases h; rfl) (we_cat ?_))
    walk_at "name"
    refine we_lst ?_
    refine wa_cons (fun _ => rfl) (we_errF (E.ex 7 _ rfl).2 (E.no 7 _ _ rfl rfl) (werr_G (XG 7 _ _ _ (by decide) rfl rfl rfl) (by show 2 ≤ 2; decide) rfl (wn_name 0 rfl (by walk_at "vis") rfl rfl)) ?_)
    refine wa_cons (fun _ => rfl) (we_errF (E.ex 8 _ rfl).2 (E.no 8 _ _ rfl rfl) (werr_G (XG 8 _ _ _ (by decide) rfl rfl rfl) (by show 2 ≤ 2; decide) rfl (wn_name 0 rfl (by walk_at "vis") rfl rfl)) ?_)
    refine wa_cons (fun _ => rfl) (we_errF (E.ex 9 _ rfl).2 (E.no 9 _ _ rfl rfl) (werr_G (XG 9 _ _ _ (by decide) rfl rfl rfl) (by show 2 ≤ 2; decide) rfl (wn_name 0 rfl (by walk_at "vis") rfl rfl)) ?_)
    refine wa_cons (fun _ => rfl) (we_errF (E.ex 10 _ rfl).2 (E.no 10 _ _ rfl rfl) (werr_G (XG 10 _ _ _ (by decide) rfl rfl rfl) (by show 2 ≤ 2; decide) rfl (wn_name 0 rfl (by walk_at "vis") rfl rfl)) ?_)
    refine wa_nil ⟨by show 4 ≤ _; decide, ?_⟩
    refine ⟨_, _, rfl, rfl, by show 8 ≤ _; decide, ?_⟩
    refine wb_cons (ws_set 4 (by walk_at "tgt") (fun env h => by cases env; cases h; rfl) (we_cat ?_))
    walk_at "name"
    refine we_lst ?_
    refine wa_cons (fun _ => rfl) (we_errF (E.ex 11 _ rfl).2 (E.no 11 _ _ rfl rfl) (werr_G (XG 11 _ _ _ (by decide) rfl rfl rfl) (by show 2 ≤ 2; decide) rfl (wn_name 0 rfl (by walk_at "vis") rfl rfl)) ?_)
    refine wa_cons (fun _ => rfl) (we_errF (E.ex 12 _ rfl).2 (E.no 12 _ _ rfl rfl) (werr_G (XG 12 _ _ _ (by decide) rfl rfl rfl) (by show 2 ≤ 2; decide) rfl (wn_name 0 rfl (by walk_at "vis") rfl rfl)) ?_)
    refine wa_cons (fun _ => rfl) (we_errF (E.ex 13 _ rfl).2 (E.no 13 _ _ rfl rfl) (werr_G (XG 13 _ _ _ (by decide) rfl rfl rfl) (by show 2 ≤ 2; decide) rfl (wn_name 0 rfl (by walk_at "vis") rfl rfl)) ?_)
    refine wa_nil ⟨by show 3 ≤ _; decide, ?_⟩
    refine ⟨_, _, rfl, rfl, by show 11 ≤ _; decide, ?_⟩
    refine wb_cons (ws_ret (we_eq hKo (we_compL0 6 (by walk_at "blk") hKo (fun _ _ => rfl) ?_)))
    walk_at "name"
    refine ⟨fun n k'' acc => acc = List.replicate n (.str u.shown), List.replicate 11 u, rfl, by show 11 ≤ _; decide, rfl, ?_, ?_⟩
    · rintro D n y k'' acc hy rfl
      have ey : y = u := List.eq_of_mem_replicate (List.mem_of_getElem? hy)
      subst ey
      refine we_reprA hKo rfl mp (fun _ => rfl) ?_
      walk_at "name"
      refine ⟨⟨u1, u2, by rw [sizeLine_eq]; omega⟩, ?_⟩
      show _ = List.replicate (n + 1) _
      rw [List.replicate_succ']
    · rintro k'' acc rfl
      refine we_repL (we_lst (wa_cons (fun _ => rfl) (we_reprA hKo rfl mp (fun _ => rfl) ?_)))
      walk_at "name"
      refine ⟨⟨u1, u2, by rw [sizeLine_eq]; omega⟩, wa_nil ⟨by show 1 ≤ _; decide, we_int ⟨[.str u.shown], 11, rfl, rfl, by omega, by show 1 ≤ _; decide, u4, u4, ?_⟩⟩⟩
      show PyData.bool (PyData.eqv _ (.list (List.replicate 11 [PyData.str u.shown]).flatten)) = _
      show PyData.bool (PyData.eqv (.list (List.replicate 11 (.str u.shown))) (.list (List.replicate 11 (.str u.shown)))) = _
      rw [u5]
end


abbrev nMg : List Str := ["self", "many"]
theorem scMg : FnScope nMg ["self", "many"] (defScope (mS 54 8)) := ⟨rfl, rfl, rfl, by decide +kernel, rfl, by decide +kernel, by decide +kernel⟩
def PmBack : Pg → List PyData → Prop := fun g ds => ∃ m : Nat, ds = [.int (m : Int)] ∧ m ≤ g.2.length
def RmBack : Pg → List PyData → Pg → PyData → Prop := fun g ds g' d => ∃ m : Nat, ds = [.int (m : Int)] ∧ g' = (g.1.take (m + 1), g.2.take m) ∧ d = .int (m : Int)
section
variable {P : Program} {w : World} {K : PySem.W.Frag} {mg : Str → Option Value} {base : Heap} {C : Addr}
theorem ok_mback {f : Addr} {fd : FuncData} (pc : PiC K C) (Fn : Fun K "go_back" "Deck.go_back" (mS 54 8) f fd) (ml : mg "len" = none) : FnG P w K mg base 1 f fd ["self", "many"] (spPi K C PmBack RmBack) := by
  refine pi_ok (k := 0) Fn scMg (fun g ds ⟨m, e, _⟩ => by rw [e]; rfl) (fun F a dx ds g pi hK ⟨m, e, hm⟩ => ?_)
  subst e
  refine wb_cons (ws_pcutS pc pi hK 0 rfl (.inl rfl) rfl (wn_add (wn_name 1 rfl (.inl rfl) rfl (wn_int ⟨_, _, rfl, rfl, m + 1, rfl, ?_⟩))))
  refine wb_cons (ws_pcutD pc pi hK 0 rfl (.inl rfl) rfl (wn_name 1 rfl (.inl rfl) rfl ⟨m, rfl, ?_⟩))
  refine wb_cons (ws_ret (we_plenD pc pi 0 rfl (.inl rfl) rfl rfl ml ?_))
  exact ⟨_, rfl, m, rfl, rfl, by show PyData.int (((g.2.take m).length : Nat) : Int) = _; rw [List.length_take, Nat.min_eq_left hm]⟩
end

abbrev nMu : List Str := ["self"]
theorem scMu : FnScope nMu ["self"] (defScope (mS 54 7)) := ⟨rfl, rfl, rfl, by decide +kernel, rfl, by decide +kernel, by decide +kernel⟩
def PmUndo : Pg → List PyData → Prop := fun g ds => ds = [] ∧ 0 < g.2.length
def RmUndo : Pg → List PyData → Pg → PyData → Prop := fun g _ g' d => ∃ m : Nat, g.2.length = m + 1 ∧ g' = (g.1.take (m + 1), g.2.take m) ∧ d = .int (m : Int)
section
variable {P : Program} {w : World} {K : PySem.W.Frag} {mg : Str → Option Value} {base : Heap} {C : Addr}
theorem ok_mundo {f : Addr} {fd : FuncData} (pc : PiC K C) (Fn : Fun K "undo" "Deck.undo" (mS 54 7) f fd) (ml : mg "len" = none) (gb : PiM P w K mg base C 1 "go_back" [] PmBack RmBack) : FnG P w K mg base 2 f fd ["self"] (spPi K C PmUndo RmUndo) := by
  refine pi_ok (k := 1) Fn scMu (fun g ds ⟨e, _⟩ => by rw [e]; rfl) (fun F a dx ds g pi hK ⟨e, hl⟩ => ?_)
  subst e
  obtain ⟨m, hm⟩ : ∃ m, g.2.length = m + 1 := ⟨g.2.length - 1, by omega⟩
  refine wb_cons (ws_if (wt_eqI ?_))
  refine we_plenD pc pi 0 rfl (.inl rfl) rfl rfl ml (we_int ⟨_, _, rfl, rfl, itN (decide_eq_false (by omega)) (wb_nil ?_)⟩)
  refine wb_cons (ws_ret (we_pm pi gb (by show 1 ≤ 1; decide) hK 0 rfl (.inl rfl) rfl ⟨by decide, by decide⟩ (wa_cons (fun _ => rfl) (we_sub ?_))))
  have em : ((g.2.length : Nat) : Int) - 1 = (m : Int) := by omega
  refine we_plenD pc pi 0 rfl (.inl rfl) rfl rfl ml (we_int ⟨_, _, rfl, rfl, ?_⟩)
  rw [em]
  refine wa_nil ⟨Enc.enc, g, pi, rfl, ⟨m, rfl, by omega⟩, ?_⟩
  rintro g' d ⟨m', e, rfl, rfl⟩
  have : m' = m := by
    have := PyData.int.inj (List.cons.inj e).1
    omega
  subst this
  exact ⟨_, rfl, m', hm, rfl, rfl⟩
end

abbrev nMq2 : List Str := ["self", "other"]
theorem scMq4 : FnScope nMq2 ["self", "other"] (defScope (mS 54 19)) := ⟨rfl, rfl, rfl, by decide +kernel, rfl, by decide +kernel, by decide +kernel⟩
def PmEq : Pg → Pg → Prop := fun g g' => g.1 ≠ [] ∧ g'.1 ≠ []
def RmEq : Pg → Pg → Bool → Prop := fun g g' c => ∃ (n m : Nat) (cs es : List Int), g.1.getLast? = some (n, cs) ∧ g'.1.getLast? = some (m, es) ∧ c = decide (n = m ∧ cs = es)
section
variable {P : Program} {w : World} {K : PySem.W.Frag} {mg : Str → Option Value} {base : Heap} {C CS : Addr}
theorem ok_meq {f : Addr} {fd : FuncData} (pc : PiC K C) (pi : PiI K C) (Fn : Fun K "__eq__" "Deck.__eq__" (mS 54 19) f fd) (mi : mg "isinstance" = none) (mD : mg "Deck" = some (.ref C)) (mDS : mg "SmoothDeck" = some (.ref CS)) (k1 : PySem.W.kitOne K (.ref C) (.ref C) = some true) (k2 : PySem.W.kitOne K (.ref C) (.ref CS) = some false) : FnG P w K mg base 1 f fd ["self", "other"] (spEqD K C C PmEq RmEq) := by
  refine eqD_ok (k := 0) Fn scMq4 (fun F a dx b dy g g' hK rd1 rd2 ⟨h1, h2⟩ => ?_)
  obtain ⟨⟨n, cs⟩, l1⟩ : ∃ b, g.1.getLast? = some b := ⟨_, List.getLast?_eq_some_getLast h1⟩
  obtain ⟨⟨m, es⟩, l2⟩ : ∃ b, g'.1.getLast? = some b := ⟨_, List.getLast?_eq_some_getLast h2⟩
  have ia : ∀ k H, J F k H → ∃ dx fs, H a = some (.ins C dx fs) := fun k H j => by obtain ⟨s, t, d⟩ := rd1 k H j; exact ⟨_, _, d.ia⟩
  have ib : ∀ k H, J F k H → ∃ dx fs, H b = some (.ins C dx fs) := fun k H j => by obtain ⟨s, t, d⟩ := rd2 k H j; exact ⟨_, _, d.ia⟩
  refine wb_cons (ws_if (wt_bool (ww_or (wt_not (wt_val (fun _ _ => rfl) ?_)))))
  refine we_isiO pi (ib 0) 1 rfl (.inl rfl) rfl rfl mi rfl mD k1 ⟨true, rfl, itN rfl (ww_or1 (wt_ne hK ?_))⟩
  refine we_isiO pi (ia 0) 0 rfl (.inl rfl) rfl rfl mi rfl mDS k2 ?_
  refine we_isiO pi (ib 0) 1 rfl (.inl rfl) rfl rfl mi rfl mDS k2 ⟨rfl, rfl, ?_⟩
  refine iteNl (m := 0) rfl (Ld.bool _) (wb_nil ?_)
  refine wb_cons (ws_ret (we_eq hK ?_))
  refine we_pixR pc (rd1 0) hK 0 rfl (.inl rfl) rfl (fun _ _ => rfl) (wn_neg (wn_int ⟨1, rfl, -1, (n, cs), rfl, atI_last l1, ?_⟩))
  refine we_pixR pc (rd2 0) hK 1 rfl (.inl rfl) rfl (fun _ _ => rfl) (wn_neg (wn_int ⟨1, rfl, -1, (m, es), rfl, atI_last l2, ?_⟩))
  refine ⟨(Ld.box n cs).shaped (by decide), (Ld.box m es).shaped (by decide), _, rfl, n, m, cs, es, l1, l2, ?_⟩
  exact eqv_box n m cs es
end

def RmNo : Pg → Pg → Bool → Prop := fun _ _ c => c = false
section
variable {P : Program} {w : World} {K : PySem.W.Frag} {mg : Str → Option Value} {base : Heap} {C CS : Addr}
theorem ok_meqX {f : Addr} {fd : FuncData} (pi1 : PiI K CS) (pi2 : PiI K C) (Fn : Fun K "__eq__" "Deck.__eq__" (mS 54 19) f fd) (mi : mg "isinstance" = none) (mD : mg "Deck" = some (.ref C)) (mDS : mg "SmoothDeck" = some (.ref CS)) (k2 : PySem.W.kitOne K (.ref C) (.ref CS) = some false) : FnG P w K mg base 1 f fd ["self", "other"] (spEqD K CS C PmEq RmNo) := by
  refine eqD_ok (k := 0) Fn scMq4 (fun F a dx b dy g g' hK rd1 rd2 _ => ?_)
  have ia : ∀ k H, J F k H → ∃ dx fs, H a = some (.ins CS dx fs) := fun k H j => by obtain ⟨s, t, d⟩ := rd1 k H j; exact ⟨_, _, d.ia⟩
  have ib : ∀ k H, J F k H → ∃ dx fs, H b = some (.ins C dx fs) := fun k H j => by obtain ⟨s, t, d⟩ := rd2 k H j; exact ⟨_, _, d.ia⟩
  refine wb_cons (ws_if (wt_bool (ww_or (wt_not (wt_val (fun _ _ => rfl) ?_)))))
  refine we_isiO pi2 (ib 0) 1 rfl (.inl rfl) rfl rfl mi rfl mD kit_self ⟨true, rfl, itN rfl (ww_or1 (wt_ne hK ?_))⟩
  refine we_isiO pi1 (ia 0) 0 rfl (.inl rfl) rfl rfl mi rfl mDS kit_self ?_
  refine we_isiO pi2 (ib 0) 1 rfl (.inl rfl) rfl rfl mi rfl mDS k2 ⟨rfl, rfl, ?_⟩
  exact itP (by decide +kernel) (wb_cons (ws_ret (we_bl ⟨false, rfl, rfl⟩)))
theorem ok_meqS {f : Addr} {fd : FuncData} (pc : PiC K CS) (pi : PiI K CS) (Fn : Fun K "__eq__" "Deck.__eq__" (mS 54 19) f fd) (mi : mg "isinstance" = none) (mD : mg "Deck" = some (.ref C)) (mDS : mg "SmoothDeck" = some (.ref CS)) (k1 : PySem.W.kitOne K (.ref CS) (.ref C) = some true) : FnG P w K mg base 1 f fd ["self", "other"] (spEqD K CS CS PmEq RmEq) := by
  refine eqD_ok (k := 0) Fn scMq4 (fun F a dx b dy g g' hK rd1 rd2 ⟨h1, h2⟩ => ?_)
  obtain ⟨⟨n, cs⟩, l1⟩ : ∃ b, g.1.getLast? = some b := ⟨_, List.getLast?_eq_some_getLast h1⟩
  obtain ⟨⟨m, es⟩, l2⟩ : ∃ b, g'.1.getLast? = some b := ⟨_, List.getLast?_eq_some_getLast h2⟩
  have ia : ∀ k H, J F k H → ∃ dx fs, H a = some (.ins CS dx fs) := fun k H j => by obtain ⟨s, t, d⟩ := rd1 k H j; exact ⟨_, _, d.ia⟩
  have ib : ∀ k H, J F k H → ∃ dx fs, H b = some (.ins CS dx fs) := fun k H j => by obtain ⟨s, t, d⟩ := rd2 k H j; exact ⟨_, _, d.ia⟩
  refine wb_cons (ws_if (wt_bool (ww_or (wt_not (wt_val (fun _ _ => rfl) ?_)))))
  refine we_isiO pi (ib 0) 1 rfl (.inl rfl) rfl rfl mi rfl mD k1 ⟨true, rfl, itN rfl (ww_or1 (wt_ne hK ?_))⟩
  refine we_isiO pi (ia 0) 0 rfl (.inl rfl) rfl rfl mi rfl mDS kit_self ?_
  refine we_isiO pi (ib 0) 1 rfl (.inl rfl) rfl rfl mi rfl mDS kit_self ⟨rfl, rfl, ?_⟩
  refine iteNl (m := 0) rfl (Ld.bool _) (wb_nil ?_)
  refine wb_cons (ws_ret (we_eq hK ?_))
  refine we_pixR pc (rd1 0) hK 0 rfl (.inl rfl) rfl (fun _ _ => rfl) (wn_neg (wn_int ⟨1, rfl, -1, (n, cs), rfl, atI_last l1, ?_⟩))
  refine we_pixR pc (rd2 0) hK 1 rfl (.inl rfl) rfl (fun _ _ => rfl) (wn_neg (wn_int ⟨1, rfl, -1, (m, es), rfl, atI_last l2, ?_⟩))
  refine ⟨(Ld.box n cs).shaped (by decide), (Ld.box m es).shaped (by decide), _, rfl, n, m, cs, es, l1, l2, ?_⟩
  exact eqv_box n m cs es
end

def tysO : List String := ["NoneType", "int", "str", "tuple", "list", "dict"]
def PreO : PyData → Prop := fun d => tyN d ∈ tysO
def oddB (K : PySem.W.Frag) (C : Addr) : Bool := tysO.all fun n => PySem.W.notFirst K C (.type n) && decide (PySem.W.kitOne K (.type n) (.ref C) = some false)
theorem oddB_ok {K : PySem.W.Frag} {C : Addr} (h : oddB K C = true) (n : String) (hn : n ∈ tysO) : PySem.W.notFirst K C (.type n) = true ∧ PySem.W.kitOne K (.type n) (.ref C) = some false := by
  obtain ⟨h1, h2⟩ := Bool.and_eq_true_iff.mp (List.all_eq_true.mp h n hn)
  exact ⟨h1, of_decide_eq_true h2⟩
section
variable {P : Program} {w : World} {K : PySem.W.Frag} {mg : Str → Option Value} {base : Heap} {C CS : Addr}
theorem ok_meqO {f : Addr} {fd : FuncData} (Fn : Fun K "__eq__" "Deck.__eq__" (mS 54 19) f fd) (mi : mg "isinstance" = none) (mD : mg "Deck" = some (.ref C)) (hk : ∀ n ∈ tysO, PySem.W.kitOne K (.type n) (.ref C) = some false) : FnG P w K mg base 1 f fd ["self", "other"] (spEqV K C PreO) := by
  refine eqV_ok (k := 0) Fn scMq4 (fun F a d hK ia hp => ?_)
  refine wb_cons (ws_if (wt_bool (ww_or (wt_not (wt_val (fun _ _ => rfl) ?_)))))
  refine we_isiV (r := false) hK rfl mi rfl mD ?_
  walk_at "name"
  exact ⟨hk _ hp, false, rfl, itP rfl (wb_cons (ws_ret (we_bl rfl)))⟩
end


abbrev nBx : List Str := ["_law_deck_here", "_law_most", "_law_n"]
theorem scBx : FnScope nBx ["_law_deck_here", "_law_most"] (defScope (topS 62)) := ⟨rfl, rfl, rfl, by decide +kernel, rfl, by decide +kernel, by decide +kernel⟩
def PreMo : List PyData → Prop := fun ds => ∃ m : Nat, ds = [.int (m : Int)] ∧ m ≤ 6
def RBx : Rel := fun ds d => ∃ (m n : Nat) (cs : List Int), ds = [.int (m : Int)] ∧ n ≤ m ∧ m ≤ 6 ∧ IsBox n cs ∧ d = boxD n cs
theorem RBx.one {m : Nat} {d : PyData} (h : RBx [.int (m : Int)] d) : ∃ (n : Nat) (cs : List Int), n ≤ m ∧ m ≤ 6 ∧ IsBox n cs ∧ d = boxD n cs := by
  obtain ⟨m', n, cs, e, h1, h2, h3, h4⟩ := h
  have : m' = m := by
    have := PyData.int.inj (List.cons.inj e).1
    omega
  subst this
  exact ⟨n, cs, h1, h2, h3, h4⟩
section
variable {P : Program} {w : World} {K : PySem.W.Frag} {mg : Str → Option Value} {base : Heap}
theorem ok_bx {f : Addr} {fd : FuncData} (Fn : Fun K "_law_box" "_law_box" (topS 62) f fd) (mt : mg "tuple" = none) (gn : DFnQ P w K mg base 1 "_law_draw" 1 PreNext RNext) (gc : DFnQ P w K mg base 3 "_law_cards" 66 PreN RCd83) : FnG P w K mg base 4 f fd ["_law_deck_here", "_law_most"] (spDrawQ K 67 PreMo RBx) := by
  refine draw_okQ (k := 3) Fn scBx (fun ds ⟨m, e, _⟩ => by rw [e]; rfl) (fun F s a ds kk dk hK ⟨m, e, hm⟩ => ?_)
  subst e
  refine wb_cons (ws_set 2 (by walk_at "tgt") (fun env h => by cases env; cases h; rfl) ?_)
  repeat walk_at "dq"
  refine ⟨⟨_, rfl, by omega, by omega⟩, kk + 66, rfl, ?_⟩
  rintro d ⟨m', v, e1, rfl, v0, v1⟩
  cases e1
  obtain ⟨n, rfl⟩ : ∃ n : Nat, v = (n : Int) := ⟨v.toNat, by omega⟩
  refine wb_cons (ws_ret (we_tup (wa_cons (fun _ => rfl) ?_)))
  walk_at "name"
  refine wa_cons (fun _ => rfl) (we_tuple hK rfl mt (fun _ => rfl) ?_)
  repeat walk_at "dq"
  refine ⟨⟨n, rfl, by omega⟩, kk, rfl, ?_⟩
  rintro d ⟨n', cs, e1, hb, rfl⟩
  have : n' = n := by
    have := PyData.int.inj (List.cons.inj e1).1
    omega
  subst this
  exact ⟨_, rfl, wa_nil ⟨by show 2 ≤ _; decide, by omega, m, n', cs, rfl, by omega, hm, hb, rfl⟩⟩
end

abbrev nEdt : List Str := ["_law_deck_here", "_law_box_here", "_law_n", "_law_cards_here", "_law_way", "_law_card"]
theorem scEdt : FnScope nEdt ["_law_deck_here", "_law_box_here"] (defScope (topS 64)) := ⟨rfl, rfl, rfl, by decide +kernel, rfl, by decide +kernel, by decide +kernel⟩
def PreEdt : List PyData → Prop := fun ds => ∃ (n : Nat) (cs : List Int), ds = [boxD n cs] ∧ n ≤ 6 ∧ IsBox n cs
def REdt : Rel := fun ds d => ∃ (n : Nat) (cs : List Int) (e : Nat × Int), ds = [boxD n cs] ∧ EdFit n cs e ∧ d = edP e
theorem pickAR (n : Nat) (cs : List Int) (v : Int) (h0 : 0 ≤ v) (h1 : v < 2 ^ n) : ∃ t : Nat, EdFit n cs (t, v) ∧ ixD (.list [.str "add", .str "remove"]) (.int (if decide (v ∈ cs) then 1 else 0)) = some (.str (wordS t)) := by
  by_cases hm : v ∈ cs
  · exact ⟨1, .inr (.inl ⟨rfl, hm⟩), by rw [decide_eq_true hm]; rfl⟩
  · exact ⟨0, .inl ⟨rfl, ⟨h0, h1⟩, hm⟩, by rw [decide_eq_false hm]; rfl⟩
theorem pickFP (z : Int) (h0 : 0 ≤ z) (h1 : z < 2) : ∃ t : Nat, (t = 2 ∨ t = 3) ∧ ixD (.list [.str "flip", .str "press"]) (.int z) = some (.str (wordS t)) := by
  have : z = 0 ∨ z = 1 := by omega
  rcases this with rfl | rfl
  · exact ⟨2, .inl rfl, rfl⟩
  · exact ⟨3, .inr rfl, rfl⟩
section
variable {P : Program} {w : World} {K : PySem.W.Frag} {mg : Str → Option Value} {base : Heap}
theorem ok_edt {f : Addr} {fd : FuncData} (Fn : Fun K "_law_edit" "_law_edit" (topS 64) f fd) (mi : mg "int" = none) (gn : DFnQ P w K mg base 1 "_law_draw" 1 PreNext RNext) : FnG P w K mg base 2 f fd ["_law_deck_here", "_law_box_here"] (spDrawQ K 3 PreEdt REdt) := by
  refine draw_okQ (k := 1) Fn scEdt (fun ds ⟨_, _, e, _⟩ => by rw [e]; rfl) (fun F s a ds kk dk hK ⟨n, cs, e, hn, hb⟩ => ?_)
  subst e
  have hp := pow_le64 hn
  refine wb_cons (ws_asg2 2 3 (by decide) (by walk_at "tgt") (by walk_at "tgt") hK (fun _ => rfl) (fun _ => rfl) ?_)
  walk_at "name"
  refine ⟨.int (n : Int), .tuple (cs.map PyData.int), rfl, ?_⟩
  refine wb_cons (ws_set 4 (by walk_at "tgt") (fun env h => by cases env; cases h; rfl) ?_)
  repeat walk_at "dq"
  refine ⟨⟨_, rfl, by decide, by decide⟩, kk + 2, rfl, ?_⟩
  rintro d ⟨m', wy, e1, rfl, w0, w1⟩
  cases e1
  refine wb_cons (ws_set 5 (by walk_at "tgt") (fun env h => by cases env; cases h; rfl) ?_)
  repeat walk_at "dq"
  refine ⟨⟨by omega, by omega, by decide⟩, ?_⟩
  rw [one_shl]
  repeat walk_at "dq"
  refine ⟨⟨_, rfl, by omega, by omega⟩, kk + 1, rfl, ?_⟩
  rintro d ⟨m', v, e1, rfl, v0, v1⟩
  cases e1
  refine wb_cons (ws_if (wt_or2 (p := decide (wy < 4)) (q := decide ((n : Int) = 0)) (wt_lt ?_) (fun _ => wt_eqI ?_) ?_))
  · repeat walk_at "dx"
    exact ⟨rfl, rfl⟩
  · repeat walk_at "dx"
    exact ⟨rfl, rfl⟩
  cases hor : (decide (wy < 4) || decide ((n : Int) = 0)) with
  | true =>
    refine itP rfl (wb_cons (ws_ret (we_tup (wa_cons (fun _ => rfl) (we_ix hK (fun _ _ => rfl) ?_)))))
    refine we_lst (wa_cons (fun _ => rfl) (we_str (wa_cons (fun _ => rfl) (we_str (wa_nil ⟨by show 2 ≤ _; decide, ?_⟩)))))
    refine we_intB rfl mi (fun _ => rfl) (we_inI hK rfl ?_)
    walk_at "name"
    walk_at "name"
    obtain ⟨t, hf, hx⟩ := pickAR n cs v v0 v1
    refine ⟨v, cs, rfl, rfl, _, rfl, _, hx, wa_cons (fun _ => rfl) ?_⟩
    walk_at "name"
    exact wa_nil ⟨by show 2 ≤ _; decide, by omega, n, cs, (t, v), rfl, hf, rfl⟩
  | false =>
    rw [Bool.or_eq_false_iff, decide_eq_false_iff_not, decide_eq_false_iff_not] at hor
    refine itN rfl (wb_nil (wb_cons (ws_ret (we_tup (wa_cons (fun _ => rfl) (we_ix hK (fun _ _ => rfl) ?_))))))
    refine we_lst (wa_cons (fun _ => rfl) (we_str (wa_cons (fun _ => rfl) (we_str (wa_nil ⟨by show 2 ≤ _; decide, ?_⟩)))))
    repeat walk_at "dl"
    obtain ⟨t, ht, hx⟩ := pickFP (wy - 4) (by omega) (by omega)
    refine ⟨_, _, rfl, rfl, _, hx, wa_cons (fun _ => rfl) ?_⟩
    repeat walk_at "dq"
    refine ⟨⟨_, rfl, by omega, by omega⟩, kk, rfl, ?_⟩
    rintro d ⟨m', z, e1, rfl, z0, z1⟩
    cases e1
    refine wa_nil ⟨by show 2 ≤ _; decide, by omega, n, cs, (t, z), rfl, ?_, rfl⟩
    rcases ht with rfl | rfl
    · exact .inr (.inr (.inl ⟨rfl, z0, z1⟩))
    · exact .inr (.inr (.inr ⟨rfl, z0, z1⟩))
end


abbrev nAfS : List Str := ["_law_box_here", "_law_edit_here", "_law_word", "_law_value", "_law_n", "_law_cards_here", "_law_card", "_law_bit", "_law_found"]
theorem scAfS : FnScope nAfS ["_law_box_here", "_law_edit_here"] (defScope (topS 63)) := ⟨rfl, rfl, rfl, by decide +kernel, rfl, by decide +kernel, by decide +kernel⟩
def RafF : Rel := fun ds d => ∃ (n : Nat) (cs : List Int) (e : Nat × Int), ds = [boxD n cs, edP e] ∧ n ≤ 6 ∧ IsBox n cs ∧ EdFit n cs e ∧ d = boxD n (aftL n cs e)
theorem prc_law {n k : Nat} {cs : List Int} (hn : n ≤ 6) (hk : k < n) {c : Nat} (hc : c < 2 ^ n) : (decide (0 < Builtin.bitAnd (c : Int) (2 ^ k)) && !decide ((c : Int) - 2 ^ k ∈ cs)) = (bitB (c : Int) (k : Int) && !decide ((c : Int) - 1 * 2 ^ ((k : Nat) : Int).toNat ∈ cs)) := by
  rw [bit_nat, one_shl, ← bitp k (by omega) c (lt64 hn hc), cast2 k, band_nat]
  congr 1
  exact decide_eq_decide.mpr (by omega)
section
variable {P : Program} {w : World} {K : PySem.W.Frag} {mg : Str → Option Value} {base : Heap}
theorem ok_aftF {f : Addr} {fd : FuncData} (Fn : Fun K "_law_after" "_law_after" (topS 63) f fd) (mt : mg "tuple" = none) (ms : mg "sorted" = none) : FnG P w K mg base 1 f fd ["_law_box_here", "_law_edit_here"] (spPure K RafF) := by
  refine pure_ok (k := 0) Fn scAfS (fun ds d ⟨n, cs, c, e, _⟩ => by rw [e]; rfl) (fun F ds d hK ⟨n, cs, ⟨t, c⟩, e, hn, hb, hf, ed⟩ => ?_)
  subst e ed
  have hcl := box_len hn hb
  refine wb_cons (ws_asg2 2 3 (by decide) (by walk_at "tgt") (by walk_at "tgt") hK (fun _ => rfl) (fun _ => rfl) ?_)
  walk_at "name"
  refine ⟨.str (wordS t), .int c, rfl, ?_⟩
  refine wb_cons (ws_asg2 4 5 (by decide) (by walk_at "tgt") (by walk_at "tgt") hK (fun _ => rfl) (fun _ => rfl) ?_)
  walk_at "name"
  refine ⟨.int (n : Int), .tuple (cs.map PyData.int), rfl, ?_⟩
  refine wb_cons (ws_if (wt_eqT ?_))
  walk_at "name"
  refine we_str ⟨_, _, rfl, rfl, ?_⟩
  rcases hf with ⟨et, ⟨c0, c1⟩, hnc⟩ | ⟨et, hm⟩ | ⟨et, c0, c1⟩ | ⟨et, c0, c1⟩
  · have et : t = 0 := et
    subst et
    refine itP (decide_eq_true rfl) (wb_cons (ws_ret (we_tup (wa_cons (fun _ => rfl) ?_))))
    walk_at "name"
    refine wa_cons (fun _ => rfl) (we_tuple hK rfl mt (fun _ => rfl) ?_)
    refine we_sortedT hK rfl ms (fun _ => rfl) ?_
    refine we_catT hK ?_
    walk_at "name"
    refine we_tup (wa_cons (fun _ => rfl) ?_)
    walk_at "name"
    refine wa_nil ⟨by show 1 ≤ _; decide, cs.map PyData.int, [.int c], rfl, rfl, by rw [List.length_map]; show cs.length + 1 ≤ _; omega, cs ++ [c], by rw [List.map_append]; rfl, by rw [List.length_append]; show cs.length + 1 ≤ _; omega, fun ms' hp hw => ?_⟩
    refine ⟨_, rfl, wa_nil (tl2 ?_)⟩
    rw [addL_sorted hb c0 c1 hnc hp hw]
    rfl
  · have et : t = 1 := et
    subst et
    refine itN (decide_eq_false (by decide)) (wb_nil (wb_cons (ws_if (wt_eqT ?_))))
    walk_at "name"
    refine we_str ⟨_, _, rfl, rfl, ?_⟩
    refine itP (decide_eq_true rfl) (wb_cons (ws_ret (we_tup (wa_cons (fun _ => rfl) ?_))))
    walk_at "name"
    refine wa_cons (fun _ => rfl) (we_tuple hK rfl mt (fun _ => rfl) (we_fT (fun x => !decide (x = c)) PyData.int PyData.int 6 (by walk_at "blk") hK (fun _ _ => rfl) ?_))
    walk_at "name"
    refine ⟨cs, rfl, by omega, fun D x hx => ?_, ?_⟩
    · refine wt_neI ?_
      repeat walk_at "dx"
      refine ⟨rfl, rfl, fun _ => ?_⟩
      repeat walk_at "dx"
      exact ⟨rfl, rfl⟩
    exact ⟨_, rfl, wa_nil (tl2 rfl)⟩
  · have et : t = 2 := et
    subst et
    have c0 : 0 ≤ c := c0
    have c1 : c < (n : Int) := c1
    have h2 := two_rng c0 c1
    refine itN (decide_eq_false (by decide)) (wb_nil (wb_cons (ws_if (wt_eqT ?_))))
    walk_at "name"
    refine we_str ⟨_, _, rfl, rfl, ?_⟩
    refine itN (decide_eq_false (by decide)) (wb_nil (wb_cons (ws_set 7 (by walk_at "tgt") (fun env h => by cases env; cases h; rfl) ?_)))
    repeat walk_at "dl"
    refine ⟨_, _, rfl, rfl, ⟨by omega, by omega, by decide⟩, ?_⟩
    rw [Int.one_mul]
    refine wb_cons (ws_if (wt_eqT ?_))
    walk_at "name"
    refine we_str ⟨_, _, rfl, rfl, ?_⟩
    refine itP (decide_eq_true rfl) (wb_cons (ws_ret (we_tup (wa_cons (fun _ => rfl) ?_))))
    walk_at "name"
    refine wa_cons (fun _ => rfl) (we_tuple hK rfl mt (fun _ => rfl) (we_sorted hK rfl ms (fun _ => rfl) (we_mT PyData.int (fun x : Int => .int (Builtin.bitXor x (2 ^ c.toNat))) 6 (by walk_at "blk") hK (fun _ _ => rfl) ?_)))
    walk_at "name"
    refine ⟨cs, rfl, by omega, fun D x hx => ?_, ?_⟩
    · repeat walk_at "dx"
      exact ⟨rfl, rfl⟩
    refine ⟨cs.map fun x => Builtin.bitXor x (2 ^ c.toNat), by rw [List.map_map]; rfl, fun ms' hperm hw => ?_⟩
    refine ⟨_, rfl, wa_nil (tl2 ?_)⟩
    show boxD n ms' = boxD n (flipL n cs (2 ^ c.toNat))
    rw [img_perm (xor_good hn h2.1 h2.2 (box_sub hb)) hperm hw]; rfl
  · have et : t = 3 := et
    subst et
    have c0 : 0 ≤ c := c0
    have c1 : c < (n : Int) := c1
    obtain ⟨k, rfl⟩ : ∃ k : Nat, c = (k : Int) := ⟨c.toNat, by omega⟩
    have hk : k < n := by omega
    refine itN (decide_eq_false (by decide)) (wb_nil (wb_cons (ws_if (wt_eqT ?_))))
    walk_at "name"
    refine we_str ⟨_, _, rfl, rfl, ?_⟩
    refine itN (decide_eq_false (by decide)) (wb_nil (wb_cons (ws_set 7 (by walk_at "tgt") (fun env h => by cases env; cases h; rfl) ?_)))
    repeat walk_at "dl"
    refine ⟨_, _, rfl, rfl, ⟨by omega, by omega, by decide⟩, ?_⟩
    rw [one_shl]
    refine wb_cons (ws_if (wt_eqT ?_))
    walk_at "name"
    refine we_str ⟨_, _, rfl, rfl, ?_⟩
    refine itN (decide_eq_false (by decide)) (wb_nil ?_)
    refine wb_own 8 (by walk_at "tgt") (by show 8 < 9; decide) (fun env h => by cases env; cases h; rfl) (fun o => ?_)
    have hKo : (F.ext o).K = K := hK
    refine wb_cons (ws_for_tup 6 (by walk_at "tgt") hKo (fun _ _ => rfl) ?_)
    walk_at "name"
    refine ⟨fun j k' ρ => ∃ x6, plainB x6 = true ∧ ρ = [.d (boxD n cs), .d (edP (3, (k : Int))), .d (.str (wordS 3)), .d (.int (k : Int)), .d (.int (n : Int)), .d (.tuple (cs.map PyData.int)), x6, .d (.int (2 ^ k)), .own o (((cs.take j).map fun c => prcI cs c k).map PyData.int)], _, rfl, ⟨.un, rfl, rfl⟩, ?_, ?_⟩
    · rintro j y k' ρ hy ⟨x6, h6, rfl⟩
      rw [List.getElem?_map, Option.map_eq_some_iff] at hy
      obtain ⟨c, hc, rfl⟩ := hy
      have hcm := List.mem_of_getElem? hc
      obtain ⟨c, rfl, hcl⟩ := to_nat (hb.rng c hcm)
      have e := prc_law (cs := cs) hn hk hcl
      have e2 : prcI cs (c : Int) (k : Int) = if (decide (0 < Builtin.bitAnd (c : Int) (2 ^ k)) && !decide ((c : Int) - 2 ^ k ∈ cs)) = true then (c : Int) - 2 ^ k else (c : Int) := by
        rw [e]; unfold prcI; rw [one_shl]
      refine wb_cons (ws_if (wt_bool (ww_and (wt_gt ?_))))
      repeat walk_at "dx"
      cases h1 : decide (0 < Builtin.bitAnd (c : Int) (2 ^ k)) with
      | false =>
        rw [h1, Bool.false_and, if_neg (by decide)] at e2
        refine itN h1 (itN rfl (wb_cons ?_))
        refine ws_append 8 rfl (by walk_at "vis") rfl rfl (by rw [List.length_map, List.length_map, List.length_take]; omega) (fun _ => rfl) ?_ (fun _ => rfl)
        walk_at "name"
        refine wb_nil (wb_nil ⟨.d (.int (c : Int)), rfl, ?_⟩)
        rw [take_next hc, List.map_append, List.map_append]
        show _ = [_, _, _, _, _, _, _, _, SV.own o (_ ++ [PyData.int (prcI cs c k)])]
        rw [e2]; rfl
      | true =>
        rw [h1, Bool.true_and] at e2
        refine itP h1 (ww_and1 (wt_niI hKo rfl ?_))
        repeat walk_at "dx"
        refine ⟨_, cs, rfl, rfl, ?_⟩
        cases h2 : !decide ((c : Int) - 2 ^ k ∈ cs) with
        | false =>
          rw [h2, if_neg (by decide)] at e2
          refine itN h2 (wb_cons ?_)
          refine ws_append 8 rfl (by walk_at "vis") rfl rfl (by rw [List.length_map, List.length_map, List.length_take]; omega) (fun _ => rfl) ?_ (fun _ => rfl)
          walk_at "name"
          refine wb_nil (wb_nil ⟨.d (.int (c : Int)), rfl, ?_⟩)
          rw [take_next hc, List.map_append, List.map_append]
          show _ = [_, _, _, _, _, _, _, _, SV.own o (_ ++ [PyData.int (prcI cs c k)])]
          rw [e2]; rfl
        | true =>
          rw [h2, if_pos rfl] at e2
          refine itP h2 (wb_cons ?_)
          refine ws_append 8 rfl (by walk_at "vis") rfl rfl (by rw [List.length_map, List.length_map, List.length_take]; omega) (fun _ => rfl) ?_ (fun _ => rfl)
          repeat walk_at "dx"
          refine ⟨.d (.int (c : Int)), rfl, ?_⟩
          rw [take_next hc, List.map_append, List.map_append]
          show _ = [_, _, _, _, _, _, _, _, SV.own o (_ ++ [PyData.int (prcI cs c k)])]
          rw [e2]; rfl
    · rintro k' ρ ⟨x6, h6, rfl⟩
      rw [List.length_map, List.take_length]
      refine wb_cons (ws_ret (we_tup (wa_cons (fun _ => rfl) ?_)))
      walk_at "name"
      refine wa_cons (fun _ => rfl) (we_tuple hKo rfl mt (fun _ => rfl) ?_)
      refine we_sortOwnI 8 hKo rfl (by walk_at "vis") rfl rfl ms (fun ms' hp hw => ?_)
      refine ⟨_, rfl, wa_nil (tl2 ?_)⟩
      show boxD n ms' = boxD n (pressL n cs ((k : Int)).toNat)
      rw [press_perm hn hk hb hp hw, Int.toNat_natCast]
end

abbrev nDoS : List Str := ["_law_pile", "_law_edit_here", "_law_word", "_law_value"]
theorem scDoS : FnScope nDoS ["_law_pile", "_law_edit_here"] (defScope (topS 65)) := ⟨rfl, rfl, rfl, by decide +kernel, rfl, by decide +kernel, by decide +kernel⟩
def PmDoF : Pg → List PyData → Prop := fun g ds => ∃ (n : Nat) (cs : List Int) (e : Nat × Int), DkS g n cs ∧ g.2.length < 60 ∧ ds = [edP e] ∧ EdFit n cs e
def RmDoF : Pg → List PyData → Pg → PyData → Prop := fun g ds g' d => ∃ (n : Nat) (cs : List Int) (e : Nat × Int), g.1.getLast? = some (n, cs) ∧ ds = [edP e] ∧ e.1 < 4 ∧ g' = dkPut g (n, aftL n cs e) e ∧ d = .int ((g.2.length + 1 : Nat) : Int)
theorem do_one {g g' : Pg} {d : PyData} {n : Nat} {cs : List Int} {e : Nat × Int} (hg : DkS g n cs) (he : e.1 < 4) (h : RmDoF g [edP e] g' d) : g' = dkPut g (n, aftL n cs e) e ∧ d = .int ((g.2.length + 1 : Nat) : Int) := by
  obtain ⟨n', cs', e', h1, h2, h3, h4, h5⟩ := h
  rw [hg.last] at h1
  cases h1
  have := edP_inj he h3 (List.cons.inj h2).1
  subst this
  exact ⟨h4, h5⟩
section
variable {P : Program} {w : World} {K : PySem.W.Frag} {mg : Str → Option Value} {base : Heap} {C : Addr}
theorem ok_doF {f : Addr} {fd : FuncData} (Fn : Fun K "_law_do" "_law_do" (topS 65) f fd) (ga : PiM P w K mg base C 5 "add" [] PmAdd RmAdd) (gr : PiM P w K mg base C 5 "remove" [] PmRem RmRem) (gf : PiM P w K mg base C 5 "flip" [] PmSw (RmSw 2)) (gp : PiM P w K mg base C 5 "press" [] PmSw (RmSw 3)) : FnG P w K mg base 6 f fd ["_law_pile", "_law_edit_here"] (spPi K C PmDoF RmDoF) := by
  refine pi_ok (k := 5) Fn scDoS (fun g ds ⟨_, _, _, _, _, e, _⟩ => by rw [e]; rfl) (fun F a dx ds g pi hK ⟨n, cs, ⟨t, c⟩, hg, hl, e, hf⟩ => ?_)
  subst e
  have ht := hf.lt
  refine wb_cons (ws_asg2 2 3 (by decide) (by walk_at "tgt") (by walk_at "tgt") hK (fun _ => rfl) (fun _ => rfl) ?_)
  walk_at "name"
  refine ⟨.str (wordS t), .int c, rfl, ?_⟩
  refine wb_cons (ws_if (wt_eqT ?_))
  walk_at "name"
  refine we_str ⟨_, _, rfl, rfl, ?_⟩
  rcases hf with ⟨et, c01, hnc⟩ | ⟨et, hm⟩ | ⟨et, c0, c1⟩ | ⟨et, c0, c1⟩
  · have et : t = 0 := et
    subst et
    refine itP (decide_eq_true rfl) (wb_cons (ws_ret (we_pm pi ga (by show 5 ≤ 5; decide) hK 0 rfl (.inl rfl) rfl ⟨by decide, by decide⟩ (wa_cons (fun _ => rfl) ?_))))
    walk_at "name"
    refine wa_nil ⟨Enc.enc, g, pi, rfl, ⟨n, cs, c, hg, hl, rfl, c01, hnc⟩, ?_⟩
    rintro g' d ⟨n', cs', c', h1, h2, rfl, rfl⟩
    rw [hg.last] at h1
    cases h1
    cases h2
    exact ⟨_, rfl, n, cs, (0, c), hg.last, rfl, ht, rfl, rfl⟩
  · have et : t = 1 := et
    subst et
    refine itN (decide_eq_false (by decide)) (wb_nil (wb_cons (ws_if (wt_eqT ?_))))
    walk_at "name"
    refine we_str ⟨_, _, rfl, rfl, ?_⟩
    refine itP (decide_eq_true rfl) (wb_cons (ws_ret (we_pm pi gr (by show 5 ≤ 5; decide) hK 0 rfl (.inl rfl) rfl ⟨by decide, by decide⟩ (wa_cons (fun _ => rfl) ?_))))
    walk_at "name"
    refine wa_nil ⟨Enc.enc, g, pi, rfl, ⟨n, cs, c, hg, hl, rfl, hm⟩, ?_⟩
    rintro g' d ⟨n', cs', c', h1, h2, rfl, rfl⟩
    rw [hg.last] at h1
    cases h1
    cases h2
    exact ⟨_, rfl, n, cs, (1, c), hg.last, rfl, ht, rfl, rfl⟩
  · have et : t = 2 := et
    subst et
    refine itN (decide_eq_false (by decide)) (wb_nil (wb_cons (ws_if (wt_eqT ?_))))
    walk_at "name"
    refine we_str ⟨_, _, rfl, rfl, ?_⟩
    refine itN (decide_eq_false (by decide)) (wb_nil (wb_cons (ws_if (wt_eqT ?_))))
    walk_at "name"
    refine we_str ⟨_, _, rfl, rfl, ?_⟩
    refine itP (decide_eq_true rfl) (wb_cons (ws_ret (we_pm pi gf (by show 5 ≤ 5; decide) hK 0 rfl (.inl rfl) rfl ⟨by decide, by decide⟩ (wa_cons (fun _ => rfl) ?_))))
    walk_at "name"
    refine wa_nil ⟨Enc.enc, g, pi, rfl, ⟨n, cs, c, hg, hl, rfl, c0, c1⟩, ?_⟩
    rintro g' d ⟨n', cs', c', h1, h2, rfl, rfl⟩
    rw [hg.last] at h1
    cases h1
    cases h2
    exact ⟨_, rfl, n, cs, (2, c), hg.last, rfl, ht, rfl, rfl⟩
  · have et : t = 3 := et
    subst et
    refine itN (decide_eq_false (by decide)) (wb_nil (wb_cons (ws_if (wt_eqT ?_))))
    walk_at "name"
    refine we_str ⟨_, _, rfl, rfl, ?_⟩
    refine itN (decide_eq_false (by decide)) (wb_nil (wb_cons (ws_if (wt_eqT ?_))))
    walk_at "name"
    refine we_str ⟨_, _, rfl, rfl, ?_⟩
    refine itN (decide_eq_false (by decide)) (wb_nil (wb_cons (ws_ret (we_pm pi gp (by show 5 ≤ 5; decide) hK 0 rfl (.inl rfl) rfl ⟨by decide, by decide⟩ (wa_cons (fun _ => rfl) ?_)))))
    walk_at "name"
    refine wa_nil ⟨Enc.enc, g, pi, rfl, ⟨n, cs, c, hg, hl, rfl, c0, c1⟩, ?_⟩
    rintro g' d ⟨n', cs', c', h1, h2, rfl, rfl⟩
    rw [hg.last] at h1
    cases h1
    cases h2
    exact ⟨_, rfl, n, cs, (3, c), hg.last, rfl, ht, rfl, rfl⟩
end

/-! two decks, one of which is edited at each turn -/
theorem sm_whole74 : ∀ n ≤ 4, smoothB n (rg (2 ^ n)) = true := by
  intro n hn
  have : n = 0 ∨ n = 1 ∨ n = 2 ∨ n = 3 ∨ n = 4 := by omega
  rcases this with rfl | rfl | rfl | rfl | rfl <;> decide +kernel
theorem vals_pick {v : Int} (h0 : 0 ≤ v) (h1 : v < 8) : ∃ u, ixD (.list vals74) (.int v) = some u ∧ u ∈ vals74 := by
  have : v = 0 ∨ v = 1 ∨ v = 2 ∨ v = 3 ∨ v = 4 ∨ v = 5 ∨ v = 6 ∨ v = 7 := by omega
  rcases this with rfl | rfl | rfl | rfl | rfl | rfl | rfl | rfl
  · exact ⟨_, rfl, List.mem_cons_self ..⟩
  · exact ⟨_, rfl, List.mem_of_getElem? (i := 1) rfl⟩
  · exact ⟨_, rfl, List.mem_of_getElem? (i := 2) rfl⟩
  · exact ⟨_, rfl, List.mem_of_getElem? (i := 3) rfl⟩
  · exact ⟨_, rfl, List.mem_of_getElem? (i := 4) rfl⟩
  · exact ⟨_, rfl, List.mem_of_getElem? (i := 5) rfl⟩
  · exact ⟨_, rfl, List.mem_of_getElem? (i := 6) rfl⟩
  · exact ⟨_, rfl, List.mem_of_getElem? (i := 7) rfl⟩
theorem odd_pick {b : PyData} (hb : PreO b) {v : Int} (h0 : 0 ≤ v) (h1 : v < 7) : ∃ u, ixD (.list [.none, .int 5, .str "deck", b, .list [], .tuple [], .dict []]) (.int v) = some u ∧ PreO u := by
  have : v = 0 ∨ v = 1 ∨ v = 2 ∨ v = 3 ∨ v = 4 ∨ v = 5 ∨ v = 6 := by omega
  rcases this with rfl | rfl | rfl | rfl | rfl | rfl | rfl
  · exact ⟨_, rfl, by unfold PreO; decide⟩
  · exact ⟨_, rfl, by unfold PreO; decide⟩
  · exact ⟨_, rfl, by unfold PreO; decide⟩
  · exact ⟨_, rfl, hb⟩
  · exact ⟨_, rfl, by unfold PreO; decide⟩
  · exact ⟨_, rfl, by unfold PreO; decide⟩
  · exact ⟨_, rfl, by unfold PreO; decide⟩
theorem box_up {n : Nat} {cs : List Int} (h : IsBox n cs) : IsBox (n + 1) cs := ⟨h.1, fun c hc => by
  obtain ⟨h1, h2⟩ := h.2 c hc
  refine ⟨h1, ?_⟩
  have : (2 : Int) ^ (n + 1) = 2 ^ n * 2 := by rw [Int.pow_succ]
  omega⟩
theorem other_pick {n : Nat} {cs : List Int} {e : Nat × Int} (hn : n ≤ 4) (hb : IsBox n cs) {v : Int} (h0 : 0 ≤ v) (h1 : v < 3) : ∃ (m : Nat) (es : List Int), ixD (.list [boxD n cs, boxD n (aftL n cs e), boxD (n + 1) cs]) (.int v) = some (boxD m es) ∧ m ≤ 6 ∧ IsBox m es := by
  have : v = 0 ∨ v = 1 ∨ v = 2 := by omega
  rcases this with rfl | rfl | rfl
  · exact ⟨n, cs, rfl, by omega, hb⟩
  · exact ⟨n, _, rfl, by omega, aft_box hb e⟩
  · exact ⟨n + 1, cs, rfl, by omega, box_up hb⟩
structure E74 (g : Pg) (n : Nat) (cs : List Int) (j : Nat) : Prop where
  d : DkS g n cs
  e : g.1.length = g.2.length + 1
  l : g.2.length ≤ j
theorem E74.mono {g : Pg} {n i j : Nat} {cs : List Int} (h : E74 g n cs i) (hj : i ≤ j) : E74 g n cs j := ⟨h.d, h.e, Nat.le_trans h.l hj⟩
theorem E74.put {g : Pg} {n j : Nat} {cs : List Int} (h : E74 g n cs j) (hj : j < 60) (e : Nat × Int) : E74 (dkPut g (n, aftL n cs e) e) n (aftL n cs e) (j + 1) := by
  have h1 := h.e
  have h2 := h.l
  refine ⟨h.d.put (by omega) (by omega) h.d.hn (aft_box h.d.hb e) e, ?_, ?_⟩
  · show (g.1 ++ [_]).length = (g.2 ++ [_]).length + 1
    rw [List.length_append, List.length_append]
    show g.1.length + 1 = g.2.length + 1 + 1
    omega
  · show (g.2 ++ [_]).length ≤ j + 1
    rw [List.length_append]
    show g.2.length + 1 ≤ j + 1
    omega
theorem E74.undo {g : Pg} {n j : Nat} {cs : List Int} (h : E74 g n cs j) (b : Nat × List Int) (e : Nat × Int) : ((dkPut g b e).1.take (g.2.length + 1), (dkPut g b e).2.take g.2.length) = g := by
  have h1 := h.e
  show ((g.1 ++ [b]).take (g.2.length + 1), (g.2 ++ [e]).take g.2.length) = g
  rw [← h1, List.take_left', List.take_left' (h := rfl)]
  rfl
theorem put_len {g : Pg} {b : Nat × List Int} {e : Nat × Int} : (dkPut g b e).2.length = g.2.length + 1 := by
  show (g.2 ++ [e]).length = _
  rw [List.length_append]; rfl
theorem pick74 {F4 : Fm} {C pa pd pb pe s q : Addr} {g0 g1 : Pg} {n m j : Nat} {cs0 cs1 : List Int} {v : Int} (P1 : ∀ c g2, HasPi F4 C pa pd (fun g => kk (kk c g) g2)) (P2 : ∀ c g1, HasPi F4 C pb pe (kk (kk c g1))) (DQ : ∀ g1 g2, HasDq F4 s q (fun c => kk (kk c g1) g2))
    (E0 : E74 g0 n cs0 j) (E1 : E74 g1 m cs1 j) (h0 : 0 ≤ v) (h1 : v < 2) :
    ∃ (a dx : Addr) (mk : Nat → Pg → Nat) (g : Pg) (nn : Nat) (cc : List Int), (∀ c, HasPi F4 C a dx (mk c)) ∧ (∀ g, HasDq F4 s q (fun c => mk c g)) ∧ (∀ c, kk (kk c g0) g1 = mk c g) ∧ E74 g nn cc j ∧ atI [boxD n cs0, boxD m cs1] v = some (boxD nn cc) ∧ atI [V.ref pa, V.ref pb] v = some (V.ref a) ∧
      ∃ i : Nat, i < 2 ∧ v = (i : Int) ∧ ∀ c g' cc', E74 g' nn cc' (j + 1) → ∃ g0' g1' cs0' cs1', mk c g' = kk (kk c g0') g1' ∧ E74 g0' n cs0' (j + 1) ∧ E74 g1' m cs1' (j + 1) ∧ [boxD n cs0, boxD m cs1].set i (boxD nn cc') = [boxD n cs0', boxD m cs1'] := by
  have : v = 0 ∨ v = 1 := by omega
  rcases this with rfl | rfl
  · exact ⟨pa, pd, fun c g => kk (kk c g) g1, g0, n, cs0, fun c => P1 c g1, fun g => DQ g g1, fun c => rfl, E0, rfl, rfl, 0, by decide, rfl, fun c g' cc' h => ⟨g', g1, cc', cs1, rfl, h, E1.mono (Nat.le_succ _), rfl⟩⟩
  · exact ⟨pb, pe, fun c g => kk (kk c g0) g, g1, m, cs1, fun c => P2 c g0, fun g => DQ g0 g, fun c => rfl, E1, rfl, rfl, 1, by decide, rfl, fun c g' cc' h => ⟨g0, g', cs0, cc', rfl, E0.mono (Nat.le_succ _), h, rfl⟩⟩
theorem fine_bool (b : Bool) : Fine 31 0 (.bool b) := by cases b <;> exact ⟨by simp only [PyData.showable], by simp only [PyData.hasDict], by simp only [PyData.depth]; exact Nat.le_refl _, by simp only [PyData.shown]; decide +kernel⟩
theorem fine_box74 {n : Nat} {cs : List Int} (hn : n ≤ 6) (hb : IsBox n cs) : Fine 10000 5 (boxD n cs) := by
  have hcl := box_len hn hb
  have hp := pow_le64 hn
  exact Fine.mono (fine_tuple (n := 4000) (dp := 4) (L := 2) (List.forall_mem_cons.mpr ⟨(fine_int (by omega)).mono (by decide) (by decide), List.forall_mem_cons.mpr ⟨(fine_ints (L := 64) (fun i hi => by have := hb.rng i hi; omega) (by omega)).mono (by decide) (by decide), fun _ z => (List.not_mem_nil z).elim⟩⟩) (Nat.le_refl _)) (by decide) (by decide)
theorem fine_seen {n : Nat} {cs : List Int} (hn : n ≤ 6) (hb : IsBox n cs) (b c : Bool) : Fine 100000 10 (.list [.bool b, .bool c, boxD n cs]) :=
  Fine.mono (fine_list (n := 10000) (dp := 5) (L := 3) (List.forall_mem_cons.mpr ⟨(fine_bool b).mono (by decide) (by decide), List.forall_mem_cons.mpr ⟨(fine_bool c).mono (by decide) (by decide), List.forall_mem_cons.mpr ⟨fine_box74 hn hb, fun _ z => (List.not_mem_nil z).elim⟩⟩⟩) (Nat.le_refl _)) (by decide) (by decide)
theorem fine_tff : Fine 100000 10 (.list [.bool true, .bool false, .bool false]) :=
  Fine.mono (fine_list (n := 31) (dp := 0) (L := 3) (List.forall_mem_cons.mpr ⟨fine_bool _, List.forall_mem_cons.mpr ⟨fine_bool _, List.forall_mem_cons.mpr ⟨fine_bool _, fun _ z => (List.not_mem_nil z).elim⟩⟩⟩) (Nat.le_refl _)) (by decide) (by decide)
theorem box_args74 {n m : Nat} {cs es : List Int} (h : [boxD n cs] = [boxD m es]) : n = m ∧ cs = es := by
  have := boxP_inj (b := (n, cs)) (b' := (m, es)) (List.cons.inj h).1
  cases this
  exact ⟨rfl, rfl⟩

local macro_rules | `(tactic| walk_at "c1") => `(tactic| ((with_reducible refine wa_cons ?s1 ?_); (case s1 => exact fun _ => rfl)))
abbrev nLaw74 : List Str := ["_law_script", "_law_deck_here", "_law_box_here", "_law_other", "_law_piles", "_law_boxes", "_law_turn", "_law_k", "_law_edit_here", "_law_same", "_law_whole", "_law_pairs", "_law_odd", "_law_one", "_law_two"]
theorem scLaw74 : FnScope nLaw74 ["_law_script"] (defScope (topS 68)) := ⟨rfl, rfl, rfl, by decide +kernel, rfl, by decide +kernel, by decide +kernel⟩
section
variable {P : Program} {w : World} {K : PySem.W.Frag} {mg : Str → Option Value} {base : Heap} {C CS : Addr}
theorem ok_law {f fi fj : Addr} {fd fdi fdj : FuncData} (Fn : Fun K "law" "law" (topS 68) f fd) (mr : mg "range" = none) (mp : mg "repr" = none) (ml : mg "len" = none) (mt : mg "tuple" = none) (mi : mg "isinstance" = none) (mmn : mg "min" = none)
    (gd : ∃ (fa : Addr) (fdd : FuncData), FnG P w K mg base 1 fa fdd ["_law_script"] (spDeck K) ∧ mg "_law_deck" = some (.ref fa) ∧ PySem.W.keepIn K (.ref fa) = true ∧ L2.Binds K fdd ["_law_script"] [])
    (gn : DFnQ P w K mg base 1 "_law_draw" 1 PreNext RNext) (gb : DFnQ P w K mg base 4 "_law_box" 67 PreMo RBx) (ge : DFnQ P w K mg base 2 "_law_edit" 3 PreEdt REdt) (ga : PFn P w K mg base 1 "_law_after" RafF) (go : PiF P w K mg base C 6 "_law_do" PmDoF RmDoF) (ger : PFn P w K mg base 3 "_law_errors_right" Rer74)
    (qb : PiM P w K mg base C 1 "box" [.non] PmBox RmBox) (qu : PiM P w K mg base C 2 "undo" [] PmUndo RmUndo) (ql : PiM P w K mg base C 1 "__len__" [] Pm0 RmLen)
    (hE : PiE P w K mg base C C 1 PmEq RmEq) (hSS : PiE P w K mg base CS CS 1 PmEq RmEq) (hSD : PiE P w K mg base CS C 1 PmEq RmNo) (hsub : PySem.W.subIn K (.ref CS) (.ref C) = some true) (hne : C ≠ CS) (hEV : PiEV P w K mg base C 1 PreO) (nn : NoNe K C) (pi : PiI K C) (piS : PiI K CS) (kSC : PySem.W.kitOne K (.ref CS) (.ref C) = some true) (kCS : PySem.W.kitOne K (.ref C) (.ref CS) = some false)
    (M : Mk K C fi) (Gi : FnG P w K mg base 6 fi fdi ["self", "box"] (spInit K C OkB)) (mD : mg "Deck" = some (.ref C)) (bi : L2.Binds K fdi ["self", "box"] [])
    (MS : Mk K CS fj) (GS : FnG P w K mg base 8 fj fdj ["self", "box"] (spInit K CS OkS)) (mDS : mg "SmoothDeck" = some (.ref CS)) (bS : L2.Binds K fdj ["self", "box"] []) :
    FnG P w K mg base 10 f fd ["_law_script"] (spLaw K) := by
  refine lawQX_ok (k := 9) Fn scLaw74 rfl gd (by decide) rfl rfl (.inl rfl) (.inl rfl) rfl (fun _ => rfl) (fun F s a dk hX hK => ?_)
  refine wb_cons (ws_if (wt_not (wt_val (fun _ _ => rfl) (we_callP ger (by show 3 ≤ 9; decide) hK rfl ?_))))
  walk_at "c1"
  with_reducible refine we_ix ?hk ?hp ?_
  case hk => exact hK
  case hp => exact fun _ _ => rfl
  with_reducible refine we_lst ?_
  walk_at "c1"
  with_reducible refine we_non ?_
  walk_at "c1"
  with_reducible refine we_int ?_
  walk_at "c1"
  with_reducible refine we_bl ?_
  walk_at "c1"
  with_reducible refine we_str ?_
  walk_at "c1"
  with_reducible refine we_tup ?_
  walk_at "c1"
  with_reducible refine we_int ?_
  walk_at "c1"
  with_reducible refine we_str ?_
  with_reducible refine wa_nil ?_
  refine ⟨by show 2 ≤ _; decide, ?_⟩
  walk_at "c1"
  with_reducible refine we_lst ?_
  with_reducible refine wa_nil ?_
  refine ⟨Nat.zero_le _, ?_⟩
  walk_at "c1"
  with_reducible refine we_dict0 ?_
  walk_at "c1"
  with_reducible refine we_neg ?_
  with_reducible refine we_int ?_
  refine ⟨1, rfl, ?_⟩
  refine wa_nil ⟨by show 8 ≤ _; decide, ?_⟩
  refine we_callQ2 (a := a) gn (by show 1 ≤ 9; decide) hK 1 rfl rfl (by walk_at "vis") rfl (wa_cons (fun _ => rfl) (we_int (wa_nil ⟨⟨8, rfl, by decide, by decide⟩, id, 899999, dk, rfl, ?_⟩)))
  rintro d ⟨m', v, e1, rfl, v0, v1⟩
  cases e1
  obtain ⟨u, hu, hmu⟩ := vals_pick v0 v1
  refine ⟨u, hu, wa_nil ⟨.bool true, ⟨u, rfl, hmu, rfl⟩, true, rfl, itN rfl (wb_nil ?_)⟩⟩
  clear hu hmu v0 v1
  refine wb_cons (ws_set 2 (by walk_at "tgt") (fun env h => by cases env; cases h; rfl) ?_)
  refine we_callQ2 (a := a) gb (by show 4 ≤ 9; decide) hK 1 rfl rfl (by walk_at "vis") rfl (wa_cons (fun _ => rfl) (we_int (wa_nil ⟨⟨4, rfl, by decide⟩, id, 899932, dk, rfl, ?_⟩)))
  intro d hd
  obtain ⟨n, cs, hn4, _, hb, rfl⟩ := RBx.one (m := 4) hd
  have hn : n ≤ 6 := by omega
  have hp := pow_le64 hn
  refine wb_cons (ws_set 3 (by walk_at "tgt") (fun env h => by cases env; cases h; rfl) (we_ix hK (fun _ _ => rfl) (we_lst (wa_cons (fun _ => rfl) ?_))))
  walk_at "name"
  refine wa_cons (fun _ => rfl) (we_callP ga (by show 1 ≤ 9; decide) hK rfl (wa_cons (fun _ => rfl) ?_))
  walk_at "name"
  refine wa_cons (fun _ => rfl) ?_
  refine we_callQ2 (a := a) ge (by show 2 ≤ 9; decide) hK 1 rfl rfl (by walk_at "vis") rfl (wa_cons (fun _ => rfl) ?_)
  walk_at "name"
  refine wa_nil ⟨⟨n, cs, rfl, hn, hb⟩, id, 899929, dk, rfl, ?_⟩
  rintro d ⟨n', cs', e, e1, hf, rfl⟩
  obtain ⟨rfl, rfl⟩ := box_args74 e1
  refine wa_nil ⟨_, ⟨n, cs, e, rfl, hn, hb, hf, rfl⟩, ?_⟩
  refine wa_cons (fun _ => rfl) (we_tup (wa_cons (fun _ => rfl) (we_min2 rfl mmn (fun _ => rfl) (fun _ => rfl) (we_int (we_add (we_ix hK (fun _ _ => rfl) ?_))))))
  walk_at "name"
  refine we_int ⟨.int (n : Int), rfl, we_int ⟨_, _, rfl, rfl, _, _, rfl, rfl, ?_⟩⟩
  rw [if_pos (show (n : Int) + 1 < 6 by omega)]
  refine wa_cons (fun _ => rfl) (we_ix hK (fun _ _ => rfl) ?_)
  walk_at "name"
  refine we_int ⟨.tuple (cs.map PyData.int), rfl, wa_nil ⟨by show 2 ≤ _; decide, wa_nil ⟨by show 3 ≤ _; decide, ?_⟩⟩⟩
  refine we_callQ2 (a := a) gn (by show 1 ≤ 9; decide) hK 1 rfl rfl (by walk_at "vis") rfl (wa_cons (fun _ => rfl) (we_int (wa_nil ⟨⟨3, rfl, by decide, by decide⟩, id, 899928, dk, rfl, ?_⟩)))
  rintro d ⟨m', v, e1, rfl, v0, v1⟩
  cases e1
  obtain ⟨m, es, hw, hm, hbe⟩ := other_pick (e := e) hn4 hb v0 v1
  refine ⟨boxD m es, hw, ?_⟩
  clear hw v0 v1 hf e hd
  refine wb_piles 4 5 (by decide) hX hK (by walk_at "tgt") (by walk_at "tgt") rfl rfl M Gi (by show 7 ≤ 9; decide) rfl mD bi (fun _ => rfl) (fun _ => rfl) (fun _ => rfl) (fun _ => rfl) (fun _ => rfl) (fun _ => rfl) (fun _ => rfl) (fun env h => by cases env; cases h; rfl) rfl ?_
  walk_at "name"
  refine ⟨(n, cs), rfl, ⟨hn, hb⟩, fun pa pd hMa hMd => ?_⟩
  walk_at "name"
  refine ⟨(m, es), rfl, ⟨hm, hbe⟩, fun pb pe hMb hMe => ?_⟩
  refine wa_cons (fun _ => rfl) ?_
  walk_at "name"
  refine wa_cons (fun _ => rfl) ?_
  walk_at "name"
  refine wa_nil ⟨899928, ([(n, cs)], []), ([(m, es)], []), rfl, rfl, fun Hs o o2 hL => ?_⟩
  have hKo : ((((F.deck C pa pd).deck C pb pe).sus Hs).ext o2).K = K := hK
  have P1 : ∀ c g2, HasPi ((((F.deck C pa pd).deck C pb pe).sus Hs).ext o2) C pa pd (fun g => kk (kk c g) g2) := fun c g2 => ((deck_pi (has_deck hMa hMd c) hMb hMe g2).sus).ext o2
  have P2 : ∀ c g1, HasPi ((((F.deck C pa pd).deck C pb pe).sus Hs).ext o2) C pb pe (kk (kk c g1)) := fun c g1 => ((has_deck hMb hMe (kk c g1)).sus).ext o2
  have DQ : ∀ g1 g2, HasDq ((((F.deck C pa pd).deck C pb pe).sus Hs).ext o2) s a (fun c => kk (kk c g1) g2) := fun g1 g2 => ((deck_dq (deck_dq dk g1) g2).sus).ext o2
  have hL4 : ∀ k H, J ((((F.deck C pa pd).deck C pb pe).sus Hs).ext o2) k H → H o = some (.lst [.ref pa, .ref pb]) := fun k H j => hL k H j.unext
  clear hL
  generalize (((F.deck C pa pd).deck C pb pe).sus Hs).ext o2 = F4 at hKo P1 P2 DQ hL4 ⊢
  have i0 : E74 ([(n, cs)], []) n cs 0 := ⟨⟨rfl, hn, hb, by show 1 ≤ 900; decide, by show 0 ≤ 900; decide⟩, rfl, Nat.le_refl _⟩
  have i1 : E74 ([(m, es)], []) m es 0 := ⟨⟨rfl, hm, hbe, by show 1 ≤ 900; decide, by show 0 ≤ 900; decide⟩, rfl, Nat.le_refl _⟩
  refine wb_cons (ws_for_range 6 (by walk_at "tgt") rfl mr (fun _ => rfl) (fun _ _ => rfl) ?_)
  refine we_callQ2 (a := a) gn (by show 1 ≤ 9; decide) hKo 1 rfl rfl (by walk_at "vis") rfl (wa_cons (fun _ => rfl) (we_int (wa_nil ⟨⟨9, rfl, by decide, by decide⟩, _, 899927, DQ ([(n, cs)], []) ([(m, es)], []), rfl, ?_⟩)))
  rintro d ⟨m', v2, e1, rfl, w0, w1⟩
  cases e1
  refine ⟨fun j k ρ => ∃ (c : Nat) (g0 g1 : Pg) (cs0 cs1 : List Int) (x6 x7 x8 : SV), plainB x6 = true ∧ plainB x7 = true ∧ plainB x8 = true ∧ k = kk (kk c g0) g1 ∧ c + 5 * j = 899927 ∧ E74 g0 n cs0 j ∧ E74 g1 m cs1 j ∧ ρ = [.un, .raw (.ref s), .d (boxD n cs), .d (boxD m es), .raw (.ref o), .own o2 [boxD n cs0, boxD m cs1], x6, x7, x8, .un, .un, .un, .un, .un, .un], v2, rfl, by omega, by omega, ⟨899927, _, _, cs, es, .un, .un, .un, rfl, rfl, rfl, rfl, rfl, i0, i1, rfl⟩, ?_, ?_⟩
  · clear i0 i1
    rintro j k ρ hj ⟨c, g0, g1, cs0, cs1, x6, x7, x8, p6, p7, p8, rfl, hc, E0, E1, rfl⟩
    have hj : j < 9 := by omega
    obtain ⟨c, rfl⟩ : ∃ c', c = c' + 5 := ⟨c - 5, by omega⟩
    refine wb_cons (ws_set 7 (by walk_at "tgt") (fun env h => by cases env; cases h; rfl) ?_)
    refine we_callQ2 (a := a) gn (by show 1 ≤ 9; decide) hKo 1 rfl rfl (by walk_at "vis") rfl (wa_cons (fun _ => rfl) (we_int (wa_nil ⟨⟨2, rfl, by decide, by decide⟩, _, c + 4, DQ g0 g1, rfl, ?_⟩)))
    rintro d ⟨m', v, e1, rfl, z0, z1⟩
    cases e1
    obtain ⟨pq, px, mk, g, nq, cc, Pk, Dk, ek, Eg, hbx, hrf, i, hi, hv, hset⟩ := pick74 P1 P2 DQ E0 E1 z0 z1
    have hg := Eg.d
    have hl2 := Eg.l
    rw [ek]
    refine wb_cons (ws_set 8 (by walk_at "tgt") (fun env h => by cases env; cases h; rfl) ?_)
    refine we_callQ2 (a := a) ge (by show 2 ≤ 9; decide) hKo 1 rfl rfl (by walk_at "vis") rfl (wa_cons (fun _ => rfl) (we_ixOwnZ 5 hKo rfl (by walk_at "vis") rfl (fun _ _ => rfl) ?_))
    walk_at "name"
    refine ⟨v, _, rfl, hbx, wa_nil ⟨⟨nq, cc, rfl, hg.hn, hg.hb⟩, _, c + 1, Dk g, rfl, ?_⟩⟩
    rintro d ⟨n', cs', e, e1, hf, rfl⟩
    obtain ⟨rfl, rfl⟩ := box_args74 e1
    have Ep := Eg.put (by omega) e
    refine wb_cons (ws_if (wt_neI ?_))
    refine we_pfR (Pk (c + 1)) go (by show 6 ≤ 9; decide) hKo rfl (wraw_ix 4 (Λ := fun vs _ => vs = [V.ref pa, V.ref pb]) hKo rfl (by walk_at "vis") rfl (fun _ _ => rfl) (fun H jj => ⟨_, hL4 _ _ jj, rfl⟩) (wn_name 7 rfl (by walk_at "vis") rfl ⟨v, rfl, fun vs H e => ⟨_, by rw [e]; exact hrf, rfl⟩⟩)) (wa_cons (fun _ => rfl) ?_)
    walk_at "name"
    refine wa_nil ⟨mk (c + 1), g, Pk (c + 1), rfl, ⟨nq, cc, e, hg, by omega, rfl, hf⟩, ?_⟩
    intro g' d hgd
    obtain ⟨eg, rfl⟩ := do_one hg hf.lt hgd
    rw [eg]
    refine we_plenR (Pk (c + 1)) ql (by show 2 ≤ 9; decide) hKo (wraw_ix 4 (Λ := fun vs _ => vs = [V.ref pa, V.ref pb]) hKo rfl (by walk_at "vis") rfl (fun _ _ => rfl) (fun H jj => ⟨_, hL4 _ _ jj, rfl⟩) (wn_name 7 rfl (by walk_at "vis") rfl ⟨v, rfl, fun vs H e => ⟨_, by rw [e]; exact hrf, rfl⟩⟩)) rfl ml rfl ?_
    rintro g4 d4 ⟨eg4, rfl⟩
    rw [eg4]
    refine ⟨_, rfl, by rw [put_len]; omega, _, _, rfl, rfl, itN (by rw [put_len, decide_eq_true rfl]; rfl) (wb_nil ?_)⟩
    refine wb_cons (ws_if (wt_gt ?_))
    refine we_callQ2 (a := a) gn (by show 1 ≤ 9; decide) hKo 1 rfl rfl (by walk_at "vis") rfl (wa_cons (fun _ => rfl) (we_int (wa_nil ⟨⟨3, rfl, by decide, by decide⟩, _, c, Dk _, rfl, ?_⟩)))
    rintro d ⟨m', z, e1, rfl, y0, y1⟩
    cases e1
    refine we_int ⟨_, _, rfl, rfl, ?_⟩
    cases hzz : decide ((0 : Int) < z) with
    | true =>
      refine itP hzz (wb_cons (ws_setOwn 5 rfl (by walk_at "vis") rfl (by simp [plainB] at p6 p7 p8 ⊢ <;> exact p6) ?_ (fun _ => rfl) (fun _ => rfl)))
      refine we_callP ga (by show 1 ≤ 9; decide) hKo rfl (wa_cons (fun _ => rfl) (we_ixOwnZ 5 hKo rfl (by walk_at "vis") rfl (fun _ _ => rfl) ?_))
      walk_at "name"
      refine ⟨v, _, rfl, hbx, wa_cons (fun _ => rfl) ?_⟩
      walk_at "name"
      refine wa_nil ⟨_, ⟨nq, cc, e, rfl, hg.hn, hg.hb, hf, rfl⟩, ?_⟩
      walk_at "name"
      refine ⟨i, hi, by rw [hv], wb_nil (wb_nil ?_)⟩
      obtain ⟨g0', g1', cs0', cs1', e2, E0', E1', es2⟩ := hset c _ _ Ep
      refine ⟨c, g0', g1', cs0', cs1', .d (.int (j : Int)), .d (.int v), .d (edP e), rfl, rfl, rfl, e2, by omega, E0', E1', ?_⟩
      rw [← es2]
      rfl
    | false =>
      refine itN hzz (wb_cons (ws_if (wt_neI ?_)))
      refine we_pm0R (Pk c) qu (by show 2 ≤ 9; decide) hKo (wraw_ix 4 (Λ := fun vs _ => vs = [V.ref pa, V.ref pb]) hKo rfl (by walk_at "vis") rfl (fun _ _ => rfl) (fun H jj => ⟨_, hL4 _ _ jj, rfl⟩) (wn_name 7 rfl (by walk_at "vis") rfl ⟨v, rfl, fun vs H e => ⟨_, by rw [e]; exact hrf, rfl⟩⟩)) ⟨by decide, by decide⟩ ⟨rfl, by rw [put_len]; omega⟩ ?_
      rintro g3 d3 ⟨mm, hmm, eg3, rfl⟩
      rw [put_len] at hmm
      have emm : mm = g.2.length := by omega
      subst emm
      rw [Eg.undo] at eg3
      rw [eg3]
      refine we_plenR (Pk c) ql (by show 2 ≤ 9; decide) hKo (wraw_ix 4 (Λ := fun vs _ => vs = [V.ref pa, V.ref pb]) hKo rfl (by walk_at "vis") rfl (fun _ _ => rfl) (fun H jj => ⟨_, hL4 _ _ jj, rfl⟩) (wn_name 7 rfl (by walk_at "vis") rfl ⟨v, rfl, fun vs H e => ⟨_, by rw [e]; exact hrf, rfl⟩⟩)) rfl ml rfl ?_
      rintro g5 d5 ⟨eg5, rfl⟩
      rw [eg5]
      refine ⟨_, rfl, by omega, _, _, rfl, rfl, itN (by rw [decide_eq_true rfl]; rfl) (wb_nil (wb_nil (wb_nil ?_)))⟩
      exact ⟨c, g0, g1, cs0, cs1, .d (.int (j : Int)), .d (.int v), .d (edP e), rfl, rfl, rfl, (ek c).symm, by omega, E0.mono (Nat.le_succ _), E1.mono (Nat.le_succ _), rfl⟩
  · clear i0 i1
    rintro k ρ ⟨c, g0, g1, cs0, cs1, x6, x7, x8, p6, p7, p8, rfl, hc, E0, E1, rfl⟩
    have h0 := E0.d
    have h1 := E1.d
    have R0 : ∀ (C' : Cs) (ρ' : Rho) (k' : Nat) (px py pp : Pos) (jj : Nat), F4.K = C'.K → C'.N[4]? = some ("_law_piles" : Str) → Vis C'.sc ("_law_piles" : Str) → ρ'[4]? = some (.raw (.ref o)) → WRaw F4 C' (.Subscript (.Name "_law_piles" px) (.Constant (.int 0) jj py) pp) ρ' k' fun v _ => v = .ref pa :=
      fun C' ρ' k' px py pp jj hk hN hv hr => wraw_ix 4 (Λ := fun vs _ => vs = [V.ref pa, V.ref pb]) hk hN hv hr (fun _ _ => rfl) (fun H jj => ⟨_, hL4 _ _ jj, rfl⟩) (wn_int ⟨0, rfl, fun vs H e => ⟨.ref pa, by rw [e]; rfl, rfl⟩⟩)
    have R1 : ∀ (C' : Cs) (ρ' : Rho) (k' : Nat) (px py pp : Pos) (jj : Nat), F4.K = C'.K → C'.N[4]? = some ("_law_piles" : Str) → Vis C'.sc ("_law_piles" : Str) → ρ'[4]? = some (.raw (.ref o)) → WRaw F4 C' (.Subscript (.Name "_law_piles" px) (.Constant (.int 1) jj py) pp) ρ' k' fun v _ => v = .ref pb :=
      fun C' ρ' k' px py pp jj hk hN hv hr => wraw_ix 4 (Λ := fun vs _ => vs = [V.ref pa, V.ref pb]) hk hN hv hr (fun _ _ => rfl) (fun H jj => ⟨_, hL4 _ _ jj, rfl⟩) (wn_int ⟨1, rfl, fun vs H e => ⟨.ref pb, by rw [e]; rfl, rfl⟩⟩)
    refine wb_cons (ws_set 9 (by walk_at "tgt") (fun env h => by cases env; cases h; rfl) (we_eq hKo ?_))
    refine we_ixOwnZ 5 hKo rfl (by walk_at "vis") rfl (fun _ _ => rfl) (we_int ⟨0, boxD n cs0, rfl, rfl, ?_⟩)
    refine we_ixOwnZ 5 hKo rfl (by walk_at "vis") rfl (fun _ _ => rfl) (we_int ⟨1, boxD m cs1, rfl, rfl, ?_⟩)
    refine ⟨(Ld.box n cs0).shaped (by decide), (Ld.box m cs1).shaped (by decide), ?_⟩
    refine wb_cons (ws_if (wt_neT (we_repr hKo rfl mp (fun _ => rfl) (we_lst (wa_cons (fun _ => rfl) ?_)))))
    refine we_eqDR hE (by show 1 ≤ 9; decide) hKo (wdeck_raw (P1 c g1) rfl (R0 _ _ _ _ _ _ _ hKo rfl (by walk_at "vis") rfl)) (wdeck_raw (P2 c g0) rfl (R1 _ _ _ _ _ _ _ hKo rfl (by walk_at "vis") rfl)) ⟨h0.ne, h1.ne⟩ (fun r hr => ?_)
    obtain ⟨n1, m1, cs', es', q0, q1, rfl⟩ := hr
    rw [h0.last] at q0
    rw [h1.last] at q1
    cases q0
    cases q1
    refine wa_cons (fun _ => rfl) (we_neDR hE nn (by show 2 ≤ 9; decide) hKo (wdeck_raw (P1 c g1) rfl (R0 _ _ _ _ _ _ _ hKo rfl (by walk_at "vis") rfl)) (wdeck_raw (P2 c g0) rfl (R1 _ _ _ _ _ _ _ hKo rfl (by walk_at "vis") rfl)) ⟨h0.ne, h1.ne⟩ (fun r hr => ?_))
    obtain ⟨n1, m1, cs', es', q0, q1, rfl⟩ := hr
    rw [h0.last] at q0
    rw [h1.last] at q1
    cases q0
    cases q1
    refine wa_cons (fun _ => rfl) (we_pm0NR (mk := fun q => kk (kk c q) g1) (g := g0) (P1 c g1) qb (by show 1 ≤ 9; decide) hKo (R0 _ _ _ _ _ _ _ hKo rfl (by walk_at "vis") rfl) ⟨by decide, by decide⟩ ⟨rfl, h0.ne⟩ ?_)
    rintro g' d ⟨eg, bx, hbx, rfl⟩
    rw [h0.last] at hbx
    cases hbx
    rw [eg]
    refine wa_nil ⟨by show 3 ≤ _; decide, (fine_seen h0.hn h0.hb _ _).ok, ?_⟩
    refine we_repr hKo rfl mp (fun _ => rfl) (we_lst (wa_cons (fun _ => rfl) ?_))
    walk_at "name"
    refine wa_cons (fun _ => rfl) (we_not ?_)
    walk_at "name"
    refine ⟨_, rfl, wa_cons (fun _ => rfl) (we_ixOwnZ 5 hKo rfl (by walk_at "vis") rfl (fun _ _ => rfl) (we_int ⟨0, boxD n cs0, rfl, rfl, ?_⟩))⟩
    refine wa_nil ⟨by show 3 ≤ _; decide, (fine_seen h0.hn h0.hb _ _).ok, _, _, rfl, rfl, ?_⟩
    refine itN (by rw [eqv_box]; exact congrArg (fun b => !b) (decide_eq_true rfl)) (wb_nil ?_)
    refine wb_cons (ws_set 10 (by walk_at "tgt") (fun env h => by cases env; cases h; rfl) (we_tup (wa_cons (fun _ => rfl) (we_ix hKo (fun _ _ => rfl) ?_))))
    walk_at "name"
    refine we_int ⟨.int (n : Int), rfl, wa_cons (fun _ => rfl) (we_tupRg rfl mt rfl mr (fun _ => rfl) (fun _ => rfl) (we_shl (we_int (we_ix hKo (fun _ _ => rfl) ?_))))⟩
    walk_at "name"
    refine we_int ⟨.int (n : Int), rfl, 1, (n : Int), rfl, rfl, ⟨by omega, by omega⟩, ?_⟩
    rw [Int.toNat_natCast, Int.one_mul]
    refine ⟨_, rfl, ⟨by omega, by omega⟩, wa_nil ⟨by show 2 ≤ _; decide, ?_⟩⟩
    have okW : OkB (n, rg (2 ^ n)) := ⟨hn, ⟨rg_pairwise, fun x hx => mem_rg.mp hx⟩⟩
    have okS : OkS (n, rg (2 ^ n)) := ⟨okW, sm_whole74 n hn4⟩
    refine wb_cons (ws_if (wt_bool (ww_or (wt_not (wt_val (fun _ _ => rfl) ?_)))))
    refine we_isiDk piS hKo (wdeck_mk (d := (n, rg (2 ^ n))) MS GS (by show 9 ≤ 9; decide) rfl mDS bS hKo (wn_name 10 rfl (by walk_at "vis") rfl rfl) okS) rfl mi rfl mD kSC ⟨true, rfl, itN rfl (ww_or1 (wt_val (fun _ _ => rfl) ?_))⟩
    refine we_isiDk pi hKo (wdeck_raw (P1 c g1) rfl (R0 _ _ _ _ _ _ _ hKo rfl (by walk_at "vis") rfl)) rfl mi rfl mDS kCS ⟨false, rfl, itN rfl (wb_nil ?_)⟩
    refine wb_pairs 13 14 11 (by decide) (by decide) (by decide) ⟨blkOk_by (by dsimp only [bodyCs, Cs.blk]; decide +kernel), by walk_at "tgt", by walk_at "tgt"⟩ hKo (by walk_at "tgt") (by walk_at "vis") (by walk_at "vis") (by walk_at "vis") rfl rfl (by show 11 < 15; decide) (r := fun x y H Q => rEqDk K CS CS PmEq RmEq x y H Q ∨ (rEqDk K CS C PmEq RmNo x y H Q ∨ rEqDr K C CS PmEq RmNo x y H Q)) (cs := [true, false, false])
      (fun X fx => op_orR (op_ofE hSS (by show 1 ≤ 9; decide) X fx) (op_orR (op_ofE hSD (by show 1 ≤ 9; decide) X fx) (op_ofEr hSD (by show 1 ≤ 9; decide) hsub hne X fx))) (by decide) (fun env h => by cases env; cases h; rfl) ?hpairs rfl mp fine_tff.a.ok rfl ?hrhs ?hrest
    case hpairs =>
      have wS : ∀ (ρ' : Rho) (k' : Nat), ρ'[10]? = some (.d (boxD n (rg (2 ^ n)))) → ∀ (p cp pn : Pos), WDeck F4 (bodyCs P w K mg base nLaw74 (defScope (topS 68)) 9) (.Call (.Name "SmoothDeck" p) [.Name "_law_whole" pn] [] cp) ρ' k' CS ([(n, rg (2 ^ n))], []) := fun ρ' k' hr p cp pn => wdeck_mk (d := (n, rg (2 ^ n))) MS GS (by show 9 ≤ 9; decide) rfl mDS bS hKo (wn_name 10 rfl (by walk_at "vis") hr rfl) okS
      have wD : ∀ (ρ' : Rho) (k' : Nat), ρ'[10]? = some (.d (boxD n (rg (2 ^ n)))) → ∀ (p cp pn : Pos), WDeck F4 (bodyCs P w K mg base nLaw74 (defScope (topS 68)) 9) (.Call (.Name "Deck" p) [.Name "_law_whole" pn] [] cp) ρ' k' C ([(n, rg (2 ^ n))], []) := fun ρ' k' hr p cp pn => wdeck_mk (d := (n, rg (2 ^ n))) M Gi (by show 7 ≤ 9; decide) rfl mD bi hKo (wn_name 10 rfl (by walk_at "vis") hr rfl) okW
      have ne : PmEq ([(n, rg (2 ^ n))], []) ([(n, rg (2 ^ n))], []) := ⟨(fun z => nomatch z), (fun z => nomatch z)⟩
      refine wpairs_cons (wraw_pair hKo (wS _ _ rfl _ _ _) (wS _ _ rfl _ _ _) ne (fun c' hc => ?_) fun _ _ _ _ h => .inl h) (wpairs_cons (wraw_pair hKo (wS _ _ rfl _ _ _) (wD _ _ rfl _ _ _) ne (fun c' hc => hc) fun _ _ _ _ h => .inr (.inl h)) (wpairs_cons (wraw_pairR hKo (wD _ _ rfl _ _ _) (wS _ _ rfl _ _ _) ne (fun c' hc => hc) fun _ _ _ _ h => .inr (.inr h)) wpairs_nil))
      obtain ⟨n1, m1, cs', es', q0, q1, rfl⟩ := hc
      cases q0
      cases q1
      exact decide_eq_true ⟨rfl, rfl⟩
    case hrhs =>
      refine we_repr hKo rfl mp (fun _ => rfl) ?_
      with_reducible refine we_lst ?_
      walk_at "c1"
      with_reducible refine we_bl ?_
      walk_at "c1"
      with_reducible refine we_bl ?_
      walk_at "c1"
      with_reducible refine we_bl ?_
      with_reducible refine wa_nil ?_
      exact ⟨by show 3 ≤ _; decide, fine_tff.ok, rfl, rfl⟩
    case hrest =>
    obtain ⟨c, rfl⟩ : ∃ c', c = c' + 1 := ⟨c - 1, by omega⟩
    refine wb_cons (ws_set 12 (by walk_at "tgt") (fun env h => by cases env; cases h; rfl) (we_ix hKo (fun _ _ => rfl) (we_lst ?_)))
    walk_at "c1"
    with_reducible refine we_non ?_
    walk_at "c1"
    with_reducible refine we_int ?_
    walk_at "c1"
    with_reducible refine we_str ?_
    walk_at "c1"
    refine we_ixOwnZ 5 hKo rfl (by walk_at "vis") rfl (fun _ _ => rfl) (we_int ⟨0, boxD n cs0, rfl, rfl, ?_⟩)
    walk_at "c1"
    with_reducible refine we_lst ?_
    with_reducible refine wa_nil ?_
    refine ⟨Nat.zero_le _, ?_⟩
    walk_at "c1"
    with_reducible refine we_tup ?_
    with_reducible refine wa_nil ?_
    refine ⟨Nat.zero_le _, ?_⟩
    walk_at "c1"
    with_reducible refine we_dict0 ?_
    with_reducible refine wa_nil ?_
    refine ⟨by show 7 ≤ _; decide, ?_⟩
    refine we_callQ2 (a := a) gn (by show 1 ≤ 9; decide) hKo 1 rfl rfl (by walk_at "vis") rfl (wa_cons (fun _ => rfl) (we_int (wa_nil ⟨⟨7, rfl, by decide, by decide⟩, _, c, DQ g0 g1, rfl, ?_⟩)))
    rintro d ⟨m', v, e1, rfl, z0, z1⟩
    cases e1
    obtain ⟨u, hu, hpu⟩ := odd_pick (b := boxD n cs0) (show PreO (boxD n cs0) by unfold PreO; show "tuple" ∈ tysO; decide) z0 z1
    refine ⟨u, hu, ?_⟩
    refine wb_cons (ws_ret (we_and (we_neV hEV nn (by show 2 ≤ 9; decide) hKo (wdeck_raw (P1 c g1) rfl (R0 _ _ _ _ _ _ _ hKo rfl (by walk_at "vis") rfl)) (wn_name 12 rfl (by walk_at "vis") rfl hpu) ⟨true, rfl, itP rfl ?_⟩)))
    refine we_and (we_not (we_eqV hEV (by show 1 ≤ 9; decide) hKo (wdeck_raw (P1 c g1) rfl (R0 _ _ _ _ _ _ _ hKo rfl (by walk_at "vis") rfl)) (wn_name 12 rfl (by walk_at "vis") rfl hpu) ⟨false, rfl, true, rfl, itP rfl ?_⟩))
    refine we_one (we_eqDR (g1 := ([(m, cs1)], [])) hE (by show 1 ≤ 9; decide) hKo (wdeck_mk (d := (m, cs1)) M Gi (by show 7 ≤ 9; decide) rfl mD bi hKo (wn_ixOwn 5 hKo rfl (by walk_at "vis") rfl (fun _ _ => rfl) (wn_int ⟨1, boxD m cs1, rfl, rfl, rfl⟩)) ⟨h1.hn, h1.hb⟩) (wdeck_raw (P2 c g0) rfl (R1 _ _ _ _ _ _ _ hKo rfl (by walk_at "vis") rfl)) ⟨(fun z => nomatch z), h1.ne⟩ (fun r hr => ?_))
    obtain ⟨n1, m1, cs', es', q0, q1, rfl⟩ := hr
    rw [h1.last] at q1
    cases q0
    cases q1
    exact ⟨c, g0, g1, rfl, congrArg PyData.bool (decide_eq_true ⟨rfl, rfl⟩)⟩
end



/-! ### what the top has written; the end -/
theorem all_mk {P : Program} {w : World} {K : PySem.W.Frag} {h : Heap} {mg : Str → Option Value} {fa f0 f1 f2 f3 f4 f5 f6 f7 f8 f9 f10 f11 f12 f13 f14 f15 f16 f17 f18 f19 f20 f21 f22 f23 f24 f25 f26 f27 f28 f29 f30 f31 f32 f33 f34 f35 f36 f37 f38 f39 : Addr} (X : K.In h) (G : h.Ns mainGlobals mg) (hfa : mg "law" = some (.ref fa))
    {od0 an0 od1 an1 od2 an2 od3 an3 od4 an4 od5 an5 od6 an6 od7 an7 od8 an8 od9 an9 od10 an10 od11 an11 od12 an12 od13 an13 od14 an14 od15 an15 od16 an16 od17 an17 od18 an18 od19 an19 od20 an20 od21 an21 od22 an22 od23 an23 od24 an24 od25 an25 od26 an26 od27 an27 od28 an28 od29 an29 od30 an30 od31 an31 od32 an32 od33 an33 od34 an34 od35 an35 od36 an36 od37 an37 od38 an38 od39 an39 : Option Addr} {sl0 sl1 sl2 sl3 sl4 sl5 sl6 sl7 sl8 sl9 sl10 sl11 sl12 sl13 sl14 sl15 sl16 sl17 sl18 sl19 sl20 sl21 sl22 sl23 sl24 sl25 sl26 sl27 sl28 sl29 sl30 sl31 sl32 sl33 sl34 sl35 sl36 sl37 sl38 sl39 : Array (Option Value)} {oc0 kV0 dc0 pm0 cd0 ct0 oc1 kV1 dc1 pm1 cd1 ct1 oc2 kV2 dc2 pm2 cd2 ct2 oc3 kV3 dc3 pm3 cd3 ct3 oc4 kV4 dc4 pm4 cd4 ct4 oc5 kV5 dc5 pm5 cd5 ct5 oc6 kV6 dc6 pm6 cd6 ct6 oc7 kV7 dc7 pm7 cd7 ct7 oc8 kV8 dc8 pm8 cd8 ct8 oc9 kV9 dc9 pm9 cd9 ct9 oc10 kV10 dc10 pm10 cd10 ct10 oc11 kV11 dc11 pm11 cd11 ct11 oc12 kV12 dc12 pm12 cd12 ct12 oc13 kV13 dc13 pm13 cd13 ct13 oc14 kV14 dc14 pm14 cd14 ct14 oc15 kV15 dc15 pm15 cd15 ct15 oc16 kV16 dc16 pm16 cd16 ct16 oc17 kV17 dc17 pm17 cd17 ct17 oc18 kV18 dc18 pm18 cd18 ct18 oc19 kV19 dc19 pm19 cd19 ct19 oc20 kV20 dc20 pm20 cd20 ct20 oc21 kV21 dc21 pm21 cd21 ct21 oc22 kV22 dc22 pm22 cd22 ct22 oc23 kV23 dc23 pm23 cd23 ct23 oc24 kV24 dc24 pm24 cd24 ct24 oc25 kV25 dc25 pm25 cd25 ct25 oc26 kV26 dc26 pm26 cd26 ct26 oc27 kV27 dc27 pm27 cd27 ct27 oc28 kV28 dc28 pm28 cd28 ct28 oc29 kV29 dc29 pm29 cd29 ct29 oc30 kV30 dc30 pm30 cd30 ct30 oc31 kV31 dc31 pm31 cd31 ct31 oc32 kV32 dc32 pm32 cd32 ct32 oc33 kV33 dc33 pm33 cd33 ct33 oc34 kV34 dc34 pm34 cd34 ct34 oc35 kV35 dc35 pm35 cd35 ct35 oc36 kV36 dc36 pm36 cd36 ct36 oc37 kV37 dc37 pm37 cd37 ct37 oc38 kV38 dc38 pm38 cd38 ct38 oc39 kV39 dc39 pm39 cd39 ct39 : Value}
    (a0 : PySem.W.nsIn K mainGlobals "is_number" = some (some (.ref f0))) (l0 : K.lookup f0 = some ⟨oc0, od0, .func (PySem.W.fnOf "is_number" "is_number" (defArgs (topS 4)) (defBody (topS 4)) (defScope (topS 4)) .none kV0 dc0 pm0 an0 cd0 ct0), sl0⟩) (c0 : PySem.W.codeIn K cd0 "is_number" = true) (k0 : PySem.W.keepIn K (.ref f0) = true)
    (a1 : PySem.W.nsIn K mainGlobals "is_below" = some (some (.ref f1))) (l1 : K.lookup f1 = some ⟨oc1, od1, .func (PySem.W.fnOf "is_below" "is_below" (defArgs (topS 5)) (defBody (topS 5)) (defScope (topS 5)) .none kV1 dc1 pm1 an1 cd1 ct1), sl1⟩) (c1 : PySem.W.codeIn K cd1 "is_below" = true) (k1 : PySem.W.keepIn K (.ref f1) = true)
    (a2 : PySem.W.nsIn K mainGlobals "is_one_of" = some (some (.ref f2))) (l2 : K.lookup f2 = some ⟨oc2, od2, .func (PySem.W.fnOf "is_one_of" "is_one_of" (defArgs (topS 6)) (defBody (topS 6)) (defScope (topS 6)) .none kV2 dc2 pm2 an2 cd2 ct2), sl2⟩) (c2 : PySem.W.codeIn K cd2 "is_one_of" = true) (k2 : PySem.W.keepIn K (.ref f2) = true)
    (a3 : PySem.W.nsIn K mainGlobals "is_pair" = some (some (.ref f3))) (l3 : K.lookup f3 = some ⟨oc3, od3, .func (PySem.W.fnOf "is_pair" "is_pair" (defArgs (topS 7)) (defBody (topS 7)) (defScope (topS 7)) .none kV3 dc3 pm3 an3 cd3 ct3), sl3⟩) (c3 : PySem.W.codeIn K cd3 "is_pair" = true) (k3 : PySem.W.keepIn K (.ref f3) = true)
    (a4 : PySem.W.nsIn K mainGlobals "is_card" = some (some (.ref f4))) (l4 : K.lookup f4 = some ⟨oc4, od4, .func (PySem.W.fnOf "is_card" "is_card" (defArgs (topS 8)) (defBody (topS 8)) (defScope (topS 8)) .none kV4 dc4 pm4 an4 cd4 ct4), sl4⟩) (c4 : PySem.W.codeIn K cd4 "is_card" = true) (k4 : PySem.W.keepIn K (.ref f4) = true)
    (a5 : PySem.W.nsIn K mainGlobals "box_error" = some (some (.ref f5))) (l5 : K.lookup f5 = some ⟨oc5, od5, .func (PySem.W.fnOf "box_error" "box_error" (defArgs (topS 9)) (defBody (topS 9)) (defScope (topS 9)) .none kV5 dc5 pm5 an5 cd5 ct5), sl5⟩) (c5 : PySem.W.codeIn K cd5 "box_error" = true) (k5 : PySem.W.keepIn K (.ref f5) = true)
    (a6 : PySem.W.nsIn K mainGlobals "cards_error" = some (some (.ref f6))) (l6 : K.lookup f6 = some ⟨oc6, od6, .func (PySem.W.fnOf "cards_error" "cards_error" (defArgs (topS 10)) (defBody (topS 10)) (defScope (topS 10)) .none kV6 dc6 pm6 an6 cd6 ct6), sl6⟩) (c6 : PySem.W.codeIn K cd6 "cards_error" = true) (k6 : PySem.W.keepIn K (.ref f6) = true)
    (a7 : PySem.W.nsIn K mainGlobals "has_switch" = some (some (.ref f7))) (l7 : K.lookup f7 = some ⟨oc7, od7, .func (PySem.W.fnOf "has_switch" "has_switch" (defArgs (topS 11)) (defBody (topS 11)) (defScope (topS 11)) .none kV7 dc7 pm7 an7 cd7 ct7), sl7⟩) (c7 : PySem.W.codeIn K cd7 "has_switch" = true) (k7 : PySem.W.keepIn K (.ref f7) = true)
    (a8 : PySem.W.nsIn K mainGlobals "subsets_of" = some (some (.ref f8))) (l8 : K.lookup f8 = some ⟨oc8, od8, .func (PySem.W.fnOf "subsets_of" "subsets_of" (defArgs (topS 12)) (defBody (topS 12)) (defScope (topS 12)) .none kV8 dc8 pm8 an8 cd8 ct8), sl8⟩) (c8 : PySem.W.codeIn K cd8 "subsets_of" = true) (k8 : PySem.W.keepIn K (.ref f8) = true)
    (a9 : PySem.W.nsIn K mainGlobals "sets_outside" = some (some (.ref f9))) (l9 : K.lookup f9 = some ⟨oc9, od9, .func (PySem.W.fnOf "sets_outside" "sets_outside" (defArgs (topS 13)) (defBody (topS 13)) (defScope (topS 13)) .none kV9 dc9 pm9 an9 cd9 ct9), sl9⟩) (c9 : PySem.W.codeIn K cd9 "sets_outside" = true) (k9 : PySem.W.keepIn K (.ref f9) = true)
    (a10 : PySem.W.nsIn K mainGlobals "flip_switches" = some (some (.ref f10))) (l10 : K.lookup f10 = some ⟨oc10, od10, .func (PySem.W.fnOf "flip_switches" "flip_switches" (defArgs (topS 31)) (defBody (topS 31)) (defScope (topS 31)) .none kV10 dc10 pm10 an10 cd10 ct10), sl10⟩) (c10 : PySem.W.codeIn K cd10 "flip_switches" = true) (k10 : PySem.W.keepIn K (.ref f10) = true)
    (a11 : PySem.W.nsIn K mainGlobals "cube_cards" = some (some (.ref f11))) (l11 : K.lookup f11 = some ⟨oc11, od11, .func (PySem.W.fnOf "cube_cards" "cube_cards" (defArgs (topS 33)) (defBody (topS 33)) (defScope (topS 33)) .none kV11 dc11 pm11 an11 cd11 ct11), sl11⟩) (c11 : PySem.W.codeIn K cd11 "cube_cards" = true) (k11 : PySem.W.keepIn K (.ref f11) = true)
    (a12 : PySem.W.nsIn K mainGlobals "first_missing" = some (some (.ref f12))) (l12 : K.lookup f12 = some ⟨oc12, od12, .func (PySem.W.fnOf "first_missing" "first_missing" (defArgs (topS 34)) (defBody (topS 34)) (defScope (topS 34)) .none kV12 dc12 pm12 an12 cd12 ct12), sl12⟩) (c12 : PySem.W.codeIn K cd12 "first_missing" = true) (k12 : PySem.W.keepIn K (.ref f12) = true)
    (a13 : PySem.W.nsIn K mainGlobals "bases_of" = some (some (.ref f13))) (l13 : K.lookup f13 = some ⟨oc13, od13, .func (PySem.W.fnOf "bases_of" "bases_of" (defArgs (topS 35)) (defBody (topS 35)) (defScope (topS 35)) .none kV13 dc13 pm13 an13 cd13 ct13), sl13⟩) (c13 : PySem.W.codeIn K cd13 "bases_of" = true) (k13 : PySem.W.keepIn K (.ref f13) = true)
    (a14 : PySem.W.nsIn K mainGlobals "is_solid" = some (some (.ref f14))) (l14 : K.lookup f14 = some ⟨oc14, od14, .func (PySem.W.fnOf "is_solid" "is_solid" (defArgs (topS 36)) (defBody (topS 36)) (defScope (topS 36)) .none kV14 dc14 pm14 an14 cd14 ct14), sl14⟩) (c14 : PySem.W.codeIn K cd14 "is_solid" = true) (k14 : PySem.W.keepIn K (.ref f14) = true)
    (a15 : PySem.W.nsIn K mainGlobals "solid_sets" = some (some (.ref f15))) (l15 : K.lookup f15 = some ⟨oc15, od15, .func (PySem.W.fnOf "solid_sets" "solid_sets" (defArgs (topS 37)) (defBody (topS 37)) (defScope (topS 37)) .none kV15 dc15 pm15 an15 cd15 ct15), sl15⟩) (c15 : PySem.W.codeIn K cd15 "solid_sets" = true) (k15 : PySem.W.keepIn K (.ref f15) = true)
    (a16 : PySem.W.nsIn K mainGlobals "press_switch" = some (some (.ref f16))) (l16 : K.lookup f16 = some ⟨oc16, od16, .func (PySem.W.fnOf "press_switch" "press_switch" (defArgs (topS 39)) (defBody (topS 39)) (defScope (topS 39)) .none kV16 dc16 pm16 an16 cd16 ct16), sl16⟩) (c16 : PySem.W.codeIn K cd16 "press_switch" = true) (k16 : PySem.W.keepIn K (.ref f16) = true)
    (a17 : PySem.W.nsIn K mainGlobals "pressed_card" = some (some (.ref f17))) (l17 : K.lookup f17 = some ⟨oc17, od17, .func (PySem.W.fnOf "pressed_card" "pressed_card" (defArgs (topS 40)) (defBody (topS 40)) (defScope (topS 40)) .none kV17 dc17 pm17 an17 cd17 ct17), sl17⟩) (c17 : PySem.W.codeIn K cd17 "pressed_card" = true) (k17 : PySem.W.keepIn K (.ref f17) = true)
    (a18 : PySem.W.nsIn K mainGlobals "patterns_of" = some (some (.ref f18))) (l18 : K.lookup f18 = some ⟨oc18, od18, .func (PySem.W.fnOf "patterns_of" "patterns_of" (defArgs (topS 42)) (defBody (topS 42)) (defScope (topS 42)) .none kV18 dc18 pm18 an18 cd18 ct18), sl18⟩) (c18 : PySem.W.codeIn K cd18 "patterns_of" = true) (k18 : PySem.W.keepIn K (.ref f18) = true)
    (a19 : PySem.W.nsIn K mainGlobals "is_shown" = some (some (.ref f19))) (l19 : K.lookup f19 = some ⟨oc19, od19, .func (PySem.W.fnOf "is_shown" "is_shown" (defArgs (topS 43)) (defBody (topS 43)) (defScope (topS 43)) .none kV19 dc19 pm19 an19 cd19 ct19), sl19⟩) (c19 : PySem.W.codeIn K cd19 "is_shown" = true) (k19 : PySem.W.keepIn K (.ref f19) = true)
    (a20 : PySem.W.nsIn K mainGlobals "shown_sets" = some (some (.ref f20))) (l20 : K.lookup f20 = some ⟨oc20, od20, .func (PySem.W.fnOf "shown_sets" "shown_sets" (defArgs (topS 44)) (defBody (topS 44)) (defScope (topS 44)) .none kV20 dc20 pm20 an20 cd20 ct20), sl20⟩) (c20 : PySem.W.codeIn K cd20 "shown_sets" = true) (k20 : PySem.W.keepIn K (.ref f20) = true)
    (a21 : PySem.W.nsIn K mainGlobals "rough_set" = some (some (.ref f21))) (l21 : K.lookup f21 = some ⟨oc21, od21, .func (PySem.W.fnOf "rough_set" "rough_set" (defArgs (topS 46)) (defBody (topS 46)) (defScope (topS 46)) .none kV21 dc21 pm21 an21 cd21 ct21), sl21⟩) (c21 : PySem.W.codeIn K cd21 "rough_set" = true) (k21 : PySem.W.keepIn K (.ref f21) = true)
    (a22 : PySem.W.nsIn K mainGlobals "with_card" = some (some (.ref f22))) (l22 : K.lookup f22 = some ⟨oc22, od22, .func (PySem.W.fnOf "with_card" "with_card" (defArgs (topS 48)) (defBody (topS 48)) (defScope (topS 48)) .none kV22 dc22 pm22 an22 cd22 ct22), sl22⟩) (c22 : PySem.W.codeIn K cd22 "with_card" = true) (k22 : PySem.W.keepIn K (.ref f22) = true)
    (a23 : PySem.W.nsIn K mainGlobals "without_card" = some (some (.ref f23))) (l23 : K.lookup f23 = some ⟨oc23, od23, .func (PySem.W.fnOf "without_card" "without_card" (defArgs (topS 49)) (defBody (topS 49)) (defScope (topS 49)) .none kV23 dc23 pm23 an23 cd23 ct23), sl23⟩) (c23 : PySem.W.codeIn K cd23 "without_card" = true) (k23 : PySem.W.keepIn K (.ref f23) = true)
    (a24 : PySem.W.nsIn K mainGlobals "check_new_card" = some (some (.ref f24))) (l24 : K.lookup f24 = some ⟨oc24, od24, .func (PySem.W.fnOf "check_new_card" "check_new_card" (defArgs (topS 50)) (defBody (topS 50)) (defScope (topS 50)) .none kV24 dc24 pm24 an24 cd24 ct24), sl24⟩) (c24 : PySem.W.codeIn K cd24 "check_new_card" = true) (k24 : PySem.W.keepIn K (.ref f24) = true)
    (a25 : PySem.W.nsIn K mainGlobals "check_old_card" = some (some (.ref f25))) (l25 : K.lookup f25 = some ⟨oc25, od25, .func (PySem.W.fnOf "check_old_card" "check_old_card" (defArgs (topS 51)) (defBody (topS 51)) (defScope (topS 51)) .none kV25 dc25 pm25 an25 cd25 ct25), sl25⟩) (c25 : PySem.W.codeIn K cd25 "check_old_card" = true) (k25 : PySem.W.keepIn K (.ref f25) = true)
    (a26 : PySem.W.nsIn K mainGlobals "check_switch" = some (some (.ref f26))) (l26 : K.lookup f26 = some ⟨oc26, od26, .func (PySem.W.fnOf "check_switch" "check_switch" (defArgs (topS 52)) (defBody (topS 52)) (defScope (topS 52)) .none kV26 dc26 pm26 an26 cd26 ct26), sl26⟩) (c26 : PySem.W.codeIn K cd26 "check_switch" = true) (k26 : PySem.W.keepIn K (.ref f26) = true)
    (a27 : PySem.W.nsIn K mainGlobals "check_smooth" = some (some (.ref f27))) (l27 : K.lookup f27 = some ⟨oc27, od27, .func (PySem.W.fnOf "check_smooth" "check_smooth" (defArgs (topS 53)) (defBody (topS 53)) (defScope (topS 53)) .none kV27 dc27 pm27 an27 cd27 ct27), sl27⟩) (c27 : PySem.W.codeIn K cd27 "check_smooth" = true) (k27 : PySem.W.keepIn K (.ref f27) = true)
    (a28 : PySem.W.nsIn K mainGlobals "_law_deck" = some (some (.ref f28))) (l28 : K.lookup f28 = some ⟨oc28, od28, .func (PySem.W.fnOf "_law_deck" "_law_deck" (defArgs (topS 57)) (defBody (topS 57)) (defScope (topS 57)) .none kV28 dc28 pm28 an28 cd28 ct28), sl28⟩) (c28 : PySem.W.codeIn K cd28 "_law_deck" = true) (k28 : PySem.W.keepIn K (.ref f28) = true)
    (a29 : PySem.W.nsIn K mainGlobals "_law_draw" = some (some (.ref f29))) (l29 : K.lookup f29 = some ⟨oc29, od29, .func (PySem.W.fnOf "_law_draw" "_law_draw" (defArgs (topS 58)) (defBody (topS 58)) (defScope (topS 58)) .none kV29 dc29 pm29 an29 cd29 ct29), sl29⟩) (c29 : PySem.W.codeIn K cd29 "_law_draw" = true) (k29 : PySem.W.keepIn K (.ref f29) = true)
    (a30 : PySem.W.nsIn K mainGlobals "_law_closed" = some (some (.ref f30))) (l30 : K.lookup f30 = some ⟨oc30, od30, .func (PySem.W.fnOf "_law_closed" "_law_closed" (defArgs (topS 59)) (defBody (topS 59)) (defScope (topS 59)) .none kV30 dc30 pm30 an30 cd30 ct30), sl30⟩) (c30 : PySem.W.codeIn K cd30 "_law_closed" = true) (k30 : PySem.W.keepIn K (.ref f30) = true)
    (a31 : PySem.W.nsIn K mainGlobals "_law_cards" = some (some (.ref f31))) (l31 : K.lookup f31 = some ⟨oc31, od31, .func (PySem.W.fnOf "_law_cards" "_law_cards" (defArgs (topS 60)) (defBody (topS 60)) (defScope (topS 60)) .none kV31 dc31 pm31 an31 cd31 ct31), sl31⟩) (c31 : PySem.W.codeIn K cd31 "_law_cards" = true) (k31 : PySem.W.keepIn K (.ref f31) = true)
    (a32 : PySem.W.nsIn K mainGlobals "_law_size" = some (some (.ref f32))) (l32 : K.lookup f32 = some ⟨oc32, od32, .func (PySem.W.fnOf "_law_size" "_law_size" (defArgs (topS 61)) (defBody (topS 61)) (defScope (topS 61)) .none kV32 dc32 pm32 an32 cd32 ct32), sl32⟩) (c32 : PySem.W.codeIn K cd32 "_law_size" = true) (k32 : PySem.W.keepIn K (.ref f32) = true)
    (a33 : PySem.W.nsIn K mainGlobals "_law_box" = some (some (.ref f33))) (l33 : K.lookup f33 = some ⟨oc33, od33, .func (PySem.W.fnOf "_law_box" "_law_box" (defArgs (topS 62)) (defBody (topS 62)) (defScope (topS 62)) .none kV33 dc33 pm33 an33 cd33 ct33), sl33⟩) (c33 : PySem.W.codeIn K cd33 "_law_box" = true) (k33 : PySem.W.keepIn K (.ref f33) = true)
    (a34 : PySem.W.nsIn K mainGlobals "_law_after" = some (some (.ref f34))) (l34 : K.lookup f34 = some ⟨oc34, od34, .func (PySem.W.fnOf "_law_after" "_law_after" (defArgs (topS 63)) (defBody (topS 63)) (defScope (topS 63)) .none kV34 dc34 pm34 an34 cd34 ct34), sl34⟩) (c34 : PySem.W.codeIn K cd34 "_law_after" = true) (k34 : PySem.W.keepIn K (.ref f34) = true)
    (a35 : PySem.W.nsIn K mainGlobals "_law_edit" = some (some (.ref f35))) (l35 : K.lookup f35 = some ⟨oc35, od35, .func (PySem.W.fnOf "_law_edit" "_law_edit" (defArgs (topS 64)) (defBody (topS 64)) (defScope (topS 64)) .none kV35 dc35 pm35 an35 cd35 ct35), sl35⟩) (c35 : PySem.W.codeIn K cd35 "_law_edit" = true) (k35 : PySem.W.keepIn K (.ref f35) = true)
    (a36 : PySem.W.nsIn K mainGlobals "_law_do" = some (some (.ref f36))) (l36 : K.lookup f36 = some ⟨oc36, od36, .func (PySem.W.fnOf "_law_do" "_law_do" (defArgs (topS 65)) (defBody (topS 65)) (defScope (topS 65)) .none kV36 dc36 pm36 an36 cd36 ct36), sl36⟩) (c36 : PySem.W.codeIn K cd36 "_law_do" = true) (k36 : PySem.W.keepIn K (.ref f36) = true)
    (a37 : PySem.W.nsIn K mainGlobals "_law_flags" = some (some (.ref f37))) (l37 : K.lookup f37 = some ⟨oc37, od37, .func (PySem.W.fnOf "_law_flags" "_law_flags" (defArgs (topS 66)) (defBody (topS 66)) (defScope (topS 66)) .none kV37 dc37 pm37 an37 cd37 ct37), sl37⟩) (c37 : PySem.W.codeIn K cd37 "_law_flags" = true) (k37 : PySem.W.keepIn K (.ref f37) = true)
    (a38 : PySem.W.nsIn K mainGlobals "_law_errors_right" = some (some (.ref f38))) (l38 : K.lookup f38 = some ⟨oc38, od38, .func (PySem.W.fnOf "_law_errors_right" "_law_errors_right" (defArgs (topS 67)) (defBody (topS 67)) (defScope (topS 67)) .none kV38 dc38 pm38 an38 cd38 ct38), sl38⟩) (c38 : PySem.W.codeIn K cd38 "_law_errors_right" = true) (k38 : PySem.W.keepIn K (.ref f38) = true)
    (a39 : PySem.W.nsIn K mainGlobals "law" = some (some (.ref f39))) (l39 : K.lookup f39 = some ⟨oc39, od39, .func (PySem.W.fnOf "law" "law" (defArgs (topS 68)) (defBody (topS 68)) (defScope (topS 68)) .none kV39 dc39 pm39 an39 cd39 ct39), sl39⟩) (c39 : PySem.W.codeIn K cd39 "law" = true) (k39 : PySem.W.keepIn K (.ref f39) = true)
    (z0 : PySem.W.nsIn K mainGlobals "range" = some none)
    (z1 : PySem.W.nsIn K mainGlobals "tuple" = some none)
    (z2 : PySem.W.nsIn K mainGlobals "len" = some none)
    (z3 : PySem.W.nsIn K mainGlobals "repr" = some none)
    (z4 : PySem.W.nsIn K mainGlobals "abs" = some none)
    (z5 : PySem.W.nsIn K mainGlobals "list" = some none)
    (z6 : PySem.W.nsIn K mainGlobals "sorted" = some none)
    (z7 : PySem.W.nsIn K mainGlobals "set" = some none)
    (z8 : PySem.W.nsIn K mainGlobals "sum" = some none)
    (z9 : PySem.W.nsIn K mainGlobals "isinstance" = some none)
    (z10 : PySem.W.nsIn K mainGlobals "int" = some none)
    (z11 : PySem.W.nsIn K mainGlobals "bool" = some none)
    (z12 : PySem.W.nsIn K mainGlobals "enumerate" = some none)
    (z13 : PySem.W.nsIn K mainGlobals "min" = some none)
    (z14 : PySem.W.nsIn K mainGlobals "ValueError" = some none)
    (z15 : PySem.W.nsIn K mainGlobals "LookupError" = some none)
    {tk0 : Tok} (y0 : PySem.W.nsIn K mainGlobals "MAX_SWITCHES" = some (some (.int 6 tk0)))
    {tk1 : Tok} (y1 : PySem.W.nsIn K mainGlobals "MAX_EDITS" = some (some (.int 60 tk1)))
    {C : Addr} {fM0 fM1 fM2 fM3 fM4 fM5 fM6 fM7 fM8 fM9 fM10 fM11 : Addr} {odM0 anM0 odM1 anM1 odM2 anM2 odM3 anM3 odM4 anM4 odM5 anM5 odM6 anM6 odM7 anM7 odM8 anM8 odM9 anM9 odM10 anM10 odM11 anM11 : Option Addr} {slM0 slM1 slM2 slM3 slM4 slM5 slM6 slM7 slM8 slM9 slM10 slM11 : Array (Option Value)} {ocM0 dcM0 pmM0 cdM0 ctM0 kVM0 ocM1 dcM1 pmM1 cdM1 ctM1 ocM2 dcM2 pmM2 cdM2 ctM2 kVM2 ocM3 dcM3 pmM3 cdM3 ctM3 kVM3 ocM4 dcM4 pmM4 cdM4 ctM4 kVM4 ocM5 dcM5 pmM5 cdM5 ctM5 kVM5 ocM6 dcM6 pmM6 cdM6 ctM6 kVM6 ocM7 dcM7 pmM7 cdM7 ctM7 kVM7 ocM8 dcM8 pmM8 cdM8 ctM8 kVM8 ocM9 dcM9 pmM9 cdM9 ctM9 kVM9 ocM10 dcM10 pmM10 cdM10 ctM10 kVM10 ocM11 dcM11 pmM11 cdM11 ctM11 kVM11 : Value}
    (aC : PySem.W.nsIn K mainGlobals "Deck" = some (some (.ref C))) (pg : PySem.W.plainGet K C Str.empty = true) (hd : PySem.W.hasDictIn K C = true) (po : PySem.W.plainOver K C = true) (sa : PySem.W.findIn K (.ref C) "__setattr__" = some (some (.builtin "object.__setattr__"))) (mkC : PySem.W.makesIn K C = true) (kC : PySem.W.keepIn K (.ref C) = true) (nS : PySem.W.findIn K (.ref C) "states" = some none) (nD : PySem.W.findIn K (.ref C) "done" = some none)
    (aM0 : PySem.W.findIn K (.ref C) "__init__" = some (some (.ref fM0))) (lM0 : K.lookup fM0 = some ⟨ocM0, odM0, .func (PySem.W.fnOf "__init__" "Deck.__init__" (defArgs (mS 54 0)) (defBody (mS 54 0)) (defScope (mS 54 0)) .none kVM0 dcM0 pmM0 anM0 cdM0 ctM0), slM0⟩) (cM0 : PySem.W.codeIn K cdM0 "Deck.__init__" = true) (kM0 : PySem.W.keepIn K (.ref fM0) = true) (iM0 : PySem.W.isFn K (.ref fM0) = true)
    {D1 : Addr}
    (aM1 : PySem.W.findIn K (.ref C) "box" = some (some (.ref fM1))) (lM1 : K.lookup fM1 = some ⟨ocM1, odM1, .func (PySem.W.fnOf "box" "Deck.box" (defArgs (mS 54 11)) (defBody (mS 54 11)) (defScope (mS 54 11)) .none (.ref D1) dcM1 pmM1 anM1 cdM1 ctM1), slM1⟩) (cM1 : PySem.W.codeIn K cdM1 "Deck.box" = true) (kM1 : PySem.W.keepIn K (.ref fM1) = true) (iM1 : PySem.W.isFn K (.ref fM1) = true)
    (dM1 : PySem.W.nsIn K D1 "version" = some (some .none))
    (aM2 : PySem.W.findIn K (.ref C) "check_room" = some (some (.ref fM2))) (lM2 : K.lookup fM2 = some ⟨ocM2, odM2, .func (PySem.W.fnOf "check_room" "Deck.check_room" (defArgs (mS 54 5)) (defBody (mS 54 5)) (defScope (mS 54 5)) .none kVM2 dcM2 pmM2 anM2 cdM2 ctM2), slM2⟩) (cM2 : PySem.W.codeIn K cdM2 "Deck.check_room" = true) (kM2 : PySem.W.keepIn K (.ref fM2) = true) (iM2 : PySem.W.isFn K (.ref fM2) = true)
    (aM3 : PySem.W.findIn K (.ref C) "stand" = some (some (.ref fM3))) (lM3 : K.lookup fM3 = some ⟨ocM3, odM3, .func (PySem.W.fnOf "stand" "Deck.stand" (defArgs (mS 54 6)) (defBody (mS 54 6)) (defScope (mS 54 6)) .none kVM3 dcM3 pmM3 anM3 cdM3 ctM3), slM3⟩) (cM3 : PySem.W.codeIn K cdM3 "Deck.stand" = true) (kM3 : PySem.W.keepIn K (.ref fM3) = true) (iM3 : PySem.W.isFn K (.ref fM3) = true)
    (aM4 : PySem.W.findIn K (.ref C) "__len__" = some (some (.ref fM4))) (lM4 : K.lookup fM4 = some ⟨ocM4, odM4, .func (PySem.W.fnOf "__len__" "Deck.__len__" (defArgs (mS 54 17)) (defBody (mS 54 17)) (defScope (mS 54 17)) .none kVM4 dcM4 pmM4 anM4 cdM4 ctM4), slM4⟩) (cM4 : PySem.W.codeIn K cdM4 "Deck.__len__" = true) (kM4 : PySem.W.keepIn K (.ref fM4) = true) (iM4 : PySem.W.isFn K (.ref fM4) = true)
    (aM5 : PySem.W.findIn K (.ref C) "add" = some (some (.ref fM5))) (lM5 : K.lookup fM5 = some ⟨ocM5, odM5, .func (PySem.W.fnOf "add" "Deck.add" (defArgs (mS 54 1)) (defBody (mS 54 1)) (defScope (mS 54 1)) .none kVM5 dcM5 pmM5 anM5 cdM5 ctM5), slM5⟩) (cM5 : PySem.W.codeIn K cdM5 "Deck.add" = true) (kM5 : PySem.W.keepIn K (.ref fM5) = true) (iM5 : PySem.W.isFn K (.ref fM5) = true)
    (aM6 : PySem.W.findIn K (.ref C) "remove" = some (some (.ref fM6))) (lM6 : K.lookup fM6 = some ⟨ocM6, odM6, .func (PySem.W.fnOf "remove" "Deck.remove" (defArgs (mS 54 2)) (defBody (mS 54 2)) (defScope (mS 54 2)) .none kVM6 dcM6 pmM6 anM6 cdM6 ctM6), slM6⟩) (cM6 : PySem.W.codeIn K cdM6 "Deck.remove" = true) (kM6 : PySem.W.keepIn K (.ref fM6) = true) (iM6 : PySem.W.isFn K (.ref fM6) = true)
    (aM7 : PySem.W.findIn K (.ref C) "flip" = some (some (.ref fM7))) (lM7 : K.lookup fM7 = some ⟨ocM7, odM7, .func (PySem.W.fnOf "flip" "Deck.flip" (defArgs (mS 54 3)) (defBody (mS 54 3)) (defScope (mS 54 3)) .none kVM7 dcM7 pmM7 anM7 cdM7 ctM7), slM7⟩) (cM7 : PySem.W.codeIn K cdM7 "Deck.flip" = true) (kM7 : PySem.W.keepIn K (.ref fM7) = true) (iM7 : PySem.W.isFn K (.ref fM7) = true)
    (aM8 : PySem.W.findIn K (.ref C) "press" = some (some (.ref fM8))) (lM8 : K.lookup fM8 = some ⟨ocM8, odM8, .func (PySem.W.fnOf "press" "Deck.press" (defArgs (mS 54 4)) (defBody (mS 54 4)) (defScope (mS 54 4)) .none kVM8 dcM8 pmM8 anM8 cdM8 ctM8), slM8⟩) (cM8 : PySem.W.codeIn K cdM8 "Deck.press" = true) (kM8 : PySem.W.keepIn K (.ref fM8) = true) (iM8 : PySem.W.isFn K (.ref fM8) = true)
    (aM9 : PySem.W.findIn K (.ref C) "go_back" = some (some (.ref fM9))) (lM9 : K.lookup fM9 = some ⟨ocM9, odM9, .func (PySem.W.fnOf "go_back" "Deck.go_back" (defArgs (mS 54 8)) (defBody (mS 54 8)) (defScope (mS 54 8)) .none kVM9 dcM9 pmM9 anM9 cdM9 ctM9), slM9⟩) (cM9 : PySem.W.codeIn K cdM9 "Deck.go_back" = true) (kM9 : PySem.W.keepIn K (.ref fM9) = true) (iM9 : PySem.W.isFn K (.ref fM9) = true)
    (aM10 : PySem.W.findIn K (.ref C) "undo" = some (some (.ref fM10))) (lM10 : K.lookup fM10 = some ⟨ocM10, odM10, .func (PySem.W.fnOf "undo" "Deck.undo" (defArgs (mS 54 7)) (defBody (mS 54 7)) (defScope (mS 54 7)) .none kVM10 dcM10 pmM10 anM10 cdM10 ctM10), slM10⟩) (cM10 : PySem.W.codeIn K cdM10 "Deck.undo" = true) (kM10 : PySem.W.keepIn K (.ref fM10) = true) (iM10 : PySem.W.isFn K (.ref fM10) = true)
    (aM11 : PySem.W.findIn K (.ref C) "__eq__" = some (some (.ref fM11))) (lM11 : K.lookup fM11 = some ⟨ocM11, odM11, .func (PySem.W.fnOf "__eq__" "Deck.__eq__" (defArgs (mS 54 19)) (defBody (mS 54 19)) (defScope (mS 54 19)) .none kVM11 dcM11 pmM11 anM11 cdM11 ctM11), slM11⟩) (cM11 : PySem.W.codeIn K cdM11 "Deck.__eq__" = true) (kM11 : PySem.W.keepIn K (.ref fM11) = true) (iM11 : PySem.W.isFn K (.ref fM11) = true)
    {CS : Addr} {fN0 fN1 : Addr} {odN0 anN0 odN1 anN1 : Option Addr} {slN0 slN1 : Array (Option Value)} {ocN0 dcN0 pmN0 cdN0 ctN0 kVN0 ocN1 dcN1 pmN1 cdN1 ctN1 kVN1 : Value}
    (aC2 : PySem.W.nsIn K mainGlobals "SmoothDeck" = some (some (.ref CS))) (pg2 : PySem.W.plainGet K CS Str.empty = true) (hd2 : PySem.W.hasDictIn K CS = true) (po2 : PySem.W.plainOver K CS = true) (sa2 : PySem.W.findIn K (.ref CS) "__setattr__" = some (some (.builtin "object.__setattr__"))) (mkC2 : PySem.W.makesIn K CS = true) (kC2 : PySem.W.keepIn K (.ref CS) = true) (nS2 : PySem.W.findIn K (.ref CS) "states" = some none) (nD2 : PySem.W.findIn K (.ref CS) "done" = some none)
    (aN0 : PySem.W.findIn K (.ref CS) "__init__" = some (some (.ref fN0))) (lN0 : K.lookup fN0 = some ⟨ocN0, odN0, .func (PySem.W.fnOf "__init__" "SmoothDeck.__init__" (defArgs (mS 55 0)) (defBody (mS 55 0)) (defScope (mS 55 0)) .none kVN0 dcN0 pmN0 anN0 cdN0 ctN0), slN0⟩) (cN0 : PySem.W.codeIn K cdN0 "SmoothDeck.__init__" = true) (kN0 : PySem.W.keepIn K (.ref fN0) = true) (iN0 : PySem.W.isFn K (.ref fN0) = true)
    (aN1 : PySem.W.findIn K (.ref CS) "__eq__" = some (some (.ref fN1))) (lN1 : K.lookup fN1 = some ⟨ocN1, odN1, .func (PySem.W.fnOf "__eq__" "Deck.__eq__" (defArgs (mS 54 19)) (defBody (mS 54 19)) (defScope (mS 54 19)) .none kVN1 dcN1 pmN1 anN1 cdN1 ctN1), slN1⟩) (cN1 : PySem.W.codeIn K cdN1 "Deck.__eq__" = true) (kN1 : PySem.W.keepIn K (.ref fN1) = true) (iN1 : PySem.W.isFn K (.ref fN1) = true)
    {CD fI : Addr} {odI anI : Option Addr} {slI : Array (Option Value)} {ocI kVI dcI pmI cdI ctI : Value}
    (aCD : PySem.W.nsIn K mainGlobals "Deck" = some (some (.ref CD)))
    (xrd : PySem.W.readsIn K CD (.type "type") = true)
    (xga : PySem.W.specialIn K (.ref CD) "__getattribute__" = some (some (.builtin "type.__getattribute__")))
    (xfc : PySem.W.findCls K (.ref CD) (.type "type") "__init__" = some (.val (.ref fI)))
    (lI : K.lookup fI = some ⟨ocI, odI, .func (PySem.W.fnOf "__init__" "Deck.__init__" (defArgs (mS 54 0)) (defBody (mS 54 0)) (defScope (mS 54 0)) .none kVI dcI pmI anI cdI ctI), slI⟩)
    (cI : PySem.W.codeIn K cdI "Deck.__init__" = true)
    (kI : PySem.W.keepIn K (.ref fI) = true)
    (yha : PySem.W.findIn K (.ref C) "__class__" = some (some (.builtin "object.__class__")))
    (yhn : PySem.W.specialIn K (.builtin "object.__class__") "__get__" = some (some (.builtin "getset_descriptor.__get__")))
    (ytk : PySem.W.takesIn K (.builtin "object.__class__") = some true)
    (yhm : PySem.W.mroIn K C (.type "object") = some true)
    (zha : PySem.W.findIn K (.ref CS) "__class__" = some (some (.builtin "object.__class__")))
    (zhm : PySem.W.mroIn K CS (.type "object") = some true)
    (ycl : PySem.W.isClsIn K CS = true)
    (yty : PySem.W.typeIn K (.ref CS) = some (.type "type"))
    (ysb : PySem.W.subIn K (.ref C) (.ref CS) = some false)
    (yss : PySem.W.subIn K (.ref C) (.ref C) = some true)
    (zcl : PySem.W.isClsIn K C = true)
    (zty : PySem.W.typeIn K (.ref C) = some (.type "type"))
    (zsb : PySem.W.subIn K (.ref CS) (.ref C) = some true)
    (zss : PySem.W.subIn K (.ref CS) (.ref CS) = some true)
    (znf : PySem.W.notFirst K CS (.ref C) = true)
    (znf2 : PySem.W.notFirst K CS (.ref CS) = true)
    (yne : PySem.W.findIn K (.ref C) "__ne__" = some (some (.builtin "object.__ne__")))
    (yob : PySem.W.subIn K (.ref C) (.type "object") = some true)
    (ynf : PySem.W.notFirst K C (.ref C) = true)
    (xodd : oddB K C = true)
    {EC0 EC1 EC2 EC3 EC4 EC5 EC6 EC7 EC8 EC9 EC10 EC11 EC12 EC13 EC14 : Addr} {fX3 : Addr} {odX3 anX3 : Option Addr} {slX3 : Array (Option Value)} {ocX3 kVX3 dcX3 pmX3 cdX3 ctX3 : Value} {fX4 : Addr} {odX4 anX4 : Option Addr} {slX4 : Array (Option Value)} {ocX4 kVX4 dcX4 pmX4 cdX4 ctX4 : Value} {fX5 : Addr} {odX5 anX5 : Option Addr} {slX5 : Array (Option Value)} {ocX5 kVX5 dcX5 pmX5 cdX5 ctX5 : Value} {fX6 : Addr} {odX6 anX6 : Option Addr} {slX6 : Array (Option Value)} {ocX6 kVX6 dcX6 pmX6 cdX6 ctX6 : Value} {fX7 : Addr} {odX7 anX7 : Option Addr} {slX7 : Array (Option Value)} {ocX7 kVX7 dcX7 pmX7 cdX7 ctX7 : Value} {fX8 : Addr} {odX8 anX8 : Option Addr} {slX8 : Array (Option Value)} {ocX8 kVX8 dcX8 pmX8 cdX8 ctX8 : Value} {fX9 : Addr} {odX9 anX9 : Option Addr} {slX9 : Array (Option Value)} {ocX9 kVX9 dcX9 pmX9 cdX9 ctX9 : Value} {fX10 : Addr} {odX10 anX10 : Option Addr} {slX10 : Array (Option Value)} {ocX10 kVX10 dcX10 pmX10 cdX10 ctX10 : Value} {fX11 : Addr} {odX11 anX11 : Option Addr} {slX11 : Array (Option Value)} {ocX11 kVX11 dcX11 pmX11 cdX11 ctX11 : Value} {fX12 : Addr} {odX12 anX12 : Option Addr} {slX12 : Array (Option Value)} {ocX12 kVX12 dcX12 pmX12 cdX12 ctX12 : Value} {fX13 : Addr} {odX13 anX13 : Option Addr} {slX13 : Array (Option Value)} {ocX13 kVX13 dcX13 pmX13 cdX13 ctX13 : Value}
    (xhn : PySem.W.specialIn K (.builtin "object.__class__") "__get__" = some (some (.builtin "getset_descriptor.__get__")))
    (xtk : PySem.W.takesIn K (.builtin "object.__class__") = some true)
    (xa0 : PySem.W.nsIn K mainGlobals "TooManyEdits" = some (some (.ref EC0)))
    (xt0 : PySem.W.typeIn K (.ref EC0) = some (.type "type"))
    (xb0 : PySem.W.subIn K (.ref EC0) (.type "BaseException") = some true)
    (xk0 : PySem.W.keepIn K (.ref EC0) = true)
    (xq0 : PySem.W.excIn K EC0 [.type "ValueError", .type "Exception", .type "BaseException", .type "object"] "ValueError.__new__" = true)
    (xa1 : PySem.W.nsIn K mainGlobals "NothingToUndo" = some (some (.ref EC1)))
    (xt1 : PySem.W.typeIn K (.ref EC1) = some (.type "type"))
    (xb1 : PySem.W.subIn K (.ref EC1) (.type "BaseException") = some true)
    (xk1 : PySem.W.keepIn K (.ref EC1) = true)
    (xq1 : PySem.W.excIn K EC1 [.type "ValueError", .type "Exception", .type "BaseException", .type "object"] "ValueError.__new__" = true)
    (xa2 : PySem.W.nsIn K mainGlobals "BadEdits" = some (some (.ref EC2)))
    (xt2 : PySem.W.typeIn K (.ref EC2) = some (.type "type"))
    (xb2 : PySem.W.subIn K (.ref EC2) (.type "BaseException") = some true)
    (xk2 : PySem.W.keepIn K (.ref EC2) = true)
    (xq2 : PySem.W.excIn K EC2 [.type "ValueError", .type "Exception", .type "BaseException", .type "object"] "ValueError.__new__" = true)
    (xa3 : PySem.W.nsIn K mainGlobals "TooManySwitches" = some (some (.ref EC3)))
    (xt3 : PySem.W.typeIn K (.ref EC3) = some (.type "type"))
    (xb3 : PySem.W.subIn K (.ref EC3) (.type "BaseException") = some true)
    (xd3 : PySem.W.hasDictIn K EC3 = true)
    (xk3 : PySem.W.keepIn K (.ref EC3) = true)
    (xo3 : PySem.W.excInitIn K EC3 [.type "ValueError", .type "Exception", .type "BaseException", .type "object"] "ValueError.__new__" = true)
    (xov3 : PySem.W.excOver K EC3 [.type "ValueError", .type "Exception", .type "BaseException", .type "object"] = true)
    (xs3 : PySem.W.findIn K (.ref EC3) "__setattr__" = some (some (.builtin "object.__setattr__")))
    (xn3 : PySem.W.findIn K (.ref EC3) "bound" = some none)
    (xi3 : PySem.W.findIn K (.ref EC3) "__init__" = some (some (.ref fX3)))
    (xti3 : PySem.W.typeIn K (.ref fX3) = some (.type "function"))
    (xl3 : K.lookup fX3 = some ⟨ocX3, odX3, .func (PySem.W.fnOf "__init__" "TooManySwitches.__init__" (defArgs (mS 16 0)) (defBody (mS 16 0)) (defScope (mS 16 0)) .none kVX3 dcX3 pmX3 anX3 cdX3 ctX3), slX3⟩)
    (xc3 : PySem.W.codeIn K cdX3 "TooManySwitches.__init__" = true)
    (xki3 : PySem.W.keepIn K (.ref fX3) = true)
    (xa4 : PySem.W.nsIn K mainGlobals "BadBox" = some (some (.ref EC4)))
    (xt4 : PySem.W.typeIn K (.ref EC4) = some (.type "type"))
    (xb4 : PySem.W.subIn K (.ref EC4) (.type "BaseException") = some true)
    (xd4 : PySem.W.hasDictIn K EC4 = true)
    (xk4 : PySem.W.keepIn K (.ref EC4) = true)
    (xo4 : PySem.W.excInitIn K EC4 [.type "ValueError", .type "Exception", .type "BaseException", .type "object"] "ValueError.__new__" = true)
    (xov4 : PySem.W.excOver K EC4 [.type "ValueError", .type "Exception", .type "BaseException", .type "object"] = true)
    (xs4 : PySem.W.findIn K (.ref EC4) "__setattr__" = some (some (.builtin "object.__setattr__")))
    (xn4 : PySem.W.findIn K (.ref EC4) "error" = some none)
    (xi4 : PySem.W.findIn K (.ref EC4) "__init__" = some (some (.ref fX4)))
    (xti4 : PySem.W.typeIn K (.ref fX4) = some (.type "function"))
    (xl4 : K.lookup fX4 = some ⟨ocX4, odX4, .func (PySem.W.fnOf "__init__" "BadBox.__init__" (defArgs (mS 17 0)) (defBody (mS 17 0)) (defScope (mS 17 0)) .none kVX4 dcX4 pmX4 anX4 cdX4 ctX4), slX4⟩)
    (xc4 : PySem.W.codeIn K cdX4 "BadBox.__init__" = true)
    (xki4 : PySem.W.keepIn K (.ref fX4) = true)
    (xa5 : PySem.W.nsIn K mainGlobals "NoCard" = some (some (.ref EC5)))
    (xt5 : PySem.W.typeIn K (.ref EC5) = some (.type "type"))
    (xb5 : PySem.W.subIn K (.ref EC5) (.type "BaseException") = some true)
    (xd5 : PySem.W.hasDictIn K EC5 = true)
    (xk5 : PySem.W.keepIn K (.ref EC5) = true)
    (xo5 : PySem.W.excInitIn K EC5 [.type "ValueError", .type "Exception", .type "BaseException", .type "object"] "ValueError.__new__" = true)
    (xov5 : PySem.W.excOver K EC5 [.type "ValueError", .type "Exception", .type "BaseException", .type "object"] = true)
    (xs5 : PySem.W.findIn K (.ref EC5) "__setattr__" = some (some (.builtin "object.__setattr__")))
    (xn5 : PySem.W.findIn K (.ref EC5) "value" = some none)
    (xi5 : PySem.W.findIn K (.ref EC5) "__init__" = some (some (.ref fX5)))
    (xti5 : PySem.W.typeIn K (.ref fX5) = some (.type "function"))
    (xl5 : K.lookup fX5 = some ⟨ocX5, odX5, .func (PySem.W.fnOf "__init__" "NoCard.__init__" (defArgs (mS 18 0)) (defBody (mS 18 0)) (defScope (mS 18 0)) .none kVX5 dcX5 pmX5 anX5 cdX5 ctX5), slX5⟩)
    (xc5 : PySem.W.codeIn K cdX5 "NoCard.__init__" = true)
    (xki5 : PySem.W.keepIn K (.ref fX5) = true)
    (xa6 : PySem.W.nsIn K mainGlobals "Present" = some (some (.ref EC6)))
    (xt6 : PySem.W.typeIn K (.ref EC6) = some (.type "type"))
    (xb6 : PySem.W.subIn K (.ref EC6) (.type "BaseException") = some true)
    (xd6 : PySem.W.hasDictIn K EC6 = true)
    (xk6 : PySem.W.keepIn K (.ref EC6) = true)
    (xo6 : PySem.W.excInitIn K EC6 [.type "ValueError", .type "Exception", .type "BaseException", .type "object"] "ValueError.__new__" = true)
    (xov6 : PySem.W.excOver K EC6 [.type "ValueError", .type "Exception", .type "BaseException", .type "object"] = true)
    (xs6 : PySem.W.findIn K (.ref EC6) "__setattr__" = some (some (.builtin "object.__setattr__")))
    (xn6 : PySem.W.findIn K (.ref EC6) "value" = some none)
    (xi6 : PySem.W.findIn K (.ref EC6) "__init__" = some (some (.ref fX6)))
    (xti6 : PySem.W.typeIn K (.ref fX6) = some (.type "function"))
    (xl6 : K.lookup fX6 = some ⟨ocX6, odX6, .func (PySem.W.fnOf "__init__" "Present.__init__" (defArgs (mS 19 0)) (defBody (mS 19 0)) (defScope (mS 19 0)) .none kVX6 dcX6 pmX6 anX6 cdX6 ctX6), slX6⟩)
    (xc6 : PySem.W.codeIn K cdX6 "Present.__init__" = true)
    (xki6 : PySem.W.keepIn K (.ref fX6) = true)
    (xa7 : PySem.W.nsIn K mainGlobals "BadEdit" = some (some (.ref EC7)))
    (xt7 : PySem.W.typeIn K (.ref EC7) = some (.type "type"))
    (xb7 : PySem.W.subIn K (.ref EC7) (.type "BaseException") = some true)
    (xd7 : PySem.W.hasDictIn K EC7 = true)
    (xk7 : PySem.W.keepIn K (.ref EC7) = true)
    (xo7 : PySem.W.excInitIn K EC7 [.type "ValueError", .type "Exception", .type "BaseException", .type "object"] "ValueError.__new__" = true)
    (xov7 : PySem.W.excOver K EC7 [.type "ValueError", .type "Exception", .type "BaseException", .type "object"] = true)
    (xs7 : PySem.W.findIn K (.ref EC7) "__setattr__" = some (some (.builtin "object.__setattr__")))
    (xn7 : PySem.W.findIn K (.ref EC7) "index" = some none)
    (xi7 : PySem.W.findIn K (.ref EC7) "__init__" = some (some (.ref fX7)))
    (xti7 : PySem.W.typeIn K (.ref fX7) = some (.type "function"))
    (xl7 : K.lookup fX7 = some ⟨ocX7, odX7, .func (PySem.W.fnOf "__init__" "BadEdit.__init__" (defArgs (mS 23 0)) (defBody (mS 23 0)) (defScope (mS 23 0)) .none kVX7 dcX7 pmX7 anX7 cdX7 ctX7), slX7⟩)
    (xc7 : PySem.W.codeIn K cdX7 "BadEdit.__init__" = true)
    (xki7 : PySem.W.keepIn K (.ref fX7) = true)
    (xa8 : PySem.W.nsIn K mainGlobals "Rejected" = some (some (.ref EC8)))
    (xt8 : PySem.W.typeIn K (.ref EC8) = some (.type "type"))
    (xb8 : PySem.W.subIn K (.ref EC8) (.type "BaseException") = some true)
    (xd8 : PySem.W.hasDictIn K EC8 = true)
    (xk8 : PySem.W.keepIn K (.ref EC8) = true)
    (xo8 : PySem.W.excInitIn K EC8 [.type "ValueError", .type "Exception", .type "BaseException", .type "object"] "ValueError.__new__" = true)
    (xov8 : PySem.W.excOver K EC8 [.type "ValueError", .type "Exception", .type "BaseException", .type "object"] = true)
    (xs8 : PySem.W.findIn K (.ref EC8) "__setattr__" = some (some (.builtin "object.__setattr__")))
    (xn8 : PySem.W.findIn K (.ref EC8) "index" = some none)
    (xi8 : PySem.W.findIn K (.ref EC8) "__init__" = some (some (.ref fX8)))
    (xti8 : PySem.W.typeIn K (.ref fX8) = some (.type "function"))
    (xl8 : K.lookup fX8 = some ⟨ocX8, odX8, .func (PySem.W.fnOf "__init__" "Rejected.__init__" (defArgs (mS 24 0)) (defBody (mS 24 0)) (defScope (mS 24 0)) .none kVX8 dcX8 pmX8 anX8 cdX8 ctX8), slX8⟩)
    (xc8 : PySem.W.codeIn K cdX8 "Rejected.__init__" = true)
    (xki8 : PySem.W.keepIn K (.ref fX8) = true)
    (xa9 : PySem.W.nsIn K mainGlobals "Rough" = some (some (.ref EC9)))
    (xt9 : PySem.W.typeIn K (.ref EC9) = some (.type "type"))
    (xb9 : PySem.W.subIn K (.ref EC9) (.type "BaseException") = some true)
    (xd9 : PySem.W.hasDictIn K EC9 = true)
    (xk9 : PySem.W.keepIn K (.ref EC9) = true)
    (xo9 : PySem.W.excInitIn K EC9 [.type "ValueError", .type "Exception", .type "BaseException", .type "object"] "ValueError.__new__" = true)
    (xov9 : PySem.W.excOver K EC9 [.type "ValueError", .type "Exception", .type "BaseException", .type "object"] = true)
    (xs9 : PySem.W.findIn K (.ref EC9) "__setattr__" = some (some (.builtin "object.__setattr__")))
    (xn9 : PySem.W.findIn K (.ref EC9) "switches" = some none)
    (xi9 : PySem.W.findIn K (.ref EC9) "__init__" = some (some (.ref fX9)))
    (xti9 : PySem.W.typeIn K (.ref fX9) = some (.type "function"))
    (xl9 : K.lookup fX9 = some ⟨ocX9, odX9, .func (PySem.W.fnOf "__init__" "Rough.__init__" (defArgs (mS 25 0)) (defBody (mS 25 0)) (defScope (mS 25 0)) .none kVX9 dcX9 pmX9 anX9 cdX9 ctX9), slX9⟩)
    (xc9 : PySem.W.codeIn K cdX9 "Rough.__init__" = true)
    (xki9 : PySem.W.keepIn K (.ref fX9) = true)
    (xa10 : PySem.W.nsIn K mainGlobals "BadText" = some (some (.ref EC10)))
    (xt10 : PySem.W.typeIn K (.ref EC10) = some (.type "type"))
    (xb10 : PySem.W.subIn K (.ref EC10) (.type "BaseException") = some true)
    (xd10 : PySem.W.hasDictIn K EC10 = true)
    (xk10 : PySem.W.keepIn K (.ref EC10) = true)
    (xo10 : PySem.W.excInitIn K EC10 [.type "ValueError", .type "Exception", .type "BaseException", .type "object"] "ValueError.__new__" = true)
    (xov10 : PySem.W.excOver K EC10 [.type "ValueError", .type "Exception", .type "BaseException", .type "object"] = true)
    (xs10 : PySem.W.findIn K (.ref EC10) "__setattr__" = some (some (.builtin "object.__setattr__")))
    (xn10 : PySem.W.findIn K (.ref EC10) "index" = some none)
    (xi10 : PySem.W.findIn K (.ref EC10) "__init__" = some (some (.ref fX10)))
    (xti10 : PySem.W.typeIn K (.ref fX10) = some (.type "function"))
    (xl10 : K.lookup fX10 = some ⟨ocX10, odX10, .func (PySem.W.fnOf "__init__" "BadText.__init__" (defArgs (mS 26 0)) (defBody (mS 26 0)) (defScope (mS 26 0)) .none kVX10 dcX10 pmX10 anX10 cdX10 ctX10), slX10⟩)
    (xc10 : PySem.W.codeIn K cdX10 "BadText.__init__" = true)
    (xki10 : PySem.W.keepIn K (.ref fX10) = true)
    (xa11 : PySem.W.nsIn K mainGlobals "Absent" = some (some (.ref EC11)))
    (xt11 : PySem.W.typeIn K (.ref EC11) = some (.type "type"))
    (xb11 : PySem.W.subIn K (.ref EC11) (.type "BaseException") = some true)
    (xd11 : PySem.W.hasDictIn K EC11 = true)
    (xk11 : PySem.W.keepIn K (.ref EC11) = true)
    (xo11 : PySem.W.excInitIn K EC11 [.type "LookupError", .type "Exception", .type "BaseException", .type "object"] "LookupError.__new__" = true)
    (xov11 : PySem.W.excOver K EC11 [.type "LookupError", .type "Exception", .type "BaseException", .type "object"] = true)
    (xs11 : PySem.W.findIn K (.ref EC11) "__setattr__" = some (some (.builtin "object.__setattr__")))
    (xn11 : PySem.W.findIn K (.ref EC11) "value" = some none)
    (xi11 : PySem.W.findIn K (.ref EC11) "__init__" = some (some (.ref fX11)))
    (xti11 : PySem.W.typeIn K (.ref fX11) = some (.type "function"))
    (xl11 : K.lookup fX11 = some ⟨ocX11, odX11, .func (PySem.W.fnOf "__init__" "Absent.__init__" (defArgs (mS 27 0)) (defBody (mS 27 0)) (defScope (mS 27 0)) .none kVX11 dcX11 pmX11 anX11 cdX11 ctX11), slX11⟩)
    (xc11 : PySem.W.codeIn K cdX11 "Absent.__init__" = true)
    (xki11 : PySem.W.keepIn K (.ref fX11) = true)
    (xa12 : PySem.W.nsIn K mainGlobals "NoSwitch" = some (some (.ref EC12)))
    (xt12 : PySem.W.typeIn K (.ref EC12) = some (.type "type"))
    (xb12 : PySem.W.subIn K (.ref EC12) (.type "BaseException") = some true)
    (xd12 : PySem.W.hasDictIn K EC12 = true)
    (xk12 : PySem.W.keepIn K (.ref EC12) = true)
    (xo12 : PySem.W.excInitIn K EC12 [.type "LookupError", .type "Exception", .type "BaseException", .type "object"] "LookupError.__new__" = true)
    (xov12 : PySem.W.excOver K EC12 [.type "LookupError", .type "Exception", .type "BaseException", .type "object"] = true)
    (xs12 : PySem.W.findIn K (.ref EC12) "__setattr__" = some (some (.builtin "object.__setattr__")))
    (xn12 : PySem.W.findIn K (.ref EC12) "value" = some none)
    (xi12 : PySem.W.findIn K (.ref EC12) "__init__" = some (some (.ref fX12)))
    (xti12 : PySem.W.typeIn K (.ref fX12) = some (.type "function"))
    (xl12 : K.lookup fX12 = some ⟨ocX12, odX12, .func (PySem.W.fnOf "__init__" "NoSwitch.__init__" (defArgs (mS 28 0)) (defBody (mS 28 0)) (defScope (mS 28 0)) .none kVX12 dcX12 pmX12 anX12 cdX12 ctX12), slX12⟩)
    (xc12 : PySem.W.codeIn K cdX12 "NoSwitch.__init__" = true)
    (xki12 : PySem.W.keepIn K (.ref fX12) = true)
    (xa13 : PySem.W.nsIn K mainGlobals "NoVersion" = some (some (.ref EC13)))
    (xt13 : PySem.W.typeIn K (.ref EC13) = some (.type "type"))
    (xb13 : PySem.W.subIn K (.ref EC13) (.type "BaseException") = some true)
    (xd13 : PySem.W.hasDictIn K EC13 = true)
    (xk13 : PySem.W.keepIn K (.ref EC13) = true)
    (xo13 : PySem.W.excInitIn K EC13 [.type "LookupError", .type "Exception", .type "BaseException", .type "object"] "LookupError.__new__" = true)
    (xov13 : PySem.W.excOver K EC13 [.type "LookupError", .type "Exception", .type "BaseException", .type "object"] = true)
    (xs13 : PySem.W.findIn K (.ref EC13) "__setattr__" = some (some (.builtin "object.__setattr__")))
    (xn13 : PySem.W.findIn K (.ref EC13) "value" = some none)
    (xi13 : PySem.W.findIn K (.ref EC13) "__init__" = some (some (.ref fX13)))
    (xti13 : PySem.W.typeIn K (.ref fX13) = some (.type "function"))
    (xl13 : K.lookup fX13 = some ⟨ocX13, odX13, .func (PySem.W.fnOf "__init__" "NoVersion.__init__" (defArgs (mS 29 0)) (defBody (mS 29 0)) (defScope (mS 29 0)) .none kVX13 dcX13 pmX13 anX13 cdX13 ctX13), slX13⟩)
    (xc13 : PySem.W.codeIn K cdX13 "NoVersion.__init__" = true)
    (xki13 : PySem.W.keepIn K (.ref fX13) = true)
    (xa14 : PySem.W.nsIn K mainGlobals "BoxError" = some (some (.ref EC14)))
    (xall : errsB K EC14 [EC0, EC1, EC2, EC3, EC4, EC5, EC6, EC7, EC8, EC9, EC10, EC11, EC12, EC13] = true)
    : ∃ fd : FuncData, (∀ (s : Shared) (v : Value), BindsTo s fd ⟨[v], []⟩ [("_law_script", v)]) ∧ ∀ base : Heap, K.In base → base.Ns mainGlobals mg → FnG P w K mg base 10 fa fd ["_law_script"] (spLaw K) := by
  have e := hfa.symm.trans (PySem.W.mg_of X G a39)
  cases e
  have F0 := fun_mk (st := topS 4) l0 c0 k0
  have m0 := PySem.W.mg_of X G a0
  have b0 := F0.binds (ps := ["value"]) fun _ _ _ _ _ _ us hl => match us, hl with | [_], _ => rfl
  have F1 := fun_mk (st := topS 5) l1 c1 k1
  have m1 := PySem.W.mg_of X G a1
  have b1 := F1.binds (ps := ["value", "bound"]) fun _ _ _ _ _ _ us hl => match us, hl with | [_, _], _ => rfl
  have F2 := fun_mk (st := topS 6) l2 c2 k2
  have m2 := PySem.W.mg_of X G a2
  have b2 := F2.binds (ps := ["numbers", "value"]) fun _ _ _ _ _ _ us hl => match us, hl with | [_, _], _ => rfl
  have F3 := fun_mk (st := topS 7) l3 c3 k3
  have m3 := PySem.W.mg_of X G a3
  have b3 := F3.binds (ps := ["value"]) fun _ _ _ _ _ _ us hl => match us, hl with | [_], _ => rfl
  have F4 := fun_mk (st := topS 8) l4 c4 k4
  have m4 := PySem.W.mg_of X G a4
  have b4 := F4.binds (ps := ["n", "value"]) fun _ _ _ _ _ _ us hl => match us, hl with | [_, _], _ => rfl
  have F5 := fun_mk (st := topS 9) l5 c5 k5
  have m5 := PySem.W.mg_of X G a5
  have b5 := F5.binds (ps := ["value"]) fun _ _ _ _ _ _ us hl => match us, hl with | [_], _ => rfl
  have F6 := fun_mk (st := topS 10) l6 c6 k6
  have m6 := PySem.W.mg_of X G a6
  have b6 := F6.binds (ps := ["n", "cards"]) fun _ _ _ _ _ _ us hl => match us, hl with | [_, _], _ => rfl
  have F7 := fun_mk (st := topS 11) l7 c7 k7
  have m7 := PySem.W.mg_of X G a7
  have b7 := F7.binds (ps := ["switches", "switch"]) fun _ _ _ _ _ _ us hl => match us, hl with | [_, _], _ => rfl
  have F8 := fun_mk (st := topS 12) l8 c8 k8
  have m8 := PySem.W.mg_of X G a8
  have b8 := F8.binds (ps := ["switches"]) fun _ _ _ _ _ _ us hl => match us, hl with | [_], _ => rfl
  have F9 := fun_mk (st := topS 13) l9 c9 k9
  have m9 := PySem.W.mg_of X G a9
  have b9 := F9.binds (ps := ["n", "switches"]) fun _ _ _ _ _ _ us hl => match us, hl with | [_, _], _ => rfl
  have F10 := fun_mk (st := topS 31) l10 c10 k10
  have m10 := PySem.W.mg_of X G a10
  have b10 := F10.binds (ps := ["box", "switches"]) fun _ _ _ _ _ _ us hl => match us, hl with | [_, _], _ => rfl
  have F11 := fun_mk (st := topS 33) l11 c11 k11
  have m11 := PySem.W.mg_of X G a11
  have b11 := F11.binds (ps := ["cube"]) fun _ _ _ _ _ _ us hl => match us, hl with | [_], _ => rfl
  have F12 := fun_mk (st := topS 34) l12 c12 k12
  have m12 := PySem.W.mg_of X G a12
  have b12 := F12.binds (ps := ["cards", "cube"]) fun _ _ _ _ _ _ us hl => match us, hl with | [_, _], _ => rfl
  have F13 := fun_mk (st := topS 35) l13 c13 k13
  have m13 := PySem.W.mg_of X G a13
  have b13 := F13.binds (ps := ["box", "switches"]) fun _ _ _ _ _ _ us hl => match us, hl with | [_, _], _ => rfl
  have F14 := fun_mk (st := topS 36) l14 c14 k14
  have m14 := PySem.W.mg_of X G a14
  have b14 := F14.binds (ps := ["box", "switches"]) fun _ _ _ _ _ _ us hl => match us, hl with | [_, _], _ => rfl
  have F15 := fun_mk (st := topS 37) l15 c15 k15
  have m15 := PySem.W.mg_of X G a15
  have b15 := F15.binds (ps := ["box"]) fun _ _ _ _ _ _ us hl => match us, hl with | [_], _ => rfl
  have F16 := fun_mk (st := topS 39) l16 c16 k16
  have m16 := PySem.W.mg_of X G a16
  have b16 := F16.binds (ps := ["box", "switch"]) fun _ _ _ _ _ _ us hl => match us, hl with | [_, _], _ => rfl
  have F17 := fun_mk (st := topS 40) l17 c17 k17
  have m17 := PySem.W.mg_of X G a17
  have b17 := F17.binds (ps := ["cards", "card", "switch"]) fun _ _ _ _ _ _ us hl => match us, hl with | [_, _, _], _ => rfl
  have F18 := fun_mk (st := topS 42) l18 c18 k18
  have m18 := PySem.W.mg_of X G a18
  have b18 := F18.binds (ps := ["box", "switches"]) fun _ _ _ _ _ _ us hl => match us, hl with | [_, _], _ => rfl
  have F19 := fun_mk (st := topS 43) l19 c19 k19
  have m19 := PySem.W.mg_of X G a19
  have b19 := F19.binds (ps := ["box", "switches"]) fun _ _ _ _ _ _ us hl => match us, hl with | [_, _], _ => rfl
  have F20 := fun_mk (st := topS 44) l20 c20 k20
  have m20 := PySem.W.mg_of X G a20
  have b20 := F20.binds (ps := ["box"]) fun _ _ _ _ _ _ us hl => match us, hl with | [_], _ => rfl
  have F21 := fun_mk (st := topS 46) l21 c21 k21
  have m21 := PySem.W.mg_of X G a21
  have b21 := F21.binds (ps := ["box"]) fun _ _ _ _ _ _ us hl => match us, hl with | [_], _ => rfl
  have F22 := fun_mk (st := topS 48) l22 c22 k22
  have m22 := PySem.W.mg_of X G a22
  have b22 := F22.binds (ps := ["box", "card"]) fun _ _ _ _ _ _ us hl => match us, hl with | [_, _], _ => rfl
  have F23 := fun_mk (st := topS 49) l23 c23 k23
  have m23 := PySem.W.mg_of X G a23
  have b23 := F23.binds (ps := ["box", "card"]) fun _ _ _ _ _ _ us hl => match us, hl with | [_, _], _ => rfl
  have F24 := fun_mk (st := topS 50) l24 c24 k24
  have m24 := PySem.W.mg_of X G a24
  have b24 := F24.binds (ps := ["box", "value"]) fun _ _ _ _ _ _ us hl => match us, hl with | [_, _], _ => rfl
  have F25 := fun_mk (st := topS 51) l25 c25 k25
  have m25 := PySem.W.mg_of X G a25
  have b25 := F25.binds (ps := ["box", "value"]) fun _ _ _ _ _ _ us hl => match us, hl with | [_, _], _ => rfl
  have F26 := fun_mk (st := topS 52) l26 c26 k26
  have m26 := PySem.W.mg_of X G a26
  have b26 := F26.binds (ps := ["box", "value"]) fun _ _ _ _ _ _ us hl => match us, hl with | [_, _], _ => rfl
  have F27 := fun_mk (st := topS 53) l27 c27 k27
  have m27 := PySem.W.mg_of X G a27
  have b27 := F27.binds (ps := ["box"]) fun _ _ _ _ _ _ us hl => match us, hl with | [_], _ => rfl
  have F28 := fun_mk (st := topS 57) l28 c28 k28
  have m28 := PySem.W.mg_of X G a28
  have b28 := F28.binds (ps := ["_law_script"]) fun _ _ _ _ _ _ us hl => match us, hl with | [_], _ => rfl
  have F29 := fun_mk (st := topS 58) l29 c29 k29
  have m29 := PySem.W.mg_of X G a29
  have b29 := F29.binds (ps := ["_law_deck_here", "_law_many"]) fun _ _ _ _ _ _ us hl => match us, hl with | [_, _], _ => rfl
  have F30 := fun_mk (st := topS 59) l30 c30 k30
  have m30 := PySem.W.mg_of X G a30
  have b30 := F30.binds (ps := ["_law_deck_here", "_law_n"]) fun _ _ _ _ _ _ us hl => match us, hl with | [_, _], _ => rfl
  have F31 := fun_mk (st := topS 60) l31 c31 k31
  have m31 := PySem.W.mg_of X G a31
  have b31 := F31.binds (ps := ["_law_deck_here", "_law_n"]) fun _ _ _ _ _ _ us hl => match us, hl with | [_, _], _ => rfl
  have F32 := fun_mk (st := topS 61) l32 c32 k32
  have m32 := PySem.W.mg_of X G a32
  have b32 := F32.binds (ps := ["_law_number"]) fun _ _ _ _ _ _ us hl => match us, hl with | [_], _ => rfl
  have F33 := fun_mk (st := topS 62) l33 c33 k33
  have m33 := PySem.W.mg_of X G a33
  have b33 := F33.binds (ps := ["_law_deck_here", "_law_most"]) fun _ _ _ _ _ _ us hl => match us, hl with | [_, _], _ => rfl
  have F34 := fun_mk (st := topS 63) l34 c34 k34
  have m34 := PySem.W.mg_of X G a34
  have b34 := F34.binds (ps := ["_law_box_here", "_law_edit_here"]) fun _ _ _ _ _ _ us hl => match us, hl with | [_, _], _ => rfl
  have F35 := fun_mk (st := topS 64) l35 c35 k35
  have m35 := PySem.W.mg_of X G a35
  have b35 := F35.binds (ps := ["_law_deck_here", "_law_box_here"]) fun _ _ _ _ _ _ us hl => match us, hl with | [_, _], _ => rfl
  have F36 := fun_mk (st := topS 65) l36 c36 k36
  have m36 := PySem.W.mg_of X G a36
  have b36 := F36.binds (ps := ["_law_pile", "_law_edit_here"]) fun _ _ _ _ _ _ us hl => match us, hl with | [_, _], _ => rfl
  have F37 := fun_mk (st := topS 66) l37 c37 k37
  have m37 := PySem.W.mg_of X G a37
  have b37 := F37.binds (ps := ["_law_e"]) fun _ _ _ _ _ _ us hl => match us, hl with | [_], _ => rfl
  have F38 := fun_mk (st := topS 67) l38 c38 k38
  have m38 := PySem.W.mg_of X G a38
  have b38 := F38.binds (ps := ["_law_value"]) fun _ _ _ _ _ _ us hl => match us, hl with | [_], _ => rfl
  have F39 := fun_mk (st := topS 68) l39 c39 k39
  have m39 := PySem.W.mg_of X G a39
  have n_range := PySem.W.mg_none_of X G z0
  have n_tuple := PySem.W.mg_none_of X G z1
  have n_len := PySem.W.mg_none_of X G z2
  have n_repr := PySem.W.mg_none_of X G z3
  have n_abs := PySem.W.mg_none_of X G z4
  have n_list := PySem.W.mg_none_of X G z5
  have n_sorted := PySem.W.mg_none_of X G z6
  have n_set := PySem.W.mg_none_of X G z7
  have n_sum := PySem.W.mg_none_of X G z8
  have n_isinstance := PySem.W.mg_none_of X G z9
  have n_int := PySem.W.mg_none_of X G z10
  have n_bool := PySem.W.mg_none_of X G z11
  have n_enumerate := PySem.W.mg_none_of X G z12
  have n_min := PySem.W.mg_none_of X G z13
  have n_ValueError := PySem.W.mg_none_of X G z14
  have n_LookupError := PySem.W.mg_none_of X G z15
  have v_MAX_SWITCHES := PySem.W.mg_of X G y0
  have v_MAX_EDITS := PySem.W.mg_of X G y1
  have mC := PySem.W.mg_of X G aC
  have pc : PiC K C := ⟨⟨pg, hd, po, sa⟩, nS, nD⟩
  have FM0 := fun_mk (st := (mS 54 0)) lM0 cM0 kM0
  have bM0 := FM0.binds (ps := ["self", "box"]) fun _ _ _ _ _ _ us hl => match us, hl with | [_, _], _ => rfl
  have FM1 := fun_mk (st := (mS 54 11)) lM1 cM1 kM1
  have FD1 : FunD K "box" "Deck.box" (defArgs (mS 54 11)) (defBody (mS 54 11)) (defScope (mS 54 11)) [] [("version", .non)] fM1 _ := ⟨⟨ocM1, odM1, .none, .ref D1, dcM1, pmM1, anM1, cdM1, ctM1, slM1, rfl, lM1, cM1, .inl ⟨rfl, rfl⟩, .inr ⟨D1, rfl, fun q hq => by rw [List.mem_singleton] at hq; subst hq; exact ⟨_, dM1, rfl⟩⟩⟩, kM1⟩
  obtain ⟨ds1, vd1, bM1⟩ := FD1.binds0 (ps := ["self", "version"]) 1 (List.cons_ne_nil _ _) rfl fun D doc pm an cdv ct us ks h1 h2 => match us, ks, h1, h2 with | [_], [_], _, _ => ⟨_, _, _, _, _, _, rfl, rfl, rfl⟩
  have FM2 := fun_mk (st := (mS 54 5)) lM2 cM2 kM2
  have bM2 := FM2.binds (ps := ["self"]) fun _ _ _ _ _ _ us hl => match us, hl with | [_], _ => rfl
  have FM3 := fun_mk (st := (mS 54 6)) lM3 cM3 kM3
  have bM3 := FM3.binds (ps := ["self", "word", "value", "after"]) fun _ _ _ _ _ _ us hl => match us, hl with | [_, _, _, _], _ => rfl
  have FM4 := fun_mk (st := (mS 54 17)) lM4 cM4 kM4
  have bM4 := FM4.binds (ps := ["self"]) fun _ _ _ _ _ _ us hl => match us, hl with | [_], _ => rfl
  have FM5 := fun_mk (st := (mS 54 1)) lM5 cM5 kM5
  have bM5 := FM5.binds (ps := ["self", "card"]) fun _ _ _ _ _ _ us hl => match us, hl with | [_, _], _ => rfl
  have FM6 := fun_mk (st := (mS 54 2)) lM6 cM6 kM6
  have bM6 := FM6.binds (ps := ["self", "card"]) fun _ _ _ _ _ _ us hl => match us, hl with | [_, _], _ => rfl
  have FM7 := fun_mk (st := (mS 54 3)) lM7 cM7 kM7
  have bM7 := FM7.binds (ps := ["self", "switch"]) fun _ _ _ _ _ _ us hl => match us, hl with | [_, _], _ => rfl
  have FM8 := fun_mk (st := (mS 54 4)) lM8 cM8 kM8
  have bM8 := FM8.binds (ps := ["self", "switch"]) fun _ _ _ _ _ _ us hl => match us, hl with | [_, _], _ => rfl
  have FM9 := fun_mk (st := (mS 54 8)) lM9 cM9 kM9
  have bM9 := FM9.binds (ps := ["self", "many"]) fun _ _ _ _ _ _ us hl => match us, hl with | [_, _], _ => rfl
  have FM10 := fun_mk (st := (mS 54 7)) lM10 cM10 kM10
  have bM10 := FM10.binds (ps := ["self"]) fun _ _ _ _ _ _ us hl => match us, hl with | [_], _ => rfl
  have FM11 := fun_mk (st := (mS 54 19)) lM11 cM11 kM11
  have bM11 := FM11.binds (ps := ["self", "other"]) fun _ _ _ _ _ _ us hl => match us, hl with | [_, _], _ => rfl
  have mC2 := PySem.W.mg_of X G aC2
  have pc2 : PiC K CS := ⟨⟨pg2, hd2, po2, sa2⟩, nS2, nD2⟩
  have FN0 := fun_mk (st := (mS 55 0)) lN0 cN0 kN0
  have bN0 := FN0.binds (ps := ["self", "box"]) fun _ _ _ _ _ _ us hl => match us, hl with | [_, _], _ => rfl
  have FN1 := fun_mk (st := (mS 54 19)) lN1 cN1 kN1
  have bN1 := FN1.binds (ps := ["self", "other"]) fun _ _ _ _ _ _ us hl => match us, hl with | [_, _], _ => rfl
  have mE0 := PySem.W.mg_of X G xa0
  have XZ0 : XCl0 K mg "TooManyEdits" EC0 := ⟨xq0, mE0, xk0, xb0, xt0⟩
  have mE1 := PySem.W.mg_of X G xa1
  have XZ1 : XCl0 K mg "NothingToUndo" EC1 := ⟨xq1, mE1, xk1, xb1, xt1⟩
  have mE2 := PySem.W.mg_of X G xa2
  have XZ2 : XCl0 K mg "BadEdits" EC2 := ⟨xq2, mE2, xk2, xb2, xt2⟩
  have mE3 := PySem.W.mg_of X G xa3
  have T3 : OexG K EC3 [.type "ValueError", .type "Exception", .type "BaseException", .type "object"] "ValueError.__new__" := ⟨xo3, xov3, xd3, xs3, xb3, xt3, xk3⟩
  have FX3 := fun_mk (st := (mS 16 0)) xl3 xc3 xki3
  have bX3 := FX3.binds (ps := ["self", "bound"]) fun _ _ _ _ _ _ us hl => match us, hl with | [_, _], _ => rfl
  have X3 : ∀ base : Heap, XClG P w K mg base "TooManySwitches" EC3 "bound" := fun base => ⟨mE3, _, _, _, _, _, _, _, xbase_VE, T3, xi3, xti3, xinit_G xbase_VE FX3 ⟨rfl, rfl, rfl, by decide +kernel, rfl, by decide +kernel, by decide +kernel⟩ rfl T3 xn3 (.inl rfl) (.inl rfl) (fun _ => rfl), bX3⟩
  have mE4 := PySem.W.mg_of X G xa4
  have T4 : OexG K EC4 [.type "ValueError", .type "Exception", .type "BaseException", .type "object"] "ValueError.__new__" := ⟨xo4, xov4, xd4, xs4, xb4, xt4, xk4⟩
  have FX4 := fun_mk (st := (mS 17 0)) xl4 xc4 xki4
  have bX4 := FX4.binds (ps := ["self", "error"]) fun _ _ _ _ _ _ us hl => match us, hl with | [_, _], _ => rfl
  have X4 : ∀ base : Heap, XClG P w K mg base "BadBox" EC4 "error" := fun base => ⟨mE4, _, _, _, _, _, _, _, xbase_VE, T4, xi4, xti4, xinit_G xbase_VE FX4 ⟨rfl, rfl, rfl, by decide +kernel, rfl, by decide +kernel, by decide +kernel⟩ rfl T4 xn4 (.inl rfl) (.inl rfl) (fun _ => rfl), bX4⟩
  have mE5 := PySem.W.mg_of X G xa5
  have T5 : OexG K EC5 [.type "ValueError", .type "Exception", .type "BaseException", .type "object"] "ValueError.__new__" := ⟨xo5, xov5, xd5, xs5, xb5, xt5, xk5⟩
  have FX5 := fun_mk (st := (mS 18 0)) xl5 xc5 xki5
  have bX5 := FX5.binds (ps := ["self", "value"]) fun _ _ _ _ _ _ us hl => match us, hl with | [_, _], _ => rfl
  have X5 : ∀ base : Heap, XClG P w K mg base "NoCard" EC5 "value" := fun base => ⟨mE5, _, _, _, _, _, _, _, xbase_VE, T5, xi5, xti5, xinit_G xbase_VE FX5 ⟨rfl, rfl, rfl, by decide +kernel, rfl, by decide +kernel, by decide +kernel⟩ rfl T5 xn5 (.inl rfl) (.inl rfl) (fun _ => rfl), bX5⟩
  have mE6 := PySem.W.mg_of X G xa6
  have T6 : OexG K EC6 [.type "ValueError", .type "Exception", .type "BaseException", .type "object"] "ValueError.__new__" := ⟨xo6, xov6, xd6, xs6, xb6, xt6, xk6⟩
  have FX6 := fun_mk (st := (mS 19 0)) xl6 xc6 xki6
  have bX6 := FX6.binds (ps := ["self", "value"]) fun _ _ _ _ _ _ us hl => match us, hl with | [_, _], _ => rfl
  have X6 : ∀ base : Heap, XClG P w K mg base "Present" EC6 "value" := fun base => ⟨mE6, _, _, _, _, _, _, _, xbase_VE, T6, xi6, xti6, xinit_G xbase_VE FX6 ⟨rfl, rfl, rfl, by decide +kernel, rfl, by decide +kernel, by decide +kernel⟩ rfl T6 xn6 (.inl rfl) (.inl rfl) (fun _ => rfl), bX6⟩
  have mE7 := PySem.W.mg_of X G xa7
  have T7 : OexG K EC7 [.type "ValueError", .type "Exception", .type "BaseException", .type "object"] "ValueError.__new__" := ⟨xo7, xov7, xd7, xs7, xb7, xt7, xk7⟩
  have FX7 := fun_mk (st := (mS 23 0)) xl7 xc7 xki7
  have bX7 := FX7.binds (ps := ["self", "index"]) fun _ _ _ _ _ _ us hl => match us, hl with | [_, _], _ => rfl
  have X7 : ∀ base : Heap, XClG P w K mg base "BadEdit" EC7 "index" := fun base => ⟨mE7, _, _, _, _, _, _, _, xbase_VE, T7, xi7, xti7, xinit_G xbase_VE FX7 ⟨rfl, rfl, rfl, by decide +kernel, rfl, by decide +kernel, by decide +kernel⟩ rfl T7 xn7 (.inl rfl) (.inl rfl) (fun _ => rfl), bX7⟩
  have mE8 := PySem.W.mg_of X G xa8
  have T8 : OexG K EC8 [.type "ValueError", .type "Exception", .type "BaseException", .type "object"] "ValueError.__new__" := ⟨xo8, xov8, xd8, xs8, xb8, xt8, xk8⟩
  have FX8 := fun_mk (st := (mS 24 0)) xl8 xc8 xki8
  have bX8 := FX8.binds (ps := ["self", "index"]) fun _ _ _ _ _ _ us hl => match us, hl with | [_, _], _ => rfl
  have X8 : ∀ base : Heap, XClG P w K mg base "Rejected" EC8 "index" := fun base => ⟨mE8, _, _, _, _, _, _, _, xbase_VE, T8, xi8, xti8, xinit_G xbase_VE FX8 ⟨rfl, rfl, rfl, by decide +kernel, rfl, by decide +kernel, by decide +kernel⟩ rfl T8 xn8 (.inl rfl) (.inl rfl) (fun _ => rfl), bX8⟩
  have mE9 := PySem.W.mg_of X G xa9
  have T9 : OexG K EC9 [.type "ValueError", .type "Exception", .type "BaseException", .type "object"] "ValueError.__new__" := ⟨xo9, xov9, xd9, xs9, xb9, xt9, xk9⟩
  have FX9 := fun_mk (st := (mS 25 0)) xl9 xc9 xki9
  have bX9 := FX9.binds (ps := ["self", "switches"]) fun _ _ _ _ _ _ us hl => match us, hl with | [_, _], _ => rfl
  have X9 : ∀ base : Heap, XClG P w K mg base "Rough" EC9 "switches" := fun base => ⟨mE9, _, _, _, _, _, _, _, xbase_VE, T9, xi9, xti9, xinit_G xbase_VE FX9 ⟨rfl, rfl, rfl, by decide +kernel, rfl, by decide +kernel, by decide +kernel⟩ rfl T9 xn9 (.inl rfl) (.inl rfl) (fun _ => rfl), bX9⟩
  have mE10 := PySem.W.mg_of X G xa10
  have T10 : OexG K EC10 [.type "ValueError", .type "Exception", .type "BaseException", .type "object"] "ValueError.__new__" := ⟨xo10, xov10, xd10, xs10, xb10, xt10, xk10⟩
  have FX10 := fun_mk (st := (mS 26 0)) xl10 xc10 xki10
  have bX10 := FX10.binds (ps := ["self", "index"]) fun _ _ _ _ _ _ us hl => match us, hl with | [_, _], _ => rfl
  have X10 : ∀ base : Heap, XClG P w K mg base "BadText" EC10 "index" := fun base => ⟨mE10, _, _, _, _, _, _, _, xbase_VE, T10, xi10, xti10, xinit_G xbase_VE FX10 ⟨rfl, rfl, rfl, by decide +kernel, rfl, by decide +kernel, by decide +kernel⟩ rfl T10 xn10 (.inl rfl) (.inl rfl) (fun _ => rfl), bX10⟩
  have mE11 := PySem.W.mg_of X G xa11
  have T11 : OexG K EC11 [.type "LookupError", .type "Exception", .type "BaseException", .type "object"] "LookupError.__new__" := ⟨xo11, xov11, xd11, xs11, xb11, xt11, xk11⟩
  have FX11 := fun_mk (st := (mS 27 0)) xl11 xc11 xki11
  have bX11 := FX11.binds (ps := ["self", "value"]) fun _ _ _ _ _ _ us hl => match us, hl with | [_, _], _ => rfl
  have X11 : ∀ base : Heap, XClG P w K mg base "Absent" EC11 "value" := fun base => ⟨mE11, _, _, _, _, _, _, _, xbase_LE, T11, xi11, xti11, xinit_G xbase_LE FX11 ⟨rfl, rfl, rfl, by decide +kernel, rfl, by decide +kernel, by decide +kernel⟩ rfl T11 xn11 (.inl rfl) (.inl rfl) (fun _ => rfl), bX11⟩
  have mE12 := PySem.W.mg_of X G xa12
  have T12 : OexG K EC12 [.type "LookupError", .type "Exception", .type "BaseException", .type "object"] "LookupError.__new__" := ⟨xo12, xov12, xd12, xs12, xb12, xt12, xk12⟩
  have FX12 := fun_mk (st := (mS 28 0)) xl12 xc12 xki12
  have bX12 := FX12.binds (ps := ["self", "value"]) fun _ _ _ _ _ _ us hl => match us, hl with | [_, _], _ => rfl
  have X12 : ∀ base : Heap, XClG P w K mg base "NoSwitch" EC12 "value" := fun base => ⟨mE12, _, _, _, _, _, _, _, xbase_LE, T12, xi12, xti12, xinit_G xbase_LE FX12 ⟨rfl, rfl, rfl, by decide +kernel, rfl, by decide +kernel, by decide +kernel⟩ rfl T12 xn12 (.inl rfl) (.inl rfl) (fun _ => rfl), bX12⟩
  have mE13 := PySem.W.mg_of X G xa13
  have T13 : OexG K EC13 [.type "LookupError", .type "Exception", .type "BaseException", .type "object"] "LookupError.__new__" := ⟨xo13, xov13, xd13, xs13, xb13, xt13, xk13⟩
  have FX13 := fun_mk (st := (mS 29 0)) xl13 xc13 xki13
  have bX13 := FX13.binds (ps := ["self", "value"]) fun _ _ _ _ _ _ us hl => match us, hl with | [_, _], _ => rfl
  have X13 : ∀ base : Heap, XClG P w K mg base "NoVersion" EC13 "value" := fun base => ⟨mE13, _, _, _, _, _, _, _, xbase_LE, T13, xi13, xti13, xinit_G xbase_LE FX13 ⟨rfl, rfl, rfl, by decide +kernel, rfl, by decide +kernel, by decide +kernel⟩ rfl T13 xn13 (.inl rfl) (.inl rfl) (fun _ => rfl), bX13⟩
  have mE14 := PySem.W.mg_of X G xa14
  refine ⟨PySem.W.fnOf "law" "law" (defArgs (topS 68)) (defBody (topS 68)) (defScope (topS 68)) .none kV39 dc39 pm39 an39 cd39 ct39, fun s v => .of_eq rfl, fun base _ _ => ?_⟩
  have g_subsets_of : PFn P w K mg base 1 "subsets_of" Rparts := ⟨_, _, _, ok_sub F8 n_range, m8, k8, b8⟩
  have g_cube_cards : PFn P w K mg base 2 "cube_cards" Rcube := ⟨_, _, _, ok_cube F11 n_tuple g_subsets_of, m11, k11, b11⟩
  have g_sets_outside : PFn P w K mg base 1 "sets_outside" Rout := ⟨_, _, _, ok_out F9 n_range, m9, k9, b9⟩
  have g_first_missing : PFn P w K mg base 3 "first_missing" Rmiss := ⟨_, _, _, ok_miss F12 g_cube_cards, m12, k12, b12⟩
  have g_bases_of : PFn P w K mg base 4 "bases_of" Rbases := ⟨_, _, _, ok_bases F13 n_tuple g_sets_outside g_first_missing, m13, k13, b13⟩
  have g_is_solid : PFn P w K mg base 5 "is_solid" Rsolid := ⟨_, _, _, ok_solid F14 n_len g_bases_of, m14, k14, b14⟩
  have g_solid_sets : PFn P w K mg base 6 "solid_sets" Rsets := ⟨_, _, _, ok_sets F15 n_tuple n_range g_is_solid, m15, k15, b15⟩
  have g_patterns_of : PFn P w K mg base 1 "patterns_of" Rpat := ⟨_, _, _, ok_pat F18 n_tuple n_sorted, m18, k18, b18⟩
  have g_is_shown : PFn P w K mg base 2 "is_shown" Rshown := ⟨_, _, _, ok_shown F19 n_tuple g_patterns_of g_subsets_of, m19, k19, b19⟩
  have g_shown_sets : PFn P w K mg base 3 "shown_sets" Rshs := ⟨_, _, _, ok_shs F20 n_tuple n_range g_is_shown, m20, k20, b20⟩
  have g_rough_set : PFn P w K mg base 6 "rough_set" Rrough := ⟨_, _, _, ok_rough F21 g_shown_sets g_is_solid, m21, k21, b21⟩
  have g__law_draw83 : DFnQ P w K mg base 1 "_law_draw" 1 PreNext RNext := ⟨_, _, _, ok_draw83 F29 n_len, m29, k29, b29⟩
  have g__law_closed83 : DFnQ P w K mg base 2 "_law_closed" 5 PreN RCards := ⟨_, _, _, ok_clo83 F30 n_range g__law_draw83, m30, k30, b30⟩
  have g__law_size83 : PFn P w K mg base 1 "_law_size" Rsize := ⟨_, _, _, ok_size F32 , m32, k32, b32⟩
  have g__law_cards83 : DFnQ P w K mg base 3 "_law_cards" 66 PreN RCd83 := ⟨_, _, _, ok_cd83 F31 n_range n_list n_sorted g__law_draw83 g__law_closed83 g__law_size83, m31, k31, b31⟩
  have g_is_numberA : PFn P w K mg base 1 "is_number" RnumA := ⟨_, _, _, ok_numA F0 n_isinstance n_int n_bool, m0, k0, b0⟩
  have g_is_belowA : PFn P w K mg base 2 "is_below" RbelA := ⟨_, _, _, ok_belA F1 g_is_numberA, m1, k1, b1⟩
  have g_is_pairA : PFn P w K mg base 1 "is_pair" RprA := ⟨_, _, _, ok_prA F3 n_isinstance n_tuple n_len, m3, k3, b3⟩
  have g_is_cardA : PFn P w K mg base 3 "is_card" RicA := ⟨_, _, _, ok_icA F4 g_is_belowA, m4, k4, b4⟩
  have g_cards_errorA : PFn P w K mg base 4 "cards_error" RcerA := ⟨_, _, _, ok_cerA F6 n_enumerate g_is_cardA, m6, k6, b6⟩
  have g_box_errorA : PFn P w K mg base 5 "box_error" RberA := ⟨_, _, _, ok_berA F5 n_isinstance n_tuple v_MAX_SWITCHES g_is_pairA g_is_belowA g_cards_errorA, m5, k5, b5⟩
  have g_is_one_ofA : PFn P w K mg base 2 "is_one_of" RoofA := ⟨_, _, _, ok_oofA F2 g_is_numberA, m2, k2, b2⟩
  have g_with_card : PFn P w K mg base 1 "with_card" Rwc := ⟨_, _, _, ok_wc F22 n_tuple n_sorted, m22, k22, b22⟩
  have g_without_card : PFn P w K mg base 1 "without_card" Rwo := ⟨_, _, _, ok_wo F23 n_tuple, m23, k23, b23⟩
  have g_check_new_card : PFn P w K mg base 4 "check_new_card" Rcn := ⟨_, _, _, ok_cnc F24 g_is_cardA, m24, k24, b24⟩
  have g_check_old_card : PFn P w K mg base 3 "check_old_card" Rco := ⟨_, _, _, ok_coc F25 g_is_one_ofA, m25, k25, b25⟩
  have g_flip_switches : PFn P w K mg base 1 "flip_switches" Rflip := ⟨_, _, _, ok_flip F10 n_tuple n_sorted, m10, k10, b10⟩
  have g_has_switch : PFn P w K mg base 1 "has_switch" Rhsw := ⟨_, _, _, ok_hsw F7 , m7, k7, b7⟩
  have g_pressed_card : PFn P w K mg base 2 "pressed_card" Rprc := ⟨_, _, _, ok_prc F17 g_has_switch, m17, k17, b17⟩
  have g_press_switch : PFn P w K mg base 3 "press_switch" Rprs := ⟨_, _, _, ok_prs F16 n_tuple n_sorted g_pressed_card, m16, k16, b16⟩
  have g_check_switch : PFn P w K mg base 3 "check_switch" Rcsw := ⟨_, _, _, ok_csw F26 g_is_belowA, m26, k26, b26⟩
  have g_check_smooth : PFn P w K mg base 7 "check_smooth" Rcks := ⟨_, _, _, ok_cks F27 g_rough_set, m27, k27, b27⟩
  have g__law_boxM : DFnQ P w K mg base 4 "_law_box" 67 PreMo RBx := ⟨_, _, _, ok_bx F33 n_tuple g__law_draw83 g__law_cards83, m33, k33, b33⟩
  have g__law_edit77 : DFnQ P w K mg base 2 "_law_edit" 3 PreEdt REdt := ⟨_, _, _, ok_edt F35 n_int g__law_draw83, m35, k35, b35⟩
  have g__law_after75 : PFn P w K mg base 1 "_law_after" RafF := ⟨_, _, _, ok_aftF F34 n_tuple n_sorted, m34, k34, b34⟩
  have q_box : PiM P w K mg base C 1 "box" [.non] PmBox RmBox := ⟨pc.cl, _, _, _, _, ok_mbox pc FM1 , ⟨aM1, iM1, kM1⟩, bM1, vd1⟩
  have q_check_room : PiM P w K mg base C 1 "check_room" [] PmRoom RmRoom := ⟨pc.cl, _, _, _, _, ok_mroom pc FM2 n_len v_MAX_EDITS, ⟨aM2, iM2, kM2⟩, bM2, .nil⟩
  have q_stand : PiM P w K mg base C 1 "stand" [] PmStand RmStand := ⟨pc.cl, _, _, _, _, ok_mstand pc FM3 n_len, ⟨aM3, iM3, kM3⟩, bM3, .nil⟩
  have q___len__ : PiM P w K mg base C 1 "__len__" [] Pm0 RmLen := ⟨pc.cl, _, _, _, _, ok_mlen pc FM4 n_len, ⟨aM4, iM4, kM4⟩, bM4, .nil⟩
  have q_add : PiM P w K mg base C 5 "add" [] PmAdd RmAdd := ⟨pc.cl, _, _, _, _, ok_madd FM5 q_check_room q_box q_stand g_check_new_card g_with_card, ⟨aM5, iM5, kM5⟩, bM5, .nil⟩
  have q_remove : PiM P w K mg base C 5 "remove" [] PmRem RmRem := ⟨pc.cl, _, _, _, _, ok_mrem FM6 q_check_room q_box q_stand g_check_old_card g_without_card, ⟨aM6, iM6, kM6⟩, bM6, .nil⟩
  have q_flip : PiM P w K mg base C 5 "flip" [] PmSw (RmSw 2) := ⟨pc.cl, _, _, _, _, ok_mflip FM7 q_check_room q_box q_stand g_check_switch g_flip_switches, ⟨aM7, iM7, kM7⟩, bM7, .nil⟩
  have q_press : PiM P w K mg base C 5 "press" [] PmSw (RmSw 3) := ⟨pc.cl, _, _, _, _, ok_mpress FM8 q_check_room q_box q_stand g_check_switch g_press_switch, ⟨aM8, iM8, kM8⟩, bM8, .nil⟩
  have q_go_back : PiM P w K mg base C 1 "go_back" [] PmBack RmBack := ⟨pc.cl, _, _, _, _, ok_mback pc FM9 n_len, ⟨aM9, iM9, kM9⟩, bM9, .nil⟩
  have q_undo : PiM P w K mg base C 2 "undo" [] PmUndo RmUndo := ⟨pc.cl, _, _, _, _, ok_mundo pc FM10 n_len q_go_back, ⟨aM10, iM10, kM10⟩, bM10, .nil⟩
  have g_do : PiF P w K mg base C 6 "_law_do" PmDoF RmDoF := ⟨⟨_, _, _, ok_doF F36 q_add q_remove q_flip q_press, m36, k36, b36⟩⟩
  have pI : PiI K C := ⟨pc.cl, yha, yhn, ytk, yhm⟩
  have pI2 : PiI K CS := ⟨pc2.cl, zha, yhn, ytk, zhm⟩
  have k01 := kit_sub ycl yty ysb fun z => by rw [← z, yss] at ysb; cases ysb
  have hne : C ≠ CS := fun z => by rw [← z, yss] at ysb; cases ysb
  have k10 : PySem.W.kitOne K (.ref CS) (.ref C) = some true := kit_sub zcl zty zsb fun z => by rw [← z, zss] at ysb; cases ysb
  have hE : PiE P w K mg base C C 1 PmEq RmEq := ⟨⟨_, _, _, ok_meq pc pI FM11 n_isinstance mC mC2 kit_self k01, aM11, iM11, bM11⟩, ynf⟩
  have hEV : PiEV P w K mg base C 1 PreO := ⟨⟨_, _, _, ok_meqO FM11 n_isinstance mC (fun n hn => (oddB_ok xodd n hn).2), aM11, iM11, bM11⟩, fun d hd => (oddB_ok xodd _ hd).1⟩
  have hSD : PiE P w K mg base CS C 1 PmEq RmNo := ⟨⟨_, _, _, ok_meqX pI2 pI FN1 n_isinstance mC mC2 k01, aN1, iN1, bN1⟩, znf⟩
  have hSS : PiE P w K mg base CS CS 1 PmEq RmEq := ⟨⟨_, _, _, ok_meqS pc2 pI2 FN1 n_isinstance mC mC2 k10, aN1, iN1, bN1⟩, znf2⟩
  have mgE : ∀ (i : Nat) (c : Addr) (x : Str), [EC0, EC1, EC2, EC3, EC4, EC5, EC6, EC7, EC8, EC9, EC10, EC11, EC12, EC13][i]? = some c → namesE[i]? = some x → mg x = some (.ref c) := by
    intro i c x h1 h2
    match i with
    | 0 => cases h1; cases h2; exact mE0
    | 1 => cases h1; cases h2; exact mE1
    | 2 => cases h1; cases h2; exact mE2
    | 3 => cases h1; cases h2; exact mE3
    | 4 => cases h1; cases h2; exact mE4
    | 5 => cases h1; cases h2; exact mE5
    | 6 => cases h1; cases h2; exact mE6
    | 7 => cases h1; cases h2; exact mE7
    | 8 => cases h1; cases h2; exact mE8
    | 9 => cases h1; cases h2; exact mE9
    | 10 => cases h1; cases h2; exact mE10
    | 11 => cases h1; cases h2; exact mE11
    | 12 => cases h1; cases h2; exact mE12
    | 13 => cases h1; cases h2; exact mE13
    | n + 14 => cases h1
  have Er := Ers.of xall xhn xtk mgE mE14
  have X0s : ∀ (i : Nat) (c : Addr) (x : Str), i < 3 → [EC0, EC1, EC2, EC3, EC4, EC5, EC6, EC7, EC8, EC9, EC10, EC11, EC12, EC13][i]? = some c → namesE[i]? = some x → XCl0 K mg x c := by
    intro i c x hi h1 h2
    match i with
    | 0 => cases h1; cases h2; exact XZ0
    | 1 => cases h1; cases h2; exact XZ1
    | 2 => cases h1; cases h2; exact XZ2
    | n + 3 => omega
  have XGs : ∀ (i : Nat) (c : Addr) (x y : Str), 3 ≤ i → [EC0, EC1, EC2, EC3, EC4, EC5, EC6, EC7, EC8, EC9, EC10, EC11, EC12, EC13][i]? = some c → namesE[i]? = some x → fldE[i]? = some y → XClG P w K mg base x c y := by
    intro i c x y hi h1 h2 h3
    match i with
    | 0 => omega
    | 1 => omega
    | 2 => omega
    | 3 => cases h1; cases h2; cases h3; exact X3 base
    | 4 => cases h1; cases h2; cases h3; exact X4 base
    | 5 => cases h1; cases h2; cases h3; exact X5 base
    | 6 => cases h1; cases h2; cases h3; exact X6 base
    | 7 => cases h1; cases h2; cases h3; exact X7 base
    | 8 => cases h1; cases h2; cases h3; exact X8 base
    | 9 => cases h1; cases h2; cases h3; exact X9 base
    | 10 => cases h1; cases h2; cases h3; exact X10 base
    | 11 => cases h1; cases h2; cases h3; exact X11 base
    | 12 => cases h1; cases h2; cases h3; exact X12 base
    | 13 => cases h1; cases h2; cases h3; exact X13 base
    | n + 14 => cases h1
  have g_fl : EFn P w K mg base 2 "_law_flags" (Rfl74 [EC0, EC1, EC2, EC3, EC4, EC5, EC6, EC7, EC8, EC9, EC10, EC11, EC12, EC13]) := ⟨⟨_, _, _, ok_fl74 F37 n_isinstance Er, m37, k37, b37⟩⟩
  have g_er : PFn P w K mg base 3 "_law_errors_right" Rer74 := ⟨_, _, _, ok_er74 F38 n_range n_isinstance n_ValueError n_LookupError n_repr Er X0s XGs g_fl, m38, k38, b38⟩
  have FI := fun_mk (st := (mS 54 0)) lI cI kI
  have bI := FI.binds (ps := ["self", "box"]) fun _ _ _ _ _ _ us hl => match us, hl with | [_, _], _ => rfl
  have mDD := PySem.W.mg_of X G aCD
  have Gs := ok_sinit (P := P) (w := w) (mg := mg) (base := base) FN0 ⟨xrd, xga, xfc, kI⟩ (ok_minit pc2 FI g_box_errorA) bI mDD g_check_smooth
  exact ok_law F39 n_range n_repr n_len n_tuple n_isinstance n_min ⟨_, _, ok_deck F28 n_abs, m28, k28, b28⟩ g__law_draw83 g__law_boxM g__law_edit77 g__law_after75 g_do g_er q_box q_undo q___len__ hE hSS hSD zsb hne hEV ⟨yne, yob⟩ pI pI2 k10 k01 ⟨mkC, aM0, iM0, kC⟩ (ok_minit pc FM0 g_box_errorA) mC bM0 ⟨mkC2, aN0, iN0, kC2⟩ Gs mC2 bN0
end K74
open PySem PySem.W PyProof.Rows
set_option maxHeartbeats 0 in
theorem PySem.Challenge.cw_cardboxes_k74_deck_equality_and_errors_holds : PySem.Challenge.rw_cardboxes_k74_deck_equality_and_errors.Holds := by
  w_on; o_law; k_head; (case hw => w_witness2)
  k_fill
  refine Dl.walk_end (l := PySem.Challenge.rw_cardboxes_k74_deck_equality_and_errors) (n := 63) (k := 10) (x := "_law_script") (sp := Dl.spLaw) rfl (by decide) rfl ⟨rfl, by decide, by decide⟩ (fun w h Y => PySem.W.kIn_of Y) ?F (fun _ _ a ns hl _ hS => ⟨a, ns, rfl, hS, hl, fun _ => rfl⟩)
  case F =>
    intro w mg fa h KX G hmg
    refine' K74.all_mk KX G hmg ?a0 ?l0 ?c0 ?k0 ?a1 ?l1 ?c1 ?k1 ?a2 ?l2 ?c2 ?k2 ?a3 ?l3 ?c3 ?k3 ?a4 ?l4 ?c4 ?k4 ?a5 ?l5 ?c5 ?k5 ?a6 ?l6 ?c6 ?k6 ?a7 ?l7 ?c7 ?k7 ?a8 ?l8 ?c8 ?k8 ?a9 ?l9 ?c9 ?k9 ?a10 ?l10 ?c10 ?k10 ?a11 ?l11 ?c11 ?k11 ?a12 ?l12 ?c12 ?k12 ?a13 ?l13 ?c13 ?k13 ?a14 ?l14 ?c14 ?k14 ?a15 ?l15 ?c15 ?k15 ?a16 ?l16 ?c16 ?k16 ?a17 ?l17 ?c17 ?k17 ?a18 ?l18 ?c18 ?k18 ?a19 ?l19 ?c19 ?k19 ?a20 ?l20 ?c20 ?k20 ?a21 ?l21 ?c21 ?k21 ?a22 ?l22 ?c22 ?k22 ?a23 ?l23 ?c23 ?k23 ?a24 ?l24 ?c24 ?k24 ?a25 ?l25 ?c25 ?k25 ?a26 ?l26 ?c26 ?k26 ?a27 ?l27 ?c27 ?k27 ?a28 ?l28 ?c28 ?k28 ?a29 ?l29 ?c29 ?k29 ?a30 ?l30 ?c30 ?k30 ?a31 ?l31 ?c31 ?k31 ?a32 ?l32 ?c32 ?k32 ?a33 ?l33 ?c33 ?k33 ?a34 ?l34 ?c34 ?k34 ?a35 ?l35 ?c35 ?k35 ?a36 ?l36 ?c36 ?k36 ?a37 ?l37 ?c37 ?k37 ?a38 ?l38 ?c38 ?k38 ?a39 ?l39 ?c39 ?k39 ?z0 ?z1 ?z2 ?z3 ?z4 ?z5 ?z6 ?z7 ?z8 ?z9 ?z10 ?z11 ?z12 ?z13 ?z14 ?z15 ?y0 ?y1 ?aC ?pg ?hd ?po ?sa ?mkC ?kC ?nS ?nD ?aM0 ?lM0 ?cM0 ?kM0 ?iM0 ?aM1 ?lM1 ?cM1 ?kM1 ?iM1 ?dM1 ?aM2 ?lM2 ?cM2 ?kM2 ?iM2 ?aM3 ?lM3 ?cM3 ?kM3 ?iM3 ?aM4 ?lM4 ?cM4 ?kM4 ?iM4 ?aM5 ?lM5 ?cM5 ?kM5 ?iM5 ?aM6 ?lM6 ?cM6 ?kM6 ?iM6 ?aM7 ?lM7 ?cM7 ?kM7 ?iM7 ?aM8 ?lM8 ?cM8 ?kM8 ?iM8 ?aM9 ?lM9 ?cM9 ?kM9 ?iM9 ?aM10 ?lM10 ?cM10 ?kM10 ?iM10 ?aM11 ?lM11 ?cM11 ?kM11 ?iM11 ?aC2 ?pg2 ?hd2 ?po2 ?sa2 ?mkC2 ?kC2 ?nS2 ?nD2 ?aN0 ?lN0 ?cN0 ?kN0 ?iN0 ?aN1 ?lN1 ?cN1 ?kN1 ?iN1 ?aCD ?xrd ?xga ?xfc ?lI ?cI ?kI ?yha ?yhn ?ytk ?yhm ?zha ?zhm ?ycl ?yty ?ysb ?yss ?zcl ?zty ?zsb ?zss ?znf ?znf2 ?yne ?yob ?ynf ?xodd ?xhn ?xtk ?xa0 ?xt0 ?xb0 ?xk0 ?xq0 ?xa1 ?xt1 ?xb1 ?xk1 ?xq1 ?xa2 ?xt2 ?xb2 ?xk2 ?xq2 ?xa3 ?xt3 ?xb3 ?xd3 ?xk3 ?xo3 ?xov3 ?xs3 ?xn3 ?xi3 ?xti3 ?xl3 ?xc3 ?xki3 ?xa4 ?xt4 ?xb4 ?xd4 ?xk4 ?xo4 ?xov4 ?xs4 ?xn4 ?xi4 ?xti4 ?xl4 ?xc4 ?xki4 ?xa5 ?xt5 ?xb5 ?xd5 ?xk5 ?xo5 ?xov5 ?xs5 ?xn5 ?xi5 ?xti5 ?xl5 ?xc5 ?xki5 ?xa6 ?xt6 ?xb6 ?xd6 ?xk6 ?xo6 ?xov6 ?xs6 ?xn6 ?xi6 ?xti6 ?xl6 ?xc6 ?xki6 ?xa7 ?xt7 ?xb7 ?xd7 ?xk7 ?xo7 ?xov7 ?xs7 ?xn7 ?xi7 ?xti7 ?xl7 ?xc7 ?xki7 ?xa8 ?xt8 ?xb8 ?xd8 ?xk8 ?xo8 ?xov8 ?xs8 ?xn8 ?xi8 ?xti8 ?xl8 ?xc8 ?xki8 ?xa9 ?xt9 ?xb9 ?xd9 ?xk9 ?xo9 ?xov9 ?xs9 ?xn9 ?xi9 ?xti9 ?xl9 ?xc9 ?xki9 ?xa10 ?xt10 ?xb10 ?xd10 ?xk10 ?xo10 ?xov10 ?xs10 ?xn10 ?xi10 ?xti10 ?xl10 ?xc10 ?xki10 ?xa11 ?xt11 ?xb11 ?xd11 ?xk11 ?xo11 ?xov11 ?xs11 ?xn11 ?xi11 ?xti11 ?xl11 ?xc11 ?xki11 ?xa12 ?xt12 ?xb12 ?xd12 ?xk12 ?xo12 ?xov12 ?xs12 ?xn12 ?xi12 ?xti12 ?xl12 ?xc12 ?xki12 ?xa13 ?xt13 ?xb13 ?xd13 ?xk13 ?xo13 ?xov13 ?xs13 ?xn13 ?xi13 ?xti13 ?xl13 ?xc13 ?xki13 ?xa14 ?xall
    (case a0 => k_is); (case l0 => k_is); (case c0 => k_is); (case k0 => k_is)
    (case a1 => k_is); (case l1 => k_is); (case c1 => k_is); (case k1 => k_is)
    (case a2 => k_is); (case l2 => k_is); (case c2 => k_is); (case k2 => k_is)
    (case a3 => k_is); (case l3 => k_is); (case c3 => k_is); (case k3 => k_is)
    (case a4 => k_is); (case l4 => k_is); (case c4 => k_is); (case k4 => k_is)
    (case a5 => k_is); (case l5 => k_is); (case c5 => k_is); (case k5 => k_is)
    (case a6 => k_is); (case l6 => k_is); (case c6 => k_is); (case k6 => k_is)
    (case a7 => k_is); (case l7 => k_is); (case c7 => k_is); (case k7 => k_is)
    (case a8 => k_is); (case l8 => k_is); (case c8 => k_is); (case k8 => k_is)
    (case a9 => k_is); (case l9 => k_is); (case c9 => k_is); (case k9 => k_is)
    (case a10 => k_is); (case l10 => k_is); (case c10 => k_is); (case k10 => k_is)
    (case a11 => k_is); (case l11 => k_is); (case c11 => k_is); (case k11 => k_is)
    (case a12 => k_is); (case l12 => k_is); (case c12 => k_is); (case k12 => k_is)
    (case a13 => k_is); (case l13 => k_is); (case c13 => k_is); (case k13 => k_is)
    (case a14 => k_is); (case l14 => k_is); (case c14 => k_is); (case k14 => k_is)
    (case a15 => k_is); (case l15 => k_is); (case c15 => k_is); (case k15 => k_is)
    (case a16 => k_is); (case l16 => k_is); (case c16 => k_is); (case k16 => k_is)
    (case a17 => k_is); (case l17 => k_is); (case c17 => k_is); (case k17 => k_is)
    (case a18 => k_is); (case l18 => k_is); (case c18 => k_is); (case k18 => k_is)
    (case a19 => k_is); (case l19 => k_is); (case c19 => k_is); (case k19 => k_is)
    (case a20 => k_is); (case l20 => k_is); (case c20 => k_is); (case k20 => k_is)
    (case a21 => k_is); (case l21 => k_is); (case c21 => k_is); (case k21 => k_is)
    (case a22 => k_is); (case l22 => k_is); (case c22 => k_is); (case k22 => k_is)
    (case a23 => k_is); (case l23 => k_is); (case c23 => k_is); (case k23 => k_is)
    (case a24 => k_is); (case l24 => k_is); (case c24 => k_is); (case k24 => k_is)
    (case a25 => k_is); (case l25 => k_is); (case c25 => k_is); (case k25 => k_is)
    (case a26 => k_is); (case l26 => k_is); (case c26 => k_is); (case k26 => k_is)
    (case a27 => k_is); (case l27 => k_is); (case c27 => k_is); (case k27 => k_is)
    (case a28 => k_is); (case l28 => k_is); (case c28 => k_is); (case k28 => k_is)
    (case a29 => k_is); (case l29 => k_is); (case c29 => k_is); (case k29 => k_is)
    (case a30 => k_is); (case l30 => k_is); (case c30 => k_is); (case k30 => k_is)
    (case a31 => k_is); (case l31 => k_is); (case c31 => k_is); (case k31 => k_is)
    (case a32 => k_is); (case l32 => k_is); (case c32 => k_is); (case k32 => k_is)
    (case a33 => k_is); (case l33 => k_is); (case c33 => k_is); (case k33 => k_is)
    (case a34 => k_is); (case l34 => k_is); (case c34 => k_is); (case k34 => k_is)
    (case a35 => k_is); (case l35 => k_is); (case c35 => k_is); (case k35 => k_is)
    (case a36 => k_is); (case l36 => k_is); (case c36 => k_is); (case k36 => k_is)
    (case a37 => k_is); (case l37 => k_is); (case c37 => k_is); (case k37 => k_is)
    (case a38 => k_is); (case l38 => k_is); (case c38 => k_is); (case k38 => k_is)
    (case a39 => k_is); (case l39 => k_is); (case c39 => k_is); (case k39 => k_is)
    (case z0 => k_is); (case z1 => k_is); (case z2 => k_is); (case z3 => k_is); (case z4 => k_is); (case z5 => k_is); (case z6 => k_is); (case z7 => k_is); (case z8 => k_is); (case z9 => k_is); (case z10 => k_is); (case z11 => k_is); (case z12 => k_is); (case z13 => k_is); (case z14 => k_is); (case z15 => k_is)
    (case y0 => k_is); (case y1 => k_is)
    (case aC => k_is)
    (case pg => k_is)
    (case hd => k_is)
    (case po => k_is)
    (case sa => k_is)
    (case mkC => k_is)
    (case kC => k_is)
    (case nS => k_is)
    (case nD => k_is)
    (case aM0 => k_is)
    (case lM0 => k_is)
    (case cM0 => k_is)
    (case kM0 => k_is)
    (case iM0 => k_is)
    (case aM1 => k_is)
    (case lM1 => k_is)
    (case cM1 => k_is)
    (case kM1 => k_is)
    (case iM1 => k_is)
    (case dM1 => k_is)
    (case aM2 => k_is)
    (case lM2 => k_is)
    (case cM2 => k_is)
    (case kM2 => k_is)
    (case iM2 => k_is)
    (case aM3 => k_is)
    (case lM3 => k_is)
    (case cM3 => k_is)
    (case kM3 => k_is)
    (case iM3 => k_is)
    (case aM4 => k_is)
    (case lM4 => k_is)
    (case cM4 => k_is)
    (case kM4 => k_is)
    (case iM4 => k_is)
    (case aM5 => k_is)
    (case lM5 => k_is)
    (case cM5 => k_is)
    (case kM5 => k_is)
    (case iM5 => k_is)
    (case aM6 => k_is)
    (case lM6 => k_is)
    (case cM6 => k_is)
    (case kM6 => k_is)
    (case iM6 => k_is)
    (case aM7 => k_is)
    (case lM7 => k_is)
    (case cM7 => k_is)
    (case kM7 => k_is)
    (case iM7 => k_is)
    (case aM8 => k_is)
    (case lM8 => k_is)
    (case cM8 => k_is)
    (case kM8 => k_is)
    (case iM8 => k_is)
    (case aM9 => k_is)
    (case lM9 => k_is)
    (case cM9 => k_is)
    (case kM9 => k_is)
    (case iM9 => k_is)
    (case aM10 => k_is)
    (case lM10 => k_is)
    (case cM10 => k_is)
    (case kM10 => k_is)
    (case iM10 => k_is)
    (case aM11 => k_is)
    (case lM11 => k_is)
    (case cM11 => k_is)
    (case kM11 => k_is)
    (case iM11 => k_is)
    (case aC2 => k_is)
    (case pg2 => k_is)
    (case hd2 => k_is)
    (case po2 => k_is)
    (case sa2 => k_is)
    (case mkC2 => k_is)
    (case kC2 => k_is)
    (case nS2 => k_is)
    (case nD2 => k_is)
    (case aN0 => k_is)
    (case lN0 => k_is)
    (case cN0 => k_is)
    (case kN0 => k_is)
    (case iN0 => k_is)
    (case aN1 => k_is)
    (case lN1 => k_is)
    (case cN1 => k_is)
    (case kN1 => k_is)
    (case iN1 => k_is)
    (case aCD => k_is)
    (case xrd => k_is)
    (case xga => k_is)
    (case xfc => k_is)
    (case lI => k_is)
    (case cI => k_is)
    (case kI => k_is)
    (case yha => k_is)
    (case yhn => k_is)
    (case ytk => k_is)
    (case yhm => k_is)
    (case zha => k_is)
    (case zhm => k_is)
    (case ycl => k_is)
    (case yty => k_is)
    (case ysb => k_is)
    (case yss => k_is)
    (case zcl => k_is)
    (case zty => k_is)
    (case zsb => k_is)
    (case zss => k_is)
    (case znf => k_is)
    (case znf2 => k_is)
    (case yne => k_is)
    (case yob => k_is)
    (case ynf => k_is)
    (case xodd => kernel_rfl)
    (case xhn => k_is)
    (case xtk => k_is)
    (case xa0 => k_is)
    (case xt0 => k_is)
    (case xb0 => k_is)
    (case xk0 => k_is)
    (case xq0 => k_exc)
    (case xa1 => k_is)
    (case xt1 => k_is)
    (case xb1 => k_is)
    (case xk1 => k_is)
    (case xq1 => k_exc)
    (case xa2 => k_is)
    (case xt2 => k_is)
    (case xb2 => k_is)
    (case xk2 => k_is)
    (case xq2 => k_exc)
    (case xa3 => k_is)
    (case xt3 => k_is)
    (case xb3 => k_is)
    (case xd3 => k_is)
    (case xk3 => k_is)
    (case xo3 => kx_is)
    (case xov3 => kx_is)
    (case xs3 => k_is)
    (case xn3 => k_is)
    (case xi3 => k_is)
    (case xti3 => k_is)
    (case xl3 => k_is)
    (case xc3 => k_is)
    (case xki3 => k_is)
    (case xa4 => k_is)
    (case xt4 => k_is)
    (case xb4 => k_is)
    (case xd4 => k_is)
    (case xk4 => k_is)
    (case xo4 => kx_is)
    (case xov4 => kx_is)
    (case xs4 => k_is)
    (case xn4 => k_is)
    (case xi4 => k_is)
    (case xti4 => k_is)
    (case xl4 => k_is)
    (case xc4 => k_is)
    (case xki4 => k_is)
    (case xa5 => k_is)
    (case xt5 => k_is)
    (case xb5 => k_is)
    (case xd5 => k_is)
    (case xk5 => k_is)
    (case xo5 => kx_is)
    (case xov5 => kx_is)
    (case xs5 => k_is)
    (case xn5 => k_is)
    (case xi5 => k_is)
    (case xti5 => k_is)
    (case xl5 => k_is)
    (case xc5 => k_is)
    (case xki5 => k_is)
    (case xa6 => k_is)
    (case xt6 => k_is)
    (case xb6 => k_is)
    (case xd6 => k_is)
    (case xk6 => k_is)
    (case xo6 => kx_is)
    (case xov6 => kx_is)
    (case xs6 => k_is)
    (case xn6 => k_is)
    (case xi6 => k_is)
    (case xti6 => k_is)
    (case xl6 => k_is)
    (case xc6 => k_is)
    (case xki6 => k_is)
    (case xa7 => k_is)
    (case xt7 => k_is)
    (case xb7 => k_is)
    (case xd7 => k_is)
    (case xk7 => k_is)
    (case xo7 => kx_is)
    (case xov7 => kx_is)
    (case xs7 => k_is)
    (case xn7 => k_is)
    (case xi7 => k_is)
    (case xti7 => k_is)
    (case xl7 => k_is)
    (case xc7 => k_is)
    (case xki7 => k_is)
    (case xa8 => k_is)
    (case xt8 => k_is)
    (case xb8 => k_is)
    (case xd8 => k_is)
    (case xk8 => k_is)
    (case xo8 => kx_is)
    (case xov8 => kx_is)
    (case xs8 => k_is)
    (case xn8 => k_is)
    (case xi8 => k_is)
    (case xti8 => k_is)
    (case xl8 => k_is)
    (case xc8 => k_is)
    (case xki8 => k_is)
    (case xa9 => k_is)
    (case xt9 => k_is)
    (case xb9 => k_is)
    (case xd9 => k_is)
    (case xk9 => k_is)
    (case xo9 => kx_is)
    (case xov9 => kx_is)
    (case xs9 => k_is)
    (case xn9 => k_is)
    (case xi9 => k_is)
    (case xti9 => k_is)
    (case xl9 => k_is)
    (case xc9 => k_is)
    (case xki9 => k_is)
    (case xa10 => k_is)
    (case xt10 => k_is)
    (case xb10 => k_is)
    (case xd10 => k_is)
    (case xk10 => k_is)
    (case xo10 => kx_is)
    (case xov10 => kx_is)
    (case xs10 => k_is)
    (case xn10 => k_is)
    (case xi10 => k_is)
    (case xti10 => k_is)
    (case xl10 => k_is)
    (case xc10 => k_is)
    (case xki10 => k_is)
    (case xa11 => k_is)
    (case xt11 => k_is)
    (case xb11 => k_is)
    (case xd11 => k_is)
    (case xk11 => k_is)
    (case xo11 => kx_is)
    (case xov11 => kx_is)
    (case xs11 => k_is)
    (case xn11 => k_is)
    (case xi11 => k_is)
    (case xti11 => k_is)
    (case xl11 => k_is)
    (case xc11 => k_is)
    (case xki11 => k_is)
    (case xa12 => k_is)
    (case xt12 => k_is)
    (case xb12 => k_is)
    (case xd12 => k_is)
    (case xk12 => k_is)
    (case xo12 => kx_is)
    (case xov12 => kx_is)
    (case xs12 => k_is)
    (case xn12 => k_is)
    (case xi12 => k_is)
    (case xti12 => k_is)
    (case xl12 => k_is)
    (case xc12 => k_is)
    (case xki12 => k_is)
    (case xa13 => k_is)
    (case xt13 => k_is)
    (case xb13 => k_is)
    (case xd13 => k_is)
    (case xk13 => k_is)
    (case xo13 => kx_is)
    (case xov13 => kx_is)
    (case xs13 => k_is)
    (case xn13 => k_is)
    (case xi13 => k_is)
    (case xti13 => k_is)
    (case xl13 => k_is)
    (case xc13 => k_is)
    (case xki13 => k_is)
    (case xa14 => k_is)
    (case xall => kernel_rfl)

