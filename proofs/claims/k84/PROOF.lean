import PyProof.Rows.All
import Wide.All
import OpenK.AllK
import Wide.FinOn
import HandS.ForMost
import HandS.Conv
import HandS.Strs
import HandS.SortInts
import HandS.Wide
import HandS.WideBits
import HandS.IsInst
import HandS.Style
import HandS.NoneIn
import HandS.SetFor
import HandS.SetBool
import HandS.SortKw
import KE.DataMinMax
import HandS.TupAny
import PyProof.TupleOfSeq
import PyProof.ReprRoads
import PyProof.ReprLen
import HandS.Zip
import HandS.TupLe
import HandS.RevRange
import KE.GoesMore
import HandS.Dict
import HandS.Sort
import KE.KDictList
import KE.KRevSl
import PyProof.EqKinds
import PyProof.NeKinds
import PyProof.FactsAll.dict_1
import HandS.Star
import HandS.FStr
import HandS.Defaults
import KE.KTupSum
import HandS.Remove
import PySem.Challenge.RW_cardboxes_k84_whole_edges_and_projection
set_option Elab.async false
set_option linter.all false
set_option maxRecDepth 100000
set_option maxHeartbeats 4000000
namespace Dl
open PySem PySem.Spec PyProof.Rows L2

/-! ### lists that only their owner knows: described by what is true of the object; data are never such -/
def extL (s : Addr) (as : List Addr) : HO := .ext fun h => as.length ≤ sizeLine ∧ ∃ n : Nat, h.get? s = some { cls := .type "list", data := .seq (as.map Value.ref).toArray n }
def IsX (o : HO) : Prop := ∃ s as, as.length ≤ sizeLine ∧ o = extL s as
theorem nx_lst {xs : List V} : ¬ IsX (.lst xs) := fun ⟨_, _, _, e⟩ => by unfold extL at e; cases e
theorem nx_tup {xs : List V} : ¬ IsX (.tup xs) := fun ⟨_, _, _, e⟩ => by unfold extL at e; cases e
theorem nx_set {w : World} {D : Addr} {S : Int → Bool} {c : Nat} : ¬ IsX (SetO w D S c) := fun ⟨s, as, hl, e⟩ => by
  unfold SetO extL at e
  have e2 := HO.ext.inj e
  let ob : Obj := { cls := .type "list", data := .seq (as.map Value.ref).toArray 0 }
  let h : Heap := ⟨(List.replicate (s + 1) ob).toArray, {}⟩
  have hs : h.get? s = some ob := by
    unfold Heap.get?
    have : h.objs[s]? = some ob := by
      show (List.replicate (s + 1) ob).toArray[s]? = some ob
      simp
    rw [this]
  have hr : SetR w h D S c := by
    have := congrFun e2 h
    rw [this]
    exact ⟨hl, 0, hs⟩
  obtain ⟨o, es, ep, t, ho, _, hd, _⟩ := hr
  have : o = ob := by
    unfold Heap.get? at ho
    cases q : h.objs[D]? with
    | none => rw [q] at ho; cases ho
    | some u =>
      have hu : u = ob := by
        have q' : (List.replicate (s + 1) ob).toArray[D]? = some u := q
        rw [List.getElem?_toArray] at q'
        exact List.eq_of_mem_replicate (List.mem_of_getElem? q')
      subst hu
      rw [q] at ho
      exact (Option.some.inj ho).symm
  rw [this] at hd
  cases hd
theorem nx_dK {xs : List (Key × V)} : ¬ IsX (.dK xs) := fun ⟨_, _, _, e⟩ => by unfold extL at e; cases e
theorem nx_ins {C dx : Addr} {fs : List (Str × V)} : ¬ IsX (.ins C dx fs) := fun ⟨_, _, _, e⟩ => by unfold extL at e; cases e
theorem nx_own {x : Addr} : ¬ IsX (.own x) := fun ⟨_, _, _, e⟩ => by unfold extL at e; cases e
theorem nx_frz {x : Obj} {u : HO} : ¬ IsX (.frz x u) := fun ⟨_, _, _, e⟩ => by unfold extL at e; cases e
/-! ### data in the heap, away from the addresses S -/
def kP : Key → PyData
  | .inl i => .int i
  | .inr x => .str x
mutual
inductive Rep (K : PySem.W.Frag) (S : Addr → Prop) (H : Hp) : V → PyData → Prop
  | non : Rep K S H .non .none
  | bl (b : Bool) : Rep K S H (.bl b) (.bool b)
  | int (i : Int) : Rep K S H (.int i) (.int i)
  | str (x : Str) : Rep K S H (.str x) (.str x)
  | lst {a : Addr} {xs : List V} {ds : List PyData} : H a = some (.lst xs) ∧ ¬ S a → RepAll K S H xs ds → Rep K S H (.ref a) (.list ds)
  | tup {a : Addr} {xs : List V} {ds : List PyData} : H a = some (.tup xs) ∧ ¬ S a → RepAll K S H xs ds → Rep K S H (.ref a) (.tuple ds)
  | dct {a : Addr} {kvs : List (Key × V)} {es : List (PyData × PyData)} : H a = some (.dK kvs) ∧ ¬ S a → RepKV K S H kvs es → Rep K S H (.ref a) (.dict es)
inductive RepAll (K : PySem.W.Frag) (S : Addr → Prop) (H : Hp) : List V → List PyData → Prop
  | nil : RepAll K S H [] []
  | cons {v : V} {vs : List V} {d : PyData} {ds : List PyData} : Rep K S H v d → RepAll K S H vs ds → RepAll K S H (v :: vs) (d :: ds)
inductive RepKV (K : PySem.W.Frag) (S : Addr → Prop) (H : Hp) : List (Key × V) → List (PyData × PyData) → Prop
  | nil : RepKV K S H [] []
  | cons {k : Key} {v : V} {kvs : List (Key × V)} {d : PyData} {es : List (PyData × PyData)} : Rep K S H v d → RepKV K S H kvs es → RepKV K S H ((k, v) :: kvs) ((kP k, d) :: es)
end
section
variable {K : PySem.W.Frag} {S S' : Addr → Prop} {H H' : Hp}
theorem rd_keep {a : Addr} {u : HO} (e : ∀ o, H a = some o → H' a = some o) (h : Rd H a u) : Rd H' a u := by
  rcases h with h | ⟨o, h⟩
  · exact .inl (e _ h)
  · exact .inr ⟨o, e _ h⟩
theorem rd_ne {a : Addr} {u : HO} (h : Rd H a u) : H a ≠ none := by
  rcases h with h | ⟨o, h⟩
  · rw [h]; exact fun z => nomatch z
  · rw [h]; exact fun z => nomatch z
theorem sql_none {a : Addr} {xs : List V} (h : SqL K (fun _ => none) a xs) : SqL K H a xs := by
  rcases h with (h | ⟨o, h⟩) | h
  · cases h
  · cases h
  · exact .inr h
theorem sqt_none {a : Addr} {xs : List V} (h : SqT K (fun _ => none) a xs) : SqT K H a xs := by
  rcases h with (h | ⟨o, h⟩) | h
  · cases h
  · cases h
  · exact .inr h
theorem sql_of {a : Addr} {xs : List V} (h : H a = some (.lst xs) ∧ ¬ S a) : SqL K H a xs := .inl (.inl h.1)
theorem sqt_of {a : Addr} {xs : List V} (h : H a = some (.tup xs) ∧ ¬ S a) : SqT K H a xs := .inl (.inl h.1)
mutual
theorem Rep.keepX (e : ∀ b o, ¬ S b → ¬ IsX o → H b = some o → H' b = some o) (hs : ∀ b, H b ≠ none → S' b → S b) : ∀ (d : PyData) (v : V), Rep K S H v d → Rep K S' H' v d
  | .none, _, h => by cases h; exact .non
  | .bool b, _, h => by cases h; exact .bl b
  | .int i, _, h => by cases h; exact .int i
  | .str x, _, h => by cases h; exact .str x
  | .list ds, _, h => by
    cases h with
    | lst h1 h3 => exact .lst ⟨e _ _ h1.2 nx_lst h1.1, fun y => h1.2 (hs _ (by rw [h1.1]; exact fun z => nomatch z) y)⟩ (RepAll.keepX e hs ds _ h3)
  | .tuple ds, _, h => by
    cases h with
    | tup h1 h3 => exact .tup ⟨e _ _ h1.2 nx_tup h1.1, fun y => h1.2 (hs _ (by rw [h1.1]; exact fun z => nomatch z) y)⟩ (RepAll.keepX e hs ds _ h3)
  | .dict es, _, h => by
    cases h with
    | dct h1 h3 => exact .dct ⟨e _ _ h1.2 nx_dK h1.1, fun y => h1.2 (hs _ (by rw [h1.1]; exact fun z => nomatch z) y)⟩ (RepKV.keepX e hs es _ h3)
theorem RepAll.keepX (e : ∀ b o, ¬ S b → ¬ IsX o → H b = some o → H' b = some o) (hs : ∀ b, H b ≠ none → S' b → S b) : ∀ (ds : List PyData) (vs : List V), RepAll K S H vs ds → RepAll K S' H' vs ds
  | [], _, h => by cases h; exact .nil
  | d :: ds, _, h => by
    cases h with
    | cons h1 h2 => exact .cons (Rep.keepX e hs d _ h1) (RepAll.keepX e hs ds _ h2)
theorem RepKV.keepX (e : ∀ b o, ¬ S b → ¬ IsX o → H b = some o → H' b = some o) (hs : ∀ b, H b ≠ none → S' b → S b) : ∀ (es : List (PyData × PyData)) (vs : List (Key × V)), RepKV K S H vs es → RepKV K S' H' vs es
  | [], _, h => by cases h; exact .nil
  | (p, d) :: es, _, h => by
    cases h with
    | cons h1 h2 => exact .cons (Rep.keepX e hs d _ h1) (RepKV.keepX e hs es _ h2)
end
theorem Rep.keep (e : ∀ b o, ¬ S b → H b = some o → H' b = some o) (hs : ∀ b, H b ≠ none → S' b → S b) (d : PyData) (v : V) (r : Rep K S H v d) : Rep K S' H' v d := Rep.keepX (fun b o n _ q => e b o n q) hs d v r
theorem RepAll.keep (e : ∀ b o, ¬ S b → H b = some o → H' b = some o) (hs : ∀ b, H b ≠ none → S' b → S b) (d : List PyData) (v : List V) (r : RepAll K S H v d) : RepAll K S' H' v d := RepAll.keepX (fun b o n _ q => e b o n q) hs d v r
mutual
theorem Rep.dp : ∀ (d : PyData) (v : V), Rep K S H v d → d.hasDict = false → Dp K H v d
  | .none, _, h, _ => by cases h; exact .non
  | .bool b, _, h, _ => by cases h; exact .bl b
  | .int i, _, h, _ => by cases h; exact .int i
  | .str x, _, h, _ => by cases h; exact .str x
  | .list ds, _, h, n => by
    cases h with
    | lst h1 h3 => exact .lst (sql_of h1) (RepAll.dp ds _ h3 (by simpa only [PyData.hasDict] using n))
  | .tuple ds, _, h, n => by
    cases h with
    | tup h1 h3 => exact .tup (sqt_of h1) (RepAll.dp ds _ h3 (by simpa only [PyData.hasDict] using n))
  | .dict _, _, h, n => by simp [PyData.hasDict] at n
theorem RepAll.dp : ∀ (ds : List PyData) (vs : List V), RepAll K S H vs ds → PyData.hasDictAll ds = false → DpAll K H vs ds
  | [], _, h, _ => by cases h; exact .nil
  | d :: ds, _, h, n => by
    rw [PyData.hasDictAll, Bool.or_eq_false_iff] at n
    cases h with
    | cons h1 h2 => exact .cons (Rep.dp d _ h1 n.1) (RepAll.dp ds _ h2 n.2)
end
mutual
theorem nodict_of : ∀ d : PyData, d.canLay0 = true → d.hasDict = false
  | .none, _ => by simp only [PyData.hasDict]
  | .bool _, _ => by simp only [PyData.hasDict]
  | .int _, _ => by simp only [PyData.hasDict]
  | .str _, _ => by simp only [PyData.hasDict]
  | .list ds, h => by rw [PyData.hasDict]; exact nodictAll_of ds (by simpa only [PyData.canLay0] using h)
  | .tuple ds, h => by rw [PyData.hasDict]; exact nodictAll_of ds (by simpa only [PyData.canLay0] using h)
  | .dict _, h => by simp [PyData.canLay0] at h
theorem nodictAll_of : ∀ ds : List PyData, PyData.canLayAll0 ds = true → PyData.hasDictAll ds = false
  | [], _ => by simp only [PyData.hasDictAll]
  | d :: ds, h => by
    rw [PyData.canLayAll0, Bool.and_eq_true] at h
    rw [PyData.hasDictAll, nodict_of d h.1, nodictAll_of ds h.2]; rfl
end
theorem nodict_sh {d : PyData} (h : SeqAt.shaped d = true) : d.hasDict = false := nodict_of d (Bool.and_eq_true_iff.mp h).1
theorem RepAll.length : ∀ {ds : List PyData} {vs : List V}, RepAll K S H vs ds → vs.length = ds.length
  | [], _, h => by cases h; rfl
  | d :: ds, _, h => by
    cases h with
    | cons h1 h2 => rw [List.length_cons, List.length_cons, RepAll.length h2]
theorem RepAll.get : ∀ {ds : List PyData} {vs : List V} {i : Nat} {d : PyData}, RepAll K S H vs ds → ds[i]? = some d → ∃ v, vs[i]? = some v ∧ Rep K S H v d
  | _ :: _, _, 0, _, h, e => by
    cases h with
    | cons h1 h2 => cases e; exact ⟨_, rfl, h1⟩
  | _ :: ds, _, i + 1, d, h, e => by
    cases h with
    | cons h1 h2 =>
      obtain ⟨v, q, r⟩ := RepAll.get (i := i) (d := d) h2 (by simpa using e)
      exact ⟨v, by simpa using q, r⟩
  | [], _, i, _, _, e => by simp at e
theorem RepAll.got : ∀ {ds : List PyData} {vs : List V} {i : Nat} {v : V}, RepAll K S H vs ds → vs[i]? = some v → ∃ d, ds[i]? = some d ∧ Rep K S H v d
  | _ :: _, _, 0, _, h, e => by
    cases h with
    | cons h1 h2 => cases e; exact ⟨_, rfl, h1⟩
  | _ :: ds, _, i + 1, d, h, e => by
    cases h with
    | cons h1 h2 =>
      obtain ⟨v, q, r⟩ := RepAll.got (i := i) h2 (by simpa using e)
      exact ⟨v, by simpa using q, r⟩
  | [], _, i, _, h, e => by cases h; simp at e
theorem RepAll.append : ∀ {ds es : List PyData} {vs ws : List V}, RepAll K S H vs ds → RepAll K S H ws es → RepAll K S H (vs ++ ws) (ds ++ es)
  | [], _, _, _, h, h' => by cases h; exact h'
  | d :: ds, _, _, _, h, h' => by
    cases h with
    | cons h1 h2 => exact .cons h1 (RepAll.append h2 h')
theorem RepAll.take (n : Nat) : ∀ {ds : List PyData} {vs : List V}, RepAll K S H vs ds → RepAll K S H (vs.take n) (ds.take n) := by
  induction n with
  | zero => intro _ _ _; simp; exact .nil
  | succ n ih =>
    intro ds vs h
    cases h with
    | nil => exact .nil
    | cons h1 h2 => exact .cons h1 (ih h2)
theorem RepAll.drop (n : Nat) : ∀ {ds : List PyData} {vs : List V}, RepAll K S H vs ds → RepAll K S H (vs.drop n) (ds.drop n) := by
  induction n with
  | zero => intro _ _ h; exact h
  | succ n ih =>
    intro ds vs h
    cases h with
    | nil => exact .nil
    | cons h1 h2 => exact ih h2
theorem RepAll.ints : ∀ {ns : List Int} {vs : List V}, RepAll K S H vs (ns.map PyData.int) → vs = ns.map V.int
  | [], _, h => by cases h; rfl
  | n :: ns, _, h => by
    cases h with
    | cons h1 h2 => cases h1; rw [RepAll.ints h2]; rfl
theorem RepAll.of_ints : ∀ (ns : List Int), RepAll K S H (ns.map V.int) (ns.map PyData.int)
  | [] => .nil
  | n :: ns => .cons (.int n) (RepAll.of_ints ns)
theorem RepAll.of_get : ∀ {ds : List PyData} {vs : List V}, vs.length = ds.length → (∀ (i : Nat) (v : V) (d : PyData), vs[i]? = some v → ds[i]? = some d → Rep K S H v d) → RepAll K S H vs ds
  | [], [], _, _ => .nil
  | d :: ds, v :: vs, e, h => .cons (h 0 v d rfl rfl) (RepAll.of_get (by simpa using e) fun i v d h1 h2 => h (i + 1) v d (by simpa using h1) (by simpa using h2))
  | [], _ :: _, e, _ => by simp at e
  | _ :: _, [], e, _ => by simp at e
end
end Dl

namespace Dl
open PySem PySem.Spec PyProof.Rows L2

/-- what stands, and is no tuple -/
def Lv (H : Hp) (b : Addr) : Prop := ∃ o, H b = some o ∧ ∀ xs, o ≠ .tup xs
theorem Lv.ne {H : Hp} {b : Addr} (h : Lv H b) : H b ≠ none := by obtain ⟨o, e, _⟩ := h; rw [e]; exact fun z => nomatch z
theorem lv_lst {H : Hp} {b : Addr} {xs : List V} (h : H b = some (.lst xs)) : Lv H b := ⟨_, h, fun _ z => nomatch z⟩
theorem lv_dK {H : Hp} {b : Addr} {xs : List (Key × V)} (h : H b = some (.dK xs)) : Lv H b := ⟨_, h, fun _ z => nomatch z⟩
theorem lv_ext {H : Hp} {b : Addr} {φ : Heap → Prop} (h : H b = some (.ext φ)) : Lv H b := ⟨_, h, fun _ z => nomatch z⟩
theorem Lv.keep {H H' : Hp} {b : Addr} (h : Lv H b) (k : ∀ o, H b = some o → H' b = some o) : Lv H' b := by obtain ⟨o, e, n⟩ := h; exact ⟨o, k o e, n⟩

/-! ### the frame of a run: K the written part; S what data avoid; M what calls may change; H0 the heap at the entry; G what is known of M, with k draws left -/
structure Fm where
  K : PySem.W.Frag
  S : Addr → Prop
  M : Addr → Prop
  H0 : Hp
  G : Nat → Hp → Prop
  ms : ∀ b, M b → S b
  gm : ∀ k H H', G k H → (∀ b, M b → H' b = H b) → (∀ b o, (IsX o ∨ ∃ xs, o = .tup xs) → H b = some o → H' b = some o) → G k H'
  gl : ∀ k H, G k H → ∀ b, M b → H b ≠ none
  X : HO → Prop := fun _ => False
  xi : ∀ o, X o → IsX o := by exact fun _ h => h.elim
  xa : ∀ k H, G k H → ∀ b o, ¬ M b → X o → H0 b = some o → ∃ o', IsX o' ∧ H b = some o' := by exact fun _ _ _ _ _ _ h => h.elim
def Fm.Mx (F : Fm) (b : Addr) (o : HO) : Prop := F.M b ∨ F.X o
def Fm.Sx (F : Fm) (b : Addr) (o : HO) : Prop := F.S b ∨ F.X o
theorem Fm.mx {F : Fm} {b : Addr} {o : HO} (h : ¬ F.M b) (x : ¬ IsX o) : ¬ F.Mx b o := fun z => z.elim h fun y => x (F.xi _ y)
theorem Fm.sxA {F : Fm} {b : Addr} {o : HO} (h : ¬ F.S b) (x : ¬ IsX o := by first | exact nx_lst | exact nx_tup | exact nx_dK | exact nx_set) : ¬ F.Sx b o := fun z => z.elim h fun y => x (F.xi _ y)
theorem Fm.mxA {F : Fm} {b : Addr} {o : HO} (h : ¬ F.M b) (x : ¬ IsX o := by first | exact nx_lst | exact nx_tup | exact nx_dK | exact nx_set) : ¬ F.Mx b o := fun z => z.elim h fun y => x (F.xi _ y)
theorem lv_new {H : Hp} {p : Addr} {o : HO} (h : ∀ xs, o ≠ .tup xs) : Lv (upd H p o) p := ⟨o, upd_same, h⟩
theorem Fm.mxL {F : Fm} {b : Addr} {xs : List V} (h : ¬ F.M b) : ¬ F.Mx b (.lst xs) := Fm.mx h nx_lst
structure J (F : Fm) (k : Nat) (H : Hp) : Prop where
  g : F.G k H
  le : ∀ b o, ¬ F.Mx b o → F.H0 b = some o → H b = some o
  al : ∀ b, F.S b → Lv H b
def Le (F : Fm) (H H' : Hp) : Prop := ∀ b o, ¬ F.Mx b o → H b = some o → H' b = some o
def Lz (F : Fm) (H H' : Hp) : Prop := ∀ b o, ¬ F.Sx b o → H b = some o → H' b = some o
abbrev Rp (F : Fm) (H : Hp) (v : V) (d : PyData) : Prop := Rep F.K F.S H v d
abbrev RpAll (F : Fm) (H : Hp) (vs : List V) (ds : List PyData) : Prop := RepAll F.K F.S H vs ds
section
variable {F : Fm} {H H1 H2 : Hp} {k : Nat}
theorem Le.refl : Le F H H := fun _ _ _ h => h
theorem Le.trans (a : Le F H H1) (b : Le F H1 H2) : Le F H H2 := fun x o n h => b x o n (a x o n h)
theorem Lz.refl : Lz F H H := fun _ _ _ h => h
theorem Lz.trans (a : Lz F H H1) (b : Lz F H1 H2) : Lz F H H2 := fun x o n h => b x o n (a x o n h)
theorem Le.lz (a : Le F H H1) : Lz F H H1 := fun b o n h => a b o (fun z => n (z.imp (F.ms b) id)) h
theorem Le.new {p : Addr} {o : HO} (hp : H p = none) : Le F H (upd H p o) := fun b u _ e => by
  rw [upd_ne (ne_of_none e hp)]; exact e
theorem Rep.le {v : V} {d : PyData} (r : Rp F H v d) (a : Lz F H H1) : Rp F H1 v d := Rep.keepX (fun b o n hp e => a b o (fun z => z.elim n fun y => hp (F.xi _ y)) e) (fun _ _ z => z) d v r
theorem RepAll.le {v : List V} {d : List PyData} (r : RpAll F H v d) (a : Lz F H H1) : RpAll F H1 v d := RepAll.keepX (fun b o n hp e => a b o (fun z => z.elim n fun y => hp (F.xi _ y)) e) (fun _ _ z => z) d v r
theorem J.new {p : Addr} {o : HO} (j : J F k H) (hp : H p = none) : J F k (upd H p o) where
  g := F.gm k H _ j.g (fun b hb => upd_ne fun e => F.gl k H j.g b hb (e ▸ hp)) fun b u _ e => by rw [upd_ne (ne_of_none e hp)]; exact e
  le := fun b u hb e => by
    have q := j.le b u hb e
    rw [upd_ne (ne_of_none q hp)]; exact q
  al := fun b hb => (j.al b hb).keep fun u e => by rw [upd_ne (ne_of_none e hp)]; exact e
theorem J.h0 {p : Addr} (j : J F k H) (hm : ¬ F.M p) (hp : H p = none) : F.H0 p = none := by
  cases e : F.H0 p with
  | none => rfl
  | some u =>
    by_cases x : F.X u
    · obtain ⟨o', _, q⟩ := F.xa k H j.g p u hm x e
      rw [hp] at q; cases q
    · rw [j.le p u (fun z => z.elim hm x) e] at hp; cases hp
theorem J.fresh {p : Addr} (j : J F k H) (hp : H p = none) : ¬ F.S p := fun z => (j.al p z).ne hp
/-- what is neither a tuple nor known to its owner alone -/
def Pl (H : Hp) (p : Addr) : Prop := ∀ u, H p = some u → ¬ (IsX u ∨ ∃ xs, u = .tup xs)
theorem pl_lst {H : Hp} {p : Addr} {xs : List V} (h : H p = some (.lst xs)) : Pl H p := fun u e => by
  rw [h] at e; cases e; exact fun z => z.elim nx_lst fun ⟨_, q⟩ => nomatch q
theorem pl_set {H : Hp} {p : Addr} {w : World} {D : Addr} {S : Int → Bool} {c : Nat} (h : H p = some (SetO w D S c)) : Pl H p := fun u e => by
  rw [h] at e; cases e; exact fun z => z.elim nx_set fun ⟨_, q⟩ => nomatch q
theorem pl_dK {H : Hp} {p : Addr} {xs : List (Key × V)} (h : H p = some (.dK xs)) : Pl H p := fun u e => by
  rw [h] at e; cases e; exact fun z => z.elim nx_dK fun ⟨_, q⟩ => nomatch q
theorem J.own {p : Addr} {o : HO} (j : J F k H) (hm : ¬ F.M p) (h0 : F.H0 p = none) (hp : Pl H p) (ho : ∀ xs, o ≠ .tup xs := by exact fun _ z => nomatch z) : J F k (upd H p o) where
  g := F.gm k H _ j.g (fun b hb => upd_ne fun e => hm (e ▸ hb)) fun b u hu e => by
    rw [upd_ne (show b ≠ p from fun z => hp u (z ▸ e) hu)]; exact e
  le := fun b u hb e => by
    rw [upd_ne (ne_of_none e h0)]; exact j.le b u hb e
  al := fun b hb => by
    by_cases e : b = p
    · rw [e]; exact ⟨o, upd_same, ho⟩
    · exact (j.al b hb).keep fun u q => by rw [upd_ne e]; exact q
theorem rep_newL {p : Addr} {vs : List V} {ds : List PyData} (j : J F k H) (hp : H p = none) (r : RpAll F H vs ds) : Rp F (upd H p (.lst vs)) (.ref p) (.list ds) :=
  .lst ⟨upd_same, j.fresh hp⟩ (r.le (Le.new hp).lz)
theorem rep_newT {p : Addr} {vs : List V} {ds : List PyData} (j : J F k H) (hp : H p = none) (r : RpAll F H vs ds) : Rp F (upd H p (.tup vs)) (.ref p) (.tuple ds) :=
  .tup ⟨upd_same, j.fresh hp⟩ (r.le (Le.new hp).lz)
end

/-! ### slots -/
inductive SV where
  | un
  | d (x : PyData)
  | raw (v : V)
  | own (o : Addr) (xs : List PyData)
def SlotOk (F : Fm) (H : Hp) : SV → Option V → Prop
  | .un, _ => True
  | .d d, x => ∃ v, x = some v ∧ Rp F H v d
  | .raw v, x => x = some v
  | .own o xs, x => x = some (.ref o) ∧ F.S o ∧ ¬ F.M o ∧ F.H0 o = none ∧ ∃ vs, H o = some (.lst vs) ∧ RpAll F H vs xs
abbrev Rho := List SV
def EnvOk (F : Fm) (H : Hp) (σ : L2.St) (ρ : Rho) : Prop := ∀ (i : Nat) (sv : SV), ρ[i]? = some sv → ∃ x, σ[i]? = some x ∧ SlotOk F H sv x
section
variable {F : Fm} {H H1 H2 : Hp} {k : Nat} {σ : L2.St} {ρ : Rho}
theorem SlotOk.le {sv : SV} {x : Option V} (h : SlotOk F H sv x) (a : Le F H H1) : SlotOk F H1 sv x := by
  cases sv with
  | un => trivial
  | d d => obtain ⟨v, e, r⟩ := h; exact ⟨v, e, r.le a.lz⟩
  | raw v => exact h
  | own o xs =>
    obtain ⟨e, s, m, z, vs, h1, r⟩ := h
    exact ⟨e, s, m, z, vs, a o _ (Fm.mxL m) h1, r.le a.lz⟩
theorem EnvOk.le (h : EnvOk F H σ ρ) (a : Le F H H1) : EnvOk F H1 σ ρ := fun i sv e => by
  obtain ⟨x, q, r⟩ := h i sv e
  exact ⟨x, q, r.le a⟩
theorem EnvOk.set {i : Nat} {sv : SV} {x : Option V} (h : EnvOk F H σ ρ) (s : SlotOk F H sv x) : EnvOk F H (σ.set i x) (ρ.set i sv) := fun j tv e => by
  by_cases hj : i = j
  · subst hj
    by_cases hl : i < ρ.length
    · rw [List.getElem?_set_self hl] at e
      cases e
      obtain ⟨y, q, _⟩ := h i _ (List.getElem?_eq_getElem hl)
      obtain ⟨hl', _⟩ := List.getElem?_eq_some_iff.mp q
      exact ⟨x, List.getElem?_set_self hl', s⟩
    · rw [List.getElem?_eq_none (by simpa using hl)] at e; cases e
  · rw [List.getElem?_set_ne hj] at e
    obtain ⟨y, q, r⟩ := h j tv e
    exact ⟨y, by rw [List.getElem?_set_ne hj]; exact q, r⟩
theorem EnvOk.d {i : Nat} {d : PyData} (h : EnvOk F H σ ρ) (e : ρ[i]? = some (.d d)) : ∃ v, σ[i]? = some (some v) ∧ Rp F H v d := by
  obtain ⟨x, q, v, rfl, r⟩ := h i _ e
  exact ⟨v, q, r⟩
theorem EnvOk.raw {i : Nat} {v : V} (h : EnvOk F H σ ρ) (e : ρ[i]? = some (.raw v)) : σ[i]? = some (some v) := by
  obtain ⟨x, q, r⟩ := h i _ e
  rw [q, show x = some v from r]
end

/-! ### runs of readings on data -/
def WE (F : Fm) (t : TE) (ρ : Rho) (k : Nat) (Φ : Nat → PyData → Prop) : Prop :=
  ∀ (σ : L2.St) (H : Hp) (Q : VK), EnvOk F H σ ρ → J F k H → (∀ v d k' H', Le F H H' → J F k' H' → Rp F H' v d → Φ k' d → Q v H') → t σ H Q
def WA (F : Fm) (t : TA) (ρ : Rho) (k : Nat) (Φ : Nat → List PyData → Prop) : Prop :=
  ∀ (σ : L2.St) (H : Hp) (Q : List V → Hp → Prop), EnvOk F H σ ρ → J F k H → (∀ vs ds k' H', Le F H H' → J F k' H' → RpAll F H' vs ds → Φ k' ds → Q vs H') → t σ H Q
def WT (F : Fm) (t : TT) (ρ : Rho) (k : Nat) (Φ : Nat → Bool → Prop) : Prop :=
  ∀ (σ : L2.St) (H : Hp) (Q : Bool → Hp → Prop), EnvOk F H σ ρ → J F k H → (∀ b k' H', Le F H H' → J F k' H' → Φ k' b → Q b H') → t σ H Q
structure DE where
  nx : Nat → Rho → Prop
  rt : Nat → PyData → Prop
  bk : Nat → Rho → Prop
  ct : Nat → Rho → Prop
def WS (F : Fm) (t : TS) (ρ : Rho) (k : Nat) (P : DE) : Prop :=
  ∀ (σ : L2.St) (H : Hp) (E : Ends), EnvOk F H σ ρ → J F k H →
    (∀ ρ' σ' k' H', Lz F H H' → EnvOk F H' σ' ρ' → J F k' H' → P.nx k' ρ' → E.nx σ' H') →
    (∀ v d k' H', J F k' H' → Rp F H' v d → P.rt k' d → E.rt v H') →
    (∀ ρ' σ' k' H', Lz F H H' → EnvOk F H' σ' ρ' → J F k' H' → P.bk k' ρ' → E.bk σ' H') →
    (∀ ρ' σ' k' H', Lz F H H' → EnvOk F H' σ' ρ' → J F k' H' → P.ct k' ρ' → E.ct σ' H') → t E σ H
/-- an operation on two data; on a list of data -/
def RD (F : Fm) (r : R2) (x y : PyData) (k : Nat) (Φ : Nat → PyData → Prop) : Prop :=
  ∀ (H : Hp) (vx vy : V) (Q : VK), J F k H → Rp F H vx x → Rp F H vy y → (∀ v d k' H', Le F H H' → J F k' H' → Rp F H' v d → Φ k' d → Q v H') → r vx vy H Q
def RA (F : Fm) (r : List V → Hp → VK → Prop) (ds : List PyData) (k : Nat) (Φ : Nat → PyData → Prop) : Prop :=
  ∀ (H : Hp) (vs : List V) (Q : VK), J F k H → RpAll F H vs ds → (∀ v d k' H', Le F H H' → J F k' H' → Rp F H' v d → Φ k' d → Q v H') → r vs H Q

/-! ### where the text stands -/
structure Cs where
  P : Program
  w : World
  K : PySem.W.Frag
  mg : Str → Option Value
  base : Heap
  N : List Str
  sc : Scope
  fn : Str → Bool
  lvl : Nat
structure Fits (C : Cs) (X : Cx) : Prop where
  P : X.prog = C.P
  w : X.w = C.w
  K : X.K = C.K
  mg : X.mg = C.mg
  base : X.base = C.base
  N : X.N = C.N
  sc : X.env.scope = C.sc
  fn : X.fn = C.fn
  calm : X.calm = true
  room : Room C.lvl X.A
  xe : X.xe = fun _ _ => False
  gd : X.A.guards = some []
abbrev Cs.blk (C : Cs) (scope : Scope) : Cs := { C with sc := relS scope C.sc, fn := fun x => scope.names.lookup x == some .cell }
theorem Fits.blk {C : Cs} {X : Cx} (f : Fits C X) (s : Shared) (H : Hp) (scope : Scope) (a : Addr) (cl : List (Str × Addr)) (fp : List Addr) : Fits (C.blk scope) (X.blk s H scope (compEnvC scope cl a X.env) fp) :=
  ⟨f.P, f.w, f.K, f.mg, f.base, f.N, by show relS scope X.env.scope = _; rw [f.sc], rfl, f.calm, f.room, rfl, f.gd⟩

/-- the widest readings -/
def tE (C : Cs) (e : Expr) : TE := fun σ H Q => ∀ X, Fits C X → ∀ pins s, Inv X pins σ H s → wpAny (model X.prog X.w) X.A (eval e X.env) (EP X pins σ Q) X.xe s
def tT (C : Cs) (e : Expr) : TT := fun σ H Q => ∀ X, Fits C X → ∀ pins s, Inv X pins σ H s → wpAny (model X.prog X.w) X.A (isTrue e X.env (eval e X.env)) (TP X pins σ Q) X.xe s
def tW (C : Cs) (e : Expr) : TT := fun σ H Q => ∀ X, Fits C X → ∀ (whole : Sem Value) pins s, Inv X pins σ H s → wpAny (model X.prog X.w) X.A (isTrue e X.env whole) (TP X pins σ Q) X.xe s
def tA (C : Cs) (es : List Expr) : TA := fun σ H Q => ∀ X, Fits C X → ∀ (pos : Pos) pins s, Inv X pins σ H s → wpAny (model X.prog X.w) X.A (spliced (backTo pos (starEach es X.env))) (AP X pins σ Q) X.xe s
def tS (C : Cs) (st : Stmt) : TS := fun D σ H => ∀ X, Fits C X → ∀ pins s, Inv X pins σ H s → wpAny (model X.prog X.w) X.A (exec st X.env) (SP X pins D) X.xe s
def tB (C : Cs) (st : List Stmt) : TS := fun D σ H => ∀ X, Fits C X → ∀ pins s, Inv X pins σ H s → wpAny (model X.prog X.w) X.A (execs st X.env) (SP X pins D) X.xe s
section
variable {C : Cs} {X : Cx}
theorem peE (f : Fits C X) {e : Expr} : PE X e (tE C e) := ⟨fun pins s σ H Q I h => h X f pins s I⟩
theorem ptT (f : Fits C X) {e : Expr} : PT X e (tT C e) := ⟨fun pins s σ H Q I h => h X f pins s I⟩
theorem pwW (f : Fits C X) {e : Expr} : PW X e (tW C e) := ⟨fun wh pins s σ H Q I h => h X f wh pins s I⟩
theorem paA (f : Fits C X) {es : List Expr} : PA X es (tA C es) := ⟨fun pos pins s σ H Q I h => h X f pos pins s I⟩
theorem psS (f : Fits C X) {st : Stmt} : PS X st (tS C st) := ⟨fun pins s σ H D I h => h X f pins s I⟩
theorem pbB (f : Fits C X) {st : List Stmt} : PSs X st (tB C st) := ⟨fun pins s σ H D I h => h X f pins s I⟩
end
abbrev WPE (F : Fm) (C : Cs) (e : Expr) (ρ : Rho) (k : Nat) (Φ : Nat → PyData → Prop) : Prop := WE F (tE C e) ρ k Φ
abbrev WPT (F : Fm) (C : Cs) (e : Expr) (ρ : Rho) (k : Nat) (Φ : Nat → Bool → Prop) : Prop := WT F (tT C e) ρ k Φ
abbrev WPW (F : Fm) (C : Cs) (e : Expr) (ρ : Rho) (k : Nat) (Φ : Nat → Bool → Prop) : Prop := WT F (tW C e) ρ k Φ
abbrev WPA (F : Fm) (C : Cs) (es : List Expr) (ρ : Rho) (k : Nat) (Φ : Nat → List PyData → Prop) : Prop := WA F (tA C es) ρ k Φ
abbrev WPS (F : Fm) (C : Cs) (st : Stmt) (ρ : Rho) (k : Nat) (P : DE) : Prop := WS F (tS C st) ρ k P
abbrev WPB (F : Fm) (C : Cs) (st : List Stmt) (ρ : Rho) (k : Nat) (P : DE) : Prop := WS F (tB C st) ρ k P

section
variable {F : Fm} {C : Cs} {ρ : Rho} {k : Nat} {Φ Φ' : Nat → PyData → Prop} {Ψ Ψ' : Nat → Bool → Prop} {e a b : Expr} {es : List Expr} {pos : Pos} {P : DE}
theorem of_pe {t : TE} (h : ∀ X, Fits C X → PE X e t) (hw : WE F t ρ k Φ) : WPE F C e ρ k Φ := fun σ H Q en j q X fx pins s I => (h X fx).run pins s σ H Q I (hw σ H Q en j q)
theorem of_pt {t : TT} (h : ∀ X, Fits C X → PT X e t) (hw : WT F t ρ k Ψ) : WPT F C e ρ k Ψ := fun σ H Q en j q X fx pins s I => (h X fx).run pins s σ H Q I (hw σ H Q en j q)
theorem of_pw {t : TT} (h : ∀ X, Fits C X → PW X e t) (hw : WT F t ρ k Ψ) : WPW F C e ρ k Ψ := fun σ H Q en j q X fx wh pins s I => (h X fx).run wh pins s σ H Q I (hw σ H Q en j q)
theorem of_pa {t : TA} {Φ : Nat → List PyData → Prop} (h : ∀ X, Fits C X → PA X es t) (hw : WA F t ρ k Φ) : WPA F C es ρ k Φ := fun σ H Q en j q X fx pos pins s I => (h X fx).run pos pins s σ H Q I (hw σ H Q en j q)
theorem of_ps {t : TS} {st : Stmt} (h : ∀ X, Fits C X → PS X st t) (hw : WS F t ρ k P) : WPS F C st ρ k P := fun σ H E en j q1 q2 q3 q4 X fx pins s I => (h X fx).run pins s σ H E I (hw σ H E en j q1 q2 q3 q4)
theorem of_pb {t : TS} {st : List Stmt} (h : ∀ X, Fits C X → PSs X st t) (hw : WS F t ρ k P) : WPB F C st ρ k P := fun σ H E en j q1 q2 q3 q4 X fx pins s I => (h X fx).run pins s σ H E I (hw σ H E en j q1 q2 q3 q4)
theorem WE.imp {t : TE} (h : WE F t ρ k Φ) (i : ∀ k' d, Φ k' d → Φ' k' d) : WE F t ρ k Φ' := fun σ H Q en j q => h σ H Q en j fun v d k' H' l j' r p => q v d k' H' l j' r (i k' d p)
theorem WT.imp {t : TT} (h : WT F t ρ k Ψ) (i : ∀ k' d, Ψ k' d → Ψ' k' d) : WT F t ρ k Ψ' := fun σ H Q en j q => h σ H Q en j fun b k' H' l j' p => q b k' H' l j' (i k' b p)

/-! ### names and constants -/
theorem we_name (i : Nat) {x : Str} {d : PyData} (hN : C.N[i]? = some x) (hv : Vis C.sc x) (hr : ρ[i]? = some (.d d)) (h : Φ k d) (hd : (x == ("__debug__" : Str)) = false := by decide) (hcd : (x == ("__classdict__" : Str)) = false := by decide) : WPE F C (.Name x pos) ρ k Φ :=
  of_pe (t := tVar i) (fun X fx => pe_var (by rw [fx.N]; exact hN) (by rw [fx.sc]; exact hv) hd hcd) fun σ H Q en j q => by
    obtain ⟨v, e, r⟩ := en.d hr
    exact ⟨v, e, q v d k H .refl j r h⟩
theorem we_int {i : Int} {jj : Nat} (h : Φ k (.int i)) : WPE F C (.Constant (.int i) jj pos) ρ k Φ := of_pe (fun X _ => pe_int) fun σ H Q en j q => q _ _ k H .refl j (.int i) h
theorem we_bl {i : Bool} {jj : Nat} (h : Φ k (.bool i)) : WPE F C (.Constant (.bool i) jj pos) ρ k Φ := of_pe (fun X _ => pe_bl) fun σ H Q en j q => q _ _ k H .refl j (.bl i) h
theorem we_str {i : Str} {jj : Nat} (h : Φ k (.str i)) : WPE F C (.Constant (.str i) jj pos) ρ k Φ := of_pe (fun X _ => pe_str) fun σ H Q en j q => q _ _ k H .refl j (.str i) h
theorem we_non {jj : Nat} (h : Φ k .none) : WPE F C (.Constant .none jj pos) ρ k Φ := of_pe (fun X _ => pe_non) fun σ H Q en j q => q _ _ k H .refl j .non h
theorem we_gint {x : Str} {n : Int} {t : Tok} (hg : C.sc.names.lookup x = some .globalImplicit) (hm : C.mg x = some (.int n t)) (h : Φ k (.int n)) (hd : (x == ("__debug__" : Str)) = false := by decide) : WPE F C (.Name x pos) ρ k Φ :=
  of_pe (fun X fx => pe_glob (v := .int n) (u := .int n t) (by show X.env.scope.names.lookup x = _; rw [fx.sc]; exact hg) (by rw [fx.mg]; exact hm) ⟨t, rfl⟩ hd) fun σ H Q en j q => q _ _ k H .refl j (.int n) h

/-! ### operations -/
theorem we_op {r : R2} {ta tb : TE} (h : WE F ta ρ k fun k1 x => WE F tb ρ k1 fun k2 y => RD F r x y k2 Φ) : WE F (tOp r ta tb) ρ k Φ := fun σ H Q en j q =>
  h σ H _ en j fun vx x k1 H1 l1 j1 r1 hx => hx σ H1 _ (en.le l1) j1 fun vy y k2 H2 l2 j2 r2 hy => hy H2 vx vy Q j2 (r1.le l2.lz) r2 fun v d k' H' l' j' r' p => q v d k' H' ((l1.trans l2).trans l') j' r' p
theorem we_bin {op : Operator} {r : R2} (ho : ∀ X, Fits C X → OpR X (binaryOp op) r) (h : WPE F C a ρ k fun k1 x => WPE F C b ρ k1 fun k2 y => RD F r x y k2 Φ) : WPE F C (.BinOp a op b pos) ρ k Φ :=
  of_pe (fun X fx => pe_op (ho X fx) (peE fx) (peE fx)) (we_op h)
theorem we_cmp {op : CmpOp} {r : R2} (ho : ∀ X, Fits C X → OpR X (compareOp op) r) (hm : behindInMarks op b = false) (h : WPE F C a ρ k fun k1 x => WPE F C b ρ k1 fun k2 y => RD F r x y k2 Φ) : WPE F C (.Compare a [op] [b] pos) ρ k Φ :=
  of_pe (fun X fx => pe_cmpR (ho X fx) (peE fx) (peE fx) hm) (we_op h)
theorem wt_test {t : TE} (h : WE F t ρ k fun k1 d => ∃ b, d = .bool b ∧ Ψ k1 b) : WT F (tTest t) ρ k Ψ := fun σ H Q en j q => h σ H _ en j fun v d k' H' l j' r ⟨b, e, p⟩ => by
  subst e; cases r; exact ⟨b, rfl, q b k' H' l j' p⟩
theorem wt_cmp {op : CmpOp} {r : R2} (ho : ∀ X, Fits C X → OpR X (compareOp op) r) (hm : behindInMarks op b = false) (h : WPE F C a ρ k fun k1 x => WPE F C b ρ k1 fun k2 y => RD F r x y k2 fun k3 d => ∃ b, d = .bool b ∧ Ψ k3 b) : WPT F C (.Compare a [op] [b] pos) ρ k Ψ :=
  of_pt (fun X fx => pt_cmpR (ho X fx) (peE fx) (peE fx) hm) (wt_test (we_op h))
/-- an expression whose value is a bool, as a test -/
theorem wt_val (he : ∀ (env : Env) (whole : Sem Value), isTrue e env whole = (do let v ← whole; standAt e.pos; holding [v] (truthy v))) (h : WPE F C e ρ k fun k1 d => ∃ b, d = .bool b ∧ Ψ k1 b) : WPT F C e ρ k Ψ :=
  of_pt (fun X fx => pt_val (peE fx) (he X.env)) fun σ H Q en j q => h σ H _ en j fun v d k' H' l j' r ⟨b, e, p⟩ => by
    subst e; cases r; exact ⟨b, rfl, q b k' H' l j' p⟩
theorem wt_not (h : WPT F C a ρ k fun k1 b => Ψ k1 (!b)) : WPT F C (.UnaryOp .Not a pos) ρ k Ψ :=
  of_pt (fun X fx => pt_not (ptT fx)) fun σ H Q en j q => h σ H _ en j fun b k' H' l j' p => q (!b) k' H' l j' p
theorem we_not (h : WPE F C a ρ k fun k1 d => ∃ b, d = .bool b ∧ Φ k1 (.bool (!b))) : WPE F C (.UnaryOp .Not a pos) ρ k Φ :=
  of_pe (fun X fx => pe_not (peE fx)) fun σ H Q en j q => h σ H _ en j fun v d k' H' l j' r ⟨b, e, p⟩ => by
    subst e; cases r; exact ⟨b, rfl, q _ _ k' H' l j' (.bl _) p⟩
/-- and, or as tests -/
theorem ww_and {rest : List Expr} (h : WPT F C a ρ k fun k1 c => if c = true then WPW F C (.BoolOp .And (b :: rest) pos) ρ k1 Ψ else Ψ k1 false) : WPW F C (.BoolOp .And (a :: b :: rest) pos) ρ k Ψ :=
  of_pw (fun X fx => pw_and (ptT fx) (pwW fx)) fun σ H Q en j q => h σ H _ en j fun c k1 H1 l1 j1 p => by
    cases c with
    | true => exact p σ H1 Q (en.le l1) j1 fun b k' H' l j' p' => q b k' H' (l1.trans l) j' p'
    | false => exact q false k1 H1 l1 j1 p
theorem ww_or {rest : List Expr} (h : WPT F C a ρ k fun k1 c => if c = true then Ψ k1 true else WPW F C (.BoolOp .Or (b :: rest) pos) ρ k1 Ψ) : WPW F C (.BoolOp .Or (a :: b :: rest) pos) ρ k Ψ :=
  of_pw (fun X fx => pw_or (ptT fx) (pwW fx)) fun σ H Q en j q => h σ H _ en j fun c k1 H1 l1 j1 p => by
    cases c with
    | false => exact p σ H1 Q (en.le l1) j1 fun b k' H' l j' p' => q b k' H' (l1.trans l) j' p'
    | true => exact q true k1 H1 l1 j1 p
theorem ww_and1 (h : WPT F C a ρ k Ψ) : WPW F C (.BoolOp .And [a] pos) ρ k Ψ := of_pw (fun X fx => pw_and1 (ptT fx)) h
theorem ww_or1 (h : WPT F C a ρ k Ψ) : WPW F C (.BoolOp .Or [a] pos) ρ k Ψ := of_pw (fun X fx => pw_or1 (ptT fx)) h
theorem wt_bool {op : BoolOp} {es : List Expr} (h : WPW F C (.BoolOp op es pos) ρ k Ψ) : WPT F C (.BoolOp op es pos) ρ k Ψ := of_pt (fun X fx => (pwW fx).pt) h
/-- .. as values -/
theorem we_and {rest : List Expr} (h : WPE F C a ρ k fun k1 d => ∃ c, d = .bool c ∧ if c = true then WPE F C (.BoolOp .And (b :: rest) pos) ρ k1 Φ else Φ k1 (.bool false)) : WPE F C (.BoolOp .And (a :: b :: rest) pos) ρ k Φ :=
  of_pe (fun X fx => pe_and (peE fx) (peE fx)) fun σ H Q en j q => h σ H _ en j fun v d k1 H1 l1 j1 r ⟨c, e, p⟩ => by
    subst e; cases r
    refine ⟨c, rfl, ?_⟩
    cases c with
    | true => exact p σ H1 Q (en.le l1) j1 fun v d k' H' l j' r' p' => q v d k' H' (l1.trans l) j' r' p'
    | false => exact q _ _ k1 H1 l1 j1 (.bl false) p
theorem we_or {rest : List Expr} (h : WPE F C a ρ k fun k1 d => ∃ c, d = .bool c ∧ if c = true then Φ k1 (.bool true) else WPE F C (.BoolOp .Or (b :: rest) pos) ρ k1 Φ) : WPE F C (.BoolOp .Or (a :: b :: rest) pos) ρ k Φ :=
  of_pe (fun X fx => pe_or (peE fx) (peE fx)) fun σ H Q en j q => h σ H _ en j fun v d k1 H1 l1 j1 r ⟨c, e, p⟩ => by
    subst e; cases r
    refine ⟨c, rfl, ?_⟩
    cases c with
    | false => exact p σ H1 Q (en.le l1) j1 fun v d k' H' l j' r' p' => q v d k' H' (l1.trans l) j' r' p'
    | true => exact q _ _ k1 H1 l1 j1 (.bl true) p
theorem we_one {op : BoolOp} (h : WPE F C a ρ k Φ) : WPE F C (.BoolOp op [a] pos) ρ k Φ := of_pe (fun X fx => pe_one (peE fx)) h
theorem we_ifExp {c : Expr} (h : WPT F C c ρ k fun k1 z => if z = true then WPE F C a ρ k1 Φ else WPE F C b ρ k1 Φ) : WPE F C (.IfExp c a b pos) ρ k Φ :=
  of_pe (fun X fx => pe_ifExp (ptT fx) (peE fx) (peE fx)) fun σ H Q en j q => h σ H _ en j fun c k1 H1 l1 j1 p => by
    cases c with
    | true => exact p σ H1 Q (en.le l1) j1 fun v d k' H' l j' r' p' => q v d k' H' (l1.trans l) j' r' p'
    | false => exact p σ H1 Q (en.le l1) j1 fun v d k' H' l j' r' p' => q v d k' H' (l1.trans l) j' r' p'
/-- arguments -/
theorem wa_nil {Φ : Nat → List PyData → Prop} (h : Φ k []) : WPA F C [] ρ k Φ := of_pa (fun X fx => pa_nil) fun σ H Q en j q => q [] [] k H .refl j .nil h
theorem wa_cons {Φ : Nat → List PyData → Prop} (hs : ∀ env : Env, starEach (e :: es) env = (false, eval e env) :: starEach es env) (h : WPE F C e ρ k fun k1 x => WPA F C es ρ k1 fun k2 xs => Φ k2 (x :: xs)) : WPA F C (e :: es) ρ k Φ :=
  of_pa (fun X fx => pa_cons (peE fx) (paA fx) (hs X.env)) fun σ H Q en j q => h σ H _ en j fun vx x k1 H1 l1 j1 r1 hx => hx σ H1 _ (en.le l1) j1 fun vs xs k2 H2 l2 j2 r2 hy =>
    q (vx :: vs) (x :: xs) k2 H2 (l1.trans l2) j2 (.cons (r1.le l2.lz) r2) hy
theorem we_tup {x1} (h : WPA F C es ρ k fun k1 ds => ds.length ≤ sizeLine ∧ Φ k1 (.tuple ds)) : WPE F C (.Tuple es x1 pos) ρ k Φ :=
  of_pe (fun X fx => pe_tup (paA fx)) fun σ H Q en j q => h σ H _ en j fun vs ds k1 H1 l1 j1 r1 ⟨hz, p⟩ => ⟨by rw [r1.length]; exact hz, fun p0 hp => q _ (.tuple ds) k1 _ (l1.trans (.new hp)) (j1.new hp) (rep_newT j1 hp r1) p⟩
theorem we_lst (h : WPA F C es ρ k fun k1 ds => ds.length ≤ sizeLine ∧ Φ k1 (.list ds)) : WPE F C (.List es pos) ρ k Φ :=
  of_pe (fun X fx => pe_lst (paA fx)) fun σ H Q en j q => h σ H _ en j fun vs ds k1 H1 l1 j1 r1 ⟨hz, p⟩ => ⟨by rw [r1.length]; exact hz, fun p0 hp => q _ (.list ds) k1 _ (l1.trans (.new hp)) (j1.new hp) (rep_newL j1 hp r1) p⟩
/-- a call of a built-in by its name -/
theorem we_cb {r : List V → Hp → VK → Prop} {ta : TA} (h : WA F ta ρ k fun k1 ds => RA F r ds k1 Φ) : WE F (tCB r ta) ρ k Φ := fun σ H Q en j q =>
  h σ H _ en j fun vs ds k1 H1 l1 j1 r1 p => p H1 vs Q j1 r1 fun v d k' H' l' j' r' p' => q v d k' H' (l1.trans l') j' r' p'
theorem we_callB {r : List V → Hp → VK → Prop} {x : Str} {id : String} {p : Pos} (hc : ∀ X, Fits C X → CallR X (.builtin id) r) (hg : C.sc.names.lookup x = some .globalImplicit) (hm : C.mg x = none) (hv : bootBuiltins x = some (.builtin id))
    (h : WPA F C (e :: es) ρ k fun k1 ds => RA F r ds k1 Φ) (hn : x ≠ "__name__" := by decide) (hdb : (x == ("__debug__" : Str)) = false := by decide) (hss : ∀ env : Env, starEach (e :: es) env = (false, eval e env) :: starEach es env := by intro _; rfl) (hpl : ∀ env : Env, ((backTo pos (starEach es env)).any fun x => x.fst) = false := by intro _; rfl) : WPE F C (.Call (.Name x p) (e :: es) [] pos) ρ k Φ :=
  of_pe (fun X fx => pe_callB (hc X fx) (by show X.env.scope.names.lookup x = _; rw [fx.sc]; exact hg) (by rw [fx.mg]; exact hm) hv (paA fx) hn hdb (hss X.env) (hpl X.env)) (we_cb h)
theorem we_callTy {r : List V → Hp → VK → Prop} {x : Str} {T : String} {p : Pos} (hc : ∀ X, Fits C X → CallR X (.type T) r) (hg : C.sc.names.lookup x = some .globalImplicit) (hm : C.mg x = none) (hv : bootBuiltins x = some (.type T))
    (h : WPA F C (e :: es) ρ k fun k1 ds => RA F r ds k1 Φ) (hn : x ≠ "__name__" := by decide) (hdb : (x == ("__debug__" : Str)) = false := by decide) (hss : ∀ env : Env, starEach (e :: es) env = (false, eval e env) :: starEach es env := by intro _; rfl) (hpl : ∀ env : Env, ((backTo pos (starEach es env)).any fun x => x.fst) = false := by intro _; rfl) : WPE F C (.Call (.Name x p) (e :: es) [] pos) ρ k Φ :=
  of_pe (fun X fx => pe_callTy (hc X fx) (by show X.env.scope.names.lookup x = _; rw [fx.sc]; exact hg) (by rw [fx.mg]; exact hm) hv (paA fx) hn hdb (hss X.env) (hpl X.env)) (we_cb h)
end
end Dl

namespace Dl
open PySem PySem.Spec PyProof.Rows L2

/-! ### statements -/
abbrev DE.seq (P : DE) (n : Nat → Rho → Prop) : DE := ⟨n, P.rt, P.bk, P.ct⟩
abbrev DE.loop (P : DE) (n : Nat → Rho → Prop) : DE := ⟨n, P.rt, P.nx, n⟩
section
variable {F : Fm} {C : Cs} {ρ : Rho} {k : Nat} {Φ Φ' : Nat → PyData → Prop} {Ψ Ψ' : Nat → Bool → Prop} {e a b : Expr} {es : List Expr} {pos : Pos} {P : DE}
theorem WS.imp {t : TS} {P' : DE} (h : WS F t ρ k P) (h1 : ∀ k ρ, P.nx k ρ → P'.nx k ρ) (h2 : ∀ k d, P.rt k d → P'.rt k d) (h3 : ∀ k ρ, P.bk k ρ → P'.bk k ρ) (h4 : ∀ k ρ, P.ct k ρ → P'.ct k ρ) : WS F t ρ k P' :=
  fun σ H E en j q1 q2 q3 q4 => h σ H E en j (fun ρ' σ' k' H' l e j' p => q1 ρ' σ' k' H' l e j' (h1 _ _ p)) (fun v d k' H' j' r p => q2 v d k' H' j' r (h2 _ _ p)) (fun ρ' σ' k' H' l e j' p => q3 ρ' σ' k' H' l e j' (h3 _ _ p)) (fun ρ' σ' k' H' l e j' p => q4 ρ' σ' k' H' l e j' (h4 _ _ p))
theorem wb_nil (h : P.nx k ρ) : WPB F C [] ρ k P := of_pb (fun X fx => pss_nil) fun σ H E en j q1 _ _ _ => q1 ρ σ k H .refl en j h
theorem wb_cons {st : Stmt} {rest : List Stmt} (h : WPS F C st ρ k (P.seq fun k1 ρ1 => WPB F C rest ρ1 k1 P)) : WPB F C (st :: rest) ρ k P :=
  of_pb (fun X fx => pss_cons (psS fx) (pbB fx)) fun σ H E en j q1 q2 q3 q4 =>
    h σ H { E with nx := tB C rest E } en j (fun ρ' σ' k' H' l en' j' p => p σ' H' E en' j' (fun ρ2 σ2 k2 H2 l2 => q1 ρ2 σ2 k2 H2 (l.trans l2)) q2 (fun ρ2 σ2 k2 H2 l2 => q3 ρ2 σ2 k2 H2 (l.trans l2)) (fun ρ2 σ2 k2 H2 l2 => q4 ρ2 σ2 k2 H2 (l.trans l2))) q2 q3 q4
theorem ws_pass (h : P.nx k ρ) : WPS F C (.Pass pos) ρ k P := of_ps (fun X fx => ps_pass) fun σ H E en j q1 _ _ _ => q1 ρ σ k H .refl en j h
theorem ws_break (h : P.bk k ρ) : WPS F C (.Break pos) ρ k P := of_ps (fun X fx => ps_break) fun σ H E en j _ _ q3 _ => q3 ρ σ k H .refl en j h
theorem ws_continue (h : P.ct k ρ) : WPS F C (.Continue pos) ρ k P := of_ps (fun X fx => ps_continue) fun σ H E en j _ _ _ q4 => q4 ρ σ k H .refl en j h
theorem ws_ret (h : WPE F C e ρ k P.rt) : WPS F C (.Return (some e) pos) ρ k P := of_ps (fun X fx => ps_ret (peE fx)) fun σ H E en j _ q2 _ _ => h σ H _ en j fun v d k' H' _ j' r p => q2 v d k' H' j' r p
theorem ws_retN (h : P.rt k .none) : WPS F C (.Return none pos) ρ k P := of_ps (fun X fx => ps_retN) fun σ H E en j _ q2 _ _ => q2 _ _ k H j .non h
theorem ws_if {c : Expr} {s1 s2 : List Stmt} (h : WPT F C c ρ k fun k1 z => if z = true then WPB F C s1 ρ k1 P else WPB F C s2 ρ k1 P) : WPS F C (.If c s1 s2 pos) ρ k P :=
  of_ps (fun X fx => ps_if (ptT fx) (pbB fx) (pbB fx)) fun σ H E en j q1 q2 q3 q4 => h σ H _ en j fun z k1 H1 l1 j1 p => by
    have l := l1.lz
    cases z with
    | true => exact p σ H1 E (en.le l1) j1 (fun ρ2 σ2 k2 H2 l2 => q1 ρ2 σ2 k2 H2 (l.trans l2)) q2 (fun ρ2 σ2 k2 H2 l2 => q3 ρ2 σ2 k2 H2 (l.trans l2)) (fun ρ2 σ2 k2 H2 l2 => q4 ρ2 σ2 k2 H2 (l.trans l2))
    | false => exact p σ H1 E (en.le l1) j1 (fun ρ2 σ2 k2 H2 l2 => q1 ρ2 σ2 k2 H2 (l.trans l2)) q2 (fun ρ2 σ2 k2 H2 l2 => q3 ρ2 σ2 k2 H2 (l.trans l2)) (fun ρ2 σ2 k2 H2 l2 => q4 ρ2 σ2 k2 H2 (l.trans l2))
theorem ws_asgName {t : TE} (i : Nat) (h : WE F t ρ k fun k1 d => P.nx k1 (ρ.set i (.d d))) : WS F (tAsg t (gName i)) ρ k P := fun σ H E en j q1 _ _ _ =>
  h σ H _ en j fun v d k1 H1 l1 j1 r p => q1 _ (σ.set i (some v)) k1 H1 l1.lz ((en.le l1).set (sv := .d d) ⟨v, rfl, r⟩) j1 p
/-- what a target wants: no name twice, its place, its kind -/
structure Tgt (C : Cs) (i : Nat) (x : Str) : Prop where
  hN : C.N.Nodup
  hi : C.N[i]? = some x
  hx : Loc C.sc x
  hf : C.fn x = true ∨ C.sc.names.lookup x = some .local
theorem Tgt.pg {i : Nat} {x : Str} (t : Tgt C i x) {X : Cx} (fx : Fits C X) : PG X (.Name x pos) (gName i) :=
  pg_name (by rw [fx.N]; exact t.hN) (by rw [fx.N]; exact t.hi) (by rw [fx.sc]; exact t.hx) (by rw [fx.fn, fx.sc]; exact t.hf)
theorem ws_set (i : Nat) {x : Str} {pos' : Pos} (t : Tgt C i x) (hs : ∀ env : Env, env.scope = C.sc → swapsWith e (some (.Name x pos')) pos.line env = pure false) (h : WPE F C e ρ k fun k1 d => P.nx k1 (ρ.set i (.d d))) : WPS F C (.Assign [.Name x pos'] e pos) ρ k P :=
  of_ps (fun X fx => ps_set (by rw [fx.N]; exact t.hN) (by rw [fx.N]; exact t.hi) (by rw [fx.sc]; exact t.hx) (peE fx) (hs X.env fx.sc) (by rw [fx.fn, fx.sc]; exact t.hf)) (ws_asgName i h)
/-- a, b = a tuple -/
theorem pgTup {es : List Expr} {kk : Nat} {t : TGs} {n : Nat} {X : Cx} (fx : Fits C X) (h : PGs X es t) (hn : (assignEach es X.env).length = n) (hst : (assignEach es X.env).findIdx? (·.1) = none) : PG X (.Tuple es kk pos) (gTup C.K n t) := by
  rw [← fx.K]; exact pg_tup fx.calm h hn hst
theorem piL {X : Cx} (fx : Fits C X) {tg l : Expr} : PI X tg l (iList C.K (tE C l)) := by
  rw [← fx.K]; exact pi_list (peE fx)
theorem piT {X : Cx} (fx : Fits C X) {tg l : Expr} : PI X tg l (iTup C.K (tE C l)) := by
  rw [← fx.K]; exact pi_tup (peE fx)
theorem ws_asg2 (i1 i2 : Nat) {x1 x2 : Str} {p1 p2 p3 : Pos} {kk : Nat} (hne : i1 ≠ i2) (t1 : Tgt C i1 x1) (t2 : Tgt C i2 x2) (hK : F.K = C.K)
    (hs : ∀ env : Env, swapsWithSole [.Tuple [.Name x1 p1, .Name x2 p2] kk p3] e pos.line env = pure false) (hw : ∀ env : Env, swappedStores [.Tuple [.Name x1 p1, .Name x2 p2] kk p3] e env = pure none)
    (h : WPE F C e ρ k fun k1 d => ∃ d1 d2, d = .tuple [d1, d2] ∧ P.nx k1 ((ρ.set i1 (.d d1)).set i2 (.d d2))) : WPS F C (.Assign [.Tuple [.Name x1 p1, .Name x2 p2] kk p3] e pos) ρ k P :=
  of_ps (fun X fx => ps_asg (peE fx) (pgTup (n := 2) fx (pgs_cons (t1.pg fx) (pgs_cons (t2.pg fx) pgs_nil)) (by rfl) (by rfl)) (hs X.env) (hw X.env)) fun σ H E en j q1 _ _ _ =>
    h σ H _ en j fun v d k1 H1 l1 j1 r ⟨d1, d2, e, p⟩ => by
      subst e
      cases r with
      | tup ha hr =>
        cases hr with
        | cons r1 hr =>
          cases hr with
          | cons r2 hr =>
            cases hr
            exact ⟨_, _, rfl, hK ▸ sqt_of ha, rfl, _, _, rfl, _, _, rfl, rfl, q1 _ _ k1 H1 l1.lz (((en.le l1).set (sv := .d d1) ⟨_, rfl, r1⟩).set (sv := .d d2) ⟨_, rfl, r2⟩) j1 p⟩
/-- a, b = x, y -/
theorem ws_par2 (i1 i2 : Nat) {x1 x2 : Str} {p1 p2 p3 p4 : Pos} {kk k2 : Nat} (hne : i1 ≠ i2) (t1 : Tgt C i1 x1) (t2 : Tgt C i2 x2) (h1 : C.sc.names.lookup x1 = some .local) (h2 : C.sc.names.lookup x2 = some .local)
    (hs : ∀ env : Env, swapsWithSole [.Tuple [.Name x1 p1, .Name x2 p2] kk p3] (.Tuple [a, b] k2 p4) pos.line env = pure false) (hw : ∀ env : Env, env.scope = C.sc → swappedStores [.Tuple [.Name x1 p1, .Name x2 p2] kk p3] (.Tuple [a, b] k2 p4) env = pure (some [x1, x2]))
    (h : WPA F C [a, b] ρ k fun k1 ds => ∃ d1 d2, ds = [d1, d2] ∧ P.nx k1 ((ρ.set i1 (.d d1)).set i2 (.d d2))) : WPS F C (.Assign [.Tuple [.Name x1 p1, .Name x2 p2] kk p3] (.Tuple [a, b] k2 p4) pos) ρ k P :=
  of_ps (fun X fx => ps_par fx.calm (by rw [fx.N]; exact t1.hN) (by rw [fx.N]; exact t1.hi) (by rw [fx.N]; exact t2.hi) hne (by rw [fx.sc]; exact h1) (by rw [fx.sc]; exact h2) (paA fx) (hw X.env fx.sc) (hs X.env)) fun σ H E en j q1 _ _ _ =>
    h σ H _ en j fun vs ds k1 H1 l1 j1 r ⟨d1, d2, e, p⟩ => by
      subst e
      cases r with
      | cons r1 hr =>
        cases hr with
        | cons r2 hr =>
          cases hr
          exact ⟨_, _, rfl, q1 _ _ k1 H1 l1.lz (((en.le l1).set (sv := .d d1) ⟨_, rfl, r1⟩).set (sv := .d d2) ⟨_, rfl, r2⟩) j1 p⟩
theorem ws_expr (hs : ∀ env : Env, swapsWith e none pos.line env = pure false) (h : WPE F C e ρ k fun k1 _ => P.nx k1 ρ) : WPS F C (.Expr e pos) ρ k P :=
  of_ps (fun X fx => ps_expr (peE fx) (hs X.env)) fun σ H E en j q1 _ _ _ => h σ H _ en j fun v d k1 H1 l1 j1 r p => q1 ρ σ k1 H1 l1.lz (en.le l1) j1 p
theorem ws_doc {x : Str} {jj : Nat} {p : Pos} (h : P.nx k ρ) : WPS F C (.Expr (.Constant (.str x) jj p) pos) ρ k P := of_ps (fun X fx => ps_doc) fun σ H E en j q1 _ _ _ => q1 ρ σ k H .refl en j h

/-! ### for, while -/
theorem ws_for_list (i : Nat) {x : Str} {px : Pos} {iter : Expr} {body : List Stmt} (t : Tgt C i x) (hK : F.K = C.K) (hfs : ∀ (env : Env) (v : Value), foldedSetIterable iter env v = pure v)
    (h : WPE F C iter ρ k fun k1 d => ∃ (I : Nat → Nat → Rho → Prop) (ds : List PyData), d = .list ds ∧ I 0 k1 ρ ∧ (∀ (j : Nat) (y : PyData) k' ρ', ds[j]? = some y → I j k' ρ' → WPB F C body (ρ'.set i (.d y)) k' (P.loop (I (j + 1)))) ∧ (∀ k' ρ', I ds.length k' ρ' → P.nx k' ρ')) :
    WPS F C (.For (.Name x px) iter body [] pos) ρ k P :=
  of_ps (fun X fx => ps_for (by rw [fx.xe]; exact PassesOwn.never) fx.calm (piL fx) (t.pg fx) (pbB fx) (hfs X.env)) fun σ H E en j q1 q2 q3 q4 => by
    show tE C iter σ H _
    refine h σ H _ en j fun v d k1 H1 l1 j1 r hh => ?_
    obtain ⟨I, ds, e, i0, hstep, hend⟩ := hh
    subst e
    cases r with
    | @lst a xs _ ha hr =>
    refine ⟨a, rfl, ⟨xs, hK ▸ sql_of ha⟩, ?_⟩
    have hlen : xs.length = ds.length := hr.length
    have rr : Rp F H1 (.ref a) (.list ds) := .lst ha hr
    refine for_list (xs := xs) (fun n σ' H' => ∃ k' ρ', EnvOk F H' σ' ρ' ∧ J F k' H' ∧ Lz F H1 H' ∧ I n k' ρ') ⟨k1, ρ, en.le l1, j1, .refl, i0⟩ ?_ ?_ ?_
    · rintro n σ' H' _ ⟨k', ρ', _, _, lz, _⟩
      have := sql_of (K := F.K) (⟨lz _ _ (Fm.sxA ha.2) ha.1, ha.2⟩ : H' a = some (.lst xs) ∧ ¬ F.S a)
      exact hK ▸ this
    · rintro n v σ' H' hv ⟨k', ρ', en', j', lz, ii⟩
      obtain ⟨y, hy, ry⟩ := hr.got hv
      refine hstep n y k' ρ' hy ii (σ'.set i (some v)) H' _ (en'.set (sv := .d y) ⟨v, rfl, ry.le lz⟩) j' ?_ q2 ?_ ?_
      · exact fun ρ2 σ2 k2 H2 l2 e2 j2 p => ⟨k2, ρ2, e2, j2, lz.trans l2, p⟩
      · exact fun ρ2 σ2 k2 H2 l2 e2 j2 p => q1 ρ2 σ2 k2 H2 (l1.lz.trans (lz.trans l2)) e2 j2 p
      · exact fun ρ2 σ2 k2 H2 l2 e2 j2 p => ⟨k2, ρ2, e2, j2, lz.trans l2, p⟩
    · rintro σ' H' ⟨k', ρ', en', j', lz, ii⟩
      exact q1 ρ' σ' k' H' (l1.lz.trans lz) en' j' (hend k' ρ' (hlen ▸ ii))
theorem ws_for_tup (i : Nat) {x : Str} {px : Pos} {iter : Expr} {body : List Stmt} (t : Tgt C i x) (hK : F.K = C.K) (hfs : ∀ (env : Env) (v : Value), foldedSetIterable iter env v = pure v)
    (h : WPE F C iter ρ k fun k1 d => ∃ (I : Nat → Nat → Rho → Prop) (ds : List PyData), d = .tuple ds ∧ I 0 k1 ρ ∧ (∀ (j : Nat) (y : PyData) k' ρ', ds[j]? = some y → I j k' ρ' → WPB F C body (ρ'.set i (.d y)) k' (P.loop (I (j + 1)))) ∧ (∀ k' ρ', I ds.length k' ρ' → P.nx k' ρ')) :
    WPS F C (.For (.Name x px) iter body [] pos) ρ k P :=
  of_ps (fun X fx => ps_for (by rw [fx.xe]; exact PassesOwn.never) fx.calm (piT fx) (t.pg fx) (pbB fx) (hfs X.env)) fun σ H E en j q1 q2 q3 q4 => by
    show tE C iter σ H _
    refine h σ H _ en j fun v d k1 H1 l1 j1 r hh => ?_
    obtain ⟨I, ds, e, i0, hstep, hend⟩ := hh
    subst e
    cases r with
    | @tup a xs _ ha hr =>
    refine ⟨a, rfl, ⟨xs, hK ▸ sqt_of ha⟩, ?_⟩
    have hlen : xs.length = ds.length := hr.length
    refine for_tup (xs := xs) (fun n σ' H' => ∃ k' ρ', EnvOk F H' σ' ρ' ∧ J F k' H' ∧ Lz F H1 H' ∧ I n k' ρ') ⟨k1, ρ, en.le l1, j1, .refl, i0⟩ ?_ ?_ ?_
    · rintro n σ' H' _ ⟨k', ρ', _, _, lz, _⟩
      have := sqt_of (K := F.K) (⟨lz _ _ (Fm.sxA ha.2) ha.1, ha.2⟩ : H' a = some (.tup xs) ∧ ¬ F.S a)
      exact hK ▸ this
    · rintro n v σ' H' hv ⟨k', ρ', en', j', lz, ii⟩
      obtain ⟨y, hy, ry⟩ := hr.got hv
      refine hstep n y k' ρ' hy ii (σ'.set i (some v)) H' _ (en'.set (sv := .d y) ⟨v, rfl, ry.le lz⟩) j' ?_ q2 ?_ ?_
      · exact fun ρ2 σ2 k2 H2 l2 e2 j2 p => ⟨k2, ρ2, e2, j2, lz.trans l2, p⟩
      · exact fun ρ2 σ2 k2 H2 l2 e2 j2 p => q1 ρ2 σ2 k2 H2 (l1.lz.trans (lz.trans l2)) e2 j2 p
      · exact fun ρ2 σ2 k2 H2 l2 e2 j2 p => ⟨k2, ρ2, e2, j2, lz.trans l2, p⟩
    · rintro σ' H' ⟨k', ρ', en', j', lz, ii⟩
      exact q1 ρ' σ' k' H' (l1.lz.trans lz) en' j' (hend k' ρ' (hlen ▸ ii))
theorem ws_for_range (i : Nat) {x : Str} {px p : Pos} {pos' : Pos} {body : List Stmt} (t : Tgt C i x) (hg : C.sc.names.lookup ("range" : Str) = some .globalImplicit) (hm : C.mg ("range" : Str) = none)
    (hse : ∀ env : Env, starEach [e] env = [(false, eval e env)]) (hfs : ∀ (env : Env) (v : Value), foldedSetIterable (.Call (.Name "range" p) [e] [] pos') env v = pure v)
    (h : WPE F C e ρ k fun k1 d => ∃ (I : Nat → Nat → Rho → Prop) (z : Int), d = .int z ∧ -(2 ^ 62) ≤ z ∧ z < 2 ^ 62 ∧ I 0 k1 ρ ∧ (∀ (j : Nat) k' ρ', j < z.toNat → I j k' ρ' → WPB F C body (ρ'.set i (.d (.int j))) k' (P.loop (I (j + 1)))) ∧ (∀ k' ρ', I z.toNat k' ρ' → P.nx k' ρ')) :
    WPS F C (.For (.Name x px) (.Call (.Name "range" p) [e] [] pos') body [] pos) ρ k P :=
  of_ps (fun X fx => ps_for (by rw [fx.xe]; exact PassesOwn.never) fx.calm (pi_range1 (by show X.env.scope.names.lookup ("range" : Str) = _; rw [fx.sc]; exact hg) (by rw [fx.mg]; exact hm) (pa_cons (peE fx) pa_nil (hse X.env)) (hse X.env)) (t.pg fx) (pbB fx) (hfs X.env)) fun σ H E en j q1 q2 q3 q4 => by
    show tE C e σ H _
    refine h σ H _ en j fun v d k1 H1 l1 j1 r hh => ?_
    obtain ⟨I, z, e, z1, z2, i0, hstep, hend⟩ := hh
    subst e
    cases r
    refine ⟨z, rfl, z1, z2, ?_⟩
    refine for_range (lo := 0) (n := z.toNat) (fun n σ' H' => ∃ k' ρ', EnvOk F H' σ' ρ' ∧ J F k' H' ∧ Lz F H1 H' ∧ I n k' ρ') ⟨k1, ρ, en.le l1, j1, .refl, i0⟩ ?_ ?_
    · rintro n σ' H' hn ⟨k', ρ', en', j', lz, ii⟩
      rw [Int.zero_add]
      refine hstep n k' ρ' hn ii (σ'.set i (some (.int n))) H' _ (en'.set (sv := .d (.int n)) ⟨_, rfl, .int n⟩) j' ?_ q2 ?_ ?_
      · exact fun ρ2 σ2 k2 H2 l2 e2 j2 p => ⟨k2, ρ2, e2, j2, lz.trans l2, p⟩
      · exact fun ρ2 σ2 k2 H2 l2 e2 j2 p => q1 ρ2 σ2 k2 H2 (l1.lz.trans (lz.trans l2)) e2 j2 p
      · exact fun ρ2 σ2 k2 H2 l2 e2 j2 p => ⟨k2, ρ2, e2, j2, lz.trans l2, p⟩
    · rintro σ' H' ⟨k', ρ', en', j', lz, ii⟩
      exact q1 ρ' σ' k' H' (l1.lz.trans lz) en' j' (hend k' ρ' ii)
/-- a while, by a word over the slots with a number that falls -/
theorem ws_while (I : Nat → Nat → Rho → Prop) {c : Expr} {body : List Stmt} (m0 : Nat) (h0 : I m0 k ρ)
    (hstep : ∀ m k' ρ', I m k' ρ' → WPT F C c ρ' k' fun k1 z => if z = true then WPB F C body ρ' k1 (P.loop fun k2 ρ2 => ∃ m2, m2 < m ∧ I m2 k2 ρ2) else P.nx k1 ρ') :
    WPS F C (.While c body [] pos) ρ k P :=
  of_ps (fun X fx => ps_while (by rw [fx.xe]; exact PassesOwn.never) (ptT fx) (pbB fx)) fun σ H E en j q1 q2 q3 q4 => by
    refine ⟨fun m σ' H' => ∃ k' ρ', EnvOk F H' σ' ρ' ∧ J F k' H' ∧ Lz F H H' ∧ I m k' ρ', ⟨m0, k, ρ, en, j, .refl, h0⟩, ?_⟩
    rintro m σ' H' ⟨k', ρ', en', j', lz, ii⟩
    refine hstep m k' ρ' ii σ' H' _ en' j' fun z k1 H1 l1 j1 p => ?_
    cases z with
    | true =>
      refine ⟨fun σ2 H2 => ∃ m2, m2 < m ∧ ∃ k2 ρ2, EnvOk F H2 σ2 ρ2 ∧ J F k2 H2 ∧ Lz F H H2 ∧ I m2 k2 ρ2, fun σ2 H2 ⟨m2, hm, w⟩ => ⟨m2, hm, w⟩, ?_⟩
      refine p σ' H1 _ (en'.le l1) j1 ?_ q2 ?_ ?_
      · exact fun ρ2 σ2 k2 H2 l2 e2 j2 ⟨m2, hm, p⟩ => ⟨m2, hm, k2, ρ2, e2, j2, lz.trans (l1.lz.trans l2), p⟩
      · exact fun ρ2 σ2 k2 H2 l2 e2 j2 p => q1 ρ2 σ2 k2 H2 (lz.trans (l1.lz.trans l2)) e2 j2 p
      · exact fun ρ2 σ2 k2 H2 l2 e2 j2 ⟨m2, hm, p⟩ => ⟨m2, hm, k2, ρ2, e2, j2, lz.trans (l1.lz.trans l2), p⟩
    | false => exact q1 ρ' σ' k1 H1 (lz.trans l1.lz) (en'.le l1) j1 p
end

/-! ### comprehensions -/
def Fm.ext (F : Fm) (D : Addr) : Fm := { F with S := fun b => F.S b ∨ b = D, ms := fun b h => .inl (F.ms b h) }
section
variable {F : Fm} {C : Cs} {ρ : Rho} {k : Nat} {H H1 : Hp} {D : Addr} {σ : L2.St}
theorem J.ext (j : J F k H) (h : Lv H D) : J (F.ext D) k H := ⟨j.g, j.le, fun b hb => hb.elim (j.al b) fun e => e ▸ h⟩
theorem J.unext (j : J (F.ext D) k H) : J F k H := ⟨j.g, j.le, fun b hb => j.al b (.inl hb)⟩
theorem Rep.unext {v : V} {d : PyData} (r : Rp (F.ext D) H v d) : Rp F H v d := Rep.keep (S := (F.ext D).S) (S' := F.S) (fun _ _ _ e => e) (fun b _ z => .inl z) d v r
theorem RepAll.unext {v : List V} {d : List PyData} (r : RpAll (F.ext D) H v d) : RpAll F H v d := RepAll.keep (S := (F.ext D).S) (S' := F.S) (fun _ _ _ e => e) (fun b _ z => .inl z) d v r
theorem Rep.ext {o : HO} {v : V} {d : PyData} (r : Rp F H v d) (h : H D = none) : Rp (F.ext D) (upd H D o) v d :=
  Rep.keep (S := F.S) (S' := (F.ext D).S) (fun b u _ e => by rw [upd_ne (ne_of_none e h)]; exact e) (fun b hb z => z.elim id fun e => absurd (e ▸ h) hb) d v r
theorem RepAll.ext {o : HO} {v : List V} {d : List PyData} (r : RpAll F H v d) (h : H D = none) : RpAll (F.ext D) (upd H D o) v d :=
  RepAll.keep (S := F.S) (S' := (F.ext D).S) (fun b u _ e => by rw [upd_ne (ne_of_none e h)]; exact e) (fun b hb z => z.elim id fun e => absurd (e ▸ h) hb) d v r
theorem EnvOk.ext {o : HO} (en : EnvOk F H σ ρ) (h : H D = none) : EnvOk (F.ext D) (upd H D o) σ ρ := fun i sv e => by
  obtain ⟨x, q, r⟩ := en i sv e
  refine ⟨x, q, ?_⟩
  cases sv with
  | un => trivial
  | d d => obtain ⟨v, e, r⟩ := r; exact ⟨v, e, r.ext h⟩
  | raw v => exact r
  | own o xs =>
    obtain ⟨e, s, m, z, vs, h1, r⟩ := r
    exact ⟨e, .inl s, m, z, vs, by rw [upd_ne (ne_of_none h1 h)]; exact h1, r.ext h⟩
/-- the new list at D changes: the rest is as it was -/
theorem EnvOk.at {o : HO} (en : EnvOk (F.ext D) H σ ρ) (hne : ∀ (i : Nat) o xs, ρ[i]? = some (SV.own o xs) → o ≠ D) : EnvOk (F.ext D) (upd H D o) σ ρ := fun i sv e => by
  obtain ⟨x, q, r⟩ := en i sv e
  have lz : ∀ b u, ¬ (F.ext D).S b → H b = some u → (upd H D o) b = some u := fun b u hb e => by rw [upd_ne fun z => hb (.inr z)]; exact e
  refine ⟨x, q, ?_⟩
  cases sv with
  | un => trivial
  | d d => obtain ⟨v, e, r⟩ := r; exact ⟨v, e, Rep.keep lz (fun _ _ z => z) _ _ r⟩
  | raw v => exact r
  | own o' xs =>
    obtain ⟨e, s, m, z, vs, h1, r⟩ := r
    exact ⟨e, s, m, z, vs, by rw [upd_ne (hne _ _ _ ‹_›)]; exact h1, RepAll.keep lz (fun _ _ z => z) _ _ r⟩
end
end Dl

namespace Dl
open PySem PySem.Spec PyProof.Rows L2
section
variable {F : Fm} {C : Cs} {ρ : Rho} {k : Nat} {H H1 : Hp} {D : Addr} {σ : L2.St} {Φ : Nat → PyData → Prop}
def LeD (F : Fm) (D : Addr) (H H' : Hp) : Prop := ∀ b o, ¬ F.Mx b o → b ≠ D → H b = some o → H' b = some o
theorem LeD.refl : LeD F D H H := fun _ _ _ _ e => e
theorem LeD.trans {H2 : Hp} (a : LeD F D H H1) (b : LeD F D H1 H2) : LeD F D H H2 := fun x o n m e => b x o n m (a x o n m e)
theorem Le.ld (a : Le F H H1) : LeD F D H H1 := fun b o n _ e => a b o n e
theorem LeD.lz (a : LeD F D H H1) (hs : F.S D) : Lz F H H1 := fun b o n e => a b o (fun z => n (z.imp (F.ms b) id)) (fun z => n (.inl (z ▸ hs))) e
theorem EnvOk.ld (en : EnvOk F H σ ρ) (a : LeD F D H H1) (hs : F.S D) (hne : ∀ (i : Nat) o xs, ρ[i]? = some (SV.own o xs) → o ≠ D) : EnvOk F H1 σ ρ := fun i sv e => by
  obtain ⟨x, q, r⟩ := en i sv e
  refine ⟨x, q, ?_⟩
  cases sv with
  | un => trivial
  | d d => obtain ⟨v, e, r⟩ := r; exact ⟨v, e, r.le (a.lz hs)⟩
  | raw v => exact r
  | own o' xs =>
    obtain ⟨e', s, m, z, vs, h1, r⟩ := r
    exact ⟨e', s, m, z, vs, a o' _ (Fm.mxA m) (hne _ _ _ e) h1, r.le (a.lz hs)⟩
theorem lc_turn {tt : TT} {te : TE} {ρ2 : Rho} {σ2 : L2.St} {vs : List V} {acc : List PyData} {I : Nat → List PyData → Prop} {Nx : Hp → Prop} (hM : ¬ F.M D) (hS : F.S D) (h0 : F.H0 D = none)
    (en : EnvOk F H σ2 ρ2) (j : J F k H) (hd : H D = some (.lst vs)) (ra : RpAll F H vs acc) (hz : acc.length < sizeLine)
    (body : WT F tt ρ2 k fun k1 b => if b = true then WE F te ρ2 k1 fun k2 y => I k2 (acc ++ [y]) else I k1 acc)
    (nx : ∀ H' k' vs' acc', acc'.length ≤ acc.length + 1 → LeD F D H H' → H' D = some (.lst vs') → RpAll F H' vs' acc' → J F k' H' → I k' acc' → Nx H') :
    tt σ2 H fun b H3 => if b = true then te σ2 H3 fun y H4 => ∃ acc, H4 D = some (.lst acc) ∧ acc.length < sizeLine ∧ Nx (upd H4 D (.lst (acc ++ [y]))) else Nx H3 := by
  refine body σ2 H _ en j fun b k1 H3 l3 j3 p => ?_
  cases b with
  | false => exact nx H3 k1 vs acc (Nat.le_succ _) l3.ld (l3 D _ (Fm.mxA hM) hd) (ra.le l3.lz) j3 p
  | true =>
    refine p σ2 H3 _ (en.le l3) j3 fun v y k2 H4 l4 j4 r4 q => ?_
    have hd4 : H4 D = some (.lst vs) := l4 D _ (Fm.mxA hM) (l3 D _ (Fm.mxA hM) hd)
    refine ⟨vs, hd4, by rw [ra.length]; exact hz, nx _ k2 _ _ (by rw [List.length_append]; exact Nat.le_refl _) ?_ upd_same ?_ (j4.own hM h0 (pl_lst hd4)) q⟩
    · exact fun b o n m e => by rw [upd_ne m]; exact l4 b o n (l3 b o n e)
    · have lz : Lz F H4 (upd H4 D (.lst (vs ++ [v]))) := fun b o n e => by rw [upd_ne (show b ≠ D from fun z => n (.inl (by rw [z]; exact hS)))]; exact e
      exact (((ra.le l3.lz).le l4.lz).le lz).append (.cons (r4.le lz) .nil)
theorem set_wipe {i : Nat} {x : V} (σ : L2.St) : (wipe σ [i]).set i (some x) = σ.set i (some x) := by
  show (σ.set i none).set i (some x) = _
  rw [List.set_set]
theorem wipe_set {i : Nat} {x : V} (σ : L2.St) : wipe (σ.set i (some x)) [i] = wipe σ [i] := by
  show (σ.set i (some x)).set i none = σ.set i none
  rw [List.set_set]
theorem we_lcL (i : Nat) {tl : TE} {K : PySem.W.Frag} (hK : F.K = K) {tt : TT} {te : TE}
    (h : WE F tl ρ k fun k1 d => ∃ (I : Nat → Nat → List PyData → Prop) (ds : List PyData), d = .list ds ∧ ds.length ≤ 1000000 ∧ I 0 k1 [] ∧ (∀ D (j : Nat) (y : PyData) k' acc, ds[j]? = some y → I j k' acc → WT (F.ext D) tt (ρ.set i (.d y)) k' fun k1 b => if b = true then WE (F.ext D) te (ρ.set i (.d y)) k1 fun k2 z => I (j + 1) k2 (acc ++ [z]) else I (j + 1) k1 acc) ∧ (∀ k' acc, I ds.length k' acc → Φ k' (.list acc))) : WE F (tLc (iList K tl) (gName i) tt te [i]) ρ k Φ := fun σ H Q en j q => by
  show tl σ H _
  refine h σ H _ en j fun v d k1 H1 l1 j1 r hh => ?_
  obtain ⟨I, ds, e, hz, i0, hstep, hend⟩ := hh
  subst e
  cases r with
  | @lst a xs _ ha hr =>
  refine ⟨a, rfl, ⟨xs, hK ▸ sql_of ha⟩, fun D hD => ?_⟩
  have hlen : xs.length = ds.length := hr.length
  have en1 := en.le l1
  have hM : ¬ F.M D := fun z => F.gl _ _ j1.g D z hD
  have hS : ¬ F.S D := j1.fresh hD
  have h0 : F.H0 D = none := j1.h0 hM hD
  have hne : ∀ (i : Nat) o xs, ρ[i]? = some (SV.own o xs) → o ≠ D := fun i o xs e => by
    obtain ⟨x, _, s⟩ := en1 i _ e
    obtain ⟨_, _, _, _, vs, h1, _⟩ := s
    exact ne_of_none h1 hD
  have rr : Rp (F.ext D) (upd H1 D (.lst [])) (.ref a) (.list ds) := Rep.ext (.lst ha hr) hD
  cases rr with
  | @lst _ xs' _ ha' hr' =>
  have exs : True := trivial
  refine lc_list (xs := xs') (fun n H' => ∃ k' vs acc, acc.length ≤ n ∧ EnvOk (F.ext D) H' σ ρ ∧ J (F.ext D) k' H' ∧ LeD (F.ext D) D (upd H1 D (.lst [])) H' ∧ H' D = some (.lst vs) ∧ RpAll (F.ext D) H' vs acc ∧ I n k' acc)
    ⟨k1, [], [], Nat.le_refl _, en1.ext hD, (j1.new hD).ext (lv_new fun _ z => nomatch z), .refl, upd_same, .nil, i0⟩ ?_ ?_ ?_
  · rintro n H' _ ⟨k', vs, acc, _, _, _, ld, _⟩
    have := sql_of (K := F.K) (H := H') (S := (F.ext D).S) ⟨ld.lz (.inr rfl) _ _ (Fm.sxA ha'.2) ha'.1, ha'.2⟩
    exact hK ▸ this
  · rintro n v H' hv ⟨k', vs, acc, hle, en', j', ld, hd, ra, ii⟩
    obtain ⟨y, hy, ry⟩ := hr'.got hv
    show (wipe ((wipe σ [i]).set i (some v)) [i] = wipe σ [i] ∧ _)
    rw [set_wipe]
    refine ⟨wipe_set σ, ?_⟩
    have hn : n < ds.length := (List.getElem?_eq_some_iff.mp hy).1
    refine lc_turn (F := F.ext D) (I := fun k acc => I (n + 1) k acc) hM (.inr rfl) h0 (en'.set (sv := .d y) ⟨v, rfl, ry.le (ld.lz (.inr rfl))⟩) j' hd ra (Nat.lt_of_le_of_lt (show acc.length ≤ 1000000 by omega) (by decide)) (hstep D n y k' acc hy ii) fun H2 k2 vs2 acc2 hl2 ld2 hd2 ra2 j2 i2 => ?_
    exact ⟨k2, vs2, acc2, by omega, en'.ld ld2 (.inr rfl) hne, j2, ld.trans ld2, hd2, ra2, i2⟩
  · rintro H' ⟨k', vs, acc, hle, en', j', ld, hd, ra, ii⟩
    refine q (.ref D) (.list acc) k' H' ?_ j'.unext (.lst ⟨hd, hS⟩ ra.unext) (hend k' acc (by rw [← hr'.length]; exact ii))
    exact fun b o n e => ld b o n (ne_of_none (l1 b o n e) hD) (by rw [upd_ne (ne_of_none (l1 b o n e) hD)]; exact l1 b o n e)
theorem we_lcT (i : Nat) {tl : TE} {K : PySem.W.Frag} (hK : F.K = K) {tt : TT} {te : TE}
    (h : WE F tl ρ k fun k1 d => ∃ (I : Nat → Nat → List PyData → Prop) (ds : List PyData), d = .tuple ds ∧ ds.length ≤ 1000000 ∧ I 0 k1 [] ∧ (∀ D (j : Nat) (y : PyData) k' acc, ds[j]? = some y → I j k' acc → WT (F.ext D) tt (ρ.set i (.d y)) k' fun k1 b => if b = true then WE (F.ext D) te (ρ.set i (.d y)) k1 fun k2 z => I (j + 1) k2 (acc ++ [z]) else I (j + 1) k1 acc) ∧ (∀ k' acc, I ds.length k' acc → Φ k' (.list acc))) : WE F (tLc (iTup K tl) (gName i) tt te [i]) ρ k Φ := fun σ H Q en j q => by
  show tl σ H _
  refine h σ H _ en j fun v d k1 H1 l1 j1 r hh => ?_
  obtain ⟨I, ds, e, hz, i0, hstep, hend⟩ := hh
  subst e
  cases r with
  | @tup a xs _ ha hr =>
  refine ⟨a, rfl, ⟨xs, hK ▸ sqt_of ha⟩, fun D hD => ?_⟩
  have hlen : xs.length = ds.length := hr.length
  have en1 := en.le l1
  have hM : ¬ F.M D := fun z => F.gl _ _ j1.g D z hD
  have hS : ¬ F.S D := j1.fresh hD
  have h0 : F.H0 D = none := j1.h0 hM hD
  have hne : ∀ (i : Nat) o xs, ρ[i]? = some (SV.own o xs) → o ≠ D := fun i o xs e => by
    obtain ⟨x, _, s⟩ := en1 i _ e
    obtain ⟨_, _, _, _, vs, h1, _⟩ := s
    exact ne_of_none h1 hD
  have rr : Rp (F.ext D) (upd H1 D (.lst [])) (.ref a) (.tuple ds) := Rep.ext (.tup ha hr) hD
  cases rr with
  | @tup _ xs' _ ha' hr' =>
  have exs : True := trivial
  refine lc_tup (xs := xs') (fun n H' => ∃ k' vs acc, acc.length ≤ n ∧ EnvOk (F.ext D) H' σ ρ ∧ J (F.ext D) k' H' ∧ LeD (F.ext D) D (upd H1 D (.lst [])) H' ∧ H' D = some (.lst vs) ∧ RpAll (F.ext D) H' vs acc ∧ I n k' acc)
    ⟨k1, [], [], Nat.le_refl _, en1.ext hD, (j1.new hD).ext (lv_new fun _ z => nomatch z), .refl, upd_same, .nil, i0⟩ ?_ ?_ ?_
  · rintro n H' _ ⟨k', vs, acc, _, _, _, ld, _⟩
    have := sqt_of (K := F.K) (H := H') (S := (F.ext D).S) ⟨ld.lz (.inr rfl) _ _ (Fm.sxA ha'.2) ha'.1, ha'.2⟩
    exact hK ▸ this
  · rintro n v H' hv ⟨k', vs, acc, hle, en', j', ld, hd, ra, ii⟩
    obtain ⟨y, hy, ry⟩ := hr'.got hv
    show (wipe ((wipe σ [i]).set i (some v)) [i] = wipe σ [i] ∧ _)
    rw [set_wipe]
    refine ⟨wipe_set σ, ?_⟩
    have hn : n < ds.length := (List.getElem?_eq_some_iff.mp hy).1
    refine lc_turn (F := F.ext D) (I := fun k acc => I (n + 1) k acc) hM (.inr rfl) h0 (en'.set (sv := .d y) ⟨v, rfl, ry.le (ld.lz (.inr rfl))⟩) j' hd ra (Nat.lt_of_le_of_lt (show acc.length ≤ 1000000 by omega) (by decide)) (hstep D n y k' acc hy ii) fun H2 k2 vs2 acc2 hl2 ld2 hd2 ra2 j2 i2 => ?_
    exact ⟨k2, vs2, acc2, by omega, en'.ld ld2 (.inr rfl) hne, j2, ld.trans ld2, hd2, ra2, i2⟩
  · rintro H' ⟨k', vs, acc, hle, en', j', ld, hd, ra, ii⟩
    refine q (.ref D) (.list acc) k' H' ?_ j'.unext (.lst ⟨hd, hS⟩ ra.unext) (hend k' acc (by rw [← hr'.length]; exact ii))
    exact fun b o n e => ld b o n (ne_of_none (l1 b o n e) hD) (by rw [upd_ne (ne_of_none (l1 b o n e) hD)]; exact l1 b o n e)
theorem we_lcR (i : Nat) {tl : TE} {tt : TT} {te : TE}
    (h : WE F tl ρ k fun k1 d => ∃ (I : Nat → Nat → List PyData → Prop) (z : Int), d = .int z ∧ -(2 ^ 62) ≤ z ∧ z ≤ 1000000 ∧ I 0 k1 [] ∧ (∀ D (j : Nat) k' acc, j < z.toNat → I j k' acc → WT (F.ext D) tt (ρ.set i (.d (.int j))) k' fun k1 b => if b = true then WE (F.ext D) te (ρ.set i (.d (.int j))) k1 fun k2 z => I (j + 1) k2 (acc ++ [z]) else I (j + 1) k1 acc) ∧ (∀ k' acc, I z.toNat k' acc → Φ k' (.list acc))) : WE F (tLc (iRng1 (tCons tl tNil)) (gName i) tt te [i]) ρ k Φ := fun σ H Q en j q => by
  show tl σ H _
  refine h σ H _ en j fun v d k1 H1 l1 j1 r hh => ?_
  obtain ⟨I, z, e, z1, z2, i0, hstep, hend⟩ := hh
  subst e
  cases r
  refine ⟨z, rfl, z1, by omega, fun D hD => ?_⟩
  have en1 := en.le l1
  have hM : ¬ F.M D := fun z => F.gl _ _ j1.g D z hD
  have hS : ¬ F.S D := j1.fresh hD
  have h0 : F.H0 D = none := j1.h0 hM hD
  have hne : ∀ (i : Nat) o xs, ρ[i]? = some (SV.own o xs) → o ≠ D := fun i o xs e => by
    obtain ⟨x, _, s⟩ := en1 i _ e
    obtain ⟨_, _, _, _, vs, h1, _⟩ := s
    exact ne_of_none h1 hD
  refine lc_range (lo := 0) (n := z.toNat) (fun n H' => ∃ k' vs acc, acc.length ≤ n ∧ EnvOk (F.ext D) H' σ ρ ∧ J (F.ext D) k' H' ∧ LeD (F.ext D) D (upd H1 D (.lst [])) H' ∧ H' D = some (.lst vs) ∧ RpAll (F.ext D) H' vs acc ∧ I n k' acc)
    ⟨k1, [], [], Nat.le_refl _, en1.ext hD, (j1.new hD).ext (lv_new fun _ z => nomatch z), .refl, upd_same, .nil, i0⟩ ?_ ?_
  · rintro n H' hn ⟨k', vs, acc, hle, en', j', ld, hd, ra, ii⟩
    rw [Int.zero_add]
    show (wipe ((wipe σ [i]).set i (some (.int n))) [i] = wipe σ [i] ∧ _)
    rw [set_wipe]
    refine ⟨wipe_set σ, ?_⟩
    refine lc_turn (F := F.ext D) (I := fun k acc => I (n + 1) k acc) hM (.inr rfl) h0 (en'.set (sv := .d (.int n)) ⟨_, rfl, .int n⟩) j' hd ra (Nat.lt_of_le_of_lt (show acc.length ≤ 1000000 by omega) (by decide)) (hstep D n k' acc hn ii) fun H2 k2 vs2 acc2 hl2 ld2 hd2 ra2 j2 i2 => ?_
    exact ⟨k2, vs2, acc2, by omega, en'.ld ld2 (.inr rfl) hne, j2, ld.trans ld2, hd2, ra2, i2⟩
  · rintro H' ⟨k', vs, acc, hle, en', j', ld, hd, ra, ii⟩
    refine q (.ref D) (.list acc) k' H' ?_ j'.unext (.lst ⟨hd, hS⟩ ra.unext) (hend k' acc ii)
    exact fun b o n e => ld b o n (ne_of_none (l1 b o n e) hD) (by rw [upd_ne (ne_of_none (l1 b o n e) hD)]; exact l1 b o n e)

theorem wt_yes {Ψ : Nat → Bool → Prop} (h : Ψ k true) : WT F tYes ρ k Ψ := fun σ H Q en j q => q true k H .refl j h
end
/-! comprehensions as expressions, as values given to a name -/
section
variable {F : Fm} {C : Cs} {ρ : Rho} {k : Nat} {Φ : Nat → PyData → Prop} {P : DE} {pos spos : Pos} {elt iter : Expr} {scope : Scope} {i : Nat} {x : Str} {px : Pos}
/-- what a comprehension's block wants: its own name at the place i -/
structure Blk (C : Cs) (scope : Scope) (i : Nat) (x : Str) : Prop where
  ok : BlkOk C.N C.sc scope [(x, i)]
  t : Tgt (C.blk scope) i x
theorem pe_lcX {X : Cx} (fx : Fits C X) (b : Blk C scope i x) {ifs : List Expr} {wi : TI} {tt : TT} (hi : PI X (.Name x px) iter wi) (ht : ∀ X', Fits (C.blk scope) X' → PTs X' ifs tt) (hs : ∀ (env : Env) (v : Value), foldedSetIterable iter env v = pure v) :
    PE X (.ListComp elt [⟨.Name x px, iter, ifs, 0⟩] scope pos) (tLc wi (gName i) tt (tE (C.blk scope) elt) [i]) :=
  pe_lc (own := [(x, i)]) fx.calm (by rw [fx.N]; exact b.t.hN) hi (by rw [fx.N, fx.sc]; exact b.ok) (fun s H a cl fp => b.t.pg (fx.blk s H scope a cl fp)) (fun s H a cl fp => ht _ (fx.blk s H scope a cl fp)) (fun s H a cl fp => peE (fx.blk s H scope a cl fp)) (hs X.env)
theorem ps_lcX {X : Cx} {y : Str} {py : Pos} {iy : Nat} (fx : Fits C X) (b : Blk C scope i x) (ty : Tgt C iy y) (hyl : C.sc.names.lookup y = some .local) (hk : C.sc.kind = .function) (hl : (py.line == pos.line) = true) (ha : (scope.names.any fun (n, k) => n == y && (k == .local || k == .cell)) = false)
    {ifs : List Expr} {wi : TI} {tt : TT} (hi : PI X (.Name x px) iter wi) (ht : ∀ X', Fits (C.blk scope) X' → PTs X' ifs tt) (hs : ∀ (env : Env) (v : Value), foldedSetIterable iter env v = pure v) :
    PS X (.Assign [.Name y py] (.ListComp elt [⟨.Name x px, iter, ifs, 0⟩] scope pos) spos) (tAsg (tLc wi (gName i) tt (tE (C.blk scope) elt) [i]) (gName iy)) :=
  ps_setLc (own := [(x, i)]) fx.calm (by rw [fx.N]; exact b.t.hN) (by rw [fx.N]; exact ty.hi) (by rw [fx.sc]; exact hyl) (sw_true (by rw [fx.sc]; exact hk) (by rw [fx.sc]; exact hyl) hl ha) hi (by rw [fx.N, fx.sc]; exact b.ok) (fun s H a cl fp => b.t.pg (fx.blk s H scope a cl fp)) (fun s H a cl fp => ht _ (fx.blk s H scope a cl fp)) (fun s H a cl fp => peE (fx.blk s H scope a cl fp)) (hs X.env)
theorem we_compL0 (i : Nat) {x : Str} {px : Pos} (b : Blk C scope i x) (hK : F.K = C.K) (hfs : ∀ (env : Env) (v : Value), foldedSetIterable iter env v = pure v)
    (h : WPE F C iter ρ k fun k1 d => ∃ (I : Nat → Nat → List PyData → Prop) (ds : List PyData), d = .list ds ∧ ds.length ≤ 1000000 ∧ I 0 k1 [] ∧ (∀ D (j : Nat) (y : PyData) k' acc, ds[j]? = some y → I j k' acc → WPE (F.ext D) (C.blk scope) elt (ρ.set i (.d y)) k' fun k2 z => I (j + 1) k2 (acc ++ [z])) ∧ (∀ k' acc, I ds.length k' acc → Φ k' (.list acc))) : WPE F C (.ListComp elt [⟨.Name x px, iter, [], 0⟩] scope pos) ρ k Φ :=
  of_pe (fun X fx => pe_lcX fx b (piL fx) (fun _ _ => pts_nil) hfs) (we_lcL i hK (h.imp fun k1 d ⟨I, ds, e, hz, i0, hs, he⟩ => ⟨I, ds, e, hz, i0, fun D j y k' acc hy ii => wt_yes (by rw [if_pos rfl]; exact hs D j y k' acc hy ii), he⟩))
theorem ws_compL0 (i iy : Nat) {x y : Str} {px py : Pos} (b : Blk C scope i x) (ty : Tgt C iy y) (hyl : C.sc.names.lookup y = some .local) (hk : C.sc.kind = .function) (hl : (py.line == pos.line) = true) (ha : (scope.names.any fun (n, k) => n == y && (k == .local || k == .cell)) = false) (hK : F.K = C.K) (hfs : ∀ (env : Env) (v : Value), foldedSetIterable iter env v = pure v)
    (h : WPE F C iter ρ k fun k1 d => ∃ (I : Nat → Nat → List PyData → Prop) (ds : List PyData), d = .list ds ∧ ds.length ≤ 1000000 ∧ I 0 k1 [] ∧ (∀ D (j : Nat) (y : PyData) k' acc, ds[j]? = some y → I j k' acc → WPE (F.ext D) (C.blk scope) elt (ρ.set i (.d y)) k' fun k2 z => I (j + 1) k2 (acc ++ [z])) ∧ (∀ k' acc, I ds.length k' acc → P.nx k' (ρ.set iy (.d (.list acc))))) : WPS F C (.Assign [.Name y py] (.ListComp elt [⟨.Name x px, iter, [], 0⟩] scope pos) spos) ρ k P :=
  of_ps (fun X fx => ps_lcX fx b ty hyl hk hl ha (piL fx) (fun _ _ => pts_nil) hfs) (ws_asgName iy (we_lcL i hK (h.imp fun k1 d ⟨I, ds, e, hz, i0, hs, he⟩ => ⟨I, ds, e, hz, i0, fun D j y k' acc hy ii => wt_yes (by rw [if_pos rfl]; exact hs D j y k' acc hy ii), he⟩)))
theorem we_compL1 (i : Nat) {x : Str} {px : Pos} {c : Expr} (b : Blk C scope i x) (hK : F.K = C.K) (hfs : ∀ (env : Env) (v : Value), foldedSetIterable iter env v = pure v)
    (h : WPE F C iter ρ k fun k1 d => ∃ (I : Nat → Nat → List PyData → Prop) (ds : List PyData), d = .list ds ∧ ds.length ≤ 1000000 ∧ I 0 k1 [] ∧ (∀ D (j : Nat) (y : PyData) k' acc, ds[j]? = some y → I j k' acc → WPT (F.ext D) (C.blk scope) c (ρ.set i (.d y)) k' fun k1 b => if b = true then WPE (F.ext D) (C.blk scope) elt (ρ.set i (.d y)) k1 fun k2 z => I (j + 1) k2 (acc ++ [z]) else I (j + 1) k1 acc) ∧ (∀ k' acc, I ds.length k' acc → Φ k' (.list acc))) : WPE F C (.ListComp elt [⟨.Name x px, iter, [c], 0⟩] scope pos) ρ k Φ :=
  of_pe (fun X fx => pe_lcX fx b (piL fx) (fun X' fx' => pts_one (ptT fx')) hfs) (we_lcL i hK h)
theorem ws_compL1 (i iy : Nat) {x y : Str} {px py : Pos} {c : Expr} (b : Blk C scope i x) (ty : Tgt C iy y) (hyl : C.sc.names.lookup y = some .local) (hk : C.sc.kind = .function) (hl : (py.line == pos.line) = true) (ha : (scope.names.any fun (n, k) => n == y && (k == .local || k == .cell)) = false) (hK : F.K = C.K) (hfs : ∀ (env : Env) (v : Value), foldedSetIterable iter env v = pure v)
    (h : WPE F C iter ρ k fun k1 d => ∃ (I : Nat → Nat → List PyData → Prop) (ds : List PyData), d = .list ds ∧ ds.length ≤ 1000000 ∧ I 0 k1 [] ∧ (∀ D (j : Nat) (y : PyData) k' acc, ds[j]? = some y → I j k' acc → WPT (F.ext D) (C.blk scope) c (ρ.set i (.d y)) k' fun k1 b => if b = true then WPE (F.ext D) (C.blk scope) elt (ρ.set i (.d y)) k1 fun k2 z => I (j + 1) k2 (acc ++ [z]) else I (j + 1) k1 acc) ∧ (∀ k' acc, I ds.length k' acc → P.nx k' (ρ.set iy (.d (.list acc))))) : WPS F C (.Assign [.Name y py] (.ListComp elt [⟨.Name x px, iter, [c], 0⟩] scope pos) spos) ρ k P :=
  of_ps (fun X fx => ps_lcX fx b ty hyl hk hl ha (piL fx) (fun X' fx' => pts_one (ptT fx')) hfs) (ws_asgName iy (we_lcL i hK h))
theorem we_compT0 (i : Nat) {x : Str} {px : Pos} (b : Blk C scope i x) (hK : F.K = C.K) (hfs : ∀ (env : Env) (v : Value), foldedSetIterable iter env v = pure v)
    (h : WPE F C iter ρ k fun k1 d => ∃ (I : Nat → Nat → List PyData → Prop) (ds : List PyData), d = .tuple ds ∧ ds.length ≤ 1000000 ∧ I 0 k1 [] ∧ (∀ D (j : Nat) (y : PyData) k' acc, ds[j]? = some y → I j k' acc → WPE (F.ext D) (C.blk scope) elt (ρ.set i (.d y)) k' fun k2 z => I (j + 1) k2 (acc ++ [z])) ∧ (∀ k' acc, I ds.length k' acc → Φ k' (.list acc))) : WPE F C (.ListComp elt [⟨.Name x px, iter, [], 0⟩] scope pos) ρ k Φ :=
  of_pe (fun X fx => pe_lcX fx b (piT fx) (fun _ _ => pts_nil) hfs) (we_lcT i hK (h.imp fun k1 d ⟨I, ds, e, hz, i0, hs, he⟩ => ⟨I, ds, e, hz, i0, fun D j y k' acc hy ii => wt_yes (by rw [if_pos rfl]; exact hs D j y k' acc hy ii), he⟩))
theorem ws_compT0 (i iy : Nat) {x y : Str} {px py : Pos} (b : Blk C scope i x) (ty : Tgt C iy y) (hyl : C.sc.names.lookup y = some .local) (hk : C.sc.kind = .function) (hl : (py.line == pos.line) = true) (ha : (scope.names.any fun (n, k) => n == y && (k == .local || k == .cell)) = false) (hK : F.K = C.K) (hfs : ∀ (env : Env) (v : Value), foldedSetIterable iter env v = pure v)
    (h : WPE F C iter ρ k fun k1 d => ∃ (I : Nat → Nat → List PyData → Prop) (ds : List PyData), d = .tuple ds ∧ ds.length ≤ 1000000 ∧ I 0 k1 [] ∧ (∀ D (j : Nat) (y : PyData) k' acc, ds[j]? = some y → I j k' acc → WPE (F.ext D) (C.blk scope) elt (ρ.set i (.d y)) k' fun k2 z => I (j + 1) k2 (acc ++ [z])) ∧ (∀ k' acc, I ds.length k' acc → P.nx k' (ρ.set iy (.d (.list acc))))) : WPS F C (.Assign [.Name y py] (.ListComp elt [⟨.Name x px, iter, [], 0⟩] scope pos) spos) ρ k P :=
  of_ps (fun X fx => ps_lcX fx b ty hyl hk hl ha (piT fx) (fun _ _ => pts_nil) hfs) (ws_asgName iy (we_lcT i hK (h.imp fun k1 d ⟨I, ds, e, hz, i0, hs, he⟩ => ⟨I, ds, e, hz, i0, fun D j y k' acc hy ii => wt_yes (by rw [if_pos rfl]; exact hs D j y k' acc hy ii), he⟩)))
theorem we_compT1 (i : Nat) {x : Str} {px : Pos} {c : Expr} (b : Blk C scope i x) (hK : F.K = C.K) (hfs : ∀ (env : Env) (v : Value), foldedSetIterable iter env v = pure v)
    (h : WPE F C iter ρ k fun k1 d => ∃ (I : Nat → Nat → List PyData → Prop) (ds : List PyData), d = .tuple ds ∧ ds.length ≤ 1000000 ∧ I 0 k1 [] ∧ (∀ D (j : Nat) (y : PyData) k' acc, ds[j]? = some y → I j k' acc → WPT (F.ext D) (C.blk scope) c (ρ.set i (.d y)) k' fun k1 b => if b = true then WPE (F.ext D) (C.blk scope) elt (ρ.set i (.d y)) k1 fun k2 z => I (j + 1) k2 (acc ++ [z]) else I (j + 1) k1 acc) ∧ (∀ k' acc, I ds.length k' acc → Φ k' (.list acc))) : WPE F C (.ListComp elt [⟨.Name x px, iter, [c], 0⟩] scope pos) ρ k Φ :=
  of_pe (fun X fx => pe_lcX fx b (piT fx) (fun X' fx' => pts_one (ptT fx')) hfs) (we_lcT i hK h)
theorem ws_compT1 (i iy : Nat) {x y : Str} {px py : Pos} {c : Expr} (b : Blk C scope i x) (ty : Tgt C iy y) (hyl : C.sc.names.lookup y = some .local) (hk : C.sc.kind = .function) (hl : (py.line == pos.line) = true) (ha : (scope.names.any fun (n, k) => n == y && (k == .local || k == .cell)) = false) (hK : F.K = C.K) (hfs : ∀ (env : Env) (v : Value), foldedSetIterable iter env v = pure v)
    (h : WPE F C iter ρ k fun k1 d => ∃ (I : Nat → Nat → List PyData → Prop) (ds : List PyData), d = .tuple ds ∧ ds.length ≤ 1000000 ∧ I 0 k1 [] ∧ (∀ D (j : Nat) (y : PyData) k' acc, ds[j]? = some y → I j k' acc → WPT (F.ext D) (C.blk scope) c (ρ.set i (.d y)) k' fun k1 b => if b = true then WPE (F.ext D) (C.blk scope) elt (ρ.set i (.d y)) k1 fun k2 z => I (j + 1) k2 (acc ++ [z]) else I (j + 1) k1 acc) ∧ (∀ k' acc, I ds.length k' acc → P.nx k' (ρ.set iy (.d (.list acc))))) : WPS F C (.Assign [.Name y py] (.ListComp elt [⟨.Name x px, iter, [c], 0⟩] scope pos) spos) ρ k P :=
  of_ps (fun X fx => ps_lcX fx b ty hyl hk hl ha (piT fx) (fun X' fx' => pts_one (ptT fx')) hfs) (ws_asgName iy (we_lcT i hK h))
theorem we_compR0 (i : Nat) {x : Str} {px : Pos} (b : Blk C scope i x) {e : Expr} {pr pr2 : Pos} (hg : C.sc.names.lookup ("range" : Str) = some .globalImplicit) (hm : C.mg ("range" : Str) = none) (hse : ∀ env : Env, starEach [e] env = [(false, eval e env)]) (hfs : ∀ (env : Env) (v : Value), foldedSetIterable (.Call (.Name "range" pr) [e] [] pr2) env v = pure v)
    (h : WPE F C e ρ k fun k1 d => ∃ (I : Nat → Nat → List PyData → Prop) (z : Int), d = .int z ∧ -(2 ^ 62) ≤ z ∧ z ≤ 1000000 ∧ I 0 k1 [] ∧ (∀ D (j : Nat) k' acc, j < z.toNat → I j k' acc → WPE (F.ext D) (C.blk scope) elt (ρ.set i (.d (.int j))) k' fun k2 z => I (j + 1) k2 (acc ++ [z])) ∧ (∀ k' acc, I z.toNat k' acc → Φ k' (.list acc))) : WPE F C (.ListComp elt [⟨.Name x px, (.Call (.Name "range" pr) [e] [] pr2), [], 0⟩] scope pos) ρ k Φ :=
  of_pe (fun X fx => pe_lcX fx b (pi_range1 (by show X.env.scope.names.lookup ("range" : Str) = _; rw [fx.sc]; exact hg) (by rw [fx.mg]; exact hm) (pa_cons (peE fx) pa_nil (hse X.env)) (hse X.env)) (fun _ _ => pts_nil) hfs) (we_lcR i (h.imp fun k1 d ⟨I, z, e, z1, z2, i0, hs, he⟩ => ⟨I, z, e, z1, z2, i0, fun D j k' acc hj ii => wt_yes (by rw [if_pos rfl]; exact hs D j k' acc hj ii), he⟩))
theorem ws_compR0 (i iy : Nat) {x y : Str} {px py : Pos} (b : Blk C scope i x) (ty : Tgt C iy y) (hyl : C.sc.names.lookup y = some .local) (hk : C.sc.kind = .function) (hl : (py.line == pos.line) = true) (ha : (scope.names.any fun (n, k) => n == y && (k == .local || k == .cell)) = false) {e : Expr} {pr pr2 : Pos} (hg : C.sc.names.lookup ("range" : Str) = some .globalImplicit) (hm : C.mg ("range" : Str) = none) (hse : ∀ env : Env, starEach [e] env = [(false, eval e env)]) (hfs : ∀ (env : Env) (v : Value), foldedSetIterable (.Call (.Name "range" pr) [e] [] pr2) env v = pure v)
    (h : WPE F C e ρ k fun k1 d => ∃ (I : Nat → Nat → List PyData → Prop) (z : Int), d = .int z ∧ -(2 ^ 62) ≤ z ∧ z ≤ 1000000 ∧ I 0 k1 [] ∧ (∀ D (j : Nat) k' acc, j < z.toNat → I j k' acc → WPE (F.ext D) (C.blk scope) elt (ρ.set i (.d (.int j))) k' fun k2 z => I (j + 1) k2 (acc ++ [z])) ∧ (∀ k' acc, I z.toNat k' acc → P.nx k' (ρ.set iy (.d (.list acc))))) : WPS F C (.Assign [.Name y py] (.ListComp elt [⟨.Name x px, (.Call (.Name "range" pr) [e] [] pr2), [], 0⟩] scope pos) spos) ρ k P :=
  of_ps (fun X fx => ps_lcX fx b ty hyl hk hl ha (pi_range1 (by show X.env.scope.names.lookup ("range" : Str) = _; rw [fx.sc]; exact hg) (by rw [fx.mg]; exact hm) (pa_cons (peE fx) pa_nil (hse X.env)) (hse X.env)) (fun _ _ => pts_nil) hfs) (ws_asgName iy (we_lcR i (h.imp fun k1 d ⟨I, z, e, z1, z2, i0, hs, he⟩ => ⟨I, z, e, z1, z2, i0, fun D j k' acc hj ii => wt_yes (by rw [if_pos rfl]; exact hs D j k' acc hj ii), he⟩)))
theorem we_compR1 (i : Nat) {x : Str} {px : Pos} {c : Expr} (b : Blk C scope i x) {e : Expr} {pr pr2 : Pos} (hg : C.sc.names.lookup ("range" : Str) = some .globalImplicit) (hm : C.mg ("range" : Str) = none) (hse : ∀ env : Env, starEach [e] env = [(false, eval e env)]) (hfs : ∀ (env : Env) (v : Value), foldedSetIterable (.Call (.Name "range" pr) [e] [] pr2) env v = pure v)
    (h : WPE F C e ρ k fun k1 d => ∃ (I : Nat → Nat → List PyData → Prop) (z : Int), d = .int z ∧ -(2 ^ 62) ≤ z ∧ z ≤ 1000000 ∧ I 0 k1 [] ∧ (∀ D (j : Nat) k' acc, j < z.toNat → I j k' acc → WPT (F.ext D) (C.blk scope) c (ρ.set i (.d (.int j))) k' fun k1 b => if b = true then WPE (F.ext D) (C.blk scope) elt (ρ.set i (.d (.int j))) k1 fun k2 z => I (j + 1) k2 (acc ++ [z]) else I (j + 1) k1 acc) ∧ (∀ k' acc, I z.toNat k' acc → Φ k' (.list acc))) : WPE F C (.ListComp elt [⟨.Name x px, (.Call (.Name "range" pr) [e] [] pr2), [c], 0⟩] scope pos) ρ k Φ :=
  of_pe (fun X fx => pe_lcX fx b (pi_range1 (by show X.env.scope.names.lookup ("range" : Str) = _; rw [fx.sc]; exact hg) (by rw [fx.mg]; exact hm) (pa_cons (peE fx) pa_nil (hse X.env)) (hse X.env)) (fun X' fx' => pts_one (ptT fx')) hfs) (we_lcR i h)
theorem ws_compR1 (i iy : Nat) {x y : Str} {px py : Pos} {c : Expr} (b : Blk C scope i x) (ty : Tgt C iy y) (hyl : C.sc.names.lookup y = some .local) (hk : C.sc.kind = .function) (hl : (py.line == pos.line) = true) (ha : (scope.names.any fun (n, k) => n == y && (k == .local || k == .cell)) = false) {e : Expr} {pr pr2 : Pos} (hg : C.sc.names.lookup ("range" : Str) = some .globalImplicit) (hm : C.mg ("range" : Str) = none) (hse : ∀ env : Env, starEach [e] env = [(false, eval e env)]) (hfs : ∀ (env : Env) (v : Value), foldedSetIterable (.Call (.Name "range" pr) [e] [] pr2) env v = pure v)
    (h : WPE F C e ρ k fun k1 d => ∃ (I : Nat → Nat → List PyData → Prop) (z : Int), d = .int z ∧ -(2 ^ 62) ≤ z ∧ z ≤ 1000000 ∧ I 0 k1 [] ∧ (∀ D (j : Nat) k' acc, j < z.toNat → I j k' acc → WPT (F.ext D) (C.blk scope) c (ρ.set i (.d (.int j))) k' fun k1 b => if b = true then WPE (F.ext D) (C.blk scope) elt (ρ.set i (.d (.int j))) k1 fun k2 z => I (j + 1) k2 (acc ++ [z]) else I (j + 1) k1 acc) ∧ (∀ k' acc, I z.toNat k' acc → P.nx k' (ρ.set iy (.d (.list acc))))) : WPS F C (.Assign [.Name y py] (.ListComp elt [⟨.Name x px, (.Call (.Name "range" pr) [e] [] pr2), [c], 0⟩] scope pos) spos) ρ k P :=
  of_ps (fun X fx => ps_lcX fx b ty hyl hk hl ha (pi_range1 (by show X.env.scope.names.lookup ("range" : Str) = _; rw [fx.sc]; exact hg) (by rw [fx.mg]; exact hm) (pa_cons (peE fx) pa_nil (hse X.env)) (hse X.env)) (fun X' fx' => pts_one (ptT fx')) hfs) (ws_asgName iy (we_lcR i h))
end
end Dl

namespace Dl
open PySem PySem.Spec PyProof.Rows L2

/-! ### defs whose promise holds where no repr is under way -/
structure FnG (P : Program) (w : World) (K : PySem.W.Frag) (mg : Str → Option Value) (base : Heap) (k : Nat) (f : Addr) (fd : FuncData) (ps : List Str) (sp : Sp) : Prop where
  len : ∀ vs H Q E, sp vs H Q E → vs.length = ps.length
  run : ∀ (A : Around) (outer : List Env) (s : Shared) (H : Hp) (args : Args) (us : List Value) (vs : List V) (Q : VK), A.guards = some [] → Room k A → Env0 P w K mg base A outer s H → BindsTo s fd args (ps.zip us) → Vals vs us → sp vs H Q E0 →
    codeAny (model P w) A (.call (.ref f) args) (CR CX0 outer P w H s Q E0) s
section
variable {P : Program} {w : World} {K : PySem.W.Frag} {mg : Str → Option Value} {base : Heap}
theorem FnG.of_body {x qual : Str} {st : Stmt} {f : Addr} {fd : FuncData} {N ps : List Str} {k : Nat} {sp : Sp} (Fn : Fun K x qual st f fd) (Sc : FnScope N ps (defScope st)) (len : ∀ vs H Q E, sp vs H Q E → vs.length = ps.length)
    (body : ∀ (cdv : Value) (A : Around) (outer : List Env) (s : Shared) (H : Hp) (vs : List V) (Q : VK), A.guards = some [] → Room k (A.deeper (envOfC qual (defScope st) s.heap.objs.size f cdv)) → sp vs H Q E0 →
      ∃ t, PSs (cxOf CX0 P w K mg base N qual (defScope st) f cdv A outer s H E0).nox (defBody st) t ∧ t { nx := fun _ H' => Q .non H', rt := Q } (L2.start N vs) H) :
    FnG P w K mg base (k + 1) f fd ps sp := by
  obtain ⟨oc, od, kV, doc, pm, an, cdv, ct, osl, efd, look, hcode⟩ := Fn.ex
  subst efd
  constructor
  · exact len
  intro A outer s H args us vs Q hgd room env hbind rel hsp
  have hlen := len vs H Q E0 hsp
  have inK : K.In s.heap := env.mod.kin.keeps fun b o z => (env.bs b o z).1
  have nolim : s.heap.NoLimit := env.mod.nolimit.keeps fun b o z => (env.bs b o z).1
  refine codeAny_call_function room.depth (inK f _ look) rfl Sc.co Sc.gen rfl (PySem.W.codeRec_of inK hcode) (hbind _ _ _ _ ?_)
  have kinds : ∀ y ∈ ps.zip us, (defScope st).names.lookup y.1 = some .local ∨ ((defScope st).names.lookup y.1 = some .cell ∧ ((cellsFrom (s.heap.objs.size + 1) (defScope st).names []).lookup y.1).isSome = true) := by
    rintro ⟨n, v⟩ hy
    have hn : n ∈ ps := (List.of_mem_zip hy).1
    cases Sc.par n hn with
    | inl q => left; exact q
    | inr q => right; exact ⟨q, PySem.W.cellsFrom_some _ _ _ (Or.inl q)⟩
  apply wpAny_newFunctionEnv_cells Sc.kind kinds
  intro env' he s1 ic
  subst he
  refine ⟨nolim.keeps ic.toInCall.keep, codeAny_func ?_⟩
  obtain ⟨t, ht, hq⟩ := body cdv A outer s H vs Q hgd (room.deeper _) hsp
  have inv : Inv (cxOf CX0 P w K mg base N qual (defScope st) f cdv A outer s H E0) [] (L2.start N vs) H s1 := inv_start Sc room.hd env hlen rel ic
  refine wpAny_mono (ht.nox.run [] s1 _ H _ inv hq) ?_ (fun e s' z => z)
  intro fl s' hfl
  cases fl with
  | ret u => exact let ⟨v, _, H', j, rv, q⟩ := hfl; ⟨v, H', j.os, j.bare, j.base, j.hok, rv, q⟩
  | next => exact let ⟨_, H', j, q⟩ := hfl; ⟨V.non, H', j.os, j.bare, j.base, j.hok, rfl, q⟩
  | brk => exact let ⟨_, _, _, q⟩ := hfl; False.elim q
  | cont => exact let ⟨_, _, _, q⟩ := hfl; False.elim q
theorem FnG.mono {j k : Nat} {f : Addr} {fd : FuncData} {ps : List Str} {sp : Sp} (G : FnG P w K mg base j f fd ps sp) (h : j ≤ k) : FnG P w K mg base k f fd ps sp :=
  ⟨G.len, fun A outer s H args us vs Q g room => G.run A outer s H args us vs Q g (room.mono h)⟩
end
section
variable {X : Cx} {x : Str} {p pos : Pos} {e : Expr} {es : List Expr} {t : TA} {k : Nat} {f : Addr} {fd : FuncData} {ps : List Str} {sp : Sp}
theorem FnG.call_run {pins : List (Addr × Obj)} {σ : L2.St} {H : Hp} {s : Shared} {Q : VK} {us : List Value} {vs : List V} (G : FnG X.prog X.w X.K X.mg X.base k f fd ps sp) (gd : X.A.guards = some []) (room : Room k X.A) (hb : L2.Binds X.K fd ps [])
    (I : Inv X pins σ H s) (r : Vals vs us) (h : sp vs H Q E0) : wpAny (model X.prog X.w) X.A (call (.ref f) us) (EP X pins σ Q) X.xe s := by
  have hl : us.length = ps.length := r.length.symm.trans (G.len vs H Q E0 h)
  have bind := hb s us I.kIn (by rw [List.append_nil]; exact hl)
  rw [List.append_nil] at bind
  refine wpAny_call (codeAny_mono (G.run X.A X.stack s H ⟨us, []⟩ us vs Q gd room I.env0 bind r h) ?_)
  intro res s' hr
  match res, hr with
  | .ok (.ret u), hr => exact I.after hr
  | .ok .next, hr => exact False.elim hr
  | .ok .brk, hr => exact False.elim hr
  | .ok .cont, hr => exact False.elim hr
  | .error _, hr => exact False.elim hr
theorem FnG.pe (G : FnG X.prog X.w X.K X.mg X.base k f fd ps sp) (gd : X.A.guards = some []) (room : Room k X.A) (hb : L2.Binds X.K fd ps []) (hg : Gl X x) (hm : X.mg x = some (.ref f)) (kp : PySem.W.keepIn X.K (.ref f) = true)
    (ha : PA X (e :: es) t) (hdb : (x == ("__debug__" : Str)) = false) (hss : starEach (e :: es) X.env = (false, eval e X.env) :: starEach es X.env) (hpl : ((backTo pos (starEach es X.env)).any fun z => z.fst) = false) :
    PE X (.Call (.Name x p) (e :: es) [] pos) (fun σ H Q => t σ H fun vs H1 => sp vs H1 Q E0) := by
  constructor
  intro pins s σ H Q I h
  refine wpAny_Call_Name_kw (ld_glob I hg hm ?_ hdb)
  refine PySem.W.callWith_K (h₀ := X.base) I.ok.mod.kin kp (wpAny_mono (ha.run pos pins s σ H _ I h) ?_ fun _ _ z => z) hss hpl
  rintro us s1 ⟨vs, H1, I1, rv, q⟩
  exact ⟨I1.kIn, G.call_run gd room hb I1 rv q⟩
end
/-! ### the law's end -/
theorem law_end {P : Program} {w : World} {K : PySem.W.Frag} {mg mb : Str → Option Value} {k : Nat} {fa a : Addr} {fd : FuncData} {x : Str} {sp : Sp} {s1 : Shared} {vs : List Value} {ns : List Int}
    (inK : K.In s1.heap) (hns : s1.heap.Ns mainGlobals mg) (hbl : s1.heap.Ns builtinsNs mb) (hboot : ∀ x : Str, x ≠ "__name__" → mb x = bootBuiltins x) (nolim : s1.heap.NoLimit) (nogen : s1.gens = #[])
    (ha : s1.heap.get? a = some { cls := .type "list", data := .seq vs.toArray }) (hint : IntsAre vs ns) (hlen : ns.length ≤ sizeLine) (room : Room k callerA)
    (G : ∀ base : Heap, K.In base → base.Ns mainGlobals mg → FnG P w K mg base k fa fd [x] sp) (hbind : ∀ (s : Shared) (u : Value), BindsTo s fd ⟨[u], []⟩ [(x, u)])
    (hsp : ∀ H : Hp, (∀ b, H b = none ∨ ∃ o xs, H b = some (.frz o (.lst xs))) → SqL K H a (ns.map V.int) → sp [.ref a] H (fun v _ => v = .bl true) E0) :
    codeAny (model P w) callerA (.call (.ref fa) ⟨[.ref a], []⟩) (fun r s' => r = .ok (.ret (.bool true)) ∧ OldK s1.heap s'.heap ∧ s'.os = s1.os ∧ AllBare s'.gens) s1 := by
  -- the abstract heap: the script alone, where it is none of the module's own
  let H : Hp := fun b => if b = a ∧ K.lookup a = none then some (.frz { cls := .type "list", data := .seq vs.toArray } (.lst (ns.map V.int))) else none
  have Hcase : ∀ b, H b = none ∨ (b = a ∧ K.lookup a = none ∧ H b = some (.frz { cls := .type "list", data := .seq vs.toArray } (.lst (ns.map V.int)))) := by
    intro b
    by_cases c : b = a ∧ K.lookup a = none
    · exact Or.inr ⟨c.1, c.2, if_pos c⟩
    · exact Or.inl (if_neg c)
  have only : ∀ b, H b = none ∨ ∃ o xs, H b = some (.frz o (.lst xs)) := fun b => (Hcase b).imp id fun z => ⟨_, _, z.2.2⟩
  have rel : Vals (ns.map V.int) vs := vals_ints hint
  have hsq : SqL K H a (ns.map V.int) := by
    cases c : K.lookup a with
    | none => exact Or.inl (Or.inr ⟨_, if_pos ⟨rfl, c⟩⟩)
    | some o =>
      have z := inK a o c
      rw [ha] at z
      cases z
      exact Or.inr ⟨_, vs.toArray, _, c, rfl, rfl, rfl, (by rw [List.size_toArray, ← rel.length, List.length_map]; exact hlen), (by simpa using rel)⟩
  have hok : HOk P w H s1.heap := by
    intro b u z
    rcases Hcase b with q | ⟨e, _, q⟩
    · rw [q] at z; cases z
    · rw [q] at z
      cases z
      subst e
      exact ⟨ha, by rw [List.length_map]; exact hlen, vs, _, rel, ha⟩
  -- what is not the script stands in the base
  have keepB : ∀ {b : Addr} {o : Obj}, s1.heap.get? b = some o → H b = none → (hidT s1.heap H).get? b = some o := fun z n => hidT_get z n
  have nsB : ∀ {b : Addr} {m : Str → Option Value}, s1.heap.Ns b m → (hidT s1.heap H).Ns b m := by
    rintro b m ⟨o, es, ep, z, d, r⟩
    refine ⟨o, es, ep, keepB z ?_, d, r⟩
    rcases Hcase b with q | ⟨e, _, _⟩
    · exact q
    · rw [e, ha] at z
      cases z
      have d' : Data.seq vs.toArray _ = Data.dict es ep := d
      cases d'
  have inB : K.In (hidT s1.heap H) := by
    intro b o z
    refine keepB (inK b o z) ?_
    rcases Hcase b with q | ⟨e, c, _⟩
    · exact q
    · rw [e, c] at z; cases z
  have mod : Mod K mg (hidT s1.heap H) := ⟨inB, nsB hns, ⟨mb, nsB hbl, hboot⟩, let ⟨m, z1, z2⟩ := nolim; ⟨m, nsB z1, z2⟩⟩
  have env : Env0 P w K mg (hidT s1.heap H) callerA [] s1 H := by
    refine ⟨rfl, mod, fun b o z => of_hidT z, Nat.le_of_eq (hidT_size _ _), trivial, ?_, hok, .of_eq nogen⟩
    intro b z
    have z' : b ∈ ([] : List Addr) := z
    cases z'
  refine codeAny_mono ((G _ inB (nsB hns)).run callerA [] s1 H ⟨[.ref a], []⟩ [.ref a] [.ref a] _ rfl room env (hbind s1 (.ref a)) (.cons rfl .nil) (hsp H only hsq)) ?_
  intro res s' hr
  match res, hr with
  | .ok (.ret u), hr =>
    obtain ⟨v, H', os, bare, un, hok', rv, q⟩ := hr
    have q' : v = .bl true := q
    subst q'
    obtain rfl : u = Value.bool true := rv
    refine ⟨rfl, OldK.of_keep ?_, os, bare⟩
    intro b o z
    rcases Hcase b with c | ⟨e, _, c⟩
    · exact un.keep b o z c (fun y => by have y' : b ∈ ([] : List Addr) := y; cases y') (fun y => by cases y)
    · have c2 := un.frzs b _ _ c
      obtain ⟨e1, _⟩ := hok b _ c
      obtain ⟨e2, _⟩ := hok' b _ c2
      rw [z] at e1
      cases e1
      exact e2
  | .ok .next, hr => exact False.elim hr
  | .ok .brk, hr => exact False.elim hr
  | .ok .cont, hr => exact False.elim hr
  | .error _, hr => exact False.elim hr
theorem walk_end {l : PySem.W.OpenLaw} {n k : Nat} {q : Program} {loose : List Str} {XP : (Str → Option Value) → Heap → Prop} {YP : World → Heap → Prop} {d : DefRec} {K : Params → PySem.W.Frag} {sp : PySem.W.Frag → Sp} {x : Str}
    (hmost : l.most = some n) (hsmall : n ≤ sizeLine) (nodef : d.params.defaults = []) (room : Room k callerA) (hY : ∀ (w : World) (h : Heap), YP w h → (K w.params).In h)
    (G : ∀ (w : World) (mg : Str → Option Value) (fa : Addr) (h : Heap), (K w.params).In h → h.Ns mainGlobals mg → mg d.name = some (.ref fa) →
      ∃ fd : FuncData, (∀ (s : Shared) (u : Value), BindsTo s fd ⟨[u], []⟩ [(x, u)]) ∧ ∀ base : Heap, (K w.params).In base → base.Ns mainGlobals mg → FnG l.prog w (K w.params) mg base k fa fd [x] (sp (K w.params)))
    (hsp : ∀ (K : PySem.W.Frag) (H : Hp) (a : Addr) (ns : List Int), ns.length ≤ n → (∀ b, H b = none ∨ ∃ o xs, H b = some (.frz o (.lst xs))) → SqL K H a (ns.map V.int) → sp K [.ref a] H (fun v _ => v = .bl true) E0) :
    PySem.W.WalkO q loose XP YP l.row.toRowW d [] (fun f vs => PySem.call f vs) := by
  apply Att.attach_call hmost nodef
  intro w s0 s1 mg mb fa o pm cd doc a vs ns Gr Y _ _ _ hmg hobj hint hlen hgen
  obtain ⟨fd, hb, hG⟩ := G w mg fa _ (hY w _ Y) Gr.T.g hmg
  exact law_end (hY w _ Y) Gr.T.g Gr.T.b Gr.T.builtins Gr.T.nolimit hgen hobj hint (Nat.le_trans hlen hsmall) room hG hb fun H hO hS => hsp _ H a ns hlen hO hS
end Dl

namespace Dl
open PySem PySem.Spec PyProof.Rows L2

/-! ### defs that only read: the promise R, arguments to result -/
abbrev Rel := List PyData → PyData → Prop
def spPure (K : PySem.W.Frag) (R : Rel) : Sp := fun vs H Q _ => ∃ (S : Addr → Prop) (ds : List PyData) (d : PyData), (∀ b, S b → Lv H b) ∧ RepAll K S H vs ds ∧ R ds d ∧ ∀ v H', Same H H' → Rep K S H' v d → Q v H'
structure PFn (P : Program) (w : World) (K : PySem.W.Frag) (mg : Str → Option Value) (base : Heap) (lvl : Nat) (x : Str) (R : Rel) : Prop where
  ex : ∃ (fa : Addr) (fd : FuncData) (ps : List Str), FnG P w K mg base lvl fa fd ps (spPure K R) ∧ mg x = some (.ref fa) ∧ PySem.W.keepIn K (.ref fa) = true ∧ L2.Binds K fd ps []
def pureFm (K : PySem.W.Frag) (S : Addr → Prop) (H : Hp) : Fm := { K := K, S := S, M := fun _ => False, H0 := H, G := fun _ _ => True, ms := fun _ h => h.elim, gm := fun _ _ _ _ _ _ => trivial, gl := fun _ _ _ _ h => h.elim }
def bodyCs (P : Program) (w : World) (K : PySem.W.Frag) (mg : Str → Option Value) (base : Heap) (N : List Str) (sc : Scope) (lvl : Nat) : Cs := ⟨P, w, K, mg, base, N, sc, fun _ => true, lvl⟩
theorem fits_body {CX : CXT} {P : Program} {w : World} {K : PySem.W.Frag} {mg : Str → Option Value} {base : Heap} {N : List Str} {qual : Str} {sc : Scope} {f : Addr} {cd : Value} {A : Around} {outer : List Env} {s : Shared} {H : Hp} {E : XK} {k : Nat} (hgd : A.guards = some []) (hr : Room k (A.deeper (envOfC qual sc s.heap.objs.size f cd))) :
    Fits (bodyCs P w K mg base N sc k) (cxOf CX P w K mg base N qual sc f cd A outer s H E).nox := ⟨rfl, rfl, rfl, rfl, rfl, rfl, rfl, rfl, rfl, hr, rfl, hgd⟩
def startR (N : List Str) (ds : List PyData) : Rho := ds.map .d ++ List.replicate (N.length - ds.length) .un
theorem env_start {F : Fm} {H : Hp} {N : List Str} {vs : List V} {ds : List PyData} (r : RpAll F H vs ds) : EnvOk F H (start N vs) (startR N ds) := fun i sv e => by
  have hl := r.length
  unfold L2.start
  by_cases hi : i < ds.length
  · have e1 : (startR N ds)[i]? = some (.d ds[i]) := by
      unfold startR
      rw [List.getElem?_append_left (by simpa using hi), List.getElem?_map, List.getElem?_eq_getElem hi]; rfl
    rw [e1] at e
    cases e
    obtain ⟨v, hv, rv⟩ := r.get (List.getElem?_eq_getElem hi)
    refine ⟨some v, ?_, v, rfl, rv⟩
    rw [List.getElem?_append_left (by simpa [hl] using hi), List.getElem?_map, hv]; rfl
  · unfold startR at e
    rw [List.getElem?_append_right (by simpa using hi)] at e
    rw [List.getElem?_append_right (by simp; omega)]
    simp only [List.length_map] at e ⊢
    rw [List.getElem?_replicate] at e ⊢
    rw [hl]
    by_cases hj : i - ds.length < N.length - ds.length
    · rw [if_pos hj] at e ⊢
      cases e
      exact ⟨none, rfl, trivial⟩
    · rw [if_neg hj] at e; cases e
section
variable {P : Program} {w : World} {K : PySem.W.Frag} {mg : Str → Option Value} {base : Heap}
/-- a def that only reads keeps its promise -/
theorem pure_ok {x qual : Str} {st : Stmt} {f : Addr} {fd : FuncData} {N ps : List Str} {k : Nat} {R : Rel} (Fn : Fun K x qual st f fd) (Sc : FnScope N ps (defScope st)) (len : ∀ ds d, R ds d → ds.length = ps.length)
    (body : ∀ (F : Fm) (ds : List PyData) (d : PyData), F.K = K → R ds d → WPB F (bodyCs P w K mg base N (defScope st) k) (defBody st) (startR N ds) 0 { nx := fun _ _ => d = .none, rt := fun _ d' => d' = d, bk := fun _ _ => False, ct := fun _ _ => False }) :
    FnG P w K mg base (k + 1) f fd ps (spPure K R) := by
  refine FnG.of_body Fn Sc (fun vs H Q E h => ?_) (fun cdv A outer s H vs Q hgd hr h => ?_)
  · obtain ⟨S, ds, d, _, r, hR, _⟩ := h
    rw [RepAll.length r, len ds d hR]
  · obtain ⟨S, ds, d, al, r, hR, q⟩ := h
    refine ⟨_, pbB (fits_body hgd hr), ?_⟩
    refine body (pureFm K S H) ds d rfl hR (start N vs) H _ (env_start (F := pureFm K S H) r) ⟨trivial, fun b o _ e => e, al⟩ ?_ ?_ ?_ ?_
    · exact fun ρ' σ' k' H' _ _ j' e => q _ H' (fun b o h => j'.le b o (fun z => z.elim id id) h) (by rw [e]; exact .non)
    · exact fun v d' k' H' j' r' e => q v H' (fun b o h => j'.le b o (fun z => z.elim id id) h) (e ▸ r')
    · exact fun _ _ _ _ _ _ _ z => z.elim
    · exact fun _ _ _ _ _ _ _ z => z.elim
end
section
variable {F : Fm} {C : Cs} {ρ : Rho} {k : Nat} {Φ Φ' : Nat → PyData → Prop} {Ψ Ψ' : Nat → Bool → Prop} {e a b : Expr} {es : List Expr} {pos : Pos} {P : DE}
theorem pe_callF {x : Str} {p : Pos} {j : Nat} {fa : Addr} {fd : FuncData} {ps : List Str} {sp : Sp} {t : TA} {X : Cx} (fx : Fits C X) (G : FnG C.P C.w C.K C.mg C.base j fa fd ps sp) (hl : j ≤ C.lvl) (hg : C.sc.names.lookup x = some .globalImplicit) (hm : C.mg x = some (.ref fa)) (kp : PySem.W.keepIn C.K (.ref fa) = true) (hb : L2.Binds C.K fd ps [])
    (ha : PA X (e :: es) t) (hdb : (x == ("__debug__" : Str)) = false) (hss : ∀ env : Env, starEach (e :: es) env = (false, eval e env) :: starEach es env) (hpl : ∀ env : Env, ((backTo pos (starEach es env)).any fun x => x.fst) = false) : PE X (.Call (.Name x p) (e :: es) [] pos) (fun σ H Q => t σ H fun vs H1 => sp vs H1 Q E0) :=
  FnG.pe (by rw [fx.P, fx.w, fx.K, fx.mg, fx.base]; exact G) fx.gd (fx.room.mono hl) (by rw [fx.K]; exact hb) (by show X.env.scope.names.lookup x = _; rw [fx.sc]; exact hg) (by rw [fx.mg]; exact hm) (by rw [fx.K]; exact kp) ha hdb (hss X.env) (hpl X.env)
/-- a call of a def that only reads -/
theorem we_callP {x : Str} {R : Rel} {p : Pos} {j : Nat} (hF : PFn C.P C.w C.K C.mg C.base j x R) (hl : j ≤ C.lvl) (hK : F.K = C.K) (hg : C.sc.names.lookup x = some .globalImplicit)
    (h : WPA F C (e :: es) ρ k fun k1 ds => ∃ d, R ds d ∧ Φ k1 d) (hdb : (x == ("__debug__" : Str)) = false := by decide) (hss : ∀ env : Env, starEach (e :: es) env = (false, eval e env) :: starEach es env := by intro _; rfl) (hpl : ∀ env : Env, ((backTo pos (starEach es env)).any fun x => x.fst) = false := by intro _; rfl) :
    WPE F C (.Call (.Name x p) (e :: es) [] pos) ρ k Φ := by
  obtain ⟨fa, fd, ps, G, hm, kp, hb⟩ := hF.ex
  refine of_pe (fun X fx => pe_callF fx G hl hg hm kp hb (paA fx) hdb hss hpl) fun σ H Q en jj q => ?_
  refine h σ H _ en jj fun vs ds k1 H1 l1 j1 r1 ⟨d, hR, p⟩ => ?_
  refine ⟨F.S, ds, d, j1.al, hK ▸ r1, hR, fun v H' sm rv => ?_⟩
  have le : Le F H1 H' := fun b o _ e => sm b o e
  refine q v d k1 H' (l1.trans le) ⟨F.gm _ _ _ j1.g (fun b hb => ?_) (fun b o _ e => sm b o e), fun b o n e => sm b o (j1.le b o n e), fun b hb => (j1.al b hb).keep fun o e => sm b o e⟩ (by show Rep F.K F.S H' v d; rw [hK]; exact rv) p
  cases e : H1 b with
  | none => exact absurd e (F.gl _ _ j1.g b hb)
  | some o => exact sm b o e

/-! ### operations on data -/
theorem rd_or1 {r r' : R2} {x y : PyData} (h : RD F r x y k Φ) : RD F (fun x y H Q => r x y H Q ∨ r' x y H Q) x y k Φ := fun H vx vy Q j rx ry q => .inl (h H vx vy Q j rx ry q)
theorem rd_or2 {r r' : R2} {x y : PyData} (h : RD F r' x y k Φ) : RD F (fun x y H Q => r x y H Q ∨ r' x y H Q) x y k Φ := fun H vx vy Q j rx ry q => .inr (h H vx vy Q j rx ry q)
theorem rd_II {g : Int → Int → Int} {i j : Int} (h : Φ k (.int (g i j))) : RD F (rI0 fun i j => .int (g i j)) (.int i) (.int j) k Φ := fun H vx vy Q jj rx ry q => by
  cases rx; cases ry; exact ⟨i, j, rfl, rfl, q _ _ k H .refl jj (.int _) h⟩
theorem rd_IB {g : Int → Int → Bool} {i j : Int} (h : Φ k (.bool (g i j))) : RD F (rI0 fun i j => .bl (g i j)) (.int i) (.int j) k Φ := fun H vx vy Q jj rx ry q => by
  cases rx; cases ry; exact ⟨i, j, rfl, rfl, q _ _ k H .refl jj (.bl _) h⟩
theorem rd_IC {c : Int → Int → Prop} {g : Int → Int → Int} {i j : Int} (hc : c i j) (h : Φ k (.int (g i j))) : RD F (rI c fun i j => .int (g i j)) (.int i) (.int j) k Φ := fun H vx vy Q jj rx ry q => by
  cases rx; cases ry; exact ⟨i, j, rfl, rfl, hc, q _ _ k H .refl jj (.int _) h⟩
theorem we_add (h : WPE F C a ρ k fun k1 x => WPE F C b ρ k1 fun k2 y => ∃ i j, x = .int i ∧ y = .int j ∧ Φ k2 (.int (i + j))) : WPE F C (.BinOp a .Add b pos) ρ k Φ :=
  we_bin (fun X _ => op_add) (h.imp fun k1 x h1 => h1.imp fun k2 y ⟨i, j, e1, e2, p⟩ => by subst e1 e2; exact rd_II p)
theorem we_sub (h : WPE F C a ρ k fun k1 x => WPE F C b ρ k1 fun k2 y => ∃ i j, x = .int i ∧ y = .int j ∧ Φ k2 (.int (i - j))) : WPE F C (.BinOp a .Sub b pos) ρ k Φ :=
  we_bin (fun X _ => op_sub) (h.imp fun k1 x h1 => h1.imp fun k2 y ⟨i, j, e1, e2, p⟩ => by subst e1 e2; exact rd_II p)
theorem we_mul (h : WPE F C a ρ k fun k1 x => WPE F C b ρ k1 fun k2 y => ∃ i j, x = .int i ∧ y = .int j ∧ CMul i j ∧ Φ k2 (.int (i * j))) : WPE F C (.BinOp a .Mult b pos) ρ k Φ :=
  we_bin (fun X _ => op_mul) (h.imp fun k1 x h1 => h1.imp fun k2 y ⟨i, j, e1, e2, c, p⟩ => by subst e1 e2; exact rd_IC c p)
theorem we_fdiv (h : WPE F C a ρ k fun k1 x => WPE F C b ρ k1 fun k2 y => ∃ i j, x = .int i ∧ y = .int j ∧ (0 < j ∧ j < 1073741824) ∧ Φ k2 (.int (i / j))) : WPE F C (.BinOp a .FloorDiv b pos) ρ k Φ :=
  we_bin (fun X _ => op_fdiv) (h.imp fun k1 x h1 => h1.imp fun k2 y ⟨i, j, e1, e2, c, p⟩ => by subst e1 e2; exact rd_IC (c := CDiv) c p)
theorem we_mod (h : WPE F C a ρ k fun k1 x => WPE F C b ρ k1 fun k2 y => ∃ i j, x = .int i ∧ y = .int j ∧ 0 < j ∧ Φ k2 (.int (i % j))) : WPE F C (.BinOp a .Mod b pos) ρ k Φ :=
  we_bin (fun X _ => op_mod) (h.imp fun k1 x h1 => h1.imp fun k2 y ⟨i, j, e1, e2, c, p⟩ => by subst e1 e2; exact rd_IC c p)
theorem we_shl (h : WPE F C a ρ k fun k1 x => WPE F C b ρ k1 fun k2 y => ∃ i j, x = .int i ∧ y = .int j ∧ (0 ≤ j ∧ j ≤ 1000000 ∧ i.natAbs < 2 ^ 64) ∧ Φ k2 (.int (i * 2 ^ j.toNat))) : WPE F C (.BinOp a .LShift b pos) ρ k Φ :=
  we_bin (fun X _ => op_shl) (h.imp fun k1 x h1 => h1.imp fun k2 y ⟨i, j, e1, e2, c, p⟩ => by subst e1 e2; exact rd_IC (c := CPow) c p)
theorem we_shr (h : WPE F C a ρ k fun k1 x => WPE F C b ρ k1 fun k2 y => ∃ i j, x = .int i ∧ y = .int j ∧ 0 ≤ j ∧ Φ k2 (.int (i / 2 ^ j.toNat))) : WPE F C (.BinOp a .RShift b pos) ρ k Φ :=
  we_bin (fun X _ => op_shr) (h.imp fun k1 x h1 => h1.imp fun k2 y ⟨i, j, e1, e2, c, p⟩ => by subst e1 e2; exact rd_IC c p)
theorem we_pow (h : WPE F C a ρ k fun k1 x => WPE F C b ρ k1 fun k2 y => ∃ i j, x = .int i ∧ y = .int j ∧ (0 ≤ j ∧ j ≤ 1000000 ∧ i.natAbs < 2 ^ 64) ∧ Φ k2 (.int (i ^ j.toNat))) : WPE F C (.BinOp a .Pow b pos) ρ k Φ :=
  we_bin (fun X _ => op_pow) (h.imp fun k1 x h1 => h1.imp fun k2 y ⟨i, j, e1, e2, c, p⟩ => by subst e1 e2; exact rd_IC (c := CPow) c p)
theorem we_band (h : WPE F C a ρ k fun k1 x => WPE F C b ρ k1 fun k2 y => ∃ i j, x = .int i ∧ y = .int j ∧ Φ k2 (.int (Builtin.bitAnd i j))) : WPE F C (.BinOp a .BitAnd b pos) ρ k Φ :=
  we_bin (fun X _ => op_and) (h.imp fun k1 x h1 => h1.imp fun k2 y ⟨i, j, e1, e2, p⟩ => by subst e1 e2; exact rd_II p)
theorem we_bor (h : WPE F C a ρ k fun k1 x => WPE F C b ρ k1 fun k2 y => ∃ i j, x = .int i ∧ y = .int j ∧ Φ k2 (.int (Builtin.bitOr i j))) : WPE F C (.BinOp a .BitOr b pos) ρ k Φ :=
  we_bin (fun X _ => op_or) (h.imp fun k1 x h1 => h1.imp fun k2 y ⟨i, j, e1, e2, p⟩ => by subst e1 e2; exact rd_II p)
theorem we_bxor (h : WPE F C a ρ k fun k1 x => WPE F C b ρ k1 fun k2 y => ∃ i j, x = .int i ∧ y = .int j ∧ Φ k2 (.int (Builtin.bitXor i j))) : WPE F C (.BinOp a .BitXor b pos) ρ k Φ :=
  we_bin (fun X _ => op_xor) (h.imp fun k1 x h1 => h1.imp fun k2 y ⟨i, j, e1, e2, p⟩ => by subst e1 e2; exact rd_II p)
theorem we_neg (h : WPE F C a ρ k fun k1 x => ∃ i, x = .int i ∧ Φ k1 (.int (-i))) : WPE F C (.UnaryOp .USub a pos) ρ k Φ :=
  of_pe (fun X fx => pe_un un_neg (peE fx)) fun σ H Q en j q => h σ H _ en j fun v d k1 H1 l1 j1 r ⟨i, e, p⟩ => by
    subst e; cases r; exact ⟨i, rfl, q _ _ k1 H1 l1 j1 (.int _) p⟩
/-- comparisons of ints, as values and as tests -/
abbrev I2 (F : Fm) (C : Cs) (a b : Expr) (ρ : Rho) (k : Nat) (Θ : Nat → Int → Int → Prop) : Prop := WPE F C a ρ k fun k1 x => WPE F C b ρ k1 fun k2 y => ∃ i j, x = .int i ∧ y = .int j ∧ Θ k2 i j
theorem we_lt (h : I2 F C a b ρ k fun k i j => Φ k (.bool (decide (i < j)))) : WPE F C (.Compare a [.Lt] [b] pos) ρ k Φ := we_cmp (fun X _ => op_lt) (nomark _) (h.imp fun k1 x h1 => h1.imp fun k2 y ⟨i, j, e1, e2, p⟩ => by subst e1 e2; exact rd_IB (g := fun i j => decide (i < j)) p)
theorem we_le (h : I2 F C a b ρ k fun k i j => Φ k (.bool (decide (i ≤ j)))) : WPE F C (.Compare a [.LtE] [b] pos) ρ k Φ := we_cmp (fun X _ => op_le) (nomark _) (h.imp fun k1 x h1 => h1.imp fun k2 y ⟨i, j, e1, e2, p⟩ => by subst e1 e2; exact rd_IB (g := fun i j => decide (i ≤ j)) p)
theorem we_gt (h : I2 F C a b ρ k fun k i j => Φ k (.bool (decide (j < i)))) : WPE F C (.Compare a [.Gt] [b] pos) ρ k Φ := we_cmp (fun X _ => op_gt) (nomark _) (h.imp fun k1 x h1 => h1.imp fun k2 y ⟨i, j, e1, e2, p⟩ => by subst e1 e2; exact rd_IB (g := fun i j => decide (j < i)) p)
theorem we_ge (h : I2 F C a b ρ k fun k i j => Φ k (.bool (decide (j ≤ i)))) : WPE F C (.Compare a [.GtE] [b] pos) ρ k Φ := we_cmp (fun X _ => op_ge) (nomark _) (h.imp fun k1 x h1 => h1.imp fun k2 y ⟨i, j, e1, e2, p⟩ => by subst e1 e2; exact rd_IB (g := fun i j => decide (j ≤ i)) p)
theorem wt_lt (h : I2 F C a b ρ k fun k i j => Ψ k (decide (i < j))) : WPT F C (.Compare a [.Lt] [b] pos) ρ k Ψ := wt_cmp (fun X _ => op_lt) (nomark _) (h.imp fun k1 x h1 => h1.imp fun k2 y ⟨i, j, e1, e2, p⟩ => by subst e1 e2; exact rd_IB (g := fun i j => decide (i < j)) ⟨_, rfl, p⟩)
theorem wt_le (h : I2 F C a b ρ k fun k i j => Ψ k (decide (i ≤ j))) : WPT F C (.Compare a [.LtE] [b] pos) ρ k Ψ := wt_cmp (fun X _ => op_le) (nomark _) (h.imp fun k1 x h1 => h1.imp fun k2 y ⟨i, j, e1, e2, p⟩ => by subst e1 e2; exact rd_IB (g := fun i j => decide (i ≤ j)) ⟨_, rfl, p⟩)
theorem wt_gt (h : I2 F C a b ρ k fun k i j => Ψ k (decide (j < i))) : WPT F C (.Compare a [.Gt] [b] pos) ρ k Ψ := wt_cmp (fun X _ => op_gt) (nomark _) (h.imp fun k1 x h1 => h1.imp fun k2 y ⟨i, j, e1, e2, p⟩ => by subst e1 e2; exact rd_IB (g := fun i j => decide (j < i)) ⟨_, rfl, p⟩)
theorem wt_ge (h : I2 F C a b ρ k fun k i j => Ψ k (decide (j ≤ i))) : WPT F C (.Compare a [.GtE] [b] pos) ρ k Ψ := wt_cmp (fun X _ => op_ge) (nomark _) (h.imp fun k1 x h1 => h1.imp fun k2 y ⟨i, j, e1, e2, p⟩ => by subst e1 e2; exact rd_IB (g := fun i j => decide (j ≤ i)) ⟨_, rfl, p⟩)
/-- == and != of any data -/
theorem opEqK {X : Cx} (fx : Fits C X) : OpR X (compareOp .Eq) (rEqD C.K) := by rw [← fx.K]; exact op_eqD fx.room.units
theorem opNeK {X : Cx} (fx : Fits C X) : OpR X (compareOp .NotEq) (rNeD C.K) := by rw [← fx.K]; exact op_neD fx.room.units
theorem rd_eq {x y : PyData} (hK : F.K = C.K) (sx : SeqAt.shaped x = true) (sy : SeqAt.shaped y = true) (h : Φ k (.bool (PyData.eqv x y))) : RD F (rEqD C.K) x y k Φ := fun H vx vy Q j rx ry q =>
  ⟨x, y, hK ▸ Rep.dp x vx rx (nodict_sh sx), hK ▸ Rep.dp y vy ry (nodict_sh sy), sx, sy, q _ _ k H .refl j (.bl _) h⟩
theorem rd_nE {x y : PyData} (hK : F.K = C.K) (sx : SeqAt.shaped x = true) (sy : SeqAt.shaped y = true) (h : Φ k (.bool (!PyData.eqv x y))) : RD F (rNeD C.K) x y k Φ := fun H vx vy Q j rx ry q =>
  ⟨x, y, hK ▸ Rep.dp x vx rx (nodict_sh sx), hK ▸ Rep.dp y vy ry (nodict_sh sy), sx, sy, q _ _ k H .refl j (.bl _) h⟩
abbrev D2 (F : Fm) (C : Cs) (a b : Expr) (ρ : Rho) (k : Nat) (Θ : Nat → PyData → PyData → Prop) : Prop := WPE F C a ρ k fun k1 x => WPE F C b ρ k1 fun k2 y => SeqAt.shaped x = true ∧ SeqAt.shaped y = true ∧ Θ k2 x y
theorem we_eq (hK : F.K = C.K) (h : D2 F C a b ρ k fun k x y => Φ k (.bool (PyData.eqv x y))) : WPE F C (.Compare a [.Eq] [b] pos) ρ k Φ := we_cmp (fun X fx => opEqK fx) (nomark _) (h.imp fun k1 x h1 => h1.imp fun k2 y ⟨s1, s2, p⟩ => rd_eq hK s1 s2 p)
theorem we_ne (hK : F.K = C.K) (h : D2 F C a b ρ k fun k x y => Φ k (.bool (!PyData.eqv x y))) : WPE F C (.Compare a [.NotEq] [b] pos) ρ k Φ := we_cmp (fun X fx => opNeK fx) (nomark _) (h.imp fun k1 x h1 => h1.imp fun k2 y ⟨s1, s2, p⟩ => rd_nE hK s1 s2 p)
theorem wt_eq (hK : F.K = C.K) (h : D2 F C a b ρ k fun k x y => Ψ k (PyData.eqv x y)) : WPT F C (.Compare a [.Eq] [b] pos) ρ k Ψ := wt_cmp (fun X fx => opEqK fx) (nomark _) (h.imp fun k1 x h1 => h1.imp fun k2 y ⟨s1, s2, p⟩ => rd_eq hK s1 s2 ⟨_, rfl, p⟩)
theorem wt_ne (hK : F.K = C.K) (h : D2 F C a b ρ k fun k x y => Ψ k (!PyData.eqv x y)) : WPT F C (.Compare a [.NotEq] [b] pos) ρ k Ψ := wt_cmp (fun X fx => opNeK fx) (nomark _) (h.imp fun k1 x h1 => h1.imp fun k2 y ⟨s1, s2, p⟩ => rd_nE hK s1 s2 ⟨_, rfl, p⟩)
/-- == of ints, of texts -/
theorem rd_eqS {x y : PyData} {c : Bool} (hx : ∀ H vx vy, Rp F H vx x → Rp F H vy y → scal vx vy = true ∧ decide (vx = vy) = c) (h : Φ k (.bool c)) : RD F rEq x y k Φ := fun H vx vy Q j rx ry q => by
  obtain ⟨h1, h2⟩ := hx H vx vy rx ry
  exact ⟨h1, by rw [h2]; exact q _ _ k H .refl j (.bl _) h⟩
theorem rd_neS {x y : PyData} {c : Bool} (hx : ∀ H vx vy, Rp F H vx x → Rp F H vy y → scal vx vy = true ∧ decide (vx = vy) = c) (h : Φ k (.bool (!c))) : RD F rNe x y k Φ := fun H vx vy Q j rx ry q => by
  obtain ⟨h1, h2⟩ := hx H vx vy rx ry
  exact ⟨h1, by rw [h2]; exact q _ _ k H .refl j (.bl _) h⟩
theorem scal_int {i j : Int} {H : Hp} {vx vy : V} (rx : Rp F H vx (.int i)) (ry : Rp F H vy (.int j)) : scal vx vy = true ∧ decide (vx = vy) = decide (i = j) := by
  cases rx; cases ry; exact ⟨rfl, by simp⟩
theorem scal_str {i j : Str} {H : Hp} {vx vy : V} (rx : Rp F H vx (.str i)) (ry : Rp F H vy (.str j)) : scal vx vy = true ∧ decide (vx = vy) = decide (i = j) := by
  cases rx; cases ry; exact ⟨rfl, by simp⟩
theorem scal_bl {i j : Bool} {H : Hp} {vx vy : V} (rx : Rp F H vx (.bool i)) (ry : Rp F H vy (.bool j)) : scal vx vy = true ∧ decide (vx = vy) = decide (i = j) := by
  cases rx; cases ry; exact ⟨rfl, by simp⟩
theorem wt_eqI (h : I2 F C a b ρ k fun k i j => Ψ k (decide (i = j))) : WPT F C (.Compare a [.Eq] [b] pos) ρ k Ψ := wt_cmp (fun X _ => op_eq) (nomark _) (h.imp fun k1 x h1 => h1.imp fun k2 y ⟨i, j, e1, e2, p⟩ => by subst e1 e2; exact rd_eqS (fun _ _ _ => scal_int) ⟨_, rfl, p⟩)
theorem wt_neI (h : I2 F C a b ρ k fun k i j => Ψ k (!decide (i = j))) : WPT F C (.Compare a [.NotEq] [b] pos) ρ k Ψ := wt_cmp (fun X _ => op_ne) (nomark _) (h.imp fun k1 x h1 => h1.imp fun k2 y ⟨i, j, e1, e2, p⟩ => by subst e1 e2; exact rd_neS (fun _ _ _ => scal_int) ⟨_, rfl, p⟩)
theorem we_eqI (h : I2 F C a b ρ k fun k i j => Φ k (.bool (decide (i = j)))) : WPE F C (.Compare a [.Eq] [b] pos) ρ k Φ := we_cmp (fun X _ => op_eq) (nomark _) (h.imp fun k1 x h1 => h1.imp fun k2 y ⟨i, j, e1, e2, p⟩ => by subst e1 e2; exact rd_eqS (fun _ _ _ => scal_int) p)
theorem we_neI (h : I2 F C a b ρ k fun k i j => Φ k (.bool (!decide (i = j)))) : WPE F C (.Compare a [.NotEq] [b] pos) ρ k Φ := we_cmp (fun X _ => op_ne) (nomark _) (h.imp fun k1 x h1 => h1.imp fun k2 y ⟨i, j, e1, e2, p⟩ => by subst e1 e2; exact rd_neS (fun _ _ _ => scal_int) p)
abbrev T2 (F : Fm) (C : Cs) (a b : Expr) (ρ : Rho) (k : Nat) (Θ : Nat → Str → Str → Prop) : Prop := WPE F C a ρ k fun k1 x => WPE F C b ρ k1 fun k2 y => ∃ i j, x = .str i ∧ y = .str j ∧ Θ k2 i j
theorem wt_eqT (h : T2 F C a b ρ k fun k i j => Ψ k (decide (i = j))) : WPT F C (.Compare a [.Eq] [b] pos) ρ k Ψ := wt_cmp (fun X _ => op_eq) (nomark _) (h.imp fun k1 x h1 => h1.imp fun k2 y ⟨i, j, e1, e2, p⟩ => by subst e1 e2; exact rd_eqS (fun _ _ _ => scal_str) ⟨_, rfl, p⟩)
theorem wt_neT (h : T2 F C a b ρ k fun k i j => Ψ k (!decide (i = j))) : WPT F C (.Compare a [.NotEq] [b] pos) ρ k Ψ := wt_cmp (fun X _ => op_ne) (nomark _) (h.imp fun k1 x h1 => h1.imp fun k2 y ⟨i, j, e1, e2, p⟩ => by subst e1 e2; exact rd_neS (fun _ _ _ => scal_str) ⟨_, rfl, p⟩)
theorem we_eqT (h : T2 F C a b ρ k fun k i j => Φ k (.bool (decide (i = j)))) : WPE F C (.Compare a [.Eq] [b] pos) ρ k Φ := we_cmp (fun X _ => op_eq) (nomark _) (h.imp fun k1 x h1 => h1.imp fun k2 y ⟨i, j, e1, e2, p⟩ => by subst e1 e2; exact rd_eqS (fun _ _ _ => scal_str) p)
theorem we_neT (h : T2 F C a b ρ k fun k i j => Φ k (.bool (!decide (i = j)))) : WPE F C (.Compare a [.NotEq] [b] pos) ρ k Φ := we_cmp (fun X _ => op_ne) (nomark _) (h.imp fun k1 x h1 => h1.imp fun k2 y ⟨i, j, e1, e2, p⟩ => by subst e1 e2; exact rd_neS (fun _ _ _ => scal_str) p)
end
end Dl

namespace Dl
open PySem PySem.Spec PyProof.Rows L2
section
variable {F : Fm} {C : Cs} {ρ : Rho} {k : Nat} {Φ Φ' : Nat → PyData → Prop} {Ψ Ψ' : Nat → Bool → Prop} {e a b : Expr} {es : List Expr} {pos : Pos} {P : DE}
/-! ### subscripts -/
theorem atI_some {α β : Type} {xs : List α} {ys : List β} (hl : xs.length = ys.length) {i : Int} {y : β} (h : atI ys i = some y) : ∃ j : Nat, ys[j]? = some y ∧ ∀ x, xs[j]? = some x → atI xs i = some x := by
  unfold atI at h ⊢
  rw [hl]
  cases e : ixN ys.length i with
  | none => rw [e] at h; cases h
  | some j => rw [e] at h; exact ⟨j, h, fun x hx => hx⟩
theorem ixK {X : Cx} (fx : Fits C X) : IxR X (rIx C.K) := by rw [← fx.K]; exact ix_seq
def ixD : PyData → PyData → Option PyData
  | .list ds, .int i => atI ds i
  | .tuple ds, .int i => atI ds i
  | _, _ => none
theorem we_ix (hK : F.K = C.K) (hs : PlainIx b) (h : WPE F C a ρ k fun k1 x => WPE F C b ρ k1 fun k2 y => ∃ d, ixD x y = some d ∧ Φ k2 d) : WPE F C (.Subscript a b pos) ρ k Φ :=
  of_pe (fun X fx => pe_ix (ixK fx) (peE fx) (peE fx) hs) (we_op (h.imp fun k1 x h1 => h1.imp fun k2 y ⟨d, e, p⟩ => fun H vx vy Q j rx ry q => by
    cases x with
    | list ds =>
      cases y with
      | int i =>
        cases rx with
        | @lst a xs _ ha hr =>
        cases ry
        obtain ⟨n, hn, hx⟩ := atI_some hr.length e
        obtain ⟨v, hv, rv⟩ := hr.get hn
        exact .inl ⟨a, xs, i, v, rfl, rfl, hK ▸ sql_of ha, hx v hv, q v d k2 H .refl j rv p⟩
      | _ => cases e
    | tuple ds =>
      cases y with
      | int i =>
        cases rx with
        | @tup a xs _ ha hr =>
        cases ry
        obtain ⟨n, hn, hx⟩ := atI_some hr.length e
        obtain ⟨v, hv, rv⟩ := hr.get hn
        exact .inr (.inl ⟨a, xs, i, v, rfl, rfl, hK ▸ sqt_of ha, hx v hv, q v d k2 H .refl j rv p⟩)
      | _ => cases e
    | _ => cases e))
/-! ### in, not in: flat things in a list or tuple of flat things -/
def flatD : PyData → Bool
  | .none | .bool _ | .int _ | .str _ => true
  | _ => false
theorem flat_rep {H : Hp} {v : V} {d : PyData} (r : Rp F H v d) (h : flatD d = true) : flatV v = true := by
  cases r <;> first | rfl | cases h
theorem flat_all {H : Hp} : ∀ {ds : List PyData} {vs : List V}, RpAll F H vs ds → ds.all flatD = true → vs.all flatV = true
  | [], _, r, _ => by cases r; rfl
  | d :: ds, _, r, h => by
    cases r with
    | cons r1 r2 =>
      rw [List.all_cons, Bool.and_eq_true] at h ⊢
      exact ⟨flat_rep r1 h.1, flat_all r2 h.2⟩
def seqD : PyData → Option (List PyData)
  | .list ds => some ds
  | .tuple ds => some ds
  | _ => none
theorem opInK {X : Cx} (fx : Fits C X) : OpR X (compareOp .In) (rIn C.K false) := by rw [← fx.K]; exact op_in_seq
theorem opNiK {X : Cx} (fx : Fits C X) : OpR X (compareOp .NotIn) (rIn C.K true) := by rw [← fx.K]; exact op_notIn_seq
theorem rd_in {neg : Bool} {x y : PyData} {ds : List PyData} {c : Bool} (hK : F.K = C.K) (hy : seqD y = some ds) (fx : flatD x = true) (fy : ds.all flatD = true) (hc : ∀ H vx vs, Rp F H vx x → RpAll F H vs ds → inV vx vs = c) (h : Φ k (.bool (if neg then !c else c))) : RD F (rIn C.K neg) x y k Φ := fun H vx vy Q j rx ry q => by
  cases ry with
  | @lst a xs _ ha hr => cases hy; exact ⟨a, xs, rfl, .inl (hK ▸ sql_of ha), flat_rep rx fx, flat_all hr fy, by rw [hc H vx xs rx hr]; exact q _ _ k H .refl j (.bl _) h⟩
  | @tup a xs _ ha hr => cases hy; exact ⟨a, xs, rfl, .inr (hK ▸ sqt_of ha), flat_rep rx fx, flat_all hr fy, by rw [hc H vx xs rx hr]; exact q _ _ k H .refl j (.bl _) h⟩
  | _ => cases hy
theorem inV_ints {i : Int} : ∀ (ns : List Int), inV (.int i) (ns.map V.int) = decide (i ∈ ns)
  | [] => by simp [inV]
  | n :: ns => by
    have ih := inV_ints (i := i) ns
    unfold inV at ih ⊢
    rw [List.map_cons, List.any_cons, ih]
    have : eqV (.int n) (.int i) = decide (n = i) := by
      unfold eqV
      by_cases h : n = i <;> simp [h]
    rw [this]
    by_cases h : n = i
    · simp [h]
    · simp [h, Ne.symm h, eq_comm]
/-- an int in a list or tuple of ints -/
theorem rd_inI {neg : Bool} {i : Int} {y : PyData} {ns : List Int} (hK : F.K = C.K) (hy : seqD y = some (ns.map PyData.int)) (h : Φ k (.bool (if neg then !decide (i ∈ ns) else decide (i ∈ ns)))) : RD F (rIn C.K neg) (.int i) y k Φ :=
  rd_in hK hy rfl (by rw [List.all_map]; exact List.all_eq_true.mpr fun _ _ => rfl) (fun H vx vs rx rv => by cases rx; rw [rv.ints]; exact inV_ints ns) h
abbrev N2 (F : Fm) (C : Cs) (a b : Expr) (ρ : Rho) (k : Nat) (Θ : Nat → Int → List Int → Prop) : Prop := WPE F C a ρ k fun k1 x => WPE F C b ρ k1 fun k2 y => ∃ i ns, x = .int i ∧ seqD y = some (ns.map PyData.int) ∧ Θ k2 i ns
theorem wt_inI (hK : F.K = C.K) (hm : behindInMarks .In b = false) (h : N2 F C a b ρ k fun k i ns => Ψ k (decide (i ∈ ns))) : WPT F C (.Compare a [.In] [b] pos) ρ k Ψ := wt_cmp (fun X fx => opInK fx) hm (h.imp fun k1 x h1 => h1.imp fun k2 y ⟨i, j, e1, e2, p⟩ => by subst e1; exact rd_inI hK e2 ⟨_, rfl, p⟩)
theorem wt_niI (hK : F.K = C.K) (hm : behindInMarks .NotIn b = false) (h : N2 F C a b ρ k fun k i ns => Ψ k (!decide (i ∈ ns))) : WPT F C (.Compare a [.NotIn] [b] pos) ρ k Ψ := wt_cmp (fun X fx => opNiK fx) hm (h.imp fun k1 x h1 => h1.imp fun k2 y ⟨i, j, e1, e2, p⟩ => by subst e1; exact rd_inI hK e2 ⟨_, rfl, p⟩)
theorem we_inI (hK : F.K = C.K) (hm : behindInMarks .In b = false) (h : N2 F C a b ρ k fun k i ns => Φ k (.bool (decide (i ∈ ns)))) : WPE F C (.Compare a [.In] [b] pos) ρ k Φ := we_cmp (fun X fx => opInK fx) hm (h.imp fun k1 x h1 => h1.imp fun k2 y ⟨i, j, e1, e2, p⟩ => by subst e1; exact rd_inI hK e2 p)
theorem we_niI (hK : F.K = C.K) (hm : behindInMarks .NotIn b = false) (h : N2 F C a b ρ k fun k i ns => Φ k (.bool (!decide (i ∈ ns)))) : WPE F C (.Compare a [.NotIn] [b] pos) ρ k Φ := we_cmp (fun X fx => opNiK fx) hm (h.imp fun k1 x h1 => h1.imp fun k2 y ⟨i, j, e1, e2, p⟩ => by subst e1; exact rd_inI hK e2 p)
/-- is None -/
theorem none_rep {H : Hp} {v : V} {d : PyData} (r : Rp F H v d) : (v = .non ↔ d = .none) := by
  cases r <;> constructor <;> intro h <;> first | rfl | cases h
def isNone : PyData → Bool
  | .none => true
  | _ => false
theorem dec_non {H : Hp} {v : V} {d : PyData} (r : Rp F H v d) : decide (v = .non) = isNone d := by
  cases r <;> rfl
theorem we_isN {jj : Nat} {p' : Pos} (h : WPE F C a ρ k fun k1 x => Φ k1 (.bool (isNone x))) : WPE F C (.Compare a [.Is] [.Constant .none jj p'] pos) ρ k Φ :=
  of_pe (fun X fx => pe_cmp (pc_isN (peE fx)) rfl) fun σ H Q en j q => h σ H _ en j fun v d k1 H1 l1 j1 r p => by
    show Q (.bl (decide (v = .non))) H1
    rw [dec_non r]; exact q _ _ k1 H1 l1 j1 (.bl _) p
theorem wt_isN {jj : Nat} {p' : Pos} (h : WPE F C a ρ k fun k1 x => Ψ k1 (isNone x)) : WPT F C (.Compare a [.Is] [.Constant .none jj p'] pos) ρ k Ψ :=
  of_pt (fun X fx => pt_cmp (pc_isN (peE fx)) rfl) fun σ H Q en j q => h σ H _ en j fun v d k1 H1 l1 j1 r p => by
    refine ⟨isNone d, ?_, q _ k1 H1 l1 j1 p⟩
    rw [dec_non r]
/-! ### built-ins -/
theorem lenK {X : Cx} (fx : Fits C X) : CallR X (.builtin "len") (fun xs H Q => ∃ p ys, xs = [.ref p] ∧ (SqL C.K H p ys ∨ SqT C.K H p ys) ∧ Q (.int ys.length) H) := by rw [← fx.K]; exact call_len_seq
theorem tupK {X : Cx} (fx : Fits C X) : CallR X (.type "tuple") (fun xs H Q => ∃ p ys, xs = [.ref p] ∧ ((SqL C.K H p ys ∧ ∀ l, H l = none → Q (.ref l) (upd H l (.tup ys))) ∨ (SqT C.K H p ys ∧ Q (.ref p) H))) := by rw [← fx.K]; exact call_tuple_of
theorem lstK {X : Cx} (fx : Fits C X) : CallR X (.type "list") (fun xs H Q => ∃ p ys, xs = [.ref p] ∧ (SqL C.K H p ys ∨ SqT C.K H p ys) ∧ ∀ l, H l = none → Q (.ref l) (upd H l (.lst ys))) := by rw [← fx.K]; exact call_list_of
theorem sumK {X : Cx} (fx : Fits C X) : CallR X (.builtin "sum") (rSum C.K) := by rw [← fx.K]; exact cr_sum fx.calm
theorem minK {X : Cx} (fx : Fits C X) : CallR X (.builtin "min") (rMin C.K) := by rw [← fx.K]; exact cr_min fx.calm
theorem maxK {X : Cx} (fx : Fits C X) : CallR X (.builtin "max") (rMax C.K) := by rw [← fx.K]; exact cr_max fx.calm
theorem srtK {X : Cx} (fx : Fits C X) : CallR X (.builtin "sorted") (rSortedI C.K) := by rw [← fx.K]; exact cr_sortedI
abbrev A1 (F : Fm) (C : Cs) (e : Expr) (ρ : Rho) (k : Nat) (Θ : Nat → PyData → Prop) : Prop := WPE F C e ρ k Θ
theorem wa_one {Θ : Nat → List PyData → Prop} (hs : ∀ env : Env, starEach [e] env = (false, eval e env) :: starEach [] env) (h : WPE F C e ρ k fun k1 x => Θ k1 [x]) : WPA F C [e] ρ k Θ := wa_cons hs (h.imp fun k1 x p => wa_nil p)
variable {p : Pos}
section
variable (hK : F.K = C.K)
include hK
theorem we_len (hg : C.sc.names.lookup ("len" : Str) = some .globalImplicit) (hm : C.mg ("len" : Str) = none) (hs : ∀ env : Env, starEach [e] env = (false, eval e env) :: starEach [] env) (h : WPE F C e ρ k fun k1 x => ∃ ds, seqD x = some ds ∧ Φ k1 (.int ds.length)) : WPE F C (.Call (.Name "len" p) [e] [] pos) ρ k Φ :=
  we_callB (fun X fx => lenK fx) hg hm boot_len (wa_one hs (h.imp fun k1 x ⟨ds, e, p⟩ => fun H vs Q j r q => by
    cases r with
    | cons r1 r2 =>
    cases r2
    cases r1 with
    | @lst a xs _ ha hr => cases e; exact ⟨a, xs, rfl, .inl (hK ▸ sql_of ha), by rw [hr.length]; exact q _ _ k1 H .refl j (.int _) p⟩
    | @tup a xs _ ha hr => cases e; exact ⟨a, xs, rfl, .inr (hK ▸ sqt_of ha), by rw [hr.length]; exact q _ _ k1 H .refl j (.int _) p⟩
    | _ => cases e)) (by decide) (by decide) hs
theorem we_tuple (hg : C.sc.names.lookup ("tuple" : Str) = some .globalImplicit) (hm : C.mg ("tuple" : Str) = none) (hs : ∀ env : Env, starEach [e] env = (false, eval e env) :: starEach [] env) (h : WPE F C e ρ k fun k1 x => ∃ ds, seqD x = some ds ∧ Φ k1 (.tuple ds)) : WPE F C (.Call (.Name "tuple" p) [e] [] pos) ρ k Φ :=
  we_callTy (T := "tuple") (fun X fx => tupK fx) hg hm (by decide +kernel) (wa_one hs (h.imp fun k1 x ⟨ds, e, p⟩ => fun H vs Q j r q => by
    cases r with
    | cons r1 r2 =>
    cases r2
    cases r1 with
    | @lst a xs _ ha hr => cases e; exact ⟨a, xs, rfl, .inl ⟨hK ▸ sql_of ha, fun l hl => q _ _ k1 _ (.new hl) (j.new hl) (rep_newT j hl hr) p⟩⟩
    | @tup a xs _ ha hr => cases e; exact ⟨a, xs, rfl, .inr ⟨hK ▸ sqt_of ha, q _ _ k1 H .refl j (.tup ha hr) p⟩⟩
    | _ => cases e)) (by decide) (by decide) hs
theorem we_list (hg : C.sc.names.lookup ("list" : Str) = some .globalImplicit) (hm : C.mg ("list" : Str) = none) (hs : ∀ env : Env, starEach [e] env = (false, eval e env) :: starEach [] env) (h : WPE F C e ρ k fun k1 x => ∃ ds, seqD x = some ds ∧ Φ k1 (.list ds)) : WPE F C (.Call (.Name "list" p) [e] [] pos) ρ k Φ :=
  we_callTy (T := "list") (fun X fx => lstK fx) hg hm (by decide +kernel) (wa_one hs (h.imp fun k1 x ⟨ds, e, p⟩ => fun H vs Q j r q => by
    cases r with
    | cons r1 r2 =>
    cases r2
    cases r1 with
    | @lst a xs _ ha hr => cases e; exact ⟨a, xs, rfl, .inl (hK ▸ sql_of ha), fun l hl => q _ _ k1 _ (.new hl) (j.new hl) (rep_newL j hl hr) p⟩
    | @tup a xs _ ha hr => cases e; exact ⟨a, xs, rfl, .inr (hK ▸ sqt_of ha), fun l hl => q _ _ k1 _ (.new hl) (j.new hl) (rep_newL j hl hr) p⟩
    | _ => cases e)) (by decide) (by decide) hs
theorem we_sum (hg : C.sc.names.lookup ("sum" : Str) = some .globalImplicit) (hm : C.mg ("sum" : Str) = none) (hs : ∀ env : Env, starEach [e] env = (false, eval e env) :: starEach [] env) (h : WPE F C e ρ k fun k1 x => ∃ ns : List Int, x = .list (ns.map PyData.int) ∧ Φ k1 (.int ns.sum)) : WPE F C (.Call (.Name "sum" p) [e] [] pos) ρ k Φ :=
  we_callB (id := "sum") (fun X fx => sumK fx) hg hm (by decide +kernel) (wa_one hs (h.imp fun k1 x ⟨ns, e, p⟩ => fun H vs Q j r q => by
    subst e
    cases r with
    | cons r1 r2 =>
    cases r2
    cases r1 with
    | @lst a xs _ ha hr => exact ⟨a, ns, rfl, hr.ints ▸ hK ▸ sql_of ha, q _ _ k1 H .refl j (.int _) p⟩)) (by decide) (by decide) hs
theorem we_min (hg : C.sc.names.lookup ("min" : Str) = some .globalImplicit) (hm : C.mg ("min" : Str) = none) (hs : ∀ env : Env, starEach [e] env = (false, eval e env) :: starEach [] env) (h : WPE F C e ρ k fun k1 x => ∃ ns : List Int, x = .list (ns.map PyData.int) ∧ 0 < ns.length ∧ ∀ m, m ∈ ns → (∀ y, y ∈ ns → m ≤ y) → Φ k1 (.int m)) : WPE F C (.Call (.Name "min" p) [e] [] pos) ρ k Φ :=
  we_callB (id := "min") (fun X fx => minK fx) hg hm (by decide +kernel) (wa_one hs (h.imp fun k1 x ⟨ns, e, hp, p⟩ => fun H vs Q j r q => by
    subst e
    cases r with
    | cons r1 r2 =>
    cases r2
    cases r1 with
    | @lst a xs _ ha hr => exact ⟨a, ns, rfl, hr.ints ▸ hK ▸ sql_of ha, hp, fun m hm hle => q _ _ k1 H .refl j (.int _) (p m hm hle)⟩)) (by decide) (by decide) hs
theorem we_sorted (hg : C.sc.names.lookup ("sorted" : Str) = some .globalImplicit) (hm : C.mg ("sorted" : Str) = none) (hs : ∀ env : Env, starEach [e] env = (false, eval e env) :: starEach [] env) (h : WPE F C e ρ k fun k1 x => ∃ ns : List Int, x = .list (ns.map PyData.int) ∧ ∀ ms : List Int, ms.Perm ns → ms.Pairwise (· ≤ ·) → Φ k1 (.list (ms.map PyData.int))) : WPE F C (.Call (.Name "sorted" p) [e] [] pos) ρ k Φ :=
  we_callB (id := "sorted") (fun X fx => srtK fx) hg hm (by decide +kernel) (wa_one hs (h.imp fun k1 x ⟨ns, e, p⟩ => fun H vs Q j r q => by
    subst e
    cases r with
    | cons r1 r2 =>
    cases r2
    cases r1 with
    | @lst a xs _ ha hr => exact ⟨a, ns, rfl, hr.ints ▸ hK ▸ sql_of ha, fun ms l hp hw hl => q _ _ k1 _ (.new hl) (j.new hl) (rep_newL j hl (RepAll.of_ints ms)) (p ms hp hw)⟩)) (by decide) (by decide) hs
end
theorem we_abs (hg : C.sc.names.lookup ("abs" : Str) = some .globalImplicit) (hm : C.mg ("abs" : Str) = none) (hs : ∀ env : Env, starEach [e] env = (false, eval e env) :: starEach [] env) (h : WPE F C e ρ k fun k1 x => ∃ i : Int, x = .int i ∧ Φ k1 (.int (if i < 0 then -i else i))) : WPE F C (.Call (.Name "abs" p) [e] [] pos) ρ k Φ :=
  we_callB (id := "abs") (fun X fx => call_abs) hg hm (by decide +kernel) (wa_one hs (h.imp fun k1 x ⟨i, e, p⟩ => fun H vs Q j r q => by
    subst e
    cases r with
    | cons r1 r2 =>
    cases r2
    cases r1
    exact ⟨i, rfl, q _ _ k1 H .refl j (.int _) p⟩)) (by decide) (by decide) hs
theorem we_intB (hg : C.sc.names.lookup ("int" : Str) = some .globalImplicit) (hm : C.mg ("int" : Str) = none) (hs : ∀ env : Env, starEach [e] env = (false, eval e env) :: starEach [] env) (h : WPE F C e ρ k fun k1 x => ∃ c : Bool, x = .bool c ∧ Φ k1 (.int (if c then 1 else 0))) : WPE F C (.Call (.Name "int" p) [e] [] pos) ρ k Φ :=
  we_callTy (T := "int") (fun X fx => call_int1) hg hm (by decide +kernel) (wa_one hs (h.imp fun k1 x ⟨i, e, p⟩ => fun H vs Q j r q => by
    subst e
    cases r with
    | cons r1 r2 =>
    cases r2
    cases r1
    exact .inr ⟨i, rfl, q _ _ k1 H .refl j (.int _) p⟩)) (by decide) (by decide) hs
/-- repr of data at any depth -/
theorem reprK {X : Cx} (fx : Fits C X) : CallR X (.builtin "repr") (fun xs H Q => ∃ v d, xs = [v] ∧ Dp C.K H v d ∧ d.showable = true ∧ d.hasDict = false ∧ d.depth ≤ 60 ∧ d.shown.length ≤ sizeLine ∧ Q (.str d.shown) H) := by
  intro pins s σ H vs us Q I rv h
  obtain ⟨v, d, e, hd, sh, nd, dp, sz, q⟩ := h
  subst e
  obtain ⟨u, rfl, ru⟩ := vals1 rv
  obtain ⟨as, rd⟩ := Dp.reads I d v u (fx.K ▸ hd) ru
  cases rd with
  | none => exact P.repr_of_none ⟨.str _, H, I.tok _, ⟨_, rfl⟩, q⟩
  | bool b => exact P.repr_of_bool ⟨.str _, H, I.tok _, ⟨_, rfl⟩, q⟩
  | int i t => exact P.repr_of_int (of_decide_eq_true sh) ⟨.str _, H, I.tok _, ⟨_, rfl⟩, q⟩
  | str x t => exact P.repr_of_str ⟨.str _, H, I.tok _, ⟨_, rfl⟩, q⟩ sz
  | list h1 h2 h3 h4 => exact repr_of_reads' (.list h1 h2 h3 h4) sh (fun z => by rw [nd] at z; cases z) fx.gd (by have := fx.room.units; omega) (fun _ _ z => z) (fun h' u tk hk => ⟨.str _, H, I.kept hk, ⟨_, rfl⟩, q⟩) sz
  | tuple h1 h2 h3 h4 => exact repr_of_reads' (.tuple h1 h2 h3 h4) sh (fun z => by rw [nd] at z; cases z) fx.gd (by have := fx.room.units; omega) (fun _ _ z => z) (fun h' u tk hk => ⟨.str _, H, I.kept hk, ⟨_, rfl⟩, q⟩) sz
  | dict h1 h2 h3 h4 h5 => cases nd
theorem we_repr (hK : F.K = C.K) (hg : C.sc.names.lookup ("repr" : Str) = some .globalImplicit) (hm : C.mg ("repr" : Str) = none) (hs : ∀ env : Env, starEach [e] env = (false, eval e env) :: starEach [] env) (h : WPE F C e ρ k fun k1 d => (d.showable = true ∧ d.hasDict = false ∧ d.depth ≤ 60 ∧ d.shown.length ≤ sizeLine) ∧ Φ k1 (.str d.shown)) : WPE F C (.Call (.Name "repr" p) [e] [] pos) ρ k Φ :=
  we_callB (id := "repr") (fun X fx => reprK fx) hg hm (by decide +kernel) (wa_one hs (h.imp fun k1 x ⟨⟨s1, s2, s3, s4⟩, p⟩ => fun H vs Q j r q => by
    cases r with
    | cons r1 r2 =>
    cases r2
    exact ⟨_, x, rfl, hK ▸ Rep.dp x _ r1 s2, s1, s2, s3, s4, q _ _ k1 H .refl j (.str _) p⟩)) (by decide) (by decide) hs
end
end Dl

namespace Dl
open PySem PySem.Spec PyProof.Rows L2
theorem iteD {c A B : Prop} [Decidable c] (h1 : c → A) (h2 : ¬ c → B) : if decide c = true then A else B := by
  by_cases h : c
  · rw [decide_eq_true h, if_pos rfl]; exact h1 h
  · rw [decide_eq_false h, if_neg Bool.false_ne_true]; exact h2 h
theorem iteB {c : Bool} {A B : Prop} (h1 : c = true → A) (h2 : c = false → B) : if c = true then A else B := by
  cases c with
  | true => rw [if_pos rfl]; exact h1 rfl
  | false => rw [if_neg Bool.false_ne_true]; exact h2 rfl
theorem iteNe {α : Type} [DecidableEq α] {x y : α} {A B : Prop} (e : x = y) (h : B) : if (!decide (x = y)) = true then A else B := by
  rw [decide_eq_true e, if_neg (by decide)]; exact h
theorem iteEq {α : Type} [DecidableEq α] {x y : α} {A B : Prop} (e : x = y) (h : A) : if decide (x = y) = true then A else B := by
  rw [decide_eq_true e, if_pos rfl]; exact h
theorem iteF' {A B : Prop} (h : B) : if (!true) = true then A else B := by
  rw [if_neg (by decide)]; exact h
/-- 0, 1, .. below z -/
def rg (z : Int) : List Int := (List.range z.toNat).map fun (j : Nat) => (j : Int)
theorem mem_rg {z i : Int} : i ∈ rg z ↔ 0 ≤ i ∧ i < z := by
  unfold rg
  rw [List.mem_map]
  constructor
  · rintro ⟨j, hj, rfl⟩
    have := List.mem_range.mp hj
    omega
  · rintro ⟨h0, h1⟩
    exact ⟨i.toNat, List.mem_range.mpr (by omega), by omega⟩
theorem rg_length {z : Int} : (rg z).length = z.toNat := by unfold rg; simp
theorem rg_succ (j : Nat) : rg ((j : Int) + 1) = rg (j : Int) ++ [(j : Int)] := by
  unfold rg
  rw [show ((j : Int) + 1).toNat = j + 1 by omega, show (j : Int).toNat = j by omega, List.range_succ, List.map_append]; rfl
theorem rg_pairwise {z : Int} : (rg z).Pairwise (· < ·) := by
  unfold rg
  rw [List.pairwise_map]
  exact List.pairwise_lt_range.imp fun h => by omega
theorem take_next {α : Type} {xs : List α} {j : Nat} {x : α} (h : xs[j]? = some x) : xs.take (j + 1) = xs.take j ++ [x] := by
  rw [List.take_add_one, h]; rfl
section
variable {F : Fm} {C : Cs} {ρ : Rho} {k : Nat} {Φ : Nat → PyData → Prop} {P : DE} {pos spos : Pos} {elt iter : Expr} {scope : Scope} {α : Type}
theorem we_mL (ei : α → PyData) (g : α → PyData) (i : Nat) {x : Str} {px : Pos} (b : Blk C scope i x) (hK : F.K = C.K) (hfs : ∀ (env : Env) (v : Value), foldedSetIterable iter env v = pure v)
    (h : WPE F C iter ρ k fun k1 d => ∃ as : List α, d = .list (as.map ei) ∧ as.length ≤ 1000000 ∧ (∀ D (j : α), j ∈ as → WPE (F.ext D) (C.blk scope) elt (ρ.set i (.d (ei j))) k1 fun k3 y => k3 = k1 ∧ y = g j) ∧ Φ k1 (.list ((as).map g))) : WPE F C (.ListComp elt [⟨.Name x px, iter, [], 0⟩] scope pos) ρ k Φ := by
  refine we_compL0 i b hK hfs (h.imp fun k1 d hh => ?_)
  obtain ⟨as, e, hz, hb, hf⟩ := hh
  refine ⟨fun j k2 acc => k2 = k1 ∧ acc = (as.take j).map g, as.map ei, e, by rw [List.length_map]; exact hz, ⟨rfl, by simp⟩, ?_, ?_⟩
  · rintro D j y k2 acc hy ⟨rfl, rfl⟩
    rw [List.getElem?_map] at hy
    cases ha' : as[j]? with
    | none => rw [ha'] at hy; cases hy
    | some a' =>
    rw [ha'] at hy
    cases hy
    have tn := take_next ha'
    refine (hb D _ (List.mem_of_getElem? ha')).imp fun k4 y' ⟨e1, e2⟩ => ⟨e1, ?_⟩
    rw [tn, e2, List.map_append]; rfl
  · rintro k2 acc ⟨rfl, rfl⟩
    rw [List.length_map, List.take_length]; exact hf
theorem ws_mL (ei : α → PyData) (g : α → PyData) (i iy : Nat) {x y : Str} {px py : Pos} (b : Blk C scope i x) (ty : Tgt C iy y) (hyl : C.sc.names.lookup y = some .local) (hk : C.sc.kind = .function) (hl : (py.line == pos.line) = true) (ha : (scope.names.any fun (n, k) => n == y && (k == .local || k == .cell)) = false) (hK : F.K = C.K) (hfs : ∀ (env : Env) (v : Value), foldedSetIterable iter env v = pure v)
    (h : WPE F C iter ρ k fun k1 d => ∃ as : List α, d = .list (as.map ei) ∧ as.length ≤ 1000000 ∧ (∀ D (j : α), j ∈ as → WPE (F.ext D) (C.blk scope) elt (ρ.set i (.d (ei j))) k1 fun k3 y => k3 = k1 ∧ y = g j) ∧ P.nx k1 (ρ.set iy (.d (.list ((as).map g))))) : WPS F C (.Assign [.Name y py] (.ListComp elt [⟨.Name x px, iter, [], 0⟩] scope pos) spos) ρ k P := by
  refine ws_compL0 i iy b ty hyl hk hl ha hK hfs (h.imp fun k1 d hh => ?_)
  obtain ⟨as, e, hz, hb, hf⟩ := hh
  refine ⟨fun j k2 acc => k2 = k1 ∧ acc = (as.take j).map g, as.map ei, e, by rw [List.length_map]; exact hz, ⟨rfl, by simp⟩, ?_, ?_⟩
  · rintro D j y k2 acc hy ⟨rfl, rfl⟩
    rw [List.getElem?_map] at hy
    cases ha' : as[j]? with
    | none => rw [ha'] at hy; cases hy
    | some a' =>
    rw [ha'] at hy
    cases hy
    have tn := take_next ha'
    refine (hb D _ (List.mem_of_getElem? ha')).imp fun k4 y' ⟨e1, e2⟩ => ⟨e1, ?_⟩
    rw [tn, e2, List.map_append]; rfl
  · rintro k2 acc ⟨rfl, rfl⟩
    rw [List.length_map, List.take_length]; exact hf
theorem we_fL (p : α → Bool) (ei : α → PyData) (g : α → PyData) (i : Nat) {x : Str} {px : Pos} {c : Expr} (b : Blk C scope i x) (hK : F.K = C.K) (hfs : ∀ (env : Env) (v : Value), foldedSetIterable iter env v = pure v)
    (h : WPE F C iter ρ k fun k1 d => ∃ as : List α, d = .list (as.map ei) ∧ as.length ≤ 1000000 ∧ (∀ D (j : α), j ∈ as → WPT (F.ext D) (C.blk scope) c (ρ.set i (.d (ei j))) k1 fun k2 b => k2 = k1 ∧ b = p j ∧ (b = true → WPE (F.ext D) (C.blk scope) elt (ρ.set i (.d (ei j))) k1 fun k3 y => k3 = k1 ∧ y = g j)) ∧ Φ k1 (.list (((as).filter p).map g))) : WPE F C (.ListComp elt [⟨.Name x px, iter, [c], 0⟩] scope pos) ρ k Φ := by
  refine we_compL1 i b hK hfs (h.imp fun k1 d hh => ?_)
  obtain ⟨as, e, hz, hb, hf⟩ := hh
  refine ⟨fun j k2 acc => k2 = k1 ∧ acc = ((as.take j).filter p).map g, as.map ei, e, by rw [List.length_map]; exact hz, ⟨rfl, by simp⟩, ?_, ?_⟩
  · rintro D j y k2 acc hy ⟨rfl, rfl⟩
    rw [List.getElem?_map] at hy
    cases ha' : as[j]? with
    | none => rw [ha'] at hy; cases hy
    | some a' =>
    rw [ha'] at hy
    cases hy
    have tn := take_next ha'
    refine (hb D _ (List.mem_of_getElem? ha')).imp fun k3 c' hc => ?_
    obtain ⟨rfl, ec, hel⟩ := hc
    cases c' with
    | true =>
      rw [if_pos rfl]
      refine (hel rfl).imp fun k4 y' ⟨e1, e2⟩ => ⟨e1, ?_⟩
      rw [tn, List.filter_append, List.map_append, e2, List.filter_cons, if_pos ec.symm]; rfl
    | false =>
      rw [if_neg Bool.false_ne_true]
      refine ⟨rfl, ?_⟩
      rw [tn, List.filter_append, List.map_append, List.filter_cons, if_neg (by rw [← ec]; exact Bool.false_ne_true)]; simp
  · rintro k2 acc ⟨rfl, rfl⟩
    rw [List.length_map, List.take_length]; exact hf
theorem ws_fL (p : α → Bool) (ei : α → PyData) (g : α → PyData) (i iy : Nat) {x y : Str} {px py : Pos} {c : Expr} (b : Blk C scope i x) (ty : Tgt C iy y) (hyl : C.sc.names.lookup y = some .local) (hk : C.sc.kind = .function) (hl : (py.line == pos.line) = true) (ha : (scope.names.any fun (n, k) => n == y && (k == .local || k == .cell)) = false) (hK : F.K = C.K) (hfs : ∀ (env : Env) (v : Value), foldedSetIterable iter env v = pure v)
    (h : WPE F C iter ρ k fun k1 d => ∃ as : List α, d = .list (as.map ei) ∧ as.length ≤ 1000000 ∧ (∀ D (j : α), j ∈ as → WPT (F.ext D) (C.blk scope) c (ρ.set i (.d (ei j))) k1 fun k2 b => k2 = k1 ∧ b = p j ∧ (b = true → WPE (F.ext D) (C.blk scope) elt (ρ.set i (.d (ei j))) k1 fun k3 y => k3 = k1 ∧ y = g j)) ∧ P.nx k1 (ρ.set iy (.d (.list (((as).filter p).map g))))) : WPS F C (.Assign [.Name y py] (.ListComp elt [⟨.Name x px, iter, [c], 0⟩] scope pos) spos) ρ k P := by
  refine ws_compL1 i iy b ty hyl hk hl ha hK hfs (h.imp fun k1 d hh => ?_)
  obtain ⟨as, e, hz, hb, hf⟩ := hh
  refine ⟨fun j k2 acc => k2 = k1 ∧ acc = ((as.take j).filter p).map g, as.map ei, e, by rw [List.length_map]; exact hz, ⟨rfl, by simp⟩, ?_, ?_⟩
  · rintro D j y k2 acc hy ⟨rfl, rfl⟩
    rw [List.getElem?_map] at hy
    cases ha' : as[j]? with
    | none => rw [ha'] at hy; cases hy
    | some a' =>
    rw [ha'] at hy
    cases hy
    have tn := take_next ha'
    refine (hb D _ (List.mem_of_getElem? ha')).imp fun k3 c' hc => ?_
    obtain ⟨rfl, ec, hel⟩ := hc
    cases c' with
    | true =>
      rw [if_pos rfl]
      refine (hel rfl).imp fun k4 y' ⟨e1, e2⟩ => ⟨e1, ?_⟩
      rw [tn, List.filter_append, List.map_append, e2, List.filter_cons, if_pos ec.symm]; rfl
    | false =>
      rw [if_neg Bool.false_ne_true]
      refine ⟨rfl, ?_⟩
      rw [tn, List.filter_append, List.map_append, List.filter_cons, if_neg (by rw [← ec]; exact Bool.false_ne_true)]; simp
  · rintro k2 acc ⟨rfl, rfl⟩
    rw [List.length_map, List.take_length]; exact hf
theorem we_mT (ei : α → PyData) (g : α → PyData) (i : Nat) {x : Str} {px : Pos} (b : Blk C scope i x) (hK : F.K = C.K) (hfs : ∀ (env : Env) (v : Value), foldedSetIterable iter env v = pure v)
    (h : WPE F C iter ρ k fun k1 d => ∃ as : List α, d = .tuple (as.map ei) ∧ as.length ≤ 1000000 ∧ (∀ D (j : α), j ∈ as → WPE (F.ext D) (C.blk scope) elt (ρ.set i (.d (ei j))) k1 fun k3 y => k3 = k1 ∧ y = g j) ∧ Φ k1 (.list ((as).map g))) : WPE F C (.ListComp elt [⟨.Name x px, iter, [], 0⟩] scope pos) ρ k Φ := by
  refine we_compT0 i b hK hfs (h.imp fun k1 d hh => ?_)
  obtain ⟨as, e, hz, hb, hf⟩ := hh
  refine ⟨fun j k2 acc => k2 = k1 ∧ acc = (as.take j).map g, as.map ei, e, by rw [List.length_map]; exact hz, ⟨rfl, by simp⟩, ?_, ?_⟩
  · rintro D j y k2 acc hy ⟨rfl, rfl⟩
    rw [List.getElem?_map] at hy
    cases ha' : as[j]? with
    | none => rw [ha'] at hy; cases hy
    | some a' =>
    rw [ha'] at hy
    cases hy
    have tn := take_next ha'
    refine (hb D _ (List.mem_of_getElem? ha')).imp fun k4 y' ⟨e1, e2⟩ => ⟨e1, ?_⟩
    rw [tn, e2, List.map_append]; rfl
  · rintro k2 acc ⟨rfl, rfl⟩
    rw [List.length_map, List.take_length]; exact hf
theorem ws_mT (ei : α → PyData) (g : α → PyData) (i iy : Nat) {x y : Str} {px py : Pos} (b : Blk C scope i x) (ty : Tgt C iy y) (hyl : C.sc.names.lookup y = some .local) (hk : C.sc.kind = .function) (hl : (py.line == pos.line) = true) (ha : (scope.names.any fun (n, k) => n == y && (k == .local || k == .cell)) = false) (hK : F.K = C.K) (hfs : ∀ (env : Env) (v : Value), foldedSetIterable iter env v = pure v)
    (h : WPE F C iter ρ k fun k1 d => ∃ as : List α, d = .tuple (as.map ei) ∧ as.length ≤ 1000000 ∧ (∀ D (j : α), j ∈ as → WPE (F.ext D) (C.blk scope) elt (ρ.set i (.d (ei j))) k1 fun k3 y => k3 = k1 ∧ y = g j) ∧ P.nx k1 (ρ.set iy (.d (.list ((as).map g))))) : WPS F C (.Assign [.Name y py] (.ListComp elt [⟨.Name x px, iter, [], 0⟩] scope pos) spos) ρ k P := by
  refine ws_compT0 i iy b ty hyl hk hl ha hK hfs (h.imp fun k1 d hh => ?_)
  obtain ⟨as, e, hz, hb, hf⟩ := hh
  refine ⟨fun j k2 acc => k2 = k1 ∧ acc = (as.take j).map g, as.map ei, e, by rw [List.length_map]; exact hz, ⟨rfl, by simp⟩, ?_, ?_⟩
  · rintro D j y k2 acc hy ⟨rfl, rfl⟩
    rw [List.getElem?_map] at hy
    cases ha' : as[j]? with
    | none => rw [ha'] at hy; cases hy
    | some a' =>
    rw [ha'] at hy
    cases hy
    have tn := take_next ha'
    refine (hb D _ (List.mem_of_getElem? ha')).imp fun k4 y' ⟨e1, e2⟩ => ⟨e1, ?_⟩
    rw [tn, e2, List.map_append]; rfl
  · rintro k2 acc ⟨rfl, rfl⟩
    rw [List.length_map, List.take_length]; exact hf
theorem we_fT (p : α → Bool) (ei : α → PyData) (g : α → PyData) (i : Nat) {x : Str} {px : Pos} {c : Expr} (b : Blk C scope i x) (hK : F.K = C.K) (hfs : ∀ (env : Env) (v : Value), foldedSetIterable iter env v = pure v)
    (h : WPE F C iter ρ k fun k1 d => ∃ as : List α, d = .tuple (as.map ei) ∧ as.length ≤ 1000000 ∧ (∀ D (j : α), j ∈ as → WPT (F.ext D) (C.blk scope) c (ρ.set i (.d (ei j))) k1 fun k2 b => k2 = k1 ∧ b = p j ∧ (b = true → WPE (F.ext D) (C.blk scope) elt (ρ.set i (.d (ei j))) k1 fun k3 y => k3 = k1 ∧ y = g j)) ∧ Φ k1 (.list (((as).filter p).map g))) : WPE F C (.ListComp elt [⟨.Name x px, iter, [c], 0⟩] scope pos) ρ k Φ := by
  refine we_compT1 i b hK hfs (h.imp fun k1 d hh => ?_)
  obtain ⟨as, e, hz, hb, hf⟩ := hh
  refine ⟨fun j k2 acc => k2 = k1 ∧ acc = ((as.take j).filter p).map g, as.map ei, e, by rw [List.length_map]; exact hz, ⟨rfl, by simp⟩, ?_, ?_⟩
  · rintro D j y k2 acc hy ⟨rfl, rfl⟩
    rw [List.getElem?_map] at hy
    cases ha' : as[j]? with
    | none => rw [ha'] at hy; cases hy
    | some a' =>
    rw [ha'] at hy
    cases hy
    have tn := take_next ha'
    refine (hb D _ (List.mem_of_getElem? ha')).imp fun k3 c' hc => ?_
    obtain ⟨rfl, ec, hel⟩ := hc
    cases c' with
    | true =>
      rw [if_pos rfl]
      refine (hel rfl).imp fun k4 y' ⟨e1, e2⟩ => ⟨e1, ?_⟩
      rw [tn, List.filter_append, List.map_append, e2, List.filter_cons, if_pos ec.symm]; rfl
    | false =>
      rw [if_neg Bool.false_ne_true]
      refine ⟨rfl, ?_⟩
      rw [tn, List.filter_append, List.map_append, List.filter_cons, if_neg (by rw [← ec]; exact Bool.false_ne_true)]; simp
  · rintro k2 acc ⟨rfl, rfl⟩
    rw [List.length_map, List.take_length]; exact hf
theorem ws_fT (p : α → Bool) (ei : α → PyData) (g : α → PyData) (i iy : Nat) {x y : Str} {px py : Pos} {c : Expr} (b : Blk C scope i x) (ty : Tgt C iy y) (hyl : C.sc.names.lookup y = some .local) (hk : C.sc.kind = .function) (hl : (py.line == pos.line) = true) (ha : (scope.names.any fun (n, k) => n == y && (k == .local || k == .cell)) = false) (hK : F.K = C.K) (hfs : ∀ (env : Env) (v : Value), foldedSetIterable iter env v = pure v)
    (h : WPE F C iter ρ k fun k1 d => ∃ as : List α, d = .tuple (as.map ei) ∧ as.length ≤ 1000000 ∧ (∀ D (j : α), j ∈ as → WPT (F.ext D) (C.blk scope) c (ρ.set i (.d (ei j))) k1 fun k2 b => k2 = k1 ∧ b = p j ∧ (b = true → WPE (F.ext D) (C.blk scope) elt (ρ.set i (.d (ei j))) k1 fun k3 y => k3 = k1 ∧ y = g j)) ∧ P.nx k1 (ρ.set iy (.d (.list (((as).filter p).map g))))) : WPS F C (.Assign [.Name y py] (.ListComp elt [⟨.Name x px, iter, [c], 0⟩] scope pos) spos) ρ k P := by
  refine ws_compT1 i iy b ty hyl hk hl ha hK hfs (h.imp fun k1 d hh => ?_)
  obtain ⟨as, e, hz, hb, hf⟩ := hh
  refine ⟨fun j k2 acc => k2 = k1 ∧ acc = ((as.take j).filter p).map g, as.map ei, e, by rw [List.length_map]; exact hz, ⟨rfl, by simp⟩, ?_, ?_⟩
  · rintro D j y k2 acc hy ⟨rfl, rfl⟩
    rw [List.getElem?_map] at hy
    cases ha' : as[j]? with
    | none => rw [ha'] at hy; cases hy
    | some a' =>
    rw [ha'] at hy
    cases hy
    have tn := take_next ha'
    refine (hb D _ (List.mem_of_getElem? ha')).imp fun k3 c' hc => ?_
    obtain ⟨rfl, ec, hel⟩ := hc
    cases c' with
    | true =>
      rw [if_pos rfl]
      refine (hel rfl).imp fun k4 y' ⟨e1, e2⟩ => ⟨e1, ?_⟩
      rw [tn, List.filter_append, List.map_append, e2, List.filter_cons, if_pos ec.symm]; rfl
    | false =>
      rw [if_neg Bool.false_ne_true]
      refine ⟨rfl, ?_⟩
      rw [tn, List.filter_append, List.map_append, List.filter_cons, if_neg (by rw [← ec]; exact Bool.false_ne_true)]; simp
  · rintro k2 acc ⟨rfl, rfl⟩
    rw [List.length_map, List.take_length]; exact hf
theorem we_mR (g : Int → PyData) (i : Nat) {x : Str} {px : Pos} (b : Blk C scope i x) {e : Expr} {pr pr2 : Pos} (hg : C.sc.names.lookup ("range" : Str) = some .globalImplicit) (hm : C.mg ("range" : Str) = none) (hse : ∀ env : Env, starEach [e] env = [(false, eval e env)]) (hfs : ∀ (env : Env) (v : Value), foldedSetIterable (.Call (.Name "range" pr) [e] [] pr2) env v = pure v)
    (h : WPE F C e ρ k fun k1 d => ∃ z : Int, d = .int z ∧ -(2 ^ 62) ≤ z ∧ z ≤ 1000000 ∧ (∀ D (j : Int), 0 ≤ j → j < z → WPE (F.ext D) (C.blk scope) elt (ρ.set i (.d (.int j))) k1 fun k3 y => k3 = k1 ∧ y = g j) ∧ Φ k1 (.list ((rg z).map g))) : WPE F C (.ListComp elt [⟨.Name x px, (.Call (.Name "range" pr) [e] [] pr2), [], 0⟩] scope pos) ρ k Φ := by
  refine we_compR0 i b hg hm hse hfs (h.imp fun k1 d hh => ?_)
  obtain ⟨z, e, z1, z2, hb, hf⟩ := hh
  refine ⟨fun j k2 acc => k2 = k1 ∧ acc = (rg (j : Int)).map g, z, e, z1, z2, ⟨rfl, rfl⟩, ?_, ?_⟩
  · rintro D j k2 acc hj ⟨rfl, rfl⟩
    have tn : rg ((j + 1 : Nat) : Int) = rg (j : Int) ++ [(j : Int)] := by rw [show ((j + 1 : Nat) : Int) = (j : Int) + 1 by omega, rg_succ]
    refine (hb D _ (by omega) (by omega)).imp fun k4 y' ⟨e1, e2⟩ => ⟨e1, ?_⟩
    rw [tn, e2, List.map_append]; rfl
  · rintro k2 acc ⟨rfl, rfl⟩
    have ez : rg ((z.toNat : Nat) : Int) = rg z := by unfold rg; congr 2
    rw [ez]; exact hf
theorem ws_mR (g : Int → PyData) (i iy : Nat) {x y : Str} {px py : Pos} (b : Blk C scope i x) (ty : Tgt C iy y) (hyl : C.sc.names.lookup y = some .local) (hk : C.sc.kind = .function) (hl : (py.line == pos.line) = true) (ha : (scope.names.any fun (n, k) => n == y && (k == .local || k == .cell)) = false) {e : Expr} {pr pr2 : Pos} (hg : C.sc.names.lookup ("range" : Str) = some .globalImplicit) (hm : C.mg ("range" : Str) = none) (hse : ∀ env : Env, starEach [e] env = [(false, eval e env)]) (hfs : ∀ (env : Env) (v : Value), foldedSetIterable (.Call (.Name "range" pr) [e] [] pr2) env v = pure v)
    (h : WPE F C e ρ k fun k1 d => ∃ z : Int, d = .int z ∧ -(2 ^ 62) ≤ z ∧ z ≤ 1000000 ∧ (∀ D (j : Int), 0 ≤ j → j < z → WPE (F.ext D) (C.blk scope) elt (ρ.set i (.d (.int j))) k1 fun k3 y => k3 = k1 ∧ y = g j) ∧ P.nx k1 (ρ.set iy (.d (.list ((rg z).map g))))) : WPS F C (.Assign [.Name y py] (.ListComp elt [⟨.Name x px, (.Call (.Name "range" pr) [e] [] pr2), [], 0⟩] scope pos) spos) ρ k P := by
  refine ws_compR0 i iy b ty hyl hk hl ha hg hm hse hfs (h.imp fun k1 d hh => ?_)
  obtain ⟨z, e, z1, z2, hb, hf⟩ := hh
  refine ⟨fun j k2 acc => k2 = k1 ∧ acc = (rg (j : Int)).map g, z, e, z1, z2, ⟨rfl, rfl⟩, ?_, ?_⟩
  · rintro D j k2 acc hj ⟨rfl, rfl⟩
    have tn : rg ((j + 1 : Nat) : Int) = rg (j : Int) ++ [(j : Int)] := by rw [show ((j + 1 : Nat) : Int) = (j : Int) + 1 by omega, rg_succ]
    refine (hb D _ (by omega) (by omega)).imp fun k4 y' ⟨e1, e2⟩ => ⟨e1, ?_⟩
    rw [tn, e2, List.map_append]; rfl
  · rintro k2 acc ⟨rfl, rfl⟩
    have ez : rg ((z.toNat : Nat) : Int) = rg z := by unfold rg; congr 2
    rw [ez]; exact hf
theorem we_fR (p : Int → Bool) (g : Int → PyData) (i : Nat) {x : Str} {px : Pos} {c : Expr} (b : Blk C scope i x) {e : Expr} {pr pr2 : Pos} (hg : C.sc.names.lookup ("range" : Str) = some .globalImplicit) (hm : C.mg ("range" : Str) = none) (hse : ∀ env : Env, starEach [e] env = [(false, eval e env)]) (hfs : ∀ (env : Env) (v : Value), foldedSetIterable (.Call (.Name "range" pr) [e] [] pr2) env v = pure v)
    (h : WPE F C e ρ k fun k1 d => ∃ z : Int, d = .int z ∧ -(2 ^ 62) ≤ z ∧ z ≤ 1000000 ∧ (∀ D (j : Int), 0 ≤ j → j < z → WPT (F.ext D) (C.blk scope) c (ρ.set i (.d (.int j))) k1 fun k2 b => k2 = k1 ∧ b = p j ∧ (b = true → WPE (F.ext D) (C.blk scope) elt (ρ.set i (.d (.int j))) k1 fun k3 y => k3 = k1 ∧ y = g j)) ∧ Φ k1 (.list (((rg z).filter p).map g))) : WPE F C (.ListComp elt [⟨.Name x px, (.Call (.Name "range" pr) [e] [] pr2), [c], 0⟩] scope pos) ρ k Φ := by
  refine we_compR1 i b hg hm hse hfs (h.imp fun k1 d hh => ?_)
  obtain ⟨z, e, z1, z2, hb, hf⟩ := hh
  refine ⟨fun j k2 acc => k2 = k1 ∧ acc = ((rg (j : Int)).filter p).map g, z, e, z1, z2, ⟨rfl, rfl⟩, ?_, ?_⟩
  · rintro D j k2 acc hj ⟨rfl, rfl⟩
    have tn : rg ((j + 1 : Nat) : Int) = rg (j : Int) ++ [(j : Int)] := by rw [show ((j + 1 : Nat) : Int) = (j : Int) + 1 by omega, rg_succ]
    refine (hb D _ (by omega) (by omega)).imp fun k3 c' hc => ?_
    obtain ⟨rfl, ec, hel⟩ := hc
    cases c' with
    | true =>
      rw [if_pos rfl]
      refine (hel rfl).imp fun k4 y' ⟨e1, e2⟩ => ⟨e1, ?_⟩
      rw [tn, List.filter_append, List.map_append, e2, List.filter_cons, if_pos ec.symm]; rfl
    | false =>
      rw [if_neg Bool.false_ne_true]
      refine ⟨rfl, ?_⟩
      rw [tn, List.filter_append, List.map_append, List.filter_cons, if_neg (by rw [← ec]; exact Bool.false_ne_true)]; simp
  · rintro k2 acc ⟨rfl, rfl⟩
    have ez : rg ((z.toNat : Nat) : Int) = rg z := by unfold rg; congr 2
    rw [ez]; exact hf
theorem ws_fR (p : Int → Bool) (g : Int → PyData) (i iy : Nat) {x y : Str} {px py : Pos} {c : Expr} (b : Blk C scope i x) (ty : Tgt C iy y) (hyl : C.sc.names.lookup y = some .local) (hk : C.sc.kind = .function) (hl : (py.line == pos.line) = true) (ha : (scope.names.any fun (n, k) => n == y && (k == .local || k == .cell)) = false) {e : Expr} {pr pr2 : Pos} (hg : C.sc.names.lookup ("range" : Str) = some .globalImplicit) (hm : C.mg ("range" : Str) = none) (hse : ∀ env : Env, starEach [e] env = [(false, eval e env)]) (hfs : ∀ (env : Env) (v : Value), foldedSetIterable (.Call (.Name "range" pr) [e] [] pr2) env v = pure v)
    (h : WPE F C e ρ k fun k1 d => ∃ z : Int, d = .int z ∧ -(2 ^ 62) ≤ z ∧ z ≤ 1000000 ∧ (∀ D (j : Int), 0 ≤ j → j < z → WPT (F.ext D) (C.blk scope) c (ρ.set i (.d (.int j))) k1 fun k2 b => k2 = k1 ∧ b = p j ∧ (b = true → WPE (F.ext D) (C.blk scope) elt (ρ.set i (.d (.int j))) k1 fun k3 y => k3 = k1 ∧ y = g j)) ∧ P.nx k1 (ρ.set iy (.d (.list (((rg z).filter p).map g))))) : WPS F C (.Assign [.Name y py] (.ListComp elt [⟨.Name x px, (.Call (.Name "range" pr) [e] [] pr2), [c], 0⟩] scope pos) spos) ρ k P := by
  refine ws_compR1 i iy b ty hyl hk hl ha hg hm hse hfs (h.imp fun k1 d hh => ?_)
  obtain ⟨z, e, z1, z2, hb, hf⟩ := hh
  refine ⟨fun j k2 acc => k2 = k1 ∧ acc = ((rg (j : Int)).filter p).map g, z, e, z1, z2, ⟨rfl, rfl⟩, ?_, ?_⟩
  · rintro D j k2 acc hj ⟨rfl, rfl⟩
    have tn : rg ((j + 1 : Nat) : Int) = rg (j : Int) ++ [(j : Int)] := by rw [show ((j + 1 : Nat) : Int) = (j : Int) + 1 by omega, rg_succ]
    refine (hb D _ (by omega) (by omega)).imp fun k3 c' hc => ?_
    obtain ⟨rfl, ec, hel⟩ := hc
    cases c' with
    | true =>
      rw [if_pos rfl]
      refine (hel rfl).imp fun k4 y' ⟨e1, e2⟩ => ⟨e1, ?_⟩
      rw [tn, List.filter_append, List.map_append, e2, List.filter_cons, if_pos ec.symm]; rfl
    | false =>
      rw [if_neg Bool.false_ne_true]
      refine ⟨rfl, ?_⟩
      rw [tn, List.filter_append, List.map_append, List.filter_cons, if_neg (by rw [← ec]; exact Bool.false_ne_true)]; simp
  · rintro k2 acc ⟨rfl, rfl⟩
    have ez : rg ((z.toNat : Nat) : Int) = rg z := by unfold rg; congr 2
    rw [ez]; exact hf
end
end Dl

namespace Dl
open PySem PySem.Spec PyProof.Rows L2
/-! ### the laws' draws: a list [cells, count, rests] -/
def DkM (st a r : Addr) (b : Addr) : Prop := b = st ∨ b = a ∨ b = r
def DkG (st a r : Addr) (k : Nat) (H : Hp) : Prop := ∃ (cells rests : List Int) (n : Int), H st = some (.lst [.ref a, .int n, .ref r]) ∧ H a = some (.lst (cells.map V.int)) ∧ H r = some (.lst (rests.map V.int)) ∧
  cells.length = rests.length ∧ 0 < cells.length ∧ 0 ≤ n ∧ n + k ≤ 1000000
theorem DkG.weak {st a r : Addr} {k k' : Nat} {H : Hp} (h : DkG st a r k H) (hk : k' ≤ k) : DkG st a r k' H := by
  obtain ⟨c, rs, n, h1, h2, h3, h4, h5, h6, h7⟩ := h
  exact ⟨c, rs, n, h1, h2, h3, h4, h5, h6, by omega⟩
theorem DkG.at {st a r : Addr} {k : Nat} {H H' : Hp} (h : DkG st a r k H) (e : ∀ b, DkM st a r b → H' b = H b) : DkG st a r k H' := by
  obtain ⟨c, rs, n, h1, h2, h3, h4⟩ := h
  exact ⟨c, rs, n, (e st (.inl rfl)).trans h1, (e a (.inr (.inl rfl))).trans h2, (e r (.inr (.inr rfl))).trans h3, h4⟩
theorem DkG.live {st a r : Addr} {k : Nat} {H : Hp} (h : DkG st a r k H) (b : Addr) (hb : DkM st a r b) : H b ≠ none := by
  obtain ⟨c, rs, n, h1, h2, h3, h4⟩ := h
  rcases hb with rfl | rfl | rfl
  · rw [h1]; exact fun z => nomatch z
  · rw [h2]; exact fun z => nomatch z
  · rw [h3]; exact fun z => nomatch z
theorem DkG.lv {st a r : Addr} {k : Nat} {H : Hp} (h : DkG st a r k H) (b : Addr) (hb : DkM st a r b) : Lv H b := by
  obtain ⟨c, rs, n, h1, h2, h3, h4⟩ := h
  rcases hb with rfl | rfl | rfl
  · exact lv_lst h1
  · exact lv_lst h2
  · exact lv_lst h3
def dkFm (K : PySem.W.Frag) (S : Addr → Prop) (H : Hp) (st a r : Addr) : Fm where
  K := K
  S := fun b => S b ∨ DkM st a r b
  M := DkM st a r
  H0 := H
  G := DkG st a r
  ms := fun b h => .inr h
  gm := fun k H H' g e _ => g.at e
  gl := fun k H g b hb => g.live b hb
/-- the frame knows the draws -/
structure IsDk (F : Fm) (st a r : Addr) : Prop where
  M : F.M = DkM st a r
  G : F.G = DkG st a r
theorem IsDk.ext {F : Fm} {st a r : Addr} (h : IsDk F st a r) (D : Addr) : IsDk (F.ext D) st a r := ⟨h.M, h.G⟩
theorem isDk_fm {K : PySem.W.Frag} {S : Addr → Prop} {H : Hp} {st a r : Addr} : IsDk (dkFm K S H st a r) st a r := ⟨rfl, rfl⟩
/-- a def that draws: at most `cost` draws; Pre of its data, R what it may hand back -/
def spDraw (K : PySem.W.Frag) (cost : Nat) (Pre : List PyData → Prop) (R : Rel) : Sp := fun vs H Q _ => ∃ (S : Addr → Prop) (st a r : Addr) (vs' : List V) (ds : List PyData) (k : Nat), vs = .ref st :: vs' ∧ DkG st a r (k + cost) H ∧ (∀ b, S b → Lv H b) ∧ (∀ b, DkM st a r b → S b) ∧ RepAll K S H vs' ds ∧ Pre ds ∧
  ∀ v d H', (∀ b o, ¬ DkM st a r b → H b = some o → H' b = some o) → DkG st a r k H' → Rep K S H' v d → R ds d → Q v H'
structure DFn (P : Program) (w : World) (K : PySem.W.Frag) (mg : Str → Option Value) (base : Heap) (lvl : Nat) (x : Str) (cost : Nat) (Pre : List PyData → Prop) (R : Rel) : Prop where
  ex : ∃ (fa : Addr) (fd : FuncData) (ps : List Str), FnG P w K mg base lvl fa fd ps (spDraw K cost Pre R) ∧ mg x = some (.ref fa) ∧ PySem.W.keepIn K (.ref fa) = true ∧ L2.Binds K fd ps []
section
variable {P : Program} {w : World} {K : PySem.W.Frag} {mg : Str → Option Value} {base : Heap}
theorem env_raw {F : Fm} {H : Hp} {N : List Str} {v : V} {vs : List V} {ds : List PyData} (r : RpAll F H vs ds) : EnvOk F H (L2.start N (v :: vs)) (.raw v :: (ds.map SV.d ++ List.replicate (N.length - (ds.length + 1)) SV.un)) := fun i sv e => by
  have hl := r.length
  unfold L2.start
  cases i with
  | zero => cases e; exact ⟨some v, rfl, rfl⟩
  | succ i =>
    have e' : (ds.map SV.d ++ List.replicate (N.length - (ds.length + 1)) SV.un)[i]? = some sv := e
    show ∃ x, ((vs.map some) ++ List.replicate (N.length - (vs.length + 1)) none)[i]? = some x ∧ SlotOk F H sv x
    by_cases hi : i < ds.length
    · rw [List.getElem?_append_left (by simpa using hi), List.getElem?_map, List.getElem?_eq_getElem hi] at e'
      cases e'
      obtain ⟨u, hu, ru⟩ := r.get (List.getElem?_eq_getElem hi)
      refine ⟨some u, ?_, u, rfl, ru⟩
      rw [List.getElem?_append_left (by simpa [hl] using hi), List.getElem?_map, hu]; rfl
    · rw [List.getElem?_append_right (by simpa using hi)] at e'
      rw [List.getElem?_append_right (by simp; omega)]
      simp only [List.length_map] at e' ⊢
      rw [List.getElem?_replicate] at e' ⊢
      rw [hl]
      by_cases hj : i - ds.length < N.length - (ds.length + 1)
      · rw [if_pos hj] at e' ⊢
        cases e'
        exact ⟨none, rfl, trivial⟩
      · rw [if_neg hj] at e'; cases e'
def drawFm (K : PySem.W.Frag) (S : Addr → Prop) (H : Hp) (st a r : Addr) (hS : ∀ b, DkM st a r b → S b) : Fm where
  K := K
  S := S
  M := DkM st a r
  H0 := H
  G := DkG st a r
  ms := hS
  gm := fun k H H' g e _ => g.at e
  gl := fun k H g b hb => g.live b hb
theorem draw_ok {x qual : Str} {st : Stmt} {f : Addr} {fd : FuncData} {N ps : List Str} {k cost : Nat} {Pre : List PyData → Prop} {R : Rel} (Fn : Fun K x qual st f fd) (Sc : FnScope N ps (defScope st)) (len : ∀ ds, Pre ds → ds.length + 1 = ps.length)
    (body : ∀ (F : Fm) (s a r : Addr) (ds : List PyData) (kk : Nat), IsDk F s a r → F.K = K → Pre ds → WPB F (bodyCs P w K mg base N (defScope st) k) (defBody st) (.raw (.ref s) :: (ds.map SV.d ++ List.replicate (N.length - (ds.length + 1)) SV.un)) (kk + cost) { nx := fun k' _ => kk ≤ k' ∧ R ds .none, rt := fun k' d => kk ≤ k' ∧ R ds d, bk := fun _ _ => False, ct := fun _ _ => False }) :
    FnG P w K mg base (k + 1) f fd ps (spDraw K cost Pre R) := by
  refine FnG.of_body Fn Sc (fun vs H Q E h => ?_) (fun cdv A outer s H vs Q hgd hr h => ?_)
  · obtain ⟨S, st, a, r, vs', ds, k, rfl, _, _, _, rr, hp, _⟩ := h
    rw [List.length_cons, rr.length, len ds hp]
  · obtain ⟨S, st, a, r, vs', ds, kk, rfl, g, al, hS, rr, hp, q⟩ := h
    refine ⟨_, pbB (fits_body hgd hr), ?_⟩
    refine body (drawFm K S H st a r hS) st a r ds kk ⟨rfl, rfl⟩ rfl hp (L2.start N (.ref st :: vs')) H _ (env_raw (F := drawFm K S H st a r hS) rr) ⟨g, fun b o _ e => e, al⟩ ?_ ?_ ?_ ?_
    · exact fun ρ' σ' k' H' _ _ j' e => q _ .none H' (fun b o n h => j'.le b o (fun z => z.elim n id) h) (DkG.weak j'.g e.1) .non e.2
    · exact fun v d' k' H' j' r' e => q v d' H' (fun b o n h => j'.le b o (fun z => z.elim n id) h) (DkG.weak j'.g e.1) r' e.2
    · exact fun _ _ _ _ _ _ _ z => z.elim
    · exact fun _ _ _ _ _ _ _ z => z.elim
end
section
variable {F : Fm} {C : Cs} {ρ : Rho} {k : Nat} {Φ : Nat → PyData → Prop} {es : List Expr} {pos p py : Pos} {x y : Str}
/-- a call of a def that draws, the state by its name -/
theorem we_callD {s a r : Addr} (dk : IsDk F s a r) {j cost : Nat} {Pre : List PyData → Prop} {R : Rel} (hF : DFn C.P C.w C.K C.mg C.base j x cost Pre R) (hl : j ≤ C.lvl) (hK : F.K = C.K) (i : Nat) (hg : C.sc.names.lookup x = some .globalImplicit) (hN : C.N[i]? = some y) (hv : Vis C.sc y) (hr : ρ[i]? = some (.raw (.ref s)))
    (h : WPA F C es ρ k fun k1 ds => Pre ds ∧ ∃ k2, k1 = k2 + cost ∧ ∀ d, R ds d → Φ k2 d) (hdb : (x == ("__debug__" : Str)) = false := by decide) (hd : (y == ("__debug__" : Str)) = false := by decide) (hcd : (y == ("__classdict__" : Str)) = false := by decide)
    (hss : ∀ env : Env, starEach (.Name y py :: es) env = (false, eval (.Name y py) env) :: starEach es env := by intro _; rfl) (hpl : ∀ env : Env, ((backTo pos (starEach es env)).any fun x => x.fst) = false := by intro _; rfl) :
    WPE F C (.Call (.Name x p) (.Name y py :: es) [] pos) ρ k Φ := by
  obtain ⟨fa, fd, ps, G, hm, kp, hb⟩ := hF.ex
  refine of_pe (fun X fx => pe_callF fx G hl hg hm kp hb (pa_cons (pe_var (i := i) (by rw [fx.N]; exact hN) (by rw [fx.sc]; exact hv) hd hcd) (paA fx) (hss X.env)) hdb hss hpl) fun σ H Q en jj q => ?_
  refine ⟨_, en.raw hr, ?_⟩
  refine h σ H _ en jj fun vs ds k1 H1 l1 j1 r1 ⟨hp, k2, e, hf⟩ => ?_
  subst e
  refine ⟨F.S, s, a, r, vs, ds, k2, rfl, dk.G ▸ j1.g, j1.al, fun b hb => F.ms b (dk.M ▸ hb), hK ▸ r1, hp, fun v d H' keep g rv hR => ?_⟩
  have le : Le F H1 H' := fun b o n e => keep b o (fun z => n (.inl (by rw [dk.M]; exact z))) e
  refine q v d k2 H' (l1.trans le) ⟨by rw [dk.G]; exact g, fun b o n e => le b o n (j1.le b o n e), fun b hb => ?_⟩ (by show Rep F.K F.S H' v d; rw [hK]; exact rv) (hf d hR)
  by_cases hM : DkM s a r b
  · exact g.lv b hM
  · exact (j1.al b hb).keep fun o e => keep b o hM e
end
end Dl

namespace Dl
open PySem PySem.Spec PyProof.Rows L2
/-! ### data whose repr is within the line -/
structure Fine (n dp : Nat) (d : PyData) : Prop where
  sh : d.showable = true
  nd : d.hasDict = false
  dp : d.depth ≤ dp
  sz : d.shown.length ≤ n
theorem Fine.ok {n dp : Nat} {d : PyData} (h : Fine n dp d) (hn : n ≤ 16000000 := by decide) (hd : dp ≤ 60 := by decide) : d.showable = true ∧ d.hasDict = false ∧ d.depth ≤ 60 ∧ d.shown.length ≤ sizeLine :=
  ⟨h.sh, h.nd, Nat.le_trans h.dp hd, Nat.le_trans h.sz (Nat.le_trans hn (by decide))⟩
theorem Fine.mono {n n' dp dp' : Nat} {d : PyData} (h : Fine n dp d) (hn : n ≤ n') (hd : dp ≤ dp') : Fine n' dp' d := ⟨h.sh, h.nd, Nat.le_trans h.dp hd, Nat.le_trans h.sz hn⟩
theorem fine_int {i : Int} (h : i.natAbs < 10 ^ 30) : Fine 31 0 (.int i) := by
  refine ⟨?_, by simp only [PyData.hasDict], by simp only [PyData.depth]; exact Nat.le_refl _, ?_⟩
  · simp only [PyData.showable, decide_eq_true_eq]
    by_cases h0 : i.natAbs = 0
    · rw [h0]; decide
    · exact (Nat.log2_lt h0).mpr (Nat.lt_trans h (by decide +kernel))
  · simp only [PyData.shown]
    rw [PySem.ofString_length]
    exact int_text_length_le10 (by decide) h
theorem fine_none : Fine 4 0 .none := ⟨by simp only [PyData.showable], by simp only [PyData.hasDict], by simp only [PyData.depth]; exact Nat.le_refl _, by simp only [PyData.shown]; decide +kernel⟩
theorem fine_bool (b : Bool) : Fine 5 0 (.bool b) := ⟨by simp only [PyData.showable], by simp only [PyData.hasDict], by simp only [PyData.depth]; exact Nat.le_refl _, by cases b <;> simp only [PyData.shown] <;> decide +kernel⟩
section
variable {n dp : Nat}
theorem fine_all : ∀ {ds : List PyData}, (∀ d ∈ ds, Fine n dp d) → PyData.showableAll ds = true ∧ PyData.hasDictAll ds = false ∧ PyData.depthAll ds ≤ dp ∧ ((PyData.shownAll ds).map (·.length)).sum ≤ ds.length * n ∧ (PyData.shownAll ds).length = ds.length
  | [], _ => by simp [PyData.showableAll, PyData.hasDictAll, PyData.depthAll, PyData.shownAll]
  | d :: ds, h => by
    obtain ⟨h1, h2, h3, h4, h5⟩ := fine_all (ds := ds) fun d hd => h d (List.mem_cons_of_mem _ hd)
    have f := h d List.mem_cons_self
    have := f.dp
    have := f.sz
    refine ⟨by simp only [PyData.showableAll, f.sh, h1, Bool.and_self], by simp only [PyData.hasDictAll, f.nd, h2, Bool.or_self], by simp only [PyData.depthAll]; omega, ?_, by simp only [PyData.shownAll, List.length_cons, h5]⟩
    simp only [PyData.shownAll, List.map_cons, List.sum_cons, List.length_cons, Nat.succ_mul]
    omega
theorem fine_tuple {ds : List PyData} {L : Nat} (h : ∀ d ∈ ds, Fine n dp d) (hl : ds.length ≤ L) : Fine (L * (n + 2) + 3) (dp + 1) (.tuple ds) := by
  obtain ⟨h1, h2, h3, h4, h5⟩ := fine_all h
  refine ⟨by simp only [PyData.showable, h1], by simp only [PyData.hasDict, h2], by simp only [PyData.depth]; omega, ?_⟩
  simp only [PyData.shown]
  refine Nat.le_trans (tupleText_len_le _) ?_
  rw [h5, Nat.mul_add]
  have : ds.length * n ≤ L * n := Nat.mul_le_mul_right n hl
  omega
theorem fine_list {ds : List PyData} {L : Nat} (h : ∀ d ∈ ds, Fine n dp d) (hl : ds.length ≤ L) : Fine (L * (n + 2) + 3) (dp + 1) (.list ds) := by
  obtain ⟨h1, h2, h3, h4, h5⟩ := fine_all h
  refine ⟨by simp only [PyData.showable, h1], by simp only [PyData.hasDict, h2], by simp only [PyData.depth]; omega, ?_⟩
  simp only [PyData.shown]
  refine Nat.le_trans (listText_len_le _) ?_
  rw [h5, Nat.mul_add]
  have : ds.length * n ≤ L * n := Nat.mul_le_mul_right n hl
  omega
end
theorem fine_ints {ns : List Int} {L : Nat} (h : ∀ i ∈ ns, i.natAbs < 10 ^ 30) (hl : ns.length ≤ L) : Fine (L * 33 + 3) 1 (.tuple (ns.map PyData.int)) :=
  fine_tuple (n := 31) (dp := 0) (fun d hd => by obtain ⟨i, hi, rfl⟩ := List.mem_map.mp hd; exact fine_int (h i hi)) (by rw [List.length_map]; exact hl)
theorem fine_intsL {ns : List Int} {L : Nat} (h : ∀ i ∈ ns, i.natAbs < 10 ^ 30) (hl : ns.length ≤ L) : Fine (L * 33 + 3) 1 (.list (ns.map PyData.int)) :=
  fine_list (n := 31) (dp := 0) (fun d hd => by obtain ⟨i, hi, rfl⟩ := List.mem_map.mp hd; exact fine_int (h i hi)) (by rw [List.length_map]; exact hl)
/-! ### the law's own end, where its first statement makes the draws -/
def spDraws (K : PySem.W.Frag) : Sp := fun vs H Q _ => ∃ (sc : Addr) (ns : List Int), vs = [.ref sc] ∧ SqL K H sc (ns.map V.int) ∧ ns.length ≤ 63 ∧
  ∀ H' st a r, Same H H' → H st = none → H a = none → H r = none → DkG st a r 900000 H' → Q (.ref st) H'
def spLaw (K : PySem.W.Frag) : Sp := fun vs H Q _ => ∃ (sc : Addr) (ns : List Int), vs = [.ref sc] ∧ SqL K H sc (ns.map V.int) ∧ ns.length ≤ 63 ∧ ∀ H', Q (.bl true) H'
section
variable {P : Program} {w : World} {K : PySem.W.Frag} {mg : Str → Option Value} {base : Heap}
theorem lawB_ok {qual : Str} {st : Stmt} {f : Addr} {fd : FuncData} {N : List Str} {k j : Nat} {xs xd xt : Str} {p1 p2 p3 p4 p5 : Pos} {rest : List Stmt} (Fn : Fun K "law" qual st f fd) (Sc : FnScope N [xs] (defScope st)) (hbody : defBody st = .Assign [.Name xt p1] (.Call (.Name xd p2) [.Name xs p3] [] p4) p5 :: rest)
    (gd : ∃ (fa : Addr) (fdd : FuncData), FnG P w K mg base j fa fdd [xs] (spDraws K) ∧ mg xd = some (.ref fa) ∧ PySem.W.keepIn K (.ref fa) = true ∧ L2.Binds K fdd [xs] []) (hj : j ≤ k)
    (h0 : N[0]? = some xs) (h1 : N[1]? = some xt) (vs : Vis (defScope st) xs) (lt : Loc (defScope st) xt) (gl : (defScope st).names.lookup xd = some .globalImplicit)
    (hsw : ∀ env : Env, swapsWith (.Call (.Name xd p2) [.Name xs p3] [] p4) (some (.Name xt p1)) p5.line env = pure false)
    (body : ∀ (F : Fm) (s a r : Addr), IsDk F s a r → F.K = K → WPB F (bodyCs P w K mg base N (defScope st) k) rest (.un :: .raw (.ref s) :: List.replicate (N.length - 2) SV.un) 900000 { nx := fun _ _ => False, rt := fun _ d => d = .bool true, bk := fun _ _ => False, ct := fun _ _ => False })
    (hdb : (xd == ("__debug__" : Str)) = false := by decide) (hdb2 : (xs == ("__debug__" : Str)) = false := by decide) (hcd : (xs == ("__classdict__" : Str)) = false := by decide) : FnG P w K mg base (k + 1) f fd [xs] (spLaw K) := by
  obtain ⟨fa, fdd, G, hm, kp, hb⟩ := gd
  refine FnG.of_body Fn Sc (fun vs H Q E h => ?_) (fun cdv A outer s H vs Q hgd hr h => ?_)
  · obtain ⟨sc, ns, rfl, _⟩ := h
    rfl
  obtain ⟨sc, ns, rfl, hS, hlen, q⟩ := h
  have fx := fits_body (CX := CX0) (P := P) (w := w) (K := K) (mg := mg) (base := base) (N := N) (outer := outer) (s := s) (H := H) (E := E0) hgd hr
  rw [hbody]
  have hN0 : 2 ≤ N.length := by
    have := (List.getElem?_eq_some_iff.mp h1).1
    omega
  refine ⟨_, pss_cons (ps_set (i := 1) Sc.nd h1 lt (FnG.pe G hgd (hr.mono hj) hb gl hm kp (pa_cons (pe_var (i := 0) h0 vs hdb2 hcd) pa_nil) hdb rfl rfl) (hsw _) (.inl rfl)) (pbB fx), ?_⟩
  have est : L2.start N [.ref sc] = some (.ref sc) :: none :: List.replicate (N.length - 2) none := by
    unfold L2.start
    show some (V.ref sc) :: List.replicate (N.length - 1) none = _
    rw [show N.length - 1 = (N.length - 2) + 1 by omega]; rfl
  rw [est]
  refine ⟨.ref sc, rfl, sc, ns, rfl, hS, hlen, fun H' st a r sm hst ha hr' g => ?_⟩
  refine body (drawFm K (DkM st a r) H' st a r (fun b hb => hb)) st a r ⟨rfl, rfl⟩ rfl (some (.ref sc) :: some (.ref st) :: List.replicate (N.length - 2) none) H' _ (fun i sv e => ?_) ⟨g, fun b o _ e => e, fun b hb => g.lv b hb⟩ ?_ ?_ ?_ ?_
  · match i, e with
    | 0, e => cases e; exact ⟨_, rfl, trivial⟩
    | 1, e => cases e; exact ⟨_, rfl, rfl⟩
    | i + 2, e =>
      have e' : (List.replicate (N.length - 2) SV.un)[i]? = some sv := e
      rw [List.getElem?_replicate] at e'
      by_cases hi : i < N.length - 2
      · rw [if_pos hi] at e'
        cases e'
        exact ⟨none, by show (List.replicate (N.length - 2) none)[i]? = _; rw [List.getElem?_replicate, if_pos hi], trivial⟩
      · rw [if_neg hi] at e'; cases e'
  · exact fun _ _ _ _ _ _ _ z => z.elim
  · exact fun v d k' H2 _ rv e => by subst e; cases rv; exact q H2
  · exact fun _ _ _ _ _ _ _ z => z.elim
  · exact fun _ _ _ _ _ _ _ z => z.elim
end
end Dl

namespace Dl
open PySem PySem.Spec PyProof.Rows L2
/-! ### a list of the def's own, that grows -/
def plainB : SV → Bool
  | .own _ _ => false
  | _ => true
theorem noOwn_of {ρ : Rho} {i : Nat} (h : (ρ.set i .un).all plainB = true) (j : Nat) (o : Addr) (xs : List PyData) (hj : j ≠ i) (e : ρ[j]? = some (.own o xs)) : False := by
  have e' : (ρ.set i .un)[j]? = some (.own o xs) := by rw [List.getElem?_set_ne (Ne.symm hj)]; exact e
  have := List.all_eq_true.mp h _ (List.mem_of_getElem? e')
  cases this
section
variable {F : Fm} {C : Cs} {ρ : Rho} {k : Nat} {P : DE} {Φ : Nat → PyData → Prop} {pos p px p2 ap cp : Pos} {x : Str} {rest : List Stmt} {e : Expr}
theorem wb_own (i : Nat) (t : Tgt C i x) (hi : i < ρ.length) (hs : ∀ env : Env, env.scope = C.sc → swapsWith (.List [] p2) (some (.Name x px)) pos.line env = pure false)
    (h : ∀ o, WPB (F.ext o) C rest (ρ.set i (.own o [])) k { nx := fun _ _ => False, rt := P.rt, bk := fun _ _ => False, ct := fun _ _ => False }) : WPB F C (.Assign [.Name x px] (.List [] p2) pos :: rest) ρ k P :=
  of_pb (fun X fx => pss_cons (ps_set (by rw [fx.N]; exact t.hN) (by rw [fx.N]; exact t.hi) (by rw [fx.sc]; exact t.hx) (pe_lst pa_nil) (hs X.env fx.sc) (by rw [fx.fn, fx.sc]; exact t.hf)) (pbB fx)) fun σ H E en j q1 q2 q3 q4 => by
    refine ⟨Nat.zero_le _, fun o no => ?_⟩
    have hM : ¬ F.M o := fun z => F.gl _ _ j.g o z no
    have h0 : F.H0 o = none := j.h0 hM no
    have en2 : EnvOk (F.ext o) (upd H o (.lst [])) (σ.set i (some (.ref o))) (ρ.set i (.own o [])) :=
      (en.ext no).set (sv := .own o []) ⟨rfl, .inr rfl, hM, h0, [], upd_same, .nil⟩
    refine h o (σ.set i (some (.ref o))) (upd H o (.lst [])) E en2 ((j.new no).ext (lv_new fun _ z => nomatch z)) ?_ ?_ ?_ ?_
    · exact fun _ _ _ _ _ _ _ z => z.elim
    · exact fun v d k' H' j' r' p => q2 v d k' H' j'.unext r'.unext p
    · exact fun _ _ _ _ _ _ _ z => z.elim
    · exact fun _ _ _ _ _ _ _ z => z.elim
theorem EnvOk.own {H : Hp} {σ : L2.St} {i : Nat} {o : Addr} {xs : List PyData} (en : EnvOk F H σ ρ) (e : ρ[i]? = some (.own o xs)) : σ[i]? = some (some (.ref o)) ∧ F.S o ∧ ¬ F.M o ∧ F.H0 o = none ∧ ∃ vs, H o = some (.lst vs) ∧ RpAll F H vs xs := by
  obtain ⟨y, q, h1, h2⟩ := en i _ e
  exact ⟨by rw [q, h1], h2⟩
/-- the own list becomes another one -/
theorem EnvOk.ownSet {H : Hp} {σ : L2.St} {i : Nat} {o : Addr} {xs ys : List PyData} {ws : List V} (en : EnvOk F H σ ρ) (e : ρ[i]? = some (.own o xs)) (hno : (ρ.set i .un).all plainB = true) (r : RpAll F H ws ys) : EnvOk F (upd H o (.lst ws)) σ (ρ.set i (.own o ys)) := by
  obtain ⟨hσ, hS, hM, h0, vs, hv, rv⟩ := en.own e
  have lz : ∀ b u, ¬ F.S b → H b = some u → (upd H o (.lst ws)) b = some u := fun b u hb z => by rw [upd_ne (show b ≠ o from fun y => hb (y ▸ hS))]; exact z
  intro j sv ej
  by_cases hj : i = j
  · subst hj
    have hl : i < ρ.length := (List.getElem?_eq_some_iff.mp e).1
    rw [List.getElem?_set_self hl] at ej
    cases ej
    exact ⟨_, hσ, rfl, hS, hM, h0, ws, upd_same, RepAll.keep lz (fun _ _ z => z) _ _ r⟩
  · rw [List.getElem?_set_ne hj] at ej
    obtain ⟨y, q, s⟩ := en j sv ej
    refine ⟨y, q, ?_⟩
    cases sv with
    | un => trivial
    | d d => obtain ⟨v, z, r⟩ := s; exact ⟨v, z, Rep.keep lz (fun _ _ z => z) _ _ r⟩
    | raw v => exact s
    | own o' xs' => exact (noOwn_of hno j o' xs' (Ne.symm hj) ej).elim
theorem ws_append (i : Nat) {o : Addr} {xs : List PyData} (hN : C.N[i]? = some x) (hv : Vis C.sc x) (hr : ρ[i]? = some (.own o xs)) (hno : (ρ.set i .un).all plainB = true) (hz : xs.length ≤ 1000000)
    (hse : ∀ env : Env, starEach [e] env = (false, eval e env) :: starEach [] env) (h : WPE F C e ρ k fun k1 d => P.nx k1 (ρ.set i (.own o (xs ++ [d]))))
    (hsw : ∀ env : Env, swapsWith (.Call (.Attribute (.Name x px) "append" ap) [e] [] cp) none pos.line env = pure false) (hd : (x == ("__debug__" : Str)) = false := by decide) (hcd : (x == ("__classdict__" : Str)) = false := by decide)
    (hbm : ∀ X : Cx, ∀ {to : TE} {t : TA}, PE X (.Name x px) to → PA X [e] t → PE X (.Call (.Attribute (.Name x px) "append" ap) [e] [] cp) (tBM X.K "list" rAppend to t) := by exact fun X {to t} h1 h2 => pe_bm PySem.F.plainAttrs_list PySem.F.slot_list_append PySem.F.type_list_append mt_append h1 h2) :
    WPS F C (.Expr (.Call (.Attribute (.Name x px) "append" ap) [e] [] cp) pos) ρ k P :=
  of_ps (t := tDrop (tBM C.K "list" rAppend (tVar i) (tCons (tE C e) tNil))) (fun X fx => ps_expr (by rw [← fx.K]; exact hbm X (pe_var (by rw [fx.N]; exact hN) (by rw [fx.sc]; exact hv) hd hcd) (pa_cons (peE fx) pa_nil (hse X.env))) (hsw X.env)) fun σ H E en j q1 q2 q3 q4 => by
    obtain ⟨hσ, hS, hM, h0, vs, hv', rv⟩ := en.own hr
    refine ⟨_, hσ, .inl ⟨rfl, _, SqL.of hv'⟩, ?_⟩
    show tE C e σ H _
    refine h σ H _ en j fun v d k1 H1 l1 j1 r1 p => ?_
    have hv1 : H1 o = some (.lst vs) := l1 o _ (Fm.mxA hM) hv'
    refine ⟨o, vs, v, rfl, rfl, hv1, ?_, ?_⟩
    · rw [rv.length]; exact Nat.lt_of_le_of_lt hz (by decide)
    · refine q1 _ σ k1 _ ?_ ((en.le l1).ownSet hr hno ((rv.le l1.lz).append (.cons r1 .nil))) (j1.own hM h0 (pl_lst (l1 o _ (Fm.mxA hM) hv'))) p
      exact fun b u hb z => by rw [upd_ne (show b ≠ o from fun y => hb (.inl (y ▸ hS)))]; exact l1.lz b u hb z
/-- tuple(x), x the own list -/
theorem we_tupOwn (i : Nat) {o : Addr} {xs : List PyData} (hK : F.K = C.K) (hN : C.N[i]? = some x) (hv : Vis C.sc x) (hr : ρ[i]? = some (.own o xs)) (hg : C.sc.names.lookup ("tuple" : Str) = some .globalImplicit) (hm : C.mg ("tuple" : Str) = none)
    (h : Φ k (.tuple xs)) (hd : (x == ("__debug__" : Str)) = false := by decide) (hcd : (x == ("__classdict__" : Str)) = false := by decide) (hse : ∀ env : Env, starEach [.Name x px] env = (false, eval (.Name x px) env) :: starEach [] env := by intro _; rfl) : WPE F C (.Call (.Name "tuple" p) [.Name x px] [] pos) ρ k Φ :=
  of_pe (fun X fx => pe_callTy (tupK fx) (by show X.env.scope.names.lookup ("tuple" : Str) = _; rw [fx.sc]; exact hg) (by rw [fx.mg]; exact hm) (by decide +kernel) (pa_cons (pe_var (i := i) (by rw [fx.N]; exact hN) (by rw [fx.sc]; exact hv) hd hcd) pa_nil (hse X.env)) (by decide) (by decide) (hse X.env) rfl) fun σ H Q en j q => by
    obtain ⟨hσ, hS, hM, h0, vs, hv', rv⟩ := en.own hr
    refine ⟨_, hσ, o, vs, rfl, .inl ⟨SqL.of hv', fun l hl => ?_⟩⟩
    exact q _ (.tuple xs) k _ (.new hl) (j.new hl) (rep_newT j hl rv) h
/-- eqv with an empty list or tuple -/
theorem eqv_nilL (ds : List PyData) : PyData.eqv (.list ds) (.list []) = ds.isEmpty := by cases ds <;> simp [PyData.eqv, PyData.eqvAll]
theorem eqv_nilT (ds : List PyData) : PyData.eqv (.tuple ds) (.tuple []) = ds.isEmpty := by cases ds <;> simp [PyData.eqv, PyData.eqvAll]
theorem lay_ints : ∀ ns : List Int, PyData.canLayAll0 (ns.map PyData.int) = true ∧ PyData.depthAll (ns.map PyData.int) = 0
  | [] => ⟨by simp [PyData.canLayAll0], by simp [PyData.depthAll]⟩
  | n :: ns => by
    obtain ⟨h1, h2⟩ := lay_ints ns
    exact ⟨by simp [PyData.canLayAll0, PyData.canLay0, h1], by simp [PyData.depthAll, PyData.depth, h2]⟩
theorem shaped_intsL (ns : List Int) : SeqAt.shaped (.list (ns.map PyData.int)) = true := by
  obtain ⟨h1, h2⟩ := lay_ints ns
  simp [SeqAt.shaped, PyData.canLay0, PyData.depth, h1, h2]
theorem shaped_intsT (ns : List Int) : SeqAt.shaped (.tuple (ns.map PyData.int)) = true := by
  obtain ⟨h1, h2⟩ := lay_ints ns
  simp [SeqAt.shaped, PyData.canLay0, PyData.depth, h1, h2]
end
end Dl

namespace Dl
open PySem PySem.Spec PyProof.Rows L2
section
variable {F : Fm} {C : Cs} {ρ : Rho} {k : Nat} {P : DE} {Φ : Nat → PyData → Prop} {Ψ : Nat → Bool → Prop} {pos p p1 p2 p3 p4 pr pr2 : Pos} {x : Str} {rest : List Stmt} {e a b : Expr}
theorem rgV_rg (z : Int) : rgV 0 z = (rg z).map V.int := by
  unfold rgV rg
  rw [List.map_map, Int.sub_zero]
  apply List.map_congr_left
  intro i _
  show V.int (0 + (i : Int)) = V.int (i : Int)
  rw [Int.zero_add]
/-- list(range(z)), tuple(range(z)) -/
theorem we_listRg (hg : C.sc.names.lookup ("list" : Str) = some .globalImplicit) (hm : C.mg ("list" : Str) = none) (hg2 : C.sc.names.lookup ("range" : Str) = some .globalImplicit) (hm2 : C.mg ("range" : Str) = none)
    (hs : ∀ env : Env, starEach [a] env = (false, eval a env) :: starEach [] env) (hs2 : ∀ env : Env, starEach [.Call (.Name "range" pr) [a] [] pr2] env = (false, eval (.Call (.Name "range" pr) [a] [] pr2) env) :: starEach [] env)
    (h : WPE F C a ρ k fun k1 d => ∃ z : Int, d = .int z ∧ (0 ≤ z ∧ z ≤ 16777216) ∧ Φ k1 (.list ((rg z).map PyData.int))) : WPE F C (.Call (.Name "list" p) [.Call (.Name "range" pr) [a] [] pr2] [] pos) ρ k Φ :=
  of_pe (fun X fx => pe_listRg fx.calm (by show X.env.scope.names.lookup ("list" : Str) = _; rw [fx.sc]; exact hg) (by rw [fx.mg]; exact hm) (prg_1 (by show X.env.scope.names.lookup ("range" : Str) = _; rw [fx.sc]; exact hg2) (by rw [fx.mg]; exact hm2) (peE fx) (hs X.env)) (hs2 X.env)) fun σ H Q en j q => by
    show tE C a σ H _
    refine h σ H _ en j fun v d k1 H1 l1 j1 r ⟨z, e, hz, p⟩ => ?_
    subst e
    cases r
    refine ⟨z, rfl, RgOk.of_le (by decide) hz.2 (by decide) hz.1, fun l hl => ?_⟩
    rw [rgV_rg]
    exact q _ _ k1 _ (l1.trans (.new hl)) (j1.new hl) (rep_newL j1 hl (RepAll.of_ints _)) p
theorem we_tupRg (hg : C.sc.names.lookup ("tuple" : Str) = some .globalImplicit) (hm : C.mg ("tuple" : Str) = none) (hg2 : C.sc.names.lookup ("range" : Str) = some .globalImplicit) (hm2 : C.mg ("range" : Str) = none)
    (hs : ∀ env : Env, starEach [a] env = (false, eval a env) :: starEach [] env) (hs2 : ∀ env : Env, starEach [.Call (.Name "range" pr) [a] [] pr2] env = (false, eval (.Call (.Name "range" pr) [a] [] pr2) env) :: starEach [] env)
    (h : WPE F C a ρ k fun k1 d => ∃ z : Int, d = .int z ∧ (0 ≤ z ∧ z ≤ 16777216) ∧ Φ k1 (.tuple ((rg z).map PyData.int))) : WPE F C (.Call (.Name "tuple" p) [.Call (.Name "range" pr) [a] [] pr2] [] pos) ρ k Φ :=
  of_pe (fun X fx => pe_tupRg fx.calm (by show X.env.scope.names.lookup ("tuple" : Str) = _; rw [fx.sc]; exact hg) (by rw [fx.mg]; exact hm) (prg_1 (by show X.env.scope.names.lookup ("range" : Str) = _; rw [fx.sc]; exact hg2) (by rw [fx.mg]; exact hm2) (peE fx) (hs X.env)) (hs2 X.env)) fun σ H Q en j q => by
    show tE C a σ H _
    refine h σ H _ en j fun v d k1 H1 l1 j1 r ⟨z, e, hz, p⟩ => ?_
    subst e
    cases r
    refine ⟨z, rfl, RgOk.of_le (by decide) hz.2 (by decide) hz.1, fun l hl => ?_⟩
    rw [rgV_rg]
    exact q _ _ k1 _ (l1.trans (.new hl)) (j1.new hl) (rep_newT j1 hl (RepAll.of_ints _)) p
/-- a, b = a tuple, the scope known -/
theorem ws_asg2s (i1 i2 : Nat) {x1 x2 : Str} {kk : Nat} (hne : i1 ≠ i2) (t1 : Tgt C i1 x1) (t2 : Tgt C i2 x2) (hK : F.K = C.K)
    (hs : ∀ env : Env, env.scope = C.sc → swapsWithSole [.Tuple [.Name x1 p1, .Name x2 p2] kk p3] e pos.line env = pure false) (hw : ∀ env : Env, env.scope = C.sc → swappedStores [.Tuple [.Name x1 p1, .Name x2 p2] kk p3] e env = pure none)
    (h : WPE F C e ρ k fun k1 d => ∃ d1 d2, d = .tuple [d1, d2] ∧ P.nx k1 ((ρ.set i1 (.d d1)).set i2 (.d d2))) : WPS F C (.Assign [.Tuple [.Name x1 p1, .Name x2 p2] kk p3] e pos) ρ k P :=
  of_ps (fun X fx => ps_asg (peE fx) (pgTup (n := 2) fx (pgs_cons (t1.pg fx) (pgs_cons (t2.pg fx) pgs_nil)) (by rfl) (by rfl)) (hs X.env fx.sc) (hw X.env fx.sc)) fun σ H E en j q1 _ _ _ =>
    h σ H _ en j fun v d k1 H1 l1 j1 r ⟨d1, d2, e, p⟩ => by
      subst e
      cases r with
      | tup ha hr =>
        cases hr with
        | cons r1 hr =>
          cases hr with
          | cons r2 hr =>
            cases hr
            exact ⟨_, _, rfl, hK ▸ sqt_of ha, rfl, _, _, rfl, _, _, rfl, rfl, q1 _ _ k1 H1 l1.lz (((en.le l1).set (sv := .d d1) ⟨_, rfl, r1⟩).set (sv := .d d2) ⟨_, rfl, r2⟩) j1 p⟩
/-- a part of the state's slots is forgotten -/
def Forget : Rho → Rho → Prop
  | [], [] => True
  | x :: xs, y :: ys => (y = .un ∨ y = x) ∧ Forget xs ys
  | _, _ => False
theorem Forget.env : ∀ {H : Hp} {σ : L2.St} {ρ ρ' : Rho}, EnvOk F H σ ρ → Forget ρ ρ' → EnvOk F H σ ρ' := by
  intro H σ ρ ρ' en fo i sv e
  have key : ∀ (ρ ρ' : Rho), Forget ρ ρ' → ∀ (i : Nat) sv, ρ'[i]? = some sv → ∃ sv', ρ[i]? = some sv' ∧ (sv = .un ∨ sv = sv') := by
    intro ρ
    induction ρ with
    | nil => intro ρ' f i sv e; cases ρ' with
      | nil => simp at e
      | cons y ys => cases f
    | cons x xs ih => intro ρ' f i sv e; cases ρ' with
      | nil => cases f
      | cons y ys =>
        cases i with
        | zero => cases e; exact ⟨x, rfl, f.1⟩
        | succ i => exact ih ys f.2 i sv e
  obtain ⟨sv', e', h⟩ := key ρ ρ' fo i sv e
  obtain ⟨x, q, s⟩ := en i sv' e'
  rcases h with rfl | rfl
  · exact ⟨x, q, trivial⟩
  · exact ⟨x, q, s⟩
theorem wb_forget {ρ' : Rho} (f : Forget ρ ρ') (h : WPB F C rest ρ' k P) : WPB F C rest ρ k P := fun σ H E en j q1 q2 q3 q4 => h σ H E (f.env en) j q1 q2 q3 q4
end
end Dl
namespace Dl
open PySem PySem.Spec PyProof.Rows L2
section
variable {F : Fm} {C : Cs} {ρ : Rho} {k : Nat} {P : DE} {st : Stmt} {rest : List Stmt}
/-- a statement, what holds behind it, the rest -/
theorem wb_mid (R : Nat → Rho → Prop) (h1 : WPS F C st ρ k (P.seq R)) (h2 : ∀ k ρ, R k ρ → WPB F C rest ρ k P) : WPB F C (st :: rest) ρ k P :=
  wb_cons (h1.imp h2 (fun _ _ z => z) (fun _ _ z => z) (fun _ _ z => z))
end
end Dl
namespace Dl
open PySem PySem.Spec PyProof.Rows L2
section
variable {F : Fm} {C : Cs} {ρ : Rho} {k : Nat} {Φ : Nat → PyData → Prop} {pos p2 : Pos} {a b e : Expr}
/-- xs + ys, lists -/
theorem we_cat (h : WPE F C a ρ k fun k1 x => WPE F C b ρ k1 fun k2 y => ∃ ds es, x = .list ds ∧ y = .list es ∧ ds.length + es.length ≤ 1000000 ∧ Φ k2 (.list (ds ++ es))) : WPE F C (.BinOp a .Add b pos) ρ k Φ :=
  we_bin (fun X _ => op_cat) (h.imp fun k1 x h1 => h1.imp fun k2 y ⟨ds, es, e1, e2, hz, p⟩ => by
    subst e1 e2
    intro H vx vy Q j rx ry q
    cases rx with
    | @lst a xs _ ha hr =>
    cases ry with
    | @lst b ys _ hb hs =>
    refine ⟨a, b, xs, ys, rfl, rfl, ha.1, hb.1, ?_, fun l hl => q _ _ k2 _ (.new hl) (j.new hl) (rep_newL j hl (hr.append hs)) p⟩
    rw [hr.length, hs.length]; exact Nat.le_trans hz (by decide))
theorem slLK {X : Cx} (fx : Fits C X) : SlR X (rSlL C.K) := by rw [← fx.K]; exact sl_list
/-- xs[:m], a list -/
theorem we_sliceTo (hK : F.K = C.K) {m : Nat} {jj : Nat} {p3 : Pos} (h : WPE F C a ρ k fun k1 x => ∃ ds, x = .list ds ∧ Φ k1 (.list (ds.take m))) : WPE F C (.Subscript a (.Slice none (some (.Constant (.int (m : Int)) jj p3)) none p2) pos) ρ k Φ :=
  of_pe (fun X fx => pe_slice (slLK fx) (peE fx) po_none (po_some pe_int)) fun σ H Q en j q => by
    show tE C a σ H _
    refine h σ H _ en j fun v d k1 H1 l1 j1 r ⟨ds, e, p⟩ => ?_
    subst e
    cases r with
    | @lst a xs _ ha hr =>
    refine ⟨(m : Int), rfl, a, xs, rfl, hK ▸ sql_of ha, fun l hl => ?_⟩
    have ec : cutV xs none (some (m : Int)) = xs.take m := by
      unfold cutV
      rw [HT.sIx_nat, HT.sIx_none, List.drop_zero, Nat.sub_zero, List.take_eq_take_iff]
      omega
    rw [ec]
    exact q _ _ k1 _ (l1.trans (.new hl)) (j1.new hl) (rep_newL j1 hl (hr.take m)) p
end
end Dl
namespace Dl
open PySem PySem.Spec PyProof.Rows L2
section
variable {F : Fm} {C : Cs} {ρ : Rho} {k : Nat} {Φ : Nat → PyData → Prop} {pos p2 : Pos} {a b e : Expr}
theorem we_isB (h : WPE F C a ρ k fun k1 x => WPE F C b ρ k1 fun k2 y => ∃ c c', x = .bool c ∧ y = .bool c' ∧ Φ k2 (.bool (decide (c = c')))) : WPE F C (.Compare a [.Is] [b] pos) ρ k Φ :=
  we_cmp (fun X _ => op_isBl) (nomark _) (h.imp fun k1 x h1 => h1.imp fun k2 y ⟨c, c', e1, e2, p⟩ => by
    subst e1 e2
    intro H vx vy Q j rx ry q
    cases rx
    cases ry
    exact ⟨c, c', rfl, rfl, q _ _ k2 H .refl j (.bl _) p⟩)
end
end Dl

namespace Dl
open PySem PySem.Spec PyProof.Rows L2
/-! ### set(xs), xs a list of ints -/
abbrev nso (w : World) : Obj := ⟨.type "set", none, .set #[] 0 (.fresh 0 0 (!w.params.followText "set-order")), #[]⟩
abbrev GotSet (w : World) (s : Shared) (ns : List Int) (r : Value) (s2 : Shared) : Prop :=
  r = .none ∧ ∃ h' tk c, s2 = { s with heap := h', toks := tk } ∧ SetR w h' s.heap.objs.size (fun j => decide (j ∈ ns)) c ∧ c ≤ ns.length ∧ ∀ b o, s.heap.get? b = some o → h'.get? b = some o
section
variable {P : Program} {w : World} {A : Around} {E : Value → Shared → Prop} {s : Shared}
set_option maxHeartbeats 3200000 in
theorem set_of_list {l : Addr} {its : Array Value} (ns : List Int) {Q : Value → Shared → Prop} (calm : A.handled = none) (hl : s.heap.IsList l its) (hint : IntsAre its.toList ns) (few : ns.length + 1 < scanBound)
    (h : ∀ (h' : Heap) (tk c : Nat), SetR w h' s.heap.objs.size (fun j => decide (j ∈ ns)) c → c ≤ ns.length → (∀ b o, s.heap.get? b = some o → h'.get? b = some o) → Q (.ref s.heap.objs.size) { s with heap := h', toks := tk }) :
    wpAny (model P w) A (call (.type "set") [.ref l]) Q E s := by
  have size_eq : its.size = ns.length := by have z := IntsAre.length hint; rwa [Array.length_toList] at z
  obtain ⟨_, _, hmro⟩ := F.called_set.mro
  have f1 := F.called_set.made; have f2 := F.called_set.sub; have f3 := F.called_set.notType
  have f4 := F.called_set.canCreate; have f5 := F.typeCall_set_1 (.ref l)
  apply wpAny_call; apply codeAny_of_tree
  show wpAny _ _ (callAny (.type "set") _) _ _ _
  apply wpAny_pure
  refine ⟨Code.quiet_builtin _ (by decide +kernel), ?_⟩
  apply codeAny_builtin F.entry_type_call
  rw [Around.under_plain (weight_type_call_type "set" [.ref l] []) rfl]
  repeat (any_goals (first | assumption | wp_step))
  apply codeAny_mono (code_set_led1 (.ref l) (E := E) (Q₁ := fun ob s1 => ob = .ref s.heap.objs.size ∧ s1 = { s with heap := s.heap.push (nso w) }) ⟨rfl, rfl⟩)
  intro r s1 hr
  match r, hr with
  | .error e, hr => exact hr
  | .ok .next, hr => exact hr.elim
  | .ok .brk, hr => exact hr.elim
  | .ok .cont, hr => exact hr.elim
  | .ok (.ret ob), hr =>
    obtain ⟨rfl, rfl⟩ := hr
    have there : (s.heap.push (nso w)).get? s.heap.objs.size = some (nso w) := Heap.get?_push_size _ rfl
    have isSet : Shared.TypeIs { s with heap := s.heap.push (nso w) } (.ref s.heap.objs.size) "set" := ⟨_, there, rfl⟩
    have g1 := F.called_set.init.lookup; have g2 := F.called_set.init.bind (.ref s.heap.objs.size)
    repeat (any_goals (first | assumption | wp_step))
    refine codeAny_mono (codeAny_call_builtin (R := wants (GotSet w s ns) E) F.called_set.init.plain F.entry_set_init (check_set_init_1 isSet ?_)) ?_
    · obtain ⟨ol, at_l, cls_l, cap, dat_l⟩ := hl
      obtain ⟨k1, k2, k3, k4⟩ := ol
      simp only at cls_l dat_l
      subst cls_l; subst dat_l
      have at_l2 : (s.heap.push (nso w)).get? l = some ⟨.type "list", k2, .seq its cap, k4⟩ := Heap.get?_push_of_some _ at_l
      have s1 := F.sub_list_set; have s2 := F.sub_list_frozenset
      have s3 : (Value.type "list" == Value.type "dict") = false := by decide
      have isl : (s.heap.push (nso w)).IsList l its := ⟨_, at_l2, rfl, cap, rfl⟩
      unfold Builtin.«set.__init__» noKeywords Builtin.Frozenset.updateFrom
      generalize hPI : pyIter = PI
      wp_walk
      subst hPI
      apply wpAny_pyIter_list isl
      apply wpAny_bind; apply wpAny_runValue
      have low : l < s.heap.objs.size := Heap.lt_size at_l
      have calm3 : A.in1.in1.in1.handled = none := by simp [calm]
      have apart : l ≠ (s.heap.push (nso w)).objs.size := by
        rw [Heap.size_push]; exact Nat.ne_of_lt (Nat.lt_succ_of_lt low)
      have off : s.heap.objs.size ∉ [(s.heap.push (nso w)).objs.size, l] := by
        rw [Heap.size_push]; simp only [List.mem_cons, List.not_mem_nil, or_false, not_or]
        exact ⟨Nat.ne_of_lt (Nat.lt_succ_self _), Nat.ne_of_gt low⟩
      have item : ∀ (i : Nat) (v : Value), its[i]? = some v → ∃ k t, ns[i]? = some k ∧ v = .int k t := by
        intro i v hv
        have hi : i < ns.length := size_eq ▸ (Array.getElem?_eq_some_iff.mp hv).1
        obtain ⟨t, z⟩ := IntsAre.int_at hint i v (by rw [Array.getElem?_toList]; exact hv)
        exact ⟨ns[i], t, List.getElem?_eq_getElem hi, by rw [z, List.getD_eq_getElem?_getD, List.getElem?_eq_getElem hi]; rfl⟩
      refine set_update_ints ((Walks.list calm3 _ l apart its).toS) s.heap.objs.size off ns size_eq few item (its.size - 0) 0 _ (by omega) (Nat.zero_le _) ⟨⟨_, Heap.get?_push_size _ rfl, rfl, rfl⟩, isl.push _⟩ ⟨0, Nat.le_refl 0, setR_new_at (Heap.get?_push_of_some _ there)⟩ ?_
      rintro ⟨h', g', d', tk', os'⟩ c' hm hc' hS'
      obtain rfl : g' = s.gens := hm.gens
      obtain rfl : d' = s.drawn := hm.drawn
      obtain rfl : os' = s.os := hm.os
      show wpAny _ _ _ _ _ _
      apply wpAny_pure
      show wpAny _ _ (ret Value.none) _ _ _
      apply wpAny_pure
      refine ⟨rfl, h', tk', c', rfl, hS', size_eq ▸ hc', fun b o z => ?_⟩
      have lowb : b < s.heap.objs.size := Heap.lt_size z
      refine hm.heap b o ?_ (Heap.get?_push_of_some _ (Heap.get?_push_of_some _ z))
      rw [Heap.size_push]; simp only [List.mem_cons, List.not_mem_nil, or_false, not_or]
      exact ⟨Nat.ne_of_lt lowb, Nat.ne_of_lt (Nat.lt_succ_of_lt lowb)⟩
    · intro r2 s2 hr2
      match r2, hr2 with
      | .error e, hr2 => exact hr2
      | .ok .next, hr2 => exact hr2.elim
      | .ok .brk, hr2 => exact hr2.elim
      | .ok .cont, hr2 => exact hr2.elim
      | .ok (.ret v), hr2 =>
        obtain ⟨rfl, h', tk, c', rfl, hS', hc', hk'⟩ := hr2
        repeat (any_goals (first | assumption | wp_step))
        exact h _ _ _ hS' hc' hk'
end
/-- .. over the layer -/
def rSetL (K : PySem.W.Frag) (w : World) : List V → Hp → VK → Prop := fun vs H Q => ∃ (a : Addr) (ns : List Int), vs = [.ref a] ∧ SqL K H a (ns.map V.int) ∧ ns.length ≤ 1000 ∧
  ∀ p c, H p = none → c ≤ ns.length → Q (.ref p) (upd H p (SetO w p (fun j => decide (j ∈ ns)) c))
theorem cr_setL {X : Cx} (hc : X.calm = true) : CallR X (.type "set") (rSetL X.K X.w) := by
  intro pins s σ H vs us Q I r h
  obtain ⟨a, ns, rfl, hS, hz, q⟩ := h
  rw [Vals.ref1 r]
  obtain ⟨its, rv, pl, _⟩ := I.list hS
  obtain ⟨o, n, ho, hcl, hdi, hda⟩ := pl
  refine set_of_list ns (I.ok.hd hc) ⟨o, ho, hcl, n, hda⟩ (by simpa using rv.ints) (Nat.lt_of_le_of_lt (Nat.succ_le_succ hz) (by decide)) fun h' tk c R hcn hk => ?_
  exact ⟨.ref _, _, I.laid (t' := tk) hk (Nat.le_refl _) (setO_new R), rfl, q _ c (I.hok.fresh (Nat.le_refl _)) hcn⟩
section
variable {F : Fm} {C : Cs} {ρ : Rho} {k : Nat} {Φ : Nat → PyData → Prop} {pos p1 p2 p3 : Pos} {e : Expr}
/-- sorted(set(xs)), fewer than 64 items -/
theorem we_sortSet (hK : F.K = C.K) (hg : C.sc.names.lookup ("sorted" : Str) = some .globalImplicit) (hm : C.mg ("sorted" : Str) = none) (hg2 : C.sc.names.lookup ("set" : Str) = some .globalImplicit) (hm2 : C.mg ("set" : Str) = none)
    (hs : ∀ env : Env, starEach [e] env = (false, eval e env) :: starEach [] env) (hs2 : ∀ env : Env, starEach [.Call (.Name "set" p2) [e] [] p3] env = (false, eval (.Call (.Name "set" p2) [e] [] p3) env) :: starEach [] env)
    (h : WPE F C e ρ k fun k1 x => ∃ ns : List Int, x = .list (ns.map PyData.int) ∧ ns.length < 64 ∧ ∀ ms : List Int, ms.Pairwise (· < ·) → (∀ i, i ∈ ms ↔ i ∈ ns) → Φ k1 (.list (ms.map PyData.int))) : WPE F C (.Call (.Name "sorted" p1) [.Call (.Name "set" p2) [e] [] p3] [] pos) ρ k Φ :=
  of_pe (t := tCB (rSortedSet C.w) (tCons (tCB (rSetL C.K C.w) (tCons (tE C e) tNil)) tNil)) (fun X fx => pe_callB (by rw [← fx.w]; exact cr_sortedSet fx.calm) (by show X.env.scope.names.lookup ("sorted" : Str) = _; rw [fx.sc]; exact hg) (by rw [fx.mg]; exact hm) (by decide +kernel)
      (pa_cons (pe_callTy (by rw [← fx.w, ← fx.K]; exact cr_setL fx.calm) (by show X.env.scope.names.lookup ("set" : Str) = _; rw [fx.sc]; exact hg2) (by rw [fx.mg]; exact hm2) (by decide +kernel) (pa_cons (peE fx) pa_nil (hs X.env)) (by decide) (by decide) (hs X.env) rfl) pa_nil (hs2 X.env)) (by decide) (by decide) (hs2 X.env) rfl) fun σ H Q en j q => by
    show tE C e σ H _
    refine h σ H _ en j fun v d k1 H1 l1 j1 r ⟨ns, ed, h64, p⟩ => ?_
    subst ed
    cases r with
    | @lst a xs _ ha hr =>
    refine ⟨a, ns, rfl, hr.ints ▸ hK ▸ sql_of ha, by omega, fun l c hl hc => ?_⟩
    refine ⟨l, _, c, rfl, upd_same, by omega, fun ms l2 hpw hmem _ hl2 => ?_⟩
    have j2 := j1.new (o := SetO C.w l (fun j => decide (j ∈ ns)) c) hl
    refine q _ _ k1 _ ((l1.trans (.new hl)).trans (.new hl2)) (j2.new hl2) (rep_newL j2 hl2 (RepAll.of_ints ms)) (p ms hpw fun i => ?_)
    rw [hmem i, decide_eq_true_eq]
end
end Dl

namespace Dl
open PySem PySem.Spec PyProof.Rows L2
/-! ### a comprehension of two clauses: over a tuple, then over a list made for each item -/
theorem wipe2 {i i1 : Nat} {x : V} (hne : i ≠ i1) (σ : L2.St) : (wipe σ [i, i1]).set i (some x) = (σ.set i1 none).set i (some x) := by
  show ((σ.set i1 none).set i none).set i (some x) = _
  rw [List.set_set]
theorem wipe2' {i i1 : Nat} {x : V} (hne : i ≠ i1) (σ : L2.St) : wipe ((σ.set i1 none).set i (some x)) [i, i1] = wipe σ [i, i1] := by
  show (((σ.set i1 none).set i (some x)).set i1 none).set i none = (σ.set i1 none).set i none
  rw [List.set_comm _ _ hne, List.set_set, List.set_set]
section
variable {F : Fm} {C : Cs} {ρ : Rho} {k : Nat} {Φ : Nat → PyData → Prop} {α β : Type} {Cb : Cs} {iter1 elt : Expr} {tl : TE} {K : PySem.W.Frag}
theorem we_lc2 (ei : α → PyData) (ej : β → PyData) (bs : α → List β) (g : α → β → PyData) (B : Nat) (i i1 : Nat) (hne : i ≠ i1) (hK : F.K = K)
    (h : WE F tl ρ k fun k1 d => ∃ as : List α, d = .tuple (as.map ei) ∧ as.length * B ≤ 1000000 ∧ (∀ a ∈ as, (bs a).length ≤ B) ∧
      (∀ D (a : α), a ∈ as → WPE (F.ext D) Cb iter1 ((ρ.set i1 .un).set i (.d (ei a))) k1 (fun k2 d2 => k2 = k1 ∧ d2 = .list ((bs a).map ej)) ∧
        ∀ b ∈ bs a, WPE (F.ext D) Cb elt (((ρ.set i1 .un).set i (.d (ei a))).set i1 (.d (ej b))) k1 fun k3 y => k3 = k1 ∧ y = g a b) ∧ Φ k1 (.list (as.flatMap fun a => (bs a).map (g a)))) :
    WE F (tLc2 (iTup K tl) (gName i) tYes (iList K (tE Cb iter1)) (gName i1) tYes (tE Cb elt) [i, i1] [i1]) ρ k Φ := fun σ H Q en j q => by
  show tl σ H _
  refine h σ H _ en j fun v d k1 H1 l1 j1 r hh => ?_
  obtain ⟨as, e, hz, hB, hin, hfin⟩ := hh
  subst e
  cases r with
  | @tup a xs _ ha hr =>
  refine ⟨a, rfl, ⟨xs, hK ▸ sqt_of ha⟩, fun D hD => ?_⟩
  have en1 := en.le l1
  have hM : ¬ F.M D := fun z => F.gl _ _ j1.g D z hD
  have hS : ¬ F.S D := j1.fresh hD
  have h0 : F.H0 D = none := j1.h0 hM hD
  have hno : ∀ (i : Nat) o xs, ρ[i]? = some (SV.own o xs) → o ≠ D := fun i o xs e => by
    obtain ⟨x, _, s⟩ := en1 i _ e
    obtain ⟨_, _, _, _, vs, h1, _⟩ := s
    exact ne_of_none h1 hD
  have rr : Rp (F.ext D) (upd H1 D (.lst [])) (.ref a) (.tuple (as.map ei)) := Rep.ext (.tup ha hr) hD
  cases rr with
  | @tup _ xs' _ ha' hr' =>
  have hlen : xs'.length = as.length := by rw [hr'.length, List.length_map]
  have bound : ∀ n, n ≤ as.length → ((as.take n).flatMap fun a => (bs a).map (g a)).length ≤ n * B := by
    intro n
    induction n with
    | zero => intro _; simp
    | succ n ih =>
      intro hn
      have hx : as[n]? = some as[n] := List.getElem?_eq_getElem (by omega)
      rw [take_next hx, List.flatMap_append, List.length_append, List.flatMap_singleton, List.length_map]
      have h1 := ih (by omega)
      have h2 := hB as[n] (List.getElem_mem _)
      rw [Nat.succ_mul]; omega
  refine ⟨fun n m H' => m = xs'.length - n ∧ n ≤ xs'.length ∧ ∃ vs, EnvOk (F.ext D) H' σ ρ ∧ J (F.ext D) k1 H' ∧ LeD (F.ext D) D (upd H1 D (.lst [])) H' ∧ H' D = some (.lst vs) ∧ RpAll (F.ext D) H' vs ((as.take n).flatMap fun a => (bs a).map (g a)),
    ⟨xs'.length, by simp, Nat.zero_le _, [], en1.ext hD, (j1.new hD).ext (lv_new fun _ z => nomatch z), .refl, upd_same, .nil⟩, ?_⟩
  rintro n m H' ⟨rfl, hn, vs, en', j', ld, hd, ra⟩
  have sq : SqT K H' a xs' := hK ▸ sqt_of (K := F.K) (H := H') (S := (F.ext D).S) ⟨ld.lz (.inr rfl) _ _ (Fm.sxA ha'.2) ha'.1, ha'.2⟩
  by_cases hlt : n < xs'.length
  · refine .inr ⟨⟨xs', xs'[n], sq, by simp [hlt]⟩, fun H2 => ∃ vs, EnvOk (F.ext D) H2 σ ρ ∧ J (F.ext D) k1 H2 ∧ LeD (F.ext D) D (upd H1 D (.lst [])) H2 ∧ H2 D = some (.lst vs) ∧ RpAll (F.ext D) H2 vs ((as.take (n + 1)).flatMap fun a => (bs a).map (g a)), fun H2 p => ⟨xs'.length - (n + 1), by omega, rfl, hlt, p⟩, fun x H2 y => ?_⟩
    obtain ⟨e, y⟩ := y
    subst e
    obtain ⟨y0, hy0, ry⟩ := hr'.got (y xs' sq)
    rw [List.getElem?_map] at hy0
    cases hc : as[n]? with
    | none => rw [hc] at hy0; cases hy0
    | some a0 =>
    rw [hc] at hy0
    cases hy0
    obtain ⟨hit, hel⟩ := hin D a0 (List.mem_of_getElem? hc)
    show (wipe ((wipe σ [i, i1]).set i (some x)) [i, i1] = wipe σ [i, i1] ∧ _)
    rw [wipe2 hne]
    refine ⟨wipe2' hne σ, ?_⟩
    dsimp only [tYes]
    rw [if_pos rfl]
    have en2 : EnvOk (F.ext D) H2 ((σ.set i1 none).set i (some x)) ((ρ.set i1 .un).set i (.d (ei a0))) := (en'.set (sv := .un) trivial).set (sv := .d (ei a0)) ⟨x, rfl, ry.le (ld.lz (.inr rfl))⟩
    show tE Cb iter1 _ H2 _
    refine hit _ H2 _ en2 j' fun v1 d1 k3 H3 l3 j3 r3 ⟨ek, ed⟩ => ?_
    subst ek ed
    cases r3 with
    | @lst a1 ys _ ha1 hr1 =>
    refine ⟨a1, rfl, ⟨ys, hK ▸ sql_of (K := F.K) ha1⟩, ?_⟩
    have hlen1 : ys.length = (bs a0).length := by rw [hr1.length, List.length_map]
    refine ⟨fun m mm H' => mm = ys.length - m ∧ m ≤ ys.length ∧ ∃ vs2, EnvOk (F.ext D) H' ((σ.set i1 none).set i (some x)) ((ρ.set i1 .un).set i (.d (ei a0))) ∧ J (F.ext D) k3 H' ∧ LeD (F.ext D) D H3 H' ∧ H' D = some (.lst vs2) ∧ RpAll (F.ext D) H' vs2 (((as.take n).flatMap fun a => (bs a).map (g a)) ++ ((bs a0).take m).map (g a0)),
      ⟨ys.length, by simp, Nat.zero_le _, vs, en2.le l3, j3, .refl, l3 D _ (Fm.mxA hM) hd, by rw [List.take_zero, List.map_nil, List.append_nil]; exact ra.le l3.lz⟩, ?_⟩
    rintro m mm H5 ⟨rfl, hm, vs2, en5, j5, ld5, hd5, ra5⟩
    have sq1 : SqL K H5 a1 ys := hK ▸ sql_of (K := F.K) (S := (F.ext D).S) ⟨ld5.lz (.inr rfl) _ _ (Fm.sxA ha1.2) ha1.1, ha1.2⟩
    by_cases hlt1 : m < ys.length
    · refine .inr ⟨⟨ys, ys[m], sq1, by simp [hlt1]⟩, fun H6 => ∃ vs2, EnvOk (F.ext D) H6 ((σ.set i1 none).set i (some x)) ((ρ.set i1 .un).set i (.d (ei a0))) ∧ J (F.ext D) k3 H6 ∧ LeD (F.ext D) D H3 H6 ∧ H6 D = some (.lst vs2) ∧ RpAll (F.ext D) H6 vs2 (((as.take n).flatMap fun a => (bs a).map (g a)) ++ ((bs a0).take (m + 1)).map (g a0)), fun H6 p => ⟨ys.length - (m + 1), by omega, rfl, hlt1, p⟩, fun z H6 y1 => ?_⟩
      obtain ⟨e1, y1⟩ := y1
      subst e1
      obtain ⟨z0, hz0, rz⟩ := hr1.got (y1 ys sq1)
      rw [List.getElem?_map] at hz0
      cases hc1 : (bs a0)[m]? with
      | none => rw [hc1] at hz0; cases hz0
      | some b0 =>
      rw [hc1] at hz0
      cases hz0
      show (wipe ((wipe ((σ.set i1 none).set i (some x)) [i1]).set i1 (some z)) [i1] = wipe ((σ.set i1 none).set i (some x)) [i1] ∧ _)
      rw [set_wipe]
      refine ⟨wipe_set _, ?_⟩
      dsimp only [tYes]
      rw [if_pos rfl]
      have en6 := en5.set (i := i1) (sv := .d (ej b0)) (x := some z) ⟨z, rfl, rz.le (ld5.lz (.inr rfl))⟩
      show tE Cb elt _ H6 _
      refine hel b0 (List.mem_of_getElem? hc1) _ H6 _ en6 j5 fun v6 d6 k6 H7 l7 j7 r7 ⟨ek6, ed6⟩ => ?_
      subst ek6 ed6
      have hd7 : H7 D = some (.lst vs2) := l7 D _ (Fm.mxA hM) hd5
      have lz7 : Lz (F.ext D) H7 (upd H7 D (.lst (vs2 ++ [v6]))) := fun b o nn e => by rw [upd_ne (show b ≠ D from fun z => nn (.inl (.inr z)))]; exact e
      have hN : n < as.length := (List.getElem?_eq_some_iff.mp hc).1
      refine ⟨vs2, hd7, ?_, vs2 ++ [v6], ?_, j7.own hM h0 (pl_lst hd7), ?_, upd_same, ?_⟩
      · rw [ra5.length, List.length_append, List.length_map]
        have h1 := bound n (by omega)
        have h2 := hB a0 (List.mem_of_getElem? hc)
        have h3 := List.length_take_le m (bs a0)
        have h4 : (n + 1) * B ≤ as.length * B := Nat.mul_le_mul_right B (by omega)
        rw [Nat.succ_mul] at h4
        have h5 : m < (bs a0).length := by omega
        have h6 : ((bs a0).take m).length = m := by rw [List.length_take]; omega
        exact Nat.lt_of_lt_of_le (show _ < 1000001 by omega) (by decide)
      · refine (en5.le l7).ld (D := D) (fun b o _ nb e => by rw [upd_ne nb]; exact e) (.inr rfl) (fun ii o xs e => ?_)
        have : ∃ (ii' : Nat) (xs' : List PyData), ρ[ii']? = some (SV.own o xs') := by
          by_cases hi : i = ii
          · subst hi
            by_cases hl : i < (ρ.set i1 .un).length
            · rw [List.getElem?_set_self hl] at e; cases e
            · rw [List.getElem?_eq_none (by simpa using hl)] at e; cases e
          · rw [List.getElem?_set_ne hi] at e
            by_cases hi1 : i1 = ii
            · subst hi1
              by_cases hl : i1 < ρ.length
              · rw [List.getElem?_set_self hl] at e; cases e
              · rw [List.getElem?_eq_none (by simpa using hl)] at e; cases e
            · rw [List.getElem?_set_ne hi1] at e
              exact ⟨_, _, e⟩
        obtain ⟨ii', xs2, e'⟩ := this
        exact hno _ _ _ e'
      · exact fun b o nn nb e => by rw [upd_ne nb]; exact l7 b o nn (ld5 b o nn nb e)
      · rw [take_next hc1, List.map_append, ← List.append_assoc]
        exact ((ra5.le l7.lz).le lz7).append (.cons (r7.le lz7) .nil)
    · have em : m = ys.length := by omega
      refine .inl ⟨⟨ys, sq1, by omega⟩, vs2, ?_, j5, ld.trans (l3.ld.trans ld5), hd5, ?_⟩
      · exact (en'.le l3).ld ld5 (.inr rfl) hno
      · rw [take_next hc, List.flatMap_append, List.flatMap_singleton]
        rw [em, hlen1, List.take_length] at ra5
        exact ra5
  · have en0 : n = xs'.length := by omega
    refine .inl ⟨⟨xs', sq, by omega⟩, ?_⟩
    rw [en0, hlen, List.take_length] at ra
    refine q (.ref D) _ k1 H' ?_ j'.unext (.lst ⟨hd, hS⟩ ra.unext) hfin
    exact fun b o n e => ld b o n (ne_of_none (l1 b o n e) hD) (by rw [upd_ne (ne_of_none (l1 b o n e) hD)]; exact l1 b o n e)
end
end Dl
namespace Dl
open PySem PySem.Spec PyProof.Rows L2
section
variable {F : Fm} {C : Cs} {ρ : Rho} {k : Nat} {P : DE} {Φ : Nat → PyData → Prop} {pos p px p2 ap cp : Pos} {x : Str} {e : Expr}
/-- x.extend(ys), x the own list -/
theorem ws_extend (i : Nat) {o : Addr} {xs : List PyData} (hN : C.N[i]? = some x) (hv : Vis C.sc x) (hr : ρ[i]? = some (.own o xs)) (hno : (ρ.set i .un).all plainB = true)
    (hse : ∀ env : Env, starEach [e] env = (false, eval e env) :: starEach [] env) (h : WPE F C e ρ k fun k1 d => ∃ ds, d = .list ds ∧ xs.length + ds.length ≤ 1000000 ∧ P.nx k1 (ρ.set i (.own o (xs ++ ds))))
    (hsw : ∀ env : Env, swapsWith (.Call (.Attribute (.Name x px) "extend" ap) [e] [] cp) none pos.line env = pure false) (hd : (x == ("__debug__" : Str)) = false := by decide) (hcd : (x == ("__classdict__" : Str)) = false := by decide)
    (hbm : ∀ X : Cx, ∀ {to : TE} {t : TA}, PE X (.Name x px) to → PA X [e] t → PE X (.Call (.Attribute (.Name x px) "extend" ap) [e] [] cp) (tBM X.K "list" rExtend to t) := by exact fun X {to t} h1 h2 => pe_bm PySem.F.plainAttrs_list PySem.F.slot_list_extend PySem.F.type_list_extend mt_extend h1 h2) :
    WPS F C (.Expr (.Call (.Attribute (.Name x px) "extend" ap) [e] [] cp) pos) ρ k P :=
  of_ps (t := tDrop (tBM C.K "list" rExtend (tVar i) (tCons (tE C e) tNil))) (fun X fx => ps_expr (by rw [← fx.K]; exact hbm X (pe_var (by rw [fx.N]; exact hN) (by rw [fx.sc]; exact hv) hd hcd) (pa_cons (peE fx) pa_nil (hse X.env))) (hsw X.env)) fun σ H E en j q1 q2 q3 q4 => by
    obtain ⟨hσ, hS, hM, h0, vs, hv', rv⟩ := en.own hr
    refine ⟨_, hσ, .inl ⟨rfl, _, SqL.of hv'⟩, ?_⟩
    show tE C e σ H _
    refine h σ H _ en j fun v d k1 H1 l1 j1 r1 ⟨ds, ed, hz, p⟩ => ?_
    subst ed
    have hv1 : H1 o = some (.lst vs) := l1 o _ (Fm.mxA hM) hv'
    cases r1 with
    | @lst b ys _ hb hs =>
    refine ⟨o, b, vs, ys, rfl, rfl, hv1, hb.1, ?_, ?_⟩
    · rw [rv.length, hs.length]; exact Nat.le_trans hz (by decide)
    · refine q1 _ σ k1 _ ?_ ((en.le l1).ownSet hr hno ((rv.le l1.lz).append hs)) (j1.own hM h0 (pl_lst (l1 o _ (Fm.mxA hM) hv'))) p
      exact fun b u hb z => by rw [upd_ne (show b ≠ o from fun y => hb (.inl (y ▸ hS)))]; exact l1.lz b u hb z
end
end Dl

namespace Dl
open PySem PySem.Spec PyProof.Rows L2
/-! ### sorted(x), x the own list of pairs of ints -/
def prD (p : Int × Int) : PyData := .tuple [.int p.1, .int p.2]
def pairAt (H : Hp) : V → Int × Int
  | .ref t => match H t with
    | some (.tup [.int a, .int b]) => (a, b)
    | _ => (0, 0)
  | _ => (0, 0)
theorem pair_rep {K : PySem.W.Frag} {S : Addr → Prop} {H : Hp} {v : V} {p : Int × Int} (r : Rep K S H v (prD p)) : pairAt H v = p ∧ ∃ t, v = .ref t ∧ H t = some (.tup [.int p.1, .int p.2]) := by
  cases r with
  | @tup a xs _ ha hr =>
  cases hr with
  | cons r1 hr =>
  cases hr with
  | cons r2 hr =>
  cases hr
  cases r1
  cases r2
  refine ⟨?_, a, rfl, ha.1⟩
  show (match H a with | some (.tup [.int a, .int b]) => (a, b) | _ => (0, 0)) = p
  rw [ha.1]
theorem pairs_rep {K : PySem.W.Frag} {S : Addr → Prop} {H : Hp} : ∀ {ps : List (Int × Int)} {vs : List V}, RepAll K S H vs (ps.map prD) → vs.map (pairAt H) = ps ∧ ∀ v ∈ vs, Rep K S H v (prD (pairAt H v))
  | [], _, r => by cases r; exact ⟨rfl, fun _ h => by cases h⟩
  | p :: ps, _, r => by
    cases r with
    | cons r1 r2 =>
      obtain ⟨e1, h1⟩ := pairs_rep r2
      have e0 := (pair_rep r1).1
      refine ⟨by rw [List.map_cons, e0, e1], fun v hv => ?_⟩
      rcases List.mem_cons.mp hv with rfl | hv
      · rw [e0]; exact r1
      · exact h1 v hv
theorem reps_pair {K : PySem.W.Frag} {S : Addr → Prop} {H : Hp} {k : V → Int × Int} : ∀ {ys : List V}, (∀ v ∈ ys, Rep K S H v (prD (k v))) → RepAll K S H ys ((ys.map k).map prD)
  | [], _ => .nil
  | y :: ys, h => .cons (h y List.mem_cons_self) (reps_pair fun v hv => h v (List.mem_cons_of_mem _ hv))
theorem srtPK {C : Cs} {X : Cx} (fx : Fits C X) : CallR X (.builtin "sorted") (rSortedPO C.K) := by rw [← fx.K]; exact cr_sortedPO
section
variable {F : Fm} {C : Cs} {ρ : Rho} {k : Nat} {Φ : Nat → PyData → Prop} {pos p px : Pos} {x : Str}
theorem we_sortOwnP (i : Nat) {o : Addr} {ps : List (Int × Int)} (hK : F.K = C.K) (hN : C.N[i]? = some x) (hv : Vis C.sc x) (hr : ρ[i]? = some (.own o (ps.map prD))) (hg : C.sc.names.lookup ("sorted" : Str) = some .globalImplicit) (hm : C.mg ("sorted" : Str) = none)
    (h : ∀ qs : List (Int × Int), qs.Perm ps → qs.Pairwise (fun a b => SrtO.lexB b a = false) → Φ k (.list (qs.map prD))) (hd : (x == ("__debug__" : Str)) = false := by decide) (hcd : (x == ("__classdict__" : Str)) = false := by decide) (hse : ∀ env : Env, starEach [.Name x px] env = (false, eval (.Name x px) env) :: starEach [] env := by intro _; rfl) :
    WPE F C (.Call (.Name "sorted" p) [.Name x px] [] pos) ρ k Φ :=
  of_pe (fun X fx => pe_callB (srtPK fx) (by show X.env.scope.names.lookup ("sorted" : Str) = _; rw [fx.sc]; exact hg) (by rw [fx.mg]; exact hm) (by decide +kernel) (pa_cons (pe_var (i := i) (by rw [fx.N]; exact hN) (by rw [fx.sc]; exact hv) hd hcd) pa_nil (hse X.env)) (by decide) (by decide) (hse X.env) rfl) fun σ H Q en j q => by
    obtain ⟨hσ, hS, hM, h0, vs, hv', rv⟩ := en.own hr
    obtain ⟨emap, hall⟩ := pairs_rep rv
    refine ⟨_, hσ, o, vs, pairAt H, rfl, SqL.of hv', fun y hy => ?_, fun ys l hs hb hl => ?_⟩
    · obtain ⟨_, t, e, ht⟩ := pair_rep (hall y hy)
      exact ⟨t, e, ht⟩
    · have hmem : ∀ v ∈ ys, v ∈ vs := fun v hy => hb.perm.mem_iff.mp hy
      refine q _ (.list ((ys.map (pairAt H)).map prD)) k _ (.new hl) (j.new hl) (rep_newL j hl (reps_pair fun v hy => hall v (hmem v hy))) (h _ ?_ ?_)
      · rw [← emap]; exact hb.perm.map _
      · rw [List.pairwise_map]
        refine hs.imp fun hlt => ?_
        exact hlt
end
end Dl

namespace Dl
open PySem PySem.Spec PyProof.Rows L2
/-! ### the comprehension of two clauses, given to a name -/
structure Blk2 (C : Cs) (scope : Scope) (i : Nat) (x : Str) (i1 : Nat) (x1 : Str) : Prop where
  ok : BlkOk C.N C.sc scope [(x, i), (x1, i1)]
  t : Tgt (C.blk scope) i x
  t1 : Tgt (C.blk scope) i1 x1
section
variable {F : Fm} {C : Cs} {ρ : Rho} {k : Nat} {Φ : Nat → PyData → Prop} {P : DE} {pos spos : Pos} {elt iter iter1 : Expr} {scope : Scope} {x x1 y : Str} {px px1 py : Pos} {α β : Type}
theorem ps_lc2X {X : Cx} {i i1 iy : Nat} (fx : Fits C X) (b : Blk2 C scope i x i1 x1) (ty : Tgt C iy y) (hyl : C.sc.names.lookup y = some .local) (hk : C.sc.kind = .function) (hl : (py.line == pos.line) = true) (ha : (scope.names.any fun (n, k) => n == y && (k == .local || k == .cell)) = false)
    (hs : ∀ (env : Env) (v : Value), foldedSetIterable iter env v = pure v) (hs1 : ∀ (env : Env) (v : Value), foldedSetIterable iter1 env v = pure v) :
    PS X (.Assign [.Name y py] (.ListComp elt [⟨.Name x px, iter, [], 0⟩, ⟨.Name x1 px1, iter1, [], 0⟩] scope pos) spos) (tAsg (tLc2 (iTup C.K (tE C iter)) (gName i) tYes (iList (C.blk scope).K (tE (C.blk scope) iter1)) (gName i1) tYes (tE (C.blk scope) elt) [i, i1] [i1]) (gName iy)) :=
  ps_setLc2 (own := [(x, i), (x1, i1)]) (vs1 := [i1]) fx.calm (by rw [fx.N]; exact b.t.hN) (by rw [fx.N]; exact ty.hi) (by rw [fx.sc]; exact hyl) (sw_true (by rw [fx.sc]; exact hk) (by rw [fx.sc]; exact hyl) hl ha) (piT fx) (by rw [fx.N, fx.sc]; exact b.ok) (fun j hj => by simp at hj ⊢; exact .inr hj)
    (fun s H a cl fp => b.t.pg (fx.blk s H scope a cl fp)) (fun s H a cl fp => pts_nil) (fun s H a cl fp => piL (fx.blk s H scope a cl fp)) (fun s H a cl fp => b.t1.pg (fx.blk s H scope a cl fp)) (fun s H a cl fp => pts_nil) (fun s H a cl fp => peE (fx.blk s H scope a cl fp)) (hs X.env) (fun env => hs1 env)
theorem ws_comp2 (ei : α → PyData) (ej : β → PyData) (bs : α → List β) (g : α → β → PyData) (B : Nat) (i i1 iy : Nat) (hne : i ≠ i1) (b : Blk2 C scope i x i1 x1) (ty : Tgt C iy y) (hyl : C.sc.names.lookup y = some .local) (hk : C.sc.kind = .function) (hl : (py.line == pos.line) = true) (ha : (scope.names.any fun (n, k) => n == y && (k == .local || k == .cell)) = false) (hK : F.K = C.K)
    (hs : ∀ (env : Env) (v : Value), foldedSetIterable iter env v = pure v) (hs1 : ∀ (env : Env) (v : Value), foldedSetIterable iter1 env v = pure v)
    (h : WPE F C iter ρ k fun k1 d => ∃ as : List α, d = .tuple (as.map ei) ∧ as.length * B ≤ 1000000 ∧ (∀ a ∈ as, (bs a).length ≤ B) ∧
      (∀ D (a : α), a ∈ as → WPE (F.ext D) (C.blk scope) iter1 ((ρ.set i1 .un).set i (.d (ei a))) k1 (fun k2 d2 => k2 = k1 ∧ d2 = .list ((bs a).map ej)) ∧
        ∀ b ∈ bs a, WPE (F.ext D) (C.blk scope) elt (((ρ.set i1 .un).set i (.d (ei a))).set i1 (.d (ej b))) k1 fun k3 y => k3 = k1 ∧ y = g a b) ∧ P.nx k1 (ρ.set iy (.d (.list (as.flatMap fun a => (bs a).map (g a)))))) :
    WPS F C (.Assign [.Name y py] (.ListComp elt [⟨.Name x px, iter, [], 0⟩, ⟨.Name x1 px1, iter1, [], 0⟩] scope pos) spos) ρ k P :=
  of_ps (fun X fx => ps_lc2X fx b ty hyl hk hl ha hs hs1) (ws_asgName iy (we_lc2 ei ej bs g B i i1 hne hK h))
end
end Dl

namespace Dl
open PySem PySem.Spec PyProof.Rows L2
section
variable {F : Fm} {C : Cs} {ρ : Rho} {k : Nat} {Φ : Nat → PyData → Prop} {P : DE} {pos apos px p2 ap cp : Pos} {o e : Expr} {x : Str} {rest : List Stmt}
/-! ### i.bit_length() -/
theorem we_bits (hbase : ∀ env : Env, attributeBase o "bit_length" env (eval o env) = eval o env) (hline : (apos.endLine == pos.line) = true) (h : WPE F C o ρ k fun k1 d => ∃ i : Int, d = .int i ∧ Φ k1 (.int (Builtin.Int.intBits i : Nat))) : WPE F C (.Call (.Attribute o "bit_length" apos) [] [] pos) ρ k Φ :=
  of_pe (fun X fx => pe_bits (peE fx) (hbase X.env) hline) fun σ H Q en j q => h σ H _ en j fun v d k1 H1 l1 j1 r ⟨i, e, p⟩ => by
    subst e
    cases r
    exact ⟨i, rfl, q _ _ k1 H1 l1 j1 (.int _) p⟩
/-! ### x = [c] * e, the def's own list -/
theorem rep_ints {K : PySem.W.Frag} {S : Addr → Prop} {H : Hp} {c : Int} : ∀ n : Nat, RepAll K S H (List.replicate n (V.int c)) (List.replicate n (.int c))
  | 0 => .nil
  | n + 1 => .cons (.int c) (rep_ints n)
theorem flat1 {α : Type} (c : α) : ∀ n : Nat, (List.replicate n [c]).flatten = List.replicate n c
  | 0 => rfl
  | n + 1 => by rw [List.replicate_succ, List.flatten_cons, flat1 c n, List.replicate_succ]; rfl
theorem wb_ownRep (i : Nat) {c : Int} {kk : Nat} {pc p3 p4 : Pos} (t : Tgt C i x) (hi : i < ρ.length) (hs : ∀ env : Env, env.scope = C.sc → swapsWith (.BinOp (.List [.Constant (.int c) kk pc] p3) .Mult e p4) (some (.Name x px)) pos.line env = pure false)
    (h : WPE F C e ρ k fun k1 d => ∃ n : Nat, d = .int (n : Int) ∧ n ≤ 1000000 ∧ ∀ o, WPB (F.ext o) C rest (ρ.set i (.own o (List.replicate n (.int c)))) k1 { nx := fun _ _ => False, rt := P.rt, bk := fun _ _ => False, ct := fun _ _ => False }) : WPB F C (.Assign [.Name x px] (.BinOp (.List [.Constant (.int c) kk pc] p3) .Mult e p4) pos :: rest) ρ k P :=
  of_pb (fun X fx => pss_cons (ps_set (by rw [fx.N]; exact t.hN) (by rw [fx.N]; exact t.hi) (by rw [fx.sc]; exact t.hx) (pe_op op_rep (pe_lst (pa_cons pe_int pa_nil)) (peE fx)) (hs X.env fx.sc) (by rw [fx.fn, fx.sc]; exact t.hf)) (pbB fx)) fun σ H E en j q1 q2 q3 q4 => by
    refine ⟨by show 1 ≤ sizeLine; decide, fun o1 no1 => ?_⟩
    show tE C e σ _ _
    refine h σ _ _ (en.le (.new no1)) (j.new no1) fun v d k1 H1 l1 j1 r ⟨n, ed, hn, hb⟩ => ?_
    subst ed
    cases r
    have ho1 : H1 o1 = some (.lst [V.int c]) := l1 o1 _ (Fm.mxA fun z => F.gl _ _ j.g o1 z no1) upd_same
    refine ⟨o1, _, [V.int c], rfl, rfl, ho1, by omega, by omega, ?_, fun o no => ?_⟩
    · rw [Int.toNat_natCast]; show 1 * n ≤ sizeLine; rw [Nat.one_mul]; exact Nat.le_trans hn (by decide)
    rw [Int.toNat_natCast, flat1]
    have en1 : EnvOk F H1 σ ρ := en.le (fun b u hb z => l1 b u hb (by rw [upd_ne (ne_of_none z no1)]; exact z))
    have hM : ¬ F.M o := fun z => F.gl _ _ j1.g o z no
    have h0 : F.H0 o = none := j1.h0 hM no
    have en2 : EnvOk (F.ext o) (upd H1 o (.lst (List.replicate n (V.int c)))) (σ.set i (some (.ref o))) (ρ.set i (.own o (List.replicate n (.int c)))) :=
      (en1.ext no).set (sv := .own o _) ⟨rfl, .inr rfl, hM, h0, _, upd_same, rep_ints n⟩
    refine hb o (σ.set i (some (.ref o))) _ E en2 ((j1.new no).ext (lv_new fun _ z => nomatch z)) ?_ ?_ ?_ ?_
    · exact fun _ _ _ _ _ _ _ z => z.elim
    · exact fun v d k' H' j' r' p => q2 v d k' H' j'.unext r'.unext p
    · exact fun _ _ _ _ _ _ _ z => z.elim
    · exact fun _ _ _ _ _ _ _ z => z.elim
end
end Dl
namespace Dl
open PySem PySem.Spec PyProof.Rows L2
section
variable {F : Fm} {C : Cs} {ρ : Rho} {k : Nat} {Φ : Nat → PyData → Prop} {P : DE} {pos apos px px2 p2 ap cp spos : Pos} {o e ie : Expr} {x : Str} {rest : List Stmt}
/-! ### x[i], x the own list -/
theorem atI_rep {K : PySem.W.Frag} {S : Addr → Prop} {H : Hp} {vs : List V} {xs : List PyData} (r : RepAll K S H vs xs) {j : Nat} (hj : j < xs.length) : ∃ v, atI vs (j : Int) = some v ∧ Rep K S H v xs[j] := by
  have hl := r.length
  have hv : vs[j]? = some vs[j] := List.getElem?_eq_getElem (by omega)
  obtain ⟨y, hy, ry⟩ := r.got hv
  rw [List.getElem?_eq_getElem hj] at hy
  cases hy
  exact ⟨vs[j], atI_nat hv, ry⟩
theorem ixlK {X : Cx} (fx : Fits C X) : IxR X (rIxL C.K) := by rw [← fx.K]; exact ix_list
theorem we_ixOwn (i : Nat) {ow : Addr} {xs : List PyData} (hK : F.K = C.K) (hN : C.N[i]? = some x) (hv : Vis C.sc x) (hr : ρ[i]? = some (.own ow xs)) (hs : PlainIx ie)
    (h : WPE F C ie ρ k fun k1 d => ∃ (j : Nat) (hj : j < xs.length), d = .int (j : Int) ∧ Φ k1 xs[j]) (hd : (x == ("__debug__" : Str)) = false := by decide) (hcd : (x == ("__classdict__" : Str)) = false := by decide) :
    WPE F C (.Subscript (.Name x px) ie pos) ρ k Φ :=
  of_pe (fun X fx => pe_ix (ixlK fx) (pe_var (i := i) (by rw [fx.N]; exact hN) (by rw [fx.sc]; exact hv) hd hcd) (peE fx) hs) fun σ H Q en j q => by
    obtain ⟨hσ, hS, hM, h0, vs, hv', rv⟩ := en.own hr
    refine ⟨_, hσ, ?_⟩
    show tE C ie σ H _
    refine h σ H _ en j fun v d k1 H1 l1 j1 r ⟨jj, hj, ed, p⟩ => ?_
    subst ed
    cases r
    obtain ⟨v, hat, ry⟩ := atI_rep rv hj
    exact ⟨ow, vs, _, v, rfl, rfl, SqL.of (l1 ow _ (Fm.mxA hM) hv'), hat, q _ _ k1 H1 l1 j1 (ry.le l1.lz) p⟩
/-! ### x[i] = v, x the own list -/
theorem rep_set {K : PySem.W.Frag} {S : Addr → Prop} {H : Hp} {v : V} {d : PyData} (rv : Rep K S H v d) : ∀ {vs : List V} {xs : List PyData} (j : Nat), RepAll K S H vs xs → RepAll K S H (vs.set j v) (xs.set j d)
  | _, _, 0, .nil => .nil
  | _, _, j + 1, .nil => .nil
  | _, _, 0, .cons r rs => .cons rv rs
  | _, _, j + 1, .cons r rs => .cons r (rep_set rv j rs)
theorem ixN_nat {n j : Nat} (h : j < n) : ixN n (j : Int) = some j := by
  unfold ixN
  simp
  omega
theorem ws_setOwn (i : Nat) {ow : Addr} {xs : List PyData} (hN : C.N[i]? = some x) (hv : Vis C.sc x) (hr : ρ[i]? = some (.own ow xs)) (hno : (ρ.set i .un).all plainB = true)
    (h : WPE F C e ρ k fun k1 d => WPE F C ie ρ k1 fun k2 d2 => ∃ j : Nat, j < xs.length ∧ d2 = .int (j : Int) ∧ P.nx k2 (ρ.set i (.own ow (xs.set j d))))
    (hs1 : ∀ env : Env, swapsWithSole [.Subscript (.Name x px) ie p2] e spos.line env = pure false) (hs2 : ∀ env : Env, swappedStores [.Subscript (.Name x px) ie p2] e env = pure none)
    (ha : ∀ (X : Cx) (v : Value), assign (.Subscript (.Name x px) ie p2) X.env v = (do
      let ov ← holding [v] (eval (.Name x px) X.env)
      let iv ← holding [v, ov] (eval ie X.env)
      standAt p2
      holding [v, ov, iv] (setItem ov iv v)
      release [v, ov, iv] []) := by intro _ _; rfl) (hd : (x == ("__debug__" : Str)) = false := by decide) (hcd : (x == ("__classdict__" : Str)) = false := by decide) :
    WPS F C (.Assign [.Subscript (.Name x px) ie p2] e spos) ρ k P :=
  of_ps (fun X fx => ps_asg (peE fx) (pg_sub (pe_var (i := i) (by rw [fx.N]; exact hN) (by rw [fx.sc]; exact hv) hd hcd) (peE fx) set_list (ha X)) (hs1 X.env) (hs2 X.env)) fun σ H E en j q1 q2 q3 q4 => by
    show tE C e σ H _
    refine h σ H _ en j fun v d k1 H1 l1 j1 r1 h2 => ?_
    have en1 := en.le l1
    obtain ⟨hσ, hS, hM, h0, vs, hv', rv⟩ := en1.own hr
    refine ⟨_, hσ, ?_⟩
    show tE C ie σ H1 _
    refine h2 σ H1 _ en1 j1 fun v2 d2 k2 H2 l2 j2 r2 ⟨jj, hj, ed, p⟩ => ?_
    subst ed
    cases r2
    have hv2 : H2 ow = some (.lst vs) := l2 ow _ (Fm.mxA hM) hv'
    refine ⟨ow, vs, _, jj, rfl, rfl, hv2, ixN_nat (by rw [rv.length]; exact hj), ?_⟩
    refine q1 _ σ k2 _ ?_ ((en1.le l2).ownSet hr hno (rep_set (r1.le l2.lz) jj (rv.le l2.lz))) (j2.own hM h0 (pl_lst hv2)) p
    exact fun b u hb z => by rw [upd_ne (show b ≠ ow from fun y => hb (.inl (y ▸ hS)))]; exact l2.lz b u hb (l1.lz b u hb z)
/-! ### x.count(i), a list of ints -/
theorem rep_vints {K : PySem.W.Frag} {S : Addr → Prop} {H : Hp} : ∀ {ns : List Int} {vs : List V}, RepAll K S H vs (ns.map PyData.int) → vs = ns.map V.int
  | [], _, r => by cases r; rfl
  | n :: ns, _, r => by
    cases r with
    | cons r1 r2 =>
      cases r1
      rw [rep_vints r2]; rfl
theorem we_count (hK : F.K = C.K) (hse : ∀ env : Env, starEach [e] env = (false, eval e env) :: starEach [] env)
    (h : WPE F C o ρ k fun k1 d => ∃ ns : List Int, d = .list (ns.map PyData.int) ∧ WPE F C e ρ k1 fun k2 d2 => ∃ i : Int, d2 = .int i ∧ Φ k2 (.int (ns.count i : Nat)))
    (hbm : ∀ X : Cx, ∀ {to : TE} {t : TA}, PE X o to → PA X [e] t → PE X (.Call (.Attribute o "count" ap) [e] [] cp) (tBM X.K "list" (rCntI X.K) to t)) :
    WPE F C (.Call (.Attribute o "count" ap) [e] [] cp) ρ k Φ :=
  of_pe (t := tBM C.K "list" (rCntI C.K) (tE C o) (tCons (tE C e) tNil)) (fun X fx => by rw [← fx.K]; exact hbm X (peE fx) (pa_cons (peE fx) pa_nil (hse X.env))) fun σ H Q en j q => by
    show tE C o σ H _
    refine h σ H _ en j fun v d k1 H1 l1 j1 r1 ⟨ns, ed, h2⟩ => ?_
    subst ed
    cases r1 with
    | @lst a vs _ ha hr =>
    obtain rfl := rep_vints hr
    have sq : ∀ H', Lz F H1 H' → SqL C.K H' a (ns.map V.int) := fun H' lz => hK ▸ sql_of (K := F.K) (S := F.S) ⟨lz _ _ (Fm.sxA ha.2) ha.1, ha.2⟩
    refine ⟨.inl ⟨rfl, _, sq H1 .refl⟩, ?_⟩
    show tE C e σ H1 _
    refine h2 σ H1 _ (en.le l1) j1 fun v2 d2 k2 H2 l2 j2 r2 ⟨i, ed, p⟩ => ?_
    subst ed
    cases r2
    exact ⟨a, ns, i, rfl, rfl, sq H2 l2.lz, q _ _ k2 H2 (l1.trans l2) j2 (.int _) p⟩
end
end Dl
namespace Dl
open PySem PySem.Spec PyProof.Rows L2
/-! ### [.. for a, b in a tuple of pairs] -/
theorem wipe3 {i i1 : Nat} {a b : V} (hne : i ≠ i1) (σ : L2.St) : ((wipe σ [i, i1]).set i (some a)).set i1 (some b) = (σ.set i (some a)).set i1 (some b) := by
  show (((σ.set i1 none).set i none).set i (some a)).set i1 (some b) = _
  rw [List.set_set, List.set_comm _ _ (Ne.symm hne), List.set_set]
theorem wipe3' {i i1 : Nat} {a b : V} (hne : i ≠ i1) (σ : L2.St) : wipe ((σ.set i (some a)).set i1 (some b)) [i, i1] = wipe σ [i, i1] := by
  show ((((σ.set i (some a)).set i1 (some b)).set i1 none).set i none) = (σ.set i1 none).set i none
  rw [List.set_set, List.set_comm _ _ hne, List.set_set]
section
variable {F : Fm} {C : Cs} {ρ : Rho} {k : Nat} {Φ : Nat → PyData → Prop} {P : DE} {pos spos : Pos} {elt iter : Expr} {scope : Scope} {x x1 y : Str} {px px1 py p3 : Pos} {kk : Nat} {α : Type}
theorem we_lcP (i i1 : Nat) (hne1 : i ≠ i1) {tl : TE} {K : PySem.W.Frag} (hK : F.K = K) {te : TE} (ei : α → PyData × PyData) (g : α → PyData)
    (h : WE F tl ρ k fun k1 d => ∃ as : List α, d = .tuple (as.map fun a => PyData.tuple [(ei a).1, (ei a).2]) ∧ as.length ≤ 1000000 ∧ (∀ D (a : α), a ∈ as → WE (F.ext D) te ((ρ.set i (.d (ei a).1)).set i1 (.d (ei a).2)) k1 fun k2 z => k2 = k1 ∧ z = g a) ∧ Φ k1 (.list (as.map g))) :
    WE F (tLc (iTup K tl) (gTup K 2 (gCons (gName i) (gCons (gName i1) gNil))) tYes te [i, i1]) ρ k Φ := fun σ H Q en j q => by
  show tl σ H _
  refine h σ H _ en j fun v d k1 H1 l1 j1 r hh => ?_
  obtain ⟨as, e, hz, hstep, hend⟩ := hh
  subst e
  cases r with
  | @tup a xs _ ha hr =>
  refine ⟨a, rfl, ⟨xs, hK ▸ sqt_of ha⟩, fun D hD => ?_⟩
  have en1 := en.le l1
  have hM : ¬ F.M D := fun z => F.gl _ _ j1.g D z hD
  have hS : ¬ F.S D := j1.fresh hD
  have h0 : F.H0 D = none := j1.h0 hM hD
  have hne : ∀ (i : Nat) o xs, ρ[i]? = some (SV.own o xs) → o ≠ D := fun i o xs e => by
    obtain ⟨x, _, s⟩ := en1 i _ e
    obtain ⟨_, _, _, _, vs, h1, _⟩ := s
    exact ne_of_none h1 hD
  have rr : Rp (F.ext D) (upd H1 D (.lst [])) (.ref a) (.tuple (as.map fun a => PyData.tuple [(ei a).1, (ei a).2])) := Rep.ext (.tup ha hr) hD
  cases rr with
  | @tup _ xs' _ ha' hr' =>
  have hlen : xs'.length = as.length := by rw [hr'.length, List.length_map]
  refine lc_tup (xs := xs') (fun n H' => ∃ vs, EnvOk (F.ext D) H' σ ρ ∧ J (F.ext D) k1 H' ∧ LeD (F.ext D) D (upd H1 D (.lst [])) H' ∧ H' D = some (.lst vs) ∧ RpAll (F.ext D) H' vs ((as.take n).map g))
    ⟨[], en1.ext hD, (j1.new hD).ext (lv_new fun _ z => nomatch z), .refl, upd_same, .nil⟩ ?_ ?_ ?_
  · rintro n H' _ ⟨vs, _, _, ld, _⟩
    have := sqt_of (K := F.K) (H := H') (S := (F.ext D).S) ⟨ld.lz (.inr rfl) _ _ (Fm.sxA ha'.2) ha'.1, ha'.2⟩
    exact hK ▸ this
  · rintro n v H' hv ⟨vs, en', j', ld, hd, ra⟩
    obtain ⟨y, hy, ry⟩ := hr'.got hv
    rw [List.getElem?_map] at hy
    cases hc : as[n]? with
    | none => rw [hc] at hy; cases hy
    | some a0 =>
    rw [hc] at hy
    cases hy
    have ry' : Rp (F.ext D) H' v (PyData.tuple [(ei a0).1, (ei a0).2]) := ry.le (ld.lz (.inr rfl))
    cases ry' with
    | @tup t ts _ ht hts =>
    cases hts with
    | @cons v1 _ _ _ r1 hts =>
    cases hts with
    | @cons v2 _ _ _ r2 hts =>
    cases hts
    refine ⟨t, _, rfl, hK ▸ sqt_of (K := F.K) ht, rfl, v1, _, rfl, ?_⟩
    refine ⟨v2, _, rfl, rfl, ?_⟩
    rw [wipe3 hne1]
    refine ⟨wipe3' hne1 σ, ?_⟩
    have hn : n < as.length := (List.getElem?_eq_some_iff.mp hc).1
    have hl0 : ((as.take n).map g).length ≤ n := by rw [List.length_map]; exact List.length_take_le _ _
    refine lc_turn (F := F.ext D) (I := fun k acc => k = k1 ∧ acc = (as.take (n + 1)).map g) hM (.inr rfl) h0 ((en'.set (sv := .d (ei a0).1) ⟨v1, rfl, r1⟩).set (sv := .d (ei a0).2) ⟨v2, rfl, r2⟩) j' hd ra (Nat.lt_of_le_of_lt (show ((as.take n).map g).length ≤ 1000000 by omega) (by decide)) (wt_yes ?_) fun H2 k2 vs2 acc2 hl2 ld2 hd2 ra2 j2 i2 => ?_
    · rw [if_pos rfl]
      refine (hstep D a0 (List.mem_of_getElem? hc)).imp fun k2 z ⟨e1, e2⟩ => ⟨e1, ?_⟩
      rw [take_next hc, List.map_append, e2]; rfl
    · obtain ⟨rfl, rfl⟩ := i2
      exact ⟨vs2, en'.ld ld2 (.inr rfl) hne, j2, ld.trans ld2, hd2, ra2⟩
  · rintro H' ⟨vs, en', j', ld, hd, ra⟩
    rw [hlen, List.take_length] at ra
    refine q (.ref D) _ k1 H' ?_ j'.unext (.lst ⟨hd, hS⟩ ra.unext) hend
    exact fun b o n e => ld b o n (ne_of_none (l1 b o n e) hD) (by rw [upd_ne (ne_of_none (l1 b o n e) hD)]; exact l1 b o n e)
theorem ws_compP (ei : α → PyData × PyData) (g : α → PyData) (i i1 iy : Nat) (hne : i ≠ i1) (b : Blk2 C scope i x i1 x1) (ty : Tgt C iy y) (hyl : C.sc.names.lookup y = some .local) (hk : C.sc.kind = .function) (hl : (py.line == pos.line) = true) (ha : (scope.names.any fun (n, k) => n == y && (k == .local || k == .cell)) = false) (hK : F.K = C.K)
    (hs : ∀ (env : Env) (v : Value), foldedSetIterable iter env v = pure v)
    (h : WPE F C iter ρ k fun k1 d => ∃ as : List α, d = .tuple (as.map fun a => PyData.tuple [(ei a).1, (ei a).2]) ∧ as.length ≤ 1000000 ∧ (∀ D (a : α), a ∈ as → WPE (F.ext D) (C.blk scope) elt ((ρ.set i (.d (ei a).1)).set i1 (.d (ei a).2)) k1 fun k2 z => k2 = k1 ∧ z = g a) ∧ P.nx k1 (ρ.set iy (.d (.list (as.map g))))) :
    WPS F C (.Assign [.Name y py] (.ListComp elt [⟨.Tuple [.Name x px, .Name x1 px1] kk p3, iter, [], 0⟩] scope pos) spos) ρ k P :=
  of_ps (fun X fx => ps_setLc (own := [(x, i), (x1, i1)]) fx.calm (by rw [fx.N]; exact b.t.hN) (by rw [fx.N]; exact ty.hi) (by rw [fx.sc]; exact hyl) (sw_true (by rw [fx.sc]; exact hk) (by rw [fx.sc]; exact hyl) hl ha) (piT fx) (by rw [fx.N, fx.sc]; exact b.ok) (fun s H a cl fp => pgTup (n := 2) (fx.blk s H scope a cl fp) (pgs_cons (b.t.pg (fx.blk s H scope a cl fp)) (pgs_cons (b.t1.pg (fx.blk s H scope a cl fp)) pgs_nil)) (by rfl) (by rfl)) (fun s H a cl fp => pts_nil) (fun s H a cl fp => peE (fx.blk s H scope a cl fp)) (hs X.env))
    (ws_asgName iy (we_lcP i i1 hne hK ei g h))
/-- the same as a value -/
theorem we_compP (ei : α → PyData × PyData) (g : α → PyData) (i i1 : Nat) (hne : i ≠ i1) (b : Blk2 C scope i x i1 x1) (hK : F.K = C.K)
    (hs : ∀ (env : Env) (v : Value), foldedSetIterable iter env v = pure v)
    (h : WPE F C iter ρ k fun k1 d => ∃ as : List α, d = .tuple (as.map fun a => PyData.tuple [(ei a).1, (ei a).2]) ∧ as.length ≤ 1000000 ∧ (∀ D (a : α), a ∈ as → WPE (F.ext D) (C.blk scope) elt ((ρ.set i (.d (ei a).1)).set i1 (.d (ei a).2)) k1 fun k2 z => k2 = k1 ∧ z = g a) ∧ Φ k1 (.list (as.map g))) :
    WPE F C (.ListComp elt [⟨.Tuple [.Name x px, .Name x1 px1] kk p3, iter, [], 0⟩] scope pos) ρ k Φ :=
  of_pe (fun X fx => pe_lc (own := [(x, i), (x1, i1)]) fx.calm (by rw [fx.N]; exact b.t.hN) (piT fx) (by rw [fx.N, fx.sc]; exact b.ok) (fun s H a cl fp => pgTup (n := 2) (fx.blk s H scope a cl fp) (pgs_cons (b.t.pg (fx.blk s H scope a cl fp)) (pgs_cons (b.t1.pg (fx.blk s H scope a cl fp)) pgs_nil)) (by rfl) (by rfl)) (fun s H a cl fp => pts_nil) (fun s H a cl fp => peE (fx.blk s H scope a cl fp)) (hs X.env))
    (we_lcP i i1 hne hK ei g h)
end
end Dl

namespace Dl
open PySem PySem.Spec PyProof.Rows L2
/-! ### sorted(a set of hii), any number of members -/
section
variable {P : Program} {w : World} {A : Around} {E : Value → Shared → Prop} {s : Shared} {a : Addr}
theorem sortedSetAll {S : Int → Bool} {n : Nat} {Q : Value → Shared → Prop} (R : SetR w s.heap a S n) (calm : A.handled = none)
    (hQ : ∀ (t : Shared) (p : Addr) (res : List Value) (c : Nat) (ms : List Int), (∀ b o, s.heap.get? b = some o → t.heap.get? b = some o) → t.gens = s.gens → t.os = s.os → s.heap.objs.size ≤ p →
      t.heap.get? p = some (seqObj "list" res.toArray c) → IntsAre res ms → ms.Pairwise (· < ·) → (∀ i, i ∈ ms ↔ S i = true) → ms.length = n → Q (.ref p) t) :
    wpAny (model P w) A (call (.builtin "sorted") [.ref a]) Q E s := by
  obtain ⟨ob, els, epo, tab, hob, exact1, hdat, gd, nodup, memb, bnd, fit, cnt, ris, led⟩ := R
  refine Calls.call_function_entry PyProof.Rows.kind_sorted PyProof.Rows.plain_sorted PyProof.Rows.entry_sorted (PyProof.Rows.args_sorted1 _) ?_
  unfold Builtin.«sorted»
  refine wpAny_bind (m := checkCount "sorted" 1 1 _) (wpAny_pure (wpAny_bind (collect_set (A := A.in1) calm ⟨ob, hob, exact1.1, hdat⟩ fit bnd ris led fun s1 vs kp sz gs os pm => ?_)))
  have vlen : vs.length = n := (pm.length_eq.trans ((List.length_map _).trans Array.length_toList)).trans cnt
  have small : n < 4096 := cnt ▸ bnd
  have hii : IntsAre vs (vs.map Builtin.Re.reRawOf) := ints_of vs fun v hv => by
    obtain ⟨e, he, rfl⟩ := List.mem_map.mp (pm.mem_iff.mp hv)
    obtain ⟨k, tk, h1, _⟩ := gd e he
    exact ⟨k, tk, h1⟩
  have pkeys : (vs.map Builtin.Re.reRawOf).Perm (els.toList.map keyOf) := by
    have z := pm.map Builtin.Re.reRawOf
    rwa [List.map_map] at z
  have lim : vs.length ≤ sizeLine := by rw [vlen, sizeLine_eq]; omega
  refine wpAny_bind (wpAny_newList ?_ (by rw [vlen, sizeLine_eq]; omega))
  have here : (s1.heap.push (seqObj "list" vs.toArray 0)).get? s1.heap.objs.size = some (seqObj "list" vs.toArray 0) := Heap.get?_push_size _ rfl
  refine wpAny_bind (wpAny_holding (wpAny_call_entry PyProof.Rows.slot_list_sort ⟨_, here, rfl⟩ PyProof.Rows.entry_list_sort (SrtO.list_sort_ord SrtO.swo_int here lim (fun h2 => SrtO.ints_sortable hii h2) fun res r1 r2 => ⟨_, rfl, ?_⟩) (PyProof.Rows.args_list_sort _)))
  obtain ⟨z1, z2, z3⟩ := SrtO.ints_out hii r1 r2
  obtain ⟨c, hc⟩ := PyProof.Rows.sortedHeap_at (vs := vs) (out := res.toArray) here
  have pfin := z2.trans pkeys
  refine wpAny_pure ⟨_, rfl, hQ _ s1.heap.objs.size res c (res.map SrtO.iv) (fun b u e => ?_) gs os sz hc z1 (lt_of_le_nodup _ z3 (pfin.nodup_iff.mpr nodup)) (fun i => (pfin.mem_iff).trans (memb i).symm) ?_⟩
  · have old := kp b u e
    have blt := Heap.lt_size old
    show (sortedHeap (s1.heap.push (seqObj "list" vs.toArray 0)) s1.heap.objs.size vs res.toArray).get? b = _
    rw [PyProof.Rows.sortedHeap_old (Nat.ne_of_lt blt) (by rw [Heap.size_push]; exact Nat.lt_succ_of_lt blt)]
    exact Heap.get?_push_of_some _ old
  · exact (pfin.length_eq.trans ((List.length_map _).trans Array.length_toList)).trans cnt
end
def rSortSetA (w : World) : List V → Hp → VK → Prop := fun vs H Q => ∃ (a : Addr) (S : Int → Bool) (n : Nat), vs = [V.ref a] ∧ H a = some (SetO w a S n) ∧
  ∀ (ms : List Int) (p : Addr), ms.Pairwise (· < ·) → (∀ i : Int, i ∈ ms ↔ S i = true) → ms.length = n → H p = none → Q (.ref p) (upd H p (.lst (ms.map V.int)))
theorem cr_sortSetA {X : Cx} (hc : X.calm = true) : CallR X (.builtin "sorted") (rSortSetA X.w) := by
  intro pins s σ H vs us Q I r h
  obtain ⟨a, S, n, rfl, ha, q⟩ := h
  have R := setO_get I ha
  have nb : n < 4096 := by
    obtain ⟨_, els, _, _, _, _, _, _, _, _, bnd, _, cnt, _⟩ := R
    exact cnt ▸ bnd
  rw [Vals.ref1 r]
  refine sortedSetAll R (I.ok.hd hc) fun t p res c ms kp gs os sz at1 hii asc mem len => ?_
  have fits : (ms.map V.int).length ≤ sizeLine := by rw [List.length_map, len, sizeLine_eq]; omega
  have fresh : H p = none := I.hok.fresh sz
  have J1 : Inv X pins σ (upd H p (.lst (ms.map V.int))) { s with heap := t.heap, gens := t.gens, drawn := t.drawn, toks := t.toks } :=
    I.call (ch := []) (Un.laid kp sz fresh) (I.hok.laid kp sz ⟨fits, res, c, vals_of_ints hii, at1⟩) (by rw [gs]; exact I.bare) (fun _ z => nomatch z)
  have same : t = { s with heap := t.heap, gens := t.gens, drawn := t.drawn, toks := t.toks } := by
    cases t; cases s; cases os; rfl
  rw [same]
  exact ⟨.ref p, _, J1, rfl, q ms p asc mem len fresh⟩
/-! ### {elt for x in iter if ..}, elt an int -/
section
variable {X : Cx}
def tSci (w : World) (wi : TI) (g : TG) (tt : TT) (te : TE) (vs : List Nat) : TE := fun σ H Q => wi σ H fun J H1 => ∀ D, H1 D = none →
  ∃ W : Nat → Nat → Hp → Prop, (∃ m, W 0 m (upd H1 D (SetO w D (fun _ => false) 0))) ∧ ∀ i m H, W i m H → (J.stop i H ∧ Q (.ref D) H) ∨
    (J.go i H ∧ ∃ Nx : Hp → Prop, (∀ H', Nx H' → ∃ m', m' < m ∧ W (i + 1) m' H') ∧ ∀ x H', J.yld i H x H' → g x (wipe σ vs) H' fun σ2 H2 => wipe σ2 vs = wipe σ vs ∧ tt σ2 H2 fun b H3 =>
      if b = true then te σ2 H3 fun y H4 => ∃ (c : Int) (S : Int → Bool) (n : Nat), y = .int c ∧ H4 D = some (SetO w D S n) ∧ n + 1 < scanBound ∧ Nx (upd H4 D (SetO w D (fun j => S j || decide (j = c)) (if S c = true then n else n + 1))) else Nx H3)
set_option maxHeartbeats 4000000 in
theorem sci_core {pins : List (Addr × Obj)} {s : Shared} {σ : L2.St} {H : Hp} {Q : VK} {elt tg iter : Expr} {ifs : List Expr} {scope : Scope} {own : List (PySem.Str × Nat)} {pos pos' : Pos} {wi : TI} {g : TG} {tt : TT} {te : TE} {use : Option (Value → Sem Unit)} {Qf : Value → Shared → Prop}
    (calm : X.calm = true) (nodup : X.N.Nodup) (Iv : Inv X pins σ H s) (hit : PI X tg iter wi) (bok : BlkOk X.N X.env.scope scope own)
    (hg : ∀ (s : Shared) (H : Hp) (B : Addr) (cl : List (PySem.Str × Addr)) (fp : List Addr), PG (X.blk s H scope (compEnvC scope cl B X.env) fp) tg g)
    (ht : ∀ (s : Shared) (H : Hp) (B : Addr) (cl : List (PySem.Str × Addr)) (fp : List Addr), PTs (X.blk s H scope (compEnvC scope cl B X.env) fp) ifs tt)
    (he : ∀ (s : Shared) (H : Hp) (B : Addr) (cl : List (PySem.Str × Addr)) (fp : List Addr), PE (X.blk s H scope (compEnvC scope cl B X.env) fp) elt te)
    (hfold : ∀ x, foldedSetIterable iter X.env x = pure x) (hh : tSci X.w wi g tt te (own.map (·.2)) σ H Q)
    (hpost : ∀ D B s' m H', Inv X pins σ H' s' → Q (.ref D) H' → s'.heap.Ns B m → FpOk X pins H' B → compPost (model X.prog X.w) X.A X.xe use Qf (.ref D) B (.ok .next) s') :
    wpAny (model X.prog X.w) X.A (comprehension (.SetComp elt [⟨tg, iter, ifs, 0⟩] scope pos) scope X.env pos' (newSet (.type "set")) false (eval iter X.env) use) Qf X.xe s := by
  have frees : ∀ y ∈ scope.names, y.2 = .free → ∃ c, X.env.cells.lookup y.1 = some c := fun y hy e => (bok.free y hy e).elim (fun k => Iv.ok.has _ (.inl k)) (fun k => Iv.ok.has _ (.inr k))
  refine wpAny_comprehension_free (use := use) rfl hfold (closure_ok frees) bok.kind (fun y hy e => by rw [bok.uniq y hy, e]) ?_
  refine thn (hit.run pins s σ H _ Iv hh) fun xv s1 hx => thn hx fun itv s2 h2 => ?_
  obtain ⟨it, fp, tn, J, H2, rfl, Iv2, T, start2, fpo2, q⟩ := h2
  refine PpSet.newSet_ok (newEnv_comp ?_)
  generalize eD : s2.heap.objs.size = D
  have noD : H2 D = none := Iv2.hok.fresh (Nat.le_of_eq eD)
  obtain ⟨W, ⟨m0, w0⟩, turn⟩ := q D noD
  generalize e3 : ({ s2 with heap := s2.heap.push (nso X.w) } : Shared) = s3
  have there : (s2.heap.push (nso X.w)).get? s2.heap.objs.size = some (nso X.w) := Heap.get?_push_size _ rfl
  have new0 : SetR X.w (s2.heap.push (nso X.w)) s2.heap.objs.size (fun _ => false) 0 := by
    have z := setR_new_at (w := X.w) (ns := []) there
    exact z
  have Iv3 : Inv X pins σ (upd H2 D (SetO X.w D (fun _ => false) 0)) s3 := by
    subst e3 eD
    exact Iv2.laid (t' := s2.toks) (fun b o e => Heap.get?_push_of_some _ e) (Nat.le_refl _) (setO_new new0)
  have heap3 : s3.heap = s2.heap.push (nso X.w) := by rw [← e3]
  have below : ∀ b ∈ fp, b < s2.heap.objs.size := fun b hb => let ⟨o, e, _⟩ := T.obj _ _ start2 b hb; Heap.lt_size e
  have fpo3 : ∀ b ∈ fp, FpOk X pins (upd H2 D (SetO X.w D (fun _ => false) 0)) b ∧ b < s3.heap.objs.size := fun b hb => by
    have lt := below b hb
    refine ⟨⟨?_, (fpo2 b hb).2⟩, by rw [heap3, Heap.size_push]; exact Nat.lt_succ_of_lt lt⟩
    rw [upd_ne (show b ≠ D from eD ▸ Nat.ne_of_lt lt)]
    exact (fpo2 b hb).1
  have start3 : tn 0 s3.heap := T.keep _ _ _ start2 fun b _ o e => by rw [heap3]; exact Heap.get?_push_of_some _ e
  have Iv4 := block_start Iv3 bok nodup fpo3
  generalize eH3 : upd H2 D (SetO X.w D (fun _ => false) 0) = H3 at Iv3 Iv4 w0 fpo3
  have none3 : ∀ b ∈ fp, H3 b = none := fun b hb => (fpo3 b hb).1.1
  have pg := hg s3 H3 s3.heap.objs.size (cellsFrom (s3.heap.objs.size + 1) scope.names (cloFrom X.env.cells scope.names [])) fp
  have pt := ht s3 H3 s3.heap.objs.size (cellsFrom (s3.heap.objs.size + 1) scope.names (cloFrom X.env.cells scope.names [])) fp
  have pe := he s3 H3 s3.heap.objs.size (cellsFrom (s3.heap.objs.size + 1) scope.names (cloFrom X.env.cells scope.names [])) fp
  show codeAny _ _ (.compStart (.SetComp elt [⟨tg, iter, ifs, 0⟩] scope pos) 0 (.ref it) (.ref D) (compEnvC scope (cellsFrom (s3.heap.objs.size + 1) scope.names (cloFrom X.env.cells scope.names [])) s3.heap.objs.size X.env))
    (compPost (model X.prog X.w) X.A X.xe use Qf (.ref D) s3.heap.objs.size) { s3 with heap := pushCells (s3.heap.push { cls := .type "dict", data := .dict #[] }) scope.names }
  generalize eE : compEnvC scope (cellsFrom (s3.heap.objs.size + 1) scope.names (cloFrom X.env.cells scope.names [])) s3.heap.objs.size X.env = en at Iv4 pg pt pe ⊢
  have loc : en.locals = s3.heap.objs.size := by rw [← eE]; rfl
  generalize e4 : ({ s3 with heap := pushCells (s3.heap.push { cls := .type "dict", data := .dict #[] }) scope.names } : Shared) = s4 at Iv4 ⊢
  have start4 : tn 0 s4.heap := T.keep _ _ _ start3 fun b _ o e => by subst e4; exact pushCells_keeps _ _ _ _ (Heap.get?_push_of_some _ e)
  have stays : ∀ {σ' : L2.St} {H' : Hp} {s' : Shared}, Inv (X.blk s3 H3 scope en fp) [] σ' H' s' → (∀ b ∈ fp, H' b = none) → ∀ b ∈ fp, FpOk (X.blk s3 H3 scope en fp) [] H' b := fun {σ' H' s'} V hn b hb =>
    ⟨hn b hb, (V.ok.exf b hb).1, V.ok.exfs b hb, .inl hb, fun x c e => (V.ok.exf b hb).2 x c e, fun p hp => absurd (show p ∈ ([] : List (Addr × Obj)) ++ [] from hp) (by simp)⟩
  have run : codeAny (model X.prog X.w) X.A (.compLoop (.SetComp elt [⟨tg, iter, ifs, 0⟩] scope pos) 0 (.ref it) (.ref D) en) (compPost (model X.prog X.w) X.A X.xe use Qf (.ref D) s3.heap.objs.size) s4 := by
    refine PpSet.compLoopS_any (fun n s' => ∃ i H', Inv (X.blk s3 H3 scope en fp) [] (wipe σ (own.map (·.2))) H' s' ∧ tn i s'.heap ∧ (∀ b ∈ fp, H' b = none) ∧ W i n H') ?_ m0 ⟨0, H3, Iv4, start4, none3, w0⟩
    rintro n s5 ⟨i, H5, Iv5, start5, none5, w5⟩
    rcases turn i n H5 w5 with ⟨stop, fin⟩ | ⟨go, Nx, hNx, step⟩
    · have ends := T.done (X.blk s3 H3 scope en fp) rfl rfl rfl calm i [] s5 _ H5 (fun _ _ => False) Iv5 (stays Iv5 none5) start5 stop
      refine thnF ends fun r s6 ⟨hr, Iv6⟩ => ?_
      subst hr
      have back : Inv X pins σ H5 s6 := Iv3.call' (ch := fp) Iv6.os Iv6.base Iv6.hok Iv6.bare fun b hb => let z := (fpo3 b hb).1; ⟨z.2.2.2.1, z.2.1, z.2.2.2.2.1, z.2.2.2.2.2⟩
      have noC : H5 s3.heap.objs.size = none := by rw [← loc]; exact Iv6.free
      obtain ⟨m, hn, _⟩ := Iv6.loc
      have hn' : s6.heap.Ns s3.heap.objs.size m := by rw [← loc]; exact hn
      exact hpost D s3.heap.objs.size s6 m H5 back fin hn' (Iv3.fpOk (Nat.le_refl _) noC)
    · have next := T.item (X.blk s3 H3 scope en fp) rfl rfl rfl calm i [] s5 _ H5 (fun _ _ => False) Iv5 (stays Iv5 none5) start5 go
      refine thnF next fun r s6 ⟨u, hr, h6⟩ => ?_
      subst hr
      refine thnF h6 fun _ s7 ⟨x, H7, Iv7, r7, y7, start7, none7⟩ => ?_
      have pinned := Iv7.pinned (stays Iv7 none7) (T.obj _ _ start7)
      refine thnF (pg.run _ s7 _ H7 x u _ pinned r7 (step x H7 y7)) fun _ s8 ⟨σ8, H8, Iv8, wip8, q8⟩ => thnF (pt.run _ s8 σ8 H8 _ Iv8 q8) fun b s9 ⟨H9, Iv9, q9⟩ => ?_
      have close : ∀ {s' : Shared} {H' : Hp}, Inv (X.blk s3 H3 scope en fp) ([] ++ pinsAt fp s7.heap) σ8 H' s' → Nx H' → ∃ m, m < n ∧ ∃ i H', Inv (X.blk s3 H3 scope en fp) [] (wipe σ (own.map (·.2))) H' s' ∧ tn i s'.heap ∧ (∀ b ∈ fp, H' b = none) ∧ W i m H' := by
        intro s' H' V nx
        obtain ⟨m', less, w'⟩ := hNx H' nx
        have kept : ∀ b ∈ fp, ∀ o, s7.heap.get? b = some o → s'.heap.get? b = some o ∧ H' b = none := fun b hb o e =>
          have z := V.pin (b, o) (List.mem_append_right _ (List.mem_append_right _ (mem_pinsAt hb e)))
          ⟨z.1, z.2.1⟩
        refine ⟨m', less, i + 1, H', (V.unpinned (pins := [])).weak (by rw [← wip8, wipe_length]) (fun j v e => ?_), T.keep _ _ _ start7 fun b hb o e => (kept b hb o e).1, fun b hb => ?_, w'⟩
        · rw [← wip8] at e
          exact (wipe_some e).1
        · obtain ⟨o, e, _⟩ := T.obj _ _ start7 b hb
          exact (kept b hb o e).2
      cases b with
      | false => exact close Iv9 q9
      | true =>
        show wpAny _ _ _ _ _ _
        have q9' := (if_pos (c := true = true) rfl) ▸ q9
        refine thnF (pe.run _ s9 σ8 H9 _ Iv9 q9') fun z s10 ⟨yv, H10, Iv10, r10, cb, S0, n0, ey, hD10, hz10, nx⟩ => ?_
        subst ey
        have ad := mt_sadd (X := X.blk s3 H3 scope en fp) _ s10 σ8 H10 (.ref D) [.int cb] (.ref D) [z] (fun _ H' => Nx H') Iv10 rfl (.cons r10 .nil) ⟨D, cb, S0, n0, rfl, rfl, hD10, hz10, nx⟩
        refine thnF ad fun v s11 ⟨_, H11, Iv11, _, nx11⟩ => ?_
        exact close Iv11 nx11
  exact PpSet.codeAny_compStart_set run (T.self X.A 0 _ _ _ start4 run)
theorem pe_sci {elt tg iter : Expr} {ifs : List Expr} {scope : Scope} {own : List (PySem.Str × Nat)} {pos : Pos} {wi : TI} {g : TG} {tt : TT} {te : TE} (calm : X.calm = true) (nodup : X.N.Nodup) (hit : PI X tg iter wi) (bok : BlkOk X.N X.env.scope scope own)
    (hg : ∀ (s : Shared) (H : Hp) (B : Addr) (cl : List (PySem.Str × Addr)) (fp : List Addr), PG (X.blk s H scope (compEnvC scope cl B X.env) fp) tg g)
    (ht : ∀ (s : Shared) (H : Hp) (B : Addr) (cl : List (PySem.Str × Addr)) (fp : List Addr), PTs (X.blk s H scope (compEnvC scope cl B X.env) fp) ifs tt)
    (he : ∀ (s : Shared) (H : Hp) (B : Addr) (cl : List (PySem.Str × Addr)) (fp : List Addr), PE (X.blk s H scope (compEnvC scope cl B X.env) fp) elt te) (hfold : ∀ x, foldedSetIterable iter X.env x = pure x) :
    PE X (.SetComp elt [⟨tg, iter, ifs, 0⟩] scope pos) (tSci X.w wi g tt te (own.map (·.2))) :=
  ⟨fun pins s σ H Q I h => by
    rw [PpSet.eval_SetComp]
    refine sci_core calm nodup I hit bok hg ht he hfold h fun D B s' m H' I' q hn f => ⟨m, hn, fun h'' sb => ?_⟩
    obtain ⟨f0, f1, f2, f3, f4, f5⟩ := f
    exact ⟨.ref D, H', I'.turned (t' := s'.toks) (fun b o hb e => (sb.2 b hb).trans e) f0 f1 f3 f4 f5, rfl, q⟩⟩
end

/-! ### .. over data -/
section
variable {F : Fm} {C : Cs} {ρ : Rho} {k : Nat} {Φ : Nat → PyData → Prop} {pos p1 p2 p3 px : Pos} {elt iter e : Expr} {scope : Scope} {x : Str} {α : Type}
theorem pe_sciX {X : Cx} {i : Nat} (fx : Fits C X) (b : Blk C scope i x) {ifs : List Expr} {wi : TI} {tt : TT} (hi : PI X (.Name x px) iter wi) (ht : ∀ X', Fits (C.blk scope) X' → PTs X' ifs tt) (hs : ∀ (env : Env) (v : Value), foldedSetIterable iter env v = pure v) :
    PE X (.SetComp elt [⟨.Name x px, iter, ifs, 0⟩] scope pos) (tSci C.w wi (gName i) tt (tE (C.blk scope) elt) [i]) := by
  rw [← fx.w]
  exact pe_sci (own := [(x, i)]) fx.calm (by rw [fx.N]; exact b.t.hN) hi (by rw [fx.N, fx.sc]; exact b.ok) (fun s H a cl fp => b.t.pg (fx.blk s H scope a cl fp)) (fun s H a cl fp => ht _ (fx.blk s H scope a cl fp)) (fun s H a cl fp => peE (fx.blk s H scope a cl fp)) (hs X.env)
/-- a walk over a tuple for a set -/
theorem sci_tup {w : World} {K : PySem.W.Frag} {a : Addr} {xs : List V} {g : TG} {tt : TT} {te : TE} {vs : List Nat} {σ : L2.St} {H0 : Hp} {D : Addr} {Qd : Hp → Prop} (Pv : Nat → Hp → Prop) (h0 : Pv 0 H0) (hl : ∀ i H, Pv i H → SqT K H a xs)
    (hs : ∀ i v H, xs[i]? = some v → Pv i H → g v (wipe σ vs) H fun σ2 H2 => wipe σ2 vs = wipe σ vs ∧ tt σ2 H2 fun b H3 =>
      if b = true then te σ2 H3 fun y H4 => ∃ (c : Int) (S : Int → Bool) (n : Nat), y = .int c ∧ H4 D = some (SetO w D S n) ∧ n + 1 < scanBound ∧ Pv (i + 1) (upd H4 D (SetO w D (fun j => S j || decide (j = c)) (if S c = true then n else n + 1))) else Pv (i + 1) H3)
    (hd : ∀ H, Pv xs.length H → Qd H) :
    ∃ W : Nat → Nat → Hp → Prop, (∃ m, W 0 m H0) ∧ ∀ i m H, W i m H → ((Itt K a).stop i H ∧ Qd H) ∨
      ((Itt K a).go i H ∧ ∃ Nx : Hp → Prop, (∀ H', Nx H' → ∃ m', m' < m ∧ W (i + 1) m' H') ∧ ∀ x H', (Itt K a).yld i H x H' → g x (wipe σ vs) H' fun σ2 H2 => wipe σ2 vs = wipe σ vs ∧ tt σ2 H2 fun b H3 =>
        if b = true then te σ2 H3 fun y H4 => ∃ (c : Int) (S : Int → Bool) (n : Nat), y = .int c ∧ H4 D = some (SetO w D S n) ∧ n + 1 < scanBound ∧ Nx (upd H4 D (SetO w D (fun j => S j || decide (j = c)) (if S c = true then n else n + 1))) else Nx H3) := by
  refine ⟨fun i m H => m + i = xs.length ∧ Pv i H, ⟨xs.length, by simp, h0⟩, ?_⟩
  rintro i m H ⟨hm, pv⟩
  have sq := hl i H pv
  by_cases end1 : i = xs.length
  · subst end1
    exact .inl ⟨⟨xs, sq, Nat.le_refl _⟩, hd H pv⟩
  · have lt : i < xs.length := by omega
    refine .inr ⟨⟨xs, xs[i], sq, List.getElem?_eq_getElem lt⟩, Pv (i + 1), fun H' pv' => ⟨m - 1, by omega, by omega, pv'⟩, ?_⟩
    rintro v H' ⟨rfl, hy⟩
    exact hs i v _ (hy xs sq) pv
/-- sorted({elt for x in a tuple}), hii -/
theorem we_sortSc (ei : α → PyData) (g : α → Int) (i : Nat) (b : Blk C scope i x) (hK : F.K = C.K) (hg : C.sc.names.lookup ("sorted" : Str) = some .globalImplicit) (hm : C.mg ("sorted" : Str) = none) (hfs : ∀ (env : Env) (v : Value), foldedSetIterable iter env v = pure v)
    (hs : ∀ env : Env, starEach [.SetComp elt [⟨.Name x px, iter, [], 0⟩] scope p2] env = (false, eval (.SetComp elt [⟨.Name x px, iter, [], 0⟩] scope p2) env) :: starEach [] env)
    (h : WPE F C iter ρ k fun k1 d => ∃ as : List α, d = .tuple (as.map ei) ∧ as.length ≤ 1000 ∧ (∀ D a, a ∈ as → WPE (F.ext D) (C.blk scope) elt (ρ.set i (.d (ei a))) k1 fun k2 z => k2 = k1 ∧ z = .int (g a)) ∧
      ∀ ms : List Int, ms.Pairwise (· < ·) → (∀ z, z ∈ ms ↔ z ∈ as.map g) → Φ k1 (.list (ms.map PyData.int))) :
    WPE F C (.Call (.Name "sorted" p1) [.SetComp elt [⟨.Name x px, iter, [], 0⟩] scope p2] [] pos) ρ k Φ :=
  of_pe (t := tCB (rSortSetA C.w) (tCons (tSci C.w (iTup C.K (tE C iter)) (gName i) tYes (tE (C.blk scope) elt) [i]) tNil)) (fun X fx => pe_callB (by rw [← fx.w]; exact cr_sortSetA fx.calm) (by show X.env.scope.names.lookup ("sorted" : Str) = _; rw [fx.sc]; exact hg) (by rw [fx.mg]; exact hm) (by decide +kernel)
      (pa_cons (pe_sciX fx b (piT fx) (fun _ _ => pts_nil) hfs) pa_nil (hs X.env)) (by decide) (by decide) (hs X.env) rfl) fun σ H Q en j q => by
    show tE C iter σ H _
    refine h σ H _ en j fun v d k1 H1 l1 j1 r ⟨as, ed, hz, hbody, hend⟩ => ?_
    subst ed
    cases r with
    | @tup a xs _ ha hr =>
    refine ⟨a, rfl, ⟨xs, hK ▸ sqt_of ha⟩, fun D hD => ?_⟩
    have hlen : xs.length = as.length := by rw [hr.length, List.length_map]
    have en1 := en.le l1
    have hM : ¬ F.M D := fun z => F.gl _ _ j1.g D z hD
    have hS : ¬ F.S D := j1.fresh hD
    have h0 : F.H0 D = none := j1.h0 hM hD
    have hne : ∀ (i : Nat) o xs, ρ[i]? = some (SV.own o xs) → o ≠ D := fun i o xs e => by
      obtain ⟨x, _, s⟩ := en1 i _ e
      obtain ⟨_, _, _, _, vs, h1, _⟩ := s
      exact ne_of_none h1 hD
    have rr : Rp (F.ext D) (upd H1 D (SetO C.w D (fun _ => false) 0)) (.ref a) (.tuple (as.map ei)) := Rep.ext (.tup ha hr) hD
    cases rr with
    | @tup _ xs' _ ha' hr' =>
    have hlen' : xs'.length = as.length := by rw [hr'.length, List.length_map]
    refine sci_tup (xs := xs') (fun n H' => ∃ (S : Int → Bool) (c : Nat), c ≤ n ∧ EnvOk (F.ext D) H' σ ρ ∧ J (F.ext D) k1 H' ∧ LeD (F.ext D) D (upd H1 D (SetO C.w D (fun _ => false) 0)) H' ∧ H' D = some (SetO C.w D S c) ∧ ∀ z, S z = true ↔ z ∈ (as.take n).map g)
      ⟨fun _ => false, 0, Nat.le_refl _, en1.ext hD, (j1.new hD).ext (lv_new fun _ z => nomatch z), .refl, upd_same, by simp⟩ ?_ ?_ ?_
    · rintro n H' ⟨S, c, _, _, _, ld, _⟩
      have := sqt_of (K := F.K) (H := H') (S := (F.ext D).S) ⟨ld.lz (.inr rfl) _ _ (Fm.sxA ha'.2) ha'.1, ha'.2⟩
      exact hK ▸ this
    · rintro n v H' hv ⟨S, c, hc, en', j', ld, hd, hmem⟩
      obtain ⟨y, hy, ry⟩ := hr'.got hv
      rw [List.getElem?_map, Option.map_eq_some_iff] at hy
      obtain ⟨a1, ha1, rfl⟩ := hy
      have hn : n < as.length := (List.getElem?_eq_some_iff.mp ha1).1
      show (wipe ((wipe σ [i]).set i (some v)) [i] = wipe σ [i] ∧ _)
      rw [set_wipe]
      refine ⟨wipe_set σ, ?_⟩
      refine hbody D a1 (List.mem_of_getElem? ha1) (σ.set i (some v)) H' _ (en'.set (sv := .d (ei a1)) ⟨v, rfl, ry.le (ld.lz (.inr rfl))⟩) j' fun vz z k2 H4 l4 j4 r4 ⟨ek, ez⟩ => ?_
      subst ek ez
      cases r4
      have hd4 : H4 D = some (SetO C.w D S c) := l4 D _ (Fm.mxA hM) hd
      refine ⟨g a1, S, c, rfl, hd4, Nat.lt_of_le_of_lt (show c + 1 ≤ 1001 by omega) (by decide), ?_⟩
      have ld2 : LeD (F.ext D) D H' (upd H4 D (SetO C.w D (fun j => S j || decide (j = g a1)) (if S (g a1) = true then c else c + 1))) := fun b o nb m e => by rw [upd_ne m]; exact l4 b o nb e
      refine ⟨_, _, ?_, en'.ld ld2 (.inr rfl) hne, j4.own hM h0 (pl_set hd4), ld.trans ld2, upd_same, fun z => ?_⟩
      · split <;> omega
      · rw [take_next ha1, List.map_append, List.mem_append, Bool.or_eq_true, hmem z, decide_eq_true_eq]
        simp
    · rintro H' ⟨S, c, hc, en', j', ld, hd, hmem⟩
      refine ⟨D, S, c, rfl, hd, fun ms l2 hpw hms _ hl2 => ?_⟩
      have j2 := j'.unext
      refine q _ _ k1 _ ?_ (j2.new hl2) (rep_newL j2 hl2 (RepAll.of_ints ms)) (hend ms hpw fun z => ?_)
      · intro b o nb e
        have e1 := l1 b o nb e
        have e2 := ld b o nb (ne_of_none e1 hD) (by rw [upd_ne (ne_of_none e1 hD)]; exact e1)
        rw [upd_ne (ne_of_none e2 hl2)]; exact e2
      · rw [hms z, hmem z, hlen', List.take_length]
/-- sorted(set(xs)), any number -/
theorem we_sortSetA (hK : F.K = C.K) (hg : C.sc.names.lookup ("sorted" : Str) = some .globalImplicit) (hm : C.mg ("sorted" : Str) = none) (hg2 : C.sc.names.lookup ("set" : Str) = some .globalImplicit) (hm2 : C.mg ("set" : Str) = none)
    (hs : ∀ env : Env, starEach [e] env = (false, eval e env) :: starEach [] env) (hs2 : ∀ env : Env, starEach [.Call (.Name "set" p2) [e] [] p3] env = (false, eval (.Call (.Name "set" p2) [e] [] p3) env) :: starEach [] env)
    (h : WPE F C e ρ k fun k1 x => ∃ ns : List Int, x = .list (ns.map PyData.int) ∧ ns.length ≤ 1000 ∧ ∀ ms : List Int, ms.Pairwise (· < ·) → (∀ i, i ∈ ms ↔ i ∈ ns) → Φ k1 (.list (ms.map PyData.int))) : WPE F C (.Call (.Name "sorted" p1) [.Call (.Name "set" p2) [e] [] p3] [] pos) ρ k Φ :=
  of_pe (t := tCB (rSortSetA C.w) (tCons (tCB (rSetL C.K C.w) (tCons (tE C e) tNil)) tNil)) (fun X fx => pe_callB (by rw [← fx.w]; exact cr_sortSetA fx.calm) (by show X.env.scope.names.lookup ("sorted" : Str) = _; rw [fx.sc]; exact hg) (by rw [fx.mg]; exact hm) (by decide +kernel)
      (pa_cons (pe_callTy (by rw [← fx.w, ← fx.K]; exact cr_setL fx.calm) (by show X.env.scope.names.lookup ("set" : Str) = _; rw [fx.sc]; exact hg2) (by rw [fx.mg]; exact hm2) (by decide +kernel) (pa_cons (peE fx) pa_nil (hs X.env)) (by decide) (by decide) (hs X.env) rfl) pa_nil (hs2 X.env)) (by decide) (by decide) (hs2 X.env) rfl) fun σ H Q en j q => by
    show tE C e σ H _
    refine h σ H _ en j fun v d k1 H1 l1 j1 r ⟨ns, ed, hz, p⟩ => ?_
    subst ed
    cases r with
    | @lst a xs _ ha hr =>
    refine ⟨a, ns, rfl, hr.ints ▸ hK ▸ sql_of ha, hz, fun l c hl hc => ?_⟩
    refine ⟨l, _, c, rfl, upd_same, fun ms l2 hpw hmem _ hl2 => ?_⟩
    have j2 := j1.new (o := SetO C.w l (fun j => decide (j ∈ ns)) c) hl
    refine q _ _ k1 _ ((l1.trans (.new hl)).trans (.new hl2)) (j2.new hl2) (rep_newL j2 hl2 (RepAll.of_ints ms)) (p ms hpw fun i => ?_)
    rw [hmem i, decide_eq_true_eq]
end

/-! ### len(set(xs)) -/
def rLenSetO (w : World) : List V → Hp → VK → Prop := fun vs H Q => ∃ (a : Addr) (S : Int → Bool) (n : Nat), vs = [V.ref a] ∧ H a = some (SetO w a S n) ∧ ∀ ks : List Int, ks.Nodup → (∀ z, z ∈ ks ↔ S z = true) → ks.length = n → Q (.int (n : Nat)) H
theorem cr_lenSetO {X : Cx} : CallR X (.builtin "len") (rLenSetO X.w) := by
  intro pins s σ H vs us Q I r h
  obtain ⟨a, S, n, rfl, ha, q⟩ := h
  obtain ⟨ob, els, epo, tab, hob, exact1, hdat, gd, nodup, memb, bnd, fit, cnt, ris, led⟩ := setO_get I ha
  rw [Vals.ref1 r]
  have hb : els.size < 4096 := bnd
  refine call_len_set hob exact1 hdat fit (by omega) ⟨.int (n : Nat), H, (I.tok _).tok _, ⟨_, by rw [cnt]⟩, q _ nodup (fun z => (memb z).symm) ?_⟩
  rw [List.length_map, Array.length_toList]; exact cnt
section
variable {F : Fm} {C : Cs} {ρ : Rho} {k : Nat} {Φ : Nat → PyData → Prop} {pos p1 p2 p3 px : Pos} {e : Expr}
theorem we_lenSet (hK : F.K = C.K) (hg : C.sc.names.lookup ("len" : Str) = some .globalImplicit) (hm : C.mg ("len" : Str) = none) (hg2 : C.sc.names.lookup ("set" : Str) = some .globalImplicit) (hm2 : C.mg ("set" : Str) = none)
    (hs : ∀ env : Env, starEach [e] env = (false, eval e env) :: starEach [] env) (hs2 : ∀ env : Env, starEach [.Call (.Name "set" p2) [e] [] p3] env = (false, eval (.Call (.Name "set" p2) [e] [] p3) env) :: starEach [] env)
    (h : WPE F C e ρ k fun k1 x => ∃ ns : List Int, x = .list (ns.map PyData.int) ∧ ns.length ≤ 1000 ∧ ∀ ks : List Int, ks.Nodup → (∀ i, i ∈ ks ↔ i ∈ ns) → Φ k1 (.int (ks.length : Nat))) : WPE F C (.Call (.Name "len" p1) [.Call (.Name "set" p2) [e] [] p3] [] pos) ρ k Φ :=
  of_pe (t := tCB (rLenSetO C.w) (tCons (tCB (rSetL C.K C.w) (tCons (tE C e) tNil)) tNil)) (fun X fx => pe_callB (by rw [← fx.w]; exact cr_lenSetO) (by show X.env.scope.names.lookup ("len" : Str) = _; rw [fx.sc]; exact hg) (by rw [fx.mg]; exact hm) (by decide +kernel)
      (pa_cons (pe_callTy (by rw [← fx.w, ← fx.K]; exact cr_setL fx.calm) (by show X.env.scope.names.lookup ("set" : Str) = _; rw [fx.sc]; exact hg2) (by rw [fx.mg]; exact hm2) (by decide +kernel) (pa_cons (peE fx) pa_nil (hs X.env)) (by decide) (by decide) (hs X.env) rfl) pa_nil (hs2 X.env)) (by decide) (by decide) (hs2 X.env) rfl) fun σ H Q en j q => by
    show tE C e σ H _
    refine h σ H _ en j fun v d k1 H1 l1 j1 r ⟨ns, ed, hz, p⟩ => ?_
    subst ed
    cases r with
    | @lst a xs _ ha hr =>
    refine ⟨a, ns, rfl, hr.ints ▸ hK ▸ sql_of ha, hz, fun l c hl hc => ?_⟩
    refine ⟨l, _, c, rfl, upd_same, fun ks hnd hmem hlen => ?_⟩
    subst hlen
    exact q _ _ k1 _ (l1.trans (.new hl)) (j1.new hl) (.int _) (p ks hnd fun i => by rw [hmem i, decide_eq_true_eq])
end
/-! ### small steps that a walk takes by itself -/
section
variable {a b c d e f g h : PyData} {p : Prop}
theorem tl0 (h : p) : ([] : List PyData).length ≤ sizeLine ∧ p := ⟨Nat.zero_le _, h⟩
theorem tl1 (h : p) : [a].length ≤ sizeLine ∧ p := ⟨by show 1 ≤ sizeLine; decide, h⟩
theorem tl2 (h : p) : [a, b].length ≤ sizeLine ∧ p := ⟨by show 2 ≤ sizeLine; decide, h⟩
theorem tl3 (h : p) : [a, b, c].length ≤ sizeLine ∧ p := ⟨by show 3 ≤ sizeLine; decide, h⟩
theorem tl4 (h : p) : [a, b, c, d].length ≤ sizeLine ∧ p := ⟨by show 4 ≤ sizeLine; decide, h⟩
theorem tl5 (h : p) : [a, b, c, d, e].length ≤ sizeLine ∧ p := ⟨by show 5 ≤ sizeLine; decide, h⟩
theorem tl6 (h : p) : [a, b, c, d, e, f].length ≤ sizeLine ∧ p := ⟨by show 6 ≤ sizeLine; decide, h⟩
theorem tl7 (h : p) : [a, b, c, d, e, f, g].length ≤ sizeLine ∧ p := ⟨by show 7 ≤ sizeLine; decide, h⟩
theorem ii2 {i j : Int} {Θ : Int → Int → Prop} (h : Θ i j) : ∃ x y, PyData.int i = .int x ∧ PyData.int j = .int y ∧ Θ x y := ⟨i, j, rfl, rfl, h⟩
theorem ii1 {i : Int} {Θ : Int → Prop} (h : Θ i) : ∃ x, PyData.int i = .int x ∧ Θ x := ⟨i, rfl, h⟩
theorem ss2 {i j : Str} {Θ : Str → Str → Prop} (h : Θ i j) : ∃ x y, PyData.str i = .str x ∧ PyData.str j = .str y ∧ Θ x y := ⟨i, j, rfl, rfl, h⟩
theorem bb1 {i : Bool} {Θ : Bool → Prop} (h : Θ i) : ∃ x, PyData.bool i = .bool x ∧ Θ x := ⟨i, rfl, h⟩
theorem sqT {ds : List PyData} {Θ : List PyData → Prop} (h : Θ ds) : ∃ xs, seqD (.tuple ds) = some xs ∧ Θ xs := ⟨ds, rfl, h⟩
theorem sqL {ds : List PyData} {Θ : List PyData → Prop} (h : Θ ds) : ∃ xs, seqD (.list ds) = some xs ∧ Θ xs := ⟨ds, rfl, h⟩
theorem shII {i j : Int} (h : p) : SeqAt.shaped (.int i) = true ∧ SeqAt.shaped (.int j) = true ∧ p := ⟨rfl, rfl, h⟩
end
end Dl

namespace Dl
open PySem PySem.Spec PyProof.Rows L2
/-! ### max(xs, default=None), max(xs), ints -/
theorem maxD_ints : ∀ (ns : List Int) (a : Int), ∃ m : Int, PySem.W.maxD (.int a) (ns.map PyData.int) = .int m ∧ m ∈ a :: ns ∧ ∀ y ∈ a :: ns, y ≤ m
  | [], a => ⟨a, rfl, List.mem_cons_self, fun y hy => by simp at hy; omega⟩
  | n :: ns, a => by
    by_cases h : a < n
    · obtain ⟨m, e, hm, hle⟩ := maxD_ints ns n
      refine ⟨m, ?_, ?_, fun y hy => ?_⟩
      · rw [← e]
        unfold PySem.W.maxD
        rw [List.map_cons, List.foldl_cons, PySem.W.dataLt_int, decide_eq_true h]; rfl
      · exact List.mem_cons_of_mem _ hm
      · rcases List.mem_cons.mp hy with rfl | hy
        · have := hle n List.mem_cons_self; omega
        · exact hle y hy
    · obtain ⟨m, e, hm, hle⟩ := maxD_ints ns a
      refine ⟨m, ?_, ?_, fun y hy => ?_⟩
      · rw [← e]
        unfold PySem.W.maxD
        rw [List.map_cons, List.foldl_cons, PySem.W.dataLt_int, decide_eq_false h]; rfl
      · rcases List.mem_cons.mp hm with rfl | hm
        · exact List.mem_cons_self
        · exact List.mem_cons_of_mem _ (List.mem_cons_of_mem _ hm)
      · rcases List.mem_cons.mp hy with rfl | hy
        · exact hle y List.mem_cons_self
        · rcases List.mem_cons.mp hy with rfl | hy
          · have := hle a List.mem_cons_self; omega
          · exact hle y (List.mem_cons_of_mem _ hy)
def rMaxDef (K : PySem.W.Frag) : List V → List V → Hp → VK → Prop := fun vs zs H Q => ∃ (a : Addr) (ns : List Int), vs = [V.ref a] ∧ zs = [V.non] ∧ SqL K H a (ns.map V.int) ∧ (ns = [] → Q .non H) ∧ ∀ m, m ∈ ns → (∀ y, y ∈ ns → y ≤ m) → Q (.int m) H
theorem cr_maxDef {X : Cx} (hc : X.calm = true) (hu : X.A.units + 1 < cLine) : CallRK X (.builtin "max") [Str.ofString "default"] (rMaxDef X.K) := by
  intro pins s σ H vs zs us ws Q I r rz h
  obtain ⟨a, ns, rfl, rfl, hs, h0, h1⟩ := h
  obtain ⟨its, rv, hl, _⟩ := I.list hs
  rw [Vals.ref1 r]
  obtain ⟨u, rfl, ru⟩ := vals1 rz
  obtain rfl : u = Value.none := ru
  have hi := rv.ints
  have hd : PyData.depthAll (ns.map PyData.int) = 0 := (lay_ints ns).2
  refine PySem.W.max_list_default (xs := ns.map PyData.int) (as := []) (I.ok.hd hc) hl.isList (by simpa using hi.reads s.heap) ⟨fun x hx y hy => ?_, fun x hx => ?_⟩ (by rw [hd]; exact hu) (fun e h' tk hk => ?_) (fun y ys i v h' tk bs e hv rd hk => ?_)
  · obtain ⟨p, _, rfl⟩ := List.mem_map.mp hx
    obtain ⟨q, _, rfl⟩ := List.mem_map.mp hy
    rfl
  · obtain ⟨p, _, rfl⟩ := List.mem_map.mp hx
    exact fun z => nomatch z
  · exact ⟨.non, H, I.kept hk, rfl, h0 (List.map_eq_nil_iff.mp e)⟩
  · cases ns with
    | nil => cases e
    | cons n ns =>
      rw [List.map_cons, List.cons.injEq] at e
      obtain ⟨rfl, rfl⟩ := e
      obtain ⟨m, em, hm, hle⟩ := maxD_ints ns n
      rw [em] at rd
      cases rd with
      | int i t => exact ⟨.int m, H, I.kept hk, ⟨_, rfl⟩, h1 m hm hle⟩
section
variable {F : Fm} {C : Cs} {ρ : Rho} {k : Nat} {Φ : Nat → PyData → Prop} {pos p1 p2 p3 px kp : Pos} {e : Expr} {jj : Nat} {P : DE} {x : Str} {rest : List Stmt}
theorem we_maxDef (hK : F.K = C.K) (hg : C.sc.names.lookup ("max" : Str) = some .globalImplicit) (hm : C.mg ("max" : Str) = none)
    (h1 : ∀ env : Env, backTo pos (starEach [e] env) = (false, eval e env) :: backTo pos (starEach [] env) ∧ (backTo pos (starEach [e] env)).any (·.1) = false) (h2 : ∀ env : Env, starEach [e] env = (false, eval e env) :: starEach [] env)
    (h : WPE F C e ρ k fun k1 d => ∃ ns : List Int, d = .list (ns.map PyData.int) ∧ (ns = [] → Φ k1 .none) ∧ ∀ m, m ∈ ns → (∀ y, y ∈ ns → y ≤ m) → Φ k1 (.int m)) :
    WPE F C (.Call (.Name "max" p1) [e] [⟨some "default", .Constant .none jj p2, kp⟩] pos) ρ k Φ :=
  of_pe (t := tCKw (rMaxDef C.K) (tCons (tE C e) tNil) (tCons (tC .non) tNil)) (fun X fx => pe_callBK (id := "max") (by rw [← fx.K]; exact cr_maxDef fx.calm (by have := fx.room.units; omega)) (by show X.env.scope.names.lookup ("max" : Str) = _; rw [fx.sc]; exact hg) (by rw [fx.mg]; exact hm) (by decide +kernel)
      (pa_cons (peE fx) pa_nil (h2 X.env)) (pk_cons pe_non pk_nil) (by decide) (by decide) (h1 X.env).1 (h1 X.env).2) fun σ H Q en j q => by
    show tE C e σ H _
    refine h σ H _ en j fun v d k1 H1 l1 j1 r ⟨ns, ed, p0, p⟩ => ?_
    subst ed
    cases r with
    | @lst a xs _ ha hr =>
    exact ⟨a, ns, rfl, rfl, hr.ints ▸ hK ▸ sql_of ha, fun e0 => q _ _ k1 H1 l1 j1 .non (p0 e0), fun m hm1 hle => q _ _ k1 H1 l1 j1 (.int m) (p m hm1 hle)⟩
theorem we_max (hK : F.K = C.K) (hg : C.sc.names.lookup ("max" : Str) = some .globalImplicit) (hm : C.mg ("max" : Str) = none) (hs : ∀ env : Env, starEach [e] env = (false, eval e env) :: starEach [] env) (h : WPE F C e ρ k fun k1 x => ∃ ns : List Int, x = .list (ns.map PyData.int) ∧ 0 < ns.length ∧ ∀ m, m ∈ ns → (∀ y, y ∈ ns → y ≤ m) → Φ k1 (.int m)) : WPE F C (.Call (.Name "max" p1) [e] [] pos) ρ k Φ :=
  we_callB (id := "max") (fun X fx => maxK fx) hg hm (by decide +kernel) (wa_one hs (h.imp fun k1 x ⟨ns, e, hp, p⟩ => fun H vs Q j r q => by
    subst e
    cases r with
    | cons r1 r2 =>
    cases r2
    cases r1 with
    | @lst a xs _ ha hr => exact ⟨a, ns, rfl, hr.ints ▸ hK ▸ sql_of ha, hp, fun m hm hle => q _ _ k1 H .refl j (.int _) (p m hm hle)⟩)) (by decide) (by decide) hs
end

section
variable {F : Fm} {C : Cs} {ρ : Rho} {k : Nat} {P : DE} {pos p2 px : Pos} {a b : Expr} {x : Str} {rest : List Stmt}
/-- x = xs + ys, lists: the new list is the def's own -/
theorem wb_ownCat (i : Nat) (t : Tgt C i x) (hi : i < ρ.length) (hs : ∀ env : Env, env.scope = C.sc → swapsWith (.BinOp a .Add b p2) (some (.Name x px)) pos.line env = pure false)
    (h : WPE F C a ρ k fun k1 u => WPE F C b ρ k1 fun k2 v => ∃ ds es, u = .list ds ∧ v = .list es ∧ ds.length + es.length ≤ 1000000 ∧
      ∀ o, WPB (F.ext o) C rest (ρ.set i (.own o (ds ++ es))) k2 { nx := fun _ _ => False, rt := P.rt, bk := fun _ _ => False, ct := fun _ _ => False }) : WPB F C (.Assign [.Name x px] (.BinOp a .Add b p2) pos :: rest) ρ k P :=
  of_pb (fun X fx => pss_cons (ps_set (by rw [fx.N]; exact t.hN) (by rw [fx.N]; exact t.hi) (by rw [fx.sc]; exact t.hx) (pe_op op_cat (peE fx) (peE fx)) (hs X.env fx.sc) (by rw [fx.fn, fx.sc]; exact t.hf)) (pbB fx)) fun σ H E en j q1 q2 q3 q4 => by
    refine h σ H _ en j fun vx u k1 H1 l1 j1 r1 hx => hx σ H1 _ (en.le l1) j1 fun vy v k2 H2 l2 j2 r2 ⟨ds, es, e1, e2, hz, p⟩ => ?_
    subst e1 e2
    have r1' := r1.le l2.lz
    cases r1' with
    | @lst pa xs _ ha hr =>
    cases r2 with
    | @lst pb ys _ hb hr2 =>
    refine ⟨pa, pb, xs, ys, rfl, rfl, ha.1, hb.1, by rw [hr.length, hr2.length]; exact Nat.le_trans hz (by decide), fun o no => ?_⟩
    have hM : ¬ F.M o := fun z => F.gl _ _ j2.g o z no
    have h0 : F.H0 o = none := j2.h0 hM no
    have en2 : EnvOk (F.ext o) (upd H2 o (.lst (xs ++ ys))) (σ.set i (some (.ref o))) (ρ.set i (.own o (ds ++ es))) :=
      (((en.le l1).le l2).ext no).set (sv := .own o (ds ++ es)) ⟨rfl, .inr rfl, hM, h0, xs ++ ys, upd_same, (hr.append hr2).ext no⟩
    refine p o (σ.set i (some (.ref o))) (upd H2 o (.lst (xs ++ ys))) E en2 ((j2.new no).ext (lv_new fun _ z => nomatch z)) ?_ ?_ ?_ ?_
    · exact fun _ _ _ _ _ _ _ z => z.elim
    · exact fun v d k' H' j' r' p => q2 v d k' H' j'.unext r'.unext p
    · exact fun _ _ _ _ _ _ _ z => z.elim
    · exact fun _ _ _ _ _ _ _ z => z.elim
/-- x = xs + ys, a statement that may change x, the rest with x as data -/
theorem wb_ownCat1 (i : Nat) {st : Stmt} (t : Tgt C i x) (hi : i < ρ.length) (hs : ∀ env : Env, env.scope = C.sc → swapsWith (.BinOp a .Add b p2) (some (.Name x px)) pos.line env = pure false)
    (h : WPE F C a ρ k fun k1 u => WPE F C b ρ k1 fun k2 v => ∃ ds es, u = .list ds ∧ v = .list es ∧ ds.length + es.length ≤ 1000000 ∧
      ∀ o, WPS (F.ext o) C st (ρ.set i (.own o (ds ++ es))) k2 { nx := fun k' ρ' => ∃ ys, ρ'[i]? = some (.own o ys) ∧ (ρ'.set i .un).all plainB = true ∧ WPB F C rest (ρ'.set i (.d (.list ys))) k' P, rt := P.rt, bk := fun _ _ => False, ct := fun _ _ => False }) :
    WPB F C (.Assign [.Name x px] (.BinOp a .Add b p2) pos :: st :: rest) ρ k P :=
  of_pb (fun X fx => pss_cons (ps_set (by rw [fx.N]; exact t.hN) (by rw [fx.N]; exact t.hi) (by rw [fx.sc]; exact t.hx) (pe_op op_cat (peE fx) (peE fx)) (hs X.env fx.sc) (by rw [fx.fn, fx.sc]; exact t.hf)) (pss_cons (psS fx) (pbB fx))) fun σ H E en j q1 q2 q3 q4 => by
    refine h σ H _ en j fun vx u k1 H1 l1 j1 r1 hx => hx σ H1 _ (en.le l1) j1 fun vy v k2 H2 l2 j2 r2 ⟨ds, es, e1, e2, hz, p⟩ => ?_
    subst e1 e2
    have r1' := r1.le l2.lz
    cases r1' with
    | @lst pa xs _ ha hr =>
    cases r2 with
    | @lst pb ys _ hb hr2 =>
    refine ⟨pa, pb, xs, ys, rfl, rfl, ha.1, hb.1, by rw [hr.length, hr2.length]; exact Nat.le_trans hz (by decide), fun o no => ?_⟩
    have hM : ¬ F.M o := fun z => F.gl _ _ j2.g o z no
    have hS : ¬ F.S o := j2.fresh no
    have h0 : F.H0 o = none := j2.h0 hM no
    have en2 : EnvOk (F.ext o) (upd H2 o (.lst (xs ++ ys))) (σ.set i (some (.ref o))) (ρ.set i (.own o (ds ++ es))) :=
      (((en.le l1).le l2).ext no).set (sv := .own o (ds ++ es)) ⟨rfl, .inr rfl, hM, h0, xs ++ ys, upd_same, (hr.append hr2).ext no⟩
    have lz0 : Lz F H H2 := l1.lz.trans l2.lz
    have lzo : ∀ H', Lz (F.ext o) (upd H2 o (.lst (xs ++ ys))) H' → Lz F H H' := fun H' lz b u hb e => by
      have e2 := lz0 b u hb e
      have ne : b ≠ o := ne_of_none e2 no
      exact lz b u (fun z => z.elim (fun y => y.elim (fun q => hb (.inl q)) ne) fun q => hb (.inr q)) (by rw [upd_ne ne]; exact e2)
    refine p o (σ.set i (some (.ref o))) (upd H2 o (.lst (xs ++ ys))) _ en2 ((j2.new no).ext (lv_new fun _ z => nomatch z)) ?_ ?_ ?_ ?_
    · rintro ρ' σ' k' H' lz en' j' ⟨zs, hown, hpl, hrest⟩
      have hlz := lzo H' lz
      obtain ⟨hσ', _, _, _, vs, hvs, rvs⟩ := en'.own hown
      have en3 : EnvOk F H' σ' (ρ'.set i (.d (.list zs))) := by
        intro m sv em
        by_cases hj : i = m
        · subst hj
          have hl : i < ρ'.length := (List.getElem?_eq_some_iff.mp hown).1
          rw [List.getElem?_set_self hl] at em
          cases em
          exact ⟨_, hσ', _, rfl, .lst ⟨hvs, hS⟩ rvs.unext⟩
        · rw [List.getElem?_set_ne hj] at em
          obtain ⟨y, qy, sy⟩ := en' m sv em
          refine ⟨y, qy, ?_⟩
          cases sv with
          | un => trivial
          | d d => obtain ⟨v, z, r⟩ := sy; exact ⟨v, z, r.unext⟩
          | raw v => exact sy
          | own o' xs' => exact (noOwn_of hpl m o' xs' (Ne.symm hj) em).elim
      exact hrest σ' H' E en3 j'.unext (fun ρ2 σ2 k2 H2 l2 => q1 ρ2 σ2 k2 H2 (hlz.trans l2)) q2 (fun ρ2 σ2 k2 H2 l2 => q3 ρ2 σ2 k2 H2 (hlz.trans l2)) (fun ρ2 σ2 k2 H2 l2 => q4 ρ2 σ2 k2 H2 (hlz.trans l2))
    · exact fun v d k' H' j' r' p => q2 v d k' H' j'.unext r'.unext p
    · exact fun _ _ _ _ _ _ _ z => z.elim
    · exact fun _ _ _ _ _ _ _ z => z.elim
end
end Dl

namespace Dl
open PySem PySem.Spec PyProof.Rows L2
section
variable {F : Fm} {C : Cs} {ρ : Rho} {k : Nat} {Φ : Nat → PyData → Prop}
/-! ### comprehensions over range(a, b) -/
theorem we_lcR2 (i : Nat) {ta tb : TE} {tt : TT} {te : TE}
    (h : WE F ta ρ k fun k1 d => WE F tb ρ k1 fun k2 d' => ∃ (I : Nat → Nat → List PyData → Prop) (u z : Int), d = .int u ∧ d' = .int z ∧ (-1000000 ≤ u ∧ z ≤ 1000000 ∧ u ≤ 1000000 ∧ -1000000 ≤ z) ∧ I 0 k2 [] ∧ (∀ D (j : Nat) k' acc, j < (z - u).toNat → I j k' acc → WT (F.ext D) tt (ρ.set i (.d (.int (u + j)))) k' fun k1 b => if b = true then WE (F.ext D) te (ρ.set i (.d (.int (u + j)))) k1 fun k2 z => I (j + 1) k2 (acc ++ [z]) else I (j + 1) k1 acc) ∧ (∀ k' acc, I (z - u).toNat k' acc → Φ k' (.list acc))) : WE F (tLc (iRng2 (tCons ta (tCons tb tNil))) (gName i) tt te [i]) ρ k Φ := fun σ H Q en j q => by
  show ta σ H _
  refine h σ H _ en j fun va da k1 H1 l1 j1 r1 hh => ?_
  show tb σ H1 _
  refine hh σ H1 _ (en.le l1) j1 fun vb db k2 H2 l2 j2 r2 hh => ?_
  obtain ⟨I, u, z, e1, e2, hz, i0, hstep, hend⟩ := hh
  subst e1 e2
  cases r1
  cases r2
  refine ⟨u, z, rfl, ⟨by omega, by omega, by omega, by omega⟩, fun D hD => ?_⟩
  have en1 := (en.le l1).le l2
  have l12 := l1.trans l2
  have hM : ¬ F.M D := fun z => F.gl _ _ j2.g D z hD
  have hS : ¬ F.S D := j2.fresh hD
  have h0 : F.H0 D = none := j2.h0 hM hD
  have hne : ∀ (i : Nat) o xs, ρ[i]? = some (SV.own o xs) → o ≠ D := fun i o xs e => by
    obtain ⟨x, _, s⟩ := en1 i _ e
    obtain ⟨_, _, _, _, vs, h1, _⟩ := s
    exact ne_of_none h1 hD
  refine lc_range (lo := u) (n := (z - u).toNat) (fun n H' => ∃ k' vs acc, acc.length ≤ n ∧ EnvOk (F.ext D) H' σ ρ ∧ J (F.ext D) k' H' ∧ LeD (F.ext D) D (upd H2 D (.lst [])) H' ∧ H' D = some (.lst vs) ∧ RpAll (F.ext D) H' vs acc ∧ I n k' acc)
    ⟨k2, [], [], Nat.le_refl _, en1.ext hD, (j2.new hD).ext (lv_new fun _ z => nomatch z), .refl, upd_same, .nil, i0⟩ ?_ ?_
  · rintro n H' hn ⟨k', vs, acc, hle, en', j', ld, hd, ra, ii⟩
    show (wipe ((wipe σ [i]).set i (some (.int (u + n)))) [i] = wipe σ [i] ∧ _)
    rw [set_wipe]
    refine ⟨wipe_set σ, ?_⟩
    refine lc_turn (F := F.ext D) (I := fun k acc => I (n + 1) k acc) hM (.inr rfl) h0 (en'.set (sv := .d (.int (u + n))) ⟨_, rfl, .int _⟩) j' hd ra (Nat.lt_of_le_of_lt (show acc.length ≤ 2000000 by omega) (by decide)) (hstep D n k' acc hn ii) fun H2 k2 vs2 acc2 hl2 ld2 hd2 ra2 j2 i2 => ?_
    exact ⟨k2, vs2, acc2, by omega, en'.ld ld2 (.inr rfl) hne, j2, ld.trans ld2, hd2, ra2, i2⟩
  · rintro H' ⟨k', vs, acc, hle, en', j', ld, hd, ra, ii⟩
    refine q (.ref D) (.list acc) k' H' ?_ j'.unext (.lst ⟨hd, hS⟩ ra.unext) (hend k' acc ii)
    exact fun b o n e => ld b o n (ne_of_none (l12 b o n e) hD) (by rw [upd_ne (ne_of_none (l12 b o n e) hD)]; exact l12 b o n e)
end
section
variable {F : Fm} {C : Cs} {ρ : Rho} {k : Nat} {Φ : Nat → PyData → Prop} {P : DE} {pos spos pr pr2 p2 : Pos} {elt a b e : Expr} {scope : Scope}
theorem we_mR2 (g : Int → PyData) (i : Nat) {x : Str} {px : Pos} (bk : Blk C scope i x) (hg : C.sc.names.lookup ("range" : Str) = some .globalImplicit) (hm : C.mg ("range" : Str) = none) (hse : ∀ env : Env, starEach [a, b] env = [(false, eval a env), (false, eval b env)]) (hse2 : ∀ env : Env, starEach [b] env = [(false, eval b env)]) (hfs : ∀ (env : Env) (v : Value), foldedSetIterable (.Call (.Name "range" pr) [a, b] [] pr2) env v = pure v)
    (h : WPE F C a ρ k fun k1 d => WPE F C b ρ k1 fun k2 d' => ∃ (u z : Int), d = .int u ∧ d' = .int z ∧ (-1000000 ≤ u ∧ z ≤ 1000000 ∧ u ≤ 1000000 ∧ -1000000 ≤ z) ∧ (∀ D (j : Int), u ≤ j → j < z → WPE (F.ext D) (C.blk scope) elt (ρ.set i (.d (.int j))) k2 fun k3 y => k3 = k2 ∧ y = g j) ∧ Φ k2 (.list ((rg (z - u)).map fun j => g (u + j)))) :
    WPE F C (.ListComp elt [⟨.Name x px, .Call (.Name "range" pr) [a, b] [] pr2, [], 0⟩] scope pos) ρ k Φ :=
  of_pe (fun X fx => pe_lcX fx bk (pi_range2 (by show X.env.scope.names.lookup ("range" : Str) = _; rw [fx.sc]; exact hg) (by rw [fx.mg]; exact hm) (pa_cons (peE fx) (pa_cons (peE fx) pa_nil (hse2 X.env)) (by rw [hse X.env, hse2 X.env])) (hse X.env) (hse2 X.env)) (fun _ _ => pts_nil) hfs) (we_lcR2 i (h.imp fun k1 d hh => hh.imp fun k2 d' ⟨u, z, e1, e2, hz, hs, he⟩ =>
    ⟨fun j k' acc => k' = k2 ∧ acc = (rg (j : Int)).map fun j => g (u + j), u, z, e1, e2, hz, ⟨rfl, rfl⟩, fun D j k' acc hj ⟨ek, ea⟩ => wt_yes (by
      rw [if_pos rfl, ek]
      refine WE.imp (hs D (u + j) (by omega) (by omega)) fun k3 y ⟨e3, ey⟩ => ⟨e3, ?_⟩
      rw [ea, ey]
      show _ = (rg ((j : Int) + 1)).map _
      rw [rg_succ, List.map_append]; rfl), fun k' acc ⟨ek, ea⟩ => by
      rw [ek, ea]
      by_cases hp : 0 ≤ z - u
      · rw [Int.toNat_of_nonneg hp]; exact he
      · have e0 : rg (z - u) = [] := by unfold rg; rw [show (z - u).toNat = 0 by omega]; rfl
        rw [show (z - u).toNat = 0 by omega]
        rw [e0] at he; exact he⟩))
/-- xs * n, lists -/
theorem we_repL (h : WPE F C a ρ k fun k1 x => WPE F C b ρ k1 fun k2 y => ∃ ds n, x = .list ds ∧ y = .int n ∧ (-1000 ≤ n ∧ n ≤ 1000) ∧ ds.length ≤ 1000 ∧ Φ k2 (.list (List.replicate n.toNat ds).flatten)) : WPE F C (.BinOp a .Mult b pos) ρ k Φ :=
  we_bin (fun X _ => op_rep) (h.imp fun k1 x h1 => h1.imp fun k2 y ⟨ds, n, e1, e2, hz, hl, p⟩ => by
    subst e1 e2
    intro H vx vy Q j rx ry q
    cases rx with
    | @lst pa xs _ ha hr =>
    cases ry
    refine ⟨pa, n, xs, rfl, rfl, ha.1, by omega, by omega, ?_, fun l hl => q _ _ k2 _ (.new hl) (j.new hl) (rep_newL j hl ?_) p⟩
    · rw [hr.length]
      exact Nat.le_trans (Nat.mul_le_mul hl (show n.toNat ≤ 1000 by omega)) (by decide)
    · have : ∀ m : Nat, RpAll F H (List.replicate m xs).flatten (List.replicate m ds).flatten := by
        intro m
        induction m with
        | zero => exact .nil
        | succ m ih =>
          rw [List.replicate_succ, List.replicate_succ, List.flatten_cons, List.flatten_cons]
          exact hr.append ih
      exact this _)
/-- xs[:e], a list, the bound any int expression -/
theorem we_sliceE (hK : F.K = C.K) (h : WPE F C a ρ k fun k1 x => WPE F C e ρ k1 fun k2 y => ∃ ds, ∃ m : Nat, x = .list ds ∧ y = .int (m : Int) ∧ Φ k2 (.list (ds.take m))) : WPE F C (.Subscript a (.Slice none (some e) none p2) pos) ρ k Φ :=
  of_pe (fun X fx => pe_slice (slLK fx) (peE fx) po_none (po_some (peE fx))) fun σ H Q en j q => by
    show tE C a σ H _
    refine h σ H _ en j fun v d k1 H1 l1 j1 r hx => ?_
    show tE C e σ H1 _
    refine hx σ H1 _ (en.le l1) j1 fun vy y k2 H2 l2 j2 r2 ⟨ds, m, e1, e2, p⟩ => ?_
    subst e1 e2
    have r' := r.le l2.lz
    cases r' with
    | @lst a xs _ ha hr =>
    cases r2
    refine ⟨(m : Int), rfl, a, xs, rfl, hK ▸ sql_of ha, fun l hl => ?_⟩
    have ec : cutV xs none (some (m : Int)) = xs.take m := by
      unfold cutV
      rw [HT.sIx_nat, HT.sIx_none, List.drop_zero, Nat.sub_zero, List.take_eq_take_iff]
      omega
    rw [ec]
    exact q _ _ k2 _ ((l1.trans l2).trans (.new hl)) (j2.new hl) (rep_newL j2 hl (hr.take m)) p
end
end Dl

namespace Sb
/-! ### sets of switches as numbers; boxes as tests on numbers below 2 ^ n; all by the last switch -/
def cnt : Nat → (Nat → Bool) → Nat
  | 0, p => if p 0 = true then 1 else 0
  | n + 1, p => cnt n p + cnt n fun i => p (i + 2 ^ n)
def up (n : Nat) (A : Nat → Bool) : Nat → Bool := fun c => A (c + 2 ^ n)
def oj (n : Nat) (A : Nat → Bool) : Nat → Bool := fun c => A c || A (c + 2 ^ n)
def aj (n : Nat) (A : Nat → Bool) : Nat → Bool := fun c => A c && A (c + 2 ^ n)
def sh : Nat → (Nat → Bool) → Nat → Bool
  | 0, A, _ => A 0
  | n + 1, A, s => if s < 2 ^ n then sh n (oj n A) s else sh n A (s - 2 ^ n) && sh n (up n A) (s - 2 ^ n)
def so : Nat → (Nat → Bool) → Nat → Bool
  | 0, A, _ => A 0
  | n + 1, A, s => if s < 2 ^ n then so n A s || so n (up n A) s else so n (aj n A) (s - 2 ^ n)
theorem cnt_congr : ∀ (n : Nat) {p q : Nat → Bool}, (∀ i < 2 ^ n, p i = q i) → cnt n p = cnt n q
  | 0, p, q, h => by unfold cnt; rw [h 0 (by decide)]
  | n + 1, p, q, h => by
    have e : 2 ^ (n + 1) = 2 ^ n + 2 ^ n := by rw [Nat.pow_succ]; omega
    unfold cnt
    rw [cnt_congr n fun i hi => h i (by omega), cnt_congr n (p := fun i => p (i + 2 ^ n)) fun i hi => h (i + 2 ^ n) (by omega)]
theorem cnt_mono : ∀ (n : Nat) {p q : Nat → Bool}, (∀ i < 2 ^ n, p i = true → q i = true) → cnt n p ≤ cnt n q
  | 0, p, q, h => by
    have := h 0 (by decide)
    unfold cnt
    cases hp : p 0 with
    | false => simp
    | true => rw [this hp]; simp
  | n + 1, p, q, h => by
    have e : 2 ^ (n + 1) = 2 ^ n + 2 ^ n := by rw [Nat.pow_succ]; omega
    unfold cnt
    have h1 := cnt_mono n (p := p) (q := q) fun i hi => h i (by omega)
    have h2 := cnt_mono n (p := fun i => p (i + 2 ^ n)) (q := fun i => q (i + 2 ^ n)) fun i hi => h (i + 2 ^ n) (by omega)
    omega
theorem cnt_same : ∀ (n : Nat) {p q : Nat → Bool}, (∀ i < 2 ^ n, p i = true → q i = true) → cnt n p = cnt n q → ∀ i < 2 ^ n, p i = q i
  | 0, p, q, h, e, i, hi => by
    have hi : i = 0 := by simpa using hi
    subst hi
    have h0 := h 0 (by decide)
    unfold cnt at e
    cases hp : p 0 with
    | true => exact (h0 hp).symm
    | false =>
      cases hq : q 0 with
      | false => rfl
      | true => rw [hp, hq] at e; simp at e
  | n + 1, p, q, h, e, i, hi => by
    have e2 : 2 ^ (n + 1) = 2 ^ n + 2 ^ n := by rw [Nat.pow_succ]; omega
    unfold cnt at e
    have m1 := cnt_mono n (p := p) (q := q) fun i hi => h i (by omega)
    have m2 := cnt_mono n (p := fun i => p (i + 2 ^ n)) (q := fun i => q (i + 2 ^ n)) fun i hi => h (i + 2 ^ n) (by omega)
    by_cases hlt : i < 2 ^ n
    · exact cnt_same n (fun i hi => h i (by omega)) (by omega) i hlt
    · have := cnt_same n (p := fun i => p (i + 2 ^ n)) (q := fun i => q (i + 2 ^ n)) (fun i hi => h (i + 2 ^ n) (by omega)) (by omega) (i - 2 ^ n) (by omega)
      rw [show i - 2 ^ n + 2 ^ n = i by omega] at this
      exact this
theorem cnt_or_and : ∀ (n : Nat) (p q : Nat → Bool), cnt n (fun i => p i || q i) + cnt n (fun i => p i && q i) = cnt n p + cnt n q
  | 0, p, q => by
    show (if (p 0 || q 0) = true then 1 else 0) + (if (p 0 && q 0) = true then 1 else 0) = (if p 0 = true then 1 else 0) + (if q 0 = true then 1 else 0)
    cases p 0 <;> cases q 0 <;> rfl
  | n + 1, p, q => by
    have h1 := cnt_or_and n p q
    have h2 := cnt_or_and n (fun i => p (i + 2 ^ n)) (fun i => q (i + 2 ^ n))
    show (cnt n (fun i => p i || q i) + cnt n (fun i => p (i + 2 ^ n) || q (i + 2 ^ n))) + (cnt n (fun i => p i && q i) + cnt n (fun i => p (i + 2 ^ n) && q (i + 2 ^ n))) = (cnt n p + cnt n fun i => p (i + 2 ^ n)) + (cnt n q + cnt n fun i => q (i + 2 ^ n))
    omega
theorem cnt_not : ∀ (n : Nat) (p : Nat → Bool), cnt n (fun i => !p i) + cnt n p = 2 ^ n
  | 0, p => by
    show (if (!p 0) = true then 1 else 0) + (if p 0 = true then 1 else 0) = 1
    cases p 0 <;> rfl
  | n + 1, p => by
    have h1 := cnt_not n p
    have h2 := cnt_not n fun i => p (i + 2 ^ n)
    show (cnt n (fun i => !p i) + cnt n (fun i => !p (i + 2 ^ n))) + (cnt n p + cnt n fun i => p (i + 2 ^ n)) = 2 ^ (n + 1)
    rw [Nat.pow_succ]
    omega
/-- counted from the other end -/
theorem cnt_rev : ∀ (n : Nat) (p : Nat → Bool), cnt n (fun i => p (2 ^ n - 1 - i)) = cnt n p
  | 0, p => rfl
  | n + 1, p => by
    have e2 : 2 ^ (n + 1) = 2 ^ n + 2 ^ n := by rw [Nat.pow_succ]; omega
    have h1 := cnt_rev n p
    have h2 := cnt_rev n fun i => p (i + 2 ^ n)
    unfold cnt
    rw [← h1, ← h2, Nat.add_comm]
    congr 1
    · refine cnt_congr n fun i hi => ?_
      show p _ = p _
      congr 1; omega
    · refine cnt_congr n fun i hi => ?_
      show p _ = p _
      congr 1; omega
theorem sh_congr : ∀ (n : Nat) {A B : Nat → Bool} (s : Nat), (∀ i < 2 ^ n, A i = B i) → sh n A s = sh n B s
  | 0, A, B, s, h => h 0 (by decide)
  | n + 1, A, B, s, h => by
    have e2 : 2 ^ (n + 1) = 2 ^ n + 2 ^ n := by rw [Nat.pow_succ]; omega
    unfold sh
    rw [sh_congr n (A := oj n A) (B := oj n B) s fun i hi => by unfold oj; rw [h i (by omega), h (i + 2 ^ n) (by omega)],
      sh_congr n (A := A) (B := B) (s - 2 ^ n) fun i hi => h i (by omega), sh_congr n (A := up n A) (B := up n B) (s - 2 ^ n) fun i hi => h (i + 2 ^ n) (by omega)]
theorem so_congr : ∀ (n : Nat) {A B : Nat → Bool} (s : Nat), (∀ i < 2 ^ n, A i = B i) → so n A s = so n B s
  | 0, A, B, s, h => h 0 (by decide)
  | n + 1, A, B, s, h => by
    have e2 : 2 ^ (n + 1) = 2 ^ n + 2 ^ n := by rw [Nat.pow_succ]; omega
    unfold so
    rw [so_congr n (A := aj n A) (B := aj n B) (s - 2 ^ n) fun i hi => by unfold aj; rw [h i (by omega), h (i + 2 ^ n) (by omega)],
      so_congr n (A := A) (B := B) s fun i hi => h i (by omega), so_congr n (A := up n A) (B := up n B) s fun i hi => h (i + 2 ^ n) (by omega)]
theorem sh_mono : ∀ (n : Nat) {A B : Nat → Bool} (s : Nat), (∀ i < 2 ^ n, A i = true → B i = true) → sh n A s = true → sh n B s = true
  | 0, A, B, s, h, hs => h 0 (by decide) hs
  | n + 1, A, B, s, h, hs => by
    have e2 : 2 ^ (n + 1) = 2 ^ n + 2 ^ n := by rw [Nat.pow_succ]; omega
    unfold sh at hs ⊢
    split at hs
    · rename_i hlt
      rw [if_pos hlt]
      refine sh_mono n s (fun i hi q => ?_) hs
      unfold oj at q ⊢
      rcases Bool.or_eq_true_iff.mp q with q | q
      · rw [h i (by omega) q]; rfl
      · rw [h (i + 2 ^ n) (by omega) q, Bool.or_true]
    · rename_i hlt
      rw [if_neg hlt]
      obtain ⟨h1, h2⟩ := Bool.and_eq_true_iff.mp hs
      rw [sh_mono n _ (fun i hi q => h i (by omega) q) h1, sh_mono n (A := up n A) (B := up n B) _ (fun i hi q => h (i + 2 ^ n) (by omega) q) h2]; rfl
theorem so_mono : ∀ (n : Nat) {A B : Nat → Bool} (s : Nat), (∀ i < 2 ^ n, A i = true → B i = true) → so n A s = true → so n B s = true
  | 0, A, B, s, h, hs => h 0 (by decide) hs
  | n + 1, A, B, s, h, hs => by
    have e2 : 2 ^ (n + 1) = 2 ^ n + 2 ^ n := by rw [Nat.pow_succ]; omega
    unfold so at hs ⊢
    split at hs
    · rename_i hlt
      rw [if_pos hlt]
      rcases Bool.or_eq_true_iff.mp hs with q | q
      · rw [so_mono n _ (fun i hi q => h i (by omega) q) q]; rfl
      · rw [so_mono n (A := up n A) (B := up n B) _ (fun i hi q => h (i + 2 ^ n) (by omega) q) q, Bool.or_true]
    · rename_i hlt
      rw [if_neg hlt]
      refine so_mono n _ (fun i hi q => ?_) hs
      unfold aj at q ⊢
      obtain ⟨h1, h2⟩ := Bool.and_eq_true_iff.mp q
      rw [h i (by omega) h1, h (i + 2 ^ n) (by omega) h2]; rfl
/-- every solid set is shown -/
theorem so_sh : ∀ (n : Nat) (A : Nat → Bool) (s : Nat), so n A s = true → sh n A s = true
  | 0, A, s, h => h
  | n + 1, A, s, h => by
    unfold so at h
    unfold sh
    split at h
    · rename_i hlt
      rw [if_pos hlt]
      rcases Bool.or_eq_true_iff.mp h with q | q
      · exact sh_mono n s (fun i hi q => by unfold oj; rw [q]; rfl) (so_sh n A s q)
      · exact sh_mono n s (fun i hi q => by unfold up at q; unfold oj; rw [q, Bool.or_true]) (so_sh n (up n A) s q)
    · rename_i hlt
      rw [if_neg hlt]
      have q := so_sh n _ _ h
      rw [sh_mono n _ (fun i hi q => by unfold aj at q; exact (Bool.and_eq_true_iff.mp q).1) q, sh_mono n (B := up n A) _ (fun i hi q => by unfold aj at q; exact (Bool.and_eq_true_iff.mp q).2) q]; rfl
theorem cnt_so_step (n : Nat) (A : Nat → Bool) : cnt (n + 1) (so (n + 1) A) = cnt n (fun s => so n A s || so n (up n A) s) + cnt n (so n (aj n A)) := by
  show cnt n (so (n + 1) A) + cnt n (fun i => so (n + 1) A (i + 2 ^ n)) = _
  congr 1
  · refine cnt_congr n fun s hs => ?_
    show (if s < 2 ^ n then _ else _) = _
    rw [if_pos hs]
  · refine cnt_congr n fun s hs => ?_
    show (if s + 2 ^ n < 2 ^ n then _ else _) = _
    rw [if_neg (by omega), Nat.add_sub_cancel]
theorem cnt_sh_step (n : Nat) (A : Nat → Bool) : cnt (n + 1) (sh (n + 1) A) = cnt n (sh n (oj n A)) + cnt n (fun s => sh n A s && sh n (up n A) s) := by
  show cnt n (sh (n + 1) A) + cnt n (fun i => sh (n + 1) A (i + 2 ^ n)) = _
  congr 1
  · refine cnt_congr n fun s hs => ?_
    show (if s < 2 ^ n then _ else _) = _
    rw [if_pos hs]
  · refine cnt_congr n fun s hs => ?_
    show (if s + 2 ^ n < 2 ^ n then _ else _) = _
    rw [if_neg (by omega), Nat.add_sub_cancel]
/-- at most as many solid sets as cards -/
theorem so_le : ∀ (n : Nat) (A : Nat → Bool), cnt n (so n A) ≤ cnt n A
  | 0, A => by show (if A 0 = true then 1 else 0) ≤ (if A 0 = true then 1 else 0); exact Nat.le_refl _
  | n + 1, A => by
    rw [cnt_so_step]
    have h1 := so_le n A
    have h2 := so_le n (up n A)
    have h3 := cnt_or_and n (so n A) (so n (up n A))
    have h4 := cnt_mono n (p := so n (aj n A)) (q := fun s => so n A s && so n (up n A) s) fun s hs q => by
      rw [so_mono n _ (fun i hi q => by unfold aj at q; exact (Bool.and_eq_true_iff.mp q).1) q, so_mono n (B := up n A) _ (fun i hi q => by unfold aj at q; exact (Bool.and_eq_true_iff.mp q).2) q]; rfl
    have e : cnt (n + 1) A = cnt n A + cnt n (up n A) := rfl
    omega
/-- at most as many cards as shown sets -/
theorem sh_ge : ∀ (n : Nat) (A : Nat → Bool), cnt n A ≤ cnt n (sh n A)
  | 0, A => by show (if A 0 = true then 1 else 0) ≤ (if A 0 = true then 1 else 0); exact Nat.le_refl _
  | n + 1, A => by
    rw [cnt_sh_step]
    have h1 := sh_ge n A
    have h2 := sh_ge n (up n A)
    have h3 := cnt_or_and n (sh n A) (sh n (up n A))
    have h4 := cnt_mono n (p := fun s => sh n A s || sh n (up n A) s) (q := sh n (oj n A)) fun s hs q => by
      rcases Bool.or_eq_true_iff.mp q with q | q
      · exact sh_mono n s (fun i hi q => by unfold oj; rw [q]; rfl) q
      · exact sh_mono n s (fun i hi q => by unfold up at q; unfold oj; rw [q, Bool.or_true]) q
    have e : cnt (n + 1) A = cnt n A + cnt n (up n A) := rfl
    omega
/-- as many cards as shown sets: each shown set is solid -/
theorem sh_tight : ∀ (n : Nat) (A : Nat → Bool), cnt n A = cnt n (sh n A) → ∀ s < 2 ^ n, sh n A s = so n A s
  | 0, A, _, s, _ => rfl
  | n + 1, A, e, s, hs => by
    have e2 : 2 ^ (n + 1) = 2 ^ n + 2 ^ n := by rw [Nat.pow_succ]; omega
    rw [cnt_sh_step] at e
    have eA : cnt (n + 1) A = cnt n A + cnt n (up n A) := rfl
    have g1 := sh_ge n A
    have g2 := sh_ge n (up n A)
    have g3 := sh_ge n (oj n A)
    have g4 := sh_ge n (aj n A)
    have c1 := cnt_or_and n (sh n A) (sh n (up n A))
    have c2 : cnt n (oj n A) + cnt n (aj n A) = cnt n A + cnt n (up n A) := cnt_or_and n A (up n A)
    have i1 : ∀ s < 2 ^ n, (sh n A s || sh n (up n A) s) = true → sh n (oj n A) s = true := fun s hs q => by
      rcases Bool.or_eq_true_iff.mp q with q | q
      · exact sh_mono n s (fun i hi q => by unfold oj; rw [q]; rfl) q
      · exact sh_mono n s (fun i hi q => by unfold up at q; unfold oj; rw [q, Bool.or_true]) q
    have i2 : ∀ s < 2 ^ n, sh n (aj n A) s = true → (sh n A s && sh n (up n A) s) = true := fun s hs q => by
      rw [sh_mono n _ (fun i hi q => by unfold aj at q; exact (Bool.and_eq_true_iff.mp q).1) q, sh_mono n (B := up n A) _ (fun i hi q => by unfold aj at q; exact (Bool.and_eq_true_iff.mp q).2) q]; rfl
    have m1 := cnt_mono n (p := fun s => sh n A s || sh n (up n A) s) (q := sh n (oj n A)) i1
    have m2 := cnt_mono n (p := sh n (aj n A)) (q := fun s => sh n A s && sh n (up n A) s) i2
    have s0 := sh_tight n A (by omega)
    have s1 := sh_tight n (up n A) (by omega)
    have s2 := sh_tight n (aj n A) (by omega)
    have f1 := cnt_same n i1 (by omega)
    have f2 := cnt_same n i2 (by omega)
    unfold sh so
    by_cases hlt : s < 2 ^ n
    · rw [if_pos hlt, if_pos hlt, ← f1 s hlt, s0 s hlt, s1 s hlt]
    · rw [if_neg hlt, if_neg hlt]
      have := f2 (s - 2 ^ n) (by omega)
      rw [← this, s2 _ (by omega)]
/-- shown exactly if the others are not solid in the opposite box -/
theorem sh_so_opp : ∀ (n : Nat) (A : Nat → Bool), ∀ s < 2 ^ n, sh n A s = !so n (fun c => !A c) (2 ^ n - 1 - s)
  | 0, A, s, _ => by show A 0 = !!A 0; rw [Bool.not_not]
  | n + 1, A, s, hs => by
    have e2 : 2 ^ (n + 1) = 2 ^ n + 2 ^ n := by rw [Nat.pow_succ]; omega
    unfold sh so
    by_cases hlt : s < 2 ^ n
    · rw [if_pos hlt, if_neg (by omega), sh_so_opp n _ s hlt]
      rw [show 2 ^ (n + 1) - 1 - s - 2 ^ n = 2 ^ n - 1 - s by omega]
      congr 1
      refine so_congr n _ fun i hi => ?_
      show (!(A i || A (i + 2 ^ n))) = ((!A i) && (!A (i + 2 ^ n)))
      rw [Bool.not_or]
    · rw [if_neg hlt, if_pos (by omega), sh_so_opp n _ (s - 2 ^ n) (by omega), sh_so_opp n (up n A) (s - 2 ^ n) (by omega)]
      rw [show 2 ^ n - 1 - (s - 2 ^ n) = 2 ^ (n + 1) - 1 - s by omega, ← Bool.not_or]
      rfl
def smooth (n : Nat) (A : Nat → Bool) : Prop := ∀ s < 2 ^ n, sh n A s = so n A s
theorem smooth_opp {n : Nat} {A : Nat → Bool} (h : smooth n A) : smooth n fun c => !A c := by
  intro s hs
  have hp := Nat.two_pow_pos n
  have h1 := sh_so_opp n (fun c => !A c) s hs
  have h2 := sh_so_opp n A (2 ^ n - 1 - s) (by omega)
  have e : (fun c => !(!A c)) = A := by funext c; rw [Bool.not_not]
  rw [h1]
  show (!so n (fun c => !(!A c)) (2 ^ n - 1 - s)) = _
  rw [e, ← h (2 ^ n - 1 - s) (by omega), h2, Bool.not_not, show 2 ^ n - 1 - (2 ^ n - 1 - s) = s by omega]
theorem cnt_sh_opp (n : Nat) (A : Nat → Bool) : cnt n (sh n A) + cnt n (so n fun c => !A c) = 2 ^ n := by
  rw [cnt_congr n (sh_so_opp n A)]
  have := cnt_not n fun i => so n (fun c => !A c) (2 ^ n - 1 - i)
  rw [cnt_rev n (so n fun c => !A c)] at this
  exact this
theorem smooth_sh {n : Nat} {A : Nat → Bool} : smooth n A ↔ cnt n A = cnt n (sh n A) := by
  constructor
  · intro h
    have h1 := so_le n A
    have h2 := sh_ge n A
    have h3 := cnt_congr n h
    omega
  · exact sh_tight n A
theorem smooth_so {n : Nat} {A : Nat → Bool} : smooth n A ↔ cnt n A = cnt n (so n A) := by
  constructor
  · intro h
    have h1 := so_le n A
    have h2 := sh_ge n A
    have h3 := cnt_congr n h
    omega
  · intro h
    have e : (fun c => !(!A c)) = A := by funext c; rw [Bool.not_not]
    have h1 := cnt_sh_opp n fun c => !A c
    have h2 := cnt_not n A
    rw [show (fun c => !(fun c => !A c) c) = A from e] at h1
    have := smooth_opp (sh_tight n (fun c => !A c) (by omega))
    have r : (fun c => !(fun c => !A c) c) = A := e
    rwa [r] at this
theorem smooth_opp_iff {n : Nat} {A : Nat → Bool} : (smooth n fun c => !A c) ↔ smooth n A := by
  constructor
  · intro h
    have := smooth_opp h
    have r : (fun c => !(fun c => !A c) c) = A := by funext c; rw [Bool.not_not]
    rwa [r] at this
  · exact smooth_opp
end Sb

namespace Sb
theorem tb_add {n c : Nat} (i : Nat) (hc : c < 2 ^ n) : (c + 2 ^ n).testBit i = (decide (n = i) || c.testBit i) := by
  have h := Nat.two_pow_add_eq_or_of_lt hc 1
  rw [Nat.mul_one] at h
  rw [Nat.add_comm, h, Nat.testBit_or, Nat.testBit_two_pow]
theorem tb_lt {n c i : Nat} (hc : c < 2 ^ n) (hi : n ≤ i) : c.testBit i = false := Nat.testBit_lt_two_pow (Nat.lt_of_lt_of_le hc (Nat.pow_le_pow_right (by decide) hi))
theorem and_ul {n c s : Nat} (hc : c < 2 ^ n) (hs : s < 2 ^ n) : (c + 2 ^ n) &&& s = c &&& s := by
  refine Nat.eq_of_testBit_eq fun i => ?_
  rw [Nat.testBit_and, Nat.testBit_and, tb_add i hc]
  by_cases h : n = i
  · subst h; rw [tb_lt hs (Nat.le_refl _)]; simp
  · simp [h]
theorem and_lu {n c s : Nat} (hc : c < 2 ^ n) (hs : s < 2 ^ n) : c &&& (s + 2 ^ n) = c &&& s := by
  rw [Nat.and_comm, and_ul hs hc, Nat.and_comm]
theorem and_lt {n c s : Nat} (hs : s < 2 ^ n) : c &&& s < 2 ^ n := Nat.lt_of_le_of_lt Nat.and_le_right hs
theorem and_uu {n c s : Nat} (hc : c < 2 ^ n) (hs : s < 2 ^ n) : (c + 2 ^ n) &&& (s + 2 ^ n) = (c &&& s) + 2 ^ n := by
  refine Nat.eq_of_testBit_eq fun i => ?_
  rw [Nat.testBit_and, tb_add i hc, tb_add i hs, tb_add i (and_lt hs), Nat.testBit_and]
  by_cases h : n = i <;> simp [h]
theorem split_lt {n c : Nat} (h : c < 2 ^ (n + 1)) : c < 2 ^ n ∨ ∃ c', c' < 2 ^ n ∧ c = c' + 2 ^ n := by
  have e2 : 2 ^ (n + 1) = 2 ^ n + 2 ^ n := by rw [Nat.pow_succ]; omega
  by_cases hlt : c < 2 ^ n
  · exact .inl hlt
  · exact .inr ⟨c - 2 ^ n, by omega, by omega⟩
def Shown (n : Nat) (A : Nat → Bool) (s : Nat) : Prop := ∀ p, p &&& s = p → ∃ c, c < 2 ^ n ∧ A c = true ∧ c &&& s = p
def Solid (n : Nat) (A : Nat → Bool) (s : Nat) : Prop := ∃ b, b < 2 ^ n ∧ b &&& s = 0 ∧ ∀ p, p &&& s = p → A (b + p) = true
theorem part_le {p s : Nat} (h : p &&& s = p) : p ≤ s := by rw [← h]; exact Nat.and_le_right
theorem shown_sh : ∀ (n : Nat) (A : Nat → Bool) (s : Nat), s < 2 ^ n → (sh n A s = true ↔ Shown n A s)
  | 0, A, s, hs => by
    have hs : s = 0 := by simpa using hs
    subst hs
    constructor
    · intro h p hp
      exact ⟨0, by decide, h, by rw [Nat.and_zero] at hp ⊢; exact hp⟩
    · intro h
      obtain ⟨c, hc, hA, _⟩ := h 0 rfl
      have : c = 0 := by simpa using hc
      subst this
      exact hA
  | n + 1, A, s, hs => by
    have e2 : 2 ^ (n + 1) = 2 ^ n + 2 ^ n := by rw [Nat.pow_succ]; omega
    unfold sh
    rcases split_lt hs with hlt | ⟨s', hs', rfl⟩
    · rw [if_pos hlt, shown_sh n _ s hlt]
      constructor
      · intro h p hp
        obtain ⟨c, hc, hA, e⟩ := h p hp
        rcases Bool.or_eq_true_iff.mp hA with q | q
        · exact ⟨c, by omega, q, e⟩
        · exact ⟨c + 2 ^ n, by omega, q, by rw [and_ul hc hlt]; exact e⟩
      · intro h p hp
        obtain ⟨c, hc, hA, e⟩ := h p hp
        rcases split_lt hc with hc' | ⟨c', hc', rfl⟩
        · exact ⟨c, hc', by unfold oj; rw [hA]; rfl, e⟩
        · exact ⟨c', hc', by unfold oj; rw [hA, Bool.or_true], by rw [and_ul hc' hlt] at e; exact e⟩
    · rw [if_neg (by omega), Nat.add_sub_cancel, Bool.and_eq_true, shown_sh n _ s' hs', shown_sh n (up n A) s' hs']
      constructor
      · rintro ⟨h1, h2⟩ p hp
        have hpl := part_le hp
        rcases split_lt (n := n) (c := p) (by omega) with hp' | ⟨p', hp', rfl⟩
        · rw [and_lu hp' hs'] at hp
          obtain ⟨c, hc, hA, e⟩ := h1 p hp
          exact ⟨c, by omega, hA, by rw [and_lu hc hs']; exact e⟩
        · rw [and_uu hp' hs'] at hp
          obtain ⟨c, hc, hA, e⟩ := h2 p' (by omega)
          exact ⟨c + 2 ^ n, by omega, hA, by rw [and_uu hc hs', e]⟩
      · intro h
        constructor
        · intro p hp
          have hpl := part_le hp
          obtain ⟨c, hc, hA, e⟩ := h p (by rw [and_lu (by omega) hs']; exact hp)
          rcases split_lt hc with hc' | ⟨c', hc', rfl⟩
          · exact ⟨c, hc', hA, by rw [and_lu hc' hs'] at e; exact e⟩
          · rw [and_uu hc' hs'] at e; omega
        · intro p hp
          have hpl := part_le hp
          obtain ⟨c, hc, hA, e⟩ := h (p + 2 ^ n) (by rw [and_uu (by omega) hs', hp])
          rcases split_lt hc with hc' | ⟨c', hc', rfl⟩
          · rw [and_lu hc' hs'] at e
            have := and_lt (c := c) hs'
            omega
          · exact ⟨c', hc', hA, by rw [and_uu hc' hs'] at e; omega⟩
theorem solid_so : ∀ (n : Nat) (A : Nat → Bool) (s : Nat), s < 2 ^ n → (so n A s = true ↔ Solid n A s)
  | 0, A, s, hs => by
    have hs : s = 0 := by simpa using hs
    subst hs
    constructor
    · intro h
      exact ⟨0, by decide, rfl, fun p hp => by rw [Nat.and_zero] at hp; subst hp; exact h⟩
    · rintro ⟨b, hb, _, h⟩
      have : b = 0 := by simpa using hb
      subst this
      exact h 0 rfl
  | n + 1, A, s, hs => by
    have e2 : 2 ^ (n + 1) = 2 ^ n + 2 ^ n := by rw [Nat.pow_succ]; omega
    unfold so
    rcases split_lt hs with hlt | ⟨s', hs', rfl⟩
    · rw [if_pos hlt, Bool.or_eq_true, solid_so n _ s hlt, solid_so n (up n A) s hlt]
      constructor
      · rintro (⟨b, hb, h0, h⟩ | ⟨b, hb, h0, h⟩)
        · exact ⟨b, by omega, h0, h⟩
        · refine ⟨b + 2 ^ n, by omega, by rw [and_ul hb hlt]; exact h0, fun p hp => ?_⟩
          have := h p hp
          unfold up at this
          rw [show b + 2 ^ n + p = b + p + 2 ^ n by omega]; exact this
      · rintro ⟨b, hb, h0, h⟩
        rcases split_lt hb with hb' | ⟨b', hb', rfl⟩
        · exact .inl ⟨b, hb', h0, h⟩
        · refine .inr ⟨b', hb', by rw [and_ul hb' hlt] at h0; exact h0, fun p hp => ?_⟩
          have := h p hp
          unfold up
          rw [show b' + p + 2 ^ n = b' + 2 ^ n + p by omega]; exact this
    · rw [if_neg (by omega), Nat.add_sub_cancel, solid_so n _ s' hs']
      constructor
      · rintro ⟨b, hb, h0, h⟩
        refine ⟨b, by omega, by rw [and_lu hb hs']; exact h0, fun p hp => ?_⟩
        have hpl := part_le hp
        rcases split_lt (n := n) (c := p) (by omega) with hp' | ⟨p', hp', rfl⟩
        · rw [and_lu hp' hs'] at hp
          exact (Bool.and_eq_true_iff.mp (h p hp)).1
        · rw [and_uu hp' hs'] at hp
          have := (Bool.and_eq_true_iff.mp (h p' (by omega))).2
          rw [show b + (p' + 2 ^ n) = b + p' + 2 ^ n by omega]; exact this
      · rintro ⟨b, hb, h0, h⟩
        rcases split_lt hb with hb' | ⟨b', hb', rfl⟩
        · refine ⟨b, hb', by rw [and_lu hb' hs'] at h0; exact h0, fun p hp => ?_⟩
          have hpl := part_le hp
          have h1 := h p (by rw [and_lu (by omega) hs']; exact hp)
          have h2 := h (p + 2 ^ n) (by rw [and_uu (by omega) hs', hp])
          unfold aj
          rw [h1, show b + p + 2 ^ n = b + (p + 2 ^ n) by omega, h2]; rfl
        · rw [and_uu hb' hs'] at h0
          have := Nat.two_pow_pos n
          omega
/-- counted on a list -/
theorem range_split (n : Nat) : List.range (2 ^ (n + 1)) = List.range (2 ^ n) ++ (List.range (2 ^ n)).map fun i => i + 2 ^ n := by
  have e2 : 2 ^ (n + 1) = 2 ^ n + 2 ^ n := by rw [Nat.pow_succ]; omega
  rw [e2, List.range_add]
  congr 1
  exact List.map_congr_left fun i _ => Nat.add_comm _ _
theorem cnt_list : ∀ (n : Nat) (p : Nat → Bool), ((List.range (2 ^ n)).filter p).length = cnt n p
  | 0, p => by
    show ((List.range 1).filter p).length = if p 0 = true then 1 else 0
    rw [show List.range 1 = [0] from rfl, List.filter_cons]
    split <;> simp
  | n + 1, p => by
    rw [range_split, List.filter_append, List.length_append, cnt_list n p, List.filter_map, List.length_map]
    show _ = cnt n p + _
    rw [← cnt_list n fun i => p (i + 2 ^ n)]
    rfl
end Sb

namespace Dl
open PySem PySem.Spec PyProof.Rows L2
/-! ### the laws' draws: a list [cells, count, rests] -/
def DqM (st a : Addr) (b : Addr) : Prop := b = st ∨ b = a
def DqG (st a : Addr) (k : Nat) (H : Hp) : Prop := ∃ (cells : List Int) (n : Int), H st = some (.lst [.ref a, .int n]) ∧ H a = some (.lst (cells.map V.int)) ∧ cells.length ≤ 63 ∧ 0 ≤ n ∧ n + k ≤ 1000000
theorem DqG.weak {st a : Addr} {k k' : Nat} {H : Hp} (h : DqG st a k H) (hk : k' ≤ k) : DqG st a k' H := by
  obtain ⟨c, n, h1, h2, h3, h4, h5⟩ := h
  exact ⟨c, n, h1, h2, h3, h4, by omega⟩
theorem DqG.at {st a : Addr} {k : Nat} {H H' : Hp} (h : DqG st a k H) (e : ∀ b, DqM st a b → H' b = H b) : DqG st a k H' := by
  obtain ⟨c, n, h1, h2, h3⟩ := h
  exact ⟨c, n, (e st (.inl rfl)).trans h1, (e a (.inr rfl)).trans h2, h3⟩
theorem DqG.live {st a : Addr} {k : Nat} {H : Hp} (h : DqG st a k H) (b : Addr) (hb : DqM st a b) : H b ≠ none := by
  obtain ⟨c, n, h1, h2, h3⟩ := h
  rcases hb with rfl | rfl
  · rw [h1]; exact fun z => nomatch z
  · rw [h2]; exact fun z => nomatch z
theorem DqG.lv {st a : Addr} {k : Nat} {H : Hp} (h : DqG st a k H) (b : Addr) (hb : DqM st a b) : Lv H b := by
  obtain ⟨c, n, h1, h2, h3⟩ := h
  rcases hb with rfl | rfl
  · exact lv_lst h1
  · exact lv_lst h2
def dqFm (K : PySem.W.Frag) (S : Addr → Prop) (H : Hp) (st a : Addr) : Fm where
  K := K
  S := fun b => S b ∨ DqM st a b
  M := DqM st a
  H0 := H
  G := DqG st a
  ms := fun b h => .inr h
  gm := fun k H H' g e _ => g.at e
  gl := fun k H g b hb => g.live b hb
/-- the frame knows the draws -/
structure IsDq (F : Fm) (st a : Addr) : Prop where
  M : F.M = DqM st a
  G : F.G = DqG st a
theorem IsDq.ext {F : Fm} {st a : Addr} (h : IsDq F st a) (D : Addr) : IsDq (F.ext D) st a := ⟨h.M, h.G⟩
theorem isDq_fm {K : PySem.W.Frag} {S : Addr → Prop} {H : Hp} {st a : Addr} : IsDq (dqFm K S H st a) st a := ⟨rfl, rfl⟩
/-- a def that draws: at most `cost` draws; Pre of its data, R what it may hand back -/
def spDrawQ (K : PySem.W.Frag) (cost : Nat) (Pre : List PyData → Prop) (R : Rel) : Sp := fun vs H Q _ => ∃ (S : Addr → Prop) (st a : Addr) (vs' : List V) (ds : List PyData) (k : Nat), vs = .ref st :: vs' ∧ DqG st a (k + cost) H ∧ (∀ b, S b → Lv H b) ∧ (∀ b, DqM st a b → S b) ∧ RepAll K S H vs' ds ∧ Pre ds ∧
  ∀ v d H', (∀ b o, ¬ DqM st a b → H b = some o → H' b = some o) → DqG st a k H' → Rep K S H' v d → R ds d → Q v H'
structure DFnQ (P : Program) (w : World) (K : PySem.W.Frag) (mg : Str → Option Value) (base : Heap) (lvl : Nat) (x : Str) (cost : Nat) (Pre : List PyData → Prop) (R : Rel) : Prop where
  ex : ∃ (fa : Addr) (fd : FuncData) (ps : List Str), FnG P w K mg base lvl fa fd ps (spDrawQ K cost Pre R) ∧ mg x = some (.ref fa) ∧ PySem.W.keepIn K (.ref fa) = true ∧ L2.Binds K fd ps []
section
variable {P : Program} {w : World} {K : PySem.W.Frag} {mg : Str → Option Value} {base : Heap}
def drawFmQ (K : PySem.W.Frag) (S : Addr → Prop) (H : Hp) (st a : Addr) (hS : ∀ b, DqM st a b → S b) : Fm where
  K := K
  S := S
  M := DqM st a
  H0 := H
  G := DqG st a
  ms := hS
  gm := fun k H H' g e _ => g.at e
  gl := fun k H g b hb => g.live b hb
theorem draw_okQ {x qual : Str} {st : Stmt} {f : Addr} {fd : FuncData} {N ps : List Str} {k cost : Nat} {Pre : List PyData → Prop} {R : Rel} (Fn : Fun K x qual st f fd) (Sc : FnScope N ps (defScope st)) (len : ∀ ds, Pre ds → ds.length + 1 = ps.length)
    (body : ∀ (F : Fm) (s a : Addr) (ds : List PyData) (kk : Nat), IsDq F s a → F.K = K → Pre ds → WPB F (bodyCs P w K mg base N (defScope st) k) (defBody st) (.raw (.ref s) :: (ds.map SV.d ++ List.replicate (N.length - (ds.length + 1)) SV.un)) (kk + cost) { nx := fun k' _ => kk ≤ k' ∧ R ds .none, rt := fun k' d => kk ≤ k' ∧ R ds d, bk := fun _ _ => False, ct := fun _ _ => False }) :
    FnG P w K mg base (k + 1) f fd ps (spDrawQ K cost Pre R) := by
  refine FnG.of_body Fn Sc (fun vs H Q E h => ?_) (fun cdv A outer s H vs Q hgd hr h => ?_)
  · obtain ⟨S, st, a, vs', ds, k, rfl, _, _, _, rr, hp, _⟩ := h
    rw [List.length_cons, rr.length, len ds hp]
  · obtain ⟨S, st, a, vs', ds, kk, rfl, g, al, hS, rr, hp, q⟩ := h
    refine ⟨_, pbB (fits_body hgd hr), ?_⟩
    refine body (drawFmQ K S H st a hS) st a ds kk ⟨rfl, rfl⟩ rfl hp (L2.start N (.ref st :: vs')) H _ (env_raw (F := drawFmQ K S H st a hS) rr) ⟨g, fun b o _ e => e, al⟩ ?_ ?_ ?_ ?_
    · exact fun ρ' σ' k' H' _ _ j' e => q _ .none H' (fun b o n h => j'.le b o (fun z => z.elim n id) h) (DqG.weak j'.g e.1) .non e.2
    · exact fun v d' k' H' j' r' e => q v d' H' (fun b o n h => j'.le b o (fun z => z.elim n id) h) (DqG.weak j'.g e.1) r' e.2
    · exact fun _ _ _ _ _ _ _ z => z.elim
    · exact fun _ _ _ _ _ _ _ z => z.elim
end
section
variable {F : Fm} {C : Cs} {ρ : Rho} {k : Nat} {Φ : Nat → PyData → Prop} {es : List Expr} {pos p py : Pos} {x y : Str}
/-- a call of a def that draws, the state by its name -/
theorem we_callQ {s a : Addr} (dk : IsDq F s a) {j cost : Nat} {Pre : List PyData → Prop} {R : Rel} (hF : DFnQ C.P C.w C.K C.mg C.base j x cost Pre R) (hl : j ≤ C.lvl) (hK : F.K = C.K) (i : Nat) (hg : C.sc.names.lookup x = some .globalImplicit) (hN : C.N[i]? = some y) (hv : Vis C.sc y) (hr : ρ[i]? = some (.raw (.ref s)))
    (h : WPA F C es ρ k fun k1 ds => Pre ds ∧ ∃ k2, k1 = k2 + cost ∧ ∀ d, R ds d → Φ k2 d) (hdb : (x == ("__debug__" : Str)) = false := by decide) (hd : (y == ("__debug__" : Str)) = false := by decide) (hcd : (y == ("__classdict__" : Str)) = false := by decide)
    (hss : ∀ env : Env, starEach (.Name y py :: es) env = (false, eval (.Name y py) env) :: starEach es env := by intro _; rfl) (hpl : ∀ env : Env, ((backTo pos (starEach es env)).any fun x => x.fst) = false := by intro _; rfl) :
    WPE F C (.Call (.Name x p) (.Name y py :: es) [] pos) ρ k Φ := by
  obtain ⟨fa, fd, ps, G, hm, kp, hb⟩ := hF.ex
  refine of_pe (fun X fx => pe_callF fx G hl hg hm kp hb (pa_cons (pe_var (i := i) (by rw [fx.N]; exact hN) (by rw [fx.sc]; exact hv) hd hcd) (paA fx) (hss X.env)) hdb hss hpl) fun σ H Q en jj q => ?_
  refine ⟨_, en.raw hr, ?_⟩
  refine h σ H _ en jj fun vs ds k1 H1 l1 j1 r1 ⟨hp, k2, e, hf⟩ => ?_
  subst e
  refine ⟨F.S, s, a, vs, ds, k2, rfl, dk.G ▸ j1.g, j1.al, fun b hb => F.ms b (dk.M ▸ hb), hK ▸ r1, hp, fun v d H' keep g rv hR => ?_⟩
  have le : Le F H1 H' := fun b o n e => keep b o (fun z => n (.inl (by rw [dk.M]; exact z))) e
  refine q v d k2 H' (l1.trans le) ⟨by rw [dk.G]; exact g, fun b o n e => le b o n (j1.le b o n e), fun b hb => ?_⟩ (by show Rep F.K F.S H' v d; rw [hK]; exact rv) (hf d hR)
  by_cases hM : DqM s a b
  · exact g.lv b hM
  · exact (j1.al b hb).keep fun o e => keep b o hM e
end
/-! ### the law whose first statement makes the deck -/
def spDeck (K : PySem.W.Frag) : Sp := fun vs H Q _ => ∃ (sc : Addr) (ns : List Int), vs = [.ref sc] ∧ SqL K H sc (ns.map V.int) ∧ ns.length ≤ 63 ∧
  ∀ H' st a, Same H H' → H st = none → H a = none → DqG st a 900000 H' → Q (.ref st) H'
section
variable {P : Program} {w : World} {K : PySem.W.Frag} {mg : Str → Option Value} {base : Heap}
theorem lawQ_ok {qual : Str} {st : Stmt} {f : Addr} {fd : FuncData} {N : List Str} {k j : Nat} {xs xd xt : Str} {p1 p2 p3 p4 p5 : Pos} {rest : List Stmt} (Fn : Fun K "law" qual st f fd) (Sc : FnScope N [xs] (defScope st)) (hbody : defBody st = .Assign [.Name xt p1] (.Call (.Name xd p2) [.Name xs p3] [] p4) p5 :: rest)
    (gd : ∃ (fa : Addr) (fdd : FuncData), FnG P w K mg base j fa fdd [xs] (spDeck K) ∧ mg xd = some (.ref fa) ∧ PySem.W.keepIn K (.ref fa) = true ∧ L2.Binds K fdd [xs] []) (hj : j ≤ k)
    (h0 : N[0]? = some xs) (h1 : N[1]? = some xt) (vs : Vis (defScope st) xs) (lt : Loc (defScope st) xt) (gl : (defScope st).names.lookup xd = some .globalImplicit)
    (hsw : ∀ env : Env, swapsWith (.Call (.Name xd p2) [.Name xs p3] [] p4) (some (.Name xt p1)) p5.line env = pure false)
    (body : ∀ (F : Fm) (s a : Addr), IsDq F s a → F.K = K → WPB F (bodyCs P w K mg base N (defScope st) k) rest (.un :: .raw (.ref s) :: List.replicate (N.length - 2) SV.un) 900000 { nx := fun _ _ => False, rt := fun _ d => d = .bool true, bk := fun _ _ => False, ct := fun _ _ => False })
    (hdb : (xd == ("__debug__" : Str)) = false := by decide) (hdb2 : (xs == ("__debug__" : Str)) = false := by decide) (hcd : (xs == ("__classdict__" : Str)) = false := by decide) : FnG P w K mg base (k + 1) f fd [xs] (spLaw K) := by
  obtain ⟨fa, fdd, G, hm, kp, hb⟩ := gd
  refine FnG.of_body Fn Sc (fun vs H Q E h => ?_) (fun cdv A outer s H vs Q hgd hr h => ?_)
  · obtain ⟨sc, ns, rfl, _⟩ := h
    rfl
  obtain ⟨sc, ns, rfl, hS, hlen, q⟩ := h
  have fx := fits_body (CX := CX0) (P := P) (w := w) (K := K) (mg := mg) (base := base) (N := N) (outer := outer) (s := s) (H := H) (E := E0) hgd hr
  rw [hbody]
  have hN0 : 2 ≤ N.length := by
    have := (List.getElem?_eq_some_iff.mp h1).1
    omega
  refine ⟨_, pss_cons (ps_set (i := 1) Sc.nd h1 lt (FnG.pe G hgd (hr.mono hj) hb gl hm kp (pa_cons (pe_var (i := 0) h0 vs hdb2 hcd) pa_nil) hdb rfl rfl) (hsw _) (.inl rfl)) (pbB fx), ?_⟩
  have est : L2.start N [.ref sc] = some (.ref sc) :: none :: List.replicate (N.length - 2) none := by
    unfold L2.start
    show some (V.ref sc) :: List.replicate (N.length - 1) none = _
    rw [show N.length - 1 = (N.length - 2) + 1 by omega]; rfl
  rw [est]
  refine ⟨.ref sc, rfl, sc, ns, rfl, hS, hlen, fun H' st a sm hst ha g => ?_⟩
  refine body (drawFmQ K (DqM st a) H' st a (fun b hb => hb)) st a ⟨rfl, rfl⟩ rfl (some (.ref sc) :: some (.ref st) :: List.replicate (N.length - 2) none) H' _ (fun i sv e => ?_) ⟨g, fun b o _ e => e, fun b hb => g.lv b hb⟩ ?_ ?_ ?_ ?_
  · match i, e with
    | 0, e => cases e; exact ⟨_, rfl, trivial⟩
    | 1, e => cases e; exact ⟨_, rfl, rfl⟩
    | i + 2, e =>
      have e' : (List.replicate (N.length - 2) SV.un)[i]? = some sv := e
      rw [List.getElem?_replicate] at e'
      by_cases hi : i < N.length - 2
      · rw [if_pos hi] at e'
        cases e'
        exact ⟨none, by show (List.replicate (N.length - 2) none)[i]? = _; rw [List.getElem?_replicate, if_pos hi], trivial⟩
      · rw [if_neg hi] at e'; cases e'
  · exact fun _ _ _ _ _ _ _ z => z.elim
  · exact fun v d k' H2 _ rv e => by subst e; cases rv; exact q H2
  · exact fun _ _ _ _ _ _ _ z => z.elim
  · exact fun _ _ _ _ _ _ _ z => z.elim
end
end Dl

namespace Dl
open PySem PySem.Spec PyProof.Rows L2
section
variable {F : Fm} {C : Cs} {ρ : Rho} {k : Nat} {P : DE} {Φ : Nat → PyData → Prop} {Ψ : Nat → Bool → Prop} {pos p p1 p2 p3 p4 p5 : Pos} {e a b c : Expr}
/-- a, b, c = a tuple -/
theorem ws_asg3s (i1 i2 i3 : Nat) {x1 x2 x3 : Str} {kk : Nat} (t1 : Tgt C i1 x1) (t2 : Tgt C i2 x2) (t3 : Tgt C i3 x3) (hK : F.K = C.K)
    (hs : ∀ env : Env, env.scope = C.sc → swapsWithSole [.Tuple [.Name x1 p1, .Name x2 p2, .Name x3 p3] kk p4] e pos.line env = pure false) (hw : ∀ env : Env, env.scope = C.sc → swappedStores [.Tuple [.Name x1 p1, .Name x2 p2, .Name x3 p3] kk p4] e env = pure none)
    (h : WPE F C e ρ k fun k1 d => ∃ d1 d2 d3, d = .tuple [d1, d2, d3] ∧ P.nx k1 (((ρ.set i1 (.d d1)).set i2 (.d d2)).set i3 (.d d3))) : WPS F C (.Assign [.Tuple [.Name x1 p1, .Name x2 p2, .Name x3 p3] kk p4] e pos) ρ k P :=
  of_ps (fun X fx => ps_asg (peE fx) (pgTup (n := 3) fx (pgs_cons (t1.pg fx) (pgs_cons (t2.pg fx) (pgs_cons (t3.pg fx) pgs_nil))) (by rfl) (by rfl)) (hs X.env fx.sc) (hw X.env fx.sc)) fun σ H E en j q1 _ _ _ =>
    h σ H _ en j fun v d k1 H1 l1 j1 r ⟨d1, d2, d3, e, q⟩ => by
      subst e
      cases r with
      | tup ha hr =>
        cases hr with
        | cons r1 hr =>
          cases hr with
          | cons r2 hr =>
            cases hr with
            | cons r3 hr =>
              cases hr
              exact ⟨_, _, rfl, hK ▸ sqt_of ha, rfl, _, _, rfl, _, _, rfl, _, _, rfl, rfl, q1 _ _ k1 H1 l1.lz ((((en.le l1).set (sv := .d d1) ⟨_, rfl, r1⟩).set (sv := .d d2) ⟨_, rfl, r2⟩).set (sv := .d d3) ⟨_, rfl, r3⟩) j1 q⟩
/-- a, b, c = x, y, z -/
theorem ws_par3 (i1 i2 i3 : Nat) {x1 x2 x3 : Str} {kk k2 : Nat} (h12 : i1 ≠ i2) (h13 : i1 ≠ i3) (h23 : i2 ≠ i3) (t1 : Tgt C i1 x1) (t2 : Tgt C i2 x2) (t3 : Tgt C i3 x3) (l1 : C.sc.names.lookup x1 = some .local) (l2 : C.sc.names.lookup x2 = some .local) (l3 : C.sc.names.lookup x3 = some .local)
    (hs : ∀ env : Env, swapsWithSole [.Tuple [.Name x1 p1, .Name x2 p2, .Name x3 p3] kk p4] (.Tuple [a, b, c] k2 p5) pos.line env = pure false) (hw : ∀ env : Env, env.scope = C.sc → swappedStores [.Tuple [.Name x1 p1, .Name x2 p2, .Name x3 p3] kk p4] (.Tuple [a, b, c] k2 p5) env = pure (some [x1, x2, x3]))
    (h : WPA F C [a, b, c] ρ k fun k1 ds => ∃ d1 d2 d3, ds = [d1, d2, d3] ∧ P.nx k1 (((ρ.set i1 (.d d1)).set i2 (.d d2)).set i3 (.d d3))) : WPS F C (.Assign [.Tuple [.Name x1 p1, .Name x2 p2, .Name x3 p3] kk p4] (.Tuple [a, b, c] k2 p5) pos) ρ k P :=
  of_ps (fun X fx => ps_par3 fx.calm (by rw [fx.N]; exact t1.hN) (by rw [fx.N]; exact t1.hi) (by rw [fx.N]; exact t2.hi) (by rw [fx.N]; exact t3.hi) h12 h13 h23 (by rw [fx.sc]; exact l1) (by rw [fx.sc]; exact l2) (by rw [fx.sc]; exact l3) (paA fx) (hw X.env fx.sc) (hs X.env)) fun σ H E en j q1 _ _ _ =>
    h σ H _ en j fun vs ds k1 H1 l1 j1 r ⟨d1, d2, d3, e, q⟩ => by
      subst e
      cases r with
      | cons r1 hr =>
        cases hr with
        | cons r2 hr =>
          cases hr with
          | cons r3 hr =>
            cases hr
            exact ⟨_, _, _, rfl, q1 _ _ k1 H1 l1.lz ((((en.le l1).set (sv := .d d1) ⟨_, rfl, r1⟩).set (sv := .d d2) ⟨_, rfl, r2⟩).set (sv := .d d3) ⟨_, rfl, r3⟩) j1 q⟩
/-- xs + ys, tuples -/
theorem catTK {X : Cx} (fx : Fits C X) : OpR X (binaryOp .Add) (rCatA C.K) := by rw [← fx.K]; exact op_catA
theorem we_catT (hK : F.K = C.K) (h : WPE F C a ρ k fun k1 x => WPE F C b ρ k1 fun k2 y => ∃ ds es, x = .tuple ds ∧ y = .tuple es ∧ ds.length + es.length ≤ 1000000 ∧ Φ k2 (.tuple (ds ++ es))) : WPE F C (.BinOp a .Add b pos) ρ k Φ :=
  we_bin (fun X fx => catTK fx) (h.imp fun k1 x h1 => h1.imp fun k2 y ⟨ds, es, e1, e2, hz, q⟩ => by
    subst e1 e2
    intro H vx vy Q j rx ry qq
    have rx0 := rx
    have ry0 := ry
    cases rx with
    | @tup pa xs _ ha hr =>
    cases ry with
    | @tup pb ys _ hb hs =>
    refine ⟨pa, pb, xs, ys, rfl, rfl, hK ▸ sqt_of ha, hK ▸ sqt_of hb, by rw [hr.length, hs.length]; exact Nat.le_trans hz (by decide), fun e => ?_, fun _ e => ?_, fun _ _ l hl => ?_⟩
    · subst e
      have : ds = [] := List.eq_nil_of_length_eq_zero (by rw [← hr.length]; rfl)
      subst this
      exact qq _ _ k2 H .refl j ry0 q
    · subst e
      have : es = [] := List.eq_nil_of_length_eq_zero (by rw [← hs.length]; rfl)
      subst this
      rw [List.append_nil] at q
      exact qq _ _ k2 H .refl j rx0 q
    · exact qq _ _ k2 _ (.new hl) (j.new hl) (rep_newT j hl (hr.append hs)) q)
/-- xs[:m], a tuple -/
theorem slTK {X : Cx} (fx : Fits C X) : SlR X (rSlA C.K) := by rw [← fx.K]; exact sl_tupA
theorem we_sliceT (hK : F.K = C.K) (h : WPE F C a ρ k fun k1 x => WPE F C e ρ k1 fun k2 y => ∃ ds, ∃ m : Nat, x = .tuple ds ∧ y = .int (m : Int) ∧ Φ k2 (.tuple (ds.take m))) : WPE F C (.Subscript a (.Slice none (some e) none p2) pos) ρ k Φ :=
  of_pe (fun X fx => pe_slice (slTK fx) (peE fx) po_none (po_some (peE fx))) fun σ H Q en j q => by
    show tE C a σ H _
    refine h σ H _ en j fun v d k1 H1 l1 j1 r hx => ?_
    show tE C e σ H1 _
    refine hx σ H1 _ (en.le l1) j1 fun vy y k2 H2 l2 j2 r2 ⟨ds, m, e1, e2, p⟩ => ?_
    subst e1 e2
    have r' := r.le l2.lz
    have r0 := r'
    cases r' with
    | @tup a xs _ ha hr =>
    cases r2
    have ec : cutV xs none (some (m : Int)) = xs.take m := by
      unfold cutV
      rw [HT.sIx_nat, HT.sIx_none, List.drop_zero, Nat.sub_zero, List.take_eq_take_iff]
      omega
    refine ⟨(m : Int), rfl, a, xs, rfl, hK ▸ sqt_of ha, fun hf => ?_, fun _ l hl => ?_⟩
    · have hm : xs.length ≤ m := by
        have := hf.2
        rw [HT.sIx_nat] at this
        omega
      rw [List.take_of_length_le (by rw [← hr.length]; exact hm)] at p
      exact q _ _ k2 _ (l1.trans l2) j2 r0 p
    · rw [ec]
      exact q _ _ k2 _ ((l1.trans l2).trans (.new hl)) (j2.new hl) (rep_newT j2 hl (hr.take m)) p
end
/-! ### sorted(set(a tuple)) -/
def rSetT (K : PySem.W.Frag) (w : World) : List V → Hp → VK → Prop := fun vs H Q => ∃ (a : Addr) (ns : List Int), vs = [.ref a] ∧ SqT K H a (ns.map V.int) ∧ ns.length ≤ 1000 ∧
  ∀ p c, H p = none → c ≤ ns.length → Q (.ref p) (upd H p (SetO w p (fun j => decide (j ∈ ns)) c))
theorem cr_setT {X : Cx} (hc : X.calm = true) : CallR X (.type "set") (rSetT X.K X.w) := by
  intro pins s σ H vs us Q I r h
  obtain ⟨a, ns, rfl, hS, hz, q⟩ := h
  rw [Vals.ref1 r]
  obtain ⟨its, rv, pl, _⟩ := I.tuple hS
  refine call_set_tupI ns (I.ok.hd hc) (show s.heap.IsTuple a its.toArray from pl) (by simpa using rv.ints) (Nat.lt_of_le_of_lt (Nat.succ_le_succ hz) (by decide)) fun h' tk c R hcn hk => ?_
  exact ⟨.ref _, _, I.laid (t' := tk) hk (Nat.le_refl _) (setO_new R), rfl, q _ c (I.hok.fresh (Nat.le_refl _)) hcn⟩
section
variable {F : Fm} {C : Cs} {ρ : Rho} {k : Nat} {Φ : Nat → PyData → Prop} {pos p1 p2 p3 : Pos} {e : Expr}
theorem we_sortSetT (hK : F.K = C.K) (hg : C.sc.names.lookup ("sorted" : Str) = some .globalImplicit) (hm : C.mg ("sorted" : Str) = none) (hg2 : C.sc.names.lookup ("set" : Str) = some .globalImplicit) (hm2 : C.mg ("set" : Str) = none)
    (hs : ∀ env : Env, starEach [e] env = (false, eval e env) :: starEach [] env) (hs2 : ∀ env : Env, starEach [.Call (.Name "set" p2) [e] [] p3] env = (false, eval (.Call (.Name "set" p2) [e] [] p3) env) :: starEach [] env)
    (h : WPE F C e ρ k fun k1 x => ∃ ns : List Int, x = .tuple (ns.map PyData.int) ∧ ns.length ≤ 1000 ∧ ∀ ms : List Int, ms.Pairwise (· < ·) → (∀ i, i ∈ ms ↔ i ∈ ns) → Φ k1 (.list (ms.map PyData.int))) : WPE F C (.Call (.Name "sorted" p1) [.Call (.Name "set" p2) [e] [] p3] [] pos) ρ k Φ :=
  of_pe (t := tCB (rSortSetA C.w) (tCons (tCB (rSetT C.K C.w) (tCons (tE C e) tNil)) tNil)) (fun X fx => pe_callB (by rw [← fx.w]; exact cr_sortSetA fx.calm) (by show X.env.scope.names.lookup ("sorted" : Str) = _; rw [fx.sc]; exact hg) (by rw [fx.mg]; exact hm) (by decide +kernel)
      (pa_cons (pe_callTy (by rw [← fx.w, ← fx.K]; exact cr_setT fx.calm) (by show X.env.scope.names.lookup ("set" : Str) = _; rw [fx.sc]; exact hg2) (by rw [fx.mg]; exact hm2) (by decide +kernel) (pa_cons (peE fx) pa_nil (hs X.env)) (by decide) (by decide) (hs X.env) rfl) pa_nil (hs2 X.env)) (by decide) (by decide) (hs2 X.env) rfl) fun σ H Q en j q => by
    show tE C e σ H _
    refine h σ H _ en j fun v d k1 H1 l1 j1 r ⟨ns, ed, hz, p⟩ => ?_
    subst ed
    cases r with
    | @tup a xs _ ha hr =>
    refine ⟨a, ns, rfl, hr.ints ▸ hK ▸ sqt_of ha, hz, fun l c hl hc => ?_⟩
    refine ⟨l, _, c, rfl, upd_same, fun ms l2 hpw hmem _ hl2 => ?_⟩
    have j2 := j1.new (o := SetO C.w l (fun j => decide (j ∈ ns)) c) hl
    refine q _ _ k1 _ ((l1.trans (.new hl)).trans (.new hl2)) (j2.new hl2) (rep_newL j2 hl2 (RepAll.of_ints ms)) (p ms hpw fun i => ?_)
    rw [hmem i, decide_eq_true_eq]
end
end Dl

namespace Dl
open PySem PySem.Spec PyProof.Rows L2
section
variable {F : Fm} {C : Cs} {ρ : Rho} {k : Nat} {P : DE} {Φ : Nat → PyData → Prop} {Ψ : Nat → Bool → Prop} {pos p1 p2 : Pos} {a b c : Expr}
/-- a <= b <= c, ints -/
theorem wt_leLe (hm : lastMarks [.LtE, .LtE] [b, c] = false) (h : WPE F C a ρ k fun k1 x => WPE F C b ρ k1 fun k2 y => ∃ i j, x = .int i ∧ y = .int j ∧ if i ≤ j then WPE F C c ρ k2 fun k3 z => ∃ l, z = .int l ∧ Ψ k3 (decide (j ≤ l)) else Ψ k2 false) : WPT F C (.Compare a [.LtE, .LtE] [b, c] pos) ρ k Ψ :=
  of_pt (fun X fx => pt_chain op_le op_le (peE fx) (peE fx) (peE fx) hm) fun σ H Q en j q => by
    refine h σ H _ en j fun vx x k1 H1 l1 j1 r1 hx => hx σ H1 _ (en.le l1) j1 fun vy y k2 H2 l2 j2 r2 ⟨i, jj, e1, e2, hh⟩ => ?_
    subst e1 e2
    cases r1
    cases r2
    refine ⟨i, jj, rfl, rfl, decide (i ≤ jj), rfl, ?_⟩
    by_cases hle : i ≤ jj
    · rw [if_pos hle] at hh
      rw [if_pos (decide_eq_true hle)]
      refine hh σ H2 _ ((en.le l1).le l2) j2 fun vz z k3 H3 l3 j3 r3 ⟨l, e3, p⟩ => ?_
      subst e3
      cases r3
      exact ⟨jj, l, rfl, rfl, _, rfl, q _ k3 H3 ((l1.trans l2).trans l3) j3 p⟩
    · rw [if_neg hle] at hh
      rw [if_neg (by rw [decide_eq_true_eq]; exact hle)]
      exact ⟨false, rfl, q _ k2 H2 (l1.trans l2) j2 hh⟩
theorem wt_leLt (hm : lastMarks [.LtE, .Lt] [b, c] = false) (h : WPE F C a ρ k fun k1 x => WPE F C b ρ k1 fun k2 y => ∃ i j, x = .int i ∧ y = .int j ∧ if i ≤ j then WPE F C c ρ k2 fun k3 z => ∃ l, z = .int l ∧ Ψ k3 (decide (j < l)) else Ψ k2 false) : WPT F C (.Compare a [.LtE, .Lt] [b, c] pos) ρ k Ψ :=
  of_pt (fun X fx => pt_chain op_le op_lt (peE fx) (peE fx) (peE fx) hm) fun σ H Q en j q => by
    refine h σ H _ en j fun vx x k1 H1 l1 j1 r1 hx => hx σ H1 _ (en.le l1) j1 fun vy y k2 H2 l2 j2 r2 ⟨i, jj, e1, e2, hh⟩ => ?_
    subst e1 e2
    cases r1
    cases r2
    refine ⟨i, jj, rfl, rfl, decide (i ≤ jj), rfl, ?_⟩
    by_cases hle : i ≤ jj
    · rw [if_pos hle] at hh
      rw [if_pos (decide_eq_true hle)]
      refine hh σ H2 _ ((en.le l1).le l2) j2 fun vz z k3 H3 l3 j3 r3 ⟨l, e3, p⟩ => ?_
      subst e3
      cases r3
      exact ⟨jj, l, rfl, rfl, _, rfl, q _ k3 H3 ((l1.trans l2).trans l3) j3 p⟩
    · rw [if_neg hle] at hh
      rw [if_neg (by rw [decide_eq_true_eq]; exact hle)]
      exact ⟨false, rfl, q _ k2 H2 (l1.trans l2) j2 hh⟩
/-- the same as a value -/
theorem we_leLt (hm : lastMarks [.LtE, .Lt] [b, c] = false) (h : WPE F C a ρ k fun k1 x => WPE F C b ρ k1 fun k2 y => ∃ i j, x = .int i ∧ y = .int j ∧ if i ≤ j then WPE F C c ρ k2 fun k3 z => ∃ l, z = .int l ∧ Φ k3 (.bool (decide (j < l))) else Φ k2 (.bool false)) : WPE F C (.Compare a [.LtE, .Lt] [b, c] pos) ρ k Φ :=
  of_pe (fun X fx => pe_chain op_le op_lt (peE fx) (peE fx) (peE fx) hm) fun σ H Q en j q => by
    refine h σ H _ en j fun vx x k1 H1 l1 j1 r1 hx => hx σ H1 _ (en.le l1) j1 fun vy y k2 H2 l2 j2 r2 ⟨i, jj, e1, e2, hh⟩ => ?_
    subst e1 e2
    cases r1
    cases r2
    refine ⟨i, jj, rfl, rfl, decide (i ≤ jj), rfl, ?_⟩
    by_cases hle : i ≤ jj
    · rw [if_pos hle] at hh
      rw [if_pos (decide_eq_true hle)]
      refine hh σ H2 _ ((en.le l1).le l2) j2 fun vz z k3 H3 l3 j3 r3 ⟨l, e3, p⟩ => ?_
      subst e3
      cases r3
      exact ⟨jj, l, rfl, rfl, q _ _ k3 H3 ((l1.trans l2).trans l3) j3 (.bl _) p⟩
    · rw [if_neg hle] at hh
      rw [if_neg (by rw [decide_eq_true_eq]; exact hle)]
      exact q _ _ k2 H2 (l1.trans l2) j2 (.bl _) hh
end

/-! ### sorted(a tuple of ints) -/
section
variable {P : Program} {w : World} {A : Around} {E : Value → Shared → Prop} {s : Shared} {a : Addr}
theorem collectT {Q : List Value → Shared → Prop} {ob : Obj} {vals : Array Value} {n : Nat} (at0 : s.heap.get? a = some ob) (cl : ob.cls = .type "tuple") (da : ob.data = .seq vals n) (lim : vals.size ≤ sizeLine)
    (hQ : ∀ h1, (∀ b u, s.heap.get? b = some u → h1.get? b = some u) → s.heap.objs.size ≤ h1.objs.size → Q vals.toList { s with heap := h1 }) : wpAny (model P w) A (collect (.ref a)) Q E s := by
  unfold collect
  refine wpAny_bind (wpAny_runValue (codeAny_builtin F.entry_proto_collect ?_))
  rw [Around.under_plainId F.plain_proto_collect _]
  show wpAny _ A.in1 (do let l ← newList []; again (.builtin "list.__iadd__" ⟨[l, .ref a], []⟩)) _ _ s
  refine wpAny_bind (wpAny_newObj_type (wpAny_pure ⟨plainId_quiet F.plain_list_iadd _, codeAny_builtin F.entry_list_iadd ?_⟩))
  rw [Around.under_plainId F.plain_list_iadd _]
  have new0 : (s.heap.push { cls := .type "list", data := .seq ([] : List Value).toArray }).get? s.heap.objs.size = some { cls := .type "list", data := .seq #[] 0 } := Heap.get?_push_size _ rfl
  have new1 := Heap.get?_update_self (Obj.mapSeq (· ++ vals)) new0 rfl
  have done1 : wpAny (model P w) A (match Value.ref s.heap.objs.size with | Value.ref l => do { match (← load l).data with | Data.seq xs _ => pure xs.toList | _ => unsupported "internal:collect" } | _ => unsupported "internal:collect") Q E
      { s with heap := (s.heap.push { cls := .type "list", data := .seq ([] : List Value).toArray }).update s.heap.objs.size (Obj.mapSeq (· ++ vals)) } := by
    refine wpAny_bind (wpAny_load new1 (wpAny_pure ?_))
    have e : ((#[] : Array Value) ++ vals).toList = vals.toList := by simp
    show Q (#[] ++ vals : Array Value).toList _
    rw [e]
    refine hQ _ (fun b u hb => ?_) (by rw [Heap.size_update, Heap.size_push]; exact Nat.le_succ _)
    exact (Heap.get?_update_other _ _ (Nat.ne_of_gt (Heap.lt_size hb))).trans (Heap.get?_push_of_some _ hb)
  refine wpAny_mono (wpAny_extend_seq (hsz := lim) (A := A) (R := fun r t => r = .ok (.ret (.ref s.heap.objs.size)) ∧ t = { s with heap := (s.heap.push { cls := .type "list", data := .seq ([] : List Value).toArray }).update s.heap.objs.size (Obj.mapSeq (· ++ vals)) })
    (s := { s with heap := s.heap.push { cls := .type "list", data := .seq ([] : List Value).toArray } }) _ a _ 0 (.inr rfl) new0 (Heap.get?_push_of_some _ at0) cl da ⟨rfl, rfl⟩) (fun fin t h => ?_) (fun e t h => absurd h.1 (by simp))
  cases fin with
  | done fl => obtain ⟨e, rfl⟩ := h; cases e; exact done1
  | again c => exact ⟨h.1, codeAny_mono h.2 fun r t2 hr => by rw [hr.1, hr.2]; exact done1⟩
theorem sortedTupAll {its : Array Value} {ns : List Int} {Q : Value → Shared → Prop} (tp : s.heap.IsTuple a its) (hi : IntsAre its.toList ns) (hz : its.size ≤ 4000)
    (hQ : ∀ (t : Shared) (p : Addr) (res : List Value) (c : Nat) (ms : List Int), (∀ b o, s.heap.get? b = some o → t.heap.get? b = some o) → t.gens = s.gens → t.os = s.os → s.heap.objs.size ≤ p →
      t.heap.get? p = some (seqObj "list" res.toArray c) → IntsAre res ms → ms.Perm ns → ms.Pairwise (· ≤ ·) → Q (.ref p) t) :
    wpAny (model P w) A (call (.builtin "sorted") [.ref a]) Q E s := by
  obtain ⟨o, ho, hc, n, hd⟩ := tp
  refine Calls.call_function_entry PyProof.Rows.kind_sorted PyProof.Rows.plain_sorted PyProof.Rows.entry_sorted (PyProof.Rows.args_sorted1 _) ?_
  unfold Builtin.«sorted»
  have lim : its.toList.length ≤ sizeLine := by rw [Array.length_toList, sizeLine_eq]; omega
  refine wpAny_bind (m := checkCount "sorted" 1 1 _) (wpAny_pure (wpAny_bind (collectT (A := A.in1) ho hc hd (by rw [sizeLine_eq]; omega) fun h1 kp szs => ?_)))
  refine wpAny_bind (wpAny_newList ?_ lim)
  have here : (h1.push (seqObj "list" its.toList.toArray 0)).get? h1.objs.size = some (seqObj "list" its.toList.toArray 0) := Heap.get?_push_size _ rfl
  refine wpAny_bind (wpAny_holding (wpAny_call_entry PyProof.Rows.slot_list_sort ⟨_, here, rfl⟩ PyProof.Rows.entry_list_sort (SrtO.list_sort_ord SrtO.swo_int here lim (fun h2 => SrtO.ints_sortable hi h2) fun res r1 r2 => ⟨_, rfl, ?_⟩) (PyProof.Rows.args_list_sort _)))
  obtain ⟨z1, z2, z3⟩ := SrtO.ints_out hi r1 r2
  obtain ⟨c, hcc⟩ := PyProof.Rows.sortedHeap_at (vs := its.toList) (out := res.toArray) here
  refine wpAny_pure ⟨_, rfl, hQ _ h1.objs.size res c (res.map SrtO.iv) (fun b u e => ?_) rfl rfl szs hcc z1 z2 z3⟩
  have old := kp b u e
  have blt := Heap.lt_size old
  show (sortedHeap (h1.push (seqObj "list" its.toList.toArray 0)) h1.objs.size its.toList res.toArray).get? b = _
  rw [PyProof.Rows.sortedHeap_old (Nat.ne_of_lt blt) (by rw [Heap.size_push]; exact Nat.lt_succ_of_lt blt)]
  exact Heap.get?_push_of_some _ old
end
def rSortTI (K : PySem.W.Frag) : List V → Hp → VK → Prop := fun vs H Q => ∃ (a : Addr) (ns : List Int), vs = [V.ref a] ∧ SqT K H a (ns.map V.int) ∧ ns.length ≤ 4000 ∧
  ∀ (ms : List Int) (p : Addr), ms.Perm ns → ms.Pairwise (· ≤ ·) → H p = none → Q (.ref p) (upd H p (.lst (ms.map V.int)))
theorem cr_sortTI {X : Cx} : CallR X (.builtin "sorted") (rSortTI X.K) := by
  intro pins s σ H vs us Q I r h
  obtain ⟨a, ns, rfl, hS, hz, q⟩ := h
  rw [Vals.ref1 r]
  obtain ⟨its, rv, pl, _⟩ := I.tuple hS
  have hlen : its.length = ns.length := by rw [← rv.length, List.length_map]
  refine sortedTupAll (show s.heap.IsTuple a its.toArray from pl) (by simpa using rv.ints) (by rw [List.size_toArray, hlen]; exact hz) fun t p res c ms kp gs os sz at1 hii perm asc => ?_
  have fits : (ms.map V.int).length ≤ sizeLine := by rw [List.length_map, perm.length_eq, sizeLine_eq]; omega
  have fresh : H p = none := I.hok.fresh sz
  have J1 : Inv X pins σ (upd H p (.lst (ms.map V.int))) { s with heap := t.heap, gens := t.gens, drawn := t.drawn, toks := t.toks } :=
    I.call (ch := []) (Un.laid kp sz fresh) (I.hok.laid kp sz ⟨fits, res, c, vals_of_ints hii, at1⟩) (by rw [gs]; exact I.bare) (fun _ z => nomatch z)
  have same : t = { s with heap := t.heap, gens := t.gens, drawn := t.drawn, toks := t.toks } := by
    cases t; cases s; cases os; rfl
  rw [same]
  exact ⟨.ref p, _, J1, rfl, q ms p perm asc fresh⟩
section
variable {F : Fm} {C : Cs} {ρ : Rho} {k : Nat} {Φ : Nat → PyData → Prop} {pos p : Pos} {e : Expr}
theorem srtTK {X : Cx} (fx : Fits C X) : CallR X (.builtin "sorted") (rSortTI C.K) := by rw [← fx.K]; exact cr_sortTI
theorem we_sortedT (hK : F.K = C.K) (hg : C.sc.names.lookup ("sorted" : Str) = some .globalImplicit) (hm : C.mg ("sorted" : Str) = none) (hs : ∀ env : Env, starEach [e] env = (false, eval e env) :: starEach [] env) (h : WPE F C e ρ k fun k1 x => ∃ ns : List Int, x = .tuple (ns.map PyData.int) ∧ ns.length ≤ 4000 ∧ ∀ ms : List Int, ms.Perm ns → ms.Pairwise (· ≤ ·) → Φ k1 (.list (ms.map PyData.int))) : WPE F C (.Call (.Name "sorted" p) [e] [] pos) ρ k Φ :=
  we_callB (id := "sorted") (fun X fx => srtTK fx) hg hm (by decide +kernel) (wa_one hs (h.imp fun k1 x ⟨ns, e, hz, p⟩ => fun H vs Q j r q => by
    subst e
    cases r with
    | cons r1 r2 =>
    cases r2
    cases r1 with
    | @tup a xs _ ha hr => exact ⟨a, ns, rfl, hr.ints ▸ hK ▸ sqt_of ha, hz, fun ms l hp hw hl => q _ _ k1 _ (.new hl) (j.new hl) (rep_newL j hl (RepAll.of_ints ms)) (p ms hp hw)⟩)) (by decide) (by decide) hs
end

section
variable {F : Fm} {C : Cs} {ρ : Rho} {k : Nat} {Ψ : Nat → Bool → Prop} {pos : Pos} {a b : Expr}
/-- a and b, a or b, as tests of known value -/
theorem wt_and2 {p q : Bool} (ha : WPT F C a ρ k fun k1 z => k1 = k ∧ z = p) (hb : p = true → WPT F C b ρ k fun k1 z => k1 = k ∧ z = q) (h : Ψ k (p && q)) : WPT F C (.BoolOp .And [a, b] pos) ρ k Ψ :=
  wt_bool (ww_and (ha.imp fun k1 z ⟨e1, e2⟩ => by
    subst e1 e2
    cases z with
    | false => exact h
    | true => rw [if_pos rfl]; exact ww_and1 ((hb rfl).imp fun k2 z ⟨e3, e4⟩ => by subst e3 e4; exact h)))
theorem wt_or2 {p q : Bool} (ha : WPT F C a ρ k fun k1 z => k1 = k ∧ z = p) (hb : p = false → WPT F C b ρ k fun k1 z => k1 = k ∧ z = q) (h : Ψ k (p || q)) : WPT F C (.BoolOp .Or [a, b] pos) ρ k Ψ :=
  wt_bool (ww_or (ha.imp fun k1 z ⟨e1, e2⟩ => by
    subst e1 e2
    cases z with
    | true => exact h
    | false => rw [if_neg (by decide)]; exact ww_or1 ((hb rfl).imp fun k2 z ⟨e3, e4⟩ => by subst e3 e4; exact h)))
end
end Dl

set_option maxHeartbeats 2000000
namespace Dl
open PySem PySem.Spec PyProof.Rows L2
/-! ### zip of two sequences, each a list (true) or a tuple (false) -/
def Wk (b : Bool) (h : Heap) (it l : Addr) (i : Nat) : Prop := match b with | true => h.IsListIter it l i | false => h.IsTupleIter it l i
def Sk (b : Bool) (h : Heap) (l : Addr) (xs : Array Value) : Prop := match b with | true => h.IsList l xs | false => h.IsTuple l xs
section
variable {b : Bool} {h h' : Heap} {it l c : Addr} {i : Nat} {xs : Array Value}
theorem Wk.far (x : Wk b h it l i) (e : Heap.ExtBut c h h') (ne : it ≠ c) : Wk b h' it l i := by
  cases b with
  | true => exact Heap.IsListIter.extBut x e ne
  | false => exact Heap.IsTupleIter.extBut x e ne
theorem Wk.keep (x : Wk b h it l i) (e : ∀ o, h.get? it = some o → h'.get? it = some o) : Wk b h' it l i := by
  cases b with
  | true => exact Heap.IsListIter.at x e
  | false => exact Heap.IsTupleIter.at x e
theorem Sk.far (x : Sk b h l xs) (e : Heap.ExtBut c h h') (ne : l ≠ c) : Sk b h' l xs := by
  cases b with
  | true => exact Heap.IsList.extBut x e ne
  | false => exact Heap.IsTuple.extBut x e ne
theorem Sk.push (x : Sk b h l xs) (o : Obj) : Sk b (h.push o) l xs := by
  cases b with
  | true => exact Heap.IsList.push x o
  | false => exact Heap.IsTuple.push x o
theorem Sk.lt (x : Sk b h l xs) : l < h.objs.size := by
  cases b with
  | true => obtain ⟨o, e, _⟩ := x; exact Heap.lt_size e
  | false => obtain ⟨o, e, _⟩ := x; exact Heap.lt_size e
theorem Wk.obj (x : Wk b h it l i) : ∃ o, h.get? it = some o ∧ ∀ v, o.data ≠ Data.cell v := by
  cases b with
  | true => obtain ⟨o, e, _, d⟩ := x; exact ⟨o, e, fun v q => by rw [d] at q; cases q⟩
  | false => obtain ⟨o, e, _, d⟩ := x; exact ⟨o, e, fun v q => by rw [d] at q; cases q⟩
end
section
variable {prog : Program} {w : World} {A : Around} {E : Value → Shared → Prop} {s : Shared} {b b1 b2 : Bool}
theorem step_item {it l : Addr} {i : Nat} {xs : Array Value} {x : Value} {Q : Value → Shared → Prop} (wk : Wk b s.heap it l i) (sk : Sk b s.heap l xs) (hx : xs[i]? = some x)
    (q : ∀ h', Wk b h' it l (i + 1) → Heap.SameBut it s.heap h' → Q x { s with heap := h' }) : wpAny (model prog w) A (Builtin.SmallTypes.nextOf (.ref it)) Q E s := by
  cases b with
  | true => exact wpAny_nextOf_list_item wk sk hx q
  | false => exact RZ.nextOf_tuple_item wk sk hx q
theorem step_end {it l : Addr} {i : Nat} {xs : Array Value} {Q : Value → Shared → Prop} (calm : A.handled = none) (wk : Wk b s.heap it l i) (sk : Sk b s.heap l xs) (hx : xs[i]? = none)
    (q : ∀ h' e, Heap.ExtBut it s.heap h' → (∃ o, h'.get? e = some o ∧ o.cls = .type "StopIteration") → E (.ref e) { s with heap := h' }) : wpAny (model prog w) A (Builtin.SmallTypes.nextOf (.ref it)) Q E s := by
  cases b with
  | true => exact wpAny_nextOf_list_end calm wk sk hx q
  | false => exact RZ.nextOf_tuple_end calm wk sk hx q
theorem zk_item {z ti to i1 i2 l1 l2 : Addr} {k1 k2 : Nat} {xs ys : Array Value} {x y u v : Value} {Q : Value → Shared → Prop} (D : ZipApart z ti to i1 i2 l1 l2)
    (pz : IsZip s.heap z ti to .none) (pi : IsPair s.heap ti (.ref i1) (.ref i2)) (po : IsPair s.heap to u v) (w1 : Wk b1 s.heap i1 l1 k1) (w2 : Wk b2 s.heap i2 l2 k2) (s1 : Sk b1 s.heap l1 xs) (s2 : Sk b2 s.heap l2 ys) (hx : xs[k1]? = some x) (hy : ys[k2]? = some y)
    (q : ∀ h', IsZip h' z ti to (rawInt s.heap.objs.size) → IsPair h' to x y → Wk b1 h' i1 l1 (k1 + 1) → Wk b2 h' i2 l2 (k2 + 1) → IsPair h' s.heap.objs.size x y → h'.objs.size = s.heap.objs.size + 1 →
      (∀ c o, c ≠ z → c ≠ to → c ≠ i1 → c ≠ i2 → s.heap.get? c = some o → h'.get? c = some o) → Q (.ref s.heap.objs.size) { s with heap := h' }) :
    wpAny (model prog w) A (Builtin.«zip.__next__» ⟨[.ref z], []⟩) (fun fin t => ∃ r, fin = .done (.ret r) ∧ Q r t) E s := by
  show wpAny _ _ (field (.ref z) 2 >>= _) _ _ _; refine wpAny_bind (wpAny_field pz rfl (x := .bool false) rfl ?_)
  show wpAny _ _ (field (.ref z) 3 >>= _) _ _ _; refine wpAny_bind (wpAny_field pz rfl (x := .ref ti) rfl (wpAny_bind (wpAny_seqItems pi rfl ?_)))
  show wpAny _ _ (Builtin.SmallTypes.ownedTupleIsFree (.ref z) >>= _) _ _ _; refine wpAny_bind ?_; unfold Builtin.SmallTypes.ownedTupleIsFree
  refine wpAny_bind (wpAny_field pz rfl (x := .none) rfl (wpAny_pure ?_)); simp only [if_true]
  refine wpAny_bind (wpAny_rule (wpAny_bind (wpAny_field pz rfl (x := .ref to) rfl (wpAny_bind (wpAny_setField_rec pz (by simp) fun g1 z1 e1 => ?_)))))
  replace z1 : IsZip g1 z ti to .ellipsis := z1
  refine wpAny_bind ?_; simp only [List.zipIdx_cons, List.zipIdx_nil, List.forIn_cons, List.forIn_nil]
  refine wpAny_bind (wpAny_bind (wpAny_onRaise ?_)); show wpAny _ _ (Builtin.SmallTypes.nextOf (.ref i1) >>= _) _ _ _
  refine wpAny_bind (step_item (w1.far e1.extBut D.i1z) (s1.far e1.extBut D.l1z) hx fun g2 w12 e2 => wpAny_pure ?_)
  have po2 : IsPair g2 to u v := e2.extBut _ _ D.TOi1 (e1.extBut _ _ D.TOz po)
  refine wpAny_bind (wpAny_seqItems po2 rfl (wpAny_bind (wpAny_updateSeq_pair po2 fun g3 po3 e3 => wpAny_bind (wpAny_letGo (wpAny_pure ?_)))))
  replace po3 : IsPair g3 to x v := po3
  refine wpAny_bind (wpAny_bind (wpAny_onRaise ?_)); show wpAny _ _ (Builtin.SmallTypes.nextOf (.ref i2) >>= _) _ _ _
  refine wpAny_bind (step_item (((w2.far e1.extBut D.i2z).far e2.extBut D.i12.symm).far e3.extBut D.TOi2.symm) (((s2.far e1.extBut D.l2z).far e2.extBut D.l2i1).far e3.extBut D.l2TO) hy fun g4 w24 e4 => wpAny_pure ?_)
  have po4 : IsPair g4 to x v := e4.extBut _ _ D.TOi2 po3
  refine wpAny_bind (wpAny_seqItems po4 rfl (wpAny_bind (wpAny_updateSeq_pair po4 fun g5 po5 e5 => wpAny_bind (wpAny_letGo (wpAny_pure (wpAny_pure ?_))))))
  replace po5 : IsPair g5 to x y := po5
  refine wpAny_bind (wpAny_seqItems po5 rfl (wpAny_bind (wpAny_newTuple ?_)))
  have size5 : g5.objs.size = s.heap.objs.size := by rw [e5.1, e4.1, e3.1, e2.1, e1.1]
  have z5 : IsZip g5 z ti to .ellipsis := e5.extBut _ _ D.TOz.symm (e4.extBut _ _ D.i2z.symm (e3.extBut _ _ D.TOz.symm (e2.extBut _ _ D.i1z.symm z1)))
  have kp5 : ∀ c o, c ≠ z → c ≠ to → c ≠ i1 → c ≠ i2 → s.heap.get? c = some o → g5.get? c = some o := fun c o n1 n2 n3 n4 g => e5.extBut _ _ n2 (e4.extBut _ _ n4 (e3.extBut _ _ n2 (e2.extBut _ _ n3 (e1.extBut _ _ n1 g))))
  have w15 : Wk b1 g5 i1 l1 (k1 + 1) := ((w12.far e3.extBut D.TOi1.symm).far e4.extBut D.i12).far e5.extBut D.TOi1.symm
  have w25 : Wk b2 g5 i2 l2 (k2 + 1) := w24.far e5.extBut D.TOi2.symm
  have zlt : z < g5.objs.size := Heap.lt_size z5
  show wpAny _ _ (Builtin.SmallTypes.ownedTupleHandOut (.ref z) (.ref g5.objs.size) >>= _) _ _ _; refine wpAny_bind ?_; unfold Builtin.SmallTypes.ownedTupleHandOut
  have z6 : IsZip (g5.push { cls := .type "tuple", data := .seq #[x, y] }) z ti to .ellipsis := Heap.get?_push_of_some _ z5
  refine wpAny_bind (wpAny_setField_rec z6 (by simp) fun g7 z7 e7 => ?_)
  replace z7 : IsZip g7 z ti to (rawInt g5.objs.size) := z7
  refine wpAny_setField_rec z7 (by simp) fun g8 z8 e8 => ?_
  replace z8 : IsZip g8 z ti to (rawInt g5.objs.size) := z8
  have rise : ∀ c o, c ≠ z → g5.get? c = some o → g8.get? c = some o := fun c o n1 g => e8.extBut _ _ n1 (e7.extBut _ _ n1 (Heap.get?_push_of_some _ g))
  have new8 : IsPair g8 g5.objs.size x y := e8.extBut _ _ (Nat.ne_of_gt zlt) (e7.extBut _ _ (Nat.ne_of_gt zlt) (Heap.get?_push_size _ rfl))
  have size8 : g8.objs.size = g5.objs.size + 1 := by rw [e8.1, e7.1, Heap.size_push]
  rw [size5] at z8 new8 size8
  refine wpAny_pure ⟨_, rfl, ?_⟩
  show Q (.ref g5.objs.size) _
  rw [size5]
  exact q g8 z8 (rise _ _ D.TOz po5) (w15.keep fun o g => rise _ o D.i1z g) (w25.keep fun o g => rise _ o D.i2z g) new8 size8 fun c o n1 n2 n3 n4 g => rise c o n1 (kp5 c o n1 n2 n3 n4 g)
theorem zk_end {z ti to i1 i2 l1 l2 : Addr} {k1 k2 : Nat} {xs ys : Array Value} {u v : Value} {Q : PySem.Fin → Shared → Prop} (calm : A.handled = none) (D : ZipApart z ti to i1 i2 l1 l2)
    (pz : IsZip s.heap z ti to .none) (pi : IsPair s.heap ti (.ref i1) (.ref i2)) (po : IsPair s.heap to u v) (w1 : Wk b1 s.heap i1 l1 k1) (w2 : Wk b2 s.heap i2 l2 k2) (s1 : Sk b1 s.heap l1 xs) (s2 : Sk b2 s.heap l2 ys) (over : xs[k1]? = none ∨ ys[k2]? = none)
    (q : ∀ h' e, (∀ c o, c ≠ z → c ≠ to → c ≠ i1 → c ≠ i2 → s.heap.get? c = some o → h'.get? c = some o) → (∃ o, h'.get? e = some o ∧ o.cls = .type "StopIteration") → E (.ref e) { s with heap := h' }) :
    wpAny (model prog w) A (Builtin.«zip.__next__» ⟨[.ref z], []⟩) Q E s := by
  show wpAny _ _ (field (.ref z) 2 >>= _) _ _ _; refine wpAny_bind (wpAny_field pz rfl (x := .bool false) rfl ?_)
  show wpAny _ _ (field (.ref z) 3 >>= _) _ _ _; refine wpAny_bind (wpAny_field pz rfl (x := .ref ti) rfl (wpAny_bind (wpAny_seqItems pi rfl ?_)))
  show wpAny _ _ (Builtin.SmallTypes.ownedTupleIsFree (.ref z) >>= _) _ _ _; refine wpAny_bind ?_; unfold Builtin.SmallTypes.ownedTupleIsFree
  refine wpAny_bind (wpAny_field pz rfl (x := .none) rfl (wpAny_pure ?_)); simp only [if_true]
  refine wpAny_bind (wpAny_rule (wpAny_bind (wpAny_field pz rfl (x := .ref to) rfl (wpAny_bind (wpAny_setField_rec pz (by simp) fun g1 z1 e1 => ?_)))))
  replace z1 : IsZip g1 z ti to .ellipsis := z1
  refine wpAny_bind ?_; simp only [List.zipIdx_cons, List.zipIdx_nil, List.forIn_cons, List.forIn_nil]
  refine wpAny_bind (wpAny_bind (wpAny_onRaise ?_)); show wpAny _ _ (Builtin.SmallTypes.nextOf (.ref i1) >>= _) _ _ _
  cases hx : xs[k1]? with
  | none =>
    refine wpAny_bind (step_end calm (w1.far e1.extBut D.i1z) (s1.far e1.extBut D.l1z) hx fun g2 e e2 ⟨oe, ge, ce⟩ => ?_)
    have z2 : IsZip g2 z ti to .ellipsis := e2 _ _ D.i1z.symm z1
    have nez : e ≠ z := fun t => by subst t; rw [z2] at ge; cases ge; simp at ce
    exact wpAny_setField_rec z2 (by simp) fun g3 _ e3 => q g3 e (fun c o n1 _ n3 _ t => e3.extBut _ _ n1 (e2 _ _ n3 (e1.extBut _ _ n1 t))) ⟨oe, e3.extBut _ _ nez ge, ce⟩
  | some x =>
    have hy : ys[k2]? = none := over.elim (fun t => by rw [hx] at t; cases t) id
    refine wpAny_bind (step_item (w1.far e1.extBut D.i1z) (s1.far e1.extBut D.l1z) hx fun g2 w12 e2 => wpAny_pure ?_)
    have po2 : IsPair g2 to u v := e2.extBut _ _ D.TOi1 (e1.extBut _ _ D.TOz po)
    refine wpAny_bind (wpAny_seqItems po2 rfl (wpAny_bind (wpAny_updateSeq_pair po2 fun g3 po3 e3 => wpAny_bind (wpAny_letGo (wpAny_pure ?_)))))
    refine wpAny_bind (wpAny_bind (wpAny_onRaise ?_)); show wpAny _ _ (Builtin.SmallTypes.nextOf (.ref i2) >>= _) _ _ _
    refine wpAny_bind (step_end calm (((w2.far e1.extBut D.i2z).far e2.extBut D.i12.symm).far e3.extBut D.TOi2.symm) (((s2.far e1.extBut D.l2z).far e2.extBut D.l2i1).far e3.extBut D.l2TO) hy fun g4 e e4 ⟨oe, ge, ce⟩ => ?_)
    have z4 : IsZip g4 z ti to .ellipsis := e4 _ _ D.i2z.symm (e3.extBut _ _ D.TOz.symm (e2.extBut _ _ D.i1z.symm z1))
    have nez : e ≠ z := fun t => by subst t; rw [z4] at ge; cases ge; simp at ce
    exact wpAny_setField_rec z4 (by simp) fun g5 _ e5 => q g5 e (fun c o n1 n2 n3 n4 t => e5.extBut _ _ n1 (e4 _ _ n4 (e3.extBut _ _ n2 (e2.extBut _ _ n3 (e1.extBut _ _ n1 t))))) ⟨oe, e5.extBut _ _ nez ge, ce⟩
theorem zk_next {z ti to i1 i2 l1 l2 : Addr} {k1 k2 : Nat} {xs ys : Array Value} {x y u v : Value} {Q : Option Value → Shared → Prop} (D : ZipApart z ti to i1 i2 l1 l2)
    (pz : IsZip s.heap z ti to .none) (pi : IsPair s.heap ti (.ref i1) (.ref i2)) (po : IsPair s.heap to u v) (w1 : Wk b1 s.heap i1 l1 k1) (w2 : Wk b2 s.heap i2 l2 k2) (s1 : Sk b1 s.heap l1 xs) (s2 : Sk b2 s.heap l2 ys) (hx : xs[k1]? = some x) (hy : ys[k2]? = some y)
    (q : ∀ h', IsZip h' z ti to (rawInt s.heap.objs.size) → IsPair h' to x y → Wk b1 h' i1 l1 (k1 + 1) → Wk b2 h' i2 l2 (k2 + 1) → IsPair h' s.heap.objs.size x y → h'.objs.size = s.heap.objs.size + 1 →
      (∀ c o, c ≠ z → c ≠ to → c ≠ i1 → c ≠ i2 → s.heap.get? c = some o → h'.get? c = some o) → Q (some (.ref s.heap.objs.size)) { s with heap := h' }) : wpAny (model prog w) A (pyNext (.ref z)) Q E s := by
  have ty : s.TypeIs (.ref z) "zip" := ⟨_, pz, rfl⟩
  unfold pyNext
  exact wpAny_bind (wpAny_attempt (wpAny_callSpecial?_slot (name := Str.ofString "__next__") ty F.slot_zip_next (wpAny_call_entry F.slot_zip_next ty F.entry_zip_next
    (zk_item D pz pi po w1 w2 s1 s2 hx hy fun h' a1 a2 a3 a4 a5 a6 a7 => wpAny_pure (q h' a1 a2 a3 a4 a5 a6 a7)) (F.args_zip_next_1 _))))
theorem zk_stop {z ti to i1 i2 l1 l2 : Addr} {k1 k2 : Nat} {xs ys : Array Value} {u v : Value} {Q : Option Value → Shared → Prop} (calm : A.handled = none) (D : ZipApart z ti to i1 i2 l1 l2)
    (pz : IsZip s.heap z ti to .none) (pi : IsPair s.heap ti (.ref i1) (.ref i2)) (po : IsPair s.heap to u v) (w1 : Wk b1 s.heap i1 l1 k1) (w2 : Wk b2 s.heap i2 l2 k2) (s1 : Sk b1 s.heap l1 xs) (s2 : Sk b2 s.heap l2 ys) (over : xs[k1]? = none ∨ ys[k2]? = none)
    (q : ∀ h', (∀ c o, c ≠ z → c ≠ to → c ≠ i1 → c ≠ i2 → s.heap.get? c = some o → h'.get? c = some o) → Q none { s with heap := h' }) : wpAny (model prog w) A (pyNext (.ref z)) Q E s := by
  have ty : s.TypeIs (.ref z) "zip" := ⟨_, pz, rfl⟩
  unfold pyNext
  refine wpAny_bind (wpAny_attempt (wpAny_callSpecial?_slot (name := Str.ofString "__next__") ty F.slot_zip_next (wpAny_call_entry F.slot_zip_next ty F.entry_zip_next
    (zk_end calm D pz pi po w1 w2 s1 s2 over fun h' e kp ⟨o, ge, ce⟩ => wpAny_bind (wpAny_isInstance (T := "StopIteration") (b := true) ⟨o, ge, ce⟩ isSubtype_stop (wpAny_pure (q _ kp)))) (F.args_zip_next_1 _))))
end

/-! ### zip(a list, a tuple) -/
abbrev zg1 (h : Heap) (l1 : Addr) : Heap := h.push { cls := .type "list_iterator", data := .fields #[.ref l1, .int 0 0] }
abbrev zg2 (h : Heap) (l1 l2 : Addr) : Heap := (zg1 h l1).push { cls := .type "tuple_iterator", data := .fields #[.ref l2, .int 0 0] }
abbrev zg3 (h : Heap) (l1 l2 : Addr) : Heap := (zg2 h l1 l2).push { cls := .type "tuple", data := .seq #[.ref h.objs.size, .ref (zg1 h l1).objs.size] }
abbrev zg4 (h : Heap) (l1 l2 : Addr) : Heap := (zg3 h l1 l2).push { cls := .type "tuple", data := .seq #[.none, .none] }
abbrev zg5 (h : Heap) (l1 l2 : Addr) : Heap := (zg4 h l1 l2).push { cls := .type "zip", data := .fields #[.none, .bool false, .bool false, .ref (zg2 h l1 l2).objs.size, .ref (zg3 h l1 l2).objs.size] }
theorem meets_zg (l1 l2 : Addr) (xs ys : Array Value) : Meets (Builtin.«zip.__new__» ⟨[.type "zip", .ref l1, .ref l2], []⟩)
    (fun _ R s => s.heap.IsList l1 xs ∧ s.heap.IsTuple l2 ys ∧ R (.ok (.ret (.ref (zg4 s.heap l1 l2).objs.size))) { s with heap := zg5 s.heap l1 l2 }) :=
  .of_wp fun prog w A R s h => by
    obtain ⟨hp, g, d, tk, os⟩ := s; obtain ⟨q1, q2, q⟩ := h
    have hsub := sub_zip
    have L1 : Heap.IsList (Shared.heap ⟨hp, g, d, tk, os⟩) l1 xs := q1
    have L2 : Heap.IsTuple (Shared.heap ⟨zg1 hp l1, g, d, tk, os⟩) l2 ys := Heap.IsTuple.push q2 _
    wp_walk using wpAny_pyIter_list L1, wpAny_pyIter_tuple L2
    exact ⟨_, rfl, q⟩
section
variable {prog : Program} {w : World} {A : Around} {E : Value → Shared → Prop} {s : Shared}
theorem call_zg {l1 l2 : Addr} {xs ys : Array Value} {Q : Value → Shared → Prop} (q1 : s.heap.IsList l1 xs) (q2 : s.heap.IsTuple l2 ys)
    (q : ∀ h', IsZip h' (s.heap.objs.size + 4) (s.heap.objs.size + 2) (s.heap.objs.size + 3) .none → IsPair h' (s.heap.objs.size + 2) (.ref s.heap.objs.size) (.ref (s.heap.objs.size + 1)) → IsPair h' (s.heap.objs.size + 3) .none .none →
      Wk true h' s.heap.objs.size l1 0 → Wk false h' (s.heap.objs.size + 1) l2 0 → (∀ c o, s.heap.get? c = some o → h'.get? c = some o) → Q (.ref (s.heap.objs.size + 4)) { s with heap := h' }) :
    wpAny (model prog w) A (call (.type "zip") [.ref l1, .ref l2]) Q E s := by
  refine callType_new F.called_zip (by decide) (F.typeCall_zip_2 _ _) (F.newCall_zip_2 _ _) (fun obj => F.args_object_init_3 obj _ _) F.entry_zip_new (meets_zg l1 l2 xs ys) ⟨q1, q2, ?_⟩
  have n1 : (zg1 s.heap l1).objs.size = s.heap.objs.size + 1 := Heap.size_push ..
  have n2 : (zg2 s.heap l1 l2).objs.size = s.heap.objs.size + 2 := by rw [Heap.size_push, n1]
  have n3 : (zg3 s.heap l1 l2).objs.size = s.heap.objs.size + 3 := by rw [Heap.size_push, n2]
  have n4 : (zg4 s.heap l1 l2).objs.size = s.heap.objs.size + 4 := by rw [Heap.size_push, n3]
  have m5 : (zg5 s.heap l1 l2).get? (zg4 s.heap l1 l2).objs.size = some _ := Heap.get?_push_size _ rfl
  have m4 : (zg5 s.heap l1 l2).get? (zg3 s.heap l1 l2).objs.size = some _ := Heap.get?_push_of_some _ (Heap.get?_push_size _ rfl)
  have m3 : (zg5 s.heap l1 l2).get? (zg2 s.heap l1 l2).objs.size = some _ := Heap.get?_push_of_some _ (Heap.get?_push_of_some _ (Heap.get?_push_size _ rfl))
  have m2 : (zg5 s.heap l1 l2).get? (zg1 s.heap l1).objs.size = some _ := Heap.get?_push_of_some _ (Heap.get?_push_of_some _ (Heap.get?_push_of_some _ (Heap.get?_push_size _ rfl)))
  have m1 : (zg5 s.heap l1 l2).get? s.heap.objs.size = some _ := Heap.get?_push_of_some _ (Heap.get?_push_of_some _ (Heap.get?_push_of_some _ (Heap.get?_push_of_some _ (Heap.get?_push_size _ rfl))))
  show _ ∧ _
  rw [n2, n3, n4] at m5
  rw [n1, n2] at m3
  rw [n3] at m4
  rw [n1] at m2
  rw [n4]
  exact ⟨⟨_, m5, rfl⟩, q _ m5 m3 m4 ⟨_, m1, rfl, rfl⟩ ⟨_, m2, rfl, rfl⟩ fun c o g => Heap.get?_push_of_some _ (Heap.get?_push_of_some _ (Heap.get?_push_of_some _ (Heap.get?_push_of_some _ (Heap.get?_push_of_some _ g))))⟩
end
def Itg (K : PySem.W.Frag) (a b : Addr) : It :=
  ⟨fun i H => ∃ (xs ys : List V) (x y : V), SqL K H a xs ∧ SqT K H b ys ∧ xs[i]? = some x ∧ ys[i]? = some y,
    fun i H v H' => ∃ t x y, v = .ref t ∧ H t = none ∧ H' = upd H t (.tup [x, y]) ∧ (∀ xs, SqL K H a xs → xs[i]? = some x) ∧ ∀ ys, SqT K H b ys → ys[i]? = some y,
    fun i H => ∃ xs ys : List V, SqL K H a xs ∧ SqT K H b ys ∧ (xs.length ≤ i ∨ ys.length ≤ i)⟩
theorem turn_zg {P : Program} {w : World} {K : PySem.W.Frag} {elts : List Expr} {kk : Nat} {tpos : Pos} {a b z ti to i1 i2 : Addr} (D : ZipApart z ti to i1 i2 a b) :
    Turn P w K (.Tuple elts kk tpos) (Itg K a b) [z, ti, to, i1, i2] z (fun i h => IsZip h z ti to .none ∧ IsPair h ti (.ref i1) (.ref i2) ∧ (∃ u v, IsPair h to u v) ∧ Wk true h i1 a i ∧ Wk false h i2 b i) where
  mem := by simp
  obj := fun i h st c hc => by
    obtain ⟨pz, pi, ⟨u, v, po⟩, w1, w2⟩ := st
    obtain ⟨o1, g1, d1⟩ := w1.obj
    obtain ⟨o2, g2, d2⟩ := w2.obj
    have cases5 : c = z ∨ c = ti ∨ c = to ∨ c = i1 ∨ c = i2 := by simpa using hc
    rcases cases5 with rfl | rfl | rfl | rfl | rfl
    · exact ⟨_, pz, fun _ q => nomatch q⟩
    · exact ⟨_, pi, fun _ q => nomatch q⟩
    · exact ⟨_, po, fun _ q => nomatch q⟩
    · exact ⟨o1, g1, d1⟩
    · exact ⟨o2, g2, d2⟩
  keep := fun i h h' st k => by
    obtain ⟨pz, pi, ⟨u, v, po⟩, w1, w2⟩ := st
    exact ⟨k z (by simp) _ pz, k ti (by simp) _ pi, ⟨u, v, k to (by simp) _ po⟩, w1.keep fun o q => k i1 (by simp) o q, w2.keep fun o q => k i2 (by simp) o q⟩
  item := by
    intro X hP hw hK hc i pins s σ H E I hf st hg
    subst hP hw hK
    obtain ⟨pz, pi, ⟨u0, v0, po⟩, w1, w2⟩ := st
    obtain ⟨xs, ys, x, y, sqx, sqy, hx, hy⟩ := hg
    obtain ⟨vx, rx, lx, _⟩ := I.list sqx
    obtain ⟨vy, ry, ly, _⟩ := I.tuple sqy
    obtain ⟨ux, hux, rux⟩ := rx.get hx
    obtain ⟨uy, huy, ruy⟩ := ry.get hy
    have zlt : z < s.heap.objs.size := Heap.lt_size pz
    refine zk_next D pz pi po w1 w2 (show Sk true s.heap a vx.toArray from lx.isList) (show Sk false s.heap b vy.toArray from ly) (x := ux) (y := uy) (by simpa using hux) (by simpa using huy) fun h1 z1 o1 w11 w21 new1 _ kp => ?_
    refine ⟨_, rfl, wpAny_letOwnedTupleGo_zip (s := { s with heap := h1 }) z1 fun h2 z2 sb => ?_⟩
    have new2 : h2.get? s.heap.objs.size = some { cls := .type "tuple", data := .seq #[ux, uy] } := (sb.2 _ (Nat.ne_of_gt zlt)).trans new1
    have okn : ObjOk X.prog X.w (upd H s.heap.objs.size (.tup [x, y])) h2 s.heap.objs.size (.tup [x, y]) := ⟨by show 2 ≤ sizeLine; decide, [ux, uy], .cons rux (.cons ruy .nil), ⟨_, new2, rfl, _, rfl⟩⟩
    have V1 : Inv X pins σ (upd H s.heap.objs.size (.tup [x, y])) { s with heap := h2 } := I.turnedNew (t' := s.toks) (ch := [z, ti, to, i1, i2]) (fun c o nb g => (sb.2 c fun q => nb (by simp [q])).trans (kp c o (fun q => nb (by simp [q])) (fun q => nb (by simp [q])) (fun q => nb (by simp [q])) (fun q => nb (by simp [q])) g)) hf (Nat.le_refl _) okn
    refine ⟨.ref s.heap.objs.size, _, V1, rfl, ⟨_, x, y, rfl, I.hok.fresh (Nat.le_refl _), rfl, fun l hl => by rw [I.list_inj hl sqx]; exact hx, fun l hl => by rw [I.tuple_inj hl sqy]; exact hy⟩, ⟨z2, (sb.2 _ D.TIz).trans (kp _ _ D.TIz D.TITO D.TIi1 D.TIi2 pi), ⟨ux, uy, (sb.2 _ D.TOz).trans o1⟩, w11.keep fun o g => (sb.2 _ D.i1z).trans g, w21.keep fun o g => (sb.2 _ D.i2z).trans g⟩, fun c hcm => ?_⟩
    have clt : c < s.heap.objs.size := by
      obtain ⟨o1, g1, _⟩ := w1.obj
      obtain ⟨o2, g2, _⟩ := w2.obj
      have cases5 : c = z ∨ c = ti ∨ c = to ∨ c = i1 ∨ c = i2 := by simpa using hcm
      rcases cases5 with rfl | rfl | rfl | rfl | rfl
      · exact zlt
      · exact Heap.lt_size pi
      · exact Heap.lt_size po
      · exact Heap.lt_size g1
      · exact Heap.lt_size g2
    rw [upd_ne (Nat.ne_of_lt clt)]
    exact (hf c hcm).1
  done := by
    intro X hP hw hK hc i pins s σ H E I hf st hg
    subst hP hw hK
    obtain ⟨pz, pi, ⟨u0, v0, po⟩, w1, w2⟩ := st
    obtain ⟨xs, ys, sqx, sqy, over⟩ := hg
    obtain ⟨vx, rx, lx, _⟩ := I.list sqx
    obtain ⟨vy, ry, ly, _⟩ := I.tuple sqy
    have nx := rx.length
    have ny := ry.length
    have over' : vx.toArray[i]? = none ∨ vy.toArray[i]? = none := over.imp (fun q => by simp; omega) (fun q => by simp; omega)
    exact zk_stop (I.ok.hd hc) D pz pi po w1 w2 (show Sk true s.heap a vx.toArray from lx.isList) (show Sk false s.heap b vy.toArray from ly) over' fun h1 kp => ⟨rfl, I.turnedL (t' := s.toks) (ch := [z, ti, to, i1, i2]) (fun c o nb g => kp c o (fun q => nb (by simp [q])) (fun q => nb (by simp [q])) (fun q => nb (by simp [q])) (fun q => nb (by simp [q])) g) hf⟩
  self := fun A i s Q E st h => wpAny_pyIter_zip st.1 h
def iZg (K : PySem.W.Frag) (ta : TA) : TI := fun σ H R => ta σ H fun vs H1 => ∃ a b xs ys, vs = [.ref a, .ref b] ∧ SqL K H1 a xs ∧ SqT K H1 b ys ∧ R (Itg K a b) H1
theorem pi_zg {X : Cx} {e e2 : Expr} {ta : TA} {p pos tpos : Pos} {elts : List Expr} {kk : Nat} (hg : Gl X "zip") (hm : X.mg "zip" = none) (ha : PA X [e, e2] ta)
    (hs : starEach [e, e2] X.env = (false, eval e X.env) :: starEach [e2] X.env) (hpl : (backTo pos (starEach [e2] X.env)).any (·.1) = false) : PI X (.Tuple elts kk tpos) (.Call (.Name "zip" p) [e, e2] [] pos) (iZg X.K ta) := by
  refine ⟨fun pins s σ H R I h => Call_ (ld_blt I hg hm PyProof.Rows.boot_zip (PyProof.Rows.callWith_type1 (thn (ha.run pos pins s σ H _ I h) fun us s1 ⟨vs, H1, I1, r1, q1⟩ => ?_) hs hpl))⟩
  obtain ⟨a, b, xs, ys, rfl, sqx, sqy, q⟩ := q1
  cases r1 with
  | cons ra rr =>
  cases rr with
  | cons rb rr =>
  cases rr
  cases ra
  cases rb
  obtain ⟨vx, rx, lx, _⟩ := I1.list sqx
  obtain ⟨vy, ry, ly, _⟩ := I1.tuple sqy
  have lta : a < s1.heap.objs.size := (show Sk true s1.heap a vx.toArray from lx.isList).lt
  have ltb : b < s1.heap.objs.size := (show Sk false s1.heap b vy.toArray from ly).lt
  refine call_zg lx.isList ly fun h1 pz pi po w1 w2 kp => wpAny_pyIter_zip pz ?_
  have V2 : Inv X pins σ H1 { s1 with heap := h1 } := I1.kept (t' := s1.toks) kp
  refine ⟨s1.heap.objs.size + 4, [s1.heap.objs.size + 4, s1.heap.objs.size + 2, s1.heap.objs.size + 3, s1.heap.objs.size, s1.heap.objs.size + 1], _, _, H1, rfl, V2, turn_zg (PySem.W.ktu_apart s1.heap.objs.size a b lta ltb), ⟨pz, pi, ⟨_, _, po⟩, w1, w2⟩, fun c hcm => ?_, q⟩
  have ge : s1.heap.objs.size ≤ c := by
    have cases5 : c = s1.heap.objs.size + 4 ∨ c = s1.heap.objs.size + 2 ∨ c = s1.heap.objs.size + 3 ∨ c = s1.heap.objs.size ∨ c = s1.heap.objs.size + 1 := by simpa using hcm
    rcases cases5 with q | q | q | q | q <;> rw [q] <;> first | exact Nat.le_add_right _ _ | exact Nat.le_refl _
  exact I1.fpOk ge (I1.hok.fresh ge)
section
variable {F : Fm} {C : Cs} {ρ : Rho} {k : Nat} {P : DE} {pos p p1 p2 tp : Pos} {a b : Expr} {x1 x2 : Str} {kk : Nat} {body : List Stmt}
/-- for x1, x2 in zip(a list, a tuple) of one length -/
theorem ws_for_zg (i1 i2 : Nat) (t1 : Tgt C i1 x1) (t2 : Tgt C i2 x2) (hK : F.K = C.K) (hg : C.sc.names.lookup ("zip" : Str) = some .globalImplicit) (hm : C.mg ("zip" : Str) = none)
    (hs : ∀ env : Env, starEach [a, b] env = (false, eval a env) :: starEach [b] env) (hs2 : ∀ env : Env, starEach [b] env = (false, eval b env) :: starEach [] env) (hpl : ∀ env : Env, (backTo pos (starEach [b] env)).any (·.1) = false) (hfs : ∀ (env : Env) (v : Value), foldedSetIterable (.Call (.Name "zip" p) [a, b] [] pos) env v = pure v)
    (h : WPE F C a ρ k fun k1 d => WPE F C b ρ k1 fun k2 d' => ∃ (I : Nat → Nat → Rho → Prop) (ds es : List PyData), d = .list ds ∧ d' = .tuple es ∧ ds.length = es.length ∧ I 0 k2 ρ ∧
      (∀ (j : Nat) (y z : PyData) k' ρ', ds[j]? = some y → es[j]? = some z → I j k' ρ' → WPB F C body ((ρ'.set i1 (.d y)).set i2 (.d z)) k' (P.loop (I (j + 1)))) ∧ (∀ k' ρ', I ds.length k' ρ' → P.nx k' ρ')) :
    WPS F C (.For (.Tuple [.Name x1 p1, .Name x2 p2] kk tp) (.Call (.Name "zip" p) [a, b] [] pos) body [] pos) ρ k P :=
  of_ps (t := tFor (iZg C.K (tCons (tE C a) (tCons (tE C b) tNil))) (gTup C.K 2 (gCons (gName i1) (gCons (gName i2) gNil))) (tB C body)) (fun X fx => ps_for (by rw [fx.xe]; exact PassesOwn.never) fx.calm
      (by rw [← fx.K]; exact pi_zg (by show X.env.scope.names.lookup ("zip" : Str) = _; rw [fx.sc]; exact hg) (by rw [fx.mg]; exact hm) (pa_cons (peE fx) (pa_cons (peE fx) pa_nil (hs2 X.env)) (hs X.env)) (hs X.env) (hpl X.env))
      (pgTup (n := 2) fx (pgs_cons (t1.pg fx) (pgs_cons (t2.pg fx) pgs_nil)) (by rfl) (by rfl)) (pbB fx) (hfs X.env)) fun σ H E en j q1 q2 q3 q4 => by
    show tE C a σ H _
    refine h σ H _ en j fun va da k1 H1 l1 j1 ra hh => ?_
    show tE C b σ H1 _
    refine hh σ H1 _ (en.le l1) j1 fun vb db k2 H2 l2 j2 rb hh => ?_
    obtain ⟨I, ds, es, e1, e2, hlen, i0, hstep, hend⟩ := hh
    subst e1 e2
    have ra := ra.le l2.lz
    cases ra with
    | @lst pa xs _ ha hra =>
    cases rb with
    | @tup pb ys _ hb hrb =>
    have l12 := l1.trans l2
    refine ⟨pa, pb, xs, ys, rfl, hK ▸ sql_of ha, hK ▸ sqt_of hb, ?_⟩
    have nx : xs.length = ds.length := hra.length
    have ny : ys.length = es.length := hrb.length
    refine ⟨fun n m σ' H' => m + n = xs.length ∧ ∃ k' ρ', EnvOk F H' σ' ρ' ∧ J F k' H' ∧ Lz F H2 H' ∧ I n k' ρ', ⟨xs.length, by omega, k2, ρ, (en.le l1).le l2, j2, .refl, i0⟩, ?_⟩
    rintro n m σ' H' ⟨hm', k', ρ', en', j', lz, ii⟩
    have sqa : SqL C.K H' pa xs := hK ▸ sql_of (K := F.K) (⟨lz _ _ (Fm.sxA ha.2) ha.1, ha.2⟩ : H' pa = some (.lst xs) ∧ ¬ F.S pa)
    have sqb : SqT C.K H' pb ys := hK ▸ sqt_of (K := F.K) (⟨lz _ _ (Fm.sxA hb.2) hb.1, hb.2⟩ : H' pb = some (.tup ys) ∧ ¬ F.S pb)
    by_cases over : n = xs.length
    · refine .inl ⟨⟨xs, ys, sqa, sqb, .inl (by omega)⟩, ?_⟩
      exact q1 ρ' σ' k' H' (l12.lz.trans lz) en' j' (hend k' ρ' (by rw [← nx, ← over]; exact ii))
    · have lt1 : n < xs.length := by omega
      have lt2 : n < ys.length := by omega
      refine .inr ⟨⟨xs, ys, xs[n], ys[n], sqa, sqb, List.getElem?_eq_getElem lt1, List.getElem?_eq_getElem lt2⟩, fun σ2 H2' => ∃ k' ρ', EnvOk F H2' σ2 ρ' ∧ J F k' H2' ∧ Lz F H2 H2' ∧ I (n + 1) k' ρ', fun σ2 H2' w => ⟨m - 1, by omega, by omega, w⟩, ?_⟩
      rintro v H3 ⟨t, x, y, rfl, ht, rfl, fx1, fy1⟩
      have hx := fx1 xs sqa
      have hy := fy1 ys sqb
      obtain ⟨dx, hdx, rdx⟩ := hra.got hx
      obtain ⟨dy, hdy, rdy⟩ := hrb.got hy
      have lnew : Le F H' (upd H' t (.tup [x, y])) := .new ht
      have rx2 := (rdx.le lz).le lnew.lz
      have ry2 := (rdy.le lz).le lnew.lz
      refine ⟨t, [x, y], rfl, .inl (.inl upd_same), rfl, x, [y], rfl, y, [], rfl, rfl, ?_⟩
      refine hstep n dx dy k' ρ' hdx hdy ii _ _ _ (((en'.le lnew).set (sv := .d dx) ⟨_, rfl, rx2⟩).set (sv := .d dy) ⟨_, rfl, ry2⟩) (j'.new ht) ?_ q2 ?_ ?_
      · exact fun ρ2 σ2 k2' H2' l2' e2 j2' p => ⟨k2', ρ2, e2, j2', (lz.trans lnew.lz).trans l2', p⟩
      · exact fun ρ2 σ2 k2' H2' l2' e2 j2' p => q1 ρ2 σ2 k2' H2' (l12.lz.trans ((lz.trans lnew.lz).trans l2')) e2 j2' p
      · exact fun ρ2 σ2 k2' H2' l2' e2 j2' p => ⟨k2', ρ2, e2, j2', (lz.trans lnew.lz).trans l2', p⟩
end
end Dl

namespace Dl
open PySem PySem.Spec PyProof.Rows L2
/-! ### isinstance(data, a built-in type) -/
def tyN : PyData → String
  | .none => "NoneType"
  | .bool _ => "bool"
  | .int _ => "int"
  | .str _ => "str"
  | .list _ => "list"
  | .tuple _ => "tuple"
  | .dict _ => "dict"
def isiD (T : String) : PyData → Bool
  | .none => T == "NoneType"
  | .bool _ => T == "bool" || T == "int"
  | .int _ => T == "int"
  | .str _ => T == "str"
  | .list _ => T == "list"
  | .tuple _ => T == "tuple"
  | .dict _ => T == "dict"
theorem kit_int (K : PySem.W.Frag) (d : PyData) : PySem.W.kitOne K (.type (tyN d)) (.type "int") = some (isiD "int" d) := by cases d <;> kernel_rfl
theorem kit_bool (K : PySem.W.Frag) (d : PyData) : PySem.W.kitOne K (.type (tyN d)) (.type "bool") = some (isiD "bool" d) := by cases d <;> kernel_rfl
theorem kit_tuple (K : PySem.W.Frag) (d : PyData) : PySem.W.kitOne K (.type (tyN d)) (.type "tuple") = some (isiD "tuple" d) := by cases d <;> kernel_rfl
theorem kit_str (K : PySem.W.Frag) (d : PyData) : PySem.W.kitOne K (.type (tyN d)) (.type "str") = some (isiD "str" d) := by cases d <;> kernel_rfl
theorem kit_list (K : PySem.W.Frag) (d : PyData) : PySem.W.kitOne K (.type (tyN d)) (.type "list") = some (isiD "list" d) := by cases d <;> kernel_rfl
theorem ty_rep {F : Fm} {H : Hp} {v : V} {d : PyData} (r : Rp F H v d) : TyX F.K H v (.type (tyN d)) := by
  cases r with
  | non => exact .base .non
  | bl b => exact .base (.bl b)
  | int i => exact .base (.int i)
  | str x => exact .base (.str x)
  | lst h _ => exact .base (.lst h.1)
  | tup h _ => exact .base (.tup h.1)
  | dct h _ => exact .base (.dK h.1)
section
variable {F : Fm} {C : Cs} {ρ : Rho} {k : Nat} {Φ : Nat → PyData → Prop} {pos p p2 : Pos} {e : Expr} {x : Str}
theorem we_isi (T : String) (kit : ∀ (K : PySem.W.Frag) (d : PyData), PySem.W.kitOne K (.type (tyN d)) (.type T) = some (isiD T d)) (hK : F.K = C.K) (hg : C.sc.names.lookup ("isinstance" : Str) = some .globalImplicit) (hm : C.mg ("isinstance" : Str) = none) (hg2 : C.sc.names.lookup x = some .globalImplicit) (hm2 : C.mg x = none) (hx : bootBuiltins x = some (.type T)) (hxn : x ≠ "__name__") (hxd : (x == ("__debug__" : Str)) = false)
    (hs : ∀ env : Env, starEach [e, .Name x p2] env = (false, eval e env) :: starEach [.Name x p2] env)
    (h : WPE F C e ρ k fun k1 d => Φ k1 (.bool (isiD T d))) : WPE F C (.Call (.Name "isinstance" p) [e, .Name x p2] [] pos) ρ k Φ :=
  of_pe (t := tCB (rIsi C.K) (tCons (tE C e) (tCons (tC (.ty T)) tNil))) (fun X fx => pe_callB (by rw [← fx.K]; exact call_isi) (by show X.env.scope.names.lookup ("isinstance" : Str) = _; rw [fx.sc]; exact hg) (by rw [fx.mg]; exact hm) (by decide +kernel)
      (pa_cons (peE fx) (pa_cons (pe_bltn (v := .ty T) (by show X.env.scope.names.lookup x = _; rw [fx.sc]; exact hg2) (by rw [fx.mg]; exact hm2) hx rfl hxn hxd) pa_nil) (hs X.env)) (by decide) (by decide) (hs X.env) rfl) fun σ H Q en j q => by
    show tE C e σ H _
    refine h σ H _ en j fun v d k1 H1 l1 j1 r hp => ?_
    refine ⟨v, .ty T, _, _, isiD T d, rfl, .ty T, hK ▸ ty_rep r, kit _ d, q _ _ k1 H1 l1 j1 (.bl _) hp⟩
end
section
variable {F : Fm} {C : Cs} {ρ : Rho} {k : Nat} {Ψ : Nat → Bool → Prop} {pos : Pos} {a b : Expr}
theorem wt_isnB (h : WPE F C a ρ k fun k1 x => WPE F C b ρ k1 fun k2 y => ∃ c c', x = .bool c ∧ y = .bool c' ∧ Ψ k2 (!decide (c = c'))) : WPT F C (.Compare a [.IsNot] [b] pos) ρ k Ψ :=
  wt_cmp (fun X _ => op_isnot_bl) (nomark _) (h.imp fun k1 x h1 => h1.imp fun k2 y ⟨c, c', e1, e2, p⟩ => by
    subst e1 e2
    intro H vx vy Q j rx ry q
    cases rx
    cases ry
    exact ⟨c, c', rfl, rfl, q _ _ k2 H .refl j (.bl _) ⟨_, rfl, p⟩⟩)
end
end Dl

set_option maxHeartbeats 2000000
namespace Dl
open PySem PySem.Spec PyProof.Rows L2
/-! ### [.. for a, b in ..] where each turn makes a new pair: enumerate(list), zip(list, tuple) -/
structure PI2 (F : Fm) (Jt : It) (H1 : Hp) (ds : List (PyData × PyData)) : Prop where
  go : ∀ D, H1 D = none → ∀ n d, ds[n]? = some d → ∃ x y, Rp (F.ext D) (upd H1 D (.lst [])) x d.1 ∧ Rp (F.ext D) (upd H1 D (.lst [])) y d.2 ∧ ∀ H', Lz (F.ext D) (upd H1 D (.lst [])) H' → Jt.go n H' ∧ ∀ v H'', Jt.yld n H' v H'' → ∃ T, v = .ref T ∧ H' T = none ∧ H'' = upd H' T (.tup [x, y])
  stop : ∀ D, H1 D = none → ∀ H', Lz (F.ext D) (upd H1 D (.lst [])) H' → Jt.stop ds.length H'
section
variable {F : Fm} {C : Cs} {ρ : Rho} {k : Nat} {Φ : Nat → PyData → Prop}
theorem we_lcG (i i1 : Nat) (hne1 : i ≠ i1) {wi : TI} {K : PySem.W.Frag} (hK : F.K = K) {tt : TT} {te : TE}
    (h : ∀ (σ : L2.St) (H : Hp) (R : It → Hp → Prop), EnvOk F H σ ρ → J F k H → (∀ (Jt : It) (k1 : Nat) (H1 : Hp) (ds : List (PyData × PyData)), Le F H H1 → J F k1 H1 → PI2 F Jt H1 ds →
      (∃ I : Nat → Nat → List PyData → Prop, ds.length ≤ 1000000 ∧ I 0 k1 [] ∧ (∀ D (j : Nat) (d : PyData × PyData) k' acc, ds[j]? = some d → I j k' acc → WT (F.ext D) tt ((ρ.set i (.d d.1)).set i1 (.d d.2)) k' fun k1 b => if b = true then WE (F.ext D) te ((ρ.set i (.d d.1)).set i1 (.d d.2)) k1 fun k2 z => I (j + 1) k2 (acc ++ [z]) else I (j + 1) k1 acc) ∧ (∀ k' acc, I ds.length k' acc → Φ k' (.list acc))) → R Jt H1) → wi σ H R) :
    WE F (tLc wi (gTup K 2 (gCons (gName i) (gCons (gName i1) gNil))) tt te [i, i1]) ρ k Φ := fun σ H Q en j q => by
  show wi σ H _
  refine h σ H _ en j fun Jt k1 H1 ds l1 j1 pi ⟨I, hz, i0, hstep, hend⟩ => fun D hD => ?_
  have en1 := en.le l1
  have hM : ¬ F.M D := fun z => F.gl _ _ j1.g D z hD
  have hS : ¬ F.S D := j1.fresh hD
  have h0 : F.H0 D = none := j1.h0 hM hD
  have hne : ∀ (i : Nat) o xs, ρ[i]? = some (SV.own o xs) → o ≠ D := fun i o xs e => by
    obtain ⟨x, _, s⟩ := en1 i _ e
    obtain ⟨_, _, _, _, vs, h1, _⟩ := s
    exact ne_of_none h1 hD
  refine ⟨fun n m H' => m + n = ds.length ∧ ∃ k' vs acc, acc.length ≤ n ∧ EnvOk (F.ext D) H' σ ρ ∧ J (F.ext D) k' H' ∧ LeD (F.ext D) D (upd H1 D (.lst [])) H' ∧ H' D = some (.lst vs) ∧ RpAll (F.ext D) H' vs acc ∧ I n k' acc,
    ⟨ds.length, by omega, k1, [], [], Nat.le_refl _, en1.ext hD, (j1.new hD).ext (lv_new fun _ z => nomatch z), .refl, upd_same, .nil, i0⟩, ?_⟩
  rintro n m H' ⟨hm', k', vs, acc, hle, en', j', ld, hd, ra, ii⟩
  have lz := ld.lz (F := F.ext D) (.inr rfl)
  by_cases over : n = ds.length
  · subst over
    refine .inl ⟨pi.stop D hD H' lz, ?_⟩
    refine q (.ref D) (.list acc) k' H' ?_ j'.unext (.lst ⟨hd, hS⟩ ra.unext) (hend k' acc ii)
    exact fun b o n e => ld b o n (ne_of_none (l1 b o n e) hD) (by rw [upd_ne (ne_of_none (l1 b o n e) hD)]; exact l1 b o n e)
  · have lt : n < ds.length := by omega
    obtain ⟨x, y, rx, ry, gy⟩ := pi.go D hD n ds[n] (List.getElem?_eq_getElem lt)
    obtain ⟨hgo, hyl⟩ := gy H' lz
    refine .inr ⟨hgo, fun H2' => ∃ k' vs acc, acc.length ≤ n + 1 ∧ EnvOk (F.ext D) H2' σ ρ ∧ J (F.ext D) k' H2' ∧ LeD (F.ext D) D (upd H1 D (.lst [])) H2' ∧ H2' D = some (.lst vs) ∧ RpAll (F.ext D) H2' vs acc ∧ I (n + 1) k' acc, fun H2' w => ⟨m - 1, by omega, by omega, w⟩, ?_⟩
    intro v H'' yy
    obtain ⟨t, rfl, ht, rfl⟩ := hyl v H'' yy
    have lnew : Le (F.ext D) H' (upd H' t (.tup [x, y])) := .new ht
    have rx2 := (rx.le lz).le lnew.lz
    have ry2 := (ry.le lz).le lnew.lz
    have hdt : D ≠ t := ne_of_none hd ht
    refine ⟨t, [x, y], rfl, .inl (.inl upd_same), rfl, x, [y], rfl, y, [], rfl, rfl, ?_⟩
    rw [wipe3 hne1]
    refine ⟨wipe3' hne1 σ, ?_⟩
    refine lc_turn (F := F.ext D) (I := fun k acc => I (n + 1) k acc) hM (.inr rfl) h0 (((en'.le lnew).set (sv := .d ds[n].1) ⟨x, rfl, rx2⟩).set (sv := .d ds[n].2) ⟨y, rfl, ry2⟩) (j'.new ht) (by rw [upd_ne hdt]; exact hd) (ra.le lnew.lz) (Nat.lt_of_le_of_lt (show acc.length ≤ 1000000 by omega) (by decide)) (hstep D n ds[n] k' acc (List.getElem?_eq_getElem lt) ii) fun H2 k2 vs2 acc2 hl2 ld2 hd2 ra2 j2 i2 => ?_
    exact ⟨k2, vs2, acc2, by omega, (en'.le lnew).ld ld2 (.inr rfl) hne, j2, (ld.trans lnew.ld).trans ld2, hd2, ra2, i2⟩
end
section
variable {F : Fm} {C : Cs} {ρ : Rho} {k : Nat} {Φ : Nat → PyData → Prop} {P : DE} {pos spos : Pos} {elt e e2 c : Expr} {scope : Scope} {x x1 : Str} {px px1 p3 pr pr2 : Pos} {kk : Nat}
/-- enumerate as pairs -/
def enD : Nat → List PyData → List (PyData × PyData)
  | _, [] => []
  | n, d :: ds => (.int (n : Int), d) :: enD (n + 1) ds
theorem enD_len : ∀ (n : Nat) (ds : List PyData), (enD n ds).length = ds.length
  | _, [] => rfl
  | n, d :: ds => by show (enD (n + 1) ds).length + 1 = _; rw [enD_len (n + 1) ds]; rfl
theorem enD_get : ∀ (n : Nat) (ds : List PyData) (j : Nat), (enD n ds)[j]? = ds[j]?.map fun d => (.int ((n + j : Nat) : Int), d)
  | _, [], j => by cases j <;> rfl
  | n, d :: ds, 0 => rfl
  | n, d :: ds, j + 1 => by
    show (enD (n + 1) ds)[j]? = _
    rw [enD_get (n + 1) ds j]
    show _ = ds[j]?.map _
    congr 1; funext d; rw [show n + 1 + j = n + (j + 1) by omega]
theorem pi2_enum {Jt : It} {H1 : Hp} {a : Addr} {xs : List V} {ds : List PyData} (ha : H1 a = some (.lst xs) ∧ ¬ F.S a) (hr : RpAll F H1 xs ds) : PI2 F (Ite F.K a) H1 (enD 0 ds) where
  go := fun D hD n d hd => by
    rw [enD_get, Option.map_eq_some_iff] at hd
    obtain ⟨y, hy, rfl⟩ := hd
    have rr : Rp (F.ext D) (upd H1 D (.lst [])) (.ref a) (.list ds) := Rep.ext (.lst ha hr) hD
    cases rr with
    | @lst _ xs' _ ha' hr' =>
    have hn : n < xs'.length := by rw [hr'.length]; exact (List.getElem?_eq_some_iff.mp hy).1
    obtain ⟨y', hy', ry'⟩ := hr'.got (List.getElem?_eq_getElem hn)
    rw [hy] at hy'
    cases hy'
    refine ⟨.int ((0 + n : Nat) : Int), xs'[n], .int _, ry', fun H' lz => ?_⟩
    have sq : SqL F.K H' a xs' := sql_of (S := (F.ext D).S) ⟨lz _ _ (Fm.sxA ha'.2) ha'.1, ha'.2⟩
    refine ⟨⟨xs', xs'[n], sq, List.getElem?_eq_getElem hn⟩, ?_⟩
    rintro v H'' ⟨T, x, rfl, hT, rfl, hx⟩
    have := hx xs' sq
    rw [List.getElem?_eq_getElem hn] at this
    cases this
    exact ⟨T, rfl, hT, by rw [Nat.zero_add]⟩
  stop := fun D hD H' lz => by
    have rr : Rp (F.ext D) (upd H1 D (.lst [])) (.ref a) (.list ds) := Rep.ext (.lst ha hr) hD
    cases rr with
    | @lst _ xs' _ ha' hr' =>
    have sq : SqL F.K H' a xs' := sql_of (S := (F.ext D).S) ⟨lz _ _ (Fm.sxA ha'.2) ha'.1, ha'.2⟩
    exact ⟨xs', sq, by rw [enD_len, hr'.length]; exact Nat.le_refl _⟩
theorem pi2_zg {H1 : Hp} {a b : Addr} {xs ys : List V} {ds es : List PyData} (ha : H1 a = some (.lst xs) ∧ ¬ F.S a) (hr : RpAll F H1 xs ds) (hb : H1 b = some (.tup ys) ∧ ¬ F.S b) (hs : RpAll F H1 ys es) (hl : ds.length = es.length) : PI2 F (Itg F.K a b) H1 (ds.zip es) where
  go := fun D hD n d hd => by
    obtain ⟨h1, h2⟩ := List.getElem?_zip_eq_some.mp hd
    have rr : Rp (F.ext D) (upd H1 D (.lst [])) (.ref a) (.list ds) := Rep.ext (.lst ha hr) hD
    have ss : Rp (F.ext D) (upd H1 D (.lst [])) (.ref b) (.tuple es) := Rep.ext (.tup hb hs) hD
    cases rr with
    | @lst _ xs' _ ha' hr' =>
    cases ss with
    | @tup _ ys' _ hb' hs' =>
    have hn : n < xs'.length := by rw [hr'.length]; exact (List.getElem?_eq_some_iff.mp h1).1
    have hn2 : n < ys'.length := by rw [hs'.length]; exact (List.getElem?_eq_some_iff.mp h2).1
    obtain ⟨x', hx', rx'⟩ := hr'.got (List.getElem?_eq_getElem hn)
    obtain ⟨y', hy', ry'⟩ := hs'.got (List.getElem?_eq_getElem hn2)
    rw [h1] at hx'
    rw [h2] at hy'
    cases hx'
    cases hy'
    refine ⟨xs'[n], ys'[n], rx', ry', fun H' lz => ?_⟩
    have sq : SqL F.K H' a xs' := sql_of (S := (F.ext D).S) ⟨lz _ _ (Fm.sxA ha'.2) ha'.1, ha'.2⟩
    have st : SqT F.K H' b ys' := sqt_of (S := (F.ext D).S) ⟨lz _ _ (Fm.sxA hb'.2) hb'.1, hb'.2⟩
    refine ⟨⟨xs', ys', xs'[n], ys'[n], sq, st, List.getElem?_eq_getElem hn, List.getElem?_eq_getElem hn2⟩, ?_⟩
    rintro v H'' ⟨T, x, y, rfl, hT, rfl, hx, hy⟩
    have e1 := hx xs' sq
    have e2 := hy ys' st
    rw [List.getElem?_eq_getElem hn] at e1
    rw [List.getElem?_eq_getElem hn2] at e2
    cases e1
    cases e2
    exact ⟨T, rfl, hT, rfl⟩
  stop := fun D hD H' lz => by
    have rr : Rp (F.ext D) (upd H1 D (.lst [])) (.ref a) (.list ds) := Rep.ext (.lst ha hr) hD
    have ss : Rp (F.ext D) (upd H1 D (.lst [])) (.ref b) (.tuple es) := Rep.ext (.tup hb hs) hD
    cases rr with
    | @lst _ xs' _ ha' hr' =>
    cases ss with
    | @tup _ ys' _ hb' hs' =>
    have sq : SqL F.K H' a xs' := sql_of (S := (F.ext D).S) ⟨lz _ _ (Fm.sxA ha'.2) ha'.1, ha'.2⟩
    have st : SqT F.K H' b ys' := sqt_of (S := (F.ext D).S) ⟨lz _ _ (Fm.sxA hb'.2) hb'.1, hb'.2⟩
    refine ⟨xs', ys', sq, st, .inl ?_⟩
    rw [List.length_zip, hr'.length]; omega
/-- [elt for x, x1 in enumerate(e)], e a list -/
theorem we_compE (i i1 : Nat) (hne : i ≠ i1) (b : Blk2 C scope i x i1 x1) (hK : F.K = C.K) (hg : C.sc.names.lookup ("enumerate" : Str) = some .globalImplicit) (hm : C.mg ("enumerate" : Str) = none)
    (hse : ∀ env : Env, starEach [e] env = [(false, eval e env)]) (hs : ∀ (env : Env) (v : Value), foldedSetIterable (.Call (.Name "enumerate" pr) [e] [] pr2) env v = pure v) (g : Nat → PyData → PyData)
    (h : WPE F C e ρ k fun k1 d => ∃ ds : List PyData, d = .list ds ∧ ds.length ≤ 1000000 ∧ (∀ D (j : Nat) (y : PyData), ds[j]? = some y → WPE (F.ext D) (C.blk scope) elt ((ρ.set i (.d (.int (j : Int)))).set i1 (.d y)) k1 fun k2 z => k2 = k1 ∧ z = g j y) ∧ Φ k1 (.list (ds.mapIdx g))) :
    WPE F C (.ListComp elt [⟨.Tuple [.Name x px, .Name x1 px1] kk p3, .Call (.Name "enumerate" pr) [e] [] pr2, [], 0⟩] scope pos) ρ k Φ :=
  of_pe (fun X fx => pe_lc (own := [(x, i), (x1, i1)]) (wi := iEnum C.K (tCons (tE C e) tNil)) fx.calm (by rw [fx.N]; exact b.t.hN) (by rw [← fx.K]; exact pi_enum (by show X.env.scope.names.lookup ("enumerate" : Str) = _; rw [fx.sc]; exact hg) (by rw [fx.mg]; exact hm) (pa_cons (peE fx) pa_nil (hse X.env)) (hse X.env)) (by rw [fx.N, fx.sc]; exact b.ok) (fun s H a cl fp => pgTup (n := 2) (fx.blk s H scope a cl fp) (pgs_cons (b.t.pg (fx.blk s H scope a cl fp)) (pgs_cons (b.t1.pg (fx.blk s H scope a cl fp)) pgs_nil)) (by rfl) (by rfl)) (fun s H a cl fp => pts_nil) (fun s H a cl fp => peE (fx.blk s H scope a cl fp)) (hs X.env))
    (we_lcG i i1 hne hK fun σ H R en j q => by
      show tE C e σ H _
      refine h σ H _ en j fun v d k1 H1 l1 j1 r ⟨ds, e, hz, hstep, hend⟩ => ?_
      subst e
      cases r with
      | @lst a xs _ ha hr =>
      refine ⟨a, xs, rfl, hK ▸ sql_of ha, ?_⟩
      rw [← hK]
      refine q _ k1 H1 (enD 0 ds) l1 j1 (pi2_enum (Jt := Ite F.K a) ha hr) ⟨fun n k' acc => k' = k1 ∧ acc = (ds.take n).mapIdx g, by rw [enD_len]; exact hz, ⟨rfl, by simp⟩, ?_, ?_⟩
      · rintro D n d k' acc hd ⟨rfl, rfl⟩
        rw [enD_get, Option.map_eq_some_iff] at hd
        obtain ⟨y, hy, rfl⟩ := hd
        refine wt_yes ?_
        rw [if_pos rfl]
        have := hstep D n y hy
        rw [Nat.zero_add]
        refine this.imp fun k2 z ⟨e1, e2⟩ => ⟨e1, ?_⟩
        have hn : n < ds.length := (List.getElem?_eq_some_iff.mp hy).1
        rw [take_next hy, List.mapIdx_append, List.length_take, Nat.min_eq_left (Nat.le_of_lt hn), e2]
        simp
      · rintro k' acc ⟨rfl, rfl⟩
        rw [enD_len, List.take_length]
        exact hend)
/-- [elt for x, x1 in zip(e, e2)], e a list and e2 a tuple of one length -/
theorem we_compZ (i i1 : Nat) (hne : i ≠ i1) (b : Blk2 C scope i x i1 x1) (hK : F.K = C.K) (hg : C.sc.names.lookup ("zip" : Str) = some .globalImplicit) (hm : C.mg ("zip" : Str) = none)
    (hs0 : ∀ env : Env, starEach [e, e2] env = (false, eval e env) :: starEach [e2] env) (hs2 : ∀ env : Env, starEach [e2] env = (false, eval e2 env) :: starEach [] env) (hpl : ∀ env : Env, (backTo pr2 (starEach [e2] env)).any (·.1) = false) (hs : ∀ (env : Env) (v : Value), foldedSetIterable (.Call (.Name "zip" pr) [e, e2] [] pr2) env v = pure v) (g : PyData → PyData → PyData)
    (h : WPE F C e ρ k fun k1 d => WPE F C e2 ρ k1 fun k2 d' => ∃ ds es : List PyData, d = .list ds ∧ d' = .tuple es ∧ ds.length = es.length ∧ ds.length ≤ 1000000 ∧ (∀ D (j : Nat) (y z : PyData), ds[j]? = some y → es[j]? = some z → WPE (F.ext D) (C.blk scope) elt ((ρ.set i (.d y)).set i1 (.d z)) k2 fun k3 u => k3 = k2 ∧ u = g y z) ∧ Φ k2 (.list (List.zipWith g ds es))) :
    WPE F C (.ListComp elt [⟨.Tuple [.Name x px, .Name x1 px1] kk p3, .Call (.Name "zip" pr) [e, e2] [] pr2, [], 0⟩] scope pos) ρ k Φ :=
  of_pe (fun X fx => pe_lc (own := [(x, i), (x1, i1)]) (wi := iZg C.K (tCons (tE C e) (tCons (tE C e2) tNil))) fx.calm (by rw [fx.N]; exact b.t.hN) (by rw [← fx.K]; exact pi_zg (by show X.env.scope.names.lookup ("zip" : Str) = _; rw [fx.sc]; exact hg) (by rw [fx.mg]; exact hm) (pa_cons (peE fx) (pa_cons (peE fx) pa_nil (hs2 X.env)) (hs0 X.env)) (hs0 X.env) (hpl X.env)) (by rw [fx.N, fx.sc]; exact b.ok) (fun s H a cl fp => pgTup (n := 2) (fx.blk s H scope a cl fp) (pgs_cons (b.t.pg (fx.blk s H scope a cl fp)) (pgs_cons (b.t1.pg (fx.blk s H scope a cl fp)) pgs_nil)) (by rfl) (by rfl)) (fun s H a cl fp => pts_nil) (fun s H a cl fp => peE (fx.blk s H scope a cl fp)) (hs X.env))
    (we_lcG i i1 hne hK fun σ H R en j q => by
      show tE C e σ H _
      refine h σ H _ en j fun v d k1 H1 l1 j1 r hh => ?_
      show tE C e2 σ H1 _
      refine hh σ H1 _ (en.le l1) j1 fun v2 d2 k2 H2 l2 j2 r2 ⟨ds, es, e1, e2, hl, hz, hstep, hend⟩ => ?_
      subst e1 e2
      have r := r.le l2.lz
      cases r with
      | @lst a xs _ ha hr =>
      cases r2 with
      | @tup b ys _ hb hrb =>
      refine ⟨a, b, xs, ys, rfl, hK ▸ sql_of ha, hK ▸ sqt_of hb, ?_⟩
      rw [← hK]
      have hlz : (ds.zip es).length = ds.length := by rw [List.length_zip]; omega
      refine q _ k2 H2 (ds.zip es) (l1.trans l2) j2 (pi2_zg ha hr hb hrb hl) ⟨fun n k' acc => k' = k2 ∧ acc = ((ds.zip es).take n).map fun p => g p.1 p.2, by rw [hlz]; exact hz, ⟨rfl, by simp⟩, ?_, ?_⟩
      · rintro D n d k' acc hd ⟨rfl, rfl⟩
        obtain ⟨h1, h2⟩ := List.getElem?_zip_eq_some.mp hd
        refine wt_yes ?_
        rw [if_pos rfl]
        refine (hstep D n d.1 d.2 h1 h2).imp fun k2 z ⟨e1, e2⟩ => ⟨e1, ?_⟩
        rw [take_next hd, List.map_append, e2]; rfl
      · rintro k' acc ⟨rfl, rfl⟩
        rw [List.take_length]
        rw [List.zip, List.map_zipWith]; exact hend)
end
/-! ### all, any of a list of bools -/
section
variable {F : Fm} {C : Cs} {ρ : Rho} {k : Nat} {Φ : Nat → PyData → Prop} {pos p : Pos} {e : Expr}
theorem RpAll.bls {H : Hp} : ∀ {bs : List Bool} {vs : List V}, RpAll F H vs (bs.map PyData.bool) → vs = bs.map V.bl
  | [], _, h => by cases h; rfl
  | b :: bs, _, h => by
    cases h with
    | cons r1 r2 =>
    cases r1
    rw [RpAll.bls r2]; rfl
theorem allK {X : Cx} (fx : Fits C X) : CallR X (.builtin "all") (rAll C.K) := by rw [← fx.K]; exact cr_all fx.calm
theorem anyK {X : Cx} (fx : Fits C X) : CallR X (.builtin "any") (rAny C.K) := by rw [← fx.K]; exact cr_any fx.calm
theorem we_all (hK : F.K = C.K) (hg : C.sc.names.lookup ("all" : Str) = some .globalImplicit) (hm : C.mg ("all" : Str) = none) (hs : ∀ env : Env, starEach [e] env = (false, eval e env) :: starEach [] env) (h : WPE F C e ρ k fun k1 x => ∃ bs : List Bool, x = .list (bs.map PyData.bool) ∧ Φ k1 (.bool (bs.all id))) : WPE F C (.Call (.Name "all" p) [e] [] pos) ρ k Φ :=
  we_callB (id := "all") (fun X fx => allK fx) hg hm (by decide +kernel) (wa_one hs (h.imp fun k1 x ⟨ns, e, p⟩ => fun H vs Q j r q => by
    subst e
    cases r with
    | cons r1 r2 =>
    cases r2
    cases r1 with
    | @lst a xs _ ha hr => exact ⟨a, ns, rfl, RpAll.bls hr ▸ hK ▸ sql_of ha, q _ _ k1 H .refl j (.bl _) p⟩)) (by decide) (by decide) hs
theorem we_any (hK : F.K = C.K) (hg : C.sc.names.lookup ("any" : Str) = some .globalImplicit) (hm : C.mg ("any" : Str) = none) (hs : ∀ env : Env, starEach [e] env = (false, eval e env) :: starEach [] env) (h : WPE F C e ρ k fun k1 x => ∃ bs : List Bool, x = .list (bs.map PyData.bool) ∧ Φ k1 (.bool (bs.any id))) : WPE F C (.Call (.Name "any" p) [e] [] pos) ρ k Φ :=
  we_callB (id := "any") (fun X fx => anyK fx) hg hm (by decide +kernel) (wa_one hs (h.imp fun k1 x ⟨ns, e, p⟩ => fun H vs Q j r q => by
    subst e
    cases r with
    | cons r1 r2 =>
    cases r2
    cases r1 with
    | @lst a xs _ ha hr => exact ⟨a, ns, rfl, RpAll.bls hr ▸ hK ▸ sql_of ha, q _ _ k1 H .refl j (.bl _) p⟩)) (by decide) (by decide) hs
end
/-! ### xs[e:] of a list -/
section
variable {F : Fm} {C : Cs} {ρ : Rho} {k : Nat} {Φ : Nat → PyData → Prop} {pos p2 : Pos} {a e : Expr}
theorem RpAll.drp {H : Hp} : ∀ {ds : List PyData} {vs : List V} (m : Nat), RpAll F H vs ds → RpAll F H (vs.drop m) (ds.drop m)
  | _, _, 0, h => h
  | _, _, m + 1, h => by
    cases h with
    | nil => exact .nil
    | cons r1 r2 => exact RpAll.drp m r2
theorem we_sliceF (hK : F.K = C.K) (h : WPE F C a ρ k fun k1 x => WPE F C e ρ k1 fun k2 y => ∃ ds, ∃ m : Nat, x = .list ds ∧ y = .int (m : Int) ∧ Φ k2 (.list (ds.drop m))) : WPE F C (.Subscript a (.Slice (some e) none none p2) pos) ρ k Φ :=
  of_pe (fun X fx => pe_slice (slLK fx) (peE fx) (po_some (peE fx)) po_none) fun σ H Q en j q => by
    show tE C a σ H _
    refine h σ H _ en j fun v d k1 H1 l1 j1 r hx => ?_
    show tE C e σ H1 _
    refine hx σ H1 _ (en.le l1) j1 fun vy y k2 H2 l2 j2 r2 ⟨ds, m, e1, e2, p⟩ => ?_
    subst e1 e2
    have r' := r.le l2.lz
    cases r' with
    | @lst a xs _ ha hr =>
    cases r2
    refine ⟨(m : Int), rfl, a, xs, rfl, hK ▸ sql_of ha, fun l hl => ?_⟩
    have ec : cutV xs (some (m : Int)) none = xs.drop m := by
      unfold cutV
      rw [HT.sIx_nat, HT.sIx_none]
      by_cases hm : m ≤ xs.length
      · rw [Nat.min_eq_left hm, List.take_of_length_le (by rw [List.length_drop]; exact Nat.le_refl _)]
      · rw [Nat.min_eq_right (by omega), Nat.sub_self, List.take_zero, List.drop_of_length_le (by omega)]
    rw [ec]
    exact q _ _ k2 _ ((l1.trans l2).trans (.new hl)) (j2.new hl) (rep_newL j2 hl (RpAll.drp m hr)) p
end
end Dl

namespace Dl
open PySem PySem.Spec PyProof.Rows L2
section
variable {F : Fm} {C : Cs} {ρ : Rho} {k : Nat} {Φ : Nat → PyData → Prop} {pos p p1 p2 p3 px : Pos} {x : Str}
/-- sorted(own list of ints) -/
theorem we_sortOwnI (i : Nat) {o : Addr} {ns : List Int} (hK : F.K = C.K) (hN : C.N[i]? = some x) (hv : Vis C.sc x) (hr : ρ[i]? = some (.own o (ns.map PyData.int))) (hg : C.sc.names.lookup ("sorted" : Str) = some .globalImplicit) (hm : C.mg ("sorted" : Str) = none)
    (h : ∀ ms : List Int, ms.Perm ns → ms.Pairwise (· ≤ ·) → Φ k (.list (ms.map PyData.int))) (hd : (x == ("__debug__" : Str)) = false := by decide) (hcd : (x == ("__classdict__" : Str)) = false := by decide) (hse : ∀ env : Env, starEach [.Name x px] env = (false, eval (.Name x px) env) :: starEach [] env := by intro _; rfl) :
    WPE F C (.Call (.Name "sorted" p) [.Name x px] [] pos) ρ k Φ :=
  of_pe (fun X fx => pe_callB (srtK fx) (by show X.env.scope.names.lookup ("sorted" : Str) = _; rw [fx.sc]; exact hg) (by rw [fx.mg]; exact hm) (by decide +kernel) (pa_cons (pe_var (i := i) (by rw [fx.N]; exact hN) (by rw [fx.sc]; exact hv) hd hcd) pa_nil (hse X.env)) (by decide) (by decide) (hse X.env) rfl) fun σ H Q en j q => by
    obtain ⟨hσ, hS, hM, h0, vs, hv', rv⟩ := en.own hr
    refine ⟨_, hσ, o, ns, rfl, rep_vints rv ▸ SqL.of hv', fun ms l hp hw hl => ?_⟩
    exact q _ _ k _ (.new hl) (j.new hl) (rep_newL j hl (RepAll.of_ints ms)) (h ms hp hw)
/-- sorted(set(own list of ints)) -/
theorem we_sortSetOwn (i : Nat) {o : Addr} {ns : List Int} (hK : F.K = C.K) (hN : C.N[i]? = some x) (hv : Vis C.sc x) (hr : ρ[i]? = some (.own o (ns.map PyData.int))) (hg : C.sc.names.lookup ("sorted" : Str) = some .globalImplicit) (hm : C.mg ("sorted" : Str) = none) (hg2 : C.sc.names.lookup ("set" : Str) = some .globalImplicit) (hm2 : C.mg ("set" : Str) = none)
    (hz : ns.length ≤ 1000) (h : ∀ ms : List Int, ms.Pairwise (· < ·) → (∀ i, i ∈ ms ↔ i ∈ ns) → Φ k (.list (ms.map PyData.int))) (hd : (x == ("__debug__" : Str)) = false := by decide) (hcd : (x == ("__classdict__" : Str)) = false := by decide) (hs : ∀ env : Env, starEach [.Name x px] env = (false, eval (.Name x px) env) :: starEach [] env := by intro _; rfl)
    (hs2 : ∀ env : Env, starEach [.Call (.Name "set" p2) [.Name x px] [] p3] env = (false, eval (.Call (.Name "set" p2) [.Name x px] [] p3) env) :: starEach [] env := by intro _; rfl) :
    WPE F C (.Call (.Name "sorted" p1) [.Call (.Name "set" p2) [.Name x px] [] p3] [] pos) ρ k Φ :=
  of_pe (t := tCB (rSortSetA C.w) (tCons (tCB (rSetL C.K C.w) (tCons (tVar i) tNil)) tNil)) (fun X fx => pe_callB (by rw [← fx.w]; exact cr_sortSetA fx.calm) (by show X.env.scope.names.lookup ("sorted" : Str) = _; rw [fx.sc]; exact hg) (by rw [fx.mg]; exact hm) (by decide +kernel)
      (pa_cons (pe_callTy (by rw [← fx.w, ← fx.K]; exact cr_setL fx.calm) (by show X.env.scope.names.lookup ("set" : Str) = _; rw [fx.sc]; exact hg2) (by rw [fx.mg]; exact hm2) (by decide +kernel) (pa_cons (pe_var (i := i) (by rw [fx.N]; exact hN) (by rw [fx.sc]; exact hv) hd hcd) pa_nil (hs X.env)) (by decide) (by decide) (hs X.env) rfl) pa_nil (hs2 X.env)) (by decide) (by decide) (hs2 X.env) rfl) fun σ H Q en j q => by
    obtain ⟨hσ, hS, hM, h0, vs, hv', rv⟩ := en.own hr
    refine ⟨_, hσ, o, ns, rfl, rep_vints rv ▸ SqL.of hv', hz, fun l c hl hc => ?_⟩
    refine ⟨l, _, c, rfl, upd_same, fun ms l2 hpw hmem _ hl2 => ?_⟩
    have j2 := j.new (o := SetO C.w l (fun j => decide (j ∈ ns)) c) hl
    refine q _ _ k _ ((Le.new hl).trans (.new hl2)) (j2.new hl2) (rep_newL j2 hl2 (RepAll.of_ints ms)) (h ms hpw fun i => ?_)
    rw [hmem i, decide_eq_true_eq]
end
section
variable {F : Fm} {C : Cs} {ρ : Rho} {k : Nat} {Φ : Nat → PyData → Prop} {pos : Pos} {a b : Expr}
theorem inV_bools {v : Bool} : ∀ (bs : List Bool), inV (.bl v) (bs.map V.bl) = bs.any (· == v)
  | [] => by simp [inV]
  | x :: bs => by
    have ih := inV_bools (v := v) bs
    unfold inV at ih ⊢
    rw [List.map_cons, List.any_cons, ih, List.any_cons]
    congr 1
/-- a bool in a list of bools -/
theorem we_inB (hK : F.K = C.K) (hm : behindInMarks .In b = false) (h : WPE F C a ρ k fun k1 x => WPE F C b ρ k1 fun k2 y => ∃ (v : Bool) (bs : List Bool), x = .bool v ∧ seqD y = some (bs.map PyData.bool) ∧ Φ k2 (.bool (bs.any (· == v)))) : WPE F C (.Compare a [.In] [b] pos) ρ k Φ :=
  we_cmp (fun X fx => opInK fx) hm (h.imp fun k1 x h1 => h1.imp fun k2 y ⟨v, bs, e1, e2, p⟩ => by
    subst e1
    exact rd_in (neg := false) hK e2 rfl (by rw [List.all_map]; exact List.all_eq_true.mpr fun _ _ => rfl) (fun H vx vs rx rv => by cases rx; rw [RpAll.bls rv]; exact inV_bools bs) p)
end
end Dl

namespace Dl
open PySem PySem.Spec PyProof.Rows L2
section
variable {F : Fm} {C : Cs} {ρ : Rho} {k : Nat} {P : DE} {pos pos' pos2 p p2 px : Pos} {e : Expr} {x : Str} {body : List Stmt}
/-- for x in reversed(range(e)) -/
theorem ws_for_revR (i : Nat) (t : Tgt C i x) (hg : C.sc.names.lookup ("reversed" : Str) = some .globalImplicit) (hm : C.mg ("reversed" : Str) = none) (hg2 : C.sc.names.lookup ("range" : Str) = some .globalImplicit) (hm2 : C.mg ("range" : Str) = none)
    (hse : ∀ env : Env, starEach [e] env = (false, eval e env) :: starEach [] env) (hse2 : ∀ env : Env, starEach [.Call (.Name "range" p2) [e] [] pos2] env = (false, eval (.Call (.Name "range" p2) [e] [] pos2) env) :: starEach [] env)
    (hfs : ∀ (env : Env) (v : Value), foldedSetIterable (.Call (.Name "reversed" p) [.Call (.Name "range" p2) [e] [] pos2] [] pos') env v = pure v)
    (h : WPE F C e ρ k fun k1 d => ∃ (I : Nat → Nat → Rho → Prop) (z : Nat), d = .int (z : Int) ∧ z ≤ 1000000 ∧ I 0 k1 ρ ∧ (∀ (j : Nat) k' ρ', j < z → I j k' ρ' → WPB F C body (ρ'.set i (.d (.int ((z - 1 - j : Nat) : Int)))) k' (P.loop (I (j + 1)))) ∧ (∀ k' ρ', I z k' ρ' → P.nx k' ρ')) :
    WPS F C (.For (.Name x px) (.Call (.Name "reversed" p) [.Call (.Name "range" p2) [e] [] pos2] [] pos') body [] pos) ρ k P :=
  of_ps (t := tFor (iRevR (tRg1 (tE C e))) (gName i) (tB C body)) (fun X fx => ps_for (by rw [fx.xe]; exact PassesOwn.never) fx.calm (pi_revR (by show X.env.scope.names.lookup ("reversed" : Str) = _; rw [fx.sc]; exact hg) (by rw [fx.mg]; exact hm) (prg_1 (by show X.env.scope.names.lookup ("range" : Str) = _; rw [fx.sc]; exact hg2) (by rw [fx.mg]; exact hm2) (peE fx) (hse X.env)) (hse2 X.env)) (t.pg fx) (pbB fx) (hfs X.env)) fun σ H E en j q1 q2 q3 q4 => by
    show tE C e σ H _
    refine h σ H _ en j fun v d k1 H1 l1 j1 r hh => ?_
    obtain ⟨I, z, e, hz, i0, hstep, hend⟩ := hh
    subst e
    cases r
    refine ⟨(z : Int), rfl, ?_⟩
    refine ⟨by decide, by decide, by omega, by omega, ?_⟩
    have ez : (((z : Int)) - 0).toNat = z := by omega
    rw [ez]
    refine ⟨fun n m σ' H' => m + n = z ∧ ∃ k' ρ', EnvOk F H' σ' ρ' ∧ J F k' H' ∧ Lz F H1 H' ∧ I n k' ρ', ⟨z, by omega, k1, ρ, en.le l1, j1, .refl, i0⟩, ?_⟩
    rintro n m σ' H' ⟨hm', k', ρ', en', j', lz, ii⟩
    by_cases over : n = z
    · subst over
      exact .inl ⟨Nat.le_refl _, q1 ρ' σ' k' H' (l1.lz.trans lz) en' j' (hend k' ρ' ii)⟩
    · have lt : n < z := by omega
      refine .inr ⟨lt, fun σ2 H2' => ∃ k' ρ', EnvOk F H2' σ2 ρ' ∧ J F k' H2' ∧ Lz F H1 H2' ∧ I (n + 1) k' ρ', fun σ2 H2' w => ⟨m - 1, by omega, by omega, w⟩, ?_⟩
      rintro v H3 ⟨rfl, rfl⟩
      have ev : (0 : Int) + ((z : Nat) : Int) - 1 + ((n : Nat) : Int) * (-1) = ((z - 1 - n : Nat) : Int) := by omega
      rw [ev]
      refine hstep n k' ρ' lt ii _ _ _ (en'.set (sv := .d (.int ((z - 1 - n : Nat) : Int))) ⟨_, rfl, .int _⟩) j' ?_ q2 ?_ ?_
      · exact fun ρ2 σ2 k2' H2' l2' e2 j2' p => ⟨k2', ρ2, e2, j2', lz.trans l2', p⟩
      · exact fun ρ2 σ2 k2' H2' l2' e2 j2' p => q1 ρ2 σ2 k2' H2' (l1.lz.trans (lz.trans l2')) e2 j2' p
      · exact fun ρ2 σ2 k2' H2' l2' e2 j2' p => ⟨k2', ρ2, e2, j2', lz.trans l2', p⟩
end
end Dl

namespace Dl
open PySem PySem.Spec PyProof.Rows L2
section
variable {F : Fm} {C : Cs} {ρ : Rho} {k : Nat} {P : DE} {pos p2 px : Pos} {es : List Expr} {x : Str} {rest : List Stmt}
/-- x = [..] as an own list for one statement, then data again -/
theorem wb_ownLst1 (i : Nat) {st : Stmt} (t : Tgt C i x) (hi : i < ρ.length) (hs : ∀ env : Env, env.scope = C.sc → swapsWith (.List es p2) (some (.Name x px)) pos.line env = pure false)
    (h : WPA F C es ρ k fun k2 ds => ds.length ≤ 1000000 ∧
      ∀ o, WPS (F.ext o) C st (ρ.set i (.own o ds)) k2 { nx := fun k' ρ' => ∃ ys, ρ'[i]? = some (.own o ys) ∧ (ρ'.set i .un).all plainB = true ∧ WPB F C rest (ρ'.set i (.d (.list ys))) k' P, rt := P.rt, bk := fun _ _ => False, ct := fun _ _ => False }) :
    WPB F C (.Assign [.Name x px] (.List es p2) pos :: st :: rest) ρ k P :=
  of_pb (fun X fx => pss_cons (ps_set (by rw [fx.N]; exact t.hN) (by rw [fx.N]; exact t.hi) (by rw [fx.sc]; exact t.hx) (pe_lst (paA fx)) (hs X.env fx.sc) (by rw [fx.fn, fx.sc]; exact t.hf)) (pss_cons (psS fx) (pbB fx))) fun σ H E en j q1 q2 q3 q4 => by
    refine h σ H _ en j fun xs ds k2 H2 l2 j2 hr ⟨hz, p⟩ => ?_
    refine ⟨by rw [hr.length]; exact Nat.le_trans hz (by decide), fun o no => ?_⟩
    have hM : ¬ F.M o := fun z => F.gl _ _ j2.g o z no
    have hS : ¬ F.S o := j2.fresh no
    have h0 : F.H0 o = none := j2.h0 hM no
    have en2 : EnvOk (F.ext o) (upd H2 o (.lst (xs))) (σ.set i (some (.ref o))) (ρ.set i (.own o ds)) :=
      ((en.le l2).ext no).set (sv := .own o ds) ⟨rfl, .inr rfl, hM, h0, xs, upd_same, hr.ext no⟩
    have lz0 : Lz F H H2 := l2.lz
    have lzo : ∀ H', Lz (F.ext o) (upd H2 o (.lst (xs))) H' → Lz F H H' := fun H' lz b u hb e => by
      have e2 := lz0 b u hb e
      have ne : b ≠ o := ne_of_none e2 no
      exact lz b u (fun z => z.elim (fun y => y.elim (fun q => hb (.inl q)) ne) fun q => hb (.inr q)) (by rw [upd_ne ne]; exact e2)
    refine p o (σ.set i (some (.ref o))) (upd H2 o (.lst (xs))) _ en2 ((j2.new no).ext (lv_new fun _ z => nomatch z)) ?_ ?_ ?_ ?_
    · rintro ρ' σ' k' H' lz en' j' ⟨zs, hown, hpl, hrest⟩
      have hlz := lzo H' lz
      obtain ⟨hσ', _, _, _, vs, hvs, rvs⟩ := en'.own hown
      have en3 : EnvOk F H' σ' (ρ'.set i (.d (.list zs))) := by
        intro m sv em
        by_cases hj : i = m
        · subst hj
          have hl : i < ρ'.length := (List.getElem?_eq_some_iff.mp hown).1
          rw [List.getElem?_set_self hl] at em
          cases em
          exact ⟨_, hσ', _, rfl, .lst ⟨hvs, hS⟩ rvs.unext⟩
        · rw [List.getElem?_set_ne hj] at em
          obtain ⟨y, qy, sy⟩ := en' m sv em
          refine ⟨y, qy, ?_⟩
          cases sv with
          | un => trivial
          | d d => obtain ⟨v, z, r⟩ := sy; exact ⟨v, z, r.unext⟩
          | raw v => exact sy
          | own o' xs' => exact (noOwn_of hpl m o' xs' (Ne.symm hj) em).elim
      exact hrest σ' H' E en3 j'.unext (fun ρ2 σ2 k2 H2 l2 => q1 ρ2 σ2 k2 H2 (hlz.trans l2)) q2 (fun ρ2 σ2 k2 H2 l2 => q3 ρ2 σ2 k2 H2 (hlz.trans l2)) (fun ρ2 σ2 k2 H2 l2 => q4 ρ2 σ2 k2 H2 (hlz.trans l2))
    · exact fun v d k' H' j' r' p => q2 v d k' H' j'.unext r'.unext p
    · exact fun _ _ _ _ _ _ _ z => z.elim
    · exact fun _ _ _ _ _ _ _ z => z.elim
end
section
variable {F : Fm} {C : Cs} {ρ : Rho} {k : Nat} {Φ : Nat → PyData → Prop} {pos : Pos} {elt iter iter1 : Expr} {scope : Scope} {x x1 : Str} {px px1 : Pos} {α β : Type}
/-- [elt for x in a tuple for x1 in a list], as a value -/
theorem we_comp2 (ei : α → PyData) (ej : β → PyData) (bs : α → List β) (g : α → β → PyData) (B : Nat) (i i1 : Nat) (hne : i ≠ i1) (b : Blk2 C scope i x i1 x1) (hK : F.K = C.K)
    (hs : ∀ (env : Env) (v : Value), foldedSetIterable iter env v = pure v) (hs1 : ∀ (env : Env) (v : Value), foldedSetIterable iter1 env v = pure v)
    (h : WPE F C iter ρ k fun k1 d => ∃ as : List α, d = .tuple (as.map ei) ∧ as.length * B ≤ 1000000 ∧ (∀ a ∈ as, (bs a).length ≤ B) ∧
      (∀ D (a : α), a ∈ as → WPE (F.ext D) (C.blk scope) iter1 ((ρ.set i1 .un).set i (.d (ei a))) k1 (fun k2 d2 => k2 = k1 ∧ d2 = .list ((bs a).map ej)) ∧
        ∀ b ∈ bs a, WPE (F.ext D) (C.blk scope) elt (((ρ.set i1 .un).set i (.d (ei a))).set i1 (.d (ej b))) k1 fun k3 y => k3 = k1 ∧ y = g a b) ∧ Φ k1 (.list (as.flatMap fun a => (bs a).map (g a)))) :
    WPE F C (.ListComp elt [⟨.Name x px, iter, [], 0⟩, ⟨.Name x1 px1, iter1, [], 0⟩] scope pos) ρ k Φ :=
  of_pe (t := tLc2 (iTup C.K (tE C iter)) (gName i) tYes (iList (C.blk scope).K (tE (C.blk scope) iter1)) (gName i1) tYes (tE (C.blk scope) elt) [i, i1] [i1]) (fun X fx => pe_lc2 (own := [(x, i), (x1, i1)]) (vs1 := [i1]) fx.calm (by rw [fx.N]; exact b.t.hN) (piT fx) (by rw [fx.N, fx.sc]; exact b.ok) (fun j hj => by simp at hj ⊢; exact .inr hj)
    (fun s H a cl fp => b.t.pg (fx.blk s H scope a cl fp)) (fun s H a cl fp => pts_nil) (fun s H a cl fp => piL (fx.blk s H scope a cl fp)) (fun s H a cl fp => b.t1.pg (fx.blk s H scope a cl fp)) (fun s H a cl fp => pts_nil) (fun s H a cl fp => peE (fx.blk s H scope a cl fp)) (hs X.env) (fun env => hs1 env))
    (we_lc2 ei ej bs g B i i1 hne hK h)
end
end Dl

namespace Dl
open PySem PySem.Spec PyProof.Rows L2
/-! ### expressions that change one own list: left.pop(e), and tuple([left.pop(e) for k in range(z)]) -/
theorem RepAll.erase {K : PySem.W.Frag} {S : Addr → Prop} {H : Hp} (n : Nat) : ∀ {ds : List PyData} {vs : List V}, RepAll K S H vs ds → RepAll K S H (vs.eraseIdx n) (ds.eraseIdx n) := by
  induction n with
  | zero =>
    intro ds vs h
    cases h with
    | nil => exact .nil
    | cons h1 h2 => exact h2
  | succ n ih =>
    intro ds vs h
    cases h with
    | nil => exact .nil
    | cons h1 h2 => exact .cons h1 (ih h2)
theorem seqIx_nat {n len : Nat} (h : n < len) : seqIndex? (n : Int) len = some n := by
  unfold seqIndex?
  have h1 : ¬ ((n : Int) < 0) := by omega
  simp only [h1, if_false]
  rw [if_pos (by simp; omega)]
  simp
def WX (F : Fm) (o : Addr) (t : TE) (ρ : Rho) (k : Nat) (Φ : Nat → List PyData → PyData → Prop) : Prop :=
  ∀ (σ : L2.St) (H : Hp) (Q : VK), EnvOk F H σ ρ → J F k H → (∀ v d k' ys ws H', LeD F o H H' → H' o = some (.lst ws) → RpAll F H' ws ys → J F k' H' → Rp F H' v d → Φ k' ys d → Q v H') → t σ H Q
section
variable {F : Fm} {C : Cs} {ρ : Rho} {k : Nat} {P : DE} {Φ : Nat → PyData → Prop} {Ξ : Nat → List PyData → PyData → Prop} {pos p p0 px py ap cp spos pr pr2 : Pos} {x y : Str} {rest : List Stmt} {e ez : Expr} {o : Addr} {scope : Scope}
theorem EnvOk.ownLd {H H' : Hp} {σ : L2.St} {i : Nat} {xs ys : List PyData} {ws : List V} (en : EnvOk F H σ ρ) (e : ρ[i]? = some (.own o xs)) (hno : (ρ.set i .un).all plainB = true) (l : LeD F o H H') (hw : H' o = some (.lst ws)) (r : RpAll F H' ws ys) : EnvOk F H' σ (ρ.set i (.own o ys)) := by
  obtain ⟨hσ, hS, hM, h0, vs, hv, rv⟩ := en.own e
  intro j sv ej
  by_cases hj : i = j
  · subst hj
    have hl : i < ρ.length := (List.getElem?_eq_some_iff.mp e).1
    rw [List.getElem?_set_self hl] at ej
    cases ej
    exact ⟨_, hσ, rfl, hS, hM, h0, ws, hw, r⟩
  · rw [List.getElem?_set_ne hj] at ej
    obtain ⟨z, q, s⟩ := en j sv ej
    refine ⟨z, q, ?_⟩
    cases sv with
    | un => trivial
    | d d => obtain ⟨v, z, r⟩ := s; exact ⟨v, z, r.le (l.lz hS)⟩
    | raw v => exact s
    | own o' xs' => exact (noOwn_of hno j o' xs' (Ne.symm hj) ej).elim
theorem WX.imp {t : TE} {Ξ' : Nat → List PyData → PyData → Prop} (h : WX F o t ρ k Ξ) (i : ∀ k' ys d, Ξ k' ys d → Ξ' k' ys d) : WX F o t ρ k Ξ' := fun σ H Q en j q => h σ H Q en j fun v d k' ys ws H' l hw r j' rv p => q v d k' ys ws H' l hw r j' rv (i k' ys d p)
/-- x.pop(e), x the own list -/
def tPop (C : Cs) (i : Nat) (e : Expr) : TE := tBM C.K "list" rPopAt (tVar i) (tCons (tE C e) tNil)
theorem pePop (i : Nat) {X : Cx} (fx : Fits C X) (hN : C.N[i]? = some x) (hv : Vis C.sc x) (hse : ∀ env : Env, starEach [e] env = (false, eval e env) :: starEach [] env)
    (hd : (x == ("__debug__" : Str)) = false := by decide) (hcd : (x == ("__classdict__" : Str)) = false := by decide)
    (hbm : ∀ X : Cx, ∀ {to : TE} {t : TA}, PE X (.Name x px) to → PA X [e] t → PE X (.Call (.Attribute (.Name x px) "pop" ap) [e] [] cp) (tBM X.K "list" rPopAt to t) := by exact fun X {to t} h1 h2 => pe_bm PySem.F.plainAttrs_list PySem.F.slot_list_pop PySem.F.type_list_pop mt_popAt h1 h2) :
    PE X (.Call (.Attribute (.Name x px) "pop" ap) [e] [] cp) (tPop C i e) := by
  unfold tPop
  rw [← fx.K]
  exact hbm X (pe_var (by rw [fx.N]; exact hN) (by rw [fx.sc]; exact hv) hd hcd) (pa_cons (peE fx) pa_nil (hse X.env))
theorem wx_pop (i : Nat) {xs : List PyData} (hr : ρ[i]? = some (.own o xs)) (hz : xs.length ≤ 1000000)
    (h : WPE F C e ρ k fun k1 d => ∃ (n : Nat) (y : PyData), d = .int n ∧ xs[n]? = some y ∧ Ξ k1 (xs.eraseIdx n) y) : WX F o (tPop C i e) ρ k Ξ := fun σ H Q en j q => by
  obtain ⟨hσ, hS, hM, h0, vs, hv', rv⟩ := en.own hr
  refine ⟨_, hσ, .inl ⟨rfl, _, SqL.of hv'⟩, ?_⟩
  show tE C e σ H _
  refine h σ H _ en j fun v d k1 H1 l1 j1 r1 ⟨n, y, ed, hy, p⟩ => ?_
  subst ed
  cases r1
  have hv1 : H1 o = some (.lst vs) := l1 o _ (Fm.mxA hM) hv'
  obtain ⟨u, hu, ru⟩ := (rv.le l1.lz).get hy
  have hn : n < vs.length := (List.getElem?_eq_some_iff.mp hu).1
  have hlen := rv.length
  have lz : Lz F H1 (upd H1 o (.lst (vs.eraseIdx n))) := fun b u hb z => by rw [upd_ne (show b ≠ o from fun y => hb (.inl (y ▸ hS)))]; exact z
  refine ⟨o, vs, n, n, u, rfl, rfl, hv1, by omega, by omega, seqIx_nat hn, hu, ?_⟩
  refine q u y k1 _ _ _ (fun b u hb hne z => by rw [upd_ne hne]; exact l1 b u hb z) upd_same (((rv.le l1.lz).erase n).le lz) (j1.own hM h0 (pl_lst (l1 o _ (Fm.mxA hM) hv'))) (ru.le lz) p
/-- [elt for _ in range(z)], elt changes the own list -/
theorem wx_lcR (i il : Nat) {tl : TE} {te : TE} {xs : List PyData} (hne : i ≠ il) (hr : ρ[il]? = some (.own o xs)) (hno : (ρ.set il .un).all plainB = true)
    (h : WE F tl ρ k fun k1 d => ∃ (I : Nat → Nat → List PyData → List PyData → Prop) (z : Int), d = .int z ∧ -(2 ^ 62) ≤ z ∧ z ≤ 1000000 ∧ I 0 k1 xs [] ∧ (∀ D (j : Nat) k' ys acc, j < z.toNat → I j k' ys acc → WX (F.ext D) o te ((ρ.set il (.own o ys)).set i (.d (.int j))) k' fun k2 ys' z => I (j + 1) k2 ys' (acc ++ [z])) ∧ (∀ k' ys acc, I z.toNat k' ys acc → Ξ k' ys (.list acc))) :
    WX F o (tLc (iRng1 (tCons tl tNil)) (gName i) tYes te [i]) ρ k Ξ := fun σ H Q en j q => by
  show tl σ H _
  refine h σ H _ en j fun v d k1 H1 l1 j1 r hh => ?_
  obtain ⟨I, z, e, z1, z2, i0, hstep, hend⟩ := hh
  subst e
  cases r
  refine ⟨z, rfl, z1, by omega, fun D hD => ?_⟩
  have en1 := en.le l1
  have hM : ¬ F.M D := fun z => F.gl _ _ j1.g D z hD
  have hS : ¬ F.S D := j1.fresh hD
  have h0 : F.H0 D = none := j1.h0 hM hD
  obtain ⟨_, hSo, hMo, h0o, vs0, hv0, rv0⟩ := en1.own hr
  have hoD : o ≠ D := ne_of_none hv0 hD
  have en2 : EnvOk (F.ext D) (upd H1 D (.lst [])) σ ρ := en1.ext hD
  have lzo : ∀ H', (∀ b u, ¬ F.Mx b u → b ≠ D → b ≠ o → upd H1 D (.lst []) b = some u → H' b = some u) → Lz (F.ext D) (upd H1 D (.lst [])) H' := fun H' ld b u hb e => ld b u (fun z => hb (z.imp (fun q => .inl (F.ms b q)) id)) (fun z => hb (.inl (.inr z))) (fun z => hb (.inl (.inl (z ▸ hSo)))) e
  have mkEnv : ∀ H' ys ws, (∀ b u, ¬ F.Mx b u → b ≠ D → b ≠ o → upd H1 D (.lst []) b = some u → H' b = some u) → H' o = some (.lst ws) → RpAll (F.ext D) H' ws ys → EnvOk (F.ext D) H' σ (ρ.set il (.own o ys)) := by
    intro H' ys ws ld hw rw'
    intro m sv em
    by_cases hj : il = m
    · subst hj
      have hl : il < ρ.length := (List.getElem?_eq_some_iff.mp hr).1
      rw [List.getElem?_set_self hl] at em
      cases em
      exact ⟨_, (en2.own hr).1, rfl, .inl hSo, hMo, h0o, ws, hw, rw'⟩
    · rw [List.getElem?_set_ne hj] at em
      obtain ⟨y, qy, sy⟩ := en2 m sv em
      refine ⟨y, qy, ?_⟩
      cases sv with
      | un => trivial
      | d d => obtain ⟨v, z, r⟩ := sy; exact ⟨v, z, r.le (lzo H' ld)⟩
      | raw v => exact sy
      | own o' xs' => exact (noOwn_of hno m o' xs' (Ne.symm hj) em).elim
  refine lc_range (lo := 0) (n := z.toNat) (fun n H' => ∃ k' vs acc ys ws, acc.length ≤ n ∧ J (F.ext D) k' H' ∧ (∀ b u, ¬ F.Mx b u → b ≠ D → b ≠ o → upd H1 D (.lst []) b = some u → H' b = some u) ∧ H' D = some (.lst vs) ∧ RpAll (F.ext D) H' vs acc ∧ H' o = some (.lst ws) ∧ RpAll (F.ext D) H' ws ys ∧ I n k' ys acc)
    ⟨k1, [], [], xs, vs0, Nat.le_refl _, (j1.new hD).ext (lv_new fun _ z => nomatch z), fun _ _ _ _ _ e => e, upd_same, .nil, by rw [upd_ne hoD]; exact hv0, rv0.ext hD, i0⟩ ?_ ?_
  · rintro n H' hn ⟨k', vs, acc, ys, ws, hle, j', ld, hd, ra, hw, rw', ii⟩
    rw [Int.zero_add]
    show (wipe ((wipe σ [i]).set i (some (.int n))) [i] = wipe σ [i] ∧ _)
    rw [set_wipe]
    refine ⟨wipe_set σ, ?_⟩
    have en' := mkEnv H' ys ws ld hw rw'
    unfold tYes
    dsimp only
    rw [if_pos rfl]
    refine hstep D n k' ys acc hn ii (σ.set i (some (.int n))) H' _ (en'.set (sv := .d (.int n)) ⟨_, rfl, .int n⟩) j' fun v d k2 ys2 ws2 H4 l4 hw4 rw4 j4 r4 p => ?_
    have hd4 : H4 D = some (.lst vs) := l4 D _ (Fm.mxA hM) (Ne.symm hoD) hd
    have ra4 : RpAll (F.ext D) H4 vs acc := ra.le (l4.lz (F := F.ext D) (.inl hSo))
    have lz : Lz (F.ext D) H4 (upd H4 D (.lst (vs ++ [v]))) := fun b u hb e => by rw [upd_ne (show b ≠ D from fun z => hb (.inl (.inr z)))]; exact e
    refine ⟨vs, hd4, by rw [ra.length]; exact Nat.lt_of_le_of_lt (show acc.length ≤ 1000000 by omega) (by decide), k2, vs ++ [v], acc ++ [d], ys2, ws2, by rw [List.length_append]; show _ + 1 ≤ _; omega, j4.own hM h0 (pl_lst hd4), ?_, upd_same, (ra4.le lz).append (.cons (r4.le lz) .nil), by rw [upd_ne hoD]; exact hw4, rw4.le lz, p⟩
    exact fun b u hb h1 h2 e => by rw [upd_ne h1]; exact l4 b u hb h2 (ld b u hb h1 h2 e)
  · rintro H' ⟨k', vs, acc, ys, ws, hle, j', ld, hd, ra, hw, rw', ii⟩
    refine q (.ref D) (.list acc) k' ys ws H' ?_ hw rw'.unext j'.unext (.lst ⟨hd, hS⟩ ra.unext) (hend k' ys acc ii)
    exact fun b u n1 n2 e => ld b u n1 (ne_of_none (l1 b u n1 e) hD) n2 (by rw [upd_ne (ne_of_none (l1 b u n1 e) hD)]; exact l1 b u n1 e)
def rTup (C : Cs) : List V → Hp → VK → Prop := fun xs H Q => ∃ p ys, xs = [.ref p] ∧ ((SqL C.K H p ys ∧ ∀ l, H l = none → Q (.ref l) (upd H l (.tup ys))) ∨ (SqT C.K H p ys ∧ Q (.ref p) H))
theorem wx_tup {t : TE} (hK : F.K = C.K) (h : WX F o t ρ k fun k1 ys d => ∃ ds, d = .list ds ∧ Ξ k1 ys (.tuple ds)) (hr : ∀ H σ, EnvOk F H σ ρ → F.S o) : WX F o (tCB (rTup C) (tCons t tNil)) ρ k Ξ := fun σ H Q en j q => by
  show t σ H _
  refine h σ H _ en j fun v d k1 ys ws H1 l1 hw rw' j1 r ⟨ds, e, p⟩ => ?_
  subst e
  cases r with
  | @lst a xs _ ha hra =>
  refine ⟨a, xs, rfl, .inl ⟨hK ▸ sql_of ha, fun l hl => ?_⟩⟩
  exact q _ (.tuple ds) k1 ys ws _ (l1.trans (Le.new hl).ld) (by rw [upd_ne (ne_of_none hw hl)]; exact hw) (rw'.le (Le.new hl).lz) (j1.new hl) (rep_newT j1 hl hra) p
/-- len(x), x the own list -/
theorem we_lenOwn (i : Nat) {xs : List PyData} (hN : C.N[i]? = some x) (hv : Vis C.sc x) (hr : ρ[i]? = some (.own o xs)) (hg : C.sc.names.lookup ("len" : Str) = some .globalImplicit) (hm : C.mg ("len" : Str) = none)
    (h : Φ k (.int xs.length)) (hd : (x == ("__debug__" : Str)) = false := by decide) (hcd : (x == ("__classdict__" : Str)) = false := by decide) (hse : ∀ env : Env, starEach [.Name x px] env = (false, eval (.Name x px) env) :: starEach [] env := by intro _; rfl) : WPE F C (.Call (.Name "len" p) [.Name x px] [] pos) ρ k Φ :=
  of_pe (fun X fx => pe_callB (lenK fx) (by show X.env.scope.names.lookup ("len" : Str) = _; rw [fx.sc]; exact hg) (by rw [fx.mg]; exact hm) PySem.boot_len (pa_cons (pe_var (i := i) (by rw [fx.N]; exact hN) (by rw [fx.sc]; exact hv) hd hcd) pa_nil (hse X.env)) (by decide) (by decide) (hse X.env) rfl) fun σ H Q en j q => by
    obtain ⟨hσ, hS, hM, h0, vs, hv', rv⟩ := en.own hr
    refine ⟨_, hσ, o, vs, rfl, .inl (SqL.of hv'), ?_⟩
    rw [rv.length]
    exact q _ _ k _ .refl j (.int _) h
/-- x = y.pop(e) -/
theorem ws_popSet (i il : Nat) {xs : List PyData} (t : Tgt C i x) (hne : i ≠ il) (hN : C.N[il]? = some y) (hv : Vis C.sc y) (hr : ρ[il]? = some (.own o xs)) (hno : (ρ.set il .un).all plainB = true) (hz : xs.length ≤ 1000000)
    (hse : ∀ env : Env, starEach [e] env = (false, eval e env) :: starEach [] env)
    (hs : ∀ env : Env, env.scope = C.sc → swapsWith (.Call (.Attribute (.Name y py) "pop" ap) [e] [] cp) (some (.Name x px)) pos.line env = pure false)
    (h : WPE F C e ρ k fun k1 d => ∃ (n : Nat) (u : PyData), d = .int n ∧ xs[n]? = some u ∧ P.nx k1 ((ρ.set il (.own o (xs.eraseIdx n))).set i (.d u)))
    (hd : (y == ("__debug__" : Str)) = false := by decide) (hcd : (y == ("__classdict__" : Str)) = false := by decide)
    (hbm : ∀ X : Cx, ∀ {to : TE} {t : TA}, PE X (.Name y py) to → PA X [e] t → PE X (.Call (.Attribute (.Name y py) "pop" ap) [e] [] cp) (tBM X.K "list" rPopAt to t) := by exact fun X {to t} h1 h2 => pe_bm PySem.F.plainAttrs_list PySem.F.slot_list_pop PySem.F.type_list_pop mt_popAt h1 h2) :
    WPS F C (.Assign [.Name x px] (.Call (.Attribute (.Name y py) "pop" ap) [e] [] cp) pos) ρ k P :=
  of_ps (fun X fx => ps_set (by rw [fx.N]; exact t.hN) (by rw [fx.N]; exact t.hi) (by rw [fx.sc]; exact t.hx) (pePop (x := y) il fx hN hv hse hd hcd hbm) (hs X.env fx.sc) (by rw [fx.fn, fx.sc]; exact t.hf)) fun σ H E en j q1 _ _ _ => by
    refine wx_pop (Ξ := fun k1 ys u => P.nx k1 ((ρ.set il (.own o ys)).set i (.d u))) il hr hz (h.imp fun k1 d ⟨n, u, e1, e2, p⟩ => ⟨n, u, e1, e2, p⟩) σ H _ en j fun v d k' ys ws H' l hw r j' rv p => ?_
    have hSo := (en.own hr).2.1
    exact q1 _ (σ.set i (some v)) k' H' (l.lz hSo) ((en.ownLd hr hno l hw r).set (sv := .d d) ⟨v, rfl, rv⟩) j' p
/-- return tuple([x.pop(e) for _ in range(z)]) -/
theorem ws_retPops (i il : Nat) {xs : List PyData} {w : Str} {pw : Pos} (b : Blk C scope i w) (hK : F.K = C.K) (hne : i ≠ il) (hN : (C.blk scope).N[il]? = some x) (hv : Vis (C.blk scope).sc x) (hr : ρ[il]? = some (.own o xs)) (hno : (ρ.set il .un).all plainB = true)
    (hg : C.sc.names.lookup ("tuple" : Str) = some .globalImplicit) (hm : C.mg ("tuple" : Str) = none) (hg2 : C.sc.names.lookup ("range" : Str) = some .globalImplicit) (hm2 : C.mg ("range" : Str) = none)
    (hs1 : ∀ env : Env, starEach [.ListComp (.Call (.Attribute (.Name x px) "pop" ap) [e] [] cp) [⟨.Name w pw, (.Call (.Name "range" pr) [ez] [] pr2), [], 0⟩] scope pos] env = (false, eval (.ListComp (.Call (.Attribute (.Name x px) "pop" ap) [e] [] cp) [⟨.Name w pw, (.Call (.Name "range" pr) [ez] [] pr2), [], 0⟩] scope pos) env) :: starEach [] env)
    (hse : ∀ env : Env, starEach [e] env = (false, eval e env) :: starEach [] env) (hse2 : ∀ env : Env, starEach [ez] env = [(false, eval ez env)])
    (hfs : ∀ (env : Env) (v : Value), foldedSetIterable (.Call (.Name "range" pr) [ez] [] pr2) env v = pure v)
    (h : WPE F C ez ρ k fun k1 d => ∃ (I : Nat → Nat → List PyData → List PyData → Prop) (z : Int), d = .int z ∧ -(2 ^ 62) ≤ z ∧ z ≤ 1000000 ∧ I 0 k1 xs [] ∧
      (∀ D (j : Nat) k' ys acc, j < z.toNat → I j k' ys acc → ys.length ≤ 1000000 ∧ WPE (F.ext D) (C.blk scope) e ((ρ.set il (.own o ys)).set i (.d (.int j))) k' fun k2 d => ∃ (n : Nat) (y : PyData), d = .int n ∧ ys[n]? = some y ∧ I (j + 1) k2 (ys.eraseIdx n) (acc ++ [y])) ∧ (∀ k' ys acc, I z.toNat k' ys acc → P.rt k' (.tuple acc)))
    (hd : (x == ("__debug__" : Str)) = false := by decide) (hcd : (x == ("__classdict__" : Str)) = false := by decide)
    (hbm : ∀ X : Cx, ∀ {to : TE} {t : TA}, PE X (.Name x px) to → PA X [e] t → PE X (.Call (.Attribute (.Name x px) "pop" ap) [e] [] cp) (tBM X.K "list" rPopAt to t) := by exact fun X {to t} h1 h2 => pe_bm PySem.F.plainAttrs_list PySem.F.slot_list_pop PySem.F.type_list_pop mt_popAt h1 h2) :
    WPS F C (.Return (some (.Call (.Name "tuple" p) [.ListComp (.Call (.Attribute (.Name x px) "pop" ap) [e] [] cp) [⟨.Name w pw, (.Call (.Name "range" pr) [ez] [] pr2), [], 0⟩] scope pos] [] p0)) spos) ρ k P :=
  of_ps (fun X fx => ps_ret (pe_callTy (r := rTup C) (tupK fx) (by show X.env.scope.names.lookup ("tuple" : Str) = _; rw [fx.sc]; exact hg) (by rw [fx.mg]; exact hm) (by decide +kernel)
      (pa_cons (pe_lc (own := [(w, i)]) fx.calm (by rw [fx.N]; exact b.t.hN) (pi_range1 (by show X.env.scope.names.lookup ("range" : Str) = _; rw [fx.sc]; exact hg2) (by rw [fx.mg]; exact hm2) (pa_cons (peE fx) pa_nil (hse2 X.env)) (hse2 X.env)) (by rw [fx.N, fx.sc]; exact b.ok) (fun s H a cl fp => b.t.pg (fx.blk s H scope a cl fp)) (fun s H a cl fp => pts_nil) (fun s H a cl fp => pePop il (fx.blk s H scope a cl fp) hN hv hse hd hcd hbm) (hfs X.env)) pa_nil (hs1 X.env)) (by decide) (by decide) (hs1 X.env) rfl)) fun σ H E en j _ q2 _ _ => by
    refine wx_tup (o := o) (Ξ := fun k1 _ d => P.rt k1 d) hK (wx_lcR i il hne hr hno (h.imp fun k1 d ⟨I, z, e1, z1, z2, i0, hst, hen⟩ => ⟨I, z, e1, z1, z2, i0, fun D j k' ys acc hj ii => wx_pop il (by rw [List.getElem?_set_ne hne, List.getElem?_set_self (List.getElem?_eq_some_iff.mp hr).1]) (hst D j k' ys acc hj ii).1 (hst D j k' ys acc hj ii).2, fun k' ys acc ii => ⟨acc, rfl, hen k' ys acc ii⟩⟩)) (fun H σ en => (en.own hr).2.1) σ H _ en j fun v d k' ys ws H' l hw r j' rv p => q2 v d k' H' j' rv p
end
end Dl

namespace Dl
open PySem PySem.Spec PyProof.Rows L2
/-! ### x = an expression that makes a new list, which is the def's own -/
def WN (F : Fm) (t : TE) (ρ : Rho) (k : Nat) (Φ : Nat → List PyData → Prop) : Prop :=
  ∀ (σ : L2.St) (H : Hp) (Q : VK), EnvOk F H σ ρ → J F k H → (∀ o vs ds k' H', Le F H H' → J F k' H' → H' o = none → RpAll F H' vs ds → Φ k' ds → Q (.ref o) (upd H' o (.lst vs))) → t σ H Q
section
variable {F : Fm} {C : Cs} {ρ : Rho} {k : Nat} {P : DE} {Φ : Nat → List PyData → Prop} {pos p p2 px pr pr2 : Pos} {a e : Expr} {x : Str} {rest : List Stmt}
theorem wb_ownNew (i : Nat) {t0 : TE} (ht : ∀ X, Fits C X → PE X e t0) (t : Tgt C i x) (hi : i < ρ.length) (hs : ∀ env : Env, env.scope = C.sc → swapsWith e (some (.Name x px)) pos.line env = pure false)
    (h : WN F t0 ρ k fun k2 ds => ∀ o, WPB (F.ext o) C rest (ρ.set i (.own o ds)) k2 { nx := fun _ _ => False, rt := P.rt, bk := fun _ _ => False, ct := fun _ _ => False }) : WPB F C (.Assign [.Name x px] e pos :: rest) ρ k P :=
  of_pb (fun X fx => pss_cons (ps_set (by rw [fx.N]; exact t.hN) (by rw [fx.N]; exact t.hi) (by rw [fx.sc]; exact t.hx) (ht X fx) (hs X.env fx.sc) (by rw [fx.fn, fx.sc]; exact t.hf)) (pbB fx)) fun σ H E en j q1 q2 q3 q4 => by
    refine h σ H _ en j fun o xs ds k2 H2 l2 j2 no hr p => ?_
    have hM : ¬ F.M o := fun z => F.gl _ _ j2.g o z no
    have h0 : F.H0 o = none := j2.h0 hM no
    have en2 : EnvOk (F.ext o) (upd H2 o (.lst xs)) (σ.set i (some (.ref o))) (ρ.set i (.own o ds)) :=
      ((en.le l2).ext no).set (sv := .own o ds) ⟨rfl, .inr rfl, hM, h0, xs, upd_same, hr.ext no⟩
    refine p o (σ.set i (some (.ref o))) (upd H2 o (.lst xs)) E en2 ((j2.new no).ext (lv_new fun _ z => nomatch z)) ?_ ?_ ?_ ?_
    · exact fun _ _ _ _ _ _ _ z => z.elim
    · exact fun v d k' H' j' r' p => q2 v d k' H' j'.unext r'.unext p
    · exact fun _ _ _ _ _ _ _ z => z.elim
    · exact fun _ _ _ _ _ _ _ z => z.elim
/-- .. for one statement, then data again -/
theorem wb_ownNew1 (i : Nat) {st : Stmt} {t0 : TE} (ht : ∀ X, Fits C X → PE X e t0) (t : Tgt C i x) (hi : i < ρ.length) (hs : ∀ env : Env, env.scope = C.sc → swapsWith e (some (.Name x px)) pos.line env = pure false)
    (h : WN F t0 ρ k fun k2 ds => ∀ o, WPS (F.ext o) C st (ρ.set i (.own o ds)) k2 { nx := fun k' ρ' => ∃ ys, ρ'[i]? = some (.own o ys) ∧ (ρ'.set i .un).all plainB = true ∧ WPB F C rest (ρ'.set i (.d (.list ys))) k' P, rt := P.rt, bk := fun _ _ => False, ct := fun _ _ => False }) :
    WPB F C (.Assign [.Name x px] e pos :: st :: rest) ρ k P :=
  of_pb (fun X fx => pss_cons (ps_set (by rw [fx.N]; exact t.hN) (by rw [fx.N]; exact t.hi) (by rw [fx.sc]; exact t.hx) (ht X fx) (hs X.env fx.sc) (by rw [fx.fn, fx.sc]; exact t.hf)) (pss_cons (psS fx) (pbB fx))) fun σ H E en j q1 q2 q3 q4 => by
    refine h σ H _ en j fun o xs ds k2 H2 l2 j2 no hr p => ?_
    have hM : ¬ F.M o := fun z => F.gl _ _ j2.g o z no
    have hS : ¬ F.S o := j2.fresh no
    have h0 : F.H0 o = none := j2.h0 hM no
    have en2 : EnvOk (F.ext o) (upd H2 o (.lst xs)) (σ.set i (some (.ref o))) (ρ.set i (.own o ds)) :=
      ((en.le l2).ext no).set (sv := .own o ds) ⟨rfl, .inr rfl, hM, h0, xs, upd_same, hr.ext no⟩
    have lzo : ∀ H', Lz (F.ext o) (upd H2 o (.lst xs)) H' → Lz F H H' := fun H' lz b u hb e => by
      have e2 := l2.lz b u hb e
      have ne : b ≠ o := ne_of_none e2 no
      exact lz b u (fun z => z.elim (fun y => y.elim (fun q => hb (.inl q)) ne) fun q => hb (.inr q)) (by rw [upd_ne ne]; exact e2)
    refine p o (σ.set i (some (.ref o))) (upd H2 o (.lst xs)) _ en2 ((j2.new no).ext (lv_new fun _ z => nomatch z)) ?_ ?_ ?_ ?_
    · rintro ρ' σ' k' H' lz en' j' ⟨zs, hown, hpl, hrest⟩
      have hlz := lzo H' lz
      obtain ⟨hσ', _, _, _, vs, hvs, rvs⟩ := en'.own hown
      have en3 : EnvOk F H' σ' (ρ'.set i (.d (.list zs))) := by
        intro m sv em
        by_cases hj : i = m
        · subst hj
          have hl : i < ρ'.length := (List.getElem?_eq_some_iff.mp hown).1
          rw [List.getElem?_set_self hl] at em
          cases em
          exact ⟨_, hσ', _, rfl, .lst ⟨hvs, hS⟩ rvs.unext⟩
        · rw [List.getElem?_set_ne hj] at em
          obtain ⟨y, qy, sy⟩ := en' m sv em
          refine ⟨y, qy, ?_⟩
          cases sv with
          | un => trivial
          | d d => obtain ⟨v, z, r⟩ := sy; exact ⟨v, z, r.unext⟩
          | raw v => exact sy
          | own o' xs' => exact (noOwn_of hpl m o' xs' (Ne.symm hj) em).elim
      exact hrest σ' H' E en3 j'.unext (fun ρ2 σ2 k2 H2 l2 => q1 ρ2 σ2 k2 H2 (hlz.trans l2)) q2 (fun ρ2 σ2 k2 H2 l2 => q3 ρ2 σ2 k2 H2 (hlz.trans l2)) (fun ρ2 σ2 k2 H2 l2 => q4 ρ2 σ2 k2 H2 (hlz.trans l2))
    · exact fun v d k' H' j' r' p => q2 v d k' H' j'.unext r'.unext p
    · exact fun _ _ _ _ _ _ _ z => z.elim
    · exact fun _ _ _ _ _ _ _ z => z.elim
theorem wn_rg {t : TE} (h : WE F t ρ k fun k1 d => ∃ z : Int, d = .int z ∧ (0 ≤ z ∧ z ≤ 16777216) ∧ Φ k1 ((rg z).map PyData.int)) : WN F (tLstRg (tRg1 t)) ρ k Φ := fun σ H Q en j q => by
  show t σ H _
  refine h σ H _ en j fun v d k1 H1 l1 j1 r ⟨z, e, hz, p⟩ => ?_
  subst e
  cases r
  refine ⟨z, rfl, RgOk.of_le (by decide) hz.2 (by decide) hz.1, fun l hl => ?_⟩
  rw [rgV_rg]
  exact q l _ _ k1 H1 l1 j1 hl (RepAll.of_ints _) p
/-- x = list(range(a)) -/
theorem wb_ownRg (i : Nat) (t : Tgt C i x) (hi : i < ρ.length) (hg : C.sc.names.lookup ("list" : Str) = some .globalImplicit) (hm : C.mg ("list" : Str) = none) (hg2 : C.sc.names.lookup ("range" : Str) = some .globalImplicit) (hm2 : C.mg ("range" : Str) = none)
    (hs1 : ∀ env : Env, starEach [a] env = (false, eval a env) :: starEach [] env) (hs2 : ∀ env : Env, starEach [.Call (.Name "range" pr) [a] [] pr2] env = (false, eval (.Call (.Name "range" pr) [a] [] pr2) env) :: starEach [] env)
    (hs : ∀ env : Env, env.scope = C.sc → swapsWith (.Call (.Name "list" p) [.Call (.Name "range" pr) [a] [] pr2] [] p2) (some (.Name x px)) pos.line env = pure false)
    (h : WPE F C a ρ k fun k1 d => ∃ z : Int, d = .int z ∧ (0 ≤ z ∧ z ≤ 16777216) ∧ ∀ o, WPB (F.ext o) C rest (ρ.set i (.own o ((rg z).map PyData.int))) k1 { nx := fun _ _ => False, rt := P.rt, bk := fun _ _ => False, ct := fun _ _ => False }) :
    WPB F C (.Assign [.Name x px] (.Call (.Name "list" p) [.Call (.Name "range" pr) [a] [] pr2] [] p2) pos :: rest) ρ k P :=
  wb_ownNew i (fun X fx => pe_listRg fx.calm (by show X.env.scope.names.lookup ("list" : Str) = _; rw [fx.sc]; exact hg) (by rw [fx.mg]; exact hm) (prg_1 (by show X.env.scope.names.lookup ("range" : Str) = _; rw [fx.sc]; exact hg2) (by rw [fx.mg]; exact hm2) (peE fx) (hs1 X.env)) (hs2 X.env)) t hi hs (wn_rg h)
theorem wb_ownRg1 (i : Nat) {st : Stmt} (t : Tgt C i x) (hi : i < ρ.length) (hg : C.sc.names.lookup ("list" : Str) = some .globalImplicit) (hm : C.mg ("list" : Str) = none) (hg2 : C.sc.names.lookup ("range" : Str) = some .globalImplicit) (hm2 : C.mg ("range" : Str) = none)
    (hs1 : ∀ env : Env, starEach [a] env = (false, eval a env) :: starEach [] env) (hs2 : ∀ env : Env, starEach [.Call (.Name "range" pr) [a] [] pr2] env = (false, eval (.Call (.Name "range" pr) [a] [] pr2) env) :: starEach [] env)
    (hs : ∀ env : Env, env.scope = C.sc → swapsWith (.Call (.Name "list" p) [.Call (.Name "range" pr) [a] [] pr2] [] p2) (some (.Name x px)) pos.line env = pure false)
    (h : WPE F C a ρ k fun k1 d => ∃ z : Int, d = .int z ∧ (0 ≤ z ∧ z ≤ 16777216) ∧ ∀ o, WPS (F.ext o) C st (ρ.set i (.own o ((rg z).map PyData.int))) k1 { nx := fun k' ρ' => ∃ ys, ρ'[i]? = some (.own o ys) ∧ (ρ'.set i .un).all plainB = true ∧ WPB F C rest (ρ'.set i (.d (.list ys))) k' P, rt := P.rt, bk := fun _ _ => False, ct := fun _ _ => False }) :
    WPB F C (.Assign [.Name x px] (.Call (.Name "list" p) [.Call (.Name "range" pr) [a] [] pr2] [] p2) pos :: st :: rest) ρ k P :=
  wb_ownNew1 i (fun X fx => pe_listRg fx.calm (by show X.env.scope.names.lookup ("list" : Str) = _; rw [fx.sc]; exact hg) (by rw [fx.mg]; exact hm) (prg_1 (by show X.env.scope.names.lookup ("range" : Str) = _; rw [fx.sc]; exact hg2) (by rw [fx.mg]; exact hm2) (peE fx) (hs1 X.env)) (hs2 X.env)) t hi hs (wn_rg h)
theorem listK {X : Cx} (fx : Fits C X) : CallR X (.type "list") (fun xs H Q => ∃ p ys, xs = [.ref p] ∧ (SqL C.K H p ys ∨ SqT C.K H p ys) ∧ ∀ l, H l = none → Q (.ref l) (upd H l (.lst ys))) := by rw [← fx.K]; exact call_list_of
/-- x = list(e), e a list or a tuple -/
theorem wb_ownLs (i : Nat) (t : Tgt C i x) (hi : i < ρ.length) (hK : F.K = C.K) (hg : C.sc.names.lookup ("list" : Str) = some .globalImplicit) (hm : C.mg ("list" : Str) = none)
    (hs1 : ∀ env : Env, starEach [a] env = (false, eval a env) :: starEach [] env)
    (hs : ∀ env : Env, env.scope = C.sc → swapsWith (.Call (.Name "list" p) [a] [] p2) (some (.Name x px)) pos.line env = pure false)
    (h : WPE F C a ρ k fun k1 d => ∃ ds, seqD d = some ds ∧ ∀ o, WPB (F.ext o) C rest (ρ.set i (.own o ds)) k1 { nx := fun _ _ => False, rt := P.rt, bk := fun _ _ => False, ct := fun _ _ => False }) :
    WPB F C (.Assign [.Name x px] (.Call (.Name "list" p) [a] [] p2) pos :: rest) ρ k P :=
  wb_ownNew i (fun X fx => pe_callTy (listK fx) (by show X.env.scope.names.lookup ("list" : Str) = _; rw [fx.sc]; exact hg) (by rw [fx.mg]; exact hm) (by decide +kernel) (pa_cons (peE fx) pa_nil (hs1 X.env)) (by decide) (by decide) (hs1 X.env) rfl) t hi hs (fun σ H Q en j q => by
    show tE C a σ H _
    refine h σ H _ en j fun v d k1 H1 l1 j1 r ⟨ds, e, p⟩ => ?_
    cases d with
    | list xs =>
      cases e
      cases r with
      | @lst b ws _ hb hr => exact ⟨b, ws, rfl, .inl (hK ▸ sql_of hb), fun l hl => q l ws _ k1 H1 l1 j1 hl hr p⟩
    | tuple xs =>
      cases e
      cases r with
      | @tup b ws _ hb hr => exact ⟨b, ws, rfl, .inr (hK ▸ sqt_of hb), fun l hl => q l ws _ k1 H1 l1 j1 hl hr p⟩
    | _ => cases e)
end
end Dl

namespace Dl
open PySem PySem.Spec PyProof.Rows L2
/-! ### a comprehension of two clauses, over two tuples -/
section
variable {F : Fm} {C : Cs} {ρ : Rho} {k : Nat} {Φ : Nat → PyData → Prop} {α β : Type} {Cb : Cs} {iter1 elt : Expr} {tl : TE} {K : PySem.W.Frag}
theorem we_lc2T (ei : α → PyData) (ej : β → PyData) (bs : α → List β) (g : α → β → PyData) (B : Nat) (i i1 : Nat) (hne : i ≠ i1) (hK : F.K = K)
    (h : WE F tl ρ k fun k1 d => ∃ as : List α, d = .tuple (as.map ei) ∧ as.length * B ≤ 1000000 ∧ (∀ a ∈ as, (bs a).length ≤ B) ∧
      (∀ D (a : α), a ∈ as → WPE (F.ext D) Cb iter1 ((ρ.set i1 .un).set i (.d (ei a))) k1 (fun k2 d2 => k2 = k1 ∧ d2 = .tuple ((bs a).map ej)) ∧
        ∀ b ∈ bs a, WPE (F.ext D) Cb elt (((ρ.set i1 .un).set i (.d (ei a))).set i1 (.d (ej b))) k1 fun k3 y => k3 = k1 ∧ y = g a b) ∧ Φ k1 (.list (as.flatMap fun a => (bs a).map (g a)))) :
    WE F (tLc2 (iTup K tl) (gName i) tYes (iTup K (tE Cb iter1)) (gName i1) tYes (tE Cb elt) [i, i1] [i1]) ρ k Φ := fun σ H Q en j q => by
  show tl σ H _
  refine h σ H _ en j fun v d k1 H1 l1 j1 r hh => ?_
  obtain ⟨as, e, hz, hB, hin, hfin⟩ := hh
  subst e
  cases r with
  | @tup a xs _ ha hr =>
  refine ⟨a, rfl, ⟨xs, hK ▸ sqt_of ha⟩, fun D hD => ?_⟩
  have en1 := en.le l1
  have hM : ¬ F.M D := fun z => F.gl _ _ j1.g D z hD
  have hS : ¬ F.S D := j1.fresh hD
  have h0 : F.H0 D = none := j1.h0 hM hD
  have hno : ∀ (i : Nat) o xs, ρ[i]? = some (SV.own o xs) → o ≠ D := fun i o xs e => by
    obtain ⟨x, _, s⟩ := en1 i _ e
    obtain ⟨_, _, _, _, vs, h1, _⟩ := s
    exact ne_of_none h1 hD
  have rr : Rp (F.ext D) (upd H1 D (.lst [])) (.ref a) (.tuple (as.map ei)) := Rep.ext (.tup ha hr) hD
  cases rr with
  | @tup _ xs' _ ha' hr' =>
  have hlen : xs'.length = as.length := by rw [hr'.length, List.length_map]
  have bound : ∀ n, n ≤ as.length → ((as.take n).flatMap fun a => (bs a).map (g a)).length ≤ n * B := by
    intro n
    induction n with
    | zero => intro _; simp
    | succ n ih =>
      intro hn
      have hx : as[n]? = some as[n] := List.getElem?_eq_getElem (by omega)
      rw [take_next hx, List.flatMap_append, List.length_append, List.flatMap_singleton, List.length_map]
      have h1 := ih (by omega)
      have h2 := hB as[n] (List.getElem_mem _)
      rw [Nat.succ_mul]; omega
  refine ⟨fun n m H' => m = xs'.length - n ∧ n ≤ xs'.length ∧ ∃ vs, EnvOk (F.ext D) H' σ ρ ∧ J (F.ext D) k1 H' ∧ LeD (F.ext D) D (upd H1 D (.lst [])) H' ∧ H' D = some (.lst vs) ∧ RpAll (F.ext D) H' vs ((as.take n).flatMap fun a => (bs a).map (g a)),
    ⟨xs'.length, by simp, Nat.zero_le _, [], en1.ext hD, (j1.new hD).ext (lv_new fun _ z => nomatch z), .refl, upd_same, .nil⟩, ?_⟩
  rintro n m H' ⟨rfl, hn, vs, en', j', ld, hd, ra⟩
  have sq : SqT K H' a xs' := hK ▸ sqt_of (K := F.K) (H := H') (S := (F.ext D).S) ⟨ld.lz (.inr rfl) _ _ (Fm.sxA ha'.2) ha'.1, ha'.2⟩
  by_cases hlt : n < xs'.length
  · refine .inr ⟨⟨xs', xs'[n], sq, by simp [hlt]⟩, fun H2 => ∃ vs, EnvOk (F.ext D) H2 σ ρ ∧ J (F.ext D) k1 H2 ∧ LeD (F.ext D) D (upd H1 D (.lst [])) H2 ∧ H2 D = some (.lst vs) ∧ RpAll (F.ext D) H2 vs ((as.take (n + 1)).flatMap fun a => (bs a).map (g a)), fun H2 p => ⟨xs'.length - (n + 1), by omega, rfl, hlt, p⟩, fun x H2 y => ?_⟩
    obtain ⟨e, y⟩ := y
    subst e
    obtain ⟨y0, hy0, ry⟩ := hr'.got (y xs' sq)
    rw [List.getElem?_map] at hy0
    cases hc : as[n]? with
    | none => rw [hc] at hy0; cases hy0
    | some a0 =>
    rw [hc] at hy0
    cases hy0
    obtain ⟨hit, hel⟩ := hin D a0 (List.mem_of_getElem? hc)
    show (wipe ((wipe σ [i, i1]).set i (some x)) [i, i1] = wipe σ [i, i1] ∧ _)
    rw [wipe2 hne]
    refine ⟨wipe2' hne σ, ?_⟩
    dsimp only [tYes]
    rw [if_pos rfl]
    have en2 : EnvOk (F.ext D) H2 ((σ.set i1 none).set i (some x)) ((ρ.set i1 .un).set i (.d (ei a0))) := (en'.set (sv := .un) trivial).set (sv := .d (ei a0)) ⟨x, rfl, ry.le (ld.lz (.inr rfl))⟩
    show tE Cb iter1 _ H2 _
    refine hit _ H2 _ en2 j' fun v1 d1 k3 H3 l3 j3 r3 ⟨ek, ed⟩ => ?_
    subst ek ed
    cases r3 with
    | @tup a1 ys _ ha1 hr1 =>
    refine ⟨a1, rfl, ⟨ys, hK ▸ sqt_of (K := F.K) ha1⟩, ?_⟩
    have hlen1 : ys.length = (bs a0).length := by rw [hr1.length, List.length_map]
    refine ⟨fun m mm H' => mm = ys.length - m ∧ m ≤ ys.length ∧ ∃ vs2, EnvOk (F.ext D) H' ((σ.set i1 none).set i (some x)) ((ρ.set i1 .un).set i (.d (ei a0))) ∧ J (F.ext D) k3 H' ∧ LeD (F.ext D) D H3 H' ∧ H' D = some (.lst vs2) ∧ RpAll (F.ext D) H' vs2 (((as.take n).flatMap fun a => (bs a).map (g a)) ++ ((bs a0).take m).map (g a0)),
      ⟨ys.length, by simp, Nat.zero_le _, vs, en2.le l3, j3, .refl, l3 D _ (Fm.mxA hM) hd, by rw [List.take_zero, List.map_nil, List.append_nil]; exact ra.le l3.lz⟩, ?_⟩
    rintro m mm H5 ⟨rfl, hm, vs2, en5, j5, ld5, hd5, ra5⟩
    have sq1 : SqT K H5 a1 ys := hK ▸ sqt_of (K := F.K) (S := (F.ext D).S) ⟨ld5.lz (.inr rfl) _ _ (Fm.sxA ha1.2) ha1.1, ha1.2⟩
    by_cases hlt1 : m < ys.length
    · refine .inr ⟨⟨ys, ys[m], sq1, by simp [hlt1]⟩, fun H6 => ∃ vs2, EnvOk (F.ext D) H6 ((σ.set i1 none).set i (some x)) ((ρ.set i1 .un).set i (.d (ei a0))) ∧ J (F.ext D) k3 H6 ∧ LeD (F.ext D) D H3 H6 ∧ H6 D = some (.lst vs2) ∧ RpAll (F.ext D) H6 vs2 (((as.take n).flatMap fun a => (bs a).map (g a)) ++ ((bs a0).take (m + 1)).map (g a0)), fun H6 p => ⟨ys.length - (m + 1), by omega, rfl, hlt1, p⟩, fun z H6 y1 => ?_⟩
      obtain ⟨e1, y1⟩ := y1
      subst e1
      obtain ⟨z0, hz0, rz⟩ := hr1.got (y1 ys sq1)
      rw [List.getElem?_map] at hz0
      cases hc1 : (bs a0)[m]? with
      | none => rw [hc1] at hz0; cases hz0
      | some b0 =>
      rw [hc1] at hz0
      cases hz0
      show (wipe ((wipe ((σ.set i1 none).set i (some x)) [i1]).set i1 (some z)) [i1] = wipe ((σ.set i1 none).set i (some x)) [i1] ∧ _)
      rw [set_wipe]
      refine ⟨wipe_set _, ?_⟩
      dsimp only [tYes]
      rw [if_pos rfl]
      have en6 := en5.set (i := i1) (sv := .d (ej b0)) (x := some z) ⟨z, rfl, rz.le (ld5.lz (.inr rfl))⟩
      show tE Cb elt _ H6 _
      refine hel b0 (List.mem_of_getElem? hc1) _ H6 _ en6 j5 fun v6 d6 k6 H7 l7 j7 r7 ⟨ek6, ed6⟩ => ?_
      subst ek6 ed6
      have hd7 : H7 D = some (.lst vs2) := l7 D _ (Fm.mxA hM) hd5
      have lz7 : Lz (F.ext D) H7 (upd H7 D (.lst (vs2 ++ [v6]))) := fun b o nn e => by rw [upd_ne (show b ≠ D from fun z => nn (.inl (.inr z)))]; exact e
      have hN : n < as.length := (List.getElem?_eq_some_iff.mp hc).1
      refine ⟨vs2, hd7, ?_, vs2 ++ [v6], ?_, j7.own hM h0 (pl_lst hd7), ?_, upd_same, ?_⟩
      · rw [ra5.length, List.length_append, List.length_map]
        have h1 := bound n (by omega)
        have h2 := hB a0 (List.mem_of_getElem? hc)
        have h3 := List.length_take_le m (bs a0)
        have h4 : (n + 1) * B ≤ as.length * B := Nat.mul_le_mul_right B (by omega)
        rw [Nat.succ_mul] at h4
        have h5 : m < (bs a0).length := by omega
        have h6 : ((bs a0).take m).length = m := by rw [List.length_take]; omega
        exact Nat.lt_of_lt_of_le (show _ < 1000001 by omega) (by decide)
      · refine (en5.le l7).ld (D := D) (fun b o _ nb e => by rw [upd_ne nb]; exact e) (.inr rfl) (fun ii o xs e => ?_)
        have : ∃ (ii' : Nat) (xs' : List PyData), ρ[ii']? = some (SV.own o xs') := by
          by_cases hi : i = ii
          · subst hi
            by_cases hl : i < (ρ.set i1 .un).length
            · rw [List.getElem?_set_self hl] at e; cases e
            · rw [List.getElem?_eq_none (by simpa using hl)] at e; cases e
          · rw [List.getElem?_set_ne hi] at e
            by_cases hi1 : i1 = ii
            · subst hi1
              by_cases hl : i1 < ρ.length
              · rw [List.getElem?_set_self hl] at e; cases e
              · rw [List.getElem?_eq_none (by simpa using hl)] at e; cases e
            · rw [List.getElem?_set_ne hi1] at e
              exact ⟨_, _, e⟩
        obtain ⟨ii', xs2, e'⟩ := this
        exact hno _ _ _ e'
      · exact fun b o nn nb e => by rw [upd_ne nb]; exact l7 b o nn (ld5 b o nn nb e)
      · rw [take_next hc1, List.map_append, ← List.append_assoc]
        exact ((ra5.le l7.lz).le lz7).append (.cons (r7.le lz7) .nil)
    · have em : m = ys.length := by omega
      refine .inl ⟨⟨ys, sq1, by omega⟩, vs2, ?_, j5, ld.trans (l3.ld.trans ld5), hd5, ?_⟩
      · exact (en'.le l3).ld ld5 (.inr rfl) hno
      · rw [take_next hc, List.flatMap_append, List.flatMap_singleton]
        rw [em, hlen1, List.take_length] at ra5
        exact ra5
  · have en0 : n = xs'.length := by omega
    refine .inl ⟨⟨xs', sq, by omega⟩, ?_⟩
    rw [en0, hlen, List.take_length] at ra
    refine q (.ref D) _ k1 H' ?_ j'.unext (.lst ⟨hd, hS⟩ ra.unext) hfin
    exact fun b o n e => ld b o n (ne_of_none (l1 b o n e) hD) (by rw [upd_ne (ne_of_none (l1 b o n e) hD)]; exact l1 b o n e)
end
section
variable {F : Fm} {C : Cs} {ρ : Rho} {k : Nat} {Φ : Nat → PyData → Prop} {pos : Pos} {elt iter iter1 : Expr} {scope : Scope} {x x1 : Str} {px px1 : Pos} {α β : Type}
/-- [elt for x in a tuple for x1 in a tuple], as a value -/
theorem we_comp2T (ei : α → PyData) (ej : β → PyData) (bs : α → List β) (g : α → β → PyData) (B : Nat) (i i1 : Nat) (hne : i ≠ i1) (b : Blk2 C scope i x i1 x1) (hK : F.K = C.K)
    (hs : ∀ (env : Env) (v : Value), foldedSetIterable iter env v = pure v) (hs1 : ∀ (env : Env) (v : Value), foldedSetIterable iter1 env v = pure v)
    (h : WPE F C iter ρ k fun k1 d => ∃ as : List α, d = .tuple (as.map ei) ∧ as.length * B ≤ 1000000 ∧ (∀ a ∈ as, (bs a).length ≤ B) ∧
      (∀ D (a : α), a ∈ as → WPE (F.ext D) (C.blk scope) iter1 ((ρ.set i1 .un).set i (.d (ei a))) k1 (fun k2 d2 => k2 = k1 ∧ d2 = .tuple ((bs a).map ej)) ∧
        ∀ b ∈ bs a, WPE (F.ext D) (C.blk scope) elt (((ρ.set i1 .un).set i (.d (ei a))).set i1 (.d (ej b))) k1 fun k3 y => k3 = k1 ∧ y = g a b) ∧ Φ k1 (.list (as.flatMap fun a => (bs a).map (g a)))) :
    WPE F C (.ListComp elt [⟨.Name x px, iter, [], 0⟩, ⟨.Name x1 px1, iter1, [], 0⟩] scope pos) ρ k Φ :=
  of_pe (t := tLc2 (iTup C.K (tE C iter)) (gName i) tYes (iTup (C.blk scope).K (tE (C.blk scope) iter1)) (gName i1) tYes (tE (C.blk scope) elt) [i, i1] [i1]) (fun X fx => pe_lc2 (own := [(x, i), (x1, i1)]) (vs1 := [i1]) fx.calm (by rw [fx.N]; exact b.t.hN) (piT fx) (by rw [fx.N, fx.sc]; exact b.ok) (fun j hj => by simp at hj ⊢; exact .inr hj)
    (fun s H a cl fp => b.t.pg (fx.blk s H scope a cl fp)) (fun s H a cl fp => pts_nil) (fun s H a cl fp => piT (fx.blk s H scope a cl fp)) (fun s H a cl fp => b.t1.pg (fx.blk s H scope a cl fp)) (fun s H a cl fp => pts_nil) (fun s H a cl fp => peE (fx.blk s H scope a cl fp)) (hs X.env) (fun env => hs1 env))
    (we_lc2T ei ej bs g B i i1 hne hK h)
end
section
variable {F : Fm} {C : Cs} {ρ : Rho} {k : Nat} {Φ : Nat → PyData → Prop} {pos p : Pos} {a b : Expr}
/-- min(a, b) of two ints -/
theorem we_min2 (hg : C.sc.names.lookup ("min" : Str) = some .globalImplicit) (hm : C.mg ("min" : Str) = none) (hs1 : ∀ env : Env, starEach [a, b] env = (false, eval a env) :: starEach [b] env) (hs2 : ∀ env : Env, starEach [b] env = (false, eval b env) :: starEach [] env)
    (h : WPE F C a ρ k fun k1 x => WPE F C b ρ k1 fun k2 y => ∃ i j : Int, x = .int i ∧ y = .int j ∧ Φ k2 (.int (if j < i then j else i))) : WPE F C (.Call (.Name "min" p) [a, b] [] pos) ρ k Φ :=
  we_callB (id := "min") (fun X fx => call_min2 fx.calm) hg hm (by decide +kernel) (wa_cons hs1 (h.imp fun k1 x h1 => wa_cons hs2 (h1.imp fun k2 y ⟨i, j, e1, e2, pp⟩ => wa_nil fun H vs Q jj r q => by
    subst e1 e2
    cases r with
    | cons r1 r2 =>
    cases r2 with
    | cons r3 r4 =>
    cases r4
    cases r1
    cases r3
    exact ⟨i, j, rfl, q _ _ k2 H .refl jj (.int _) pp⟩))) (by decide) (by decide) hs1 (fun env => by rw [hs2 env]; rfl)
end
end Dl

namespace Dl
open PySem PySem.Spec PyProof.Rows L2
/-! ### list(d.values()), a dict of the def's own -/
theorem kv_vals {κ : Type} : ∀ {kvs : List (κ × V)} {vs : List (κ × Value)}, KV kvs vs → Vals (kvs.map (·.2)) (vs.map (·.2))
  | [], [], _ => .nil
  | _ :: _, _ :: _, .cons h t => .cons h.2 (kv_vals t)
/-- list(o.values()) -/
def tListVals (td : TE) : TE := fun σ H Q => td σ H fun x H1 => ∃ a kvs, x = V.ref a ∧ H1 a = some (.dK kvs) ∧ ∀ p, H1 p = none → Q (.ref p) (upd H1 p (.lst (kvs.map (·.2))))
theorem pe_listVals {X : Cx} {o : Expr} {p pos apos mpos : Pos} {td : TE} (hc : X.calm = true) (hg : Gl X "list") (hm : X.mg "list" = none) (hd : PE X o td) (hbase : attributeBase o "values" X.env (eval o X.env) = eval o X.env := by rfl) (hline : (apos.endLine == mpos.line) = true := by rfl)
    (hse : starEach [Expr.Call (.Attribute o "values" apos) [] [] mpos] X.env = [(false, eval (Expr.Call (.Attribute o "values" apos) [] [] mpos) X.env)] := by rfl) :
    PE X (.Call (.Name "list" p) [.Call (.Attribute o "values" apos) [] [] mpos] [] pos) (tListVals td) := by
  refine ⟨fun pins s σ H Q I h => ?_⟩
  refine wpAny_Call_Name_kw (ld_blt I hg hm (u := .type "list") boot_list ?_ (by first | decide +kernel | decide) (by first | decide +kernel | decide))
  rw [hse]
  refine PySem.callWith_type1 (wpAny_Call_method0_late hbase hline (thn (hd.run pins s σ H _ I h) fun v s1 ⟨x, H1, I1, r1, a, kvs, ex, ha, q⟩ => ?_))
  subst ex
  obtain rfl : v = Value.ref a := r1
  obtain ⟨hlen, hsys, vs, rel, dof⟩ := dk_of I1.hok ha
  obtain ⟨ep, dat⟩ := dof.dictAt
  have dat' := dat
  obtain ⟨ob, es, ho, ex, hdat, hko, hpr, hnd⟩ := dat'
  refine ⟨"dict", "dict.values", F.plainAttrs_dict, F.slot_dict_values, F.type_dict_values, ⟨ob, ho, ex.1⟩, fun b e => ?_, Calls.callWith_builtin rfl (PySem.evalArgs_none ?_)⟩
  · cases e
    exact ⟨ob, ho, ex.2.1⟩
  refine call_meetsIn F.slot_dict_values ⟨ob, ho, ex.1⟩ F.entry_dict_values (F.args_dict_values_1 _) (meets_dict_values (mixKind X.prog X.w) a hsys) ⟨⟨vs, dof⟩, ?_⟩
  have k1 : ∀ b u, s1.heap.get? b = some u → (s1.heap.push { cls := .type "dict_values", data := .fields #[.ref a] }).get? b = some u := fun b u e => Heap.get?_push_of_some _ e
  have dat1 : (s1.heap.push { cls := .type "dict_values", data := .fields #[.ref a] }).DictAt (mixKind X.prog X.w) a vs ep := dat.keep k1
  have hle : s1.heap.objs.size ≤ (s1.heap.push { cls := .type "dict_values", data := .fields #[.ref a] }).objs.size := by rw [Heap.size_push]; exact Nat.le_succ _
  refine PySem.W.kdl_call (PySem.W.kdl_values (knd := mixKind X.prog X.w) (r := s1.heap.objs.size) (d := a) (kvs := vs) (ep := ep)) (I1.ok.hd hc) ⟨⟨_, Heap.get?_push_size _ rfl, rfl, rfl⟩, dat1⟩ (by rw [← KV.length rel]; exact hlen) fun h' tk acc' c' hk hS hacc => ?_
  have ev : acc'.toList = vs.map (·.2) := PySem.W.kdl_vals_eq acc'.toList (by rw [Array.length_toList]; exact hacc.1) fun j u hu => hacc.2 j u (by rw [← Array.getElem?_toList]; exact hu)
  refine ⟨.ref _, upd H1 _ (.lst (kvs.map (·.2))), I1.laid (t' := tk) (fun b u e => hk b u (k1 b u e)) hle ⟨by rw [List.length_map]; exact hlen, acc'.toList, c', by rw [ev]; exact kv_vals rel, by rw [Array.toArray_toList]; exact hS⟩, rfl, q _ (I1.hok.fresh hle)⟩
/-! ### a dict that counts: d = {}; for c in a tuple: b = e; d[b] = d.get(b, 0) + 1 -/
structure CK (bs : List Int) (kvs : List (Key × V)) : Prop where
  val : ∀ b : Int, valV kvs (Sum.inl b) = if b ∈ bs then some (V.int (bs.count b)) else none
  mem : ∀ p ∈ kvs, ∃ b ∈ bs, p = (Sum.inl b, V.int (bs.count b))
  len : kvs.length ≤ bs.length
theorem CK.nil : CK [] [] := ⟨fun b => rfl, fun _ h => (nomatch h), Nat.le_refl _⟩
theorem CK.put {bs : List Int} {kvs : List (Key × V)} (c : CK bs kvs) (b : Int) : CK (bs ++ [b]) (putK kvs (Sum.inl b) (V.int (((bs.count b : Nat) : Int) + 1))) := by
  have hc : ∀ b', ((bs ++ [b]).count b' : Nat) = bs.count b' + if b = b' then 1 else 0 := fun b' => by
    rw [List.count_append, List.count_singleton]
    by_cases h : b = b' <;> simp [h]
  have hself : V.int (((bs.count b : Nat) : Int) + 1) = V.int (((bs ++ [b]).count b : Nat) : Int) := by rw [hc, if_pos rfl]; rfl
  refine ⟨fun b' => ?_, fun p hp => ?_, ?_⟩
  · rw [valV_put, c.val]
    by_cases h : b' = b
    · subst h
      rw [if_pos rfl, if_pos (by simp), hself]
    · rw [if_neg (fun e => h (Sum.inl.inj e)), hc, if_neg (show ¬ b = b' from fun e => h e.symm), Nat.add_zero]
      by_cases hm : b' ∈ bs
      · rw [if_pos hm, if_pos (by simp [hm])]
      · rw [if_neg hm, if_neg (by simp [hm, h])]
  · have old : ∀ q ∈ kvs, ¬ q.1 = Sum.inl b → ∃ b1 ∈ bs ++ [b], q = (Sum.inl b1, V.int ((bs ++ [b]).count b1)) := fun q hq hne => by
      obtain ⟨b1, h1, rfl⟩ := c.mem q hq
      have : ¬ b = b1 := fun e => hne (by rw [e])
      exact ⟨b1, by simp [h1], by rw [hc, if_neg this, Nat.add_zero]⟩
    unfold putK at hp
    split at hp
    · obtain ⟨q, hq, rfl⟩ := List.mem_map.mp hp
      by_cases hk : q.1 = Sum.inl b
      · rw [if_pos hk, hk]
        exact ⟨b, by simp, by rw [hself]⟩
      · rw [if_neg hk]
        exact old q hq hk
    · next hn =>
      rcases List.mem_append.mp hp with hp | hp
      · refine old p hp fun e => hn ?_
        rw [List.any_eq_true]
        exact ⟨p, hp, decide_eq_true e⟩
      · rw [List.mem_singleton.mp hp]
        exact ⟨b, by simp, by rw [hself]⟩
  · have := length_putK kvs (Sum.inl b) (V.int (((bs.count b : Nat) : Int) + 1))
    have := c.len
    rw [List.length_append, List.length_singleton]
    omega
/-- the values of such a dict -/
def cntI (kvs : List (Key × V)) : List Int := kvs.map fun p => match p.2 with
  | .int i => i
  | _ => 0
theorem CK.vals {bs : List Int} {kvs : List (Key × V)} (c : CK bs kvs) : kvs.map (·.2) = (cntI kvs).map V.int := by
  unfold cntI
  rw [List.map_map]
  refine List.map_congr_left fun p hp => ?_
  obtain ⟨b, _, rfl⟩ := c.mem p hp
  rfl
theorem CK.some {bs : List Int} {kvs : List (Key × V)} (c : CK bs kvs) {i : Int} (h : i ∈ cntI kvs) : ∃ b ∈ bs, i = (bs.count b : Nat) := by
  obtain ⟨p, hp, rfl⟩ := List.mem_map.mp h
  obtain ⟨b, hb, rfl⟩ := c.mem p hp
  exact ⟨b, hb, rfl⟩
theorem CK.all {bs : List Int} {kvs : List (Key × V)} (c : CK bs kvs) {b : Int} (h : b ∈ bs) : ((bs.count b : Nat) : Int) ∈ cntI kvs := by
  have hv := c.val b
  rw [if_pos h] at hv
  unfold valV at hv
  rw [Option.map_eq_some_iff] at hv
  obtain ⟨p, hp, e⟩ := hv
  refine List.mem_map.mpr ⟨p, List.mem_of_find?_eq_some hp, ?_⟩
  rw [e]
def Fm.dic (F : Fm) (o : Addr) (kvs : List (Key × V)) : Fm := { F.ext o with
  H0 := upd F.H0 o (.dK kvs)
  xa := fun k H g b u hm hu e => by
    by_cases hb : b = o
    · rw [hb, upd_same] at e; cases e; exact absurd (F.xi _ hu) nx_dK
    · rw [upd_ne hb] at e; exact F.xa k H g b u hm hu e }
section
variable {F : Fm} {C : Cs} {ρ : Rho} {k : Nat} {P : DE} {Φ : Nat → PyData → Prop} {x xc xb : Str} {px dp pc pb p3 p4 p5 p6 p7 p8 p9 p10 p11 p12 s1 s2 s3 s4 : Pos} {j1 j2 : Nat} {iter eb : Expr} {rest : List Stmt}
theorem en_upd {F : Fm} {H : Hp} {σ : L2.St} {o : Addr} {kvs : List (Key × V)} {u : HO} (en : EnvOk F H σ ρ) (hS : F.S o) (ho : H o = some (.dK kvs)) : EnvOk F (upd H o u) σ ρ := fun i sv e => by
  obtain ⟨y, q, r⟩ := en i sv e
  refine ⟨y, q, ?_⟩
  have lz : Lz F H (upd H o u) := fun b w hb e => by rw [upd_ne (show b ≠ o from fun z => hb (.inl (z ▸ hS)))]; exact e
  cases sv with
  | un => trivial
  | d d => obtain ⟨v, z, r⟩ := r; exact ⟨v, z, r.le lz⟩
  | raw v => exact r
  | own o' xs =>
    obtain ⟨e1, s1, m1, z1, vs, h1, r1⟩ := r
    have hne : o' ≠ o := fun z => by rw [z, ho] at h1; cases h1
    exact ⟨e1, s1, m1, z1, vs, by rw [upd_ne hne]; exact h1, r1.le lz⟩
theorem wb_counts (i ix ib : Nat) (hix : i ≠ ix) (hib : i ≠ ib) (hxb : ix ≠ ib) (t : Tgt C i x) (tc : Tgt C ix xc) (tb : Tgt C ib xb) (hi : i < ρ.length) (hrc : ρ[ix]? = some .un) (hrb : ρ[ib]? = some .un) (hv : Vis C.sc x) (hvb : Vis C.sc xb) (hK : F.K = C.K)
    (hs : ∀ env : Env, env.scope = C.sc → swapsWith (.Dict [] [] dp) (some (.Name x px)) s1.line env = pure false)
    (hsb : ∀ env : Env, env.scope = C.sc → swapsWith eb (some (.Name xb pb)) s2.line env = pure false)
    (hsd : ∀ env : Env, swapsWith (.BinOp (.Call (.Attribute (.Name x p6) "get" p7) [.Name xb p8, .Constant (.int 0) j1 p9] [] p10) .Add (.Constant (.int 1) j2 p11) p12) (some (.Subscript (.Name x p3) (.Name xb p4) p5)) s3.line env = pure false)
    (hfs : ∀ (env : Env) (v : Value), foldedSetIterable iter env v = pure v)
    (hm2 : ∀ X : Cx, M2 X (.Name x p6) "get" p7 (.Name xb p8) (.Constant (.int 0) j1 p9) p10)
    (h : ∀ o, ¬ F.M o → WPE (F.ext o) C iter (ρ.set i (.raw (.ref o))) k fun k1 d => ∃ (cs : List Int) (g : Int → Int), d = .tuple (cs.map PyData.int) ∧ cs.length ≤ 100000 ∧
      (∀ yb c, c ∈ cs → WPE (F.ext o) C eb (((ρ.set i (.raw (.ref o))).set ib yb).set ix (.d (.int c))) k1 fun k2 d2 => k2 = k1 ∧ d2 = .int (g c)) ∧
      ∀ kvs yb yc, CK (cs.map g) kvs → WPB (F.dic o kvs) C rest (((ρ.set i (.raw (.ref o))).set ib yb).set ix yc) k1 { nx := fun _ _ => False, rt := P.rt, bk := fun _ _ => False, ct := fun _ _ => False })
    (hd : (x == ("__debug__" : Str)) = false := by decide) (hcd : (x == ("__classdict__" : Str)) = false := by decide) (hd2 : (xb == ("__debug__" : Str)) = false := by decide) (hcd2 : (xb == ("__classdict__" : Str)) = false := by decide) :
    WPB F C (.Assign [.Name x px] (.Dict [] [] dp) s1 :: .For (.Name xc pc) iter [.Assign [.Name xb pb] eb s2, .Assign [.Subscript (.Name x p3) (.Name xb p4) p5] (.BinOp (.Call (.Attribute (.Name x p6) "get" p7) [.Name xb p8, .Constant (.int 0) j1 p9] [] p10) .Add (.Constant (.int 1) j2 p11) p12) s3] [] s4 :: rest) ρ k P :=
  of_pb (fun X fx => pss_cons (ps_set (by rw [fx.N]; exact t.hN) (by rw [fx.N]; exact t.hi) (by rw [fx.sc]; exact t.hx) pe_dnewK (hs X.env fx.sc) (by rw [fx.fn, fx.sc]; exact t.hf))
      (pss_cons (ps_for (by rw [fx.xe]; exact PassesOwn.never) fx.calm (piT fx) (tc.pg fx)
        (pss_cons (ps_set (by rw [fx.N]; exact tb.hN) (by rw [fx.N]; exact tb.hi) (by rw [fx.sc]; exact tb.hx) (peE fx) (hsb X.env fx.sc) (by rw [fx.fn, fx.sc]; exact tb.hf))
          (pss_cons (ps_dput (by have := fx.room.units; omega) (pe_var (i := i) (by rw [fx.N]; exact t.hi) (by rw [fx.sc]; exact hv) hd hcd) (pe_var (i := ib) (by rw [fx.N]; exact tb.hi) (by rw [fx.sc]; exact hvb) hd2 hcd2)
            (pe_op op_add (pe_dget2 (by have := fx.room.units; omega) (pe_var (i := i) (by rw [fx.N]; exact t.hi) (by rw [fx.sc]; exact hv) hd hcd) (pe_var (i := ib) (by rw [fx.N]; exact tb.hi) (by rw [fx.sc]; exact hvb) hd2 hcd2) pe_int (hm2 X)) pe_int) (hsd X.env)) pss_nil)) (hfs X.env)) (pbB fx))) fun σ H E en j q1 q2 q3 q4 => by
    intro o no
    have hM : ¬ F.M o := fun z => F.gl _ _ j.g o z no
    have h0 : F.H0 o = none := j.h0 hM no
    have en1 : EnvOk (F.ext o) (upd H o (.dK [])) (σ.set i (some (.ref o))) (ρ.set i (.raw (.ref o))) := (en.ext no).set (sv := .raw (.ref o)) rfl
    have jj : J (F.ext o) k (upd H o (.dK [])) := (j.new no).ext (lv_new fun _ z => nomatch z)
    show tE C iter _ _ _
    refine h o hM _ _ _ en1 jj fun v d k1 H1 l1 j1 r ⟨cs, g, e, hz, hstep, hend⟩ => ?_
    subst e
    have ho1 : H1 o = some (.dK []) := l1 o _ (Fm.mxA hM) upd_same
    have eun : ∀ (l : Rho) (m : Nat), l[m]? = some .un → l.set m .un = l := fun l m e => by
      refine List.ext_getElem? fun q => ?_
      by_cases hq : m = q
      · subst hq
        rw [List.getElem?_set_self (List.getElem?_eq_some_iff.mp e).1, e]
      · rw [List.getElem?_set_ne hq]
    have e1 : ((ρ.set i (.raw (.ref o))).set ib .un).set ix .un = ρ.set i (.raw (.ref o)) := by
      rw [eun (ρ.set i (.raw (.ref o))) ib (by rw [List.getElem?_set_ne hib]; exact hrb), eun _ ix (by rw [List.getElem?_set_ne hix]; exact hrc)]
    cases r with
    | @tup a xs _ ha hr =>
    refine ⟨a, rfl, ⟨xs, hK ▸ sqt_of ha⟩, ?_⟩
    have hlen : xs.length = cs.length := by rw [hr.length, List.length_map]
    refine for_tup (xs := xs) (fun n σ' H' => ∃ yb yc kvs, EnvOk (F.ext o) H' σ' (((ρ.set i (.raw (.ref o))).set ib yb).set ix yc) ∧ J (F.ext o) k1 H' ∧ Lz (F.ext o) H1 H' ∧ H' o = some (.dK kvs) ∧ CK ((cs.take n).map g) kvs) ⟨.un, .un, [], by rw [e1]; exact en1.le l1, j1, .refl, ho1, .nil⟩ ?_ ?_ ?_
    · rintro n σ' H' _ ⟨yb, yc, kvs, _, _, lz, _⟩
      have := sqt_of (K := F.K) (⟨lz _ _ (Fm.sxA ha.2) ha.1, ha.2⟩ : H' a = some (.tup xs) ∧ ¬ (F.ext o).S a)
      exact hK ▸ this
    · rintro n v σ' H' hv' ⟨yb, yc, kvs, en', j', lz, ho', ck⟩
      obtain ⟨y, hy, ry⟩ := hr.got hv'
      rw [List.getElem?_map, Option.map_eq_some_iff] at hy
      obtain ⟨c, hc, rfl⟩ := hy
      have en2 : EnvOk (F.ext o) H' (σ'.set ix (some v)) (((ρ.set i (.raw (.ref o))).set ib yb).set ix (.d (.int c))) := by
        have := en'.set (i := ix) (sv := .d (.int c)) (x := some v) ⟨v, rfl, ry.le lz⟩
        rw [List.set_set] at this
        exact this
      show tE C eb (σ'.set ix (some v)) H' _
      refine hstep yb c (List.mem_of_getElem? hc) _ H' _ en2 j' fun vb db k2 H2 l2 j2 rb ⟨ek, ed⟩ => ?_
      subst ek ed
      cases rb
      have ho2 : H2 o = some (.dK kvs) := l2 o _ (Fm.mxA hM) ho'
      have en3 : EnvOk (F.ext o) H2 ((σ'.set ix (some v)).set ib (some (.int (g c)))) (((ρ.set i (.raw (.ref o))).set ib (.d (.int (g c)))).set ix (.d (.int c))) := by
        have := (en2.le l2).set (i := ib) (sv := .d (.int (g c))) (x := some (.int (g c))) ⟨_, rfl, .int _⟩
        have e9 : ((((ρ.set i (.raw (.ref o))).set ib yb).set ix (.d (.int c))).set ib (.d (.int (g c)))) = (((ρ.set i (.raw (.ref o))).set ib (.d (.int (g c)))).set ix (.d (.int c))) := by rw [List.set_comm _ _ hxb, List.set_set]
        rw [e9] at this
        exact this
      have hi1 : (((ρ.set i (.raw (.ref o))).set ib (.d (.int (g c)))).set ix (.d (.int c)))[i]? = some (SV.raw (.ref o)) := by
        rw [List.getElem?_set_ne (Ne.symm hix), List.getElem?_set_ne (Ne.symm hib), List.getElem?_set_self hi]
      have hσi := en3.raw hi1
      have hb1 : (((ρ.set i (.raw (.ref o))).set ib (.d (.int (g c)))).set ix (.d (.int c)))[ib]? = some (SV.d (.int (g c))) := by
        rw [List.getElem?_set_ne hxb, List.getElem?_set_self (by rw [List.length_set]; exact (List.getElem?_eq_some_iff.mp hrb).1)]
      obtain ⟨wb, hσb, rwb⟩ := en3.d hb1
      cases rwb
      have hval := ck.val (g c)
      have hget : DGet H2 o (.int (g c)) (valV kvs (Sum.inl (g c))) := .k (k := Sum.inl (g c)) ho2
      have hnum : (valV kvs (Sum.inl (g c))).getD (V.int 0) = V.int ((((cs.take n).map g).count (g c) : Nat) : Int) := by
        rw [hval]
        by_cases hm : g c ∈ (cs.take n).map g
        · rw [if_pos hm]; rfl
        · rw [if_neg hm, List.count_eq_zero_of_not_mem hm]; rfl
      have hlk : kvs.length < sizeLine := by
        have h1 := ck.len
        rw [List.length_map, List.length_take] at h1
        exact Nat.lt_of_le_of_lt (show kvs.length ≤ 100000 by omega) (by decide)
      show ∃ v, _ ∧ _
      refine ⟨_, hσi, o, rfl, .inl ⟨kvs, .inl ho2⟩, _, hσb, _, hget, ?_⟩
      rw [hnum]
      refine ⟨_, _, rfl, rfl, _, hσi, _, hσb, o, _, rfl, .k (k := Sum.inl (g c)) ho2 hlk, ?_⟩
      have hS : (F.ext o).S o := .inr rfl
      refine ⟨.d (.int (g c)), .d (.int c), _, en_upd en3 hS ho2, j2.own (F := F.ext o) hM h0 (pl_dK ho2), fun b u hb e => ?_, upd_same, ?_⟩
      · rw [upd_ne (show b ≠ o from fun z => hb (.inl (.inr z)))]
        exact l2.lz b u hb (lz b u hb e)
      · rw [take_next hc, List.map_append]
        exact ck.put (g c)
    · rintro σ' H' ⟨yb, yc, kvs, en', j', lz, ho', ck⟩
      rw [hlen, List.take_length] at ck
      have en2 : EnvOk (F.dic o kvs) H' σ' (((ρ.set i (.raw (.ref o))).set ib yb).set ix yc) := fun m sv e => by
        obtain ⟨y, q, r⟩ := en' m sv e
        refine ⟨y, q, ?_⟩
        cases sv with
        | un => trivial
        | d d => exact r
        | raw v => exact r
        | own o' xs' =>
          obtain ⟨f1, f2, f3, f4, vs, f5, f6⟩ := r
          have hne : o' ≠ o := fun z => by rw [z, ho'] at f5; cases f5
          exact ⟨f1, f2, f3, by show upd F.H0 o _ o' = none; rw [upd_ne hne]; exact f4, vs, f5, f6⟩
      have jd : J (F.dic o kvs) k1 H' := ⟨j'.g, fun b u hb e => by
        by_cases hbo : b = o
        · subst hbo
          have e : upd F.H0 b (.dK kvs) b = some u := e
          rw [upd_same] at e
          rw [← e]; exact ho'
        · have e : upd F.H0 o (.dK kvs) b = some u := e
          rw [upd_ne hbo] at e
          exact j'.le b u hb e, j'.al⟩
      refine hend kvs yb yc ck σ' H' E en2 jd ?_ ?_ ?_ ?_
      · exact fun _ _ _ _ _ _ _ z => z.elim
      · intro v d k' H2 j2 r2 p
        have j3 : J (F.ext o) k' H2 := ⟨j2.g, fun b u hb e => j2.le b u hb (by
          show upd F.H0 o _ b = some u
          have hbo : b ≠ o := fun z => by rw [z] at e; have e : F.H0 o = some u := e; rw [h0] at e; cases e
          rw [upd_ne hbo]; exact e), j2.al⟩
        have r3 : Rp (F.ext o) H2 v d := r2
        exact q2 v d k' H2 j3.unext r3.unext p
      · exact fun _ _ _ _ _ _ _ z => z.elim
      · exact fun _ _ _ _ _ _ _ z => z.elim
/-- list(d.values()), d a dict that rests -/
theorem we_listVals {p pos apos mpos pp : Pos} (i : Nat) {o : Addr} {kvs : List (Key × V)} {is : List Int} (hN : C.N[i]? = some x) (hv : Vis C.sc x) (hr : ρ[i]? = some (.raw (.ref o))) (hM : ¬ F.M o) (h0 : F.H0 o = some (.dK kvs)) (e : kvs.map (·.2) = is.map V.int)
    (hg : C.sc.names.lookup ("list" : Str) = some .globalImplicit) (hm : C.mg ("list" : Str) = none) (hline : (apos.endLine == mpos.line) = true) (h : Φ k (.list (is.map PyData.int))) (hd : (x == ("__debug__" : Str)) = false := by decide) (hcd : (x == ("__classdict__" : Str)) = false := by decide) :
    WPE F C (.Call (.Name "list" p) [.Call (.Attribute (.Name x pp) "values" apos) [] [] mpos] [] pos) ρ k Φ :=
  of_pe (fun X fx => pe_listVals fx.calm (by show X.env.scope.names.lookup ("list" : Str) = _; rw [fx.sc]; exact hg) (by rw [fx.mg]; exact hm) (pe_var (i := i) (by rw [fx.N]; exact hN) (by rw [fx.sc]; exact hv) hd hcd) rfl hline rfl) fun σ H Q en j q => by
    refine ⟨_, en.raw hr, o, kvs, rfl, j.le o _ (Fm.mxA hM) h0, fun l hl => ?_⟩
    rw [e]
    have rv : ∀ is : List Int, RpAll F H (is.map V.int) (is.map PyData.int) := fun is => by
      induction is with
      | nil => exact .nil
      | cons a l ih => exact .cons (.int _) ih
    exact q _ (.list (is.map PyData.int)) k _ (.new hl) (j.new hl) (rep_newL j hl (rv is)) h
end
end Dl

namespace Dl
open PySem PySem.Spec PyProof.Rows L2
/-! ### xs[e:] of a tuple -/
section
variable {F : Fm} {C : Cs} {ρ : Rho} {k : Nat} {Φ : Nat → PyData → Prop} {pos p2 : Pos} {a e : Expr}
theorem we_sliceTF (hK : F.K = C.K) (h : WPE F C a ρ k fun k1 x => WPE F C e ρ k1 fun k2 y => ∃ ds, ∃ m : Nat, x = .tuple ds ∧ y = .int (m : Int) ∧ Φ k2 (.tuple (ds.drop m))) : WPE F C (.Subscript a (.Slice (some e) none none p2) pos) ρ k Φ :=
  of_pe (fun X fx => pe_slice (slTK fx) (peE fx) (po_some (peE fx)) po_none) fun σ H Q en j q => by
    show tE C a σ H _
    refine h σ H _ en j fun v d k1 H1 l1 j1 r hx => ?_
    show tE C e σ H1 _
    refine hx σ H1 _ (en.le l1) j1 fun vy y k2 H2 l2 j2 r2 ⟨ds, m, e1, e2, p⟩ => ?_
    subst e1 e2
    have r' := r.le l2.lz
    have r0 := r'
    cases r' with
    | @tup a xs _ ha hr =>
    cases r2
    have ec : cutV xs (some (m : Int)) none = xs.drop m := by
      unfold cutV
      rw [HT.sIx_nat, HT.sIx_none]
      by_cases hm : m ≤ xs.length
      · rw [Nat.min_eq_left hm, List.take_of_length_le (by rw [List.length_drop]; exact Nat.le_refl _)]
      · rw [Nat.min_eq_right (by omega), Nat.sub_self, List.take_zero, List.drop_of_length_le (by omega)]
    refine ⟨(m : Int), rfl, a, xs, rfl, hK ▸ sqt_of ha, fun hf => ?_, fun _ l hl => ?_⟩
    · have hm : m = 0 ∨ xs.length = 0 := by
        have := hf.1
        rw [HT.sIx_nat] at this
        omega
      have ed : ds.drop m = ds := by
        rcases hm with rfl | hm
        · rfl
        · have : ds = [] := List.eq_nil_of_length_eq_zero (by rw [← hr.length]; exact hm)
          subst this
          exact List.drop_nil
      rw [ed] at p
      exact q _ _ k2 _ (l1.trans l2) j2 r0 p
    · rw [ec]
      exact q _ _ k2 _ ((l1.trans l2).trans (.new hl)) (j2.new hl) (rep_newT j2 hl (RpAll.drp m hr)) p
end
end Dl

namespace Dl
open PySem PySem.Spec PyProof.Rows L2
/-! ### zip of two tuples -/
section
variable {F : Fm} {C : Cs} {ρ : Rho} {k : Nat} {Φ : Nat → PyData → Prop} {P : DE} {pos spos : Pos} {elt e e2 c : Expr} {scope : Scope} {x x1 : Str} {px px1 p3 pr pr2 : Pos} {kk : Nat}
theorem pi2_zt {H1 : Hp} {a b : Addr} {xs ys : List V} {ds es : List PyData} (ha : H1 a = some (.tup xs) ∧ ¬ F.S a) (hr : RpAll F H1 xs ds) (hb : H1 b = some (.tup ys) ∧ ¬ F.S b) (hs : RpAll F H1 ys es) (hl : ds.length = es.length) : PI2 F (RZ.ItzT F.K a b) H1 (ds.zip es) where
  go := fun D hD n d hd => by
    obtain ⟨h1, h2⟩ := List.getElem?_zip_eq_some.mp hd
    have rr : Rp (F.ext D) (upd H1 D (.lst [])) (.ref a) (.tuple ds) := Rep.ext (.tup ha hr) hD
    have ss : Rp (F.ext D) (upd H1 D (.lst [])) (.ref b) (.tuple es) := Rep.ext (.tup hb hs) hD
    cases rr with
    | @tup _ xs' _ ha' hr' =>
    cases ss with
    | @tup _ ys' _ hb' hs' =>
    have hn : n < xs'.length := by rw [hr'.length]; exact (List.getElem?_eq_some_iff.mp h1).1
    have hn2 : n < ys'.length := by rw [hs'.length]; exact (List.getElem?_eq_some_iff.mp h2).1
    obtain ⟨x', hx', rx'⟩ := hr'.got (List.getElem?_eq_getElem hn)
    obtain ⟨y', hy', ry'⟩ := hs'.got (List.getElem?_eq_getElem hn2)
    rw [h1] at hx'
    rw [h2] at hy'
    cases hx'
    cases hy'
    refine ⟨xs'[n], ys'[n], rx', ry', fun H' lz => ?_⟩
    have sq : SqT F.K H' a xs' := sqt_of (S := (F.ext D).S) ⟨lz _ _ (Fm.sxA ha'.2) ha'.1, ha'.2⟩
    have st : SqT F.K H' b ys' := sqt_of (S := (F.ext D).S) ⟨lz _ _ (Fm.sxA hb'.2) hb'.1, hb'.2⟩
    refine ⟨⟨xs', ys', xs'[n], ys'[n], sq, st, List.getElem?_eq_getElem hn, List.getElem?_eq_getElem hn2⟩, ?_⟩
    rintro v H'' ⟨T, x, y, rfl, hT, rfl, hx, hy⟩
    have e1 := hx xs' sq
    have e2 := hy ys' st
    rw [List.getElem?_eq_getElem hn] at e1
    rw [List.getElem?_eq_getElem hn2] at e2
    cases e1
    cases e2
    exact ⟨T, rfl, hT, rfl⟩
  stop := fun D hD H' lz => by
    have rr : Rp (F.ext D) (upd H1 D (.lst [])) (.ref a) (.tuple ds) := Rep.ext (.tup ha hr) hD
    have ss : Rp (F.ext D) (upd H1 D (.lst [])) (.ref b) (.tuple es) := Rep.ext (.tup hb hs) hD
    cases rr with
    | @tup _ xs' _ ha' hr' =>
    cases ss with
    | @tup _ ys' _ hb' hs' =>
    have sq : SqT F.K H' a xs' := sqt_of (S := (F.ext D).S) ⟨lz _ _ (Fm.sxA ha'.2) ha'.1, ha'.2⟩
    have st : SqT F.K H' b ys' := sqt_of (S := (F.ext D).S) ⟨lz _ _ (Fm.sxA hb'.2) hb'.1, hb'.2⟩
    refine ⟨xs', ys', sq, st, .inl ?_⟩
    rw [List.length_zip, hr'.length]; omega
/-- [elt for x, x1 in zip(e, e2)], two tuples of one length -/
theorem we_compZT (i i1 : Nat) (hne : i ≠ i1) (b : Blk2 C scope i x i1 x1) (hK : F.K = C.K) (hg : C.sc.names.lookup ("zip" : Str) = some .globalImplicit) (hm : C.mg ("zip" : Str) = none)
    (hs0 : ∀ env : Env, starEach [e, e2] env = (false, eval e env) :: starEach [e2] env) (hs2 : ∀ env : Env, starEach [e2] env = (false, eval e2 env) :: starEach [] env) (hpl : ∀ env : Env, (backTo pr2 (starEach [e2] env)).any (·.1) = false) (hs : ∀ (env : Env) (v : Value), foldedSetIterable (.Call (.Name "zip" pr) [e, e2] [] pr2) env v = pure v) (g : PyData → PyData → PyData)
    (h : WPE F C e ρ k fun k1 d => WPE F C e2 ρ k1 fun k2 d' => ∃ ds es : List PyData, d = .tuple ds ∧ d' = .tuple es ∧ ds.length = es.length ∧ ds.length ≤ 1000000 ∧ (∀ D (j : Nat) (y z : PyData), ds[j]? = some y → es[j]? = some z → WPE (F.ext D) (C.blk scope) elt ((ρ.set i (.d y)).set i1 (.d z)) k2 fun k3 u => k3 = k2 ∧ u = g y z) ∧ Φ k2 (.list (List.zipWith g ds es))) :
    WPE F C (.ListComp elt [⟨.Tuple [.Name x px, .Name x1 px1] kk p3, .Call (.Name "zip" pr) [e, e2] [] pr2, [], 0⟩] scope pos) ρ k Φ :=
  of_pe (fun X fx => pe_lc (own := [(x, i), (x1, i1)]) (wi := RZ.iZipA C.K (tCons (tE C e) (tCons (tE C e2) tNil))) fx.calm (by rw [fx.N]; exact b.t.hN) (by rw [← fx.K]; exact RZ.pi_zipA (by show X.env.scope.names.lookup ("zip" : Str) = _; rw [fx.sc]; exact hg) (by rw [fx.mg]; exact hm) (pa_cons (peE fx) (pa_cons (peE fx) pa_nil (hs2 X.env)) (hs0 X.env)) (hs0 X.env) (hpl X.env)) (by rw [fx.N, fx.sc]; exact b.ok) (fun s H a cl fp => pgTup (n := 2) (fx.blk s H scope a cl fp) (pgs_cons (b.t.pg (fx.blk s H scope a cl fp)) (pgs_cons (b.t1.pg (fx.blk s H scope a cl fp)) pgs_nil)) (by rfl) (by rfl)) (fun s H a cl fp => pts_nil) (fun s H a cl fp => peE (fx.blk s H scope a cl fp)) (hs X.env))
    (we_lcG i i1 hne hK fun σ H R en j q => by
      show tE C e σ H _
      refine h σ H _ en j fun v d k1 H1 l1 j1 r hh => ?_
      show tE C e2 σ H1 _
      refine hh σ H1 _ (en.le l1) j1 fun v2 d2 k2 H2 l2 j2 r2 ⟨ds, es, e1, e2, hl, hz, hstep, hend⟩ => ?_
      subst e1 e2
      have r := r.le l2.lz
      cases r with
      | @tup a xs _ ha hr =>
      cases r2 with
      | @tup b ys _ hb hrb =>
      refine ⟨a, b, xs, ys, rfl, .inr ⟨hK ▸ sqt_of ha, hK ▸ sqt_of hb, ?_⟩⟩
      rw [← hK]
      have hlz : (ds.zip es).length = ds.length := by rw [List.length_zip]; omega
      refine q _ k2 H2 (ds.zip es) (l1.trans l2) j2 (pi2_zt ha hr hb hrb hl) ⟨fun n k' acc => k' = k2 ∧ acc = ((ds.zip es).take n).map fun p => g p.1 p.2, by rw [hlz]; exact hz, ⟨rfl, by simp⟩, ?_, ?_⟩
      · rintro D n d k' acc hd ⟨rfl, rfl⟩
        obtain ⟨h1, h2⟩ := List.getElem?_zip_eq_some.mp hd
        refine wt_yes ?_
        rw [if_pos rfl]
        refine (hstep D n d.1 d.2 h1 h2).imp fun k2 z ⟨e1, e2⟩ => ⟨e1, ?_⟩
        rw [take_next hd, List.map_append, e2]; rfl
      · rintro k' acc ⟨rfl, rfl⟩
        rw [List.take_length]
        rw [List.zip, List.map_zipWith]; exact hend)
end
end Dl

namespace Dl
open PySem PySem.Spec PyProof.Rows L2
/-! ### x, y, z = (list(range(a)), e2, e3), the first an own list; the own list against [] -/
section
variable {F : Fm} {C : Cs} {ρ : Rho} {k : Nat} {P : DE} {Φ : Nat → PyData → Prop} {Ψ : Nat → Bool → Prop} {pos p pl p1 p2 p3 p4 pt pr pr2 px pq : Pos} {a e2 e3 : Expr} {x x1 x2 x3 : Str} {kk kt : Nat} {rest : List Stmt} {o : Addr}
theorem wb_own3 (i1 i2 i3 : Nat) (h12 : i1 ≠ i2) (h13 : i1 ≠ i3) (h23 : i2 ≠ i3) (t1 : Tgt C i1 x1) (t2 : Tgt C i2 x2) (t3 : Tgt C i3 x3) (hK : F.K = C.K) (hg : C.sc.names.lookup ("list" : Str) = some .globalImplicit) (hm : C.mg ("list" : Str) = none) (hg2 : C.sc.names.lookup ("range" : Str) = some .globalImplicit) (hm2 : C.mg ("range" : Str) = none)
    (hs1 : ∀ env : Env, starEach [a] env = (false, eval a env) :: starEach [] env) (hs2 : ∀ env : Env, starEach [.Call (.Name "range" pr) [a] [] pr2] env = (false, eval (.Call (.Name "range" pr) [a] [] pr2) env) :: starEach [] env)
    (he1 : ∀ env : Env, starEach [.Call (.Name "list" p) [.Call (.Name "range" pr) [a] [] pr2] [] pl, e2, e3] env = (false, eval (.Call (.Name "list" p) [.Call (.Name "range" pr) [a] [] pr2] [] pl) env) :: starEach [e2, e3] env)
    (he2 : ∀ env : Env, starEach [e2, e3] env = (false, eval e2 env) :: starEach [e3] env) (he3 : ∀ env : Env, starEach [e3] env = (false, eval e3 env) :: starEach [] env)
    (hs : ∀ env : Env, env.scope = C.sc → swapsWithSole [.Tuple [.Name x1 p1, .Name x2 p2, .Name x3 p3] kk p4] (.Tuple [.Call (.Name "list" p) [.Call (.Name "range" pr) [a] [] pr2] [] pl, e2, e3] kt pt) pos.line env = pure false)
    (hw : ∀ env : Env, env.scope = C.sc → swappedStores [.Tuple [.Name x1 p1, .Name x2 p2, .Name x3 p3] kk p4] (.Tuple [.Call (.Name "list" p) [.Call (.Name "range" pr) [a] [] pr2] [] pl, e2, e3] kt pt) env = pure none)
    (h : WPE F C a ρ k fun k1 d => ∃ z : Int, d = .int z ∧ (0 ≤ z ∧ z ≤ 16777216) ∧ ∀ o, WPE (F.ext o) C e2 ρ k1 fun k2 d2 => WPE (F.ext o) C e3 ρ k2 fun k3 d3 =>
      WPB (F.ext o) C rest (((ρ.set i1 (.own o ((rg z).map PyData.int))).set i2 (.d d2)).set i3 (.d d3)) k3 { nx := fun _ _ => False, rt := P.rt, bk := fun _ _ => False, ct := fun _ _ => False }) :
    WPB F C (.Assign [.Tuple [.Name x1 p1, .Name x2 p2, .Name x3 p3] kk p4] (.Tuple [.Call (.Name "list" p) [.Call (.Name "range" pr) [a] [] pr2] [] pl, e2, e3] kt pt) pos :: rest) ρ k P :=
  of_pb (fun X fx => pss_cons (ps_asg (pe_tup (pa_cons (pe_listRg fx.calm (by show X.env.scope.names.lookup ("list" : Str) = _; rw [fx.sc]; exact hg) (by rw [fx.mg]; exact hm) (prg_1 (by show X.env.scope.names.lookup ("range" : Str) = _; rw [fx.sc]; exact hg2) (by rw [fx.mg]; exact hm2) (peE fx) (hs1 X.env)) (hs2 X.env)) (pa_cons (peE fx) (pa_cons (peE fx) pa_nil (he3 X.env)) (he2 X.env)) (he1 X.env)))
      (pgTup (n := 3) fx (pgs_cons (t1.pg fx) (pgs_cons (t2.pg fx) (pgs_cons (t3.pg fx) pgs_nil))) (by rfl) (by rfl)) (hs X.env fx.sc) (hw X.env fx.sc)) (pbB fx)) fun σ H E en j q1 q2 q3 q4 => by
    show tE C a σ H _
    refine h σ H _ en j fun v d k1 H1 l1 j1 r ⟨z, e, hz, p⟩ => ?_
    subst e
    cases r
    refine ⟨z, rfl, RgOk.of_le (by decide) hz.2 (by decide) hz.1, fun o no => ?_⟩
    rw [rgV_rg]
    have hM : ¬ F.M o := fun z => F.gl _ _ j1.g o z no
    have h0 : F.H0 o = none := j1.h0 hM no
    have en1 : EnvOk (F.ext o) (upd H1 o (.lst ((rg z).map V.int))) σ ρ := (en.le l1).ext no
    have jo : J (F.ext o) k1 (upd H1 o (.lst ((rg z).map V.int))) := (j1.new no).ext (lv_new fun _ z => nomatch z)
    show tE C e2 σ _ _
    refine p o σ _ _ en1 jo fun v2 d2 k2 H2 l2 j2 r2 p2 => ?_
    show tE C e3 σ _ _
    refine p2 σ H2 _ (en1.le l2) j2 fun v3 d3 k3 H3 l3 j3 r3 p3 => ?_
    refine ⟨by show 3 ≤ sizeLine; decide, fun T nT => ?_⟩
    have hoT : ∀ b u, H3 b = some u → upd H3 T (.tup [.ref o, v2, v3]) b = some u := fun b u e => by rw [upd_ne (ne_of_none e nT)]; exact e
    have leT : Le (F.ext o) H3 (upd H3 T (.tup [.ref o, v2, v3])) := .new nT
    have ho : upd H3 T (.tup [.ref o, v2, v3]) o = some (.lst ((rg z).map V.int)) := hoT o _ (l3 o _ (Fm.mxA hM) (l2 o _ (Fm.mxA hM) upd_same))
    have en4 : EnvOk (F.ext o) (upd H3 T (.tup [.ref o, v2, v3])) (((σ.set i1 (some (.ref o))).set i2 (some v2)).set i3 (some v3)) (((ρ.set i1 (.own o ((rg z).map PyData.int))).set i2 (.d d2)).set i3 (.d d3)) :=
      ((((en1.le l2).le l3).le leT).set (sv := .own o ((rg z).map PyData.int)) ⟨rfl, .inr rfl, hM, h0, _, ho, RepAll.of_ints _⟩ |>.set (sv := .d d2) ⟨v2, rfl, (r2.le l3.lz).le leT.lz⟩).set (sv := .d d3) ⟨v3, rfl, r3.le leT.lz⟩
    refine ⟨T, [.ref o, v2, v3], rfl, .inl (.inl upd_same), rfl, _, _, rfl, _, _, rfl, _, _, rfl, rfl, ?_⟩
    refine p3 _ _ E en4 (j3.new nT) ?_ ?_ ?_ ?_
    · exact fun _ _ _ _ _ _ _ z => z.elim
    · exact fun v d k' H' j' r' p => q2 v d k' H' j'.unext r'.unext p
    · exact fun _ _ _ _ _ _ _ z => z.elim
    · exact fun _ _ _ _ _ _ _ z => z.elim
theorem dp_own {F : Fm} {H : Hp} {o : Addr} {vs : List V} {xs : List PyData} (hv : H o = some (.lst vs)) (rv : RpAll F H vs xs) (hn : SeqAt.shaped (.list xs) = true) : Dp F.K H (.ref o) (.list xs) :=
  Rep.dp (S := fun _ => False) _ _ (.lst ⟨hv, fun z => z⟩ (RepAll.keep (S := F.S) (S' := fun _ => False) (fun _ _ _ e => e) (fun _ _ z => z.elim) _ _ rv)) (nodict_sh hn)
/-- x != [], x the own list -/
theorem wt_neNil (i : Nat) {xs : List PyData} (hK : F.K = C.K) (hN : C.N[i]? = some x) (hv : Vis C.sc x) (hr : ρ[i]? = some (.own o xs)) (hsh : SeqAt.shaped (.list xs) = true) (h : Ψ k (!xs.isEmpty)) (hd : (x == ("__debug__" : Str)) = false := by decide) (hcd : (x == ("__classdict__" : Str)) = false := by decide) :
    WPT F C (.Compare (.Name x px) [.NotEq] [.List [] pq] pos) ρ k Ψ :=
  of_pt (fun X fx => pt_cmpR (opNeK fx) (pe_var (i := i) (by rw [fx.N]; exact hN) (by rw [fx.sc]; exact hv) hd hcd) (pe_lst pa_nil) (nomark _)) fun σ H Q en j q => by
    obtain ⟨hσ, hS, hM, h0, vs, hv', rv⟩ := en.own hr
    refine ⟨_, hσ, Nat.zero_le _, fun l hl => ?_⟩
    have ho : upd H l (.lst []) o = some (.lst vs) := by rw [upd_ne (ne_of_none hv' hl)]; exact hv'
    have leT : Le F H (upd H l (.lst [])) := .new hl
    have d2 : Dp F.K (upd H l (.lst [])) (.ref l) (.list []) := dp_own (F := F) upd_same .nil (shaped_intsL [])
    refine ⟨.list xs, .list [], hK ▸ dp_own ho (rv.le leT.lz) hsh, hK ▸ d2, hsh, shaped_intsL [], _, rfl, ?_⟩
    rw [eqv_nilL]
    exact q _ k _ leT (j.new hl) h
/-- x == [], x the own list -/
theorem we_eqNil (i : Nat) {xs : List PyData} (hK : F.K = C.K) (hN : C.N[i]? = some x) (hv : Vis C.sc x) (hr : ρ[i]? = some (.own o xs)) (hsh : SeqAt.shaped (.list xs) = true) (h : Φ k (.bool xs.isEmpty)) (hd : (x == ("__debug__" : Str)) = false := by decide) (hcd : (x == ("__classdict__" : Str)) = false := by decide) :
    WPE F C (.Compare (.Name x px) [.Eq] [.List [] pq] pos) ρ k Φ :=
  of_pe (fun X fx => pe_cmpR (opEqK fx) (pe_var (i := i) (by rw [fx.N]; exact hN) (by rw [fx.sc]; exact hv) hd hcd) (pe_lst pa_nil) (nomark _)) fun σ H Q en j q => by
    obtain ⟨hσ, hS, hM, h0, vs, hv', rv⟩ := en.own hr
    refine ⟨_, hσ, Nat.zero_le _, fun l hl => ?_⟩
    have ho : upd H l (.lst []) o = some (.lst vs) := by rw [upd_ne (ne_of_none hv' hl)]; exact hv'
    have leT : Le F H (upd H l (.lst [])) := .new hl
    have d2 : Dp F.K (upd H l (.lst [])) (.ref l) (.list []) := dp_own (F := F) upd_same .nil (shaped_intsL [])
    refine ⟨.list xs, .list [], hK ▸ dp_own ho (rv.le leT.lz) hsh, hK ▸ d2, hsh, shaped_intsL [], ?_⟩
    rw [eqv_nilL]
    exact q _ _ k _ leT (j.new hl) (.bl _) h
end
end Dl

namespace Dl
open PySem PySem.Spec PyProof.Rows L2
/-! ### t.index(i), a tuple of ints -/
theorem flat_intsV (ys : List Int) : (ys.map V.int).all flatV = true := by
  rw [List.all_map]
  exact List.all_eq_true.mpr fun _ _ => rfl
def rTupIx (K : PySem.W.Frag) : V → List V → Hp → VK → Prop := fun x xs H Q => ∃ p, ∃ ys : List Int, ∃ (z : Int) (j : Nat), x = .ref p ∧ xs = [.int z] ∧ SqT K H p (ys.map V.int) ∧ ys[j]? = some z ∧ (∀ m, m < j → ys[m]? ≠ some z) ∧ Q (.int (j : Nat)) H
theorem mt_tup_indexI {X : Cx} : MtR X "tuple.index" (rTupIx X.K) := by
  intro pins s σ H x xs v us Q I rx rs h
  obtain ⟨p, ys, z, j, rfl, rfl, hq, hy, hno, q⟩ := h
  cases rx
  obtain ⟨u, rfl, t, rfl⟩ := vals1 rs
  obtain ⟨its, r, pl, hz⟩ := I.tuple hq
  obtain ⟨⟨cls, dd, dt, sl⟩, ho, hc, n, hd⟩ := pl
  simp only at hc hd
  subst hc
  subst hd
  have hl : its.toArray.size = ys.length := by rw [List.size_toArray, ← r.length, List.length_map]
  have hj : j < its.toArray.size := by rw [hl]; exact (List.getElem?_eq_some_iff.mp hy).1
  have at' : ∀ (m : Nat) (hm : m < its.toArray.size), ∃ y t', ys[m]? = some y ∧ its.toArray[m] = Value.int y t' := fun m hm => by
    have hm' : m < ys.length := by rw [← hl]; exact hm
    obtain ⟨w, hw, t', hw'⟩ := r.get (i := m) (x := .int ys[m]) (by simp [hm'])
    refine ⟨ys[m], t', List.getElem?_eq_getElem hm', ?_⟩
    have e := (List.getElem?_eq_some_iff.mp hw).2
    rw [← hw', ← e]
    simp
  refine call_meets PySem.F.slot_tuple_index ⟨_, ho, rfl⟩ PySem.F.entry_tuple_index (PySem.F.args_tuple_index_2 _ _) (TI.tuple_indexAt p its.toArray n dd sl (.int z t) (eqU (.int z)) j hj ?_ ?_)
    ⟨ho, fun w hw => mem_eqAt (x := .int z) ⟨t, rfl⟩ rfl r (flat_intsV ys) w (by simpa using hw), ⟨.int (j : Nat), H, I.tok _, ⟨_, rfl⟩, q⟩⟩
  · obtain ⟨y, t', h1, h2⟩ := at' j hj
    rw [hy] at h1
    cases h1
    rw [h2]
    show (z == z) = true
    exact beq_self_eq_true z
  · intro m hm hmj
    obtain ⟨y, t', h1, h2⟩ := at' m hm
    rw [h2]
    show (y == z) = false
    exact beq_eq_false_iff_ne.mpr fun e => hno m hmj (e ▸ h1)
/-! ### t[::-1], a tuple -/
section
variable {prog : Program} {w : World} {A : Around} {E : Value → Shared → Prop} {s : Shared}
theorem sliceApplied_back {sl : Addr} {n : Nat} {t : Tok} {Q : Int × Int × Nat → Shared → Prop} (hs : s.heap.IsSliceOf sl .none .none (.int (-1) t)) (h : Q ((n : Int) - 1, -1, n) s) : wpAny (model prog w) A (Builtin.Slice.sliceApplied (.ref sl) (pure (n : Int))) Q E s := by
  obtain ⟨os, hos, hcs, hds⟩ := id hs
  unfold Builtin.Slice.sliceApplied Builtin.Slice.sliceFields
  refine wpAny_bind (wpAny_bind (wpAny_field hos hds (x := .none) rfl (wpAny_bind (wpAny_field hos hds (x := .none) rfl (wpAny_bind (wpAny_field hos hds (x := .int (-1) t) rfl (wpAny_pure ?_)))))))
  refine wpAny_bind (HT.slicePart_ (.int (-1) t) ?_)
  show wpAny _ _ (if ((-1 : Int) == 0) = true then _ else _) _ _ s
  rw [if_neg (by decide)]
  refine wpAny_bind (HT.slicePart_ .none (wpAny_bind (HT.slicePart_ .none (wpAny_bind (wpAny_pure ?_)))))
  show wpAny _ _ (pure ((n : Int) - 1, (-1 : Int), Builtin.Slice.slicePlaces ((n : Int) - 1) (-1) (-1))) _ _ s
  have e : Builtin.Slice.slicePlaces ((n : Int) - 1) (-1) (-1) = n := by
    unfold Builtin.Slice.slicePlaces
    have h1 : ¬ ((-1 : Int) > 0) := by decide
    simp only [h1, if_false, show (- -1 : Int) = 1 by decide, Int.ediv_one]
    split <;> omega
  rw [e]
  exact wpAny_pure h
theorem pick_back (xs : Array Value) : ((List.range xs.size).filterMap fun (m : Nat) => xs[((xs.size : Int) - 1 + (m : Int) * (-1)).toNat]?).toArray = xs.toList.reverse.toArray := by
  have e : (List.range xs.size).filterMap (fun (m : Nat) => xs[((xs.size : Int) - 1 + (m : Int) * (-1)).toNat]?) = ((List.range xs.size).map fun k => xs.size - 1 - k).filterMap (xs[·]?) := by
    rw [List.filterMap_map]
    have e2 : (fun (m : Nat) => xs[((xs.size : Int) - 1 + (m : Int) * (-1)).toNat]?) = (fun x => xs[x]?) ∘ fun k => xs.size - 1 - k := by
      funext m
      show xs[_]? = xs[xs.size - 1 - m]?
      rw [show ((xs.size : Int) - 1 + (m : Int) * (-1)).toNat = xs.size - 1 - m by omega]
    rw [e2]
  rw [e, PySem.W.krv_range, List.filterMap_reverse, PySem.W.krv_all]
theorem getItem_tuple_back {t sl : Addr} {items : Array Value} {tk : Tok} {Q : Value → Shared → Prop} (ht : IsTup s.heap t items) (hs : s.heap.IsSliceOf sl .none .none (.int (-1) tk))
    (h : Q (.ref s.heap.objs.size) { s with heap := s.heap.push { cls := .type "tuple", data := .seq items.toList.reverse.toArray } }) (hsz : items.size ≤ sizeLine) : wpAny (model prog w) A (getItem (.ref t) (.ref sl)) Q E s := by
  have htake : sizeOk (.seq items.toList.reverse.toArray) := by
    show items.toList.reverse.toArray.size ≤ sizeLine
    rw [List.size_toArray, List.length_reverse, Array.length_toList]
    exact hsz
  obtain ⟨os, hos, hcs, hds⟩ := id hs
  have hTs : s.TypeIs (.ref sl) "slice" := ⟨os, hos, hcs⟩
  unfold getItem
  try with_reducible refine wpAny_holding ?_
  first | refine wpAny_bind (wpAny_pure ?_) | skip
  refine wpAny_bind (wpAny_sequenceKey ht.typeIs (by decide) ?_)
  refine wpAny_bind (wpAny_callSpecial?_slot (name := Str.ofString "__getitem__") ht.typeIs PyProof.Rows.slot_tuple_getitem
    (wpAny_call_entry PyProof.Rows.slot_tuple_getitem ht.typeIs entry_tuple_getitem ?_ (args_tuple_getitem _ _)))
  show wpAny _ _ (Builtin.Tuple.tupleItemsOf (.ref t) >>= _) _ _ s
  refine wpAny_bind (tupleItemsOf_ ht ?_)
  refine wpAny_bind (wpAny_typeOf hTs ?_)
  rw [if_pos (by decide)]
  refine wpAny_bind (sliceApplied_back hs ?_)
  have hno : ¬ ((((items.size : Int) - 1) == 0 && (-1 : Int) == 1 && items.size == items.size) = true) := by
    rw [show ((-1 : Int) == 1) = false by decide, Bool.and_false, Bool.false_and]
    decide
  show wpAny _ _ (if (((items.size : Int) - 1) == 0 && (-1 : Int) == 1 && items.size == items.size) = true then _ else _) _ _ s
  rw [if_neg hno, pick_back]
  first
    | exact wpAny_bind (m := Builtin.Tuple.tupleExact _) (wpAny_newObj_type (wpAny_pure ⟨_, rfl, wpAny_pure h⟩) htake)
    | exact wpAny_bind (m := Builtin.Tuple.tupleExact _) (wpAny_newObj_type (wpAny_bind (wpAny_pure (wpAny_pure ⟨_, rfl, wpAny_pure h⟩))) htake)
    | exact wpAny_bind (wpAny_bind (m := Builtin.Tuple.tupleExact _) (wpAny_newObj_type (wpAny_pure (wpAny_pure ⟨_, rfl, wpAny_pure h⟩)) htake))
    | exact wpAny_bind (wpAny_bind (m := Builtin.Tuple.tupleExact _) (wpAny_newObj_type (wpAny_pure ⟨_, rfl, wpAny_pure h⟩) htake))
end
def tRevT (K : PySem.W.Frag) (te : TE) : TE := fun σ H Q => te σ H fun x H1 => ∃ a xs, x = .ref a ∧ SqT K H1 a xs ∧ ∀ p, H1 p = none → Q (.ref p) (upd H1 p (.tup xs.reverse))
theorem pe_revT {X : Cx} {e : Expr} {te : TE} {k : Nat} {p1 p2 p3 pos : Pos} (he : PE X e te) : PE X (.Subscript e (.Slice none none (some (.UnaryOp .USub (.Constant (.int 1) k p1) p2)) p3) pos) (tRevT X.K te) := by
  refine ⟨fun pins s σ H Q I h => ?_⟩
  refine Subscript_ (thn (he.run pins s σ H _ I h) fun v s1 ⟨x, H1, I1, r1, q1⟩ => ?_)
  obtain ⟨a, xs, ex, hx, q⟩ := q1
  subst ex
  cases r1
  have hst : PO X (some (.UnaryOp .USub (.Constant (.int 1) k p1) p2)) (tPart (tUn (rU fun i => .int (-i)) (tC (.int 1)))) := po_some (pe_un un_neg pe_int)
  refine wpAny_Slice (thn (po_none.run pins s1 σ H1 (fun o H2 => o = none ∧ H2 = H1) I1 ⟨rfl, rfl⟩) fun vl s2 ⟨l, H2, I2, pl, el, e2⟩ => ?_)
  subst el e2
  refine thn (po_none.run pins s2 σ H2 (fun o H3 => o = none ∧ H3 = H2) I2 ⟨rfl, rfl⟩) fun vu s3 ⟨u, H3, I3, pu, eu, e3⟩ => ?_
  subst eu e3
  refine thn (hst.run pins s3 σ H3 (fun o H4 => o = some (-1) ∧ H4 = H3) I3 ⟨1, rfl, -1, rfl, rfl, rfl⟩) fun vs s4 ⟨o, H4, I4, ps, eo, e4⟩ => ?_
  subst eo e4
  have I5 : Inv X pins σ H4 { s4 with heap := s4.heap.push { cls := .type "slice", data := .fields #[vl, vu, vs] } } := I4.kept (t' := s4.toks) fun b ob q => Heap.get?_push_of_some _ q
  obtain ⟨its, r, ht, hz⟩ := I5.tuple hx
  have hlen := r.length
  cases pl
  cases pu
  cases ps
  show wpAny (model X.prog X.w) X.A (subscriptTail e (.Slice none none (some (.UnaryOp .USub (.Constant (.int 1) k p1) p2)) p3) (.ref a) (.ref s4.heap.objs.size)) (EP X pins σ Q) X.xe _
  refine tail_any (ops := [.ref a, .ref s4.heap.objs.size]) ht.typeIs (PyProof.Rows.slot_tuple_getitem.lookup) ?_ (by with_unfolding_all rfl)
  refine getItem_tuple_back ht (Heap.IsSliceOf.new _ _ _ _) ?_ (by rw [List.size_toArray]; omega)
  refine ⟨.ref _, _, I5.laid (t' := s4.toks) (o := .tup xs.reverse) (fun b ob q => Heap.get?_push_of_some _ q) (Nat.le_refl _) ?_, rfl, q _ (I5.hok.fresh (Nat.le_refl _))⟩
  exact ⟨by rw [List.length_reverse]; exact hz, _, r.reverse, _, Heap.get?_push_size _ rfl, rfl, _, rfl⟩
section
variable {F : Fm} {C : Cs} {ρ : Rho} {k : Nat} {Φ : Nat → PyData → Prop} {pos ap cp p1 p2 p3 : Pos} {a e : Expr} {jj : Nat}
theorem we_revT (hK : F.K = C.K) (h : WPE F C a ρ k fun k1 x => ∃ ds, x = .tuple ds ∧ Φ k1 (.tuple ds.reverse)) : WPE F C (.Subscript a (.Slice none none (some (.UnaryOp .USub (.Constant (.int 1) jj p1) p2)) p3) pos) ρ k Φ :=
  of_pe (t := tRevT C.K (tE C a)) (fun X fx => by rw [← fx.K]; exact pe_revT (peE fx)) fun σ H Q en j q => by
    show tE C a σ H _
    refine h σ H _ en j fun v d k1 H1 l1 j1 r ⟨ds, e, p⟩ => ?_
    subst e
    cases r with
    | @tup b xs _ hb hr =>
    have rev : ∀ (ds : List PyData) (vs : List V), RpAll F H1 vs ds → RpAll F H1 vs.reverse ds.reverse := fun ds => by
      induction ds with
      | nil => intro vs h; cases h; exact .nil
      | cons d ds ih =>
        intro vs h
        cases h with
        | cons r1 r2 => rw [List.reverse_cons, List.reverse_cons]; exact (ih _ r2).append (.cons r1 .nil)
    exact ⟨b, xs, rfl, hK ▸ sqt_of hb, fun l hl => q _ _ k1 _ (l1.trans (.new hl)) (j1.new hl) (rep_newT j1 hl (rev _ _ hr)) p⟩
end
end Dl

namespace Dl
open PySem PySem.Spec PyProof.Rows L2
/-! ### y = tuple(sorted(x + (left.pop(e),))): values over an expression that changes an own list -/
section
variable {F : Fm} {C : Cs} {ρ : Rho} {k : Nat} {P : DE} {Ξ : Nat → List PyData → PyData → Prop} {o : Addr} {te : TE}
theorem wx_tup1 (hM : ¬ F.M o) (h : WX F o te ρ k fun k1 ys d => Ξ k1 ys (.tuple [d])) : WX F o (tTup (tCons te tNil)) ρ k Ξ := fun σ H Q en j q => by
  show te σ H _
  refine h σ H _ en j fun v d k1 ys ws H1 l hw rw j1 rv p => ?_
  refine ⟨by show 1 ≤ sizeLine; decide, fun T hT => ?_⟩
  have le : Le F H1 (upd H1 T (.tup [v])) := .new hT
  exact q _ _ k1 ys ws _ (l.trans le.ld) (le o _ (Fm.mxA hM) hw) (rw.le le.lz) (j1.new hT) (rep_newT j1 hT (.cons rv .nil)) p
theorem wx_call {r : List V → Hp → VK → Prop} (hM : ¬ F.M o) (h : WX F o te ρ k fun k1 ys d => RA F r [d] k1 fun k2 d2 => Ξ k2 ys d2) : WX F o (tCB r (tCons te tNil)) ρ k Ξ := fun σ H Q en j q => by
  show te σ H _
  refine h σ H _ en j fun v d k1 ys ws H1 l hw rw j1 rv p => ?_
  exact p H1 [v] Q j1 (.cons rv .nil) fun v2 d2 k2 H2 le j2 r2 p2 => q v2 d2 k2 ys ws H2 (l.trans le.ld) (le o _ (Fm.mxA hM) hw) (rw.le le.lz) j2 r2 p2
theorem wx_op {r : R2} (ix : Nat) {dx : PyData} (hS : F.S o) (hM : ¬ F.M o) (hx : ρ[ix]? = some (.d dx)) (h : WX F o te ρ k fun k1 ys d => RD F r dx d k1 fun k2 d2 => Ξ k2 ys d2) : WX F o (tOp r (tVar ix) te) ρ k Ξ := fun σ H Q en j q => by
  obtain ⟨vx, hσ, rx⟩ := en.d hx
  refine ⟨vx, hσ, ?_⟩
  show te σ H _
  refine h σ H _ en j fun v d k1 ys ws H1 l hw rw j1 rv p => ?_
  exact p H1 vx v Q j1 (rx.le (l.lz hS)) rv fun v2 d2 k2 H2 le j2 r2 p2 => q v2 d2 k2 ys ws H2 (l.trans le.ld) (le o _ (Fm.mxA hM) hw) (rw.le le.lz) j2 r2 p2
end
section
variable {F : Fm} {C : Cs} {ρ : Rho} {k : Nat} {P : DE} {Φ : Nat → PyData → Prop}
theorem rd_catT (hK : F.K = C.K) {ds es : List PyData} (hz : ds.length + es.length ≤ 1000000) (p : Φ k (.tuple (ds ++ es))) : RD F (rCatA C.K) (.tuple ds) (.tuple es) k Φ := by
  intro H vx vy Q j rx ry qq
  have rx0 := rx
  have ry0 := ry
  cases rx with
  | @tup pa xs _ ha hr =>
  cases ry with
  | @tup pb ys _ hb hs =>
  refine ⟨pa, pb, xs, ys, rfl, rfl, hK ▸ sqt_of ha, hK ▸ sqt_of hb, by rw [hr.length, hs.length]; exact Nat.le_trans hz (by decide), fun e => ?_, fun _ e => ?_, fun _ _ l hl => ?_⟩
  · subst e
    have : ds = [] := List.eq_nil_of_length_eq_zero (by rw [← hr.length]; rfl)
    subst this
    exact qq _ _ k H .refl j ry0 p
  · subst e
    have : es = [] := List.eq_nil_of_length_eq_zero (by rw [← hs.length]; rfl)
    subst this
    rw [List.append_nil] at p
    exact qq _ _ k H .refl j rx0 p
  · exact qq _ _ k _ (.new hl) (j.new hl) (rep_newT j hl (hr.append hs)) p
theorem ra_sortT (hK : F.K = C.K) {ns : List Int} (hz : ns.length ≤ 4000) (p : ∀ ms : List Int, ms.Perm ns → ms.Pairwise (· ≤ ·) → Φ k (.list (ms.map PyData.int))) : RA F (rSortTI C.K) [.tuple (ns.map PyData.int)] k Φ := fun H vs Q j r q => by
  cases r with
  | cons r1 r2 =>
  cases r2
  cases r1 with
  | @tup a xs _ ha hr => exact ⟨a, ns, rfl, hr.ints ▸ hK ▸ sqt_of ha, hz, fun ms l hp hw hl => q _ _ k _ (.new hl) (j.new hl) (rep_newL j hl (RepAll.of_ints ms)) (p ms hp hw)⟩
theorem ra_tuple (hK : F.K = C.K) {ds : List PyData} (p : Φ k (.tuple ds)) : RA F (fun xs H Q => ∃ p ys, xs = [.ref p] ∧ ((SqL C.K H p ys ∧ ∀ l, H l = none → Q (.ref l) (upd H l (.tup ys))) ∨ (SqT C.K H p ys ∧ Q (.ref p) H))) [.list ds] k Φ := fun H vs Q j r q => by
  cases r with
  | cons r1 r2 =>
  cases r2
  cases r1 with
  | @lst a xs _ ha hr => exact ⟨a, xs, rfl, .inl ⟨hK ▸ sql_of ha, fun l hl => q _ _ k _ (.new hl) (j.new hl) (rep_newT j hl hr) p⟩⟩
end
section
variable {F : Fm} {C : Cs} {ρ : Rho} {k : Nat} {P : DE} {pos px py pz ap cp pc pt p1 p2 p3 p4 p5 : Pos} {x y z : Str} {e : Expr} {o : Addr} {kt : Nat}
/-- x = tuple(sorted(z + (y.pop(e),))), y the own list -/
theorem ws_popTS (i ix il : Nat) {xs : List PyData} {ns : List Int} (t : Tgt C i x) (hK : F.K = C.K) (hN : C.N[il]? = some y) (hv : Vis C.sc y) (hr : ρ[il]? = some (.own o xs)) (hNz : C.N[ix]? = some z) (hvz : Vis C.sc z) (hrz : ρ[ix]? = some (.d (.tuple (ns.map PyData.int)))) (hS : F.S o) (hM : ¬ F.M o) (hno : (ρ.set il .un).all plainB = true) (hz : xs.length ≤ 1000000) (hzn : ns.length ≤ 1000)
    (hg : C.sc.names.lookup ("tuple" : Str) = some .globalImplicit) (hm : C.mg ("tuple" : Str) = none) (hg2 : C.sc.names.lookup ("sorted" : Str) = some .globalImplicit) (hm2 : C.mg ("sorted" : Str) = none)
    (hse : ∀ env : Env, starEach [e] env = (false, eval e env) :: starEach [] env)
    (hs1 : ∀ env : Env, starEach [.Call (.Attribute (.Name y py) "pop" ap) [e] [] cp] env = (false, eval (.Call (.Attribute (.Name y py) "pop" ap) [e] [] cp) env) :: starEach [] env)
    (hs2 : ∀ env : Env, starEach [.BinOp (.Name z pz) .Add (.Tuple [.Call (.Attribute (.Name y py) "pop" ap) [e] [] cp] kt pt) pc] env = (false, eval (.BinOp (.Name z pz) .Add (.Tuple [.Call (.Attribute (.Name y py) "pop" ap) [e] [] cp] kt pt) pc) env) :: starEach [] env)
    (hs3 : ∀ env : Env, starEach [.Call (.Name "sorted" p1) [.BinOp (.Name z pz) .Add (.Tuple [.Call (.Attribute (.Name y py) "pop" ap) [e] [] cp] kt pt) pc] [] p2] env = (false, eval (.Call (.Name "sorted" p1) [.BinOp (.Name z pz) .Add (.Tuple [.Call (.Attribute (.Name y py) "pop" ap) [e] [] cp] kt pt) pc] [] p2) env) :: starEach [] env)
    (hs : ∀ env : Env, env.scope = C.sc → swapsWith (.Call (.Name "tuple" p3) [.Call (.Name "sorted" p1) [.BinOp (.Name z pz) .Add (.Tuple [.Call (.Attribute (.Name y py) "pop" ap) [e] [] cp] kt pt) pc] [] p2] [] p4) (some (.Name x px)) pos.line env = pure false)
    (h : WPE F C e ρ k fun k1 d => ∃ (n : Nat) (c : Int), d = .int n ∧ xs[n]? = some (.int c) ∧ ∀ ms : List Int, ms.Perm (ns ++ [c]) → ms.Pairwise (· ≤ ·) → P.nx k1 ((ρ.set il (.own o (xs.eraseIdx n))).set i (.d (.tuple (ms.map PyData.int)))))
    (hd : (y == ("__debug__" : Str)) = false := by decide) (hcd : (y == ("__classdict__" : Str)) = false := by decide) (hd2 : (z == ("__debug__" : Str)) = false := by decide) (hcd2 : (z == ("__classdict__" : Str)) = false := by decide)
    (hbm : ∀ X : Cx, ∀ {to : TE} {t : TA}, PE X (.Name y py) to → PA X [e] t → PE X (.Call (.Attribute (.Name y py) "pop" ap) [e] [] cp) (tBM X.K "list" rPopAt to t) := by exact fun X {to t} h1 h2 => pe_bm PySem.F.plainAttrs_list PySem.F.slot_list_pop PySem.F.type_list_pop mt_popAt h1 h2) :
    WPS F C (.Assign [.Name x px] (.Call (.Name "tuple" p3) [.Call (.Name "sorted" p1) [.BinOp (.Name z pz) .Add (.Tuple [.Call (.Attribute (.Name y py) "pop" ap) [e] [] cp] kt pt) pc] [] p2] [] p4) pos) ρ k P :=
  of_ps (fun X fx => ps_set (by rw [fx.N]; exact t.hN) (by rw [fx.N]; exact t.hi) (by rw [fx.sc]; exact t.hx)
      (pe_callTy (tupK fx) (by show X.env.scope.names.lookup ("tuple" : Str) = _; rw [fx.sc]; exact hg) (by rw [fx.mg]; exact hm) (by decide +kernel) (pa_cons (pe_callB (id := "sorted") (srtTK fx) (by show X.env.scope.names.lookup ("sorted" : Str) = _; rw [fx.sc]; exact hg2) (by rw [fx.mg]; exact hm2) (by decide +kernel)
        (pa_cons (pe_op (catTK fx) (pe_var (i := ix) (by rw [fx.N]; exact hNz) (by rw [fx.sc]; exact hvz) hd2 hcd2) (pe_tup (pa_cons (pePop (x := y) il fx hN hv hse hd hcd hbm) pa_nil (hs1 X.env)))) pa_nil (hs2 X.env)) (by decide) (by decide) (hs2 X.env) rfl) pa_nil (hs3 X.env)) (by decide) (by decide) (hs3 X.env) rfl)
      (hs X.env fx.sc) (by rw [fx.fn, fx.sc]; exact t.hf)) fun σ H E en j q1 _ _ _ => by
    have w1 : WX F o (tPop C il e) ρ k fun k1 ys d => ∃ c : Int, d = .int c ∧ ∀ ms : List Int, ms.Perm (ns ++ [c]) → ms.Pairwise (· ≤ ·) → P.nx k1 ((ρ.set il (.own o ys)).set i (.d (.tuple (ms.map PyData.int)))) :=
      wx_pop il hr hz (h.imp fun k1 d ⟨n, c, e1, e2, p⟩ => ⟨n, .int c, e1, e2, c, rfl, p⟩)
    have w4 := wx_call (Ξ := fun k1 ys d => P.nx k1 ((ρ.set il (.own o ys)).set i (.d d))) hM (wx_call hM (wx_op ix hS hM hrz (wx_tup1 hM (Ξ := fun k1 ys d => RD F (rCatA C.K) (.tuple (ns.map PyData.int)) d k1 fun k2 d2 => RA F (rSortTI C.K) [d2] k2 fun k3 d3 => RA F (fun xs H Q => ∃ p ys, xs = [.ref p] ∧ ((SqL C.K H p ys ∧ ∀ l, H l = none → Q (.ref l) (upd H l (.tup ys))) ∨ (SqT C.K H p ys ∧ Q (.ref p) H))) [d3] k3 fun k4 d4 => P.nx k4 ((ρ.set il (.own o ys)).set i (.d d4))) (fun σ H Q en j q => w1 σ H Q en j fun v d k' ys ws H' l hw r j' rv ⟨c, ec, p⟩ => by
      subst ec
      refine q v _ k' ys ws H' l hw r j' rv (rd_catT hK (by rw [List.length_map]; show _ + 1 ≤ _; omega) ?_)
      have e1 : ns.map PyData.int ++ [PyData.int c] = (ns ++ [c]).map PyData.int := by rw [List.map_append]; rfl
      rw [e1]
      exact ra_sortT hK (by rw [List.length_append]; show _ + 1 ≤ _; omega) fun ms hp hw => ra_tuple hK (p ms hp hw)))))
    refine w4 σ H _ en j fun v d k' ys ws H' l hw r j' rv p => ?_
    exact q1 _ (σ.set i (some v)) k' H' (l.lz hS) ((en.ownLd hr hno l hw r).set (sv := .d d) ⟨v, rfl, rv⟩) j' p
end
section
variable {F : Fm} {C : Cs} {ρ : Rho} {k : Nat} {P : DE} {pos p pl p1 p2 p4 pt pr pr2 : Pos} {a e2 : Expr} {x1 x2 : Str} {kk kt : Nat} {rest : List Stmt}
/-- x, y = (list(range(a)), e2), both plain names, the first an own list -/
theorem wb_own2 (i1 i2 : Nat) (h12 : i1 ≠ i2) (t1 : Tgt C i1 x1) (t2 : Tgt C i2 x2) (hl1 : C.sc.names.lookup x1 = some .local) (hl2 : C.sc.names.lookup x2 = some .local) (hg : C.sc.names.lookup ("list" : Str) = some .globalImplicit) (hm : C.mg ("list" : Str) = none) (hg2 : C.sc.names.lookup ("range" : Str) = some .globalImplicit) (hm2 : C.mg ("range" : Str) = none)
    (hs1 : ∀ env : Env, starEach [a] env = (false, eval a env) :: starEach [] env) (hs2 : ∀ env : Env, starEach [.Call (.Name "range" pr) [a] [] pr2] env = (false, eval (.Call (.Name "range" pr) [a] [] pr2) env) :: starEach [] env)
    (he1 : ∀ env : Env, starEach [.Call (.Name "list" p) [.Call (.Name "range" pr) [a] [] pr2] [] pl, e2] env = (false, eval (.Call (.Name "list" p) [.Call (.Name "range" pr) [a] [] pr2] [] pl) env) :: starEach [e2] env)
    (he2 : ∀ env : Env, starEach [e2] env = (false, eval e2 env) :: starEach [] env)
    (hs : ∀ env : Env, swapsWithSole [.Tuple [.Name x1 p1, .Name x2 p2] kk p4] (.Tuple [.Call (.Name "list" p) [.Call (.Name "range" pr) [a] [] pr2] [] pl, e2] kt pt) pos.line env = pure false)
    (hw : ∀ env : Env, env.scope = C.sc → swappedStores [.Tuple [.Name x1 p1, .Name x2 p2] kk p4] (.Tuple [.Call (.Name "list" p) [.Call (.Name "range" pr) [a] [] pr2] [] pl, e2] kt pt) env = pure (some [x1, x2]))
    (h : WPE F C a ρ k fun k1 d => ∃ z : Int, d = .int z ∧ (0 ≤ z ∧ z ≤ 16777216) ∧ ∀ o, ¬ F.M o → WPE (F.ext o) C e2 ρ k1 fun k2 d2 =>
      WPB (F.ext o) C rest ((ρ.set i1 (.own o ((rg z).map PyData.int))).set i2 (.d d2)) k2 { nx := fun _ _ => False, rt := P.rt, bk := fun _ _ => False, ct := fun _ _ => False }) :
    WPB F C (.Assign [.Tuple [.Name x1 p1, .Name x2 p2] kk p4] (.Tuple [.Call (.Name "list" p) [.Call (.Name "range" pr) [a] [] pr2] [] pl, e2] kt pt) pos :: rest) ρ k P :=
  of_pb (fun X fx => pss_cons (ps_par fx.calm (by rw [fx.N]; exact t1.hN) (by rw [fx.N]; exact t1.hi) (by rw [fx.N]; exact t2.hi) h12 (by rw [fx.sc]; exact hl1) (by rw [fx.sc]; exact hl2)
      (pa_cons (pe_listRg fx.calm (by show X.env.scope.names.lookup ("list" : Str) = _; rw [fx.sc]; exact hg) (by rw [fx.mg]; exact hm) (prg_1 (by show X.env.scope.names.lookup ("range" : Str) = _; rw [fx.sc]; exact hg2) (by rw [fx.mg]; exact hm2) (peE fx) (hs1 X.env)) (hs2 X.env)) (pa_cons (peE fx) pa_nil (he2 X.env)) (he1 X.env))
      (hw X.env fx.sc) (hs X.env)) (pbB fx)) fun σ H E en j q1 q2 q3 q4 => by
    show tE C a σ H _
    refine h σ H _ en j fun v d k1 H1 l1 j1 r ⟨z, e, hz, p⟩ => ?_
    subst e
    cases r
    refine ⟨z, rfl, RgOk.of_le (by decide) hz.2 (by decide) hz.1, fun o no => ?_⟩
    rw [rgV_rg]
    have hM : ¬ F.M o := fun z => F.gl _ _ j1.g o z no
    have h0 : F.H0 o = none := j1.h0 hM no
    have en1 : EnvOk (F.ext o) (upd H1 o (.lst ((rg z).map V.int))) σ ρ := (en.le l1).ext no
    have jo : J (F.ext o) k1 (upd H1 o (.lst ((rg z).map V.int))) := (j1.new no).ext (lv_new fun _ z => nomatch z)
    show tE C e2 σ _ _
    refine p o hM σ _ _ en1 jo fun v2 d2 k2 H2 l2 j2 r2 p2 => ?_
    have ho : H2 o = some (.lst ((rg z).map V.int)) := l2 o _ (Fm.mxA hM) upd_same
    have en4 : EnvOk (F.ext o) H2 ((σ.set i1 (some (.ref o))).set i2 (some v2)) ((ρ.set i1 (.own o ((rg z).map PyData.int))).set i2 (.d d2)) :=
      ((en1.le l2).set (sv := .own o ((rg z).map PyData.int)) ⟨rfl, .inr rfl, hM, h0, _, ho, RepAll.of_ints _⟩).set (sv := .d d2) ⟨v2, rfl, r2⟩
    refine ⟨.ref o, v2, rfl, ?_⟩
    refine p2 _ _ E en4 j2 ?_ ?_ ?_ ?_
    · exact fun _ _ _ _ _ _ _ z => z.elim
    · exact fun v d k' H' j' r' p => q2 v d k' H' j'.unext r'.unext p
    · exact fun _ _ _ _ _ _ _ z => z.elim
    · exact fun _ _ _ _ _ _ _ z => z.elim
end
section
variable {F : Fm} {C : Cs} {ρ : Rho} {k : Nat} {P : DE} {pos p2 px : Pos} {es : List Expr} {x : Str} {rest : List Stmt}
/-- x = [..] as an own list for two statements, then data again -/
theorem wb_ownLst2 (i : Nat) {st st2 : Stmt} (t : Tgt C i x) (hi : i < ρ.length) (hs : ∀ env : Env, env.scope = C.sc → swapsWith (.List es p2) (some (.Name x px)) pos.line env = pure false)
    (h : WPA F C es ρ k fun k2 ds => ds.length ≤ 1000000 ∧
      ∀ o, WPS (F.ext o) C st (ρ.set i (.own o ds)) k2 { nx := fun k' ρ' => WPS (F.ext o) C st2 ρ' k' { nx := fun k' ρ' => ∃ ys, ρ'[i]? = some (.own o ys) ∧ (ρ'.set i .un).all plainB = true ∧ WPB F C rest (ρ'.set i (.d (.list ys))) k' P, rt := P.rt, bk := fun _ _ => False, ct := fun _ _ => False }, rt := P.rt, bk := fun _ _ => False, ct := fun _ _ => False }) :
    WPB F C (.Assign [.Name x px] (.List es p2) pos :: st :: st2 :: rest) ρ k P :=
  of_pb (fun X fx => pss_cons (ps_set (by rw [fx.N]; exact t.hN) (by rw [fx.N]; exact t.hi) (by rw [fx.sc]; exact t.hx) (pe_lst (paA fx)) (hs X.env fx.sc) (by rw [fx.fn, fx.sc]; exact t.hf)) (pss_cons (psS fx) (pss_cons (psS fx) (pbB fx)))) fun σ H E en j q1 q2 q3 q4 => by
    refine h σ H _ en j fun xs ds k2 H2 l2 j2 hr ⟨hz, p⟩ => ?_
    refine ⟨by rw [hr.length]; exact Nat.le_trans hz (by decide), fun o no => ?_⟩
    have hM : ¬ F.M o := fun z => F.gl _ _ j2.g o z no
    have hS : ¬ F.S o := j2.fresh no
    have h0 : F.H0 o = none := j2.h0 hM no
    have en2 : EnvOk (F.ext o) (upd H2 o (.lst (xs))) (σ.set i (some (.ref o))) (ρ.set i (.own o ds)) :=
      ((en.le l2).ext no).set (sv := .own o ds) ⟨rfl, .inr rfl, hM, h0, xs, upd_same, hr.ext no⟩
    have lz0 : Lz F H H2 := l2.lz
    have lzo : ∀ H', Lz (F.ext o) (upd H2 o (.lst (xs))) H' → Lz F H H' := fun H' lz b u hb e => by
      have e2 := lz0 b u hb e
      have ne : b ≠ o := ne_of_none e2 no
      exact lz b u (fun z => z.elim (fun y => y.elim (fun q => hb (.inl q)) ne) fun q => hb (.inr q)) (by rw [upd_ne ne]; exact e2)
    refine p o (σ.set i (some (.ref o))) (upd H2 o (.lst (xs))) _ en2 ((j2.new no).ext (lv_new fun _ z => nomatch z)) ?_ ?_ ?_ ?_
    · rintro ρ1 σ1 k1' H1' lz1 en1' j1' hst2
      refine hst2 σ1 H1' _ en1' j1' ?_ (fun v d k' H' j' r' p => q2 v d k' H' j'.unext r'.unext p) (fun _ _ _ _ _ _ _ z => z.elim) (fun _ _ _ _ _ _ _ z => z.elim)
      rintro ρ' σ' k' H' lz2 en' j' ⟨zs, hown, hpl, hrest⟩
      have lz := lz1.trans lz2
      have hlz := lzo H' lz
      obtain ⟨hσ', _, _, _, vs, hvs, rvs⟩ := en'.own hown
      have en3 : EnvOk F H' σ' (ρ'.set i (.d (.list zs))) := by
        intro m sv em
        by_cases hj : i = m
        · subst hj
          have hl : i < ρ'.length := (List.getElem?_eq_some_iff.mp hown).1
          rw [List.getElem?_set_self hl] at em
          cases em
          exact ⟨_, hσ', _, rfl, .lst ⟨hvs, hS⟩ rvs.unext⟩
        · rw [List.getElem?_set_ne hj] at em
          obtain ⟨y, qy, sy⟩ := en' m sv em
          refine ⟨y, qy, ?_⟩
          cases sv with
          | un => trivial
          | d d => obtain ⟨v, z, r⟩ := sy; exact ⟨v, z, r.unext⟩
          | raw v => exact sy
          | own o' xs' => exact (noOwn_of hpl m o' xs' (Ne.symm hj) em).elim
      exact hrest σ' H' E en3 j'.unext (fun ρ2 σ2 k2 H2 l2 => q1 ρ2 σ2 k2 H2 (hlz.trans l2)) q2 (fun ρ2 σ2 k2 H2 l2 => q3 ρ2 σ2 k2 H2 (hlz.trans l2)) (fun ρ2 σ2 k2 H2 l2 => q4 ρ2 σ2 k2 H2 (hlz.trans l2))
    · exact fun v d k' H' j' r' p => q2 v d k' H' j'.unext r'.unext p
    · exact fun _ _ _ _ _ _ _ z => z.elim
    · exact fun _ _ _ _ _ _ _ z => z.elim
end
end Dl

namespace Dl
open PySem PySem.Spec PyProof.Rows L2
/-! ### enumerate over a tuple -/
abbrev et1 (h : Heap) (t : Addr) : Heap := h.push { cls := .type "tuple_iterator", data := .fields #[.ref t, .int 0 0] }
abbrev et2 (h : Heap) (t : Addr) : Heap := (et1 h t).push { cls := .type "enumerate", data := .fields #[.none, .bool false, .ref h.objs.size, rawInt 0, .none, .none] }
set_option maxHeartbeats 1000000 in
theorem meets_et (t : Addr) (xs : Array Value) : Meets (Builtin.«enumerate.__new__» ⟨[.type "enumerate", .ref t], []⟩)
    (fun _ R s => s.heap.IsTuple t xs ∧ R (.ok (.ret (.ref (et1 s.heap t).objs.size))) { s with heap := et2 s.heap t }) :=
  .of_wp fun prog w A R s q => by
    obtain ⟨hp, g, d, tk, os⟩ := s; obtain ⟨q1, q⟩ := q
    have hsub := sub_enumerate
    have T1 : Heap.IsTuple (Shared.heap ⟨hp, g, d, tk, os⟩) t xs := q1
    obtain ⟨o, ho, hc, n, hd⟩ := id q1
    obtain ⟨c0, dct, dt, sl⟩ := o
    replace hc : c0 = .type "tuple" := hc
    replace hd : dt = .seq xs n := hd
    subst hc hd
    wp_walk using AutoSeq1.wpAny_loadPart' ho
    refine wpAny_stack_any (fun sk => wpAny_pure ?_)
    split
    · rename_i c _ _ _ _ _
      cases (c == Value.type "enumerate") <;> (wp_walk using AutoSeq1.wpAny_loadPart' ho, wpAny_pyIter_tuple T1) <;> exact ⟨_, rfl, q⟩
    · wp_walk using AutoSeq1.wpAny_loadPart' ho, wpAny_pyIter_tuple T1
      exact ⟨_, rfl, q⟩
section
variable {prog : Program} {w : World} {A : Around} {E : Value → Shared → Prop} {s : Shared}
theorem call_et {t : Addr} {xs : Array Value} {Q : Value → Shared → Prop} (q1 : s.heap.IsTuple t xs)
    (q : IsEnum (et2 s.heap t) (s.heap.objs.size + 1) s.heap.objs.size 0 .none → (et2 s.heap t).IsTupleIter s.heap.objs.size t 0 → (∀ c o, s.heap.get? c = some o → (et2 s.heap t).get? c = some o) → Q (.ref (s.heap.objs.size + 1)) { s with heap := et2 s.heap t }) :
    wpAny (model prog w) A (call (.type "enumerate") [.ref t]) Q E s := by
  refine callType_new F.called_enumerate (by decide) (F.typeCall_enumerate_1 _) (F.newCall_enumerate_1 _) (fun obj => F.args_object_init_2 obj _) F.entry_enumerate_new (meets_et t xs) ⟨q1, ?_⟩
  have n1 : (et1 s.heap t).objs.size = s.heap.objs.size + 1 := Heap.size_push ..
  have m2 : (et2 s.heap t).get? (et1 s.heap t).objs.size = some _ := Heap.get?_push_size _ rfl
  have m1 : (et2 s.heap t).get? s.heap.objs.size = some _ := Heap.get?_push_of_some _ (Heap.get?_push_size _ rfl)
  rw [n1] at m2
  show _ ∧ _
  rw [n1]
  exact ⟨⟨_, m2, rfl⟩, q m2 ⟨_, m1, rfl, rfl⟩ fun c o e => Heap.get?_push_of_some _ (Heap.get?_push_of_some _ e)⟩
end
def Itet (K : PySem.W.Frag) (a : Addr) : It :=
  ⟨fun i H => ∃ (xs : List V) (x : V), SqT K H a xs ∧ xs[i]? = some x, fun i H v H' => ∃ t x, v = .ref t ∧ H t = none ∧ H' = upd H t (.tup [.int (i : Nat), x]) ∧ ∀ xs, SqT K H a xs → xs[i]? = some x, fun i H => ∃ xs : List V, SqT K H a xs ∧ xs.length = i⟩
theorem turn_et {P : Program} {w : World} {K : PySem.W.Frag} {elts : List Expr} {kk : Nat} {tpos : Pos} (a e it : Addr) (hae : a ≠ e) (hai : a ≠ it) (hei : e ≠ it) :
    Turn P w K (.Tuple elts kk tpos) (Itet K a) [e, it] e (fun i h => (∃ old, IsEnum h e it ((i : Nat) : Int) old) ∧ h.IsTupleIter it a i) where
  mem := by simp
  obj := fun i h st c hc => by
    obtain ⟨⟨old, he⟩, ⟨o, ho, _, hd⟩⟩ := st
    have two : c = e ∨ c = it := by simpa using hc
    rcases two with rfl | rfl
    · exact ⟨_, he, fun v q => nomatch q⟩
    · exact ⟨o, ho, fun v q => by rw [hd] at q; cases q⟩
  keep := fun i h h' st k => by
    obtain ⟨⟨old, he⟩, wt⟩ := st
    exact ⟨⟨old, k e (by simp) _ he⟩, wt.at fun o q => k it (by simp) o q⟩
  item := by
    intro X hP hw hK hc i pins s σ H E I hf st hg
    subst hP hw hK
    obtain ⟨⟨old, he⟩, wt⟩ := st
    obtain ⟨xs, x, sq, hx⟩ := hg
    obtain ⟨its, rv, p, _⟩ := I.tuple sq
    obtain ⟨u, hu, ru⟩ := rv.get hx
    have elt : e < s.heap.objs.size := Heap.lt_size he
    have ilt : it < s.heap.objs.size := by obtain ⟨o, q, _⟩ := wt; exact Heap.lt_size q
    have hi : i < its.toArray.size := by
      have := (List.getElem?_eq_some_iff.mp hu).1
      simpa using this
    have D := Draws.tuple (prog := X.prog) (w := X.w) (A := X.A.in1) (I.ok.hd hc) it a hai its.toArray
    refine wpAny_pyNext_enum_itemD D he ⟨wt, p⟩ hi hei (by simp [hei, Ne.symm hae]) fun y h1 tk hy ho st1 hT hsz hk => ?_
    have ey : y = u := by
      have h2 : its.toArray[i]? = some u := by simpa using hu
      exact Option.some.inj (hy.symm.trans h2)
    subst ey
    refine ⟨_, rfl, wpAny_letOwnedTupleGo_enum (s := { s with heap := h1, toks := tk + 1 }) ho fun h2 he2 sb => ?_⟩
    have hT2 : h2.get? s.heap.objs.size = some { cls := .type "tuple", data := .seq #[.int i tk, y] } := (sb.2 _ (Nat.ne_of_gt elt)).trans hT
    have okn : ObjOk X.prog X.w (upd H s.heap.objs.size (.tup [.int (i : Nat), x])) h2 s.heap.objs.size (.tup [.int (i : Nat), x]) :=
      ⟨by show 2 ≤ sizeLine; decide, [.int i tk, y], .cons ⟨_, rfl⟩ (.cons ru .nil), ⟨_, hT2, rfl, _, rfl⟩⟩
    have V1 : Inv X pins σ (upd H s.heap.objs.size (.tup [.int (i : Nat), x])) { s with heap := h2, toks := tk + 1 } :=
      I.turnedNew (ch := [e, it]) (fun c o nb g => (sb.2 c fun q => nb (by simp [q])).trans (hk c o (fun q => nb (by simp [q])) (fun q => nb (by simp [q])) g)) hf (Nat.le_refl _) okn
    refine ⟨.ref s.heap.objs.size, _, V1, rfl, ⟨_, x, rfl, I.hok.fresh (Nat.le_refl _), rfl, fun ys hy => by rw [I.tuple_inj hy sq]; exact hx⟩, ⟨⟨y, ?_⟩, st1.1.at fun o q => (sb.2 it (Ne.symm hei)).trans q⟩, fun c hcm => ?_⟩
    · have eI : ((i + 1 : Nat) : Int) = (i : Int) + 1 := by omega
      rw [eI]; exact he2
    · have clt : c < s.heap.objs.size := by
        have two : c = e ∨ c = it := by simpa using hcm
        rcases two with rfl | rfl <;> assumption
      rw [upd_ne (Nat.ne_of_lt clt)]
      exact (hf c hcm).1
  done := by
    intro X hP hw hK hc i pins s σ H E I hf st hg
    subst hP hw hK
    obtain ⟨⟨old, he⟩, wt⟩ := st
    obtain ⟨xs, sq, hx⟩ := hg
    obtain ⟨its, rv, p, _⟩ := I.tuple sq
    obtain ⟨f0, f1, f2, f3, f4, f5⟩ := hf it (by simp)
    have hl := rv.length
    have ei : i = its.toArray.size := by rw [← hx, hl]; simp
    have D := Draws.tuple (prog := X.prog) (w := X.w) (A := X.A.in1) (I.ok.hd hc) it a hai its.toArray
    exact wpAny_pyNext_enum_endD D he ⟨ei ▸ wt, p⟩ fun h' eb => ⟨rfl, I.turned (t' := s.toks) (fun b o hb q => eb b o hb q) f0 f1 f3 f4 f5⟩
  self := fun A i s Q E st h => let ⟨⟨_, he⟩, _⟩ := st; wpAny_pyIter_enum he h
def iEt (K : PySem.W.Frag) (ta : TA) : TI := fun σ H R => ta σ H fun vs H1 => ∃ a xs, vs = [.ref a] ∧ SqT K H1 a xs ∧ R (Itet K a) H1
theorem pi_et {X : Cx} {e : Expr} {ta : TA} {p pos tpos : Pos} {elts : List Expr} {kk : Nat} (hg : Gl X "enumerate") (hm : X.mg "enumerate" = none) (ha : PA X [e] ta) (hs : starEach [e] X.env = [(false, eval e X.env)]) :
    PI X (.Tuple elts kk tpos) (.Call (.Name "enumerate" p) [e] [] pos) (iEt X.K ta) := by
  refine ⟨fun pins s σ H R I h => Call_ (ld_blt I hg hm boot_enumerate (PyProof.Rows.callWith_type1 (thn (ha.run pos pins s σ H _ I h) fun us s1 ⟨vs, H1, I1, r1, q1⟩ => ?_) hs rfl))⟩
  obtain ⟨a, xs, rfl, sq, q⟩ := q1
  cases r1 with
  | cons ra rr =>
  cases rr
  cases ra
  obtain ⟨vx, rx, lx, _⟩ := I1.tuple sq
  have lta : a < s1.heap.objs.size := by obtain ⟨o, q, _⟩ := lx; exact Heap.lt_size q
  refine call_et lx fun pe wt kp => wpAny_pyIter_enum pe ?_
  have V2 : Inv X pins σ H1 { s1 with heap := et2 s1.heap a } := I1.kept (t' := s1.toks) kp
  refine ⟨s1.heap.objs.size + 1, [s1.heap.objs.size + 1, s1.heap.objs.size], _, _, H1, rfl, V2, turn_et a (s1.heap.objs.size + 1) s1.heap.objs.size (Nat.ne_of_lt (Nat.lt_succ_of_lt lta)) (Nat.ne_of_lt lta) (Nat.succ_ne_self _), ⟨⟨.none, pe⟩, wt⟩, fun c hcm => ?_, q⟩
  have two : c = s1.heap.objs.size + 1 ∨ c = s1.heap.objs.size := by simpa using hcm
  have ge : s1.heap.objs.size ≤ c := by rcases two with z | z <;> rw [z] <;> first | exact Nat.le_add_right _ _ | exact Nat.le_refl _
  exact I1.fpOk ge (I1.hok.fresh ge)
section
variable {F : Fm} {C : Cs} {ρ : Rho} {k : Nat} {P : DE} {pos p p1 p2 tp : Pos} {a : Expr} {x1 x2 : Str} {kk : Nat} {body : List Stmt}
/-- for x1, x2 in enumerate(a tuple) -/
theorem ws_for_et (i1 i2 : Nat) (t1 : Tgt C i1 x1) (t2 : Tgt C i2 x2) (hK : F.K = C.K) (hg : C.sc.names.lookup ("enumerate" : Str) = some .globalImplicit) (hm : C.mg ("enumerate" : Str) = none)
    (hse : ∀ env : Env, starEach [a] env = [(false, eval a env)]) (hfs : ∀ (env : Env) (v : Value), foldedSetIterable (.Call (.Name "enumerate" p) [a] [] pos) env v = pure v)
    (h : WPE F C a ρ k fun k2 d => ∃ (I : Nat → Nat → Rho → Prop) (ds : List PyData), d = .tuple ds ∧ I 0 k2 ρ ∧
      (∀ (j : Nat) (y : PyData) k' ρ', ds[j]? = some y → I j k' ρ' → WPB F C body ((ρ'.set i1 (.d (.int (j : Int)))).set i2 (.d y)) k' (P.loop (I (j + 1)))) ∧ (∀ k' ρ', I ds.length k' ρ' → P.nx k' ρ')) :
    WPS F C (.For (.Tuple [.Name x1 p1, .Name x2 p2] kk tp) (.Call (.Name "enumerate" p) [a] [] pos) body [] pos) ρ k P :=
  of_ps (t := tFor (iEt C.K (tCons (tE C a) tNil)) (gTup C.K 2 (gCons (gName i1) (gCons (gName i2) gNil))) (tB C body)) (fun X fx => ps_for (by rw [fx.xe]; exact PassesOwn.never) fx.calm
      (by rw [← fx.K]; exact pi_et (by show X.env.scope.names.lookup ("enumerate" : Str) = _; rw [fx.sc]; exact hg) (by rw [fx.mg]; exact hm) (pa_cons (peE fx) pa_nil (hse X.env)) (hse X.env))
      (pgTup (n := 2) fx (pgs_cons (t1.pg fx) (pgs_cons (t2.pg fx) pgs_nil)) (by rfl) (by rfl)) (pbB fx) (hfs X.env)) fun σ H E en j q1 q2 q3 q4 => by
    show tE C a σ H _
    refine h σ H _ en j fun va da k2 H2 l2 j2 ra hh => ?_
    obtain ⟨I, ds, e1, i0, hstep, hend⟩ := hh
    subst e1
    cases ra with
    | @tup pa xs _ ha hra =>
    refine ⟨pa, xs, rfl, hK ▸ sqt_of ha, ?_⟩
    have nx : xs.length = ds.length := hra.length
    refine ⟨fun n m σ' H' => m + n = xs.length ∧ ∃ k' ρ', EnvOk F H' σ' ρ' ∧ J F k' H' ∧ Lz F H2 H' ∧ I n k' ρ', ⟨xs.length, by omega, k2, ρ, en.le l2, j2, .refl, i0⟩, ?_⟩
    rintro n m σ' H' ⟨hm', k', ρ', en', j', lz, ii⟩
    have sqa : SqT C.K H' pa xs := hK ▸ sqt_of (K := F.K) (⟨lz _ _ (Fm.sxA ha.2) ha.1, ha.2⟩ : H' pa = some (.tup xs) ∧ ¬ F.S pa)
    by_cases over : n = xs.length
    · exact .inl ⟨⟨xs, sqa, over.symm⟩, q1 ρ' σ' k' H' (l2.lz.trans lz) en' j' (hend k' ρ' (by rw [← nx, ← over]; exact ii))⟩
    · have lt1 : n < xs.length := by omega
      refine .inr ⟨⟨xs, xs[n], sqa, List.getElem?_eq_getElem lt1⟩, fun σ2 H2' => ∃ k' ρ', EnvOk F H2' σ2 ρ' ∧ J F k' H2' ∧ Lz F H2 H2' ∧ I (n + 1) k' ρ', fun σ2 H2' w => ⟨m - 1, by omega, by omega, w⟩, ?_⟩
      rintro v H3 ⟨t, x, rfl, ht, rfl, fx1⟩
      obtain ⟨dx, hdx, rdx⟩ := hra.got (fx1 xs sqa)
      have lnew : Le F H' (upd H' t (.tup [.int (n : Nat), x])) := .new ht
      have rx2 := (rdx.le lz).le lnew.lz
      refine ⟨t, [.int (n : Nat), x], rfl, .inl (.inl upd_same), rfl, .int (n : Nat), [x], rfl, x, [], rfl, rfl, ?_⟩
      refine hstep n dx k' ρ' hdx ii _ _ _ (((en'.le lnew).set (sv := .d (.int (n : Int))) ⟨_, rfl, .int _⟩).set (sv := .d dx) ⟨_, rfl, rx2⟩) (j'.new ht) ?_ q2 ?_ ?_
      · exact fun ρ2 σ2 k2' H2' l2' e2 j2' p => ⟨k2', ρ2, e2, j2', (lz.trans lnew.lz).trans l2', p⟩
      · exact fun ρ2 σ2 k2' H2' l2' e2 j2' p => q1 ρ2 σ2 k2' H2' (l2.lz.trans ((lz.trans lnew.lz).trans l2')) e2 j2' p
      · exact fun ρ2 σ2 k2' H2' l2' e2 j2' p => ⟨k2', ρ2, e2, j2', (lz.trans lnew.lz).trans l2', p⟩
end
end Dl

namespace Dl
open PySem PySem.Spec PyProof.Rows L2
section
variable {F : Fm} {C : Cs} {ρ : Rho} {k : Nat} {Φ : Nat → PyData → Prop} {pos : Pos} {elt e c : Expr} {scope : Scope} {x x1 : Str} {px px1 p3 pr pr2 : Pos} {kk : Nat}
theorem pi2_et {H1 : Hp} {a : Addr} {xs : List V} {ds : List PyData} (ha : H1 a = some (.tup xs) ∧ ¬ F.S a) (hr : RpAll F H1 xs ds) : PI2 F (Itet F.K a) H1 (enD 0 ds) where
  go := fun D hD n d hd => by
    rw [enD_get, Option.map_eq_some_iff] at hd
    obtain ⟨y, hy, rfl⟩ := hd
    have rr : Rp (F.ext D) (upd H1 D (.lst [])) (.ref a) (.tuple ds) := Rep.ext (.tup ha hr) hD
    cases rr with
    | @tup _ xs' _ ha' hr' =>
    have hn : n < xs'.length := by rw [hr'.length]; exact (List.getElem?_eq_some_iff.mp hy).1
    obtain ⟨y', hy', ry'⟩ := hr'.got (List.getElem?_eq_getElem hn)
    rw [hy] at hy'
    cases hy'
    refine ⟨.int ((0 + n : Nat) : Int), xs'[n], .int _, ry', fun H' lz => ?_⟩
    have sq : SqT F.K H' a xs' := sqt_of (S := (F.ext D).S) ⟨lz _ _ (Fm.sxA ha'.2) ha'.1, ha'.2⟩
    refine ⟨⟨xs', xs'[n], sq, List.getElem?_eq_getElem hn⟩, ?_⟩
    rintro v H'' ⟨T, x, rfl, hT, rfl, hx⟩
    have := hx xs' sq
    rw [List.getElem?_eq_getElem hn] at this
    cases this
    exact ⟨T, rfl, hT, by rw [Nat.zero_add]⟩
  stop := fun D hD H' lz => by
    have rr : Rp (F.ext D) (upd H1 D (.lst [])) (.ref a) (.tuple ds) := Rep.ext (.tup ha hr) hD
    cases rr with
    | @tup _ xs' _ ha' hr' =>
    have sq : SqT F.K H' a xs' := sqt_of (S := (F.ext D).S) ⟨lz _ _ (Fm.sxA ha'.2) ha'.1, ha'.2⟩
    exact ⟨xs', sq, by rw [enD_len, hr'.length]⟩
/-- [elt for x, x1 in enumerate(e) if c], e a tuple -/
theorem we_compEt1 (i i1 : Nat) (hne : i ≠ i1) (b : Blk2 C scope i x i1 x1) (hK : F.K = C.K) (hg : C.sc.names.lookup ("enumerate" : Str) = some .globalImplicit) (hm : C.mg ("enumerate" : Str) = none)
    (hse : ∀ env : Env, starEach [e] env = [(false, eval e env)]) (hs : ∀ (env : Env) (v : Value), foldedSetIterable (.Call (.Name "enumerate" pr) [e] [] pr2) env v = pure v)
    (h : WPE F C e ρ k fun k1 d => ∃ (I : Nat → Nat → List PyData → Prop) (ds : List PyData), d = .tuple ds ∧ ds.length ≤ 1000000 ∧ I 0 k1 [] ∧ (∀ D (j : Nat) (y : PyData) k' acc, ds[j]? = some y → I j k' acc → WPT (F.ext D) (C.blk scope) c ((ρ.set i (.d (.int (j : Int)))).set i1 (.d y)) k' fun k1 z => if z = true then WPE (F.ext D) (C.blk scope) elt ((ρ.set i (.d (.int (j : Int)))).set i1 (.d y)) k1 fun k2 u => I (j + 1) k2 (acc ++ [u]) else I (j + 1) k1 acc) ∧ (∀ k' acc, I ds.length k' acc → Φ k' (.list acc))) :
    WPE F C (.ListComp elt [⟨.Tuple [.Name x px, .Name x1 px1] kk p3, .Call (.Name "enumerate" pr) [e] [] pr2, [c], 0⟩] scope pos) ρ k Φ :=
  of_pe (fun X fx => pe_lc (own := [(x, i), (x1, i1)]) (wi := iEt C.K (tCons (tE C e) tNil)) fx.calm (by rw [fx.N]; exact b.t.hN) (by rw [← fx.K]; exact pi_et (by show X.env.scope.names.lookup ("enumerate" : Str) = _; rw [fx.sc]; exact hg) (by rw [fx.mg]; exact hm) (pa_cons (peE fx) pa_nil (hse X.env)) (hse X.env)) (by rw [fx.N, fx.sc]; exact b.ok) (fun s H a cl fp => pgTup (n := 2) (fx.blk s H scope a cl fp) (pgs_cons (b.t.pg (fx.blk s H scope a cl fp)) (pgs_cons (b.t1.pg (fx.blk s H scope a cl fp)) pgs_nil)) (by rfl) (by rfl)) (fun s H a cl fp => pts_one (ptT (fx.blk s H scope a cl fp))) (fun s H a cl fp => peE (fx.blk s H scope a cl fp)) (hs X.env))
    (we_lcG i i1 hne hK fun σ H R en j q => by
      show tE C e σ H _
      refine h σ H _ en j fun v d k1 H1 l1 j1 r ⟨I, ds, e, hz, i0, hstep, hend⟩ => ?_
      subst e
      cases r with
      | @tup a xs _ ha hr =>
      refine ⟨a, xs, rfl, hK ▸ sqt_of ha, ?_⟩
      rw [← hK]
      refine q _ k1 H1 (enD 0 ds) l1 j1 (pi2_et ha hr) ⟨I, by rw [enD_len]; exact hz, i0, ?_, ?_⟩
      · intro D n d k' acc hd ii
        rw [enD_get, Option.map_eq_some_iff] at hd
        obtain ⟨y, hy, rfl⟩ := hd
        rw [Nat.zero_add]
        exact hstep D n y k' acc hy ii
      · intro k' acc ii
        rw [enD_len] at ii
        exact hend k' acc ii)
end
end Dl

namespace Dl
open PySem PySem.Spec PyProof.Rows L2
/-! ### data of any kind in the heap, dicts too -/
section
variable {X : Cx} {pins : List (Addr × Obj)} {σ : L2.St} {H : Hp} {s : Shared}
theorem tup_get {a : Addr} {xs : List V} (I : Inv X pins σ H s) (h : H a = some (.tup xs)) : ∃ (its : Array Value) (o : Obj) (n : Nat), Vals xs its.toList ∧ s.heap.get? a = some o ∧ o.cls = .type "tuple" ∧ o.data = .seq its n := by
  obtain ⟨_, its, r, o, e, c, n, d⟩ := I.hok a _ h
  exact ⟨_, o, n, by simpa using r, e, c, d⟩
theorem kv_reads {P : Program} {w : World} : ∀ {es : List DictEntry} {vs : List (Key × Value)} {kvs : List (Key × V)}, Pairs (mixKind P w) es vs → KV kvs vs → (∀ h : Heap, ReadsAll h (es.map (·.key)) (kvs.map fun p => kP p.1) []) ∧ Vals (kvs.map (·.2)) (es.map (·.val))
  | [], _, _, hp, hk => by
    cases hp
    cases hk
    exact ⟨fun h => .nil, .nil⟩
  | e :: es, _, _, hp, hk => by
    cases hp with
    | @cons _ kv _ kvs hi hv hp =>
    cases hk with
    | @cons p _ ps _ hr hk =>
    obtain ⟨h1, h2⟩ := kv_reads hp hk
    obtain ⟨hr1, hr2⟩ := hr
    refine ⟨fun h => ?_, .cons (show RelV p.2 e.val from hv ▸ hr2) h2⟩
    have hi' : keyIs p.1 e.key = true := by rw [hr1]; exact hi
    refine ReadsAll.cons (as := []) (bs := []) ?_ (h1 h)
    show Reads h e.key (kP p.1) []
    rcases keyIs_shape hi' with ⟨i, t, e1, e2⟩ | ⟨x, t, e1, e2⟩
    · rw [e1, e2]; exact .int i t
    · rw [e1, e2]; exact .str x t
theorem repKV_split {K : PySem.W.Frag} {S : Addr → Prop} : ∀ {es : List (PyData × PyData)} {kvs : List (Key × V)}, RepKV K S H kvs es → es.map (·.1) = kvs.map (fun p => kP p.1)
  | [], _, h => by cases h; rfl
  | _ :: _, _, h => by
    cases h with
    | cons h1 h2 => rw [List.map_cons, List.map_cons, repKV_split h2]
mutual
theorem Rep.reads {K : PySem.W.Frag} {S : Addr → Prop} (I : Inv X pins σ H s) : ∀ (d : PyData) (v : V) (u : Value), Rep K S H v d → RelV v u → ∃ as, Reads s.heap u d as
  | .none, _, _, h, r => by
    cases h
    cases r
    exact ⟨_, .none⟩
  | .bool b, _, _, h, r => by
    cases h
    cases r
    exact ⟨_, .bool b⟩
  | .int i, _, _, h, r => by
    cases h
    obtain ⟨t, rfl⟩ := r
    exact ⟨_, .int i t⟩
  | .str x, _, _, h, r => by
    cases h
    obtain ⟨t, rfl⟩ := r
    exact ⟨_, .str x t⟩
  | .list ds, _, _, h, r => by
    cases h with
    | lst h1 h3 =>
      cases r
      obtain ⟨_, its, n, rv, e⟩ := I.hok _ _ h1.1
      obtain ⟨as, hr⟩ := RepAll.reads I ds _ its h3 rv
      exact ⟨_, .list e rfl rfl hr⟩
  | .tuple ds, _, _, h, r => by
    cases h with
    | tup h1 h3 =>
      cases r
      obtain ⟨its, o, n, rv, e, c, dd⟩ := tup_get I h1.1
      obtain ⟨as, hr⟩ := RepAll.reads I ds _ _ h3 rv
      exact ⟨_, .tuple e c dd hr⟩
  | .dict es, _, _, h, r => by
    cases h with
    | dct h1 h3 =>
      cases r
      obtain ⟨_, _, vs, rk, o, ents, ep, e, ex, dd, _, hp, _⟩ := I.hok _ _ h1.1
      obtain ⟨q1, q2⟩ := kv_reads hp rk
      obtain ⟨bs, hr⟩ := RepKV.reads I es _ _ h3 q2
      exact ⟨_, .dict e ex.1 dd (by rw [repKV_split h3]; exact q1 _) hr⟩
theorem RepAll.reads {K : PySem.W.Frag} {S : Addr → Prop} (I : Inv X pins σ H s) : ∀ (ds : List PyData) (vs : List V) (us : List Value), RepAll K S H vs ds → Vals vs us → ∃ as, ReadsAll s.heap us ds as
  | [], _, _, h, r => by
    cases h
    cases r
    exact ⟨_, .nil⟩
  | d :: ds, _, _, h, r => by
    cases h with
    | cons h1 h2 =>
      cases r with
      | cons r1 r2 =>
        obtain ⟨as, q1⟩ := Rep.reads I d _ _ h1 r1
        obtain ⟨bs, q2⟩ := RepAll.reads I ds _ _ h2 r2
        exact ⟨_, .cons q1 q2⟩
theorem RepKV.reads {K : PySem.W.Frag} {S : Addr → Prop} (I : Inv X pins σ H s) : ∀ (es : List (PyData × PyData)) (kvs : List (Key × V)) (us : List Value), RepKV K S H kvs es → Vals (kvs.map (·.2)) us → ∃ as, ReadsAll s.heap us (es.map (·.2)) as
  | [], _, _, h, r => by
    cases h
    cases r
    exact ⟨_, .nil⟩
  | (p, d) :: es, _, _, h, r => by
    cases h with
    | cons h1 h2 =>
      cases r with
      | cons r1 r2 =>
        obtain ⟨as, q1⟩ := Rep.reads I d _ _ h1 r1
        obtain ⟨bs, q2⟩ := RepKV.reads I es _ _ h2 r2
        exact ⟨_, .cons q1 q2⟩
end
end
/-! ### repr of data of any kind: where the texts come from -/
section
variable {X : Cx} {pins : List (Addr × Obj)} {σ : L2.St} {H : Hp} {s : Shared} {K : PySem.W.Frag} {S : Addr → Prop}
/-- the text of one datum, and the objects that it looks at -/
def TxOk (X : Cx) (h : Heap) (u : Value) (n : Nat) (t : Str) : Prop := ∃ bs, ReadAtMost h n bs ∧ ReprK X.prog X.w bs h n u t
def TxAll (X : Cx) (h : Heap) (us : List Value) (n : Nat) (ts : List Str) : Prop := ∃ bs, ReadAtMost h n bs ∧ ReprAllK X.prog X.w bs h n us ts
theorem txAll_nil {h : Heap} {n : Nat} : TxAll X h [] n [] := ⟨[], fun _ z => (List.not_mem_nil z).elim, .nil⟩
theorem txAll_cons {h : Heap} {u : Value} {us : List Value} {n m : Nat} {t : Str} {ts : List Str} (a : TxOk X h u n t) (b : TxAll X h us m ts) : TxAll X h (u :: us) (max n m) (t :: ts) := by
  obtain ⟨b1, l1, k1⟩ := a
  obtain ⟨b2, l2, k2⟩ := b
  refine ⟨b1 ++ b2, (l1.mono (Nat.le_max_left n m)).append (l2.mono (Nat.le_max_right n m)), .cons ((k1.more fun x hx => ?_).level_le (Nat.le_max_left n m)) (k2.more_le (fun x hx => ?_) (Nat.le_max_right n m))⟩
  · rw [List.mem_append]; exact .inl hx
  · rw [List.mem_append]; exact .inr hx
theorem tx_list {h : Heap} {a : Addr} {o : Obj} {its : List Value} {nn n : Nat} {d : PyData} {as : List Addr} {ts : List Str} (e : h.get? a = some o) (c : o.cls = .type "list") (dt : o.data = .seq its.toArray nn) (r : Reads h (.ref a) d as) (hd : d.depth = n + 1) (x : TxAll X h its n ts) : TxOk X h (.ref a) (n + 1) (listText ts) ∧ ∃ bs, ReadAtMost h n bs ∧ a ∉ bs ∧ ReprAllK X.prog X.w bs h n its ts := by
  obtain ⟨bs, lb, kb⟩ := x
  have na : a ∉ bs := not_mem_of_deeper r (show n < d.depth by omega) lb
  refine ⟨⟨a :: bs, hd ▸ ReadAtMost.cons r (show n ≤ d.depth by omega) lb, ?_⟩, bs, lb, na, kb⟩
  cases its with
  | nil => cases kb; rw [listText_nil]; exact ReprK.listEmpty e c dt
  | cons y ys => exact ReprK.list e c dt na (by have := kb.length_eq; simpa using this) fun i z q => kb.item i z (by simpa using q)
theorem keys_tx {P : Program} {w : World} : ∀ {es : List DictEntry} {vs : List (Key × Value)}, Pairs (mixKind P w) es vs → ∀ (es' : List (PyData × PyData)), es'.map (·.1) = vs.map (fun p => kP p.1) → PyData.showableAll (es'.map (·.1)) = true → (∀ t ∈ PyData.shownAll (es'.map (·.1)), t.length ≤ sizeLine) → (h : Heap) → X.prog = P → X.w = w → TxAll X h (es.map (·.key)) 0 (PyData.shownAll (es'.map (·.1)))
  | [], _, hp, es', he, _, _, h, _, _ => by
    cases hp
    cases es' with
    | nil => exact txAll_nil
    | cons _ _ => cases he
  | e :: es, _, hp, es', he, hs, hz, h, hP, hw => by
    cases hp with
    | @cons _ kv _ kvs hi hv hp =>
    cases es' with
    | nil => cases he
    | cons q qs =>
    rw [List.map_cons, List.map_cons] at he
    injection he with he1 he2
    simp only [List.map_cons, PyData.showableAll, Bool.and_eq_true] at hs
    simp only [List.map_cons, PyData.shownAll] at hz ⊢
    have ih := keys_tx hp qs he2 hs.2 (fun t ht => hz t (List.mem_cons_of_mem _ ht)) h hP hw
    refine txAll_cons (n := 0) (m := 0) ⟨[], fun _ z => (List.not_mem_nil z).elim, ?_⟩ ih
    have hz0 := hz _ List.mem_cons_self
    have hs0 := hs.1
    have hi' : keyIs kv.1 e.key = true := hi
    rw [he1] at hz0 hs0 ⊢
    rcases keyIs_shape hi' with ⟨i, t, e1, e2⟩ | ⟨x, t, e1, e2⟩
    · rw [e1] at hz0 hs0 ⊢; rw [e2]
      simp only [kP, PyData.showable, PyData.shown] at hz0 hs0 ⊢
      exact .of_is (ReprIs.int t (of_decide_eq_true hs0)) _ _ _
    · rw [e1] at hz0 hs0 ⊢; rw [e2]
      simp only [kP, PyData.shown] at hz0 ⊢
      exact .of_is (ReprIs.str x t hz0) _ _ _
theorem kvKeys : ∀ {vs : List (Key × Value)} {kvs : List (Key × V)}, KV kvs vs → vs.map (fun p => kP p.1) = kvs.map (fun p => kP p.1)
  | [], _, hk => by
    cases hk
    rfl
  | _ :: _, _, hk => by
    cases hk with
    | cons hr hk =>
    rw [List.map_cons, List.map_cons, kvKeys hk, hr.1]
mutual
theorem Rep.tx (I : Inv X pins σ H s) : ∀ (d : PyData) (v : V) (u : Value), Rep K S H v d → RelV v u → d.showable = true → d.shown.length ≤ sizeLine → TxOk X s.heap u d.depth d.shown
  | .none, _, _, h, r, _, _ => by
    cases h; cases r
    simp only [PyData.shown]
    exact ⟨[], fun _ z => (List.not_mem_nil z).elim, .of_is ReprIs.none _ _ _⟩
  | .bool b, _, _, h, r, _, _ => by
    cases h; cases r
    simp only [PyData.shown]
    exact ⟨[], fun _ z => (List.not_mem_nil z).elim, .of_is (ReprIs.bool b) _ _ _⟩
  | .int i, _, _, h, r, hs, _ => by
    cases h
    obtain ⟨t, rfl⟩ := r
    simp only [PyData.shown, PyData.showable] at hs ⊢
    exact ⟨[], fun _ z => (List.not_mem_nil z).elim, .of_is (ReprIs.int t (of_decide_eq_true hs)) _ _ _⟩
  | .str x, _, _, h, r, _, hz => by
    cases h
    obtain ⟨t, rfl⟩ := r
    simp only [PyData.shown] at hz ⊢
    exact ⟨[], fun _ z => (List.not_mem_nil z).elim, .of_is (ReprIs.str x t hz) _ _ _⟩
  | .list ds, _, _, h, r, hs, hz => by
    obtain ⟨as, hrd⟩ := Rep.reads I (.list ds) _ _ h r
    cases h with
    | lst h1 h3 =>
      cases r
      obtain ⟨_, its, n, rv, e⟩ := I.hok _ _ h1.1
      simp only [PyData.showable, PyData.shown, PyData.depth] at hs hz ⊢
      have x := RepAll.tx I ds _ its h3 rv hs fun t ht => Nat.le_trans (listText_mem_le ht) hz
      exact (tx_list e rfl rfl hrd (by simp only [PyData.depth]; try omega) x).1
  | .tuple ds, _, _, h, r, hs, hz => by
    obtain ⟨as, hrd⟩ := Rep.reads I (.tuple ds) _ _ h r
    cases h with
    | tup h1 h3 =>
      cases r
      obtain ⟨its, o, n, rv, e, c, dd⟩ := tup_get I h1.1
      simp only [PyData.showable, PyData.shown, PyData.depth] at hs hz ⊢
      obtain ⟨bs, lb, kb⟩ := RepAll.tx I ds _ _ h3 rv hs fun t ht => Nat.le_trans (tupleText_mem_le ht) hz
      have lt : PyData.depthAll ds < (PyData.tuple ds).depth := by simp only [PyData.depth]; omega
      have l2 := ReadAtMost.cons hrd (Nat.le_of_lt lt) lb
      simp only [PyData.depth] at l2
      exact ⟨_, l2, ReprK.tuple e c dd (not_mem_of_deeper hrd lt lb) kb⟩
  | .dict es, _, _, h, r, hs, hz => by
    obtain ⟨as, hrd⟩ := Rep.reads I (.dict es) _ _ h r
    cases h with
    | dct h1 h3 =>
      cases r
      obtain ⟨_, ns, vs, rk, o, ents, ep, e, ex, dd, _, hp, _⟩ := I.hok _ _ h1.1
      obtain ⟨_, q2⟩ := kv_reads hp rk
      simp only [PyData.showable, PyData.shown, PyData.depth] at hs hz ⊢
      obtain ⟨s1, s2⟩ := PyData.showableKv_split es hs
      obtain ⟨b1, l1, k1⟩ := keys_tx (X := X) hp es (by rw [repKV_split h3, kvKeys rk]) s1 (fun t ht => by
        obtain ⟨p, hp, hl⟩ := PyData.shownKv_key_le es t ht
        exact Nat.le_trans hl (Nat.le_trans (dictText_mem_le hp) hz)) s.heap rfl rfl
      obtain ⟨b2, l2, k2⟩ := RepKV.tx I es _ _ h3 q2 s2 (fun t ht => by
        obtain ⟨p, hp, hl⟩ := PyData.shownKv_val_le es t ht
        exact Nat.le_trans hl (Nat.le_trans (dictText_mem_le hp) hz))
      have hv := PyData.depthAll_vals_le es
      have lb : ReadAtMost s.heap (PyData.depthKv es) (b1 ++ b2) := (l1.mono (Nat.zero_le _)).append (l2.mono hv)
      have lt : PyData.depthKv es < (PyData.dict es).depth := by simp only [PyData.depth]; omega
      have l3 := ReadAtMost.cons hrd (Nat.le_of_lt lt) lb
      simp only [PyData.depth] at l3
      refine ⟨_, l3, ?_⟩
      have fin := ReprK.dict e ex.1 dd ns (not_mem_of_deeper hrd lt lb) (ReprEntriesK.of_two ents.toList _ _ (k1.more_le (fun b hb => by rw [List.mem_append]; exact .inl hb) (Nat.zero_le _)) (k2.more_le (fun b hb => by rw [List.mem_append]; exact .inr hb) hv))
      rw [PyData.shownKv_eq]
      exact fin
theorem RepAll.tx (I : Inv X pins σ H s) : ∀ (ds : List PyData) (vs : List V) (us : List Value), RepAll K S H vs ds → Vals vs us → PyData.showableAll ds = true → (∀ t ∈ PyData.shownAll ds, t.length ≤ sizeLine) → TxAll X s.heap us (PyData.depthAll ds) (PyData.shownAll ds)
  | [], _, _, h, r, _, _ => by
    cases h; cases r
    simp only [PyData.shownAll]
    exact txAll_nil
  | d :: ds, _, _, h, r, hs, hz => by
    cases h with
    | cons h1 h2 =>
      cases r with
      | cons r1 r2 =>
        simp only [PyData.showableAll, Bool.and_eq_true] at hs
        simp only [PyData.shownAll, PyData.depthAll] at hz ⊢
        exact txAll_cons (Rep.tx I d _ _ h1 r1 hs.1 (hz _ List.mem_cons_self)) (RepAll.tx I ds _ _ h2 r2 hs.2 fun t ht => hz t (List.mem_cons_of_mem _ ht))
theorem RepKV.tx (I : Inv X pins σ H s) : ∀ (es : List (PyData × PyData)) (kvs : List (Key × V)) (us : List Value), RepKV K S H kvs es → Vals (kvs.map (·.2)) us → PyData.showableAll (es.map (·.2)) = true → (∀ t ∈ PyData.shownAll (es.map (·.2)), t.length ≤ sizeLine) → TxAll X s.heap us (PyData.depthAll (es.map (·.2))) (PyData.shownAll (es.map (·.2)))
  | [], _, _, h, r, _, _ => by
    cases h; cases r
    simp only [List.map_nil, PyData.shownAll]
    exact txAll_nil
  | (p, d) :: es, _, _, h, r, hs, hz => by
    cases h with
    | cons h1 h2 =>
      cases r with
      | cons r1 r2 =>
        simp only [List.map_cons, PyData.showableAll, Bool.and_eq_true] at hs
        simp only [List.map_cons, PyData.shownAll, PyData.depthAll] at hz ⊢
        exact txAll_cons (Rep.tx I d _ _ h1 r1 hs.1 (hz _ List.mem_cons_self)) (RepKV.tx I es _ _ h2 r2 hs.2 fun t ht => hz t (List.mem_cons_of_mem _ ht))
end
end
/-- repr of any data -/
theorem reprA {X : Cx} {C : Cs} (fx : Fits C X) : CallR X (.builtin "repr") (fun xs H Q => ∃ v d, ∃ S : Addr → Prop, xs = [v] ∧ Rep C.K S H v d ∧ d.showable = true ∧ d.depth ≤ 60 ∧ d.shown.length ≤ sizeLine ∧ Q (.str d.shown) H) := by
  intro pins s σ H vs us Q I rv h
  obtain ⟨v, d, S, e, hd, sh, dp, sz, q⟩ := h
  subst e
  obtain ⟨u, rfl, ru⟩ := vals1 rv
  have un := fx.room.units
  have hd0 := hd
  cases hd with
  | non => cases ru; exact P.repr_of_none ⟨.str _, H, I.tok _, ⟨_, rfl⟩, q⟩
  | bl b => cases ru; exact P.repr_of_bool ⟨.str _, H, I.tok _, ⟨_, rfl⟩, q⟩
  | int i => obtain ⟨t, rfl⟩ := ru; exact P.repr_of_int (of_decide_eq_true sh) ⟨.str _, H, I.tok _, ⟨_, rfl⟩, q⟩
  | str x => obtain ⟨t, rfl⟩ := ru; exact P.repr_of_str ⟨.str _, H, I.tok _, ⟨_, rfl⟩, q⟩ sz
  | @lst a xs ds h1 h3 =>
    obtain ⟨as, hrd⟩ := Rep.reads I (.list ds) _ _ hd0 ru
    cases ru
    obtain ⟨_, its, n, rv, e⟩ := I.hok _ _ h1.1
    simp only [PyData.showable, PyData.shown, PyData.depth] at sh sz dp q
    have x := RepAll.tx I ds _ its h3 rv sh fun t ht => Nat.le_trans (listText_mem_le ht) sz
    obtain ⟨_, bs, lb, na, kb⟩ := tx_list (d := .list ds) e rfl rfl hrd (by simp only [PyData.depth]; try omega) x
    refine call_repr_slot (by omega) ⟨_, e, rfl⟩ F.slot_list_repr.toG ?_
    generalize PyData.shownAll ds = sa at kb q sz
    cases its with
    | nil =>
      cases kb
      rw [listText_nil] at q
      exact call_list_repr_empty ⟨_, e, rfl⟩ e rfl ⟨_, _, rfl, ⟨.str _, H, I.tok _, ⟨_, rfl⟩, q⟩⟩
    | cons y ys => exact call_list_reprK e rfl rfl na (by have := kb.length_eq; simpa using this) (fun i z p => kb.item i z (by simpa using p)) fx.gd (fun b _ => Clear.nil b) (by show X.A.units + 1 + _ < cLine; omega) (fun _ _ z => z) (fun h' u tk hk => ⟨_, _, rfl, ⟨.str _, H, I.kept hk, ⟨_, rfl⟩, q⟩⟩) sz
  | @tup a xs ds h1 h3 =>
    obtain ⟨as, hrd⟩ := Rep.reads I (.tuple ds) _ _ hd0 ru
    cases ru
    obtain ⟨its, o, n, rv, e, c, dd⟩ := tup_get I h1.1
    have lt : PyData.depthAll ds < (PyData.tuple ds).depth := by simp only [PyData.depth]; omega
    simp only [PyData.showable, PyData.shown, PyData.depth] at sh sz dp q
    obtain ⟨bs, lb, kb⟩ := RepAll.tx I ds _ _ h3 rv sh fun t ht => Nat.le_trans (tupleText_mem_le ht) sz
    refine call_repr_slot (by omega) ⟨_, e, c⟩ F.slot_tuple_repr ?_
    exact call_tuple_reprK e c dd (not_mem_of_deeper hrd lt lb) kb fx.gd (fun b _ => Clear.nil b) (by show X.A.units + 1 + _ < cLine; omega) (fun _ _ z => z) (fun h' u tk hk => ⟨_, _, rfl, ⟨.str _, H, I.kept hk, ⟨_, rfl⟩, q⟩⟩) sz
  | @dct a kvs es h1 h3 =>
    obtain ⟨as, hrd⟩ := Rep.reads I (.dict es) _ _ hd0 ru
    cases ru
    obtain ⟨_, ns, vs, rk, o, ents, ep, e, ex, dd, _, hp, _⟩ := I.hok _ _ h1.1
    obtain ⟨_, q2⟩ := kv_reads hp rk
    have lt : PyData.depthKv es < (PyData.dict es).depth := by simp only [PyData.depth]; omega
    simp only [PyData.showable, PyData.shown, PyData.depth] at sh sz dp q
    obtain ⟨s1, s2⟩ := PyData.showableKv_split es sh
    obtain ⟨b1, l1, k1⟩ := keys_tx (X := X) hp es (by rw [repKV_split h3, kvKeys rk]) s1 (fun t ht => by
      obtain ⟨p, hp, hl⟩ := PyData.shownKv_key_le es t ht
      exact Nat.le_trans hl (Nat.le_trans (dictText_mem_le hp) sz)) s.heap rfl rfl
    obtain ⟨b2, l2, k2⟩ := RepKV.tx I es _ _ h3 q2 s2 (fun t ht => by
      obtain ⟨p, hp, hl⟩ := PyData.shownKv_val_le es t ht
      exact Nat.le_trans hl (Nat.le_trans (dictText_mem_le hp) sz))
    have hv := PyData.depthAll_vals_le es
    have lb : ReadAtMost s.heap (PyData.depthKv es) (b1 ++ b2) := (l1.mono (Nat.zero_le _)).append (l2.mono hv)
    rw [PyData.shownKv_eq] at sz q
    refine call_repr_slot (by omega) ⟨_, e, ex.1⟩ F.slot_dict_repr ?_
    exact call_dict_reprK e ex.1 dd ns (not_mem_of_deeper hrd lt lb) (ReprEntriesK.of_two ents.toList _ _ (k1.more_le (fun b hb => by rw [List.mem_append]; exact .inl hb) (Nat.zero_le _)) (k2.more_le (fun b hb => by rw [List.mem_append]; exact .inr hb) hv)) fx.gd (fun b _ => Clear.nil b) (by show X.A.units + 1 + _ < cLine; omega) (fun _ _ z => z) (fun h' u tk hk => ⟨_, _, rfl, ⟨.str _, H, I.kept hk, ⟨_, rfl⟩, q⟩⟩) sz
section
variable {F : Fm} {C : Cs} {ρ : Rho} {k : Nat} {Φ : Nat → PyData → Prop} {Ψ : Nat → Bool → Prop} {e a b c : Expr} {pos p p1 p2 : Pos} {x : Str}
theorem we_reprA (hK : F.K = C.K) (hg : C.sc.names.lookup ("repr" : Str) = some .globalImplicit) (hm : C.mg ("repr" : Str) = none) (hs : ∀ env : Env, starEach [e] env = (false, eval e env) :: starEach [] env) (h : WPE F C e ρ k fun k1 d => (d.showable = true ∧ d.depth ≤ 60 ∧ d.shown.length ≤ sizeLine) ∧ Φ k1 (.str d.shown)) : WPE F C (.Call (.Name "repr" p) [e] [] pos) ρ k Φ :=
  we_callB (id := "repr") (fun X fx => reprA fx) hg hm (by decide +kernel) (wa_one hs (h.imp fun k1 x ⟨⟨s1, s3, s4⟩, p⟩ => fun H vs Q j r q => by
    cases r with
    | cons r1 r2 =>
    cases r2
    exact ⟨_, x, F.S, rfl, hK ▸ r1, s1, s3, s4, q _ _ k1 H .refl j (.str _) p⟩)) (by decide) (by decide) hs
/-- {} -/
theorem we_dict0 (h : Φ k (.dict [])) : WPE F C (.Dict [] [] pos) ρ k Φ :=
  of_pe (fun X fx => pe_dnewK) fun σ H Q en j q => fun p hp => q _ (.dict []) k _ (.new hp) (j.new hp) (.dct ⟨upd_same, j.fresh hp⟩ .nil) h
theorem putK_nil {κ : Type} [DecidableEq κ] (k : κ) (v : V) : putK ([] : List (κ × V)) k v = [(k, v)] := rfl
/-- {"word": a number} -/
theorem we_dictI {y : Str} {i : Int} {j1 j2 : Nat} (h : Φ k (.dict [(.str y, .int i)])) : WPE F C (.Dict [some (.Constant (.str y) j1 p1)] [.Constant (.int i) j2 p2] pos) ρ k Φ :=
  of_pe (fun X fx => pe_disp (pps_cons pe_str pe_int pps_nil) rfl rfl (by simp) (by show 1 ≤ 15; omega)) fun σ H Q en j q => fun p hp => by
    refine ⟨upd_same, [(.inr y, .int i)], rfl, by show 1 ≤ 15; omega, ?_⟩
    show Q _ (upd (upd H p (.dK [])) p (.dK [(.inr y, .int i)]))
    rw [upd_upd]
    exact q _ (.dict [(.str y, .int i)]) k _ (.new hp) (j.new hp) (.dct ⟨upd_same, j.fresh hp⟩ (.cons (k := .inr y) (.int i) .nil)) h
/-- {"word": a name} -/
theorem we_dictN {y : Str} {j1 : Nat} {d : PyData} (i : Nat) (hN : C.N[i]? = some x) (hv : Vis C.sc x) (hr : ρ[i]? = some (.d d)) (h : Φ k (.dict [(.str y, d)])) (hd : (x == ("__debug__" : Str)) = false := by decide) (hcd : (x == ("__classdict__" : Str)) = false := by decide) : WPE F C (.Dict [some (.Constant (.str y) j1 p1)] [.Name x p2] pos) ρ k Φ :=
  of_pe (fun X fx => pe_disp (pps_cons pe_str (pe_var (i := i) (by rw [fx.N]; exact hN) (by rw [fx.sc]; exact hv) hd hcd) pps_nil) rfl rfl (by simp) (by show 1 ≤ 15; omega)) fun σ H Q en j q => fun p hp => by
    obtain ⟨v, e, r⟩ := en.d hr
    refine ⟨v, e, upd_same, [(.inr y, v)], rfl, by show 1 ≤ 15; decide, ?_⟩
    show Q _ (upd (upd H p (.dK [])) p (.dK [(.inr y, v)]))
    rw [upd_upd]
    exact q _ (.dict [(.str y, d)]) k _ (.new hp) (j.new hp) (.dct ⟨upd_same, j.fresh hp⟩ (.cons (k := .inr y) (r.le (Le.new hp).lz) .nil)) h
theorem we_leLe (hm : lastMarks [.LtE, .LtE] [b, c] = false) (h : WPE F C a ρ k fun k1 x => WPE F C b ρ k1 fun k2 y => ∃ i j, x = .int i ∧ y = .int j ∧ if i ≤ j then WPE F C c ρ k2 fun k3 z => ∃ l, z = .int l ∧ Φ k3 (.bool (decide (j ≤ l))) else Φ k2 (.bool false)) : WPE F C (.Compare a [.LtE, .LtE] [b, c] pos) ρ k Φ :=
  of_pe (fun X fx => pe_chain op_le op_le (peE fx) (peE fx) (peE fx) hm) fun σ H Q en j q => by
    refine h σ H _ en j fun vx x k1 H1 l1 j1 r1 hx => hx σ H1 _ (en.le l1) j1 fun vy y k2 H2 l2 j2 r2 ⟨i, jj, e1, e2, hh⟩ => ?_
    subst e1 e2
    cases r1
    cases r2
    refine ⟨i, jj, rfl, rfl, decide (i ≤ jj), rfl, ?_⟩
    by_cases hc : i ≤ jj
    · rw [if_pos hc] at hh
      rw [if_pos (decide_eq_true hc)]
      refine hh σ H2 _ ((en.le l1).le l2) j2 fun vz z k3 H3 l3 j3 r3 ⟨l, e3, hp⟩ => ?_
      subst e3
      cases r3
      exact ⟨jj, l, rfl, rfl, q _ _ k3 H3 ((l1.trans l2).trans l3) j3 (.bl _) hp⟩
    · rw [if_neg hc] at hh
      rw [if_neg (by rw [decide_eq_true_eq]; exact hc)]
      exact q _ _ k2 H2 (l1.trans l2) j2 (.bl _) hh
end
section
variable {F : Fm} {C : Cs} {ρ : Rho} {k : Nat} {Φ : Nat → PyData → Prop} {pos p2 : Pos} {a e : Expr}
/-- xs[e:] of a tuple, e any number: some end of it -/
theorem we_sliceTA (hK : F.K = C.K) (h : WPE F C a ρ k fun k1 x => WPE F C e ρ k1 fun k2 y => ∃ ds, ∃ i : Int, x = .tuple ds ∧ y = .int i ∧ ∀ m : Nat, Φ k2 (.tuple (ds.drop m))) : WPE F C (.Subscript a (.Slice (some e) none none p2) pos) ρ k Φ :=
  of_pe (fun X fx => pe_slice (slTK fx) (peE fx) (po_some (peE fx)) po_none) fun σ H Q en j q => by
    show tE C a σ H _
    refine h σ H _ en j fun v d k1 H1 l1 j1 r hx => ?_
    show tE C e σ H1 _
    refine hx σ H1 _ (en.le l1) j1 fun vy y k2 H2 l2 j2 r2 ⟨ds, i, e1, e2, p⟩ => ?_
    subst e1 e2
    have r' := r.le l2.lz
    have r0 := r'
    cases r' with
    | @tup a xs _ ha hr =>
    cases r2
    have ec : cutV xs (some i) none = xs.drop (HT.sIx xs.length 0 (some i)) := by
      unfold cutV
      rw [HT.sIx_none]
      exact List.take_of_length_le (by rw [List.length_drop]; exact Nat.le_refl _)
    refine ⟨i, rfl, a, xs, rfl, hK ▸ sqt_of ha, fun hf => ?_, fun _ l hl => ?_⟩
    · exact q _ _ k2 _ (l1.trans l2) j2 r0 (by have := p 0; rwa [List.drop_zero] at this)
    · rw [ec]
      exact q _ _ k2 _ ((l1.trans l2).trans (.new hl)) (j2.new hl) (rep_newT j2 hl (RepAll.drop _ hr)) (p _)
end
/-! ### data whose repr is within the line, dicts too -/
structure FineA (n dp : Nat) (d : PyData) : Prop where
  sh : d.showable = true
  dp : d.depth ≤ dp
  sz : d.shown.length ≤ n
theorem FineA.ok {n dp : Nat} {d : PyData} (h : FineA n dp d) (hn : n ≤ 16000000 := by decide) (hd : dp ≤ 60 := by decide) : d.showable = true ∧ d.depth ≤ 60 ∧ d.shown.length ≤ sizeLine :=
  ⟨h.sh, Nat.le_trans h.dp hd, Nat.le_trans h.sz (Nat.le_trans hn (by decide))⟩
theorem FineA.mono {n n' dp dp' : Nat} {d : PyData} (h : FineA n dp d) (hn : n ≤ n' := by decide) (hd : dp ≤ dp' := by decide) : FineA n' dp' d := ⟨h.sh, Nat.le_trans h.dp hd, Nat.le_trans h.sz hn⟩
theorem Fine.a {n dp : Nat} {d : PyData} (h : Fine n dp d) : FineA n dp d := ⟨h.sh, h.dp, h.sz⟩
section
variable {n dp : Nat}
theorem fineA_all : ∀ {ds : List PyData}, (∀ d ∈ ds, FineA n dp d) → PyData.showableAll ds = true ∧ PyData.depthAll ds ≤ dp ∧ ((PyData.shownAll ds).map (·.length)).sum ≤ ds.length * n ∧ (PyData.shownAll ds).length = ds.length
  | [], _ => by simp [PyData.showableAll, PyData.depthAll, PyData.shownAll]
  | d :: ds, h => by
    obtain ⟨h1, h3, h4, h5⟩ := fineA_all (ds := ds) fun d hd => h d (List.mem_cons_of_mem _ hd)
    have f := h d List.mem_cons_self
    have := f.dp
    have := f.sz
    refine ⟨by simp only [PyData.showableAll, f.sh, h1, Bool.and_self], by simp only [PyData.depthAll]; omega, ?_, by simp only [PyData.shownAll, List.length_cons, h5]⟩
    simp only [PyData.shownAll, List.map_cons, List.sum_cons, List.length_cons, Nat.succ_mul]
    omega
theorem fineA_tuple {ds : List PyData} {L : Nat} (h : ∀ d ∈ ds, FineA n dp d) (hl : ds.length ≤ L) : FineA (L * (n + 2) + 3) (dp + 1) (.tuple ds) := by
  obtain ⟨h1, h3, h4, h5⟩ := fineA_all h
  refine ⟨by simp only [PyData.showable, h1], by simp only [PyData.depth]; omega, ?_⟩
  simp only [PyData.shown]
  refine Nat.le_trans (tupleText_len_le _) ?_
  rw [h5, Nat.mul_add]
  have : ds.length * n ≤ L * n := Nat.mul_le_mul_right n hl
  omega
theorem fineA_list {ds : List PyData} {L : Nat} (h : ∀ d ∈ ds, FineA n dp d) (hl : ds.length ≤ L) : FineA (L * (n + 2) + 3) (dp + 1) (.list ds) := by
  obtain ⟨h1, h3, h4, h5⟩ := fineA_all h
  refine ⟨by simp only [PyData.showable, h1], by simp only [PyData.depth]; omega, ?_⟩
  simp only [PyData.shown]
  refine Nat.le_trans (listText_len_le _) ?_
  rw [h5, Nat.mul_add]
  have : ds.length * n ≤ L * n := Nat.mul_le_mul_right n hl
  omega
end
end Dl

namespace Dl
open PySem PySem.Spec PyProof.Rows L2
theorem sw_none (env : Env) {o1 i1 o2 i2 o3 i3 o4 i4 : Expr} {p1 p2 p3 p4 p5 p6 : Pos} {kk k2 : Nat} : swappedStores [.Tuple [.Subscript o1 i1 p1, .Subscript o2 i2 p2] kk p3] (.Tuple [.Subscript o3 i3 p4, .Subscript o4 i4 p5] k2 p6) env = pure none := by
  unfold swappedStores
  cases h : (env.blockKind != .function) <;> simp [h]
section
variable {F : Fm} {C : Cs} {ρ : Rho} {k : Nat} {P : DE} {e : Expr} {x a b : Str} {p1 p2 p3 p4 p5 p6 p7 spos : Pos} {kk : Nat}
/-- x[a], x[b] = e, x the own list, a and b names of numbers -/
theorem ws_setOwn2 (i ia ib : Nat) {ow : Addr} {xs : List PyData} {ja jb : Nat} (hja : ja < xs.length) (hjb : jb < xs.length) (hK : F.K = C.K) (hN : C.N[i]? = some x) (hv : Vis C.sc x) (hr : ρ[i]? = some (.own ow xs)) (hno : (ρ.set i .un).all plainB = true)
    (hNa : C.N[ia]? = some a) (hva : Vis C.sc a) (hra : ρ[ia]? = some (.d (.int (ja : Int)))) (hNb : C.N[ib]? = some b) (hvb : Vis C.sc b) (hrb : ρ[ib]? = some (.d (.int (jb : Int))))
    (hs1 : ∀ env : Env, swapsWithSole [.Tuple [.Subscript (.Name x p1) (.Name a p2) p3, .Subscript (.Name x p4) (.Name b p5) p6] kk p7] e spos.line env = pure false)
    (hs2 : ∀ env : Env, swappedStores [.Tuple [.Subscript (.Name x p1) (.Name a p2) p3, .Subscript (.Name x p4) (.Name b p5) p6] kk p7] e env = pure none)
    (h : WPE F C e ρ k fun k1 d => ∃ d1 d2, d = .tuple [d1, d2] ∧ P.nx k1 (ρ.set i (.own ow ((xs.set ja d1).set jb d2))))
    (hd : (x == ("__debug__" : Str)) = false := by decide) (hcd : (x == ("__classdict__" : Str)) = false := by decide) (hda : (a == ("__debug__" : Str)) = false := by decide) (hcda : (a == ("__classdict__" : Str)) = false := by decide) (hdb : (b == ("__debug__" : Str)) = false := by decide) (hcdb : (b == ("__classdict__" : Str)) = false := by decide) :
    WPS F C (.Assign [.Tuple [.Subscript (.Name x p1) (.Name a p2) p3, .Subscript (.Name x p4) (.Name b p5) p6] kk p7] e spos) ρ k P :=
  of_ps (fun X fx => ps_asg (peE fx) (pgTup (n := 2) fx (pgs_cons (pg_sub (pe_var (i := i) (by rw [fx.N]; exact hN) (by rw [fx.sc]; exact hv) hd hcd) (pe_var (i := ia) (by rw [fx.N]; exact hNa) (by rw [fx.sc]; exact hva) hda hcda) set_list) (pgs_cons (pg_sub (pe_var (i := i) (by rw [fx.N]; exact hN) (by rw [fx.sc]; exact hv) hd hcd) (pe_var (i := ib) (by rw [fx.N]; exact hNb) (by rw [fx.sc]; exact hvb) hdb hcdb) set_list) pgs_nil)) (by rfl) (by rfl)) (hs1 X.env) (hs2 X.env)) fun σ H E en j q1 _ _ _ => by
    show tE C e σ H _
    refine h σ H _ en j fun v d k1 H1 l1 j1 r ⟨d1, d2, ed, p⟩ => ?_
    subst ed
    cases r with
    | @tup pa _ _ ha hr1 =>
    cases hr1 with
    | @cons w1 _ _ _ r1 hr1 =>
    cases hr1 with
    | @cons w2 _ _ _ r2 hr1 =>
    cases hr1
    have hT : SqT C.K H1 pa [w1, w2] := hK ▸ sqt_of ha
    have en1 := en.le l1
    obtain ⟨hσ, hS, hM, h0, vs, hv', rv⟩ := en1.own hr
    obtain ⟨va, hsa, ra⟩ := en1.d hra
    obtain ⟨vb, hsb, rb⟩ := en1.d hrb
    cases ra
    cases rb
    have lA : ∀ (ws : List V), Lz F H1 (upd H1 ow (.lst ws)) := fun ws b u hb z => by rw [upd_ne (show b ≠ ow from fun y => hb (.inl (y ▸ hS)))]; exact z
    refine ⟨pa, [w1, w2], rfl, hT, rfl, w1, [w2], rfl, ⟨_, hσ, _, hsa, ow, vs, _, ja, rfl, rfl, hv', ixN_nat (by rw [rv.length]; exact hja), ?_⟩⟩
    refine ⟨w2, [], rfl, ⟨_, hσ, _, hsb, ow, vs.set ja _, _, jb, rfl, rfl, upd_same, ixN_nat (by rw [List.length_set, rv.length]; exact hjb), ?_⟩⟩
    rw [upd_upd]
    refine ⟨rfl, ?_⟩
    refine q1 _ σ k1 _ (fun b u hb z => lA _ b u hb (l1.lz b u hb z)) (en1.ownSet hr hno (rep_set r2 jb (rep_set r1 ja rv))) (j1.own hM h0 (pl_lst hv')) p
end
end Dl

namespace Dl
open PySem PySem.Spec PyProof.Rows L2
/-! ### numbers for what is known of decks -/
def prN (a b : Nat) : Nat := 2 ^ a * (2 * b + 1)
theorem prN_inj : ∀ {a b c d : Nat}, prN a b = prN c d → a = c ∧ b = d
  | 0, b, 0, d, h => by unfold prN at h; omega
  | 0, b, c + 1, d, h => by
    unfold prN at h
    rw [Nat.pow_succ, Nat.mul_comm (2 ^ c) 2, Nat.mul_assoc] at h
    omega
  | a + 1, b, 0, d, h => by
    unfold prN at h
    rw [Nat.pow_succ, Nat.mul_comm (2 ^ a) 2, Nat.mul_assoc] at h
    omega
  | a + 1, b, c + 1, d, h => by
    unfold prN at h
    rw [Nat.pow_succ, Nat.pow_succ, Nat.mul_comm (2 ^ a) 2, Nat.mul_comm (2 ^ c) 2, Nat.mul_assoc, Nat.mul_assoc] at h
    have h2 : prN a b = prN c d := by unfold prN; omega
    obtain ⟨e1, e2⟩ := prN_inj h2
    exact ⟨by omega, e2⟩
theorem prN_pos (a b : Nat) : prN a b ≠ 0 := by
  unfold prN
  have := Nat.two_pow_pos a
  intro h
  rcases Nat.mul_eq_zero.mp h with h | h <;> omega
class Enc (α : Type) where
  enc : α → Nat
  inj : ∀ a b, enc a = enc b → a = b
instance : Enc Nat := ⟨id, fun _ _ h => h⟩
def encI : Int → Nat
  | .ofNat n => 2 * n
  | .negSucc n => 2 * n + 1
instance : Enc Int := ⟨encI, fun a b h => by
  cases a with
  | ofNat n => cases b with
    | ofNat m => simp only [encI] at h; rw [show n = m by omega]
    | negSucc m => simp only [encI] at h; omega
  | negSucc n => cases b with
    | ofNat m => simp only [encI] at h; omega
    | negSucc m => simp only [encI] at h; rw [show n = m by omega]⟩
instance {α β : Type} [Enc α] [Enc β] : Enc (α × β) := ⟨fun p => prN (Enc.enc p.1) (Enc.enc p.2), fun a b h => by
  obtain ⟨h1, h2⟩ := prN_inj h
  exact Prod.ext (Enc.inj _ _ h1) (Enc.inj _ _ h2)⟩
def encL {α : Type} [Enc α] : List α → Nat
  | [] => 0
  | x :: xs => prN (Enc.enc x) (encL xs)
theorem encL_inj {α : Type} [Enc α] : ∀ a b : List α, encL a = encL b → a = b
  | [], [], _ => rfl
  | [], y :: ys, h => absurd h.symm (prN_pos _ _)
  | x :: xs, [], h => absurd h (prN_pos _ _)
  | x :: xs, y :: ys, h => by
    obtain ⟨h1, h2⟩ := prN_inj h
    rw [Enc.inj _ _ h1, encL_inj xs ys h2]
instance {α : Type} [Enc α] : Enc (List α) := ⟨encL, encL_inj⟩
/-- boxes and edits of a deck -/
abbrev Pg := List (Nat × List Int) × List (Nat × Int)
def kk (c : Nat) (g : Pg) : Nat := Enc.enc (c, g)
theorem kk_inj {c c' : Nat} {g g' : Pg} (h : kk c g = kk c' g') : c = c' ∧ g = g' := by
  have := Enc.inj _ _ h
  exact ⟨congrArg Prod.fst this, congrArg Prod.snd this⟩

/-! ### the lists of a deck, redescribed -/
section
variable {X : Cx} {pins : List (Addr × Obj)} {σ : L2.St} {H : Hp} {s : Shared} {p : Addr} {as : List Addr}
theorem vals_refs : ∀ {as : List Addr} {its : List Value}, Vals (as.map V.ref) its → its = as.map Value.ref
  | [], _, h => by cases h; rfl
  | a :: as, _, h => by
    cases h with
    | cons h1 h2 => rw [vals_refs h2, show _ = Value.ref a from h1]; rfl
theorem refs_vals : ∀ (as : List Addr), Vals (as.map V.ref) (as.map Value.ref)
  | [] => .nil
  | _ :: as => .cons rfl (refs_vals as)
theorem inv_asLst (I : Inv X pins σ H s) (h : H p = some (extL p as)) : Inv X pins σ (upd H p (.lst (as.map V.ref))) s := by
  obtain ⟨⟨hl, n, e⟩, _, _⟩ := I.hok p _ h
  exact I.write (x := p) (e := p) (t' := s.toks) (h' := s.heap) (by rw [h]; exact trivial) (.inl rfl) (fun b v _ q => q) ⟨_, e⟩ ⟨by rw [List.length_map]; exact hl, _, n, refs_vals as, e⟩
theorem inv_asExt (I : Inv X pins σ H s) (h : H p = some (.lst (as.map V.ref))) : Inv X pins σ (upd H p (extL p as)) s := by
  obtain ⟨hl, its, n, r, e⟩ := I.hok p _ h
  rw [vals_refs r] at e
  rw [List.length_map] at hl
  exact I.write (x := p) (e := p) (t' := s.toks) (h' := s.heap) (by rw [h]; exact trivial) (.inl rfl) (fun b v _ q => q) ⟨_, e⟩ ⟨⟨hl, n, e⟩, ⟨_, e⟩, fun h1 h2 ⟨l, n, q⟩ k => ⟨l, n, k _ q⟩⟩
/-- the list at p is a plain one while e runs -/
def tOpen (t : TE) : TE := fun σ H Q => ∃ (p : Addr) (as : List Addr), H p = some (extL p as) ∧ t σ (upd H p (.lst (as.map V.ref))) fun v H' => ∃ as', H' p = some (.lst (as'.map V.ref)) ∧ Q v (upd H' p (extL p as'))
theorem pe_open {e : Expr} {t : TE} (h : PE X e t) : PE X e (tOpen t) := by
  constructor
  rintro pins s σ H Q I ⟨p, as, hp, ht⟩
  refine wpAny_mono (h.run pins s σ _ _ (inv_asLst I hp) ht) ?_ fun _ _ z => z
  rintro u s' ⟨v, H', I', rv, as', hp', q⟩
  exact ⟨v, _, inv_asExt I' hp', rv, q⟩
end
end Dl

namespace Dl
open PySem PySem.Spec PyProof.Rows L2
/-! ### data of tuples alone -/
def NT (H : Hp) (b : Addr) : Prop := ∀ xs, H b ≠ some (.tup xs)
abbrev TR (K : PySem.W.Frag) (H : Hp) (v : V) (d : PyData) : Prop := Rep K (NT H) H v d
abbrev TRs (K : PySem.W.Frag) (H : Hp) (vs : List V) (ds : List PyData) : Prop := RepAll K (NT H) H vs ds
section
variable {K : PySem.W.Frag} {H H' : Hp} {S : Addr → Prop}
theorem nt_of {b : Addr} (n : ¬ NT H b) : ∃ xs, H b = some (.tup xs) := Classical.byContradiction fun z => n fun xs hx => z ⟨xs, hx⟩
theorem TR.keep {v : V} {d : PyData} (r : TR K H v d) (e : ∀ b xs, H b = some (.tup xs) → H' b = some (.tup xs)) : TR K H' v d :=
  Rep.keepX (S := NT H) (S' := NT H') (fun b o n _ q => by obtain ⟨xs, hx⟩ := nt_of n; rw [q] at hx; cases hx; exact e b xs q) (fun b hb hn xs hx => hn xs (e b xs hx)) d v r
theorem TRs.keep {v : List V} {d : List PyData} (r : TRs K H v d) (e : ∀ b xs, H b = some (.tup xs) → H' b = some (.tup xs)) : TRs K H' v d :=
  RepAll.keepX (S := NT H) (S' := NT H') (fun b o n _ q => by obtain ⟨xs, hx⟩ := nt_of n; rw [q] at hx; cases hx; exact e b xs q) (fun b hb hn xs hx => hn xs (e b xs hx)) d v r
theorem TR.rep {v : V} {d : PyData} (r : TR K H v d) (al : ∀ b, S b → Lv H b) : Rep K S H v d :=
  Rep.keep (S := NT H) (S' := S) (fun _ _ _ q => q) (fun b _ hS xs hx => by obtain ⟨o, e, n⟩ := al b hS; rw [hx] at e; cases e; exact n xs rfl) d v r
theorem TRs.rep {v : List V} {d : List PyData} (r : TRs K H v d) (al : ∀ b, S b → Lv H b) : RepAll K S H v d :=
  RepAll.keep (S := NT H) (S' := S) (fun _ _ _ q => q) (fun b _ hS xs hx => by obtain ⟨o, e, n⟩ := al b hS; rw [hx] at e; cases e; exact n xs rfl) d v r
def boxP (p : Nat × List Int) : PyData := .tuple [.int (p.1 : Int), .tuple (p.2.map PyData.int)]
def wordS : Nat → Str
  | 0 => "add"
  | 1 => "remove"
  | 2 => "flip"
  | _ => "press"
def edP (e : Nat × Int) : PyData := .tuple [.str (wordS e.1), .int e.2]
theorem tr_box {v : V} {p : Nat × List Int} (r : Rep K S H v (boxP p)) : ∃ a, v = .ref a ∧ TR K H v (boxP p) := by
  cases r with
  | @tup a xs _ ha hr =>
  cases hr with
  | cons r1 hr =>
  cases hr with
  | cons r2 hr =>
  cases hr
  cases r1
  cases r2 with
  | @tup b ys _ hb hrb =>
  refine ⟨a, rfl, .tup ⟨ha.1, fun z => z _ ha.1⟩ (.cons (.int _) (.cons (.tup ⟨hb.1, fun z => z _ hb.1⟩ ?_) .nil))⟩
  rw [RepAll.ints hrb]; exact RepAll.of_ints _
theorem tr_ed {v : V} {e : Nat × Int} (r : Rep K S H v (edP e)) : ∃ a, v = .ref a ∧ TR K H v (edP e) := by
  cases r with
  | @tup a xs _ ha hr =>
  cases hr with
  | cons r1 hr =>
  cases hr with
  | cons r2 hr =>
  cases hr
  cases r1
  cases r2
  exact ⟨a, rfl, .tup ⟨ha.1, fun z => z _ ha.1⟩ (.cons (.str _) (.cons (.int _) .nil))⟩
end
/-! ### a deck in the heap -/
structure PiG (K : PySem.W.Frag) (C a dx s t : Addr) (g : Pg) (H : Hp) : Prop where
  ia : H a = some (.ins C dx [("states", .ref s), ("done", .ref t)])
  id : H dx = some (.own a)
  ne : s ≠ t
  ss : ∃ as, H s = some (extL s as) ∧ TRs K H (as.map V.ref) (g.1.map boxP)
  tt : ∃ bs, H t = some (extL t bs) ∧ TRs K H (bs.map V.ref) (g.2.map edP)
  ls : g.1.length ≤ 1000
  lt : g.2.length ≤ 1000
theorem isX_ext {s : Addr} {as : List Addr} (h : as.length ≤ sizeLine) : IsX (extL s as) := ⟨s, as, h, rfl⟩
section
variable {K : PySem.W.Frag} {C a dx s t : Addr} {g : Pg} {H H' : Hp}
theorem big1000 {n : Nat} (h : n ≤ 1000) : n ≤ sizeLine := Nat.le_trans h (by decide)
theorem PiG.xs (d : PiG K C a dx s t g H) : ∃ as, H s = some (extL s as) ∧ TRs K H (as.map V.ref) (g.1.map boxP) ∧ IsX (extL s as) ∧ as.length = g.1.length := by
  obtain ⟨as, h1, h2⟩ := d.ss
  have e := h2.length
  rw [List.length_map, List.length_map] at e
  exact ⟨as, h1, h2, isX_ext (by rw [e]; exact big1000 d.ls), e⟩
theorem PiG.xt (d : PiG K C a dx s t g H) : ∃ as, H t = some (extL t as) ∧ TRs K H (as.map V.ref) (g.2.map edP) ∧ IsX (extL t as) ∧ as.length = g.2.length := by
  obtain ⟨as, h1, h2⟩ := d.tt
  have e := h2.length
  rw [List.length_map, List.length_map] at e
  exact ⟨as, h1, h2, isX_ext (by rw [e]; exact big1000 d.lt), e⟩
theorem PiG.at (d : PiG K C a dx s t g H) (h1 : H' a = H a) (h2 : H' dx = H dx) (h3 : ∀ b o, (IsX o ∨ ∃ xs, o = .tup xs) → H b = some o → H' b = some o) : PiG K C a dx s t g H' := by
  obtain ⟨as, e1, e2, e3, _⟩ := d.xs
  obtain ⟨bs, f1, f2, f3, _⟩ := d.xt
  exact ⟨h1.trans d.ia, h2.trans d.id, d.ne, ⟨as, h3 s _ (.inl e3) e1, e2.keep fun b xs q => h3 b _ (.inr ⟨xs, rfl⟩) q⟩, ⟨bs, h3 t _ (.inl f3) f1, f2.keep fun b xs q => h3 b _ (.inr ⟨xs, rfl⟩) q⟩, d.ls, d.lt⟩
end
/-- the frame of a def that edits the deck at a -/
def piFm (K : PySem.W.Frag) (S : Addr → Prop) (H0 : Hp) (C a dx s0 t0 : Addr) (hS : ∀ b, b = a ∨ b = dx → S b) : Fm where
  K := K
  S := S
  M := fun b => b = a ∨ b = dx
  H0 := H0
  G := fun k H => ∃ g s t, k = Enc.enc g ∧ PiG K C a dx s t g H ∧ (s = s0 ∨ ∀ o, H0 s = some o → ¬ IsX o) ∧ (t = t0 ∨ ∀ o, H0 t = some o → ¬ IsX o) ∧ (∀ y o, y ≠ s0 → y ≠ t0 → IsX o → H0 y = some o → H y = some o) ∧ (∀ y o, IsX o → H0 y = some o → ∃ o', IsX o' ∧ H y = some o')
  ms := hS
  gm := fun k H H' ⟨g, s, t, e, d, h1, h2, h3, h4⟩ hm hx => ⟨g, s, t, e, d.at (hm a (.inl rfl)) (hm dx (.inr rfl)) hx, h1, h2, fun y o n1 n2 x q => hx y o (.inl x) (h3 y o n1 n2 x q), fun y o x q => by
    obtain ⟨o', x', q'⟩ := h4 y o x q
    exact ⟨o', x', hx y o' (.inl x') q'⟩⟩
  gl := fun k H ⟨g, s, t, e, d, _⟩ b hb => by
    rcases hb with rfl | rfl
    · rw [d.ia]; exact fun z => nomatch z
    · rw [d.id]; exact fun z => nomatch z
  X := IsX
  xi := fun _ h => h
  xa := fun k H ⟨g, s, t, e, d, _, _, _, h4⟩ b o _ x q => h4 b o x q
/-- the frame knows the deck at a: mk tells k by what is known of the deck -/
structure HasPi (F : Fm) (C a dx : Addr) (mk : Pg → Nat) : Prop where
  X : F.X = IsX
  ma : F.M a
  md : F.M dx
  get : ∀ g H, F.G (mk g) H → ∃ s t, PiG F.K C a dx s t g H
  put : ∀ g g' H H' s t s' t', F.G (mk g) H → PiG F.K C a dx s t g H → (∀ b o, b ≠ a → b ≠ dx → b ≠ s → b ≠ t → H b = some o → H' b = some o) → (∀ y o, IsX o → H y = some o → ∃ o', IsX o' ∧ H' y = some o') → PiG F.K C a dx s' t' g' H' → (s' = s ∨ H s' = none) → (t' = t ∨ H t' = none) → F.G (mk g') H'
theorem HasPi.ext {F : Fm} {C a dx : Addr} {mk : Pg → Nat} (h : HasPi F C a dx mk) (D : Addr) : HasPi (F.ext D) C a dx mk := ⟨h.X, h.ma, h.md, h.get, h.put⟩
theorem PiG.uniq {K : PySem.W.Frag} {C a dx s t s' t' : Addr} {g g' : Pg} {H : Hp} (d : PiG K C a dx s t g H) (d' : PiG K C a dx s' t' g' H) : s = s' ∧ t = t' := by
  have e := d.ia.symm.trans d'.ia
  injection e with e
  injection e with _ _ e
  injection e with e1 e2
  injection e2 with e2 _
  injection e1 with _ e1
  injection e2 with _ e2
  injection e1 with e1
  injection e2 with e2
  exact ⟨e1, e2⟩
theorem has_piFm {K : PySem.W.Frag} {S : Addr → Prop} {H0 : Hp} {C a dx s0 t0 : Addr} {hS : ∀ b, b = a ∨ b = dx → S b} : HasPi (piFm K S H0 C a dx s0 t0 hS) C a dx Enc.enc where
  X := rfl
  ma := .inl rfl
  md := .inr rfl
  get := fun g H ⟨g1, s, t, e, d, _⟩ => by
    have := Enc.inj _ _ e
    subst this
    exact ⟨s, t, d⟩
  put := fun g g' H H' s t s' t' ⟨g1, s1, t1, e, d1, h1, h2, h3, h4⟩ d keep e1 d' hs ht => by
    obtain ⟨rfl, rfl⟩ := d1.uniq d
    have gone : ∀ y, H y = none → ∀ o, H0 y = some o → ¬ IsX o := fun y hy o q x => by
      obtain ⟨o', _, q'⟩ := h4 y o x q
      rw [q'] at hy; cases hy
    refine ⟨g', s', t', rfl, d', ?_, ?_, fun y o n1 n2 x q => ?_, fun y o x q => ?_⟩
    · rcases hs with rfl | hs
      · exact h1
      · exact .inr (gone s' hs)
    · rcases ht with rfl | ht
      · exact h2
      · exact .inr (gone t' ht)
    · have q1 := h3 y o n1 n2 x q
      refine keep y o ?_ ?_ ?_ ?_ q1
      · rintro rfl; rw [d.ia] at q1; cases q1; exact nx_ins x
      · rintro rfl; rw [d.id] at q1; cases q1; exact nx_own x
      · rintro rfl
        rcases h1 with h1 | h1
        · exact n1 h1
        · exact h1 o q x
      · rintro rfl
        rcases h2 with h2 | h2
        · exact n2 h2
        · exact h2 o q x
    · obtain ⟨o', x', q'⟩ := h4 y o x q
      exact e1 y o' x' q'
/-! ### defs that edit a deck -/
def spPi (K : PySem.W.Frag) (C : Addr) (Pre : Pg → List PyData → Prop) (R : Pg → List PyData → Pg → PyData → Prop) : Sp := fun vs H Q _ => ∃ (S : Addr → Prop) (a dx s t : Addr) (vs' : List V) (ds : List PyData) (g : Pg), vs = .ref a :: vs' ∧ PiG K C a dx s t g H ∧ (∀ b, S b → Lv H b) ∧ S a ∧ S dx ∧ RepAll K S H vs' ds ∧ Pre g ds ∧
  ∀ v d g' s' t' H', (∀ b o, b ≠ a → b ≠ dx → b ≠ s → b ≠ t → H b = some o → H' b = some o) → (∀ y o, IsX o → H y = some o → ∃ o', IsX o' ∧ H' y = some o') → PiG K C a dx s' t' g' H' → (s' = s ∨ H s' = none) → (t' = t ∨ H t' = none) → Rep K S H' v d → R g ds g' d → Q v H'
section
variable {P : Program} {w : World} {K : PySem.W.Frag} {mg : Str → Option Value} {base : Heap} {C : Addr}
theorem pi_ok {x qual : Str} {st : Stmt} {f : Addr} {fd : FuncData} {N ps : List Str} {k : Nat} {Pre : Pg → List PyData → Prop} {R : Pg → List PyData → Pg → PyData → Prop} (Fn : Fun K x qual st f fd) (Sc : FnScope N ps (defScope st)) (len : ∀ g ds, Pre g ds → ds.length + 1 = ps.length)
    (body : ∀ (F : Fm) (a dx : Addr) (ds : List PyData) (g : Pg), HasPi F C a dx Enc.enc → F.K = K → Pre g ds → WPB F (bodyCs P w K mg base N (defScope st) k) (defBody st) (.raw (.ref a) :: (ds.map SV.d ++ List.replicate (N.length - (ds.length + 1)) SV.un)) (Enc.enc g) { nx := fun k' _ => ∃ g', k' = Enc.enc g' ∧ R g ds g' .none, rt := fun k' d => ∃ g', k' = Enc.enc g' ∧ R g ds g' d, bk := fun _ _ => False, ct := fun _ _ => False }) :
    FnG P w K mg base (k + 1) f fd ps (spPi K C Pre R) := by
  refine FnG.of_body Fn Sc (fun vs H Q E h => ?_) (fun cdv A outer s H vs Q hgd hr h => ?_)
  · obtain ⟨S, a, dx, s, t, vs', ds, g, rfl, _, _, _, _, rr, hp, _⟩ := h
    rw [List.length_cons, rr.length, len g ds hp]
  · obtain ⟨S, a, dx, s0, t0, vs', ds, g, rfl, dg, al, Sa, Sd, rr, hp, q⟩ := h
    refine ⟨_, pbB (fits_body hgd hr), ?_⟩
    have hS : ∀ b, b = a ∨ b = dx → S b := fun b hb => by rcases hb with rfl | rfl <;> assumption
    have fin : ∀ v d k' H', J (piFm K S H C a dx s0 t0 hS) k' H' → Rep K S H' v d → (∃ g', k' = Enc.enc g' ∧ R g ds g' d) → Q v H' := fun v d k' H' j' rv ⟨g', e, hR⟩ => by
      obtain ⟨g1, s, t, e1, d1, h1, h2, h3, h4⟩ := j'.g
      have := Enc.inj _ _ (e.symm.trans e1)
      subst this
      obtain ⟨as, x1, _, x3, _⟩ := d1.xs
      obtain ⟨bs, y1, _, y3, _⟩ := d1.xt
      have fresh : ∀ z o, H' z = some o → IsX o → (∀ o, H z = some o → ¬ IsX o) → H z = none := fun z o hz xo hn => by
        cases q : H z with
        | none => rfl
        | some u =>
          have nx := hn u q
          have nm : ¬ (z = a ∨ z = dx) := by
            rintro (rfl | rfl)
            · rw [d1.ia] at hz; cases hz; exact nx_ins xo
            · rw [d1.id] at hz; cases hz; exact nx_own xo
          have := j'.le z u (Fm.mx nm nx) q
          rw [hz] at this
          cases this
          exact absurd xo nx
      refine q v d g' s t H' (fun b o n1 n2 n3 n4 e => ?_) h4 d1 (h1.imp id fun h => fresh s _ x1 x3 h) (h2.imp id fun h => fresh t _ y1 y3 h) rv hR
      by_cases x : IsX o
      · exact h3 b o n3 n4 x e
      · exact j'.le b o (Fm.mx (fun z => z.elim n1 n2) x) e
    have j0 : J (piFm K S H C a dx s0 t0 hS) (Enc.enc g) H := ⟨⟨g, s0, t0, rfl, dg, .inl rfl, .inl rfl, fun _ _ _ _ _ q => q, fun y o x q => ⟨o, x, q⟩⟩, fun b o _ e => e, al⟩
    refine body (piFm K S H C a dx s0 t0 hS) a dx ds g has_piFm rfl hp (L2.start N (.ref a :: vs')) H _ (env_raw (F := piFm K S H C a dx s0 t0 hS) rr) j0 ?_ ?_ ?_ ?_
    · exact fun ρ' σ' k' H' _ _ j' e => fin _ .none k' H' j' .non e
    · exact fun v d' k' H' j' r' e => fin v d' k' H' j' r' e
    · exact fun _ _ _ _ _ _ _ z => z.elim
    · exact fun _ _ _ _ _ _ _ z => z.elim
end
/-- what the caller of such a def has of it -/
theorem pi_step {F : Fm} {K : PySem.W.Frag} {C a dx : Addr} {mk : Pg → Nat} {g : Pg} {H : Hp} {vs : List V} {ds : List PyData} {Q : VK} {Φ : Nat → PyData → Prop} {Pre : Pg → List PyData → Prop} {R : Pg → List PyData → Pg → PyData → Prop} (pi : HasPi F C a dx mk) (hK : F.K = K) (j : J F (mk g) H) (r : RpAll F H vs ds) (hp : Pre g ds) (hq : ∀ g' d, R g ds g' d → Φ (mk g') d)
    (q : ∀ v d k' H', Le F H H' → J F k' H' → Rp F H' v d → Φ k' d → Q v H') : spPi K C Pre R (.ref a :: vs) H Q E0 := by
  subst hK
  obtain ⟨s, t, dg⟩ := pi.get g H j.g
  obtain ⟨as, x1, _, x3, _⟩ := dg.xs
  obtain ⟨bs, y1, _, y3, _⟩ := dg.xt
  refine ⟨F.S, a, dx, s, t, vs, ds, g, rfl, dg, j.al, F.ms _ pi.ma, F.ms _ pi.md, r, hp, fun v d g' s' t' H' keep e1 dg' hs ht rv hR => ?_⟩
  have le : Le F H H' := fun b o n e => by
    refine keep b o ?_ ?_ ?_ ?_ e
    · rintro rfl; exact n (.inl pi.ma)
    · rintro rfl; exact n (.inl pi.md)
    · rintro rfl; rw [x1] at e; cases e; exact n (.inr (by rw [pi.X]; exact x3))
    · rintro rfl; rw [y1] at e; cases e; exact n (.inr (by rw [pi.X]; exact y3))
  refine q v d (mk g') H' le ⟨pi.put g g' H H' s t s' t' j.g dg keep e1 dg' hs ht, fun b o n e => le b o n (j.le b o n e), fun b hb => ?_⟩ rv (hq g' d hR)
  have lvx : ∀ {z : Addr} {o : HO}, H z = some o → IsX o → Lv H' z := fun {z o} hz xo => by
    obtain ⟨o', ⟨_, _, _, rfl⟩, q'⟩ := e1 z o xo hz
    exact lv_ext q'
  by_cases h1 : b = a
  · subst h1; exact ⟨_, dg'.ia, fun _ z => nomatch z⟩
  by_cases h2 : b = dx
  · subst h2; exact ⟨_, dg'.id, fun _ z => nomatch z⟩
  by_cases h3 : b = s
  · subst h3; exact lvx x1 x3
  by_cases h4 : b = t
  · subst h4; exact lvx y1 y3
  exact (j.al b hb).keep fun o e => keep b o h1 h2 h3 h4 e
end Dl

namespace Dl
open PySem PySem.Spec PyProof.Rows L2
section
variable {X : Cx} {x m : Str} {p pos apos : Pos} {o e : Expr} {es : List Expr} {t : TA} {ta : TE} {k : Nat} {f C : Addr} {fd : FuncData} {ps : List Str} {sp : Sp} {dvs : List V} {ds : List Value}
theorem FnG.call_runD {pins : List (Addr × Obj)} {σ : L2.St} {H : Hp} {s : Shared} {Q : VK} {us : List Value} {vs : List V} (G : FnG X.prog X.w X.K X.mg X.base k f fd ps sp) (gd : X.A.guards = some []) (room : Room k X.A) (hb : L2.Binds X.K fd ps ds) (hd : Vals dvs ds)
    (I : Inv X pins σ H s) (r : Vals vs us) (h : sp (vs ++ dvs) H Q E0) : wpAny (model X.prog X.w) X.A (call (.ref f) us) (EP X pins σ Q) X.xe s := by
  have r2 : Vals (vs ++ dvs) (us ++ ds) := r.append hd
  have hl : (us ++ ds).length = ps.length := by rw [← r2.length]; exact G.len _ _ _ _ h
  have bind := hb s us I.kIn hl
  refine wpAny_call (codeAny_mono (G.run X.A X.stack s H ⟨us, []⟩ (us ++ ds) (vs ++ dvs) Q gd room I.env0 bind r2 h) ?_)
  intro res s' hr
  match res, hr with
  | .ok (.ret u), hr => exact I.after hr
  | .ok .next, hr => exact False.elim hr
  | .ok .brk, hr => exact False.elim hr
  | .ok .cont, hr => exact False.elim hr
  | .error _, hr => exact False.elim hr
theorem pe_methG {pl : Sem Bool} (he : PE X o ta) (c : Cls X.K C) (hm : Meth X.K C m f) (G : FnG X.prog X.w X.K X.mg X.base k f fd ps sp) (gd : X.A.guards = some []) (room : Room k X.A) (hb : L2.Binds X.K fd ps ds) (hd : Vals dvs ds) (ha : PA X (e :: es) t)
    (hst : starEach (e :: es) X.env = (false, eval e X.env) :: starEach es X.env) (hpl : (backTo pos (starEach es X.env)).any (·.1) = false)
    (ht : eval (.Call (.Attribute o m apos) (e :: es) [] pos) X.env = (do
      let ov ← eval o X.env
      standAt apos.atName
      let (f, first) ← holding [ov] (getMethod ov m pl)
      callWith pos f first (backTo pos (starEach (e :: es) X.env)) (backToKw pos (keywordEach [] X.env)))) :
    PE X (.Call (.Attribute o m apos) (e :: es) [] pos) (tMeth C m sp dvs E0 ta t) := by
  refine ⟨fun pins s σ H Q I h => ?_⟩
  refine PySem.W.methodCall_KW (pl := pl) (thn (he.run pins s σ H _ I h) fun u s1 ⟨x, H1, I1, rx, a, dx, fs, ex, ea, l, q⟩ => ?_) ht
  subst ex
  obtain rfl : u = Value.ref a := rx
  refine getmeth_ok I1 ea c hm l ?_
  refine PySem.W.callWith_K (first := [.ref a]) (h₀ := X.base) I.ok.mod.kin hm.kp (thn (ha.run pos pins s1 σ H1 _ I1 q) fun us s2 ⟨vs, H2, I2, r, q2⟩ => ⟨I2.kIn, ?_⟩) hst hpl
  exact FnG.call_runD (us := .ref a :: us) (vs := .ref a :: vs) G gd room hb hd I2 (.cons rfl r) q2
theorem pe_methG0 {pl : Sem Bool} (he : PE X o ta) (c : Cls X.K C) (hm : Meth X.K C m f) (G : FnG X.prog X.w X.K X.mg X.base k f fd ps sp) (gd : X.A.guards = some []) (room : Room k X.A) (hb : L2.Binds X.K fd ps ds) (hd : Vals dvs ds)
    (ht : eval (.Call (.Attribute o m apos) [] [] pos) X.env = (do
      let ov ← eval o X.env
      standAt apos.atName
      let (f, first) ← holding [ov] (getMethod ov m pl)
      callWith pos f first (backTo pos (starEach [] X.env)) (backToKw pos (keywordEach [] X.env)))) :
    PE X (.Call (.Attribute o m apos) [] [] pos) (tMeth C m sp dvs E0 ta tNil) := by
  refine ⟨fun pins s σ H Q I h => ?_⟩
  refine PySem.W.methodCall_KW (pl := pl) (thn (he.run pins s σ H _ I h) fun u s1 ⟨x, H1, I1, rx, a, dx, fs, ex, ea, l, q⟩ => ?_) ht
  subst ex
  obtain rfl : u = Value.ref a := rx
  refine getmeth_ok I1 ea c hm l ?_
  exact PySem.W.callWith_K0 (first := [.ref a]) I1.kIn hm.kp (FnG.call_runD (us := [.ref a]) (vs := [.ref a]) G gd room hb hd I1 (.cons rfl .nil) q)
end
/-- a method that edits decks of the class at C -/
structure PiM (P : Program) (w : World) (K : PySem.W.Frag) (mg : Str → Option Value) (base : Heap) (C : Addr) (lvl : Nat) (m : Str) (dvs : List V) (Pre : Pg → List PyData → Prop) (R : Pg → List PyData → Pg → PyData → Prop) : Prop where
  cl : Cls K C
  ex : ∃ (fa : Addr) (fd : FuncData) (ps : List Str) (ds : List Value), FnG P w K mg base lvl fa fd ps (spPi K C Pre R) ∧ Meth K C m fa ∧ L2.Binds K fd ps ds ∧ Vals dvs ds
/-- a def that edits decks of the class at C -/
structure PiF (P : Program) (w : World) (K : PySem.W.Frag) (mg : Str → Option Value) (base : Heap) (C : Addr) (lvl : Nat) (x : Str) (Pre : Pg → List PyData → Prop) (R : Pg → List PyData → Pg → PyData → Prop) : Prop where
  ex : ∃ (fa : Addr) (fd : FuncData) (ps : List Str), FnG P w K mg base lvl fa fd ps (spPi K C Pre R) ∧ mg x = some (.ref fa) ∧ PySem.W.keepIn K (.ref fa) = true ∧ L2.Binds K fd ps []
section
variable {F : Fm} {C : Cs} {Cl a dx : Addr} {mk : Pg → Nat} {g : Pg} {ρ : Rho} {Φ : Nat → PyData → Prop} {e : Expr} {es : List Expr} {pos p py apos : Pos} {x y m : Str} {Pre : Pg → List PyData → Prop} {R : Pg → List PyData → Pg → PyData → Prop} {j : Nat} {P : DE}
theorem meth_none (h : m ≠ "states" ∧ m ≠ "done") {s t : Addr} : ([("states", V.ref s), ("done", V.ref t)] : List (Str × V)).lookup m = none := by
  simp only [List.lookup]
  rw [show (m == ("states" : Str)) = false from by simpa using h.1]
  simp only [List.lookup]
  rw [show (m == ("done" : Str)) = false from by simpa using h.2]
/-- y.m() of a deck, the rest of the arguments by default -/
theorem we_pm0 (pi : HasPi F Cl a dx mk) (hF : PiM C.P C.w C.K C.mg C.base Cl j m [] Pre R) (hl : j ≤ C.lvl) (hK : F.K = C.K) (i : Nat) (hN : C.N[i]? = some y) (hv : Vis C.sc y) (hr : ρ[i]? = some (.raw (.ref a))) (hmn : m ≠ "states" ∧ m ≠ "done") (hp : Pre g []) (h : ∀ g' d, R g [] g' d → Φ (mk g') d)
    (hd : (y == ("__debug__" : Str)) = false := by decide) (hcd : (y == ("__classdict__" : Str)) = false := by decide)
    {pl : Env → Sem Bool} (ht : ∀ env : Env, eval (.Call (.Attribute (.Name y py) m apos) [] [] pos) env = (do
      let ov ← eval (.Name y py) env
      standAt apos.atName
      let (f, first) ← holding [ov] (getMethod ov m (pl env))
      callWith pos f first (backTo pos (starEach [] env)) (backToKw pos (keywordEach [] env))) := by intro _; rfl) :
    WPE F C (.Call (.Attribute (.Name y py) m apos) [] [] pos) ρ (mk g) Φ := by
  obtain ⟨fa, fd, ps, ds, G, hm, hb, hd2⟩ := hF.ex
  refine of_pe (fun X fx => pe_methG0 (pl := pl X.env) (pe_var (i := i) (by rw [fx.N]; exact hN) (by rw [fx.sc]; exact hv) hd hcd) (by rw [fx.K]; exact hF.cl) (by rw [fx.K]; exact hm) (by rw [fx.P, fx.w, fx.K, fx.mg, fx.base]; exact G) fx.gd (fx.room.mono hl) (by rw [fx.K]; exact hb) hd2 (ht X.env)) fun σ H Q en jj q => ?_
  obtain ⟨s, t, dg⟩ := pi.get g H jj.g
  refine ⟨_, en.raw hr, a, dx, _, rfl, dg.ia, meth_none hmn, ?_⟩
  exact pi_step (vs := []) (ds := []) pi hK jj .nil hp h q
end
end Dl

namespace Dl
open PySem PySem.Spec PyProof.Rows L2
theorem upd_idp {H : Hp} {p : Addr} {o : HO} (h : H p = some o) : upd H p o = H := by
  funext b; unfold upd; split
  · subst_vars; exact h.symm
  · rfl
theorem upd_cm {H : Hp} {p l : Addr} {o u : HO} (h : p ≠ l) : upd (upd H p o) l u = upd (upd H l u) p o := by
  funext b; unfold upd
  by_cases h1 : b = l
  · rw [if_pos h1, if_neg (fun z => h (z.symm.trans h1)), if_pos h1]
  · rw [if_neg h1]
    by_cases h2 : b = p
    · rw [if_pos h2, if_pos h2]
    · rw [if_neg h2, if_neg h2, if_neg h1]
/-! ### reading and writing a deck's lists -/
section
variable {X : Cx}
def rIxX : R2 := fun x y H Q => ∃ p as i v, x = .ref p ∧ y = .int i ∧ H p = some (extL p as) ∧ atI (as.map V.ref) i = some v ∧ Q v H
theorem ix_ext : IxR X rIxX := by
  rintro value slice pins s σ H x y v u Q I rx ry ⟨p, as, i, w, rfl, rfl, hp, ha, q⟩ hs
  refine wpAny_mono (ix_list (X := X) value slice pins s σ _ _ _ v u (fun z H' => H' = upd H p (.lst (as.map V.ref)) ∧ z = w) (inv_asLst I hp) rx ry ⟨p, as.map V.ref, i, w, rfl, rfl, SqL.of upd_same, ha, rfl, rfl⟩ hs) ?_ fun _ _ z => z
  rintro z s' ⟨z', H', I', rz, rfl, rfl⟩
  refine ⟨z', H, ?_, rz, q⟩
  have := inv_asExt I' upd_same
  rw [upd_upd, upd_idp hp] at this
  exact this
def rLenX : List V → Hp → VK → Prop := fun xs H Q => ∃ p as, xs = [.ref p] ∧ H p = some (extL p as) ∧ Q (.int as.length) H
theorem len_ext : CallR X (.builtin "len") rLenX := by
  rintro pins s σ H xs us Q I r ⟨p, as, rfl, hp, q⟩
  refine wpAny_mono (call_len_seq (X := X) pins s σ _ _ us (fun z H' => H' = upd H p (.lst (as.map V.ref)) ∧ z = .int as.length) (inv_asLst I hp) r ⟨p, as.map V.ref, rfl, .inl (SqL.of upd_same), rfl, by rw [List.length_map]⟩) ?_ fun _ _ z => z
  rintro z s' ⟨z', H', I', rz, rfl, rfl⟩
  refine ⟨_, H, ?_, rz, q⟩
  have := inv_asExt I' upd_same
  rw [upd_upd, upd_idp hp] at this
  exact this
def rTupX : List V → Hp → VK → Prop := fun xs H Q => ∃ p as, xs = [.ref p] ∧ H p = some (extL p as) ∧ ∀ l, H l = none → Q (.ref l) (upd H l (.tup (as.map V.ref)))
theorem tup_ext : CallR X (.type "tuple") rTupX := by
  rintro pins s σ H xs us Q I r ⟨p, as, rfl, hp, q⟩
  refine wpAny_mono (call_tuple_of (X := X) pins s σ _ _ us (fun z H' => ∃ l, H l = none ∧ H' = upd (upd H p (.lst (as.map V.ref))) l (.tup (as.map V.ref)) ∧ z = .ref l) (inv_asLst I hp) r ⟨p, as.map V.ref, rfl, .inl ⟨SqL.of upd_same, fun l hl => ⟨l, ?_, rfl, rfl⟩⟩⟩) ?_ fun _ _ z => z
  · have hne : l ≠ p := fun z => by rw [z, upd_same] at hl; cases hl
    rw [upd_ne hne] at hl; exact hl
  rintro z s' ⟨z', H', I', rz, l, hl, rfl, rfl⟩
  have hne : p ≠ l := fun z => by rw [z, hl] at hp; cases hp
  refine ⟨_, _, ?_, rz, q l hl⟩
  have := inv_asExt (p := p) (as := as) I' (by rw [upd_ne hne, upd_same])
  rw [upd_cm hne, upd_upd, ← upd_cm hne, upd_idp hp] at this
  exact this
def rSlX : V → Option Int → Option Int → Hp → VK → Prop := fun x lo hi H Q => ∃ p as, x = .ref p ∧ H p = some (extL p as) ∧ ∀ l, H l = none → Q (.ref l) (upd H l (.lst (cutV (as.map V.ref) lo hi)))
theorem sl_ext : SlR X rSlX := by
  rintro pins s σ H x v vl vu lo hi sl Q I rx hs pl pu ⟨p, as, rfl, hp, q⟩
  obtain ⟨T, id, h1, h2, h3⟩ := sl_list (X := X) pins s σ _ _ v vl vu lo hi sl (fun z H' => ∃ l, H l = none ∧ H' = upd (upd H p (.lst (as.map V.ref))) l (.lst (cutV (as.map V.ref) lo hi)) ∧ z = .ref l) (inv_asLst I hp) rx hs pl pu ⟨p, as.map V.ref, rfl, SqL.of upd_same, fun l hl => ⟨l, by
    have hne : l ≠ p := fun z => by rw [z, upd_same] at hl; cases hl
    rw [upd_ne hne] at hl; exact hl, rfl, rfl⟩⟩
  refine ⟨T, id, h1, h2, wpAny_mono h3 ?_ fun _ _ z => z⟩
  rintro z s' ⟨z', H', I', rz, l, hl, rfl, rfl⟩
  have hne : p ≠ l := fun z => by rw [z, hl] at hp; cases hp
  refine ⟨_, _, ?_, rz, q l hl⟩
  have := inv_asExt (p := p) (as := as) I' (by rw [upd_ne hne, upd_same])
  rw [upd_cm hne, upd_upd, ← upd_cm hne, upd_idp hp] at this
  exact this
def rAppX : V → List V → Hp → VK → Prop := fun x vs H Q => ∃ l as y, x = .ref l ∧ vs = [.ref y] ∧ H l = some (extL l as) ∧ as.length < sizeLine ∧ Q .non (upd H l (extL l (as ++ [y])))
theorem mt_appX : MtM X "list.append" rAppX := by
  rintro pins s σ H x vs v us Q I rx rv ⟨l, as, y, rfl, rfl, hp, hz, q⟩
  refine wpAny_mono (mt_append (X := X) pins s σ _ _ _ v us (fun z H' => H' = upd (upd H l (.lst (as.map V.ref))) l (.lst (as.map V.ref ++ [.ref y])) ∧ z = .non) (inv_asLst I hp) rx rv ⟨l, as.map V.ref, .ref y, rfl, rfl, upd_same, by rw [List.length_map]; exact hz, rfl, rfl⟩) ?_ fun _ _ z => z
  rintro z s' ⟨z', H', I', rz, rfl, rfl⟩
  refine ⟨_, _, ?_, rz, q⟩
  have := inv_asExt (p := l) (as := as ++ [y]) I' (by rw [upd_same, List.map_append]; rfl)
  rw [upd_upd, upd_upd] at this
  exact this
end
end Dl

namespace Dl
open PySem PySem.Spec PyProof.Rows L2
/-! ### readings that only lay new objects -/
def WNo (F : Fm) (t : TE) (ρ : Rho) (k : Nat) (Φ : PyData → Prop) : Prop :=
  ∀ (σ : L2.St) (H : Hp) (Q : VK), EnvOk F H σ ρ → J F k H → (∀ v d H', Same H H' → J F k H' → Rp F H' v d → Φ d → Q v H') → t σ H Q
section
variable {F : Fm} {C : Cs} {ρ : Rho} {k : Nat} {Φ : PyData → Prop} {e a b : Expr} {pos p p2 : Pos} {x : Str}
theorem same_le {H H' : Hp} (h : Same H H') : Le F H H' := fun b o _ e => h b o e
theorem of_pn {t : TE} (h : ∀ X, Fits C X → PE X e t) (hw : WNo F t ρ k Φ) : WNo F (tE C e) ρ k Φ := fun σ H Q en j q X fx pins s I => (h X fx).run pins s σ H Q I (hw σ H Q en j q)
theorem wn_name (i : Nat) {d : PyData} (hN : C.N[i]? = some x) (hv : Vis C.sc x) (hr : ρ[i]? = some (.d d)) (h : Φ d) (hd : (x == ("__debug__" : Str)) = false := by decide) (hcd : (x == ("__classdict__" : Str)) = false := by decide) : WNo F (tE C (.Name x pos)) ρ k Φ :=
  of_pn (t := tVar i) (fun X fx => pe_var (by rw [fx.N]; exact hN) (by rw [fx.sc]; exact hv) hd hcd) fun σ H Q en j q => by
    obtain ⟨v, e, r⟩ := en.d hr
    exact ⟨v, e, q v d H (fun _ _ z => z) j r h⟩
theorem wn_int {i : Int} {jj : Nat} (h : Φ (.int i)) : WNo F (tE C (.Constant (.int i) jj pos)) ρ k Φ := of_pn (fun X _ => pe_int) fun σ H Q en j q => q _ _ H (fun _ _ z => z) j (.int i) h
theorem wn_str {i : Str} {jj : Nat} (h : Φ (.str i)) : WNo F (tE C (.Constant (.str i) jj pos)) ρ k Φ := of_pn (fun X _ => pe_str) fun σ H Q en j q => q _ _ H (fun _ _ z => z) j (.str i) h
theorem wn_neg (h : WNo F (tE C a) ρ k fun x => ∃ i, x = .int i ∧ Φ (.int (-i))) : WNo F (tE C (.UnaryOp .USub a pos)) ρ k Φ :=
  of_pn (fun X fx => pe_un un_neg (peE fx)) fun σ H Q en j q => h σ H _ en j fun v d H1 l1 j1 r ⟨i, e, p⟩ => by
    subst e; cases r; exact ⟨i, rfl, q _ _ H1 l1 j1 (.int _) p⟩
theorem wn_add (h : WNo F (tE C a) ρ k fun x => WNo F (tE C b) ρ k fun y => ∃ i j, x = .int i ∧ y = .int j ∧ Φ (.int (i + j))) : WNo F (tE C (.BinOp a .Add b pos)) ρ k Φ :=
  of_pn (fun X fx => pe_op op_add (peE fx) (peE fx)) fun σ H Q en j q => h σ H _ en j fun v d H1 l1 j1 r hb => hb σ H1 _ (en.le (same_le l1)) j1 fun v2 d2 H2 l2 j2 r2 ⟨i, j', e1, e2, p⟩ => by
    subst e1 e2; cases r; cases r2
    exact ⟨i, j', rfl, rfl, q _ _ H2 (fun b o z => l2 b o (l1 b o z)) j2 (.int _) p⟩
theorem wn_tup2 {x1} (h : WNo F (tE C a) ρ k fun x => WNo F (tE C b) ρ k fun y => Φ (.tuple [x, y])) (hs1 : ∀ env : Env, starEach [a, b] env = (false, eval a env) :: starEach [b] env := by intro _; rfl) (hs2 : ∀ env : Env, starEach [b] env = (false, eval b env) :: starEach [] env := by intro _; rfl) : WNo F (tE C (.Tuple [a, b] x1 pos)) ρ k Φ :=
  of_pn (fun X fx => pe_tup (pa_cons (peE fx) (pa_cons (peE fx) pa_nil (hs2 X.env)) (hs1 X.env))) fun σ H Q en j q => h σ H _ en j fun v d H1 l1 j1 r hb => hb σ H1 _ (en.le (same_le l1)) j1 fun v2 d2 H2 l2 j2 r2 p => by
    refine ⟨by show 2 ≤ _; decide, fun p0 hp => ?_⟩
    refine q _ (.tuple [d, d2]) _ (fun b o z => by rw [upd_ne (ne_of_none (l2 b o (l1 b o z)) hp)]; exact l2 b o (l1 b o z)) (j2.new hp) (rep_newT j2 hp (.cons (r.le (same_le l2).lz) (.cons r2 .nil))) p
end
section
variable {F : Fm} {C : Cs} {Cl a dx : Addr} {mk : Pg → Nat} {g : Pg} {ρ : Rho} {k : Nat} {Φ : Nat → PyData → Prop} {e b : Expr} {es : List Expr} {pos p py apos fpos cp : Pos} {x y m : Str} {Pre : Pg → List PyData → Prop} {R : Pg → List PyData → Pg → PyData → Prop} {j : Nat} {P : DE}
theorem lk_states {s t : Addr} : List.lookup ("states" : Str) [("states", V.ref s), ("done", V.ref t)] = some (.ref s) := rfl
theorem lk_done {s t : Addr} : List.lookup ("done" : Str) [("states", V.ref s), ("done", V.ref t)] = some (.ref t) := by
  simp only [List.lookup]
  rw [show (("done" : Str) == ("states" : Str)) = false from by decide +kernel]
  rfl
/-- the class of decks, for its fields -/
structure PiC (K : PySem.W.Frag) (Cl : Addr) : Prop where
  cl : Cls K Cl
  ns : NoAttr K Cl "states"
  nd : NoAttr K Cl "done"
theorem trs_at {K : PySem.W.Frag} {H : Hp} {vs : List V} {ds : List PyData} {i : Int} {d : PyData} (r : TRs K H vs ds) (h : atI ds i = some d) : ∃ v, atI vs i = some v ∧ TR K H v d := by
  have hl := r.length
  unfold atI at h ⊢
  rw [hl]
  cases e : ixN ds.length i with
  | none => rw [e] at h; cases h
  | some n => rw [e] at h; exact r.get h
theorem atI_map {α β : Type} (f : α → β) {xs : List α} {i : Int} {x : α} (h : atI xs i = some x) : atI (xs.map f) i = some (f x) := by
  unfold atI at h ⊢
  rw [List.length_map]
  cases e : ixN xs.length i with
  | none => rw [e] at h; cases h
  | some n =>
    rw [e] at h
    have h : xs[n]? = some x := h
    show (xs.map f)[n]? = _
    rw [List.getElem?_map, h]; rfl
theorem PiG.same {K : PySem.W.Frag} {s t : Addr} {H H' : Hp} (d : PiG K Cl a dx s t g H) (h : Same H H') : PiG K Cl a dx s t g H' :=
  d.at ((h _ _ d.ia).trans d.ia.symm) ((h _ _ d.id).trans d.id.symm) fun b o _ e => h b o e
theorem peFldN (i : Nat) {X : Cx} (fx : Fits C X) {f : Str} (hN : C.N[i]? = some y) (hv : Vis C.sc y) (hd : (y == ("__debug__" : Str)) = false) (hcd : (y == ("__classdict__" : Str)) = false) (hb : ∀ env : Env, attributeBase (.Name y py) f env (eval (.Name y py) env) = eval (.Name y py) env) : PE X (.Attribute (.Name y py) f apos) (tFld C.K (tVar i) f) := by
  rw [← fx.K]
  exact pe_fld (pe_var (i := i) (by rw [fx.N]; exact hN) (by rw [fx.sc]; exact hv) hd hcd) (hb X.env)
/-- y.states[e] -/
theorem we_pix (pc : PiC C.K Cl) (pi : HasPi F Cl a dx mk) (hK : F.K = C.K) (i : Nat) (hN : C.N[i]? = some y) (hv : Vis C.sc y) (hr : ρ[i]? = some (.raw (.ref a))) (hs : PlainIx b)
    (h : WNo F (tE C b) ρ (mk g) fun z => ∃ (n : Int) (d : Nat × List Int), z = .int n ∧ atI g.1 n = some d ∧ Φ (mk g) (boxP d))
    (hd : (y == ("__debug__" : Str)) = false := by decide) (hcd : (y == ("__classdict__" : Str)) = false := by decide) (hb : ∀ env : Env, attributeBase (.Name y py) "states" env (eval (.Name y py) env) = eval (.Name y py) env := by intro _; rfl) :
    WPE F C (.Subscript (.Attribute (.Name y py) "states" apos) b pos) ρ (mk g) Φ :=
  of_pe (fun X fx => pe_ix ix_ext (peFldN i fx hN hv hd hcd hb) (peE fx) hs) fun σ H Q en j q => by
    obtain ⟨s, t, dg⟩ := pi.get g H j.g
    refine ⟨_, en.raw hr, a, Cl, dx, _, _, rfl, dg.ia, pc.cl, pc.ns, lk_states, ?_⟩
    refine h σ H _ en j fun v z H1 l1 j1 r1 ⟨n, d, e, ha, p⟩ => ?_
    subst e
    cases r1
    obtain ⟨as, x1, x2, _, _⟩ := (dg.same l1).xs
    obtain ⟨w, hw, rw'⟩ := trs_at x2 (atI_map boxP ha)
    exact ⟨s, as, n, w, rfl, rfl, x1, hw, q w _ _ H1 (same_le l1) j1 (rw'.rep j1.al) p⟩
/-- len(y.done) -/
theorem we_plenD (pc : PiC C.K Cl) (pi : HasPi F Cl a dx mk) (i : Nat) (hN : C.N[i]? = some y) (hv : Vis C.sc y) (hr : ρ[i]? = some (.raw (.ref a))) (hg : C.sc.names.lookup ("len" : Str) = some .globalImplicit) (hm : C.mg ("len" : Str) = none)
    (h : Φ (mk g) (.int (g.2.length : Nat)))
    (hd : (y == ("__debug__" : Str)) = false := by decide) (hcd : (y == ("__classdict__" : Str)) = false := by decide) (hb : ∀ env : Env, attributeBase (.Name y py) "done" env (eval (.Name y py) env) = eval (.Name y py) env := by intro _; rfl) (hse : ∀ env : Env, starEach [.Attribute (.Name y py) "done" apos] env = (false, eval (.Attribute (.Name y py) "done" apos) env) :: starEach [] env := by intro _; rfl) :
    WPE F C (.Call (.Name "len" p) [.Attribute (.Name y py) "done" apos] [] pos) ρ (mk g) Φ :=
  of_pe (fun X fx => pe_callB len_ext (by show X.env.scope.names.lookup ("len" : Str) = _; rw [fx.sc]; exact hg) (by rw [fx.mg]; exact hm) PySem.boot_len (pa_cons (peFldN i fx hN hv hd hcd hb) pa_nil (hse X.env)) (by decide) (by decide) (hse X.env) rfl) fun σ H Q en j q => by
    obtain ⟨s, t, dg⟩ := pi.get g H j.g
    obtain ⟨as, x1, x2, _, xl⟩ := dg.xt
    refine ⟨_, en.raw hr, a, Cl, dx, _, _, rfl, dg.ia, pc.cl, pc.nd, lk_done, ?_⟩
    exact ⟨t, as, rfl, x1, q _ _ _ H .refl j (by rw [xl]; exact .int _) h⟩
/-- len(y.states) -/
theorem we_plenS (pc : PiC C.K Cl) (pi : HasPi F Cl a dx mk) (i : Nat) (hN : C.N[i]? = some y) (hv : Vis C.sc y) (hr : ρ[i]? = some (.raw (.ref a))) (hg : C.sc.names.lookup ("len" : Str) = some .globalImplicit) (hm : C.mg ("len" : Str) = none)
    (h : Φ (mk g) (.int (g.1.length : Nat)))
    (hd : (y == ("__debug__" : Str)) = false := by decide) (hcd : (y == ("__classdict__" : Str)) = false := by decide) (hb : ∀ env : Env, attributeBase (.Name y py) "states" env (eval (.Name y py) env) = eval (.Name y py) env := by intro _; rfl) (hse : ∀ env : Env, starEach [.Attribute (.Name y py) "states" apos] env = (false, eval (.Attribute (.Name y py) "states" apos) env) :: starEach [] env := by intro _; rfl) :
    WPE F C (.Call (.Name "len" p) [.Attribute (.Name y py) "states" apos] [] pos) ρ (mk g) Φ :=
  of_pe (fun X fx => pe_callB len_ext (by show X.env.scope.names.lookup ("len" : Str) = _; rw [fx.sc]; exact hg) (by rw [fx.mg]; exact hm) PySem.boot_len (pa_cons (peFldN i fx hN hv hd hcd hb) pa_nil (hse X.env)) (by decide) (by decide) (hse X.env) rfl) fun σ H Q en j q => by
    obtain ⟨s, t, dg⟩ := pi.get g H j.g
    obtain ⟨as, x1, x2, _, xl⟩ := dg.xs
    refine ⟨_, en.raw hr, a, Cl, dx, _, _, rfl, dg.ia, pc.cl, pc.ns, lk_states, ?_⟩
    exact ⟨s, as, rfl, x1, q _ _ _ H .refl j (by rw [xl]; exact .int _) h⟩
/-- tuple(y.done) -/
theorem we_ptupD (pc : PiC C.K Cl) (pi : HasPi F Cl a dx mk) (hK : F.K = C.K) (i : Nat) (hN : C.N[i]? = some y) (hv : Vis C.sc y) (hr : ρ[i]? = some (.raw (.ref a))) (hg : C.sc.names.lookup ("tuple" : Str) = some .globalImplicit) (hm : C.mg ("tuple" : Str) = none)
    (h : Φ (mk g) (.tuple (g.2.map edP)))
    (hd : (y == ("__debug__" : Str)) = false := by decide) (hcd : (y == ("__classdict__" : Str)) = false := by decide) (hb : ∀ env : Env, attributeBase (.Name y py) "done" env (eval (.Name y py) env) = eval (.Name y py) env := by intro _; rfl) (hse : ∀ env : Env, starEach [.Attribute (.Name y py) "done" apos] env = (false, eval (.Attribute (.Name y py) "done" apos) env) :: starEach [] env := by intro _; rfl) :
    WPE F C (.Call (.Name "tuple" p) [.Attribute (.Name y py) "done" apos] [] pos) ρ (mk g) Φ :=
  of_pe (fun X fx => pe_callTy tup_ext (by show X.env.scope.names.lookup ("tuple" : Str) = _; rw [fx.sc]; exact hg) (by rw [fx.mg]; exact hm) (by decide +kernel) (pa_cons (peFldN i fx hN hv hd hcd hb) pa_nil (hse X.env)) (by decide) (by decide) (hse X.env) rfl) fun σ H Q en j q => by
    obtain ⟨s, t, dg⟩ := pi.get g H j.g
    obtain ⟨as, x1, x2, _, xl⟩ := dg.xt
    refine ⟨_, en.raw hr, a, Cl, dx, _, _, rfl, dg.ia, pc.cl, pc.nd, lk_done, ?_⟩
    refine ⟨t, as, rfl, x1, fun l hl => ?_⟩
    exact q _ (.tuple (g.2.map edP)) _ _ (.new hl) (j.new hl) (rep_newT j hl (x2.rep j.al)) h
end
end Dl

namespace Dl
open PySem PySem.Spec PyProof.Rows L2
section
variable {F : Fm} {C : Cs} {Cl a dx : Addr} {mk : Pg → Nat} {g g' : Pg} {ρ : Rho} {k : Nat} {Φ : Nat → PyData → Prop} {e b : Expr} {es : List Expr} {pos p py apos fpos cp : Pos} {x y m : Str} {Pre : Pg → List PyData → Prop} {R : Pg → List PyData → Pg → PyData → Prop} {j : Nat} {P : DE}
/-- the deck is another, the rest as it was -/
theorem pi_move {H H' : Hp} {s t s' t' : Addr} (pi : HasPi F Cl a dx mk) (j : J F (mk g) H) (dg : PiG F.K Cl a dx s t g H) (keep : ∀ b o, b ≠ a → b ≠ dx → b ≠ s → b ≠ t → H b = some o → H' b = some o) (e1 : ∀ y o, IsX o → H y = some o → ∃ o', IsX o' ∧ H' y = some o') (dg' : PiG F.K Cl a dx s' t' g' H') (hs : s' = s ∨ H s' = none) (ht : t' = t ∨ H t' = none) : Le F H H' ∧ J F (mk g') H' := by
  obtain ⟨as, x1, _, x3, _⟩ := dg.xs
  obtain ⟨bs, y1, _, y3, _⟩ := dg.xt
  have le : Le F H H' := fun b o n e => by
    refine keep b o ?_ ?_ ?_ ?_ e
    · rintro rfl; exact n (.inl pi.ma)
    · rintro rfl; exact n (.inl pi.md)
    · rintro rfl; rw [x1] at e; cases e; exact n (.inr (by rw [pi.X]; exact x3))
    · rintro rfl; rw [y1] at e; cases e; exact n (.inr (by rw [pi.X]; exact y3))
  refine ⟨le, pi.put g g' H H' s t s' t' j.g dg keep e1 dg' hs ht, fun b o n e => le b o n (j.le b o n e), fun b hb => ?_⟩
  have lvx : ∀ {z : Addr} {o : HO}, H z = some o → IsX o → Lv H' z := fun {z o} hz xo => by
    obtain ⟨o', ⟨_, _, _, rfl⟩, q'⟩ := e1 z o xo hz
    exact lv_ext q'
  by_cases h1 : b = a
  · subst h1; exact ⟨_, dg'.ia, fun _ z => nomatch z⟩
  by_cases h2 : b = dx
  · subst h2; exact ⟨_, dg'.id, fun _ z => nomatch z⟩
  by_cases h3 : b = s
  · subst h3; exact lvx x1 x3
  by_cases h4 : b = t
  · subst h4; exact lvx y1 y3
  exact (j.al b hb).keep fun o e => keep b o h1 h2 h3 h4 e
/-! ### append to a deck's list -/
def tBMX (r : V → List V → Hp → VK → Prop) (to : TE) (t : TA) : TE := fun σ H Q => to σ H fun x H1 => (∃ p as, x = .ref p ∧ H1 p = some (extL p as)) ∧ t σ H1 fun xs H2 => r x xs H2 Q
theorem pe_bmX {X : Cx} {o : Expr} {to : TE} {t : TA} {name : Str} {id : String} {r : V → List V → Hp → VK → Prop} (pa : PlainAttrs "list") (slot : Slot "list" name id) (hty : typeOf (.builtin id) = pure (.type "method_descriptor")) (hm : MtM X id r) (ho : PE X o to) (ha : PA X (e :: es) t)
    (hbase : attributeBase o name X.env (eval o X.env) = eval o X.env)
    (hfew : ((backTo cp (starEach (e :: es) X.env)).all (fun x => !x.1) && (backToKw cp (keywordEach [] X.env)).all (fun x => x.1.isSome)
      && decide ((e :: es).length + ([] : List Keyword).length + (if ([] : List Keyword).isEmpty then 0 else 1) < 30)) = true)
    (hline : (apos.endLine == cp.line) = true) (hs : starEach (e :: es) X.env = (false, eval e X.env) :: starEach es X.env) (hplain : (backTo cp (starEach es X.env)).any (·.1) = false) :
    PE X (.Call (.Attribute o name apos) (e :: es) [] cp) (tBMX r to t) := by
  refine ⟨fun pins s σ H Q I h => ?_⟩
  refine wpAny_Call_method_late hbase hfew hline rfl (thn (ho.run pins s σ H _ I h) fun v s1 ⟨x, H1, I1, r1, ⟨p, as, ep, hp⟩, q1⟩ => ?_)
  subst ep
  obtain ⟨h1, h2⟩ := tyV_is (T := "list") (inv_asLst I1 hp) r1 (.inl ⟨rfl, _, SqL.of upd_same⟩)
  refine ⟨"list", id, pa, slot, hty, h1, h2, ?_⟩
  have hA := ha.run cp pins s1 σ H1 _ I1 q1
  rw [hs] at hA ⊢
  refine Calls.callWith_builtin (by show (false || (backTo cp (starEach es X.env)).any (·.1)) = false; rw [hplain] <;> rfl) (Calls.evalArgs_plain ?_)
  exact thn hA fun us s2 ⟨vs, H2, I2, r2, q2⟩ => hm pins s2 σ H2 _ vs v us Q I2 r1 r2 q2
theorem trs_snoc {K : PySem.W.Frag} {H H' : Hp} {as : List Addr} {y : Addr} {ds : List PyData} {d : PyData} (r : TRs K H (as.map V.ref) ds) (rd : TR K H (.ref y) d) (e : ∀ b xs, H b = some (.tup xs) → H' b = some (.tup xs)) : TRs K H' ((as ++ [y]).map V.ref) (ds ++ [d]) := by
  rw [List.map_append]
  exact (r.keep e).append (.cons (rd.keep e) .nil)
theorem map_snoc {α β : Type} (f : α → β) (xs : List α) (x : α) : (xs ++ [x]).map f = xs.map f ++ [f x] := by rw [List.map_append]; rfl
theorem snoc_len {α : Type} (xs : List α) (x : α) : (xs ++ [x]).length = xs.length + 1 := by rw [List.length_append]; rfl
/-- y.states.append(e) -/
theorem ws_pappS (pc : PiC C.K Cl) (pi : HasPi F Cl a dx mk) (hK : F.K = C.K) (i : Nat) (hN : C.N[i]? = some y) (hv : Vis C.sc y) (hr : ρ[i]? = some (.raw (.ref a))) (hz : g.1.length < 1000)
    (h : WNo F (tE C e) ρ (mk g) fun z => ∃ d, z = boxP d ∧ P.nx (mk (g.1 ++ [d], g.2)) ρ)
    (hd : (y == ("__debug__" : Str)) = false := by decide) (hcd : (y == ("__classdict__" : Str)) = false := by decide) (hb : ∀ env : Env, attributeBase (.Name y py) "states" env (eval (.Name y py) env) = eval (.Name y py) env := by intro _; rfl)
    (hb2 : ∀ env : Env, attributeBase (.Attribute (.Name y py) "states" fpos) "append" env (eval (.Attribute (.Name y py) "states" fpos) env) = eval (.Attribute (.Name y py) "states" fpos) env := by intro _; rfl)
    (hfew : ∀ env : Env, ((backTo cp (starEach [e] env)).all (fun x => !x.1) && (backToKw cp (keywordEach [] env)).all (fun x => x.1.isSome)
      && decide ([e].length + ([] : List Keyword).length + (if ([] : List Keyword).isEmpty then 0 else 1) < 30)) = true := by intro _; rfl)
    (hline : (apos.endLine == cp.line) = true := by rfl) (hse : ∀ env : Env, starEach [e] env = (false, eval e env) :: starEach [] env := by intro _; rfl) (hsw : ∀ env : Env, swapsWith (.Call (.Attribute (.Attribute (.Name y py) "states" fpos) "append" apos) [e] [] cp) none pos.line env = pure false := by intro _; rfl) :
    WPS F C (.Expr (.Call (.Attribute (.Attribute (.Name y py) "states" fpos) "append" apos) [e] [] cp) pos) ρ (mk g) P :=
  of_ps (fun X fx => ps_expr (pe_bmX PySem.F.plainAttrs_list PySem.F.slot_list_append PySem.F.type_list_append mt_appX (peFldN i fx hN hv hd hcd hb) (pa_cons (peE fx) pa_nil (hse X.env)) (hb2 X.env) (hfew X.env) hline (hse X.env) rfl) (hsw X.env)) fun σ H E en j q1 _ _ _ => by
    obtain ⟨s, t, dg⟩ := pi.get g H j.g
    obtain ⟨as, x1, x2, x3, x4⟩ := dg.xs
    refine ⟨_, en.raw hr, a, Cl, dx, _, _, rfl, dg.ia, pc.cl, pc.ns, lk_states, ⟨s, as, rfl, x1⟩, ?_⟩
    show tE C e σ H _
    refine h σ H _ en j fun v z H2 l2 j2 r2 ⟨d, ez, p⟩ => ?_
    subst ez
    obtain ⟨yb, rfl, rt⟩ := tr_box r2
    have dg2 := dg.same l2
    have hs2 := l2 _ _ x1
    refine ⟨s, as, yb, rfl, rfl, hs2, Nat.lt_of_lt_of_le (show as.length < 1000 by omega) (by decide), ?_⟩
    have nea : a ≠ s := fun z => by rw [z] at dg2; rw [dg2.ia] at hs2; unfold extL at hs2; cases hs2
    have ned : dx ≠ s := fun z => by rw [z] at dg2; rw [dg2.id] at hs2; unfold extL at hs2; cases hs2
    have keepT : ∀ b xs, H2 b = some (.tup xs) → upd H2 s (extL s (as ++ [yb])) b = some (.tup xs) := fun b xs q => by
      rw [upd_ne (fun z => by rw [z, hs2] at q; unfold extL at q; cases q)]; exact q
    obtain ⟨bs, y1, y2, y3, y4⟩ := dg2.xt
    have dg' : PiG F.K Cl a dx s t (g.1 ++ [d], g.2) (upd H2 s (extL s (as ++ [yb]))) := ⟨by rw [upd_ne nea]; exact dg2.ia, by rw [upd_ne ned]; exact dg2.id, dg.ne, ⟨as ++ [yb], upd_same, by
      show TRs _ _ _ ((g.1 ++ [d]).map boxP)
      rw [map_snoc boxP]
      exact trs_snoc (x2.keep fun b xs q => l2 b _ q) rt keepT⟩, ⟨bs, by rw [upd_ne dg.ne.symm]; exact y1, y2.keep keepT⟩, by show (g.1 ++ [d]).length ≤ 1000; rw [snoc_len]; omega, dg.lt⟩
    obtain ⟨le, j3⟩ := pi_move pi j2 dg2 (fun b o _ _ n3 _ q => by rw [upd_ne n3]; exact q) (fun y o x q => by
      by_cases hy : y = s
      · subst hy; exact ⟨_, isX_ext (by rw [snoc_len]; exact big1000 (by omega)), upd_same⟩
      · exact ⟨o, x, by rw [upd_ne hy]; exact q⟩) dg' (.inl rfl) (.inl rfl)
    exact q1 ρ σ _ _ ((same_le l2).lz.trans le.lz) ((en.le (same_le l2)).le le) j3 p
/-- y.done.append(e) -/
theorem ws_pappD (pc : PiC C.K Cl) (pi : HasPi F Cl a dx mk) (hK : F.K = C.K) (i : Nat) (hN : C.N[i]? = some y) (hv : Vis C.sc y) (hr : ρ[i]? = some (.raw (.ref a))) (hz : g.2.length < 1000)
    (h : WNo F (tE C e) ρ (mk g) fun z => ∃ d, z = edP d ∧ P.nx (mk (g.1, g.2 ++ [d])) ρ)
    (hd : (y == ("__debug__" : Str)) = false := by decide) (hcd : (y == ("__classdict__" : Str)) = false := by decide) (hb : ∀ env : Env, attributeBase (.Name y py) "done" env (eval (.Name y py) env) = eval (.Name y py) env := by intro _; rfl)
    (hb2 : ∀ env : Env, attributeBase (.Attribute (.Name y py) "done" fpos) "append" env (eval (.Attribute (.Name y py) "done" fpos) env) = eval (.Attribute (.Name y py) "done" fpos) env := by intro _; rfl)
    (hfew : ∀ env : Env, ((backTo cp (starEach [e] env)).all (fun x => !x.1) && (backToKw cp (keywordEach [] env)).all (fun x => x.1.isSome)
      && decide ([e].length + ([] : List Keyword).length + (if ([] : List Keyword).isEmpty then 0 else 1) < 30)) = true := by intro _; rfl)
    (hline : (apos.endLine == cp.line) = true := by rfl) (hse : ∀ env : Env, starEach [e] env = (false, eval e env) :: starEach [] env := by intro _; rfl) (hsw : ∀ env : Env, swapsWith (.Call (.Attribute (.Attribute (.Name y py) "done" fpos) "append" apos) [e] [] cp) none pos.line env = pure false := by intro _; rfl) :
    WPS F C (.Expr (.Call (.Attribute (.Attribute (.Name y py) "done" fpos) "append" apos) [e] [] cp) pos) ρ (mk g) P :=
  of_ps (fun X fx => ps_expr (pe_bmX PySem.F.plainAttrs_list PySem.F.slot_list_append PySem.F.type_list_append mt_appX (peFldN i fx hN hv hd hcd hb) (pa_cons (peE fx) pa_nil (hse X.env)) (hb2 X.env) (hfew X.env) hline (hse X.env) rfl) (hsw X.env)) fun σ H E en j q1 _ _ _ => by
    obtain ⟨s, t, dg⟩ := pi.get g H j.g
    obtain ⟨as, x1, x2, x3, x4⟩ := dg.xt
    refine ⟨_, en.raw hr, a, Cl, dx, _, _, rfl, dg.ia, pc.cl, pc.nd, lk_done, ⟨t, as, rfl, x1⟩, ?_⟩
    show tE C e σ H _
    refine h σ H _ en j fun v z H2 l2 j2 r2 ⟨d, ez, p⟩ => ?_
    subst ez
    obtain ⟨yb, rfl, rt⟩ := tr_ed r2
    have dg2 := dg.same l2
    have hs2 := l2 _ _ x1
    refine ⟨t, as, yb, rfl, rfl, hs2, Nat.lt_of_lt_of_le (show as.length < 1000 by omega) (by decide), ?_⟩
    have nea : a ≠ t := fun z => by rw [z] at dg2; rw [dg2.ia] at hs2; unfold extL at hs2; cases hs2
    have ned : dx ≠ t := fun z => by rw [z] at dg2; rw [dg2.id] at hs2; unfold extL at hs2; cases hs2
    have keepT : ∀ b xs, H2 b = some (.tup xs) → upd H2 t (extL t (as ++ [yb])) b = some (.tup xs) := fun b xs q => by
      rw [upd_ne (fun z => by rw [z, hs2] at q; unfold extL at q; cases q)]; exact q
    obtain ⟨bs, y1, y2, y3, y4⟩ := dg2.xs
    have dg' : PiG F.K Cl a dx s t (g.1, g.2 ++ [d]) (upd H2 t (extL t (as ++ [yb]))) := ⟨by rw [upd_ne nea]; exact dg2.ia, by rw [upd_ne ned]; exact dg2.id, dg.ne, ⟨bs, by rw [upd_ne dg.ne]; exact y1, y2.keep keepT⟩, ⟨as ++ [yb], upd_same, by
      show TRs _ _ _ ((g.2 ++ [d]).map edP)
      rw [map_snoc edP]
      exact trs_snoc (x2.keep fun b xs q => l2 b _ q) rt keepT⟩, dg.ls, by show (g.2 ++ [d]).length ≤ 1000; rw [snoc_len]; omega⟩
    obtain ⟨le, j3⟩ := pi_move pi j2 dg2 (fun b o _ _ _ n4 q => by rw [upd_ne n4]; exact q) (fun y o x q => by
      by_cases hy : y = t
      · subst hy; exact ⟨_, isX_ext (by rw [snoc_len]; exact big1000 (by omega)), upd_same⟩
      · exact ⟨o, x, by rw [upd_ne hy]; exact q⟩) dg' (.inl rfl) (.inl rfl)
    exact q1 ρ σ _ _ ((same_le l2).lz.trans le.lz) ((en.le (same_le l2)).le le) j3 p
/-! ### calls of methods and defs with arguments -/
/-- y.m(e, ..) of a deck -/
theorem we_pm (pi : HasPi F Cl a dx mk) (hF : PiM C.P C.w C.K C.mg C.base Cl j m [] Pre R) (hl : j ≤ C.lvl) (hK : F.K = C.K) (i : Nat) (hN : C.N[i]? = some y) (hv : Vis C.sc y) (hr : ρ[i]? = some (.raw (.ref a))) (hmn : m ≠ "states" ∧ m ≠ "done")
    (h : WPA F C (e :: es) ρ (mk g) fun k1 ds => ∃ mk1 g1, HasPi F Cl a dx mk1 ∧ k1 = mk1 g1 ∧ Pre g1 ds ∧ ∀ g' d, R g1 ds g' d → Φ (mk1 g') d)
    (hd : (y == ("__debug__" : Str)) = false := by decide) (hcd : (y == ("__classdict__" : Str)) = false := by decide) (hst : ∀ env : Env, starEach (e :: es) env = (false, eval e env) :: starEach es env := by intro _; rfl) (hpl : ∀ env : Env, (backTo pos (starEach es env)).any (·.1) = false := by intro _; rfl)
    {pl : Env → Sem Bool} (ht : ∀ env : Env, eval (.Call (.Attribute (.Name y py) m apos) (e :: es) [] pos) env = (do
      let ov ← eval (.Name y py) env
      standAt apos.atName
      let (f, first) ← holding [ov] (getMethod ov m (pl env))
      callWith pos f first (backTo pos (starEach (e :: es) env)) (backToKw pos (keywordEach [] env))) := by intro _; rfl) :
    WPE F C (.Call (.Attribute (.Name y py) m apos) (e :: es) [] pos) ρ (mk g) Φ := by
  obtain ⟨fa, fd, ps, ds, G, hm, hb, hd2⟩ := hF.ex
  refine of_pe (fun X fx => pe_methG (pl := pl X.env) (pe_var (i := i) (by rw [fx.N]; exact hN) (by rw [fx.sc]; exact hv) hd hcd) (by rw [fx.K]; exact hF.cl) (by rw [fx.K]; exact hm) (by rw [fx.P, fx.w, fx.K, fx.mg, fx.base]; exact G) fx.gd (fx.room.mono hl) (by rw [fx.K]; exact hb) hd2 (paA fx) (hst X.env) (hpl X.env) (ht X.env)) fun σ H Q en jj q => ?_
  obtain ⟨s, t, dg⟩ := pi.get g H jj.g
  refine ⟨_, en.raw hr, a, dx, _, rfl, dg.ia, meth_none hmn, ?_⟩
  refine h σ H _ en jj fun vs ds k1 H1 l1 j1 r1 ⟨mk1, g1, pi1, e1, hp, hq⟩ => ?_
  subst e1
  rw [List.append_nil]
  exact pi_step pi1 hK j1 r1 hp hq fun v d k' H' l' j' r' p => q v d k' H' (l1.trans l') j' r' p
/-- f(y, ..) of a def that edits decks -/
theorem we_pf (pi : HasPi F Cl a dx mk) (hF : PiF C.P C.w C.K C.mg C.base Cl j x Pre R) (hl : j ≤ C.lvl) (hK : F.K = C.K) (i : Nat) (hg : C.sc.names.lookup x = some .globalImplicit) (hN : C.N[i]? = some y) (hv : Vis C.sc y) (hr : ρ[i]? = some (.raw (.ref a)))
    (h : WPA F C es ρ (mk g) fun k1 ds => ∃ mk1 g1, HasPi F Cl a dx mk1 ∧ k1 = mk1 g1 ∧ Pre g1 ds ∧ ∀ g' d, R g1 ds g' d → Φ (mk1 g') d)
    (hdb : (x == ("__debug__" : Str)) = false := by decide) (hd : (y == ("__debug__" : Str)) = false := by decide) (hcd : (y == ("__classdict__" : Str)) = false := by decide)
    (hss : ∀ env : Env, starEach (.Name y py :: es) env = (false, eval (.Name y py) env) :: starEach es env := by intro _; rfl) (hpl : ∀ env : Env, ((backTo pos (starEach es env)).any fun x => x.fst) = false := by intro _; rfl) :
    WPE F C (.Call (.Name x p) (.Name y py :: es) [] pos) ρ (mk g) Φ := by
  obtain ⟨fa, fd, ps, G, hm, kp, hb⟩ := hF.ex
  refine of_pe (fun X fx => pe_callF fx G hl hg hm kp hb (pa_cons (pe_var (i := i) (by rw [fx.N]; exact hN) (by rw [fx.sc]; exact hv) hd hcd) (paA fx) (hss X.env)) hdb hss hpl) fun σ H Q en jj q => ?_
  refine ⟨_, en.raw hr, ?_⟩
  refine h σ H _ en jj fun vs ds k1 H1 l1 j1 r1 ⟨mk1, g1, pi1, e1, hp, hq⟩ => ?_
  subst e1
  exact pi_step pi1 hK j1 r1 hp hq fun v d k' H' l' j' r' p => q v d k' H' (l1.trans l') j' r' p
end
end Dl

namespace Dl
open PySem PySem.Spec PyProof.Rows L2
/-! ### len and str of an instance by its own defs -/
section
variable {X : Cx} {k : Nat} {f C a dx : Addr} {fd : FuncData} {ps : List Str} {sp : Sp} {H : Hp} {σ : L2.St} {pins : List (Addr × Obj)} {s : Shared} {fs : List (Str × V)} {A : Around} {name : Str}
theorem special_fn {Q : Option Value → Shared → Prop} {E : Value → Shared → Prop} (I : Inv X pins σ H s) (e : H a = some (.ins C dx fs)) (hf : PySem.W.findIn X.K (.ref C) name = some (some (.ref f))) (fn : PySem.W.isFn X.K (.ref f) = true)
    (hc : wpAny (model X.prog X.w) A (call (.ref f) [.ref a]) (fun v s' => Q (some v) s') E s) : wpAny (model X.prog X.w) A (callSpecial? (.ref a) name) Q E s := by
  obtain ⟨mA, O, _⟩ := ins_get I.hok e
  obtain ⟨od, J, hl⟩ := O.look
  unfold callSpecial? specialOf
  refine wpAny_bind (wpAny_bind (J.type.here ((PySem.W.looks_findIn I.kIn hf).here ?_)))
  refine wpAny_holding ?_
  refine wpAny_bind ((PySem.W.bind_fn I.kIn _ (beq_iff_eq.mp fn)).here ?_)
  exact wpAny_bind (wpAny_mono hc (fun v s' z => wpAny_pure z) fun _ _ z => z)
theorem FnG.run_in1 {Q : VK} (G : FnG X.prog X.w X.K X.mg X.base k f fd ps sp) (gd : X.A.guards = some []) (room : Room (k + 1) X.A) (hb : L2.Binds X.K fd ps []) (I : Inv X pins σ H s) (h : sp [.ref a] H Q E0) {E : Value → Shared → Prop} :
    wpAny (model X.prog X.w) X.A.in1 (call (.ref f) [.ref a]) (EP X pins σ Q) E s := by
  have hl : ([Value.ref a] : List Value).length = ps.length := (show ([V.ref a] : List V).length = ps.length from G.len _ _ _ _ h)
  have bind := hb s [.ref a] I.kIn (by rw [List.append_nil]; exact hl)
  rw [List.append_nil] at bind
  refine wpAny_call (codeAny_mono (G.run X.A.in1 X.stack s H ⟨[.ref a], []⟩ [.ref a] [.ref a] Q gd room.in1 I.env0.in1 bind (.cons rfl .nil) h) ?_)
  intro res s' hr
  match res, hr with
  | .ok (.ret u), hr => exact I.after hr
  | .ok .next, hr => exact False.elim hr
  | .ok .brk, hr => exact False.elim hr
  | .ok .cont, hr => exact False.elim hr
  | .error _, hr => exact False.elim hr
/-- .. two builtins deep -/
theorem FnG.run_in2 {Q : VK} (G : FnG X.prog X.w X.K X.mg X.base k f fd ps sp) (gd : X.A.guards = some []) (room : Room (k + 1 + 1) X.A) (hb : L2.Binds X.K fd ps []) (I : Inv X pins σ H s) (h : sp [.ref a] H Q E0) {E : Value → Shared → Prop} :
    wpAny (model X.prog X.w) X.A.in1.in1 (call (.ref f) [.ref a]) (EP X pins σ Q) E s := by
  have hl : ([Value.ref a] : List Value).length = ps.length := (show ([V.ref a] : List V).length = ps.length from G.len _ _ _ _ h)
  have bind := hb s [.ref a] I.kIn (by rw [List.append_nil]; exact hl)
  rw [List.append_nil] at bind
  refine wpAny_call (codeAny_mono (G.run X.A.in1.in1 X.stack s H ⟨[.ref a], []⟩ [.ref a] [.ref a] Q gd room.in1.in1 I.env0.in1.in1 bind (.cons rfl .nil) h) ?_)
  intro res s' hr
  match res, hr with
  | .ok (.ret u), hr => exact I.after hr
  | .ok .next, hr => exact False.elim hr
  | .ok .brk, hr => exact False.elim hr
  | .ok .cont, hr => exact False.elim hr
  | .error _, hr => exact False.elim hr
theorem str_inst (G : FnG X.prog X.w X.K X.mg X.base k f fd ps sp) (gd : X.A.guards = some []) (room : Room (k + 1 + 1) X.A) (hb : L2.Binds X.K fd ps []) (hf : PySem.W.findIn X.K (.ref C) "__str__" = some (some (.ref f))) (fn : PySem.W.isFn X.K (.ref f) = true) :
    CallR X (.type "str") (fun xs H Q => ∃ a dx fs, xs = [.ref a] ∧ H a = some (.ins C dx fs) ∧ sp [.ref a] H (fun v H' => ∃ x : Str, v = .str x ∧ Q (.str x) H') E0) := by
  rintro pins s σ H xs us Q I r ⟨a, dx, fs, rfl, e, h⟩
  obtain ⟨u, rfl, ru⟩ := vals1 r
  obtain rfl : u = Value.ref a := ru
  refine callType_newIn F.called_str (by decide) (F.typeCall_str_1 _) (F.newCall_str_1 _) (fun obj => F.args_object_init_2 obj _) F.entry_str_new (S := fun A R s => wpAny (model X.prog X.w) A.in1 (Builtin.Str.strOf (.ref a)) (fun r s' => R (.ok (.ret r)) s') (fun e s' => R (.error e) s') s) (fun A R s h => ?_) ?_
  · rw [str_new_tree]
    refine wpAny_bind (wpAny_pure ?_)
    refine wpAny_bind (wpAny_of_eq isSubtype_str_str ?_)
    exact wpAny_bind (wpAny_mono h (fun r s' h' => wpAny_pure h') fun _ _ e => e)
  · unfold Builtin.Str.strOf
    have hu := room.in1.in1.units0
    show wpAny _ _ (if Builtin.Str.isExactStr (.ref a) = true then _ else _) _ _ s
    rw [if_neg (by show ¬ (false = true); decide)]
    refine wpAny_bind (wpAny_cRoomFor hu ?_)
    refine wpAny_bind (m := callSpecial? (.ref a) (Str.ofString "__str__")) (special_fn I e hf fn (wpAny_mono (FnG.run_in2 G gd room hb I h) (fun v s' hq => ?_) fun _ _ z => z))
    obtain ⟨x, H', I', rx, y, rfl, q⟩ := hq
    obtain ⟨t, rfl⟩ := (show ∃ t, v = Value.str y t from rx)
    refine wpAny_bind (wpAny_pure ?_)
    exact wpAny_pure ⟨typeIs_str _ _ _, ⟨.str y, H', I', ⟨t, rfl⟩, q⟩⟩
theorem len_inst (G : FnG X.prog X.w X.K X.mg X.base k f fd ps sp) (gd : X.A.guards = some []) (room : Room (k + 1) X.A) (hb : L2.Binds X.K fd ps []) (hf : PySem.W.findIn X.K (.ref C) "__len__" = some (some (.ref f))) (fn : PySem.W.isFn X.K (.ref f) = true) :
    CallR X (.builtin "len") (fun xs H Q => ∃ a dx fs, xs = [.ref a] ∧ H a = some (.ins C dx fs) ∧ sp [.ref a] H (fun v H' => ∃ n : Nat, v = .int n ∧ n < 1000000 ∧ Q (.int n) H') E0) := by
  rintro pins s σ H xs us Q I r ⟨a, dx, fs, rfl, e, h⟩
  obtain ⟨u, rfl, ru⟩ := vals1 r
  obtain rfl : u = Value.ref a := ru
  refine Calls.call_function_entry kind_len plain_len entry_len (args_len1 _) ?_
  unfold Builtin.«len»
  refine wpAny_bind (m := oneArg "len" _) (wpAny_pure ?_)
  refine wpAny_bind (m := callSpecial? (.ref a) (Str.ofString "__len__")) (special_fn I e hf fn (wpAny_mono (FnG.run_in1 G gd room hb I h) (fun v s' hq => ?_) fun _ _ z => z))
  obtain ⟨x, H', I', rx, n, rfl, hn, q⟩ := hq
  obtain ⟨t, rfl⟩ := (show ∃ t, v = Value.int n t from rx)
  refine wpAny_bind (wpAny_holding (wpAny_pure ?_))
  refine wpAny_bind (wpAny_letGo ?_)
  show wpAny _ _ (if (n : Int) < 0 then _ else _) _ _ _
  rw [if_neg (by omega)]
  show wpAny _ _ (if (n : Int) ≥ 2 ^ 63 then _ else _) _ _ _
  rw [if_neg (by omega)]
  exact wpAny_bind (wpAny_mkInt (wpAny_pure ⟨_, rfl, ⟨.int n, H', I'.tok _, ⟨_, rfl⟩, q⟩⟩))
end
end Dl

namespace Dl
open PySem PySem.Spec PyProof.Rows L2
/-! ### draws beside other things -/
structure HasDq (F : Fm) (st q : Addr) (mk : Nat → Nat) : Prop where
  ms : ∀ b, DqM st q b → F.M b
  get : ∀ n H, F.G (mk n) H → DqG st q n H
  put : ∀ n n' H H', F.G (mk n) H → DqG st q n' H' → (∀ b o, ¬ DqM st q b → H b = some o → H' b = some o) → F.G (mk n') H'
theorem HasDq.ext {F : Fm} {st q : Addr} {mk : Nat → Nat} (h : HasDq F st q mk) (D : Addr) : HasDq (F.ext D) st q mk := ⟨h.ms, h.get, h.put⟩
theorem IsDq.has {F : Fm} {st q : Addr} (h : IsDq F st q) : HasDq F st q id where
  ms := fun b hb => by rw [h.M]; exact hb
  get := fun n H g => by rw [h.G] at g; exact g
  put := fun n n' H H' _ d _ => by rw [h.G]; exact d
/-- the heap without the two lists -/
def hid (H : Hp) (s t : Addr) : Hp := fun b => if b = s ∨ b = t then none else H b
theorem hid_some {H : Hp} {s t b : Addr} {o : HO} (h : hid H s t b = some o) : b ≠ s ∧ b ≠ t ∧ H b = some o := by
  unfold hid at h
  by_cases c : b = s ∨ b = t
  · rw [if_pos c] at h; cases h
  · rw [if_neg c] at h; exact ⟨fun z => c (.inl z), fun z => c (.inr z), h⟩
theorem hid_of {H : Hp} {s t b : Addr} (h1 : b ≠ s) (h2 : b ≠ t) : hid H s t b = H b := by
  unfold hid; rw [if_neg (fun z => z.elim h1 h2)]
theorem hid_live {H : Hp} {s t b : Addr} (h : hid H s t b ≠ none) : b ≠ s ∧ b ≠ t ∧ H b ≠ none := by
  cases e : hid H s t b with
  | none => exact absurd e h
  | some o =>
    obtain ⟨h1, h2, h3⟩ := hid_some e
    exact ⟨h1, h2, by rw [h3]; exact fun z => nomatch z⟩
/-- the frame with a deck more -/
def Fm.deck (F : Fm) (C a dx : Addr) : Fm where
  K := F.K
  S := fun b => F.S b ∨ b = a ∨ b = dx
  M := fun b => F.M b ∨ b = a ∨ b = dx
  H0 := F.H0
  G := fun k H => ∃ c g s t, k = kk c g ∧ F.G c (hid H s t) ∧ PiG F.K C a dx s t g H ∧ (∀ y o, ¬ F.M y → IsX o → F.H0 y = some o → ∃ o', IsX o' ∧ H y = some o')
  ms := fun b h => h.imp (F.ms b) id
  gm := fun k H H' ⟨c, g, s, t, e, hF, d, h4⟩ hm hx => by
    refine ⟨c, g, s, t, e, F.gm c _ _ hF (fun b hb => ?_) (fun b o ho q => ?_), d.at (hm a (.inr (.inl rfl))) (hm dx (.inr (.inr rfl))) hx, fun y o nm x q => ?_⟩
    · unfold hid; rw [hm b (.inl hb)]
    · obtain ⟨h1, h2, h3⟩ := hid_some q
      rw [hid_of h1 h2]; exact hx b o ho h3
    · obtain ⟨o', x', q'⟩ := h4 y o nm x q
      exact ⟨o', x', hx y o' (.inl x') q'⟩
  gl := fun k H ⟨c, g, s, t, e, hF, d, _⟩ b hb => by
    rcases hb with hb | rfl | rfl
    · exact (hid_live (F.gl c _ hF b hb)).2.2
    · rw [d.ia]; exact fun z => nomatch z
    · rw [d.id]; exact fun z => nomatch z
  X := IsX
  xi := fun _ h => h
  xa := fun k H ⟨c, g, s, t, e, hF, d, h4⟩ b o nm x q => h4 b o (fun z => nm (.inl z)) x q
section
variable {F : Fm} {C a dx : Addr}
theorem has_deck (hMa : ¬ F.M a) (hMd : ¬ F.M dx) (c : Nat) : HasPi (F.deck C a dx) C a dx (kk c) where
  X := rfl
  ma := .inr (.inl rfl)
  md := .inr (.inr rfl)
  get := fun g H ⟨c1, g1, s, t, e, hF, d, _⟩ => by
    obtain ⟨rfl, rfl⟩ := kk_inj e
    exact ⟨s, t, d⟩
  put := fun g g' H H' s t s' t' ⟨c1, g1, s1, t1, e, hF, d1, h4⟩ d keep e1 d' hs ht => by
    obtain ⟨rfl, rfl⟩ := kk_inj e
    obtain ⟨rfl, rfl⟩ := d1.uniq d
    have neS : ∀ b, H b ≠ none → b ≠ s1 → b ≠ s' := fun b hb n z => by
      rcases hs with h | h
      · exact n (z.trans h)
      · rw [z] at hb; exact hb h
    have neT : ∀ b, H b ≠ none → b ≠ t1 → b ≠ t' := fun b hb n z => by
      rcases ht with h | h
      · exact n (z.trans h)
      · rw [z] at hb; exact hb h
    refine ⟨_, g', s', t', rfl, F.gm _ (hid H s1 t1) (hid H' s' t') hF (fun b hb => ?_) (fun b o ho q => ?_), d', fun y o nm x q => ?_⟩
    · obtain ⟨h1, h2, h3⟩ := hid_live (F.gl _ _ hF b hb)
      rw [hid_of h1 h2, hid_of (neS b h3 h1) (neT b h3 h2)]
      cases q : H b with
      | none => exact absurd q h3
      | some o => exact keep b o (fun z => hMa (z ▸ hb)) (fun z => hMd (z ▸ hb)) h1 h2 q
    · obtain ⟨h1, h2, h3⟩ := hid_some q
      have hn : H b ≠ none := by rw [h3]; exact fun z => nomatch z
      rw [hid_of (neS b hn h1) (neT b hn h2)]
      refine keep b o ?_ ?_ h1 h2 h3
      · rintro rfl; rw [d.ia] at h3; cases h3; exact ho.elim nx_ins fun ⟨_, z⟩ => nomatch z
      · rintro rfl; rw [d.id] at h3; cases h3; exact ho.elim nx_own fun ⟨_, z⟩ => nomatch z
    · obtain ⟨o', x', q'⟩ := h4 y o nm x q
      exact e1 y o' x' q'
theorem deck_dq {st q : Addr} {mk : Nat → Nat} (h : HasDq F st q mk) (g : Pg) : HasDq (F.deck C a dx) st q (fun n => kk (mk n) g) where
  ms := fun b hb => .inl (h.ms b hb)
  get := fun n H ⟨c1, g1, s, t, e, hF, d, _⟩ => by
    obtain ⟨rfl, rfl⟩ := kk_inj e
    obtain ⟨cells, m, h1, h2, h3⟩ := h.get n _ hF
    exact ⟨cells, m, (hid_some h1).2.2, (hid_some h2).2.2, h3⟩
  put := fun n n' H H' ⟨c1, g1, s, t, e, hF, d, h4⟩ dq keep => by
    obtain ⟨rfl, rfl⟩ := kk_inj e
    obtain ⟨cells, m, h1, h2, h3⟩ := h.get n _ hF
    obtain ⟨p1, p2, p3⟩ := hid_some h1
    obtain ⟨r1, r2, r3⟩ := hid_some h2
    obtain ⟨cells', m', f1, f2, f3⟩ := dq
    have ndq : ∀ b o, H b = some o → (∀ xs, o ≠ .lst xs) → ¬ DqM st q b := fun b o e n z => by
      rcases z with rfl | rfl
      · rw [p3] at e; cases e; exact n _ rfl
      · rw [r3] at e; cases e; exact n _ rfl
    have kx : ∀ b o, (IsX o ∨ ∃ xs, o = .tup xs) → H b = some o → H' b = some o := fun b o ho e => keep b o (ndq b o e fun xs z => by subst z; exact ho.elim nx_lst fun ⟨_, z⟩ => nomatch z) e
    refine ⟨_, g, s, t, rfl, h.put n n' (hid H s t) (hid H' s t) hF ⟨cells', m', by rw [hid_of p1 p2]; exact f1, by rw [hid_of r1 r2]; exact f2, f3⟩ (fun b o nb e => ?_), d.at ((keep a _ (ndq a _ d.ia fun _ z => nomatch z) d.ia).trans d.ia.symm) ((keep dx _ (ndq dx _ d.id fun _ z => nomatch z) d.id).trans d.id.symm) kx, fun y o nm x q => ?_⟩
    · obtain ⟨b1, b2, b3⟩ := hid_some e
      rw [hid_of b1 b2]; exact keep b o nb b3
    · obtain ⟨o', x', q'⟩ := h4 y o nm x q
      exact ⟨o', x', kx y o' (.inl x') q'⟩
end
section
variable {F : Fm} {C : Cs} {ρ : Rho} {k : Nat} {Φ : Nat → PyData → Prop} {es : List Expr} {pos p py : Pos} {x y : Str}
/-- a call of a def that draws, in any frame that knows the draws -/
theorem we_callQ2 {s a : Addr} {j cost : Nat} {Pre : List PyData → Prop} {R : Rel} (hF : DFnQ C.P C.w C.K C.mg C.base j x cost Pre R) (hl : j ≤ C.lvl) (hK : F.K = C.K) (i : Nat) (hg : C.sc.names.lookup x = some .globalImplicit) (hN : C.N[i]? = some y) (hv : Vis C.sc y) (hr : ρ[i]? = some (.raw (.ref s)))
    (h : WPA F C es ρ k fun k1 ds => Pre ds ∧ ∃ mk n, HasDq F s a mk ∧ k1 = mk (n + cost) ∧ ∀ d, R ds d → Φ (mk n) d) (hdb : (x == ("__debug__" : Str)) = false := by decide) (hd : (y == ("__debug__" : Str)) = false := by decide) (hcd : (y == ("__classdict__" : Str)) = false := by decide)
    (hss : ∀ env : Env, starEach (.Name y py :: es) env = (false, eval (.Name y py) env) :: starEach es env := by intro _; rfl) (hpl : ∀ env : Env, ((backTo pos (starEach es env)).any fun x => x.fst) = false := by intro _; rfl) :
    WPE F C (.Call (.Name x p) (.Name y py :: es) [] pos) ρ k Φ := by
  obtain ⟨fa, fd, ps, G, hm, kp, hb⟩ := hF.ex
  refine of_pe (fun X fx => pe_callF fx G hl hg hm kp hb (pa_cons (pe_var (i := i) (by rw [fx.N]; exact hN) (by rw [fx.sc]; exact hv) hd hcd) (paA fx) (hss X.env)) hdb hss hpl) fun σ H Q en jj q => ?_
  refine ⟨_, en.raw hr, ?_⟩
  refine h σ H _ en jj fun vs ds k1 H1 l1 j1 r1 ⟨hp, mk, n, dk, e, hf⟩ => ?_
  subst e
  refine ⟨F.S, s, a, vs, ds, n, rfl, dk.get _ _ j1.g, j1.al, fun b hb => F.ms b (dk.ms b hb), hK ▸ r1, hp, fun v d H' keep g rv hR => ?_⟩
  have le : Le F H1 H' := fun b o n e => keep b o (fun z => n (.inl (dk.ms b z))) e
  refine q v d (mk n) H' (l1.trans le) ⟨dk.put _ _ _ _ j1.g g keep, fun b o n e => le b o n (j1.le b o n e), fun b hb => ?_⟩ (by show Rep F.K F.S H' v d; rw [hK]; exact rv) (hf d hR)
  by_cases hM : DqM s a b
  · exact g.lv b hM
  · exact (j1.al b hb).keep fun o e => keep b o hM e
end
end Dl

namespace Dl
open PySem PySem.Spec PyProof.Rows L2
section
variable {X : Cx} {x : Str} {p pos : Pos} {e : Expr} {es : List Expr} {t : TA} {k : Nat} {f C : Addr} {fd : FuncData} {ps : List Str} {sp : Sp}
theorem FnG.run_make {pins : List (Addr × Obj)} {σ : L2.St} {H : Hp} {s : Shared} {Q : VK} {us : List Value} {vs : List V} (M : Mk X.K C f) (G : FnG X.prog X.w X.K X.mg X.base k f fd ps sp) (gd : X.A.guards = some []) (hr : Room (k + 1) X.A) (hb : L2.Binds X.K fd ps [])
    (hgd : ∀ us kw, (X.A.under (.builtin "type.__call__" ⟨.ref C :: us, kw⟩)).guards = some [])
    (I : Inv X pins σ H s) (r : Vals vs us)
    (h : ∀ x dx, H x = none → H dx = none → dx ≠ x → sp (.ref x :: vs) (upd (upd H dx (.own x)) x (.ins C dx [])) (fun v H2 => v = .non ∧ Q (.ref x) H2) E0) :
    wpAny (model X.prog X.w) X.A (call (.ref C) us) (EP X pins σ Q) X.xe s := by
  have hq := h (s.heap.objs.size + 1) s.heap.objs.size (I.hok.fresh (Nat.le_succ _)) (I.hok.fresh (Nat.le_refl _)) (Nat.ne_of_lt (Nat.lt_succ_self _))
  have I2 := L2.Inv.made (C := C) I
  have r2 : Vals (V.ref (s.heap.objs.size + 1) :: vs) (Value.ref (s.heap.objs.size + 1) :: us) := .cons rfl r
  have hl : (Value.ref (s.heap.objs.size + 1) :: us ++ []).length = ps.length := by
    have e := r2.length
    rw [G.len _ _ _ _ hq] at e
    rw [List.append_nil]
    exact e.symm
  have bind := hb _ (Value.ref (s.heap.objs.size + 1) :: us) I2.kIn hl
  rw [List.append_nil] at bind
  refine wpAny_call (make_map (f := f) I.kIn M.makes M.init (beq_iff_eq.mp M.fn) (codeAny_mono (G.run _ X.stack _ _ ⟨Value.ref (s.heap.objs.size + 1) :: us, []⟩ (Value.ref (s.heap.objs.size + 1) :: us) _ _ (hgd us []) (hr.make C us []) (I2.env0.make C us []) bind r2 hq) fun r s' hq' => ?_))
  cases r with
  | error e => exact False.elim hq'
  | ok fl =>
    cases fl with
    | ret u =>
      obtain ⟨v, H', I3, rv, ev, q3⟩ := I2.after hq'
      subst ev
      exact ⟨rv, ⟨V.ref (s.heap.objs.size + 1), H', I3, rfl, q3⟩⟩
    | next => exact False.elim hq'
    | brk => exact False.elim hq'
    | cont => exact False.elim hq'
theorem under_gd {A : Around} (gd : A.guards = some []) (C : Addr) (us : List Value) (kw : List (Str × Value)) : (A.under (.builtin "type.__call__" ⟨.ref C :: us, kw⟩)).guards = some [] := by
  first | exact gd | (simpa [Around.under, Code.isGuard, guardIds] using gd)
theorem pe_makeG (M : Mk X.K C f) (G : FnG X.prog X.w X.K X.mg X.base k f fd ps sp) (gd : X.A.guards = some []) (hr : Room (k + 1) X.A) (hg : Gl X x) (hm : X.mg x = some (.ref C)) (hb : L2.Binds X.K fd ps [])
    (ha : PA X (e :: es) t) (hdb : (x == ("__debug__" : Str)) = false) (he : starEach (e :: es) X.env = (false, eval e X.env) :: starEach es X.env) (hpl : (backTo pos (starEach es X.env)).any (·.1) = false) :
    PE X (.Call (.Name x p) (e :: es) [] pos) (tMake C sp [] E0 t) := by
  refine ⟨fun pins s σ H Q I h => ?_⟩
  refine wpAny_Call_Name_kw (ld_glob I hg hm ?_ hdb)
  refine PySem.W.callWith_K (h₀ := X.base) I.ok.mod.kin M.kp (thn (ha.run pos pins s σ H _ I h) fun us s1 ⟨vs, H1, I1, r, q⟩ => ⟨I1.kIn, ?_⟩) he hpl
  exact FnG.run_make M G gd hr hb (fun us kw => under_gd gd C us kw) I1 r fun x dx h1 h2 h3 => by
    have := q x dx h1 h2 h3
    rw [List.append_nil] at this
    exact this
end
/-- what __init__ promises of a box that is one -/
def spInit (K : PySem.W.Frag) (C : Addr) (Ok : Nat × List Int → Prop) : Sp := fun vs H Q _ => ∃ (S : Addr → Prop) (a dx : Addr) (v : V) (d : Nat × List Int), vs = [.ref a, v] ∧ H a = some (.ins C dx []) ∧ H dx = some (.own a) ∧ (∀ b, S b → Lv H b) ∧ Rep K S H v (boxP d) ∧ Ok d ∧
  ∀ s t H', (∀ b o, b ≠ a → H b = some o → H' b = some o) → H s = none → H t = none → PiG K C a dx s t ([d], []) H' → Q .non H'
end Dl

namespace Dl
open PySem PySem.Spec PyProof.Rows L2
section
variable {F : Fm} {C : Cs} {Cl f : Addr} {fd : FuncData} {ps : List Str} {ρ : Rho} {k j : Nat} {P : DE} {e : Expr} {rest : List Stmt} {x xc : Str} {px p cp pos : Pos} {Ok : Nat × List Int → Prop}
/-- x = Deck(e), and the rest in the frame with the deck -/
theorem wb_deck (i : Nat) (hX : F.X = IsX) (hK : F.K = C.K) (t : Tgt C i x) (hi : i < ρ.length) (M : Mk C.K Cl f) (G : FnG C.P C.w C.K C.mg C.base j f fd ps (spInit C.K Cl Ok)) (hl : j + 1 ≤ C.lvl) (hg : C.sc.names.lookup xc = some .globalImplicit) (hm : C.mg xc = some (.ref Cl)) (hb : L2.Binds C.K fd ps [])
    (hse : ∀ env : Env, starEach [e] env = (false, eval e env) :: starEach [] env) (hs : ∀ env : Env, env.scope = C.sc → swapsWith (.Call (.Name xc p) [e] [] cp) (some (.Name x px)) pos.line env = pure false)
    (h : WPE F C e ρ k fun k1 z => ∃ d, z = boxP d ∧ Ok d ∧ ∀ a dx, ¬ F.M a → ¬ F.M dx → WPB (F.deck Cl a dx) C rest (ρ.set i (.raw (.ref a))) (kk k1 ([d], [])) { nx := fun k' ρ' => ∃ c g, k' = kk c g ∧ P.nx c ρ', rt := fun k' v => ∃ c g, k' = kk c g ∧ P.rt c v, bk := fun k' ρ' => ∃ c g, k' = kk c g ∧ P.bk c ρ', ct := fun k' ρ' => ∃ c g, k' = kk c g ∧ P.ct c ρ' })
    (hdb : (xc == ("__debug__" : Str)) = false := by decide) : WPB F C (.Assign [.Name x px] (.Call (.Name xc p) [e] [] cp) pos :: rest) ρ k P :=
  of_pb (fun X fx => pss_cons (ps_set (by rw [fx.N]; exact t.hN) (by rw [fx.N]; exact t.hi) (by rw [fx.sc]; exact t.hx) (pe_makeG (by rw [fx.K]; exact M) (by rw [fx.P, fx.w, fx.K, fx.mg, fx.base]; exact G) fx.gd (fx.room.mono hl) (by show X.env.scope.names.lookup xc = _; rw [fx.sc]; exact hg) (by rw [fx.mg]; exact hm) (by rw [fx.K]; exact hb) (pa_cons (peE fx) pa_nil (hse X.env)) hdb (hse X.env) rfl) (hs X.env fx.sc) (by rw [fx.fn, fx.sc]; exact t.hf)) (pbB fx)) fun σ H E en jj q1 q2 q3 q4 => by
    show tE C e σ H _
    refine h σ H _ en jj fun v z k1 H1 l1 j1 r1 ⟨d, ez, hok, hrest⟩ a dx ha hdx hne => ?_
    subst ez
    have hMa : ¬ F.M a := fun z => F.gl _ _ j1.g a z ha
    have hMd : ¬ F.M dx := fun z => F.gl _ _ j1.g dx z hdx
    have keep0 : ∀ b o, H1 b = some o → upd (upd H1 dx (.own a)) a (.ins Cl dx []) b = some o := fun b o q => by
      rw [upd_ne (ne_of_none q ha), upd_ne (ne_of_none q hdx)]; exact q
    refine ⟨F.S, a, dx, v, d, rfl, upd_same, by rw [upd_ne hne, upd_same], fun b hb => (j1.al b hb).keep fun o q => keep0 b o q, ?_, hok, fun s t H' keep hs0 ht0 dg => ⟨rfl, ?_⟩⟩
    · have := Rep.keep (S := F.S) (S' := F.S) (fun b o _ q => keep0 b o q) (fun _ _ z => z) _ _ r1
      rw [← hK]; exact this
    have all : ∀ b o, H1 b = some o → H' b = some o ∧ b ≠ s ∧ b ≠ t := fun b o q => by
      have q0 := keep0 b o q
      exact ⟨keep b o (ne_of_none q ha) q0, ne_of_none q0 hs0, ne_of_none q0 ht0⟩
    rw [← hK] at dg
    have jd : J (F.deck Cl a dx) (kk k1 ([d], [])) H' := by
      refine ⟨⟨k1, ([d], []), s, t, rfl, F.gm k1 H1 _ j1.g (fun b hb => ?_) (fun b o _ q => ?_), dg, fun y o nm xo q => ?_⟩, fun b o n q => ?_, fun b hb => ?_⟩
      · cases q : H1 b with
        | none => exact absurd q (F.gl _ _ j1.g b hb)
        | some o =>
          obtain ⟨a1, a2, a3⟩ := all b o q
          rw [hid_of a2 a3]; exact a1
      · obtain ⟨a1, a2, a3⟩ := all b o q
        rw [hid_of a2 a3]; exact a1
      · obtain ⟨o', x', q'⟩ := F.xa k1 H1 j1.g y o nm (by rw [hX]; exact xo) q
        exact ⟨o', x', (all y o' q').1⟩
      · refine (all b o (j1.le b o (fun z => ?_) q)).1
        rcases z with z | z
        · exact n (.inl (.inl z))
        · exact n (.inr (F.xi _ z))
      · rcases hb with hb | rfl | rfl
        · exact (j1.al b hb).keep fun o q => (all b o q).1
        · exact ⟨_, dg.ia, fun _ z => nomatch z⟩
        · exact ⟨_, dg.id, fun _ z => nomatch z⟩
    have repd : ∀ {w : V} {u : PyData}, Rp F H1 w u → Rp (F.deck Cl a dx) H' w u := fun {w u} r => Rep.keep (S := F.S) (S' := (F.deck Cl a dx).S) (fun b o _ q => (all b o q).1) (fun b hb z => by
      rcases z with z | rfl | rfl
      · exact z
      · exact absurd ha hb
      · exact absurd hdx hb) _ _ r
    have repa : ∀ {w : List V} {u : List PyData}, RpAll F H1 w u → RpAll (F.deck Cl a dx) H' w u := fun {w u} r => RepAll.keep (S := F.S) (S' := (F.deck Cl a dx).S) (fun b o _ q => (all b o q).1) (fun b hb z => by
      rcases z with z | rfl | rfl
      · exact z
      · exact absurd ha hb
      · exact absurd hdx hb) _ _ r
    have en1 := en.le l1
    have end' : EnvOk (F.deck Cl a dx) H' σ ρ := fun m sv em => by
      obtain ⟨y, qy, r⟩ := en1 m sv em
      refine ⟨y, qy, ?_⟩
      cases sv with
      | un => trivial
      | d u => obtain ⟨w, e1, r⟩ := r; exact ⟨w, e1, repd r⟩
      | raw w => exact r
      | own o xs =>
        obtain ⟨e1, e2, e3, e4, vs, e5, e6⟩ := r
        refine ⟨e1, .inl e2, fun z => ?_, e4, vs, (all o _ e5).1, repa e6⟩
        rcases z with z | rfl | rfl
        · exact e3 z
        · rw [ha] at e5; cases e5
        · rw [hdx] at e5; cases e5
    have h0a := j1.h0 hMa ha
    have h0d := j1.h0 hMd hdx
    have back : ∀ {c : Nat} {g : Pg} {H2 : Hp}, J (F.deck Cl a dx) (kk c g) H2 → J F c H2 := fun {c g H2} j2 => by
      obtain ⟨c1, g1, s1, t1, e1, hF, _, _⟩ := j2.g
      obtain ⟨rfl, rfl⟩ := kk_inj e1
      refine ⟨F.gm _ _ _ hF (fun b hb => ?_) (fun b o _ q => (hid_some q).2.2), fun b o n q => j2.le b o (fun z => ?_) q, fun b hb => j2.al b (.inl hb)⟩
      · obtain ⟨b1, b2, _⟩ := hid_live (F.gl _ _ hF b hb)
        rw [hid_of b1 b2]
      · rcases z with (z | rfl | rfl) | z
        · exact n (.inl z)
        · rw [h0a] at q; cases q
        · rw [h0d] at q; cases q
        · exact n (.inr (by rw [hX]; exact z))
    have lzb : ∀ {H2 : Hp}, Lz (F.deck Cl a dx) H' H2 → Lz F H H2 := fun {H2} lz b o n q => by
      have q1 := l1.lz b o n q
      refine lz b o (fun z => ?_) (all b o q1).1
      rcases z with (z | rfl | rfl) | z
      · exact n (.inl z)
      · rw [ha] at q1; cases q1
      · rw [hdx] at q1; cases q1
      · exact n (.inr (by rw [hX]; exact z))
    have repb : ∀ {H2 : Hp} {w : V} {u : PyData}, Rp (F.deck Cl a dx) H2 w u → Rp F H2 w u := fun {H2 w u} r => Rep.keep (S := (F.deck Cl a dx).S) (S' := F.S) (fun _ _ _ q => q) (fun b _ z => .inl z) _ _ r
    have enb : ∀ {H2 : Hp} {σ2 : L2.St} {ρ2 : Rho}, EnvOk (F.deck Cl a dx) H2 σ2 ρ2 → EnvOk F H2 σ2 ρ2 := fun {H2 σ2 ρ2} en2 m sv em => by
      obtain ⟨y, qy, r⟩ := en2 m sv em
      refine ⟨y, qy, ?_⟩
      cases sv with
      | un => trivial
      | d u => obtain ⟨w, e1, r⟩ := r; exact ⟨w, e1, repb r⟩
      | raw w => exact r
      | own o xs =>
        obtain ⟨e1, e2, e3, e4, vs, e5, e6⟩ := r
        refine ⟨e1, ?_, fun z => e3 (.inl z), e4, vs, e5, RepAll.keep (S := (F.deck Cl a dx).S) (S' := F.S) (fun _ _ _ q => q) (fun b _ z => .inl z) _ _ e6⟩
        rcases e2 with z | z
        · exact z
        · exact absurd (.inr z) e3
    refine hrest a dx hMa hMd (σ.set i (some (.ref a))) H' E (end'.set (sv := .raw (.ref a)) rfl) jd ?_ ?_ ?_ ?_
    · rintro ρ' σ' k' H2 lz en' j' ⟨c, g, rfl, p⟩
      exact q1 ρ' σ' c H2 (lzb lz) (enb en') (back j') p
    · rintro v' u k' H2 j' r' ⟨c, g, rfl, p⟩
      exact q2 v' u c H2 (back j') (repb r') p
    · rintro ρ' σ' k' H2 lz en' j' ⟨c, g, rfl, p⟩
      exact q3 ρ' σ' c H2 (lzb lz) (enb en') (back j') p
    · rintro ρ' σ' k' H2 lz en' j' ⟨c, g, rfl, p⟩
      exact q4 ρ' σ' c H2 (lzb lz) (enb en') (back j') p
end
end Dl

namespace Dl
open PySem PySem.Spec PyProof.Rows L2
/-! ### an own list, lent as data while an expression runs -/
mutual
def tupOnly : PyData → Bool
  | .tuple ds => tupOnlyL ds
  | .list _ => false
  | .dict _ => false
  | _ => true
def tupOnlyL : List PyData → Bool
  | [] => true
  | d :: ds => tupOnly d && tupOnlyL ds
end
section
variable {K : PySem.W.Frag} {S : Addr → Prop} {H : Hp}
mutual
theorem Rep.tr : ∀ (d : PyData) (v : V), Rep K S H v d → tupOnly d = true → TR K H v d
  | .none, _, h, _ => by cases h; exact .non
  | .bool b, _, h, _ => by cases h; exact .bl b
  | .int i, _, h, _ => by cases h; exact .int i
  | .str x, _, h, _ => by cases h; exact .str x
  | .list ds, _, h, t => by simp [tupOnly] at t
  | .tuple ds, _, h, t => by
    cases h with
    | tup h1 h3 => exact .tup ⟨h1.1, fun z => z _ h1.1⟩ (RepAll.tr ds _ h3 (by simpa [tupOnly] using t))
  | .dict _, _, h, t => by simp [tupOnly] at t
theorem RepAll.tr : ∀ (ds : List PyData) (vs : List V), RepAll K S H vs ds → tupOnlyL ds = true → TRs K H vs ds
  | [], _, h, _ => by cases h; exact .nil
  | d :: ds, _, h, t => by
    cases h with
    | cons h1 h2 =>
      rw [tupOnlyL, Bool.and_eq_true] at t
      exact .cons (Rep.tr d _ h1 t.1) (RepAll.tr ds _ h2 t.2)
end
end
def Fm.less (F : Fm) (o : Addr) (h : ¬ F.M o) : Fm := { F with S := fun b => F.S b ∧ b ≠ o, ms := fun b hb => ⟨F.ms b hb, fun z => h (z ▸ hb)⟩ }
section
variable {F : Fm} {C : Cs} {ρ : Rho} {k : Nat} {Φ : Nat → PyData → Prop} {Ψ : Nat → Bool → Prop} {e : Expr} {o : Addr} {xs : List PyData} {H : Hp} {σ : L2.St}
theorem env_lend (i : Nat) (hM : ¬ F.M o) (hr : ρ[i]? = some (.own o xs)) (hno : (ρ.set i .un).all plainB = true) (en : EnvOk F H σ ρ) : EnvOk (F.less o hM) H σ (ρ.set i (.d (.list xs))) := by
  obtain ⟨hσ, hS, _, h0, vs, hv, rv⟩ := en.own hr
  have low : ∀ {w : V} {u : PyData}, Rp F H w u → Rp (F.less o hM) H w u := fun {w u} r => Rep.keep (S := F.S) (S' := (F.less o hM).S) (fun _ _ _ q => q) (fun b _ z => z.1) _ _ r
  intro m sv em
  by_cases hm : i = m
  · subst hm
    rw [List.getElem?_set_self (List.getElem?_eq_some_iff.mp hr).1] at em
    cases em
    exact ⟨_, hσ, _, rfl, .lst ⟨hv, fun z => z.2 rfl⟩ (RepAll.keep (S := F.S) (S' := (F.less o hM).S) (fun _ _ _ q => q) (fun b _ z => z.1) _ _ rv)⟩
  · rw [List.getElem?_set_ne hm] at em
    obtain ⟨y, qy, r⟩ := en m sv em
    refine ⟨y, qy, ?_⟩
    cases sv with
    | un => trivial
    | d u => obtain ⟨w, e1, r⟩ := r; exact ⟨w, e1, low r⟩
    | raw w => exact r
    | own o' xs' => exact (noOwn_of hno m o' xs' (Ne.symm hm) em).elim
theorem j_lend (hM : ¬ F.M o) (j : J F k H) : J (F.less o hM) k H := ⟨j.g, j.le, fun b hb => j.al b hb.1⟩
theorem j_back {vs : List V} (hM : ¬ F.M o) (j : J (F.less o hM) k H) (ho : H o = some (.lst vs)) : J F k H := ⟨j.g, j.le, fun b hb => by
  by_cases e : b = o
  · subst e; exact lv_lst ho
  · exact j.al b ⟨hb, e⟩⟩
/-- the value is a scalar or of tuples alone -/
theorem we_lend (i : Nat) (hr : ρ[i]? = some (.own o xs)) (hno : (ρ.set i .un).all plainB = true) (h : ∀ hM : ¬ F.M o, WPE (F.less o hM) C e (ρ.set i (.d (.list xs))) k fun k1 d => tupOnly d = true ∧ Φ k1 d) : WPE F C e ρ k Φ := fun σ H Q en j q => by
  obtain ⟨hσ, hS, hM, h0, vs, hv, rv⟩ := en.own hr
  refine h hM σ H Q (env_lend i hM hr hno en) (j_lend hM j) fun v d k1 H1 l1 j1 r1 ⟨ht, p⟩ => ?_
  have ho : H1 o = some (.lst vs) := l1 o _ (Fm.mxA hM) hv
  have jb := j_back hM j1 ho
  exact q v d k1 H1 l1 jb ((Rep.tr d v r1 ht).rep jb.al) p
theorem wt_lend (i : Nat) (hr : ρ[i]? = some (.own o xs)) (hno : (ρ.set i .un).all plainB = true) (h : ∀ hM : ¬ F.M o, WPT (F.less o hM) C e (ρ.set i (.d (.list xs))) k Ψ) : WPT F C e ρ k Ψ := fun σ H Q en j q => by
  obtain ⟨hσ, hS, hM, h0, vs, hv, rv⟩ := en.own hr
  refine h hM σ H Q (env_lend i hM hr hno en) (j_lend hM j) fun b k1 H1 l1 j1 p => ?_
  have ho : H1 o = some (.lst vs) := l1 o _ (Fm.mxA hM) hv
  exact q b k1 H1 l1 (j_back hM j1 ho) p
theorem HasPi.less {Cl a dx : Addr} {mk : Pg → Nat} (h : HasPi F Cl a dx mk) (hM : ¬ F.M o) : HasPi (F.less o hM) Cl a dx mk := ⟨h.X, h.ma, h.md, h.get, h.put⟩
theorem HasDq.less {st q : Addr} {mk : Nat → Nat} (h : HasDq F st q mk) (hM : ¬ F.M o) : HasDq (F.less o hM) st q mk := ⟨h.ms, h.get, h.put⟩
end
end Dl

namespace Dl
open PySem PySem.Spec PyProof.Rows L2
section
variable {F : Fm} {C : Cs} {Cl a dx : Addr} {mk : Pg → Nat} {g : Pg} {ρ : Rho} {Φ : Nat → PyData → Prop} {pos p py : Pos} {y : Str} {Pre : Pg → List PyData → Prop} {R : Pg → List PyData → Pg → PyData → Prop} {j : Nat}
/-- len(y), y a deck -/
theorem we_plenO (pi : HasPi F Cl a dx mk) (hF : PiM C.P C.w C.K C.mg C.base Cl j "__len__" [] Pre R) (hl : j + 1 ≤ C.lvl) (hK : F.K = C.K) (i : Nat) (hN : C.N[i]? = some y) (hv : Vis C.sc y) (hr : ρ[i]? = some (.raw (.ref a))) (hg : C.sc.names.lookup ("len" : Str) = some .globalImplicit) (hm : C.mg ("len" : Str) = none)
    (hp : Pre g []) (h : ∀ g' d, R g [] g' d → ∃ n : Nat, d = .int n ∧ n < 1000000 ∧ Φ (mk g') (.int n))
    (hd : (y == ("__debug__" : Str)) = false := by decide) (hcd : (y == ("__classdict__" : Str)) = false := by decide) (hse : ∀ env : Env, starEach [.Name y py] env = (false, eval (.Name y py) env) :: starEach [] env := by intro _; rfl) :
    WPE F C (.Call (.Name "len" p) [.Name y py] [] pos) ρ (mk g) Φ := by
  obtain ⟨fa, fd, ps, ds, G, hmt, hb, hd2⟩ := hF.ex
  cases hd2
  refine of_pe (fun X fx => pe_callB (len_inst (by rw [fx.P, fx.w, fx.K, fx.mg, fx.base]; exact G) fx.gd (fx.room.mono hl) (by rw [fx.K]; exact hb) (C := Cl) (by rw [fx.K]; exact hmt.at_) (by rw [fx.K]; exact hmt.fn)) (by show X.env.scope.names.lookup ("len" : Str) = _; rw [fx.sc]; exact hg) (by rw [fx.mg]; exact hm) PySem.boot_len (pa_cons (pe_var (i := i) (by rw [fx.N]; exact hN) (by rw [fx.sc]; exact hv) hd hcd) pa_nil (hse X.env)) (by decide) (by decide) (hse X.env) rfl) fun σ H Q en jj q => ?_
  obtain ⟨s, t, dg⟩ := pi.get g H jj.g
  refine ⟨_, en.raw hr, a, dx, _, rfl, dg.ia, ?_⟩
  refine pi_step (vs := []) (ds := []) (Φ := fun k' d => ∃ n : Nat, d = .int n ∧ n < 1000000 ∧ Φ k' (.int n)) pi hK jj .nil hp h fun v d k' H' l' j' r' ⟨n, e, hn, p⟩ => ?_
  subst e
  cases r'
  exact ⟨n, rfl, hn, q _ _ k' H' l' j' (.int _) p⟩
/-- str(y), y a deck -/
theorem we_pstrO (pi : HasPi F Cl a dx mk) (hF : PiM C.P C.w C.K C.mg C.base Cl j "__str__" [] Pre R) (hl : j + 1 + 1 ≤ C.lvl) (hK : F.K = C.K) (i : Nat) (hN : C.N[i]? = some y) (hv : Vis C.sc y) (hr : ρ[i]? = some (.raw (.ref a))) (hg : C.sc.names.lookup ("str" : Str) = some .globalImplicit) (hm : C.mg ("str" : Str) = none)
    (hp : Pre g []) (h : ∀ g' d, R g [] g' d → ∃ x : Str, d = .str x ∧ Φ (mk g') (.str x))
    (hd : (y == ("__debug__" : Str)) = false := by decide) (hcd : (y == ("__classdict__" : Str)) = false := by decide) (hse : ∀ env : Env, starEach [.Name y py] env = (false, eval (.Name y py) env) :: starEach [] env := by intro _; rfl) :
    WPE F C (.Call (.Name "str" p) [.Name y py] [] pos) ρ (mk g) Φ := by
  obtain ⟨fa, fd, ps, ds, G, hmt, hb, hd2⟩ := hF.ex
  cases hd2
  refine of_pe (fun X fx => pe_callTy (T := "str") (str_inst (by rw [fx.P, fx.w, fx.K, fx.mg, fx.base]; exact G) fx.gd (fx.room.mono hl) (by rw [fx.K]; exact hb) (C := Cl) (by rw [fx.K]; exact hmt.at_) (by rw [fx.K]; exact hmt.fn)) (by show X.env.scope.names.lookup ("str" : Str) = _; rw [fx.sc]; exact hg) (by rw [fx.mg]; exact hm) (by decide +kernel) (pa_cons (pe_var (i := i) (by rw [fx.N]; exact hN) (by rw [fx.sc]; exact hv) hd hcd) pa_nil (hse X.env)) (by decide) (by decide) (hse X.env) rfl) fun σ H Q en jj q => ?_
  obtain ⟨s, t, dg⟩ := pi.get g H jj.g
  refine ⟨_, en.raw hr, a, dx, _, rfl, dg.ia, ?_⟩
  refine pi_step (vs := []) (ds := []) (Φ := fun k' d => ∃ x : Str, d = .str x ∧ Φ k' (.str x)) pi hK jj .nil hp h fun v d k' H' l' j' r' ⟨n, e, p⟩ => ?_
  subst e
  cases r'
  exact ⟨n, rfl, q _ _ k' H' l' j' (.str _) p⟩
end
end Dl

namespace Dl
open PySem PySem.Spec PyProof.Rows L2
/-! ### the frame of a law with decks -/
def drawFmX (K : PySem.W.Frag) (S : Addr → Prop) (H : Hp) (st a : Addr) (hS : ∀ b, DqM st a b → S b) : Fm where
  K := K
  S := S
  M := DqM st a
  H0 := H
  G := fun k H' => DqG st a k H' ∧ ∀ b o, ¬ DqM st a b → IsX o → H b = some o → ∃ o', IsX o' ∧ H' b = some o'
  ms := hS
  gm := fun k H' H2 g e hx => ⟨g.1.at e, fun b o nb x q => by
    obtain ⟨o', x', q'⟩ := g.2 b o nb x q
    exact ⟨o', x', hx b o' (.inl x') q'⟩⟩
  gl := fun k H g b hb => g.1.live b hb
  X := IsX
  xi := fun _ h => h
  xa := fun k H' g b o nb x q => g.2 b o nb x q
theorem drawFmX_has {K : PySem.W.Frag} {S : Addr → Prop} {H : Hp} {st a : Addr} {hS : ∀ b, DqM st a b → S b} : HasDq (drawFmX K S H st a hS) st a id where
  ms := fun b hb => hb
  get := fun n H g => g.1
  put := fun n n' H1 H2 g d keep => ⟨d, fun b o nb x q => by
    obtain ⟨o', x', q'⟩ := g.2 b o nb x q
    exact ⟨o', x', keep b o' nb q'⟩⟩
section
variable {P : Program} {w : World} {K : PySem.W.Frag} {mg : Str → Option Value} {base : Heap}
theorem lawQX_ok {qual : Str} {st : Stmt} {f : Addr} {fd : FuncData} {N : List Str} {k j : Nat} {xs xd xt : Str} {p1 p2 p3 p4 p5 : Pos} {rest : List Stmt} (Fn : Fun K "law" qual st f fd) (Sc : FnScope N [xs] (defScope st)) (hbody : defBody st = .Assign [.Name xt p1] (.Call (.Name xd p2) [.Name xs p3] [] p4) p5 :: rest)
    (gd : ∃ (fa : Addr) (fdd : FuncData), FnG P w K mg base j fa fdd [xs] (spDeck K) ∧ mg xd = some (.ref fa) ∧ PySem.W.keepIn K (.ref fa) = true ∧ L2.Binds K fdd [xs] []) (hj : j ≤ k)
    (h0 : N[0]? = some xs) (h1 : N[1]? = some xt) (vs : Vis (defScope st) xs) (lt : Loc (defScope st) xt) (gl : (defScope st).names.lookup xd = some .globalImplicit)
    (hsw : ∀ env : Env, swapsWith (.Call (.Name xd p2) [.Name xs p3] [] p4) (some (.Name xt p1)) p5.line env = pure false)
    (body : ∀ (F : Fm) (s a : Addr), HasDq F s a id → F.X = IsX → F.K = K → WPB F (bodyCs P w K mg base N (defScope st) k) rest (.un :: .raw (.ref s) :: List.replicate (N.length - 2) SV.un) 900000 { nx := fun _ _ => False, rt := fun _ d => d = .bool true, bk := fun _ _ => False, ct := fun _ _ => False })
    (hdb : (xd == ("__debug__" : Str)) = false := by decide) (hdb2 : (xs == ("__debug__" : Str)) = false := by decide) (hcd : (xs == ("__classdict__" : Str)) = false := by decide) : FnG P w K mg base (k + 1) f fd [xs] (spLaw K) := by
  obtain ⟨fa, fdd, G, hm, kp, hb⟩ := gd
  refine FnG.of_body Fn Sc (fun vs H Q E h => ?_) (fun cdv A outer s H vs Q hgd hr h => ?_)
  · obtain ⟨sc, ns, rfl, _⟩ := h
    rfl
  obtain ⟨sc, ns, rfl, hS, hlen, q⟩ := h
  have fx := fits_body (CX := CX0) (P := P) (w := w) (K := K) (mg := mg) (base := base) (N := N) (outer := outer) (s := s) (H := H) (E := E0) hgd hr
  rw [hbody]
  have hN0 : 2 ≤ N.length := by
    have := (List.getElem?_eq_some_iff.mp h1).1
    omega
  refine ⟨_, pss_cons (ps_set (i := 1) Sc.nd h1 lt (FnG.pe G hgd (hr.mono hj) hb gl hm kp (pa_cons (pe_var (i := 0) h0 vs hdb2 hcd) pa_nil) hdb rfl rfl) (hsw _) (.inl rfl)) (pbB fx), ?_⟩
  have est : L2.start N [.ref sc] = some (.ref sc) :: none :: List.replicate (N.length - 2) none := by
    unfold L2.start
    show some (V.ref sc) :: List.replicate (N.length - 1) none = _
    rw [show N.length - 1 = (N.length - 2) + 1 by omega]; rfl
  rw [est]
  refine ⟨.ref sc, rfl, sc, ns, rfl, hS, hlen, fun H' st a sm hst ha g => ?_⟩
  refine body (drawFmX K (DqM st a) H' st a (fun b hb => hb)) st a drawFmX_has rfl rfl (some (.ref sc) :: some (.ref st) :: List.replicate (N.length - 2) none) H' _ (fun i sv e => ?_) ⟨⟨g, fun b o _ x q => ⟨o, x, q⟩⟩, fun b o _ e => e, fun b hb => g.lv b hb⟩ ?_ ?_ ?_ ?_
  · match i, e with
    | 0, e => cases e; exact ⟨_, rfl, trivial⟩
    | 1, e => cases e; exact ⟨_, rfl, rfl⟩
    | i + 2, e =>
      have e' : (List.replicate (N.length - 2) SV.un)[i]? = some sv := e
      rw [List.getElem?_replicate] at e'
      by_cases hi : i < N.length - 2
      · rw [if_pos hi] at e'
        cases e'
        exact ⟨none, by show (List.replicate (N.length - 2) none)[i]? = _; rw [List.getElem?_replicate, if_pos hi], trivial⟩
      · rw [if_neg hi] at e'; cases e'
  · exact fun _ _ _ _ _ _ _ z => z.elim
  · exact fun v d k' H2 _ rv e => by subst e; cases rv; exact q H2
  · exact fun _ _ _ _ _ _ _ z => z.elim
  · exact fun _ _ _ _ _ _ _ z => z.elim
end
/-! ### *xs in a display; f-strings -/
section
variable {F : Fm} {C : Cs} {ρ : Rho} {k : Nat} {Φ : Nat → PyData → Prop} {Ψ : Nat → Bool → Prop} {e a : Expr} {es : List Expr} {pos p : Pos}
theorem wa_star {Φ : Nat → List PyData → Prop} (hK : F.K = C.K) (hs : ∀ env : Env, starEach (.Starred e p :: es) env = (true, eval e env) :: starEach es env) (h : WPE F C e ρ k fun k1 x => ∃ ds, seqD x = some ds ∧ WPA F C es ρ k1 fun k2 xs => Φ k2 (ds ++ xs)) : WPA F C (.Starred e p :: es) ρ k Φ :=
  of_pa (fun X fx => by have := StX.pa_star (p := p) (peE (e := e) fx) (paA (es := es) fx) (hs X.env); rw [fx.K] at this; exact this) fun σ H Q en j q => by
    show tE C e σ H _
    refine h σ H _ en j fun v x k1 H1 l1 j1 r1 ⟨ds, hx, hh⟩ => ?_
    cases r1 with
    | @lst a xs _ ha hr =>
      cases hx
      refine ⟨a, xs, rfl, .inr (hK ▸ sql_of ha), ?_⟩
      exact hh σ H1 _ (en.le l1) j1 fun vs ys k2 H2 l2 j2 r2 hp => q _ _ k2 H2 (l1.trans l2) j2 (RepAll.append (hr.le l2.lz) r2) hp
    | @tup a xs _ ha hr =>
      cases hx
      refine ⟨a, xs, rfl, .inl (hK ▸ sqt_of ha), ?_⟩
      exact hh σ H1 _ (en.le l1) j1 fun vs ys k2 H2 l2 j2 r2 hp => q _ _ k2 H2 (l1.trans l2) j2 (RepAll.append (hr.le l2.lz) r2) hp
    | _ => cases hx
def WJ (F : Fm) (C : Cs) (es : List Expr) (ρ : Rho) (k : Nat) (acc : Str) (Θ : Nat → Str → Prop) : Prop :=
  ∃ ts, (∀ X, Fits C X → PJ X es ts) ∧ ∀ (σ : L2.St) (H : Hp) (Q : Str → Hp → Prop), EnvOk F H σ ρ → J F k H → (∀ out k' H', Le F H H' → J F k' H' → Θ k' out → Q out H') → tJs ts acc σ H Q
theorem wj_nil {acc : Str} {Θ : Nat → Str → Prop} (h : Θ k acc) : WJ F C [] ρ k acc Θ := ⟨[], fun X fx => .nil, fun σ H Q en j q => q acc k H .refl j h⟩
theorem wj_str {acc x : Str} {jj : Nat} {Θ : Nat → Str → Prop} (hz : (acc ++ x).length ≤ 100000) (h : WJ F C es ρ k (acc ++ x) Θ) : WJ F C (.Constant (.str x) jj pos :: es) ρ k acc Θ := by
  obtain ⟨ts, h1, h2⟩ := h
  exact ⟨_, fun X fx => .cons pe_str (h1 X fx), fun σ H Q en j q => ⟨x, rfl, Nat.le_trans hz (by decide), h2 σ H Q en j q⟩⟩
theorem wj_int {acc : Str} {Θ : Nat → Str → Prop} {ts : List TE} (hts : ∀ X, Fits C X → PJ X es ts) (h : WPE F C e ρ k fun k1 d => ∃ i : Int, d = .int i ∧ i.natAbs < 10 ^ 30 ∧ (acc ++ (toString i : String)).length ≤ 100000 ∧ ∀ (σ : L2.St) (H : Hp) (Q : Str → Hp → Prop), EnvOk F H σ ρ → J F k1 H → (∀ out k' H', Le F H H' → J F k' H' → Θ k' out → Q out H') → tJs ts (acc ++ (toString i : String)) σ H Q) : WJ F C (.FormattedValue e (-1) none pos :: es) ρ k acc Θ :=
  ⟨_, fun X fx => .cons (pe_fmt (peE fx)) (hts X fx), fun σ H Q en j q => by
    show tE C e σ H _
    refine h σ H _ en j fun v d k1 H1 l1 j1 r1 ⟨i, ed, hi, hz, hh⟩ => ?_
    subst ed
    cases r1
    refine .inr ⟨i, rfl, ?_, ?_⟩
    · by_cases h0 : i.natAbs = 0
      · rw [h0]; decide
      · exact (Nat.log2_lt h0).mpr (Nat.lt_trans hi (by decide +kernel))
    · refine ⟨_, rfl, Nat.le_trans hz (by decide), ?_⟩
      exact hh σ H1 Q (en.le l1) j1 fun out k' H' l' j' p => q out k' H' (l1.trans l') j' p⟩
theorem we_joined {v1 v2 : Expr} {rest : List Expr} (h : WJ F C (v1 :: v2 :: rest) ρ k Str.empty fun k' out => Φ k' (.str out)) : WPE F C (.JoinedStr (v1 :: v2 :: rest) pos) ρ k Φ := by
  obtain ⟨ts, h1, h2⟩ := h
  exact of_pe (fun X fx => pe_joined (h1 X fx)) fun σ H Q en j q => h2 σ H _ en j fun out k' H' l j' p => q _ _ k' H' l j' (.str _) p
def jt (C : Cs) : Expr → TE
  | .Constant (.str x) _ _ => tC (.str x)
  | .FormattedValue e _ _ _ => tFmt (tE C e)
  | _ => fun _ _ _ => False
def isJ : Expr → Bool
  | .Constant (.str _) _ _ => true
  | .FormattedValue _ c none _ => decide (c = -1)
  | _ => false
theorem pj_of {X : Cx} (fx : Fits C X) : ∀ es : List Expr, es.all isJ = true → PJ X es (es.map (jt C))
  | [], _ => .nil
  | e :: es, h => by
    rw [List.all_cons, Bool.and_eq_true] at h
    refine .cons ?_ (pj_of fx es h.2)
    have h1 := h.1
    unfold isJ at h1
    split at h1
    · exact pe_str
    · have e1 := of_decide_eq_true h1
      subst e1
      exact pe_fmt (peE fx)
    · cases h1
def WKJ (F : Fm) (C : Cs) (es : List Expr) (ρ : Rho) (k : Nat) (acc : Str) (Θ : Nat → Str → Prop) : Prop :=
  ∀ (σ : L2.St) (H : Hp) (Q : Str → Hp → Prop), EnvOk F H σ ρ → J F k H → (∀ out k' H', Le F H H' → J F k' H' → Θ k' out → Q out H') → tJs (es.map (jt C)) acc σ H Q
theorem wkj_nil {acc : Str} {Θ : Nat → Str → Prop} (h : Θ k acc) : WKJ F C [] ρ k acc Θ := fun σ H Q en j q => q acc k H .refl j h
theorem wkj_str {acc x : Str} {jj : Nat} {Θ : Nat → Str → Prop} (hz : (acc ++ x).length ≤ 100000) (h : WKJ F C es ρ k (acc ++ x) Θ) : WKJ F C (.Constant (.str x) jj pos :: es) ρ k acc Θ :=
  fun σ H Q en j q => ⟨x, rfl, Nat.le_trans hz (by decide), h σ H Q en j q⟩
theorem wkj_int {acc : Str} {Θ : Nat → Str → Prop} (h : WPE F C e ρ k fun k1 d => ∃ i : Int, d = .int i ∧ i.natAbs < 10 ^ 30 ∧ (acc ++ (toString i : String)).length ≤ 100000 ∧ WKJ F C es ρ k1 (acc ++ (toString i : String)) Θ) : WKJ F C (.FormattedValue e (-1) none pos :: es) ρ k acc Θ :=
  fun σ H Q en j q => by
    show tE C e σ H _
    refine h σ H _ en j fun v d k1 H1 l1 j1 r1 ⟨i, ed, hi, hz, hh⟩ => ?_
    subst ed
    cases r1
    refine .inr ⟨i, rfl, ?_, ?_⟩
    · by_cases h0 : i.natAbs = 0
      · rw [h0]; decide
      · exact (Nat.log2_lt h0).mpr (Nat.lt_trans hi (by decide +kernel))
    · refine ⟨_, rfl, Nat.le_trans hz (by decide), ?_⟩
      exact hh σ H1 Q (en.le l1) j1 fun out k' H' l' j' p => q out k' H' (l1.trans l') j' p
theorem we_joinedK {v1 v2 : Expr} {rest : List Expr} (ok : (v1 :: v2 :: rest).all isJ = true) (h : WKJ F C (v1 :: v2 :: rest) ρ k Str.empty fun k' out => Φ k' (.str out)) : WPE F C (.JoinedStr (v1 :: v2 :: rest) pos) ρ k Φ :=
  of_pe (fun X fx => pe_joined (pj_of fx _ ok)) fun σ H Q en j q => h σ H _ en j fun out k' H' l j' p => q _ _ k' H' l j' (.str _) p
/-- x is not None -/
theorem wt_notN {jj : Nat} {p' : Pos} (h : WPE F C a ρ k fun k1 x => Ψ k1 (!isNone x)) : WPT F C (.Compare a [.IsNot] [.Constant .none jj p'] pos) ρ k Ψ :=
  of_pt (fun X fx => pt_cmp (pc_notN (peE fx)) rfl) fun σ H Q en j q => h σ H _ en j fun v d k1 H1 l1 j1 r p => by
    refine ⟨!isNone d, ?_, q _ k1 H1 l1 j1 p⟩
    rw [dec_non r]
end
end Dl

namespace Dl
open PySem PySem.Spec PyProof.Rows L2
/-! ### __init__ of a deck -/
def initFm (K : PySem.W.Frag) (S : Addr → Prop) (H0 : Hp) (C a dx : Addr) (d : Nat × List Int) : Fm where
  K := K
  S := fun b => S b ∨ b = a ∨ b = dx
  M := fun b => b = a ∨ b = dx
  H0 := H0
  G := fun k H => (k = 0 ∧ H a = some (.ins C dx []) ∧ H dx = some (.own a)) ∨ (k = 1 ∧ ∃ s t, PiG K C a dx s t ([d], []) H ∧ H0 s = none ∧ H0 t = none)
  ms := fun b h => .inr h
  gm := fun k H H' g hm hx => by
    rcases g with ⟨e, h1, h2⟩ | ⟨e, s, t, h, hs, ht⟩
    · exact .inl ⟨e, (hm a (.inl rfl)).trans h1, (hm dx (.inr rfl)).trans h2⟩
    · exact .inr ⟨e, s, t, h.at (hm a (.inl rfl)) (hm dx (.inr rfl)) hx, hs, ht⟩
  gl := fun k H g b hb => by
    rcases g with ⟨e, h1, h2⟩ | ⟨e, s, t, h, hs, ht⟩
    · rcases hb with rfl | rfl
      · rw [h1]; exact fun z => nomatch z
      · rw [h2]; exact fun z => nomatch z
    · rcases hb with rfl | rfl
      · rw [h.ia]; exact fun z => nomatch z
      · rw [h.id]; exact fun z => nomatch z
structure IsInit (F : Fm) (C a dx : Addr) (d : Nat × List Int) : Prop where
  ex : ∃ S H0, F = initFm F.K S H0 C a dx d
section
variable {P : Program} {w : World} {K : PySem.W.Frag} {mg : Str → Option Value} {base : Heap} {C : Addr}
theorem init_ok {x qual : Str} {st : Stmt} {f : Addr} {fd : FuncData} {N : List Str} {k : Nat} {x1 x2 : Str} {Ok : Nat × List Int → Prop} (Fn : Fun K x qual st f fd) (Sc : FnScope N [x1, x2] (defScope st))
    (body : ∀ (F : Fm) (a dx : Addr) (d : Nat × List Int), IsInit F C a dx d → F.K = K → Ok d → WPB F (bodyCs P w K mg base N (defScope st) k) (defBody st) (.raw (.ref a) :: ([boxP d].map SV.d ++ List.replicate (N.length - 2) SV.un)) 0 { nx := fun k' _ => k' = 1, rt := fun _ _ => False, bk := fun _ _ => False, ct := fun _ _ => False }) :
    FnG P w K mg base (k + 1) f fd [x1, x2] (spInit K C Ok) := by
  refine FnG.of_body Fn Sc (fun vs H Q E h => ?_) (fun cdv A outer s H vs Q hgd hr h => ?_)
  · obtain ⟨S, a, dx, v, d, rfl, _⟩ := h
    rfl
  · obtain ⟨S, a, dx, v, d, rfl, ha, hd, al, rv, ok, q⟩ := h
    refine ⟨_, pbB (fits_body hgd hr), ?_⟩
    have al2 : ∀ b, (S b ∨ b = a ∨ b = dx) → Lv H b := fun b hb => by
      rcases hb with hb | rfl | rfl
      · exact al b hb
      · exact ⟨_, ha, fun _ z => nomatch z⟩
      · exact ⟨_, hd, fun _ z => nomatch z⟩
    obtain ⟨va, rfl, rt⟩ := tr_box rv
    have r2 : RepAll K (fun b => S b ∨ b = a ∨ b = dx) H [.ref va] [boxP d] := .cons (rt.rep al2) .nil
    refine body (initFm K S H C a dx d) a dx d ⟨S, H, rfl⟩ rfl ok (L2.start N (.ref a :: [.ref va])) H _ (env_raw (F := initFm K S H C a dx d) r2) ⟨.inl ⟨rfl, ha, hd⟩, fun b o _ e => e, al2⟩ ?_ ?_ ?_ ?_
    · rintro ρ' σ' k' H' _ _ j' e
      have e : k' = 1 := e
      subst e
      rcases j'.g with ⟨e, _⟩ | ⟨_, s, t, pg, hs, ht⟩
      · cases e
      refine q s t H' (fun b o nb e => ?_) hs ht pg
      by_cases hb : b = dx
      · subst hb; rw [hd] at e; rw [pg.id]; exact e
      · exact j'.le b o (fun z => z.elim (fun z => z.elim nb hb) id) e
    · exact fun _ _ _ _ _ _ z => z.elim
    · exact fun _ _ _ _ _ _ _ z => z.elim
    · exact fun _ _ _ _ _ _ _ z => z.elim
end
section
variable {X : Cx}
/-- two lists come to rest, known to their owner alone -/
theorem pss_asExt {st : List Stmt} {t : TS} (h : PSs X st t) : PSs X st (fun D σ H => t { D with nx := fun σ' H' => ∃ (p q : Addr) (as bs : List Addr), H' p = some (.lst (as.map V.ref)) ∧ H' q = some (.lst (bs.map V.ref)) ∧ p ≠ q ∧ D.nx σ' (upd (upd H' p (extL p as)) q (extL q bs)) } σ H) := by
  refine ⟨fun pins s σ H D I hh => wpAny_mono (h.run pins s σ H _ I hh) ?_ fun _ _ z => z⟩
  intro f s' hs
  cases f with
  | next =>
    obtain ⟨σ', H', I', p, q, as, bs, hp, hq, hne, hn⟩ := hs
    exact ⟨σ', _, inv_asExt (inv_asExt I' hp) (by rw [upd_ne hne.symm]; exact hq), hn⟩
  | _ => exact hs
end
theorem psFld {C : Cs} {X : Cx} (fx : Fits C X) {o e : Expr} {f : Str} {ta tv : TE} {pos' pos : Pos} (ho : PE X o ta) (hv : PE X e tv) (hs : swapsWith e (some (.Attribute o f pos')) pos.line X.env = pure false) : PS X (.Assign [.Attribute o f pos'] e pos) (sFld C.K ta tv f) := by
  rw [← fx.K]; exact ps_fld ho hv hs
theorem putF_done {v x : V} : putF "done" v [(("states" : Str), x)] = [(("states" : Str), x), (("done" : Str), v)] := by
  unfold putF
  rw [if_neg (by decide +kernel)]
  rfl
section
variable {F : Fm} {C : Cs} {Cl a dx : Addr} {ρ : Rho} {P : DE} {y z : Str} {p1 p2 p3 p4 p5 p6 p7 p8 p9 : Pos} {d : Nat × List Int}
/-- self.states = [box]; self.done = [] -/
theorem wb_initEnd (pc : PiC C.K Cl) (ini : IsInit F Cl a dx d) (hK : F.K = C.K) (i j : Nat) (hN : C.N[i]? = some y) (hv : Vis C.sc y) (hr : ρ[i]? = some (.raw (.ref a))) (hN2 : C.N[j]? = some z) (hv2 : Vis C.sc z) (hr2 : ρ[j]? = some (.d (boxP d)))
    (hs1 : ∀ env : Env, swapsWith (.List [.Name z p3] p4) (some (.Attribute (.Name y p1) "states" p2)) p5.line env = pure false) (hs2 : ∀ env : Env, swapsWith (.List [] p8) (some (.Attribute (.Name y p6) "done" p7)) p9.line env = pure false)
    (h : P.nx 1 ρ) (hse : ∀ env : Env, starEach [.Name z p3] env = (false, eval (.Name z p3) env) :: starEach [] env := by intro _; rfl)
    (hd : (y == ("__debug__" : Str)) = false := by decide) (hcd : (y == ("__classdict__" : Str)) = false := by decide) (hd2 : (z == ("__debug__" : Str)) = false := by decide) (hcd2 : (z == ("__classdict__" : Str)) = false := by decide) :
    WPB F C [.Assign [.Attribute (.Name y p1) "states" p2] (.List [.Name z p3] p4) p5, .Assign [.Attribute (.Name y p6) "done" p7] (.List [] p8) p9] ρ 0 P :=
  of_pb (fun X fx => pss_asExt (pss_cons (psFld fx (pe_var (i := i) (by rw [fx.N]; exact hN) (by rw [fx.sc]; exact hv) hd hcd) (pe_lst (pa_cons (pe_var (i := j) (by rw [fx.N]; exact hN2) (by rw [fx.sc]; exact hv2) hd2 hcd2) pa_nil (hse X.env))) (hs1 X.env)) (pss_one (psFld fx (pe_var (i := i) (by rw [fx.N]; exact hN) (by rw [fx.sc]; exact hv) hd hcd) (pe_lst pa_nil) (hs2 X.env))))) fun σ H E en jj q1 q2 q3 q4 => by
    obtain ⟨S, H0, hF⟩ := ini.ex
    obtain ⟨K', hK'⟩ : ∃ K', K' = F.K := ⟨_, rfl⟩
    rw [← hK'] at hF hK
    subst hF
    rcases jj.g with ⟨_, ha, hdx⟩ | ⟨e, _⟩
    rotate_left
    · cases e
    obtain ⟨v, ev, rv⟩ := en.d hr2
    obtain ⟨va, rfl, rt⟩ := tr_box rv
    have ned : dx ≠ a := ne_of hdx ha (fun z => nomatch z)
    refine ⟨.ref va, ev, by show 1 ≤ sizeLine; decide, fun p hp => ?_⟩
    have npa : p ≠ a := (ne_of_none ha hp).symm
    have npd : p ≠ dx := (ne_of_none hdx hp).symm
    refine ⟨.ref a, en.raw hr, a, Cl, dx, [], rfl, by rw [upd_ne npa.symm]; exact ha, pc.cl, pc.ns, by decide, ?_⟩
    refine ⟨by show 0 ≤ sizeLine; decide, fun q hq => ?_⟩
    have nqa : q ≠ a := fun z => by rw [z, upd_same] at hq; cases hq
    rw [upd_ne nqa] at hq
    have nqp : q ≠ p := fun z => by rw [z, upd_same] at hq; cases hq
    rw [upd_ne nqp] at hq
    have nqd : q ≠ dx := (ne_of_none hdx hq).symm
    refine ⟨.ref a, en.raw hr, a, Cl, dx, [("states", .ref p)], rfl, by rw [upd_ne nqa.symm, upd_same]; rfl, pc.cl, pc.nd, by show 1 < 1000; decide, ?_⟩
    rw [putF_done]
    refine ⟨p, q, [va], [], by rw [upd_ne npa, upd_ne nqp.symm, upd_ne npa, upd_same]; rfl, by rw [upd_ne nqa, upd_same]; rfl, nqp.symm, ?_⟩
    generalize hH : upd (upd (upd (upd (upd (upd H p (.lst [.ref va])) a (.ins Cl dx (putF "states" (.ref p) []))) q (.lst [])) a (.ins Cl dx [("states", .ref p), ("done", .ref q)])) p (extL p [va])) q (extL q []) = H5
    have hk : ∀ b, b ≠ a → b ≠ p → b ≠ q → H5 b = H b := fun b h1 h2 h3 => by rw [← hH, upd_ne h3, upd_ne h2, upd_ne h1, upd_ne h3, upd_ne h1, upd_ne h2]
    have hka : H5 a = some (.ins Cl dx [("states", .ref p), ("done", .ref q)]) := by rw [← hH, upd_ne nqa.symm, upd_ne npa.symm, upd_same]
    have hkp : H5 p = some (extL p [va]) := by rw [← hH, upd_ne nqp.symm, upd_same]
    have hkq : H5 q = some (extL q []) := by rw [← hH, upd_same]
    have old : ∀ b o, b ≠ a → H b = some o → H5 b = some o := fun b o nb e => by rw [hk b nb (ne_of_none e hp) (ne_of_none e hq)]; exact e
    have pg : PiG K' Cl a dx p q ([d], []) H5 := ⟨hka, old dx _ ned hdx, nqp.symm, ⟨[va], hkp, .cons (rt.keep fun b xs e => old b _ (fun z => by rw [z, ha] at e; cases e) e) .nil⟩, ⟨[], hkq, .nil⟩, by show 1 ≤ 1000; decide, by show 0 ≤ 1000; decide⟩
    have hM : ∀ b, ¬ (initFm K' S H0 Cl a dx d).M b → b ≠ a := fun b z e => z (.inl e)
    have le : Le (initFm K' S H0 Cl a dx d) H H5 := fun b o n e => old b o (hM b fun z => n (.inl z)) e
    refine q1 ρ σ 1 H5 le.lz (en.le le) ⟨.inr ⟨rfl, p, q, pg, jj.h0 (fun z => z.elim npa npd) hp, jj.h0 (fun z => z.elim nqa nqd) hq⟩, fun b o n e => le b o n (jj.le b o n e), fun b hb => ?_⟩ h
    by_cases hba : b = a
    · subst hba; exact ⟨_, hka, fun _ z => nomatch z⟩
    · exact (jj.al b hb).keep fun o e => old b o hba e
end
end Dl

namespace Dl
open PySem PySem.Spec PyProof.Rows L2
theorem RpStrs {F : Fm} {H : Hp} : ∀ {bs : List Str} {vs : List V}, RpAll F H vs (bs.map PyData.str) → vs = bs.map V.str
  | [], _, h => by cases h; rfl
  | b :: bs, _, h => by
    cases h with
    | cons h1 h2 => cases h1; rw [RpStrs h2]; rfl
section
variable {F : Fm} {C : Cs} {Cl a dx : Addr} {mk : Pg → Nat} {g : Pg} {ρ : Rho} {k : Nat} {Φ : Nat → PyData → Prop} {e : Expr} {pos p py apos p1 : Pos} {x y m : Str} {Pre : Pg → List PyData → Prop} {R : Pg → List PyData → Pg → PyData → Prop} {j : Nat}
/-- y.m() of a deck, its one further parameter None by default -/
theorem we_pm0N (pi : HasPi F Cl a dx mk) (hF : PiM C.P C.w C.K C.mg C.base Cl j m [.non] Pre R) (hl : j ≤ C.lvl) (hK : F.K = C.K) (i : Nat) (hN : C.N[i]? = some y) (hv : Vis C.sc y) (hr : ρ[i]? = some (.raw (.ref a))) (hmn : m ≠ "states" ∧ m ≠ "done") (hp : Pre g [.none]) (h : ∀ g' d, R g [.none] g' d → Φ (mk g') d)
    (hd : (y == ("__debug__" : Str)) = false := by decide) (hcd : (y == ("__classdict__" : Str)) = false := by decide)
    {pl : Env → Sem Bool} (ht : ∀ env : Env, eval (.Call (.Attribute (.Name y py) m apos) [] [] pos) env = (do
      let ov ← eval (.Name y py) env
      standAt apos.atName
      let (f, first) ← holding [ov] (getMethod ov m (pl env))
      callWith pos f first (backTo pos (starEach [] env)) (backToKw pos (keywordEach [] env))) := by intro _; rfl) :
    WPE F C (.Call (.Attribute (.Name y py) m apos) [] [] pos) ρ (mk g) Φ := by
  obtain ⟨fa, fd, ps, ds, G, hm, hb, hd2⟩ := hF.ex
  refine of_pe (fun X fx => pe_methG0 (pl := pl X.env) (pe_var (i := i) (by rw [fx.N]; exact hN) (by rw [fx.sc]; exact hv) hd hcd) (by rw [fx.K]; exact hF.cl) (by rw [fx.K]; exact hm) (by rw [fx.P, fx.w, fx.K, fx.mg, fx.base]; exact G) fx.gd (fx.room.mono hl) (by rw [fx.K]; exact hb) hd2 (ht X.env)) fun σ H Q en jj q => ?_
  obtain ⟨s, t, dg⟩ := pi.get g H jj.g
  refine ⟨_, en.raw hr, a, dx, _, rfl, dg.ia, meth_none hmn, ?_⟩
  exact pi_step (vs := [.non]) (ds := [.none]) pi hK jj (.cons .non .nil) hp h q
/-- sep.join(texts), sep written -/
theorem we_joinS {sep : Str} {jj : Nat} (hbase : ∀ env : Env, attributeBase (.Constant (.str sep) jj p1) "join" env (eval (.Constant (.str sep) jj p1) env) = eval (.Constant (.str sep) jj p1) env) (hline : (apos.endLine == pos.line) = true) (hs : ∀ env : Env, starEach [e] env = [(false, eval e env)]) (hK : F.K = C.K)
    (h : WPE F C e ρ k fun k1 d => ∃ ys : List Str, seqD d = some (ys.map PyData.str) ∧ (ys.map (·.length)).sum + ys.length * sep.length ≤ 16777216 ∧ Φ k1 (.str (Txt.join sep ys))) : WPE F C (.Call (.Attribute (.Constant (.str sep) jj p1) "join" apos) [e] [] pos) ρ k Φ :=
  of_pe (t := tM1 (fun x xs H Q => ∃ a p, ∃ ys : List Str, x = .str a ∧ xs = [.ref p] ∧ (SqL C.K H p (ys.map V.str) ∨ SqT C.K H p (ys.map V.str)) ∧ (ys.map (·.length)).sum + ys.length * a.length ≤ 16777216 ∧ Q (.str (Txt.join a ys)) H) (tC (.str sep)) (tE C e)) (fun X fx => by rw [← fx.K]; exact pe_join pe_str (peE fx) (hs X.env) (hbase X.env) hline) fun σ H Q en j q => by
    refine ⟨⟨sep, rfl⟩, ?_⟩
    show tE C e σ H _
    refine h σ H _ en j fun v d k1 H1 l1 j1 r1 ⟨ys, hd, hz, hp⟩ => ?_
    cases r1 with
    | @lst b xs _ hb hr =>
      cases hd
      exact ⟨sep, b, ys, rfl, rfl, .inl (RpStrs hr ▸ hK ▸ sql_of hb), hz, q _ _ k1 H1 l1 j1 (.str _) hp⟩
    | @tup b xs _ hb hr =>
      cases hd
      exact ⟨sep, b, ys, rfl, rfl, .inr (RpStrs hr ▸ hK ▸ sqt_of hb), hz, q _ _ k1 H1 l1 j1 (.str _) hp⟩
    | _ => cases hd
/-- str(a number) -/
theorem we_strI (hg : C.sc.names.lookup ("str" : Str) = some .globalImplicit) (hm : C.mg ("str" : Str) = none) (hs : ∀ env : Env, starEach [e] env = (false, eval e env) :: starEach [] env) (h : WPE F C e ρ k fun k1 d => ∃ i : Int, d = .int i ∧ i.natAbs < 10 ^ 30 ∧ Φ k1 (.str (toString i : String))) : WPE F C (.Call (.Name "str" p) [e] [] pos) ρ k Φ :=
  we_callTy (T := "str") (fun X fx => call_str_int) hg hm (by decide +kernel) (wa_one hs (h.imp fun k1 x ⟨i, e, hi, p⟩ => fun H vs Q j r q => by
    subst e
    cases r with
    | cons r1 r2 =>
    cases r2
    cases r1
    refine ⟨i, rfl, ?_, q _ _ k1 H .refl j (.str _) p⟩
    by_cases h0 : i.natAbs = 0
    · rw [h0]; decide
    · exact (Nat.log2_lt h0).mpr (Nat.lt_trans hi (by decide +kernel)))) (by decide) (by decide) hs
end
theorem repAll_at {K : PySem.W.Frag} {S : Addr → Prop} {H : Hp} {vs : List V} {ds : List PyData} {i : Int} {d : PyData} (r : RepAll K S H vs ds) (h : atI ds i = some d) : ∃ v, atI vs i = some v ∧ Rep K S H v d := by
  have hl := r.length
  unfold atI at h ⊢
  rw [hl]
  cases e : ixN ds.length i with
  | none => rw [e] at h; cases h
  | some n => rw [e] at h; exact r.get h
theorem atI_last {α : Type} {xs : List α} {x : α} (h : xs.getLast? = some x) : atI xs (-1) = some x := by
  have hne : xs ≠ [] := fun z => by subst z; cases h
  have hl : 0 < xs.length := List.length_pos_iff.mpr hne
  unfold atI
  have e : ixN xs.length (-1) = some (xs.length - 1) := by
    unfold ixN
    rw [if_neg (by decide), if_pos (by omega)]
    congr 1; omega
  rw [e]
  show xs[xs.length - 1]? = _
  rw [← List.getLast?_eq_getElem?]; exact h
section
variable {F : Fm} {C : Cs} {ρ : Rho} {k : Nat} {Φ : Nat → PyData → Prop} {ie : Expr} {pos px : Pos} {x : Str}
/-- x[i], x the own list, i any number in bounds -/
theorem we_ixOwnZ (i : Nat) {ow : Addr} {xs : List PyData} (hK : F.K = C.K) (hN : C.N[i]? = some x) (hv : Vis C.sc x) (hr : ρ[i]? = some (.own ow xs)) (hs : PlainIx ie)
    (h : WPE F C ie ρ k fun k1 d => ∃ (j : Int) (z : PyData), d = .int j ∧ atI xs j = some z ∧ Φ k1 z) (hd : (x == ("__debug__" : Str)) = false := by decide) (hcd : (x == ("__classdict__" : Str)) = false := by decide) :
    WPE F C (.Subscript (.Name x px) ie pos) ρ k Φ :=
  of_pe (fun X fx => pe_ix (ixlK fx) (pe_var (i := i) (by rw [fx.N]; exact hN) (by rw [fx.sc]; exact hv) hd hcd) (peE fx) hs) fun σ H Q en j q => by
    obtain ⟨hσ, hS, hM, h0, vs, hv', rv⟩ := en.own hr
    refine ⟨_, hσ, ?_⟩
    show tE C ie σ H _
    refine h σ H _ en j fun v d k1 H1 l1 j1 r ⟨jj, z, ed, ha, p⟩ => ?_
    subst ed
    cases r
    obtain ⟨v, hat, ry⟩ := repAll_at rv ha
    exact ⟨ow, vs, _, v, rfl, rfl, SqL.of (l1 ow _ (Fm.mxA hM) hv'), hat, q _ _ k1 H1 l1 j1 (ry.le l1.lz) p⟩
end
end Dl

namespace Dl
open PySem PySem.Spec PyProof.Rows L2
section
variable {F : Fm} {C : Cs} {ρ : Rho} {k : Nat} {P : DE} {pos p pl p1 p2 p4 pt : Pos} {e1 : Expr} {x1 x2 : Str} {kk kt : Nat} {rest : List Stmt}
/-- x, y = e, [], both plain names, the second an own list -/
theorem wb_ownE2 (i1 i2 : Nat) (h12 : i1 ≠ i2) (t1 : Tgt C i1 x1) (t2 : Tgt C i2 x2) (hl1 : C.sc.names.lookup x1 = some .local) (hl2 : C.sc.names.lookup x2 = some .local)
    (he1 : ∀ env : Env, starEach [e1, .List [] pl] env = (false, eval e1 env) :: starEach [.List [] pl] env) (he2 : ∀ env : Env, starEach [.List [] pl] env = (false, eval (.List [] pl) env) :: starEach [] env)
    (hs : ∀ env : Env, swapsWithSole [.Tuple [.Name x1 p1, .Name x2 p2] kk p4] (.Tuple [e1, .List [] pl] kt pt) pos.line env = pure false)
    (hw : ∀ env : Env, env.scope = C.sc → swappedStores [.Tuple [.Name x1 p1, .Name x2 p2] kk p4] (.Tuple [e1, .List [] pl] kt pt) env = pure (some [x1, x2]))
    (h : WPE F C e1 ρ k fun k1 d => ∀ o, WPB (F.ext o) C rest ((ρ.set i1 (.d d)).set i2 (.own o [])) k1 { nx := fun _ _ => False, rt := P.rt, bk := fun _ _ => False, ct := fun _ _ => False }) :
    WPB F C (.Assign [.Tuple [.Name x1 p1, .Name x2 p2] kk p4] (.Tuple [e1, .List [] pl] kt pt) pos :: rest) ρ k P :=
  of_pb (fun X fx => pss_cons (ps_par fx.calm (by rw [fx.N]; exact t1.hN) (by rw [fx.N]; exact t1.hi) (by rw [fx.N]; exact t2.hi) h12 (by rw [fx.sc]; exact hl1) (by rw [fx.sc]; exact hl2)
      (pa_cons (peE fx) (pa_cons (pe_lst pa_nil) pa_nil (he2 X.env)) (he1 X.env)) (hw X.env fx.sc) (hs X.env)) (pbB fx)) fun σ H E en j q1 q2 q3 q4 => by
    show tE C e1 σ H _
    refine h σ H _ en j fun v d k1 H1 l1 j1 r p => ?_
    refine ⟨Nat.zero_le _, fun o no => ?_⟩
    have hM : ¬ F.M o := fun z => F.gl _ _ j1.g o z no
    have h0 : F.H0 o = none := j1.h0 hM no
    have en1 : EnvOk (F.ext o) (upd H1 o (.lst [])) σ ρ := (en.le l1).ext no
    have jo : J (F.ext o) k1 (upd H1 o (.lst [])) := (j1.new no).ext (lv_new fun _ z => nomatch z)
    have en4 : EnvOk (F.ext o) (upd H1 o (.lst [])) ((σ.set i1 (some v)).set i2 (some (.ref o))) ((ρ.set i1 (.d d)).set i2 (.own o [])) :=
      (en1.set (sv := .d d) ⟨v, rfl, r.ext no⟩).set (sv := .own o []) ⟨rfl, .inr rfl, hM, h0, [], upd_same, .nil⟩
    refine ⟨v, .ref o, rfl, ?_⟩
    refine p o _ _ E en4 jo ?_ ?_ ?_ ?_
    · exact fun _ _ _ _ _ _ _ z => z.elim
    · exact fun v d k' H' j' r' p => q2 v d k' H' j'.unext r'.unext p
    · exact fun _ _ _ _ _ _ _ z => z.elim
    · exact fun _ _ _ _ _ _ _ z => z.elim
end
end Dl

namespace Dl
open PySem PySem.Spec PyProof.Rows L2
section
variable {X : Cx} {x m q : Str} {p pos apos kpos : Pos} {o e : Expr} {ta te : TE} {k : Nat} {f C : Addr} {fd : FuncData} {ps : List Str} {sp : Sp}
theorem FnG.call_runN {pins : List (Addr × Obj)} {σ : L2.St} {H : Hp} {s : Shared} {Q : VK} {us ws : List Value} {vs zs : List V} {n : Nat} {ks : List Str} (G : FnG X.prog X.w X.K X.mg X.base k f fd ps sp) (gd : X.A.guards = some []) (room : Room k X.A) (hb : KBn X.K fd ps n ks (fun a b => a ++ b) (fun a b => a ++ b))
    (I : Inv X pins σ H s) (r : Vals vs us) (rz : Vals zs ws) (l1 : vs.length = n) (l2 : zs.length = ks.length) (h : sp (vs ++ zs) H Q E0) : wpAny (model X.prog X.w) X.A (call (.ref f) us (ks.zip ws)) (EP X pins σ Q) X.xe s := by
  have r2 : Vals (vs ++ zs) (us ++ ws) := r.append rz
  have bind := hb.to s us ws I.kIn (r.length.symm.trans l1) (rz.length.symm.trans l2)
  refine wpAny_call (codeAny_mono (G.run X.A X.stack s H ⟨us, ks.zip ws⟩ (us ++ ws) (vs ++ zs) Q gd room I.env0 bind r2 h) ?_)
  intro res s' hr
  match res, hr with
  | .ok (.ret u), hr => exact I.after hr
  | .ok .next, hr => exact False.elim hr
  | .ok .brk, hr => exact False.elim hr
  | .ok .cont, hr => exact False.elim hr
  | .error _, hr => exact False.elim hr
def tMethK (C : Addr) (m : Str) (sp : Sp) (ta te : TE) : TE := fun σ H Q => ta σ H fun x H1 => ∃ a dx fs, x = .ref a ∧ H1 a = some (.ins C dx fs) ∧ fs.lookup m = none ∧
  te σ H1 fun z H2 => [z].length = 1 ∧ sp [x, z] H2 Q E0
/-- o.m(q=e) -/
theorem pe_methGK {pl : Sem Bool} (he : PE X o ta) (c : Cls X.K C) (hm : Meth X.K C m f) (G : FnG X.prog X.w X.K X.mg X.base k f fd ps sp) (gd : X.A.guards = some []) (room : Room k X.A) (hb : KBn X.K fd ps 1 [q] (fun a b => a ++ b) (fun a b => a ++ b)) (hk : PE X e te)
    (ht : eval (.Call (.Attribute o m apos) [] [⟨some q, e, kpos⟩] pos) X.env = (do
      let ov ← eval o X.env
      standAt apos.atName
      let (f, first) ← holding [ov] (getMethod ov m pl)
      callWith pos f first (backTo pos (starEach [] X.env)) (backToKw pos (keywordEach [⟨some q, e, kpos⟩] X.env))))
    (hall : (backToKw pos (keywordEach [⟨some q, e, kpos⟩] X.env)).all (·.1.isSome) = true) (hks : (backToKw pos (keywordEach [⟨some q, e, kpos⟩] X.env)).filterMap (·.1) = [q])
    (hpl : ((backTo pos (starEach [] X.env)).any (·.1) || (backToKw pos (keywordEach [⟨some q, e, kpos⟩] X.env)).any (·.1.isNone)) = false) :
    PE X (.Call (.Attribute o m apos) [] [⟨some q, e, kpos⟩] pos) (tMethK C m sp ta te) := by
  refine ⟨fun pins s σ H Q I h => ?_⟩
  refine PySem.W.methodCall_KW (pl := pl) (thn (he.run pins s σ H _ I h) fun u s1 ⟨x, H1, I1, rx, a, dx, fs, ex, ea, l, q1⟩ => ?_) ht
  subst ex
  obtain rfl : u = Value.ref a := rx
  refine getmeth_ok I1 ea c hm l ?_
  refine PySem.W.callWith_KW0 (first := [.ref a]) I1.kIn hm.kp hall (thn ((pk_cons (nm := some q) (kpos := kpos) hk pk_nil).run pos pins s1 σ H1 (fun zs H2 => zs.length = 1 ∧ sp (.ref a :: zs) H2 Q E0) I1 ?_) fun ws s2 ⟨zs, H2, I2, rz, lz, q2⟩ => ⟨I2.kIn, ?_⟩) hpl
  · show te σ H1 fun z H2 => [z].length = 1 ∧ sp [.ref a, z] H2 Q E0
    exact q1
  rw [hks]
  exact FnG.call_runN (us := [.ref a]) (vs := [.ref a]) G gd room hb I2 (.cons rfl .nil) rz rfl lz q2
end
/-- a method of decks whose one keyword-only parameter is given -/
structure PiK (P : Program) (w : World) (K : PySem.W.Frag) (mg : Str → Option Value) (base : Heap) (C : Addr) (lvl : Nat) (m q : Str) (Pre : Pg → List PyData → Prop) (R : Pg → List PyData → Pg → PyData → Prop) : Prop where
  cl : Cls K C
  ex : ∃ (fa : Addr) (fd : FuncData) (ps : List Str), FnG P w K mg base lvl fa fd ps (spPi K C Pre R) ∧ Meth K C m fa ∧ KBn K fd ps 1 [q] (fun a b => a ++ b) (fun a b => a ++ b)
section
variable {F : Fm} {C : Cs} {Cl a dx : Addr} {mk : Pg → Nat} {g : Pg} {ρ : Rho} {k : Nat} {Φ : Nat → PyData → Prop} {e : Expr} {pos py apos kpos : Pos} {y m q : Str} {Pre : Pg → List PyData → Prop} {R : Pg → List PyData → Pg → PyData → Prop} {j : Nat}
/-- y.m(q=e) of a deck -/
theorem we_pmK (pi : HasPi F Cl a dx mk) (hF : PiK C.P C.w C.K C.mg C.base Cl j m q Pre R) (hl : j ≤ C.lvl) (hK : F.K = C.K) (i : Nat) (hN : C.N[i]? = some y) (hv : Vis C.sc y) (hr : ρ[i]? = some (.raw (.ref a))) (hmn : m ≠ "states" ∧ m ≠ "done")
    (h : WPE F C e ρ (mk g) fun k1 d => ∃ mk1 g1, HasPi F Cl a dx mk1 ∧ k1 = mk1 g1 ∧ Pre g1 [d] ∧ ∀ g' d', R g1 [d] g' d' → Φ (mk1 g') d')
    (hd : (y == ("__debug__" : Str)) = false := by decide) (hcd : (y == ("__classdict__" : Str)) = false := by decide)
    {pl : Env → Sem Bool} (ht : ∀ env : Env, eval (.Call (.Attribute (.Name y py) m apos) [] [⟨some q, e, kpos⟩] pos) env = (do
      let ov ← eval (.Name y py) env
      standAt apos.atName
      let (f, first) ← holding [ov] (getMethod ov m (pl env))
      callWith pos f first (backTo pos (starEach [] env)) (backToKw pos (keywordEach [⟨some q, e, kpos⟩] env))) := by intro _; rfl)
    (hall : ∀ env : Env, (backToKw pos (keywordEach [⟨some q, e, kpos⟩] env)).all (·.1.isSome) = true := by intro _; rfl) (hks : ∀ env : Env, (backToKw pos (keywordEach [⟨some q, e, kpos⟩] env)).filterMap (·.1) = [q] := by intro _; rfl)
    (hpl : ∀ env : Env, ((backTo pos (starEach [] env)).any (·.1) || (backToKw pos (keywordEach [⟨some q, e, kpos⟩] env)).any (·.1.isNone)) = false := by intro _; rfl) :
    WPE F C (.Call (.Attribute (.Name y py) m apos) [] [⟨some q, e, kpos⟩] pos) ρ (mk g) Φ := by
  obtain ⟨fa, fd, ps, G, hm, hb⟩ := hF.ex
  refine of_pe (fun X fx => pe_methGK (pl := pl X.env) (pe_var (i := i) (by rw [fx.N]; exact hN) (by rw [fx.sc]; exact hv) hd hcd) (by rw [fx.K]; exact hF.cl) (by rw [fx.K]; exact hm) (by rw [fx.P, fx.w, fx.K, fx.mg, fx.base]; exact G) fx.gd (fx.room.mono hl) (by rw [fx.K]; exact hb) (peE fx) (ht X.env) (hall X.env) (hks X.env) (hpl X.env)) fun σ H Q en jj q => ?_
  obtain ⟨s, t, dg⟩ := pi.get g H jj.g
  refine ⟨_, en.raw hr, a, dx, _, rfl, dg.ia, meth_none hmn, ?_⟩
  show tE C e σ H _
  refine h σ H _ en jj fun v d k1 H1 l1 j1 r1 ⟨mk1, g1, pi1, e1, hp, hq⟩ => ⟨rfl, ?_⟩
  subst e1
  exact pi_step (vs := [v]) (ds := [d]) pi1 hK j1 (.cons r1 .nil) hp hq fun v d k' H' l' j' r' p => q v d k' H' (l1.trans l') j' r' p
end
end Dl

namespace Dl
open PySem PySem.Spec PyProof.Rows L2
/-! ### a deck's lists cut -/
section
variable {X : Cx}
theorem ps_asExt1 {st : Stmt} {t : TS} (h : PS X st t) : PS X st (fun D σ H => t { D with nx := fun σ' H' => ∃ (p : Addr) (as : List Addr), H' p = some (.lst (as.map V.ref)) ∧ D.nx σ' (upd H' p (extL p as)) } σ H) := by
  refine ⟨fun pins s σ H D I hh => wpAny_mono (h.run pins s σ H _ I hh) ?_ fun _ _ z => z⟩
  intro f s' hs
  cases f with
  | next =>
    obtain ⟨σ', H', I', p, as, hp, hn⟩ := hs
    exact ⟨σ', _, inv_asExt I' hp, hn⟩
  | _ => exact hs
end
theorem cutV_refs (as : List Addr) (m : Nat) : cutV (as.map V.ref) none (some (m : Int)) = (as.take m).map V.ref := by
  unfold cutV
  rw [HT.sIx_nat, HT.sIx_none, List.drop_zero, Nat.sub_zero, List.map_take, List.take_eq_take_iff]
  omega
theorem putF_st {v x y : V} : putF "states" v [(("states" : Str), x), (("done" : Str), y)] = [(("states" : Str), v), (("done" : Str), y)] := by
  unfold putF
  rw [if_pos rfl]
theorem putF_dn {v x y : V} : putF "done" v [(("states" : Str), x), (("done" : Str), y)] = [(("states" : Str), x), (("done" : Str), v)] := by
  unfold putF
  rw [if_neg (by decide +kernel)]
  unfold putF
  rw [if_pos rfl]
section
variable {F : Fm} {C : Cs} {Cl a dx : Addr} {mk : Pg → Nat} {g : Pg} {ρ : Rho} {e : Expr} {pos p1 p2 p3 p4 p5 p6 : Pos} {y : Str} {P : DE}
/-- y.states = y.states[:e] -/
theorem ws_pcutS (pc : PiC C.K Cl) (pi : HasPi F Cl a dx mk) (hK : F.K = C.K) (i : Nat) (hN : C.N[i]? = some y) (hv : Vis C.sc y) (hr : ρ[i]? = some (.raw (.ref a)))
    (h : WNo F (tE C e) ρ (mk g) fun z => ∃ m : Nat, z = .int (m : Int) ∧ P.nx (mk (g.1.take m, g.2)) ρ)
    (hs : ∀ env : Env, swapsWith (.Subscript (.Attribute (.Name y p1) "states" p2) (.Slice none (some e) none p3) p4) (some (.Attribute (.Name y p6) "states" p5)) pos.line env = pure false := by intro _; rfl)
    (hd : (y == ("__debug__" : Str)) = false := by decide) (hcd : (y == ("__classdict__" : Str)) = false := by decide) (hb : ∀ env : Env, attributeBase (.Name y p1) "states" env (eval (.Name y p1) env) = eval (.Name y p1) env := by intro _; rfl) :
    WPS F C (.Assign [.Attribute (.Name y p6) "states" p5] (.Subscript (.Attribute (.Name y p1) "states" p2) (.Slice none (some e) none p3) p4) pos) ρ (mk g) P :=
  of_ps (fun X fx => ps_asExt1 (psFld fx (pe_var (i := i) (by rw [fx.N]; exact hN) (by rw [fx.sc]; exact hv) hd hcd) (pe_slice sl_ext (peFldN i fx hN hv hd hcd hb) po_none (po_some (peE fx))) (hs X.env))) fun σ H E en j q1 _ _ _ => by
    obtain ⟨s, t, dg⟩ := pi.get g H j.g
    refine ⟨_, en.raw hr, a, Cl, dx, _, _, rfl, dg.ia, pc.cl, pc.ns, lk_states, ?_⟩
    show tE C e σ H _
    refine h σ H _ en j fun v z H2 l2 j2 r2 ⟨m, ez, p⟩ => ?_
    subst ez
    cases r2
    have dg2 := dg.same l2
    obtain ⟨as, x1, x2, x3, x4⟩ := dg2.xs
    refine ⟨(m : Int), rfl, s, as, rfl, x1, fun l hl => ?_⟩
    have nla : l ≠ a := (ne_of_none dg2.ia hl).symm
    have nld : l ≠ dx := (ne_of_none dg2.id hl).symm
    refine ⟨.ref a, (en.le (same_le l2)).raw hr, a, Cl, dx, _, rfl, by rw [upd_ne nla.symm]; exact dg2.ia, pc.cl, pc.ns, by show 2 < 1000; decide, ?_⟩
    rw [putF_st, cutV_refs]
    refine ⟨l, as.take m, by rw [upd_ne nla, upd_same], ?_⟩
    generalize hH : upd (upd (upd H2 l (.lst ((as.take m).map V.ref))) a (.ins Cl dx [("states", .ref l), ("done", .ref t)])) l (extL l (as.take m)) = H5
    have hk : ∀ b, b ≠ a → b ≠ l → H5 b = H2 b := fun b h1 h2 => by rw [← hH, upd_ne h2, upd_ne h1, upd_ne h2]
    have old : ∀ b o, b ≠ a → H2 b = some o → H5 b = some o := fun b o nb e => by rw [hk b nb (ne_of_none e hl)]; exact e
    have oldT : ∀ b xs, H2 b = some (.tup xs) → H5 b = some (.tup xs) := fun b xs e => old b _ (fun z => by rw [z, dg2.ia] at e; cases e) e
    obtain ⟨bs, y1, y2, y3, y4⟩ := dg2.xt
    have x2' : TRs F.K H2 ((as.take m).map V.ref) ((g.1.take m).map boxP) := by
      rw [List.map_take, List.map_take]
      exact RepAll.take m x2
    have dg' : PiG F.K Cl a dx l t (g.1.take m, g.2) H5 := ⟨by rw [← hH, upd_ne nla.symm, upd_same], old dx _ (fun z => by have q := dg2.id; rw [z, dg2.ia] at q; cases q) dg2.id, ne_of_none y1 hl |>.symm, ⟨as.take m, by rw [← hH, upd_same], x2'.keep oldT⟩, ⟨bs, old t _ (fun z => by have q := y1; rw [z, dg2.ia] at q; unfold extL at q; cases q) y1, y2.keep oldT⟩, Nat.le_trans (by show (g.1.take m).length ≤ g.1.length; rw [List.length_take]; omega) dg.ls, dg.lt⟩
    obtain ⟨le, j3⟩ := pi_move pi j2 dg2 (fun b o n1 _ _ _ q => old b o n1 q) (fun y o x q => ⟨o, x, old y o (fun z => by rw [z, dg2.ia] at q; cases q; exact nx_ins x) q⟩) dg' (.inr hl) (.inl rfl)
    exact q1 ρ σ _ _ ((same_le l2).lz.trans le.lz) ((en.le (same_le l2)).le le) j3 p
/-- y.done = y.done[:e] -/
theorem ws_pcutD (pc : PiC C.K Cl) (pi : HasPi F Cl a dx mk) (hK : F.K = C.K) (i : Nat) (hN : C.N[i]? = some y) (hv : Vis C.sc y) (hr : ρ[i]? = some (.raw (.ref a)))
    (h : WNo F (tE C e) ρ (mk g) fun z => ∃ m : Nat, z = .int (m : Int) ∧ P.nx (mk (g.1, g.2.take m)) ρ)
    (hs : ∀ env : Env, swapsWith (.Subscript (.Attribute (.Name y p1) "done" p2) (.Slice none (some e) none p3) p4) (some (.Attribute (.Name y p6) "done" p5)) pos.line env = pure false := by intro _; rfl)
    (hd : (y == ("__debug__" : Str)) = false := by decide) (hcd : (y == ("__classdict__" : Str)) = false := by decide) (hb : ∀ env : Env, attributeBase (.Name y p1) "done" env (eval (.Name y p1) env) = eval (.Name y p1) env := by intro _; rfl) :
    WPS F C (.Assign [.Attribute (.Name y p6) "done" p5] (.Subscript (.Attribute (.Name y p1) "done" p2) (.Slice none (some e) none p3) p4) pos) ρ (mk g) P :=
  of_ps (fun X fx => ps_asExt1 (psFld fx (pe_var (i := i) (by rw [fx.N]; exact hN) (by rw [fx.sc]; exact hv) hd hcd) (pe_slice sl_ext (peFldN i fx hN hv hd hcd hb) po_none (po_some (peE fx))) (hs X.env))) fun σ H E en j q1 _ _ _ => by
    obtain ⟨s, t, dg⟩ := pi.get g H j.g
    refine ⟨_, en.raw hr, a, Cl, dx, _, _, rfl, dg.ia, pc.cl, pc.nd, lk_done, ?_⟩
    show tE C e σ H _
    refine h σ H _ en j fun v z H2 l2 j2 r2 ⟨m, ez, p⟩ => ?_
    subst ez
    cases r2
    have dg2 := dg.same l2
    obtain ⟨as, x1, x2, x3, x4⟩ := dg2.xt
    refine ⟨(m : Int), rfl, t, as, rfl, x1, fun l hl => ?_⟩
    have nla : l ≠ a := (ne_of_none dg2.ia hl).symm
    have nld : l ≠ dx := (ne_of_none dg2.id hl).symm
    refine ⟨.ref a, (en.le (same_le l2)).raw hr, a, Cl, dx, _, rfl, by rw [upd_ne nla.symm]; exact dg2.ia, pc.cl, pc.nd, by show 2 < 1000; decide, ?_⟩
    rw [putF_dn, cutV_refs]
    refine ⟨l, as.take m, by rw [upd_ne nla, upd_same], ?_⟩
    generalize hH : upd (upd (upd H2 l (.lst ((as.take m).map V.ref))) a (.ins Cl dx [("states", .ref s), ("done", .ref l)])) l (extL l (as.take m)) = H5
    have hk : ∀ b, b ≠ a → b ≠ l → H5 b = H2 b := fun b h1 h2 => by rw [← hH, upd_ne h2, upd_ne h1, upd_ne h2]
    have old : ∀ b o, b ≠ a → H2 b = some o → H5 b = some o := fun b o nb e => by rw [hk b nb (ne_of_none e hl)]; exact e
    have oldT : ∀ b xs, H2 b = some (.tup xs) → H5 b = some (.tup xs) := fun b xs e => old b _ (fun z => by rw [z, dg2.ia] at e; cases e) e
    obtain ⟨bs, y1, y2, y3, y4⟩ := dg2.xs
    have x2' : TRs F.K H2 ((as.take m).map V.ref) ((g.2.take m).map edP) := by
      rw [List.map_take, List.map_take]
      exact RepAll.take m x2
    have dg' : PiG F.K Cl a dx s l (g.1, g.2.take m) H5 := ⟨by rw [← hH, upd_ne nla.symm, upd_same], old dx _ (fun z => by have q := dg2.id; rw [z, dg2.ia] at q; cases q) dg2.id, ne_of_none y1 hl, ⟨bs, old s _ (fun z => by have q := y1; rw [z, dg2.ia] at q; unfold extL at q; cases q) y1, y2.keep oldT⟩, ⟨as.take m, by rw [← hH, upd_same], x2'.keep oldT⟩, dg.ls, Nat.le_trans (by show (g.2.take m).length ≤ g.2.length; rw [List.length_take]; omega) dg.lt⟩
    obtain ⟨le, j3⟩ := pi_move pi j2 dg2 (fun b o n1 _ _ _ q => old b o n1 q) (fun y o x q => ⟨o, x, old y o (fun z => by rw [z, dg2.ia] at q; cases q; exact nx_ins x) q⟩) dg' (.inl rfl) (.inr hl)
    exact q1 ρ σ _ _ ((same_le l2).lz.trans le.lz) ((en.le (same_le l2)).le le) j3 p
end
end Dl

namespace Dl
open PySem PySem.Spec PyProof.Rows L2
section
variable {F : Fm} {C : Cs} {ρ : Rho} {k : Nat} {Φ : Nat → PyData → Prop} {pos p p2 : Pos} {pos' : Pos} {a b c e : Expr} {P : DE}
/-- for x in range(a, b, -1) -/
theorem ws_for_down (i : Nat) {x : Str} {px : Pos} {body : List Stmt} (t : Tgt C i x) (hg : C.sc.names.lookup ("range" : Str) = some .globalImplicit) (hm : C.mg ("range" : Str) = none)
    (hse : ∀ env : Env, starEach [a, b, c] env = (false, eval a env) :: starEach [b, c] env) (hse2 : ∀ env : Env, starEach [b, c] env = (false, eval b env) :: starEach [c] env) (hse3 : ∀ env : Env, starEach [c] env = (false, eval c env) :: starEach [] env)
    (hpl : ∀ env : Env, (backTo pos' (starEach [b, c] env)).any (·.1) = false) (hfs : ∀ (env : Env) (v : Value), foldedSetIterable (.Call (.Name "range" p) [a, b, c] [] pos') env v = pure v)
    (h : WPA F C [a, b, c] ρ k fun k1 ds => ∃ (I : Nat → Nat → Rho → Prop) (lo hi : Int), ds = [.int lo, .int hi, .int (-1)] ∧ -(2 ^ 62) ≤ lo ∧ lo < 2 ^ 62 ∧ -(2 ^ 62) ≤ hi ∧ hi < 2 ^ 62 ∧ I 0 k1 ρ ∧ (∀ (j : Nat) k' ρ', j < (lo - hi).toNat → I j k' ρ' → WPB F C body (ρ'.set i (.d (.int (lo - j)))) k' (P.loop (I (j + 1)))) ∧ (∀ k' ρ', I (lo - hi).toNat k' ρ' → P.nx k' ρ')) :
    WPS F C (.For (.Name x px) (.Call (.Name "range" p) [a, b, c] [] pos') body [] pos) ρ k P :=
  of_ps (fun X fx => ps_for (by rw [fx.xe]; exact PassesOwn.never) fx.calm (pi_range3 (by show X.env.scope.names.lookup ("range" : Str) = _; rw [fx.sc]; exact hg) (by rw [fx.mg]; exact hm) (paA fx) (hse X.env) (hpl X.env)) (t.pg fx) (pbB fx) (hfs X.env)) fun σ H E en j q1 q2 q3 q4 => by
    show tA C [a, b, c] σ H _
    refine h σ H _ en j fun vs ds k1 H1 l1 j1 r hh => ?_
    obtain ⟨I, lo, hi, e, z1, z2, z3, z4, i0, hstep, hend⟩ := hh
    subst e
    have ev : vs = [.int lo, .int hi, .int (-1)] := RepAll.ints (ns := [lo, hi, -1]) r
    subst ev
    refine ⟨lo, hi, -1, (lo - hi).toNat, rfl, RgC.neg z1 z2 z3 z4, ?_⟩
    refine for_rangeC (lo := lo) (c := -1) (n := (lo - hi).toNat) (fun n σ' H' => ∃ k' ρ', EnvOk F H' σ' ρ' ∧ J F k' H' ∧ Lz F H1 H' ∧ I n k' ρ') ⟨k1, ρ, en.le l1, j1, .refl, i0⟩ ?_ ?_
    · rintro n σ' H' hn ⟨k', ρ', en', j', lz, ii⟩
      have en1 : lo + ((n : Nat) : Int) * (-1) = lo - n := by omega
      rw [en1]
      refine hstep n k' ρ' hn ii (σ'.set i (some (.int (lo - n)))) H' _ (en'.set (sv := .d (.int (lo - n))) ⟨_, rfl, .int _⟩) j' ?_ q2 ?_ ?_
      · exact fun ρ2 σ2 k2 H2 l2 e2 j2 p => ⟨k2, ρ2, e2, j2, lz.trans l2, p⟩
      · exact fun ρ2 σ2 k2 H2 l2 e2 j2 p => q1 ρ2 σ2 k2 H2 (l1.lz.trans (lz.trans l2)) e2 j2 p
      · exact fun ρ2 σ2 k2 H2 l2 e2 j2 p => ⟨k2, ρ2, e2, j2, lz.trans l2, p⟩
    · rintro σ' H' ⟨k', ρ', en', j', lz, ii⟩
      exact q1 ρ' σ' k' H' (l1.lz.trans lz) en' j' (hend k' ρ' ii)
end
end Dl

namespace Dl
open PySem PySem.Spec PyProof.Rows L2
/-! ### t[m::2], a tuple -/
def ev2 {α : Type} : List α → List α
  | [] => []
  | [a] => [a]
  | a :: _ :: r => a :: ev2 r
theorem ev2_pick {α : Type} : ∀ xs : List α, (List.range ((xs.length + 1) / 2)).filterMap (fun k => xs[2 * k]?) = ev2 xs
  | [] => by simp [ev2]
  | [a] => by simp [ev2]
  | a :: b :: r => by
    have e : ((a :: b :: r).length + 1) / 2 = (r.length + 1) / 2 + 1 := by
      rw [List.length_cons, List.length_cons]; omega
    rw [e, List.range_succ_eq_map, List.filterMap_cons]
    show a :: (List.map Nat.succ (List.range ((r.length + 1) / 2))).filterMap _ = a :: ev2 r
    rw [List.filterMap_map, ← ev2_pick r]
    rfl
theorem ev2_map {α β : Type} (f : α → β) : ∀ xs : List α, ev2 (xs.map f) = (ev2 xs).map f
  | [] => rfl
  | [a] => rfl
  | a :: b :: r => by show f a :: ev2 (r.map f) = f a :: (ev2 r).map f; rw [ev2_map f r]
theorem ev2_len {α : Type} : ∀ xs : List α, (ev2 xs).length ≤ xs.length
  | [] => Nat.le_refl _
  | [a] => Nat.le_refl _
  | a :: b :: r => by show (ev2 r).length + 1 ≤ r.length + 1 + 1; have := ev2_len r; omega
theorem RepAll.ev2 {K : PySem.W.Frag} {S : Addr → Prop} {H : Hp} : ∀ (ds : List PyData) (vs : List V), RepAll K S H vs ds → RepAll K S H (Dl.ev2 vs) (Dl.ev2 ds)
  | [], _, h => by cases h; exact .nil
  | [d], _, h => by
    cases h with
    | cons h1 h2 => cases h2; exact .cons h1 .nil
  | d :: d2 :: ds, _, h => by
    cases h with
    | cons h1 h2 =>
      cases h2 with
      | cons h2 h3 => exact .cons h1 (RepAll.ev2 ds _ h3)
theorem vals_ev2 : ∀ {vs : List V} {us : List Value}, Vals vs us → Vals (ev2 vs) (ev2 us)
  | [], _, h => by cases h; exact .nil
  | [v], _, h => by
    cases h with
    | cons h1 h2 => cases h2; exact .cons h1 .nil
  | v :: v2 :: vs, _, h => by
    cases h with
    | cons h1 h2 =>
      cases h2 with
      | cons h2 h3 => exact .cons h1 (vals_ev2 h3)
/-- where the slice begins -/
def loN : Option Int → Nat
  | none => 0
  | some i => i.toNat
section
variable {prog : Program} {w : World} {A : Around} {E : Value → Shared → Prop} {s : Shared}
theorem sliceApplied_two {sl : Addr} {vl : Value} {lo : Option Int} {n : Nat} {t : Tok} {Q : Int × Int × Nat → Shared → Prop} (hs : s.heap.IsSliceOf sl vl .none (.int 2 t)) (pl : IsPart vl lo) (h0 : ∀ i, lo = some i → 0 ≤ i) (h : Q (((min (loN lo) n : Nat) : Int), 2, (n - min (loN lo) n + 1) / 2) s) : wpAny (model prog w) A (Builtin.Slice.sliceApplied (.ref sl) (pure (n : Int))) Q E s := by
  obtain ⟨os, hos, hcs, hds⟩ := id hs
  unfold Builtin.Slice.sliceApplied Builtin.Slice.sliceFields
  refine wpAny_bind (wpAny_bind (wpAny_field hos hds (x := vl) rfl (wpAny_bind (wpAny_field hos hds (x := .none) rfl (wpAny_bind (wpAny_field hos hds (x := .int 2 t) rfl (wpAny_pure ?_)))))))
  refine wpAny_bind (HT.slicePart_ (.int 2 t) ?_)
  show wpAny _ _ (if ((2 : Int) == 0) = true then _ else _) _ _ s
  rw [if_neg (by decide)]
  refine wpAny_bind (HT.slicePart_ pl (wpAny_bind (HT.slicePart_ .none (wpAny_bind (wpAny_pure ?_)))))
  have e1 : (Builtin.Slice.sliceAdjust lo none 2 (n : Int)) = (((min (loN lo) n : Nat) : Int), (n : Int)) := by
    unfold Builtin.Slice.sliceAdjust loN
    cases lo with
    | none => simp
    | some i =>
      have := h0 i rfl
      simp only [show ¬ ((2 : Int) < 0) by decide, if_false]
      rw [if_neg (by omega)]
      congr 1
      omega
  show wpAny _ _ (match Builtin.Slice.sliceAdjust lo none 2 (n : Int) with | (lo, hi) => pure (lo, (2 : Int), Builtin.Slice.slicePlaces lo hi 2)) _ _ s
  rw [e1]
  have e : Builtin.Slice.slicePlaces (((min (loN lo) n : Nat) : Int)) (n : Int) 2 = (n - min (loN lo) n + 1) / 2 := by
    unfold Builtin.Slice.slicePlaces
    have h1 : ((2 : Int) > 0) := by decide
    simp only [h1, if_true]
    split <;> omega
  show wpAny _ _ (pure (((min (loN lo) n : Nat) : Int), (2 : Int), Builtin.Slice.slicePlaces ((min (loN lo) n : Nat) : Int) (n : Int) 2)) _ _ s
  rw [e]
  exact wpAny_pure h
theorem pick_two (xs : Array Value) (m : Nat) : ((List.range ((xs.size - min m xs.size + 1) / 2)).filterMap fun (k : Nat) => xs[(((min m xs.size : Nat) : Int) + (k : Int) * 2).toNat]?).toArray = (ev2 (xs.toList.drop m)).toArray := by
  rw [← ev2_pick]
  have e : xs.size - min m xs.size = (xs.toList.drop m).length := by rw [List.length_drop, Array.length_toList]; omega
  rw [e]
  congr 2
  funext k
  rw [List.getElem?_drop, Array.getElem?_toList]
  by_cases hm : m ≤ xs.size
  · rw [show (((min m xs.size : Nat) : Int) + (k : Int) * 2).toNat = m + 2 * k by omega]
  · rw [Array.getElem?_eq_none (by omega), Array.getElem?_eq_none (by omega)]
theorem getItem_tuple_two {t sl : Addr} {items : Array Value} {vl : Value} {lo : Option Int} {tk : Tok} {Q : Value → Shared → Prop} (ht : IsTup s.heap t items) (hs : s.heap.IsSliceOf sl vl .none (.int 2 tk)) (pl : IsPart vl lo) (h0 : ∀ i, lo = some i → 0 ≤ i)
    (h : Q (.ref s.heap.objs.size) { s with heap := s.heap.push { cls := .type "tuple", data := .seq (ev2 (items.toList.drop (loN lo))).toArray } }) (hsz : items.size ≤ sizeLine) : wpAny (model prog w) A (getItem (.ref t) (.ref sl)) Q E s := by
  have htake : sizeOk (.seq (ev2 (items.toList.drop (loN lo))).toArray) := by
    show (ev2 (items.toList.drop (loN lo))).toArray.size ≤ sizeLine
    rw [List.size_toArray]
    refine Nat.le_trans (ev2_len _) ?_
    rw [List.length_drop, Array.length_toList]
    omega
  obtain ⟨os, hos, hcs, hds⟩ := id hs
  have hTs : s.TypeIs (.ref sl) "slice" := ⟨os, hos, hcs⟩
  unfold getItem
  try with_reducible refine wpAny_holding ?_
  first | refine wpAny_bind (wpAny_pure ?_) | skip
  refine wpAny_bind (wpAny_sequenceKey ht.typeIs (by decide) ?_)
  refine wpAny_bind (wpAny_callSpecial?_slot (name := Str.ofString "__getitem__") ht.typeIs PyProof.Rows.slot_tuple_getitem
    (wpAny_call_entry PyProof.Rows.slot_tuple_getitem ht.typeIs entry_tuple_getitem ?_ (args_tuple_getitem _ _)))
  show wpAny _ _ (Builtin.Tuple.tupleItemsOf (.ref t) >>= _) _ _ s
  refine wpAny_bind (tupleItemsOf_ ht ?_)
  refine wpAny_bind (wpAny_typeOf hTs ?_)
  rw [if_pos (by decide)]
  refine wpAny_bind (sliceApplied_two hs pl h0 ?_)
  have hno : ¬ ((((min (loN lo) items.size : Nat) : Int) == 0 && (2 : Int) == 1 && (items.size - min (loN lo) items.size + 1) / 2 == items.size) = true) := by
    rw [show ((2 : Int) == 1) = false by decide, Bool.and_false, Bool.false_and]
    decide
  show wpAny _ _ (if (((min (loN lo) items.size : Nat) : Int) == 0 && (2 : Int) == 1 && (items.size - min (loN lo) items.size + 1) / 2 == items.size) = true then _ else _) _ _ s
  rw [if_neg hno, pick_two]
  first
    | exact wpAny_bind (m := Builtin.Tuple.tupleExact _) (wpAny_newObj_type (wpAny_pure ⟨_, rfl, wpAny_pure h⟩) htake)
    | exact wpAny_bind (m := Builtin.Tuple.tupleExact _) (wpAny_newObj_type (wpAny_bind (wpAny_pure (wpAny_pure ⟨_, rfl, wpAny_pure h⟩))) htake)
    | exact wpAny_bind (wpAny_bind (m := Builtin.Tuple.tupleExact _) (wpAny_newObj_type (wpAny_pure (wpAny_pure ⟨_, rfl, wpAny_pure h⟩)) htake))
    | exact wpAny_bind (wpAny_bind (m := Builtin.Tuple.tupleExact _) (wpAny_newObj_type (wpAny_pure ⟨_, rfl, wpAny_pure h⟩) htake))
end
def tTwoT (K : PySem.W.Frag) (te : TE) (tl : TO) : TE := fun σ H Q => te σ H fun x H1 => tl σ H1 fun lo H2 => (∀ i, lo = some i → 0 ≤ i) ∧ ∃ a xs, x = .ref a ∧ SqT K H2 a xs ∧ ∀ p, H2 p = none → Q (.ref p) (upd H2 p (.tup (ev2 (xs.drop (loN lo)))))
theorem pe_twoT {X : Cx} {e : Expr} {te : TE} {tl : TO} {lo : Option Expr} {k : Nat} {p1 p3 pos : Pos} (he : PE X e te) (hl : PO X lo tl) : PE X (.Subscript e (.Slice lo none (some (.Constant (.int 2) k p1)) p3) pos) (tTwoT X.K te tl) := by
  refine ⟨fun pins s σ H Q I h => ?_⟩
  refine Subscript_ (thn (he.run pins s σ H _ I h) fun v s1 ⟨x, H1, I1, r1, q1⟩ => ?_)
  have hst : PO X (some (.Constant (.int 2) k p1)) (tPart (tC (.int 2))) := po_some pe_int
  refine wpAny_Slice (thn (hl.run pins s1 σ H1 _ I1 q1) fun vl s2 ⟨l, H2, I2, pl, h0, a, xs, ex, hx, q⟩ => ?_)
  subst ex
  cases r1
  refine thn (po_none.run pins s2 σ H2 (fun o H3 => o = none ∧ H3 = H2) I2 ⟨rfl, rfl⟩) fun vu s3 ⟨u, H3, I3, pu, eu, e3⟩ => ?_
  subst eu e3
  refine thn (hst.run pins s3 σ H3 (fun o H4 => o = some 2 ∧ H4 = H3) I3 ⟨2, rfl, rfl, rfl⟩) fun vs s4 ⟨o, H4, I4, ps, eo, e4⟩ => ?_
  subst eo e4
  have I5 : Inv X pins σ H4 { s4 with heap := s4.heap.push { cls := .type "slice", data := .fields #[vl, vu, vs] } } := I4.kept (t' := s4.toks) fun b ob q => Heap.get?_push_of_some _ q
  obtain ⟨its, r, ht, hz⟩ := I5.tuple hx
  have hlen := r.length
  cases pu
  cases ps
  show wpAny (model X.prog X.w) X.A (subscriptTail e (.Slice lo none (some (.Constant (.int 2) k p1)) p3) (.ref a) (.ref s4.heap.objs.size)) (EP X pins σ Q) X.xe _
  refine tail_any (ops := [.ref a, .ref s4.heap.objs.size]) ht.typeIs (PyProof.Rows.slot_tuple_getitem.lookup) ?_ (by with_unfolding_all rfl)
  refine getItem_tuple_two ht (Heap.IsSliceOf.new _ _ _ _) pl h0 ?_ (by rw [List.size_toArray]; omega)
  refine ⟨.ref _, _, I5.laid (t' := s4.toks) (o := .tup (ev2 (xs.drop (loN l)))) (fun b ob q => Heap.get?_push_of_some _ q) (Nat.le_refl _) ?_, rfl, q _ (I5.hok.fresh (Nat.le_refl _))⟩
  refine ⟨Nat.le_trans (ev2_len _) (by rw [List.length_drop]; omega), _, vals_ev2 (r.drop (loN l)), _, Heap.get?_push_size _ rfl, rfl, _, rfl⟩
section
variable {F : Fm} {C : Cs} {ρ : Rho} {k : Nat} {Φ : Nat → PyData → Prop} {pos p1 p3 : Pos} {a e : Expr} {jj : Nat}
theorem we_two0 (hK : F.K = C.K) (h : WPE F C a ρ k fun k1 x => ∃ ds, x = .tuple ds ∧ Φ k1 (.tuple (ev2 ds))) : WPE F C (.Subscript a (.Slice none none (some (.Constant (.int 2) jj p1)) p3) pos) ρ k Φ :=
  of_pe (t := tTwoT C.K (tE C a) tNoPart) (fun X fx => by rw [← fx.K]; exact pe_twoT (peE fx) po_none) fun σ H Q en j q => by
    show tE C a σ H _
    refine h σ H _ en j fun v d k1 H1 l1 j1 r ⟨ds, e, p⟩ => ?_
    subst e
    cases r with
    | @tup b xs _ hb hr =>
    exact ⟨(fun _ z => nomatch z), b, xs, rfl, hK ▸ sqt_of hb, fun l hl => q _ _ k1 _ (l1.trans (.new hl)) (j1.new hl) (rep_newT j1 hl (RepAll.ev2 _ _ hr)) p⟩
theorem we_twoE (hK : F.K = C.K) (h : WPE F C a ρ k fun k1 x => WPE F C e ρ k1 fun k2 y => ∃ ds, ∃ m : Nat, x = .tuple ds ∧ y = .int (m : Int) ∧ Φ k2 (.tuple (ev2 (ds.drop m)))) : WPE F C (.Subscript a (.Slice (some e) none (some (.Constant (.int 2) jj p1)) p3) pos) ρ k Φ :=
  of_pe (t := tTwoT C.K (tE C a) (tPart (tE C e))) (fun X fx => by rw [← fx.K]; exact pe_twoT (peE fx) (po_some (peE fx))) fun σ H Q en j q => by
    show tE C a σ H _
    refine h σ H _ en j fun v d k1 H1 l1 j1 r hx => ?_
    show tE C e σ H1 _
    refine hx σ H1 _ (en.le l1) j1 fun vy y k2 H2 l2 j2 r2 ⟨ds, m, e1, e2, p⟩ => ?_
    subst e1 e2
    have r' := r.le l2.lz
    cases r' with
    | @tup b xs _ hb hr =>
    cases r2
    refine ⟨(m : Int), rfl, fun i z => by cases z; omega, b, xs, rfl, hK ▸ sqt_of hb, fun l hl => ?_⟩
    have em : loN (some (m : Int)) = m := Int.toNat_natCast m
    rw [em]
    exact q _ _ k2 _ ((l1.trans l2).trans (.new hl)) (j2.new hl) (rep_newT j2 hl (RepAll.ev2 _ _ (hr.drop m))) p
end
end Dl

namespace Dl
open PySem PySem.Spec PyProof.Rows L2
/-! ### any datum == a text -/
theorem dict_not_str (l : Addr) (es : Array DictEntry) (n : Nat) (b : Str) (u : Tok) :
    Meets (Builtin.«dict.__eq__» ⟨[.ref l, .str b u], []⟩) (fun _ R s => s.heap.get? l = some { cls := .type "dict", data := .dict es n } ∧ R (.ok (.ret .notImplemented)) s) := by
  refine .of_wp fun prog w A R s h => ?_
  obtain ⟨hp, g, d, tk, os⟩ := s
  obtain ⟨hl, h⟩ := h
  have f1 := F.sub_str_dict
  wp_walk using PySem.wpAny_loadPart' hl
  exact ⟨_, rfl, h⟩
theorem str_not_dict (l : Addr) (es : Array DictEntry) (n : Nat) (b : Str) (u : Tok) :
    Meets (Builtin.«str.__eq__» ⟨[.str b u, .ref l], []⟩) (fun _ R s => s.heap.get? l = some { cls := .type "dict", data := .dict es n } ∧ R (.ok (.ret .notImplemented)) s) := by
  refine .of_wp fun prog w A R s h => ?_
  obtain ⟨hp, g, d, tk, os⟩ := s
  obtain ⟨hl, h⟩ := h
  have f1 := F.sub_dict_str
  wp_walk using PySem.wpAny_loadPart' hl
  exact ⟨_, rfl, h⟩
theorem rc_dict_str {A : Around} {s : Shared} {l : Addr} {o : Obj} {es : Array DictEntry} {n : Nat} (b : Str) (u : Tok) (ho : s.heap.get? l = some o) (ex : o.ExactDict) (hd : o.data = .dict es n) (hu : A.units < cLine) : SeqAt.RcAt A s (.ref l) (.str b u) false := fun prog w E Q h => by
  obtain ⟨c, dd, data, sl⟩ := o
  obtain ⟨e1, e2, e3⟩ := ex
  simp only at e1 e2 e3 hd
  subst e1 e2 e3 hd
  refine SeqAt.rc_eq_decline_or (k := false) ⟨_, ho, rfl⟩ (typeIs_str s b u) (by decide) F.sub_str_dict F.slot_dict_eq F.slot_str_eq_refl (fun _ hq => ?_) (fun _ hq => ?_) (fun _ hq => ?_) (.inr hu) h
  · exact call_meets F.slot_dict_eq ⟨_, ho, rfl⟩ F.entry_dict_eq (F.args_dict_eq_2 _ _) (dict_not_str l es n b u) ⟨ho, hq⟩
  · exact call_meets F.slot_str_eq_refl (typeIs_str s b u) F.entry_str_eq (F.args_str_eq_2 _ _) (str_not_dict l es n b u) ⟨ho, hq⟩
  · exact wpAny_of_eq (rfl : isSame (Value.ref l) (Value.str b u) = pure false) hq
def isS (w : Str) : PyData → Bool
  | .str x => x == w
  | _ => false
def rEqS (K : PySem.W.Frag) : R2 := fun x y H Q => ∃ (S : Addr → Prop) (d : PyData) (w : Str), Rep K S H x d ∧ y = .str w ∧ Q (.bl (isS w d)) H
theorem op_eqS {X : Cx} (hu : X.A.units + 64 < cLine) : OpR X (compareOp .Eq) (rEqS X.K) := by
  intro pins s σ H x y v u Q I rx ry h
  obtain ⟨S, d, w, hd, rfl, q⟩ := h
  obtain ⟨tw, rfl⟩ := ry
  have un : X.A.units < cLine := by omega
  have fin : ∀ b : Bool, b = isS w d → EP X pins σ Q (.bool b) s := fun b e => by subst e; exact ⟨.bl _, H, I, rfl, q⟩
  cases hd with
  | non => cases rx; exact SeqAt.RcAt.none_str w tw _ _ _ _ (fin _ rfl)
  | bl b => cases rx; exact SeqAt.RcAt.bool_str b w tw _ _ _ _ (fin _ rfl)
  | int i => obtain ⟨t, rfl⟩ := rx; exact SeqAt.RcAt.int_str i t w tw _ _ _ _ (fin _ rfl)
  | str x => obtain ⟨t, rfl⟩ := rx; exact SeqAt.RcAt.str_str x t w tw _ _ _ _ (fin _ rfl)
  | lst h1 h3 =>
    cases rx
    obtain ⟨_, its, n, rv, e⟩ := I.hok _ _ h1.1
    exact SeqAt.RcAt.list_str w tw (items := its.toArray) ⟨_, e, rfl, n, rfl⟩ un _ _ _ _ (fin _ rfl)
  | tup h1 h3 =>
    cases rx
    obtain ⟨its, o, n, rv, e, c, dd⟩ := tup_get I h1.1
    exact SeqAt.RcAt.tuple_str w tw (items := its) ⟨o, e, c, n, dd⟩ un _ _ _ _ (fin _ rfl)
  | dct h1 h3 =>
    cases rx
    obtain ⟨_, ns, vs, rk, o, ents, ep, e, ex, dd, _⟩ := I.hok _ _ h1.1
    exact rc_dict_str w tw e ex dd un _ _ _ _ (fin _ rfl)
section
variable {F : Fm} {C : Cs} {ρ : Rho} {k : Nat} {Φ : Nat → PyData → Prop} {Ψ : Nat → Bool → Prop} {a b : Expr} {pos : Pos}
theorem opEqSK {X : Cx} (fx : Fits C X) : OpR X (compareOp .Eq) (rEqS C.K) := by rw [← fx.K]; exact op_eqS fx.room.units
theorem rd_eqTx {x : PyData} {w : Str} (hK : F.K = C.K) (h : Φ k (.bool (isS w x))) : RD F (rEqS C.K) x (.str w) k Φ := fun H vx vy Q j rx ry q => by
  cases ry
  exact ⟨F.S, x, w, hK ▸ rx, rfl, q _ _ k H .refl j (.bl _) h⟩
/-- any datum == a text -/
theorem we_eqTx (hK : F.K = C.K) (h : WPE F C a ρ k fun k1 x => WPE F C b ρ k1 fun k2 y => ∃ w, y = .str w ∧ Φ k2 (.bool (isS w x))) : WPE F C (.Compare a [.Eq] [b] pos) ρ k Φ :=
  we_cmp (fun X fx => opEqSK fx) (nomark _) (h.imp fun k1 x h1 => h1.imp fun k2 y ⟨w, e, p⟩ => by subst e; exact rd_eqTx hK p)
theorem wt_eqTx (hK : F.K = C.K) (h : WPE F C a ρ k fun k1 x => WPE F C b ρ k1 fun k2 y => ∃ w, y = .str w ∧ Ψ k2 (isS w x)) : WPT F C (.Compare a [.Eq] [b] pos) ρ k Ψ :=
  wt_cmp (fun X fx => opEqSK fx) (nomark _) (h.imp fun k1 x h1 => h1.imp fun k2 y ⟨w, e, p⟩ => by subst e; exact rd_eqTx hK ⟨_, rfl, p⟩)
theorem RpAll.strs {H : Hp} : ∀ {bs : List Str} {vs : List V}, RpAll F H vs (bs.map PyData.str) → vs = bs.map V.str
  | [], _, h => by cases h; rfl
  | b :: bs, _, h => by
    cases h with
    | cons h1 h2 => cases h1; rw [RpAll.strs h2]; rfl
theorem inV_strs {v : Str} : ∀ (bs : List Str), inV (.str v) (bs.map V.str) = bs.any (· == v)
  | [] => by simp [inV]
  | x :: bs => by
    have ih := inV_strs (v := v) bs
    unfold inV at ih ⊢
    rw [List.map_cons, List.any_cons, ih, List.any_cons]
    congr 1
/-- a text in a list or tuple of texts -/
theorem rd_inTx {neg : Bool} {v : Str} {y : PyData} {bs : List Str} (hK : F.K = C.K) (hy : seqD y = some (bs.map PyData.str)) (h : Φ k (.bool (if neg then !bs.any (· == v) else bs.any (· == v)))) : RD F (rIn C.K neg) (.str v) y k Φ :=
  rd_in hK hy rfl (by rw [List.all_map]; exact List.all_eq_true.mpr fun _ _ => rfl) (fun H vx vs rx rv => by cases rx; rw [RpAll.strs rv]; exact inV_strs bs) h
theorem wt_niTx (hK : F.K = C.K) (hm : behindInMarks .NotIn b = false) (h : WPE F C a ρ k fun k1 x => WPE F C b ρ k1 fun k2 y => ∃ (v : Str) (bs : List Str), x = .str v ∧ seqD y = some (bs.map PyData.str) ∧ Ψ k2 (!bs.any (· == v))) : WPT F C (.Compare a [.NotIn] [b] pos) ρ k Ψ :=
  wt_cmp (fun X fx => opNiK fx) hm (h.imp fun k1 x h1 => h1.imp fun k2 y ⟨v, bs, e1, e2, p⟩ => by subst e1; exact rd_inTx hK e2 ⟨_, rfl, p⟩)
end
/-! ### a list of any data != [] -/
def rNeNil (K : PySem.W.Frag) : R2 := fun x y H Q => ∃ (S S' : Addr → Prop) (ds : List PyData), Rep K S H x (.list ds) ∧ Rep K S' H y (.list []) ∧ Q (.bl (!ds.isEmpty)) H
theorem op_neNil {X : Cx} (hu : X.A.units + 64 < cLine) : OpR X (compareOp .NotEq) (rNeNil X.K) := by
  intro pins s σ H x y v u Q I rx ry h
  obtain ⟨S, S', ds, hx, hy, q⟩ := h
  cases hx with
  | lst h1 h3 =>
  cases hy with
  | lst g1 g3 =>
  cases g3
  cases rx
  cases ry
  obtain ⟨_, its, n, rv, e⟩ := I.hok _ _ h1.1
  obtain ⟨_, js, m, rw', f⟩ := I.hok _ _ g1.1
  cases rw'
  cases ds with
  | nil =>
    cases h3
    cases rv
    exact SeqAt.compareNe_shaped (Reads.list e rfl rfl .nil) (Reads.list f rfl rfl .nil) (da := .list []) (db := .list []) (by decide +kernel) (by decide +kernel) hu ⟨.bl _, H, I, rfl, q⟩
  | cons d ds =>
    cases h3 with
    | cons r1 r2 =>
    cases rv with
    | cons p1 p2 =>
    exact SeqAt.RcNeAt.lists_lengths (items := (_ :: _).toArray) (items2 := #[]) ⟨_, e, rfl, n, rfl⟩ ⟨_, f, rfl, m, rfl⟩ (by rfl) (by omega) _ _ _ _ ⟨.bl _, H, I, rfl, q⟩
section
variable {F : Fm} {C : Cs} {ρ : Rho} {k : Nat} {Ψ : Nat → Bool → Prop} {a : Expr} {pos pq : Pos}
theorem wt_neNilA (hK : F.K = C.K) (h : WPE F C a ρ k fun k1 x => ∃ ds, x = .list ds ∧ Ψ k1 (!ds.isEmpty)) : WPT F C (.Compare a [.NotEq] [.List [] pq] pos) ρ k Ψ :=
  wt_cmp (fun X fx => by have := op_neNil (X := X) fx.room.units; rw [fx.K] at this; exact this) (nomark _) (h.imp fun k1 x ⟨ds, e, p⟩ => by
    subst e
    refine we_lst (wa_nil ⟨by show 0 ≤ sizeLine; decide, ?_⟩)
    intro H vx vy Q j rx ry q
    exact ⟨F.S, F.S, ds, hK ▸ rx, hK ▸ ry, q _ _ _ H .refl j (.bl _) ⟨_, rfl, p⟩⟩)
end
end Dl

namespace Dl
open PySem PySem.Spec PyProof.Rows L2
section
variable {F : Fm} {C : Cs} {ρ : Rho} {k : Nat} {P : DE} {Φ : Nat → PyData → Prop} {pos p p2 px py ap cp spos : Pos} {x y : Str} {rest : List Stmt} {e : Expr} {es : List Expr} {o : Addr}
/-- x = [..], an own list -/
theorem wb_ownLst (i : Nat) (t : Tgt C i x) (hi : i < ρ.length) (hs : ∀ env : Env, env.scope = C.sc → swapsWith (.List es p2) (some (.Name x px)) pos.line env = pure false)
    (h : WPA F C es ρ k fun k2 ds => ds.length ≤ 1000000 ∧ ∀ o, WPB (F.ext o) C rest (ρ.set i (.own o ds)) k2 { nx := fun _ _ => False, rt := P.rt, bk := fun _ _ => False, ct := fun _ _ => False }) :
    WPB F C (.Assign [.Name x px] (.List es p2) pos :: rest) ρ k P :=
  of_pb (fun X fx => pss_cons (ps_set (by rw [fx.N]; exact t.hN) (by rw [fx.N]; exact t.hi) (by rw [fx.sc]; exact t.hx) (pe_lst (paA fx)) (hs X.env fx.sc) (by rw [fx.fn, fx.sc]; exact t.hf)) (pbB fx)) fun σ H E en j q1 q2 q3 q4 => by
    refine h σ H _ en j fun xs ds k2 H2 l2 j2 hr ⟨hz, p⟩ => ?_
    refine ⟨by rw [hr.length]; exact Nat.le_trans hz (by decide), fun o no => ?_⟩
    have hM : ¬ F.M o := fun z => F.gl _ _ j2.g o z no
    have h0 : F.H0 o = none := j2.h0 hM no
    have en2 : EnvOk (F.ext o) (upd H2 o (.lst xs)) (σ.set i (some (.ref o))) (ρ.set i (.own o ds)) :=
      ((en.le l2).ext no).set (sv := .own o ds) ⟨rfl, .inr rfl, hM, h0, xs, upd_same, hr.ext no⟩
    refine p o (σ.set i (some (.ref o))) (upd H2 o (.lst xs)) E en2 ((j2.new no).ext (lv_new fun _ z => nomatch z)) ?_ ?_ ?_ ?_
    · exact fun _ _ _ _ _ _ _ z => z.elim
    · exact fun v d k' H' j' r' p => q2 v d k' H' j'.unext r'.unext p
    · exact fun _ _ _ _ _ _ _ z => z.elim
    · exact fun _ _ _ _ _ _ _ z => z.elim
theorem RepAll.dropLast {K : PySem.W.Frag} {S : Addr → Prop} {H : Hp} : ∀ {ds : List PyData} {vs : List V}, RepAll K S H vs ds → RepAll K S H vs.dropLast ds.dropLast := by
  intro ds vs r
  have := r.take (vs.length - 1)
  rw [← List.dropLast_eq_take, r.length, ← List.dropLast_eq_take] at this
  exact this
theorem pePop0 (i : Nat) {X : Cx} (fx : Fits C X) (hN : C.N[i]? = some y) (hv : Vis C.sc y)
    (hd : (y == ("__debug__" : Str)) = false := by decide) (hcd : (y == ("__classdict__" : Str)) = false := by decide)
    (hbm : ∀ X : Cx, ∀ {to : TE}, PE X (.Name y py) to → PE X (.Call (.Attribute (.Name y py) "pop" ap) [] [] cp) (tBM0 X.K "list" rPop to) := by exact fun X {to} h1 => pe_bm0 PySem.F.plainAttrs_list PySem.F.slot_list_pop PySem.F.type_list_pop mt_pop h1) :
    PE X (.Call (.Attribute (.Name y py) "pop" ap) [] [] cp) (tBM0 C.K "list" rPop (tVar i)) := by
  rw [← fx.K]
  exact hbm X (pe_var (by rw [fx.N]; exact hN) (by rw [fx.sc]; exact hv) hd hcd)
/-- x.pop(), x the own list -/
theorem ws_popLast (i : Nat) {xs : List PyData} {u : PyData} (hN : C.N[i]? = some y) (hv : Vis C.sc y) (hr : ρ[i]? = some (.own o xs)) (hno : (ρ.set i .un).all plainB = true) (hl : xs.getLast? = some u)
    (h : P.nx k (ρ.set i (.own o xs.dropLast)))
    (hs : ∀ env : Env, swapsWith (.Call (.Attribute (.Name y py) "pop" ap) [] [] cp) none pos.line env = pure false := by intro _; rfl)
    (hd : (y == ("__debug__" : Str)) = false := by decide) (hcd : (y == ("__classdict__" : Str)) = false := by decide)
    (hbm : ∀ X : Cx, ∀ {to : TE}, PE X (.Name y py) to → PE X (.Call (.Attribute (.Name y py) "pop" ap) [] [] cp) (tBM0 X.K "list" rPop to) := by exact fun X {to} h1 => pe_bm0 PySem.F.plainAttrs_list PySem.F.slot_list_pop PySem.F.type_list_pop mt_pop h1) :
    WPS F C (.Expr (.Call (.Attribute (.Name y py) "pop" ap) [] [] cp) pos) ρ k P :=
  of_ps (fun X fx => ps_expr (pePop0 i fx hN hv hd hcd hbm) (hs X.env)) fun σ H E en j q1 _ _ _ => by
    obtain ⟨hσ, hS, hM, h0, vs, hv', rv⟩ := en.own hr
    obtain ⟨w, hw, _⟩ := rv.get (show xs[xs.length - 1]? = some u by rw [← List.getLast?_eq_getElem?]; exact hl)
    refine ⟨_, hσ, .inl ⟨rfl, _, SqL.of hv'⟩, o, vs, w, rfl, rfl, hv', by rw [rv.length]; exact hw, ?_⟩
    have lz : Lz F H (upd H o (.lst vs.dropLast)) := fun b u hb z => by rw [upd_ne (show b ≠ o from fun y => hb (.inl (y ▸ hS)))]; exact z
    exact q1 _ σ k _ lz (by
      have := en.ownLd hr hno (H' := upd H o (.lst vs.dropLast)) (fun b u hb hne z => by rw [upd_ne hne]; exact z) upd_same (rv.dropLast.le lz)
      exact this) (j.own hM h0 (pl_lst hv')) h
/-- x in y, texts -/
theorem wt_inTx (hK : F.K = C.K) {a b : Expr} {Ψ : Nat → Bool → Prop} (hm : behindInMarks .In b = false) (h : WPE F C a ρ k fun k1 x => WPE F C b ρ k1 fun k2 y => ∃ (v : Str) (bs : List Str), x = .str v ∧ seqD y = some (bs.map PyData.str) ∧ Ψ k2 (bs.any (· == v))) : WPT F C (.Compare a [.In] [b] pos) ρ k Ψ :=
  wt_cmp (fun X fx => opInK fx) hm (h.imp fun k1 x h1 => h1.imp fun k2 y ⟨v, bs, e1, e2, p⟩ => by subst e1; exact rd_inTx (neg := false) hK e2 ⟨_, rfl, p⟩)
end
end Dl

namespace Dl
open PySem PySem.Spec PyProof.Rows L2
/-! ### texts -/
section
variable {F : Fm} {C : Cs} {ρ : Rho} {k : Nat} {Φ : Nat → PyData → Prop} {a b e : Expr} {es : List Expr} {pos : Pos}
/-- {e} of a text in an f-string -/
theorem wkj_txt {acc : Str} {Θ : Nat → Str → Prop} (h : WPE F C e ρ k fun k1 d => ∃ x : Str, d = .str x ∧ x.length ≤ 100000 ∧ (acc ++ x).length ≤ 100000 ∧ WKJ F C es ρ k1 (acc ++ x) Θ) : WKJ F C (.FormattedValue e (-1) none pos :: es) ρ k acc Θ :=
  fun σ H Q en j q => by
    show tE C e σ H _
    refine h σ H _ en j fun v d k1 H1 l1 j1 r1 ⟨x, ed, hx, hz, hh⟩ => ?_
    subst ed
    cases r1
    refine .inl ⟨x, rfl, Nat.le_trans hx (by decide), ⟨_, rfl, Nat.le_trans hz (by decide), ?_⟩⟩
    exact hh σ H1 Q (en.le l1) j1 fun out k' H' l' j' p => q out k' H' (l1.trans l') j' p
/-- x + y of texts -/
theorem we_addS (h : WPE F C a ρ k fun k1 x => WPE F C b ρ k1 fun k2 y => ∃ i j : Str, x = .str i ∧ y = .str j ∧ i.length + j.length ≤ 1000000 ∧ Φ k2 (.str (i ++ j))) : WPE F C (.BinOp a .Add b pos) ρ k Φ :=
  we_bin (fun X _ => op_add_str) (h.imp fun k1 x h1 => h1.imp fun k2 y ⟨i, j, e1, e2, hz, p⟩ => by
    subst e1 e2
    intro H vx vy Q jj rx ry q
    cases rx
    cases ry
    exact ⟨i, j, rfl, rfl, Nat.le_trans hz (by decide), q _ _ k2 H .refl jj (.str _) p⟩)
/-- x[i] of a text -/
theorem we_ixS (hs : PlainIxT b) (h : WPE F C a ρ k fun k1 x => WPE F C b ρ k1 fun k2 y => ∃ (z : Str) (i : Int) (c : Nat), x = .str z ∧ y = .int i ∧ 0 ≤ i ∧ i < z.length ∧ z.length ≤ 1000000 ∧ z.cps[i.toNat]? = some c ∧ Φ k2 (.str ⟨#[c]⟩)) : WPE F C (.Subscript a b pos) ρ k Φ :=
  of_pe (fun X fx => pe_item_str (peE fx) (peE fx) hs) (we_op (h.imp fun k1 x h1 => h1.imp fun k2 y ⟨z, i, c, e1, e2, i0, i1, hz, hc, p⟩ => by
    subst e1 e2
    intro H vx vy Q jj rx ry q
    cases rx
    cases ry
    exact ⟨z, i, c, rfl, rfl, i0, by omega, i1, hc, q _ _ k2 H .refl jj (.str _) p⟩))
end
section
variable {F : Fm} {C : Cs} {ρ : Rho} {k : Nat} {P : DE} {x1 x2 : Str} {kk : Nat} {p p1 p2 tp pos : Pos} {a : Expr} {body : List Stmt}
/-- for i, x in enumerate(list) -/
theorem ws_for_el (i1 i2 : Nat) (t1 : Tgt C i1 x1) (t2 : Tgt C i2 x2) (hK : F.K = C.K) (hg : C.sc.names.lookup ("enumerate" : Str) = some .globalImplicit) (hm : C.mg ("enumerate" : Str) = none)
    (hse : ∀ env : Env, starEach [a] env = [(false, eval a env)]) (hfs : ∀ (env : Env) (v : Value), foldedSetIterable (.Call (.Name "enumerate" p) [a] [] pos) env v = pure v)
    (h : WPE F C a ρ k fun k2 d => ∃ (I : Nat → Nat → Rho → Prop) (ds : List PyData), d = .list ds ∧ I 0 k2 ρ ∧
      (∀ (j : Nat) (y : PyData) k' ρ', ds[j]? = some y → I j k' ρ' → WPB F C body ((ρ'.set i1 (.d (.int (j : Int)))).set i2 (.d y)) k' (P.loop (I (j + 1)))) ∧ (∀ k' ρ', I ds.length k' ρ' → P.nx k' ρ')) :
    WPS F C (.For (.Tuple [.Name x1 p1, .Name x2 p2] kk tp) (.Call (.Name "enumerate" p) [a] [] pos) body [] pos) ρ k P :=
  of_ps (t := tFor (iEnum C.K (tCons (tE C a) tNil)) (gTup C.K 2 (gCons (gName i1) (gCons (gName i2) gNil))) (tB C body)) (fun X fx => ps_for (by rw [fx.xe]; exact PassesOwn.never) fx.calm
      (by rw [← fx.K]; exact pi_enum (by show X.env.scope.names.lookup ("enumerate" : Str) = _; rw [fx.sc]; exact hg) (by rw [fx.mg]; exact hm) (pa_cons (peE fx) pa_nil (hse X.env)) (hse X.env))
      (pgTup (n := 2) fx (pgs_cons (t1.pg fx) (pgs_cons (t2.pg fx) pgs_nil)) (by rfl) (by rfl)) (pbB fx) (hfs X.env)) fun σ H E en j q1 q2 q3 q4 => by
    show tE C a σ H _
    refine h σ H _ en j fun va da k2 H2 l2 j2 ra hh => ?_
    obtain ⟨I, ds, e1, i0, hstep, hend⟩ := hh
    subst e1
    cases ra with
    | @lst pa xs _ ha hra =>
    refine ⟨pa, xs, rfl, hK ▸ sql_of ha, ?_⟩
    have nx : xs.length = ds.length := hra.length
    refine ⟨fun n m σ' H' => m + n = xs.length ∧ ∃ k' ρ', EnvOk F H' σ' ρ' ∧ J F k' H' ∧ Lz F H2 H' ∧ I n k' ρ', ⟨xs.length, by omega, k2, ρ, en.le l2, j2, .refl, i0⟩, ?_⟩
    rintro n m σ' H' ⟨hm', k', ρ', en', j', lz, ii⟩
    have sqa : SqL C.K H' pa xs := hK ▸ sql_of (K := F.K) (⟨lz _ _ (Fm.sxA ha.2) ha.1, ha.2⟩ : H' pa = some (.lst xs) ∧ ¬ F.S pa)
    by_cases over : n = xs.length
    · exact .inl ⟨⟨xs, sqa, Nat.le_of_eq over.symm⟩, q1 ρ' σ' k' H' (l2.lz.trans lz) en' j' (hend k' ρ' (by rw [← nx, ← over]; exact ii))⟩
    · have lt1 : n < xs.length := by omega
      refine .inr ⟨⟨xs, xs[n], sqa, List.getElem?_eq_getElem lt1⟩, fun σ2 H2' => ∃ k' ρ', EnvOk F H2' σ2 ρ' ∧ J F k' H2' ∧ Lz F H2 H2' ∧ I (n + 1) k' ρ', fun σ2 H2' w => ⟨m - 1, by omega, by omega, w⟩, ?_⟩
      rintro v H3 ⟨t, x, rfl, ht, rfl, fx1⟩
      obtain ⟨dx, hdx, rdx⟩ := hra.got (fx1 xs sqa)
      have lnew : Le F H' (upd H' t (.tup [.int (n : Nat), x])) := .new ht
      have rx2 := (rdx.le lz).le lnew.lz
      refine ⟨t, [.int (n : Nat), x], rfl, .inl (.inl upd_same), rfl, .int (n : Nat), [x], rfl, x, [], rfl, rfl, ?_⟩
      refine hstep n dx k' ρ' hdx ii _ _ _ (((en'.le lnew).set (sv := .d (.int (n : Int))) ⟨_, rfl, .int _⟩).set (sv := .d dx) ⟨_, rfl, rx2⟩) (j'.new ht) ?_ q2 ?_ ?_
      · exact fun ρ2 σ2 k2' H2' l2' e2 j2' p => ⟨k2', ρ2, e2, j2', (lz.trans lnew.lz).trans l2', p⟩
      · exact fun ρ2 σ2 k2' H2' l2' e2 j2' p => q1 ρ2 σ2 k2' H2' (l2.lz.trans ((lz.trans lnew.lz).trans l2')) e2 j2' p
      · exact fun ρ2 σ2 k2' H2' l2' e2 j2' p => ⟨k2', ρ2, e2, j2', (lz.trans lnew.lz).trans l2', p⟩
end
end Dl

namespace Dl
open PySem PySem.Spec PyProof.Rows L2
section
variable {F : Fm} {C : Cs} {ρ : Rho} {k : Nat} {P : DE} {pos p pl pl2 p1 p2 p4 pt : Pos} {e : Expr} {x1 x2 : Str} {kk kt : Nat} {rest : List Stmt}
/-- x, y = ([], [e]), both plain names, both own lists -/
theorem wb_own2L (i1 i2 : Nat) (h12 : i1 ≠ i2) (t1 : Tgt C i1 x1) (t2 : Tgt C i2 x2) (hl1 : C.sc.names.lookup x1 = some .local) (hl2 : C.sc.names.lookup x2 = some .local)
    (he1 : ∀ env : Env, starEach [.List [] pl, .List [e] pl2] env = (false, eval (.List [] pl) env) :: starEach [.List [e] pl2] env) (he2 : ∀ env : Env, starEach [.List [e] pl2] env = (false, eval (.List [e] pl2) env) :: starEach [] env) (he3 : ∀ env : Env, starEach [e] env = (false, eval e env) :: starEach [] env)
    (hs : ∀ env : Env, swapsWithSole [.Tuple [.Name x1 p1, .Name x2 p2] kk p4] (.Tuple [.List [] pl, .List [e] pl2] kt pt) pos.line env = pure false)
    (hw : ∀ env : Env, env.scope = C.sc → swappedStores [.Tuple [.Name x1 p1, .Name x2 p2] kk p4] (.Tuple [.List [] pl, .List [e] pl2] kt pt) env = pure (some [x1, x2]))
    (h : ∀ o1, WPE (F.ext o1) C e ρ k fun k1 d => ∀ o2, WPB ((F.ext o1).ext o2) C rest ((ρ.set i1 (.own o1 [])).set i2 (.own o2 [d])) k1 { nx := fun _ _ => False, rt := P.rt, bk := fun _ _ => False, ct := fun _ _ => False }) :
    WPB F C (.Assign [.Tuple [.Name x1 p1, .Name x2 p2] kk p4] (.Tuple [.List [] pl, .List [e] pl2] kt pt) pos :: rest) ρ k P :=
  of_pb (fun X fx => pss_cons (ps_par fx.calm (by rw [fx.N]; exact t1.hN) (by rw [fx.N]; exact t1.hi) (by rw [fx.N]; exact t2.hi) h12 (by rw [fx.sc]; exact hl1) (by rw [fx.sc]; exact hl2)
      (pa_cons (pe_lst pa_nil) (pa_cons (pe_lst (pa_cons (peE fx) pa_nil (he3 X.env))) pa_nil (he2 X.env)) (he1 X.env)) (hw X.env fx.sc) (hs X.env)) (pbB fx)) fun σ H E en j q1 q2 q3 q4 => by
    refine ⟨Nat.zero_le _, fun o1 no1 => ?_⟩
    have hM1 : ¬ F.M o1 := fun z => F.gl _ _ j.g o1 z no1
    have h01 : F.H0 o1 = none := j.h0 hM1 no1
    have en1 : EnvOk (F.ext o1) (upd H o1 (.lst [])) σ ρ := en.ext no1
    have jo1 : J (F.ext o1) k (upd H o1 (.lst [])) := (j.new no1).ext (lv_new fun _ z => nomatch z)
    show tE C e σ _ _
    refine h o1 σ _ _ en1 jo1 fun v d k1 H2 l2 j2 r p => ?_
    refine ⟨by show 1 ≤ sizeLine; decide, fun o2 no2 => ?_⟩
    have hM2 : ¬ (F.ext o1).M o2 := fun z => (F.ext o1).gl _ _ j2.g o2 z no2
    have h02 : (F.ext o1).H0 o2 = none := j2.h0 hM2 no2
    have jo2 : J ((F.ext o1).ext o2) k1 (upd H2 o2 (.lst [v])) := (j2.new no2).ext (lv_new fun _ z => nomatch z)
    have en3 : EnvOk ((F.ext o1).ext o2) (upd H2 o2 (.lst [v])) σ ρ := (en1.le l2).ext no2
    have h1 : H2 o1 = some (.lst []) := l2 o1 _ (Fm.mxA hM1) upd_same
    have ho1 : upd H2 o2 (.lst [v]) o1 = some (.lst []) := by rw [upd_ne (ne_of_none h1 no2)]; exact h1
    have en4 : EnvOk ((F.ext o1).ext o2) (upd H2 o2 (.lst [v])) ((σ.set i1 (some (.ref o1))).set i2 (some (.ref o2))) ((ρ.set i1 (.own o1 [])).set i2 (.own o2 [d])) :=
      (en3.set (sv := .own o1 []) ⟨rfl, .inl (.inr rfl), hM1, h01, [], ho1, .nil⟩).set (sv := .own o2 [d]) ⟨rfl, .inr rfl, hM2, h02, [v], upd_same, .cons (r.ext no2) .nil⟩
    refine ⟨.ref o1, .ref o2, rfl, ?_⟩
    refine p o2 _ _ E en4 jo2 ?_ ?_ ?_ ?_
    · exact fun _ _ _ _ _ _ _ z => z.elim
    · exact fun v d k' H' j' r' p => q2 v d k' H' j'.unext.unext r'.unext.unext p
    · exact fun _ _ _ _ _ _ _ z => z.elim
    · exact fun _ _ _ _ _ _ _ z => z.elim
end
end Dl

namespace Dl
open PySem PySem.Spec PyProof.Rows L2
/-! ### two own lists side by side -/
def NoW (ρ : Rho) (i : Nat) (o : Addr) : Prop := ∀ (j : Nat) (o' : Addr) (xs : List PyData), j ≠ i → ρ[j]? = some (.own o' xs) → o' ≠ o
theorem NoW.two {ρ : Rho} {i : Nat} {o : Addr} (i2 : Nat) {o2 : Addr} {ys : List PyData} (e : ρ[i2]? = some (.own o2 ys)) (ne : o2 ≠ o) (h : ((ρ.set i .un).set i2 .un).all plainB = true) : NoW ρ i o := fun j o' xs hj ej => by
  by_cases h2 : j = i2
  · subst h2
    rw [e] at ej
    cases ej
    exact ne
  · have e1 : ((ρ.set i .un).set i2 .un)[j]? = some (.own o' xs) := by
      rw [List.getElem?_set_ne (Ne.symm h2), List.getElem?_set_ne (Ne.symm hj)]; exact ej
    have := List.all_eq_true.mp h _ (List.mem_of_getElem? e1)
    cases this
section
variable {F : Fm} {C : Cs} {ρ : Rho} {k : Nat} {P : DE} {Φ : Nat → PyData → Prop} {Ψ : Nat → Bool → Prop} {pos p px p2 ap cp py pl pl2 p1 p4 pt : Pos} {x y x1 x2 : Str} {rest : List Stmt} {e : Expr} {o : Addr} {kk kt : Nat}
theorem EnvOk.ownSet2 {H : Hp} {σ : L2.St} {i : Nat} {o : Addr} {xs ys : List PyData} {ws : List V} (en : EnvOk F H σ ρ) (e : ρ[i]? = some (.own o xs)) (hno : NoW ρ i o) (r : RpAll F H ws ys) : EnvOk F (upd H o (.lst ws)) σ (ρ.set i (.own o ys)) := by
  obtain ⟨hσ, hS, hM, h0, vs, hv, rv⟩ := en.own e
  have lz : ∀ b u, ¬ F.S b → H b = some u → (upd H o (.lst ws)) b = some u := fun b u hb z => by rw [upd_ne (show b ≠ o from fun y => hb (y ▸ hS))]; exact z
  intro j sv ej
  by_cases hj : i = j
  · subst hj
    have hl : i < ρ.length := (List.getElem?_eq_some_iff.mp e).1
    rw [List.getElem?_set_self hl] at ej
    cases ej
    exact ⟨_, hσ, rfl, hS, hM, h0, ws, upd_same, RepAll.keep lz (fun _ _ z => z) _ _ r⟩
  · rw [List.getElem?_set_ne hj] at ej
    obtain ⟨y, q, s⟩ := en j sv ej
    refine ⟨y, q, ?_⟩
    cases sv with
    | un => trivial
    | d d => obtain ⟨v, z, r⟩ := s; exact ⟨v, z, Rep.keep lz (fun _ _ z => z) _ _ r⟩
    | raw v => exact s
    | own o' xs' =>
      obtain ⟨e1, s1, m1, z1, vs1, h1, r1⟩ := s
      exact ⟨e1, s1, m1, z1, vs1, by rw [upd_ne (hno j o' xs' (Ne.symm hj) ej)]; exact h1, RepAll.keep lz (fun _ _ z => z) _ _ r1⟩
theorem ws_append2 (i : Nat) {o : Addr} {xs : List PyData} (hN : C.N[i]? = some x) (hv : Vis C.sc x) (hr : ρ[i]? = some (.own o xs)) (hno : NoW ρ i o) (hz : xs.length ≤ 1000000)
    (hse : ∀ env : Env, starEach [e] env = (false, eval e env) :: starEach [] env) (h : WPE F C e ρ k fun k1 d => P.nx k1 (ρ.set i (.own o (xs ++ [d]))))
    (hsw : ∀ env : Env, swapsWith (.Call (.Attribute (.Name x px) "append" ap) [e] [] cp) none pos.line env = pure false) (hd : (x == ("__debug__" : Str)) = false := by decide) (hcd : (x == ("__classdict__" : Str)) = false := by decide)
    (hbm : ∀ X : Cx, ∀ {to : TE} {t : TA}, PE X (.Name x px) to → PA X [e] t → PE X (.Call (.Attribute (.Name x px) "append" ap) [e] [] cp) (tBM X.K "list" rAppend to t) := by exact fun X {to t} h1 h2 => pe_bm PySem.F.plainAttrs_list PySem.F.slot_list_append PySem.F.type_list_append mt_append h1 h2) :
    WPS F C (.Expr (.Call (.Attribute (.Name x px) "append" ap) [e] [] cp) pos) ρ k P :=
  of_ps (t := tDrop (tBM C.K "list" rAppend (tVar i) (tCons (tE C e) tNil))) (fun X fx => ps_expr (by rw [← fx.K]; exact hbm X (pe_var (by rw [fx.N]; exact hN) (by rw [fx.sc]; exact hv) hd hcd) (pa_cons (peE fx) pa_nil (hse X.env))) (hsw X.env)) fun σ H E en j q1 q2 q3 q4 => by
    obtain ⟨hσ, hS, hM, h0, vs, hv', rv⟩ := en.own hr
    refine ⟨_, hσ, .inl ⟨rfl, _, SqL.of hv'⟩, ?_⟩
    show tE C e σ H _
    refine h σ H _ en j fun v d k1 H1 l1 j1 r1 p => ?_
    have hv1 : H1 o = some (.lst vs) := l1 o _ (Fm.mxA hM) hv'
    refine ⟨o, vs, v, rfl, rfl, hv1, ?_, ?_⟩
    · rw [rv.length]; exact Nat.lt_of_le_of_lt hz (by decide)
    · refine q1 _ σ k1 _ ?_ ((en.le l1).ownSet2 hr hno ((rv.le l1.lz).append (.cons r1 .nil))) (j1.own hM h0 (pl_lst (l1 o _ (Fm.mxA hM) hv'))) p
      exact fun b u hb z => by rw [upd_ne (show b ≠ o from fun y => hb (.inl (y ▸ hS)))]; exact l1.lz b u hb z
theorem ws_popLast2 (i : Nat) {xs : List PyData} {u : PyData} (hN : C.N[i]? = some y) (hv : Vis C.sc y) (hr : ρ[i]? = some (.own o xs)) (hno : NoW ρ i o) (hl : xs.getLast? = some u)
    (h : P.nx k (ρ.set i (.own o xs.dropLast)))
    (hs : ∀ env : Env, swapsWith (.Call (.Attribute (.Name y py) "pop" ap) [] [] cp) none pos.line env = pure false := by intro _; rfl)
    (hd : (y == ("__debug__" : Str)) = false := by decide) (hcd : (y == ("__classdict__" : Str)) = false := by decide)
    (hbm : ∀ X : Cx, ∀ {to : TE}, PE X (.Name y py) to → PE X (.Call (.Attribute (.Name y py) "pop" ap) [] [] cp) (tBM0 X.K "list" rPop to) := by exact fun X {to} h1 => pe_bm0 PySem.F.plainAttrs_list PySem.F.slot_list_pop PySem.F.type_list_pop mt_pop h1) :
    WPS F C (.Expr (.Call (.Attribute (.Name y py) "pop" ap) [] [] cp) pos) ρ k P :=
  of_ps (fun X fx => ps_expr (pePop0 i fx hN hv hd hcd hbm) (hs X.env)) fun σ H E en j q1 _ _ _ => by
    obtain ⟨hσ, hS, hM, h0, vs, hv', rv⟩ := en.own hr
    obtain ⟨w, hw, _⟩ := rv.get (show xs[xs.length - 1]? = some u by rw [← List.getLast?_eq_getElem?]; exact hl)
    refine ⟨_, hσ, .inl ⟨rfl, _, SqL.of hv'⟩, o, vs, w, rfl, rfl, hv', by rw [rv.length]; exact hw, ?_⟩
    have lz : Lz F H (upd H o (.lst vs.dropLast)) := fun b u hb z => by rw [upd_ne (show b ≠ o from fun y => hb (.inl (y ▸ hS)))]; exact z
    exact q1 _ σ k _ lz (en.ownSet2 hr hno rv.dropLast) (j.own hM h0 (pl_lst hv')) h
theorem env_lend2 {H : Hp} {σ : L2.St} {xs : List PyData} (i : Nat) (hM : ¬ F.M o) (hr : ρ[i]? = some (.own o xs)) (hno : NoW ρ i o) (en : EnvOk F H σ ρ) : EnvOk (F.less o hM) H σ (ρ.set i (.d (.list xs))) := by
  obtain ⟨hσ, hS, _, h0, vs, hv, rv⟩ := en.own hr
  have low : ∀ {w : V} {u : PyData}, Rp F H w u → Rp (F.less o hM) H w u := fun {w u} r => Rep.keep (S := F.S) (S' := (F.less o hM).S) (fun _ _ _ q => q) (fun b _ z => z.1) _ _ r
  have lowA : ∀ {w : List V} {u : List PyData}, RpAll F H w u → RpAll (F.less o hM) H w u := fun {w u} r => RepAll.keep (S := F.S) (S' := (F.less o hM).S) (fun _ _ _ q => q) (fun b _ z => z.1) _ _ r
  intro m sv em
  by_cases hm : i = m
  · subst hm
    rw [List.getElem?_set_self (List.getElem?_eq_some_iff.mp hr).1] at em
    cases em
    exact ⟨_, hσ, _, rfl, .lst ⟨hv, fun z => z.2 rfl⟩ (lowA rv)⟩
  · rw [List.getElem?_set_ne hm] at em
    obtain ⟨y, qy, r⟩ := en m sv em
    refine ⟨y, qy, ?_⟩
    cases sv with
    | un => trivial
    | d u => obtain ⟨w, e1, r⟩ := r; exact ⟨w, e1, low r⟩
    | raw w => exact r
    | own o' xs' =>
      obtain ⟨e1, s1, m1, z1, vs1, h1, r1⟩ := r
      exact ⟨e1, ⟨s1, hno m o' xs' (Ne.symm hm) em⟩, m1, z1, vs1, h1, lowA r1⟩
theorem wt_lend2 {xs : List PyData} (i : Nat) (hr : ρ[i]? = some (.own o xs)) (hno : NoW ρ i o) (h : ∀ hM : ¬ F.M o, WPT (F.less o hM) C e (ρ.set i (.d (.list xs))) k Ψ) : WPT F C e ρ k Ψ := fun σ H Q en j q => by
  obtain ⟨hσ, hS, hM, h0, vs, hv, rv⟩ := en.own hr
  refine h hM σ H Q (env_lend2 i hM hr hno en) (j_lend hM j) fun b k1 H1 l1 j1 p => ?_
  have ho : H1 o = some (.lst vs) := l1 o _ (Fm.mxA hM) hv
  exact q b k1 H1 l1 (j_back hM j1 ho) p
/-- x = [], an own list apart from what data avoid -/
theorem wb_ownN (i : Nat) (t : Tgt C i x) (hi : i < ρ.length) (hs : ∀ env : Env, env.scope = C.sc → swapsWith (.List [] p2) (some (.Name x px)) pos.line env = pure false)
    (h : ∀ o, (∀ b, F.S b → b ≠ o) → WPB (F.ext o) C rest (ρ.set i (.own o [])) k { nx := fun _ _ => False, rt := P.rt, bk := fun _ _ => False, ct := fun _ _ => False }) : WPB F C (.Assign [.Name x px] (.List [] p2) pos :: rest) ρ k P :=
  of_pb (fun X fx => pss_cons (ps_set (by rw [fx.N]; exact t.hN) (by rw [fx.N]; exact t.hi) (by rw [fx.sc]; exact t.hx) (pe_lst pa_nil) (hs X.env fx.sc) (by rw [fx.fn, fx.sc]; exact t.hf)) (pbB fx)) fun σ H E en j q1 q2 q3 q4 => by
    refine ⟨Nat.zero_le _, fun o no => ?_⟩
    have hM : ¬ F.M o := fun z => F.gl _ _ j.g o z no
    have h0 : F.H0 o = none := j.h0 hM no
    have en2 : EnvOk (F.ext o) (upd H o (.lst [])) (σ.set i (some (.ref o))) (ρ.set i (.own o [])) :=
      (en.ext no).set (sv := .own o []) ⟨rfl, .inr rfl, hM, h0, [], upd_same, .nil⟩
    refine h o (fun b hb z => (j.al b hb).ne (z ▸ no)) (σ.set i (some (.ref o))) (upd H o (.lst [])) E en2 ((j.new no).ext (lv_new fun _ z => nomatch z)) ?_ ?_ ?_ ?_
    · exact fun _ _ _ _ _ _ _ z => z.elim
    · exact fun v d k' H' j' r' p => q2 v d k' H' j'.unext r'.unext p
    · exact fun _ _ _ _ _ _ _ z => z.elim
    · exact fun _ _ _ _ _ _ _ z => z.elim
/-- x, y = ([], [e]): two own lists, not the same -/
theorem wb_own2M (i1 i2 : Nat) (h12 : i1 ≠ i2) (t1 : Tgt C i1 x1) (t2 : Tgt C i2 x2) (hl1 : C.sc.names.lookup x1 = some .local) (hl2 : C.sc.names.lookup x2 = some .local)
    (he1 : ∀ env : Env, starEach [.List [] pl, .List [e] pl2] env = (false, eval (.List [] pl) env) :: starEach [.List [e] pl2] env) (he2 : ∀ env : Env, starEach [.List [e] pl2] env = (false, eval (.List [e] pl2) env) :: starEach [] env) (he3 : ∀ env : Env, starEach [e] env = (false, eval e env) :: starEach [] env)
    (hs : ∀ env : Env, swapsWithSole [.Tuple [.Name x1 p1, .Name x2 p2] kk p4] (.Tuple [.List [] pl, .List [e] pl2] kt pt) pos.line env = pure false)
    (hw : ∀ env : Env, env.scope = C.sc → swappedStores [.Tuple [.Name x1 p1, .Name x2 p2] kk p4] (.Tuple [.List [] pl, .List [e] pl2] kt pt) env = pure (some [x1, x2]))
    (h : ∀ o1, WPE (F.ext o1) C e ρ k fun k1 d => ∀ o2, o1 ≠ o2 → WPB ((F.ext o1).ext o2) C rest ((ρ.set i1 (.own o1 [])).set i2 (.own o2 [d])) k1 { nx := fun _ _ => False, rt := P.rt, bk := fun _ _ => False, ct := fun _ _ => False }) :
    WPB F C (.Assign [.Tuple [.Name x1 p1, .Name x2 p2] kk p4] (.Tuple [.List [] pl, .List [e] pl2] kt pt) pos :: rest) ρ k P :=
  of_pb (fun X fx => pss_cons (ps_par fx.calm (by rw [fx.N]; exact t1.hN) (by rw [fx.N]; exact t1.hi) (by rw [fx.N]; exact t2.hi) h12 (by rw [fx.sc]; exact hl1) (by rw [fx.sc]; exact hl2)
      (pa_cons (pe_lst pa_nil) (pa_cons (pe_lst (pa_cons (peE fx) pa_nil (he3 X.env))) pa_nil (he2 X.env)) (he1 X.env)) (hw X.env fx.sc) (hs X.env)) (pbB fx)) fun σ H E en j q1 q2 q3 q4 => by
    refine ⟨Nat.zero_le _, fun o1 no1 => ?_⟩
    have hM1 : ¬ F.M o1 := fun z => F.gl _ _ j.g o1 z no1
    have h01 : F.H0 o1 = none := j.h0 hM1 no1
    have en1 : EnvOk (F.ext o1) (upd H o1 (.lst [])) σ ρ := en.ext no1
    have jo1 : J (F.ext o1) k (upd H o1 (.lst [])) := (j.new no1).ext (lv_new fun _ z => nomatch z)
    show tE C e σ _ _
    refine h o1 σ _ _ en1 jo1 fun v d k1 H2 l2 j2 r p => ?_
    refine ⟨by show 1 ≤ sizeLine; decide, fun o2 no2 => ?_⟩
    have hM2 : ¬ (F.ext o1).M o2 := fun z => (F.ext o1).gl _ _ j2.g o2 z no2
    have h02 : (F.ext o1).H0 o2 = none := j2.h0 hM2 no2
    have jo2 : J ((F.ext o1).ext o2) k1 (upd H2 o2 (.lst [v])) := (j2.new no2).ext (lv_new fun _ z => nomatch z)
    have en3 : EnvOk ((F.ext o1).ext o2) (upd H2 o2 (.lst [v])) σ ρ := (en1.le l2).ext no2
    have h1 : H2 o1 = some (.lst []) := l2 o1 _ (Fm.mxA hM1) upd_same
    have ho1 : upd H2 o2 (.lst [v]) o1 = some (.lst []) := by rw [upd_ne (ne_of_none h1 no2)]; exact h1
    have en4 : EnvOk ((F.ext o1).ext o2) (upd H2 o2 (.lst [v])) ((σ.set i1 (some (.ref o1))).set i2 (some (.ref o2))) ((ρ.set i1 (.own o1 [])).set i2 (.own o2 [d])) :=
      (en3.set (sv := .own o1 []) ⟨rfl, .inl (.inr rfl), hM1, h01, [], ho1, .nil⟩).set (sv := .own o2 [d]) ⟨rfl, .inr rfl, hM2, h02, [v], upd_same, .cons (r.ext no2) .nil⟩
    refine ⟨.ref o1, .ref o2, rfl, ?_⟩
    refine p o2 (ne_of_none h1 no2) _ _ E en4 jo2 ?_ ?_ ?_ ?_
    · exact fun _ _ _ _ _ _ _ z => z.elim
    · exact fun v d k' H' j' r' p => q2 v d k' H' j'.unext.unext r'.unext.unext p
    · exact fun _ _ _ _ _ _ _ z => z.elim
    · exact fun _ _ _ _ _ _ _ z => z.elim
end
end Dl

namespace Dl
open PySem PySem.Spec PyProof.Rows L2
/-! ### t[::2], t[1::2], a tuple of one to six -/
def evs {α : Type} : List α → List α
  | [] => []
  | [a] => [a]
  | a :: _ :: r => a :: evs r
def ods {α : Type} : List α → List α
  | [] => []
  | [_] => []
  | _ :: b :: r => b :: ods r
section
variable {prog : Program} {w : World} {A : Around} {E : Value → Shared → Prop} {s : Shared}
theorem sliceApplied_two0 {sl : Addr} {n : Nat} {t : Tok} {Q : Int × Int × Nat → Shared → Prop} (hs : s.heap.IsSliceOf sl .none .none (.int 2 t)) (h : Q (0, 2, Builtin.Slice.slicePlaces 0 n 2) s) : wpAny (model prog w) A (Builtin.Slice.sliceApplied (.ref sl) (pure (n : Int))) Q E s := by
  obtain ⟨os, hos, hcs, hds⟩ := id hs
  unfold Builtin.Slice.sliceApplied Builtin.Slice.sliceFields
  refine wpAny_bind (wpAny_bind (wpAny_field hos hds (x := .none) rfl (wpAny_bind (wpAny_field hos hds (x := .none) rfl (wpAny_bind (wpAny_field hos hds (x := .int 2 t) rfl (wpAny_pure ?_)))))))
  refine wpAny_bind (HT.slicePart_ (.int 2 t) ?_)
  show wpAny _ _ (if ((2 : Int) == 0) = true then _ else _) _ _ s
  rw [if_neg (by decide)]
  refine wpAny_bind (HT.slicePart_ .none (wpAny_bind (HT.slicePart_ .none (wpAny_bind (wpAny_pure ?_)))))
  exact wpAny_pure h
theorem sliceApplied_two1 {sl : Addr} {n : Nat} {t u : Tok} {Q : Int × Int × Nat → Shared → Prop} (hn : 1 ≤ n) (hs : s.heap.IsSliceOf sl (.int 1 u) .none (.int 2 t)) (h : Q (1, 2, Builtin.Slice.slicePlaces 1 n 2) s) : wpAny (model prog w) A (Builtin.Slice.sliceApplied (.ref sl) (pure (n : Int))) Q E s := by
  obtain ⟨os, hos, hcs, hds⟩ := id hs
  unfold Builtin.Slice.sliceApplied Builtin.Slice.sliceFields
  refine wpAny_bind (wpAny_bind (wpAny_field hos hds (x := .int 1 u) rfl (wpAny_bind (wpAny_field hos hds (x := .none) rfl (wpAny_bind (wpAny_field hos hds (x := .int 2 t) rfl (wpAny_pure ?_)))))))
  refine wpAny_bind (HT.slicePart_ (.int 2 t) ?_)
  show wpAny _ _ (if ((2 : Int) == 0) = true then _ else _) _ _ s
  rw [if_neg (by decide)]
  refine wpAny_bind (HT.slicePart_ (.int 1 u) (wpAny_bind (HT.slicePart_ .none (wpAny_bind (wpAny_pure ?_)))))
  have e : Builtin.Slice.sliceAdjust (some 1) none 2 (n : Int) = (1, (n : Int)) := by
    have : min (1 : Int) (n : Int) = 1 := by omega
    simp [Builtin.Slice.sliceAdjust, this]
  show wpAny _ _ (pure ((Builtin.Slice.sliceAdjust (some 1) none 2 (n : Int)).1, (2 : Int), Builtin.Slice.slicePlaces (Builtin.Slice.sliceAdjust (some 1) none 2 (n : Int)).1 (Builtin.Slice.sliceAdjust (some 1) none 2 (n : Int)).2 2)) _ _ s
  rw [e]
  exact wpAny_pure h
theorem getItem_tuple_by {t sl : Addr} {items : Array Value} {Q : Value → Shared → Prop} {lo st : Int} {cnt : Nat} {zs : List Value} (ht : IsTup s.heap t items) (hTs : s.TypeIs (.ref sl) "slice")
    (happ : ∀ (A' : Around) (E' : Value → Shared → Prop) (Q' : Int × Int × Nat → Shared → Prop), Q' (lo, st, cnt) s → wpAny (model prog w) A' (Builtin.Slice.sliceApplied (.ref sl) (pure (items.size : Int))) Q' E' s) (hno : (lo == 0 && st == 1 && cnt == items.size) = false)
    (hz : ((List.range cnt).filterMap fun (m : Nat) => items[(lo + (m : Int) * st).toNat]?).toArray = zs.toArray) (hsz : zs.length ≤ sizeLine)
    (h : Q (.ref s.heap.objs.size) { s with heap := s.heap.push { cls := .type "tuple", data := .seq zs.toArray } }) : wpAny (model prog w) A (getItem (.ref t) (.ref sl)) Q E s := by
  have htake : sizeOk (.seq zs.toArray) := by
    show zs.toArray.size ≤ sizeLine
    rw [List.size_toArray]
    exact hsz
  unfold getItem
  try with_reducible refine wpAny_holding ?_
  first | refine wpAny_bind (wpAny_pure ?_) | skip
  refine wpAny_bind (wpAny_sequenceKey ht.typeIs (by decide) ?_)
  refine wpAny_bind (wpAny_callSpecial?_slot (name := Str.ofString "__getitem__") ht.typeIs PyProof.Rows.slot_tuple_getitem
    (wpAny_call_entry PyProof.Rows.slot_tuple_getitem ht.typeIs entry_tuple_getitem ?_ (args_tuple_getitem _ _)))
  show wpAny _ _ (Builtin.Tuple.tupleItemsOf (.ref t) >>= _) _ _ s
  refine wpAny_bind (tupleItemsOf_ ht ?_)
  refine wpAny_bind (wpAny_typeOf hTs ?_)
  rw [if_pos (by decide)]
  refine wpAny_bind (happ _ _ _ ?_)
  show wpAny _ _ (if (lo == 0 && st == 1 && cnt == items.size) = true then _ else _) _ _ s
  rw [hno, if_neg Bool.false_ne_true, hz]
  first
    | exact wpAny_bind (m := Builtin.Tuple.tupleExact _) (wpAny_newObj_type (wpAny_pure ⟨_, rfl, wpAny_pure h⟩) htake)
    | exact wpAny_bind (m := Builtin.Tuple.tupleExact _) (wpAny_newObj_type (wpAny_bind (wpAny_pure (wpAny_pure ⟨_, rfl, wpAny_pure h⟩))) htake)
    | exact wpAny_bind (wpAny_bind (m := Builtin.Tuple.tupleExact _) (wpAny_newObj_type (wpAny_pure (wpAny_pure ⟨_, rfl, wpAny_pure h⟩)) htake))
    | exact wpAny_bind (wpAny_bind (m := Builtin.Tuple.tupleExact _) (wpAny_newObj_type (wpAny_pure ⟨_, rfl, wpAny_pure h⟩) htake))
theorem pick_evs : ∀ (xs : List Value), 1 ≤ xs.length → xs.length ≤ 6 → ((List.range (Builtin.Slice.slicePlaces 0 (xs.length : Nat) 2)).filterMap fun (m : Nat) => xs.toArray[((0 : Int) + (m : Int) * 2).toNat]?).toArray = (evs xs).toArray
  | [a], _, _ => by
    rw [show Builtin.Slice.slicePlaces 0 (([a].length : Nat) : Int) 2 = 1 from by simp [Builtin.Slice.slicePlaces]]
    rfl
  | [a, b], _, _ => by
    rw [show Builtin.Slice.slicePlaces 0 (([a, b].length : Nat) : Int) 2 = 1 from by simp [Builtin.Slice.slicePlaces]]
    rfl
  | [a, b, c], _, _ => by
    rw [show Builtin.Slice.slicePlaces 0 (([a, b, c].length : Nat) : Int) 2 = 2 from by simp [Builtin.Slice.slicePlaces]]
    rfl
  | [a, b, c, d], _, _ => by
    rw [show Builtin.Slice.slicePlaces 0 (([a, b, c, d].length : Nat) : Int) 2 = 2 from by simp [Builtin.Slice.slicePlaces]]
    rfl
  | [a, b, c, d, e], _, _ => by
    rw [show Builtin.Slice.slicePlaces 0 (([a, b, c, d, e].length : Nat) : Int) 2 = 3 from by simp [Builtin.Slice.slicePlaces]]
    rfl
  | [a, b, c, d, e, f], _, _ => by
    rw [show Builtin.Slice.slicePlaces 0 (([a, b, c, d, e, f].length : Nat) : Int) 2 = 3 from by simp [Builtin.Slice.slicePlaces]]
    rfl
  | [], h, _ => absurd h (by decide)
  | _ :: _ :: _ :: _ :: _ :: _ :: _ :: _, _, h => absurd h (by simp only [List.length_cons]; omega)
theorem pick_ods : ∀ (xs : List Value), 1 ≤ xs.length → xs.length ≤ 6 → ((List.range (Builtin.Slice.slicePlaces 1 (xs.length : Nat) 2)).filterMap fun (m : Nat) => xs.toArray[((1 : Int) + (m : Int) * 2).toNat]?).toArray = (ods xs).toArray
  | [a], _, _ => by
    rw [show Builtin.Slice.slicePlaces 1 (([a].length : Nat) : Int) 2 = 0 from by simp [Builtin.Slice.slicePlaces]]
    rfl
  | [a, b], _, _ => by
    rw [show Builtin.Slice.slicePlaces 1 (([a, b].length : Nat) : Int) 2 = 1 from by simp [Builtin.Slice.slicePlaces]]
    rfl
  | [a, b, c], _, _ => by
    rw [show Builtin.Slice.slicePlaces 1 (([a, b, c].length : Nat) : Int) 2 = 1 from by simp [Builtin.Slice.slicePlaces]]
    rfl
  | [a, b, c, d], _, _ => by
    rw [show Builtin.Slice.slicePlaces 1 (([a, b, c, d].length : Nat) : Int) 2 = 2 from by simp [Builtin.Slice.slicePlaces]]
    rfl
  | [a, b, c, d, e], _, _ => by
    rw [show Builtin.Slice.slicePlaces 1 (([a, b, c, d, e].length : Nat) : Int) 2 = 2 from by simp [Builtin.Slice.slicePlaces]]
    rfl
  | [a, b, c, d, e, f], _, _ => by
    rw [show Builtin.Slice.slicePlaces 1 (([a, b, c, d, e, f].length : Nat) : Int) 2 = 3 from by simp [Builtin.Slice.slicePlaces]]
    rfl
  | [], h, _ => absurd h (by decide)
  | _ :: _ :: _ :: _ :: _ :: _ :: _ :: _, _, h => absurd h (by simp only [List.length_cons]; omega)
end
theorem evs_len {α : Type} : ∀ xs : List α, (evs xs).length ≤ xs.length
  | [] => Nat.le_refl _
  | [_] => Nat.le_refl _
  | a :: b :: r => by have := evs_len r; simp only [evs, List.length_cons]; omega
theorem ods_len {α : Type} : ∀ xs : List α, (ods xs).length ≤ xs.length
  | [] => Nat.le_refl _
  | [_] => Nat.zero_le _
  | a :: b :: r => by have := ods_len r; simp only [ods, List.length_cons]; omega
theorem evs_pair {α β : Type} {R : α → β → Prop} : ∀ {xs : List α} {ys : List β}, Paired R xs ys → Paired R (evs xs) (evs ys)
  | [], _, h => by cases h; exact .nil
  | [_], _, h => by cases h with | cons h1 h2 => cases h2; exact .cons h1 .nil
  | a :: b :: r, _, h => by cases h with | cons h1 h2 => cases h2 with | cons h2 h3 => exact .cons h1 (evs_pair h3)
theorem ods_pair {α β : Type} {R : α → β → Prop} : ∀ {xs : List α} {ys : List β}, Paired R xs ys → Paired R (ods xs) (ods ys)
  | [], _, h => by cases h; exact .nil
  | [_], _, h => by cases h with | cons h1 h2 => cases h2; exact .nil
  | a :: b :: r, _, h => by cases h with | cons h1 h2 => cases h2 with | cons h2 h3 => exact .cons h2 (ods_pair h3)
def tStp (K : PySem.W.Frag) (te : TE) (g : List V → List V) : TE := fun σ H Q => te σ H fun x H1 => ∃ a xs, x = .ref a ∧ SqT K H1 a xs ∧ (1 ≤ xs.length ∧ xs.length ≤ 6) ∧ ∀ p, H1 p = none → Q (.ref p) (upd H1 p (.tup (g xs)))
theorem pe_stp0 {X : Cx} {e : Expr} {te : TE} {k : Nat} {p2 p3 pos : Pos} (he : PE X e te) : PE X (.Subscript e (.Slice none none (some (.Constant (.int 2) k p2)) p3) pos) (tStp X.K te evs) := by
  refine ⟨fun pins s σ H Q I h => ?_⟩
  refine Subscript_ (thn (he.run pins s σ H _ I h) fun v s1 ⟨x, H1, I1, r1, q1⟩ => ?_)
  obtain ⟨a, xs, ex, hx, ⟨z1, z6⟩, q⟩ := q1
  subst ex
  cases r1
  have hst : PO X (some (.Constant (.int 2) k p2)) (tPart (tC (.int 2))) := po_some pe_int
  refine wpAny_Slice (thn (po_none.run pins s1 σ H1 (fun o H2 => o = none ∧ H2 = H1) I1 ⟨rfl, rfl⟩) fun vl s2 ⟨l, H2, I2, pl, el, e2⟩ => ?_)
  subst el e2
  refine thn (po_none.run pins s2 σ H2 (fun o H3 => o = none ∧ H3 = H2) I2 ⟨rfl, rfl⟩) fun vu s3 ⟨u, H3, I3, pu, eu, e3⟩ => ?_
  subst eu e3
  refine thn (hst.run pins s3 σ H3 (fun o H4 => o = some 2 ∧ H4 = H3) I3 ⟨2, rfl, rfl, rfl⟩) fun vs s4 ⟨o, H4, I4, ps, eo, e4⟩ => ?_
  subst eo e4
  have I5 : Inv X pins σ H4 { s4 with heap := s4.heap.push { cls := .type "slice", data := .fields #[vl, vu, vs] } } := I4.kept (t' := s4.toks) fun b ob q => Heap.get?_push_of_some _ q
  obtain ⟨its, r, ht, hz⟩ := I5.tuple hx
  have hlen := r.length
  cases pl
  cases pu
  cases ps
  have hs := Heap.IsSliceOf.new s4.heap .none .none (.int 2 ‹Tok›)
  obtain ⟨os, hos, hcs, hds⟩ := id hs
  show wpAny (model X.prog X.w) X.A (subscriptTail e (.Slice none none (some (.Constant (.int 2) k p2)) p3) (.ref a) (.ref s4.heap.objs.size)) (EP X pins σ Q) X.xe _
  refine tail_any (ops := [.ref a, .ref s4.heap.objs.size]) ht.typeIs (PyProof.Rows.slot_tuple_getitem.lookup) ?_ (by with_unfolding_all rfl)
  refine getItem_tuple_by (zs := evs its) (lo := 0) (st := 2) (cnt := Builtin.Slice.slicePlaces 0 (its.length : Nat) 2) ht ⟨os, hos, hcs⟩ (fun A' E' Q' hq => by rw [List.size_toArray]; exact sliceApplied_two0 hs hq) (by rw [show ((2 : Int) == 1) = false by decide, Bool.and_false, Bool.false_and]) (by exact pick_evs its (by omega) (by omega)) (Nat.le_trans (evs_len its) (by rw [← hlen]; exact Nat.le_trans z6 (by decide))) ?_
  refine ⟨.ref _, _, I5.laid (t' := s4.toks) (o := .tup (evs xs)) (fun b ob q => Heap.get?_push_of_some _ q) (Nat.le_refl _) ?_, rfl, q _ (I5.hok.fresh (Nat.le_refl _))⟩
  exact ⟨Nat.le_trans (evs_len xs) hz, _, evs_pair r, _, Heap.get?_push_size _ rfl, rfl, _, rfl⟩
theorem pe_stp1 {X : Cx} {e : Expr} {te : TE} {k k0 : Nat} {p0 p2 p3 pos : Pos} (he : PE X e te) : PE X (.Subscript e (.Slice (some (.Constant (.int 1) k0 p0)) none (some (.Constant (.int 2) k p2)) p3) pos) (tStp X.K te ods) := by
  refine ⟨fun pins s σ H Q I h => ?_⟩
  refine Subscript_ (thn (he.run pins s σ H _ I h) fun v s1 ⟨x, H1, I1, r1, q1⟩ => ?_)
  obtain ⟨a, xs, ex, hx, ⟨z1, z6⟩, q⟩ := q1
  subst ex
  cases r1
  have hlo : PO X (some (.Constant (.int 1) k0 p0)) (tPart (tC (.int 1))) := po_some pe_int
  have hst : PO X (some (.Constant (.int 2) k p2)) (tPart (tC (.int 2))) := po_some pe_int
  refine wpAny_Slice (thn (hlo.run pins s1 σ H1 (fun o H2 => o = some 1 ∧ H2 = H1) I1 ⟨1, rfl, rfl, rfl⟩) fun vl s2 ⟨l, H2, I2, pl, el, e2⟩ => ?_)
  subst el e2
  refine thn (po_none.run pins s2 σ H2 (fun o H3 => o = none ∧ H3 = H2) I2 ⟨rfl, rfl⟩) fun vu s3 ⟨u, H3, I3, pu, eu, e3⟩ => ?_
  subst eu e3
  refine thn (hst.run pins s3 σ H3 (fun o H4 => o = some 2 ∧ H4 = H3) I3 ⟨2, rfl, rfl, rfl⟩) fun vs s4 ⟨o, H4, I4, ps, eo, e4⟩ => ?_
  subst eo e4
  have I5 : Inv X pins σ H4 { s4 with heap := s4.heap.push { cls := .type "slice", data := .fields #[vl, vu, vs] } } := I4.kept (t' := s4.toks) fun b ob q => Heap.get?_push_of_some _ q
  obtain ⟨its, r, ht, hz⟩ := I5.tuple hx
  have hlen := r.length
  cases pl with
  | int _ tl =>
  cases pu
  cases ps with
  | int _ ts =>
  have hs := Heap.IsSliceOf.new s4.heap (.int 1 tl) .none (.int 2 ts)
  obtain ⟨os, hos, hcs, hds⟩ := id hs
  show wpAny (model X.prog X.w) X.A (subscriptTail e (.Slice (some (.Constant (.int 1) k0 p0)) none (some (.Constant (.int 2) k p2)) p3) (.ref a) (.ref s4.heap.objs.size)) (EP X pins σ Q) X.xe _
  refine tail_any (ops := [.ref a, .ref s4.heap.objs.size]) ht.typeIs (PyProof.Rows.slot_tuple_getitem.lookup) ?_ (by with_unfolding_all rfl)
  refine getItem_tuple_by (zs := ods its) (lo := 1) (st := 2) (cnt := Builtin.Slice.slicePlaces 1 (its.length : Nat) 2) ht ⟨os, hos, hcs⟩ (fun A' E' Q' hq => by rw [List.size_toArray]; exact sliceApplied_two1 (n := its.length) (by omega) hs hq) (by rw [show ((2 : Int) == 1) = false by decide, Bool.and_false, Bool.false_and]) (by exact pick_ods its (by omega) (by omega)) (Nat.le_trans (ods_len its) (by rw [← hlen]; exact Nat.le_trans z6 (by decide))) ?_
  refine ⟨.ref _, _, I5.laid (t' := s4.toks) (o := .tup (ods xs)) (fun b ob q => Heap.get?_push_of_some _ q) (Nat.le_refl _) ?_, rfl, q _ (I5.hok.fresh (Nat.le_refl _))⟩
  exact ⟨Nat.le_trans (ods_len xs) hz, _, ods_pair r, _, Heap.get?_push_size _ rfl, rfl, _, rfl⟩
theorem rpall_evs {F : Fm} {H : Hp} : ∀ {ds : List PyData} {vs : List V}, RpAll F H vs ds → RpAll F H (evs vs) (evs ds)
  | [], _, h => by cases h; exact .nil
  | [_], _, h => by cases h with | cons h1 h2 => cases h2; exact .cons h1 .nil
  | a :: b :: r, _, h => by cases h with | cons h1 h2 => cases h2 with | cons h2 h3 => exact .cons h1 (rpall_evs h3)
theorem rpall_ods {F : Fm} {H : Hp} : ∀ {ds : List PyData} {vs : List V}, RpAll F H vs ds → RpAll F H (ods vs) (ods ds)
  | [], _, h => by cases h; exact .nil
  | [_], _, h => by cases h with | cons h1 h2 => cases h2; exact .nil
  | a :: b :: r, _, h => by cases h with | cons h1 h2 => cases h2 with | cons h2 h3 => exact .cons h2 (rpall_ods h3)
section
variable {F : Fm} {C : Cs} {ρ : Rho} {k : Nat} {Φ : Nat → PyData → Prop} {pos p p0 p1 p2 p3 : Pos} {a e : Expr} {jj j0 : Nat}
theorem we_stp0 (hK : F.K = C.K) (h : WPE F C a ρ k fun k1 x => ∃ ds, x = .tuple ds ∧ (1 ≤ ds.length ∧ ds.length ≤ 6) ∧ Φ k1 (.tuple (evs ds))) : WPE F C (.Subscript a (.Slice none none (some (.Constant (.int 2) jj p1)) p3) pos) ρ k Φ :=
  of_pe (t := tStp C.K (tE C a) evs) (fun X fx => by rw [← fx.K]; exact pe_stp0 (peE fx)) fun σ H Q en j q => by
    show tE C a σ H _
    refine h σ H _ en j fun v d k1 H1 l1 j1 r ⟨ds, e, hz, p⟩ => ?_
    subst e
    cases r with
    | @tup b xs _ hb hr => exact ⟨b, xs, rfl, hK ▸ sqt_of hb, by rw [hr.length]; exact hz, fun l hl => q _ _ k1 _ (l1.trans (.new hl)) (j1.new hl) (rep_newT j1 hl (rpall_evs hr)) p⟩
theorem we_stp1 (hK : F.K = C.K) (h : WPE F C a ρ k fun k1 x => ∃ ds, x = .tuple ds ∧ (1 ≤ ds.length ∧ ds.length ≤ 6) ∧ Φ k1 (.tuple (ods ds))) : WPE F C (.Subscript a (.Slice (some (.Constant (.int 1) j0 p0)) none (some (.Constant (.int 2) jj p1)) p3) pos) ρ k Φ :=
  of_pe (t := tStp C.K (tE C a) ods) (fun X fx => by rw [← fx.K]; exact pe_stp1 (peE fx)) fun σ H Q en j q => by
    show tE C a σ H _
    refine h σ H _ en j fun v d k1 H1 l1 j1 r ⟨ds, e, hz, p⟩ => ?_
    subst e
    cases r with
    | @tup b xs _ hb hr => exact ⟨b, xs, rfl, hK ▸ sqt_of hb, by rw [hr.length]; exact hz, fun l hl => q _ _ k1 _ (l1.trans (.new hl)) (j1.new hl) (rep_newT j1 hl (rpall_ods hr)) p⟩
end
end Dl

namespace Dl
open PySem PySem.Spec PyProof.Rows L2
/-! ### sum of a tuple of ints -/
theorem cr_sumT {X : Cx} (hc : X.calm = true) : CallR X (.builtin "sum") (fun vs H Q => ∃ (a : Addr) (ns : List Int), vs = [V.ref a] ∧ SqT X.K H a (ns.map V.int) ∧ Q (.int ns.sum) H) := by
  intro pins s σ H vs us Q I r h
  obtain ⟨a, ns, rfl, hs, q⟩ := h
  obtain ⟨its, rv, ht, _⟩ := I.tuple hs
  rw [Vals.ref1 r]
  have hi := rv.ints
  obtain ⟨xs, e⟩ := hi.allInts.items
  have hn : numsOf (intItems xs).toList = ns := by rw [← e]; exact hi.numsOf
  rw [nums_intItems] at hn
  rw [e] at ht
  refine PySem.W.ktm_sumG (I.ok.hd hc) ht fun h' tk t' hk => ⟨.int _, H, I.kept hk, ⟨t', ?_⟩, q⟩
  rw [preSum_eq, List.take_of_length_le (by simp), hn]
theorem sumTK {X : Cx} {C : Cs} (fx : Fits C X) : CallR X (.builtin "sum") (fun vs H Q => ∃ (a : Addr) (ns : List Int), vs = [V.ref a] ∧ SqT C.K H a (ns.map V.int) ∧ Q (.int ns.sum) H) := by rw [← fx.K]; exact cr_sumT fx.calm
section
variable {F : Fm} {C : Cs} {ρ : Rho} {k : Nat} {Φ : Nat → PyData → Prop} {e : Expr} {pos p : Pos}
theorem we_sumT (hK : F.K = C.K) (hg : C.sc.names.lookup ("sum" : Str) = some .globalImplicit) (hm : C.mg ("sum" : Str) = none) (hs : ∀ env : Env, starEach [e] env = (false, eval e env) :: starEach [] env) (h : WPE F C e ρ k fun k1 x => ∃ ns : List Int, x = .tuple (ns.map PyData.int) ∧ Φ k1 (.int ns.sum)) : WPE F C (.Call (.Name "sum" p) [e] [] pos) ρ k Φ :=
  we_callB (id := "sum") (fun X fx => sumTK fx) hg hm (by decide +kernel) (wa_one hs (h.imp fun k1 x ⟨ns, e, p⟩ => fun H vs Q j r q => by
    subst e
    cases r with
    | cons r1 r2 =>
    cases r2
    cases r1 with
    | @tup a xs _ ha hr => exact ⟨a, ns, rfl, hr.ints ▸ hK ▸ sqt_of ha, q _ _ k1 H .refl j (.int _) p⟩)) (by decide) (by decide) hs
end
/-! ### x = [.. for v in range(e)] as an own list -/
def WN2 (F : Fm) (t : TE) (ρ : Rho) (k : Nat) (Φ : Nat → List PyData → Prop) : Prop :=
  ∀ (σ : L2.St) (H : Hp) (Q : VK), EnvOk F H σ ρ → J F k H → (∀ o vs ds k' H', EnvOk (F.ext o) H' σ ρ → J (F.ext o) k' H' → ¬ F.M o → ¬ F.S o → F.H0 o = none → H' o = some (.lst vs) → RpAll (F.ext o) H' vs ds → (∀ H2, Lz (F.ext o) H' H2 → Lz F H H2) → Φ k' ds → Q (.ref o) H') → t σ H Q
section
variable {F : Fm} {ρ : Rho} {k : Nat} {Φ : Nat → List PyData → Prop}
theorem wn_lcR (i : Nat) {tl : TE} {tt : TT} {te : TE}
    (h : WE F tl ρ k fun k1 d => ∃ (I : Nat → Nat → List PyData → Prop) (z : Int), d = .int z ∧ -(2 ^ 62) ≤ z ∧ z ≤ 1000000 ∧ I 0 k1 [] ∧ (∀ D (j : Nat) k' acc, j < z.toNat → I j k' acc → WT (F.ext D) tt (ρ.set i (.d (.int j))) k' fun k1 b => if b = true then WE (F.ext D) te (ρ.set i (.d (.int j))) k1 fun k2 z => I (j + 1) k2 (acc ++ [z]) else I (j + 1) k1 acc) ∧ (∀ k' acc, I z.toNat k' acc → Φ k' acc)) : WN2 F (tLc (iRng1 (tCons tl tNil)) (gName i) tt te [i]) ρ k Φ := fun σ H Q en j q => by
  show tl σ H _
  refine h σ H _ en j fun v d k1 H1 l1 j1 r hh => ?_
  obtain ⟨I, z, e, z1, z2, i0, hstep, hend⟩ := hh
  subst e
  cases r
  refine ⟨z, rfl, z1, by omega, fun D hD => ?_⟩
  have en1 := en.le l1
  have hM : ¬ F.M D := fun z => F.gl _ _ j1.g D z hD
  have hS : ¬ F.S D := j1.fresh hD
  have h0 : F.H0 D = none := j1.h0 hM hD
  have hne : ∀ (i : Nat) o xs, ρ[i]? = some (SV.own o xs) → o ≠ D := fun i o xs e => by
    obtain ⟨x, _, s⟩ := en1 i _ e
    obtain ⟨_, _, _, _, vs, h1, _⟩ := s
    exact ne_of_none h1 hD
  refine lc_range (lo := 0) (n := z.toNat) (fun n H' => ∃ k' vs acc, acc.length ≤ n ∧ EnvOk (F.ext D) H' σ ρ ∧ J (F.ext D) k' H' ∧ LeD (F.ext D) D (upd H1 D (.lst [])) H' ∧ H' D = some (.lst vs) ∧ RpAll (F.ext D) H' vs acc ∧ I n k' acc)
    ⟨k1, [], [], Nat.le_refl _, en1.ext hD, (j1.new hD).ext (lv_new fun _ z => nomatch z), .refl, upd_same, .nil, i0⟩ ?_ ?_
  · rintro n H' hn ⟨k', vs, acc, hle, en', j', ld, hd, ra, ii⟩
    rw [Int.zero_add]
    show (wipe ((wipe σ [i]).set i (some (.int n))) [i] = wipe σ [i] ∧ _)
    rw [set_wipe]
    refine ⟨wipe_set σ, ?_⟩
    refine lc_turn (F := F.ext D) (I := fun k acc => I (n + 1) k acc) hM (.inr rfl) h0 (en'.set (sv := .d (.int n)) ⟨_, rfl, .int n⟩) j' hd ra (Nat.lt_of_le_of_lt (show acc.length ≤ 1000000 by omega) (by decide)) (hstep D n k' acc hn ii) fun H2 k2 vs2 acc2 hl2 ld2 hd2 ra2 j2 i2 => ?_
    exact ⟨k2, vs2, acc2, by omega, en'.ld ld2 (.inr rfl) hne, j2, ld.trans ld2, hd2, ra2, i2⟩
  · rintro H' ⟨k', vs, acc, hle, en', j', ld, hd, ra, ii⟩
    have le : Le F H H' := fun b o n e => ld b o n (ne_of_none (l1 b o n e) hD) (by rw [upd_ne (ne_of_none (l1 b o n e) hD)]; exact l1 b o n e)
    refine q D vs acc k' H' en' j' hM hS h0 hd ra (fun H2 lz b u hb e => ?_) (hend k' acc ii)
    have e2 := le.lz b u hb e
    have ne : b ≠ D := ne_of_none (l1.lz b u hb e) hD
    exact lz b u (fun z => z.elim (fun y => y.elim (fun q => hb (.inl q)) ne) fun q => hb (.inr q)) e2
end
section
variable {F : Fm} {C : Cs} {ρ : Rho} {k : Nat} {P : DE} {pos spos : Pos} {elt : Expr} {scope : Scope} {rest : List Stmt}
/-- .. for two statements, then data again -/
theorem wb_ownR2 (i iy : Nat) {st st2 : Stmt} {x y : Str} {px py : Pos} (b : Blk C scope i x) (ty : Tgt C iy y) (hy : iy < ρ.length) (hyl : C.sc.names.lookup y = some .local) (hk : C.sc.kind = .function) (hl : (py.line == pos.line) = true) (ha : (scope.names.any fun (n, k) => n == y && (k == .local || k == .cell)) = false)
    {e : Expr} {pr pr2 : Pos} (hg : C.sc.names.lookup ("range" : Str) = some .globalImplicit) (hm : C.mg ("range" : Str) = none) (hse : ∀ env : Env, starEach [e] env = [(false, eval e env)]) (hfs : ∀ (env : Env) (v : Value), foldedSetIterable (.Call (.Name "range" pr) [e] [] pr2) env v = pure v)
    (h : WPE F C e ρ k fun k1 d => ∃ (I : Nat → Nat → List PyData → Prop) (z : Int), d = .int z ∧ -(2 ^ 62) ≤ z ∧ z ≤ 1000000 ∧ I 0 k1 [] ∧ (∀ D (j : Nat) k' acc, j < z.toNat → I j k' acc → WPE (F.ext D) (C.blk scope) elt (ρ.set i (.d (.int j))) k' fun k2 z => I (j + 1) k2 (acc ++ [z])) ∧
      (∀ k2 ds, I z.toNat k2 ds → ∀ o, WPS (F.ext o) C st (ρ.set iy (.own o ds)) k2 { nx := fun k' ρ' => WPS (F.ext o) C st2 ρ' k' { nx := fun k' ρ' => ∃ ys, ρ'[iy]? = some (.own o ys) ∧ (ρ'.set iy .un).all plainB = true ∧ WPB F C rest (ρ'.set iy (.d (.list ys))) k' P, rt := P.rt, bk := fun _ _ => False, ct := fun _ _ => False }, rt := P.rt, bk := fun _ _ => False, ct := fun _ _ => False })) :
    WPB F C (.Assign [.Name y py] (.ListComp elt [⟨.Name x px, (.Call (.Name "range" pr) [e] [] pr2), [], 0⟩] scope pos) spos :: st :: st2 :: rest) ρ k P :=
  of_pb (fun X fx => pss_cons (ps_lcX fx b ty hyl hk hl ha (pi_range1 (by show X.env.scope.names.lookup ("range" : Str) = _; rw [fx.sc]; exact hg) (by rw [fx.mg]; exact hm) (pa_cons (peE fx) pa_nil (hse X.env)) (hse X.env)) (fun _ _ => pts_nil) hfs) (pss_cons (psS fx) (pss_cons (psS fx) (pbB fx)))) fun σ H E en j q1 q2 q3 q4 => by
    have key := wn_lcR (Φ := fun k2 ds => ∀ o, WPS (F.ext o) C st (ρ.set iy (.own o ds)) k2 { nx := fun k' ρ' => WPS (F.ext o) C st2 ρ' k' { nx := fun k' ρ' => ∃ ys, ρ'[iy]? = some (.own o ys) ∧ (ρ'.set iy .un).all plainB = true ∧ WPB F C rest (ρ'.set iy (.d (.list ys))) k' P, rt := P.rt, bk := fun _ _ => False, ct := fun _ _ => False }, rt := P.rt, bk := fun _ _ => False, ct := fun _ _ => False }) i (h.imp fun k1 d ⟨I, z, e, z1, z2, i0, hs, he⟩ => ⟨I, z, e, z1, z2, i0, fun D j k' acc hj ii => wt_yes (by rw [if_pos rfl]; exact hs D j k' acc hj ii), he⟩)
    generalize tLc (iRng1 (tCons (tE C e) tNil)) (gName i) tYes (tE (C.blk scope) elt) [i] = t0 at key ⊢
    refine key σ H _ en j fun o xs ds k2 H2 en1 j2 hM hS h0 hd hr lzo p => ?_
    have en2 : EnvOk (F.ext o) H2 (σ.set iy (some (.ref o))) (ρ.set iy (.own o ds)) := en1.set (sv := .own o ds) ⟨rfl, .inr rfl, hM, h0, xs, hd, hr⟩
    refine p o (σ.set iy (some (.ref o))) H2 _ en2 j2 ?_ ?_ ?_ ?_
    · rintro ρ1 σ1 k1' H1' lz1 en1' j1' hst2
      refine hst2 σ1 H1' _ en1' j1' ?_ (fun v d k' H' j' r' p => q2 v d k' H' j'.unext r'.unext p) (fun _ _ _ _ _ _ _ z => z.elim) (fun _ _ _ _ _ _ _ z => z.elim)
      rintro ρ' σ' k' H' lz2 en' j' ⟨zs, hown, hpl, hrest⟩
      have lz := lz1.trans lz2
      have hlz := lzo H' lz
      obtain ⟨hσ', _, _, _, vs, hvs, rvs⟩ := en'.own hown
      have en3 : EnvOk F H' σ' (ρ'.set iy (.d (.list zs))) := by
        intro m sv em
        by_cases hj : iy = m
        · subst hj
          have hl : iy < ρ'.length := (List.getElem?_eq_some_iff.mp hown).1
          rw [List.getElem?_set_self hl] at em
          cases em
          exact ⟨_, hσ', _, rfl, .lst ⟨hvs, hS⟩ rvs.unext⟩
        · rw [List.getElem?_set_ne hj] at em
          obtain ⟨y, qy, sy⟩ := en' m sv em
          refine ⟨y, qy, ?_⟩
          cases sv with
          | un => trivial
          | d d => obtain ⟨v, z, r⟩ := sy; exact ⟨v, z, r.unext⟩
          | raw v => exact sy
          | own o' xs' => exact (noOwn_of hpl m o' xs' (Ne.symm hj) em).elim
      exact hrest σ' H' E en3 j'.unext (fun ρ2 σ2 k2 H2 l2 => q1 ρ2 σ2 k2 H2 (hlz.trans l2)) q2 (fun ρ2 σ2 k2 H2 l2 => q3 ρ2 σ2 k2 H2 (hlz.trans l2)) (fun ρ2 σ2 k2 H2 l2 => q4 ρ2 σ2 k2 H2 (hlz.trans l2))
    · exact fun v d k' H' j' r' p => q2 v d k' H' j'.unext r'.unext p
    · exact fun _ _ _ _ _ _ _ z => z.elim
    · exact fun _ _ _ _ _ _ _ z => z.elim
end
end Dl

namespace Dl
open PySem PySem.Spec PyProof.Rows L2
/-! ### a def as an argument, own.index(x), own.remove(x) -/
section
variable {X : Cx} {k i : Nat} {f : Addr} {fd : FuncData} {ps : List Str} {sp : Sp} {t : TA} {x : Str} {p pos : Pos} {e : Expr} {es : List Expr}
theorem FnG.peL (G : FnG X.prog X.w X.K X.mg X.base k f fd ps sp) (gd : X.A.guards = some []) (room : Room k X.A) (hb : L2.Binds X.K fd ps []) (hN : X.N[i]? = some x) (hv : Vis X.env.scope x) (kp : PySem.W.keepIn X.K (.ref f) = true)
    (ha : PA X (e :: es) t) (hdb : (x == ("__debug__" : Str)) = false) (hcd : (x == ("__classdict__" : Str)) = false) (hss : starEach (e :: es) X.env = (false, eval e X.env) :: starEach es X.env) (hpl : ((backTo pos (starEach es X.env)).any fun z => z.fst) = false) :
    PE X (.Call (.Name x p) (e :: es) [] pos) (fun σ H Q => σ[i]? = some (some (.ref f)) ∧ t σ H fun vs H1 => sp vs H1 Q E0) := by
  constructor
  intro pins s σ H Q I h
  obtain ⟨hs, ht⟩ := h
  refine wpAny_Call_Name_kw (thn ((pe_var (pos := p) hN hv hdb hcd).run pins s σ H (fun v H1 => v = .ref f ∧ H1 = H) I ⟨.ref f, hs, rfl, rfl⟩) fun u s1 ⟨v, H1, I1, r1, q1⟩ => ?_)
  obtain ⟨rfl, rfl⟩ := q1
  cases r1
  refine PySem.W.callWith_K (h₀ := X.base) I.ok.mod.kin kp (wpAny_mono (ha.run pos pins s1 σ _ _ I1 ht) ?_ fun _ _ z => z) hss hpl
  rintro us s2 ⟨vs, H2, I2, rv, q⟩
  exact ⟨I2.kIn, G.call_run gd room hb I2 rv q⟩
end
theorem rep_intL {K : PySem.W.Frag} {S : Addr → Prop} {H : Hp} : ∀ ns : List Int, RepAll K S H (ns.map V.int) (ns.map PyData.int)
  | [] => .nil
  | n :: ns => .cons (.int n) (rep_intL ns)
structure HeldF (P : Program) (w : World) (K : PySem.W.Frag) (mg : Str → Option Value) (base : Heap) (lvl : Nat) (fa : Addr) (R : Rel) : Prop where
  ex : ∃ (fd : FuncData) (ps : List Str), FnG P w K mg base lvl fa fd ps (spPure K R) ∧ PySem.W.keepIn K (.ref fa) = true ∧ L2.Binds K fd ps []
section
variable {F : Fm} {C : Cs} {ρ : Rho} {k : Nat} {P : DE} {Φ : Nat → PyData → Prop} {e : Expr} {es : List Expr} {pos p ap cp px : Pos} {x y : Str}
/-- a call of a name that holds a def that only reads -/
theorem we_callL {R : Rel} {j : Nat} {fa : Addr} (hF : HeldF C.P C.w C.K C.mg C.base j fa R) (hl : j ≤ C.lvl) (hK : F.K = C.K) (i : Nat) (hN : C.N[i]? = some x) (hv : Vis C.sc x) (hr : ρ[i]? = some (.raw (.ref fa)))
    (h : WPA F C (e :: es) ρ k fun k1 ds => ∃ d, R ds d ∧ Φ k1 d) (hdb : (x == ("__debug__" : Str)) = false := by decide) (hcd : (x == ("__classdict__" : Str)) = false := by decide) (hss : ∀ env : Env, starEach (e :: es) env = (false, eval e env) :: starEach es env := by intro _; rfl) (hpl : ∀ env : Env, ((backTo pos (starEach es env)).any fun x => x.fst) = false := by intro _; rfl) :
    WPE F C (.Call (.Name x p) (e :: es) [] pos) ρ k Φ := by
  obtain ⟨fd, ps, G, kp, hb⟩ := hF.ex
  refine of_pe (fun X fx => FnG.peL (i := i) (by rw [fx.P, fx.w, fx.K, fx.mg, fx.base]; exact G) fx.gd (fx.room.mono hl) (by rw [fx.K]; exact hb) (by rw [fx.N]; exact hN) (by rw [fx.sc]; exact hv) (by rw [fx.K]; exact kp) (paA fx) hdb hcd (hss X.env) (hpl X.env)) fun σ H Q en jj q => ?_
  refine ⟨en.raw hr, ?_⟩
  refine h σ H _ en jj fun vs ds k1 H1 l1 j1 r1 ⟨d, hR, p⟩ => ?_
  refine ⟨F.S, ds, d, j1.al, hK ▸ r1, hR, fun v H' sm rv => ?_⟩
  have le : Le F H1 H' := fun b o _ e => sm b o e
  refine q v d k1 H' (l1.trans le) ⟨F.gm _ _ _ j1.g (fun b hb => ?_) (fun b o _ e => sm b o e), fun b o n e => sm b o (j1.le b o n e), fun b hb => (j1.al b hb).keep fun o e => sm b o e⟩ (by show Rep F.K F.S H' v d; rw [hK]; exact rv) p
  cases e : H1 b with
  | none => exact absurd e (F.gl _ _ j1.g b hb)
  | some o => exact sm b o e
/-- own.index(e), ints, e among them -/
theorem we_ixOfOwn (i : Nat) {o : Addr} {ns : List Int} (hN : C.N[i]? = some x) (hv : Vis C.sc x) (hr : ρ[i]? = some (.own o (ns.map PyData.int))) (hse : ∀ env : Env, starEach [e] env = (false, eval e env) :: starEach [] env)
    (h : WPE F C e ρ k fun k1 d => ∃ (z : Int) (j : Nat), d = .int z ∧ ns[j]? = some z ∧ (∀ m < j, ns[m]? ≠ some z) ∧ Φ k1 (.int (j : Int)))
    (hd : (x == ("__debug__" : Str)) = false := by decide) (hcd : (x == ("__classdict__" : Str)) = false := by decide)
    (hbm : ∀ X : Cx, ∀ {to : TE} {t : TA}, PE X (.Name x px) to → PA X [e] t → PE X (.Call (.Attribute (.Name x px) "index" ap) [e] [] cp) (tBM X.K "list" (rIndex X.K) to t) := by exact fun X {to t} h1 h2 => pe_bm PySem.F.plainAttrs_list PySem.F.slot_list_index PySem.F.type_list_index mt_index h1 h2) :
    WPE F C (.Call (.Attribute (.Name x px) "index" ap) [e] [] cp) ρ k Φ :=
  of_pe (t := tBM C.K "list" (rIndex C.K) (tVar i) (tCons (tE C e) tNil)) (fun X fx => by rw [← fx.K]; exact hbm X (pe_var (by rw [fx.N]; exact hN) (by rw [fx.sc]; exact hv) hd hcd) (pa_cons (peE fx) pa_nil (hse X.env))) fun σ H Q en j q => by
    obtain ⟨hσ, hS, hM, h0, vs, hv', rv⟩ := en.own hr
    refine ⟨_, hσ, .inl ⟨rfl, _, SqL.of hv'⟩, ?_⟩
    show tE C e σ H _
    refine h σ H _ en j fun v d k1 H1 l1 j1 r1 ⟨z, i2, ed, hi, hm, p⟩ => ?_
    subst ed
    cases r1
    have hv1 : H1 o = some (.lst vs) := l1 o _ (Fm.mxA hM) hv'
    have hrv : vs = ns.map V.int := rep_vints rv
    subst hrv
    refine ⟨o, ns.map V.int, .int z, i2, .int z, rfl, rfl, SqL.of hv1, rfl, List.all_eq_true.mpr fun v hv => ?_, by rw [List.getElem?_map, hi]; rfl, ?_⟩
    · obtain ⟨t, _, rfl⟩ := List.mem_map.mp hv
      rfl
    refine ⟨by show (z == z) = true; exact beq_self_eq_true z, fun m y hmi hz => ?_, q _ _ k1 H1 l1 j1 (.int _) p⟩
    rw [List.getElem?_map, Option.map_eq_some_iff] at hz
    obtain ⟨t, ht, rfl⟩ := hz
    show (t == z) = false
    exact beq_eq_false_iff_ne.mpr fun c => hm m hmi (c ▸ ht)
/-- own.remove(e), ints, e among them -/
theorem ws_remove (i : Nat) {o : Addr} {ns : List Int} (hN : C.N[i]? = some x) (hv : Vis C.sc x) (hr : ρ[i]? = some (.own o (ns.map PyData.int))) (hno : NoW ρ i o)
    (hse : ∀ env : Env, starEach [e] env = (false, eval e env) :: starEach [] env)
    (h : WPE F C e ρ k fun k1 d => ∃ z : Int, d = .int z ∧ z ∈ ns ∧ P.nx k1 (ρ.set i (.own o ((ns.erase z).map PyData.int))))
    (hsw : ∀ env : Env, swapsWith (.Call (.Attribute (.Name x px) "remove" ap) [e] [] cp) none pos.line env = pure false)
    (hba : ∀ env : Env, attributeBase (.Name x px) "remove" env (eval (.Name x px) env) = eval (.Name x px) env)
    (hfew : ∀ env : Env, ((backTo cp (starEach [e] env)).all (fun x => !x.1) && (backToKw cp (keywordEach [] env)).all (fun x => x.1.isSome)
      && decide (([e] : List Expr).length + ([] : List Keyword).length + (if ([] : List Keyword).isEmpty then 0 else 1) < 30)) = true)
    (hline : (ap.endLine == cp.line) = true) (hd : (x == ("__debug__" : Str)) = false := by decide) (hcd : (x == ("__classdict__" : Str)) = false := by decide) :
    WPS F C (.Expr (.Call (.Attribute (.Name x px) "remove" ap) [e] [] cp) pos) ρ k P :=
  of_ps (t := tDrop (tRemX C.K (fun _ _ _ _ => False) (tVar i) (tE C e))) (fun X fx => ps_expr (by
      rw [← fx.K]
      exact pe_remX fx.calm (fun u s' ⟨a, B, sI, pins, σ, H, cls, d, e, I, nb, up, sky, na, os, ag, w⟩ => w.elim) (pe_var (by rw [fx.N]; exact hN) (by rw [fx.sc]; exact hv) hd hcd) (peE fx) (hba X.env) (hfew X.env) hline (hse X.env)) (hsw X.env)) fun σ H E en j q1 q2 q3 q4 => by
    obtain ⟨hσ, hS, hM, h0, vs, hv', rv⟩ := en.own hr
    refine ⟨_, hσ, .inl ⟨rfl, _, SqL.of hv'⟩, ?_⟩
    show tE C e σ H _
    refine h σ H _ en j fun v d k1 H1 l1 j1 r1 ⟨z, ed, hz, p⟩ => ?_
    subst ed
    cases r1
    have hv1 : H1 o = some (.lst vs) := l1 o _ (Fm.mxA hM) hv'
    have hrv : vs = ns.map V.int := rep_vints rv
    subst hrv
    refine ⟨o, ns, z, rfl, rfl, hv1, fun _ => ?_, fun c => absurd hz c⟩
    refine q1 _ σ k1 _ ?_ ((en.le l1).ownSet2 hr hno (rep_intL _)) (j1.own hM h0 (pl_lst hv1)) p
    exact fun b u hb z => by rw [upd_ne (show b ≠ o from fun y => hb (.inl (y ▸ hS)))]; exact l1.lz b u hb z
end
/-! ### two own lists: x = y.pop(e), y = [.. for x in own if c] -/
section
variable {F : Fm} {C : Cs} {ρ : Rho} {k : Nat} {P : DE} {Φ : Nat → List PyData → Prop} {pos spos p px py p0 ps ap cp : Pos} {x y sn : Str} {rest : List Stmt} {e c elt : Expr} {o : Addr} {scope : Scope}
theorem EnvOk.ownLd2 {H H' : Hp} {σ : L2.St} {i : Nat} {xs ys : List PyData} {ws : List V} (en : EnvOk F H σ ρ) (e : ρ[i]? = some (.own o xs)) (hno : NoW ρ i o) (l : LeD F o H H') (hw : H' o = some (.lst ws)) (r : RpAll F H' ws ys) : EnvOk F H' σ (ρ.set i (.own o ys)) := by
  obtain ⟨hσ, hS, hM, h0, vs, hv, rv⟩ := en.own e
  intro j sv ej
  by_cases hj : i = j
  · subst hj
    have hl : i < ρ.length := (List.getElem?_eq_some_iff.mp e).1
    rw [List.getElem?_set_self hl] at ej
    cases ej
    exact ⟨_, hσ, rfl, hS, hM, h0, ws, hw, r⟩
  · rw [List.getElem?_set_ne hj] at ej
    obtain ⟨z, q, s⟩ := en j sv ej
    refine ⟨z, q, ?_⟩
    cases sv with
    | un => trivial
    | d d => obtain ⟨v, z, r⟩ := s; exact ⟨v, z, r.le (l.lz hS)⟩
    | raw v => exact s
    | own o' xs' =>
      obtain ⟨e1, s1, m1, z1, vs1, h1, r1⟩ := s
      exact ⟨e1, s1, m1, z1, vs1, l o' _ (Fm.mxA m1) (hno j o' xs' (Ne.symm hj) ej) h1, r1.le (l.lz hS)⟩
theorem ws_popSet2 (i il : Nat) {xs : List PyData} (t : Tgt C i x) (hne : i ≠ il) (hN : C.N[il]? = some y) (hv : Vis C.sc y) (hr : ρ[il]? = some (.own o xs)) (hno : NoW ρ il o) (hz : xs.length ≤ 1000000)
    (hse : ∀ env : Env, starEach [e] env = (false, eval e env) :: starEach [] env)
    (hs : ∀ env : Env, env.scope = C.sc → swapsWith (.Call (.Attribute (.Name y py) "pop" ap) [e] [] cp) (some (.Name x px)) pos.line env = pure false)
    (h : WPE F C e ρ k fun k1 d => ∃ (n : Nat) (u : PyData), d = .int n ∧ xs[n]? = some u ∧ P.nx k1 ((ρ.set il (.own o (xs.eraseIdx n))).set i (.d u)))
    (hd : (y == ("__debug__" : Str)) = false := by decide) (hcd : (y == ("__classdict__" : Str)) = false := by decide)
    (hbm : ∀ X : Cx, ∀ {to : TE} {t : TA}, PE X (.Name y py) to → PA X [e] t → PE X (.Call (.Attribute (.Name y py) "pop" ap) [e] [] cp) (tBM X.K "list" rPopAt to t) := by exact fun X {to t} h1 h2 => pe_bm PySem.F.plainAttrs_list PySem.F.slot_list_pop PySem.F.type_list_pop mt_popAt h1 h2) :
    WPS F C (.Assign [.Name x px] (.Call (.Attribute (.Name y py) "pop" ap) [e] [] cp) pos) ρ k P :=
  of_ps (fun X fx => ps_set (by rw [fx.N]; exact t.hN) (by rw [fx.N]; exact t.hi) (by rw [fx.sc]; exact t.hx) (pePop (x := y) il fx hN hv hse hd hcd hbm) (hs X.env fx.sc) (by rw [fx.fn, fx.sc]; exact t.hf)) fun σ H E en j q1 _ _ _ => by
    refine wx_pop (Ξ := fun k1 ys u => P.nx k1 ((ρ.set il (.own o ys)).set i (.d u))) il hr hz (h.imp fun k1 d ⟨n, u, e1, e2, p⟩ => ⟨n, u, e1, e2, p⟩) σ H _ en j fun v d k' ys ws H' l hw r j' rv p => ?_
    have hSo := (en.own hr).2.1
    exact q1 _ (σ.set i (some v)) k' H' (l.lz hSo) ((en.ownLd2 hr hno l hw r).set (sv := .d d) ⟨v, rfl, rv⟩) j' p
theorem wn_lcO (i il : Nat) {K : PySem.W.Frag} (hK : F.K = K) {tt : TT} {te : TE} {ds : List PyData} (hr : ρ[il]? = some (.own o ds)) (hz : ds.length ≤ 1000000)
    (h : ∃ I : Nat → Nat → List PyData → Prop, I 0 k [] ∧ (∀ D (j : Nat) (y : PyData) k' acc, ds[j]? = some y → I j k' acc → WT (F.ext D) tt (ρ.set i (.d y)) k' fun k1 b => if b = true then WE (F.ext D) te (ρ.set i (.d y)) k1 fun k2 z => I (j + 1) k2 (acc ++ [z]) else I (j + 1) k1 acc) ∧ (∀ k' acc, I ds.length k' acc → Φ k' acc)) : WN2 F (tLc (iList K (tVar il)) (gName i) tt te [i]) ρ k Φ := fun σ H Q en j1 q => by
  obtain ⟨hσ, hSo, hMo, h0o, xs, hv0, rv0⟩ := en.own hr
  obtain ⟨I, i0, hstep, hend⟩ := h
  refine ⟨_, hσ, o, rfl, ⟨xs, SqL.of hv0⟩, fun D hD => ?_⟩
  have hM : ¬ F.M D := fun z => F.gl _ _ j1.g D z hD
  have hS : ¬ F.S D := j1.fresh hD
  have h0 : F.H0 D = none := j1.h0 hM hD
  have hoD : o ≠ D := ne_of_none hv0 hD
  have hne : ∀ (i : Nat) o xs, ρ[i]? = some (SV.own o xs) → o ≠ D := fun i o xs e => by
    obtain ⟨x, _, s⟩ := en i _ e
    obtain ⟨_, _, _, _, vs, h1, _⟩ := s
    exact ne_of_none h1 hD
  have hr' : RpAll (F.ext D) (upd H D (.lst [])) xs ds := rv0.ext hD
  refine lc_list (xs := xs) (fun n H' => ∃ k' vs acc, acc.length ≤ n ∧ EnvOk (F.ext D) H' σ ρ ∧ J (F.ext D) k' H' ∧ LeD (F.ext D) D (upd H D (.lst [])) H' ∧ H' D = some (.lst vs) ∧ RpAll (F.ext D) H' vs acc ∧ I n k' acc)
    ⟨k, [], [], Nat.le_refl _, en.ext hD, (j1.new hD).ext (lv_new fun _ z => nomatch z), .refl, upd_same, .nil, i0⟩ ?_ ?_ ?_
  · rintro n H' _ ⟨k', vs, acc, _, _, _, ld, _⟩
    exact SqL.of (ld o _ (Fm.mxA (F := F.ext D) hMo) hoD (by rw [upd_ne hoD]; exact hv0))
  · rintro n v H' hv ⟨k', vs, acc, hle, en', j', ld, hd, ra, ii⟩
    obtain ⟨y, hy, ry⟩ := hr'.got hv
    show (wipe ((wipe σ [i]).set i (some v)) [i] = wipe σ [i] ∧ _)
    rw [set_wipe]
    refine ⟨wipe_set σ, ?_⟩
    have hn : n < ds.length := (List.getElem?_eq_some_iff.mp hy).1
    refine lc_turn (F := F.ext D) (I := fun k acc => I (n + 1) k acc) hM (.inr rfl) h0 (en'.set (sv := .d y) ⟨v, rfl, ry.le (ld.lz (.inr rfl))⟩) j' hd ra (Nat.lt_of_le_of_lt (show acc.length ≤ 1000000 by omega) (by decide)) (hstep D n y k' acc hy ii) fun H2 k2 vs2 acc2 hl2 ld2 hd2 ra2 j2 i2 => ?_
    exact ⟨k2, vs2, acc2, by omega, en'.ld ld2 (.inr rfl) hne, j2, ld.trans ld2, hd2, ra2, i2⟩
  · rintro H' ⟨k', vs, acc, hle, en', j', ld, hd, ra, ii⟩
    have le : Le F H H' := fun b o n e => ld b o n (ne_of_none e hD) (by rw [upd_ne (ne_of_none e hD)]; exact e)
    refine q D vs acc k' H' en' j' hM hS h0 hd ra (fun H2 lz b u hb e => ?_) (hend k' acc (by rw [← hr'.length]; exact ii))
    have e2 := le.lz b u hb e
    have ne : b ≠ D := ne_of_none e hD
    exact lz b u (fun z => z.elim (fun y => y.elim (fun q => hb (.inl q)) ne) fun q => hb (.inr q)) e2
/-- y = [elt for x in own if c] as an own list too -/
theorem wb_ownCO (i iy il : Nat) {ds : List PyData} (b : Blk C scope i x) (ty : Tgt C iy y) (hy : iy < ρ.length) (hyl : C.sc.names.lookup y = some .local) (hk : C.sc.kind = .function) (hl2 : (py.line == pos.line) = true) (ha : (scope.names.any fun (n, k) => n == y && (k == .local || k == .cell)) = false) (hK : F.K = C.K)
    (hN : C.N[il]? = some sn) (hv : Vis C.sc sn) (hr : ρ[il]? = some (.own o ds)) (hz : ds.length ≤ 1000000) (hfs : ∀ (env : Env) (v : Value), foldedSetIterable (.Name sn ps) env v = pure v)
    (h : ∃ I : Nat → Nat → List PyData → Prop, I 0 k [] ∧ (∀ D (j : Nat) (y : PyData) k' acc, ds[j]? = some y → I j k' acc → WPT (F.ext D) (C.blk scope) c (ρ.set i (.d y)) k' fun k1 b => if b = true then WPE (F.ext D) (C.blk scope) elt (ρ.set i (.d y)) k1 fun k2 z => I (j + 1) k2 (acc ++ [z]) else I (j + 1) k1 acc) ∧
      (∀ k2 es, I ds.length k2 es → ∀ o2, o2 ≠ o → WPB (F.ext o2) C rest (ρ.set iy (.own o2 es)) k2 { nx := fun _ _ => False, rt := P.rt, bk := fun _ _ => False, ct := fun _ _ => False }))
    (hd : (sn == ("__debug__" : Str)) = false := by decide) (hcd : (sn == ("__classdict__" : Str)) = false := by decide) :
    WPB F C (.Assign [.Name y py] (.ListComp elt [⟨.Name x px, .Name sn ps, [c], 0⟩] scope pos) spos :: rest) ρ k P :=
  of_pb (fun X fx => pss_cons (ps_lcX fx b ty hyl hk hl2 ha (show PI X (.Name x px) (.Name sn ps) (iList C.K (tVar il)) by rw [← fx.K]; exact pi_list (pe_var (i := il) (by rw [fx.N]; exact hN) (by rw [fx.sc]; exact hv) hd hcd)) (fun X' fx' => pts_one (ptT fx')) hfs) (pbB fx)) fun σ H E en j q1 q2 q3 q4 => by
    obtain ⟨I, i0, hs, he⟩ := h
    obtain ⟨_, _, _, _, vs0, hv0, _⟩ := en.own hr
    have key := wn_lcO (K := C.K) (Φ := fun k2 es => ∀ o2, o2 ≠ o → WPB (F.ext o2) C rest (ρ.set iy (.own o2 es)) k2 { nx := fun _ _ => False, rt := P.rt, bk := fun _ _ => False, ct := fun _ _ => False }) i il hK hr hz ⟨I, i0, hs, he⟩
    generalize tLc (iList C.K (tVar il)) (gName i) (tT (C.blk scope) c) (tE (C.blk scope) elt) [i] = t0 at key ⊢
    refine key σ H _ en j fun o2 xs ds2 k2 H2 en1 j2 hM hS h0 hd2 hr2 lzo p => ?_
    have ne : o2 ≠ o := fun z => by
      obtain ⟨_, hSo, _⟩ := en.own hr
      exact hS (z ▸ hSo)
    have en2 : EnvOk (F.ext o2) H2 (σ.set iy (some (.ref o2))) (ρ.set iy (.own o2 ds2)) := en1.set (sv := .own o2 ds2) ⟨rfl, .inr rfl, hM, h0, xs, hd2, hr2⟩
    refine p o2 ne (σ.set iy (some (.ref o2))) H2 _ en2 j2 ?_ ?_ ?_ ?_
    · exact fun _ _ _ _ _ _ _ z => z.elim
    · exact fun v d k' H' j' r' p => q2 v d k' H' j'.unext r'.unext p
    · exact fun _ _ _ _ _ _ _ z => z.elim
    · exact fun _ _ _ _ _ _ _ z => z.elim
end
/-! ### a def that draws, its last argument a def -/
def spDrawF (K : PySem.W.Frag) (f : Addr) (cost : Nat) (Pre : List PyData → Prop) (R : Rel) : Sp := fun vs H Q _ => ∃ (S : Addr → Prop) (st a r : Addr) (v1 v2 : V) (d1 d2 : PyData) (k : Nat), vs = [.ref st, v1, v2, .ref f] ∧ DkG st a r (k + cost) H ∧ (∀ b, S b → Lv H b) ∧ (∀ b, DkM st a r b → S b) ∧ Rep K S H v1 d1 ∧ Rep K S H v2 d2 ∧ Pre [d1, d2] ∧
  ∀ v d H', (∀ b o, ¬ DkM st a r b → H b = some o → H' b = some o) → DkG st a r k H' → Rep K S H' v d → R [d1, d2] d → Q v H'
structure DFnF (P : Program) (w : World) (K : PySem.W.Frag) (mg : Str → Option Value) (base : Heap) (lvl : Nat) (x : Str) (f : Addr) (cost : Nat) (Pre : List PyData → Prop) (R : Rel) : Prop where
  ex : ∃ (fa : Addr) (fd : FuncData) (ps : List Str), FnG P w K mg base lvl fa fd ps (spDrawF K f cost Pre R) ∧ mg x = some (.ref fa) ∧ PySem.W.keepIn K (.ref fa) = true ∧ L2.Binds K fd ps []
section
variable {P : Program} {w : World} {K : PySem.W.Frag} {mg : Str → Option Value} {base : Heap}
theorem draw_okF {x qual : Str} {st : Stmt} {f g : Addr} {fd : FuncData} {N ps : List Str} {k cost : Nat} {Pre : List PyData → Prop} {R : Rel} (Fn : Fun K x qual st f fd) (Sc : FnScope N ps (defScope st)) (len : ps.length = 4)
    (body : ∀ (F : Fm) (s a r : Addr) (d1 d2 : PyData) (kk : Nat), IsDk F s a r → F.K = K → Pre [d1, d2] → WPB F (bodyCs P w K mg base N (defScope st) k) (defBody st) (.raw (.ref s) :: .d d1 :: .d d2 :: .raw (.ref g) :: List.replicate (N.length - 4) SV.un) (kk + cost) { nx := fun k' _ => kk ≤ k' ∧ R [d1, d2] .none, rt := fun k' d => kk ≤ k' ∧ R [d1, d2] d, bk := fun _ _ => False, ct := fun _ _ => False }) :
    FnG P w K mg base (k + 1) f fd ps (spDrawF K g cost Pre R) := by
  refine FnG.of_body Fn Sc (fun vs H Q E h => ?_) (fun cdv A outer s H vs Q hgd hr h => ?_)
  · obtain ⟨S, st, a, r, v1, v2, d1, d2, k, rfl, _⟩ := h
    exact len.symm
  · obtain ⟨S, st, a, r, v1, v2, d1, d2, kk, rfl, g1, al, hS, r1, r2, hp, q⟩ := h
    refine ⟨_, pbB (fits_body hgd hr), ?_⟩
    refine body (drawFm K S H st a r hS) st a r d1 d2 kk ⟨rfl, rfl⟩ rfl hp (L2.start N [.ref st, v1, v2, .ref g]) H _ ?_ ⟨g1, fun b o _ e => e, al⟩ ?_ ?_ ?_ ?_
    · intro i sv e
      unfold L2.start
      match i, e with
      | 0, e => cases e; exact ⟨some (.ref st), rfl, rfl⟩
      | 1, e => cases e; exact ⟨some v1, rfl, v1, rfl, r1⟩
      | 2, e => cases e; exact ⟨some v2, rfl, v2, rfl, r2⟩
      | 3, e => cases e; exact ⟨some (.ref g), rfl, rfl⟩
      | i + 4, e =>
        have e' : (List.replicate (N.length - 4) SV.un)[i]? = some sv := e
        rw [List.getElem?_replicate] at e'
        by_cases hj : i < N.length - 4
        · rw [if_pos hj] at e'
          cases e'
          refine ⟨none, ?_, trivial⟩
          show (List.replicate (N.length - 4) none)[i]? = some none
          rw [List.getElem?_replicate, if_pos hj]
        · rw [if_neg hj] at e'; cases e'
    · exact fun ρ' σ' k' H' _ _ j' e => q _ .none H' (fun b o n h => j'.le b o (fun z => z.elim n id) h) (DkG.weak j'.g e.1) .non e.2
    · exact fun v d' k' H' j' r' e => q v d' H' (fun b o n h => j'.le b o (fun z => z.elim n id) h) (DkG.weak j'.g e.1) r' e.2
    · exact fun _ _ _ _ _ _ _ z => z.elim
    · exact fun _ _ _ _ _ _ _ z => z.elim
end
section
variable {F : Fm} {C : Cs} {ρ : Rho} {k : Nat} {Φ : Nat → PyData → Prop} {e1 e2 : Expr} {pos p py pf : Pos} {x y z : Str}
theorem we_callDF {s a r fg : Addr} (dk : IsDk F s a r) {j cost : Nat} {Pre : List PyData → Prop} {R : Rel} (hF : DFnF C.P C.w C.K C.mg C.base j x fg cost Pre R) (hl : j ≤ C.lvl) (hK : F.K = C.K) (i : Nat) (hg : C.sc.names.lookup x = some .globalImplicit) (hN : C.N[i]? = some y) (hv : Vis C.sc y) (hr : ρ[i]? = some (.raw (.ref s)))
    (hgz : C.sc.names.lookup z = some .globalImplicit) (hmz : C.mg z = some (.ref fg))
    (h1 : ∀ env : Env, starEach [e1, e2, .Name z pf] env = (false, eval e1 env) :: starEach [e2, .Name z pf] env) (h2 : ∀ env : Env, starEach [e2, .Name z pf] env = (false, eval e2 env) :: starEach [.Name z pf] env)
    (h : WPE F C e1 ρ k fun k1 d1 => WPE F C e2 ρ k1 fun k2 d2 => Pre [d1, d2] ∧ ∃ k3, k2 = k3 + cost ∧ ∀ d, R [d1, d2] d → Φ k3 d) (hdb : (x == ("__debug__" : Str)) = false := by decide) (hdz : (z == ("__debug__" : Str)) = false := by decide) (hd : (y == ("__debug__" : Str)) = false := by decide) (hcd : (y == ("__classdict__" : Str)) = false := by decide)
    (hss : ∀ env : Env, starEach [.Name y py, e1, e2, .Name z pf] env = (false, eval (.Name y py) env) :: starEach [e1, e2, .Name z pf] env := by intro _; rfl) (h3 : ∀ env : Env, starEach [.Name z pf] env = (false, eval (.Name z pf) env) :: starEach [] env := by intro _; rfl) (hpl : ∀ env : Env, ((backTo pos (starEach [e1, e2, .Name z pf] env)).any fun x => x.fst) = false := by intro _; rfl) :
    WPE F C (.Call (.Name x p) [.Name y py, e1, e2, .Name z pf] [] pos) ρ k Φ := by
  obtain ⟨fa, fd, ps, G, hm, kp, hb⟩ := hF.ex
  refine of_pe (t := fun σ H Q => (tCons (tVar i) (tCons (tE C e1) (tCons (tE C e2) (tCons (tC (.ref fg)) tNil)))) σ H fun vs H1 => spDrawF C.K fg cost Pre R vs H1 Q E0) (fun X fx => pe_callF fx G hl hg hm kp hb (pa_cons (pe_var (i := i) (by rw [fx.N]; exact hN) (by rw [fx.sc]; exact hv) hd hcd) (pa_cons (peE fx) (pa_cons (peE fx) (pa_cons (pe_glob (by show X.env.scope.names.lookup z = _; rw [fx.sc]; exact hgz) (by rw [fx.mg]; exact hmz) rfl hdz) pa_nil (h3 X.env)) (h2 X.env)) (h1 X.env)) (hss X.env)) hdb hss hpl) fun σ H Q en jj q => ?_
  refine ⟨_, en.raw hr, ?_⟩
  show tE C e1 σ H _
  refine h σ H _ en jj fun v1 d1 k1 H1 l1 j1 r1 hh => ?_
  show tE C e2 σ H1 _
  refine hh σ H1 _ (en.le l1) j1 fun v2 d2 k2 H2 l2 j2 r2 ⟨hp, k3, e, hf⟩ => ?_
  subst e
  show spDrawF C.K fg cost Pre R [.ref s, v1, v2, .ref fg] H2 Q E0
  refine ⟨F.S, s, a, r, v1, v2, d1, d2, k3, rfl, dk.G ▸ j2.g, j2.al, fun b hb => F.ms b (dk.M ▸ hb), hK ▸ (r1.le l2.lz : Rp F H2 v1 d1), hK ▸ r2, hp, fun v d H' keep g rv hR => ?_⟩
  have le : Le F H2 H' := fun b o n e => keep b o (fun z => n (.inl (by rw [dk.M]; exact z))) e
  refine q v d k3 H' ((l1.trans l2).trans le) ⟨by rw [dk.G]; exact g, fun b o n e => le b o n (j2.le b o n e), fun b hb => ?_⟩ (by show Rep F.K F.S H' v d; rw [hK]; exact rv) (hf d hR)
  by_cases hM : DkM s a r b
  · exact g.lv b hM
  · exact (j2.al b hb).keep fun o e => keep b o hM e
end
end Dl

set_option maxHeartbeats 8000000
namespace K84
open PySem PySem.Spec PyProof.Rows L2 Dl
def topS (i : Nat) : Stmt := PySem.Challenge.pw_cardboxes_k84_whole_edges_and_projection.main.body.getD i (.Pass ⟨0, 0, 0, 0⟩)
local macro_rules | `(tactic| walk_at "vis") => `(tactic| first | exact Or.inl rfl | exact Or.inr (Or.inl rfl) | exact Or.inr (Or.inr rfl))
local macro_rules | `(tactic| walk_at "blk") => `(tactic| exact ⟨blkOk_by (by dsimp only [bodyCs, Cs.blk]; decide +kernel), ⟨by dsimp only [bodyCs, Cs.blk]; decide +kernel, rfl, (by first | exact Or.inl rfl | exact Or.inr rfl), (by first | exact Or.inl rfl | exact Or.inr rfl)⟩⟩)
local macro_rules | `(tactic| walk_at "tgt") => `(tactic| exact ⟨by dsimp only [bodyCs, Cs.blk]; decide +kernel, rfl, (by first | exact Or.inl rfl | exact Or.inr rfl), (by first | exact Or.inl rfl | exact Or.inr rfl)⟩)
local macro_rules | `(tactic| walk_at "name") => `(tactic| first
  | ((with_reducible refine' we_name 0 ?n1 ?n2 ?n3 ?_); (case n1 => rfl); (case n2 => walk_at "vis"); (case n3 => rfl))
  | ((with_reducible refine' we_name 1 ?n1 ?n2 ?n3 ?_); (case n1 => rfl); (case n2 => walk_at "vis"); (case n3 => rfl))
  | ((with_reducible refine' we_name 2 ?n1 ?n2 ?n3 ?_); (case n1 => rfl); (case n2 => walk_at "vis"); (case n3 => rfl))
  | ((with_reducible refine' we_name 3 ?n1 ?n2 ?n3 ?_); (case n1 => rfl); (case n2 => walk_at "vis"); (case n3 => rfl))
  | ((with_reducible refine' we_name 4 ?n1 ?n2 ?n3 ?_); (case n1 => rfl); (case n2 => walk_at "vis"); (case n3 => rfl))
  | ((with_reducible refine' we_name 5 ?n1 ?n2 ?n3 ?_); (case n1 => rfl); (case n2 => walk_at "vis"); (case n3 => rfl))
  | ((with_reducible refine' we_name 6 ?n1 ?n2 ?n3 ?_); (case n1 => rfl); (case n2 => walk_at "vis"); (case n3 => rfl))
  | ((with_reducible refine' we_name 7 ?n1 ?n2 ?n3 ?_); (case n1 => rfl); (case n2 => walk_at "vis"); (case n3 => rfl))
  | ((with_reducible refine' we_name 8 ?n1 ?n2 ?n3 ?_); (case n1 => rfl); (case n2 => walk_at "vis"); (case n3 => rfl))
  | ((with_reducible refine' we_name 9 ?n1 ?n2 ?n3 ?_); (case n1 => rfl); (case n2 => walk_at "vis"); (case n3 => rfl))
  | ((with_reducible refine' we_name 10 ?n1 ?n2 ?n3 ?_); (case n1 => rfl); (case n2 => walk_at "vis"); (case n3 => rfl))
  | ((with_reducible refine' we_name 11 ?n1 ?n2 ?n3 ?_); (case n1 => rfl); (case n2 => walk_at "vis"); (case n3 => rfl))
  | ((with_reducible refine' we_name 12 ?n1 ?n2 ?n3 ?_); (case n1 => rfl); (case n2 => walk_at "vis"); (case n3 => rfl))
  | ((with_reducible refine' we_name 13 ?n1 ?n2 ?n3 ?_); (case n1 => rfl); (case n2 => walk_at "vis"); (case n3 => rfl))
  | ((with_reducible refine' we_name 14 ?n1 ?n2 ?n3 ?_); (case n1 => rfl); (case n2 => walk_at "vis"); (case n3 => rfl))
  | ((with_reducible refine' we_name 15 ?n1 ?n2 ?n3 ?_); (case n1 => rfl); (case n2 => walk_at "vis"); (case n3 => rfl)))
local macro_rules | `(tactic| walk_at "dl") => `(tactic| first
  | walk_at "name"
  | with_reducible refine we_int ?_
  | with_reducible refine we_bl ?_
  | with_reducible refine we_str ?_
  | with_reducible refine we_non ?_
  | with_reducible refine wb_cons ?_
  | with_reducible refine wb_nil ?_
  | with_reducible refine ws_ret ?_
  | with_reducible refine ws_retN ?_
  | with_reducible refine ws_if ?_
  | with_reducible refine wa_nil ?_
  | with_reducible refine we_add ?_
  | with_reducible refine we_sub ?_
  | with_reducible refine we_mul ?_
  | with_reducible refine we_fdiv ?_
  | with_reducible refine we_mod ?_
  | with_reducible refine we_shl ?_
  | with_reducible refine we_shr ?_
  | with_reducible refine we_pow ?_
  | with_reducible refine we_band ?_
  | with_reducible refine we_bor ?_
  | with_reducible refine we_bxor ?_
  | with_reducible refine we_neg ?_
  | with_reducible refine wt_lt ?_
  | with_reducible refine wt_le ?_
  | with_reducible refine wt_gt ?_
  | with_reducible refine wt_ge ?_
  | with_reducible refine we_lt ?_
  | with_reducible refine we_le ?_
  | with_reducible refine we_gt ?_
  | with_reducible refine we_ge ?_
  | with_reducible refine wt_not ?_
  | with_reducible refine wt_bool ?_
  | with_reducible refine ww_and ?_
  | with_reducible refine ww_or ?_
  | with_reducible refine ww_and1 ?_
  | with_reducible refine ww_or1 ?_
  | with_reducible refine we_and ?_
  | with_reducible refine we_or ?_
  | with_reducible refine we_one ?_
  | with_reducible refine we_not ?_
  | with_reducible refine we_tup ?_
  | with_reducible refine we_lst ?_
  | with_reducible refine we_isN ?_
  | with_reducible refine wt_isN ?_
  | ((with_reducible refine wa_cons ?s1 ?_); (case s1 => exact fun _ => rfl))
  | ((with_reducible refine we_len ?c1 ?c2 ?c3 ?c4 ?_); (case c1 => assumption); (case c2 => rfl); (case c3 => assumption); (case c4 => exact fun _ => rfl))
  | ((with_reducible refine we_tuple ?c1 ?c2 ?c3 ?c4 ?_); (case c1 => assumption); (case c2 => rfl); (case c3 => assumption); (case c4 => exact fun _ => rfl))
  | ((with_reducible refine we_list ?c1 ?c2 ?c3 ?c4 ?_); (case c1 => assumption); (case c2 => rfl); (case c3 => assumption); (case c4 => exact fun _ => rfl))
  | ((with_reducible refine we_repr ?c1 ?c2 ?c3 ?c4 ?_); (case c1 => assumption); (case c2 => rfl); (case c3 => assumption); (case c4 => exact fun _ => rfl))
  | ((with_reducible refine we_sum ?c1 ?c2 ?c3 ?c4 ?_); (case c1 => assumption); (case c2 => rfl); (case c3 => assumption); (case c4 => exact fun _ => rfl))
  | ((with_reducible refine we_sorted ?c1 ?c2 ?c3 ?c4 ?_); (case c1 => assumption); (case c2 => rfl); (case c3 => assumption); (case c4 => exact fun _ => rfl))
  | ((with_reducible refine we_min ?c1 ?c2 ?c3 ?c4 ?_); (case c1 => assumption); (case c2 => rfl); (case c3 => assumption); (case c4 => exact fun _ => rfl))
  | ((with_reducible refine we_abs ?c2 ?c3 ?c4 ?_); (case c2 => rfl); (case c3 => assumption); (case c4 => exact fun _ => rfl))
  | ((with_reducible refine we_intB ?c2 ?c3 ?c4 ?_); (case c2 => rfl); (case c3 => assumption); (case c4 => exact fun _ => rfl))
  | ((with_reducible refine' we_callP ?c1 ?c2 ?c3 ?c4 ?_ ?c5 ?c6 ?c7); (case c1 => assumption); (case c2 => exact Nat.le_of_ble_eq_true rfl); (case c3 => assumption); (case c4 => rfl); (case c5 => decide); (case c6 => exact fun _ => rfl); (case c7 => exact fun _ => rfl))
  | ((with_reducible refine' we_callD ?c0 ?c1 ?c2 ?c3 0 ?c4 ?c5 ?c6 ?c7 ?_ ?c8 ?c9 ?c10 ?c11 ?c12); (case c0 => first | assumption | exact IsDk.ext (by assumption) _ | exact IsDk.ext (IsDk.ext (by assumption) _) _); (case c1 => assumption); (case c2 => exact Nat.le_of_ble_eq_true rfl); (case c3 => assumption); (case c4 => rfl); (case c5 => rfl); (case c6 => walk_at "vis"); (case c7 => rfl); (case c8 => decide); (case c9 => decide); (case c10 => decide); (case c11 => exact fun _ => rfl); (case c12 => exact fun _ => rfl))
  | ((with_reducible refine' we_callD ?c0 ?c1 ?c2 ?c3 1 ?c4 ?c5 ?c6 ?c7 ?_ ?c8 ?c9 ?c10 ?c11 ?c12); (case c0 => first | assumption | exact IsDk.ext (by assumption) _ | exact IsDk.ext (IsDk.ext (by assumption) _) _); (case c1 => assumption); (case c2 => exact Nat.le_of_ble_eq_true rfl); (case c3 => assumption); (case c4 => rfl); (case c5 => rfl); (case c6 => walk_at "vis"); (case c7 => rfl); (case c8 => decide); (case c9 => decide); (case c10 => decide); (case c11 => exact fun _ => rfl); (case c12 => exact fun _ => rfl))
  | ((with_reducible refine we_ix ?c1 ?c2 ?_); (case c1 => assumption); (case c2 => exact fun _ _ => rfl)))
local macro_rules | `(tactic| walk_at "dx") => `(tactic| first
  | with_reducible refine tl0 ?_
  | with_reducible refine tl1 ?_
  | with_reducible refine tl2 ?_
  | with_reducible refine tl3 ?_
  | with_reducible refine tl4 ?_
  | with_reducible refine tl5 ?_
  | with_reducible refine tl6 ?_
  | with_reducible refine tl7 ?_
  | with_reducible refine ii2 ?_
  | with_reducible refine ii1 ?_
  | with_reducible refine ss2 ?_
  | with_reducible refine bb1 ?_
  | with_reducible refine sqT ?_
  | with_reducible refine sqL ?_
  | walk_at "dl")
def parts (n : Int) : List Int := (rg (n + 1)).filter fun i => decide (Builtin.bitAnd i n = i)
def Rparts : Rel := fun ds d => ∃ n : Int, ds = [.int n] ∧ (0 ≤ n ∧ n < 1000) ∧ d = .list ((parts n).map PyData.int)
theorem parts_len {n : Int} (h0 : 0 ≤ n) (h1 : n < 1000) : (parts n).length ≤ 1000 := by
  refine Nat.le_trans (List.length_filter_le _ _) ?_
  rw [rg_length]; omega


abbrev nSub : List Str := ["switches", "part"]
theorem scSub : FnScope nSub ["switches"] (defScope (topS 2)) := ⟨rfl, rfl, rfl, by decide +kernel, rfl, by decide +kernel, by decide +kernel⟩
section
variable {P : Program} {w : World} {K : PySem.W.Frag} {mg : Str → Option Value} {base : Heap}
theorem ok_sub {f : Addr} {fd : FuncData} (Fn : Fun K "subsets_of" "subsets_of" (topS 2) f fd) (mr : mg "range" = none) : FnG P w K mg base 1 f fd ["switches"] (spPure K Rparts) := by
  refine pure_ok (k := 0) Fn scSub (fun ds d ⟨n, e, _⟩ => by rw [e]; rfl) (fun F ds d hK ⟨n, e, hn, ed⟩ => ?_)
  subst e ed
  refine wb_cons (ws_ret (we_fR (fun i => decide (Builtin.bitAnd i n = i)) PyData.int 1 (by walk_at "blk") rfl mr (fun _ => rfl) (fun _ _ => rfl) ?_))
  repeat walk_at "dl"
  refine ⟨_, _, rfl, rfl, _, rfl, by omega, by omega, fun D j j0 j1 => ?_, rfl⟩
  refine wt_eqI ?_
  repeat walk_at "dl"
  refine ⟨_, _, rfl, rfl, ?_⟩
  repeat walk_at "dl"
  refine ⟨_, _, rfl, rfl, rfl, rfl, fun _ => ?_⟩
  repeat walk_at "dl"
  exact ⟨rfl, rfl⟩
end


abbrev nCube : List Str := ["cube", "base", "directions", "part"]
theorem scCube : FnScope nCube ["cube"] (defScope (topS 5)) := ⟨rfl, rfl, rfl, by decide +kernel, rfl, by decide +kernel, by decide +kernel⟩
def cubeCards (b q : Int) : List Int := (parts q).map fun i => b + i
def Rcube : Rel := fun ds d => ∃ b q : Int, ds = [.tuple [.int b, .int q]] ∧ (0 ≤ q ∧ q < 1000) ∧ d = .tuple ((cubeCards b q).map PyData.int)
section
variable {P : Program} {w : World} {K : PySem.W.Frag} {mg : Str → Option Value} {base : Heap}
theorem ok_cube {f : Addr} {fd : FuncData} (Fn : Fun K "cube_cards" "cube_cards" (topS 5) f fd) (mt : mg "tuple" = none) (gs : PFn P w K mg base 1 "subsets_of" Rparts) : FnG P w K mg base 2 f fd ["cube"] (spPure K Rcube) := by
  refine pure_ok (k := 1) Fn scCube (fun ds d ⟨b, q, e, _⟩ => by rw [e]; rfl) (fun F ds d hK ⟨b, q, e, hn, ed⟩ => ?_)
  subst e ed
  refine wb_cons (ws_asg2 1 2 (by decide) (by walk_at "tgt") (by walk_at "tgt") hK (fun _ => rfl) (fun _ => rfl) ?_)
  repeat walk_at "dl"
  refine ⟨_, _, rfl, ?_⟩
  repeat walk_at "dl"
  refine we_mL PyData.int (fun i => PyData.int (b + i)) 3 (by walk_at "blk") hK (fun _ _ => rfl) ?_
  repeat walk_at "dl"
  refine ⟨_, ⟨q, rfl, hn, rfl⟩, _, rfl, ?_, fun D j hj => ?_, _, rfl, ?_⟩
  · have := parts_len hn.1 hn.2; omega
  · repeat walk_at "dl"
    exact ⟨_, _, rfl, rfl, rfl, rfl⟩
  · show PyData.tuple _ = PyData.tuple _
    unfold cubeCards
    rw [List.map_map]; rfl
end


theorem band_nat (a b : Nat) : Builtin.bitAnd (a : Int) (b : Int) = ((a &&& b : Nat) : Int) := by
  rw [bitAnd_pp (by omega) (by omega), Int.toNat_natCast, Int.toNat_natCast]
def partsN (q : Nat) : List Nat := (List.range (q + 1)).filter fun i => decide (i &&& q = i)
theorem parts_nat (q : Nat) : parts (q : Int) = (partsN q).map fun (i : Nat) => (i : Int) := by
  unfold parts partsN rg
  rw [show ((q : Int) + 1).toNat = q + 1 by omega, List.filter_map]
  congr 1
  apply List.filter_congr
  intro i _
  show decide (Builtin.bitAnd (i : Int) (q : Int) = (i : Int)) = _
  rw [band_nat]
  by_cases h : i &&& q = i
  · rw [decide_eq_true h, decide_eq_true (by omega)]
  · rw [decide_eq_false h, decide_eq_false (by omega)]



theorem one_shl (n : Nat) : (1 : Int) * 2 ^ ((n : Int)).toNat = 2 ^ n := by rw [Int.one_mul, Int.toNat_natCast]
theorem pow_le64 {n : Nat} (h : n ≤ 6) : (2 : Int) ^ n ≤ 64 ∧ (1 : Int) ≤ 2 ^ n := by
  have : n = 0 ∨ n = 1 ∨ n = 2 ∨ n = 3 ∨ n = 4 ∨ n = 5 ∨ n = 6 := by omega
  rcases this with rfl | rfl | rfl | rfl | rfl | rfl | rfl <;> decide
def outside (n : Nat) (s : Int) : List Int := (rg (2 ^ n)).filter fun i => decide (Builtin.bitAnd i s = 0)
theorem find_at {α : Type} {p : α → Bool} : ∀ {xs : List α} {j : Nat} {x : α}, xs[j]? = some x → (∀ y ∈ xs.take j, p y = false) → p x = true → xs.find? p = some x
  | y :: ys, 0, x, e, _, h => by cases e; rw [List.find?_cons, h]
  | y :: ys, j + 1, x, e, ha, h => by
    rw [List.find?_cons, ha y (by simp)]
    exact find_at (j := j) (by simpa using e) (fun z hz => ha z (by rw [List.take_succ_cons]; exact List.mem_cons_of_mem _ hz)) h
  | [], j, x, e, _, _ => by simp at e
def missing (cs : List Int) (b q : Int) : Option Int := (cubeCards b q).find? fun c => !decide (c ∈ cs)
def missD (cs : List Int) (b q : Int) : PyData := match missing cs b q with
  | some c => .int c
  | none => .none
def basesL (n : Nat) (cs : List Int) (s : Int) : List Int := (outside n s).filter fun b => (missing cs b s).isNone
theorem ix0T (x : Int) (r : List Int) : ixD (.tuple ((x :: r).map PyData.int)) (.int 0) = some (.int x) := atI_nat (xs := (x :: r).map PyData.int) (j := 0) rfl
def boxD (n : Nat) (cs : List Int) : PyData := .tuple [.int (n : Int), .tuple (cs.map PyData.int)]
theorem mem_outside {n : Nat} {s i : Int} (h : i ∈ outside n s) : 0 ≤ i ∧ i < 2 ^ n := mem_rg.mp (List.mem_filter.mp h).1
theorem outside_len {n : Nat} (h : n ≤ 6) (s : Int) : (outside n s).length ≤ 64 := by
  refine Nat.le_trans (List.length_filter_le _ _) ?_
  rw [rg_length]
  have := pow_le64 h
  omega

abbrev nOut : List Str := ["n", "switches", "other"]
theorem scOut : FnScope nOut ["n", "switches"] (defScope (topS 3)) := ⟨rfl, rfl, rfl, by decide +kernel, rfl, by decide +kernel, by decide +kernel⟩
def Rout : Rel := fun ds d => ∃ (n : Nat) (s : Int), ds = [.int (n : Int), .int s] ∧ n ≤ 6 ∧ d = .list ((outside n s).map PyData.int)
section
variable {P : Program} {w : World} {K : PySem.W.Frag} {mg : Str → Option Value} {base : Heap}
theorem ok_out {f : Addr} {fd : FuncData} (Fn : Fun K "sets_outside" "sets_outside" (topS 3) f fd) (mr : mg "range" = none) : FnG P w K mg base 1 f fd ["n", "switches"] (spPure K Rout) := by
  refine pure_ok (k := 0) Fn scOut (fun ds d ⟨n, s, e, _⟩ => by rw [e]; rfl) (fun F ds d hK ⟨n, s, e, hn, ed⟩ => ?_)
  subst e ed
  refine wb_cons (ws_ret (we_fR (fun i => decide (Builtin.bitAnd i s = 0)) PyData.int 2 (by walk_at "blk") rfl mr (fun _ => rfl) (fun _ _ => rfl) ?_))
  repeat walk_at "dl"
  refine ⟨_, _, rfl, rfl, ⟨by omega, by omega, by decide⟩, ?_⟩
  rw [one_shl]
  have := pow_le64 hn
  refine ⟨_, rfl, by omega, by omega, fun D j j0 j1 => ?_, rfl⟩
  refine wt_eqI ?_
  repeat walk_at "dl"
  refine ⟨_, _, rfl, rfl, ?_⟩
  repeat walk_at "dl"
  refine ⟨_, _, rfl, rfl, rfl, rfl, fun _ => ?_⟩
  repeat walk_at "dl"
  exact ⟨rfl, rfl⟩
end

abbrev nMiss : List Str := ["cards", "cube", "card"]
theorem scMiss : FnScope nMiss ["cards", "cube"] (defScope (topS 6)) := ⟨rfl, rfl, rfl, by decide +kernel, rfl, by decide +kernel, by decide +kernel⟩
def Rmiss : Rel := fun ds d => ∃ (cs : List Int) (b q : Int), ds = [.tuple (cs.map PyData.int), .tuple [.int b, .int q]] ∧ (0 ≤ q ∧ q < 1000) ∧ d = missD cs b q
section
variable {P : Program} {w : World} {K : PySem.W.Frag} {mg : Str → Option Value} {base : Heap}
theorem ok_miss {f : Addr} {fd : FuncData} (Fn : Fun K "first_missing" "first_missing" (topS 6) f fd) (gc : PFn P w K mg base 2 "cube_cards" Rcube) : FnG P w K mg base 3 f fd ["cards", "cube"] (spPure K Rmiss) := by
  refine pure_ok (k := 2) Fn scMiss (fun ds d ⟨cs, b, q, e, _⟩ => by rw [e]; rfl) (fun F ds d hK ⟨cs, b, q, e, hq, ed⟩ => ?_)
  subst e ed
  refine wb_cons (ws_for_tup 2 (by walk_at "tgt") hK (fun _ _ => rfl) ?_)
  repeat walk_at "dl"
  refine ⟨_, ⟨b, q, rfl, hq, rfl⟩, ?_⟩
  refine ⟨fun j k ρ => (∀ y ∈ (cubeCards b q).take j, y ∈ cs) ∧ ∃ x, ρ = [.d (.tuple (cs.map PyData.int)), .d (.tuple [.int b, .int q]), x], _, rfl, ⟨by simp, _, rfl⟩, ?_, ?_⟩
  · rintro j y k ρ hy ⟨hin, x, rfl⟩
    rw [List.getElem?_map] at hy
    cases hc : (cubeCards b q)[j]? with
    | none => rw [hc] at hy; cases hy
    | some c =>
    rw [hc] at hy
    cases hy
    refine wb_cons (ws_if (wt_niI hK rfl ?_))
    repeat walk_at "dl"
    refine ⟨c, cs, rfl, rfl, iteB (fun h => ?_) (fun h => ?_)⟩
    · repeat walk_at "dl"
      show PyData.int c = missD cs b q
      unfold missD missing
      rw [find_at hc (fun y hy => by simp [hin y hy]) h]
    · repeat walk_at "dl"
      refine ⟨fun y hy => ?_, _, rfl⟩
      rw [take_next hc] at hy
      rcases List.mem_append.mp hy with hy | hy
      · exact hin y hy
      · have : y = c := by simpa using hy
        subst this
        simpa using h
  · rintro k ρ ⟨hin, x, rfl⟩
    repeat walk_at "dl"
    show PyData.none = missD cs b q
    unfold missD missing
    rw [List.find?_eq_none.mpr]
    intro y hy
    rw [List.length_map, List.take_length] at hin
    simp [hin y hy]
end

abbrev nBases : List Str := ["box", "switches", "n", "cards", "base"]
theorem scBases : FnScope nBases ["box", "switches"] (defScope (topS 7)) := ⟨rfl, rfl, rfl, by decide +kernel, rfl, by decide +kernel, by decide +kernel⟩
def Rbases : Rel := fun ds d => ∃ (n : Nat) (cs : List Int) (s : Int), ds = [boxD n cs, .int s] ∧ n ≤ 6 ∧ (0 ≤ s ∧ s < 1000) ∧ d = .tuple ((basesL n cs s).map PyData.int)
section
variable {P : Program} {w : World} {K : PySem.W.Frag} {mg : Str → Option Value} {base : Heap}
theorem ok_bases {f : Addr} {fd : FuncData} (Fn : Fun K "bases_of" "bases_of" (topS 7) f fd) (mt : mg "tuple" = none) (go : PFn P w K mg base 1 "sets_outside" Rout) (gm : PFn P w K mg base 3 "first_missing" Rmiss) : FnG P w K mg base 4 f fd ["box", "switches"] (spPure K Rbases) := by
  refine pure_ok (k := 3) Fn scBases (fun ds d ⟨n, cs, s, e, _⟩ => by rw [e]; rfl) (fun F ds d hK ⟨n, cs, s, e, hn, hs, ed⟩ => ?_)
  subst e ed
  refine wb_cons (ws_asg2 2 3 (by decide) (by walk_at "tgt") (by walk_at "tgt") hK (fun _ => rfl) (fun _ => rfl) ?_)
  repeat walk_at "dl"
  refine ⟨_, _, rfl, ?_⟩
  repeat walk_at "dl"
  refine we_fL (fun b => (missing cs b s).isNone) PyData.int PyData.int 4 (by walk_at "blk") hK (fun _ _ => rfl) ?_
  repeat walk_at "dl"
  refine ⟨_, ⟨n, s, rfl, hn, rfl⟩, _, rfl, ?_, fun D b hb => ?_, _, rfl, rfl⟩
  · have := outside_len hn s; omega
  · refine wt_isN ?_
    repeat walk_at "dl"
    refine ⟨by show 2 ≤ sizeLine; decide, ?_⟩
    repeat walk_at "dl"
    refine ⟨_, ⟨cs, b, s, rfl, hs, rfl⟩, rfl, ?_, fun _ => ?_⟩
    · unfold missD
      cases missing cs b s <;> rfl
    · repeat walk_at "dl"
      exact ⟨rfl, rfl⟩
end

abbrev nSolid : List Str := ["box", "switches"]
theorem scSolid : FnScope nSolid ["box", "switches"] (defScope (topS 8)) := ⟨rfl, rfl, rfl, by decide +kernel, rfl, by decide +kernel, by decide +kernel⟩
def solidB (n : Nat) (cs : List Int) (s : Int) : Bool := decide (0 < ((basesL n cs s).length : Int))
def Rsolid : Rel := fun ds d => ∃ (n : Nat) (cs : List Int) (s : Int), ds = [boxD n cs, .int s] ∧ n ≤ 6 ∧ (0 ≤ s ∧ s < 1000) ∧ d = .bool (solidB n cs s)
section
variable {P : Program} {w : World} {K : PySem.W.Frag} {mg : Str → Option Value} {base : Heap}
theorem ok_solid {f : Addr} {fd : FuncData} (Fn : Fun K "is_solid" "is_solid" (topS 8) f fd) (ml : mg "len" = none) (gb : PFn P w K mg base 4 "bases_of" Rbases) : FnG P w K mg base 5 f fd ["box", "switches"] (spPure K Rsolid) := by
  refine pure_ok (k := 4) Fn scSolid (fun ds d ⟨n, cs, s, e, _⟩ => by rw [e]; rfl) (fun F ds d hK ⟨n, cs, s, e, hn, hs, ed⟩ => ?_)
  subst e ed
  refine wb_cons (ws_ret ?_)
  repeat walk_at "dl"
  refine ⟨_, ⟨n, cs, s, rfl, hn, hs, rfl⟩, _, rfl, ?_⟩
  repeat walk_at "dl"
  refine ⟨_, _, rfl, rfl, ?_⟩
  rw [List.length_map]; rfl
end

abbrev nPow : List Str := ["_law_k", "_law_found", "_law_step"]
theorem scPow : FnScope nPow ["_law_k"] (defScope (topS 21)) := ⟨rfl, rfl, rfl, by decide +kernel, rfl, by decide +kernel, by decide +kernel⟩
def Rpow : Rel := fun ds d => ∃ n : Nat, ds = [.int n] ∧ n ≤ 60 ∧ d = .int (2 ^ n)
section
variable {P : Program} {w : World} {K : PySem.W.Frag} {mg : Str → Option Value} {base : Heap}
theorem ok_pow {f : Addr} {fd : FuncData} (Fn : Fun K "_law_power" "_law_power" (topS 21) f fd) (mr : mg "range" = none) : FnG P w K mg base 1 f fd ["_law_k"] (spPure K Rpow) := by
  refine pure_ok (k := 0) Fn scPow (fun ds d ⟨n, e, _⟩ => by rw [e]; rfl) (fun F ds d hK ⟨n, e, hn, ed⟩ => ?_)
  subst e ed
  refine wb_cons (ws_set 1 (by walk_at "tgt") (fun _ _ => rfl) (we_int ?_))
  refine wb_cons (ws_for_range 2 (by walk_at "tgt") rfl mr (fun _ => rfl) (fun _ _ => rfl) ?_)
  repeat walk_at "dl"
  refine ⟨fun j k ρ => ∃ x, ρ = [.d (.int n), .d (.int (2 ^ j)), x], n, rfl, by omega, by omega, ⟨_, rfl⟩, ?_, ?_⟩
  · rintro j k ρ hj ⟨x, rfl⟩
    refine wb_cons (ws_set 1 (by walk_at "tgt") (fun _ _ => rfl) ?_)
    repeat walk_at "dl"
    refine ⟨_, _, rfl, rfl, .inl ⟨by decide, by decide⟩, ?_⟩
    repeat walk_at "dl"
    exact ⟨_, by rw [Int.pow_succ, Int.mul_comm]; rfl⟩
  · rintro k ρ ⟨x, rfl⟩
    rw [Int.toNat_natCast]
    repeat walk_at "dl"
    rfl
end


abbrev nSize : List Str := ["_law_switches", "_law_found"]
theorem scSize : FnScope nSize ["_law_switches"] (defScope (topS 23)) := ⟨rfl, rfl, rfl, by decide +kernel, rfl, by decide +kernel, by decide +kernel⟩
/-- how many binary digits are 1 -/
def bits (n : Nat) : Nat := if n = 0 then 0 else n % 2 + bits (n / 2)
theorem bits_pos {n : Nat} (h : 0 < n) : bits n = n % 2 + bits (n / 2) := by
  rw [bits, if_neg (by omega)]
def Rsize : Rel := fun ds d => ∃ n : Nat, ds = [.int n] ∧ d = .int (bits n : Nat)
section
variable {P : Program} {w : World} {K : PySem.W.Frag} {mg : Str → Option Value} {base : Heap}
theorem ok_size {f : Addr} {fd : FuncData} (Fn : Fun K "_law_size" "_law_size" (topS 23) f fd) : FnG P w K mg base 1 f fd ["_law_switches"] (spPure K Rsize) := by
  refine pure_ok (k := 0) Fn scSize (fun ds d ⟨n, e, _⟩ => by rw [e]; rfl) (fun F ds d hK ⟨n, e, ed⟩ => ?_)
  subst e ed
  refine wb_cons (ws_set 1 (by walk_at "tgt") (fun _ _ => rfl) (we_int ?_))
  refine wb_cons (ws_while (fun m k ρ => ∃ c : Nat, ρ = [.d (.int (m : Nat)), .d (.int (c : Nat))] ∧ c + bits m = bits n) n ⟨0, rfl, by simp⟩ ?_)
  rintro m k ρ ⟨c, rfl, hc⟩
  repeat walk_at "dl"
  refine ⟨_, _, rfl, rfl, iteD (fun hm => ?_) (fun hm => ?_)⟩
  · have hm' : 0 < m := by omega
    refine wb_cons (ws_set 1 (by walk_at "tgt") (fun _ _ => rfl) ?_)
    repeat walk_at "dl"
    refine ⟨_, _, rfl, rfl, by decide, ?_⟩
    refine ⟨_, _, rfl, rfl, ?_⟩
    refine wb_cons (ws_set 0 (by walk_at "tgt") (fun _ _ => rfl) ?_)
    repeat walk_at "dl"
    refine ⟨_, _, rfl, rfl, ⟨by decide, by decide⟩, ?_⟩
    refine wb_nil ⟨m / 2, by omega, c + m % 2, ?_, ?_⟩
    · have e1 : ((m : Nat) : Int) / 2 = ((m / 2 : Nat) : Int) := by omega
      have e2 : ((c : Nat) : Int) + ((m : Nat) : Int) % 2 = ((c + m % 2 : Nat) : Int) := by omega
      rw [← e1, ← e2]; rfl
    · rw [bits_pos hm'] at hc; omega
  · have hm' : m = 0 := by omega
    subst hm'
    repeat walk_at "dl"
    have : bits 0 = 0 := by rw [bits]; rfl
    rw [this] at hc
    show PyData.int _ = PyData.int _
    rw [← hc]; rfl
end


structure IsBox (n : Nat) (cs : List Int) : Prop where
  asc : cs.Pairwise (· < ·)
  rng : ∀ c ∈ cs, 0 ≤ c ∧ c < 2 ^ n
structure GoodC (n : Nat) (cs : List Int) : Prop where
  nd : cs.Nodup
  rng : ∀ c ∈ cs, 0 ≤ c ∧ c < 2 ^ n
theorem GoodC.sorted {n : Nat} {as ms : List Int} (g : GoodC n as) (hp : ms.Perm as) (hw : ms.Pairwise (· ≤ ·)) : IsBox n ms := by
  refine ⟨?_, fun c hc => g.rng c (hp.mem_iff.mp hc)⟩
  have nd : ms.Nodup := hp.symm.nodup g.nd
  exact (hw.and nd).imp fun ⟨h1, h2⟩ => by omega
theorem GoodC.sub {n : Nat} {as : List Int} (h : as.Sublist (rg (2 ^ n))) : GoodC n as := by
  refine ⟨?_, fun c hc => mem_rg.mp (h.subset hc)⟩
  have : (rg (2 ^ n)).Nodup := rg_pairwise.imp fun h => by omega
  exact h.nodup this
theorem box_len {n : Nat} {cs : List Int} (hn : n ≤ 6) (b : IsBox n cs) : cs.length ≤ 64 := by
  have key : ∀ (l : List Int) (lo : Int), l.Pairwise (· < ·) → (∀ c ∈ l, lo ≤ c ∧ c < 64) → lo ≤ 64 → (l.length : Int) ≤ 64 - lo := by
    intro l
    induction l with
    | nil => intro lo _ _ h; simp; omega
    | cons x xs ih =>
      intro lo hp hr hlo
      have hx := hr x List.mem_cons_self
      have := ih (x + 1) (List.pairwise_cons.mp hp).2 (fun c hc => ⟨(List.pairwise_cons.mp hp).1 c hc, (hr c (List.mem_cons_of_mem _ hc)).2⟩) (by omega)
      rw [List.length_cons]; omega
  have hp := pow_le64 hn
  have := key cs 0 b.asc (fun c hc => ⟨(b.rng c hc).1, by have := (b.rng c hc).2; omega⟩) (by omega)
  omega
theorem box_fine {n : Nat} {cs : List Int} (hn : n ≤ 6) (b : IsBox n cs) : Fine 5000 2 (boxD n cs) := by
  have hp := pow_le64 hn
  have h1 : Fine (64 * 33 + 3) 1 (.tuple (cs.map PyData.int)) := fine_ints (fun i hi => by
    have := b.rng i hi
    have h2 : i.natAbs < 64 := by omega
    exact Nat.lt_trans h2 (by decide)) (box_len hn b)
  refine (fine_tuple (n := 64 * 33 + 3) (dp := 1) (L := 2) (fun d hd => ?_) (Nat.le_refl _)).mono (by decide) (by decide)
  rcases List.mem_cons.mp hd with rfl | hd
  · exact (fine_int (by rw [Int.natAbs_natCast]; exact Nat.lt_of_le_of_lt hn (by decide))).mono (by decide) (by decide)
  · have : d = .tuple (cs.map PyData.int) := by simpa using hd
    rw [this]; exact h1
theorem xor_small : ∀ a < 64, ∀ b < 64, (a ||| b) - (a &&& b) = a ^^^ b := by decide +kernel
theorem and_le_or : ∀ a < 64, ∀ b < 64, a &&& b ≤ a ||| b := by decide +kernel
theorem bxor_nat {a b : Nat} (ha : a < 64) (hb : b < 64) : Builtin.bitXor (a : Int) (b : Int) = ((a ^^^ b : Nat) : Int) := by
  unfold Builtin.bitXor
  rw [bitOr_nn (by omega) (by omega), band_nat, Int.toNat_natCast, Int.toNat_natCast, ← xor_small a ha b hb]
  have := and_le_or a ha b hb
  omega
theorem xor_good {n : Nat} {f : Int} (hn : n ≤ 6) (f0 : 0 ≤ f) (f1 : f < 2 ^ n) {as : List Int} (h : as.Sublist (rg (2 ^ n))) : GoodC n (as.map fun c => Builtin.bitXor c f) := by
  have hp := pow_le64 hn
  have h1 : ((2 ^ n : Nat) : Int) = (2 : Int) ^ n := by rw [Int.natCast_pow]; rfl
  have g := GoodC.sub h
  obtain ⟨f, rfl⟩ : ∃ m : Nat, f = (m : Int) := ⟨f.toNat, by omega⟩
  have conv : ∀ c ∈ as, ∃ m : Nat, c = (m : Int) ∧ m < 2 ^ n ∧ Builtin.bitXor c (f : Int) = ((m ^^^ f : Nat) : Int) := fun c hc => by
    have := g.rng c hc
    refine ⟨c.toNat, by omega, by omega, ?_⟩
    rw [← bxor_nat (a := c.toNat) (b := f) (by omega) (by omega), show ((c.toNat : Nat) : Int) = c by omega]
  constructor
  · rw [List.nodup_iff_pairwise_ne, List.pairwise_map]
    refine (List.Pairwise.and_mem.mp (List.nodup_iff_pairwise_ne.mp g.nd)).imp ?_
    rintro a b ⟨ha, hb, hne⟩ e
    obtain ⟨m, rfl, _, e1⟩ := conv a ha
    obtain ⟨m', rfl, _, e2⟩ := conv b hb
    rw [e1, e2] at e
    have e3 : m ^^^ f = m' ^^^ f := by omega
    have : m = m' := by
      have := congrArg (· ^^^ f) e3
      simpa [Nat.xor_assoc] using this
    exact hne (by rw [this])
  · intro c hc
    obtain ⟨a, ha, rfl⟩ := List.mem_map.mp hc
    obtain ⟨m, rfl, hm, e1⟩ := conv a ha
    rw [e1]
    have : m ^^^ f < 2 ^ n := Nat.xor_lt_two_pow hm (by omega)
    omega

def Boxed (d : PyData) : Prop := ∃ (n : Nat) (cs : List Int), n ≤ 6 ∧ IsBox n cs ∧ d = boxD n cs
theorem box0 (n : Nat) : IsBox n [] := ⟨List.Pairwise.nil, fun _ h => by cases h⟩
theorem box00 (n : Nat) : IsBox n [0] := ⟨List.pairwise_singleton _ _, fun c h => by
  have : c = 0 := by simpa using h
  subst this
  exact ⟨by decide, Int.pow_pos (by decide)⟩⟩
theorem boxed_fine {d : PyData} (h : Boxed d) : Fine 5000 2 d := by
  obtain ⟨n, cs, hn, hb, rfl⟩ := h
  exact box_fine hn hb
theorem sub_fine {n : Nat} (hn : n ≤ 6) {as : List Int} (h : as.Sublist (rg (2 ^ n))) : Fine (64 * 33 + 3) 1 (.tuple (as.map PyData.int)) := by
  have hp := pow_le64 hn
  refine fine_ints (fun i hi => ?_) (Nat.le_trans h.length_le (by rw [rg_length]; omega))
  have := mem_rg.mp (h.subset hi)
  have h2 : i.natAbs < 64 := by omega
  exact Nat.lt_trans h2 (by decide)

theorem uniqA {α : Type} {R : α → α → Prop} (ir : ∀ a, ¬ R a a) (tr : ∀ a b, R a b → ¬ R b a) : ∀ {xs ys : List α}, xs.Pairwise R → ys.Pairwise R → (∀ a, a ∈ xs ↔ a ∈ ys) → xs = ys
  | [], [], _, _, _ => rfl
  | [], y :: ys, _, _, h => by have := (h y).mpr List.mem_cons_self; cases this
  | x :: xs, [], _, _, h => by have := (h x).mp List.mem_cons_self; cases this
  | x :: xs, y :: ys, hx, hy, h => by
    have hx' := List.pairwise_cons.mp hx
    have hy' := List.pairwise_cons.mp hy
    have e : x = y := by
      rcases List.mem_cons.mp ((h x).mp List.mem_cons_self) with e | m1
      · exact e
      rcases List.mem_cons.mp ((h y).mpr List.mem_cons_self) with e | m2
      · exact e.symm
      exact absurd (hx'.1 y m2) (tr _ _ (hy'.1 x m1))
    subst e
    refine congrArg (x :: ·) (uniqA ir tr hx'.2 hy'.2 fun a => ⟨fun m => ?_, fun m => ?_⟩)
    · rcases List.mem_cons.mp ((h a).mp (List.mem_cons_of_mem _ m)) with e | m'
      · exact absurd (e ▸ hx'.1 a m) (ir x)
      · exact m'
    · rcases List.mem_cons.mp ((h a).mpr (List.mem_cons_of_mem _ m)) with e | m'
      · exact absurd (e ▸ hy'.1 a m) (ir x)
      · exact m'
theorem uniqI {xs ys : List Int} (hx : xs.Pairwise (· < ·)) (hy : ys.Pairwise (· < ·)) (h : ∀ a, a ∈ xs ↔ a ∈ ys) : xs = ys := uniqA (R := fun a b : Int => a < b) (fun a h => by omega) (fun a b h1 h2 => by omega) hx hy h
theorem permA : ∀ {xs ys : List Int}, xs.Nodup → ys.Nodup → (∀ a, a ∈ xs ↔ a ∈ ys) → xs.length = ys.length
  | [], ys, _, _, h => by
    cases ys with
    | nil => rfl
    | cons y ys => have := (h y).mpr List.mem_cons_self; cases this
  | x :: xs, ys, hx, hy, h => by
    have hm : x ∈ ys := (h x).mp List.mem_cons_self
    have hx' := List.nodup_cons.mp hx
    have ih := permA hx'.2 (hy.erase x) fun a => by
      rw [hy.mem_erase_iff]
      constructor
      · intro ha
        exact ⟨fun e => hx'.1 (e ▸ ha), (h a).mp (List.mem_cons_of_mem _ ha)⟩
      · rintro ⟨hne, ha⟩
        rcases List.mem_cons.mp ((h a).mpr ha) with e | e
        · exact absurd e hne
        · exact e
    rw [List.length_cons, ih, List.length_erase_of_mem hm]
    have := List.length_pos_of_mem hm
    omega
theorem asc_nodup {xs : List Int} (h : xs.Pairwise (· < ·)) : xs.Nodup := List.nodup_iff_pairwise_ne.mpr (h.imp fun h => by omega)
theorem eqvAll_ints : ∀ xs ys : List Int, PyData.eqvAll (xs.map PyData.int) (ys.map PyData.int) = decide (xs = ys)
  | [], [] => by simp [PyData.eqvAll]
  | [], y :: ys => by simp [PyData.eqvAll]
  | x :: xs, [] => by simp [PyData.eqvAll]
  | x :: xs, y :: ys => by
    have ih := eqvAll_ints xs ys
    simp only [List.map_cons, PyData.eqvAll, PyData.eqv, ih]
    by_cases h1 : x = y <;> by_cases h2 : xs = ys <;> simp [h1, h2]
theorem eqv_intsT (xs ys : List Int) : PyData.eqv (.tuple (xs.map PyData.int)) (.tuple (ys.map PyData.int)) = decide (xs = ys) := by
  simp only [PyData.eqv]; exact eqvAll_ints xs ys
theorem eqv_intsL (xs ys : List Int) : PyData.eqv (.list (xs.map PyData.int)) (.list (ys.map PyData.int)) = decide (xs = ys) := by
  simp only [PyData.eqv]; exact eqvAll_ints xs ys
def hasP (cs : List Int) (s p : Int) : Bool := cs.any fun c => decide (Builtin.bitAnd c s = p)
def patsL (cs : List Int) (s : Int) : List Int := (parts s).filter fun p => hasP cs s p
def shownB (cs : List Int) (s : Int) : Bool := (parts s).all fun p => hasP cs s p
theorem parts_asc (s : Int) : (parts s).Pairwise (· < ·) := rg_pairwise.filter _
theorem band_part {c s : Int} (hc : 0 ≤ c) (hs : 0 ≤ s) : Builtin.bitAnd c s ∈ parts s := by
  obtain ⟨c, rfl⟩ : ∃ m : Nat, c = (m : Int) := ⟨c.toNat, by omega⟩
  obtain ⟨s, rfl⟩ : ∃ m : Nat, s = (m : Int) := ⟨s.toNat, by omega⟩
  have h : c &&& s ≤ s := Nat.and_le_right
  rw [band_nat]
  refine List.mem_filter.mpr ⟨mem_rg.mpr ⟨by omega, by omega⟩, decide_eq_true ?_⟩
  rw [band_nat, Nat.and_assoc, Nat.and_self]
theorem mem_pats {cs : List Int} {s : Int} (hb : ∀ c ∈ cs, 0 ≤ c) (hs : 0 ≤ s) (z : Int) : z ∈ patsL cs s ↔ z ∈ cs.map fun c => Builtin.bitAnd c s := by
  unfold patsL hasP
  rw [List.mem_filter, List.any_eq_true, List.mem_map]
  constructor
  · rintro ⟨_, c, hc, e⟩
    exact ⟨c, hc, of_decide_eq_true e⟩
  · rintro ⟨c, hc, rfl⟩
    exact ⟨band_part (hb c hc) hs, c, hc, decide_eq_true rfl⟩
theorem pats_uniq {cs ms : List Int} {s : Int} (hb : ∀ c ∈ cs, 0 ≤ c) (hs : 0 ≤ s) (hw : ms.Pairwise (· < ·)) (hm : ∀ z, z ∈ ms ↔ z ∈ cs.map fun c => Builtin.bitAnd c s) : ms = patsL cs s :=
  uniqI hw ((parts_asc s).filter _) fun z => (hm z).trans (mem_pats hb hs z).symm
theorem shown_dec (cs : List Int) (s : Int) : decide (patsL cs s = parts s) = shownB cs s := by
  unfold patsL shownB
  rw [Bool.eq_iff_iff, decide_eq_true_eq, List.filter_eq_self, List.all_eq_true]
theorem shown_len (cs : List Int) (s : Int) : decide ((patsL cs s).length = (parts s).length) = shownB cs s := by
  unfold patsL shownB
  rw [Bool.eq_iff_iff, decide_eq_true_eq, List.length_filter_eq_length_iff, List.all_eq_true]
def b6 (s : Nat) : Nat := s % 2 + (s / 2 % 2 + (s / 4 % 2 + (s / 8 % 2 + (s / 16 % 2 + s / 32 % 2))))
theorem bits_all (n : Nat) : bits n = n % 2 + bits (n / 2) := by
  by_cases h : n = 0
  · subst h; rw [bits, if_pos rfl]
  · exact bits_pos (by omega)
theorem bits_b6 {s : Nat} (h : s < 64) : bits s = b6 s := by
  unfold b6
  rw [bits_all s, bits_all (s / 2), bits_all (s / 2 / 2), bits_all (s / 2 / 2 / 2), bits_all (s / 2 / 2 / 2 / 2), bits_all (s / 2 / 2 / 2 / 2 / 2)]
  have e : s / 2 / 2 / 2 / 2 / 2 / 2 = 0 := by omega
  rw [e, bits, if_pos rfl]
  omega
theorem b6_le : ∀ n ≤ 6, ∀ s < 2 ^ n, b6 s ≤ n := by decide +kernel
theorem b6_six (s : Nat) : b6 s ≤ 6 := by unfold b6; omega
theorem parts_b6 : ∀ s < 64, (partsN s).length = 2 ^ b6 s := by decide +kernel
theorem parts_count {s : Nat} (h : s < 64) : (parts (s : Int)).length = 2 ^ bits s := by
  rw [parts_nat, List.length_map, parts_b6 s h, bits_b6 h]
theorem box_ge {n : Nat} {cs : List Int} (b : IsBox n cs) : ∀ c ∈ cs, 0 ≤ c := fun c hc => (b.rng c hc).1

abbrev nPat : List Str := ["box", "switches", "card"]
theorem scPat : FnScope nPat ["box", "switches"] (defScope (topS 16)) := ⟨rfl, rfl, rfl, by decide +kernel, rfl, by decide +kernel, by decide +kernel⟩
def Rpat : Rel := fun ds d => ∃ (n : Nat) (cs : List Int) (s : Int), ds = [boxD n cs, .int s] ∧ n ≤ 6 ∧ IsBox n cs ∧ (0 ≤ s ∧ s < 1000) ∧ d = .tuple ((patsL cs s).map PyData.int)
section
variable {P : Program} {w : World} {K : PySem.W.Frag} {mg : Str → Option Value} {base : Heap}
theorem ok_pat {f : Addr} {fd : FuncData} (Fn : Fun K "patterns_of" "patterns_of" (topS 16) f fd) (mt : mg "tuple" = none) (ms : mg "sorted" = none) : FnG P w K mg base 1 f fd ["box", "switches"] (spPure K Rpat) := by
  refine pure_ok (k := 0) Fn scPat (fun ds d ⟨n, cs, s, e, _⟩ => by rw [e]; rfl) (fun F ds d hK ⟨n, cs, s, e, hn, hb, hs, ed⟩ => ?_)
  subst e ed
  have hl := box_len hn hb
  refine wb_cons (ws_ret (we_tuple hK rfl mt (fun _ => rfl) (we_sortSc PyData.int (fun c => Builtin.bitAnd c s) 2 (by walk_at "blk") hK rfl ms (fun _ _ => rfl) (fun _ => rfl) ?_)))
  repeat walk_at "dx"
  refine ⟨.tuple (cs.map PyData.int), rfl, cs, rfl, by omega, fun D c hc => ?_, fun ms hw hm => ⟨_, rfl, ?_⟩⟩
  · repeat walk_at "dx"
    exact ⟨rfl, rfl⟩
  · show PyData.tuple _ = PyData.tuple _
    rw [pats_uniq (box_ge hb) hs.1 hw hm]
end

abbrev nShw : List Str := ["box", "switches"]
theorem scShw : FnScope nShw ["box", "switches"] (defScope (topS 17)) := ⟨rfl, rfl, rfl, by decide +kernel, rfl, by decide +kernel, by decide +kernel⟩
def Rshown : Rel := fun ds d => ∃ (n : Nat) (cs : List Int) (s : Int), ds = [boxD n cs, .int s] ∧ n ≤ 6 ∧ IsBox n cs ∧ (0 ≤ s ∧ s < 1000) ∧ d = .bool (shownB cs s)
section
variable {P : Program} {w : World} {K : PySem.W.Frag} {mg : Str → Option Value} {base : Heap}
theorem ok_shown {f : Addr} {fd : FuncData} (Fn : Fun K "is_shown" "is_shown" (topS 17) f fd) (mt : mg "tuple" = none) (gp : PFn P w K mg base 1 "patterns_of" Rpat) (gs : PFn P w K mg base 1 "subsets_of" Rparts) : FnG P w K mg base 2 f fd ["box", "switches"] (spPure K Rshown) := by
  refine pure_ok (k := 1) Fn scShw (fun ds d ⟨n, cs, s, e, _⟩ => by rw [e]; rfl) (fun F ds d hK ⟨n, cs, s, e, hn, hb, hs, ed⟩ => ?_)
  subst e ed
  refine wb_cons (ws_ret (we_eq hK ?_))
  repeat walk_at "dx"
  refine ⟨_, ⟨n, cs, s, rfl, hn, hb, hs, rfl⟩, ?_⟩
  repeat walk_at "dx"
  refine ⟨_, ⟨s, rfl, hs, rfl⟩, _, rfl, shaped_intsT _, shaped_intsT _, ?_⟩
  show PyData.bool _ = PyData.bool _
  rw [eqv_intsT, shown_dec]
end

/-! ### one draw -/
abbrev nNext : List Str := ["_law_state", "_law_many", "_law_cells", "_law_count", "_law_rests", "_law_index", "_law_digit", "_law_mixed"]
theorem scNext : FnScope nNext ["_law_state", "_law_many"] (defScope (topS 20)) := ⟨rfl, rfl, rfl, by decide +kernel, rfl, by decide +kernel, by decide +kernel⟩
def PreNext : List PyData → Prop := fun ds => ∃ m : Int, ds = [.int m] ∧ 0 < m ∧ m < 1073741824
def RNext : Rel := fun ds d => ∃ m i : Int, ds = [.int m] ∧ d = .int i ∧ 0 ≤ i ∧ i < m
theorem ints_at {ns : List Int} {i : Int} (h0 : 0 ≤ i) (h1 : i < (ns.length : Int)) : ∃ v : Int, atI (ns.map V.int) i = some (.int v) ∧ ixN (ns.map V.int).length i = some i.toNat := by
  have hl : i.toNat < ns.length := by omega
  refine ⟨ns[i.toNat], ?_, ?_⟩
  · have := atI_nat (xs := ns.map V.int) (j := i.toNat) (v := .int ns[i.toNat]) (by rw [List.getElem?_map, List.getElem?_eq_getElem hl]; rfl)
    rw [show ((i.toNat : Nat) : Int) = i by omega] at this
    exact this
  · unfold ixN
    rw [if_pos h0, if_pos (by rw [List.length_map]; exact h1)]
section
variable {P : Program} {w : World} {K : PySem.W.Frag} {mg : Str → Option Value} {base : Heap}
theorem ok_next {f : Addr} {fd : FuncData} (Fn : Fun K "_law_next" "_law_next" (topS 20) f fd) (ml : mg "len" = none) : FnG P w K mg base 1 f fd ["_law_state", "_law_many"] (spDraw K 1 PreNext RNext) := by
  refine FnG.of_body (k := 0) Fn scNext (fun vs H Q E h => ?_) (fun cdv A outer s H vs Q hgd hr h => ?_)
  · obtain ⟨S, st, a, r, vs', ds, k, rfl, _, _, _, rr, ⟨m, rfl, _⟩, _⟩ := h
    rw [List.length_cons, rr.length]; rfl
  obtain ⟨S, st, a, r, vs', ds, k, rfl, ⟨cells, rests, n, h1, h2, h3, hlen, hpos, hn0, hnk⟩, al, hS, rr, ⟨m, rfl, hm0, hm1⟩, q⟩ := h
  cases rr with
  | cons r1 r2 =>
  cases r2
  cases r1
  refine ⟨_, pss_cons (ps_asg (pv 0) (pg_unl (n := 3) rfl (pgs_cons (pg_name (i := 2) scNext.nd rfl (.inl rfl)) (pgs_cons (pg_name (i := 3) scNext.nd rfl (.inl rfl)) (pgs_cons (pg_name (i := 4) scNext.nd rfl (.inl rfl)) pgs_nil)))))
    (pss_cons (ps_set (i := 5) scNext.nd rfl (.inl rfl) (pe_op op_mod (pv 3) (pe_callB call_len_seq (by rfl) ml PySem.boot_len (pa_cons (pv 2) pa_nil))))
    (pss_cons (ps_asg (pe_op op_add (pv 3) pe_int) (pg_sub (pv 0) pe_int set_list))
    (pss_cons (ps_if (pt_cmpR op_gt (pe_ix ix_list (pv 4) (pv 5) (fun _ _ => rfl)) pe_int (nomark _))
      (pss_cons (ps_set (i := 6) scNext.nd rfl (.inl rfl) (pe_op op_mod (pe_ix ix_list (pv 4) (pv 5) (fun _ _ => rfl)) (pv 1)))
        (pss_cons (ps_asg (pe_op op_fdiv (pe_ix ix_list (pv 4) (pv 5) (fun _ _ => rfl)) (pv 1)) (pg_sub (pv 4) (pv 5) set_list))
        (pss_one (ps_ret (pv 6))))) pss_nil)
    (pss_cons (ps_set (i := 7) scNext.nd rfl (.inl rfl) (pe_op op_mod (pe_op op_pow (pe_op op_add (pe_op op_add (pe_op op_mod (pe_ix ix_list (pv 2) (pv 5) (fun _ _ => rfl)) pe_int) (pe_op op_mul pe_int (pv 3))) pe_int) pe_int) pe_int))
    (pss_cons (ps_set (i := 7) scNext.nd rfl (.inl rfl) (pe_op op_mod (pe_op op_pow (pe_op op_add (pe_op op_add (pv 7) (pe_op op_mul (pe_op op_mul pe_int (pv 3)) (pv 3))) pe_int) pe_int) pe_int))
    (pss_one (ps_ret (pe_op op_mod (pe_op op_fdiv (pe_op op_mod (pe_op op_mul (pv 7) pe_int) pe_int) pe_int) (pv 1))))))))), ?_⟩
  have hst : st ≠ a := ne_of h1 h2 (fun z => by
    have z' := HO.lst.inj z
    cases cells with
    | nil => simp at hpos
    | cons c cs => rw [List.map_cons] at z'; injection z' with z1; cases z1)
  have hsr : st ≠ r := ne_of h1 h3 (fun z => by
    have z' := HO.lst.inj z
    cases rests with
    | nil => rw [List.length_nil] at hlen; omega
    | cons c cs => rw [List.map_cons] at z'; injection z' with z1; cases z1)
  have hlc : (0 : Int) < ((cells.map V.int).length : Int) := by rw [List.length_map]; omega
  -- cells, count, rests = state
  refine ⟨.ref st, rfl, st, _, rfl, SqL.of h1, rfl, _, _, rfl, _, _, rfl, _, _, rfl, rfl, ?_⟩
  -- index = count % len(cells)
  refine ⟨.int n, rfl, .ref a, rfl, a, _, rfl, .inl (SqL.of h2), n, _, rfl, rfl, hlc, ?_⟩
  have i0 : 0 ≤ n % ((cells.map V.int).length : Int) := Int.emod_nonneg _ (by omega)
  have i1 : n % ((cells.map V.int).length : Int) < (cells.length : Int) := by rw [List.length_map]; exact Int.emod_lt_of_pos _ (by omega)
  dsimp only
  generalize n % ((cells.map V.int).length : Int) = ix at i0 i1 ⊢
  obtain ⟨cv, c1, c2⟩ := ints_at i0 i1
  obtain ⟨rv, e1, e2⟩ := ints_at (ns := rests) i0 (by omega)
  -- state[1] = count + 1
  refine ⟨.int n, rfl, _, _, rfl, rfl, .ref st, rfl, st, _, 1, 1, rfl, rfl, h1, rfl, ?_⟩
  generalize hH1 : upd H st (.lst (List.set [.ref a, .int n, .ref r] 1 (.int (n + 1)))) = H1
  have g1 : H1 st = some (.lst [.ref a, .int (n + 1), .ref r]) := by rw [← hH1, upd_same]; rfl
  have g2 : H1 a = some (.lst (cells.map V.int)) := by rw [← hH1, upd_ne hst.symm]; exact h2
  have g3 : H1 r = some (.lst (rests.map V.int)) := by rw [← hH1, upd_ne hsr.symm]; exact h3
  have keep1 : ∀ b o, ¬ DkM st a r b → H b = some o → H1 b = some o := fun b o nb e => by rw [← hH1, upd_ne (fun z => nb (.inl z))]; exact e
  -- if rests[index] > 0
  refine ⟨.ref r, rfl, .int ix, rfl, r, _, ix, _, rfl, rfl, SqL.of g3, e1, _, _, rfl, rfl, _, rfl, ite2 (fun _ => ?_) (fun _ => ?_)⟩
  · refine ⟨.ref r, rfl, .int ix, rfl, r, _, ix, _, rfl, rfl, SqL.of g3, e1, .int m, rfl, _, _, rfl, rfl, hm0, ?_⟩
    refine ⟨.ref r, rfl, .int ix, rfl, r, _, ix, _, rfl, rfl, SqL.of g3, e1, .int m, rfl, _, _, rfl, rfl, ⟨hm0, hm1⟩, .ref r, rfl, .int ix, rfl, r, _, ix, _, rfl, rfl, g3, e2, ?_⟩
    refine ⟨_, rfl, ?_⟩
    refine q _ (.int (rv % m)) _ (fun b o nb e => ?_) ?_ (.int _) ⟨m, _, rfl, rfl, Int.emod_nonneg _ (by omega), Int.emod_lt_of_pos _ hm0⟩
    · rw [upd_ne (fun z => nb (.inr (.inr z)))]; exact keep1 b o nb e
    · have hset : (rests.map V.int).set ix.toNat (.int (rv / m)) = (rests.set ix.toNat (rv / m)).map V.int := by rw [List.map_set]
      rw [hset]
      by_cases har : a = r
      · subst har
        refine ⟨rests.set ix.toNat (rv / m), rests.set ix.toNat (rv / m), n + 1, by rw [upd_ne hst]; exact g1, upd_same, upd_same, rfl, by rw [List.length_set]; omega, by omega, by omega⟩
      · exact ⟨cells, rests.set ix.toNat (rv / m), n + 1, by rw [upd_ne hsr]; exact g1, by rw [upd_ne har]; exact g2, upd_same, by rw [List.length_set]; exact hlen, hpos, by omega, by omega⟩
  · -- the mixed number
    refine ⟨.ref a, rfl, .int ix, rfl, a, _, ix, _, rfl, rfl, SqL.of g2, c1, _, _, rfl, rfl, (by dsimp only; decide), .int n, rfl, _, _, rfl, rfl, .inl ⟨by decide, by decide⟩, _, _, rfl, rfl, _, _, rfl, rfl, _, _, rfl, rfl, ⟨by decide, by decide, ?_⟩, _, _, rfl, rfl, (by dsimp only; decide), ?_⟩
    · have := Int.emod_nonneg cv (b := 2147483629) (by decide)
      have := Int.emod_lt_of_pos cv (b := 2147483629) (by decide)
      omega
    dsimp only
    generalize hx1 : (cv % 2147483629 + 40013 * n + 7121) ^ (3 : Int).toNat % 2147483587 = x1
    have x10 : 0 ≤ x1 := by rw [← hx1]; exact Int.emod_nonneg _ (by decide)
    have x11 : x1 < 2147483587 := by rw [← hx1]; exact Int.emod_lt_of_pos _ (by decide)
    have nn0 : 0 ≤ 5011 * n * n := Int.mul_nonneg (by omega) hn0
    have nn1 : 5011 * n * n ≤ 5011 * 1000000 * 1000000 := by
      have : 5011 * n * n ≤ 5011 * 1000000 * n := Int.mul_le_mul_of_nonneg_right (by omega) hn0
      omega
    refine ⟨.int x1, rfl, .int n, rfl, _, _, rfl, rfl, .inl ⟨by decide, by decide⟩, .int n, rfl, _, _, rfl, rfl, .inl ⟨by omega, by omega⟩, _, _, rfl, rfl, _, _, rfl, rfl, _, _, rfl, rfl, ⟨by decide, by decide, by omega⟩, _, _, rfl, rfl, (by dsimp only; decide), ?_⟩
    dsimp only
    generalize hx2 : (x1 + 5011 * n * n + 37) ^ (3 : Int).toNat % 2147483563 = x2
    have x20 : 0 ≤ x2 := by rw [← hx2]; exact Int.emod_nonneg _ (by decide)
    have x21 : x2 < 2147483563 := by rw [← hx2]; exact Int.emod_lt_of_pos _ (by decide)
    refine ⟨.int x2, rfl, _, _, rfl, rfl, .inl ⟨by omega, by omega⟩, _, _, rfl, rfl, (by dsimp only; decide), _, _, rfl, rfl, ⟨by decide, by decide⟩, .int m, rfl, _, _, rfl, rfl, hm0, ?_⟩
    exact q _ (.int _) _ keep1 ⟨cells, rests, n + 1, g1, g2, g3, hlen, hpos, by omega, by omega⟩ (.int _) ⟨m, _, rfl, rfl, Int.emod_nonneg _ (by omega), Int.emod_lt_of_pos _ hm0⟩
end


/-! ### the draws made from the script -/
abbrev nDraws : List Str := ["_law_script", "_law_cells", "_law_cell"]
theorem scDraws : FnScope nDraws ["_law_script"] (defScope (topS 19)) := ⟨rfl, rfl, rfl, by decide +kernel, rfl, by decide +kernel, by decide +kernel⟩
theorem cutV_ints (ns : List Int) (lo hi : Option Int) : ∃ ms : List Int, cutV (ns.map V.int) lo hi = ms.map V.int ∧ (lo = none → hi = some 63 → ns.length ≤ 63 → ms.length = ns.length) := by
  refine ⟨_, by unfold cutV; rw [← List.map_drop, ← List.map_take], ?_⟩
  rintro rfl rfl h
  rw [List.length_take, List.length_drop, List.length_map]
  rw [show HT.sIx ns.length ns.length (some 63) = min 63 ns.length from HT.sIx_nat ns.length ns.length 63, HT.sIx_none]
  omega
section
variable {P : Program} {w : World} {K : PySem.W.Frag} {mg : Str → Option Value} {base : Heap}
theorem ok_draws {f : Addr} {fd : FuncData} (Fn : Fun K "_law_draws" "_law_draws" (topS 19) f fd) (ml : mg "len" = none) (ma : mg "abs" = none) (mi : mg "int" = none) : FnG P w K mg base 1 f fd ["_law_script"] (spDraws K) := by
  refine FnG.of_body (k := 0) Fn scDraws (fun vs H Q E h => ?_) (fun cdv A outer s H vs Q hgd hr h => ?_)
  · obtain ⟨sc, ns, rfl, _⟩ := h
    rfl
  obtain ⟨sc, ns, rfl, hS, hlen, q⟩ := h
  refine ⟨_, pss_cons (ps_set (i := 1) scDraws.nd rfl (.inl rfl) (pe_op op_cat
      (pe_lc (own := [("_law_cell", 2)]) (g := gName 2) (tt := tYes) rfl scDraws.nd (pi_list (pe_slice sl_list (pv 0) po_none (po_some pe_int))) (blkOk_by (own := [("_law_cell", 2)]) (N := nDraws) (sc := defScope (topS 19)) (by decide +kernel))
        (fun _ _ _ _ _ => pg_name (i := 2) scDraws.nd rfl (Or.inl rfl)) (fun _ _ _ _ _ => pts_nil) (fun _ _ _ _ _ => pe_callB call_abs (by rfl) ma (by decide +kernel) (pa_cons (pv 2) pa_nil)))
      (pe_op op_rep (pe_lst (pa_cons pe_int pa_nil)) (pe_callTy call_int1 (by rfl) mi (by decide +kernel) (pa_cons (pe_cmpR op_eq (pe_callB call_len_seq (by rfl) ml PySem.boot_len (pa_cons (pv 0) pa_nil)) pe_int (nomark _)) pa_nil)))))
    (pss_one (ps_ret (pe_lst (pa_cons (pv 1) (pa_cons pe_int (pa_cons
      (pe_lc (own := [("_law_cell", 2)]) (g := gName 2) (tt := tYes) rfl scDraws.nd (pi_list (pv 1)) (blkOk_by (own := [("_law_cell", 2)]) (N := nDraws) (sc := defScope (topS 19)) (by decide +kernel))
        (fun _ _ _ _ _ => pg_name (i := 2) scDraws.nd rfl (Or.inl rfl)) (fun _ _ _ _ _ => pts_nil) (fun _ _ _ _ _ => pe_op op_mul (pv 2) (pe_callTy call_int1 (by rfl) mi (by decide +kernel) (pa_cons (pe_cmpR op_ge (pv 2) (pe_op op_pow pe_int pe_int) (nomark _)) pa_nil)))) pa_nil)))))), ?_⟩
  -- script[:63]
  refine ⟨.ref sc, rfl, 63, rfl, sc, _, rfl, hS, fun c0 nc0 => ?_⟩
  obtain ⟨ms, em, hml⟩ := cutV_ints ns none (some 63)
  rw [em]
  have hml := hml rfl rfl hlen
  have s0 : Same H (upd H c0 (.lst (ms.map V.int))) := fun b o e => by rw [upd_ne (ne_of_none e nc0)]; exact e
  generalize hH0 : upd H c0 (.lst (ms.map V.int)) = H0 at s0 ⊢
  have hc0 : H0 c0 = some (.lst (ms.map V.int)) := by rw [← hH0, upd_same]
  refine ⟨c0, rfl, ⟨_, SqL.of hc0⟩, fun D hD => ?_⟩
  have hDn : H D = none := s0.free hD
  have hDc : c0 ≠ D := ne_of_none hc0 hD
  refine lc_list (xs := ms.map V.int) (fun n H' => ∃ zs : List Int, zs.length = n ∧ (∀ b o, b ≠ D → H0 b = some o → H' b = some o) ∧ H' D = some (.lst (zs.map V.int))) ⟨[], rfl, fun b o nb e => by rw [upd_ne nb]; exact e, upd_same⟩ (fun n H' _ ⟨zs, _, kp, _⟩ => SqL.of (kp c0 _ hDc hc0)) ?_ ?_
  · rintro n v H' hv ⟨zs, hz, kp, hd⟩
    rw [List.getElem?_map] at hv
    cases hm : ms[n]? with
    | none => rw [hm] at hv; cases hv
    | some y =>
    rw [hm] at hv
    cases hv
    have hn : n < ms.length := (List.getElem?_eq_some_iff.mp hm).1
    refine ⟨rfl, .int y, rfl, y, rfl, _, hd, by rw [List.length_map, hz]; exact small1000 (by omega), zs ++ [if y < 0 then -y else y], by rw [List.length_append, hz]; rfl, fun b o nb e => by rw [upd_ne nb]; exact kp b o nb e, ?_⟩
    rw [upd_same, List.map_append]; rfl
  rintro H1 ⟨zs, hz, kp, hd⟩
  rw [List.length_map, hml] at hz
  -- [0] * int(len(script) == 0)
  have s1 : Same H H1 := fun b o e => kp b o (ne_of_none e hDn) (s0 b o e)
  refine ⟨by decide, fun z0 nz0 => ?_⟩
  have s2 : Same H1 (upd H1 z0 (.lst [.int 0])) := fun b o e => by rw [upd_ne (ne_of_none e nz0)]; exact e
  generalize hH2 : upd H1 z0 (.lst [.int 0]) = H2 at s2 ⊢
  have hz0 : H2 z0 = some (.lst [.int 0]) := by rw [← hH2, upd_same]
  refine ⟨.ref sc, rfl, sc, _, rfl, .inl (s2.seq (s1.seq hS)), rfl, .inr ⟨_, rfl, ?_⟩⟩
  refine ⟨z0, _, _, rfl, rfl, hz0, ?_⟩
  rw [List.length_map]
  have key : ∃ t : Nat, (if decide (V.int (ns.length : Int) = V.int 0) = true then (1 : Int) else 0) = (t : Int) ∧ t ≤ 1 ∧ 0 < ns.length + t := by
    by_cases h : ns.length = 0
    · exact ⟨1, by simp [h], Nat.le_refl _, by omega⟩
    · exact ⟨0, by simp [h], Nat.zero_le _, by omega⟩
  obtain ⟨t, et, ht, htp⟩ := key
  rw [et]
  refine ⟨by omega, by omega, by rw [List.length_singleton, Int.toNat_natCast]; exact Nat.le_trans (by omega) (by decide : 1 ≤ sizeLine), fun p1 np1 => ?_⟩
  rw [Int.toNat_natCast]
  have rep1 : (List.replicate t [V.int 0]).flatten = (List.replicate t (0 : Int)).map V.int := by
    rcases (by omega : t = 0 ∨ t = 1) with rfl | rfl <;> rfl
  rw [rep1]
  have s3 : Same H2 (upd H2 p1 (.lst ((List.replicate t (0 : Int)).map V.int))) := fun b o e => by rw [upd_ne (ne_of_none e np1)]; exact e
  generalize hH3 : upd H2 p1 (.lst ((List.replicate t (0 : Int)).map V.int)) = H3 at s3 ⊢
  have hp1 : H3 p1 = some (.lst ((List.replicate t (0 : Int)).map V.int)) := by rw [← hH3, upd_same]
  -- the sum of both lists
  refine ⟨D, p1, _, _, rfl, rfl, s3 _ _ (s2 _ _ hd), hp1, ?_, fun ca nca => ?_⟩
  · rw [List.length_map, List.length_map, List.length_replicate, hz]
    exact Nat.le_trans (by omega : ns.length + t ≤ 64) (by decide)
  rw [← List.map_append]
  generalize hcs : zs ++ List.replicate t (0 : Int) = cs
  have hcl : cs.length = ns.length + t := by rw [← hcs, List.length_append, List.length_replicate, hz]
  have s4 : Same H3 (upd H3 ca (.lst (cs.map V.int))) := fun b o e => by rw [upd_ne (ne_of_none e nca)]; exact e
  generalize hH4 : upd H3 ca (.lst (cs.map V.int)) = H4 at s4 ⊢
  have hca : H4 ca = some (.lst (cs.map V.int)) := by rw [← hH4, upd_same]
  have s34 : Same H H4 := fun b o e => s4 _ _ (s3 _ _ (s2 _ _ (s1 _ _ e)))
  have ncaH : H ca = none := Same.free (H := H) (H' := H3) (fun b o e => s3 _ _ (s2 _ _ (s1 _ _ e))) nca
  -- return [cells, 0, rests]
  refine ⟨.ref ca, rfl, .ref ca, rfl, ca, rfl, ⟨_, SqL.of hca⟩, fun R hR => ?_⟩
  have hRn : H R = none := s34.free hR
  have hRc : ca ≠ R := ne_of_none hca hR
  refine lc_list (xs := cs.map V.int) (fun n H' => ∃ zs : List Int, zs.length = n ∧ (∀ b o, b ≠ R → H4 b = some o → H' b = some o) ∧ H' R = some (.lst (zs.map V.int))) ⟨[], rfl, fun b o nb e => by rw [upd_ne nb]; exact e, upd_same⟩ (fun n H' _ ⟨zs, _, kp, _⟩ => SqL.of (kp ca _ hRc hca)) ?_ ?_
  · rintro n v H' hv ⟨zs, hz, kp, hd⟩
    rw [List.getElem?_map] at hv
    cases hm : cs[n]? with
    | none => rw [hm] at hv; cases hv
    | some y =>
    rw [hm] at hv
    cases hv
    have hn : n < cs.length := (List.getElem?_eq_some_iff.mp hm).1
    refine ⟨rfl, .int y, rfl, .int y, rfl, _, _, rfl, rfl, ⟨by decide, by decide, by decide⟩, _, _, rfl, rfl, .inr ⟨_, rfl, _, _, rfl, rfl, .inr ?_, _, hd, by rw [List.length_map, hz]; exact small1000 (by omega), zs ++ [y * (if decide ((10 : Int) ^ (18 : Int).toNat ≤ y) = true then 1 else 0)], by rw [List.length_append, hz]; rfl, fun b o nb e => by rw [upd_ne nb]; exact kp b o nb e, ?_⟩⟩
    · split <;> decide
    · rw [upd_same, List.map_append]; rfl
  rintro H5 ⟨zs2, hz2, kp2, hd2⟩
  rw [List.length_map] at hz2
  refine ⟨(by show 3 ≤ sizeLine; decide), fun st nst => ?_⟩
  have s5 : Same H H5 := fun b o e => kp2 b o (ne_of_none e hRn) (s34 b o e)
  refine q _ st ca R (fun b o e => by rw [upd_ne (ne_of_none (s5 b o e) nst)]; exact s5 b o e) (s5.free nst) ncaH hRn ⟨cs, zs2, 0, upd_same, ?_, ?_, by omega, by omega, by omega, by omega⟩
  · rw [upd_ne (ne_of_none (kp2 ca _ hRc hca) nst)]; exact kp2 ca _ hRc hca
  · rw [upd_ne (ne_of_none hd2 nst)]; exact hd2
end


abbrev nBox : List Str := ["_law_state", "_law_most", "_law_n", "_law_kind", "_law_flip", "_law_every", "_law_cards", "_law_card", "_law_limit"]
theorem scBox : FnScope nBox ["_law_state", "_law_most"] (defScope (topS 25)) := ⟨rfl, rfl, rfl, by decide +kernel, rfl, by decide +kernel, by decide +kernel⟩
def PreBox : List PyData → Prop := fun ds => ∃ m : Nat, ds = [.int (m : Int)] ∧ m ≤ 5
def RBox : Rel := fun ds d => ∃ m n : Nat, ∃ cs : List Int, ds = [.int (m : Int)] ∧ n ≤ m ∧ IsBox n cs ∧ d = boxD n cs
section
variable {P : Program} {w : World} {K : PySem.W.Frag} {mg : Str → Option Value} {base : Heap}
theorem ok_box {f : Addr} {fd : FuncData} (Fn : Fun K "_law_box" "_law_box" (topS 25) f fd) (mr : mg "range" = none) (ml : mg "list" = none) (mt : mg "tuple" = none) (ms : mg "sorted" = none)
    (gn : DFn P w K mg base 1 "_law_next" 1 PreNext RNext) (gw : PFn P w K mg base 1 "_law_power" Rpow) (gz : PFn P w K mg base 1 "_law_size" Rsize) : FnG P w K mg base 2 f fd ["_law_state", "_law_most"] (spDraw K 40 PreBox RBox) := by
  refine draw_ok (k := 1) Fn scBox (fun ds ⟨m, e, _⟩ => by rw [e]; rfl) (fun F s a r ds kk dk hK ⟨m, e, hm⟩ => ?_)
  subst e
  -- n
  refine wb_cons (ws_set 2 (by walk_at "tgt") (fun _ _ => rfl) ?_)
  repeat walk_at "dl"
  refine ⟨_, _, rfl, rfl, ?_⟩
  repeat walk_at "dl"
  refine ⟨⟨_, rfl, by omega, by omega⟩, kk + 39, rfl, ?_⟩
  rintro d ⟨m', n, e1, rfl, n0, n1⟩
  cases e1
  obtain ⟨n, rfl⟩ : ∃ z : Nat, n = (z : Int) := ⟨n.toNat, by omega⟩
  have hn : n ≤ 6 := by omega
  have hnm : n ≤ m := by omega
  have hp := pow_le64 hn
  have hp5 : (2 : Int) ^ n ≤ 32 := by
    have : n = 0 ∨ n = 1 ∨ n = 2 ∨ n = 3 ∨ n = 4 ∨ n = 5 := by omega
    rcases this with rfl | rfl | rfl | rfl | rfl | rfl <;> decide
  -- kind, flip
  refine wb_cons (ws_asg2s 3 4 (by decide) (by walk_at "tgt") (by walk_at "tgt") hK (fun env h => by cases env; cases h; rfl) (fun env h => by cases env; cases h; rfl) ?_)
  repeat walk_at "dl"
  refine ⟨⟨_, rfl, by decide, by decide⟩, kk + 38, rfl, ?_⟩
  rintro d ⟨m', kd, e1, rfl, k0, k1⟩
  cases e1
  repeat walk_at "dl"
  refine ⟨_, ⟨n, rfl, by omega, rfl⟩, ?_⟩
  repeat walk_at "dl"
  refine ⟨⟨_, rfl, by omega, by omega⟩, kk + 37, rfl, ?_⟩
  rintro d ⟨m', fl, e1, rfl, f0, f1⟩
  cases e1
  repeat walk_at "dl"
  refine ⟨by show 2 ≤ sizeLine; decide, _, _, rfl, ?_⟩
  -- every
  refine wb_cons (ws_set 5 (by walk_at "tgt") (fun _ _ => rfl) (we_listRg rfl ml rfl mr (fun _ => rfl) (fun _ => rfl) ?_))
  repeat walk_at "dl"
  refine ⟨_, ⟨n, rfl, by omega, rfl⟩, _, rfl, ⟨by omega, by omega⟩, ?_⟩
  -- cards
  refine wb_cons (ws_compL1 7 6 (by walk_at "blk") (by walk_at "tgt") rfl rfl rfl (by decide +kernel) hK (fun _ _ => rfl) ?_)
  repeat walk_at "dl"
  have hlen : (rg ((2 : Int) ^ n)).length ≤ 32 := by rw [rg_length]; omega
  refine ⟨fun j k acc => k + j = kk + 37 ∧ ∃ as : List Int, acc = as.map PyData.int ∧ as.Sublist ((rg ((2 : Int) ^ n)).take j), _, rfl, by rw [List.length_map]; omega, ⟨rfl, [], rfl, by simp⟩, ?_, ?_⟩
  · rintro D j y k acc hy ⟨hk, as, rfl, hsub⟩
    rw [List.getElem?_map] at hy
    cases hc : (rg ((2 : Int) ^ n))[j]? with
    | none => rw [hc] at hy; cases hy
    | some c =>
    rw [hc] at hy
    cases hy
    have hj : j < 32 := Nat.lt_of_lt_of_le (List.getElem?_eq_some_iff.mp hc).1 hlen
    have tn := take_next hc
    have hKD : (F.ext D).K = K := hK
    obtain ⟨k2, rfl⟩ : ∃ k2, k = k2 + 1 := ⟨k - 1, by omega⟩
    repeat walk_at "dl"
    refine ⟨⟨_, rfl, by decide, by decide⟩, k2, rfl, ?_⟩
    rintro d ⟨m', v, e1, rfl, v0, v1⟩
    cases e1
    repeat walk_at "dl"
    refine ⟨by show 4 ≤ sizeLine; decide, ?_⟩
    repeat walk_at "dl"
    refine ⟨_, _, rfl, rfl, by decide, ?_⟩
    have hat : ∃ t : Int, ixD (.list [.int 2, .int 1, .int 3, .int 2]) (.int (kd % 4)) = some (.int t) := by
      have h0 : 0 ≤ kd % 4 := Int.emod_nonneg _ (by decide)
      have h1 : kd % 4 < 4 := Int.emod_lt_of_pos _ (by decide)
      generalize kd % 4 = z at h0 h1
      have : z = 0 ∨ z = 1 ∨ z = 2 ∨ z = 3 := by omega
      rcases this with rfl | rfl | rfl | rfl
      · exact ⟨2, rfl⟩
      · exact ⟨1, rfl⟩
      · exact ⟨3, rfl⟩
      · exact ⟨2, rfl⟩
    obtain ⟨t, ht⟩ := hat
    refine ⟨_, ht, _, _, rfl, rfl, iteD (fun _ => ?_) (fun _ => ?_)⟩
    · repeat walk_at "dl"
      exact ⟨by omega, as ++ [c], by rw [List.map_append]; rfl, by rw [tn]; exact hsub.append (List.Sublist.refl _)⟩
    · exact ⟨by omega, as, rfl, by rw [tn]; exact hsub.trans (List.sublist_append_left _ _)⟩
  rintro k acc ⟨hk, as, rfl, hsub⟩
  rw [List.length_map] at hk hsub
  rw [List.take_length] at hsub
  have hk2 : kk + 5 ≤ k := by omega
  -- if kind == 4
  refine wb_mid (fun k ρ => kk ≤ k ∧ ∃ as x8, GoodC n as ∧ ρ = [.raw (.ref s), .d (.int (m : Int)), .d (.int (n : Int)), .d (.int kd), .d (.int fl), .d (.list ((rg ((2 : Int) ^ n)).map PyData.int)), .d (.list (as.map PyData.int)), .un, x8]) (ws_if (wt_eqI ?_)) ?_
  · repeat walk_at "dl"
    refine ⟨_, _, rfl, rfl, iteD (fun _ => ?_) (fun _ => ?_)⟩
    · obtain ⟨k2, rfl⟩ : ∃ k2, k = k2 + 1 := ⟨k - 1, by omega⟩
      refine wb_cons (ws_set 8 (by walk_at "tgt") (fun _ _ => rfl) ?_)
      repeat walk_at "dl"
      refine ⟨_, _, rfl, rfl, ?_⟩
      repeat walk_at "dl"
      refine ⟨⟨_, rfl, by omega, by omega⟩, k2, rfl, ?_⟩
      rintro d ⟨m', lim, e1, rfl, l0, l1⟩
      cases e1
      refine wb_cons (ws_fL (fun c => decide (((bits c.toNat : Nat) : Int) ≤ lim)) PyData.int (fun c => PyData.int (Builtin.bitXor c fl)) 7 6 (by walk_at "blk") (by walk_at "tgt") rfl rfl rfl (by decide +kernel) hK (fun _ _ => rfl) ?_)
      repeat walk_at "dl"
      refine ⟨_, rfl, by omega, fun D c hc => ?_, ?_⟩
      · have hKD : (F.ext D).K = K := hK
        have hc' := mem_rg.mp hc
        repeat walk_at "dl"
        refine ⟨_, ⟨c.toNat, by rw [show ((c.toNat : Nat) : Int) = c by omega], rfl⟩, ?_⟩
        repeat walk_at "dl"
        refine ⟨_, _, rfl, rfl, rfl, rfl, fun _ => ?_⟩
        repeat walk_at "dl"
        exact ⟨_, _, rfl, rfl, rfl, rfl⟩
      · refine wb_nil ⟨by omega, _, .d (.int lim), xor_good hn f0 f1 (List.filter_sublist (p := fun c => decide (((bits c.toNat : Nat) : Int) ≤ lim))), ?_⟩
        rw [List.map_map]; rfl
    · refine wb_nil ⟨by omega, as, .un, GoodC.sub hsub, rfl⟩
  rintro k ρ ⟨hk, as, x8, hg, rfl⟩
  -- if kind == 5
  refine wb_mid (fun k ρ => kk ≤ k ∧ ∃ as x8, GoodC n as ∧ ρ = [.raw (.ref s), .d (.int (m : Int)), .d (.int (n : Int)), .d (.int kd), .d (.int fl), .d (.list ((rg ((2 : Int) ^ n)).map PyData.int)), .d (.list (as.map PyData.int)), .un, x8]) (ws_if (wt_eqI ?_)) ?_
  · repeat walk_at "dl"
    refine ⟨_, _, rfl, rfl, iteD (fun _ => ?_) (fun _ => ?_)⟩
    · refine wb_cons (ws_fL (fun c => !decide (c = fl) && !decide (c = (2 : Int) ^ n - 1 - fl)) PyData.int PyData.int 7 6 (by walk_at "blk") (by walk_at "tgt") rfl rfl rfl (by decide +kernel) hK (fun _ _ => rfl) ?_)
      repeat walk_at "dl"
      refine ⟨_, rfl, by omega, fun D c hc => ?_, ?_⟩
      · have hKD : (F.ext D).K = K := hK
        refine wt_bool (ww_and (wt_neI ?_))
        repeat walk_at "dl"
        refine ⟨_, _, rfl, rfl, iteB (fun h => ?_) (fun h => ?_)⟩
        · refine ww_and1 (wt_neI ?_)
          repeat walk_at "dl"
          refine ⟨_, ⟨n, rfl, by omega, rfl⟩, ?_⟩
          repeat walk_at "dl"
          refine ⟨_, _, rfl, rfl, ?_⟩
          repeat walk_at "dl"
          refine ⟨_, _, rfl, rfl, ?_⟩
          refine ⟨_, _, rfl, rfl, rfl, ?_, fun _ => ?_⟩
          · rw [h, Bool.true_and]
          · repeat walk_at "dl"
            exact ⟨rfl, rfl⟩
        · exact ⟨rfl, by rw [h, Bool.false_and], fun z => by cases z⟩
      · exact wb_nil ⟨hk, _, x8, GoodC.sub (List.filter_sublist (p := fun c => !decide (c = fl) && !decide (c = (2 : Int) ^ n - 1 - fl))), rfl⟩
    · exact wb_nil ⟨hk, as, x8, hg, rfl⟩
  rintro k ρ ⟨hk, as, x8, hg, rfl⟩
  repeat walk_at "dl"
  refine ⟨as, rfl, fun ms hpm hpw => ⟨_, rfl, ?_⟩⟩
  repeat walk_at "dl"
  exact ⟨by show 2 ≤ sizeLine; decide, hk, m, n, ms, rfl, hnm, hg.sorted hpm hpw, rfl⟩
end


/-- the set image of a list of cards, as a box of m switches -/
def imgL (m : Nat) (g : Int → Int) (cs : List Int) : List Int := (rg (2 ^ m)).filter fun z => cs.any fun c => decide (g c = z)
theorem img_box (m : Nat) (g : Int → Int) (cs : List Int) : IsBox m (imgL m g cs) := ⟨rg_pairwise.filter _, fun c hc => mem_rg.mp (List.mem_filter.mp hc).1⟩
theorem mem_img {m : Nat} {g : Int → Int} {cs : List Int} (hr : ∀ c ∈ cs, 0 ≤ g c ∧ g c < 2 ^ m) (z : Int) : z ∈ imgL m g cs ↔ ∃ c ∈ cs, g c = z := by
  unfold imgL
  rw [List.mem_filter, List.any_eq_true, mem_rg]
  constructor
  · rintro ⟨_, c, hc, e⟩
    exact ⟨c, hc, of_decide_eq_true e⟩
  · rintro ⟨c, hc, rfl⟩
    exact ⟨hr c hc, c, hc, decide_eq_true rfl⟩
theorem img_uniq {m : Nat} {g : Int → Int} {cs ms : List Int} (hr : ∀ c ∈ cs, 0 ≤ g c ∧ g c < 2 ^ m) (hw : ms.Pairwise (· < ·)) (hm : ∀ z, z ∈ ms ↔ z ∈ cs.map g) : ms = imgL m g cs :=
  uniqI hw (img_box m g cs).asc fun z => by rw [hm, mem_img hr, List.mem_map]
theorem img_perm {m : Nat} {g : Int → Int} {cs ms : List Int} (hg : GoodC m (cs.map g)) (hp : ms.Perm (cs.map g)) (hw : ms.Pairwise (· ≤ ·)) : ms = imgL m g cs :=
  img_uniq (fun c hc => hg.rng _ (List.mem_map_of_mem hc)) (hg.sorted hp hw).asc fun z => hp.mem_iff
theorem img_congr {m : Nat} {g h : Int → Int} {cs : List Int} (e : ∀ c ∈ cs, g c = h c) : imgL m g cs = imgL m h cs := by
  unfold imgL
  refine List.filter_congr fun z _ => ?_
  rw [Bool.eq_iff_iff, List.any_eq_true, List.any_eq_true]
  constructor
  · rintro ⟨c, hc, q⟩; exact ⟨c, hc, by rw [← e c hc]; exact q⟩
  · rintro ⟨c, hc, q⟩; exact ⟨c, hc, by rw [e c hc]; exact q⟩
theorem img_img {m l : Nat} {g h : Int → Int} {cs : List Int} (hh : ∀ c ∈ cs, 0 ≤ h c ∧ h c < 2 ^ l) (hg : ∀ c ∈ cs, 0 ≤ g (h c) ∧ g (h c) < 2 ^ m) : imgL m g (imgL l h cs) = imgL m (fun c => g (h c)) cs := by
  refine uniqI (img_box _ _ _).asc (img_box _ _ _).asc fun z => ?_
  rw [mem_img, mem_img hg]
  · constructor
    · rintro ⟨c, hc, rfl⟩
      obtain ⟨b, hb, rfl⟩ := (mem_img hh c).mp hc
      exact ⟨b, hb, rfl⟩
    · rintro ⟨c, hc, rfl⟩
      exact ⟨h c, (mem_img hh _).mpr ⟨c, hc, rfl⟩, rfl⟩
  · intro c hc
    obtain ⟨b, hb, rfl⟩ := (mem_img hh c).mp hc
    exact hg b hb
theorem img_id {n : Nat} {cs : List Int} (hb : IsBox n cs) : imgL n (fun c => c) cs = cs :=
  uniqI (img_box _ _ _).asc hb.asc fun z => by rw [mem_img hb.rng]; exact ⟨fun ⟨c, hc, e⟩ => e ▸ hc, fun h => ⟨z, h, rfl⟩⟩
theorem box_sub {n : Nat} {cs : List Int} (hb : IsBox n cs) : cs.Sublist (rg (2 ^ n)) := by
  have : (rg (2 ^ n)).filter (fun c => decide (c ∈ cs)) = cs :=
    uniqI (rg_pairwise.filter _) hb.asc fun a => by
      rw [List.mem_filter, decide_eq_true_eq, mem_rg]
      exact ⟨fun h => h.2, fun h => ⟨hb.rng a h, h⟩⟩
  exact this ▸ List.filter_sublist
theorem shaped_box (n : Nat) (cs : List Int) : SeqAt.shaped (boxD n cs) = true := by
  obtain ⟨h1, h2⟩ := lay_ints cs
  simp [boxD, SeqAt.shaped, PyData.canLay0, PyData.canLayAll0, PyData.depth, PyData.depthAll, h1, h2]
theorem eqv_box (n m : Nat) (cs ds : List Int) : PyData.eqv (boxD n cs) (boxD m ds) = decide (n = m ∧ cs = ds) := by
  have := eqvAll_ints cs ds
  simp only [boxD, PyData.eqv, PyData.eqvAll, this]
  by_cases h1 : n = m <;> by_cases h2 : cs = ds <;> simp [h1, h2] <;> omega
theorem eqv_box_refl (n : Nat) (cs : List Int) : PyData.eqv (boxD n cs) (boxD n cs) = true := by rw [eqv_box]; simp
theorem iteNq {x y : PyData} {A B : Prop} (h : PyData.eqv x y = true) (q : B) : if (!PyData.eqv x y) = true then A else B := by rw [h, if_neg (by decide)]; exact q
theorem eqv_reflT {xs ys : List Int} (h : xs = ys) : PyData.eqv (.tuple (xs.map PyData.int)) (.tuple (ys.map PyData.int)) = true := by rw [eqv_intsT, decide_eq_true h]
theorem eqv_reflL {xs ys : List Int} (h : xs = ys) : PyData.eqv (.list (xs.map PyData.int)) (.list (ys.map PyData.int)) = true := by rw [eqv_intsL, decide_eq_true h]
theorem eqv_reflB {n m : Nat} {xs ys : List Int} (h1 : n = m) (h : xs = ys) : PyData.eqv (boxD n xs) (boxD m ys) = true := by rw [eqv_box, decide_eq_true ⟨h1, h⟩]

def bitB (s k : Int) : Bool := decide (Builtin.bitAnd (s / 2 ^ k.toNat) 1 = 1)
def woI (c k : Int) : Int := c / 2 ^ (k + 1).toNat * 2 ^ k.toNat + Builtin.bitAnd c (1 * 2 ^ k.toNat - 1)
def bitN (c k : Nat) : Bool := decide (c / 2 ^ k % 2 = 1)
def woN (c k : Nat) : Nat := c / 2 ^ (k + 1) * 2 ^ k + c % 2 ^ k
def widN (m k : Nat) : Nat := m % 2 ^ k + m / 2 ^ k * 2 * 2 ^ k
theorem cast2 (k : Nat) : (2 : Int) ^ k = ((2 ^ k : Nat) : Int) := by rw [Int.natCast_pow]; rfl
theorem band1 (c : Nat) : Builtin.bitAnd (c : Int) 1 = ((c % 2 : Nat) : Int) := by
  have := band_nat c 1
  rw [Nat.and_one_is_mod] at this
  exact this
theorem bit_nat (c k : Nat) : bitB (c : Int) (k : Int) = bitN c k := by
  unfold bitB bitN
  rw [Int.toNat_natCast, cast2, ← Int.natCast_ediv, band1]
  exact decide_eq_decide.mpr (by omega)
theorem wo_nat (c k : Nat) : woI (c : Int) (k : Int) = ((woN c k : Nat) : Int) := by
  unfold woI woN
  have h1 : (((k : Nat) : Int) + 1).toNat = k + 1 := by omega
  have hp := Nat.two_pow_pos k
  have h2 : (1 : Int) * ((2 ^ k : Nat) : Int) - 1 = ((2 ^ k - 1 : Nat) : Int) := by omega
  rw [h1, Int.toNat_natCast, cast2, cast2, h2, band_nat, Nat.and_two_pow_sub_one_eq_mod, ← Int.natCast_ediv, ← Int.natCast_mul, ← Int.natCast_add]
theorem wo_rngN : ∀ n ≤ 6, ∀ k < n, ∀ c < 2 ^ n, woN c k < 2 ^ (n - 1) := by decide +kernel
theorem wo_mono : ∀ k < 6, ∀ b < 64, ∀ a < b, bitN a k = bitN b k → woN a k < woN b k := by decide +kernel
theorem wo_wid : ∀ k < 6, ∀ c < 64, widN (woN c k) k + (if bitN c k then 2 ^ k else 0) = c := by decide +kernel
theorem wid_wo : ∀ k < 6, ∀ m < 32, woN (widN m k) k = m ∧ woN (widN m k + 2 ^ k) k = m ∧ bitN (widN m k) k = false ∧ bitN (widN m k + 2 ^ k) k = true := by decide +kernel
theorem wid_rngN : ∀ n ≤ 6, ∀ k < n, ∀ m < 2 ^ (n - 1), widN m k + 2 ^ k < 2 ^ n := by decide +kernel
theorem wo_comm : ∀ k < 6, ∀ j < k, ∀ c < 64, woN (woN c k) j = woN (woN c j) (k - 1) := by decide +kernel
theorem pow_pred {n : Nat} (hn : 0 < n) : (((n : Nat) : Int) - 1) = ((n - 1 : Nat) : Int) := by omega
theorem to_nat {n : Nat} {c : Int} (hc : 0 ≤ c ∧ c < 2 ^ n) : ∃ m : Nat, c = (m : Int) ∧ m < 2 ^ n := by
  rw [cast2] at hc
  exact ⟨c.toNat, by omega, by omega⟩
theorem lt64 {n m : Nat} (hn : n ≤ 6) (h : m < 2 ^ n) : m < 64 := Nat.lt_of_lt_of_le h (Nat.pow_le_pow_right (by decide) hn)
theorem wo_rng {n k : Nat} (hn : n ≤ 6) (hk : k < n) {c : Int} (hc : 0 ≤ c ∧ c < 2 ^ n) : 0 ≤ woI c k ∧ woI c k < 2 ^ (n - 1) := by
  obtain ⟨m, rfl, hm⟩ := to_nat hc
  rw [wo_nat, cast2]
  have := wo_rngN n hn k hk m hm
  omega
def dropL (n : Nat) (cs : List Int) (k : Nat) : List Int := imgL (n - 1) (fun c => woI c k) cs
def holdL (n : Nat) (cs : List Int) (k : Nat) (on : Bool) : List Int := imgL (n - 1) (fun c => woI c k) (cs.filter fun c => bitB c k == on)
def edgeL (n : Nat) (cs : List Int) (k : Nat) : List Int := (holdL n cs k false).filter fun c => decide (c ∈ holdL n cs k true)
theorem drop_box (n : Nat) (cs : List Int) (k : Nat) : IsBox (n - 1) (dropL n cs k) := img_box _ _ _
theorem hold_box (n : Nat) (cs : List Int) (k : Nat) (on : Bool) : IsBox (n - 1) (holdL n cs k on) := img_box _ _ _
theorem filter_box {n : Nat} {cs : List Int} (hb : IsBox n cs) (p : Int → Bool) : IsBox n (cs.filter p) := ⟨hb.asc.filter _, fun c hc => hb.rng c (List.mem_filter.mp hc).1⟩
theorem edge_isbox (n : Nat) (cs : List Int) (k : Nat) : IsBox (n - 1) (edgeL n cs k) := filter_box (hold_box _ _ _ _) _
theorem wo_rngL {n k : Nat} {cs : List Int} (hn : n ≤ 6) (hk : k < n) (hb : IsBox n cs) : ∀ c ∈ cs, 0 ≤ woI c k ∧ woI c k < 2 ^ (n - 1) := fun c hc => wo_rng hn hk (hb.rng c hc)
theorem hold_map {n k : Nat} {cs : List Int} {on : Bool} (hn : n ≤ 6) (hk : k < n) (hb : IsBox n cs) : (cs.filter fun c => bitB c k == on).map (fun c => woI c k) = holdL n cs k on := by
  have hf := filter_box hb fun c => bitB c k == on
  refine img_uniq (wo_rngL hn hk hf) ?_ fun z => Iff.rfl
  rw [List.pairwise_map]
  refine (List.Pairwise.and_mem.mp hf.asc).imp ?_
  rintro a b ⟨ha, hb', hlt⟩
  obtain ⟨a', rfl, ha1⟩ := to_nat (hf.rng a ha)
  obtain ⟨b', rfl, hb1⟩ := to_nat (hf.rng b hb')
  have e1 : bitN a' k = on := by have := (List.mem_filter.mp ha).2; rw [bit_nat] at this; exact eq_of_beq this
  have e2 : bitN b' k = on := by have := (List.mem_filter.mp hb').2; rw [bit_nat] at this; exact eq_of_beq this
  rw [wo_nat, wo_nat]
  have := wo_mono k (by omega) b' (lt64 hn hb1) a' (by omega) (by rw [e1, e2])
  omega
theorem drop_drop {n k j : Nat} {cs : List Int} (hn : n ≤ 6) (hk : k < n) (hj : j < k) (hb : IsBox n cs) : dropL (n - 1) (dropL n cs k) j = dropL (n - 1) (dropL n cs j) (k - 1) := by
  unfold dropL
  rw [img_img (g := fun c => woI c j) (h := fun c => woI c k) (wo_rngL hn hk hb) (fun c hc => wo_rng (by omega) (by omega) (wo_rng hn hk (hb.rng c hc))), img_img (g := fun c => woI c (k - 1 : Nat)) (h := fun c => woI c j) (wo_rngL hn (by omega) hb) (fun c hc => wo_rng (by omega) (by omega) (wo_rng hn (by omega) (hb.rng c hc)))]
  refine img_congr fun c hc => ?_
  obtain ⟨m, rfl, hm⟩ := to_nat (hb.rng c hc)
  rw [wo_nat, wo_nat, wo_nat, wo_nat, wo_comm k (by omega) j hj m (lt64 hn hm)]
theorem mem_drop {n k : Nat} {cs : List Int} (hn : n ≤ 6) (hk : k < n) (hb : IsBox n cs) (z : Int) : z ∈ dropL n cs k ↔ ∃ c ∈ cs, woI c k = z := mem_img (wo_rngL hn hk hb) z
theorem mem_hold {n k : Nat} {cs : List Int} {on : Bool} (hn : n ≤ 6) (hk : k < n) (hb : IsBox n cs) (z : Int) : z ∈ holdL n cs k on ↔ ∃ c ∈ cs, bitB c k = on ∧ woI c k = z := by
  unfold holdL
  rw [mem_img (wo_rngL hn hk (filter_box hb _))]
  constructor
  · rintro ⟨c, hc, e⟩
    have := List.mem_filter.mp hc
    exact ⟨c, this.1, eq_of_beq this.2, e⟩
  · rintro ⟨c, hc, e1, e2⟩
    exact ⟨c, List.mem_filter.mpr ⟨hc, by rw [e1]; exact beq_self_eq_true _⟩, e2⟩

abbrev nHsw : List Str := ["switches", "switch"]
theorem scHsw : FnScope nHsw ["switches", "switch"] (defScope (topS 1)) := ⟨rfl, rfl, rfl, by decide +kernel, rfl, by decide +kernel, by decide +kernel⟩
def Rhsw : Rel := fun ds d => ∃ s k : Int, ds = [.int s, .int k] ∧ 0 ≤ k ∧ d = .bool (bitB s k)
section
variable {P : Program} {w : World} {K : PySem.W.Frag} {mg : Str → Option Value} {base : Heap}
theorem ok_hsw {f : Addr} {fd : FuncData} (Fn : Fun K "has_switch" "has_switch" (topS 1) f fd) : FnG P w K mg base 1 f fd ["switches", "switch"] (spPure K Rhsw) := by
  refine pure_ok (k := 0) Fn scHsw (fun ds d ⟨s, k, e, _⟩ => by rw [e]; rfl) (fun F ds d hK ⟨s, k, e, hk, ed⟩ => ?_)
  subst e ed
  refine wb_cons (ws_ret (we_eqI ?_))
  repeat walk_at "dx"
  refine ⟨hk, ?_⟩
  repeat walk_at "dx"
  rfl
end

abbrev nWos : List Str := ["card", "switch", "above", "below"]
theorem scWos : FnScope nWos ["card", "switch"] (defScope (topS 10)) := ⟨rfl, rfl, rfl, by decide +kernel, rfl, by decide +kernel, by decide +kernel⟩
def Rwos : Rel := fun ds d => ∃ c k : Int, ds = [.int c, .int k] ∧ (0 ≤ c ∧ c < 1000) ∧ (0 ≤ k ∧ k < 1000) ∧ d = .int (woI c k)
section
variable {P : Program} {w : World} {K : PySem.W.Frag} {mg : Str → Option Value} {base : Heap}
theorem ok_wos {f : Addr} {fd : FuncData} (Fn : Fun K "without_switch" "without_switch" (topS 10) f fd) : FnG P w K mg base 1 f fd ["card", "switch"] (spPure K Rwos) := by
  refine pure_ok (k := 0) Fn scWos (fun ds d ⟨c, k, e, _⟩ => by rw [e]; rfl) (fun F ds d hK ⟨c, k, e, hc, hk, ed⟩ => ?_)
  subst e ed
  refine wb_cons (ws_set 2 (by walk_at "tgt") (fun _ _ => rfl) ?_)
  repeat walk_at "dx"
  refine ⟨by omega, ?_⟩
  refine wb_cons (ws_set 3 (by walk_at "tgt") (fun _ _ => rfl) ?_)
  repeat walk_at "dx"
  refine ⟨⟨by omega, by omega, by decide⟩, ?_⟩
  repeat walk_at "dx"
  refine ⟨⟨by omega, by omega, ?_⟩, ?_⟩
  · have h0 : 0 ≤ c / 2 ^ (k + 1).toNat := Int.ediv_nonneg hc.1 (Int.le_of_lt (Int.pow_pos (by decide)))
    have h1 : c / 2 ^ (k + 1).toNat ≤ c := Int.ediv_le_self _ hc.1
    omega
  repeat walk_at "dx"
  rfl
end

abbrev nHld : List Str := ["box", "switch", "on", "n", "cards", "card"]
theorem scHld : FnScope nHld ["box", "switch", "on"] (defScope (topS 11)) := ⟨rfl, rfl, rfl, by decide +kernel, rfl, by decide +kernel, by decide +kernel⟩
def Rhold : Rel := fun ds d => ∃ (n : Nat) (cs : List Int) (k : Nat) (on : Bool), ds = [boxD n cs, .int (k : Int), .bool on] ∧ n ≤ 6 ∧ IsBox n cs ∧ k < n ∧ d = boxD (n - 1) (holdL n cs k on)
theorem eqv_bools (a b : Bool) : PyData.eqv (.bool a) (.bool b) = (a == b) := by cases a <;> cases b <;> simp [PyData.eqv]
section
variable {P : Program} {w : World} {K : PySem.W.Frag} {mg : Str → Option Value} {base : Heap}
theorem ok_hold {f : Addr} {fd : FuncData} (Fn : Fun K "hold_switch" "hold_switch" (topS 11) f fd) (mt : mg "tuple" = none) (gh : PFn P w K mg base 1 "has_switch" Rhsw) (gw : PFn P w K mg base 1 "without_switch" Rwos) : FnG P w K mg base 2 f fd ["box", "switch", "on"] (spPure K Rhold) := by
  refine pure_ok (k := 1) Fn scHld (fun ds d ⟨n, cs, k, on, e, _⟩ => by rw [e]; rfl) (fun F ds d hK ⟨n, cs, k, on, e, hn, hb, hk, ed⟩ => ?_)
  subst e ed
  have hl := box_len hn hb
  have hp := pow_le64 hn
  refine wb_cons (ws_asg2s 3 4 (by decide) (by walk_at "tgt") (by walk_at "tgt") hK (fun env h => by cases env; cases h; rfl) (fun env h => by cases env; cases h; rfl) ?_)
  repeat walk_at "dx"
  refine ⟨.int (n : Int), .tuple (cs.map PyData.int), rfl, ?_⟩
  refine wb_cons (ws_ret (we_tup (wa_cons (fun _ => rfl) (we_sub ?_))))
  walk_at "name"
  refine we_int ⟨_, _, rfl, rfl, ?_⟩
  refine wa_cons (fun _ => rfl) (we_tuple hK rfl mt (fun _ => rfl) (we_fT (fun c => bitB c k == on) PyData.int (fun c => .int (woI c k)) 5 (by walk_at "blk") hK (fun _ _ => rfl) ?_))
  repeat walk_at "dx"
  refine ⟨cs, rfl, by omega, fun D c hc => ?_, ?_⟩
  · have hKD : (F.ext D).K = K := hK
    have hcr := hb.rng c hc
    refine wt_eq hKD ?_
    repeat walk_at "dx"
    refine ⟨_, ⟨c, k, rfl, by omega, rfl⟩, ?_⟩
    repeat walk_at "dx"
    refine ⟨rfl, rfl, rfl, eqv_bools _ _, fun _ => ?_⟩
    repeat walk_at "dx"
    refine ⟨_, ⟨c, k, rfl, ⟨by omega, by omega⟩, ⟨by omega, by omega⟩, rfl⟩, rfl, rfl⟩
  refine ⟨_, rfl, ?_⟩
  repeat walk_at "dx"
  show PyData.tuple [.int ((n : Int) - 1), .tuple _] = boxD (n - 1) _
  rw [pow_pred (by omega), ← hold_map hn hk hb, boxD, List.map_map]; rfl
end

abbrev nDsw : List Str := ["box", "switch", "n", "cards", "card"]
theorem scDsw : FnScope nDsw ["box", "switch"] (defScope (topS 12)) := ⟨rfl, rfl, rfl, by decide +kernel, rfl, by decide +kernel, by decide +kernel⟩
def Rdrop : Rel := fun ds d => ∃ (n : Nat) (cs : List Int) (k : Nat), ds = [boxD n cs, .int (k : Int)] ∧ n ≤ 6 ∧ IsBox n cs ∧ k < n ∧ d = boxD (n - 1) (dropL n cs k)
section
variable {P : Program} {w : World} {K : PySem.W.Frag} {mg : Str → Option Value} {base : Heap}
theorem ok_drop {f : Addr} {fd : FuncData} (Fn : Fun K "drop_switch" "drop_switch" (topS 12) f fd) (mt : mg "tuple" = none) (ms : mg "sorted" = none) (gw : PFn P w K mg base 1 "without_switch" Rwos) : FnG P w K mg base 2 f fd ["box", "switch"] (spPure K Rdrop) := by
  refine pure_ok (k := 1) Fn scDsw (fun ds d ⟨n, cs, k, e, _⟩ => by rw [e]; rfl) (fun F ds d hK ⟨n, cs, k, e, hn, hb, hk, ed⟩ => ?_)
  subst e ed
  have hl := box_len hn hb
  have hp := pow_le64 hn
  refine wb_cons (ws_asg2s 2 3 (by decide) (by walk_at "tgt") (by walk_at "tgt") hK (fun env h => by cases env; cases h; rfl) (fun env h => by cases env; cases h; rfl) ?_)
  repeat walk_at "dx"
  refine ⟨.int (n : Int), .tuple (cs.map PyData.int), rfl, ?_⟩
  refine wb_cons (ws_ret (we_tup (wa_cons (fun _ => rfl) (we_sub ?_))))
  walk_at "name"
  refine we_int ⟨_, _, rfl, rfl, ?_⟩
  refine wa_cons (fun _ => rfl) (we_tuple hK rfl mt (fun _ => rfl) (we_sortSc PyData.int (fun c => woI c k) 4 (by walk_at "blk") hK rfl ms (fun _ _ => rfl) (fun _ => rfl) ?_))
  repeat walk_at "dx"
  refine ⟨cs, rfl, by omega, fun D c hc => ?_, fun ms' hw hm => ⟨_, rfl, ?_⟩⟩
  · have hKD : (F.ext D).K = K := hK
    have hcr := hb.rng c hc
    repeat walk_at "dx"
    refine ⟨_, ⟨c, k, rfl, ⟨by omega, by omega⟩, ⟨by omega, by omega⟩, rfl⟩, rfl, rfl⟩
  · repeat walk_at "dx"
    show PyData.tuple [.int ((n : Int) - 1), .tuple _] = boxD (n - 1) _
    rw [pow_pred (by omega), img_uniq (wo_rngL hn hk hb) hw hm]; rfl
end

def digL (n : Nat) (c : Int) : List Int := (rg (n : Int)).map fun i => Builtin.bitAnd (c / 2 ^ i.toNat) 1
def numL (xs : List Int) : Int := (xs.mapIdx fun i x => x * 2 ^ i).sum
def digN (n c : Nat) : List Nat := (List.range n).map fun i => c / 2 ^ i % 2
def numN : List Nat → Nat
  | [] => 0
  | x :: xs => x + 2 * numN xs
theorem dig_nat (n c : Nat) : digL n (c : Int) = (digN n c).map fun (i : Nat) => (i : Int) := by
  unfold digL digN rg
  rw [Int.toNat_natCast, List.map_map, List.map_map]
  refine List.map_congr_left fun i _ => ?_
  show Builtin.bitAnd ((c : Int) / 2 ^ ((i : Int)).toNat) 1 = _
  rw [Int.toNat_natCast, cast2, ← Int.natCast_ediv, band1]; rfl
theorem numG : ∀ (xs : List Nat) (m : Nat), ((xs.map fun (i : Nat) => (i : Int)).mapIdx fun i x => x * 2 ^ (i + m)).sum = ((2 ^ m * numN xs : Nat) : Int)
  | [], m => by simp [numN]
  | x :: xs, m => by
    rw [List.map_cons, List.mapIdx_cons, List.sum_cons]
    have e : (fun (i : Nat) (y : Int) => y * 2 ^ (i + 1 + m)) = fun i y => y * 2 ^ (i + (m + 1)) := by
      funext i y
      rw [show i + 1 + m = i + (m + 1) by omega]
    rw [e, numG xs (m + 1), Nat.zero_add, cast2]
    show _ = ((2 ^ m * (x + 2 * numN xs) : Nat) : Int)
    rw [Nat.mul_add, ← Nat.mul_assoc, ← Nat.pow_succ, Int.natCast_add, Nat.mul_comm (2 ^ m) x, Int.natCast_mul, Int.natCast_mul]
theorem num_nat (xs : List Nat) : numL (xs.map fun (i : Nat) => (i : Int)) = ((numN xs : Nat) : Int) := by
  have := numG xs 0
  rw [Nat.pow_zero, Nat.one_mul] at this
  exact this
theorem dig_len (n : Nat) (c : Int) : (digL n c).length = n := by unfold digL; rw [List.length_map, rg_length]; omega
theorem dig_bit (n : Nat) (c : Nat) : ∀ x ∈ digL n (c : Int), x = 0 ∨ x = 1 := by
  intro x hx
  rw [dig_nat, List.mem_map] at hx
  obtain ⟨i, hi, rfl⟩ := hx
  unfold digN at hi
  obtain ⟨j, _, rfl⟩ := List.mem_map.mp hi
  show ((c / 2 ^ j % 2 : Nat) : Int) = 0 ∨ _
  omega
theorem wo_dig : ∀ n ≤ 6, ∀ k < n, ∀ c < 2 ^ n, numN ((digN n c).take k ++ (digN n c).drop (k + 1)) = woN c k := by decide +kernel
theorem wo_due {n k : Nat} (hn : n ≤ 6) (hk : k < n) {c : Int} (hc : 0 ≤ c ∧ c < 2 ^ n) : numL ((digL n c).take k ++ (digL n c).drop (k + 1)) = woI c k := by
  obtain ⟨m, rfl, hm⟩ := to_nat hc
  rw [dig_nat, ← List.map_take, ← List.map_drop, ← List.map_append, num_nat, wo_dig n hn k hk m hm, wo_nat]

theorem ins_dig : ∀ n < 6, ∀ k ≤ n, ∀ m < 2 ^ n, numN ((digN n m).take k ++ 0 :: (digN n m).drop k) = widN m k ∧ numN ((digN n m).take k ++ 1 :: (digN n m).drop k) = widN m k + 2 ^ k := by decide +kernel
theorem cd_bit {k : Nat} {c m : Nat} (hk : k < 6) (hc : c < 64) (e : woN c k = m) : c = widN m k + (if bitN c k then 2 ^ k else 0) := by
  rw [← e, wo_wid k hk c hc]
theorem mem_holdN {n k : Nat} {cs : List Int} {on : Bool} (hn : n ≤ 6) (hk : k < n) (hb : IsBox n cs) {m : Nat} (hm : m < 2 ^ (n - 1)) : (m : Int) ∈ holdL n cs k on ↔ ((widN m k + (if on then 2 ^ k else 0) : Nat) : Int) ∈ cs := by
  have hm32 : m < 32 := Nat.lt_of_lt_of_le hm (by have : n - 1 ≤ 5 := by omega
                                                  exact Nat.pow_le_pow_right (n := 2) (by decide) this)
  rw [mem_hold hn hk hb]
  constructor
  · rintro ⟨c, hc, e1, e2⟩
    obtain ⟨c, rfl, hcl⟩ := to_nat (hb.rng c hc)
    rw [bit_nat] at e1
    rw [wo_nat] at e2
    have e3 := cd_bit (k := k) (m := m) (by omega) (lt64 hn hcl) (by omega)
    rw [e1] at e3
    rw [← e3]; exact hc
  · intro h
    obtain ⟨w1, w2, w3, w4⟩ := wid_wo k (by omega) m hm32
    refine ⟨_, h, ?_, ?_⟩
    · rw [bit_nat]; cases on <;> simp only [Bool.false_eq_true, if_true, if_false, Nat.add_zero] <;> assumption
    · rw [wo_nat]; cases on <;> simp only [Bool.false_eq_true, if_true, if_false, Nat.add_zero] <;> omega
theorem mem_edge {n k : Nat} {cs : List Int} (hn : n ≤ 6) (hk : k < n) (hb : IsBox n cs) {m : Nat} (hm : m < 2 ^ (n - 1)) : (m : Int) ∈ edgeL n cs k ↔ ((widN m k : Nat) : Int) ∈ cs ∧ ((widN m k + 2 ^ k : Nat) : Int) ∈ cs := by
  unfold edgeL
  rw [List.mem_filter, decide_eq_true_eq, mem_holdN hn hk hb hm, mem_holdN hn hk hb hm]
  simp
theorem mem_dropN {n k : Nat} {cs : List Int} (hn : n ≤ 6) (hk : k < n) (hb : IsBox n cs) {m : Nat} (hm : m < 2 ^ (n - 1)) : (m : Int) ∈ dropL n cs k ↔ ((widN m k : Nat) : Int) ∈ cs ∨ ((widN m k + 2 ^ k : Nat) : Int) ∈ cs := by
  have h1 := mem_holdN (on := false) hn hk hb hm
  have h2 := mem_holdN (on := true) hn hk hb hm
  simp only [Bool.false_eq_true, if_true, if_false, Nat.add_zero] at h1 h2
  rw [← h1, ← h2, mem_hold hn hk hb, mem_hold hn hk hb, mem_drop hn hk hb]
  constructor
  · rintro ⟨c, hc, e⟩
    cases hbt : bitB c k with
    | false => exact .inl ⟨c, hc, hbt, e⟩
    | true => exact .inr ⟨c, hc, hbt, e⟩
  · rintro (⟨c, hc, _, e⟩ | ⟨c, hc, _, e⟩) <;> exact ⟨c, hc, e⟩
theorem box_ext {n : Nat} {as bs : List Int} (ha : IsBox n as) (hb : IsBox n bs) (h : ∀ m : Nat, m < 2 ^ n → ((m : Int) ∈ as ↔ (m : Int) ∈ bs)) : as = bs := by
  refine uniqI ha.asc hb.asc fun z => ?_
  constructor
  · intro hz
    obtain ⟨m, rfl, hm⟩ := to_nat (ha.rng z hz)
    exact (h m hm).mp hz
  · intro hz
    obtain ⟨m, rfl, hm⟩ := to_nat (hb.rng z hz)
    exact (h m hm).mpr hz
theorem wid_rng1 {n k m : Nat} (hn : n ≤ 6) (hk : k < n) (hm : m < 2 ^ (n - 1)) : widN m k < 2 ^ n ∧ widN m k + 2 ^ k < 2 ^ n := by
  have := wid_rngN n hn k hk m hm
  have := Nat.two_pow_pos k
  omega
theorem wid_comm : ∀ k < 6, ∀ j < k, ∀ m < 16, widN (widN m j) k = widN (widN m (k - 1)) j ∧ widN (widN m j + 2 ^ j) k = widN (widN m (k - 1)) j + 2 ^ j ∧ widN (widN m j) k + 2 ^ k = widN (widN m (k - 1) + 2 ^ (k - 1)) j ∧ widN (widN m j + 2 ^ j) k + 2 ^ k = widN (widN m (k - 1) + 2 ^ (k - 1)) j + 2 ^ j := by decide +kernel
theorem edge_edge {n k j : Nat} {cs : List Int} (hn : n ≤ 6) (hk : k < n) (hj : j < k) (hb : IsBox n cs) : edgeL (n - 1) (edgeL n cs k) j = edgeL (n - 1) (edgeL n cs j) (k - 1) := by
  refine box_ext (edge_isbox _ _ _) (edge_isbox _ _ _) fun m hm => ?_
  have hm16 : m < 16 := Nat.lt_of_lt_of_le hm (by have : n - 1 - 1 ≤ 4 := by omega
                                                  exact Nat.pow_le_pow_right (n := 2) (by decide) this)
  obtain ⟨c1, c2, c3, c4⟩ := wid_comm k (by omega) j hj m hm16
  have r1 := wid_rng1 (n := n - 1) (k := j) (m := m) (by omega) (by omega) hm
  have r2 := wid_rng1 (n := n - 1) (k := k - 1) (m := m) (by omega) (by omega) hm
  rw [mem_edge (by omega) (by omega) (edge_isbox _ _ _) hm, mem_edge (by omega) (by omega) (edge_isbox _ _ _) hm, mem_edge hn hk hb r1.1, mem_edge hn hk hb r1.2, mem_edge hn (by omega) hb r2.1, mem_edge hn (by omega) hb r2.2, c3, c4, c1, c2]
  constructor
  · rintro ⟨⟨a, b⟩, c, d⟩; exact ⟨⟨a, c⟩, b, d⟩
  · rintro ⟨⟨a, b⟩, c, d⟩; exact ⟨⟨a, c⟩, b, d⟩
theorem edge_full {n k : Nat} (hn : n ≤ 6) (hk : k < n) : edgeL n (rg (2 ^ n)) k = rg (2 ^ (n - 1)) := by
  have hf : ∀ n, IsBox n (rg (2 ^ n)) := fun n => ⟨rg_pairwise, fun _ h => mem_rg.mp h⟩
  refine box_ext (edge_isbox _ _ _) (hf _) fun m hm => ?_
  have r1 := wid_rng1 hn hk hm
  have := Nat.two_pow_pos k
  rw [mem_edge hn hk (hf n) hm, mem_rg, mem_rg, mem_rg, cast2, cast2]
  constructor
  · intro _; omega
  · intro _; omega
theorem xor_bit : ∀ k < 6, ∀ c < 64, (c ^^^ 2 ^ k) = widN (woN c k) k + (if bitN c k then 0 else 2 ^ k) := by decide +kernel
theorem edge_two {n k : Nat} {c : Nat} {ts : List Int} (hn : n ≤ 6) (hk : k < n) (hc : c < 2 ^ n) (hb : IsBox n ts) (ht : ∀ z : Int, z ∈ ts ↔ z = (c : Int) ∨ z = ((c ^^^ 2 ^ k : Nat) : Int)) : (edgeL n ts k).length = 1 := by
  have hc64 := lt64 hn hc
  have hw := wo_rngN n hn k hk c hc
  have e1 := wo_wid k (by omega) c hc64
  have e2 := xor_bit k (by omega) c hc64
  have hp := Nat.two_pow_pos k
  have : edgeL n ts k = [((woN c k : Nat) : Int)] := by
    refine box_ext (n := n - 1) (edge_isbox _ _ _) ⟨List.pairwise_singleton _ _, fun z hz => ?_⟩ fun m hm => ?_
    · have : z = ((woN c k : Nat) : Int) := by simpa using hz
      rw [this, cast2]; omega
    rw [mem_edge hn hk hb hm, ht, ht, List.mem_singleton]
    have hm32 : m < 32 := Nat.lt_of_lt_of_le hm (by have : n - 1 ≤ 5 := by omega
                                                    exact Nat.pow_le_pow_right (n := 2) (by decide) this)
    obtain ⟨w1, w2, w3, w4⟩ := wid_wo k (by omega) m hm32
    constructor
    · rintro ⟨h1 | h1, _⟩
      · have : widN m k = c := by omega
        rw [this] at w1; omega
      · have h2 : widN m k = c ^^^ 2 ^ k := by omega
        have h3 : woN (c ^^^ 2 ^ k) k = woN c k := by
          have hw32 : woN c k < 32 := Nat.lt_of_lt_of_le hw (by have : n - 1 ≤ 5 := by omega
                                                                exact Nat.pow_le_pow_right (n := 2) (by decide) this)
          obtain ⟨v1, v2, v3, v4⟩ := wid_wo k (by omega) (woN c k) hw32
          rw [e2]; split <;> assumption
        rw [h2, h3] at w1; omega
    · intro h1
      have h2 : m = woN c k := by omega
      subst h2
      cases hbt : bitN c k with
      | false =>
        rw [hbt] at e1 e2
        simp only [Bool.false_eq_true, if_false, Nat.add_zero] at e1 e2
        rw [← e2, e1]; exact ⟨.inl rfl, .inr rfl⟩
      | true =>
        rw [hbt] at e1 e2
        simp only [if_true, Nat.add_zero] at e1 e2
        rw [e1, ← e2]; exact ⟨.inr rfl, .inl rfl⟩
  rw [this]; rfl

abbrev nEdg : List Str := ["box", "switch", "n", "cards_off", "cards_on", "card"]
theorem scEdg : FnScope nEdg ["box", "switch"] (defScope (topS 13)) := ⟨rfl, rfl, rfl, by decide +kernel, rfl, by decide +kernel, by decide +kernel⟩
def Redge : Rel := fun ds d => ∃ (n : Nat) (cs : List Int) (k : Nat), ds = [boxD n cs, .int (k : Int)] ∧ n ≤ 6 ∧ IsBox n cs ∧ k < n ∧ d = boxD (n - 1) (edgeL n cs k)
section
variable {P : Program} {w : World} {K : PySem.W.Frag} {mg : Str → Option Value} {base : Heap}
theorem ok_edge {f : Addr} {fd : FuncData} (Fn : Fun K "edge_box" "edge_box" (topS 13) f fd) (mt : mg "tuple" = none) (gh : PFn P w K mg base 2 "hold_switch" Rhold) : FnG P w K mg base 3 f fd ["box", "switch"] (spPure K Redge) := by
  refine pure_ok (k := 2) Fn scEdg (fun ds d ⟨n, cs, k, e, _⟩ => by rw [e]; rfl) (fun F ds d hK ⟨n, cs, k, e, hn, hb, hk, ed⟩ => ?_)
  subst e ed
  have hl := box_len (by omega) (hold_box n cs k false)
  refine wb_cons (ws_asg2s 2 3 (by decide) (by walk_at "tgt") (by walk_at "tgt") hK (fun env h => by cases env; cases h; rfl) (fun env h => by cases env; cases h; rfl) ?_)
  repeat walk_at "dx"
  refine ⟨_, ⟨n, cs, k, false, rfl, hn, hb, hk, rfl⟩, ?_⟩
  refine ⟨.int ((n - 1 : Nat) : Int), .tuple ((holdL n cs k false).map PyData.int), rfl, ?_⟩
  refine wb_cons (ws_set 4 (by walk_at "tgt") (fun _ _ => rfl) ?_)
  repeat walk_at "dx"
  refine ⟨_, ⟨n, cs, k, true, rfl, hn, hb, hk, rfl⟩, ?_⟩
  repeat walk_at "dx"
  refine ⟨.tuple ((holdL n cs k true).map PyData.int), rfl, ?_⟩
  refine wb_cons (ws_ret (we_tup (wa_cons (fun _ => rfl) ?_)))
  repeat walk_at "name"
  refine wa_cons (fun _ => rfl) (we_tuple hK rfl mt (fun _ => rfl) (we_fT (fun c => decide (c ∈ holdL n cs k true)) PyData.int PyData.int 5 (by walk_at "blk") hK (fun _ _ => rfl) ?_))
  repeat walk_at "dx"
  refine ⟨holdL n cs k false, rfl, by omega, fun D c hc => ?_, _, rfl, ?_⟩
  · have hKD : (F.ext D).K = K := hK
    refine wt_inI hKD rfl ?_
    repeat walk_at "dx"
    refine ⟨c, _, rfl, rfl, rfl, rfl, fun _ => ?_⟩
    repeat walk_at "dx"
    exact ⟨rfl, rfl⟩
  · repeat walk_at "dx"
    rfl
end


def prN (n s : Nat) : Nat → Nat → Nat
  | 0, c => c
  | j + 1, c => if bitN s (n - 1 - j) then prN n s j c else woN (prN n s j c) (n - 1 - j)
def pmN (n s : Nat) : Nat → Nat
  | 0 => n
  | j + 1 => if bitN s (n - 1 - j) then pmN n s j else pmN n s j - 1
def prI (n s j : Nat) (c : Int) : Int := ((prN n s j c.toNat : Nat) : Int)
theorem pr_nat (n s j c : Nat) : prI n s j (c : Int) = ((prN n s j c : Nat) : Int) := by unfold prI; rw [Int.toNat_natCast]
theorem pm_ge (n s : Nat) : ∀ j ≤ n, n - j ≤ pmN n s j ∧ pmN n s j ≤ n
  | 0, _ => ⟨by show n - 0 ≤ n; omega, Nat.le_refl _⟩
  | j + 1, h => by
    have := pm_ge n s j (by omega)
    show n - (j + 1) ≤ (if bitN s (n - 1 - j) then pmN n s j else pmN n s j - 1) ∧ (if bitN s (n - 1 - j) then pmN n s j else pmN n s j - 1) ≤ n
    split <;> omega
theorem pr_rng {n s : Nat} (hn : n ≤ 6) {c : Nat} (hc : c < 2 ^ n) : ∀ j ≤ n, prN n s j c < 2 ^ pmN n s j
  | 0, _ => hc
  | j + 1, h => by
    have ih := pr_rng hn hc (s := s) j (by omega)
    have hg := pm_ge n s j (by omega)
    show (if bitN s (n - 1 - j) then prN n s j c else woN (prN n s j c) (n - 1 - j)) < 2 ^ (if bitN s (n - 1 - j) then pmN n s j else pmN n s j - 1)
    split
    · exact ih
    · exact wo_rngN (pmN n s j) (by omega) (n - 1 - j) (by omega) _ ih
def projL (n : Nat) (cs : List Int) (s j : Nat) : List Int := imgL (pmN n s j) (fun c => prI n s j c) cs
theorem prI_rng {n s j : Nat} (hn : n ≤ 6) (hj : j ≤ n) {c : Int} (hc : 0 ≤ c ∧ c < 2 ^ n) : 0 ≤ prI n s j c ∧ prI n s j c < 2 ^ pmN n s j := by
  obtain ⟨m, rfl, hm⟩ := to_nat hc
  have := pr_rng (s := s) hn hm j hj
  rw [pr_nat, cast2]; omega
theorem proj_box (n : Nat) (cs : List Int) (s j : Nat) : IsBox (pmN n s j) (projL n cs s j) := img_box _ _ _
theorem proj_step {n s j : Nat} {cs : List Int} (hn : n ≤ 6) (hj : j < n) (hb : IsBox n cs) (h : bitN s (n - 1 - j) = false) : dropL (pmN n s j) (projL n cs s j) (n - 1 - j) = projL n cs s (j + 1) ∧ pmN n s (j + 1) = pmN n s j - 1 := by
  have hg := pm_ge n s j (by omega)
  have em : pmN n s (j + 1) = pmN n s j - 1 := by show (if bitN s (n - 1 - j) then pmN n s j else pmN n s j - 1) = _; rw [h]; rfl
  refine ⟨?_, em⟩
  unfold dropL projL
  rw [img_img (g := fun c => woI c ((n - 1 - j : Nat) : Int)) (h := fun c => prI n s j c) (fun c hc => prI_rng hn (by omega) (hb.rng c hc)) (fun c hc => wo_rng (n := pmN n s j) (by omega) (by omega) (prI_rng hn (by omega) (hb.rng c hc))), em]
  refine img_congr fun c hc => ?_
  obtain ⟨m, rfl, hm⟩ := to_nat (hb.rng c hc)
  rw [pr_nat, wo_nat, pr_nat]
  show _ = ((if bitN s (n - 1 - j) then prN n s j m else woN (prN n s j m) (n - 1 - j) : Nat) : Int)
  rw [h]; rfl
theorem proj_stay {n s j : Nat} {cs : List Int} (h : bitN s (n - 1 - j) = true) : projL n cs s (j + 1) = projL n cs s j ∧ pmN n s (j + 1) = pmN n s j := by
  have em : pmN n s (j + 1) = pmN n s j := by show (if bitN s (n - 1 - j) then pmN n s j else pmN n s j - 1) = _; rw [h]; rfl
  refine ⟨?_, em⟩
  unfold projL
  rw [em]
  refine img_congr fun c hc => ?_
  show ((if bitN s (n - 1 - j) then prN n s j c.toNat else woN (prN n s j c.toNat) (n - 1 - j) : Nat) : Int) = _
  rw [h]; rfl

theorem pr_pr : ∀ n ≤ 6, ∀ s < 2 ^ n, ∀ p < 2 ^ n, p &&& s = p → pmN (pmN n s n) (prN n s n p) (pmN n s n) = pmN n p n ∧ ∀ c < 2 ^ n, prN (pmN n s n) (prN n s n p) (pmN n s n) (prN n s n c) = prN n p n c := by decide +kernel
theorem pr_full : ∀ n ≤ 6, pmN n (2 ^ n - 1) n = n ∧ ∀ c < 2 ^ n, prN n (2 ^ n - 1) n c = c := by decide +kernel

abbrev nPrj : List Str := ["box", "switches", "left", "switch"]
theorem scPrj : FnScope nPrj ["box", "switches"] (defScope (topS 14)) := ⟨rfl, rfl, rfl, by decide +kernel, rfl, by decide +kernel, by decide +kernel⟩
def Rproj : Rel := fun ds d => ∃ (n : Nat) (cs : List Int) (s : Nat), ds = [boxD n cs, .int (s : Int)] ∧ n ≤ 6 ∧ IsBox n cs ∧ d = boxD (pmN n s n) (projL n cs s n)
section
variable {P : Program} {w : World} {K : PySem.W.Frag} {mg : Str → Option Value} {base : Heap}
theorem ok_prj {f : Addr} {fd : FuncData} (Fn : Fun K "project_to" "project_to" (topS 14) f fd) (mv : mg "reversed" = none) (mr : mg "range" = none) (gh : PFn P w K mg base 1 "has_switch" Rhsw) (gd : PFn P w K mg base 2 "drop_switch" Rdrop) : FnG P w K mg base 3 f fd ["box", "switches"] (spPure K Rproj) := by
  refine pure_ok (k := 2) Fn scPrj (fun ds d ⟨n, cs, s, e, _⟩ => by rw [e]; rfl) (fun F ds d hK ⟨n, cs, s, e, hn, hb, ed⟩ => ?_)
  subst e ed
  refine wb_cons (ws_set 2 (by walk_at "tgt") (fun _ _ => rfl) ?_)
  walk_at "name"
  refine wb_cons (ws_for_revR 3 (by walk_at "tgt") rfl mv rfl mr (fun _ => rfl) (fun _ => rfl) (fun _ _ => rfl) ?_)
  repeat walk_at "dx"
  refine ⟨.int (n : Int), rfl, ?_⟩
  have e0 : projL n cs s 0 = cs := by
    unfold projL
    refine (img_congr (h := fun c => c) fun c hc => ?_).trans (img_id hb)
    obtain ⟨m, rfl, hm⟩ := to_nat (hb.rng c hc)
    rw [pr_nat]; rfl
  refine ⟨fun j k ρ => ∃ x3, ρ = [.d (boxD n cs), .d (.int (s : Int)), .d (boxD (pmN n s j) (projL n cs s j)), x3], n, rfl, by omega, ⟨.un, by rw [e0]; rfl⟩, ?_, ?_⟩
  · rintro j k ρ hj ⟨x3, rfl⟩
    have hg := pm_ge n s j (by omega)
    refine wb_cons (ws_if (wt_not (wt_val (fun _ _ => rfl) ?_)))
    repeat walk_at "dx"
    refine ⟨_, ⟨s, ((n - 1 - j : Nat) : Int), rfl, by omega, rfl⟩, _, rfl, ?_⟩
    rw [bit_nat]
    cases hbt : bitN s (n - 1 - j) with
    | true =>
      obtain ⟨e1, e2⟩ := proj_stay (cs := cs) hbt
      show if (!true) = true then _ else _
      rw [if_neg (by decide)]
      exact wb_nil (wb_nil ⟨_, by rw [e1, e2]; rfl⟩)
    | false =>
      obtain ⟨e1, e2⟩ := proj_step hn hj hb hbt
      show if (!false) = true then _ else _
      rw [if_pos (by decide)]
      refine wb_cons (ws_set 2 (by walk_at "tgt") (fun _ _ => rfl) ?_)
      repeat walk_at "dx"
      refine ⟨_, ⟨pmN n s j, _, n - 1 - j, rfl, by omega, proj_box _ _ _ _, by omega, rfl⟩, ?_⟩
      exact wb_nil (wb_nil ⟨_, by rw [e1, e2]; rfl⟩)
  · rintro k ρ ⟨x3, rfl⟩
    repeat walk_at "dx"
    rfl
end

def cdB (cs : List Int) : Nat → Bool := fun c => decide ((c : Int) ∈ cs)
theorem mem_partsN {s p : Nat} : p ∈ partsN s ↔ p &&& s = p := by
  unfold partsN
  rw [List.mem_filter, List.mem_range, decide_eq_true_eq]
  exact ⟨fun h => h.2, fun h => ⟨by have := Sb.part_le h; omega, h⟩⟩
theorem shown_link {n : Nat} {cs : List Int} (hb : IsBox n cs) {s : Nat} (hs : s < 2 ^ n) : shownB cs (s : Int) = Sb.sh n (cdB cs) s := by
  rw [Bool.eq_iff_iff, Sb.shown_sh n _ s hs]
  unfold shownB hasP
  rw [List.all_eq_true, parts_nat]
  constructor
  · intro h p hp
    have := h (p : Int) (List.mem_map.mpr ⟨p, mem_partsN.mpr hp, rfl⟩)
    obtain ⟨c, hc, e⟩ := List.any_eq_true.mp this
    have hr := hb.rng c hc
    have h2n : ((2 ^ n : Nat) : Int) = (2 : Int) ^ n := by rw [Int.natCast_pow]; rfl
    obtain ⟨c, rfl⟩ : ∃ m : Nat, c = (m : Int) := ⟨c.toNat, by omega⟩
    have e := of_decide_eq_true e
    rw [band_nat] at e
    exact ⟨c, by omega, decide_eq_true hc, by omega⟩
  · intro h p hp
    obtain ⟨p, hp', rfl⟩ := List.mem_map.mp hp
    obtain ⟨c, hc, hA, e⟩ := h p (mem_partsN.mp hp')
    refine List.any_eq_true.mpr ⟨(c : Int), of_decide_eq_true hA, decide_eq_true ?_⟩
    rw [band_nat, e]
theorem mem_bases {n : Nat} {cs : List Int} {s b : Nat} : (b : Int) ∈ basesL n cs (s : Int) ↔ b < 2 ^ n ∧ b &&& s = 0 ∧ ∀ p, p &&& s = p → cdB cs (b + p) = true := by
  have h2n : ((2 ^ n : Nat) : Int) = (2 : Int) ^ n := by rw [Int.natCast_pow]; rfl
  unfold basesL outside missing
  rw [List.mem_filter, List.mem_filter, mem_rg, decide_eq_true_eq, Option.isNone_iff_eq_none, List.find?_eq_none, band_nat]
  unfold cubeCards
  rw [parts_nat]
  constructor
  · rintro ⟨⟨h1, h2⟩, h3⟩
    refine ⟨by omega, by omega, fun p hp => ?_⟩
    have := h3 ((b : Int) + (p : Int)) (List.mem_map.mpr ⟨(p : Int), List.mem_map.mpr ⟨p, mem_partsN.mpr hp, rfl⟩, rfl⟩)
    unfold cdB
    rw [Int.natCast_add]
    simpa using this
  · rintro ⟨h1, h2, h3⟩
    refine ⟨⟨by omega, by omega⟩, fun c hc => ?_⟩
    obtain ⟨p, hp, rfl⟩ := List.mem_map.mp hc
    obtain ⟨p, hp', rfl⟩ := List.mem_map.mp hp
    have := h3 p (mem_partsN.mp hp')
    unfold cdB at this
    rw [Int.natCast_add] at this
    simpa using this
theorem solid_link {n : Nat} {cs : List Int} {s : Nat} (hs : s < 2 ^ n) : solidB n cs (s : Int) = Sb.so n (cdB cs) s := by
  rw [Bool.eq_iff_iff, Sb.solid_so n _ s hs]
  unfold solidB
  rw [decide_eq_true_eq]
  constructor
  · intro h
    have hne : basesL n cs (s : Int) ≠ [] := fun e => by rw [e] at h; simp at h
    obtain ⟨b, hb⟩ := List.exists_mem_of_ne_nil _ hne
    have hr := mem_outside (List.mem_filter.mp hb).1
    obtain ⟨b, rfl⟩ : ∃ m : Nat, b = (m : Int) := ⟨b.toNat, by omega⟩
    obtain ⟨h1, h2, h3⟩ := mem_bases.mp hb
    exact ⟨b, h1, h2, h3⟩
  · rintro ⟨b, h1, h2, h3⟩
    have := List.length_pos_of_mem (mem_bases.mpr ⟨h1, h2, h3⟩)
    omega
theorem solid_shown {n : Nat} {cs : List Int} (hb : IsBox n cs) {s : Int} (hs : s ∈ rg (2 ^ n)) (h : solidB n cs s = true) : shownB cs s = true := by
  have hr := mem_rg.mp hs
  have h2n : ((2 ^ n : Nat) : Int) = (2 : Int) ^ n := by rw [Int.natCast_pow]; rfl
  obtain ⟨s, rfl⟩ : ∃ m : Nat, s = (m : Int) := ⟨s.toNat, by omega⟩
  have hlt : s < 2 ^ n := by omega
  rw [solid_link hlt] at h
  rw [shown_link hb hlt]
  exact Sb.so_sh n _ s h

theorem and_wid : ∀ k < 6, ∀ r < 32, ∀ c < 64, c &&& widN r k = widN (woN c k &&& r) k ∧ c &&& (widN r k + 2 ^ k) = widN (woN c k &&& r) k + (if bitN c k then 2 ^ k else 0) := by decide +kernel
theorem wid_add : ∀ k < 6, ∀ a < 32, ∀ b < 32, a &&& b = 0 → widN (a + b) k = widN a k + widN b k := by decide +kernel
theorem wid_inj {k a b : Nat} (hk : k < 6) (ha : a < 32) (hb : b < 32) (e : widN a k = widN b k) : a = b := by
  have h1 := (wid_wo k hk a ha).1
  have h2 := (wid_wo k hk b hb).1
  rw [e] at h1
  omega
theorem wid_inj1 {k a b : Nat} (hk : k < 6) (ha : a < 32) (hb : b < 32) (e : widN a k + 2 ^ k = widN b k + 2 ^ k) : a = b := wid_inj hk ha hb (by omega)
theorem wo_lt32 : ∀ k < 6, ∀ c < 64, woN c k < 32 := by decide +kernel
theorem wid_lt64 : ∀ k < 6, ∀ m < 32, widN m k + 2 ^ k < 64 := by decide +kernel
theorem and_lt {a b n : Nat} (h : b < n) : a &&& b < n := Nat.lt_of_le_of_lt Nat.and_le_right h
theorem sub_lt {p s : Nat} (h : p &&& s = p) : p ≤ s := by rw [← h]; exact Nat.and_le_right
theorem lt32 {n m : Nat} (hn : n ≤ 6) (h : m < 2 ^ (n - 1)) : m < 32 := by
  have h5 : n - 1 ≤ 5 := by omega
  exact Nat.lt_of_lt_of_le h (Nat.pow_le_pow_right (n := 2) (by decide) h5)
/-- the subsets of a wide set -/
theorem part_wid {k r p : Nat} (hk : k < 6) (hr : r < 32) (h : p &&& widN r k = p) : ∃ q, q &&& r = q ∧ p = widN q k := by
  have hw := wid_lt64 k hk r hr
  have hp2 := Nat.two_pow_pos k
  have hp64 : p < 64 := by have := sub_lt h; omega
  have e := (and_wid k hk r hr p hp64).1
  rw [h] at e
  have hq : woN p k &&& r < 32 := and_lt hr
  refine ⟨woN p k &&& r, ?_, e⟩
  rw [Nat.and_assoc, Nat.and_self]
theorem part_wid1 {k r p : Nat} (hk : k < 6) (hr : r < 32) (h : p &&& (widN r k + 2 ^ k) = p) : ∃ q, q &&& r = q ∧ (p = widN q k ∨ p = widN q k + 2 ^ k) := by
  have hw := wid_lt64 k hk r hr
  have hp2 := Nat.two_pow_pos k
  have hp64 : p < 64 := by have := sub_lt h; omega
  have e := (and_wid k hk r hr p hp64).2
  rw [h] at e
  refine ⟨woN p k &&& r, by rw [Nat.and_assoc, Nat.and_self], ?_⟩
  split at e
  · exact .inr e
  · exact .inl e
theorem wid_part {k r q : Nat} (hk : k < 6) (hr : r < 32) (h : q &&& r = q) : widN q k &&& widN r k = widN q k ∧ widN q k &&& (widN r k + 2 ^ k) = widN q k ∧ (widN q k + 2 ^ k) &&& (widN r k + 2 ^ k) = widN q k + 2 ^ k := by
  have hq : q < 32 := by have := sub_lt h; omega
  have hw := wid_lt64 k hk q hq
  have hp2 := Nat.two_pow_pos k
  obtain ⟨w1, w2, w3, w4⟩ := wid_wo k hk q hq
  have a1 := and_wid k hk r hr (widN q k) (by omega)
  have a2 := and_wid k hk r hr (widN q k + 2 ^ k) hw
  rw [w1, w3, h] at a1
  rw [w2, w4, h] at a2
  simp only [Bool.false_eq_true, if_false, if_true, Nat.add_zero] at a1 a2
  exact ⟨a1.1, a1.2, a2.2⟩
theorem shown_iff {n : Nat} {cs : List Int} (hb : IsBox n cs) {s : Nat} (hs : s < 2 ^ n) : shownB cs (s : Int) = true ↔ ∀ p : Nat, p &&& s = p → ∃ c : Nat, c < 2 ^ n ∧ (c : Int) ∈ cs ∧ c &&& s = p := by
  rw [shown_link hb hs, Sb.shown_sh n _ s hs]
  constructor
  · intro h p hp
    obtain ⟨c, h1, h2, h3⟩ := h p hp
    exact ⟨c, h1, of_decide_eq_true h2, h3⟩
  · intro h p hp
    obtain ⟨c, h1, h2, h3⟩ := h p hp
    exact ⟨c, h1, decide_eq_true h2, h3⟩
theorem solid_iff {n : Nat} {cs : List Int} {s : Nat} (hs : s < 2 ^ n) : solidB n cs (s : Int) = true ↔ ∃ b : Nat, b < 2 ^ n ∧ b &&& s = 0 ∧ ∀ p : Nat, p &&& s = p → ((b + p : Nat) : Int) ∈ cs := by
  rw [solid_link hs, Sb.solid_so n _ s hs]
  constructor
  · rintro ⟨b, h1, h2, h3⟩
    exact ⟨b, h1, h2, fun p hp => of_decide_eq_true (h3 p hp)⟩
  · rintro ⟨b, h1, h2, h3⟩
    exact ⟨b, h1, h2, fun p hp => decide_eq_true (h3 p hp)⟩
section
variable {n k : Nat} {cs : List Int} {r : Nat}
theorem shown_drop (hn : n ≤ 6) (hk : k < n) (hb : IsBox n cs) (hr : r < 2 ^ (n - 1)) : shownB cs ((widN r k : Nat) : Int) = shownB (dropL n cs k) (r : Int) := by
  have hk6 : k < 6 := by omega
  have hr32 := lt32 hn hr
  have hw := wid_rng1 hn hk hr
  rw [Bool.eq_iff_iff, shown_iff hb hw.1, shown_iff (drop_box n cs k) hr]
  constructor
  · intro h p hp
    obtain ⟨c, h1, h2, h3⟩ := h (widN p k) (wid_part hk6 hr32 hp).1
    have hp32 : p < 32 := by have := sub_lt hp; omega
    rw [(and_wid k hk6 r hr32 c (lt64 hn h1)).1] at h3
    refine ⟨woN c k, wo_rngN n hn k hk c h1, (mem_drop hn hk hb _).mpr ⟨_, h2, by rw [wo_nat]⟩, wid_inj hk6 (and_lt hr32) hp32 h3⟩
  · intro h p hp
    obtain ⟨q, hq, rfl⟩ := part_wid hk6 hr32 hp
    obtain ⟨m, h1, h2, h3⟩ := h q hq
    obtain ⟨c, hc, e⟩ := (mem_drop hn hk hb _).mp h2
    obtain ⟨c, rfl, hcl⟩ := to_nat (hb.rng c hc)
    rw [wo_nat] at e
    refine ⟨c, hcl, hc, ?_⟩
    rw [(and_wid k hk6 r hr32 c (lt64 hn hcl)).1, show woN c k = m by omega, h3]
theorem shown_with (hn : n ≤ 6) (hk : k < n) (hb : IsBox n cs) (hr : r < 2 ^ (n - 1)) : shownB cs ((widN r k + 2 ^ k : Nat) : Int) = (shownB (holdL n cs k false) (r : Int) && shownB (holdL n cs k true) (r : Int)) := by
  have hk6 : k < 6 := by omega
  have hr32 := lt32 hn hr
  have hw := wid_rng1 hn hk hr
  have hp2 := Nat.two_pow_pos k
  rw [Bool.eq_iff_iff, Bool.and_eq_true, shown_iff hb hw.2, shown_iff (hold_box n cs k false) hr, shown_iff (hold_box n cs k true) hr]
  constructor
  · intro h
    constructor
    · intro p hp
      have hp32 : p < 32 := by have := sub_lt hp; omega
      obtain ⟨c, h1, h2, h3⟩ := h (widN p k) (wid_part hk6 hr32 hp).2.1
      rw [(and_wid k hk6 r hr32 c (lt64 hn h1)).2] at h3
      have hb0 : bitN c k = false := by
        cases hbt : bitN c k with
        | false => rfl
        | true =>
          rw [hbt, if_pos rfl] at h3
          have x1 := (wid_wo k hk6 (woN c k &&& r) (and_lt hr32)).2.2.2
          have x2 := (wid_wo k hk6 p hp32).2.2.1
          rw [h3, x2] at x1; cases x1
      rw [hb0] at h3
      simp only [Bool.false_eq_true, if_false, Nat.add_zero] at h3
      exact ⟨woN c k, wo_rngN n hn k hk c h1, (mem_hold hn hk hb _).mpr ⟨_, h2, by rw [bit_nat, hb0], by rw [wo_nat]⟩, wid_inj hk6 (and_lt hr32) hp32 h3⟩
    · intro p hp
      have hp32 : p < 32 := by have := sub_lt hp; omega
      obtain ⟨c, h1, h2, h3⟩ := h (widN p k + 2 ^ k) (wid_part hk6 hr32 hp).2.2
      rw [(and_wid k hk6 r hr32 c (lt64 hn h1)).2] at h3
      have hb1 : bitN c k = true := by
        cases hbt : bitN c k with
        | true => rfl
        | false =>
          rw [hbt] at h3
          simp only [Bool.false_eq_true, if_false, Nat.add_zero] at h3
          have x1 := (wid_wo k hk6 (woN c k &&& r) (and_lt hr32)).2.2.1
          have x2 := (wid_wo k hk6 p hp32).2.2.2
          rw [h3, x2] at x1; cases x1
      rw [hb1, if_pos rfl] at h3
      exact ⟨woN c k, wo_rngN n hn k hk c h1, (mem_hold hn hk hb _).mpr ⟨_, h2, by rw [bit_nat, hb1], by rw [wo_nat]⟩, wid_inj1 hk6 (and_lt hr32) hp32 h3⟩
  · rintro ⟨h0, h1⟩ p hp
    obtain ⟨q, hq, rfl | rfl⟩ := part_wid1 hk6 hr32 hp
    · obtain ⟨m, a1, a2, a3⟩ := h0 q hq
      obtain ⟨c, hc, e1, e2⟩ := (mem_hold hn hk hb _).mp a2
      obtain ⟨c, rfl, hcl⟩ := to_nat (hb.rng c hc)
      rw [bit_nat] at e1
      rw [wo_nat] at e2
      refine ⟨c, hcl, hc, ?_⟩
      rw [(and_wid k hk6 r hr32 c (lt64 hn hcl)).2, show woN c k = m by omega, a3, e1]; rfl
    · obtain ⟨m, a1, a2, a3⟩ := h1 q hq
      obtain ⟨c, hc, e1, e2⟩ := (mem_hold hn hk hb _).mp a2
      obtain ⟨c, rfl, hcl⟩ := to_nat (hb.rng c hc)
      rw [bit_nat] at e1
      rw [wo_nat] at e2
      refine ⟨c, hcl, hc, ?_⟩
      rw [(and_wid k hk6 r hr32 c (lt64 hn hcl)).2, show woN c k = m by omega, a3, e1]; rfl
theorem solid_without (hn : n ≤ 6) (hk : k < n) (hb : IsBox n cs) (hr : r < 2 ^ (n - 1)) : solidB n cs ((widN r k : Nat) : Int) = (solidB (n - 1) (holdL n cs k false) (r : Int) || solidB (n - 1) (holdL n cs k true) (r : Int)) := by
  have hp2 := Nat.two_pow_pos k
  have hk6 : k < 6 := by omega
  have hr32 := lt32 hn hr
  have hw := wid_rng1 hn hk hr
  rw [Bool.eq_iff_iff, Bool.or_eq_true, solid_iff hw.1, solid_iff hr, solid_iff hr]
  have key : ∀ (m : Nat) (on : Bool), m < 2 ^ (n - 1) → ((m : Int) ∈ holdL n cs k on ↔ ((widN m k + (if on then 2 ^ k else 0) : Nat) : Int) ∈ cs) := fun m on hm => mem_holdN hn hk hb hm
  have small : ∀ b p : Nat, b < 2 ^ (n - 1) → b &&& r = 0 → p &&& r = p → b + p < 2 ^ (n - 1) ∧ b &&& p = 0 := fun b p hb0 h1 h2 => by
    have hd : b &&& p = 0 := by rw [← h2, Nat.and_comm p r, ← Nat.and_assoc, h1, Nat.zero_and]
    have hp : p < 2 ^ (n - 1) := by have := sub_lt h2; omega
    refine ⟨?_, hd⟩
    have e : b + p = b ||| p := by
      have : ∀ b < 32, ∀ p < 32, b &&& p = 0 → b + p = b ||| p := by decide +kernel
      exact this b (lt32 hn hb0) p (lt32 hn hp) hd
    rw [e]; exact Nat.or_lt_two_pow hb0 hp
  constructor
  · rintro ⟨b, h1, h2, h3⟩
    have hb64 := lt64 hn h1
    have e2 := (and_wid k hk6 r hr32 b hb64).1
    have hwo := wo_rngN n hn k hk b h1
    have hz : woN b k &&& r = 0 := by
      have : widN (woN b k &&& r) k = widN 0 k := by rw [← e2, h2]; simp [widN]
      exact wid_inj hk6 (and_lt hr32) (by decide) this
    have eb := wo_wid k hk6 b hb64
    cases hbt : bitN b k with
    | false =>
      refine .inl ⟨woN b k, hwo, hz, fun p hp => ?_⟩
      obtain ⟨s1, s2⟩ := small _ p hwo hz hp
      have hp32 : p < 32 := by have := sub_lt hp; omega
      rw [key _ _ s1]
      have := h3 (widN p k) (wid_part hk6 hr32 hp).1
      rw [hbt] at eb
      simp only [Bool.false_eq_true, if_false, Nat.add_zero] at eb ⊢
      rw [wid_add k hk6 _ (lt32 hn hwo) p hp32 s2, eb]; exact this
    | true =>
      refine .inr ⟨woN b k, hwo, hz, fun p hp => ?_⟩
      obtain ⟨s1, s2⟩ := small _ p hwo hz hp
      have hp32 : p < 32 := by have := sub_lt hp; omega
      rw [key _ _ s1]
      have := h3 (widN p k) (wid_part hk6 hr32 hp).1
      rw [hbt] at eb
      simp only [if_true] at eb ⊢
      rw [wid_add k hk6 _ (lt32 hn hwo) p hp32 s2, show widN (woN b k) k + widN p k + 2 ^ k = b + widN p k by omega]; exact this
  · have back : ∀ on : Bool, (∃ b : Nat, b < 2 ^ (n - 1) ∧ b &&& r = 0 ∧ ∀ p : Nat, p &&& r = p → ((b + p : Nat) : Int) ∈ holdL n cs k on) → ∃ b : Nat, b < 2 ^ n ∧ b &&& widN r k = 0 ∧ ∀ p : Nat, p &&& widN r k = p → ((b + p : Nat) : Int) ∈ cs := by
      rintro on ⟨b, h1, h2, h3⟩
      have hb32 := lt32 hn h1
      have hwb := wid_rng1 hn hk h1
      obtain ⟨w1, w2, w3, w4⟩ := wid_wo k hk6 b hb32
      refine ⟨widN b k + (if on then 2 ^ k else 0), by split <;> omega, ?_, fun p hp => ?_⟩
      · have hlt : widN b k + (if on then 2 ^ k else 0) < 64 := by have := wid_lt64 k hk6 b hb32; split <;> omega
        rw [(and_wid k hk6 r hr32 _ hlt).1]
        have : woN (widN b k + (if on then 2 ^ k else 0)) k = b := by split <;> assumption
        rw [this, h2]; simp [widN]
      · obtain ⟨q, hq, rfl⟩ := part_wid hk6 hr32 hp
        obtain ⟨s1, s2⟩ := small b q h1 h2 hq
        have hq32 : q < 32 := by have := sub_lt hq; omega
        have := (key _ on s1).mp (h3 q hq)
        rw [wid_add k hk6 b hb32 q hq32 s2] at this
        rw [show widN b k + (if on then 2 ^ k else 0) + widN q k = widN b k + widN q k + (if on then 2 ^ k else 0) by omega]
        exact this
    rintro (h | h)
    · exact back false h
    · exact back true h
theorem solid_with (hn : n ≤ 6) (hk : k < n) (hb : IsBox n cs) (hr : r < 2 ^ (n - 1)) : solidB n cs ((widN r k + 2 ^ k : Nat) : Int) = solidB (n - 1) (edgeL n cs k) (r : Int) := by
  have hk6 : k < 6 := by omega
  have hr32 := lt32 hn hr
  have hw := wid_rng1 hn hk hr
  have hp2 := Nat.two_pow_pos k
  rw [Bool.eq_iff_iff, solid_iff hw.2, solid_iff hr]
  have small : ∀ b p : Nat, b < 2 ^ (n - 1) → b &&& r = 0 → p &&& r = p → b + p < 2 ^ (n - 1) ∧ b &&& p = 0 := fun b p hb0 h1 h2 => by
    have hd : b &&& p = 0 := by rw [← h2, Nat.and_comm p r, ← Nat.and_assoc, h1, Nat.zero_and]
    have hp : p < 2 ^ (n - 1) := by have := sub_lt h2; omega
    refine ⟨?_, hd⟩
    have e : b + p = b ||| p := by
      have : ∀ b < 32, ∀ p < 32, b &&& p = 0 → b + p = b ||| p := by decide +kernel
      exact this b (lt32 hn hb0) p (lt32 hn hp) hd
    rw [e]; exact Nat.or_lt_two_pow hb0 hp
  constructor
  · rintro ⟨b, h1, h2, h3⟩
    have hb64 := lt64 hn h1
    have e2 := (and_wid k hk6 r hr32 b hb64).2
    have hwo := wo_rngN n hn k hk b h1
    rw [h2] at e2
    have hbt : bitN b k = false := by
      cases hbt : bitN b k with
      | false => rfl
      | true => rw [hbt, if_pos rfl] at e2; omega
    rw [hbt] at e2
    simp only [Bool.false_eq_true, if_false, Nat.add_zero] at e2
    have hz : woN b k &&& r = 0 := by
      have : widN (woN b k &&& r) k = widN 0 k := by rw [← e2]; simp [widN]
      exact wid_inj hk6 (and_lt hr32) (by decide) this
    have eb := wo_wid k hk6 b hb64
    rw [hbt] at eb
    simp only [Bool.false_eq_true, if_false, Nat.add_zero] at eb
    refine ⟨woN b k, hwo, hz, fun p hp => ?_⟩
    obtain ⟨s1, s2⟩ := small _ p hwo hz hp
    have hp32 : p < 32 := by have := sub_lt hp; omega
    have x1 := h3 (widN p k) (wid_part hk6 hr32 hp).2.1
    have x2 := h3 (widN p k + 2 ^ k) (wid_part hk6 hr32 hp).2.2
    rw [mem_edge hn hk hb s1, wid_add k hk6 _ (lt32 hn hwo) p hp32 s2, eb]
    exact ⟨x1, by rw [Nat.add_assoc]; exact x2⟩
  · rintro ⟨b, h1, h2, h3⟩
    have hb32 := lt32 hn h1
    have hwb := wid_rng1 hn hk h1
    obtain ⟨w1, w2, w3, w4⟩ := wid_wo k hk6 b hb32
    refine ⟨widN b k, hwb.1, ?_, fun p hp => ?_⟩
    · rw [(and_wid k hk6 r hr32 _ (lt64 hn hwb.1)).2, w1, w3, h2]; simp [widN]
    · obtain ⟨q, hq, e⟩ := part_wid1 hk6 hr32 hp
      obtain ⟨s1, s2⟩ := small b q h1 h2 hq
      have hq32 : q < 32 := by have := sub_lt hq; omega
      have := (mem_edge hn hk hb s1).mp (h3 q hq)
      rw [wid_add k hk6 b hb32 q hq32 s2] at this
      rcases e with rfl | rfl
      · exact this.1
      · rw [← Nat.add_assoc]; exact this.2
theorem shown_mono {m : Nat} {as bs : List Int} (ha : IsBox m as) (hb : IsBox m bs) (h : ∀ z ∈ as, z ∈ bs) {s : Nat} (hs : s < 2 ^ m) (q : shownB as (s : Int) = true) : shownB bs (s : Int) = true := by
  rw [shown_iff ha hs] at q
  rw [shown_iff hb hs]
  intro p hp
  obtain ⟨c, h1, h2, h3⟩ := q p hp
  exact ⟨c, h1, h _ h2, h3⟩
theorem edge_shown (hn : n ≤ 6) (hk : k < n) (hb : IsBox n cs) (hr : r < 2 ^ (n - 1)) (h : shownB (edgeL n cs k) (r : Int) = true) : shownB cs ((widN r k + 2 ^ k : Nat) : Int) = true := by
  rw [shown_with hn hk hb hr, Bool.and_eq_true]
  refine ⟨shown_mono (edge_isbox n cs k) (hold_box n cs k false) (fun z hz => (List.mem_filter.mp hz).1) hr h, shown_mono (edge_isbox n cs k) (hold_box n cs k true) (fun z hz => of_decide_eq_true (List.mem_filter.mp hz).2) hr h⟩
end
theorem cnt_or_and {α : Type} (p q : α → Bool) : ∀ l : List α, (l.filter fun x => p x || q x).length + (l.filter fun x => p x && q x).length = (l.filter p).length + (l.filter q).length
  | [] => rfl
  | x :: l => by
    have := cnt_or_and p q l
    simp only [List.filter_cons]
    cases p x <;> cases q x <;> simp <;> omega
theorem hold_cnt {n k : Nat} {cs : List Int} (hn : n ≤ 6) (hk : k < n) (hb : IsBox n cs) : (holdL n cs k false).length + (holdL n cs k true).length = cs.length := by
  rw [← hold_map hn hk hb, ← hold_map hn hk hb, List.length_map, List.length_map]
  have : ∀ l : List Int, (l.filter fun c => bitB c k == false).length + (l.filter fun c => bitB c k == true).length = l.length := by
    intro l
    induction l with
    | nil => rfl
    | cons x l ih =>
      simp only [List.filter_cons]
      cases bitB x k <;> simp <;> simp at ih <;> omega
  exact this cs
theorem box_flt {m : Nat} {as : List Int} (ha : IsBox m as) : as = (rg (2 ^ m)).filter fun z => decide (z ∈ as) :=
  uniqI ha.asc (rg_pairwise.filter _) fun z => by
    rw [List.mem_filter, decide_eq_true_eq, mem_rg]
    exact ⟨fun h => ⟨ha.rng z h, h⟩, fun h => h.2⟩
theorem part_cnt {n k : Nat} {cs : List Int} (hn : n ≤ 6) (hk : k < n) (hb : IsBox n cs) : cs.length = (dropL n cs k).length + (edgeL n cs k).length := by
  rw [← hold_cnt hn hk hb]
  have e1 : dropL n cs k = (rg (2 ^ (n - 1))).filter fun z => decide (z ∈ holdL n cs k false) || decide (z ∈ holdL n cs k true) := by
    refine uniqI (drop_box n cs k).asc (rg_pairwise.filter _) fun z => ?_
    rw [List.mem_filter, Bool.or_eq_true, decide_eq_true_eq, decide_eq_true_eq, mem_rg]
    constructor
    · intro hz
      have hr := (drop_box n cs k).rng z hz
      obtain ⟨m, rfl, hm⟩ := to_nat hr
      refine ⟨hr, ?_⟩
      have h1 := (mem_dropN hn hk hb hm).mp hz
      have h2 := mem_holdN (on := false) hn hk hb hm
      have h3 := mem_holdN (on := true) hn hk hb hm
      simp only [Bool.false_eq_true, if_true, if_false, Nat.add_zero] at h2 h3
      rw [h2, h3]; exact h1
    · rintro ⟨hr, hz⟩
      obtain ⟨m, rfl, hm⟩ := to_nat hr
      have h2 := mem_holdN (on := false) hn hk hb hm
      have h3 := mem_holdN (on := true) hn hk hb hm
      simp only [Bool.false_eq_true, if_true, if_false, Nat.add_zero] at h2 h3
      rw [h2, h3] at hz
      exact (mem_dropN hn hk hb hm).mpr hz
  have e2 : edgeL n cs k = (rg (2 ^ (n - 1))).filter fun z => decide (z ∈ holdL n cs k false) && decide (z ∈ holdL n cs k true) := by
    refine uniqI (edge_isbox n cs k).asc (rg_pairwise.filter _) fun z => ?_
    unfold edgeL
    rw [List.mem_filter, List.mem_filter, Bool.and_eq_true, decide_eq_true_eq, decide_eq_true_eq, mem_rg]
    exact ⟨fun h => ⟨(hold_box n cs k false).rng z h.1, h⟩, fun h => h.2⟩
  rw [e1, e2, cnt_or_and]
  have f1 := congrArg List.length (box_flt (hold_box n cs k false))
  have f2 := congrArg List.length (box_flt (hold_box n cs k true))
  omega


def exN (n s : Nat) : Nat → Nat → Nat
  | 0, q => q
  | j + 1, q => exN n s j (if bitN s (n - 1 - j) then q else widN q (n - 1 - j))
theorem pr_and : ∀ n ≤ 5, ∀ s < 2 ^ n, ∀ c < 2 ^ n, prN n s n (c &&& s) = prN n s n c ∧ exN n s n (prN n s n c) = c &&& s := by decide +kernel
theorem ex_pr : ∀ n ≤ 5, ∀ s < 2 ^ n, ∀ q < 2 ^ pmN n s n, exN n s n q < 2 ^ n ∧ exN n s n q &&& s = exN n s n q ∧ prN n s n (exN n s n q) = q := by decide +kernel
theorem pr_ex : ∀ n ≤ 5, ∀ s < 2 ^ n, ∀ q < 2 ^ pmN n s n, ∀ c < 2 ^ n, prN n s n (c &&& exN n s n q) = prN n s n c &&& q := by decide +kernel
theorem pm_b6 : ∀ n ≤ 5, ∀ s < 2 ^ n, pmN n s n = b6 s := by decide +kernel
def ownL (s : Int) : List Int := [1, 2, 4, 8, 16, 32].filter fun v => decide (s / v % 2 = 1)
def renI (s o : Int) : Int := (((rg ((ownL s).length : Int)).filter fun k => decide (o / ((ownL s).getD k.toNat 1) % 2 = 1)).map fun k => 1 * 2 ^ k.toNat).sum
theorem ren_pr : ∀ n ≤ 5, ∀ s < 2 ^ n, ∀ o < 2 ^ n, renI ((s : Nat) : Int) ((o : Nat) : Int) = ((prN n s n o : Nat) : Int) := by decide +kernel
section
variable {n s : Nat} {cs : List Int}
theorem mem_proj (hn : n ≤ 5) (hb : IsBox n cs) (z : Nat) : (z : Int) ∈ projL n cs s n ↔ ∃ c : Nat, c < 2 ^ n ∧ (c : Int) ∈ cs ∧ prN n s n c = z := by
  unfold projL
  rw [mem_img fun c hc => prI_rng (by omega) (Nat.le_refl _) (hb.rng c hc)]
  constructor
  · rintro ⟨c, hc, e⟩
    obtain ⟨m, rfl, hm⟩ := to_nat (hb.rng c hc)
    rw [pr_nat] at e
    exact ⟨m, hm, hc, by omega⟩
  · rintro ⟨c, hc, h, e⟩
    exact ⟨(c : Int), h, by rw [pr_nat, e]⟩
theorem pr_inj (hn : n ≤ 5) (hs : s < 2 ^ n) {a b : Nat} (ha : a < 2 ^ n) (hb : b < 2 ^ n) (e : prN n s n a = prN n s n b) : a &&& s = b &&& s := by
  rw [← (pr_and n hn s hs a ha).2, ← (pr_and n hn s hs b hb).2, e]
theorem proj_shown (hn : n ≤ 5) (hs : s < 2 ^ n) (hb : IsBox n cs) {r : Nat} (hr : r < 2 ^ pmN n s n) : shownB (projL n cs s n) (r : Int) = shownB cs ((exN n s n r : Nat) : Int) := by
  obtain ⟨x1, x2, x3⟩ := ex_pr n hn s hs r hr
  rw [Bool.eq_iff_iff, shown_iff (proj_box n cs s n) hr, shown_iff hb x1]
  constructor
  · intro h p hp
    have hpl : p < 2 ^ n := by have := sub_lt hp; omega
    have hq : prN n s n p &&& r = prN n s n p := by rw [← pr_ex n hn s hs r hr p hpl, hp]
    obtain ⟨z, h1, h2, h3⟩ := h _ hq
    obtain ⟨c, c1, c2, c3⟩ := (mem_proj hn hb z).mp h2
    refine ⟨c, c1, c2, ?_⟩
    have hcl : c &&& exN n s n r < 2 ^ n := and_lt x1
    have e1 : prN n s n (c &&& exN n s n r) = prN n s n p := by rw [pr_ex n hn s hs r hr c c1, c3, h3]
    have e2 := pr_inj hn hs hcl hpl e1
    have e3 : (c &&& exN n s n r) &&& s = c &&& exN n s n r := by rw [Nat.and_assoc, x2]
    have e4 : p &&& s = p := by rw [← hp, Nat.and_assoc, x2]
    rw [e3, e4] at e2; exact e2
  · intro h q hq
    have hql : q < 2 ^ pmN n s n := by have := sub_lt hq; omega
    obtain ⟨y1, y2, y3⟩ := ex_pr n hn s hs q hql
    have hsub : exN n s n q &&& exN n s n r = exN n s n q := by
      have e1 : prN n s n (exN n s n q &&& exN n s n r) = prN n s n (exN n s n q) := by rw [pr_ex n hn s hs r hr _ y1, y3, hq]
      have e2 := pr_inj hn hs (and_lt x1) y1 e1
      rw [Nat.and_assoc, x2, y2] at e2; exact e2
    obtain ⟨c, c1, c2, c3⟩ := h _ hsub
    refine ⟨prN n s n c, pr_rng (by omega) c1 n (Nat.le_refl _), (mem_proj hn hb _).mpr ⟨c, c1, c2, rfl⟩, ?_⟩
    rw [← pr_ex n hn s hs r hr c c1, c3, y3]
theorem shown_full (hn : n ≤ 5) (hs : s < 2 ^ n) (hb : IsBox n cs) : shownB cs (s : Int) = decide ((projL n cs s n).length = 2 ^ pmN n s n) := by
  have hpb := proj_box n cs s n
  have e1 : shownB cs (s : Int) = true ↔ ∀ q : Nat, q < 2 ^ pmN n s n → (q : Int) ∈ projL n cs s n := by
    rw [shown_iff hb hs]
    constructor
    · intro h q hq
      obtain ⟨x1, x2, x3⟩ := ex_pr n hn s hs q hq
      obtain ⟨c, c1, c2, c3⟩ := h _ x2
      refine (mem_proj hn hb q).mpr ⟨c, c1, c2, ?_⟩
      rw [← (pr_and n hn s hs c c1).1, c3, x3]
    · intro h p hp
      have hpl : p < 2 ^ n := by have := sub_lt hp; omega
      obtain ⟨c, c1, c2, c3⟩ := (mem_proj hn hb _).mp (h (prN n s n p) (pr_rng (by omega) hpl n (Nat.le_refl _)))
      refine ⟨c, c1, c2, ?_⟩
      rw [pr_inj hn hs c1 hpl c3, hp]
  rw [Bool.eq_iff_iff, e1, decide_eq_true_eq]
  have hrl : (rg ((2 : Int) ^ pmN n s n)).length = 2 ^ pmN n s n := by rw [rg_length, cast2, Int.toNat_natCast]
  constructor
  · intro h
    have : projL n cs s n = rg (2 ^ pmN n s n) := by
      refine uniqI hpb.asc rg_pairwise fun z => ?_
      rw [mem_rg]
      constructor
      · exact fun hz => hpb.rng z hz
      · intro hz
        obtain ⟨m, rfl, hm⟩ := to_nat hz
        exact h m hm
    rw [this, hrl]
  · intro h q hq
    have := (box_sub hpb).eq_of_length (by rw [h, hrl])
    rw [this, mem_rg, cast2]; omega
theorem shown_down (hb : IsBox n cs) {t : Nat} (hs : s < 2 ^ n) (ht : t &&& s = t) (h : shownB cs (s : Int) = true) : shownB cs (t : Int) = true := by
  have htl : t < 2 ^ n := by have := sub_lt ht; omega
  rw [shown_iff hb hs] at h
  rw [shown_iff hb htl]
  intro p hp
  obtain ⟨c, c1, c2, c3⟩ := h p (by rw [← hp, Nat.and_assoc, ht])
  refine ⟨c, c1, c2, ?_⟩
  rw [← ht, Nat.and_comm t s, ← Nat.and_assoc, c3, hp]
end

def Ld (m : Nat) (d : PyData) : Prop := d.canLay0 = true ∧ d.depth ≤ m
theorem Ld.mono {m m' : Nat} {d : PyData} (h : Ld m d) (hm : m ≤ m') : Ld m' d := ⟨h.1, Nat.le_trans h.2 hm⟩
theorem Ld.shaped {m : Nat} {d : PyData} (h : Ld m d) (hm : m ≤ 64) : SeqAt.shaped d = true := by
  unfold SeqAt.shaped
  rw [h.1, decide_eq_true (Nat.le_trans h.2 hm)]; rfl
theorem lay_all {m : Nat} : ∀ {ds : List PyData}, (∀ d ∈ ds, Ld m d) → PyData.canLayAll0 ds = true ∧ PyData.depthAll ds ≤ m
  | [], _ => ⟨by simp [PyData.canLayAll0], by simp [PyData.depthAll]⟩
  | d :: ds, h => by
    obtain ⟨h1, h2⟩ := lay_all (ds := ds) fun x hx => h x (List.mem_cons_of_mem _ hx)
    obtain ⟨h3, h4⟩ := h d List.mem_cons_self
    exact ⟨by simp [PyData.canLayAll0, h1, h3], by simp only [PyData.depthAll]; omega⟩
theorem Ld.list {m : Nat} {ds : List PyData} (h : ∀ d ∈ ds, Ld m d) : Ld (m + 1) (.list ds) := by
  obtain ⟨h1, h2⟩ := lay_all h
  exact ⟨by simp only [PyData.canLay0, h1], by simp only [PyData.depth]; omega⟩
theorem Ld.tuple {m : Nat} {ds : List PyData} (h : ∀ d ∈ ds, Ld m d) : Ld (m + 1) (.tuple ds) := by
  obtain ⟨h1, h2⟩ := lay_all h
  exact ⟨by simp only [PyData.canLay0, h1], by simp only [PyData.depth]; omega⟩
theorem Ld.int (i : Int) : Ld 0 (.int i) := ⟨rfl, Nat.le_refl _⟩
theorem Ld.bool (i : Bool) : Ld 0 (.bool i) := ⟨rfl, Nat.le_refl _⟩
theorem Ld.ints (xs : List Int) : Ld 1 (.list (xs.map PyData.int)) := .list fun d hd => by
  obtain ⟨i, _, rfl⟩ := List.mem_map.mp hd
  exact .int i
theorem Ld.intsT (xs : List Int) : Ld 1 (.tuple (xs.map PyData.int)) := .tuple fun d hd => by
  obtain ⟨i, _, rfl⟩ := List.mem_map.mp hd
  exact .int i
theorem Ld.box (n : Nat) (cs : List Int) : Ld 2 (boxD n cs) := .tuple fun d hd => by
  rcases List.mem_cons.mp hd with rfl | hd
  · exact (Ld.int _).mono (by decide)
  · rw [List.mem_singleton.mp hd]; exact .intsT cs
theorem iteNl {m : Nat} {x y : PyData} {A B : Prop} (e : x = y) (h : Ld m x) (q : B) : if (!PyData.eqv x y) = true then A else B := by
  subst e
  rw [SeqAt.eqv_refl x h.1, if_neg (by decide)]; exact q

theorem itP {p : Bool} {A B : Prop} (h : p = true) (x : A) : if p = true then A else B := by rw [if_pos h]; exact x
theorem itN {p : Bool} {A B : Prop} (h : p = false) (x : B) : if p = true then A else B := by rw [if_neg (by rw [h]; decide)]; exact x

/-! switches taken one after another, by a step of boxes -/
inductive Tkn (E : Nat → List Int → Nat → List Int) (m0 : Nat) (as0 : List Int) (T0 : Nat) : Nat → List Int → Nat → Prop where
  | refl : Tkn E m0 as0 T0 m0 as0 T0
  | step {m : Nat} {as : List Int} {T k : Nat} : Tkn E m0 as0 T0 m as T → k < m → bitN T k = true → Tkn E m0 as0 T0 (m - 1) (E m as k) (woN T k)
theorem Tkn.ok {E : Nat → List Int → Nat → List Int} (hE : ∀ m as k, IsBox (m - 1) (E m as k)) {m0 : Nat} {as0 : List Int} {T0 : Nat} (h0 : m0 ≤ 6) (hb : IsBox m0 as0) (hT : T0 < 2 ^ m0) {m : Nat} {as : List Int} {T : Nat} (h : Tkn E m0 as0 T0 m as T) : m ≤ m0 ∧ IsBox m as ∧ T < 2 ^ m := by
  induction h with
  | refl => exact ⟨Nat.le_refl _, hb, hT⟩
  | step _ hk _ ih =>
    obtain ⟨i1, i2, i3⟩ := ih
    exact ⟨by omega, hE _ _ _, wo_rngN _ (by omega) _ hk _ i3⟩
theorem wo_bit : ∀ T < 64, ∀ i < 6, ∀ j < 6, bitN (woN T i) j = bitN T (if j < i then j else j + 1) := by decide +kernel
theorem no_bits : ∀ m ≤ 6, ∀ T < 2 ^ m, (∀ i < m, bitN T i = false) → T = 0 := by decide +kernel
theorem wo_cpl : ∀ m ≤ 5, ∀ k < m, ∀ T < 2 ^ m, woN (2 ^ m - 1 - T) k = 2 ^ (m - 1) - 1 - woN T k ∧ bitN (2 ^ m - 1 - T) k = !bitN T k := by decide +kernel
theorem wo_pr : ∀ m ≤ 5, ∀ k < m, ∀ K < 2 ^ m, bitN K k = false → pmN (m - 1) (woN K k) (m - 1) = pmN m K m ∧ ∀ c < 2 ^ m, prN (m - 1) (woN K k) (m - 1) (woN c k) = prN m K m c := by decide +kernel
theorem bits_pm : ∀ n ≤ 5, ∀ s < 2 ^ n, pmN n s n = b6 s := by decide +kernel
theorem proj_drop {m k K : Nat} {as : List Int} (hm : m ≤ 5) (hk : k < m) (hK : K < 2 ^ m) (hb : IsBox m as) (hbit : bitN K k = false) :
    pmN (m - 1) (woN K k) (m - 1) = pmN m K m ∧ projL (m - 1) (dropL m as k) (woN K k) (m - 1) = projL m as K m := by
  obtain ⟨h1, h2⟩ := wo_pr m hm k hk K hK hbit
  refine ⟨h1, ?_⟩
  unfold projL dropL
  rw [img_img (g := fun c => prI (m - 1) (woN K k) (m - 1) c) (h := fun c => woI c k) (fun c hc => wo_rng (by omega) hk (hb.rng c hc)) (fun c hc => prI_rng (by omega) (Nat.le_refl _) (wo_rng (by omega) hk (hb.rng c hc))), h1]
  refine img_congr fun c hc => ?_
  obtain ⟨z, rfl, hz⟩ := to_nat (hb.rng c hc)
  rw [wo_nat, pr_nat, pr_nat, h2 z hz]
theorem tkn_drop {n : Nat} {cs : List Int} {U : Nat} (hn : n ≤ 5) (hb : IsBox n cs) (hU : U < 2 ^ n) {m : Nat} {as : List Int} {T : Nat} (h : Tkn dropL n cs U m as T) :
    pmN m (2 ^ m - 1 - T) m = pmN n (2 ^ n - 1 - U) n ∧ projL m as (2 ^ m - 1 - T) m = projL n cs (2 ^ n - 1 - U) n := by
  induction h with
  | refl => exact ⟨rfl, rfl⟩
  | @step m as T k h hk hbit ih =>
    obtain ⟨i1, i2, i3⟩ := h.ok (fun m as k => drop_box m as k) (by omega) hb hU
    obtain ⟨w1, w2⟩ := wo_cpl m (by omega) k hk T i3
    have hp := Nat.two_pow_pos m
    obtain ⟨p1, p2⟩ := proj_drop (as := as) (K := 2 ^ m - 1 - T) (by omega) hk (by omega) i2 (by rw [w2, hbit]; rfl)
    rw [w1] at p1 p2
    exact ⟨p1.trans ih.1, p2.trans ih.2⟩
theorem proj_fullX {n : Nat} {cs : List Int} (hn : n ≤ 6) (hb : IsBox n cs) : pmN n (2 ^ n - 1) n = n ∧ projL n cs (2 ^ n - 1) n = cs := by
  obtain ⟨h1, h2⟩ := pr_full n hn
  refine ⟨h1, ?_⟩
  unfold projL
  rw [h1]
  refine (img_congr (h := fun c => c) fun c hc => ?_).trans (img_id hb)
  obtain ⟨m, rfl, hm⟩ := to_nat (hb.rng c hc)
  rw [pr_nat, h2 m hm]
theorem tkn_drop0 {n : Nat} {cs : List Int} {S : Nat} (hn : n ≤ 5) (hb : IsBox n cs) (hS : S < 2 ^ n) {m : Nat} {as : List Int} (h : Tkn dropL n cs (2 ^ n - 1 - S) m as 0) :
    m = pmN n S n ∧ as = projL n cs S n := by
  have hp := Nat.two_pow_pos n
  obtain ⟨i1, i2, _⟩ := h.ok (fun m as k => drop_box m as k) (by omega) hb (by omega)
  obtain ⟨h1, h2⟩ := tkn_drop hn hb (by omega) h
  rw [Nat.sub_zero, show 2 ^ n - 1 - (2 ^ n - 1 - S) = S by omega] at h1 h2
  obtain ⟨f1, f2⟩ := proj_fullX (cs := as) (show m ≤ 6 by omega) i2
  exact ⟨f1 ▸ h1, f2 ▸ h2⟩
theorem bases_edge {n k T : Nat} {cs : List Int} (hn : n ≤ 6) (hk : k < n) (hb : IsBox n cs) (hT : T < 2 ^ n) (hbit : bitN T k = true) :
    (basesL (n - 1) (edgeL n cs k) (woN T k : Nat)).length = (basesL n cs (T : Nat)).length := by
  have hk6 : k < 6 := by omega
  have hr : woN T k < 2 ^ (n - 1) := wo_rngN n hn k hk T hT
  have eT := wo_wid k hk6 T (lt64 hn hT)
  rw [hbit, if_pos rfl] at eT
  generalize woN T k = r at *
  subst eT
  have hr32 := lt32 hn hr
  have hp2 := Nat.two_pow_pos k
  have small : ∀ b p : Nat, b < 2 ^ (n - 1) → b &&& r = 0 → p &&& r = p → b + p < 2 ^ (n - 1) ∧ b &&& p = 0 := fun b p hb0 h1 h2 => by
    have hd : b &&& p = 0 := by rw [← h2, Nat.and_comm p r, ← Nat.and_assoc, h1, Nat.zero_and]
    have hp : p < 2 ^ (n - 1) := by have := sub_lt h2; omega
    refine ⟨?_, hd⟩
    have e : b + p = b ||| p := by
      have : ∀ b < 32, ∀ p < 32, b &&& p = 0 → b + p = b ||| p := by decide +kernel
      exact this b (lt32 hn hb0) p (lt32 hn hp) hd
    rw [e]; exact Nat.or_lt_two_pow hb0 hp
  have hmem : ∀ (s b : Nat) (m : Nat) (as : List Int), ((b : Nat) : Int) ∈ basesL m as (s : Int) ↔ b < 2 ^ m ∧ b &&& s = 0 ∧ ∀ p : Nat, p &&& s = p → ((b + p : Nat) : Int) ∈ as := fun s b m as => by
    rw [mem_bases]
    exact ⟨fun ⟨h1, h2, h3⟩ => ⟨h1, h2, fun p hp => of_decide_eq_true (h3 p hp)⟩, fun ⟨h1, h2, h3⟩ => ⟨h1, h2, fun p hp => decide_eq_true (h3 p hp)⟩⟩
  have nd : ∀ (m : Nat) (as : List Int) (s : Int), (basesL m as s).Pairwise (· < ·) := fun m as s => (rg_pairwise.filter _).filter _
  have e : ((basesL (n - 1) (edgeL n cs k) (r : Nat)).map fun z : Int => ((widN z.toNat k : Nat) : Int)).Perm (basesL n cs ((widN r k + 2 ^ k : Nat) : Int)) := by
    refine (List.perm_ext_iff_of_nodup ?_ (List.nodup_iff_pairwise_ne.mpr ((nd _ _ _).imp fun h => Int.ne_of_lt h))).mpr fun x => ?_
    · rw [List.nodup_iff_pairwise_ne, List.pairwise_map]
      refine (List.Pairwise.and_mem.mp (nd (n - 1) (edgeL n cs k) (r : Nat))).imp ?_
      rintro a b ⟨ha, hb', hlt⟩ e
      obtain ⟨a', rfl, ha1⟩ := to_nat (mem_outside (List.mem_filter.mp ha).1)
      obtain ⟨b', rfl, hb1⟩ := to_nat (mem_outside (List.mem_filter.mp hb').1)
      rw [Int.toNat_natCast, Int.toNat_natCast] at e
      have := wid_inj hk6 (lt32 hn ha1) (lt32 hn hb1) (by omega)
      omega
    · rw [List.mem_map]
      constructor
      · rintro ⟨z, hz, rfl⟩
        obtain ⟨b, rfl, h1⟩ := to_nat (mem_outside (List.mem_filter.mp hz).1)
        rw [hmem] at hz
        obtain ⟨_, h2, h3⟩ := hz
        rw [Int.toNat_natCast, hmem]
        have hb32 := lt32 hn h1
        have hwb := wid_rng1 hn hk h1
        obtain ⟨w1, w2, w3, w4⟩ := wid_wo k hk6 b hb32
        refine ⟨hwb.1, ?_, fun p hp => ?_⟩
        · rw [(and_wid k hk6 r hr32 _ (lt64 hn hwb.1)).2, w1, w3, h2]; simp [widN]
        · obtain ⟨q, hq, e⟩ := part_wid1 hk6 hr32 hp
          obtain ⟨s1, s2⟩ := small b q h1 h2 hq
          have hq32 : q < 32 := by have := sub_lt hq; omega
          have := (mem_edge hn hk hb s1).mp (h3 q hq)
          rw [wid_add k hk6 b hb32 q hq32 s2] at this
          rcases e with rfl | rfl
          · exact this.1
          · rw [← Nat.add_assoc]; exact this.2
      · intro hx
        obtain ⟨b, rfl, h1⟩ := to_nat (mem_outside (List.mem_filter.mp hx).1)
        rw [hmem] at hx
        obtain ⟨_, h2, h3⟩ := hx
        have hb64 := lt64 hn h1
        have e2 := (and_wid k hk6 r hr32 b hb64).2
        have hwo := wo_rngN n hn k hk b h1
        rw [h2] at e2
        have hbt : bitN b k = false := by
          cases hbt : bitN b k with
          | false => rfl
          | true => rw [hbt, if_pos rfl] at e2; omega
        rw [hbt] at e2
        simp only [Bool.false_eq_true, if_false, Nat.add_zero] at e2
        have hz : woN b k &&& r = 0 := by
          have : widN (woN b k &&& r) k = widN 0 k := by rw [← e2]; simp [widN]
          exact wid_inj hk6 (and_lt hr32) (by decide) this
        have eb := wo_wid k hk6 b hb64
        rw [hbt] at eb
        simp only [Bool.false_eq_true, if_false, Nat.add_zero] at eb
        refine ⟨((woN b k : Nat) : Int), (hmem _ _ _ _).mpr ⟨hwo, hz, fun p hp => ?_⟩, by rw [Int.toNat_natCast, eb]⟩
        obtain ⟨s1, s2⟩ := small _ p hwo hz hp
        have hp32 : p < 32 := by have := sub_lt hp; omega
        have x1 := h3 (widN p k) (wid_part hk6 hr32 hp).2.1
        have x2 := h3 (widN p k + 2 ^ k) (wid_part hk6 hr32 hp).2.2
        rw [mem_edge hn hk hb s1, wid_add k hk6 _ (lt32 hn hwo) p hp32 s2, eb]
        exact ⟨x1, by rw [Nat.add_assoc]; exact x2⟩
  rw [← e.length_eq, List.length_map]
theorem tkn_edge {n : Nat} {cs : List Int} {U : Nat} (hn : n ≤ 6) (hb : IsBox n cs) (hU : U < 2 ^ n) {m : Nat} {as : List Int} {T : Nat} (h : Tkn edgeL n cs U m as T) :
    (basesL m as (T : Nat)).length = (basesL n cs (U : Nat)).length := by
  induction h with
  | refl => rfl
  | @step m as T k h hk hbit ih =>
    obtain ⟨i1, i2, i3⟩ := h.ok (fun m as k => edge_isbox m as k) hn hb hU
    exact (bases_edge (by omega) hk i2 i3 hbit).trans ih
theorem bas0 {n : Nat} {cs : List Int} (hb : IsBox n cs) : basesL n cs 0 = cs := by
  refine uniqI ((rg_pairwise.filter _).filter _) hb.asc fun x => ?_
  constructor
  · intro h
    obtain ⟨b, rfl, h1⟩ := to_nat (mem_outside (List.mem_filter.mp h).1)
    exact of_decide_eq_true (((mem_bases (s := 0)).mp h).2.2 0 rfl)
  · intro h
    obtain ⟨b, rfl, h1⟩ := to_nat (hb.rng x h)
    refine (mem_bases (s := 0)).mpr ⟨h1, Nat.and_zero b, fun p hp => ?_⟩
    rw [Nat.and_zero] at hp
    rw [← hp]; exact decide_eq_true h
theorem tkn_edge0 {n : Nat} {cs : List Int} {S : Nat} (hn : n ≤ 6) (hb : IsBox n cs) (hS : S < 2 ^ n) {m : Nat} {as : List Int} (h : Tkn edgeL n cs S m as 0) :
    as.length = (basesL n cs (S : Nat)).length := by
  obtain ⟨_, i2, _⟩ := h.ok (fun m as k => edge_isbox m as k) hn hb hS
  rw [← tkn_edge hn hb hS h]
  exact congrArg List.length (bas0 i2).symm

abbrev nTk : List Str := ["_law_state", "_law_box_here", "_law_switches", "_law_call", "_law_numbers", "_law_left", "_law_switch", "_law_k"]
theorem scTk : FnScope nTk ["_law_state", "_law_box_here", "_law_switches", "_law_call"] (defScope (topS 26)) := ⟨rfl, rfl, rfl, by decide +kernel, rfl, by decide +kernel, by decide +kernel⟩
def REs (E : Nat → List Int → Nat → List Int) : Rel := fun ds d => ∃ (n : Nat) (cs : List Int) (k : Nat), ds = [boxD n cs, .int (k : Int)] ∧ n ≤ 6 ∧ IsBox n cs ∧ k < n ∧ d = boxD (n - 1) (E n cs k)
def PreTk : List PyData → Prop := fun ds => ∃ (n : Nat) (cs : List Int) (S : Nat), ds = [boxD n cs, .int (S : Int)] ∧ n ≤ 5 ∧ IsBox n cs ∧ S < 2 ^ n
def RTk (E : Nat → List Int → Nat → List Int) : Rel := fun ds d => ∃ (n : Nat) (cs : List Int) (S : Nat), ds = [boxD n cs, .int (S : Int)] ∧ ∃ (m : Nat) (as : List Int), d = boxD m as ∧ Tkn E n cs S m as 0
theorem erase_mapI (ys : List Int) (n : Nat) : (ys.map PyData.int).eraseIdx n = (ys.eraseIdx n).map PyData.int := by
  induction ys generalizing n with
  | nil => rfl
  | cons y ys ih =>
    cases n with
    | zero => rfl
    | succ n => simp only [List.map_cons, List.eraseIdx_cons_succ, ih]
theorem first_ix : ∀ {ns : List Int} {t : Int}, t ∈ ns → ∃ j, j < ns.length ∧ ns[j]? = some t ∧ (∀ i < j, ns[i]? ≠ some t) ∧ ns.erase t = ns.eraseIdx j := fun {ns t} h => by
  obtain ⟨j, h1, h2, h3, h4⟩ := L2.first_at h
  exact ⟨j, h1, h2, fun i hi => h3 i hi, h4.symm⟩
theorem mem_erI {ls : List Int} (nd : ls.Nodup) {v : Nat} {t : Int} (hv : ls[v]? = some t) (x : Int) : x ∈ ls.eraseIdx v ↔ x ≠ t ∧ x ∈ ls := by
  rw [List.mem_eraseIdx_iff_getElem?]
  constructor
  · rintro ⟨i, hi, hx⟩
    refine ⟨fun c => hi ?_, List.mem_of_getElem? hx⟩
    subst c
    exact (List.getElem?_inj (List.getElem?_eq_some_iff.mp hx).1 nd).mp (hx.trans hv.symm)
  · rintro ⟨hne, hx⟩
    obtain ⟨i, hi⟩ := List.getElem?_of_mem hx
    refine ⟨i, fun c => hne ?_, hi⟩
    subst c
    rw [hv] at hi
    exact (Option.some.inj hi).symm
/-- what the loop keeps: the switches' numbers, those left, and the set of those left among the box's own switches -/
structure TkI (m : Nat) (ns ls : List Int) (T : Nat) : Prop where
  len : ns.length = m
  nd : ns.Nodup
  ld : ls.Nodup
  sub : ∀ x ∈ ls, x ∈ ns
  bit : ∀ (i : Nat) (x : Int), ns[i]? = some x → bitN T i = decide (x ∈ ls)
theorem TkI.take {m : Nat} {ns ls : List Int} {T v j : Nat} {t : Int} (h : TkI m ns ls T) (hm : m ≤ 6) (hT : T < 2 ^ m) (hv : ls[v]? = some t) (hj : ns[j]? = some t) :
    j < m ∧ bitN T j = true ∧ TkI (m - 1) (ns.eraseIdx j) (ls.eraseIdx v) (woN T j) := by
  have hjl : j < ns.length := (List.getElem?_eq_some_iff.mp hj).1
  have hvl : v < ls.length := (List.getElem?_eq_some_iff.mp hv).1
  have hjm : j < m := by rw [← h.len]; exact hjl
  have htl : t ∈ ls := List.mem_of_getElem? hv
  have hmem := mem_erI h.ld hv
  refine ⟨hjm, by rw [h.bit j t hj]; exact decide_eq_true htl, ?_, ?_, ?_, ?_, ?_⟩
  · rw [List.length_eraseIdx_of_lt hjl, h.len]
  · exact h.nd.eraseIdx j
  · exact h.ld.eraseIdx v
  · intro x hx
    obtain ⟨hne, hx⟩ := (hmem x).mp hx
    exact (mem_erI h.nd hj x).mpr ⟨hne, h.sub x hx⟩
  · intro i x hx
    rw [List.getElem?_eraseIdx] at hx
    have hil : (if i < j then i else i + 1) < m := by
      split at hx
      · have := (List.getElem?_eq_some_iff.mp hx).1
        rename_i c
        rw [if_pos c, ← h.len]; exact this
      · have := (List.getElem?_eq_some_iff.mp hx).1
        rename_i c
        rw [if_neg c, ← h.len]; exact this
    have hx' : ns[if i < j then i else i + 1]? = some x := by
      split at hx
      · rename_i c; rw [if_pos c]; exact hx
      · rename_i c; rw [if_neg c]; exact hx
    have hi6 : i < 6 := by split at hil <;> omega
    rw [wo_bit T (lt64 hm hT) j (by omega) i hi6, h.bit _ x hx']
    have hne : x ≠ t := fun c => by
      subst c
      have e := (List.getElem?_inj (by rw [h.len]; exact hil) h.nd).mp (hx'.trans hj.symm)
      split at e <;> omega
    rw [decide_eq_decide, hmem]
    exact ⟨fun z => ⟨hne, z⟩, fun z => z.2⟩
theorem TkI.none {m : Nat} {ns : List Int} {T : Nat} (h : TkI m ns [] T) (hm : m ≤ 6) (hT : T < 2 ^ m) : T = 0 :=
  no_bits m hm T hT fun i hi => by
    have hl : i < ns.length := by rw [h.len]; exact hi
    rw [h.bit i _ (List.getElem?_eq_getElem hl)]; rfl
theorem bit_mod (S k : Nat) : bitN S k = decide ((S : Int) / (2 : Int) ^ ((k : Int)).toNat % 2 = 1) := by
  unfold bitN
  rw [Int.toNat_natCast, cast2]
  exact decide_eq_decide.mpr (by rw [← Int.natCast_ediv]; omega)
section
variable {P : Program} {w : World} {K : PySem.W.Frag} {mg : Str → Option Value} {base : Heap}
theorem ok_tk {f fa : Addr} {fd : FuncData} {E : Nat → List Int → Nat → List Int} (hE : ∀ m as k, IsBox (m - 1) (E m as k)) (Fn : Fun K "_law_taken" "_law_taken" (topS 26) f fd) (mr : mg "range" = none) (mL : mg "list" = none) (mn : mg "len" = none)
    (gn : DFn P w K mg base 1 "_law_next" 1 PreNext RNext) (gw : PFn P w K mg base 1 "_law_power" Rpow) {l3 : Nat} (hl3 : l3 ≤ 3) (gc : HeldF P w K mg base l3 fa (REs E)) :
    FnG P w K mg base 4 f fd ["_law_state", "_law_box_here", "_law_switches", "_law_call"] (spDrawF K fa 6 PreTk (RTk E)) := by
  refine draw_okF (k := 3) Fn scTk rfl (fun F s a r d1 d2 kk dk hK hp => ?_)
  obtain ⟨n, cs, S, e, hn, hb, hS⟩ := hp
  obtain ⟨rfl, e2⟩ := List.cons.inj e
  obtain ⟨rfl, _⟩ := List.cons.inj e2
  have hn6 : n ≤ 6 := by omega
  refine wb_ownRg 4 (by walk_at "tgt") (by show 4 < 8; decide) rfl mL rfl mr (fun _ => rfl) (fun _ => rfl) (fun _ _ => rfl) ?_
  repeat walk_at "dx"
  refine ⟨.int (n : Int), rfl, (n : Int), rfl, ⟨by omega, by omega⟩, fun o => ?_⟩
  have hKo : (F.ext o).K = K := hK
  refine wb_ownCO 7 5 4 (by walk_at "blk") (by walk_at "tgt") (by show 5 < 8; decide) rfl rfl rfl (by decide) hKo rfl (by walk_at "vis") rfl (by rw [List.length_map, rg_length]; omega) (fun _ _ => rfl) ?_
  refine ⟨fun j k acc => j ≤ n ∧ k = kk + 6 ∧ acc = ((rg (j : Int)).filter fun c => decide ((S : Int) / 2 ^ c.toNat % 2 = 1)).map PyData.int, ⟨Nat.zero_le _, rfl, rfl⟩, ?_, ?_⟩
  · rintro D j y k' acc hy ⟨hj, rfl, rfl⟩
    have hKD : ((F.ext o).ext D).K = K := hK
    have hjn : j < n := by
      have := (List.getElem?_eq_some_iff.mp hy).1
      rw [List.length_map, rg_length] at this; omega
    have hyj : y = .int (j : Int) := by
      unfold rg at hy
      rw [List.map_map, List.getElem?_map, List.getElem?_range (by omega)] at hy
      cases hy; rfl
    subst hyj
    have hs : (rg ((j + 1 : Nat) : Int)) = rg (j : Int) ++ [(j : Int)] := by rw [show ((j + 1 : Nat) : Int) = (j : Int) + 1 by omega, rg_succ]
    have hp := pow_le64 (show j ≤ 6 by omega)
    have hS64 := pow_le64 hn6
    refine wt_eqI ?_
    repeat walk_at "dx"
    refine ⟨_, ⟨j, rfl, by omega, rfl⟩, ?_⟩
    repeat walk_at "dx"
    refine ⟨⟨by omega, by omega⟩, ?_⟩
    repeat walk_at "dx"
    refine ⟨by decide, ?_⟩
    repeat walk_at "dx"
    show if decide ((S : Int) / 2 ^ j % 2 = 1) = true then _ else _
    by_cases hc : (S : Int) / 2 ^ j % 2 = 1
    · rw [decide_eq_true hc, if_pos rfl]
      repeat walk_at "dx"
      refine ⟨by omega, rfl, ?_⟩
      rw [hs, List.filter_append, List.map_append]
      congr 1
      rw [List.filter_cons_of_pos (by rw [Int.toNat_natCast]; exact decide_eq_true hc)]; rfl
    · rw [decide_eq_false hc, if_neg (by decide)]
      refine ⟨by omega, rfl, ?_⟩
      rw [hs, List.filter_append, List.map_append, List.filter_cons_of_neg (by rw [Int.toNat_natCast, decide_eq_false hc]; decide)]
      simp
  rintro k2 es ⟨_, rfl, rfl⟩ o2 hne
  have hl0 : (List.map PyData.int (rg (n : Int))).length = n := by rw [List.length_map, rg_length]; omega
  rw [hl0]
  have hK2 : ((F.ext o).ext o2).K = K := hK
  have dk2 : IsDk ((F.ext o).ext o2) s a r := (dk.ext o).ext o2
  generalize hls : ((rg (n : Int)).filter fun c => decide ((S : Int) / 2 ^ c.toNat % 2 = 1)) = ls0
  have hll : ls0.length ≤ 5 := by
    rw [← hls]
    refine Nat.le_trans (List.length_filter_le _ _) ?_
    rw [rg_length]; omega
  have hrn : (rg (n : Int)).Nodup := List.nodup_iff_pairwise_ne.mpr (rg_pairwise.imp fun h => Int.ne_of_lt h)
  have i0 : TkI n (rg (n : Int)) ls0 S := by
    refine ⟨by rw [rg_length]; omega, hrn, by rw [← hls]; exact hrn.filter _, fun x hx => by rw [← hls] at hx; exact (List.mem_filter.mp hx).1, fun i x hx => ?_⟩
    have hxi : x = (i : Int) ∧ i < n := by
      have hl := (List.getElem?_eq_some_iff.mp hx).1
      rw [rg_length] at hl
      unfold rg at hx
      rw [List.getElem?_map, List.getElem?_range (by omega)] at hx
      cases hx; exact ⟨rfl, by omega⟩
    obtain ⟨rfl, hi⟩ := hxi
    rw [bit_mod, ← hls, decide_eq_decide, List.mem_filter, mem_rg, decide_eq_true_eq]
    exact ⟨fun z => ⟨⟨by omega, by omega⟩, z⟩, fun z => z.2⟩
  refine wb_cons (ws_while (fun m k ρ => ∃ (q : Nat) (ns ls as : List Int) (T : Nat) (x6 : SV), ls.length = m ∧ m ≤ 5 ∧ kk + m ≤ k ∧ plainB x6 = true ∧ ρ = [.raw (.ref s), .d (boxD q as), .d (.int (S : Int)), .raw (.ref fa), .own o (ns.map PyData.int), .own o2 (ls.map PyData.int), x6, .un] ∧ TkI q ns ls T ∧ Tkn E n cs S q as T) ls0.length ⟨n, rg (n : Int), ls0, cs, S, .un, rfl, hll, by omega, rfl, rfl, i0, .refl⟩ ?_)
  rintro m k ρ ⟨q, ns, ls, as, T, x6, hlm, hm5, hk, h6, rfl, hi, ht⟩
  obtain ⟨hq, hba, hT⟩ := ht.ok hE hn6 hb hS
  have hq6 : q ≤ 6 := by omega
  refine wt_neNil 5 hK2 rfl (by walk_at "vis") rfl (shaped_intsL _) ?_
  cases hlc : ls with
  | nil =>
    show if false = true then _ else _
    rw [if_neg (by decide)]
    subst hlc
    have hT0 := hi.none hq6 hT
    subst hT0
    show WPB _ _ _ _ _ _
    refine wb_cons (ws_ret ?_)
    walk_at "name"
    exact ⟨by omega, n, cs, S, rfl, q, as, rfl, ht⟩
  | cons y0 ls1 =>
    show if true = true then _ else _
    rw [if_pos rfl, ← hlc]
    have hpos : 0 < ls.length := by rw [hlc, List.length_cons]; omega
    obtain ⟨k3, rfl⟩ : ∃ k3, k = k3 + 1 := ⟨k - 1, by omega⟩
    refine wb_cons (ws_popSet2 6 5 (by walk_at "tgt") (by decide) rfl (by walk_at "vis") rfl (.two 4 rfl (Ne.symm hne) ?_) (by rw [List.length_map]; omega) (fun _ => rfl) (fun _ _ => rfl) ?_)
    · show (true && (true && (true && (true && (true && (true && (plainB x6 && (true && true)))))))) = true
      rw [h6]; rfl
    walk_at "dx"
    refine wa_cons (fun _ => rfl) (we_lenOwn 5 rfl (by walk_at "vis") rfl rfl mn ?_)
    rw [List.length_map]
    repeat walk_at "dx"
    refine ⟨⟨_, rfl, by omega, by omega⟩, k3, rfl, ?_⟩
    rintro d ⟨m', v, e1, rfl, v0, v1⟩
    cases e1
    obtain ⟨v, rfl⟩ : ∃ v' : Nat, v = (v' : Int) := ⟨v.toNat, by omega⟩
    have hv : v < ls.length := by omega
    have hu := List.getElem?_eq_getElem hv
    generalize ls[v] = t at hu
    obtain ⟨jx, j1, j2, j3, j4⟩ := first_ix (hi.sub t (List.mem_of_getElem? hu))
    obtain ⟨hjq, hjb, hi2⟩ := hi.take hq6 hT hu j2
    have hle : (ls.eraseIdx v).length + 1 = ls.length := by rw [List.length_eraseIdx_of_lt hv]; omega
    refine ⟨v, .int t, rfl, by rw [List.getElem?_map, hu]; rfl, ?_⟩
    rw [erase_mapI]
    refine wb_cons (ws_set 1 (by walk_at "tgt") (fun _ _ => rfl) (we_callL gc (by show l3 ≤ 3; exact hl3) hK2 3 rfl (by walk_at "vis") rfl (wa_cons (fun _ => rfl) ?_)))
    walk_at "name"
    refine wa_cons (fun _ => rfl) (we_ixOfOwn 4 rfl (by walk_at "vis") rfl (fun _ => rfl) ?_)
    walk_at "name"
    refine ⟨t, jx, rfl, j2, j3, wa_nil ⟨_, ⟨q, as, jx, rfl, hq6, hba, hjq, rfl⟩, ?_⟩⟩
    refine wb_cons (ws_remove 4 rfl (by walk_at "vis") rfl (.two 5 rfl hne rfl) (fun _ => rfl) ?_ (fun _ => rfl) (fun _ => rfl) (fun _ => rfl) rfl)
    walk_at "name"
    refine ⟨t, rfl, hi.sub t (List.mem_of_getElem? hu), ?_⟩
    rw [j4]
    exact wb_nil ⟨(ls.eraseIdx v).length, by omega, q - 1, ns.eraseIdx jx, ls.eraseIdx v, E q as jx, woN T jx, .d (.int t), rfl, by omega, by omega, rfl, rfl, hi2, .step ht hjq hjb⟩
end

abbrev nLow : List Str := ["_law_switches", "_law_switch", "_law_low"]
theorem scLow : FnScope nLow ["_law_switches", "_law_switch"] (defScope (topS 27)) := ⟨rfl, rfl, rfl, by decide +kernel, rfl, by decide +kernel, by decide +kernel⟩
def Rlow : Rel := fun ds d => ∃ S k : Nat, ds = [.int (S : Int), .int (k : Int)] ∧ S < 64 ∧ k < 6 ∧ d = .int ((woN S k : Nat) : Int)
section
variable {P : Program} {w : World} {K : PySem.W.Frag} {mg : Str → Option Value} {base : Heap}
theorem ok_low {f : Addr} {fd : FuncData} (Fn : Fun K "_law_lowered" "_law_lowered" (topS 27) f fd) (gw : PFn P w K mg base 1 "_law_power" Rpow) :
    FnG P w K mg base 2 f fd ["_law_switches", "_law_switch"] (spPure K Rlow) := by
  refine pure_ok (k := 1) Fn scLow (fun ds d ⟨S, k, e, _⟩ => by rw [e]; rfl) (fun F ds d hK ⟨S, k, e, hS, hk, ed⟩ => ?_)
  subst e ed
  have hp := pow_le64 (show k ≤ 6 by omega)
  have hq := pow_le64 (show k + 1 ≤ 6 by omega)
  refine wb_cons (ws_set 2 (by walk_at "tgt") (fun _ _ => rfl) ?_)
  repeat walk_at "dx"
  refine ⟨_, ⟨k, rfl, by omega, rfl⟩, ?_⟩
  repeat walk_at "dx"
  refine ⟨by omega, ?_⟩
  show WPB _ _ _ _ _ _
  repeat walk_at "dx"
  refine ⟨_, ⟨k + 1, rfl, by omega, rfl⟩, ?_⟩
  repeat walk_at "dx"
  refine ⟨by omega, ?_⟩
  repeat walk_at "dx"
  refine ⟨_, ⟨k, rfl, by omega, rfl⟩, ?_⟩
  repeat walk_at "dx"
  have hd : 0 ≤ (S : Int) / 2 ^ (k + 1) ∧ (S : Int) / 2 ^ (k + 1) ≤ S := ⟨Int.ediv_nonneg (by omega) (by omega), Int.ediv_le_self _ (by omega)⟩
  refine ⟨by unfold CMul; omega, _, _, rfl, rfl, ?_⟩
  show PyData.int ((S : Int) % 2 ^ k + (S : Int) / 2 ^ (k + 1) * 2 ^ k) = PyData.int _
  congr 1
  simp only [woN, Int.natCast_add, Int.natCast_mul, Int.natCast_ediv, Int.natCast_emod, Int.natCast_pow, Int.cast_ofNat_Int]
  rw [Int.add_comm]
end

abbrev nR84 : List Str := ["_law_state", "_law_box_here", "_law_switches", "_law_n", "_law_edges", "_law_left", "_law_all_there", "_law_switch", "_law_part", "_law_k"]
theorem scR84 : FnScope nR84 ["_law_state", "_law_box_here", "_law_switches"] (defScope (topS 28)) := ⟨rfl, rfl, rfl, by decide +kernel, rfl, by decide +kernel, by decide +kernel⟩
def PreR84 : List PyData → Prop := fun ds => ∃ (n : Nat) (cs : List Int) (S : Nat), ds = [boxD n cs, .int (S : Int)] ∧ n ≤ 5 ∧ IsBox n cs ∧ S < 2 ^ n
def RR84 : Rel := fun _ d => d = .bool true
theorem pm_bits : ∀ n ≤ 5, ∀ s < 2 ^ n, pmN n s n = bits s := by decide +kernel
theorem held_of {P : Program} {w : World} {K : PySem.W.Frag} {mg : Str → Option Value} {base : Heap} {l : Nat} {x : Str} {R : Rel} (h : PFn P w K mg base l x R) : ∃ fa, mg x = some (.ref fa) ∧ HeldF P w K mg base l fa R := by
  obtain ⟨fa, fd, ps, G, hm, kp, hb⟩ := h.ex
  exact ⟨fa, hm, ⟨fd, ps, G, kp, hb⟩⟩
theorem boxD_inj {n m : Nat} {cs es : List Int} (h : boxD n cs = boxD m es) : n = m ∧ cs = es := by
  unfold boxD at h
  injection h with h
  obtain ⟨h1, h2⟩ := List.cons.inj h
  obtain ⟨h2, _⟩ := List.cons.inj h2
  injection h1 with h1
  injection h2 with h2
  exact ⟨by omega, (List.map_inj_right (fun a b e => by injection e)).mp h2⟩
theorem rest_mod (S k : Nat) (h : (S : Int) / (2 : Int) ^ k % 2 = 0) : bitN S k = false := by
  have e := bit_mod S k
  rw [Int.toNat_natCast] at e
  rw [e, decide_eq_false]
  omega
section
variable {P : Program} {w : World} {K : PySem.W.Frag} {mg : Str → Option Value} {base : Heap}
theorem ok_r84 {f fe fdr : Addr} {fd : FuncData} (Fn : Fun K "_law_right" "_law_right" (topS 28) f fd) (mr : mg "range" = none) (mn : mg "len" = none)
    (me : mg "edge_box" = some (.ref fe)) (md : mg "drop_switch" = some (.ref fdr))
    (g1 : DFnF P w K mg base 4 "_law_taken" fe 6 PreTk (RTk edgeL)) (g2 : DFnF P w K mg base 4 "_law_taken" fdr 6 PreTk (RTk dropL))
    (gw : PFn P w K mg base 1 "_law_power" Rpow) (gz : PFn P w K mg base 1 "_law_size" Rsize) (gs : PFn P w K mg base 5 "is_solid" Rsolid) (gb : PFn P w K mg base 4 "bases_of" Rbases) (gp : PFn P w K mg base 3 "project_to" Rproj) (gh : PFn P w K mg base 2 "is_shown" Rshown) (ge : PFn P w K mg base 3 "edge_box" Redge) (gl : PFn P w K mg base 2 "_law_lowered" Rlow) :
    FnG P w K mg base 6 f fd ["_law_state", "_law_box_here", "_law_switches"] (spDraw K 12 PreR84 RR84) := by
  refine draw_ok (k := 5) Fn scR84 (fun ds ⟨n, cs, S, e, _⟩ => by rw [e]; rfl) (fun F s a r ds kk dk hK ⟨n, cs, S, e, hn, hb, hS⟩ => ?_)
  subst e
  have hn6 : n ≤ 6 := by omega
  have hp := pow_le64 hn6
  have hS64 := lt64 hn6 hS
  refine wb_cons (ws_set 3 (by walk_at "tgt") (fun _ _ => rfl) ?_)
  repeat walk_at "dx"
  refine ⟨.int (n : Int), rfl, ?_⟩
  refine wb_cons (ws_set 4 (by walk_at "tgt") (fun _ _ => rfl) (we_callDF dk g1 (by show 4 ≤ 5; decide) hK 0 rfl rfl (by walk_at "vis") rfl rfl me (fun _ => rfl) (fun _ => rfl) ?_))
  walk_at "name"
  walk_at "name"
  refine ⟨⟨n, cs, S, rfl, hn, hb, hS⟩, kk + 6, rfl, ?_⟩
  rintro d ⟨n', cs', S', e, m, as, rfl, ht⟩
  obtain ⟨rfl, rfl, rfl⟩ : n = n' ∧ cs = cs' ∧ S = S' := by
    obtain ⟨e1, e2⟩ := List.cons.inj e
    obtain ⟨e2, _⟩ := List.cons.inj e2
    obtain ⟨x1, x2⟩ := boxD_inj e1
    refine ⟨x1, x2, ?_⟩
    injection e2 with e2
    omega
  have hea := tkn_edge0 hn6 hb hS ht
  obtain ⟨hm, hba, _⟩ := ht.ok (fun m as k => edge_isbox m as k) hn6 hb hS
  show WPB _ _ _ _ _ _
  have e0 : (!(as.map PyData.int).isEmpty) = solidB n cs (S : Int) := by
    unfold solidB
    rw [← hea]
    cases as with
    | nil => rfl
    | cons a as => rw [decide_eq_true (by rw [List.length_cons]; omega)]; rfl
  refine wb_cons (ws_if (wt_bool (ww_or (wt_ne hK ?_))))
  repeat walk_at "dx"
  refine ⟨_, ⟨n, cs, (S : Int), rfl, hn6, ⟨by omega, by omega⟩, rfl⟩, ?_⟩
  refine we_ne hK ?_
  repeat walk_at "dx"
  refine ⟨.tuple (as.map PyData.int), rfl, ?_⟩
  repeat walk_at "dx"
  have eqb : ∀ b : Bool, PyData.eqv (.bool b) (.bool b) = true := by decide
  refine ⟨shaped_intsT _, rfl, rfl, rfl, ?_⟩
  dsimp only
  rw [eqv_nilT, e0, eqb]
  refine itN rfl (ww_or1 (wt_neI ?_))
  repeat walk_at "dx"
  refine ⟨.tuple (as.map PyData.int), rfl, ?_⟩
  repeat walk_at "dx"
  refine ⟨_, ⟨n, cs, (S : Int), rfl, hn6, ⟨by omega, by omega⟩, rfl⟩, ?_⟩
  repeat walk_at "dx"
  refine itN (by rw [List.length_map, List.length_map, hea, decide_eq_true rfl]; rfl) (wb_nil ?_)
  have hpn := Nat.two_pow_pos n
  refine wb_cons (ws_set 5 (by walk_at "tgt") (fun _ _ => rfl) (we_callDF dk g2 (by show 4 ≤ 5; decide) hK 0 rfl rfl (by walk_at "vis") rfl rfl md (fun _ => rfl) (fun _ => rfl) ?_))
  walk_at "name"
  repeat walk_at "dx"
  refine ⟨_, ⟨n, rfl, by omega, rfl⟩, ?_⟩
  repeat walk_at "dx"
  rw [show ((2 : Int) ^ n - 1 - (S : Int)) = ((2 ^ n - 1 - S : Nat) : Int) by rw [cast2]; omega]
  refine ⟨⟨n, cs, 2 ^ n - 1 - S, rfl, hn, hb, by omega⟩, kk, rfl, ?_⟩
  rintro d ⟨n', cs', S', e, m2, as2, rfl, ht2⟩
  obtain ⟨rfl, rfl, e3⟩ : n = n' ∧ cs = cs' ∧ S' = 2 ^ n - 1 - S := by
    obtain ⟨e1, e2⟩ := List.cons.inj e
    obtain ⟨e2, _⟩ := List.cons.inj e2
    obtain ⟨x1, x2⟩ := boxD_inj e1
    refine ⟨x1, x2, ?_⟩
    injection e2 with e2
    omega
  rw [e3] at ht2
  obtain ⟨rfl, rfl⟩ := tkn_drop0 hn hb hS ht2
  show WPB _ _ _ _ _ _
  refine wb_cons (ws_set 6 (by walk_at "tgt") (fun _ _ => rfl) (we_eqI ?_))
  repeat walk_at "dx"
  refine ⟨.tuple ((projL n cs S n).map PyData.int), rfl, ?_⟩
  repeat walk_at "dx"
  refine ⟨_, ⟨S, rfl, rfl⟩, ?_⟩
  have hbs : bits S ≤ 5 := by rw [← pm_bits n hn S hS]; have := (pm_ge n S n (Nat.le_refl _)).2; omega
  refine wa_nil ⟨_, ⟨bits S, rfl, by omega, rfl⟩, ?_⟩
  repeat walk_at "dx"
  have hsf : decide ((((projL n cs S n).map PyData.int).length : Int) = 2 ^ bits S) = shownB cs (S : Int) := by
    rw [shown_full hn hS hb, List.length_map, pm_bits n hn S hS, cast2]
    exact decide_eq_decide.mpr (by omega)
  rw [hsf]
  refine wt_ne hK ?_
  repeat walk_at "dx"
  refine ⟨_, ⟨n, cs, S, rfl, hn6, hb, rfl⟩, ?_⟩
  refine ⟨(Ld.box _ _).shaped (by decide), (Ld.box _ _).shaped (by decide), iteNl rfl (Ld.box _ _) ?_⟩
  refine ww_or1 (wt_ne hK ?_)
  repeat walk_at "dx"
  refine ⟨_, ⟨n, cs, (S : Int), rfl, hn6, hb, ⟨by omega, by omega⟩, rfl⟩, ?_⟩
  repeat walk_at "dx"
  refine ⟨rfl, rfl, ?_⟩
  dsimp only
  rw [eqb]
  refine itN rfl (wb_nil ?_)
  refine wb_cons (ws_for_list 7 (by walk_at "tgt") hK (fun _ _ => rfl) (we_fR (fun c => decide ((S : Int) / 2 ^ c.toNat % 2 = 0)) PyData.int 9 (by walk_at "blk") rfl mr (fun _ => rfl) (fun _ _ => rfl) ?_))
  walk_at "name"
  refine ⟨(n : Int), rfl, by omega, by omega, fun D c c0 c1 => ?_, ?_⟩
  · have hKD : (F.ext D).K = K := hK
    refine wt_eqI ?_
    repeat walk_at "dx"
    refine ⟨_, ⟨c.toNat, by rw [show ((c.toNat : Nat) : Int) = c by omega], by omega, rfl⟩, ?_⟩
    have hp2 := pow_le64 (show c.toNat ≤ 6 by omega)
    repeat walk_at "dx"
    refine ⟨by omega, ?_⟩
    repeat walk_at "dx"
    refine ⟨by decide, ?_⟩
    repeat walk_at "dx"
    refine ⟨rfl, rfl, fun _ => ?_⟩
    repeat walk_at "dx"
    exact ⟨rfl, rfl⟩
  refine ⟨fun j k' ρ' => k' = kk ∧ ∃ x7 x8 : SV, ρ' = [.raw (.ref s), .d (boxD n cs), .d (.int (S : Int)), .d (.int (n : Int)), .d (boxD m as), .d (boxD (pmN n S n) (projL n cs S n)), .d (.bool (shownB cs (S : Int))), x7, x8, .un], _, rfl, ⟨rfl, _, _, rfl⟩, ?_, ?_⟩
  · rintro j y k' ρ' hy ⟨rfl, x7, x8, rfl⟩
    rw [List.getElem?_map, Option.map_eq_some_iff] at hy
    obtain ⟨c, hc, rfl⟩ := hy
    obtain ⟨hcr, hcm⟩ := List.mem_filter.mp (List.mem_of_getElem? hc)
    rw [mem_rg] at hcr
    obtain ⟨k, rfl⟩ : ∃ k : Nat, c = (k : Int) := ⟨c.toNat, by omega⟩
    have hkn : k < n := by omega
    rw [Int.toNat_natCast] at hcm
    have hbit := rest_mod S k (of_decide_eq_true hcm)
    have ew := wo_wid k (by omega) S hS64
    rw [hbit] at ew
    simp only [Bool.false_eq_true, if_false, Nat.add_zero] at ew
    have hwr := wo_rngN n hn6 k hkn S hS
    have hsw := solid_with (cs := cs) hn6 hkn hb hwr
    rw [ew] at hsw
    have hp2 := pow_le64 (show k ≤ 6 by omega)
    have hw32 := lt32 hn6 hwr
    refine wb_cons (ws_set 8 (by walk_at "tgt") (fun _ _ => rfl) ?_)
    repeat walk_at "dx"
    refine ⟨_, ⟨n, cs, k, rfl, hn6, hb, hkn, rfl⟩, ?_⟩
    refine wb_cons (ws_if (wt_ne hK ?_))
    repeat walk_at "dx"
    refine ⟨_, ⟨k, rfl, by omega, rfl⟩, ?_⟩
    repeat walk_at "dx"
    refine ⟨_, ⟨n, cs, (S : Int) + 2 ^ k, rfl, hn6, ⟨by omega, by omega⟩, rfl⟩, ?_⟩
    repeat walk_at "dx"
    refine ⟨_, ⟨S, k, rfl, hS64, by omega, rfl⟩, ?_⟩
    refine wa_nil ⟨_, ⟨n - 1, edgeL n cs k, ((woN S k : Nat) : Int), rfl, by omega, ⟨by omega, by omega⟩, rfl⟩, ?_⟩
    refine ⟨rfl, rfl, ?_⟩
    dsimp only
    rw [show ((S : Int) + 2 ^ k) = ((S + 2 ^ k : Nat) : Int) by rw [cast2]; omega, hsw, eqb]
    exact itN rfl (wb_nil (wb_nil ⟨rfl, _, _, rfl⟩))
  · rintro k' ρ' ⟨rfl, x7, x8, rfl⟩
    repeat walk_at "dx"
    exact ⟨Nat.le_refl _, rfl⟩
end

abbrev nLaw : List Str := ["_law_script", "_law_state", "_law_most", "_law_box_here", "_law_one_here"]
theorem scLaw : FnScope nLaw ["_law_script"] (defScope (topS 29)) := ⟨rfl, rfl, rfl, by decide +kernel, rfl, by decide +kernel, by decide +kernel⟩
section
variable {P : Program} {w : World} {K : PySem.W.Frag} {mg : Str → Option Value} {base : Heap}
theorem ok_law {f : Addr} {fd : FuncData} (Fn : Fun K "law" "law" (topS 29) f fd) (mr : mg "range" = none)
    (gd : ∃ (fa : Addr) (fdd : FuncData), FnG P w K mg base 1 fa fdd ["_law_script"] (spDraws K) ∧ mg "_law_draws" = some (.ref fa) ∧ PySem.W.keepIn K (.ref fa) = true ∧ L2.Binds K fdd ["_law_script"] [])
    (gx : DFn P w K mg base 2 "_law_box" 40 PreBox RBox) (gw : PFn P w K mg base 1 "_law_power" Rpow) (gr : DFn P w K mg base 6 "_law_right" 12 PreR84 RR84) :
    FnG P w K mg base 7 f fd ["_law_script"] (spLaw K) := by
  refine lawB_ok (k := 6) Fn scLaw rfl gd (by decide) rfl rfl (.inl rfl) (.inr rfl) rfl (fun _ => rfl) (fun F s a r dk hK => ?_)
  refine wb_cons (ws_for_list 2 (by walk_at "tgt") hK (fun _ _ => rfl) ?_)
  repeat walk_at "dx"
  refine ⟨fun j k ρ => j ≤ 4 ∧ 890000 ≤ k + 500 * j ∧ ∃ x2 x3 : SV, ρ = [.un, .raw (.ref s), x2, x3, .un], _, rfl, ⟨by decide, by decide, .un, .un, rfl⟩, ?_, ?_⟩
  · rintro j y k ρ hy ⟨hj, hk, x2, x3, rfl⟩
    have hj4 : j < 4 := (List.getElem?_eq_some_iff.mp hy).1
    obtain ⟨mm, rfl, hm5⟩ : ∃ mm : Nat, y = .int (mm : Int) ∧ mm ≤ 5 := by
      have : j = 0 ∨ j = 1 ∨ j = 2 ∨ j = 3 := by omega
      rcases this with rfl | rfl | rfl | rfl <;> cases hy
      · exact ⟨3, rfl, by decide⟩
      · exact ⟨4, rfl, by decide⟩
      · exact ⟨4, rfl, by decide⟩
      · exact ⟨5, rfl, by decide⟩
    obtain ⟨k2, rfl⟩ : ∃ k2, k = k2 + 40 := ⟨k - 40, by omega⟩
    refine wb_cons (ws_set 3 (by walk_at "tgt") (fun _ _ => rfl) ?_)
    repeat walk_at "dx"
    refine ⟨⟨mm, rfl, hm5⟩, k2, rfl, ?_⟩
    rintro d ⟨m', n, cs, e1, hnm, hb, rfl⟩
    have e2 := PyData.int.inj (List.cons.inj e1).1
    have hn : n ≤ 5 := by omega
    have hp := pow_le64 (show n ≤ 6 by omega)
    have hp5 : (2 : Int) ^ n ≤ 32 := by
      have := Nat.pow_le_pow_right (n := 2) (by decide) hn
      rw [cast2]; omega
    show WPB _ _ _ _ _ _
    refine wb_cons (ws_if (wt_ne hK (we_compR1 4 (by walk_at "blk") rfl mr (fun _ => rfl) (fun _ _ => rfl) ?_)))
    repeat walk_at "dx"
    refine ⟨.int (n : Int), rfl, wa_nil ⟨_, ⟨n, rfl, by omega, rfl⟩, ?_⟩⟩
    refine ⟨fun i k acc => acc = [] ∧ 890000 ≤ k + 12 * i + 500 * j + 40, _, rfl, by omega, by omega, ⟨rfl, by omega⟩, ?_, ?_⟩
    · rintro D i k acc hi ⟨rfl, hk⟩
      have hKD : (F.ext D).K = K := hK
      have hi32 : (i : Int) < 2 ^ n := by omega
      obtain ⟨k3, rfl⟩ : ∃ k3, k = k3 + 12 := ⟨k - 12, by omega⟩
      refine wt_not (wt_val (fun _ _ => rfl) ?_)
      repeat walk_at "dx"
      refine ⟨⟨n, cs, i, rfl, hn, hb, by rw [cast2] at hi32; omega⟩, k3, rfl, ?_⟩
      rintro d rfl
      refine ⟨true, rfl, ?_⟩
      show if (!true) = true then _ else _
      rw [if_neg (by decide)]
      exact ⟨rfl, by omega⟩
    rintro k acc ⟨rfl, hk⟩
    have hk : 890000 ≤ k + 12 * ((2 : Int) ^ n).toNat + 500 * j + 40 := hk
    refine we_lst (wa_nil ⟨by show 0 ≤ sizeLine; decide, shaped_intsL [], shaped_intsL [], ?_⟩)
    dsimp only
    rw [eqv_nilL]
    refine itN rfl (wb_nil (wb_nil ⟨by omega, by omega, _, _, rfl⟩))
  · rintro k ρ ⟨hj, hk, x2, x3, rfl⟩
    repeat walk_at "dx"
    rfl
end



/-! ### what the top has written; the end -/
theorem all_mk {P : Program} {w : World} {K : PySem.W.Frag} {h : Heap} {mg : Str → Option Value} {fa f0 f1 f2 f3 f4 f5 f6 f7 f8 f9 f10 f11 f12 f13 f14 f15 f16 f17 f18 f19 f20 f21 f22 : Addr} (X : K.In h) (G : h.Ns mainGlobals mg) (hfa : mg "law" = some (.ref fa))
    {od0 an0 od1 an1 od2 an2 od3 an3 od4 an4 od5 an5 od6 an6 od7 an7 od8 an8 od9 an9 od10 an10 od11 an11 od12 an12 od13 an13 od14 an14 od15 an15 od16 an16 od17 an17 od18 an18 od19 an19 od20 an20 od21 an21 od22 an22 : Option Addr} {sl0 sl1 sl2 sl3 sl4 sl5 sl6 sl7 sl8 sl9 sl10 sl11 sl12 sl13 sl14 sl15 sl16 sl17 sl18 sl19 sl20 sl21 sl22 : Array (Option Value)} {oc0 kV0 dc0 pm0 cd0 ct0 oc1 kV1 dc1 pm1 cd1 ct1 oc2 kV2 dc2 pm2 cd2 ct2 oc3 kV3 dc3 pm3 cd3 ct3 oc4 kV4 dc4 pm4 cd4 ct4 oc5 kV5 dc5 pm5 cd5 ct5 oc6 kV6 dc6 pm6 cd6 ct6 oc7 kV7 dc7 pm7 cd7 ct7 oc8 kV8 dc8 pm8 cd8 ct8 oc9 kV9 dc9 pm9 cd9 ct9 oc10 kV10 dc10 pm10 cd10 ct10 oc11 kV11 dc11 pm11 cd11 ct11 oc12 kV12 dc12 pm12 cd12 ct12 oc13 kV13 dc13 pm13 cd13 ct13 oc14 kV14 dc14 pm14 cd14 ct14 oc15 kV15 dc15 pm15 cd15 ct15 oc16 kV16 dc16 pm16 cd16 ct16 oc17 kV17 dc17 pm17 cd17 ct17 oc18 kV18 dc18 pm18 cd18 ct18 oc19 kV19 dc19 pm19 cd19 ct19 oc20 kV20 dc20 pm20 cd20 ct20 oc21 kV21 dc21 pm21 cd21 ct21 oc22 kV22 dc22 pm22 cd22 ct22 : Value}
    (a0 : PySem.W.nsIn K mainGlobals "has_switch" = some (some (.ref f0))) (l0 : K.lookup f0 = some ⟨oc0, od0, .func (PySem.W.fnOf "has_switch" "has_switch" (defArgs (topS 1)) (defBody (topS 1)) (defScope (topS 1)) .none kV0 dc0 pm0 an0 cd0 ct0), sl0⟩) (c0 : PySem.W.codeIn K cd0 "has_switch" = true) (k0 : PySem.W.keepIn K (.ref f0) = true)
    (a1 : PySem.W.nsIn K mainGlobals "subsets_of" = some (some (.ref f1))) (l1 : K.lookup f1 = some ⟨oc1, od1, .func (PySem.W.fnOf "subsets_of" "subsets_of" (defArgs (topS 2)) (defBody (topS 2)) (defScope (topS 2)) .none kV1 dc1 pm1 an1 cd1 ct1), sl1⟩) (c1 : PySem.W.codeIn K cd1 "subsets_of" = true) (k1 : PySem.W.keepIn K (.ref f1) = true)
    (a2 : PySem.W.nsIn K mainGlobals "sets_outside" = some (some (.ref f2))) (l2 : K.lookup f2 = some ⟨oc2, od2, .func (PySem.W.fnOf "sets_outside" "sets_outside" (defArgs (topS 3)) (defBody (topS 3)) (defScope (topS 3)) .none kV2 dc2 pm2 an2 cd2 ct2), sl2⟩) (c2 : PySem.W.codeIn K cd2 "sets_outside" = true) (k2 : PySem.W.keepIn K (.ref f2) = true)
    (a3 : PySem.W.nsIn K mainGlobals "cube_cards" = some (some (.ref f3))) (l3 : K.lookup f3 = some ⟨oc3, od3, .func (PySem.W.fnOf "cube_cards" "cube_cards" (defArgs (topS 5)) (defBody (topS 5)) (defScope (topS 5)) .none kV3 dc3 pm3 an3 cd3 ct3), sl3⟩) (c3 : PySem.W.codeIn K cd3 "cube_cards" = true) (k3 : PySem.W.keepIn K (.ref f3) = true)
    (a4 : PySem.W.nsIn K mainGlobals "first_missing" = some (some (.ref f4))) (l4 : K.lookup f4 = some ⟨oc4, od4, .func (PySem.W.fnOf "first_missing" "first_missing" (defArgs (topS 6)) (defBody (topS 6)) (defScope (topS 6)) .none kV4 dc4 pm4 an4 cd4 ct4), sl4⟩) (c4 : PySem.W.codeIn K cd4 "first_missing" = true) (k4 : PySem.W.keepIn K (.ref f4) = true)
    (a5 : PySem.W.nsIn K mainGlobals "bases_of" = some (some (.ref f5))) (l5 : K.lookup f5 = some ⟨oc5, od5, .func (PySem.W.fnOf "bases_of" "bases_of" (defArgs (topS 7)) (defBody (topS 7)) (defScope (topS 7)) .none kV5 dc5 pm5 an5 cd5 ct5), sl5⟩) (c5 : PySem.W.codeIn K cd5 "bases_of" = true) (k5 : PySem.W.keepIn K (.ref f5) = true)
    (a6 : PySem.W.nsIn K mainGlobals "is_solid" = some (some (.ref f6))) (l6 : K.lookup f6 = some ⟨oc6, od6, .func (PySem.W.fnOf "is_solid" "is_solid" (defArgs (topS 8)) (defBody (topS 8)) (defScope (topS 8)) .none kV6 dc6 pm6 an6 cd6 ct6), sl6⟩) (c6 : PySem.W.codeIn K cd6 "is_solid" = true) (k6 : PySem.W.keepIn K (.ref f6) = true)
    (a7 : PySem.W.nsIn K mainGlobals "without_switch" = some (some (.ref f7))) (l7 : K.lookup f7 = some ⟨oc7, od7, .func (PySem.W.fnOf "without_switch" "without_switch" (defArgs (topS 10)) (defBody (topS 10)) (defScope (topS 10)) .none kV7 dc7 pm7 an7 cd7 ct7), sl7⟩) (c7 : PySem.W.codeIn K cd7 "without_switch" = true) (k7 : PySem.W.keepIn K (.ref f7) = true)
    (a8 : PySem.W.nsIn K mainGlobals "hold_switch" = some (some (.ref f8))) (l8 : K.lookup f8 = some ⟨oc8, od8, .func (PySem.W.fnOf "hold_switch" "hold_switch" (defArgs (topS 11)) (defBody (topS 11)) (defScope (topS 11)) .none kV8 dc8 pm8 an8 cd8 ct8), sl8⟩) (c8 : PySem.W.codeIn K cd8 "hold_switch" = true) (k8 : PySem.W.keepIn K (.ref f8) = true)
    (a9 : PySem.W.nsIn K mainGlobals "drop_switch" = some (some (.ref f9))) (l9 : K.lookup f9 = some ⟨oc9, od9, .func (PySem.W.fnOf "drop_switch" "drop_switch" (defArgs (topS 12)) (defBody (topS 12)) (defScope (topS 12)) .none kV9 dc9 pm9 an9 cd9 ct9), sl9⟩) (c9 : PySem.W.codeIn K cd9 "drop_switch" = true) (k9 : PySem.W.keepIn K (.ref f9) = true)
    (a10 : PySem.W.nsIn K mainGlobals "edge_box" = some (some (.ref f10))) (l10 : K.lookup f10 = some ⟨oc10, od10, .func (PySem.W.fnOf "edge_box" "edge_box" (defArgs (topS 13)) (defBody (topS 13)) (defScope (topS 13)) .none kV10 dc10 pm10 an10 cd10 ct10), sl10⟩) (c10 : PySem.W.codeIn K cd10 "edge_box" = true) (k10 : PySem.W.keepIn K (.ref f10) = true)
    (a11 : PySem.W.nsIn K mainGlobals "project_to" = some (some (.ref f11))) (l11 : K.lookup f11 = some ⟨oc11, od11, .func (PySem.W.fnOf "project_to" "project_to" (defArgs (topS 14)) (defBody (topS 14)) (defScope (topS 14)) .none kV11 dc11 pm11 an11 cd11 ct11), sl11⟩) (c11 : PySem.W.codeIn K cd11 "project_to" = true) (k11 : PySem.W.keepIn K (.ref f11) = true)
    (a12 : PySem.W.nsIn K mainGlobals "patterns_of" = some (some (.ref f12))) (l12 : K.lookup f12 = some ⟨oc12, od12, .func (PySem.W.fnOf "patterns_of" "patterns_of" (defArgs (topS 16)) (defBody (topS 16)) (defScope (topS 16)) .none kV12 dc12 pm12 an12 cd12 ct12), sl12⟩) (c12 : PySem.W.codeIn K cd12 "patterns_of" = true) (k12 : PySem.W.keepIn K (.ref f12) = true)
    (a13 : PySem.W.nsIn K mainGlobals "is_shown" = some (some (.ref f13))) (l13 : K.lookup f13 = some ⟨oc13, od13, .func (PySem.W.fnOf "is_shown" "is_shown" (defArgs (topS 17)) (defBody (topS 17)) (defScope (topS 17)) .none kV13 dc13 pm13 an13 cd13 ct13), sl13⟩) (c13 : PySem.W.codeIn K cd13 "is_shown" = true) (k13 : PySem.W.keepIn K (.ref f13) = true)
    (a14 : PySem.W.nsIn K mainGlobals "_law_draws" = some (some (.ref f14))) (l14 : K.lookup f14 = some ⟨oc14, od14, .func (PySem.W.fnOf "_law_draws" "_law_draws" (defArgs (topS 19)) (defBody (topS 19)) (defScope (topS 19)) .none kV14 dc14 pm14 an14 cd14 ct14), sl14⟩) (c14 : PySem.W.codeIn K cd14 "_law_draws" = true) (k14 : PySem.W.keepIn K (.ref f14) = true)
    (a15 : PySem.W.nsIn K mainGlobals "_law_next" = some (some (.ref f15))) (l15 : K.lookup f15 = some ⟨oc15, od15, .func (PySem.W.fnOf "_law_next" "_law_next" (defArgs (topS 20)) (defBody (topS 20)) (defScope (topS 20)) .none kV15 dc15 pm15 an15 cd15 ct15), sl15⟩) (c15 : PySem.W.codeIn K cd15 "_law_next" = true) (k15 : PySem.W.keepIn K (.ref f15) = true)
    (a16 : PySem.W.nsIn K mainGlobals "_law_power" = some (some (.ref f16))) (l16 : K.lookup f16 = some ⟨oc16, od16, .func (PySem.W.fnOf "_law_power" "_law_power" (defArgs (topS 21)) (defBody (topS 21)) (defScope (topS 21)) .none kV16 dc16 pm16 an16 cd16 ct16), sl16⟩) (c16 : PySem.W.codeIn K cd16 "_law_power" = true) (k16 : PySem.W.keepIn K (.ref f16) = true)
    (a17 : PySem.W.nsIn K mainGlobals "_law_size" = some (some (.ref f17))) (l17 : K.lookup f17 = some ⟨oc17, od17, .func (PySem.W.fnOf "_law_size" "_law_size" (defArgs (topS 23)) (defBody (topS 23)) (defScope (topS 23)) .none kV17 dc17 pm17 an17 cd17 ct17), sl17⟩) (c17 : PySem.W.codeIn K cd17 "_law_size" = true) (k17 : PySem.W.keepIn K (.ref f17) = true)
    (a18 : PySem.W.nsIn K mainGlobals "_law_box" = some (some (.ref f18))) (l18 : K.lookup f18 = some ⟨oc18, od18, .func (PySem.W.fnOf "_law_box" "_law_box" (defArgs (topS 25)) (defBody (topS 25)) (defScope (topS 25)) .none kV18 dc18 pm18 an18 cd18 ct18), sl18⟩) (c18 : PySem.W.codeIn K cd18 "_law_box" = true) (k18 : PySem.W.keepIn K (.ref f18) = true)
    (a19 : PySem.W.nsIn K mainGlobals "_law_taken" = some (some (.ref f19))) (l19 : K.lookup f19 = some ⟨oc19, od19, .func (PySem.W.fnOf "_law_taken" "_law_taken" (defArgs (topS 26)) (defBody (topS 26)) (defScope (topS 26)) .none kV19 dc19 pm19 an19 cd19 ct19), sl19⟩) (c19 : PySem.W.codeIn K cd19 "_law_taken" = true) (k19 : PySem.W.keepIn K (.ref f19) = true)
    (a20 : PySem.W.nsIn K mainGlobals "_law_lowered" = some (some (.ref f20))) (l20 : K.lookup f20 = some ⟨oc20, od20, .func (PySem.W.fnOf "_law_lowered" "_law_lowered" (defArgs (topS 27)) (defBody (topS 27)) (defScope (topS 27)) .none kV20 dc20 pm20 an20 cd20 ct20), sl20⟩) (c20 : PySem.W.codeIn K cd20 "_law_lowered" = true) (k20 : PySem.W.keepIn K (.ref f20) = true)
    (a21 : PySem.W.nsIn K mainGlobals "_law_right" = some (some (.ref f21))) (l21 : K.lookup f21 = some ⟨oc21, od21, .func (PySem.W.fnOf "_law_right" "_law_right" (defArgs (topS 28)) (defBody (topS 28)) (defScope (topS 28)) .none kV21 dc21 pm21 an21 cd21 ct21), sl21⟩) (c21 : PySem.W.codeIn K cd21 "_law_right" = true) (k21 : PySem.W.keepIn K (.ref f21) = true)
    (a22 : PySem.W.nsIn K mainGlobals "law" = some (some (.ref f22))) (l22 : K.lookup f22 = some ⟨oc22, od22, .func (PySem.W.fnOf "law" "law" (defArgs (topS 29)) (defBody (topS 29)) (defScope (topS 29)) .none kV22 dc22 pm22 an22 cd22 ct22), sl22⟩) (c22 : PySem.W.codeIn K cd22 "law" = true) (k22 : PySem.W.keepIn K (.ref f22) = true)
    (z0 : PySem.W.nsIn K mainGlobals "range" = some none)
    (z1 : PySem.W.nsIn K mainGlobals "tuple" = some none)
    (z2 : PySem.W.nsIn K mainGlobals "len" = some none)
    (z3 : PySem.W.nsIn K mainGlobals "abs" = some none)
    (z4 : PySem.W.nsIn K mainGlobals "int" = some none)
    (z5 : PySem.W.nsIn K mainGlobals "list" = some none)
    (z6 : PySem.W.nsIn K mainGlobals "sorted" = some none)
    (z7 : PySem.W.nsIn K mainGlobals "set" = some none)
    (z8 : PySem.W.nsIn K mainGlobals "reversed" = some none)
    : ∃ fd : FuncData, (∀ (s : Shared) (v : Value), BindsTo s fd ⟨[v], []⟩ [("_law_script", v)]) ∧ ∀ base : Heap, K.In base → base.Ns mainGlobals mg → FnG P w K mg base 7 fa fd ["_law_script"] (spLaw K) := by
  have e := hfa.symm.trans (PySem.W.mg_of X G a22)
  cases e
  have F0 := fun_mk (st := topS 1) l0 c0 k0
  have m0 := PySem.W.mg_of X G a0
  have b0 := F0.binds (ps := ["switches", "switch"]) fun _ _ _ _ _ _ us hl => match us, hl with | [_, _], _ => rfl
  have F1 := fun_mk (st := topS 2) l1 c1 k1
  have m1 := PySem.W.mg_of X G a1
  have b1 := F1.binds (ps := ["switches"]) fun _ _ _ _ _ _ us hl => match us, hl with | [_], _ => rfl
  have F2 := fun_mk (st := topS 3) l2 c2 k2
  have m2 := PySem.W.mg_of X G a2
  have b2 := F2.binds (ps := ["n", "switches"]) fun _ _ _ _ _ _ us hl => match us, hl with | [_, _], _ => rfl
  have F3 := fun_mk (st := topS 5) l3 c3 k3
  have m3 := PySem.W.mg_of X G a3
  have b3 := F3.binds (ps := ["cube"]) fun _ _ _ _ _ _ us hl => match us, hl with | [_], _ => rfl
  have F4 := fun_mk (st := topS 6) l4 c4 k4
  have m4 := PySem.W.mg_of X G a4
  have b4 := F4.binds (ps := ["cards", "cube"]) fun _ _ _ _ _ _ us hl => match us, hl with | [_, _], _ => rfl
  have F5 := fun_mk (st := topS 7) l5 c5 k5
  have m5 := PySem.W.mg_of X G a5
  have b5 := F5.binds (ps := ["box", "switches"]) fun _ _ _ _ _ _ us hl => match us, hl with | [_, _], _ => rfl
  have F6 := fun_mk (st := topS 8) l6 c6 k6
  have m6 := PySem.W.mg_of X G a6
  have b6 := F6.binds (ps := ["box", "switches"]) fun _ _ _ _ _ _ us hl => match us, hl with | [_, _], _ => rfl
  have F7 := fun_mk (st := topS 10) l7 c7 k7
  have m7 := PySem.W.mg_of X G a7
  have b7 := F7.binds (ps := ["card", "switch"]) fun _ _ _ _ _ _ us hl => match us, hl with | [_, _], _ => rfl
  have F8 := fun_mk (st := topS 11) l8 c8 k8
  have m8 := PySem.W.mg_of X G a8
  have b8 := F8.binds (ps := ["box", "switch", "on"]) fun _ _ _ _ _ _ us hl => match us, hl with | [_, _, _], _ => rfl
  have F9 := fun_mk (st := topS 12) l9 c9 k9
  have m9 := PySem.W.mg_of X G a9
  have b9 := F9.binds (ps := ["box", "switch"]) fun _ _ _ _ _ _ us hl => match us, hl with | [_, _], _ => rfl
  have F10 := fun_mk (st := topS 13) l10 c10 k10
  have m10 := PySem.W.mg_of X G a10
  have b10 := F10.binds (ps := ["box", "switch"]) fun _ _ _ _ _ _ us hl => match us, hl with | [_, _], _ => rfl
  have F11 := fun_mk (st := topS 14) l11 c11 k11
  have m11 := PySem.W.mg_of X G a11
  have b11 := F11.binds (ps := ["box", "switches"]) fun _ _ _ _ _ _ us hl => match us, hl with | [_, _], _ => rfl
  have F12 := fun_mk (st := topS 16) l12 c12 k12
  have m12 := PySem.W.mg_of X G a12
  have b12 := F12.binds (ps := ["box", "switches"]) fun _ _ _ _ _ _ us hl => match us, hl with | [_, _], _ => rfl
  have F13 := fun_mk (st := topS 17) l13 c13 k13
  have m13 := PySem.W.mg_of X G a13
  have b13 := F13.binds (ps := ["box", "switches"]) fun _ _ _ _ _ _ us hl => match us, hl with | [_, _], _ => rfl
  have F14 := fun_mk (st := topS 19) l14 c14 k14
  have m14 := PySem.W.mg_of X G a14
  have b14 := F14.binds (ps := ["_law_script"]) fun _ _ _ _ _ _ us hl => match us, hl with | [_], _ => rfl
  have F15 := fun_mk (st := topS 20) l15 c15 k15
  have m15 := PySem.W.mg_of X G a15
  have b15 := F15.binds (ps := ["_law_state", "_law_many"]) fun _ _ _ _ _ _ us hl => match us, hl with | [_, _], _ => rfl
  have F16 := fun_mk (st := topS 21) l16 c16 k16
  have m16 := PySem.W.mg_of X G a16
  have b16 := F16.binds (ps := ["_law_k"]) fun _ _ _ _ _ _ us hl => match us, hl with | [_], _ => rfl
  have F17 := fun_mk (st := topS 23) l17 c17 k17
  have m17 := PySem.W.mg_of X G a17
  have b17 := F17.binds (ps := ["_law_switches"]) fun _ _ _ _ _ _ us hl => match us, hl with | [_], _ => rfl
  have F18 := fun_mk (st := topS 25) l18 c18 k18
  have m18 := PySem.W.mg_of X G a18
  have b18 := F18.binds (ps := ["_law_state", "_law_most"]) fun _ _ _ _ _ _ us hl => match us, hl with | [_, _], _ => rfl
  have F19 := fun_mk (st := topS 26) l19 c19 k19
  have m19 := PySem.W.mg_of X G a19
  have b19 := F19.binds (ps := ["_law_state", "_law_box_here", "_law_switches", "_law_call"]) fun _ _ _ _ _ _ us hl => match us, hl with | [_, _, _, _], _ => rfl
  have F20 := fun_mk (st := topS 27) l20 c20 k20
  have m20 := PySem.W.mg_of X G a20
  have b20 := F20.binds (ps := ["_law_switches", "_law_switch"]) fun _ _ _ _ _ _ us hl => match us, hl with | [_, _], _ => rfl
  have F21 := fun_mk (st := topS 28) l21 c21 k21
  have m21 := PySem.W.mg_of X G a21
  have b21 := F21.binds (ps := ["_law_state", "_law_box_here", "_law_switches"]) fun _ _ _ _ _ _ us hl => match us, hl with | [_, _, _], _ => rfl
  have F22 := fun_mk (st := topS 29) l22 c22 k22
  have m22 := PySem.W.mg_of X G a22
  have n_range := PySem.W.mg_none_of X G z0
  have n_tuple := PySem.W.mg_none_of X G z1
  have n_len := PySem.W.mg_none_of X G z2
  have n_abs := PySem.W.mg_none_of X G z3
  have n_int := PySem.W.mg_none_of X G z4
  have n_list := PySem.W.mg_none_of X G z5
  have n_sorted := PySem.W.mg_none_of X G z6
  have n_set := PySem.W.mg_none_of X G z7
  have n_reversed := PySem.W.mg_none_of X G z8
  refine ⟨PySem.W.fnOf "law" "law" (defArgs (topS 29)) (defBody (topS 29)) (defScope (topS 29)) .none kV22 dc22 pm22 an22 cd22 ct22, fun s v => .of_eq rfl, fun base _ _ => ?_⟩
  have g_subsets_of : PFn P w K mg base 1 "subsets_of" Rparts := ⟨_, _, _, ok_sub F1 n_range, m1, k1, b1⟩
  have g_cube_cards : PFn P w K mg base 2 "cube_cards" Rcube := ⟨_, _, _, ok_cube F3 n_tuple g_subsets_of, m3, k3, b3⟩
  have g_sets_outside : PFn P w K mg base 1 "sets_outside" Rout := ⟨_, _, _, ok_out F2 n_range, m2, k2, b2⟩
  have g_first_missing : PFn P w K mg base 3 "first_missing" Rmiss := ⟨_, _, _, ok_miss F4 g_cube_cards, m4, k4, b4⟩
  have g_bases_of : PFn P w K mg base 4 "bases_of" Rbases := ⟨_, _, _, ok_bases F5 n_tuple g_sets_outside g_first_missing, m5, k5, b5⟩
  have g_is_solid : PFn P w K mg base 5 "is_solid" Rsolid := ⟨_, _, _, ok_solid F6 n_len g_bases_of, m6, k6, b6⟩
  have g__law_power : PFn P w K mg base 1 "_law_power" Rpow := ⟨_, _, _, ok_pow F16 n_range, m16, k16, b16⟩
  have g__law_size : PFn P w K mg base 1 "_law_size" Rsize := ⟨_, _, _, ok_size F17 , m17, k17, b17⟩
  have g_patterns_of : PFn P w K mg base 1 "patterns_of" Rpat := ⟨_, _, _, ok_pat F12 n_tuple n_sorted, m12, k12, b12⟩
  have g_is_shown : PFn P w K mg base 2 "is_shown" Rshown := ⟨_, _, _, ok_shown F13 n_tuple g_patterns_of g_subsets_of, m13, k13, b13⟩
  have g__law_next : DFn P w K mg base 1 "_law_next" 1 PreNext RNext := ⟨_, _, _, ok_next F15 n_len, m15, k15, b15⟩
  have g__law_box : DFn P w K mg base 2 "_law_box" 40 PreBox RBox := ⟨_, _, _, ok_box F18 n_range n_list n_tuple n_sorted g__law_next g__law_power g__law_size, m18, k18, b18⟩
  have g_has_switch : PFn P w K mg base 1 "has_switch" Rhsw := ⟨_, _, _, ok_hsw F0 , m0, k0, b0⟩
  have g_without_switch : PFn P w K mg base 1 "without_switch" Rwos := ⟨_, _, _, ok_wos F7 , m7, k7, b7⟩
  have g_hold_switch : PFn P w K mg base 2 "hold_switch" Rhold := ⟨_, _, _, ok_hold F8 n_tuple g_has_switch g_without_switch, m8, k8, b8⟩
  have g_drop_switch : PFn P w K mg base 2 "drop_switch" Rdrop := ⟨_, _, _, ok_drop F9 n_tuple n_sorted g_without_switch, m9, k9, b9⟩
  have g_edge_box : PFn P w K mg base 3 "edge_box" Redge := ⟨_, _, _, ok_edge F10 n_tuple g_hold_switch, m10, k10, b10⟩
  have g_project_to : PFn P w K mg base 3 "project_to" Rproj := ⟨_, _, _, ok_prj F11 n_reversed n_range g_has_switch g_drop_switch, m11, k11, b11⟩
  obtain ⟨fE, mE, hE⟩ := held_of g_edge_box
  have g_tkE : DFnF P w K mg base 4 "_law_taken" fE 6 PreTk (RTk edgeL) := ⟨_, _, _, ok_tk (fun m as k => edge_isbox m as k) F19 n_range n_list n_len g__law_next g__law_power (by decide) hE, m19, k19, b19⟩
  obtain ⟨fD, mD, hD⟩ := held_of g_drop_switch
  have g_tkD : DFnF P w K mg base 4 "_law_taken" fD 6 PreTk (RTk dropL) := ⟨_, _, _, ok_tk (fun m as k => drop_box m as k) F19 n_range n_list n_len g__law_next g__law_power (by decide) hD, m19, k19, b19⟩
  have g__law_lowered84 : PFn P w K mg base 2 "_law_lowered" Rlow := ⟨_, _, _, ok_low F20 g__law_power, m20, k20, b20⟩
  have g__law_right84 : DFn P w K mg base 6 "_law_right" 12 PreR84 RR84 := ⟨_, _, _, ok_r84 F21 n_range n_len mE mD g_tkE g_tkD g__law_power g__law_size g_is_solid g_bases_of g_project_to g_is_shown g_edge_box g__law_lowered84, m21, k21, b21⟩
  exact ok_law F22 n_range ⟨_, _, ok_draws F14 n_len n_abs n_int, m14, k14, b14⟩ g__law_box g__law_power g__law_right84
end K84
open PySem PySem.W PyProof.Rows
set_option maxHeartbeats 0 in
theorem PySem.Challenge.cw_cardboxes_k84_whole_edges_and_projection_holds : PySem.Challenge.rw_cardboxes_k84_whole_edges_and_projection.Holds := by
  w_on; o_law; k_head; (case hw => w_witness2)
  k_fill
  refine Dl.walk_end (l := PySem.Challenge.rw_cardboxes_k84_whole_edges_and_projection) (n := 63) (k := 7) (x := "_law_script") (sp := Dl.spLaw) rfl (by decide) rfl ⟨rfl, by decide, by decide⟩ (fun w h Y => PySem.W.kIn_of Y) ?F (fun _ _ a ns hl _ hS => ⟨a, ns, rfl, hS, hl, fun _ => rfl⟩)
  case F =>
    intro w mg fa h KX G hmg
    refine' K84.all_mk KX G hmg ?a0 ?l0 ?c0 ?k0 ?a1 ?l1 ?c1 ?k1 ?a2 ?l2 ?c2 ?k2 ?a3 ?l3 ?c3 ?k3 ?a4 ?l4 ?c4 ?k4 ?a5 ?l5 ?c5 ?k5 ?a6 ?l6 ?c6 ?k6 ?a7 ?l7 ?c7 ?k7 ?a8 ?l8 ?c8 ?k8 ?a9 ?l9 ?c9 ?k9 ?a10 ?l10 ?c10 ?k10 ?a11 ?l11 ?c11 ?k11 ?a12 ?l12 ?c12 ?k12 ?a13 ?l13 ?c13 ?k13 ?a14 ?l14 ?c14 ?k14 ?a15 ?l15 ?c15 ?k15 ?a16 ?l16 ?c16 ?k16 ?a17 ?l17 ?c17 ?k17 ?a18 ?l18 ?c18 ?k18 ?a19 ?l19 ?c19 ?k19 ?a20 ?l20 ?c20 ?k20 ?a21 ?l21 ?c21 ?k21 ?a22 ?l22 ?c22 ?k22 ?z0 ?z1 ?z2 ?z3 ?z4 ?z5 ?z6 ?z7 ?z8 
    (case a0 => k_is); (case l0 => k_is); (case c0 => k_is); (case k0 => k_is)
    (case a1 => k_is); (case l1 => k_is); (case c1 => k_is); (case k1 => k_is)
    (case a2 => k_is); (case l2 => k_is); (case c2 => k_is); (case k2 => k_is)
    (case a3 => k_is); (case l3 => k_is); (case c3 => k_is); (case k3 => k_is)
    (case a4 => k_is); (case l4 => k_is); (case c4 => k_is); (case k4 => k_is)
    (case a5 => k_is); (case l5 => k_is); (case c5 => k_is); (case k5 => k_is)
    (case a6 => k_is); (case l6 => k_is); (case c6 => k_is); (case k6 => k_is)
    (case a7 => k_is); (case l7 => k_is); (case c7 => k_is); (case k7 => k_is)
    (case a8 => k_is); (case l8 => k_is); (case c8 => k_is); (case k8 => k_is)
    (case a9 => k_is); (case l9 => k_is); (case c9 => k_is); (case k9 => k_is)
    (case a10 => k_is); (case l10 => k_is); (case c10 => k_is); (case k10 => k_is)
    (case a11 => k_is); (case l11 => k_is); (case c11 => k_is); (case k11 => k_is)
    (case a12 => k_is); (case l12 => k_is); (case c12 => k_is); (case k12 => k_is)
    (case a13 => k_is); (case l13 => k_is); (case c13 => k_is); (case k13 => k_is)
    (case a14 => k_is); (case l14 => k_is); (case c14 => k_is); (case k14 => k_is)
    (case a15 => k_is); (case l15 => k_is); (case c15 => k_is); (case k15 => k_is)
    (case a16 => k_is); (case l16 => k_is); (case c16 => k_is); (case k16 => k_is)
    (case a17 => k_is); (case l17 => k_is); (case c17 => k_is); (case k17 => k_is)
    (case a18 => k_is); (case l18 => k_is); (case c18 => k_is); (case k18 => k_is)
    (case a19 => k_is); (case l19 => k_is); (case c19 => k_is); (case k19 => k_is)
    (case a20 => k_is); (case l20 => k_is); (case c20 => k_is); (case k20 => k_is)
    (case a21 => k_is); (case l21 => k_is); (case c21 => k_is); (case k21 => k_is)
    (case a22 => k_is); (case l22 => k_is); (case c22 => k_is); (case k22 => k_is)
    (case z0 => k_is); (case z1 => k_is); (case z2 => k_is); (case z3 => k_is); (case z4 => k_is); (case z5 => k_is); (case z6 => k_is); (case z7 => k_is); (case z8 => k_is)

