import PyProof.Rows.All
import Wide.All
import OpenK.AllK
import Wide.FinOn
import HandS.ForMost
import HandS.Conv
import HandS.Strs
import HandS.SortInts
import HandS.Wide
import HandS.WideBits
import HandS.IsInst
import HandS.Style
import HandS.NoneIn
import HandS.SetFor
import HandS.SetBool
import HandS.SortKw
import KE.DataMinMax
import HandS.TupAny
import PyProof.TupleOfSeq
import PyProof.ReprRoads
import PyProof.ReprLen
import HandS.Zip
import HandS.TupLe
import HandS.RevRange
import KE.GoesMore
import HandS.Dict
import HandS.Sort
import KE.KDictList
import KE.KRevSl
import PyProof.EqKinds
import PyProof.NeKinds
import PyProof.FactsAll.dict_1
import HandS.SortRule
import PyProof.TwoTypesSub
import PyProof.AutoIntG7
import PySem.Challenge.RW_cardboxes_k18_solid_holds_judged
set_option Elab.async false
set_option linter.all false
set_option maxRecDepth 100000
set_option maxHeartbeats 4000000
namespace Dl
open PySem PySem.Spec PyProof.Rows L2

/-! ### lists that only their owner knows: described by what is true of the object; data are never such -/
def extL (s : Addr) (as : List Addr) : HO := .ext fun h => as.length ≤ sizeLine ∧ ∃ n : Nat, h.get? s = some { cls := .type "list", data := .seq (as.map Value.ref).toArray n }
def IsX (o : HO) : Prop := ∃ s as, as.length ≤ sizeLine ∧ o = extL s as
theorem nx_lst {xs : List V} : ¬ IsX (.lst xs) := fun ⟨_, _, _, e⟩ => by unfold extL at e; cases e
theorem nx_tup {xs : List V} : ¬ IsX (.tup xs) := fun ⟨_, _, _, e⟩ => by unfold extL at e; cases e
theorem nx_set {w : World} {D : Addr} {S : Int → Bool} {c : Nat} : ¬ IsX (SetO w D S c) := fun ⟨s, as, hl, e⟩ => by
  unfold SetO extL at e
  have e2 := HO.ext.inj e
  let ob : Obj := { cls := .type "list", data := .seq (as.map Value.ref).toArray 0 }
  let h : Heap := ⟨(List.replicate (s + 1) ob).toArray, {}⟩
  have hs : h.get? s = some ob := by
    unfold Heap.get?
    have : h.objs[s]? = some ob := by
      show (List.replicate (s + 1) ob).toArray[s]? = some ob
      simp
    rw [this]
  have hr : SetR w h D S c := by
    have := congrFun e2 h
    rw [this]
    exact ⟨hl, 0, hs⟩
  obtain ⟨o, es, ep, t, ho, _, hd, _⟩ := hr
  have : o = ob := by
    unfold Heap.get? at ho
    cases q : h.objs[D]? with
    | none => rw [q] at ho; cases ho
    | some u =>
      have hu : u = ob := by
        have q' : (List.replicate (s + 1) ob).toArray[D]? = some u := q
        rw [List.getElem?_toArray] at q'
        exact List.eq_of_mem_replicate (List.mem_of_getElem? q')
      subst hu
      rw [q] at ho
      exact (Option.some.inj ho).symm
  rw [this] at hd
  cases hd
theorem nx_dK {xs : List (Key × V)} : ¬ IsX (.dK xs) := fun ⟨_, _, _, e⟩ => by unfold extL at e; cases e
theorem nx_ins {C dx : Addr} {fs : List (Str × V)} : ¬ IsX (.ins C dx fs) := fun ⟨_, _, _, e⟩ => by unfold extL at e; cases e
theorem nx_own {x : Addr} : ¬ IsX (.own x) := fun ⟨_, _, _, e⟩ => by unfold extL at e; cases e
theorem nx_frz {x : Obj} {u : HO} : ¬ IsX (.frz x u) := fun ⟨_, _, _, e⟩ => by unfold extL at e; cases e
/-! ### data in the heap, away from the addresses S -/
def kP : Key → PyData
  | .inl i => .int i
  | .inr x => .str x
mutual
inductive Rep (K : PySem.W.Frag) (S : Addr → Prop) (H : Hp) : V → PyData → Prop
  | non : Rep K S H .non .none
  | bl (b : Bool) : Rep K S H (.bl b) (.bool b)
  | int (i : Int) : Rep K S H (.int i) (.int i)
  | str (x : Str) : Rep K S H (.str x) (.str x)
  | lst {a : Addr} {xs : List V} {ds : List PyData} : H a = some (.lst xs) ∧ ¬ S a → RepAll K S H xs ds → Rep K S H (.ref a) (.list ds)
  | tup {a : Addr} {xs : List V} {ds : List PyData} : H a = some (.tup xs) ∧ ¬ S a → RepAll K S H xs ds → Rep K S H (.ref a) (.tuple ds)
  | dct {a : Addr} {kvs : List (Key × V)} {es : List (PyData × PyData)} : H a = some (.dK kvs) ∧ ¬ S a → RepKV K S H kvs es → Rep K S H (.ref a) (.dict es)
inductive RepAll (K : PySem.W.Frag) (S : Addr → Prop) (H : Hp) : List V → List PyData → Prop
  | nil : RepAll K S H [] []
  | cons {v : V} {vs : List V} {d : PyData} {ds : List PyData} : Rep K S H v d → RepAll K S H vs ds → RepAll K S H (v :: vs) (d :: ds)
inductive RepKV (K : PySem.W.Frag) (S : Addr → Prop) (H : Hp) : List (Key × V) → List (PyData × PyData) → Prop
  | nil : RepKV K S H [] []
  | cons {k : Key} {v : V} {kvs : List (Key × V)} {d : PyData} {es : List (PyData × PyData)} : Rep K S H v d → RepKV K S H kvs es → RepKV K S H ((k, v) :: kvs) ((kP k, d) :: es)
end
section
variable {K : PySem.W.Frag} {S S' : Addr → Prop} {H H' : Hp}
theorem rd_keep {a : Addr} {u : HO} (e : ∀ o, H a = some o → H' a = some o) (h : Rd H a u) : Rd H' a u := by
  rcases h with h | ⟨o, h⟩
  · exact .inl (e _ h)
  · exact .inr ⟨o, e _ h⟩
theorem rd_ne {a : Addr} {u : HO} (h : Rd H a u) : H a ≠ none := by
  rcases h with h | ⟨o, h⟩
  · rw [h]; exact fun z => nomatch z
  · rw [h]; exact fun z => nomatch z
theorem sql_none {a : Addr} {xs : List V} (h : SqL K (fun _ => none) a xs) : SqL K H a xs := by
  rcases h with (h | ⟨o, h⟩) | h
  · cases h
  · cases h
  · exact .inr h
theorem sqt_none {a : Addr} {xs : List V} (h : SqT K (fun _ => none) a xs) : SqT K H a xs := by
  rcases h with (h | ⟨o, h⟩) | h
  · cases h
  · cases h
  · exact .inr h
theorem sql_of {a : Addr} {xs : List V} (h : H a = some (.lst xs) ∧ ¬ S a) : SqL K H a xs := .inl (.inl h.1)
theorem sqt_of {a : Addr} {xs : List V} (h : H a = some (.tup xs) ∧ ¬ S a) : SqT K H a xs := .inl (.inl h.1)
mutual
theorem Rep.keepX (e : ∀ b o, ¬ S b → ¬ IsX o → H b = some o → H' b = some o) (hs : ∀ b, H b ≠ none → S' b → S b) : ∀ (d : PyData) (v : V), Rep K S H v d → Rep K S' H' v d
  | .none, _, h => by cases h; exact .non
  | .bool b, _, h => by cases h; exact .bl b
  | .int i, _, h => by cases h; exact .int i
  | .str x, _, h => by cases h; exact .str x
  | .list ds, _, h => by
    cases h with
    | lst h1 h3 => exact .lst ⟨e _ _ h1.2 nx_lst h1.1, fun y => h1.2 (hs _ (by rw [h1.1]; exact fun z => nomatch z) y)⟩ (RepAll.keepX e hs ds _ h3)
  | .tuple ds, _, h => by
    cases h with
    | tup h1 h3 => exact .tup ⟨e _ _ h1.2 nx_tup h1.1, fun y => h1.2 (hs _ (by rw [h1.1]; exact fun z => nomatch z) y)⟩ (RepAll.keepX e hs ds _ h3)
  | .dict es, _, h => by
    cases h with
    | dct h1 h3 => exact .dct ⟨e _ _ h1.2 nx_dK h1.1, fun y => h1.2 (hs _ (by rw [h1.1]; exact fun z => nomatch z) y)⟩ (RepKV.keepX e hs es _ h3)
theorem RepAll.keepX (e : ∀ b o, ¬ S b → ¬ IsX o → H b = some o → H' b = some o) (hs : ∀ b, H b ≠ none → S' b → S b) : ∀ (ds : List PyData) (vs : List V), RepAll K S H vs ds → RepAll K S' H' vs ds
  | [], _, h => by cases h; exact .nil
  | d :: ds, _, h => by
    cases h with
    | cons h1 h2 => exact .cons (Rep.keepX e hs d _ h1) (RepAll.keepX e hs ds _ h2)
theorem RepKV.keepX (e : ∀ b o, ¬ S b → ¬ IsX o → H b = some o → H' b = some o) (hs : ∀ b, H b ≠ none → S' b → S b) : ∀ (es : List (PyData × PyData)) (vs : List (Key × V)), RepKV K S H vs es → RepKV K S' H' vs es
  | [], _, h => by cases h; exact .nil
  | (p, d) :: es, _, h => by
    cases h with
    | cons h1 h2 => exact .cons (Rep.keepX e hs d _ h1) (RepKV.keepX e hs es _ h2)
end
theorem Rep.keep (e : ∀ b o, ¬ S b → H b = some o → H' b = some o) (hs : ∀ b, H b ≠ none → S' b → S b) (d : PyData) (v : V) (r : Rep K S H v d) : Rep K S' H' v d := Rep.keepX (fun b o n _ q => e b o n q) hs d v r
theorem RepAll.keep (e : ∀ b o, ¬ S b → H b = some o → H' b = some o) (hs : ∀ b, H b ≠ none → S' b → S b) (d : List PyData) (v : List V) (r : RepAll K S H v d) : RepAll K S' H' v d := RepAll.keepX (fun b o n _ q => e b o n q) hs d v r
mutual
theorem Rep.dp : ∀ (d : PyData) (v : V), Rep K S H v d → d.hasDict = false → Dp K H v d
  | .none, _, h, _ => by cases h; exact .non
  | .bool b, _, h, _ => by cases h; exact .bl b
  | .int i, _, h, _ => by cases h; exact .int i
  | .str x, _, h, _ => by cases h; exact .str x
  | .list ds, _, h, n => by
    cases h with
    | lst h1 h3 => exact .lst (sql_of h1) (RepAll.dp ds _ h3 (by simpa only [PyData.hasDict] using n))
  | .tuple ds, _, h, n => by
    cases h with
    | tup h1 h3 => exact .tup (sqt_of h1) (RepAll.dp ds _ h3 (by simpa only [PyData.hasDict] using n))
  | .dict _, _, h, n => by simp [PyData.hasDict] at n
theorem RepAll.dp : ∀ (ds : List PyData) (vs : List V), RepAll K S H vs ds → PyData.hasDictAll ds = false → DpAll K H vs ds
  | [], _, h, _ => by cases h; exact .nil
  | d :: ds, _, h, n => by
    rw [PyData.hasDictAll, Bool.or_eq_false_iff] at n
    cases h with
    | cons h1 h2 => exact .cons (Rep.dp d _ h1 n.1) (RepAll.dp ds _ h2 n.2)
end
mutual
theorem nodict_of : ∀ d : PyData, d.canLay0 = true → d.hasDict = false
  | .none, _ => by simp only [PyData.hasDict]
  | .bool _, _ => by simp only [PyData.hasDict]
  | .int _, _ => by simp only [PyData.hasDict]
  | .str _, _ => by simp only [PyData.hasDict]
  | .list ds, h => by rw [PyData.hasDict]; exact nodictAll_of ds (by simpa only [PyData.canLay0] using h)
  | .tuple ds, h => by rw [PyData.hasDict]; exact nodictAll_of ds (by simpa only [PyData.canLay0] using h)
  | .dict _, h => by simp [PyData.canLay0] at h
theorem nodictAll_of : ∀ ds : List PyData, PyData.canLayAll0 ds = true → PyData.hasDictAll ds = false
  | [], _ => by simp only [PyData.hasDictAll]
  | d :: ds, h => by
    rw [PyData.canLayAll0, Bool.and_eq_true] at h
    rw [PyData.hasDictAll, nodict_of d h.1, nodictAll_of ds h.2]; rfl
end
theorem nodict_sh {d : PyData} (h : SeqAt.shaped d = true) : d.hasDict = false := nodict_of d (Bool.and_eq_true_iff.mp h).1
theorem RepAll.length : ∀ {ds : List PyData} {vs : List V}, RepAll K S H vs ds → vs.length = ds.length
  | [], _, h => by cases h; rfl
  | d :: ds, _, h => by
    cases h with
    | cons h1 h2 => rw [List.length_cons, List.length_cons, RepAll.length h2]
theorem RepAll.get : ∀ {ds : List PyData} {vs : List V} {i : Nat} {d : PyData}, RepAll K S H vs ds → ds[i]? = some d → ∃ v, vs[i]? = some v ∧ Rep K S H v d
  | _ :: _, _, 0, _, h, e => by
    cases h with
    | cons h1 h2 => cases e; exact ⟨_, rfl, h1⟩
  | _ :: ds, _, i + 1, d, h, e => by
    cases h with
    | cons h1 h2 =>
      obtain ⟨v, q, r⟩ := RepAll.get (i := i) (d := d) h2 (by simpa using e)
      exact ⟨v, by simpa using q, r⟩
  | [], _, i, _, _, e => by simp at e
theorem RepAll.got : ∀ {ds : List PyData} {vs : List V} {i : Nat} {v : V}, RepAll K S H vs ds → vs[i]? = some v → ∃ d, ds[i]? = some d ∧ Rep K S H v d
  | _ :: _, _, 0, _, h, e => by
    cases h with
    | cons h1 h2 => cases e; exact ⟨_, rfl, h1⟩
  | _ :: ds, _, i + 1, d, h, e => by
    cases h with
    | cons h1 h2 =>
      obtain ⟨v, q, r⟩ := RepAll.got (i := i) h2 (by simpa using e)
      exact ⟨v, by simpa using q, r⟩
  | [], _, i, _, h, e => by cases h; simp at e
theorem RepAll.append : ∀ {ds es : List PyData} {vs ws : List V}, RepAll K S H vs ds → RepAll K S H ws es → RepAll K S H (vs ++ ws) (ds ++ es)
  | [], _, _, _, h, h' => by cases h; exact h'
  | d :: ds, _, _, _, h, h' => by
    cases h with
    | cons h1 h2 => exact .cons h1 (RepAll.append h2 h')
theorem RepAll.take (n : Nat) : ∀ {ds : List PyData} {vs : List V}, RepAll K S H vs ds → RepAll K S H (vs.take n) (ds.take n) := by
  induction n with
  | zero => intro _ _ _; simp; exact .nil
  | succ n ih =>
    intro ds vs h
    cases h with
    | nil => exact .nil
    | cons h1 h2 => exact .cons h1 (ih h2)
theorem RepAll.drop (n : Nat) : ∀ {ds : List PyData} {vs : List V}, RepAll K S H vs ds → RepAll K S H (vs.drop n) (ds.drop n) := by
  induction n with
  | zero => intro _ _ h; exact h
  | succ n ih =>
    intro ds vs h
    cases h with
    | nil => exact .nil
    | cons h1 h2 => exact ih h2
theorem RepAll.ints : ∀ {ns : List Int} {vs : List V}, RepAll K S H vs (ns.map PyData.int) → vs = ns.map V.int
  | [], _, h => by cases h; rfl
  | n :: ns, _, h => by
    cases h with
    | cons h1 h2 => cases h1; rw [RepAll.ints h2]; rfl
theorem RepAll.of_ints : ∀ (ns : List Int), RepAll K S H (ns.map V.int) (ns.map PyData.int)
  | [] => .nil
  | n :: ns => .cons (.int n) (RepAll.of_ints ns)
theorem RepAll.of_get : ∀ {ds : List PyData} {vs : List V}, vs.length = ds.length → (∀ (i : Nat) (v : V) (d : PyData), vs[i]? = some v → ds[i]? = some d → Rep K S H v d) → RepAll K S H vs ds
  | [], [], _, _ => .nil
  | d :: ds, v :: vs, e, h => .cons (h 0 v d rfl rfl) (RepAll.of_get (by simpa using e) fun i v d h1 h2 => h (i + 1) v d (by simpa using h1) (by simpa using h2))
  | [], _ :: _, e, _ => by simp at e
  | _ :: _, [], e, _ => by simp at e
end
end Dl

namespace Dl
open PySem PySem.Spec PyProof.Rows L2

/-- what stands, and is no tuple -/
def Lv (H : Hp) (b : Addr) : Prop := ∃ o, H b = some o ∧ ∀ xs, o ≠ .tup xs
theorem Lv.ne {H : Hp} {b : Addr} (h : Lv H b) : H b ≠ none := by obtain ⟨o, e, _⟩ := h; rw [e]; exact fun z => nomatch z
theorem lv_lst {H : Hp} {b : Addr} {xs : List V} (h : H b = some (.lst xs)) : Lv H b := ⟨_, h, fun _ z => nomatch z⟩
theorem lv_dK {H : Hp} {b : Addr} {xs : List (Key × V)} (h : H b = some (.dK xs)) : Lv H b := ⟨_, h, fun _ z => nomatch z⟩
theorem lv_ext {H : Hp} {b : Addr} {φ : Heap → Prop} (h : H b = some (.ext φ)) : Lv H b := ⟨_, h, fun _ z => nomatch z⟩
theorem Lv.keep {H H' : Hp} {b : Addr} (h : Lv H b) (k : ∀ o, H b = some o → H' b = some o) : Lv H' b := by obtain ⟨o, e, n⟩ := h; exact ⟨o, k o e, n⟩

/-! ### the frame of a run: K the written part; S what data avoid; M what calls may change; H0 the heap at the entry; G what is known of M, with k draws left -/
structure Fm where
  K : PySem.W.Frag
  S : Addr → Prop
  M : Addr → Prop
  H0 : Hp
  G : Nat → Hp → Prop
  ms : ∀ b, M b → S b
  gm : ∀ k H H', G k H → (∀ b, M b → H' b = H b) → (∀ b o, (IsX o ∨ ∃ xs, o = .tup xs) → H b = some o → H' b = some o) → G k H'
  gl : ∀ k H, G k H → ∀ b, M b → H b ≠ none
  X : HO → Prop := fun _ => False
  xi : ∀ o, X o → IsX o := by exact fun _ h => h.elim
  xa : ∀ k H, G k H → ∀ b o, ¬ M b → X o → H0 b = some o → ∃ o', IsX o' ∧ H b = some o' := by exact fun _ _ _ _ _ _ h => h.elim
def Fm.Mx (F : Fm) (b : Addr) (o : HO) : Prop := F.M b ∨ F.X o
def Fm.Sx (F : Fm) (b : Addr) (o : HO) : Prop := F.S b ∨ F.X o
theorem Fm.mx {F : Fm} {b : Addr} {o : HO} (h : ¬ F.M b) (x : ¬ IsX o) : ¬ F.Mx b o := fun z => z.elim h fun y => x (F.xi _ y)
theorem Fm.sxA {F : Fm} {b : Addr} {o : HO} (h : ¬ F.S b) (x : ¬ IsX o := by first | exact nx_lst | exact nx_tup | exact nx_dK | exact nx_set) : ¬ F.Sx b o := fun z => z.elim h fun y => x (F.xi _ y)
theorem Fm.mxA {F : Fm} {b : Addr} {o : HO} (h : ¬ F.M b) (x : ¬ IsX o := by first | exact nx_lst | exact nx_tup | exact nx_dK | exact nx_set) : ¬ F.Mx b o := fun z => z.elim h fun y => x (F.xi _ y)
theorem lv_new {H : Hp} {p : Addr} {o : HO} (h : ∀ xs, o ≠ .tup xs) : Lv (upd H p o) p := ⟨o, upd_same, h⟩
theorem Fm.mxL {F : Fm} {b : Addr} {xs : List V} (h : ¬ F.M b) : ¬ F.Mx b (.lst xs) := Fm.mx h nx_lst
structure J (F : Fm) (k : Nat) (H : Hp) : Prop where
  g : F.G k H
  le : ∀ b o, ¬ F.Mx b o → F.H0 b = some o → H b = some o
  al : ∀ b, F.S b → Lv H b
def Le (F : Fm) (H H' : Hp) : Prop := ∀ b o, ¬ F.Mx b o → H b = some o → H' b = some o
def Lz (F : Fm) (H H' : Hp) : Prop := ∀ b o, ¬ F.Sx b o → H b = some o → H' b = some o
abbrev Rp (F : Fm) (H : Hp) (v : V) (d : PyData) : Prop := Rep F.K F.S H v d
abbrev RpAll (F : Fm) (H : Hp) (vs : List V) (ds : List PyData) : Prop := RepAll F.K F.S H vs ds
section
variable {F : Fm} {H H1 H2 : Hp} {k : Nat}
theorem Le.refl : Le F H H := fun _ _ _ h => h
theorem Le.trans (a : Le F H H1) (b : Le F H1 H2) : Le F H H2 := fun x o n h => b x o n (a x o n h)
theorem Lz.refl : Lz F H H := fun _ _ _ h => h
theorem Lz.trans (a : Lz F H H1) (b : Lz F H1 H2) : Lz F H H2 := fun x o n h => b x o n (a x o n h)
theorem Le.lz (a : Le F H H1) : Lz F H H1 := fun b o n h => a b o (fun z => n (z.imp (F.ms b) id)) h
theorem Le.new {p : Addr} {o : HO} (hp : H p = none) : Le F H (upd H p o) := fun b u _ e => by
  rw [upd_ne (ne_of_none e hp)]; exact e
theorem Rep.le {v : V} {d : PyData} (r : Rp F H v d) (a : Lz F H H1) : Rp F H1 v d := Rep.keepX (fun b o n hp e => a b o (fun z => z.elim n fun y => hp (F.xi _ y)) e) (fun _ _ z => z) d v r
theorem RepAll.le {v : List V} {d : List PyData} (r : RpAll F H v d) (a : Lz F H H1) : RpAll F H1 v d := RepAll.keepX (fun b o n hp e => a b o (fun z => z.elim n fun y => hp (F.xi _ y)) e) (fun _ _ z => z) d v r
theorem J.new {p : Addr} {o : HO} (j : J F k H) (hp : H p = none) : J F k (upd H p o) where
  g := F.gm k H _ j.g (fun b hb => upd_ne fun e => F.gl k H j.g b hb (e ▸ hp)) fun b u _ e => by rw [upd_ne (ne_of_none e hp)]; exact e
  le := fun b u hb e => by
    have q := j.le b u hb e
    rw [upd_ne (ne_of_none q hp)]; exact q
  al := fun b hb => (j.al b hb).keep fun u e => by rw [upd_ne (ne_of_none e hp)]; exact e
theorem J.h0 {p : Addr} (j : J F k H) (hm : ¬ F.M p) (hp : H p = none) : F.H0 p = none := by
  cases e : F.H0 p with
  | none => rfl
  | some u =>
    by_cases x : F.X u
    · obtain ⟨o', _, q⟩ := F.xa k H j.g p u hm x e
      rw [hp] at q; cases q
    · rw [j.le p u (fun z => z.elim hm x) e] at hp; cases hp
theorem J.fresh {p : Addr} (j : J F k H) (hp : H p = none) : ¬ F.S p := fun z => (j.al p z).ne hp
/-- what is neither a tuple nor known to its owner alone -/
def Pl (H : Hp) (p : Addr) : Prop := ∀ u, H p = some u → ¬ (IsX u ∨ ∃ xs, u = .tup xs)
theorem pl_lst {H : Hp} {p : Addr} {xs : List V} (h : H p = some (.lst xs)) : Pl H p := fun u e => by
  rw [h] at e; cases e; exact fun z => z.elim nx_lst fun ⟨_, q⟩ => nomatch q
theorem pl_set {H : Hp} {p : Addr} {w : World} {D : Addr} {S : Int → Bool} {c : Nat} (h : H p = some (SetO w D S c)) : Pl H p := fun u e => by
  rw [h] at e; cases e; exact fun z => z.elim nx_set fun ⟨_, q⟩ => nomatch q
theorem pl_dK {H : Hp} {p : Addr} {xs : List (Key × V)} (h : H p = some (.dK xs)) : Pl H p := fun u e => by
  rw [h] at e; cases e; exact fun z => z.elim nx_dK fun ⟨_, q⟩ => nomatch q
theorem J.own {p : Addr} {o : HO} (j : J F k H) (hm : ¬ F.M p) (h0 : F.H0 p = none) (hp : Pl H p) (ho : ∀ xs, o ≠ .tup xs := by exact fun _ z => nomatch z) : J F k (upd H p o) where
  g := F.gm k H _ j.g (fun b hb => upd_ne fun e => hm (e ▸ hb)) fun b u hu e => by
    rw [upd_ne (show b ≠ p from fun z => hp u (z ▸ e) hu)]; exact e
  le := fun b u hb e => by
    rw [upd_ne (ne_of_none e h0)]; exact j.le b u hb e
  al := fun b hb => by
    by_cases e : b = p
    · rw [e]; exact ⟨o, upd_same, ho⟩
    · exact (j.al b hb).keep fun u q => by rw [upd_ne e]; exact q
theorem rep_newL {p : Addr} {vs : List V} {ds : List PyData} (j : J F k H) (hp : H p = none) (r : RpAll F H vs ds) : Rp F (upd H p (.lst vs)) (.ref p) (.list ds) :=
  .lst ⟨upd_same, j.fresh hp⟩ (r.le (Le.new hp).lz)
theorem rep_newT {p : Addr} {vs : List V} {ds : List PyData} (j : J F k H) (hp : H p = none) (r : RpAll F H vs ds) : Rp F (upd H p (.tup vs)) (.ref p) (.tuple ds) :=
  .tup ⟨upd_same, j.fresh hp⟩ (r.le (Le.new hp).lz)
end

/-! ### slots -/
inductive SV where
  | un
  | d (x : PyData)
  | raw (v : V)
  | own (o : Addr) (xs : List PyData)
def SlotOk (F : Fm) (H : Hp) : SV → Option V → Prop
  | .un, _ => True
  | .d d, x => ∃ v, x = some v ∧ Rp F H v d
  | .raw v, x => x = some v
  | .own o xs, x => x = some (.ref o) ∧ F.S o ∧ ¬ F.M o ∧ F.H0 o = none ∧ ∃ vs, H o = some (.lst vs) ∧ RpAll F H vs xs
abbrev Rho := List SV
def EnvOk (F : Fm) (H : Hp) (σ : L2.St) (ρ : Rho) : Prop := ∀ (i : Nat) (sv : SV), ρ[i]? = some sv → ∃ x, σ[i]? = some x ∧ SlotOk F H sv x
section
variable {F : Fm} {H H1 H2 : Hp} {k : Nat} {σ : L2.St} {ρ : Rho}
theorem SlotOk.le {sv : SV} {x : Option V} (h : SlotOk F H sv x) (a : Le F H H1) : SlotOk F H1 sv x := by
  cases sv with
  | un => trivial
  | d d => obtain ⟨v, e, r⟩ := h; exact ⟨v, e, r.le a.lz⟩
  | raw v => exact h
  | own o xs =>
    obtain ⟨e, s, m, z, vs, h1, r⟩ := h
    exact ⟨e, s, m, z, vs, a o _ (Fm.mxL m) h1, r.le a.lz⟩
theorem EnvOk.le (h : EnvOk F H σ ρ) (a : Le F H H1) : EnvOk F H1 σ ρ := fun i sv e => by
  obtain ⟨x, q, r⟩ := h i sv e
  exact ⟨x, q, r.le a⟩
theorem EnvOk.set {i : Nat} {sv : SV} {x : Option V} (h : EnvOk F H σ ρ) (s : SlotOk F H sv x) : EnvOk F H (σ.set i x) (ρ.set i sv) := fun j tv e => by
  by_cases hj : i = j
  · subst hj
    by_cases hl : i < ρ.length
    · rw [List.getElem?_set_self hl] at e
      cases e
      obtain ⟨y, q, _⟩ := h i _ (List.getElem?_eq_getElem hl)
      obtain ⟨hl', _⟩ := List.getElem?_eq_some_iff.mp q
      exact ⟨x, List.getElem?_set_self hl', s⟩
    · rw [List.getElem?_eq_none (by simpa using hl)] at e; cases e
  · rw [List.getElem?_set_ne hj] at e
    obtain ⟨y, q, r⟩ := h j tv e
    exact ⟨y, by rw [List.getElem?_set_ne hj]; exact q, r⟩
theorem EnvOk.d {i : Nat} {d : PyData} (h : EnvOk F H σ ρ) (e : ρ[i]? = some (.d d)) : ∃ v, σ[i]? = some (some v) ∧ Rp F H v d := by
  obtain ⟨x, q, v, rfl, r⟩ := h i _ e
  exact ⟨v, q, r⟩
theorem EnvOk.raw {i : Nat} {v : V} (h : EnvOk F H σ ρ) (e : ρ[i]? = some (.raw v)) : σ[i]? = some (some v) := by
  obtain ⟨x, q, r⟩ := h i _ e
  rw [q, show x = some v from r]
end

/-! ### runs of readings on data -/
def WE (F : Fm) (t : TE) (ρ : Rho) (k : Nat) (Φ : Nat → PyData → Prop) : Prop :=
  ∀ (σ : L2.St) (H : Hp) (Q : VK), EnvOk F H σ ρ → J F k H → (∀ v d k' H', Le F H H' → J F k' H' → Rp F H' v d → Φ k' d → Q v H') → t σ H Q
def WA (F : Fm) (t : TA) (ρ : Rho) (k : Nat) (Φ : Nat → List PyData → Prop) : Prop :=
  ∀ (σ : L2.St) (H : Hp) (Q : List V → Hp → Prop), EnvOk F H σ ρ → J F k H → (∀ vs ds k' H', Le F H H' → J F k' H' → RpAll F H' vs ds → Φ k' ds → Q vs H') → t σ H Q
def WT (F : Fm) (t : TT) (ρ : Rho) (k : Nat) (Φ : Nat → Bool → Prop) : Prop :=
  ∀ (σ : L2.St) (H : Hp) (Q : Bool → Hp → Prop), EnvOk F H σ ρ → J F k H → (∀ b k' H', Le F H H' → J F k' H' → Φ k' b → Q b H') → t σ H Q
structure DE where
  nx : Nat → Rho → Prop
  rt : Nat → PyData → Prop
  bk : Nat → Rho → Prop
  ct : Nat → Rho → Prop
def WS (F : Fm) (t : TS) (ρ : Rho) (k : Nat) (P : DE) : Prop :=
  ∀ (σ : L2.St) (H : Hp) (E : Ends), EnvOk F H σ ρ → J F k H →
    (∀ ρ' σ' k' H', Lz F H H' → EnvOk F H' σ' ρ' → J F k' H' → P.nx k' ρ' → E.nx σ' H') →
    (∀ v d k' H', J F k' H' → Rp F H' v d → P.rt k' d → E.rt v H') →
    (∀ ρ' σ' k' H', Lz F H H' → EnvOk F H' σ' ρ' → J F k' H' → P.bk k' ρ' → E.bk σ' H') →
    (∀ ρ' σ' k' H', Lz F H H' → EnvOk F H' σ' ρ' → J F k' H' → P.ct k' ρ' → E.ct σ' H') → t E σ H
/-- an operation on two data; on a list of data -/
def RD (F : Fm) (r : R2) (x y : PyData) (k : Nat) (Φ : Nat → PyData → Prop) : Prop :=
  ∀ (H : Hp) (vx vy : V) (Q : VK), J F k H → Rp F H vx x → Rp F H vy y → (∀ v d k' H', Le F H H' → J F k' H' → Rp F H' v d → Φ k' d → Q v H') → r vx vy H Q
def RA (F : Fm) (r : List V → Hp → VK → Prop) (ds : List PyData) (k : Nat) (Φ : Nat → PyData → Prop) : Prop :=
  ∀ (H : Hp) (vs : List V) (Q : VK), J F k H → RpAll F H vs ds → (∀ v d k' H', Le F H H' → J F k' H' → Rp F H' v d → Φ k' d → Q v H') → r vs H Q

/-! ### where the text stands -/
structure Cs where
  P : Program
  w : World
  K : PySem.W.Frag
  mg : Str → Option Value
  base : Heap
  N : List Str
  sc : Scope
  fn : Str → Bool
  lvl : Nat
structure Fits (C : Cs) (X : Cx) : Prop where
  P : X.prog = C.P
  w : X.w = C.w
  K : X.K = C.K
  mg : X.mg = C.mg
  base : X.base = C.base
  N : X.N = C.N
  sc : X.env.scope = C.sc
  fn : X.fn = C.fn
  calm : X.calm = true
  room : Room C.lvl X.A
  xe : X.xe = fun _ _ => False
  gd : X.A.guards = some []
abbrev Cs.blk (C : Cs) (scope : Scope) : Cs := { C with sc := relS scope C.sc, fn := fun x => scope.names.lookup x == some .cell }
theorem Fits.blk {C : Cs} {X : Cx} (f : Fits C X) (s : Shared) (H : Hp) (scope : Scope) (a : Addr) (cl : List (Str × Addr)) (fp : List Addr) : Fits (C.blk scope) (X.blk s H scope (compEnvC scope cl a X.env) fp) :=
  ⟨f.P, f.w, f.K, f.mg, f.base, f.N, by show relS scope X.env.scope = _; rw [f.sc], rfl, f.calm, f.room, rfl, f.gd⟩

/-- the widest readings -/
def tE (C : Cs) (e : Expr) : TE := fun σ H Q => ∀ X, Fits C X → ∀ pins s, Inv X pins σ H s → wpAny (model X.prog X.w) X.A (eval e X.env) (EP X pins σ Q) X.xe s
def tT (C : Cs) (e : Expr) : TT := fun σ H Q => ∀ X, Fits C X → ∀ pins s, Inv X pins σ H s → wpAny (model X.prog X.w) X.A (isTrue e X.env (eval e X.env)) (TP X pins σ Q) X.xe s
def tW (C : Cs) (e : Expr) : TT := fun σ H Q => ∀ X, Fits C X → ∀ (whole : Sem Value) pins s, Inv X pins σ H s → wpAny (model X.prog X.w) X.A (isTrue e X.env whole) (TP X pins σ Q) X.xe s
def tA (C : Cs) (es : List Expr) : TA := fun σ H Q => ∀ X, Fits C X → ∀ (pos : Pos) pins s, Inv X pins σ H s → wpAny (model X.prog X.w) X.A (spliced (backTo pos (starEach es X.env))) (AP X pins σ Q) X.xe s
def tS (C : Cs) (st : Stmt) : TS := fun D σ H => ∀ X, Fits C X → ∀ pins s, Inv X pins σ H s → wpAny (model X.prog X.w) X.A (exec st X.env) (SP X pins D) X.xe s
def tB (C : Cs) (st : List Stmt) : TS := fun D σ H => ∀ X, Fits C X → ∀ pins s, Inv X pins σ H s → wpAny (model X.prog X.w) X.A (execs st X.env) (SP X pins D) X.xe s
section
variable {C : Cs} {X : Cx}
theorem peE (f : Fits C X) {e : Expr} : PE X e (tE C e) := ⟨fun pins s σ H Q I h => h X f pins s I⟩
theorem ptT (f : Fits C X) {e : Expr} : PT X e (tT C e) := ⟨fun pins s σ H Q I h => h X f pins s I⟩
theorem pwW (f : Fits C X) {e : Expr} : PW X e (tW C e) := ⟨fun wh pins s σ H Q I h => h X f wh pins s I⟩
theorem paA (f : Fits C X) {es : List Expr} : PA X es (tA C es) := ⟨fun pos pins s σ H Q I h => h X f pos pins s I⟩
theorem psS (f : Fits C X) {st : Stmt} : PS X st (tS C st) := ⟨fun pins s σ H D I h => h X f pins s I⟩
theorem pbB (f : Fits C X) {st : List Stmt} : PSs X st (tB C st) := ⟨fun pins s σ H D I h => h X f pins s I⟩
end
abbrev WPE (F : Fm) (C : Cs) (e : Expr) (ρ : Rho) (k : Nat) (Φ : Nat → PyData → Prop) : Prop := WE F (tE C e) ρ k Φ
abbrev WPT (F : Fm) (C : Cs) (e : Expr) (ρ : Rho) (k : Nat) (Φ : Nat → Bool → Prop) : Prop := WT F (tT C e) ρ k Φ
abbrev WPW (F : Fm) (C : Cs) (e : Expr) (ρ : Rho) (k : Nat) (Φ : Nat → Bool → Prop) : Prop := WT F (tW C e) ρ k Φ
abbrev WPA (F : Fm) (C : Cs) (es : List Expr) (ρ : Rho) (k : Nat) (Φ : Nat → List PyData → Prop) : Prop := WA F (tA C es) ρ k Φ
abbrev WPS (F : Fm) (C : Cs) (st : Stmt) (ρ : Rho) (k : Nat) (P : DE) : Prop := WS F (tS C st) ρ k P
abbrev WPB (F : Fm) (C : Cs) (st : List Stmt) (ρ : Rho) (k : Nat) (P : DE) : Prop := WS F (tB C st) ρ k P

section
variable {F : Fm} {C : Cs} {ρ : Rho} {k : Nat} {Φ Φ' : Nat → PyData → Prop} {Ψ Ψ' : Nat → Bool → Prop} {e a b : Expr} {es : List Expr} {pos : Pos} {P : DE}
theorem of_pe {t : TE} (h : ∀ X, Fits C X → PE X e t) (hw : WE F t ρ k Φ) : WPE F C e ρ k Φ := fun σ H Q en j q X fx pins s I => (h X fx).run pins s σ H Q I (hw σ H Q en j q)
theorem of_pt {t : TT} (h : ∀ X, Fits C X → PT X e t) (hw : WT F t ρ k Ψ) : WPT F C e ρ k Ψ := fun σ H Q en j q X fx pins s I => (h X fx).run pins s σ H Q I (hw σ H Q en j q)
theorem of_pw {t : TT} (h : ∀ X, Fits C X → PW X e t) (hw : WT F t ρ k Ψ) : WPW F C e ρ k Ψ := fun σ H Q en j q X fx wh pins s I => (h X fx).run wh pins s σ H Q I (hw σ H Q en j q)
theorem of_pa {t : TA} {Φ : Nat → List PyData → Prop} (h : ∀ X, Fits C X → PA X es t) (hw : WA F t ρ k Φ) : WPA F C es ρ k Φ := fun σ H Q en j q X fx pos pins s I => (h X fx).run pos pins s σ H Q I (hw σ H Q en j q)
theorem of_ps {t : TS} {st : Stmt} (h : ∀ X, Fits C X → PS X st t) (hw : WS F t ρ k P) : WPS F C st ρ k P := fun σ H E en j q1 q2 q3 q4 X fx pins s I => (h X fx).run pins s σ H E I (hw σ H E en j q1 q2 q3 q4)
theorem of_pb {t : TS} {st : List Stmt} (h : ∀ X, Fits C X → PSs X st t) (hw : WS F t ρ k P) : WPB F C st ρ k P := fun σ H E en j q1 q2 q3 q4 X fx pins s I => (h X fx).run pins s σ H E I (hw σ H E en j q1 q2 q3 q4)
theorem WE.imp {t : TE} (h : WE F t ρ k Φ) (i : ∀ k' d, Φ k' d → Φ' k' d) : WE F t ρ k Φ' := fun σ H Q en j q => h σ H Q en j fun v d k' H' l j' r p => q v d k' H' l j' r (i k' d p)
theorem WT.imp {t : TT} (h : WT F t ρ k Ψ) (i : ∀ k' d, Ψ k' d → Ψ' k' d) : WT F t ρ k Ψ' := fun σ H Q en j q => h σ H Q en j fun b k' H' l j' p => q b k' H' l j' (i k' b p)

/-! ### names and constants -/
theorem we_name (i : Nat) {x : Str} {d : PyData} (hN : C.N[i]? = some x) (hv : Vis C.sc x) (hr : ρ[i]? = some (.d d)) (h : Φ k d) (hd : (x == ("__debug__" : Str)) = false := by decide) (hcd : (x == ("__classdict__" : Str)) = false := by decide) : WPE F C (.Name x pos) ρ k Φ :=
  of_pe (t := tVar i) (fun X fx => pe_var (by rw [fx.N]; exact hN) (by rw [fx.sc]; exact hv) hd hcd) fun σ H Q en j q => by
    obtain ⟨v, e, r⟩ := en.d hr
    exact ⟨v, e, q v d k H .refl j r h⟩
theorem we_int {i : Int} {jj : Nat} (h : Φ k (.int i)) : WPE F C (.Constant (.int i) jj pos) ρ k Φ := of_pe (fun X _ => pe_int) fun σ H Q en j q => q _ _ k H .refl j (.int i) h
theorem we_bl {i : Bool} {jj : Nat} (h : Φ k (.bool i)) : WPE F C (.Constant (.bool i) jj pos) ρ k Φ := of_pe (fun X _ => pe_bl) fun σ H Q en j q => q _ _ k H .refl j (.bl i) h
theorem we_str {i : Str} {jj : Nat} (h : Φ k (.str i)) : WPE F C (.Constant (.str i) jj pos) ρ k Φ := of_pe (fun X _ => pe_str) fun σ H Q en j q => q _ _ k H .refl j (.str i) h
theorem we_non {jj : Nat} (h : Φ k .none) : WPE F C (.Constant .none jj pos) ρ k Φ := of_pe (fun X _ => pe_non) fun σ H Q en j q => q _ _ k H .refl j .non h
theorem we_gint {x : Str} {n : Int} {t : Tok} (hg : C.sc.names.lookup x = some .globalImplicit) (hm : C.mg x = some (.int n t)) (h : Φ k (.int n)) (hd : (x == ("__debug__" : Str)) = false := by decide) : WPE F C (.Name x pos) ρ k Φ :=
  of_pe (fun X fx => pe_glob (v := .int n) (u := .int n t) (by show X.env.scope.names.lookup x = _; rw [fx.sc]; exact hg) (by rw [fx.mg]; exact hm) ⟨t, rfl⟩ hd) fun σ H Q en j q => q _ _ k H .refl j (.int n) h

/-! ### operations -/
theorem we_op {r : R2} {ta tb : TE} (h : WE F ta ρ k fun k1 x => WE F tb ρ k1 fun k2 y => RD F r x y k2 Φ) : WE F (tOp r ta tb) ρ k Φ := fun σ H Q en j q =>
  h σ H _ en j fun vx x k1 H1 l1 j1 r1 hx => hx σ H1 _ (en.le l1) j1 fun vy y k2 H2 l2 j2 r2 hy => hy H2 vx vy Q j2 (r1.le l2.lz) r2 fun v d k' H' l' j' r' p => q v d k' H' ((l1.trans l2).trans l') j' r' p
theorem we_bin {op : Operator} {r : R2} (ho : ∀ X, Fits C X → OpR X (binaryOp op) r) (h : WPE F C a ρ k fun k1 x => WPE F C b ρ k1 fun k2 y => RD F r x y k2 Φ) : WPE F C (.BinOp a op b pos) ρ k Φ :=
  of_pe (fun X fx => pe_op (ho X fx) (peE fx) (peE fx)) (we_op h)
theorem we_cmp {op : CmpOp} {r : R2} (ho : ∀ X, Fits C X → OpR X (compareOp op) r) (hm : behindInMarks op b = false) (h : WPE F C a ρ k fun k1 x => WPE F C b ρ k1 fun k2 y => RD F r x y k2 Φ) : WPE F C (.Compare a [op] [b] pos) ρ k Φ :=
  of_pe (fun X fx => pe_cmpR (ho X fx) (peE fx) (peE fx) hm) (we_op h)
theorem wt_test {t : TE} (h : WE F t ρ k fun k1 d => ∃ b, d = .bool b ∧ Ψ k1 b) : WT F (tTest t) ρ k Ψ := fun σ H Q en j q => h σ H _ en j fun v d k' H' l j' r ⟨b, e, p⟩ => by
  subst e; cases r; exact ⟨b, rfl, q b k' H' l j' p⟩
theorem wt_cmp {op : CmpOp} {r : R2} (ho : ∀ X, Fits C X → OpR X (compareOp op) r) (hm : behindInMarks op b = false) (h : WPE F C a ρ k fun k1 x => WPE F C b ρ k1 fun k2 y => RD F r x y k2 fun k3 d => ∃ b, d = .bool b ∧ Ψ k3 b) : WPT F C (.Compare a [op] [b] pos) ρ k Ψ :=
  of_pt (fun X fx => pt_cmpR (ho X fx) (peE fx) (peE fx) hm) (wt_test (we_op h))
/-- an expression whose value is a bool, as a test -/
theorem wt_val (he : ∀ (env : Env) (whole : Sem Value), isTrue e env whole = (do let v ← whole; standAt e.pos; holding [v] (truthy v))) (h : WPE F C e ρ k fun k1 d => ∃ b, d = .bool b ∧ Ψ k1 b) : WPT F C e ρ k Ψ :=
  of_pt (fun X fx => pt_val (peE fx) (he X.env)) fun σ H Q en j q => h σ H _ en j fun v d k' H' l j' r ⟨b, e, p⟩ => by
    subst e; cases r; exact ⟨b, rfl, q b k' H' l j' p⟩
theorem wt_not (h : WPT F C a ρ k fun k1 b => Ψ k1 (!b)) : WPT F C (.UnaryOp .Not a pos) ρ k Ψ :=
  of_pt (fun X fx => pt_not (ptT fx)) fun σ H Q en j q => h σ H _ en j fun b k' H' l j' p => q (!b) k' H' l j' p
theorem we_not (h : WPE F C a ρ k fun k1 d => ∃ b, d = .bool b ∧ Φ k1 (.bool (!b))) : WPE F C (.UnaryOp .Not a pos) ρ k Φ :=
  of_pe (fun X fx => pe_not (peE fx)) fun σ H Q en j q => h σ H _ en j fun v d k' H' l j' r ⟨b, e, p⟩ => by
    subst e; cases r; exact ⟨b, rfl, q _ _ k' H' l j' (.bl _) p⟩
/-- and, or as tests -/
theorem ww_and {rest : List Expr} (h : WPT F C a ρ k fun k1 c => if c = true then WPW F C (.BoolOp .And (b :: rest) pos) ρ k1 Ψ else Ψ k1 false) : WPW F C (.BoolOp .And (a :: b :: rest) pos) ρ k Ψ :=
  of_pw (fun X fx => pw_and (ptT fx) (pwW fx)) fun σ H Q en j q => h σ H _ en j fun c k1 H1 l1 j1 p => by
    cases c with
    | true => exact p σ H1 Q (en.le l1) j1 fun b k' H' l j' p' => q b k' H' (l1.trans l) j' p'
    | false => exact q false k1 H1 l1 j1 p
theorem ww_or {rest : List Expr} (h : WPT F C a ρ k fun k1 c => if c = true then Ψ k1 true else WPW F C (.BoolOp .Or (b :: rest) pos) ρ k1 Ψ) : WPW F C (.BoolOp .Or (a :: b :: rest) pos) ρ k Ψ :=
  of_pw (fun X fx => pw_or (ptT fx) (pwW fx)) fun σ H Q en j q => h σ H _ en j fun c k1 H1 l1 j1 p => by
    cases c with
    | false => exact p σ H1 Q (en.le l1) j1 fun b k' H' l j' p' => q b k' H' (l1.trans l) j' p'
    | true => exact q true k1 H1 l1 j1 p
theorem ww_and1 (h : WPT F C a ρ k Ψ) : WPW F C (.BoolOp .And [a] pos) ρ k Ψ := of_pw (fun X fx => pw_and1 (ptT fx)) h
theorem ww_or1 (h : WPT F C a ρ k Ψ) : WPW F C (.BoolOp .Or [a] pos) ρ k Ψ := of_pw (fun X fx => pw_or1 (ptT fx)) h
theorem wt_bool {op : BoolOp} {es : List Expr} (h : WPW F C (.BoolOp op es pos) ρ k Ψ) : WPT F C (.BoolOp op es pos) ρ k Ψ := of_pt (fun X fx => (pwW fx).pt) h
/-- .. as values -/
theorem we_and {rest : List Expr} (h : WPE F C a ρ k fun k1 d => ∃ c, d = .bool c ∧ if c = true then WPE F C (.BoolOp .And (b :: rest) pos) ρ k1 Φ else Φ k1 (.bool false)) : WPE F C (.BoolOp .And (a :: b :: rest) pos) ρ k Φ :=
  of_pe (fun X fx => pe_and (peE fx) (peE fx)) fun σ H Q en j q => h σ H _ en j fun v d k1 H1 l1 j1 r ⟨c, e, p⟩ => by
    subst e; cases r
    refine ⟨c, rfl, ?_⟩
    cases c with
    | true => exact p σ H1 Q (en.le l1) j1 fun v d k' H' l j' r' p' => q v d k' H' (l1.trans l) j' r' p'
    | false => exact q _ _ k1 H1 l1 j1 (.bl false) p
theorem we_or {rest : List Expr} (h : WPE F C a ρ k fun k1 d => ∃ c, d = .bool c ∧ if c = true then Φ k1 (.bool true) else WPE F C (.BoolOp .Or (b :: rest) pos) ρ k1 Φ) : WPE F C (.BoolOp .Or (a :: b :: rest) pos) ρ k Φ :=
  of_pe (fun X fx => pe_or (peE fx) (peE fx)) fun σ H Q en j q => h σ H _ en j fun v d k1 H1 l1 j1 r ⟨c, e, p⟩ => by
    subst e; cases r
    refine ⟨c, rfl, ?_⟩
    cases c with
    | false => exact p σ H1 Q (en.le l1) j1 fun v d k' H' l j' r' p' => q v d k' H' (l1.trans l) j' r' p'
    | true => exact q _ _ k1 H1 l1 j1 (.bl true) p
theorem we_one {op : BoolOp} (h : WPE F C a ρ k Φ) : WPE F C (.BoolOp op [a] pos) ρ k Φ := of_pe (fun X fx => pe_one (peE fx)) h
theorem we_ifExp {c : Expr} (h : WPT F C c ρ k fun k1 z => if z = true then WPE F C a ρ k1 Φ else WPE F C b ρ k1 Φ) : WPE F C (.IfExp c a b pos) ρ k Φ :=
  of_pe (fun X fx => pe_ifExp (ptT fx) (peE fx) (peE fx)) fun σ H Q en j q => h σ H _ en j fun c k1 H1 l1 j1 p => by
    cases c with
    | true => exact p σ H1 Q (en.le l1) j1 fun v d k' H' l j' r' p' => q v d k' H' (l1.trans l) j' r' p'
    | false => exact p σ H1 Q (en.le l1) j1 fun v d k' H' l j' r' p' => q v d k' H' (l1.trans l) j' r' p'
/-- arguments -/
theorem wa_nil {Φ : Nat → List PyData → Prop} (h : Φ k []) : WPA F C [] ρ k Φ := of_pa (fun X fx => pa_nil) fun σ H Q en j q => q [] [] k H .refl j .nil h
theorem wa_cons {Φ : Nat → List PyData → Prop} (hs : ∀ env : Env, starEach (e :: es) env = (false, eval e env) :: starEach es env) (h : WPE F C e ρ k fun k1 x => WPA F C es ρ k1 fun k2 xs => Φ k2 (x :: xs)) : WPA F C (e :: es) ρ k Φ :=
  of_pa (fun X fx => pa_cons (peE fx) (paA fx) (hs X.env)) fun σ H Q en j q => h σ H _ en j fun vx x k1 H1 l1 j1 r1 hx => hx σ H1 _ (en.le l1) j1 fun vs xs k2 H2 l2 j2 r2 hy =>
    q (vx :: vs) (x :: xs) k2 H2 (l1.trans l2) j2 (.cons (r1.le l2.lz) r2) hy
theorem we_tup {x1} (h : WPA F C es ρ k fun k1 ds => ds.length ≤ sizeLine ∧ Φ k1 (.tuple ds)) : WPE F C (.Tuple es x1 pos) ρ k Φ :=
  of_pe (fun X fx => pe_tup (paA fx)) fun σ H Q en j q => h σ H _ en j fun vs ds k1 H1 l1 j1 r1 ⟨hz, p⟩ => ⟨by rw [r1.length]; exact hz, fun p0 hp => q _ (.tuple ds) k1 _ (l1.trans (.new hp)) (j1.new hp) (rep_newT j1 hp r1) p⟩
theorem we_lst (h : WPA F C es ρ k fun k1 ds => ds.length ≤ sizeLine ∧ Φ k1 (.list ds)) : WPE F C (.List es pos) ρ k Φ :=
  of_pe (fun X fx => pe_lst (paA fx)) fun σ H Q en j q => h σ H _ en j fun vs ds k1 H1 l1 j1 r1 ⟨hz, p⟩ => ⟨by rw [r1.length]; exact hz, fun p0 hp => q _ (.list ds) k1 _ (l1.trans (.new hp)) (j1.new hp) (rep_newL j1 hp r1) p⟩
/-- a call of a built-in by its name -/
theorem we_cb {r : List V → Hp → VK → Prop} {ta : TA} (h : WA F ta ρ k fun k1 ds => RA F r ds k1 Φ) : WE F (tCB r ta) ρ k Φ := fun σ H Q en j q =>
  h σ H _ en j fun vs ds k1 H1 l1 j1 r1 p => p H1 vs Q j1 r1 fun v d k' H' l' j' r' p' => q v d k' H' (l1.trans l') j' r' p'
theorem we_callB {r : List V → Hp → VK → Prop} {x : Str} {id : String} {p : Pos} (hc : ∀ X, Fits C X → CallR X (.builtin id) r) (hg : C.sc.names.lookup x = some .globalImplicit) (hm : C.mg x = none) (hv : bootBuiltins x = some (.builtin id))
    (h : WPA F C (e :: es) ρ k fun k1 ds => RA F r ds k1 Φ) (hn : x ≠ "__name__" := by decide) (hdb : (x == ("__debug__" : Str)) = false := by decide) (hss : ∀ env : Env, starEach (e :: es) env = (false, eval e env) :: starEach es env := by intro _; rfl) (hpl : ∀ env : Env, ((backTo pos (starEach es env)).any fun x => x.fst) = false := by intro _; rfl) : WPE F C (.Call (.Name x p) (e :: es) [] pos) ρ k Φ :=
  of_pe (fun X fx => pe_callB (hc X fx) (by show X.env.scope.names.lookup x = _; rw [fx.sc]; exact hg) (by rw [fx.mg]; exact hm) hv (paA fx) hn hdb (hss X.env) (hpl X.env)) (we_cb h)
theorem we_callTy {r : List V → Hp → VK → Prop} {x : Str} {T : String} {p : Pos} (hc : ∀ X, Fits C X → CallR X (.type T) r) (hg : C.sc.names.lookup x = some .globalImplicit) (hm : C.mg x = none) (hv : bootBuiltins x = some (.type T))
    (h : WPA F C (e :: es) ρ k fun k1 ds => RA F r ds k1 Φ) (hn : x ≠ "__name__" := by decide) (hdb : (x == ("__debug__" : Str)) = false := by decide) (hss : ∀ env : Env, starEach (e :: es) env = (false, eval e env) :: starEach es env := by intro _; rfl) (hpl : ∀ env : Env, ((backTo pos (starEach es env)).any fun x => x.fst) = false := by intro _; rfl) : WPE F C (.Call (.Name x p) (e :: es) [] pos) ρ k Φ :=
  of_pe (fun X fx => pe_callTy (hc X fx) (by show X.env.scope.names.lookup x = _; rw [fx.sc]; exact hg) (by rw [fx.mg]; exact hm) hv (paA fx) hn hdb (hss X.env) (hpl X.env)) (we_cb h)
end
end Dl

namespace Dl
open PySem PySem.Spec PyProof.Rows L2

/-! ### statements -/
abbrev DE.seq (P : DE) (n : Nat → Rho → Prop) : DE := ⟨n, P.rt, P.bk, P.ct⟩
abbrev DE.loop (P : DE) (n : Nat → Rho → Prop) : DE := ⟨n, P.rt, P.nx, n⟩
section
variable {F : Fm} {C : Cs} {ρ : Rho} {k : Nat} {Φ Φ' : Nat → PyData → Prop} {Ψ Ψ' : Nat → Bool → Prop} {e a b : Expr} {es : List Expr} {pos : Pos} {P : DE}
theorem WS.imp {t : TS} {P' : DE} (h : WS F t ρ k P) (h1 : ∀ k ρ, P.nx k ρ → P'.nx k ρ) (h2 : ∀ k d, P.rt k d → P'.rt k d) (h3 : ∀ k ρ, P.bk k ρ → P'.bk k ρ) (h4 : ∀ k ρ, P.ct k ρ → P'.ct k ρ) : WS F t ρ k P' :=
  fun σ H E en j q1 q2 q3 q4 => h σ H E en j (fun ρ' σ' k' H' l e j' p => q1 ρ' σ' k' H' l e j' (h1 _ _ p)) (fun v d k' H' j' r p => q2 v d k' H' j' r (h2 _ _ p)) (fun ρ' σ' k' H' l e j' p => q3 ρ' σ' k' H' l e j' (h3 _ _ p)) (fun ρ' σ' k' H' l e j' p => q4 ρ' σ' k' H' l e j' (h4 _ _ p))
theorem wb_nil (h : P.nx k ρ) : WPB F C [] ρ k P := of_pb (fun X fx => pss_nil) fun σ H E en j q1 _ _ _ => q1 ρ σ k H .refl en j h
theorem wb_cons {st : Stmt} {rest : List Stmt} (h : WPS F C st ρ k (P.seq fun k1 ρ1 => WPB F C rest ρ1 k1 P)) : WPB F C (st :: rest) ρ k P :=
  of_pb (fun X fx => pss_cons (psS fx) (pbB fx)) fun σ H E en j q1 q2 q3 q4 =>
    h σ H { E with nx := tB C rest E } en j (fun ρ' σ' k' H' l en' j' p => p σ' H' E en' j' (fun ρ2 σ2 k2 H2 l2 => q1 ρ2 σ2 k2 H2 (l.trans l2)) q2 (fun ρ2 σ2 k2 H2 l2 => q3 ρ2 σ2 k2 H2 (l.trans l2)) (fun ρ2 σ2 k2 H2 l2 => q4 ρ2 σ2 k2 H2 (l.trans l2))) q2 q3 q4
theorem ws_pass (h : P.nx k ρ) : WPS F C (.Pass pos) ρ k P := of_ps (fun X fx => ps_pass) fun σ H E en j q1 _ _ _ => q1 ρ σ k H .refl en j h
theorem ws_break (h : P.bk k ρ) : WPS F C (.Break pos) ρ k P := of_ps (fun X fx => ps_break) fun σ H E en j _ _ q3 _ => q3 ρ σ k H .refl en j h
theorem ws_continue (h : P.ct k ρ) : WPS F C (.Continue pos) ρ k P := of_ps (fun X fx => ps_continue) fun σ H E en j _ _ _ q4 => q4 ρ σ k H .refl en j h
theorem ws_ret (h : WPE F C e ρ k P.rt) : WPS F C (.Return (some e) pos) ρ k P := of_ps (fun X fx => ps_ret (peE fx)) fun σ H E en j _ q2 _ _ => h σ H _ en j fun v d k' H' _ j' r p => q2 v d k' H' j' r p
theorem ws_retN (h : P.rt k .none) : WPS F C (.Return none pos) ρ k P := of_ps (fun X fx => ps_retN) fun σ H E en j _ q2 _ _ => q2 _ _ k H j .non h
theorem ws_if {c : Expr} {s1 s2 : List Stmt} (h : WPT F C c ρ k fun k1 z => if z = true then WPB F C s1 ρ k1 P else WPB F C s2 ρ k1 P) : WPS F C (.If c s1 s2 pos) ρ k P :=
  of_ps (fun X fx => ps_if (ptT fx) (pbB fx) (pbB fx)) fun σ H E en j q1 q2 q3 q4 => h σ H _ en j fun z k1 H1 l1 j1 p => by
    have l := l1.lz
    cases z with
    | true => exact p σ H1 E (en.le l1) j1 (fun ρ2 σ2 k2 H2 l2 => q1 ρ2 σ2 k2 H2 (l.trans l2)) q2 (fun ρ2 σ2 k2 H2 l2 => q3 ρ2 σ2 k2 H2 (l.trans l2)) (fun ρ2 σ2 k2 H2 l2 => q4 ρ2 σ2 k2 H2 (l.trans l2))
    | false => exact p σ H1 E (en.le l1) j1 (fun ρ2 σ2 k2 H2 l2 => q1 ρ2 σ2 k2 H2 (l.trans l2)) q2 (fun ρ2 σ2 k2 H2 l2 => q3 ρ2 σ2 k2 H2 (l.trans l2)) (fun ρ2 σ2 k2 H2 l2 => q4 ρ2 σ2 k2 H2 (l.trans l2))
theorem ws_asgName {t : TE} (i : Nat) (h : WE F t ρ k fun k1 d => P.nx k1 (ρ.set i (.d d))) : WS F (tAsg t (gName i)) ρ k P := fun σ H E en j q1 _ _ _ =>
  h σ H _ en j fun v d k1 H1 l1 j1 r p => q1 _ (σ.set i (some v)) k1 H1 l1.lz ((en.le l1).set (sv := .d d) ⟨v, rfl, r⟩) j1 p
/-- what a target wants: no name twice, its place, its kind -/
structure Tgt (C : Cs) (i : Nat) (x : Str) : Prop where
  hN : C.N.Nodup
  hi : C.N[i]? = some x
  hx : Loc C.sc x
  hf : C.fn x = true ∨ C.sc.names.lookup x = some .local
theorem Tgt.pg {i : Nat} {x : Str} (t : Tgt C i x) {X : Cx} (fx : Fits C X) : PG X (.Name x pos) (gName i) :=
  pg_name (by rw [fx.N]; exact t.hN) (by rw [fx.N]; exact t.hi) (by rw [fx.sc]; exact t.hx) (by rw [fx.fn, fx.sc]; exact t.hf)
theorem ws_set (i : Nat) {x : Str} {pos' : Pos} (t : Tgt C i x) (hs : ∀ env : Env, env.scope = C.sc → swapsWith e (some (.Name x pos')) pos.line env = pure false) (h : WPE F C e ρ k fun k1 d => P.nx k1 (ρ.set i (.d d))) : WPS F C (.Assign [.Name x pos'] e pos) ρ k P :=
  of_ps (fun X fx => ps_set (by rw [fx.N]; exact t.hN) (by rw [fx.N]; exact t.hi) (by rw [fx.sc]; exact t.hx) (peE fx) (hs X.env fx.sc) (by rw [fx.fn, fx.sc]; exact t.hf)) (ws_asgName i h)
/-- a, b = a tuple -/
theorem pgTup {es : List Expr} {kk : Nat} {t : TGs} {n : Nat} {X : Cx} (fx : Fits C X) (h : PGs X es t) (hn : (assignEach es X.env).length = n) (hst : (assignEach es X.env).findIdx? (·.1) = none) : PG X (.Tuple es kk pos) (gTup C.K n t) := by
  rw [← fx.K]; exact pg_tup fx.calm h hn hst
theorem piL {X : Cx} (fx : Fits C X) {tg l : Expr} : PI X tg l (iList C.K (tE C l)) := by
  rw [← fx.K]; exact pi_list (peE fx)
theorem piT {X : Cx} (fx : Fits C X) {tg l : Expr} : PI X tg l (iTup C.K (tE C l)) := by
  rw [← fx.K]; exact pi_tup (peE fx)
theorem ws_asg2 (i1 i2 : Nat) {x1 x2 : Str} {p1 p2 p3 : Pos} {kk : Nat} (hne : i1 ≠ i2) (t1 : Tgt C i1 x1) (t2 : Tgt C i2 x2) (hK : F.K = C.K)
    (hs : ∀ env : Env, swapsWithSole [.Tuple [.Name x1 p1, .Name x2 p2] kk p3] e pos.line env = pure false) (hw : ∀ env : Env, swappedStores [.Tuple [.Name x1 p1, .Name x2 p2] kk p3] e env = pure none)
    (h : WPE F C e ρ k fun k1 d => ∃ d1 d2, d = .tuple [d1, d2] ∧ P.nx k1 ((ρ.set i1 (.d d1)).set i2 (.d d2))) : WPS F C (.Assign [.Tuple [.Name x1 p1, .Name x2 p2] kk p3] e pos) ρ k P :=
  of_ps (fun X fx => ps_asg (peE fx) (pgTup (n := 2) fx (pgs_cons (t1.pg fx) (pgs_cons (t2.pg fx) pgs_nil)) (by rfl) (by rfl)) (hs X.env) (hw X.env)) fun σ H E en j q1 _ _ _ =>
    h σ H _ en j fun v d k1 H1 l1 j1 r ⟨d1, d2, e, p⟩ => by
      subst e
      cases r with
      | tup ha hr =>
        cases hr with
        | cons r1 hr =>
          cases hr with
          | cons r2 hr =>
            cases hr
            exact ⟨_, _, rfl, hK ▸ sqt_of ha, rfl, _, _, rfl, _, _, rfl, rfl, q1 _ _ k1 H1 l1.lz (((en.le l1).set (sv := .d d1) ⟨_, rfl, r1⟩).set (sv := .d d2) ⟨_, rfl, r2⟩) j1 p⟩
/-- a, b = x, y -/
theorem ws_par2 (i1 i2 : Nat) {x1 x2 : Str} {p1 p2 p3 p4 : Pos} {kk k2 : Nat} (hne : i1 ≠ i2) (t1 : Tgt C i1 x1) (t2 : Tgt C i2 x2) (h1 : C.sc.names.lookup x1 = some .local) (h2 : C.sc.names.lookup x2 = some .local)
    (hs : ∀ env : Env, swapsWithSole [.Tuple [.Name x1 p1, .Name x2 p2] kk p3] (.Tuple [a, b] k2 p4) pos.line env = pure false) (hw : ∀ env : Env, env.scope = C.sc → swappedStores [.Tuple [.Name x1 p1, .Name x2 p2] kk p3] (.Tuple [a, b] k2 p4) env = pure (some [x1, x2]))
    (h : WPA F C [a, b] ρ k fun k1 ds => ∃ d1 d2, ds = [d1, d2] ∧ P.nx k1 ((ρ.set i1 (.d d1)).set i2 (.d d2))) : WPS F C (.Assign [.Tuple [.Name x1 p1, .Name x2 p2] kk p3] (.Tuple [a, b] k2 p4) pos) ρ k P :=
  of_ps (fun X fx => ps_par fx.calm (by rw [fx.N]; exact t1.hN) (by rw [fx.N]; exact t1.hi) (by rw [fx.N]; exact t2.hi) hne (by rw [fx.sc]; exact h1) (by rw [fx.sc]; exact h2) (paA fx) (hw X.env fx.sc) (hs X.env)) fun σ H E en j q1 _ _ _ =>
    h σ H _ en j fun vs ds k1 H1 l1 j1 r ⟨d1, d2, e, p⟩ => by
      subst e
      cases r with
      | cons r1 hr =>
        cases hr with
        | cons r2 hr =>
          cases hr
          exact ⟨_, _, rfl, q1 _ _ k1 H1 l1.lz (((en.le l1).set (sv := .d d1) ⟨_, rfl, r1⟩).set (sv := .d d2) ⟨_, rfl, r2⟩) j1 p⟩
theorem ws_expr (hs : ∀ env : Env, swapsWith e none pos.line env = pure false) (h : WPE F C e ρ k fun k1 _ => P.nx k1 ρ) : WPS F C (.Expr e pos) ρ k P :=
  of_ps (fun X fx => ps_expr (peE fx) (hs X.env)) fun σ H E en j q1 _ _ _ => h σ H _ en j fun v d k1 H1 l1 j1 r p => q1 ρ σ k1 H1 l1.lz (en.le l1) j1 p
theorem ws_doc {x : Str} {jj : Nat} {p : Pos} (h : P.nx k ρ) : WPS F C (.Expr (.Constant (.str x) jj p) pos) ρ k P := of_ps (fun X fx => ps_doc) fun σ H E en j q1 _ _ _ => q1 ρ σ k H .refl en j h

/-! ### for, while -/
theorem ws_for_list (i : Nat) {x : Str} {px : Pos} {iter : Expr} {body : List Stmt} (t : Tgt C i x) (hK : F.K = C.K) (hfs : ∀ (env : Env) (v : Value), foldedSetIterable iter env v = pure v)
    (h : WPE F C iter ρ k fun k1 d => ∃ (I : Nat → Nat → Rho → Prop) (ds : List PyData), d = .list ds ∧ I 0 k1 ρ ∧ (∀ (j : Nat) (y : PyData) k' ρ', ds[j]? = some y → I j k' ρ' → WPB F C body (ρ'.set i (.d y)) k' (P.loop (I (j + 1)))) ∧ (∀ k' ρ', I ds.length k' ρ' → P.nx k' ρ')) :
    WPS F C (.For (.Name x px) iter body [] pos) ρ k P :=
  of_ps (fun X fx => ps_for (by rw [fx.xe]; exact PassesOwn.never) fx.calm (piL fx) (t.pg fx) (pbB fx) (hfs X.env)) fun σ H E en j q1 q2 q3 q4 => by
    show tE C iter σ H _
    refine h σ H _ en j fun v d k1 H1 l1 j1 r hh => ?_
    obtain ⟨I, ds, e, i0, hstep, hend⟩ := hh
    subst e
    cases r with
    | @lst a xs _ ha hr =>
    refine ⟨a, rfl, ⟨xs, hK ▸ sql_of ha⟩, ?_⟩
    have hlen : xs.length = ds.length := hr.length
    have rr : Rp F H1 (.ref a) (.list ds) := .lst ha hr
    refine for_list (xs := xs) (fun n σ' H' => ∃ k' ρ', EnvOk F H' σ' ρ' ∧ J F k' H' ∧ Lz F H1 H' ∧ I n k' ρ') ⟨k1, ρ, en.le l1, j1, .refl, i0⟩ ?_ ?_ ?_
    · rintro n σ' H' _ ⟨k', ρ', _, _, lz, _⟩
      have := sql_of (K := F.K) (⟨lz _ _ (Fm.sxA ha.2) ha.1, ha.2⟩ : H' a = some (.lst xs) ∧ ¬ F.S a)
      exact hK ▸ this
    · rintro n v σ' H' hv ⟨k', ρ', en', j', lz, ii⟩
      obtain ⟨y, hy, ry⟩ := hr.got hv
      refine hstep n y k' ρ' hy ii (σ'.set i (some v)) H' _ (en'.set (sv := .d y) ⟨v, rfl, ry.le lz⟩) j' ?_ q2 ?_ ?_
      · exact fun ρ2 σ2 k2 H2 l2 e2 j2 p => ⟨k2, ρ2, e2, j2, lz.trans l2, p⟩
      · exact fun ρ2 σ2 k2 H2 l2 e2 j2 p => q1 ρ2 σ2 k2 H2 (l1.lz.trans (lz.trans l2)) e2 j2 p
      · exact fun ρ2 σ2 k2 H2 l2 e2 j2 p => ⟨k2, ρ2, e2, j2, lz.trans l2, p⟩
    · rintro σ' H' ⟨k', ρ', en', j', lz, ii⟩
      exact q1 ρ' σ' k' H' (l1.lz.trans lz) en' j' (hend k' ρ' (hlen ▸ ii))
theorem ws_for_tup (i : Nat) {x : Str} {px : Pos} {iter : Expr} {body : List Stmt} (t : Tgt C i x) (hK : F.K = C.K) (hfs : ∀ (env : Env) (v : Value), foldedSetIterable iter env v = pure v)
    (h : WPE F C iter ρ k fun k1 d => ∃ (I : Nat → Nat → Rho → Prop) (ds : List PyData), d = .tuple ds ∧ I 0 k1 ρ ∧ (∀ (j : Nat) (y : PyData) k' ρ', ds[j]? = some y → I j k' ρ' → WPB F C body (ρ'.set i (.d y)) k' (P.loop (I (j + 1)))) ∧ (∀ k' ρ', I ds.length k' ρ' → P.nx k' ρ')) :
    WPS F C (.For (.Name x px) iter body [] pos) ρ k P :=
  of_ps (fun X fx => ps_for (by rw [fx.xe]; exact PassesOwn.never) fx.calm (piT fx) (t.pg fx) (pbB fx) (hfs X.env)) fun σ H E en j q1 q2 q3 q4 => by
    show tE C iter σ H _
    refine h σ H _ en j fun v d k1 H1 l1 j1 r hh => ?_
    obtain ⟨I, ds, e, i0, hstep, hend⟩ := hh
    subst e
    cases r with
    | @tup a xs _ ha hr =>
    refine ⟨a, rfl, ⟨xs, hK ▸ sqt_of ha⟩, ?_⟩
    have hlen : xs.length = ds.length := hr.length
    refine for_tup (xs := xs) (fun n σ' H' => ∃ k' ρ', EnvOk F H' σ' ρ' ∧ J F k' H' ∧ Lz F H1 H' ∧ I n k' ρ') ⟨k1, ρ, en.le l1, j1, .refl, i0⟩ ?_ ?_ ?_
    · rintro n σ' H' _ ⟨k', ρ', _, _, lz, _⟩
      have := sqt_of (K := F.K) (⟨lz _ _ (Fm.sxA ha.2) ha.1, ha.2⟩ : H' a = some (.tup xs) ∧ ¬ F.S a)
      exact hK ▸ this
    · rintro n v σ' H' hv ⟨k', ρ', en', j', lz, ii⟩
      obtain ⟨y, hy, ry⟩ := hr.got hv
      refine hstep n y k' ρ' hy ii (σ'.set i (some v)) H' _ (en'.set (sv := .d y) ⟨v, rfl, ry.le lz⟩) j' ?_ q2 ?_ ?_
      · exact fun ρ2 σ2 k2 H2 l2 e2 j2 p => ⟨k2, ρ2, e2, j2, lz.trans l2, p⟩
      · exact fun ρ2 σ2 k2 H2 l2 e2 j2 p => q1 ρ2 σ2 k2 H2 (l1.lz.trans (lz.trans l2)) e2 j2 p
      · exact fun ρ2 σ2 k2 H2 l2 e2 j2 p => ⟨k2, ρ2, e2, j2, lz.trans l2, p⟩
    · rintro σ' H' ⟨k', ρ', en', j', lz, ii⟩
      exact q1 ρ' σ' k' H' (l1.lz.trans lz) en' j' (hend k' ρ' (hlen ▸ ii))
theorem ws_for_range (i : Nat) {x : Str} {px p : Pos} {pos' : Pos} {body : List Stmt} (t : Tgt C i x) (hg : C.sc.names.lookup ("range" : Str) = some .globalImplicit) (hm : C.mg ("range" : Str) = none)
    (hse : ∀ env : Env, starEach [e] env = [(false, eval e env)]) (hfs : ∀ (env : Env) (v : Value), foldedSetIterable (.Call (.Name "range" p) [e] [] pos') env v = pure v)
    (h : WPE F C e ρ k fun k1 d => ∃ (I : Nat → Nat → Rho → Prop) (z : Int), d = .int z ∧ -(2 ^ 62) ≤ z ∧ z < 2 ^ 62 ∧ I 0 k1 ρ ∧ (∀ (j : Nat) k' ρ', j < z.toNat → I j k' ρ' → WPB F C body (ρ'.set i (.d (.int j))) k' (P.loop (I (j + 1)))) ∧ (∀ k' ρ', I z.toNat k' ρ' → P.nx k' ρ')) :
    WPS F C (.For (.Name x px) (.Call (.Name "range" p) [e] [] pos') body [] pos) ρ k P :=
  of_ps (fun X fx => ps_for (by rw [fx.xe]; exact PassesOwn.never) fx.calm (pi_range1 (by show X.env.scope.names.lookup ("range" : Str) = _; rw [fx.sc]; exact hg) (by rw [fx.mg]; exact hm) (pa_cons (peE fx) pa_nil (hse X.env)) (hse X.env)) (t.pg fx) (pbB fx) (hfs X.env)) fun σ H E en j q1 q2 q3 q4 => by
    show tE C e σ H _
    refine h σ H _ en j fun v d k1 H1 l1 j1 r hh => ?_
    obtain ⟨I, z, e, z1, z2, i0, hstep, hend⟩ := hh
    subst e
    cases r
    refine ⟨z, rfl, z1, z2, ?_⟩
    refine for_range (lo := 0) (n := z.toNat) (fun n σ' H' => ∃ k' ρ', EnvOk F H' σ' ρ' ∧ J F k' H' ∧ Lz F H1 H' ∧ I n k' ρ') ⟨k1, ρ, en.le l1, j1, .refl, i0⟩ ?_ ?_
    · rintro n σ' H' hn ⟨k', ρ', en', j', lz, ii⟩
      rw [Int.zero_add]
      refine hstep n k' ρ' hn ii (σ'.set i (some (.int n))) H' _ (en'.set (sv := .d (.int n)) ⟨_, rfl, .int n⟩) j' ?_ q2 ?_ ?_
      · exact fun ρ2 σ2 k2 H2 l2 e2 j2 p => ⟨k2, ρ2, e2, j2, lz.trans l2, p⟩
      · exact fun ρ2 σ2 k2 H2 l2 e2 j2 p => q1 ρ2 σ2 k2 H2 (l1.lz.trans (lz.trans l2)) e2 j2 p
      · exact fun ρ2 σ2 k2 H2 l2 e2 j2 p => ⟨k2, ρ2, e2, j2, lz.trans l2, p⟩
    · rintro σ' H' ⟨k', ρ', en', j', lz, ii⟩
      exact q1 ρ' σ' k' H' (l1.lz.trans lz) en' j' (hend k' ρ' ii)
/-- a while, by a word over the slots with a number that falls -/
theorem ws_while (I : Nat → Nat → Rho → Prop) {c : Expr} {body : List Stmt} (m0 : Nat) (h0 : I m0 k ρ)
    (hstep : ∀ m k' ρ', I m k' ρ' → WPT F C c ρ' k' fun k1 z => if z = true then WPB F C body ρ' k1 (P.loop fun k2 ρ2 => ∃ m2, m2 < m ∧ I m2 k2 ρ2) else P.nx k1 ρ') :
    WPS F C (.While c body [] pos) ρ k P :=
  of_ps (fun X fx => ps_while (by rw [fx.xe]; exact PassesOwn.never) (ptT fx) (pbB fx)) fun σ H E en j q1 q2 q3 q4 => by
    refine ⟨fun m σ' H' => ∃ k' ρ', EnvOk F H' σ' ρ' ∧ J F k' H' ∧ Lz F H H' ∧ I m k' ρ', ⟨m0, k, ρ, en, j, .refl, h0⟩, ?_⟩
    rintro m σ' H' ⟨k', ρ', en', j', lz, ii⟩
    refine hstep m k' ρ' ii σ' H' _ en' j' fun z k1 H1 l1 j1 p => ?_
    cases z with
    | true =>
      refine ⟨fun σ2 H2 => ∃ m2, m2 < m ∧ ∃ k2 ρ2, EnvOk F H2 σ2 ρ2 ∧ J F k2 H2 ∧ Lz F H H2 ∧ I m2 k2 ρ2, fun σ2 H2 ⟨m2, hm, w⟩ => ⟨m2, hm, w⟩, ?_⟩
      refine p σ' H1 _ (en'.le l1) j1 ?_ q2 ?_ ?_
      · exact fun ρ2 σ2 k2 H2 l2 e2 j2 ⟨m2, hm, p⟩ => ⟨m2, hm, k2, ρ2, e2, j2, lz.trans (l1.lz.trans l2), p⟩
      · exact fun ρ2 σ2 k2 H2 l2 e2 j2 p => q1 ρ2 σ2 k2 H2 (lz.trans (l1.lz.trans l2)) e2 j2 p
      · exact fun ρ2 σ2 k2 H2 l2 e2 j2 ⟨m2, hm, p⟩ => ⟨m2, hm, k2, ρ2, e2, j2, lz.trans (l1.lz.trans l2), p⟩
    | false => exact q1 ρ' σ' k1 H1 (lz.trans l1.lz) (en'.le l1) j1 p
end

/-! ### comprehensions -/
def Fm.ext (F : Fm) (D : Addr) : Fm := { F with S := fun b => F.S b ∨ b = D, ms := fun b h => .inl (F.ms b h) }
section
variable {F : Fm} {C : Cs} {ρ : Rho} {k : Nat} {H H1 : Hp} {D : Addr} {σ : L2.St}
theorem J.ext (j : J F k H) (h : Lv H D) : J (F.ext D) k H := ⟨j.g, j.le, fun b hb => hb.elim (j.al b) fun e => e ▸ h⟩
theorem J.unext (j : J (F.ext D) k H) : J F k H := ⟨j.g, j.le, fun b hb => j.al b (.inl hb)⟩
theorem Rep.unext {v : V} {d : PyData} (r : Rp (F.ext D) H v d) : Rp F H v d := Rep.keep (S := (F.ext D).S) (S' := F.S) (fun _ _ _ e => e) (fun b _ z => .inl z) d v r
theorem RepAll.unext {v : List V} {d : List PyData} (r : RpAll (F.ext D) H v d) : RpAll F H v d := RepAll.keep (S := (F.ext D).S) (S' := F.S) (fun _ _ _ e => e) (fun b _ z => .inl z) d v r
theorem Rep.ext {o : HO} {v : V} {d : PyData} (r : Rp F H v d) (h : H D = none) : Rp (F.ext D) (upd H D o) v d :=
  Rep.keep (S := F.S) (S' := (F.ext D).S) (fun b u _ e => by rw [upd_ne (ne_of_none e h)]; exact e) (fun b hb z => z.elim id fun e => absurd (e ▸ h) hb) d v r
theorem RepAll.ext {o : HO} {v : List V} {d : List PyData} (r : RpAll F H v d) (h : H D = none) : RpAll (F.ext D) (upd H D o) v d :=
  RepAll.keep (S := F.S) (S' := (F.ext D).S) (fun b u _ e => by rw [upd_ne (ne_of_none e h)]; exact e) (fun b hb z => z.elim id fun e => absurd (e ▸ h) hb) d v r
theorem EnvOk.ext {o : HO} (en : EnvOk F H σ ρ) (h : H D = none) : EnvOk (F.ext D) (upd H D o) σ ρ := fun i sv e => by
  obtain ⟨x, q, r⟩ := en i sv e
  refine ⟨x, q, ?_⟩
  cases sv with
  | un => trivial
  | d d => obtain ⟨v, e, r⟩ := r; exact ⟨v, e, r.ext h⟩
  | raw v => exact r
  | own o xs =>
    obtain ⟨e, s, m, z, vs, h1, r⟩ := r
    exact ⟨e, .inl s, m, z, vs, by rw [upd_ne (ne_of_none h1 h)]; exact h1, r.ext h⟩
/-- the new list at D changes: the rest is as it was -/
theorem EnvOk.at {o : HO} (en : EnvOk (F.ext D) H σ ρ) (hne : ∀ (i : Nat) o xs, ρ[i]? = some (SV.own o xs) → o ≠ D) : EnvOk (F.ext D) (upd H D o) σ ρ := fun i sv e => by
  obtain ⟨x, q, r⟩ := en i sv e
  have lz : ∀ b u, ¬ (F.ext D).S b → H b = some u → (upd H D o) b = some u := fun b u hb e => by rw [upd_ne fun z => hb (.inr z)]; exact e
  refine ⟨x, q, ?_⟩
  cases sv with
  | un => trivial
  | d d => obtain ⟨v, e, r⟩ := r; exact ⟨v, e, Rep.keep lz (fun _ _ z => z) _ _ r⟩
  | raw v => exact r
  | own o' xs =>
    obtain ⟨e, s, m, z, vs, h1, r⟩ := r
    exact ⟨e, s, m, z, vs, by rw [upd_ne (hne _ _ _ ‹_›)]; exact h1, RepAll.keep lz (fun _ _ z => z) _ _ r⟩
end
end Dl

namespace Dl
open PySem PySem.Spec PyProof.Rows L2
section
variable {F : Fm} {C : Cs} {ρ : Rho} {k : Nat} {H H1 : Hp} {D : Addr} {σ : L2.St} {Φ : Nat → PyData → Prop}
def LeD (F : Fm) (D : Addr) (H H' : Hp) : Prop := ∀ b o, ¬ F.Mx b o → b ≠ D → H b = some o → H' b = some o
theorem LeD.refl : LeD F D H H := fun _ _ _ _ e => e
theorem LeD.trans {H2 : Hp} (a : LeD F D H H1) (b : LeD F D H1 H2) : LeD F D H H2 := fun x o n m e => b x o n m (a x o n m e)
theorem Le.ld (a : Le F H H1) : LeD F D H H1 := fun b o n _ e => a b o n e
theorem LeD.lz (a : LeD F D H H1) (hs : F.S D) : Lz F H H1 := fun b o n e => a b o (fun z => n (z.imp (F.ms b) id)) (fun z => n (.inl (z ▸ hs))) e
theorem EnvOk.ld (en : EnvOk F H σ ρ) (a : LeD F D H H1) (hs : F.S D) (hne : ∀ (i : Nat) o xs, ρ[i]? = some (SV.own o xs) → o ≠ D) : EnvOk F H1 σ ρ := fun i sv e => by
  obtain ⟨x, q, r⟩ := en i sv e
  refine ⟨x, q, ?_⟩
  cases sv with
  | un => trivial
  | d d => obtain ⟨v, e, r⟩ := r; exact ⟨v, e, r.le (a.lz hs)⟩
  | raw v => exact r
  | own o' xs =>
    obtain ⟨e', s, m, z, vs, h1, r⟩ := r
    exact ⟨e', s, m, z, vs, a o' _ (Fm.mxA m) (hne _ _ _ e) h1, r.le (a.lz hs)⟩
theorem lc_turn {tt : TT} {te : TE} {ρ2 : Rho} {σ2 : L2.St} {vs : List V} {acc : List PyData} {I : Nat → List PyData → Prop} {Nx : Hp → Prop} (hM : ¬ F.M D) (hS : F.S D) (h0 : F.H0 D = none)
    (en : EnvOk F H σ2 ρ2) (j : J F k H) (hd : H D = some (.lst vs)) (ra : RpAll F H vs acc) (hz : acc.length < sizeLine)
    (body : WT F tt ρ2 k fun k1 b => if b = true then WE F te ρ2 k1 fun k2 y => I k2 (acc ++ [y]) else I k1 acc)
    (nx : ∀ H' k' vs' acc', acc'.length ≤ acc.length + 1 → LeD F D H H' → H' D = some (.lst vs') → RpAll F H' vs' acc' → J F k' H' → I k' acc' → Nx H') :
    tt σ2 H fun b H3 => if b = true then te σ2 H3 fun y H4 => ∃ acc, H4 D = some (.lst acc) ∧ acc.length < sizeLine ∧ Nx (upd H4 D (.lst (acc ++ [y]))) else Nx H3 := by
  refine body σ2 H _ en j fun b k1 H3 l3 j3 p => ?_
  cases b with
  | false => exact nx H3 k1 vs acc (Nat.le_succ _) l3.ld (l3 D _ (Fm.mxA hM) hd) (ra.le l3.lz) j3 p
  | true =>
    refine p σ2 H3 _ (en.le l3) j3 fun v y k2 H4 l4 j4 r4 q => ?_
    have hd4 : H4 D = some (.lst vs) := l4 D _ (Fm.mxA hM) (l3 D _ (Fm.mxA hM) hd)
    refine ⟨vs, hd4, by rw [ra.length]; exact hz, nx _ k2 _ _ (by rw [List.length_append]; exact Nat.le_refl _) ?_ upd_same ?_ (j4.own hM h0 (pl_lst hd4)) q⟩
    · exact fun b o n m e => by rw [upd_ne m]; exact l4 b o n (l3 b o n e)
    · have lz : Lz F H4 (upd H4 D (.lst (vs ++ [v]))) := fun b o n e => by rw [upd_ne (show b ≠ D from fun z => n (.inl (by rw [z]; exact hS)))]; exact e
      exact (((ra.le l3.lz).le l4.lz).le lz).append (.cons (r4.le lz) .nil)
theorem set_wipe {i : Nat} {x : V} (σ : L2.St) : (wipe σ [i]).set i (some x) = σ.set i (some x) := by
  show (σ.set i none).set i (some x) = _
  rw [List.set_set]
theorem wipe_set {i : Nat} {x : V} (σ : L2.St) : wipe (σ.set i (some x)) [i] = wipe σ [i] := by
  show (σ.set i (some x)).set i none = σ.set i none
  rw [List.set_set]
theorem we_lcL (i : Nat) {tl : TE} {K : PySem.W.Frag} (hK : F.K = K) {tt : TT} {te : TE}
    (h : WE F tl ρ k fun k1 d => ∃ (I : Nat → Nat → List PyData → Prop) (ds : List PyData), d = .list ds ∧ ds.length ≤ 1000000 ∧ I 0 k1 [] ∧ (∀ D (j : Nat) (y : PyData) k' acc, ds[j]? = some y → I j k' acc → WT (F.ext D) tt (ρ.set i (.d y)) k' fun k1 b => if b = true then WE (F.ext D) te (ρ.set i (.d y)) k1 fun k2 z => I (j + 1) k2 (acc ++ [z]) else I (j + 1) k1 acc) ∧ (∀ k' acc, I ds.length k' acc → Φ k' (.list acc))) : WE F (tLc (iList K tl) (gName i) tt te [i]) ρ k Φ := fun σ H Q en j q => by
  show tl σ H _
  refine h σ H _ en j fun v d k1 H1 l1 j1 r hh => ?_
  obtain ⟨I, ds, e, hz, i0, hstep, hend⟩ := hh
  subst e
  cases r with
  | @lst a xs _ ha hr =>
  refine ⟨a, rfl, ⟨xs, hK ▸ sql_of ha⟩, fun D hD => ?_⟩
  have hlen : xs.length = ds.length := hr.length
  have en1 := en.le l1
  have hM : ¬ F.M D := fun z => F.gl _ _ j1.g D z hD
  have hS : ¬ F.S D := j1.fresh hD
  have h0 : F.H0 D = none := j1.h0 hM hD
  have hne : ∀ (i : Nat) o xs, ρ[i]? = some (SV.own o xs) → o ≠ D := fun i o xs e => by
    obtain ⟨x, _, s⟩ := en1 i _ e
    obtain ⟨_, _, _, _, vs, h1, _⟩ := s
    exact ne_of_none h1 hD
  have rr : Rp (F.ext D) (upd H1 D (.lst [])) (.ref a) (.list ds) := Rep.ext (.lst ha hr) hD
  cases rr with
  | @lst _ xs' _ ha' hr' =>
  have exs : True := trivial
  refine lc_list (xs := xs') (fun n H' => ∃ k' vs acc, acc.length ≤ n ∧ EnvOk (F.ext D) H' σ ρ ∧ J (F.ext D) k' H' ∧ LeD (F.ext D) D (upd H1 D (.lst [])) H' ∧ H' D = some (.lst vs) ∧ RpAll (F.ext D) H' vs acc ∧ I n k' acc)
    ⟨k1, [], [], Nat.le_refl _, en1.ext hD, (j1.new hD).ext (lv_new fun _ z => nomatch z), .refl, upd_same, .nil, i0⟩ ?_ ?_ ?_
  · rintro n H' _ ⟨k', vs, acc, _, _, _, ld, _⟩
    have := sql_of (K := F.K) (H := H') (S := (F.ext D).S) ⟨ld.lz (.inr rfl) _ _ (Fm.sxA ha'.2) ha'.1, ha'.2⟩
    exact hK ▸ this
  · rintro n v H' hv ⟨k', vs, acc, hle, en', j', ld, hd, ra, ii⟩
    obtain ⟨y, hy, ry⟩ := hr'.got hv
    show (wipe ((wipe σ [i]).set i (some v)) [i] = wipe σ [i] ∧ _)
    rw [set_wipe]
    refine ⟨wipe_set σ, ?_⟩
    have hn : n < ds.length := (List.getElem?_eq_some_iff.mp hy).1
    refine lc_turn (F := F.ext D) (I := fun k acc => I (n + 1) k acc) hM (.inr rfl) h0 (en'.set (sv := .d y) ⟨v, rfl, ry.le (ld.lz (.inr rfl))⟩) j' hd ra (Nat.lt_of_le_of_lt (show acc.length ≤ 1000000 by omega) (by decide)) (hstep D n y k' acc hy ii) fun H2 k2 vs2 acc2 hl2 ld2 hd2 ra2 j2 i2 => ?_
    exact ⟨k2, vs2, acc2, by omega, en'.ld ld2 (.inr rfl) hne, j2, ld.trans ld2, hd2, ra2, i2⟩
  · rintro H' ⟨k', vs, acc, hle, en', j', ld, hd, ra, ii⟩
    refine q (.ref D) (.list acc) k' H' ?_ j'.unext (.lst ⟨hd, hS⟩ ra.unext) (hend k' acc (by rw [← hr'.length]; exact ii))
    exact fun b o n e => ld b o n (ne_of_none (l1 b o n e) hD) (by rw [upd_ne (ne_of_none (l1 b o n e) hD)]; exact l1 b o n e)
theorem we_lcT (i : Nat) {tl : TE} {K : PySem.W.Frag} (hK : F.K = K) {tt : TT} {te : TE}
    (h : WE F tl ρ k fun k1 d => ∃ (I : Nat → Nat → List PyData → Prop) (ds : List PyData), d = .tuple ds ∧ ds.length ≤ 1000000 ∧ I 0 k1 [] ∧ (∀ D (j : Nat) (y : PyData) k' acc, ds[j]? = some y → I j k' acc → WT (F.ext D) tt (ρ.set i (.d y)) k' fun k1 b => if b = true then WE (F.ext D) te (ρ.set i (.d y)) k1 fun k2 z => I (j + 1) k2 (acc ++ [z]) else I (j + 1) k1 acc) ∧ (∀ k' acc, I ds.length k' acc → Φ k' (.list acc))) : WE F (tLc (iTup K tl) (gName i) tt te [i]) ρ k Φ := fun σ H Q en j q => by
  show tl σ H _
  refine h σ H _ en j fun v d k1 H1 l1 j1 r hh => ?_
  obtain ⟨I, ds, e, hz, i0, hstep, hend⟩ := hh
  subst e
  cases r with
  | @tup a xs _ ha hr =>
  refine ⟨a, rfl, ⟨xs, hK ▸ sqt_of ha⟩, fun D hD => ?_⟩
  have hlen : xs.length = ds.length := hr.length
  have en1 := en.le l1
  have hM : ¬ F.M D := fun z => F.gl _ _ j1.g D z hD
  have hS : ¬ F.S D := j1.fresh hD
  have h0 : F.H0 D = none := j1.h0 hM hD
  have hne : ∀ (i : Nat) o xs, ρ[i]? = some (SV.own o xs) → o ≠ D := fun i o xs e => by
    obtain ⟨x, _, s⟩ := en1 i _ e
    obtain ⟨_, _, _, _, vs, h1, _⟩ := s
    exact ne_of_none h1 hD
  have rr : Rp (F.ext D) (upd H1 D (.lst [])) (.ref a) (.tuple ds) := Rep.ext (.tup ha hr) hD
  cases rr with
  | @tup _ xs' _ ha' hr' =>
  have exs : True := trivial
  refine lc_tup (xs := xs') (fun n H' => ∃ k' vs acc, acc.length ≤ n ∧ EnvOk (F.ext D) H' σ ρ ∧ J (F.ext D) k' H' ∧ LeD (F.ext D) D (upd H1 D (.lst [])) H' ∧ H' D = some (.lst vs) ∧ RpAll (F.ext D) H' vs acc ∧ I n k' acc)
    ⟨k1, [], [], Nat.le_refl _, en1.ext hD, (j1.new hD).ext (lv_new fun _ z => nomatch z), .refl, upd_same, .nil, i0⟩ ?_ ?_ ?_
  · rintro n H' _ ⟨k', vs, acc, _, _, _, ld, _⟩
    have := sqt_of (K := F.K) (H := H') (S := (F.ext D).S) ⟨ld.lz (.inr rfl) _ _ (Fm.sxA ha'.2) ha'.1, ha'.2⟩
    exact hK ▸ this
  · rintro n v H' hv ⟨k', vs, acc, hle, en', j', ld, hd, ra, ii⟩
    obtain ⟨y, hy, ry⟩ := hr'.got hv
    show (wipe ((wipe σ [i]).set i (some v)) [i] = wipe σ [i] ∧ _)
    rw [set_wipe]
    refine ⟨wipe_set σ, ?_⟩
    have hn : n < ds.length := (List.getElem?_eq_some_iff.mp hy).1
    refine lc_turn (F := F.ext D) (I := fun k acc => I (n + 1) k acc) hM (.inr rfl) h0 (en'.set (sv := .d y) ⟨v, rfl, ry.le (ld.lz (.inr rfl))⟩) j' hd ra (Nat.lt_of_le_of_lt (show acc.length ≤ 1000000 by omega) (by decide)) (hstep D n y k' acc hy ii) fun H2 k2 vs2 acc2 hl2 ld2 hd2 ra2 j2 i2 => ?_
    exact ⟨k2, vs2, acc2, by omega, en'.ld ld2 (.inr rfl) hne, j2, ld.trans ld2, hd2, ra2, i2⟩
  · rintro H' ⟨k', vs, acc, hle, en', j', ld, hd, ra, ii⟩
    refine q (.ref D) (.list acc) k' H' ?_ j'.unext (.lst ⟨hd, hS⟩ ra.unext) (hend k' acc (by rw [← hr'.length]; exact ii))
    exact fun b o n e => ld b o n (ne_of_none (l1 b o n e) hD) (by rw [upd_ne (ne_of_none (l1 b o n e) hD)]; exact l1 b o n e)
theorem we_lcR (i : Nat) {tl : TE} {tt : TT} {te : TE}
    (h : WE F tl ρ k fun k1 d => ∃ (I : Nat → Nat → List PyData → Prop) (z : Int), d = .int z ∧ -(2 ^ 62) ≤ z ∧ z ≤ 1000000 ∧ I 0 k1 [] ∧ (∀ D (j : Nat) k' acc, j < z.toNat → I j k' acc → WT (F.ext D) tt (ρ.set i (.d (.int j))) k' fun k1 b => if b = true then WE (F.ext D) te (ρ.set i (.d (.int j))) k1 fun k2 z => I (j + 1) k2 (acc ++ [z]) else I (j + 1) k1 acc) ∧ (∀ k' acc, I z.toNat k' acc → Φ k' (.list acc))) : WE F (tLc (iRng1 (tCons tl tNil)) (gName i) tt te [i]) ρ k Φ := fun σ H Q en j q => by
  show tl σ H _
  refine h σ H _ en j fun v d k1 H1 l1 j1 r hh => ?_
  obtain ⟨I, z, e, z1, z2, i0, hstep, hend⟩ := hh
  subst e
  cases r
  refine ⟨z, rfl, z1, by omega, fun D hD => ?_⟩
  have en1 := en.le l1
  have hM : ¬ F.M D := fun z => F.gl _ _ j1.g D z hD
  have hS : ¬ F.S D := j1.fresh hD
  have h0 : F.H0 D = none := j1.h0 hM hD
  have hne : ∀ (i : Nat) o xs, ρ[i]? = some (SV.own o xs) → o ≠ D := fun i o xs e => by
    obtain ⟨x, _, s⟩ := en1 i _ e
    obtain ⟨_, _, _, _, vs, h1, _⟩ := s
    exact ne_of_none h1 hD
  refine lc_range (lo := 0) (n := z.toNat) (fun n H' => ∃ k' vs acc, acc.length ≤ n ∧ EnvOk (F.ext D) H' σ ρ ∧ J (F.ext D) k' H' ∧ LeD (F.ext D) D (upd H1 D (.lst [])) H' ∧ H' D = some (.lst vs) ∧ RpAll (F.ext D) H' vs acc ∧ I n k' acc)
    ⟨k1, [], [], Nat.le_refl _, en1.ext hD, (j1.new hD).ext (lv_new fun _ z => nomatch z), .refl, upd_same, .nil, i0⟩ ?_ ?_
  · rintro n H' hn ⟨k', vs, acc, hle, en', j', ld, hd, ra, ii⟩
    rw [Int.zero_add]
    show (wipe ((wipe σ [i]).set i (some (.int n))) [i] = wipe σ [i] ∧ _)
    rw [set_wipe]
    refine ⟨wipe_set σ, ?_⟩
    refine lc_turn (F := F.ext D) (I := fun k acc => I (n + 1) k acc) hM (.inr rfl) h0 (en'.set (sv := .d (.int n)) ⟨_, rfl, .int n⟩) j' hd ra (Nat.lt_of_le_of_lt (show acc.length ≤ 1000000 by omega) (by decide)) (hstep D n k' acc hn ii) fun H2 k2 vs2 acc2 hl2 ld2 hd2 ra2 j2 i2 => ?_
    exact ⟨k2, vs2, acc2, by omega, en'.ld ld2 (.inr rfl) hne, j2, ld.trans ld2, hd2, ra2, i2⟩
  · rintro H' ⟨k', vs, acc, hle, en', j', ld, hd, ra, ii⟩
    refine q (.ref D) (.list acc) k' H' ?_ j'.unext (.lst ⟨hd, hS⟩ ra.unext) (hend k' acc ii)
    exact fun b o n e => ld b o n (ne_of_none (l1 b o n e) hD) (by rw [upd_ne (ne_of_none (l1 b o n e) hD)]; exact l1 b o n e)

theorem wt_yes {Ψ : Nat → Bool → Prop} (h : Ψ k true) : WT F tYes ρ k Ψ := fun σ H Q en j q => q true k H .refl j h
end
/-! comprehensions as expressions, as values given to a name -/
section
variable {F : Fm} {C : Cs} {ρ : Rho} {k : Nat} {Φ : Nat → PyData → Prop} {P : DE} {pos spos : Pos} {elt iter : Expr} {scope : Scope} {i : Nat} {x : Str} {px : Pos}
/-- what a comprehension's block wants: its own name at the place i -/
structure Blk (C : Cs) (scope : Scope) (i : Nat) (x : Str) : Prop where
  ok : BlkOk C.N C.sc scope [(x, i)]
  t : Tgt (C.blk scope) i x
theorem pe_lcX {X : Cx} (fx : Fits C X) (b : Blk C scope i x) {ifs : List Expr} {wi : TI} {tt : TT} (hi : PI X (.Name x px) iter wi) (ht : ∀ X', Fits (C.blk scope) X' → PTs X' ifs tt) (hs : ∀ (env : Env) (v : Value), foldedSetIterable iter env v = pure v) :
    PE X (.ListComp elt [⟨.Name x px, iter, ifs, 0⟩] scope pos) (tLc wi (gName i) tt (tE (C.blk scope) elt) [i]) :=
  pe_lc (own := [(x, i)]) fx.calm (by rw [fx.N]; exact b.t.hN) hi (by rw [fx.N, fx.sc]; exact b.ok) (fun s H a cl fp => b.t.pg (fx.blk s H scope a cl fp)) (fun s H a cl fp => ht _ (fx.blk s H scope a cl fp)) (fun s H a cl fp => peE (fx.blk s H scope a cl fp)) (hs X.env)
theorem ps_lcX {X : Cx} {y : Str} {py : Pos} {iy : Nat} (fx : Fits C X) (b : Blk C scope i x) (ty : Tgt C iy y) (hyl : C.sc.names.lookup y = some .local) (hk : C.sc.kind = .function) (hl : (py.line == pos.line) = true) (ha : (scope.names.any fun (n, k) => n == y && (k == .local || k == .cell)) = false)
    {ifs : List Expr} {wi : TI} {tt : TT} (hi : PI X (.Name x px) iter wi) (ht : ∀ X', Fits (C.blk scope) X' → PTs X' ifs tt) (hs : ∀ (env : Env) (v : Value), foldedSetIterable iter env v = pure v) :
    PS X (.Assign [.Name y py] (.ListComp elt [⟨.Name x px, iter, ifs, 0⟩] scope pos) spos) (tAsg (tLc wi (gName i) tt (tE (C.blk scope) elt) [i]) (gName iy)) :=
  ps_setLc (own := [(x, i)]) fx.calm (by rw [fx.N]; exact b.t.hN) (by rw [fx.N]; exact ty.hi) (by rw [fx.sc]; exact hyl) (sw_true (by rw [fx.sc]; exact hk) (by rw [fx.sc]; exact hyl) hl ha) hi (by rw [fx.N, fx.sc]; exact b.ok) (fun s H a cl fp => b.t.pg (fx.blk s H scope a cl fp)) (fun s H a cl fp => ht _ (fx.blk s H scope a cl fp)) (fun s H a cl fp => peE (fx.blk s H scope a cl fp)) (hs X.env)
theorem we_compL0 (i : Nat) {x : Str} {px : Pos} (b : Blk C scope i x) (hK : F.K = C.K) (hfs : ∀ (env : Env) (v : Value), foldedSetIterable iter env v = pure v)
    (h : WPE F C iter ρ k fun k1 d => ∃ (I : Nat → Nat → List PyData → Prop) (ds : List PyData), d = .list ds ∧ ds.length ≤ 1000000 ∧ I 0 k1 [] ∧ (∀ D (j : Nat) (y : PyData) k' acc, ds[j]? = some y → I j k' acc → WPE (F.ext D) (C.blk scope) elt (ρ.set i (.d y)) k' fun k2 z => I (j + 1) k2 (acc ++ [z])) ∧ (∀ k' acc, I ds.length k' acc → Φ k' (.list acc))) : WPE F C (.ListComp elt [⟨.Name x px, iter, [], 0⟩] scope pos) ρ k Φ :=
  of_pe (fun X fx => pe_lcX fx b (piL fx) (fun _ _ => pts_nil) hfs) (we_lcL i hK (h.imp fun k1 d ⟨I, ds, e, hz, i0, hs, he⟩ => ⟨I, ds, e, hz, i0, fun D j y k' acc hy ii => wt_yes (by rw [if_pos rfl]; exact hs D j y k' acc hy ii), he⟩))
theorem ws_compL0 (i iy : Nat) {x y : Str} {px py : Pos} (b : Blk C scope i x) (ty : Tgt C iy y) (hyl : C.sc.names.lookup y = some .local) (hk : C.sc.kind = .function) (hl : (py.line == pos.line) = true) (ha : (scope.names.any fun (n, k) => n == y && (k == .local || k == .cell)) = false) (hK : F.K = C.K) (hfs : ∀ (env : Env) (v : Value), foldedSetIterable iter env v = pure v)
    (h : WPE F C iter ρ k fun k1 d => ∃ (I : Nat → Nat → List PyData → Prop) (ds : List PyData), d = .list ds ∧ ds.length ≤ 1000000 ∧ I 0 k1 [] ∧ (∀ D (j : Nat) (y : PyData) k' acc, ds[j]? = some y → I j k' acc → WPE (F.ext D) (C.blk scope) elt (ρ.set i (.d y)) k' fun k2 z => I (j + 1) k2 (acc ++ [z])) ∧ (∀ k' acc, I ds.length k' acc → P.nx k' (ρ.set iy (.d (.list acc))))) : WPS F C (.Assign [.Name y py] (.ListComp elt [⟨.Name x px, iter, [], 0⟩] scope pos) spos) ρ k P :=
  of_ps (fun X fx => ps_lcX fx b ty hyl hk hl ha (piL fx) (fun _ _ => pts_nil) hfs) (ws_asgName iy (we_lcL i hK (h.imp fun k1 d ⟨I, ds, e, hz, i0, hs, he⟩ => ⟨I, ds, e, hz, i0, fun D j y k' acc hy ii => wt_yes (by rw [if_pos rfl]; exact hs D j y k' acc hy ii), he⟩)))
theorem we_compL1 (i : Nat) {x : Str} {px : Pos} {c : Expr} (b : Blk C scope i x) (hK : F.K = C.K) (hfs : ∀ (env : Env) (v : Value), foldedSetIterable iter env v = pure v)
    (h : WPE F C iter ρ k fun k1 d => ∃ (I : Nat → Nat → List PyData → Prop) (ds : List PyData), d = .list ds ∧ ds.length ≤ 1000000 ∧ I 0 k1 [] ∧ (∀ D (j : Nat) (y : PyData) k' acc, ds[j]? = some y → I j k' acc → WPT (F.ext D) (C.blk scope) c (ρ.set i (.d y)) k' fun k1 b => if b = true then WPE (F.ext D) (C.blk scope) elt (ρ.set i (.d y)) k1 fun k2 z => I (j + 1) k2 (acc ++ [z]) else I (j + 1) k1 acc) ∧ (∀ k' acc, I ds.length k' acc → Φ k' (.list acc))) : WPE F C (.ListComp elt [⟨.Name x px, iter, [c], 0⟩] scope pos) ρ k Φ :=
  of_pe (fun X fx => pe_lcX fx b (piL fx) (fun X' fx' => pts_one (ptT fx')) hfs) (we_lcL i hK h)
theorem ws_compL1 (i iy : Nat) {x y : Str} {px py : Pos} {c : Expr} (b : Blk C scope i x) (ty : Tgt C iy y) (hyl : C.sc.names.lookup y = some .local) (hk : C.sc.kind = .function) (hl : (py.line == pos.line) = true) (ha : (scope.names.any fun (n, k) => n == y && (k == .local || k == .cell)) = false) (hK : F.K = C.K) (hfs : ∀ (env : Env) (v : Value), foldedSetIterable iter env v = pure v)
    (h : WPE F C iter ρ k fun k1 d => ∃ (I : Nat → Nat → List PyData → Prop) (ds : List PyData), d = .list ds ∧ ds.length ≤ 1000000 ∧ I 0 k1 [] ∧ (∀ D (j : Nat) (y : PyData) k' acc, ds[j]? = some y → I j k' acc → WPT (F.ext D) (C.blk scope) c (ρ.set i (.d y)) k' fun k1 b => if b = true then WPE (F.ext D) (C.blk scope) elt (ρ.set i (.d y)) k1 fun k2 z => I (j + 1) k2 (acc ++ [z]) else I (j + 1) k1 acc) ∧ (∀ k' acc, I ds.length k' acc → P.nx k' (ρ.set iy (.d (.list acc))))) : WPS F C (.Assign [.Name y py] (.ListComp elt [⟨.Name x px, iter, [c], 0⟩] scope pos) spos) ρ k P :=
  of_ps (fun X fx => ps_lcX fx b ty hyl hk hl ha (piL fx) (fun X' fx' => pts_one (ptT fx')) hfs) (ws_asgName iy (we_lcL i hK h))
theorem we_compT0 (i : Nat) {x : Str} {px : Pos} (b : Blk C scope i x) (hK : F.K = C.K) (hfs : ∀ (env : Env) (v : Value), foldedSetIterable iter env v = pure v)
    (h : WPE F C iter ρ k fun k1 d => ∃ (I : Nat → Nat → List PyData → Prop) (ds : List PyData), d = .tuple ds ∧ ds.length ≤ 1000000 ∧ I 0 k1 [] ∧ (∀ D (j : Nat) (y : PyData) k' acc, ds[j]? = some y → I j k' acc → WPE (F.ext D) (C.blk scope) elt (ρ.set i (.d y)) k' fun k2 z => I (j + 1) k2 (acc ++ [z])) ∧ (∀ k' acc, I ds.length k' acc → Φ k' (.list acc))) : WPE F C (.ListComp elt [⟨.Name x px, iter, [], 0⟩] scope pos) ρ k Φ :=
  of_pe (fun X fx => pe_lcX fx b (piT fx) (fun _ _ => pts_nil) hfs) (we_lcT i hK (h.imp fun k1 d ⟨I, ds, e, hz, i0, hs, he⟩ => ⟨I, ds, e, hz, i0, fun D j y k' acc hy ii => wt_yes (by rw [if_pos rfl]; exact hs D j y k' acc hy ii), he⟩))
theorem ws_compT0 (i iy : Nat) {x y : Str} {px py : Pos} (b : Blk C scope i x) (ty : Tgt C iy y) (hyl : C.sc.names.lookup y = some .local) (hk : C.sc.kind = .function) (hl : (py.line == pos.line) = true) (ha : (scope.names.any fun (n, k) => n == y && (k == .local || k == .cell)) = false) (hK : F.K = C.K) (hfs : ∀ (env : Env) (v : Value), foldedSetIterable iter env v = pure v)
    (h : WPE F C iter ρ k fun k1 d => ∃ (I : Nat → Nat → List PyData → Prop) (ds : List PyData), d = .tuple ds ∧ ds.length ≤ 1000000 ∧ I 0 k1 [] ∧ (∀ D (j : Nat) (y : PyData) k' acc, ds[j]? = some y → I j k' acc → WPE (F.ext D) (C.blk scope) elt (ρ.set i (.d y)) k' fun k2 z => I (j + 1) k2 (acc ++ [z])) ∧ (∀ k' acc, I ds.length k' acc → P.nx k' (ρ.set iy (.d (.list acc))))) : WPS F C (.Assign [.Name y py] (.ListComp elt [⟨.Name x px, iter, [], 0⟩] scope pos) spos) ρ k P :=
  of_ps (fun X fx => ps_lcX fx b ty hyl hk hl ha (piT fx) (fun _ _ => pts_nil) hfs) (ws_asgName iy (we_lcT i hK (h.imp fun k1 d ⟨I, ds, e, hz, i0, hs, he⟩ => ⟨I, ds, e, hz, i0, fun D j y k' acc hy ii => wt_yes (by rw [if_pos rfl]; exact hs D j y k' acc hy ii), he⟩)))
theorem we_compT1 (i : Nat) {x : Str} {px : Pos} {c : Expr} (b : Blk C scope i x) (hK : F.K = C.K) (hfs : ∀ (env : Env) (v : Value), foldedSetIterable iter env v = pure v)
    (h : WPE F C iter ρ k fun k1 d => ∃ (I : Nat → Nat → List PyData → Prop) (ds : List PyData), d = .tuple ds ∧ ds.length ≤ 1000000 ∧ I 0 k1 [] ∧ (∀ D (j : Nat) (y : PyData) k' acc, ds[j]? = some y → I j k' acc → WPT (F.ext D) (C.blk scope) c (ρ.set i (.d y)) k' fun k1 b => if b = true then WPE (F.ext D) (C.blk scope) elt (ρ.set i (.d y)) k1 fun k2 z => I (j + 1) k2 (acc ++ [z]) else I (j + 1) k1 acc) ∧ (∀ k' acc, I ds.length k' acc → Φ k' (.list acc))) : WPE F C (.ListComp elt [⟨.Name x px, iter, [c], 0⟩] scope pos) ρ k Φ :=
  of_pe (fun X fx => pe_lcX fx b (piT fx) (fun X' fx' => pts_one (ptT fx')) hfs) (we_lcT i hK h)
theorem ws_compT1 (i iy : Nat) {x y : Str} {px py : Pos} {c : Expr} (b : Blk C scope i x) (ty : Tgt C iy y) (hyl : C.sc.names.lookup y = some .local) (hk : C.sc.kind = .function) (hl : (py.line == pos.line) = true) (ha : (scope.names.any fun (n, k) => n == y && (k == .local || k == .cell)) = false) (hK : F.K = C.K) (hfs : ∀ (env : Env) (v : Value), foldedSetIterable iter env v = pure v)
    (h : WPE F C iter ρ k fun k1 d => ∃ (I : Nat → Nat → List PyData → Prop) (ds : List PyData), d = .tuple ds ∧ ds.length ≤ 1000000 ∧ I 0 k1 [] ∧ (∀ D (j : Nat) (y : PyData) k' acc, ds[j]? = some y → I j k' acc → WPT (F.ext D) (C.blk scope) c (ρ.set i (.d y)) k' fun k1 b => if b = true then WPE (F.ext D) (C.blk scope) elt (ρ.set i (.d y)) k1 fun k2 z => I (j + 1) k2 (acc ++ [z]) else I (j + 1) k1 acc) ∧ (∀ k' acc, I ds.length k' acc → P.nx k' (ρ.set iy (.d (.list acc))))) : WPS F C (.Assign [.Name y py] (.ListComp elt [⟨.Name x px, iter, [c], 0⟩] scope pos) spos) ρ k P :=
  of_ps (fun X fx => ps_lcX fx b ty hyl hk hl ha (piT fx) (fun X' fx' => pts_one (ptT fx')) hfs) (ws_asgName iy (we_lcT i hK h))
theorem we_compR0 (i : Nat) {x : Str} {px : Pos} (b : Blk C scope i x) {e : Expr} {pr pr2 : Pos} (hg : C.sc.names.lookup ("range" : Str) = some .globalImplicit) (hm : C.mg ("range" : Str) = none) (hse : ∀ env : Env, starEach [e] env = [(false, eval e env)]) (hfs : ∀ (env : Env) (v : Value), foldedSetIterable (.Call (.Name "range" pr) [e] [] pr2) env v = pure v)
    (h : WPE F C e ρ k fun k1 d => ∃ (I : Nat → Nat → List PyData → Prop) (z : Int), d = .int z ∧ -(2 ^ 62) ≤ z ∧ z ≤ 1000000 ∧ I 0 k1 [] ∧ (∀ D (j : Nat) k' acc, j < z.toNat → I j k' acc → WPE (F.ext D) (C.blk scope) elt (ρ.set i (.d (.int j))) k' fun k2 z => I (j + 1) k2 (acc ++ [z])) ∧ (∀ k' acc, I z.toNat k' acc → Φ k' (.list acc))) : WPE F C (.ListComp elt [⟨.Name x px, (.Call (.Name "range" pr) [e] [] pr2), [], 0⟩] scope pos) ρ k Φ :=
  of_pe (fun X fx => pe_lcX fx b (pi_range1 (by show X.env.scope.names.lookup ("range" : Str) = _; rw [fx.sc]; exact hg) (by rw [fx.mg]; exact hm) (pa_cons (peE fx) pa_nil (hse X.env)) (hse X.env)) (fun _ _ => pts_nil) hfs) (we_lcR i (h.imp fun k1 d ⟨I, z, e, z1, z2, i0, hs, he⟩ => ⟨I, z, e, z1, z2, i0, fun D j k' acc hj ii => wt_yes (by rw [if_pos rfl]; exact hs D j k' acc hj ii), he⟩))
theorem ws_compR0 (i iy : Nat) {x y : Str} {px py : Pos} (b : Blk C scope i x) (ty : Tgt C iy y) (hyl : C.sc.names.lookup y = some .local) (hk : C.sc.kind = .function) (hl : (py.line == pos.line) = true) (ha : (scope.names.any fun (n, k) => n == y && (k == .local || k == .cell)) = false) {e : Expr} {pr pr2 : Pos} (hg : C.sc.names.lookup ("range" : Str) = some .globalImplicit) (hm : C.mg ("range" : Str) = none) (hse : ∀ env : Env, starEach [e] env = [(false, eval e env)]) (hfs : ∀ (env : Env) (v : Value), foldedSetIterable (.Call (.Name "range" pr) [e] [] pr2) env v = pure v)
    (h : WPE F C e ρ k fun k1 d => ∃ (I : Nat → Nat → List PyData → Prop) (z : Int), d = .int z ∧ -(2 ^ 62) ≤ z ∧ z ≤ 1000000 ∧ I 0 k1 [] ∧ (∀ D (j : Nat) k' acc, j < z.toNat → I j k' acc → WPE (F.ext D) (C.blk scope) elt (ρ.set i (.d (.int j))) k' fun k2 z => I (j + 1) k2 (acc ++ [z])) ∧ (∀ k' acc, I z.toNat k' acc → P.nx k' (ρ.set iy (.d (.list acc))))) : WPS F C (.Assign [.Name y py] (.ListComp elt [⟨.Name x px, (.Call (.Name "range" pr) [e] [] pr2), [], 0⟩] scope pos) spos) ρ k P :=
  of_ps (fun X fx => ps_lcX fx b ty hyl hk hl ha (pi_range1 (by show X.env.scope.names.lookup ("range" : Str) = _; rw [fx.sc]; exact hg) (by rw [fx.mg]; exact hm) (pa_cons (peE fx) pa_nil (hse X.env)) (hse X.env)) (fun _ _ => pts_nil) hfs) (ws_asgName iy (we_lcR i (h.imp fun k1 d ⟨I, z, e, z1, z2, i0, hs, he⟩ => ⟨I, z, e, z1, z2, i0, fun D j k' acc hj ii => wt_yes (by rw [if_pos rfl]; exact hs D j k' acc hj ii), he⟩)))
theorem we_compR1 (i : Nat) {x : Str} {px : Pos} {c : Expr} (b : Blk C scope i x) {e : Expr} {pr pr2 : Pos} (hg : C.sc.names.lookup ("range" : Str) = some .globalImplicit) (hm : C.mg ("range" : Str) = none) (hse : ∀ env : Env, starEach [e] env = [(false, eval e env)]) (hfs : ∀ (env : Env) (v : Value), foldedSetIterable (.Call (.Name "range" pr) [e] [] pr2) env v = pure v)
    (h : WPE F C e ρ k fun k1 d => ∃ (I : Nat → Nat → List PyData → Prop) (z : Int), d = .int z ∧ -(2 ^ 62) ≤ z ∧ z ≤ 1000000 ∧ I 0 k1 [] ∧ (∀ D (j : Nat) k' acc, j < z.toNat → I j k' acc → WPT (F.ext D) (C.blk scope) c (ρ.set i (.d (.int j))) k' fun k1 b => if b = true then WPE (F.ext D) (C.blk scope) elt (ρ.set i (.d (.int j))) k1 fun k2 z => I (j + 1) k2 (acc ++ [z]) else I (j + 1) k1 acc) ∧ (∀ k' acc, I z.toNat k' acc → Φ k' (.list acc))) : WPE F C (.ListComp elt [⟨.Name x px, (.Call (.Name "range" pr) [e] [] pr2), [c], 0⟩] scope pos) ρ k Φ :=
  of_pe (fun X fx => pe_lcX fx b (pi_range1 (by show X.env.scope.names.lookup ("range" : Str) = _; rw [fx.sc]; exact hg) (by rw [fx.mg]; exact hm) (pa_cons (peE fx) pa_nil (hse X.env)) (hse X.env)) (fun X' fx' => pts_one (ptT fx')) hfs) (we_lcR i h)
theorem ws_compR1 (i iy : Nat) {x y : Str} {px py : Pos} {c : Expr} (b : Blk C scope i x) (ty : Tgt C iy y) (hyl : C.sc.names.lookup y = some .local) (hk : C.sc.kind = .function) (hl : (py.line == pos.line) = true) (ha : (scope.names.any fun (n, k) => n == y && (k == .local || k == .cell)) = false) {e : Expr} {pr pr2 : Pos} (hg : C.sc.names.lookup ("range" : Str) = some .globalImplicit) (hm : C.mg ("range" : Str) = none) (hse : ∀ env : Env, starEach [e] env = [(false, eval e env)]) (hfs : ∀ (env : Env) (v : Value), foldedSetIterable (.Call (.Name "range" pr) [e] [] pr2) env v = pure v)
    (h : WPE F C e ρ k fun k1 d => ∃ (I : Nat → Nat → List PyData → Prop) (z : Int), d = .int z ∧ -(2 ^ 62) ≤ z ∧ z ≤ 1000000 ∧ I 0 k1 [] ∧ (∀ D (j : Nat) k' acc, j < z.toNat → I j k' acc → WPT (F.ext D) (C.blk scope) c (ρ.set i (.d (.int j))) k' fun k1 b => if b = true then WPE (F.ext D) (C.blk scope) elt (ρ.set i (.d (.int j))) k1 fun k2 z => I (j + 1) k2 (acc ++ [z]) else I (j + 1) k1 acc) ∧ (∀ k' acc, I z.toNat k' acc → P.nx k' (ρ.set iy (.d (.list acc))))) : WPS F C (.Assign [.Name y py] (.ListComp elt [⟨.Name x px, (.Call (.Name "range" pr) [e] [] pr2), [c], 0⟩] scope pos) spos) ρ k P :=
  of_ps (fun X fx => ps_lcX fx b ty hyl hk hl ha (pi_range1 (by show X.env.scope.names.lookup ("range" : Str) = _; rw [fx.sc]; exact hg) (by rw [fx.mg]; exact hm) (pa_cons (peE fx) pa_nil (hse X.env)) (hse X.env)) (fun X' fx' => pts_one (ptT fx')) hfs) (ws_asgName iy (we_lcR i h))
end
end Dl

namespace Dl
open PySem PySem.Spec PyProof.Rows L2

/-! ### defs whose promise holds where no repr is under way -/
structure FnG (P : Program) (w : World) (K : PySem.W.Frag) (mg : Str → Option Value) (base : Heap) (k : Nat) (f : Addr) (fd : FuncData) (ps : List Str) (sp : Sp) : Prop where
  len : ∀ vs H Q E, sp vs H Q E → vs.length = ps.length
  run : ∀ (A : Around) (outer : List Env) (s : Shared) (H : Hp) (args : Args) (us : List Value) (vs : List V) (Q : VK), A.guards = some [] → Room k A → Env0 P w K mg base A outer s H → BindsTo s fd args (ps.zip us) → Vals vs us → sp vs H Q E0 →
    codeAny (model P w) A (.call (.ref f) args) (CR CX0 outer P w H s Q E0) s
section
variable {P : Program} {w : World} {K : PySem.W.Frag} {mg : Str → Option Value} {base : Heap}
theorem FnG.of_body {x qual : Str} {st : Stmt} {f : Addr} {fd : FuncData} {N ps : List Str} {k : Nat} {sp : Sp} (Fn : Fun K x qual st f fd) (Sc : FnScope N ps (defScope st)) (len : ∀ vs H Q E, sp vs H Q E → vs.length = ps.length)
    (body : ∀ (cdv : Value) (A : Around) (outer : List Env) (s : Shared) (H : Hp) (vs : List V) (Q : VK), A.guards = some [] → Room k (A.deeper (envOfC qual (defScope st) s.heap.objs.size f cdv)) → sp vs H Q E0 →
      ∃ t, PSs (cxOf CX0 P w K mg base N qual (defScope st) f cdv A outer s H E0).nox (defBody st) t ∧ t { nx := fun _ H' => Q .non H', rt := Q } (L2.start N vs) H) :
    FnG P w K mg base (k + 1) f fd ps sp := by
  obtain ⟨oc, od, kV, doc, pm, an, cdv, ct, osl, efd, look, hcode⟩ := Fn.ex
  subst efd
  constructor
  · exact len
  intro A outer s H args us vs Q hgd room env hbind rel hsp
  have hlen := len vs H Q E0 hsp
  have inK : K.In s.heap := env.mod.kin.keeps fun b o z => (env.bs b o z).1
  have nolim : s.heap.NoLimit := env.mod.nolimit.keeps fun b o z => (env.bs b o z).1
  refine codeAny_call_function room.depth (inK f _ look) rfl Sc.co Sc.gen rfl (PySem.W.codeRec_of inK hcode) (hbind _ _ _ _ ?_)
  have kinds : ∀ y ∈ ps.zip us, (defScope st).names.lookup y.1 = some .local ∨ ((defScope st).names.lookup y.1 = some .cell ∧ ((cellsFrom (s.heap.objs.size + 1) (defScope st).names []).lookup y.1).isSome = true) := by
    rintro ⟨n, v⟩ hy
    have hn : n ∈ ps := (List.of_mem_zip hy).1
    cases Sc.par n hn with
    | inl q => left; exact q
    | inr q => right; exact ⟨q, PySem.W.cellsFrom_some _ _ _ (Or.inl q)⟩
  apply wpAny_newFunctionEnv_cells Sc.kind kinds
  intro env' he s1 ic
  subst he
  refine ⟨nolim.keeps ic.toInCall.keep, codeAny_func ?_⟩
  obtain ⟨t, ht, hq⟩ := body cdv A outer s H vs Q hgd (room.deeper _) hsp
  have inv : Inv (cxOf CX0 P w K mg base N qual (defScope st) f cdv A outer s H E0) [] (L2.start N vs) H s1 := inv_start Sc room.hd env hlen rel ic
  refine wpAny_mono (ht.nox.run [] s1 _ H _ inv hq) ?_ (fun e s' z => z)
  intro fl s' hfl
  cases fl with
  | ret u => exact let ⟨v, _, H', j, rv, q⟩ := hfl; ⟨v, H', j.os, j.bare, j.base, j.hok, rv, q⟩
  | next => exact let ⟨_, H', j, q⟩ := hfl; ⟨V.non, H', j.os, j.bare, j.base, j.hok, rfl, q⟩
  | brk => exact let ⟨_, _, _, q⟩ := hfl; False.elim q
  | cont => exact let ⟨_, _, _, q⟩ := hfl; False.elim q
theorem FnG.mono {j k : Nat} {f : Addr} {fd : FuncData} {ps : List Str} {sp : Sp} (G : FnG P w K mg base j f fd ps sp) (h : j ≤ k) : FnG P w K mg base k f fd ps sp :=
  ⟨G.len, fun A outer s H args us vs Q g room => G.run A outer s H args us vs Q g (room.mono h)⟩
end
section
variable {X : Cx} {x : Str} {p pos : Pos} {e : Expr} {es : List Expr} {t : TA} {k : Nat} {f : Addr} {fd : FuncData} {ps : List Str} {sp : Sp}
theorem FnG.call_run {pins : List (Addr × Obj)} {σ : L2.St} {H : Hp} {s : Shared} {Q : VK} {us : List Value} {vs : List V} (G : FnG X.prog X.w X.K X.mg X.base k f fd ps sp) (gd : X.A.guards = some []) (room : Room k X.A) (hb : L2.Binds X.K fd ps [])
    (I : Inv X pins σ H s) (r : Vals vs us) (h : sp vs H Q E0) : wpAny (model X.prog X.w) X.A (call (.ref f) us) (EP X pins σ Q) X.xe s := by
  have hl : us.length = ps.length := r.length.symm.trans (G.len vs H Q E0 h)
  have bind := hb s us I.kIn (by rw [List.append_nil]; exact hl)
  rw [List.append_nil] at bind
  refine wpAny_call (codeAny_mono (G.run X.A X.stack s H ⟨us, []⟩ us vs Q gd room I.env0 bind r h) ?_)
  intro res s' hr
  match res, hr with
  | .ok (.ret u), hr => exact I.after hr
  | .ok .next, hr => exact False.elim hr
  | .ok .brk, hr => exact False.elim hr
  | .ok .cont, hr => exact False.elim hr
  | .error _, hr => exact False.elim hr
theorem FnG.pe (G : FnG X.prog X.w X.K X.mg X.base k f fd ps sp) (gd : X.A.guards = some []) (room : Room k X.A) (hb : L2.Binds X.K fd ps []) (hg : Gl X x) (hm : X.mg x = some (.ref f)) (kp : PySem.W.keepIn X.K (.ref f) = true)
    (ha : PA X (e :: es) t) (hdb : (x == ("__debug__" : Str)) = false) (hss : starEach (e :: es) X.env = (false, eval e X.env) :: starEach es X.env) (hpl : ((backTo pos (starEach es X.env)).any fun z => z.fst) = false) :
    PE X (.Call (.Name x p) (e :: es) [] pos) (fun σ H Q => t σ H fun vs H1 => sp vs H1 Q E0) := by
  constructor
  intro pins s σ H Q I h
  refine wpAny_Call_Name_kw (ld_glob I hg hm ?_ hdb)
  refine PySem.W.callWith_K (h₀ := X.base) I.ok.mod.kin kp (wpAny_mono (ha.run pos pins s σ H _ I h) ?_ fun _ _ z => z) hss hpl
  rintro us s1 ⟨vs, H1, I1, rv, q⟩
  exact ⟨I1.kIn, G.call_run gd room hb I1 rv q⟩
end
/-! ### the law's end -/
theorem law_end {P : Program} {w : World} {K : PySem.W.Frag} {mg mb : Str → Option Value} {k : Nat} {fa a : Addr} {fd : FuncData} {x : Str} {sp : Sp} {s1 : Shared} {vs : List Value} {ns : List Int}
    (inK : K.In s1.heap) (hns : s1.heap.Ns mainGlobals mg) (hbl : s1.heap.Ns builtinsNs mb) (hboot : ∀ x : Str, x ≠ "__name__" → mb x = bootBuiltins x) (nolim : s1.heap.NoLimit) (nogen : s1.gens = #[])
    (ha : s1.heap.get? a = some { cls := .type "list", data := .seq vs.toArray }) (hint : IntsAre vs ns) (hlen : ns.length ≤ sizeLine) (room : Room k callerA)
    (G : ∀ base : Heap, K.In base → base.Ns mainGlobals mg → FnG P w K mg base k fa fd [x] sp) (hbind : ∀ (s : Shared) (u : Value), BindsTo s fd ⟨[u], []⟩ [(x, u)])
    (hsp : ∀ H : Hp, (∀ b, H b = none ∨ ∃ o xs, H b = some (.frz o (.lst xs))) → SqL K H a (ns.map V.int) → sp [.ref a] H (fun v _ => v = .bl true) E0) :
    codeAny (model P w) callerA (.call (.ref fa) ⟨[.ref a], []⟩) (fun r s' => r = .ok (.ret (.bool true)) ∧ OldK s1.heap s'.heap ∧ s'.os = s1.os ∧ AllBare s'.gens) s1 := by
  -- the abstract heap: the script alone, where it is none of the module's own
  let H : Hp := fun b => if b = a ∧ K.lookup a = none then some (.frz { cls := .type "list", data := .seq vs.toArray } (.lst (ns.map V.int))) else none
  have Hcase : ∀ b, H b = none ∨ (b = a ∧ K.lookup a = none ∧ H b = some (.frz { cls := .type "list", data := .seq vs.toArray } (.lst (ns.map V.int)))) := by
    intro b
    by_cases c : b = a ∧ K.lookup a = none
    · exact Or.inr ⟨c.1, c.2, if_pos c⟩
    · exact Or.inl (if_neg c)
  have only : ∀ b, H b = none ∨ ∃ o xs, H b = some (.frz o (.lst xs)) := fun b => (Hcase b).imp id fun z => ⟨_, _, z.2.2⟩
  have rel : Vals (ns.map V.int) vs := vals_ints hint
  have hsq : SqL K H a (ns.map V.int) := by
    cases c : K.lookup a with
    | none => exact Or.inl (Or.inr ⟨_, if_pos ⟨rfl, c⟩⟩)
    | some o =>
      have z := inK a o c
      rw [ha] at z
      cases z
      exact Or.inr ⟨_, vs.toArray, _, c, rfl, rfl, rfl, (by rw [List.size_toArray, ← rel.length, List.length_map]; exact hlen), (by simpa using rel)⟩
  have hok : HOk P w H s1.heap := by
    intro b u z
    rcases Hcase b with q | ⟨e, _, q⟩
    · rw [q] at z; cases z
    · rw [q] at z
      cases z
      subst e
      exact ⟨ha, by rw [List.length_map]; exact hlen, vs, _, rel, ha⟩
  -- what is not the script stands in the base
  have keepB : ∀ {b : Addr} {o : Obj}, s1.heap.get? b = some o → H b = none → (hidT s1.heap H).get? b = some o := fun z n => hidT_get z n
  have nsB : ∀ {b : Addr} {m : Str → Option Value}, s1.heap.Ns b m → (hidT s1.heap H).Ns b m := by
    rintro b m ⟨o, es, ep, z, d, r⟩
    refine ⟨o, es, ep, keepB z ?_, d, r⟩
    rcases Hcase b with q | ⟨e, _, _⟩
    · exact q
    · rw [e, ha] at z
      cases z
      have d' : Data.seq vs.toArray _ = Data.dict es ep := d
      cases d'
  have inB : K.In (hidT s1.heap H) := by
    intro b o z
    refine keepB (inK b o z) ?_
    rcases Hcase b with q | ⟨e, c, _⟩
    · exact q
    · rw [e, c] at z; cases z
  have mod : Mod K mg (hidT s1.heap H) := ⟨inB, nsB hns, ⟨mb, nsB hbl, hboot⟩, let ⟨m, z1, z2⟩ := nolim; ⟨m, nsB z1, z2⟩⟩
  have env : Env0 P w K mg (hidT s1.heap H) callerA [] s1 H := by
    refine ⟨rfl, mod, fun b o z => of_hidT z, Nat.le_of_eq (hidT_size _ _), trivial, ?_, hok, .of_eq nogen⟩
    intro b z
    have z' : b ∈ ([] : List Addr) := z
    cases z'
  refine codeAny_mono ((G _ inB (nsB hns)).run callerA [] s1 H ⟨[.ref a], []⟩ [.ref a] [.ref a] _ rfl room env (hbind s1 (.ref a)) (.cons rfl .nil) (hsp H only hsq)) ?_
  intro res s' hr
  match res, hr with
  | .ok (.ret u), hr =>
    obtain ⟨v, H', os, bare, un, hok', rv, q⟩ := hr
    have q' : v = .bl true := q
    subst q'
    obtain rfl : u = Value.bool true := rv
    refine ⟨rfl, OldK.of_keep ?_, os, bare⟩
    intro b o z
    rcases Hcase b with c | ⟨e, _, c⟩
    · exact un.keep b o z c (fun y => by have y' : b ∈ ([] : List Addr) := y; cases y') (fun y => by cases y)
    · have c2 := un.frzs b _ _ c
      obtain ⟨e1, _⟩ := hok b _ c
      obtain ⟨e2, _⟩ := hok' b _ c2
      rw [z] at e1
      cases e1
      exact e2
  | .ok .next, hr => exact False.elim hr
  | .ok .brk, hr => exact False.elim hr
  | .ok .cont, hr => exact False.elim hr
  | .error _, hr => exact False.elim hr
theorem walk_end {l : PySem.W.OpenLaw} {n k : Nat} {q : Program} {loose : List Str} {XP : (Str → Option Value) → Heap → Prop} {YP : World → Heap → Prop} {d : DefRec} {K : Params → PySem.W.Frag} {sp : PySem.W.Frag → Sp} {x : Str}
    (hmost : l.most = some n) (hsmall : n ≤ sizeLine) (nodef : d.params.defaults = []) (room : Room k callerA) (hY : ∀ (w : World) (h : Heap), YP w h → (K w.params).In h)
    (G : ∀ (w : World) (mg : Str → Option Value) (fa : Addr) (h : Heap), (K w.params).In h → h.Ns mainGlobals mg → mg d.name = some (.ref fa) →
      ∃ fd : FuncData, (∀ (s : Shared) (u : Value), BindsTo s fd ⟨[u], []⟩ [(x, u)]) ∧ ∀ base : Heap, (K w.params).In base → base.Ns mainGlobals mg → FnG l.prog w (K w.params) mg base k fa fd [x] (sp (K w.params)))
    (hsp : ∀ (K : PySem.W.Frag) (H : Hp) (a : Addr) (ns : List Int), ns.length ≤ n → (∀ b, H b = none ∨ ∃ o xs, H b = some (.frz o (.lst xs))) → SqL K H a (ns.map V.int) → sp K [.ref a] H (fun v _ => v = .bl true) E0) :
    PySem.W.WalkO q loose XP YP l.row.toRowW d [] (fun f vs => PySem.call f vs) := by
  apply Att.attach_call hmost nodef
  intro w s0 s1 mg mb fa o pm cd doc a vs ns Gr Y _ _ _ hmg hobj hint hlen hgen
  obtain ⟨fd, hb, hG⟩ := G w mg fa _ (hY w _ Y) Gr.T.g hmg
  exact law_end (hY w _ Y) Gr.T.g Gr.T.b Gr.T.builtins Gr.T.nolimit hgen hobj hint (Nat.le_trans hlen hsmall) room hG hb fun H hO hS => hsp _ H a ns hlen hO hS
end Dl

namespace Dl
open PySem PySem.Spec PyProof.Rows L2

/-! ### defs that only read: the promise R, arguments to result -/
abbrev Rel := List PyData → PyData → Prop
def spPure (K : PySem.W.Frag) (R : Rel) : Sp := fun vs H Q _ => ∃ (S : Addr → Prop) (ds : List PyData) (d : PyData), (∀ b, S b → Lv H b) ∧ RepAll K S H vs ds ∧ R ds d ∧ ∀ v H', Same H H' → Rep K S H' v d → Q v H'
structure PFn (P : Program) (w : World) (K : PySem.W.Frag) (mg : Str → Option Value) (base : Heap) (lvl : Nat) (x : Str) (R : Rel) : Prop where
  ex : ∃ (fa : Addr) (fd : FuncData) (ps : List Str), FnG P w K mg base lvl fa fd ps (spPure K R) ∧ mg x = some (.ref fa) ∧ PySem.W.keepIn K (.ref fa) = true ∧ L2.Binds K fd ps []
def pureFm (K : PySem.W.Frag) (S : Addr → Prop) (H : Hp) : Fm := { K := K, S := S, M := fun _ => False, H0 := H, G := fun _ _ => True, ms := fun _ h => h.elim, gm := fun _ _ _ _ _ _ => trivial, gl := fun _ _ _ _ h => h.elim }
def bodyCs (P : Program) (w : World) (K : PySem.W.Frag) (mg : Str → Option Value) (base : Heap) (N : List Str) (sc : Scope) (lvl : Nat) : Cs := ⟨P, w, K, mg, base, N, sc, fun _ => true, lvl⟩
theorem fits_body {CX : CXT} {P : Program} {w : World} {K : PySem.W.Frag} {mg : Str → Option Value} {base : Heap} {N : List Str} {qual : Str} {sc : Scope} {f : Addr} {cd : Value} {A : Around} {outer : List Env} {s : Shared} {H : Hp} {E : XK} {k : Nat} (hgd : A.guards = some []) (hr : Room k (A.deeper (envOfC qual sc s.heap.objs.size f cd))) :
    Fits (bodyCs P w K mg base N sc k) (cxOf CX P w K mg base N qual sc f cd A outer s H E).nox := ⟨rfl, rfl, rfl, rfl, rfl, rfl, rfl, rfl, rfl, hr, rfl, hgd⟩
def startR (N : List Str) (ds : List PyData) : Rho := ds.map .d ++ List.replicate (N.length - ds.length) .un
theorem env_start {F : Fm} {H : Hp} {N : List Str} {vs : List V} {ds : List PyData} (r : RpAll F H vs ds) : EnvOk F H (start N vs) (startR N ds) := fun i sv e => by
  have hl := r.length
  unfold L2.start
  by_cases hi : i < ds.length
  · have e1 : (startR N ds)[i]? = some (.d ds[i]) := by
      unfold startR
      rw [List.getElem?_append_left (by simpa using hi), List.getElem?_map, List.getElem?_eq_getElem hi]; rfl
    rw [e1] at e
    cases e
    obtain ⟨v, hv, rv⟩ := r.get (List.getElem?_eq_getElem hi)
    refine ⟨some v, ?_, v, rfl, rv⟩
    rw [List.getElem?_append_left (by simpa [hl] using hi), List.getElem?_map, hv]; rfl
  · unfold startR at e
    rw [List.getElem?_append_right (by simpa using hi)] at e
    rw [List.getElem?_append_right (by simp; omega)]
    simp only [List.length_map] at e ⊢
    rw [List.getElem?_replicate] at e ⊢
    rw [hl]
    by_cases hj : i - ds.length < N.length - ds.length
    · rw [if_pos hj] at e ⊢
      cases e
      exact ⟨none, rfl, trivial⟩
    · rw [if_neg hj] at e; cases e
section
variable {P : Program} {w : World} {K : PySem.W.Frag} {mg : Str → Option Value} {base : Heap}
/-- a def that only reads keeps its promise -/
theorem pure_ok {x qual : Str} {st : Stmt} {f : Addr} {fd : FuncData} {N ps : List Str} {k : Nat} {R : Rel} (Fn : Fun K x qual st f fd) (Sc : FnScope N ps (defScope st)) (len : ∀ ds d, R ds d → ds.length = ps.length)
    (body : ∀ (F : Fm) (ds : List PyData) (d : PyData), F.K = K → R ds d → WPB F (bodyCs P w K mg base N (defScope st) k) (defBody st) (startR N ds) 0 { nx := fun _ _ => d = .none, rt := fun _ d' => d' = d, bk := fun _ _ => False, ct := fun _ _ => False }) :
    FnG P w K mg base (k + 1) f fd ps (spPure K R) := by
  refine FnG.of_body Fn Sc (fun vs H Q E h => ?_) (fun cdv A outer s H vs Q hgd hr h => ?_)
  · obtain ⟨S, ds, d, _, r, hR, _⟩ := h
    rw [RepAll.length r, len ds d hR]
  · obtain ⟨S, ds, d, al, r, hR, q⟩ := h
    refine ⟨_, pbB (fits_body hgd hr), ?_⟩
    refine body (pureFm K S H) ds d rfl hR (start N vs) H _ (env_start (F := pureFm K S H) r) ⟨trivial, fun b o _ e => e, al⟩ ?_ ?_ ?_ ?_
    · exact fun ρ' σ' k' H' _ _ j' e => q _ H' (fun b o h => j'.le b o (fun z => z.elim id id) h) (by rw [e]; exact .non)
    · exact fun v d' k' H' j' r' e => q v H' (fun b o h => j'.le b o (fun z => z.elim id id) h) (e ▸ r')
    · exact fun _ _ _ _ _ _ _ z => z.elim
    · exact fun _ _ _ _ _ _ _ z => z.elim
end
section
variable {F : Fm} {C : Cs} {ρ : Rho} {k : Nat} {Φ Φ' : Nat → PyData → Prop} {Ψ Ψ' : Nat → Bool → Prop} {e a b : Expr} {es : List Expr} {pos : Pos} {P : DE}
theorem pe_callF {x : Str} {p : Pos} {j : Nat} {fa : Addr} {fd : FuncData} {ps : List Str} {sp : Sp} {t : TA} {X : Cx} (fx : Fits C X) (G : FnG C.P C.w C.K C.mg C.base j fa fd ps sp) (hl : j ≤ C.lvl) (hg : C.sc.names.lookup x = some .globalImplicit) (hm : C.mg x = some (.ref fa)) (kp : PySem.W.keepIn C.K (.ref fa) = true) (hb : L2.Binds C.K fd ps [])
    (ha : PA X (e :: es) t) (hdb : (x == ("__debug__" : Str)) = false) (hss : ∀ env : Env, starEach (e :: es) env = (false, eval e env) :: starEach es env) (hpl : ∀ env : Env, ((backTo pos (starEach es env)).any fun x => x.fst) = false) : PE X (.Call (.Name x p) (e :: es) [] pos) (fun σ H Q => t σ H fun vs H1 => sp vs H1 Q E0) :=
  FnG.pe (by rw [fx.P, fx.w, fx.K, fx.mg, fx.base]; exact G) fx.gd (fx.room.mono hl) (by rw [fx.K]; exact hb) (by show X.env.scope.names.lookup x = _; rw [fx.sc]; exact hg) (by rw [fx.mg]; exact hm) (by rw [fx.K]; exact kp) ha hdb (hss X.env) (hpl X.env)
/-- a call of a def that only reads -/
theorem we_callP {x : Str} {R : Rel} {p : Pos} {j : Nat} (hF : PFn C.P C.w C.K C.mg C.base j x R) (hl : j ≤ C.lvl) (hK : F.K = C.K) (hg : C.sc.names.lookup x = some .globalImplicit)
    (h : WPA F C (e :: es) ρ k fun k1 ds => ∃ d, R ds d ∧ Φ k1 d) (hdb : (x == ("__debug__" : Str)) = false := by decide) (hss : ∀ env : Env, starEach (e :: es) env = (false, eval e env) :: starEach es env := by intro _; rfl) (hpl : ∀ env : Env, ((backTo pos (starEach es env)).any fun x => x.fst) = false := by intro _; rfl) :
    WPE F C (.Call (.Name x p) (e :: es) [] pos) ρ k Φ := by
  obtain ⟨fa, fd, ps, G, hm, kp, hb⟩ := hF.ex
  refine of_pe (fun X fx => pe_callF fx G hl hg hm kp hb (paA fx) hdb hss hpl) fun σ H Q en jj q => ?_
  refine h σ H _ en jj fun vs ds k1 H1 l1 j1 r1 ⟨d, hR, p⟩ => ?_
  refine ⟨F.S, ds, d, j1.al, hK ▸ r1, hR, fun v H' sm rv => ?_⟩
  have le : Le F H1 H' := fun b o _ e => sm b o e
  refine q v d k1 H' (l1.trans le) ⟨F.gm _ _ _ j1.g (fun b hb => ?_) (fun b o _ e => sm b o e), fun b o n e => sm b o (j1.le b o n e), fun b hb => (j1.al b hb).keep fun o e => sm b o e⟩ (by show Rep F.K F.S H' v d; rw [hK]; exact rv) p
  cases e : H1 b with
  | none => exact absurd e (F.gl _ _ j1.g b hb)
  | some o => exact sm b o e

/-! ### operations on data -/
theorem rd_or1 {r r' : R2} {x y : PyData} (h : RD F r x y k Φ) : RD F (fun x y H Q => r x y H Q ∨ r' x y H Q) x y k Φ := fun H vx vy Q j rx ry q => .inl (h H vx vy Q j rx ry q)
theorem rd_or2 {r r' : R2} {x y : PyData} (h : RD F r' x y k Φ) : RD F (fun x y H Q => r x y H Q ∨ r' x y H Q) x y k Φ := fun H vx vy Q j rx ry q => .inr (h H vx vy Q j rx ry q)
theorem rd_II {g : Int → Int → Int} {i j : Int} (h : Φ k (.int (g i j))) : RD F (rI0 fun i j => .int (g i j)) (.int i) (.int j) k Φ := fun H vx vy Q jj rx ry q => by
  cases rx; cases ry; exact ⟨i, j, rfl, rfl, q _ _ k H .refl jj (.int _) h⟩
theorem rd_IB {g : Int → Int → Bool} {i j : Int} (h : Φ k (.bool (g i j))) : RD F (rI0 fun i j => .bl (g i j)) (.int i) (.int j) k Φ := fun H vx vy Q jj rx ry q => by
  cases rx; cases ry; exact ⟨i, j, rfl, rfl, q _ _ k H .refl jj (.bl _) h⟩
theorem rd_IC {c : Int → Int → Prop} {g : Int → Int → Int} {i j : Int} (hc : c i j) (h : Φ k (.int (g i j))) : RD F (rI c fun i j => .int (g i j)) (.int i) (.int j) k Φ := fun H vx vy Q jj rx ry q => by
  cases rx; cases ry; exact ⟨i, j, rfl, rfl, hc, q _ _ k H .refl jj (.int _) h⟩
theorem we_add (h : WPE F C a ρ k fun k1 x => WPE F C b ρ k1 fun k2 y => ∃ i j, x = .int i ∧ y = .int j ∧ Φ k2 (.int (i + j))) : WPE F C (.BinOp a .Add b pos) ρ k Φ :=
  we_bin (fun X _ => op_add) (h.imp fun k1 x h1 => h1.imp fun k2 y ⟨i, j, e1, e2, p⟩ => by subst e1 e2; exact rd_II p)
theorem we_sub (h : WPE F C a ρ k fun k1 x => WPE F C b ρ k1 fun k2 y => ∃ i j, x = .int i ∧ y = .int j ∧ Φ k2 (.int (i - j))) : WPE F C (.BinOp a .Sub b pos) ρ k Φ :=
  we_bin (fun X _ => op_sub) (h.imp fun k1 x h1 => h1.imp fun k2 y ⟨i, j, e1, e2, p⟩ => by subst e1 e2; exact rd_II p)
theorem we_mul (h : WPE F C a ρ k fun k1 x => WPE F C b ρ k1 fun k2 y => ∃ i j, x = .int i ∧ y = .int j ∧ CMul i j ∧ Φ k2 (.int (i * j))) : WPE F C (.BinOp a .Mult b pos) ρ k Φ :=
  we_bin (fun X _ => op_mul) (h.imp fun k1 x h1 => h1.imp fun k2 y ⟨i, j, e1, e2, c, p⟩ => by subst e1 e2; exact rd_IC c p)
theorem we_fdiv (h : WPE F C a ρ k fun k1 x => WPE F C b ρ k1 fun k2 y => ∃ i j, x = .int i ∧ y = .int j ∧ (0 < j ∧ j < 1073741824) ∧ Φ k2 (.int (i / j))) : WPE F C (.BinOp a .FloorDiv b pos) ρ k Φ :=
  we_bin (fun X _ => op_fdiv) (h.imp fun k1 x h1 => h1.imp fun k2 y ⟨i, j, e1, e2, c, p⟩ => by subst e1 e2; exact rd_IC (c := CDiv) c p)
theorem we_mod (h : WPE F C a ρ k fun k1 x => WPE F C b ρ k1 fun k2 y => ∃ i j, x = .int i ∧ y = .int j ∧ 0 < j ∧ Φ k2 (.int (i % j))) : WPE F C (.BinOp a .Mod b pos) ρ k Φ :=
  we_bin (fun X _ => op_mod) (h.imp fun k1 x h1 => h1.imp fun k2 y ⟨i, j, e1, e2, c, p⟩ => by subst e1 e2; exact rd_IC c p)
theorem we_shl (h : WPE F C a ρ k fun k1 x => WPE F C b ρ k1 fun k2 y => ∃ i j, x = .int i ∧ y = .int j ∧ (0 ≤ j ∧ j ≤ 1000000 ∧ i.natAbs < 2 ^ 64) ∧ Φ k2 (.int (i * 2 ^ j.toNat))) : WPE F C (.BinOp a .LShift b pos) ρ k Φ :=
  we_bin (fun X _ => op_shl) (h.imp fun k1 x h1 => h1.imp fun k2 y ⟨i, j, e1, e2, c, p⟩ => by subst e1 e2; exact rd_IC (c := CPow) c p)
theorem we_shr (h : WPE F C a ρ k fun k1 x => WPE F C b ρ k1 fun k2 y => ∃ i j, x = .int i ∧ y = .int j ∧ 0 ≤ j ∧ Φ k2 (.int (i / 2 ^ j.toNat))) : WPE F C (.BinOp a .RShift b pos) ρ k Φ :=
  we_bin (fun X _ => op_shr) (h.imp fun k1 x h1 => h1.imp fun k2 y ⟨i, j, e1, e2, c, p⟩ => by subst e1 e2; exact rd_IC c p)
theorem we_pow (h : WPE F C a ρ k fun k1 x => WPE F C b ρ k1 fun k2 y => ∃ i j, x = .int i ∧ y = .int j ∧ (0 ≤ j ∧ j ≤ 1000000 ∧ i.natAbs < 2 ^ 64) ∧ Φ k2 (.int (i ^ j.toNat))) : WPE F C (.BinOp a .Pow b pos) ρ k Φ :=
  we_bin (fun X _ => op_pow) (h.imp fun k1 x h1 => h1.imp fun k2 y ⟨i, j, e1, e2, c, p⟩ => by subst e1 e2; exact rd_IC (c := CPow) c p)
theorem we_band (h : WPE F C a ρ k fun k1 x => WPE F C b ρ k1 fun k2 y => ∃ i j, x = .int i ∧ y = .int j ∧ Φ k2 (.int (Builtin.bitAnd i j))) : WPE F C (.BinOp a .BitAnd b pos) ρ k Φ :=
  we_bin (fun X _ => op_and) (h.imp fun k1 x h1 => h1.imp fun k2 y ⟨i, j, e1, e2, p⟩ => by subst e1 e2; exact rd_II p)
theorem we_bor (h : WPE F C a ρ k fun k1 x => WPE F C b ρ k1 fun k2 y => ∃ i j, x = .int i ∧ y = .int j ∧ Φ k2 (.int (Builtin.bitOr i j))) : WPE F C (.BinOp a .BitOr b pos) ρ k Φ :=
  we_bin (fun X _ => op_or) (h.imp fun k1 x h1 => h1.imp fun k2 y ⟨i, j, e1, e2, p⟩ => by subst e1 e2; exact rd_II p)
theorem we_bxor (h : WPE F C a ρ k fun k1 x => WPE F C b ρ k1 fun k2 y => ∃ i j, x = .int i ∧ y = .int j ∧ Φ k2 (.int (Builtin.bitXor i j))) : WPE F C (.BinOp a .BitXor b pos) ρ k Φ :=
  we_bin (fun X _ => op_xor) (h.imp fun k1 x h1 => h1.imp fun k2 y ⟨i, j, e1, e2, p⟩ => by subst e1 e2; exact rd_II p)
theorem we_neg (h : WPE F C a ρ k fun k1 x => ∃ i, x = .int i ∧ Φ k1 (.int (-i))) : WPE F C (.UnaryOp .USub a pos) ρ k Φ :=
  of_pe (fun X fx => pe_un un_neg (peE fx)) fun σ H Q en j q => h σ H _ en j fun v d k1 H1 l1 j1 r ⟨i, e, p⟩ => by
    subst e; cases r; exact ⟨i, rfl, q _ _ k1 H1 l1 j1 (.int _) p⟩
/-- comparisons of ints, as values and as tests -/
abbrev I2 (F : Fm) (C : Cs) (a b : Expr) (ρ : Rho) (k : Nat) (Θ : Nat → Int → Int → Prop) : Prop := WPE F C a ρ k fun k1 x => WPE F C b ρ k1 fun k2 y => ∃ i j, x = .int i ∧ y = .int j ∧ Θ k2 i j
theorem we_lt (h : I2 F C a b ρ k fun k i j => Φ k (.bool (decide (i < j)))) : WPE F C (.Compare a [.Lt] [b] pos) ρ k Φ := we_cmp (fun X _ => op_lt) (nomark _) (h.imp fun k1 x h1 => h1.imp fun k2 y ⟨i, j, e1, e2, p⟩ => by subst e1 e2; exact rd_IB (g := fun i j => decide (i < j)) p)
theorem we_le (h : I2 F C a b ρ k fun k i j => Φ k (.bool (decide (i ≤ j)))) : WPE F C (.Compare a [.LtE] [b] pos) ρ k Φ := we_cmp (fun X _ => op_le) (nomark _) (h.imp fun k1 x h1 => h1.imp fun k2 y ⟨i, j, e1, e2, p⟩ => by subst e1 e2; exact rd_IB (g := fun i j => decide (i ≤ j)) p)
theorem we_gt (h : I2 F C a b ρ k fun k i j => Φ k (.bool (decide (j < i)))) : WPE F C (.Compare a [.Gt] [b] pos) ρ k Φ := we_cmp (fun X _ => op_gt) (nomark _) (h.imp fun k1 x h1 => h1.imp fun k2 y ⟨i, j, e1, e2, p⟩ => by subst e1 e2; exact rd_IB (g := fun i j => decide (j < i)) p)
theorem we_ge (h : I2 F C a b ρ k fun k i j => Φ k (.bool (decide (j ≤ i)))) : WPE F C (.Compare a [.GtE] [b] pos) ρ k Φ := we_cmp (fun X _ => op_ge) (nomark _) (h.imp fun k1 x h1 => h1.imp fun k2 y ⟨i, j, e1, e2, p⟩ => by subst e1 e2; exact rd_IB (g := fun i j => decide (j ≤ i)) p)
theorem wt_lt (h : I2 F C a b ρ k fun k i j => Ψ k (decide (i < j))) : WPT F C (.Compare a [.Lt] [b] pos) ρ k Ψ := wt_cmp (fun X _ => op_lt) (nomark _) (h.imp fun k1 x h1 => h1.imp fun k2 y ⟨i, j, e1, e2, p⟩ => by subst e1 e2; exact rd_IB (g := fun i j => decide (i < j)) ⟨_, rfl, p⟩)
theorem wt_le (h : I2 F C a b ρ k fun k i j => Ψ k (decide (i ≤ j))) : WPT F C (.Compare a [.LtE] [b] pos) ρ k Ψ := wt_cmp (fun X _ => op_le) (nomark _) (h.imp fun k1 x h1 => h1.imp fun k2 y ⟨i, j, e1, e2, p⟩ => by subst e1 e2; exact rd_IB (g := fun i j => decide (i ≤ j)) ⟨_, rfl, p⟩)
theorem wt_gt (h : I2 F C a b ρ k fun k i j => Ψ k (decide (j < i))) : WPT F C (.Compare a [.Gt] [b] pos) ρ k Ψ := wt_cmp (fun X _ => op_gt) (nomark _) (h.imp fun k1 x h1 => h1.imp fun k2 y ⟨i, j, e1, e2, p⟩ => by subst e1 e2; exact rd_IB (g := fun i j => decide (j < i)) ⟨_, rfl, p⟩)
theorem wt_ge (h : I2 F C a b ρ k fun k i j => Ψ k (decide (j ≤ i))) : WPT F C (.Compare a [.GtE] [b] pos) ρ k Ψ := wt_cmp (fun X _ => op_ge) (nomark _) (h.imp fun k1 x h1 => h1.imp fun k2 y ⟨i, j, e1, e2, p⟩ => by subst e1 e2; exact rd_IB (g := fun i j => decide (j ≤ i)) ⟨_, rfl, p⟩)
/-- == and != of any data -/
theorem opEqK {X : Cx} (fx : Fits C X) : OpR X (compareOp .Eq) (rEqD C.K) := by rw [← fx.K]; exact op_eqD fx.room.units
theorem opNeK {X : Cx} (fx : Fits C X) : OpR X (compareOp .NotEq) (rNeD C.K) := by rw [← fx.K]; exact op_neD fx.room.units
theorem rd_eq {x y : PyData} (hK : F.K = C.K) (sx : SeqAt.shaped x = true) (sy : SeqAt.shaped y = true) (h : Φ k (.bool (PyData.eqv x y))) : RD F (rEqD C.K) x y k Φ := fun H vx vy Q j rx ry q =>
  ⟨x, y, hK ▸ Rep.dp x vx rx (nodict_sh sx), hK ▸ Rep.dp y vy ry (nodict_sh sy), sx, sy, q _ _ k H .refl j (.bl _) h⟩
theorem rd_nE {x y : PyData} (hK : F.K = C.K) (sx : SeqAt.shaped x = true) (sy : SeqAt.shaped y = true) (h : Φ k (.bool (!PyData.eqv x y))) : RD F (rNeD C.K) x y k Φ := fun H vx vy Q j rx ry q =>
  ⟨x, y, hK ▸ Rep.dp x vx rx (nodict_sh sx), hK ▸ Rep.dp y vy ry (nodict_sh sy), sx, sy, q _ _ k H .refl j (.bl _) h⟩
abbrev D2 (F : Fm) (C : Cs) (a b : Expr) (ρ : Rho) (k : Nat) (Θ : Nat → PyData → PyData → Prop) : Prop := WPE F C a ρ k fun k1 x => WPE F C b ρ k1 fun k2 y => SeqAt.shaped x = true ∧ SeqAt.shaped y = true ∧ Θ k2 x y
theorem we_eq (hK : F.K = C.K) (h : D2 F C a b ρ k fun k x y => Φ k (.bool (PyData.eqv x y))) : WPE F C (.Compare a [.Eq] [b] pos) ρ k Φ := we_cmp (fun X fx => opEqK fx) (nomark _) (h.imp fun k1 x h1 => h1.imp fun k2 y ⟨s1, s2, p⟩ => rd_eq hK s1 s2 p)
theorem we_ne (hK : F.K = C.K) (h : D2 F C a b ρ k fun k x y => Φ k (.bool (!PyData.eqv x y))) : WPE F C (.Compare a [.NotEq] [b] pos) ρ k Φ := we_cmp (fun X fx => opNeK fx) (nomark _) (h.imp fun k1 x h1 => h1.imp fun k2 y ⟨s1, s2, p⟩ => rd_nE hK s1 s2 p)
theorem wt_eq (hK : F.K = C.K) (h : D2 F C a b ρ k fun k x y => Ψ k (PyData.eqv x y)) : WPT F C (.Compare a [.Eq] [b] pos) ρ k Ψ := wt_cmp (fun X fx => opEqK fx) (nomark _) (h.imp fun k1 x h1 => h1.imp fun k2 y ⟨s1, s2, p⟩ => rd_eq hK s1 s2 ⟨_, rfl, p⟩)
theorem wt_ne (hK : F.K = C.K) (h : D2 F C a b ρ k fun k x y => Ψ k (!PyData.eqv x y)) : WPT F C (.Compare a [.NotEq] [b] pos) ρ k Ψ := wt_cmp (fun X fx => opNeK fx) (nomark _) (h.imp fun k1 x h1 => h1.imp fun k2 y ⟨s1, s2, p⟩ => rd_nE hK s1 s2 ⟨_, rfl, p⟩)
/-- == of ints, of texts -/
theorem rd_eqS {x y : PyData} {c : Bool} (hx : ∀ H vx vy, Rp F H vx x → Rp F H vy y → scal vx vy = true ∧ decide (vx = vy) = c) (h : Φ k (.bool c)) : RD F rEq x y k Φ := fun H vx vy Q j rx ry q => by
  obtain ⟨h1, h2⟩ := hx H vx vy rx ry
  exact ⟨h1, by rw [h2]; exact q _ _ k H .refl j (.bl _) h⟩
theorem rd_neS {x y : PyData} {c : Bool} (hx : ∀ H vx vy, Rp F H vx x → Rp F H vy y → scal vx vy = true ∧ decide (vx = vy) = c) (h : Φ k (.bool (!c))) : RD F rNe x y k Φ := fun H vx vy Q j rx ry q => by
  obtain ⟨h1, h2⟩ := hx H vx vy rx ry
  exact ⟨h1, by rw [h2]; exact q _ _ k H .refl j (.bl _) h⟩
theorem scal_int {i j : Int} {H : Hp} {vx vy : V} (rx : Rp F H vx (.int i)) (ry : Rp F H vy (.int j)) : scal vx vy = true ∧ decide (vx = vy) = decide (i = j) := by
  cases rx; cases ry; exact ⟨rfl, by simp⟩
theorem scal_str {i j : Str} {H : Hp} {vx vy : V} (rx : Rp F H vx (.str i)) (ry : Rp F H vy (.str j)) : scal vx vy = true ∧ decide (vx = vy) = decide (i = j) := by
  cases rx; cases ry; exact ⟨rfl, by simp⟩
theorem scal_bl {i j : Bool} {H : Hp} {vx vy : V} (rx : Rp F H vx (.bool i)) (ry : Rp F H vy (.bool j)) : scal vx vy = true ∧ decide (vx = vy) = decide (i = j) := by
  cases rx; cases ry; exact ⟨rfl, by simp⟩
theorem wt_eqI (h : I2 F C a b ρ k fun k i j => Ψ k (decide (i = j))) : WPT F C (.Compare a [.Eq] [b] pos) ρ k Ψ := wt_cmp (fun X _ => op_eq) (nomark _) (h.imp fun k1 x h1 => h1.imp fun k2 y ⟨i, j, e1, e2, p⟩ => by subst e1 e2; exact rd_eqS (fun _ _ _ => scal_int) ⟨_, rfl, p⟩)
theorem wt_neI (h : I2 F C a b ρ k fun k i j => Ψ k (!decide (i = j))) : WPT F C (.Compare a [.NotEq] [b] pos) ρ k Ψ := wt_cmp (fun X _ => op_ne) (nomark _) (h.imp fun k1 x h1 => h1.imp fun k2 y ⟨i, j, e1, e2, p⟩ => by subst e1 e2; exact rd_neS (fun _ _ _ => scal_int) ⟨_, rfl, p⟩)
theorem we_eqI (h : I2 F C a b ρ k fun k i j => Φ k (.bool (decide (i = j)))) : WPE F C (.Compare a [.Eq] [b] pos) ρ k Φ := we_cmp (fun X _ => op_eq) (nomark _) (h.imp fun k1 x h1 => h1.imp fun k2 y ⟨i, j, e1, e2, p⟩ => by subst e1 e2; exact rd_eqS (fun _ _ _ => scal_int) p)
theorem we_neI (h : I2 F C a b ρ k fun k i j => Φ k (.bool (!decide (i = j)))) : WPE F C (.Compare a [.NotEq] [b] pos) ρ k Φ := we_cmp (fun X _ => op_ne) (nomark _) (h.imp fun k1 x h1 => h1.imp fun k2 y ⟨i, j, e1, e2, p⟩ => by subst e1 e2; exact rd_neS (fun _ _ _ => scal_int) p)
abbrev T2 (F : Fm) (C : Cs) (a b : Expr) (ρ : Rho) (k : Nat) (Θ : Nat → Str → Str → Prop) : Prop := WPE F C a ρ k fun k1 x => WPE F C b ρ k1 fun k2 y => ∃ i j, x = .str i ∧ y = .str j ∧ Θ k2 i j
theorem wt_eqT (h : T2 F C a b ρ k fun k i j => Ψ k (decide (i = j))) : WPT F C (.Compare a [.Eq] [b] pos) ρ k Ψ := wt_cmp (fun X _ => op_eq) (nomark _) (h.imp fun k1 x h1 => h1.imp fun k2 y ⟨i, j, e1, e2, p⟩ => by subst e1 e2; exact rd_eqS (fun _ _ _ => scal_str) ⟨_, rfl, p⟩)
theorem wt_neT (h : T2 F C a b ρ k fun k i j => Ψ k (!decide (i = j))) : WPT F C (.Compare a [.NotEq] [b] pos) ρ k Ψ := wt_cmp (fun X _ => op_ne) (nomark _) (h.imp fun k1 x h1 => h1.imp fun k2 y ⟨i, j, e1, e2, p⟩ => by subst e1 e2; exact rd_neS (fun _ _ _ => scal_str) ⟨_, rfl, p⟩)
theorem we_eqT (h : T2 F C a b ρ k fun k i j => Φ k (.bool (decide (i = j)))) : WPE F C (.Compare a [.Eq] [b] pos) ρ k Φ := we_cmp (fun X _ => op_eq) (nomark _) (h.imp fun k1 x h1 => h1.imp fun k2 y ⟨i, j, e1, e2, p⟩ => by subst e1 e2; exact rd_eqS (fun _ _ _ => scal_str) p)
theorem we_neT (h : T2 F C a b ρ k fun k i j => Φ k (.bool (!decide (i = j)))) : WPE F C (.Compare a [.NotEq] [b] pos) ρ k Φ := we_cmp (fun X _ => op_ne) (nomark _) (h.imp fun k1 x h1 => h1.imp fun k2 y ⟨i, j, e1, e2, p⟩ => by subst e1 e2; exact rd_neS (fun _ _ _ => scal_str) p)
end
end Dl

namespace Dl
open PySem PySem.Spec PyProof.Rows L2
section
variable {F : Fm} {C : Cs} {ρ : Rho} {k : Nat} {Φ Φ' : Nat → PyData → Prop} {Ψ Ψ' : Nat → Bool → Prop} {e a b : Expr} {es : List Expr} {pos : Pos} {P : DE}
/-! ### subscripts -/
theorem atI_some {α β : Type} {xs : List α} {ys : List β} (hl : xs.length = ys.length) {i : Int} {y : β} (h : atI ys i = some y) : ∃ j : Nat, ys[j]? = some y ∧ ∀ x, xs[j]? = some x → atI xs i = some x := by
  unfold atI at h ⊢
  rw [hl]
  cases e : ixN ys.length i with
  | none => rw [e] at h; cases h
  | some j => rw [e] at h; exact ⟨j, h, fun x hx => hx⟩
theorem ixK {X : Cx} (fx : Fits C X) : IxR X (rIx C.K) := by rw [← fx.K]; exact ix_seq
def ixD : PyData → PyData → Option PyData
  | .list ds, .int i => atI ds i
  | .tuple ds, .int i => atI ds i
  | _, _ => none
theorem we_ix (hK : F.K = C.K) (hs : PlainIx b) (h : WPE F C a ρ k fun k1 x => WPE F C b ρ k1 fun k2 y => ∃ d, ixD x y = some d ∧ Φ k2 d) : WPE F C (.Subscript a b pos) ρ k Φ :=
  of_pe (fun X fx => pe_ix (ixK fx) (peE fx) (peE fx) hs) (we_op (h.imp fun k1 x h1 => h1.imp fun k2 y ⟨d, e, p⟩ => fun H vx vy Q j rx ry q => by
    cases x with
    | list ds =>
      cases y with
      | int i =>
        cases rx with
        | @lst a xs _ ha hr =>
        cases ry
        obtain ⟨n, hn, hx⟩ := atI_some hr.length e
        obtain ⟨v, hv, rv⟩ := hr.get hn
        exact .inl ⟨a, xs, i, v, rfl, rfl, hK ▸ sql_of ha, hx v hv, q v d k2 H .refl j rv p⟩
      | _ => cases e
    | tuple ds =>
      cases y with
      | int i =>
        cases rx with
        | @tup a xs _ ha hr =>
        cases ry
        obtain ⟨n, hn, hx⟩ := atI_some hr.length e
        obtain ⟨v, hv, rv⟩ := hr.get hn
        exact .inr (.inl ⟨a, xs, i, v, rfl, rfl, hK ▸ sqt_of ha, hx v hv, q v d k2 H .refl j rv p⟩)
      | _ => cases e
    | _ => cases e))
/-! ### in, not in: flat things in a list or tuple of flat things -/
def flatD : PyData → Bool
  | .none | .bool _ | .int _ | .str _ => true
  | _ => false
theorem flat_rep {H : Hp} {v : V} {d : PyData} (r : Rp F H v d) (h : flatD d = true) : flatV v = true := by
  cases r <;> first | rfl | cases h
theorem flat_all {H : Hp} : ∀ {ds : List PyData} {vs : List V}, RpAll F H vs ds → ds.all flatD = true → vs.all flatV = true
  | [], _, r, _ => by cases r; rfl
  | d :: ds, _, r, h => by
    cases r with
    | cons r1 r2 =>
      rw [List.all_cons, Bool.and_eq_true] at h ⊢
      exact ⟨flat_rep r1 h.1, flat_all r2 h.2⟩
def seqD : PyData → Option (List PyData)
  | .list ds => some ds
  | .tuple ds => some ds
  | _ => none
theorem opInK {X : Cx} (fx : Fits C X) : OpR X (compareOp .In) (rIn C.K false) := by rw [← fx.K]; exact op_in_seq
theorem opNiK {X : Cx} (fx : Fits C X) : OpR X (compareOp .NotIn) (rIn C.K true) := by rw [← fx.K]; exact op_notIn_seq
theorem rd_in {neg : Bool} {x y : PyData} {ds : List PyData} {c : Bool} (hK : F.K = C.K) (hy : seqD y = some ds) (fx : flatD x = true) (fy : ds.all flatD = true) (hc : ∀ H vx vs, Rp F H vx x → RpAll F H vs ds → inV vx vs = c) (h : Φ k (.bool (if neg then !c else c))) : RD F (rIn C.K neg) x y k Φ := fun H vx vy Q j rx ry q => by
  cases ry with
  | @lst a xs _ ha hr => cases hy; exact ⟨a, xs, rfl, .inl (hK ▸ sql_of ha), flat_rep rx fx, flat_all hr fy, by rw [hc H vx xs rx hr]; exact q _ _ k H .refl j (.bl _) h⟩
  | @tup a xs _ ha hr => cases hy; exact ⟨a, xs, rfl, .inr (hK ▸ sqt_of ha), flat_rep rx fx, flat_all hr fy, by rw [hc H vx xs rx hr]; exact q _ _ k H .refl j (.bl _) h⟩
  | _ => cases hy
theorem inV_ints {i : Int} : ∀ (ns : List Int), inV (.int i) (ns.map V.int) = decide (i ∈ ns)
  | [] => by simp [inV]
  | n :: ns => by
    have ih := inV_ints (i := i) ns
    unfold inV at ih ⊢
    rw [List.map_cons, List.any_cons, ih]
    have : eqV (.int n) (.int i) = decide (n = i) := by
      unfold eqV
      by_cases h : n = i <;> simp [h]
    rw [this]
    by_cases h : n = i
    · simp [h]
    · simp [h, Ne.symm h, eq_comm]
/-- an int in a list or tuple of ints -/
theorem rd_inI {neg : Bool} {i : Int} {y : PyData} {ns : List Int} (hK : F.K = C.K) (hy : seqD y = some (ns.map PyData.int)) (h : Φ k (.bool (if neg then !decide (i ∈ ns) else decide (i ∈ ns)))) : RD F (rIn C.K neg) (.int i) y k Φ :=
  rd_in hK hy rfl (by rw [List.all_map]; exact List.all_eq_true.mpr fun _ _ => rfl) (fun H vx vs rx rv => by cases rx; rw [rv.ints]; exact inV_ints ns) h
abbrev N2 (F : Fm) (C : Cs) (a b : Expr) (ρ : Rho) (k : Nat) (Θ : Nat → Int → List Int → Prop) : Prop := WPE F C a ρ k fun k1 x => WPE F C b ρ k1 fun k2 y => ∃ i ns, x = .int i ∧ seqD y = some (ns.map PyData.int) ∧ Θ k2 i ns
theorem wt_inI (hK : F.K = C.K) (hm : behindInMarks .In b = false) (h : N2 F C a b ρ k fun k i ns => Ψ k (decide (i ∈ ns))) : WPT F C (.Compare a [.In] [b] pos) ρ k Ψ := wt_cmp (fun X fx => opInK fx) hm (h.imp fun k1 x h1 => h1.imp fun k2 y ⟨i, j, e1, e2, p⟩ => by subst e1; exact rd_inI hK e2 ⟨_, rfl, p⟩)
theorem wt_niI (hK : F.K = C.K) (hm : behindInMarks .NotIn b = false) (h : N2 F C a b ρ k fun k i ns => Ψ k (!decide (i ∈ ns))) : WPT F C (.Compare a [.NotIn] [b] pos) ρ k Ψ := wt_cmp (fun X fx => opNiK fx) hm (h.imp fun k1 x h1 => h1.imp fun k2 y ⟨i, j, e1, e2, p⟩ => by subst e1; exact rd_inI hK e2 ⟨_, rfl, p⟩)
theorem we_inI (hK : F.K = C.K) (hm : behindInMarks .In b = false) (h : N2 F C a b ρ k fun k i ns => Φ k (.bool (decide (i ∈ ns)))) : WPE F C (.Compare a [.In] [b] pos) ρ k Φ := we_cmp (fun X fx => opInK fx) hm (h.imp fun k1 x h1 => h1.imp fun k2 y ⟨i, j, e1, e2, p⟩ => by subst e1; exact rd_inI hK e2 p)
theorem we_niI (hK : F.K = C.K) (hm : behindInMarks .NotIn b = false) (h : N2 F C a b ρ k fun k i ns => Φ k (.bool (!decide (i ∈ ns)))) : WPE F C (.Compare a [.NotIn] [b] pos) ρ k Φ := we_cmp (fun X fx => opNiK fx) hm (h.imp fun k1 x h1 => h1.imp fun k2 y ⟨i, j, e1, e2, p⟩ => by subst e1; exact rd_inI hK e2 p)
/-- is None -/
theorem none_rep {H : Hp} {v : V} {d : PyData} (r : Rp F H v d) : (v = .non ↔ d = .none) := by
  cases r <;> constructor <;> intro h <;> first | rfl | cases h
def isNone : PyData → Bool
  | .none => true
  | _ => false
theorem dec_non {H : Hp} {v : V} {d : PyData} (r : Rp F H v d) : decide (v = .non) = isNone d := by
  cases r <;> rfl
theorem we_isN {jj : Nat} {p' : Pos} (h : WPE F C a ρ k fun k1 x => Φ k1 (.bool (isNone x))) : WPE F C (.Compare a [.Is] [.Constant .none jj p'] pos) ρ k Φ :=
  of_pe (fun X fx => pe_cmp (pc_isN (peE fx)) rfl) fun σ H Q en j q => h σ H _ en j fun v d k1 H1 l1 j1 r p => by
    show Q (.bl (decide (v = .non))) H1
    rw [dec_non r]; exact q _ _ k1 H1 l1 j1 (.bl _) p
theorem wt_isN {jj : Nat} {p' : Pos} (h : WPE F C a ρ k fun k1 x => Ψ k1 (isNone x)) : WPT F C (.Compare a [.Is] [.Constant .none jj p'] pos) ρ k Ψ :=
  of_pt (fun X fx => pt_cmp (pc_isN (peE fx)) rfl) fun σ H Q en j q => h σ H _ en j fun v d k1 H1 l1 j1 r p => by
    refine ⟨isNone d, ?_, q _ k1 H1 l1 j1 p⟩
    rw [dec_non r]
/-! ### built-ins -/
theorem lenK {X : Cx} (fx : Fits C X) : CallR X (.builtin "len") (fun xs H Q => ∃ p ys, xs = [.ref p] ∧ (SqL C.K H p ys ∨ SqT C.K H p ys) ∧ Q (.int ys.length) H) := by rw [← fx.K]; exact call_len_seq
theorem tupK {X : Cx} (fx : Fits C X) : CallR X (.type "tuple") (fun xs H Q => ∃ p ys, xs = [.ref p] ∧ ((SqL C.K H p ys ∧ ∀ l, H l = none → Q (.ref l) (upd H l (.tup ys))) ∨ (SqT C.K H p ys ∧ Q (.ref p) H))) := by rw [← fx.K]; exact call_tuple_of
theorem lstK {X : Cx} (fx : Fits C X) : CallR X (.type "list") (fun xs H Q => ∃ p ys, xs = [.ref p] ∧ (SqL C.K H p ys ∨ SqT C.K H p ys) ∧ ∀ l, H l = none → Q (.ref l) (upd H l (.lst ys))) := by rw [← fx.K]; exact call_list_of
theorem sumK {X : Cx} (fx : Fits C X) : CallR X (.builtin "sum") (rSum C.K) := by rw [← fx.K]; exact cr_sum fx.calm
theorem minK {X : Cx} (fx : Fits C X) : CallR X (.builtin "min") (rMin C.K) := by rw [← fx.K]; exact cr_min fx.calm
theorem maxK {X : Cx} (fx : Fits C X) : CallR X (.builtin "max") (rMax C.K) := by rw [← fx.K]; exact cr_max fx.calm
theorem srtK {X : Cx} (fx : Fits C X) : CallR X (.builtin "sorted") (rSortedI C.K) := by rw [← fx.K]; exact cr_sortedI
abbrev A1 (F : Fm) (C : Cs) (e : Expr) (ρ : Rho) (k : Nat) (Θ : Nat → PyData → Prop) : Prop := WPE F C e ρ k Θ
theorem wa_one {Θ : Nat → List PyData → Prop} (hs : ∀ env : Env, starEach [e] env = (false, eval e env) :: starEach [] env) (h : WPE F C e ρ k fun k1 x => Θ k1 [x]) : WPA F C [e] ρ k Θ := wa_cons hs (h.imp fun k1 x p => wa_nil p)
variable {p : Pos}
section
variable (hK : F.K = C.K)
include hK
theorem we_len (hg : C.sc.names.lookup ("len" : Str) = some .globalImplicit) (hm : C.mg ("len" : Str) = none) (hs : ∀ env : Env, starEach [e] env = (false, eval e env) :: starEach [] env) (h : WPE F C e ρ k fun k1 x => ∃ ds, seqD x = some ds ∧ Φ k1 (.int ds.length)) : WPE F C (.Call (.Name "len" p) [e] [] pos) ρ k Φ :=
  we_callB (fun X fx => lenK fx) hg hm boot_len (wa_one hs (h.imp fun k1 x ⟨ds, e, p⟩ => fun H vs Q j r q => by
    cases r with
    | cons r1 r2 =>
    cases r2
    cases r1 with
    | @lst a xs _ ha hr => cases e; exact ⟨a, xs, rfl, .inl (hK ▸ sql_of ha), by rw [hr.length]; exact q _ _ k1 H .refl j (.int _) p⟩
    | @tup a xs _ ha hr => cases e; exact ⟨a, xs, rfl, .inr (hK ▸ sqt_of ha), by rw [hr.length]; exact q _ _ k1 H .refl j (.int _) p⟩
    | _ => cases e)) (by decide) (by decide) hs
theorem we_tuple (hg : C.sc.names.lookup ("tuple" : Str) = some .globalImplicit) (hm : C.mg ("tuple" : Str) = none) (hs : ∀ env : Env, starEach [e] env = (false, eval e env) :: starEach [] env) (h : WPE F C e ρ k fun k1 x => ∃ ds, seqD x = some ds ∧ Φ k1 (.tuple ds)) : WPE F C (.Call (.Name "tuple" p) [e] [] pos) ρ k Φ :=
  we_callTy (T := "tuple") (fun X fx => tupK fx) hg hm (by decide +kernel) (wa_one hs (h.imp fun k1 x ⟨ds, e, p⟩ => fun H vs Q j r q => by
    cases r with
    | cons r1 r2 =>
    cases r2
    cases r1 with
    | @lst a xs _ ha hr => cases e; exact ⟨a, xs, rfl, .inl ⟨hK ▸ sql_of ha, fun l hl => q _ _ k1 _ (.new hl) (j.new hl) (rep_newT j hl hr) p⟩⟩
    | @tup a xs _ ha hr => cases e; exact ⟨a, xs, rfl, .inr ⟨hK ▸ sqt_of ha, q _ _ k1 H .refl j (.tup ha hr) p⟩⟩
    | _ => cases e)) (by decide) (by decide) hs
theorem we_list (hg : C.sc.names.lookup ("list" : Str) = some .globalImplicit) (hm : C.mg ("list" : Str) = none) (hs : ∀ env : Env, starEach [e] env = (false, eval e env) :: starEach [] env) (h : WPE F C e ρ k fun k1 x => ∃ ds, seqD x = some ds ∧ Φ k1 (.list ds)) : WPE F C (.Call (.Name "list" p) [e] [] pos) ρ k Φ :=
  we_callTy (T := "list") (fun X fx => lstK fx) hg hm (by decide +kernel) (wa_one hs (h.imp fun k1 x ⟨ds, e, p⟩ => fun H vs Q j r q => by
    cases r with
    | cons r1 r2 =>
    cases r2
    cases r1 with
    | @lst a xs _ ha hr => cases e; exact ⟨a, xs, rfl, .inl (hK ▸ sql_of ha), fun l hl => q _ _ k1 _ (.new hl) (j.new hl) (rep_newL j hl hr) p⟩
    | @tup a xs _ ha hr => cases e; exact ⟨a, xs, rfl, .inr (hK ▸ sqt_of ha), fun l hl => q _ _ k1 _ (.new hl) (j.new hl) (rep_newL j hl hr) p⟩
    | _ => cases e)) (by decide) (by decide) hs
theorem we_sum (hg : C.sc.names.lookup ("sum" : Str) = some .globalImplicit) (hm : C.mg ("sum" : Str) = none) (hs : ∀ env : Env, starEach [e] env = (false, eval e env) :: starEach [] env) (h : WPE F C e ρ k fun k1 x => ∃ ns : List Int, x = .list (ns.map PyData.int) ∧ Φ k1 (.int ns.sum)) : WPE F C (.Call (.Name "sum" p) [e] [] pos) ρ k Φ :=
  we_callB (id := "sum") (fun X fx => sumK fx) hg hm (by decide +kernel) (wa_one hs (h.imp fun k1 x ⟨ns, e, p⟩ => fun H vs Q j r q => by
    subst e
    cases r with
    | cons r1 r2 =>
    cases r2
    cases r1 with
    | @lst a xs _ ha hr => exact ⟨a, ns, rfl, hr.ints ▸ hK ▸ sql_of ha, q _ _ k1 H .refl j (.int _) p⟩)) (by decide) (by decide) hs
theorem we_min (hg : C.sc.names.lookup ("min" : Str) = some .globalImplicit) (hm : C.mg ("min" : Str) = none) (hs : ∀ env : Env, starEach [e] env = (false, eval e env) :: starEach [] env) (h : WPE F C e ρ k fun k1 x => ∃ ns : List Int, x = .list (ns.map PyData.int) ∧ 0 < ns.length ∧ ∀ m, m ∈ ns → (∀ y, y ∈ ns → m ≤ y) → Φ k1 (.int m)) : WPE F C (.Call (.Name "min" p) [e] [] pos) ρ k Φ :=
  we_callB (id := "min") (fun X fx => minK fx) hg hm (by decide +kernel) (wa_one hs (h.imp fun k1 x ⟨ns, e, hp, p⟩ => fun H vs Q j r q => by
    subst e
    cases r with
    | cons r1 r2 =>
    cases r2
    cases r1 with
    | @lst a xs _ ha hr => exact ⟨a, ns, rfl, hr.ints ▸ hK ▸ sql_of ha, hp, fun m hm hle => q _ _ k1 H .refl j (.int _) (p m hm hle)⟩)) (by decide) (by decide) hs
theorem we_sorted (hg : C.sc.names.lookup ("sorted" : Str) = some .globalImplicit) (hm : C.mg ("sorted" : Str) = none) (hs : ∀ env : Env, starEach [e] env = (false, eval e env) :: starEach [] env) (h : WPE F C e ρ k fun k1 x => ∃ ns : List Int, x = .list (ns.map PyData.int) ∧ ∀ ms : List Int, ms.Perm ns → ms.Pairwise (· ≤ ·) → Φ k1 (.list (ms.map PyData.int))) : WPE F C (.Call (.Name "sorted" p) [e] [] pos) ρ k Φ :=
  we_callB (id := "sorted") (fun X fx => srtK fx) hg hm (by decide +kernel) (wa_one hs (h.imp fun k1 x ⟨ns, e, p⟩ => fun H vs Q j r q => by
    subst e
    cases r with
    | cons r1 r2 =>
    cases r2
    cases r1 with
    | @lst a xs _ ha hr => exact ⟨a, ns, rfl, hr.ints ▸ hK ▸ sql_of ha, fun ms l hp hw hl => q _ _ k1 _ (.new hl) (j.new hl) (rep_newL j hl (RepAll.of_ints ms)) (p ms hp hw)⟩)) (by decide) (by decide) hs
end
theorem we_abs (hg : C.sc.names.lookup ("abs" : Str) = some .globalImplicit) (hm : C.mg ("abs" : Str) = none) (hs : ∀ env : Env, starEach [e] env = (false, eval e env) :: starEach [] env) (h : WPE F C e ρ k fun k1 x => ∃ i : Int, x = .int i ∧ Φ k1 (.int (if i < 0 then -i else i))) : WPE F C (.Call (.Name "abs" p) [e] [] pos) ρ k Φ :=
  we_callB (id := "abs") (fun X fx => call_abs) hg hm (by decide +kernel) (wa_one hs (h.imp fun k1 x ⟨i, e, p⟩ => fun H vs Q j r q => by
    subst e
    cases r with
    | cons r1 r2 =>
    cases r2
    cases r1
    exact ⟨i, rfl, q _ _ k1 H .refl j (.int _) p⟩)) (by decide) (by decide) hs
theorem we_intB (hg : C.sc.names.lookup ("int" : Str) = some .globalImplicit) (hm : C.mg ("int" : Str) = none) (hs : ∀ env : Env, starEach [e] env = (false, eval e env) :: starEach [] env) (h : WPE F C e ρ k fun k1 x => ∃ c : Bool, x = .bool c ∧ Φ k1 (.int (if c then 1 else 0))) : WPE F C (.Call (.Name "int" p) [e] [] pos) ρ k Φ :=
  we_callTy (T := "int") (fun X fx => call_int1) hg hm (by decide +kernel) (wa_one hs (h.imp fun k1 x ⟨i, e, p⟩ => fun H vs Q j r q => by
    subst e
    cases r with
    | cons r1 r2 =>
    cases r2
    cases r1
    exact .inr ⟨i, rfl, q _ _ k1 H .refl j (.int _) p⟩)) (by decide) (by decide) hs
/-- repr of data at any depth -/
theorem reprK {X : Cx} (fx : Fits C X) : CallR X (.builtin "repr") (fun xs H Q => ∃ v d, xs = [v] ∧ Dp C.K H v d ∧ d.showable = true ∧ d.hasDict = false ∧ d.depth ≤ 60 ∧ d.shown.length ≤ sizeLine ∧ Q (.str d.shown) H) := by
  intro pins s σ H vs us Q I rv h
  obtain ⟨v, d, e, hd, sh, nd, dp, sz, q⟩ := h
  subst e
  obtain ⟨u, rfl, ru⟩ := vals1 rv
  obtain ⟨as, rd⟩ := Dp.reads I d v u (fx.K ▸ hd) ru
  cases rd with
  | none => exact P.repr_of_none ⟨.str _, H, I.tok _, ⟨_, rfl⟩, q⟩
  | bool b => exact P.repr_of_bool ⟨.str _, H, I.tok _, ⟨_, rfl⟩, q⟩
  | int i t => exact P.repr_of_int (of_decide_eq_true sh) ⟨.str _, H, I.tok _, ⟨_, rfl⟩, q⟩
  | str x t => exact P.repr_of_str ⟨.str _, H, I.tok _, ⟨_, rfl⟩, q⟩ sz
  | list h1 h2 h3 h4 => exact repr_of_reads' (.list h1 h2 h3 h4) sh (fun z => by rw [nd] at z; cases z) fx.gd (by have := fx.room.units; omega) (fun _ _ z => z) (fun h' u tk hk => ⟨.str _, H, I.kept hk, ⟨_, rfl⟩, q⟩) sz
  | tuple h1 h2 h3 h4 => exact repr_of_reads' (.tuple h1 h2 h3 h4) sh (fun z => by rw [nd] at z; cases z) fx.gd (by have := fx.room.units; omega) (fun _ _ z => z) (fun h' u tk hk => ⟨.str _, H, I.kept hk, ⟨_, rfl⟩, q⟩) sz
  | dict h1 h2 h3 h4 h5 => cases nd
theorem we_repr (hK : F.K = C.K) (hg : C.sc.names.lookup ("repr" : Str) = some .globalImplicit) (hm : C.mg ("repr" : Str) = none) (hs : ∀ env : Env, starEach [e] env = (false, eval e env) :: starEach [] env) (h : WPE F C e ρ k fun k1 d => (d.showable = true ∧ d.hasDict = false ∧ d.depth ≤ 60 ∧ d.shown.length ≤ sizeLine) ∧ Φ k1 (.str d.shown)) : WPE F C (.Call (.Name "repr" p) [e] [] pos) ρ k Φ :=
  we_callB (id := "repr") (fun X fx => reprK fx) hg hm (by decide +kernel) (wa_one hs (h.imp fun k1 x ⟨⟨s1, s2, s3, s4⟩, p⟩ => fun H vs Q j r q => by
    cases r with
    | cons r1 r2 =>
    cases r2
    exact ⟨_, x, rfl, hK ▸ Rep.dp x _ r1 s2, s1, s2, s3, s4, q _ _ k1 H .refl j (.str _) p⟩)) (by decide) (by decide) hs
end
end Dl

namespace Dl
open PySem PySem.Spec PyProof.Rows L2
theorem iteD {c A B : Prop} [Decidable c] (h1 : c → A) (h2 : ¬ c → B) : if decide c = true then A else B := by
  by_cases h : c
  · rw [decide_eq_true h, if_pos rfl]; exact h1 h
  · rw [decide_eq_false h, if_neg Bool.false_ne_true]; exact h2 h
theorem iteB {c : Bool} {A B : Prop} (h1 : c = true → A) (h2 : c = false → B) : if c = true then A else B := by
  cases c with
  | true => rw [if_pos rfl]; exact h1 rfl
  | false => rw [if_neg Bool.false_ne_true]; exact h2 rfl
theorem iteNe {α : Type} [DecidableEq α] {x y : α} {A B : Prop} (e : x = y) (h : B) : if (!decide (x = y)) = true then A else B := by
  rw [decide_eq_true e, if_neg (by decide)]; exact h
theorem iteEq {α : Type} [DecidableEq α] {x y : α} {A B : Prop} (e : x = y) (h : A) : if decide (x = y) = true then A else B := by
  rw [decide_eq_true e, if_pos rfl]; exact h
theorem iteF' {A B : Prop} (h : B) : if (!true) = true then A else B := by
  rw [if_neg (by decide)]; exact h
/-- 0, 1, .. below z -/
def rg (z : Int) : List Int := (List.range z.toNat).map fun (j : Nat) => (j : Int)
theorem mem_rg {z i : Int} : i ∈ rg z ↔ 0 ≤ i ∧ i < z := by
  unfold rg
  rw [List.mem_map]
  constructor
  · rintro ⟨j, hj, rfl⟩
    have := List.mem_range.mp hj
    omega
  · rintro ⟨h0, h1⟩
    exact ⟨i.toNat, List.mem_range.mpr (by omega), by omega⟩
theorem rg_length {z : Int} : (rg z).length = z.toNat := by unfold rg; simp
theorem rg_succ (j : Nat) : rg ((j : Int) + 1) = rg (j : Int) ++ [(j : Int)] := by
  unfold rg
  rw [show ((j : Int) + 1).toNat = j + 1 by omega, show (j : Int).toNat = j by omega, List.range_succ, List.map_append]; rfl
theorem rg_pairwise {z : Int} : (rg z).Pairwise (· < ·) := by
  unfold rg
  rw [List.pairwise_map]
  exact List.pairwise_lt_range.imp fun h => by omega
theorem take_next {α : Type} {xs : List α} {j : Nat} {x : α} (h : xs[j]? = some x) : xs.take (j + 1) = xs.take j ++ [x] := by
  rw [List.take_add_one, h]; rfl
section
variable {F : Fm} {C : Cs} {ρ : Rho} {k : Nat} {Φ : Nat → PyData → Prop} {P : DE} {pos spos : Pos} {elt iter : Expr} {scope : Scope} {α : Type}
theorem we_mL (ei : α → PyData) (g : α → PyData) (i : Nat) {x : Str} {px : Pos} (b : Blk C scope i x) (hK : F.K = C.K) (hfs : ∀ (env : Env) (v : Value), foldedSetIterable iter env v = pure v)
    (h : WPE F C iter ρ k fun k1 d => ∃ as : List α, d = .list (as.map ei) ∧ as.length ≤ 1000000 ∧ (∀ D (j : α), j ∈ as → WPE (F.ext D) (C.blk scope) elt (ρ.set i (.d (ei j))) k1 fun k3 y => k3 = k1 ∧ y = g j) ∧ Φ k1 (.list ((as).map g))) : WPE F C (.ListComp elt [⟨.Name x px, iter, [], 0⟩] scope pos) ρ k Φ := by
  refine we_compL0 i b hK hfs (h.imp fun k1 d hh => ?_)
  obtain ⟨as, e, hz, hb, hf⟩ := hh
  refine ⟨fun j k2 acc => k2 = k1 ∧ acc = (as.take j).map g, as.map ei, e, by rw [List.length_map]; exact hz, ⟨rfl, by simp⟩, ?_, ?_⟩
  · rintro D j y k2 acc hy ⟨rfl, rfl⟩
    rw [List.getElem?_map] at hy
    cases ha' : as[j]? with
    | none => rw [ha'] at hy; cases hy
    | some a' =>
    rw [ha'] at hy
    cases hy
    have tn := take_next ha'
    refine (hb D _ (List.mem_of_getElem? ha')).imp fun k4 y' ⟨e1, e2⟩ => ⟨e1, ?_⟩
    rw [tn, e2, List.map_append]; rfl
  · rintro k2 acc ⟨rfl, rfl⟩
    rw [List.length_map, List.take_length]; exact hf
theorem ws_mL (ei : α → PyData) (g : α → PyData) (i iy : Nat) {x y : Str} {px py : Pos} (b : Blk C scope i x) (ty : Tgt C iy y) (hyl : C.sc.names.lookup y = some .local) (hk : C.sc.kind = .function) (hl : (py.line == pos.line) = true) (ha : (scope.names.any fun (n, k) => n == y && (k == .local || k == .cell)) = false) (hK : F.K = C.K) (hfs : ∀ (env : Env) (v : Value), foldedSetIterable iter env v = pure v)
    (h : WPE F C iter ρ k fun k1 d => ∃ as : List α, d = .list (as.map ei) ∧ as.length ≤ 1000000 ∧ (∀ D (j : α), j ∈ as → WPE (F.ext D) (C.blk scope) elt (ρ.set i (.d (ei j))) k1 fun k3 y => k3 = k1 ∧ y = g j) ∧ P.nx k1 (ρ.set iy (.d (.list ((as).map g))))) : WPS F C (.Assign [.Name y py] (.ListComp elt [⟨.Name x px, iter, [], 0⟩] scope pos) spos) ρ k P := by
  refine ws_compL0 i iy b ty hyl hk hl ha hK hfs (h.imp fun k1 d hh => ?_)
  obtain ⟨as, e, hz, hb, hf⟩ := hh
  refine ⟨fun j k2 acc => k2 = k1 ∧ acc = (as.take j).map g, as.map ei, e, by rw [List.length_map]; exact hz, ⟨rfl, by simp⟩, ?_, ?_⟩
  · rintro D j y k2 acc hy ⟨rfl, rfl⟩
    rw [List.getElem?_map] at hy
    cases ha' : as[j]? with
    | none => rw [ha'] at hy; cases hy
    | some a' =>
    rw [ha'] at hy
    cases hy
    have tn := take_next ha'
    refine (hb D _ (List.mem_of_getElem? ha')).imp fun k4 y' ⟨e1, e2⟩ => ⟨e1, ?_⟩
    rw [tn, e2, List.map_append]; rfl
  · rintro k2 acc ⟨rfl, rfl⟩
    rw [List.length_map, List.take_length]; exact hf
theorem we_fL (p : α → Bool) (ei : α → PyData) (g : α → PyData) (i : Nat) {x : Str} {px : Pos} {c : Expr} (b : Blk C scope i x) (hK : F.K = C.K) (hfs : ∀ (env : Env) (v : Value), foldedSetIterable iter env v = pure v)
    (h : WPE F C iter ρ k fun k1 d => ∃ as : List α, d = .list (as.map ei) ∧ as.length ≤ 1000000 ∧ (∀ D (j : α), j ∈ as → WPT (F.ext D) (C.blk scope) c (ρ.set i (.d (ei j))) k1 fun k2 b => k2 = k1 ∧ b = p j ∧ (b = true → WPE (F.ext D) (C.blk scope) elt (ρ.set i (.d (ei j))) k1 fun k3 y => k3 = k1 ∧ y = g j)) ∧ Φ k1 (.list (((as).filter p).map g))) : WPE F C (.ListComp elt [⟨.Name x px, iter, [c], 0⟩] scope pos) ρ k Φ := by
  refine we_compL1 i b hK hfs (h.imp fun k1 d hh => ?_)
  obtain ⟨as, e, hz, hb, hf⟩ := hh
  refine ⟨fun j k2 acc => k2 = k1 ∧ acc = ((as.take j).filter p).map g, as.map ei, e, by rw [List.length_map]; exact hz, ⟨rfl, by simp⟩, ?_, ?_⟩
  · rintro D j y k2 acc hy ⟨rfl, rfl⟩
    rw [List.getElem?_map] at hy
    cases ha' : as[j]? with
    | none => rw [ha'] at hy; cases hy
    | some a' =>
    rw [ha'] at hy
    cases hy
    have tn := take_next ha'
    refine (hb D _ (List.mem_of_getElem? ha')).imp fun k3 c' hc => ?_
    obtain ⟨rfl, ec, hel⟩ := hc
    cases c' with
    | true =>
      rw [if_pos rfl]
      refine (hel rfl).imp fun k4 y' ⟨e1, e2⟩ => ⟨e1, ?_⟩
      rw [tn, List.filter_append, List.map_append, e2, List.filter_cons, if_pos ec.symm]; rfl
    | false =>
      rw [if_neg Bool.false_ne_true]
      refine ⟨rfl, ?_⟩
      rw [tn, List.filter_append, List.map_append, List.filter_cons, if_neg (by rw [← ec]; exact Bool.false_ne_true)]; simp
  · rintro k2 acc ⟨rfl, rfl⟩
    rw [List.length_map, List.take_length]; exact hf
theorem ws_fL (p : α → Bool) (ei : α → PyData) (g : α → PyData) (i iy : Nat) {x y : Str} {px py : Pos} {c : Expr} (b : Blk C scope i x) (ty : Tgt C iy y) (hyl : C.sc.names.lookup y = some .local) (hk : C.sc.kind = .function) (hl : (py.line == pos.line) = true) (ha : (scope.names.any fun (n, k) => n == y && (k == .local || k == .cell)) = false) (hK : F.K = C.K) (hfs : ∀ (env : Env) (v : Value), foldedSetIterable iter env v = pure v)
    (h : WPE F C iter ρ k fun k1 d => ∃ as : List α, d = .list (as.map ei) ∧ as.length ≤ 1000000 ∧ (∀ D (j : α), j ∈ as → WPT (F.ext D) (C.blk scope) c (ρ.set i (.d (ei j))) k1 fun k2 b => k2 = k1 ∧ b = p j ∧ (b = true → WPE (F.ext D) (C.blk scope) elt (ρ.set i (.d (ei j))) k1 fun k3 y => k3 = k1 ∧ y = g j)) ∧ P.nx k1 (ρ.set iy (.d (.list (((as).filter p).map g))))) : WPS F C (.Assign [.Name y py] (.ListComp elt [⟨.Name x px, iter, [c], 0⟩] scope pos) spos) ρ k P := by
  refine ws_compL1 i iy b ty hyl hk hl ha hK hfs (h.imp fun k1 d hh => ?_)
  obtain ⟨as, e, hz, hb, hf⟩ := hh
  refine ⟨fun j k2 acc => k2 = k1 ∧ acc = ((as.take j).filter p).map g, as.map ei, e, by rw [List.length_map]; exact hz, ⟨rfl, by simp⟩, ?_, ?_⟩
  · rintro D j y k2 acc hy ⟨rfl, rfl⟩
    rw [List.getElem?_map] at hy
    cases ha' : as[j]? with
    | none => rw [ha'] at hy; cases hy
    | some a' =>
    rw [ha'] at hy
    cases hy
    have tn := take_next ha'
    refine (hb D _ (List.mem_of_getElem? ha')).imp fun k3 c' hc => ?_
    obtain ⟨rfl, ec, hel⟩ := hc
    cases c' with
    | true =>
      rw [if_pos rfl]
      refine (hel rfl).imp fun k4 y' ⟨e1, e2⟩ => ⟨e1, ?_⟩
      rw [tn, List.filter_append, List.map_append, e2, List.filter_cons, if_pos ec.symm]; rfl
    | false =>
      rw [if_neg Bool.false_ne_true]
      refine ⟨rfl, ?_⟩
      rw [tn, List.filter_append, List.map_append, List.filter_cons, if_neg (by rw [← ec]; exact Bool.false_ne_true)]; simp
  · rintro k2 acc ⟨rfl, rfl⟩
    rw [List.length_map, List.take_length]; exact hf
theorem we_mT (ei : α → PyData) (g : α → PyData) (i : Nat) {x : Str} {px : Pos} (b : Blk C scope i x) (hK : F.K = C.K) (hfs : ∀ (env : Env) (v : Value), foldedSetIterable iter env v = pure v)
    (h : WPE F C iter ρ k fun k1 d => ∃ as : List α, d = .tuple (as.map ei) ∧ as.length ≤ 1000000 ∧ (∀ D (j : α), j ∈ as → WPE (F.ext D) (C.blk scope) elt (ρ.set i (.d (ei j))) k1 fun k3 y => k3 = k1 ∧ y = g j) ∧ Φ k1 (.list ((as).map g))) : WPE F C (.ListComp elt [⟨.Name x px, iter, [], 0⟩] scope pos) ρ k Φ := by
  refine we_compT0 i b hK hfs (h.imp fun k1 d hh => ?_)
  obtain ⟨as, e, hz, hb, hf⟩ := hh
  refine ⟨fun j k2 acc => k2 = k1 ∧ acc = (as.take j).map g, as.map ei, e, by rw [List.length_map]; exact hz, ⟨rfl, by simp⟩, ?_, ?_⟩
  · rintro D j y k2 acc hy ⟨rfl, rfl⟩
    rw [List.getElem?_map] at hy
    cases ha' : as[j]? with
    | none => rw [ha'] at hy; cases hy
    | some a' =>
    rw [ha'] at hy
    cases hy
    have tn := take_next ha'
    refine (hb D _ (List.mem_of_getElem? ha')).imp fun k4 y' ⟨e1, e2⟩ => ⟨e1, ?_⟩
    rw [tn, e2, List.map_append]; rfl
  · rintro k2 acc ⟨rfl, rfl⟩
    rw [List.length_map, List.take_length]; exact hf
theorem ws_mT (ei : α → PyData) (g : α → PyData) (i iy : Nat) {x y : Str} {px py : Pos} (b : Blk C scope i x) (ty : Tgt C iy y) (hyl : C.sc.names.lookup y = some .local) (hk : C.sc.kind = .function) (hl : (py.line == pos.line) = true) (ha : (scope.names.any fun (n, k) => n == y && (k == .local || k == .cell)) = false) (hK : F.K = C.K) (hfs : ∀ (env : Env) (v : Value), foldedSetIterable iter env v = pure v)
    (h : WPE F C iter ρ k fun k1 d => ∃ as : List α, d = .tuple (as.map ei) ∧ as.length ≤ 1000000 ∧ (∀ D (j : α), j ∈ as → WPE (F.ext D) (C.blk scope) elt (ρ.set i (.d (ei j))) k1 fun k3 y => k3 = k1 ∧ y = g j) ∧ P.nx k1 (ρ.set iy (.d (.list ((as).map g))))) : WPS F C (.Assign [.Name y py] (.ListComp elt [⟨.Name x px, iter, [], 0⟩] scope pos) spos) ρ k P := by
  refine ws_compT0 i iy b ty hyl hk hl ha hK hfs (h.imp fun k1 d hh => ?_)
  obtain ⟨as, e, hz, hb, hf⟩ := hh
  refine ⟨fun j k2 acc => k2 = k1 ∧ acc = (as.take j).map g, as.map ei, e, by rw [List.length_map]; exact hz, ⟨rfl, by simp⟩, ?_, ?_⟩
  · rintro D j y k2 acc hy ⟨rfl, rfl⟩
    rw [List.getElem?_map] at hy
    cases ha' : as[j]? with
    | none => rw [ha'] at hy; cases hy
    | some a' =>
    rw [ha'] at hy
    cases hy
    have tn := take_next ha'
    refine (hb D _ (List.mem_of_getElem? ha')).imp fun k4 y' ⟨e1, e2⟩ => ⟨e1, ?_⟩
    rw [tn, e2, List.map_append]; rfl
  · rintro k2 acc ⟨rfl, rfl⟩
    rw [List.length_map, List.take_length]; exact hf
theorem we_fT (p : α → Bool) (ei : α → PyData) (g : α → PyData) (i : Nat) {x : Str} {px : Pos} {c : Expr} (b : Blk C scope i x) (hK : F.K = C.K) (hfs : ∀ (env : Env) (v : Value), foldedSetIterable iter env v = pure v)
    (h : WPE F C iter ρ k fun k1 d => ∃ as : List α, d = .tuple (as.map ei) ∧ as.length ≤ 1000000 ∧ (∀ D (j : α), j ∈ as → WPT (F.ext D) (C.blk scope) c (ρ.set i (.d (ei j))) k1 fun k2 b => k2 = k1 ∧ b = p j ∧ (b = true → WPE (F.ext D) (C.blk scope) elt (ρ.set i (.d (ei j))) k1 fun k3 y => k3 = k1 ∧ y = g j)) ∧ Φ k1 (.list (((as).filter p).map g))) : WPE F C (.ListComp elt [⟨.Name x px, iter, [c], 0⟩] scope pos) ρ k Φ := by
  refine we_compT1 i b hK hfs (h.imp fun k1 d hh => ?_)
  obtain ⟨as, e, hz, hb, hf⟩ := hh
  refine ⟨fun j k2 acc => k2 = k1 ∧ acc = ((as.take j).filter p).map g, as.map ei, e, by rw [List.length_map]; exact hz, ⟨rfl, by simp⟩, ?_, ?_⟩
  · rintro D j y k2 acc hy ⟨rfl, rfl⟩
    rw [List.getElem?_map] at hy
    cases ha' : as[j]? with
    | none => rw [ha'] at hy; cases hy
    | some a' =>
    rw [ha'] at hy
    cases hy
    have tn := take_next ha'
    refine (hb D _ (List.mem_of_getElem? ha')).imp fun k3 c' hc => ?_
    obtain ⟨rfl, ec, hel⟩ := hc
    cases c' with
    | true =>
      rw [if_pos rfl]
      refine (hel rfl).imp fun k4 y' ⟨e1, e2⟩ => ⟨e1, ?_⟩
      rw [tn, List.filter_append, List.map_append, e2, List.filter_cons, if_pos ec.symm]; rfl
    | false =>
      rw [if_neg Bool.false_ne_true]
      refine ⟨rfl, ?_⟩
      rw [tn, List.filter_append, List.map_append, List.filter_cons, if_neg (by rw [← ec]; exact Bool.false_ne_true)]; simp
  · rintro k2 acc ⟨rfl, rfl⟩
    rw [List.length_map, List.take_length]; exact hf
theorem ws_fT (p : α → Bool) (ei : α → PyData) (g : α → PyData) (i iy : Nat) {x y : Str} {px py : Pos} {c : Expr} (b : Blk C scope i x) (ty : Tgt C iy y) (hyl : C.sc.names.lookup y = some .local) (hk : C.sc.kind = .function) (hl : (py.line == pos.line) = true) (ha : (scope.names.any fun (n, k) => n == y && (k == .local || k == .cell)) = false) (hK : F.K = C.K) (hfs : ∀ (env : Env) (v : Value), foldedSetIterable iter env v = pure v)
    (h : WPE F C iter ρ k fun k1 d => ∃ as : List α, d = .tuple (as.map ei) ∧ as.length ≤ 1000000 ∧ (∀ D (j : α), j ∈ as → WPT (F.ext D) (C.blk scope) c (ρ.set i (.d (ei j))) k1 fun k2 b => k2 = k1 ∧ b = p j ∧ (b = true → WPE (F.ext D) (C.blk scope) elt (ρ.set i (.d (ei j))) k1 fun k3 y => k3 = k1 ∧ y = g j)) ∧ P.nx k1 (ρ.set iy (.d (.list (((as).filter p).map g))))) : WPS F C (.Assign [.Name y py] (.ListComp elt [⟨.Name x px, iter, [c], 0⟩] scope pos) spos) ρ k P := by
  refine ws_compT1 i iy b ty hyl hk hl ha hK hfs (h.imp fun k1 d hh => ?_)
  obtain ⟨as, e, hz, hb, hf⟩ := hh
  refine ⟨fun j k2 acc => k2 = k1 ∧ acc = ((as.take j).filter p).map g, as.map ei, e, by rw [List.length_map]; exact hz, ⟨rfl, by simp⟩, ?_, ?_⟩
  · rintro D j y k2 acc hy ⟨rfl, rfl⟩
    rw [List.getElem?_map] at hy
    cases ha' : as[j]? with
    | none => rw [ha'] at hy; cases hy
    | some a' =>
    rw [ha'] at hy
    cases hy
    have tn := take_next ha'
    refine (hb D _ (List.mem_of_getElem? ha')).imp fun k3 c' hc => ?_
    obtain ⟨rfl, ec, hel⟩ := hc
    cases c' with
    | true =>
      rw [if_pos rfl]
      refine (hel rfl).imp fun k4 y' ⟨e1, e2⟩ => ⟨e1, ?_⟩
      rw [tn, List.filter_append, List.map_append, e2, List.filter_cons, if_pos ec.symm]; rfl
    | false =>
      rw [if_neg Bool.false_ne_true]
      refine ⟨rfl, ?_⟩
      rw [tn, List.filter_append, List.map_append, List.filter_cons, if_neg (by rw [← ec]; exact Bool.false_ne_true)]; simp
  · rintro k2 acc ⟨rfl, rfl⟩
    rw [List.length_map, List.take_length]; exact hf
theorem we_mR (g : Int → PyData) (i : Nat) {x : Str} {px : Pos} (b : Blk C scope i x) {e : Expr} {pr pr2 : Pos} (hg : C.sc.names.lookup ("range" : Str) = some .globalImplicit) (hm : C.mg ("range" : Str) = none) (hse : ∀ env : Env, starEach [e] env = [(false, eval e env)]) (hfs : ∀ (env : Env) (v : Value), foldedSetIterable (.Call (.Name "range" pr) [e] [] pr2) env v = pure v)
    (h : WPE F C e ρ k fun k1 d => ∃ z : Int, d = .int z ∧ -(2 ^ 62) ≤ z ∧ z ≤ 1000000 ∧ (∀ D (j : Int), 0 ≤ j → j < z → WPE (F.ext D) (C.blk scope) elt (ρ.set i (.d (.int j))) k1 fun k3 y => k3 = k1 ∧ y = g j) ∧ Φ k1 (.list ((rg z).map g))) : WPE F C (.ListComp elt [⟨.Name x px, (.Call (.Name "range" pr) [e] [] pr2), [], 0⟩] scope pos) ρ k Φ := by
  refine we_compR0 i b hg hm hse hfs (h.imp fun k1 d hh => ?_)
  obtain ⟨z, e, z1, z2, hb, hf⟩ := hh
  refine ⟨fun j k2 acc => k2 = k1 ∧ acc = (rg (j : Int)).map g, z, e, z1, z2, ⟨rfl, rfl⟩, ?_, ?_⟩
  · rintro D j k2 acc hj ⟨rfl, rfl⟩
    have tn : rg ((j + 1 : Nat) : Int) = rg (j : Int) ++ [(j : Int)] := by rw [show ((j + 1 : Nat) : Int) = (j : Int) + 1 by omega, rg_succ]
    refine (hb D _ (by omega) (by omega)).imp fun k4 y' ⟨e1, e2⟩ => ⟨e1, ?_⟩
    rw [tn, e2, List.map_append]; rfl
  · rintro k2 acc ⟨rfl, rfl⟩
    have ez : rg ((z.toNat : Nat) : Int) = rg z := by unfold rg; congr 2
    rw [ez]; exact hf
theorem ws_mR (g : Int → PyData) (i iy : Nat) {x y : Str} {px py : Pos} (b : Blk C scope i x) (ty : Tgt C iy y) (hyl : C.sc.names.lookup y = some .local) (hk : C.sc.kind = .function) (hl : (py.line == pos.line) = true) (ha : (scope.names.any fun (n, k) => n == y && (k == .local || k == .cell)) = false) {e : Expr} {pr pr2 : Pos} (hg : C.sc.names.lookup ("range" : Str) = some .globalImplicit) (hm : C.mg ("range" : Str) = none) (hse : ∀ env : Env, starEach [e] env = [(false, eval e env)]) (hfs : ∀ (env : Env) (v : Value), foldedSetIterable (.Call (.Name "range" pr) [e] [] pr2) env v = pure v)
    (h : WPE F C e ρ k fun k1 d => ∃ z : Int, d = .int z ∧ -(2 ^ 62) ≤ z ∧ z ≤ 1000000 ∧ (∀ D (j : Int), 0 ≤ j → j < z → WPE (F.ext D) (C.blk scope) elt (ρ.set i (.d (.int j))) k1 fun k3 y => k3 = k1 ∧ y = g j) ∧ P.nx k1 (ρ.set iy (.d (.list ((rg z).map g))))) : WPS F C (.Assign [.Name y py] (.ListComp elt [⟨.Name x px, (.Call (.Name "range" pr) [e] [] pr2), [], 0⟩] scope pos) spos) ρ k P := by
  refine ws_compR0 i iy b ty hyl hk hl ha hg hm hse hfs (h.imp fun k1 d hh => ?_)
  obtain ⟨z, e, z1, z2, hb, hf⟩ := hh
  refine ⟨fun j k2 acc => k2 = k1 ∧ acc = (rg (j : Int)).map g, z, e, z1, z2, ⟨rfl, rfl⟩, ?_, ?_⟩
  · rintro D j k2 acc hj ⟨rfl, rfl⟩
    have tn : rg ((j + 1 : Nat) : Int) = rg (j : Int) ++ [(j : Int)] := by rw [show ((j + 1 : Nat) : Int) = (j : Int) + 1 by omega, rg_succ]
    refine (hb D _ (by omega) (by omega)).imp fun k4 y' ⟨e1, e2⟩ => ⟨e1, ?_⟩
    rw [tn, e2, List.map_append]; rfl
  · rintro k2 acc ⟨rfl, rfl⟩
    have ez : rg ((z.toNat : Nat) : Int) = rg z := by unfold rg; congr 2
    rw [ez]; exact hf
theorem we_fR (p : Int → Bool) (g : Int → PyData) (i : Nat) {x : Str} {px : Pos} {c : Expr} (b : Blk C scope i x) {e : Expr} {pr pr2 : Pos} (hg : C.sc.names.lookup ("range" : Str) = some .globalImplicit) (hm : C.mg ("range" : Str) = none) (hse : ∀ env : Env, starEach [e] env = [(false, eval e env)]) (hfs : ∀ (env : Env) (v : Value), foldedSetIterable (.Call (.Name "range" pr) [e] [] pr2) env v = pure v)
    (h : WPE F C e ρ k fun k1 d => ∃ z : Int, d = .int z ∧ -(2 ^ 62) ≤ z ∧ z ≤ 1000000 ∧ (∀ D (j : Int), 0 ≤ j → j < z → WPT (F.ext D) (C.blk scope) c (ρ.set i (.d (.int j))) k1 fun k2 b => k2 = k1 ∧ b = p j ∧ (b = true → WPE (F.ext D) (C.blk scope) elt (ρ.set i (.d (.int j))) k1 fun k3 y => k3 = k1 ∧ y = g j)) ∧ Φ k1 (.list (((rg z).filter p).map g))) : WPE F C (.ListComp elt [⟨.Name x px, (.Call (.Name "range" pr) [e] [] pr2), [c], 0⟩] scope pos) ρ k Φ := by
  refine we_compR1 i b hg hm hse hfs (h.imp fun k1 d hh => ?_)
  obtain ⟨z, e, z1, z2, hb, hf⟩ := hh
  refine ⟨fun j k2 acc => k2 = k1 ∧ acc = ((rg (j : Int)).filter p).map g, z, e, z1, z2, ⟨rfl, rfl⟩, ?_, ?_⟩
  · rintro D j k2 acc hj ⟨rfl, rfl⟩
    have tn : rg ((j + 1 : Nat) : Int) = rg (j : Int) ++ [(j : Int)] := by rw [show ((j + 1 : Nat) : Int) = (j : Int) + 1 by omega, rg_succ]
    refine (hb D _ (by omega) (by omega)).imp fun k3 c' hc => ?_
    obtain ⟨rfl, ec, hel⟩ := hc
    cases c' with
    | true =>
      rw [if_pos rfl]
      refine (hel rfl).imp fun k4 y' ⟨e1, e2⟩ => ⟨e1, ?_⟩
      rw [tn, List.filter_append, List.map_append, e2, List.filter_cons, if_pos ec.symm]; rfl
    | false =>
      rw [if_neg Bool.false_ne_true]
      refine ⟨rfl, ?_⟩
      rw [tn, List.filter_append, List.map_append, List.filter_cons, if_neg (by rw [← ec]; exact Bool.false_ne_true)]; simp
  · rintro k2 acc ⟨rfl, rfl⟩
    have ez : rg ((z.toNat : Nat) : Int) = rg z := by unfold rg; congr 2
    rw [ez]; exact hf
theorem ws_fR (p : Int → Bool) (g : Int → PyData) (i iy : Nat) {x y : Str} {px py : Pos} {c : Expr} (b : Blk C scope i x) (ty : Tgt C iy y) (hyl : C.sc.names.lookup y = some .local) (hk : C.sc.kind = .function) (hl : (py.line == pos.line) = true) (ha : (scope.names.any fun (n, k) => n == y && (k == .local || k == .cell)) = false) {e : Expr} {pr pr2 : Pos} (hg : C.sc.names.lookup ("range" : Str) = some .globalImplicit) (hm : C.mg ("range" : Str) = none) (hse : ∀ env : Env, starEach [e] env = [(false, eval e env)]) (hfs : ∀ (env : Env) (v : Value), foldedSetIterable (.Call (.Name "range" pr) [e] [] pr2) env v = pure v)
    (h : WPE F C e ρ k fun k1 d => ∃ z : Int, d = .int z ∧ -(2 ^ 62) ≤ z ∧ z ≤ 1000000 ∧ (∀ D (j : Int), 0 ≤ j → j < z → WPT (F.ext D) (C.blk scope) c (ρ.set i (.d (.int j))) k1 fun k2 b => k2 = k1 ∧ b = p j ∧ (b = true → WPE (F.ext D) (C.blk scope) elt (ρ.set i (.d (.int j))) k1 fun k3 y => k3 = k1 ∧ y = g j)) ∧ P.nx k1 (ρ.set iy (.d (.list (((rg z).filter p).map g))))) : WPS F C (.Assign [.Name y py] (.ListComp elt [⟨.Name x px, (.Call (.Name "range" pr) [e] [] pr2), [c], 0⟩] scope pos) spos) ρ k P := by
  refine ws_compR1 i iy b ty hyl hk hl ha hg hm hse hfs (h.imp fun k1 d hh => ?_)
  obtain ⟨z, e, z1, z2, hb, hf⟩ := hh
  refine ⟨fun j k2 acc => k2 = k1 ∧ acc = ((rg (j : Int)).filter p).map g, z, e, z1, z2, ⟨rfl, rfl⟩, ?_, ?_⟩
  · rintro D j k2 acc hj ⟨rfl, rfl⟩
    have tn : rg ((j + 1 : Nat) : Int) = rg (j : Int) ++ [(j : Int)] := by rw [show ((j + 1 : Nat) : Int) = (j : Int) + 1 by omega, rg_succ]
    refine (hb D _ (by omega) (by omega)).imp fun k3 c' hc => ?_
    obtain ⟨rfl, ec, hel⟩ := hc
    cases c' with
    | true =>
      rw [if_pos rfl]
      refine (hel rfl).imp fun k4 y' ⟨e1, e2⟩ => ⟨e1, ?_⟩
      rw [tn, List.filter_append, List.map_append, e2, List.filter_cons, if_pos ec.symm]; rfl
    | false =>
      rw [if_neg Bool.false_ne_true]
      refine ⟨rfl, ?_⟩
      rw [tn, List.filter_append, List.map_append, List.filter_cons, if_neg (by rw [← ec]; exact Bool.false_ne_true)]; simp
  · rintro k2 acc ⟨rfl, rfl⟩
    have ez : rg ((z.toNat : Nat) : Int) = rg z := by unfold rg; congr 2
    rw [ez]; exact hf
end
end Dl

namespace Dl
open PySem PySem.Spec PyProof.Rows L2
/-! ### the laws' draws: a list [cells, count, rests] -/
def DkM (st a r : Addr) (b : Addr) : Prop := b = st ∨ b = a ∨ b = r
def DkG (st a r : Addr) (k : Nat) (H : Hp) : Prop := ∃ (cells rests : List Int) (n : Int), H st = some (.lst [.ref a, .int n, .ref r]) ∧ H a = some (.lst (cells.map V.int)) ∧ H r = some (.lst (rests.map V.int)) ∧
  cells.length = rests.length ∧ 0 < cells.length ∧ 0 ≤ n ∧ n + k ≤ 1000000
theorem DkG.weak {st a r : Addr} {k k' : Nat} {H : Hp} (h : DkG st a r k H) (hk : k' ≤ k) : DkG st a r k' H := by
  obtain ⟨c, rs, n, h1, h2, h3, h4, h5, h6, h7⟩ := h
  exact ⟨c, rs, n, h1, h2, h3, h4, h5, h6, by omega⟩
theorem DkG.at {st a r : Addr} {k : Nat} {H H' : Hp} (h : DkG st a r k H) (e : ∀ b, DkM st a r b → H' b = H b) : DkG st a r k H' := by
  obtain ⟨c, rs, n, h1, h2, h3, h4⟩ := h
  exact ⟨c, rs, n, (e st (.inl rfl)).trans h1, (e a (.inr (.inl rfl))).trans h2, (e r (.inr (.inr rfl))).trans h3, h4⟩
theorem DkG.live {st a r : Addr} {k : Nat} {H : Hp} (h : DkG st a r k H) (b : Addr) (hb : DkM st a r b) : H b ≠ none := by
  obtain ⟨c, rs, n, h1, h2, h3, h4⟩ := h
  rcases hb with rfl | rfl | rfl
  · rw [h1]; exact fun z => nomatch z
  · rw [h2]; exact fun z => nomatch z
  · rw [h3]; exact fun z => nomatch z
theorem DkG.lv {st a r : Addr} {k : Nat} {H : Hp} (h : DkG st a r k H) (b : Addr) (hb : DkM st a r b) : Lv H b := by
  obtain ⟨c, rs, n, h1, h2, h3, h4⟩ := h
  rcases hb with rfl | rfl | rfl
  · exact lv_lst h1
  · exact lv_lst h2
  · exact lv_lst h3
def dkFm (K : PySem.W.Frag) (S : Addr → Prop) (H : Hp) (st a r : Addr) : Fm where
  K := K
  S := fun b => S b ∨ DkM st a r b
  M := DkM st a r
  H0 := H
  G := DkG st a r
  ms := fun b h => .inr h
  gm := fun k H H' g e _ => g.at e
  gl := fun k H g b hb => g.live b hb
/-- the frame knows the draws -/
structure IsDk (F : Fm) (st a r : Addr) : Prop where
  M : F.M = DkM st a r
  G : F.G = DkG st a r
theorem IsDk.ext {F : Fm} {st a r : Addr} (h : IsDk F st a r) (D : Addr) : IsDk (F.ext D) st a r := ⟨h.M, h.G⟩
theorem isDk_fm {K : PySem.W.Frag} {S : Addr → Prop} {H : Hp} {st a r : Addr} : IsDk (dkFm K S H st a r) st a r := ⟨rfl, rfl⟩
/-- a def that draws: at most `cost` draws; Pre of its data, R what it may hand back -/
def spDraw (K : PySem.W.Frag) (cost : Nat) (Pre : List PyData → Prop) (R : Rel) : Sp := fun vs H Q _ => ∃ (S : Addr → Prop) (st a r : Addr) (vs' : List V) (ds : List PyData) (k : Nat), vs = .ref st :: vs' ∧ DkG st a r (k + cost) H ∧ (∀ b, S b → Lv H b) ∧ (∀ b, DkM st a r b → S b) ∧ RepAll K S H vs' ds ∧ Pre ds ∧
  ∀ v d H', (∀ b o, ¬ DkM st a r b → H b = some o → H' b = some o) → DkG st a r k H' → Rep K S H' v d → R ds d → Q v H'
structure DFn (P : Program) (w : World) (K : PySem.W.Frag) (mg : Str → Option Value) (base : Heap) (lvl : Nat) (x : Str) (cost : Nat) (Pre : List PyData → Prop) (R : Rel) : Prop where
  ex : ∃ (fa : Addr) (fd : FuncData) (ps : List Str), FnG P w K mg base lvl fa fd ps (spDraw K cost Pre R) ∧ mg x = some (.ref fa) ∧ PySem.W.keepIn K (.ref fa) = true ∧ L2.Binds K fd ps []
section
variable {P : Program} {w : World} {K : PySem.W.Frag} {mg : Str → Option Value} {base : Heap}
theorem env_raw {F : Fm} {H : Hp} {N : List Str} {v : V} {vs : List V} {ds : List PyData} (r : RpAll F H vs ds) : EnvOk F H (L2.start N (v :: vs)) (.raw v :: (ds.map SV.d ++ List.replicate (N.length - (ds.length + 1)) SV.un)) := fun i sv e => by
  have hl := r.length
  unfold L2.start
  cases i with
  | zero => cases e; exact ⟨some v, rfl, rfl⟩
  | succ i =>
    have e' : (ds.map SV.d ++ List.replicate (N.length - (ds.length + 1)) SV.un)[i]? = some sv := e
    show ∃ x, ((vs.map some) ++ List.replicate (N.length - (vs.length + 1)) none)[i]? = some x ∧ SlotOk F H sv x
    by_cases hi : i < ds.length
    · rw [List.getElem?_append_left (by simpa using hi), List.getElem?_map, List.getElem?_eq_getElem hi] at e'
      cases e'
      obtain ⟨u, hu, ru⟩ := r.get (List.getElem?_eq_getElem hi)
      refine ⟨some u, ?_, u, rfl, ru⟩
      rw [List.getElem?_append_left (by simpa [hl] using hi), List.getElem?_map, hu]; rfl
    · rw [List.getElem?_append_right (by simpa using hi)] at e'
      rw [List.getElem?_append_right (by simp; omega)]
      simp only [List.length_map] at e' ⊢
      rw [List.getElem?_replicate] at e' ⊢
      rw [hl]
      by_cases hj : i - ds.length < N.length - (ds.length + 1)
      · rw [if_pos hj] at e' ⊢
        cases e'
        exact ⟨none, rfl, trivial⟩
      · rw [if_neg hj] at e'; cases e'
def drawFm (K : PySem.W.Frag) (S : Addr → Prop) (H : Hp) (st a r : Addr) (hS : ∀ b, DkM st a r b → S b) : Fm where
  K := K
  S := S
  M := DkM st a r
  H0 := H
  G := DkG st a r
  ms := hS
  gm := fun k H H' g e _ => g.at e
  gl := fun k H g b hb => g.live b hb
theorem draw_ok {x qual : Str} {st : Stmt} {f : Addr} {fd : FuncData} {N ps : List Str} {k cost : Nat} {Pre : List PyData → Prop} {R : Rel} (Fn : Fun K x qual st f fd) (Sc : FnScope N ps (defScope st)) (len : ∀ ds, Pre ds → ds.length + 1 = ps.length)
    (body : ∀ (F : Fm) (s a r : Addr) (ds : List PyData) (kk : Nat), IsDk F s a r → F.K = K → Pre ds → WPB F (bodyCs P w K mg base N (defScope st) k) (defBody st) (.raw (.ref s) :: (ds.map SV.d ++ List.replicate (N.length - (ds.length + 1)) SV.un)) (kk + cost) { nx := fun k' _ => kk ≤ k' ∧ R ds .none, rt := fun k' d => kk ≤ k' ∧ R ds d, bk := fun _ _ => False, ct := fun _ _ => False }) :
    FnG P w K mg base (k + 1) f fd ps (spDraw K cost Pre R) := by
  refine FnG.of_body Fn Sc (fun vs H Q E h => ?_) (fun cdv A outer s H vs Q hgd hr h => ?_)
  · obtain ⟨S, st, a, r, vs', ds, k, rfl, _, _, _, rr, hp, _⟩ := h
    rw [List.length_cons, rr.length, len ds hp]
  · obtain ⟨S, st, a, r, vs', ds, kk, rfl, g, al, hS, rr, hp, q⟩ := h
    refine ⟨_, pbB (fits_body hgd hr), ?_⟩
    refine body (drawFm K S H st a r hS) st a r ds kk ⟨rfl, rfl⟩ rfl hp (L2.start N (.ref st :: vs')) H _ (env_raw (F := drawFm K S H st a r hS) rr) ⟨g, fun b o _ e => e, al⟩ ?_ ?_ ?_ ?_
    · exact fun ρ' σ' k' H' _ _ j' e => q _ .none H' (fun b o n h => j'.le b o (fun z => z.elim n id) h) (DkG.weak j'.g e.1) .non e.2
    · exact fun v d' k' H' j' r' e => q v d' H' (fun b o n h => j'.le b o (fun z => z.elim n id) h) (DkG.weak j'.g e.1) r' e.2
    · exact fun _ _ _ _ _ _ _ z => z.elim
    · exact fun _ _ _ _ _ _ _ z => z.elim
end
section
variable {F : Fm} {C : Cs} {ρ : Rho} {k : Nat} {Φ : Nat → PyData → Prop} {es : List Expr} {pos p py : Pos} {x y : Str}
/-- a call of a def that draws, the state by its name -/
theorem we_callD {s a r : Addr} (dk : IsDk F s a r) {j cost : Nat} {Pre : List PyData → Prop} {R : Rel} (hF : DFn C.P C.w C.K C.mg C.base j x cost Pre R) (hl : j ≤ C.lvl) (hK : F.K = C.K) (i : Nat) (hg : C.sc.names.lookup x = some .globalImplicit) (hN : C.N[i]? = some y) (hv : Vis C.sc y) (hr : ρ[i]? = some (.raw (.ref s)))
    (h : WPA F C es ρ k fun k1 ds => Pre ds ∧ ∃ k2, k1 = k2 + cost ∧ ∀ d, R ds d → Φ k2 d) (hdb : (x == ("__debug__" : Str)) = false := by decide) (hd : (y == ("__debug__" : Str)) = false := by decide) (hcd : (y == ("__classdict__" : Str)) = false := by decide)
    (hss : ∀ env : Env, starEach (.Name y py :: es) env = (false, eval (.Name y py) env) :: starEach es env := by intro _; rfl) (hpl : ∀ env : Env, ((backTo pos (starEach es env)).any fun x => x.fst) = false := by intro _; rfl) :
    WPE F C (.Call (.Name x p) (.Name y py :: es) [] pos) ρ k Φ := by
  obtain ⟨fa, fd, ps, G, hm, kp, hb⟩ := hF.ex
  refine of_pe (fun X fx => pe_callF fx G hl hg hm kp hb (pa_cons (pe_var (i := i) (by rw [fx.N]; exact hN) (by rw [fx.sc]; exact hv) hd hcd) (paA fx) (hss X.env)) hdb hss hpl) fun σ H Q en jj q => ?_
  refine ⟨_, en.raw hr, ?_⟩
  refine h σ H _ en jj fun vs ds k1 H1 l1 j1 r1 ⟨hp, k2, e, hf⟩ => ?_
  subst e
  refine ⟨F.S, s, a, r, vs, ds, k2, rfl, dk.G ▸ j1.g, j1.al, fun b hb => F.ms b (dk.M ▸ hb), hK ▸ r1, hp, fun v d H' keep g rv hR => ?_⟩
  have le : Le F H1 H' := fun b o n e => keep b o (fun z => n (.inl (by rw [dk.M]; exact z))) e
  refine q v d k2 H' (l1.trans le) ⟨by rw [dk.G]; exact g, fun b o n e => le b o n (j1.le b o n e), fun b hb => ?_⟩ (by show Rep F.K F.S H' v d; rw [hK]; exact rv) (hf d hR)
  by_cases hM : DkM s a r b
  · exact g.lv b hM
  · exact (j1.al b hb).keep fun o e => keep b o hM e
end
end Dl

namespace Dl
open PySem PySem.Spec PyProof.Rows L2
/-! ### data whose repr is within the line -/
structure Fine (n dp : Nat) (d : PyData) : Prop where
  sh : d.showable = true
  nd : d.hasDict = false
  dp : d.depth ≤ dp
  sz : d.shown.length ≤ n
theorem Fine.ok {n dp : Nat} {d : PyData} (h : Fine n dp d) (hn : n ≤ 16000000 := by decide) (hd : dp ≤ 60 := by decide) : d.showable = true ∧ d.hasDict = false ∧ d.depth ≤ 60 ∧ d.shown.length ≤ sizeLine :=
  ⟨h.sh, h.nd, Nat.le_trans h.dp hd, Nat.le_trans h.sz (Nat.le_trans hn (by decide))⟩
theorem Fine.mono {n n' dp dp' : Nat} {d : PyData} (h : Fine n dp d) (hn : n ≤ n') (hd : dp ≤ dp') : Fine n' dp' d := ⟨h.sh, h.nd, Nat.le_trans h.dp hd, Nat.le_trans h.sz hn⟩
theorem fine_int {i : Int} (h : i.natAbs < 10 ^ 30) : Fine 31 0 (.int i) := by
  refine ⟨?_, by simp only [PyData.hasDict], by simp only [PyData.depth]; exact Nat.le_refl _, ?_⟩
  · simp only [PyData.showable, decide_eq_true_eq]
    by_cases h0 : i.natAbs = 0
    · rw [h0]; decide
    · exact (Nat.log2_lt h0).mpr (Nat.lt_trans h (by decide +kernel))
  · simp only [PyData.shown]
    rw [PySem.ofString_length]
    exact int_text_length_le10 (by decide) h
theorem fine_none : Fine 4 0 .none := ⟨by simp only [PyData.showable], by simp only [PyData.hasDict], by simp only [PyData.depth]; exact Nat.le_refl _, by simp only [PyData.shown]; decide +kernel⟩
theorem fine_bool (b : Bool) : Fine 5 0 (.bool b) := ⟨by simp only [PyData.showable], by simp only [PyData.hasDict], by simp only [PyData.depth]; exact Nat.le_refl _, by cases b <;> simp only [PyData.shown] <;> decide +kernel⟩
section
variable {n dp : Nat}
theorem fine_all : ∀ {ds : List PyData}, (∀ d ∈ ds, Fine n dp d) → PyData.showableAll ds = true ∧ PyData.hasDictAll ds = false ∧ PyData.depthAll ds ≤ dp ∧ ((PyData.shownAll ds).map (·.length)).sum ≤ ds.length * n ∧ (PyData.shownAll ds).length = ds.length
  | [], _ => by simp [PyData.showableAll, PyData.hasDictAll, PyData.depthAll, PyData.shownAll]
  | d :: ds, h => by
    obtain ⟨h1, h2, h3, h4, h5⟩ := fine_all (ds := ds) fun d hd => h d (List.mem_cons_of_mem _ hd)
    have f := h d List.mem_cons_self
    have := f.dp
    have := f.sz
    refine ⟨by simp only [PyData.showableAll, f.sh, h1, Bool.and_self], by simp only [PyData.hasDictAll, f.nd, h2, Bool.or_self], by simp only [PyData.depthAll]; omega, ?_, by simp only [PyData.shownAll, List.length_cons, h5]⟩
    simp only [PyData.shownAll, List.map_cons, List.sum_cons, List.length_cons, Nat.succ_mul]
    omega
theorem fine_tuple {ds : List PyData} {L : Nat} (h : ∀ d ∈ ds, Fine n dp d) (hl : ds.length ≤ L) : Fine (L * (n + 2) + 3) (dp + 1) (.tuple ds) := by
  obtain ⟨h1, h2, h3, h4, h5⟩ := fine_all h
  refine ⟨by simp only [PyData.showable, h1], by simp only [PyData.hasDict, h2], by simp only [PyData.depth]; omega, ?_⟩
  simp only [PyData.shown]
  refine Nat.le_trans (tupleText_len_le _) ?_
  rw [h5, Nat.mul_add]
  have : ds.length * n ≤ L * n := Nat.mul_le_mul_right n hl
  omega
theorem fine_list {ds : List PyData} {L : Nat} (h : ∀ d ∈ ds, Fine n dp d) (hl : ds.length ≤ L) : Fine (L * (n + 2) + 3) (dp + 1) (.list ds) := by
  obtain ⟨h1, h2, h3, h4, h5⟩ := fine_all h
  refine ⟨by simp only [PyData.showable, h1], by simp only [PyData.hasDict, h2], by simp only [PyData.depth]; omega, ?_⟩
  simp only [PyData.shown]
  refine Nat.le_trans (listText_len_le _) ?_
  rw [h5, Nat.mul_add]
  have : ds.length * n ≤ L * n := Nat.mul_le_mul_right n hl
  omega
end
theorem fine_ints {ns : List Int} {L : Nat} (h : ∀ i ∈ ns, i.natAbs < 10 ^ 30) (hl : ns.length ≤ L) : Fine (L * 33 + 3) 1 (.tuple (ns.map PyData.int)) :=
  fine_tuple (n := 31) (dp := 0) (fun d hd => by obtain ⟨i, hi, rfl⟩ := List.mem_map.mp hd; exact fine_int (h i hi)) (by rw [List.length_map]; exact hl)
theorem fine_intsL {ns : List Int} {L : Nat} (h : ∀ i ∈ ns, i.natAbs < 10 ^ 30) (hl : ns.length ≤ L) : Fine (L * 33 + 3) 1 (.list (ns.map PyData.int)) :=
  fine_list (n := 31) (dp := 0) (fun d hd => by obtain ⟨i, hi, rfl⟩ := List.mem_map.mp hd; exact fine_int (h i hi)) (by rw [List.length_map]; exact hl)
/-! ### the law's own end, where its first statement makes the draws -/
def spDraws (K : PySem.W.Frag) : Sp := fun vs H Q _ => ∃ (sc : Addr) (ns : List Int), vs = [.ref sc] ∧ SqL K H sc (ns.map V.int) ∧ ns.length ≤ 63 ∧
  ∀ H' st a r, Same H H' → H st = none → H a = none → H r = none → DkG st a r 900000 H' → Q (.ref st) H'
def spLaw (K : PySem.W.Frag) : Sp := fun vs H Q _ => ∃ (sc : Addr) (ns : List Int), vs = [.ref sc] ∧ SqL K H sc (ns.map V.int) ∧ ns.length ≤ 63 ∧ ∀ H', Q (.bl true) H'
section
variable {P : Program} {w : World} {K : PySem.W.Frag} {mg : Str → Option Value} {base : Heap}
theorem lawB_ok {qual : Str} {st : Stmt} {f : Addr} {fd : FuncData} {N : List Str} {k j : Nat} {xs xd xt : Str} {p1 p2 p3 p4 p5 : Pos} {rest : List Stmt} (Fn : Fun K "law" qual st f fd) (Sc : FnScope N [xs] (defScope st)) (hbody : defBody st = .Assign [.Name xt p1] (.Call (.Name xd p2) [.Name xs p3] [] p4) p5 :: rest)
    (gd : ∃ (fa : Addr) (fdd : FuncData), FnG P w K mg base j fa fdd [xs] (spDraws K) ∧ mg xd = some (.ref fa) ∧ PySem.W.keepIn K (.ref fa) = true ∧ L2.Binds K fdd [xs] []) (hj : j ≤ k)
    (h0 : N[0]? = some xs) (h1 : N[1]? = some xt) (vs : Vis (defScope st) xs) (lt : Loc (defScope st) xt) (gl : (defScope st).names.lookup xd = some .globalImplicit)
    (hsw : ∀ env : Env, swapsWith (.Call (.Name xd p2) [.Name xs p3] [] p4) (some (.Name xt p1)) p5.line env = pure false)
    (body : ∀ (F : Fm) (s a r : Addr), IsDk F s a r → F.K = K → WPB F (bodyCs P w K mg base N (defScope st) k) rest (.un :: .raw (.ref s) :: List.replicate (N.length - 2) SV.un) 900000 { nx := fun _ _ => False, rt := fun _ d => d = .bool true, bk := fun _ _ => False, ct := fun _ _ => False })
    (hdb : (xd == ("__debug__" : Str)) = false := by decide) (hdb2 : (xs == ("__debug__" : Str)) = false := by decide) (hcd : (xs == ("__classdict__" : Str)) = false := by decide) : FnG P w K mg base (k + 1) f fd [xs] (spLaw K) := by
  obtain ⟨fa, fdd, G, hm, kp, hb⟩ := gd
  refine FnG.of_body Fn Sc (fun vs H Q E h => ?_) (fun cdv A outer s H vs Q hgd hr h => ?_)
  · obtain ⟨sc, ns, rfl, _⟩ := h
    rfl
  obtain ⟨sc, ns, rfl, hS, hlen, q⟩ := h
  have fx := fits_body (CX := CX0) (P := P) (w := w) (K := K) (mg := mg) (base := base) (N := N) (outer := outer) (s := s) (H := H) (E := E0) hgd hr
  rw [hbody]
  have hN0 : 2 ≤ N.length := by
    have := (List.getElem?_eq_some_iff.mp h1).1
    omega
  refine ⟨_, pss_cons (ps_set (i := 1) Sc.nd h1 lt (FnG.pe G hgd (hr.mono hj) hb gl hm kp (pa_cons (pe_var (i := 0) h0 vs hdb2 hcd) pa_nil) hdb rfl rfl) (hsw _) (.inl rfl)) (pbB fx), ?_⟩
  have est : L2.start N [.ref sc] = some (.ref sc) :: none :: List.replicate (N.length - 2) none := by
    unfold L2.start
    show some (V.ref sc) :: List.replicate (N.length - 1) none = _
    rw [show N.length - 1 = (N.length - 2) + 1 by omega]; rfl
  rw [est]
  refine ⟨.ref sc, rfl, sc, ns, rfl, hS, hlen, fun H' st a r sm hst ha hr' g => ?_⟩
  refine body (drawFm K (DkM st a r) H' st a r (fun b hb => hb)) st a r ⟨rfl, rfl⟩ rfl (some (.ref sc) :: some (.ref st) :: List.replicate (N.length - 2) none) H' _ (fun i sv e => ?_) ⟨g, fun b o _ e => e, fun b hb => g.lv b hb⟩ ?_ ?_ ?_ ?_
  · match i, e with
    | 0, e => cases e; exact ⟨_, rfl, trivial⟩
    | 1, e => cases e; exact ⟨_, rfl, rfl⟩
    | i + 2, e =>
      have e' : (List.replicate (N.length - 2) SV.un)[i]? = some sv := e
      rw [List.getElem?_replicate] at e'
      by_cases hi : i < N.length - 2
      · rw [if_pos hi] at e'
        cases e'
        exact ⟨none, by show (List.replicate (N.length - 2) none)[i]? = _; rw [List.getElem?_replicate, if_pos hi], trivial⟩
      · rw [if_neg hi] at e'; cases e'
  · exact fun _ _ _ _ _ _ _ z => z.elim
  · exact fun v d k' H2 _ rv e => by subst e; cases rv; exact q H2
  · exact fun _ _ _ _ _ _ _ z => z.elim
  · exact fun _ _ _ _ _ _ _ z => z.elim
end
end Dl

namespace Dl
open PySem PySem.Spec PyProof.Rows L2
/-! ### a list of the def's own, that grows -/
def plainB : SV → Bool
  | .own _ _ => false
  | _ => true
theorem noOwn_of {ρ : Rho} {i : Nat} (h : (ρ.set i .un).all plainB = true) (j : Nat) (o : Addr) (xs : List PyData) (hj : j ≠ i) (e : ρ[j]? = some (.own o xs)) : False := by
  have e' : (ρ.set i .un)[j]? = some (.own o xs) := by rw [List.getElem?_set_ne (Ne.symm hj)]; exact e
  have := List.all_eq_true.mp h _ (List.mem_of_getElem? e')
  cases this
section
variable {F : Fm} {C : Cs} {ρ : Rho} {k : Nat} {P : DE} {Φ : Nat → PyData → Prop} {pos p px p2 ap cp : Pos} {x : Str} {rest : List Stmt} {e : Expr}
theorem wb_own (i : Nat) (t : Tgt C i x) (hi : i < ρ.length) (hs : ∀ env : Env, env.scope = C.sc → swapsWith (.List [] p2) (some (.Name x px)) pos.line env = pure false)
    (h : ∀ o, WPB (F.ext o) C rest (ρ.set i (.own o [])) k { nx := fun _ _ => False, rt := P.rt, bk := fun _ _ => False, ct := fun _ _ => False }) : WPB F C (.Assign [.Name x px] (.List [] p2) pos :: rest) ρ k P :=
  of_pb (fun X fx => pss_cons (ps_set (by rw [fx.N]; exact t.hN) (by rw [fx.N]; exact t.hi) (by rw [fx.sc]; exact t.hx) (pe_lst pa_nil) (hs X.env fx.sc) (by rw [fx.fn, fx.sc]; exact t.hf)) (pbB fx)) fun σ H E en j q1 q2 q3 q4 => by
    refine ⟨Nat.zero_le _, fun o no => ?_⟩
    have hM : ¬ F.M o := fun z => F.gl _ _ j.g o z no
    have h0 : F.H0 o = none := j.h0 hM no
    have en2 : EnvOk (F.ext o) (upd H o (.lst [])) (σ.set i (some (.ref o))) (ρ.set i (.own o [])) :=
      (en.ext no).set (sv := .own o []) ⟨rfl, .inr rfl, hM, h0, [], upd_same, .nil⟩
    refine h o (σ.set i (some (.ref o))) (upd H o (.lst [])) E en2 ((j.new no).ext (lv_new fun _ z => nomatch z)) ?_ ?_ ?_ ?_
    · exact fun _ _ _ _ _ _ _ z => z.elim
    · exact fun v d k' H' j' r' p => q2 v d k' H' j'.unext r'.unext p
    · exact fun _ _ _ _ _ _ _ z => z.elim
    · exact fun _ _ _ _ _ _ _ z => z.elim
theorem EnvOk.own {H : Hp} {σ : L2.St} {i : Nat} {o : Addr} {xs : List PyData} (en : EnvOk F H σ ρ) (e : ρ[i]? = some (.own o xs)) : σ[i]? = some (some (.ref o)) ∧ F.S o ∧ ¬ F.M o ∧ F.H0 o = none ∧ ∃ vs, H o = some (.lst vs) ∧ RpAll F H vs xs := by
  obtain ⟨y, q, h1, h2⟩ := en i _ e
  exact ⟨by rw [q, h1], h2⟩
/-- the own list becomes another one -/
theorem EnvOk.ownSet {H : Hp} {σ : L2.St} {i : Nat} {o : Addr} {xs ys : List PyData} {ws : List V} (en : EnvOk F H σ ρ) (e : ρ[i]? = some (.own o xs)) (hno : (ρ.set i .un).all plainB = true) (r : RpAll F H ws ys) : EnvOk F (upd H o (.lst ws)) σ (ρ.set i (.own o ys)) := by
  obtain ⟨hσ, hS, hM, h0, vs, hv, rv⟩ := en.own e
  have lz : ∀ b u, ¬ F.S b → H b = some u → (upd H o (.lst ws)) b = some u := fun b u hb z => by rw [upd_ne (show b ≠ o from fun y => hb (y ▸ hS))]; exact z
  intro j sv ej
  by_cases hj : i = j
  · subst hj
    have hl : i < ρ.length := (List.getElem?_eq_some_iff.mp e).1
    rw [List.getElem?_set_self hl] at ej
    cases ej
    exact ⟨_, hσ, rfl, hS, hM, h0, ws, upd_same, RepAll.keep lz (fun _ _ z => z) _ _ r⟩
  · rw [List.getElem?_set_ne hj] at ej
    obtain ⟨y, q, s⟩ := en j sv ej
    refine ⟨y, q, ?_⟩
    cases sv with
    | un => trivial
    | d d => obtain ⟨v, z, r⟩ := s; exact ⟨v, z, Rep.keep lz (fun _ _ z => z) _ _ r⟩
    | raw v => exact s
    | own o' xs' => exact (noOwn_of hno j o' xs' (Ne.symm hj) ej).elim
theorem ws_append (i : Nat) {o : Addr} {xs : List PyData} (hN : C.N[i]? = some x) (hv : Vis C.sc x) (hr : ρ[i]? = some (.own o xs)) (hno : (ρ.set i .un).all plainB = true) (hz : xs.length ≤ 1000000)
    (hse : ∀ env : Env, starEach [e] env = (false, eval e env) :: starEach [] env) (h : WPE F C e ρ k fun k1 d => P.nx k1 (ρ.set i (.own o (xs ++ [d]))))
    (hsw : ∀ env : Env, swapsWith (.Call (.Attribute (.Name x px) "append" ap) [e] [] cp) none pos.line env = pure false) (hd : (x == ("__debug__" : Str)) = false := by decide) (hcd : (x == ("__classdict__" : Str)) = false := by decide)
    (hbm : ∀ X : Cx, ∀ {to : TE} {t : TA}, PE X (.Name x px) to → PA X [e] t → PE X (.Call (.Attribute (.Name x px) "append" ap) [e] [] cp) (tBM X.K "list" rAppend to t) := by exact fun X {to t} h1 h2 => pe_bm PySem.F.plainAttrs_list PySem.F.slot_list_append PySem.F.type_list_append mt_append h1 h2) :
    WPS F C (.Expr (.Call (.Attribute (.Name x px) "append" ap) [e] [] cp) pos) ρ k P :=
  of_ps (t := tDrop (tBM C.K "list" rAppend (tVar i) (tCons (tE C e) tNil))) (fun X fx => ps_expr (by rw [← fx.K]; exact hbm X (pe_var (by rw [fx.N]; exact hN) (by rw [fx.sc]; exact hv) hd hcd) (pa_cons (peE fx) pa_nil (hse X.env))) (hsw X.env)) fun σ H E en j q1 q2 q3 q4 => by
    obtain ⟨hσ, hS, hM, h0, vs, hv', rv⟩ := en.own hr
    refine ⟨_, hσ, .inl ⟨rfl, _, SqL.of hv'⟩, ?_⟩
    show tE C e σ H _
    refine h σ H _ en j fun v d k1 H1 l1 j1 r1 p => ?_
    have hv1 : H1 o = some (.lst vs) := l1 o _ (Fm.mxA hM) hv'
    refine ⟨o, vs, v, rfl, rfl, hv1, ?_, ?_⟩
    · rw [rv.length]; exact Nat.lt_of_le_of_lt hz (by decide)
    · refine q1 _ σ k1 _ ?_ ((en.le l1).ownSet hr hno ((rv.le l1.lz).append (.cons r1 .nil))) (j1.own hM h0 (pl_lst (l1 o _ (Fm.mxA hM) hv'))) p
      exact fun b u hb z => by rw [upd_ne (show b ≠ o from fun y => hb (.inl (y ▸ hS)))]; exact l1.lz b u hb z
/-- tuple(x), x the own list -/
theorem we_tupOwn (i : Nat) {o : Addr} {xs : List PyData} (hK : F.K = C.K) (hN : C.N[i]? = some x) (hv : Vis C.sc x) (hr : ρ[i]? = some (.own o xs)) (hg : C.sc.names.lookup ("tuple" : Str) = some .globalImplicit) (hm : C.mg ("tuple" : Str) = none)
    (h : Φ k (.tuple xs)) (hd : (x == ("__debug__" : Str)) = false := by decide) (hcd : (x == ("__classdict__" : Str)) = false := by decide) (hse : ∀ env : Env, starEach [.Name x px] env = (false, eval (.Name x px) env) :: starEach [] env := by intro _; rfl) : WPE F C (.Call (.Name "tuple" p) [.Name x px] [] pos) ρ k Φ :=
  of_pe (fun X fx => pe_callTy (tupK fx) (by show X.env.scope.names.lookup ("tuple" : Str) = _; rw [fx.sc]; exact hg) (by rw [fx.mg]; exact hm) (by decide +kernel) (pa_cons (pe_var (i := i) (by rw [fx.N]; exact hN) (by rw [fx.sc]; exact hv) hd hcd) pa_nil (hse X.env)) (by decide) (by decide) (hse X.env) rfl) fun σ H Q en j q => by
    obtain ⟨hσ, hS, hM, h0, vs, hv', rv⟩ := en.own hr
    refine ⟨_, hσ, o, vs, rfl, .inl ⟨SqL.of hv', fun l hl => ?_⟩⟩
    exact q _ (.tuple xs) k _ (.new hl) (j.new hl) (rep_newT j hl rv) h
/-- eqv with an empty list or tuple -/
theorem eqv_nilL (ds : List PyData) : PyData.eqv (.list ds) (.list []) = ds.isEmpty := by cases ds <;> simp [PyData.eqv, PyData.eqvAll]
theorem eqv_nilT (ds : List PyData) : PyData.eqv (.tuple ds) (.tuple []) = ds.isEmpty := by cases ds <;> simp [PyData.eqv, PyData.eqvAll]
theorem lay_ints : ∀ ns : List Int, PyData.canLayAll0 (ns.map PyData.int) = true ∧ PyData.depthAll (ns.map PyData.int) = 0
  | [] => ⟨by simp [PyData.canLayAll0], by simp [PyData.depthAll]⟩
  | n :: ns => by
    obtain ⟨h1, h2⟩ := lay_ints ns
    exact ⟨by simp [PyData.canLayAll0, PyData.canLay0, h1], by simp [PyData.depthAll, PyData.depth, h2]⟩
theorem shaped_intsL (ns : List Int) : SeqAt.shaped (.list (ns.map PyData.int)) = true := by
  obtain ⟨h1, h2⟩ := lay_ints ns
  simp [SeqAt.shaped, PyData.canLay0, PyData.depth, h1, h2]
theorem shaped_intsT (ns : List Int) : SeqAt.shaped (.tuple (ns.map PyData.int)) = true := by
  obtain ⟨h1, h2⟩ := lay_ints ns
  simp [SeqAt.shaped, PyData.canLay0, PyData.depth, h1, h2]
end
end Dl

namespace Dl
open PySem PySem.Spec PyProof.Rows L2
section
variable {F : Fm} {C : Cs} {ρ : Rho} {k : Nat} {P : DE} {Φ : Nat → PyData → Prop} {Ψ : Nat → Bool → Prop} {pos p p1 p2 p3 p4 pr pr2 : Pos} {x : Str} {rest : List Stmt} {e a b : Expr}
theorem rgV_rg (z : Int) : rgV 0 z = (rg z).map V.int := by
  unfold rgV rg
  rw [List.map_map, Int.sub_zero]
  apply List.map_congr_left
  intro i _
  show V.int (0 + (i : Int)) = V.int (i : Int)
  rw [Int.zero_add]
/-- list(range(z)), tuple(range(z)) -/
theorem we_listRg (hg : C.sc.names.lookup ("list" : Str) = some .globalImplicit) (hm : C.mg ("list" : Str) = none) (hg2 : C.sc.names.lookup ("range" : Str) = some .globalImplicit) (hm2 : C.mg ("range" : Str) = none)
    (hs : ∀ env : Env, starEach [a] env = (false, eval a env) :: starEach [] env) (hs2 : ∀ env : Env, starEach [.Call (.Name "range" pr) [a] [] pr2] env = (false, eval (.Call (.Name "range" pr) [a] [] pr2) env) :: starEach [] env)
    (h : WPE F C a ρ k fun k1 d => ∃ z : Int, d = .int z ∧ (0 ≤ z ∧ z ≤ 16777216) ∧ Φ k1 (.list ((rg z).map PyData.int))) : WPE F C (.Call (.Name "list" p) [.Call (.Name "range" pr) [a] [] pr2] [] pos) ρ k Φ :=
  of_pe (fun X fx => pe_listRg fx.calm (by show X.env.scope.names.lookup ("list" : Str) = _; rw [fx.sc]; exact hg) (by rw [fx.mg]; exact hm) (prg_1 (by show X.env.scope.names.lookup ("range" : Str) = _; rw [fx.sc]; exact hg2) (by rw [fx.mg]; exact hm2) (peE fx) (hs X.env)) (hs2 X.env)) fun σ H Q en j q => by
    show tE C a σ H _
    refine h σ H _ en j fun v d k1 H1 l1 j1 r ⟨z, e, hz, p⟩ => ?_
    subst e
    cases r
    refine ⟨z, rfl, RgOk.of_le (by decide) hz.2 (by decide) hz.1, fun l hl => ?_⟩
    rw [rgV_rg]
    exact q _ _ k1 _ (l1.trans (.new hl)) (j1.new hl) (rep_newL j1 hl (RepAll.of_ints _)) p
theorem we_tupRg (hg : C.sc.names.lookup ("tuple" : Str) = some .globalImplicit) (hm : C.mg ("tuple" : Str) = none) (hg2 : C.sc.names.lookup ("range" : Str) = some .globalImplicit) (hm2 : C.mg ("range" : Str) = none)
    (hs : ∀ env : Env, starEach [a] env = (false, eval a env) :: starEach [] env) (hs2 : ∀ env : Env, starEach [.Call (.Name "range" pr) [a] [] pr2] env = (false, eval (.Call (.Name "range" pr) [a] [] pr2) env) :: starEach [] env)
    (h : WPE F C a ρ k fun k1 d => ∃ z : Int, d = .int z ∧ (0 ≤ z ∧ z ≤ 16777216) ∧ Φ k1 (.tuple ((rg z).map PyData.int))) : WPE F C (.Call (.Name "tuple" p) [.Call (.Name "range" pr) [a] [] pr2] [] pos) ρ k Φ :=
  of_pe (fun X fx => pe_tupRg fx.calm (by show X.env.scope.names.lookup ("tuple" : Str) = _; rw [fx.sc]; exact hg) (by rw [fx.mg]; exact hm) (prg_1 (by show X.env.scope.names.lookup ("range" : Str) = _; rw [fx.sc]; exact hg2) (by rw [fx.mg]; exact hm2) (peE fx) (hs X.env)) (hs2 X.env)) fun σ H Q en j q => by
    show tE C a σ H _
    refine h σ H _ en j fun v d k1 H1 l1 j1 r ⟨z, e, hz, p⟩ => ?_
    subst e
    cases r
    refine ⟨z, rfl, RgOk.of_le (by decide) hz.2 (by decide) hz.1, fun l hl => ?_⟩
    rw [rgV_rg]
    exact q _ _ k1 _ (l1.trans (.new hl)) (j1.new hl) (rep_newT j1 hl (RepAll.of_ints _)) p
/-- a, b = a tuple, the scope known -/
theorem ws_asg2s (i1 i2 : Nat) {x1 x2 : Str} {kk : Nat} (hne : i1 ≠ i2) (t1 : Tgt C i1 x1) (t2 : Tgt C i2 x2) (hK : F.K = C.K)
    (hs : ∀ env : Env, env.scope = C.sc → swapsWithSole [.Tuple [.Name x1 p1, .Name x2 p2] kk p3] e pos.line env = pure false) (hw : ∀ env : Env, env.scope = C.sc → swappedStores [.Tuple [.Name x1 p1, .Name x2 p2] kk p3] e env = pure none)
    (h : WPE F C e ρ k fun k1 d => ∃ d1 d2, d = .tuple [d1, d2] ∧ P.nx k1 ((ρ.set i1 (.d d1)).set i2 (.d d2))) : WPS F C (.Assign [.Tuple [.Name x1 p1, .Name x2 p2] kk p3] e pos) ρ k P :=
  of_ps (fun X fx => ps_asg (peE fx) (pgTup (n := 2) fx (pgs_cons (t1.pg fx) (pgs_cons (t2.pg fx) pgs_nil)) (by rfl) (by rfl)) (hs X.env fx.sc) (hw X.env fx.sc)) fun σ H E en j q1 _ _ _ =>
    h σ H _ en j fun v d k1 H1 l1 j1 r ⟨d1, d2, e, p⟩ => by
      subst e
      cases r with
      | tup ha hr =>
        cases hr with
        | cons r1 hr =>
          cases hr with
          | cons r2 hr =>
            cases hr
            exact ⟨_, _, rfl, hK ▸ sqt_of ha, rfl, _, _, rfl, _, _, rfl, rfl, q1 _ _ k1 H1 l1.lz (((en.le l1).set (sv := .d d1) ⟨_, rfl, r1⟩).set (sv := .d d2) ⟨_, rfl, r2⟩) j1 p⟩
/-- a part of the state's slots is forgotten -/
def Forget : Rho → Rho → Prop
  | [], [] => True
  | x :: xs, y :: ys => (y = .un ∨ y = x) ∧ Forget xs ys
  | _, _ => False
theorem Forget.env : ∀ {H : Hp} {σ : L2.St} {ρ ρ' : Rho}, EnvOk F H σ ρ → Forget ρ ρ' → EnvOk F H σ ρ' := by
  intro H σ ρ ρ' en fo i sv e
  have key : ∀ (ρ ρ' : Rho), Forget ρ ρ' → ∀ (i : Nat) sv, ρ'[i]? = some sv → ∃ sv', ρ[i]? = some sv' ∧ (sv = .un ∨ sv = sv') := by
    intro ρ
    induction ρ with
    | nil => intro ρ' f i sv e; cases ρ' with
      | nil => simp at e
      | cons y ys => cases f
    | cons x xs ih => intro ρ' f i sv e; cases ρ' with
      | nil => cases f
      | cons y ys =>
        cases i with
        | zero => cases e; exact ⟨x, rfl, f.1⟩
        | succ i => exact ih ys f.2 i sv e
  obtain ⟨sv', e', h⟩ := key ρ ρ' fo i sv e
  obtain ⟨x, q, s⟩ := en i sv' e'
  rcases h with rfl | rfl
  · exact ⟨x, q, trivial⟩
  · exact ⟨x, q, s⟩
theorem wb_forget {ρ' : Rho} (f : Forget ρ ρ') (h : WPB F C rest ρ' k P) : WPB F C rest ρ k P := fun σ H E en j q1 q2 q3 q4 => h σ H E (f.env en) j q1 q2 q3 q4
end
end Dl
namespace Dl
open PySem PySem.Spec PyProof.Rows L2
section
variable {F : Fm} {C : Cs} {ρ : Rho} {k : Nat} {P : DE} {st : Stmt} {rest : List Stmt}
/-- a statement, what holds behind it, the rest -/
theorem wb_mid (R : Nat → Rho → Prop) (h1 : WPS F C st ρ k (P.seq R)) (h2 : ∀ k ρ, R k ρ → WPB F C rest ρ k P) : WPB F C (st :: rest) ρ k P :=
  wb_cons (h1.imp h2 (fun _ _ z => z) (fun _ _ z => z) (fun _ _ z => z))
end
end Dl
namespace Dl
open PySem PySem.Spec PyProof.Rows L2
section
variable {F : Fm} {C : Cs} {ρ : Rho} {k : Nat} {Φ : Nat → PyData → Prop} {pos p2 : Pos} {a b e : Expr}
/-- xs + ys, lists -/
theorem we_cat (h : WPE F C a ρ k fun k1 x => WPE F C b ρ k1 fun k2 y => ∃ ds es, x = .list ds ∧ y = .list es ∧ ds.length + es.length ≤ 1000000 ∧ Φ k2 (.list (ds ++ es))) : WPE F C (.BinOp a .Add b pos) ρ k Φ :=
  we_bin (fun X _ => op_cat) (h.imp fun k1 x h1 => h1.imp fun k2 y ⟨ds, es, e1, e2, hz, p⟩ => by
    subst e1 e2
    intro H vx vy Q j rx ry q
    cases rx with
    | @lst a xs _ ha hr =>
    cases ry with
    | @lst b ys _ hb hs =>
    refine ⟨a, b, xs, ys, rfl, rfl, ha.1, hb.1, ?_, fun l hl => q _ _ k2 _ (.new hl) (j.new hl) (rep_newL j hl (hr.append hs)) p⟩
    rw [hr.length, hs.length]; exact Nat.le_trans hz (by decide))
theorem slLK {X : Cx} (fx : Fits C X) : SlR X (rSlL C.K) := by rw [← fx.K]; exact sl_list
/-- xs[:m], a list -/
theorem we_sliceTo (hK : F.K = C.K) {m : Nat} {jj : Nat} {p3 : Pos} (h : WPE F C a ρ k fun k1 x => ∃ ds, x = .list ds ∧ Φ k1 (.list (ds.take m))) : WPE F C (.Subscript a (.Slice none (some (.Constant (.int (m : Int)) jj p3)) none p2) pos) ρ k Φ :=
  of_pe (fun X fx => pe_slice (slLK fx) (peE fx) po_none (po_some pe_int)) fun σ H Q en j q => by
    show tE C a σ H _
    refine h σ H _ en j fun v d k1 H1 l1 j1 r ⟨ds, e, p⟩ => ?_
    subst e
    cases r with
    | @lst a xs _ ha hr =>
    refine ⟨(m : Int), rfl, a, xs, rfl, hK ▸ sql_of ha, fun l hl => ?_⟩
    have ec : cutV xs none (some (m : Int)) = xs.take m := by
      unfold cutV
      rw [HT.sIx_nat, HT.sIx_none, List.drop_zero, Nat.sub_zero, List.take_eq_take_iff]
      omega
    rw [ec]
    exact q _ _ k1 _ (l1.trans (.new hl)) (j1.new hl) (rep_newL j1 hl (hr.take m)) p
end
end Dl
namespace Dl
open PySem PySem.Spec PyProof.Rows L2
section
variable {F : Fm} {C : Cs} {ρ : Rho} {k : Nat} {Φ : Nat → PyData → Prop} {pos p2 : Pos} {a b e : Expr}
theorem we_isB (h : WPE F C a ρ k fun k1 x => WPE F C b ρ k1 fun k2 y => ∃ c c', x = .bool c ∧ y = .bool c' ∧ Φ k2 (.bool (decide (c = c')))) : WPE F C (.Compare a [.Is] [b] pos) ρ k Φ :=
  we_cmp (fun X _ => op_isBl) (nomark _) (h.imp fun k1 x h1 => h1.imp fun k2 y ⟨c, c', e1, e2, p⟩ => by
    subst e1 e2
    intro H vx vy Q j rx ry q
    cases rx
    cases ry
    exact ⟨c, c', rfl, rfl, q _ _ k2 H .refl j (.bl _) p⟩)
end
end Dl

namespace Dl
open PySem PySem.Spec PyProof.Rows L2
/-! ### set(xs), xs a list of ints -/
abbrev nso (w : World) : Obj := ⟨.type "set", none, .set #[] 0 (.fresh 0 0 (!w.params.followText "set-order")), #[]⟩
abbrev GotSet (w : World) (s : Shared) (ns : List Int) (r : Value) (s2 : Shared) : Prop :=
  r = .none ∧ ∃ h' tk c, s2 = { s with heap := h', toks := tk } ∧ SetR w h' s.heap.objs.size (fun j => decide (j ∈ ns)) c ∧ c ≤ ns.length ∧ ∀ b o, s.heap.get? b = some o → h'.get? b = some o
section
variable {P : Program} {w : World} {A : Around} {E : Value → Shared → Prop} {s : Shared}
set_option maxHeartbeats 3200000 in
theorem set_of_list {l : Addr} {its : Array Value} (ns : List Int) {Q : Value → Shared → Prop} (calm : A.handled = none) (hl : s.heap.IsList l its) (hint : IntsAre its.toList ns) (few : ns.length + 1 < scanBound)
    (h : ∀ (h' : Heap) (tk c : Nat), SetR w h' s.heap.objs.size (fun j => decide (j ∈ ns)) c → c ≤ ns.length → (∀ b o, s.heap.get? b = some o → h'.get? b = some o) → Q (.ref s.heap.objs.size) { s with heap := h', toks := tk }) :
    wpAny (model P w) A (call (.type "set") [.ref l]) Q E s := by
  have size_eq : its.size = ns.length := by have z := IntsAre.length hint; rwa [Array.length_toList] at z
  obtain ⟨_, _, hmro⟩ := F.called_set.mro
  have f1 := F.called_set.made; have f2 := F.called_set.sub; have f3 := F.called_set.notType
  have f4 := F.called_set.canCreate; have f5 := F.typeCall_set_1 (.ref l)
  apply wpAny_call; apply codeAny_of_tree
  show wpAny _ _ (callAny (.type "set") _) _ _ _
  apply wpAny_pure
  refine ⟨Code.quiet_builtin _ (by decide +kernel), ?_⟩
  apply codeAny_builtin F.entry_type_call
  rw [Around.under_plain (weight_type_call_type "set" [.ref l] []) rfl]
  repeat (any_goals (first | assumption | wp_step))
  apply codeAny_mono (code_set_led1 (.ref l) (E := E) (Q₁ := fun ob s1 => ob = .ref s.heap.objs.size ∧ s1 = { s with heap := s.heap.push (nso w) }) ⟨rfl, rfl⟩)
  intro r s1 hr
  match r, hr with
  | .error e, hr => exact hr
  | .ok .next, hr => exact hr.elim
  | .ok .brk, hr => exact hr.elim
  | .ok .cont, hr => exact hr.elim
  | .ok (.ret ob), hr =>
    obtain ⟨rfl, rfl⟩ := hr
    have there : (s.heap.push (nso w)).get? s.heap.objs.size = some (nso w) := Heap.get?_push_size _ rfl
    have isSet : Shared.TypeIs { s with heap := s.heap.push (nso w) } (.ref s.heap.objs.size) "set" := ⟨_, there, rfl⟩
    have g1 := F.called_set.init.lookup; have g2 := F.called_set.init.bind (.ref s.heap.objs.size)
    repeat (any_goals (first | assumption | wp_step))
    refine codeAny_mono (codeAny_call_builtin (R := wants (GotSet w s ns) E) F.called_set.init.plain F.entry_set_init (check_set_init_1 isSet ?_)) ?_
    · obtain ⟨ol, at_l, cls_l, cap, dat_l⟩ := hl
      obtain ⟨k1, k2, k3, k4⟩ := ol
      simp only at cls_l dat_l
      subst cls_l; subst dat_l
      have at_l2 : (s.heap.push (nso w)).get? l = some ⟨.type "list", k2, .seq its cap, k4⟩ := Heap.get?_push_of_some _ at_l
      have s1 := F.sub_list_set; have s2 := F.sub_list_frozenset
      have s3 : (Value.type "list" == Value.type "dict") = false := by decide
      have isl : (s.heap.push (nso w)).IsList l its := ⟨_, at_l2, rfl, cap, rfl⟩
      unfold Builtin.«set.__init__» noKeywords Builtin.Frozenset.updateFrom
      generalize hPI : pyIter = PI
      wp_walk
      subst hPI
      apply wpAny_pyIter_list isl
      apply wpAny_bind; apply wpAny_runValue
      have low : l < s.heap.objs.size := Heap.lt_size at_l
      have calm3 : A.in1.in1.in1.handled = none := by simp [calm]
      have apart : l ≠ (s.heap.push (nso w)).objs.size := by
        rw [Heap.size_push]; exact Nat.ne_of_lt (Nat.lt_succ_of_lt low)
      have off : s.heap.objs.size ∉ [(s.heap.push (nso w)).objs.size, l] := by
        rw [Heap.size_push]; simp only [List.mem_cons, List.not_mem_nil, or_false, not_or]
        exact ⟨Nat.ne_of_lt (Nat.lt_succ_self _), Nat.ne_of_gt low⟩
      have item : ∀ (i : Nat) (v : Value), its[i]? = some v → ∃ k t, ns[i]? = some k ∧ v = .int k t := by
        intro i v hv
        have hi : i < ns.length := size_eq ▸ (Array.getElem?_eq_some_iff.mp hv).1
        obtain ⟨t, z⟩ := IntsAre.int_at hint i v (by rw [Array.getElem?_toList]; exact hv)
        exact ⟨ns[i], t, List.getElem?_eq_getElem hi, by rw [z, List.getD_eq_getElem?_getD, List.getElem?_eq_getElem hi]; rfl⟩
      refine set_update_ints ((Walks.list calm3 _ l apart its).toS) s.heap.objs.size off ns size_eq few item (its.size - 0) 0 _ (by omega) (Nat.zero_le _) ⟨⟨_, Heap.get?_push_size _ rfl, rfl, rfl⟩, isl.push _⟩ ⟨0, Nat.le_refl 0, setR_new_at (Heap.get?_push_of_some _ there)⟩ ?_
      rintro ⟨h', g', d', tk', os'⟩ c' hm hc' hS'
      obtain rfl : g' = s.gens := hm.gens
      obtain rfl : d' = s.drawn := hm.drawn
      obtain rfl : os' = s.os := hm.os
      show wpAny _ _ _ _ _ _
      apply wpAny_pure
      show wpAny _ _ (ret Value.none) _ _ _
      apply wpAny_pure
      refine ⟨rfl, h', tk', c', rfl, hS', size_eq ▸ hc', fun b o z => ?_⟩
      have lowb : b < s.heap.objs.size := Heap.lt_size z
      refine hm.heap b o ?_ (Heap.get?_push_of_some _ (Heap.get?_push_of_some _ z))
      rw [Heap.size_push]; simp only [List.mem_cons, List.not_mem_nil, or_false, not_or]
      exact ⟨Nat.ne_of_lt lowb, Nat.ne_of_lt (Nat.lt_succ_of_lt lowb)⟩
    · intro r2 s2 hr2
      match r2, hr2 with
      | .error e, hr2 => exact hr2
      | .ok .next, hr2 => exact hr2.elim
      | .ok .brk, hr2 => exact hr2.elim
      | .ok .cont, hr2 => exact hr2.elim
      | .ok (.ret v), hr2 =>
        obtain ⟨rfl, h', tk, c', rfl, hS', hc', hk'⟩ := hr2
        repeat (any_goals (first | assumption | wp_step))
        exact h _ _ _ hS' hc' hk'
end
/-- .. over the layer -/
def rSetL (K : PySem.W.Frag) (w : World) : List V → Hp → VK → Prop := fun vs H Q => ∃ (a : Addr) (ns : List Int), vs = [.ref a] ∧ SqL K H a (ns.map V.int) ∧ ns.length ≤ 1000 ∧
  ∀ p c, H p = none → c ≤ ns.length → Q (.ref p) (upd H p (SetO w p (fun j => decide (j ∈ ns)) c))
theorem cr_setL {X : Cx} (hc : X.calm = true) : CallR X (.type "set") (rSetL X.K X.w) := by
  intro pins s σ H vs us Q I r h
  obtain ⟨a, ns, rfl, hS, hz, q⟩ := h
  rw [Vals.ref1 r]
  obtain ⟨its, rv, pl, _⟩ := I.list hS
  obtain ⟨o, n, ho, hcl, hdi, hda⟩ := pl
  refine set_of_list ns (I.ok.hd hc) ⟨o, ho, hcl, n, hda⟩ (by simpa using rv.ints) (Nat.lt_of_le_of_lt (Nat.succ_le_succ hz) (by decide)) fun h' tk c R hcn hk => ?_
  exact ⟨.ref _, _, I.laid (t' := tk) hk (Nat.le_refl _) (setO_new R), rfl, q _ c (I.hok.fresh (Nat.le_refl _)) hcn⟩
section
variable {F : Fm} {C : Cs} {ρ : Rho} {k : Nat} {Φ : Nat → PyData → Prop} {pos p1 p2 p3 : Pos} {e : Expr}
/-- sorted(set(xs)), fewer than 64 items -/
theorem we_sortSet (hK : F.K = C.K) (hg : C.sc.names.lookup ("sorted" : Str) = some .globalImplicit) (hm : C.mg ("sorted" : Str) = none) (hg2 : C.sc.names.lookup ("set" : Str) = some .globalImplicit) (hm2 : C.mg ("set" : Str) = none)
    (hs : ∀ env : Env, starEach [e] env = (false, eval e env) :: starEach [] env) (hs2 : ∀ env : Env, starEach [.Call (.Name "set" p2) [e] [] p3] env = (false, eval (.Call (.Name "set" p2) [e] [] p3) env) :: starEach [] env)
    (h : WPE F C e ρ k fun k1 x => ∃ ns : List Int, x = .list (ns.map PyData.int) ∧ ns.length < 64 ∧ ∀ ms : List Int, ms.Pairwise (· < ·) → (∀ i, i ∈ ms ↔ i ∈ ns) → Φ k1 (.list (ms.map PyData.int))) : WPE F C (.Call (.Name "sorted" p1) [.Call (.Name "set" p2) [e] [] p3] [] pos) ρ k Φ :=
  of_pe (t := tCB (rSortedSet C.w) (tCons (tCB (rSetL C.K C.w) (tCons (tE C e) tNil)) tNil)) (fun X fx => pe_callB (by rw [← fx.w]; exact cr_sortedSet fx.calm) (by show X.env.scope.names.lookup ("sorted" : Str) = _; rw [fx.sc]; exact hg) (by rw [fx.mg]; exact hm) (by decide +kernel)
      (pa_cons (pe_callTy (by rw [← fx.w, ← fx.K]; exact cr_setL fx.calm) (by show X.env.scope.names.lookup ("set" : Str) = _; rw [fx.sc]; exact hg2) (by rw [fx.mg]; exact hm2) (by decide +kernel) (pa_cons (peE fx) pa_nil (hs X.env)) (by decide) (by decide) (hs X.env) rfl) pa_nil (hs2 X.env)) (by decide) (by decide) (hs2 X.env) rfl) fun σ H Q en j q => by
    show tE C e σ H _
    refine h σ H _ en j fun v d k1 H1 l1 j1 r ⟨ns, ed, h64, p⟩ => ?_
    subst ed
    cases r with
    | @lst a xs _ ha hr =>
    refine ⟨a, ns, rfl, hr.ints ▸ hK ▸ sql_of ha, by omega, fun l c hl hc => ?_⟩
    refine ⟨l, _, c, rfl, upd_same, by omega, fun ms l2 hpw hmem _ hl2 => ?_⟩
    have j2 := j1.new (o := SetO C.w l (fun j => decide (j ∈ ns)) c) hl
    refine q _ _ k1 _ ((l1.trans (.new hl)).trans (.new hl2)) (j2.new hl2) (rep_newL j2 hl2 (RepAll.of_ints ms)) (p ms hpw fun i => ?_)
    rw [hmem i, decide_eq_true_eq]
end
end Dl

namespace Dl
open PySem PySem.Spec PyProof.Rows L2
/-! ### a comprehension of two clauses: over a tuple, then over a list made for each item -/
theorem wipe2 {i i1 : Nat} {x : V} (hne : i ≠ i1) (σ : L2.St) : (wipe σ [i, i1]).set i (some x) = (σ.set i1 none).set i (some x) := by
  show ((σ.set i1 none).set i none).set i (some x) = _
  rw [List.set_set]
theorem wipe2' {i i1 : Nat} {x : V} (hne : i ≠ i1) (σ : L2.St) : wipe ((σ.set i1 none).set i (some x)) [i, i1] = wipe σ [i, i1] := by
  show (((σ.set i1 none).set i (some x)).set i1 none).set i none = (σ.set i1 none).set i none
  rw [List.set_comm _ _ hne, List.set_set, List.set_set]
section
variable {F : Fm} {C : Cs} {ρ : Rho} {k : Nat} {Φ : Nat → PyData → Prop} {α β : Type} {Cb : Cs} {iter1 elt : Expr} {tl : TE} {K : PySem.W.Frag}
theorem we_lc2 (ei : α → PyData) (ej : β → PyData) (bs : α → List β) (g : α → β → PyData) (B : Nat) (i i1 : Nat) (hne : i ≠ i1) (hK : F.K = K)
    (h : WE F tl ρ k fun k1 d => ∃ as : List α, d = .tuple (as.map ei) ∧ as.length * B ≤ 1000000 ∧ (∀ a ∈ as, (bs a).length ≤ B) ∧
      (∀ D (a : α), a ∈ as → WPE (F.ext D) Cb iter1 ((ρ.set i1 .un).set i (.d (ei a))) k1 (fun k2 d2 => k2 = k1 ∧ d2 = .list ((bs a).map ej)) ∧
        ∀ b ∈ bs a, WPE (F.ext D) Cb elt (((ρ.set i1 .un).set i (.d (ei a))).set i1 (.d (ej b))) k1 fun k3 y => k3 = k1 ∧ y = g a b) ∧ Φ k1 (.list (as.flatMap fun a => (bs a).map (g a)))) :
    WE F (tLc2 (iTup K tl) (gName i) tYes (iList K (tE Cb iter1)) (gName i1) tYes (tE Cb elt) [i, i1] [i1]) ρ k Φ := fun σ H Q en j q => by
  show tl σ H _
  refine h σ H _ en j fun v d k1 H1 l1 j1 r hh => ?_
  obtain ⟨as, e, hz, hB, hin, hfin⟩ := hh
  subst e
  cases r with
  | @tup a xs _ ha hr =>
  refine ⟨a, rfl, ⟨xs, hK ▸ sqt_of ha⟩, fun D hD => ?_⟩
  have en1 := en.le l1
  have hM : ¬ F.M D := fun z => F.gl _ _ j1.g D z hD
  have hS : ¬ F.S D := j1.fresh hD
  have h0 : F.H0 D = none := j1.h0 hM hD
  have hno : ∀ (i : Nat) o xs, ρ[i]? = some (SV.own o xs) → o ≠ D := fun i o xs e => by
    obtain ⟨x, _, s⟩ := en1 i _ e
    obtain ⟨_, _, _, _, vs, h1, _⟩ := s
    exact ne_of_none h1 hD
  have rr : Rp (F.ext D) (upd H1 D (.lst [])) (.ref a) (.tuple (as.map ei)) := Rep.ext (.tup ha hr) hD
  cases rr with
  | @tup _ xs' _ ha' hr' =>
  have hlen : xs'.length = as.length := by rw [hr'.length, List.length_map]
  have bound : ∀ n, n ≤ as.length → ((as.take n).flatMap fun a => (bs a).map (g a)).length ≤ n * B := by
    intro n
    induction n with
    | zero => intro _; simp
    | succ n ih =>
      intro hn
      have hx : as[n]? = some as[n] := List.getElem?_eq_getElem (by omega)
      rw [take_next hx, List.flatMap_append, List.length_append, List.flatMap_singleton, List.length_map]
      have h1 := ih (by omega)
      have h2 := hB as[n] (List.getElem_mem _)
      rw [Nat.succ_mul]; omega
  refine ⟨fun n m H' => m = xs'.length - n ∧ n ≤ xs'.length ∧ ∃ vs, EnvOk (F.ext D) H' σ ρ ∧ J (F.ext D) k1 H' ∧ LeD (F.ext D) D (upd H1 D (.lst [])) H' ∧ H' D = some (.lst vs) ∧ RpAll (F.ext D) H' vs ((as.take n).flatMap fun a => (bs a).map (g a)),
    ⟨xs'.length, by simp, Nat.zero_le _, [], en1.ext hD, (j1.new hD).ext (lv_new fun _ z => nomatch z), .refl, upd_same, .nil⟩, ?_⟩
  rintro n m H' ⟨rfl, hn, vs, en', j', ld, hd, ra⟩
  have sq : SqT K H' a xs' := hK ▸ sqt_of (K := F.K) (H := H') (S := (F.ext D).S) ⟨ld.lz (.inr rfl) _ _ (Fm.sxA ha'.2) ha'.1, ha'.2⟩
  by_cases hlt : n < xs'.length
  · refine .inr ⟨⟨xs', xs'[n], sq, by simp [hlt]⟩, fun H2 => ∃ vs, EnvOk (F.ext D) H2 σ ρ ∧ J (F.ext D) k1 H2 ∧ LeD (F.ext D) D (upd H1 D (.lst [])) H2 ∧ H2 D = some (.lst vs) ∧ RpAll (F.ext D) H2 vs ((as.take (n + 1)).flatMap fun a => (bs a).map (g a)), fun H2 p => ⟨xs'.length - (n + 1), by omega, rfl, hlt, p⟩, fun x H2 y => ?_⟩
    obtain ⟨e, y⟩ := y
    subst e
    obtain ⟨y0, hy0, ry⟩ := hr'.got (y xs' sq)
    rw [List.getElem?_map] at hy0
    cases hc : as[n]? with
    | none => rw [hc] at hy0; cases hy0
    | some a0 =>
    rw [hc] at hy0
    cases hy0
    obtain ⟨hit, hel⟩ := hin D a0 (List.mem_of_getElem? hc)
    show (wipe ((wipe σ [i, i1]).set i (some x)) [i, i1] = wipe σ [i, i1] ∧ _)
    rw [wipe2 hne]
    refine ⟨wipe2' hne σ, ?_⟩
    dsimp only [tYes]
    rw [if_pos rfl]
    have en2 : EnvOk (F.ext D) H2 ((σ.set i1 none).set i (some x)) ((ρ.set i1 .un).set i (.d (ei a0))) := (en'.set (sv := .un) trivial).set (sv := .d (ei a0)) ⟨x, rfl, ry.le (ld.lz (.inr rfl))⟩
    show tE Cb iter1 _ H2 _
    refine hit _ H2 _ en2 j' fun v1 d1 k3 H3 l3 j3 r3 ⟨ek, ed⟩ => ?_
    subst ek ed
    cases r3 with
    | @lst a1 ys _ ha1 hr1 =>
    refine ⟨a1, rfl, ⟨ys, hK ▸ sql_of (K := F.K) ha1⟩, ?_⟩
    have hlen1 : ys.length = (bs a0).length := by rw [hr1.length, List.length_map]
    refine ⟨fun m mm H' => mm = ys.length - m ∧ m ≤ ys.length ∧ ∃ vs2, EnvOk (F.ext D) H' ((σ.set i1 none).set i (some x)) ((ρ.set i1 .un).set i (.d (ei a0))) ∧ J (F.ext D) k3 H' ∧ LeD (F.ext D) D H3 H' ∧ H' D = some (.lst vs2) ∧ RpAll (F.ext D) H' vs2 (((as.take n).flatMap fun a => (bs a).map (g a)) ++ ((bs a0).take m).map (g a0)),
      ⟨ys.length, by simp, Nat.zero_le _, vs, en2.le l3, j3, .refl, l3 D _ (Fm.mxA hM) hd, by rw [List.take_zero, List.map_nil, List.append_nil]; exact ra.le l3.lz⟩, ?_⟩
    rintro m mm H5 ⟨rfl, hm, vs2, en5, j5, ld5, hd5, ra5⟩
    have sq1 : SqL K H5 a1 ys := hK ▸ sql_of (K := F.K) (S := (F.ext D).S) ⟨ld5.lz (.inr rfl) _ _ (Fm.sxA ha1.2) ha1.1, ha1.2⟩
    by_cases hlt1 : m < ys.length
    · refine .inr ⟨⟨ys, ys[m], sq1, by simp [hlt1]⟩, fun H6 => ∃ vs2, EnvOk (F.ext D) H6 ((σ.set i1 none).set i (some x)) ((ρ.set i1 .un).set i (.d (ei a0))) ∧ J (F.ext D) k3 H6 ∧ LeD (F.ext D) D H3 H6 ∧ H6 D = some (.lst vs2) ∧ RpAll (F.ext D) H6 vs2 (((as.take n).flatMap fun a => (bs a).map (g a)) ++ ((bs a0).take (m + 1)).map (g a0)), fun H6 p => ⟨ys.length - (m + 1), by omega, rfl, hlt1, p⟩, fun z H6 y1 => ?_⟩
      obtain ⟨e1, y1⟩ := y1
      subst e1
      obtain ⟨z0, hz0, rz⟩ := hr1.got (y1 ys sq1)
      rw [List.getElem?_map] at hz0
      cases hc1 : (bs a0)[m]? with
      | none => rw [hc1] at hz0; cases hz0
      | some b0 =>
      rw [hc1] at hz0
      cases hz0
      show (wipe ((wipe ((σ.set i1 none).set i (some x)) [i1]).set i1 (some z)) [i1] = wipe ((σ.set i1 none).set i (some x)) [i1] ∧ _)
      rw [set_wipe]
      refine ⟨wipe_set _, ?_⟩
      dsimp only [tYes]
      rw [if_pos rfl]
      have en6 := en5.set (i := i1) (sv := .d (ej b0)) (x := some z) ⟨z, rfl, rz.le (ld5.lz (.inr rfl))⟩
      show tE Cb elt _ H6 _
      refine hel b0 (List.mem_of_getElem? hc1) _ H6 _ en6 j5 fun v6 d6 k6 H7 l7 j7 r7 ⟨ek6, ed6⟩ => ?_
      subst ek6 ed6
      have hd7 : H7 D = some (.lst vs2) := l7 D _ (Fm.mxA hM) hd5
      have lz7 : Lz (F.ext D) H7 (upd H7 D (.lst (vs2 ++ [v6]))) := fun b o nn e => by rw [upd_ne (show b ≠ D from fun z => nn (.inl (.inr z)))]; exact e
      have hN : n < as.length := (List.getElem?_eq_some_iff.mp hc).1
      refine ⟨vs2, hd7, ?_, vs2 ++ [v6], ?_, j7.own hM h0 (pl_lst hd7), ?_, upd_same, ?_⟩
      · rw [ra5.length, List.length_append, List.length_map]
        have h1 := bound n (by omega)
        have h2 := hB a0 (List.mem_of_getElem? hc)
        have h3 := List.length_take_le m (bs a0)
        have h4 : (n + 1) * B ≤ as.length * B := Nat.mul_le_mul_right B (by omega)
        rw [Nat.succ_mul] at h4
        have h5 : m < (bs a0).length := by omega
        have h6 : ((bs a0).take m).length = m := by rw [List.length_take]; omega
        exact Nat.lt_of_lt_of_le (show _ < 1000001 by omega) (by decide)
      · refine (en5.le l7).ld (D := D) (fun b o _ nb e => by rw [upd_ne nb]; exact e) (.inr rfl) (fun ii o xs e => ?_)
        have : ∃ (ii' : Nat) (xs' : List PyData), ρ[ii']? = some (SV.own o xs') := by
          by_cases hi : i = ii
          · subst hi
            by_cases hl : i < (ρ.set i1 .un).length
            · rw [List.getElem?_set_self hl] at e; cases e
            · rw [List.getElem?_eq_none (by simpa using hl)] at e; cases e
          · rw [List.getElem?_set_ne hi] at e
            by_cases hi1 : i1 = ii
            · subst hi1
              by_cases hl : i1 < ρ.length
              · rw [List.getElem?_set_self hl] at e; cases e
              · rw [List.getElem?_eq_none (by simpa using hl)] at e; cases e
            · rw [List.getElem?_set_ne hi1] at e
              exact ⟨_, _, e⟩
        obtain ⟨ii', xs2, e'⟩ := this
        exact hno _ _ _ e'
      · exact fun b o nn nb e => by rw [upd_ne nb]; exact l7 b o nn (ld5 b o nn nb e)
      · rw [take_next hc1, List.map_append, ← List.append_assoc]
        exact ((ra5.le l7.lz).le lz7).append (.cons (r7.le lz7) .nil)
    · have em : m = ys.length := by omega
      refine .inl ⟨⟨ys, sq1, by omega⟩, vs2, ?_, j5, ld.trans (l3.ld.trans ld5), hd5, ?_⟩
      · exact (en'.le l3).ld ld5 (.inr rfl) hno
      · rw [take_next hc, List.flatMap_append, List.flatMap_singleton]
        rw [em, hlen1, List.take_length] at ra5
        exact ra5
  · have en0 : n = xs'.length := by omega
    refine .inl ⟨⟨xs', sq, by omega⟩, ?_⟩
    rw [en0, hlen, List.take_length] at ra
    refine q (.ref D) _ k1 H' ?_ j'.unext (.lst ⟨hd, hS⟩ ra.unext) hfin
    exact fun b o n e => ld b o n (ne_of_none (l1 b o n e) hD) (by rw [upd_ne (ne_of_none (l1 b o n e) hD)]; exact l1 b o n e)
end
end Dl
namespace Dl
open PySem PySem.Spec PyProof.Rows L2
section
variable {F : Fm} {C : Cs} {ρ : Rho} {k : Nat} {P : DE} {Φ : Nat → PyData → Prop} {pos p px p2 ap cp : Pos} {x : Str} {e : Expr}
/-- x.extend(ys), x the own list -/
theorem ws_extend (i : Nat) {o : Addr} {xs : List PyData} (hN : C.N[i]? = some x) (hv : Vis C.sc x) (hr : ρ[i]? = some (.own o xs)) (hno : (ρ.set i .un).all plainB = true)
    (hse : ∀ env : Env, starEach [e] env = (false, eval e env) :: starEach [] env) (h : WPE F C e ρ k fun k1 d => ∃ ds, d = .list ds ∧ xs.length + ds.length ≤ 1000000 ∧ P.nx k1 (ρ.set i (.own o (xs ++ ds))))
    (hsw : ∀ env : Env, swapsWith (.Call (.Attribute (.Name x px) "extend" ap) [e] [] cp) none pos.line env = pure false) (hd : (x == ("__debug__" : Str)) = false := by decide) (hcd : (x == ("__classdict__" : Str)) = false := by decide)
    (hbm : ∀ X : Cx, ∀ {to : TE} {t : TA}, PE X (.Name x px) to → PA X [e] t → PE X (.Call (.Attribute (.Name x px) "extend" ap) [e] [] cp) (tBM X.K "list" rExtend to t) := by exact fun X {to t} h1 h2 => pe_bm PySem.F.plainAttrs_list PySem.F.slot_list_extend PySem.F.type_list_extend mt_extend h1 h2) :
    WPS F C (.Expr (.Call (.Attribute (.Name x px) "extend" ap) [e] [] cp) pos) ρ k P :=
  of_ps (t := tDrop (tBM C.K "list" rExtend (tVar i) (tCons (tE C e) tNil))) (fun X fx => ps_expr (by rw [← fx.K]; exact hbm X (pe_var (by rw [fx.N]; exact hN) (by rw [fx.sc]; exact hv) hd hcd) (pa_cons (peE fx) pa_nil (hse X.env))) (hsw X.env)) fun σ H E en j q1 q2 q3 q4 => by
    obtain ⟨hσ, hS, hM, h0, vs, hv', rv⟩ := en.own hr
    refine ⟨_, hσ, .inl ⟨rfl, _, SqL.of hv'⟩, ?_⟩
    show tE C e σ H _
    refine h σ H _ en j fun v d k1 H1 l1 j1 r1 ⟨ds, ed, hz, p⟩ => ?_
    subst ed
    have hv1 : H1 o = some (.lst vs) := l1 o _ (Fm.mxA hM) hv'
    cases r1 with
    | @lst b ys _ hb hs =>
    refine ⟨o, b, vs, ys, rfl, rfl, hv1, hb.1, ?_, ?_⟩
    · rw [rv.length, hs.length]; exact Nat.le_trans hz (by decide)
    · refine q1 _ σ k1 _ ?_ ((en.le l1).ownSet hr hno ((rv.le l1.lz).append hs)) (j1.own hM h0 (pl_lst (l1 o _ (Fm.mxA hM) hv'))) p
      exact fun b u hb z => by rw [upd_ne (show b ≠ o from fun y => hb (.inl (y ▸ hS)))]; exact l1.lz b u hb z
end
end Dl

namespace Dl
open PySem PySem.Spec PyProof.Rows L2
/-! ### sorted(x), x the own list of pairs of ints -/
def prD (p : Int × Int) : PyData := .tuple [.int p.1, .int p.2]
def pairAt (H : Hp) : V → Int × Int
  | .ref t => match H t with
    | some (.tup [.int a, .int b]) => (a, b)
    | _ => (0, 0)
  | _ => (0, 0)
theorem pair_rep {K : PySem.W.Frag} {S : Addr → Prop} {H : Hp} {v : V} {p : Int × Int} (r : Rep K S H v (prD p)) : pairAt H v = p ∧ ∃ t, v = .ref t ∧ H t = some (.tup [.int p.1, .int p.2]) := by
  cases r with
  | @tup a xs _ ha hr =>
  cases hr with
  | cons r1 hr =>
  cases hr with
  | cons r2 hr =>
  cases hr
  cases r1
  cases r2
  refine ⟨?_, a, rfl, ha.1⟩
  show (match H a with | some (.tup [.int a, .int b]) => (a, b) | _ => (0, 0)) = p
  rw [ha.1]
theorem pairs_rep {K : PySem.W.Frag} {S : Addr → Prop} {H : Hp} : ∀ {ps : List (Int × Int)} {vs : List V}, RepAll K S H vs (ps.map prD) → vs.map (pairAt H) = ps ∧ ∀ v ∈ vs, Rep K S H v (prD (pairAt H v))
  | [], _, r => by cases r; exact ⟨rfl, fun _ h => by cases h⟩
  | p :: ps, _, r => by
    cases r with
    | cons r1 r2 =>
      obtain ⟨e1, h1⟩ := pairs_rep r2
      have e0 := (pair_rep r1).1
      refine ⟨by rw [List.map_cons, e0, e1], fun v hv => ?_⟩
      rcases List.mem_cons.mp hv with rfl | hv
      · rw [e0]; exact r1
      · exact h1 v hv
theorem reps_pair {K : PySem.W.Frag} {S : Addr → Prop} {H : Hp} {k : V → Int × Int} : ∀ {ys : List V}, (∀ v ∈ ys, Rep K S H v (prD (k v))) → RepAll K S H ys ((ys.map k).map prD)
  | [], _ => .nil
  | y :: ys, h => .cons (h y List.mem_cons_self) (reps_pair fun v hv => h v (List.mem_cons_of_mem _ hv))
theorem srtPK {C : Cs} {X : Cx} (fx : Fits C X) : CallR X (.builtin "sorted") (rSortedPO C.K) := by rw [← fx.K]; exact cr_sortedPO
section
variable {F : Fm} {C : Cs} {ρ : Rho} {k : Nat} {Φ : Nat → PyData → Prop} {pos p px : Pos} {x : Str}
theorem we_sortOwnP (i : Nat) {o : Addr} {ps : List (Int × Int)} (hK : F.K = C.K) (hN : C.N[i]? = some x) (hv : Vis C.sc x) (hr : ρ[i]? = some (.own o (ps.map prD))) (hg : C.sc.names.lookup ("sorted" : Str) = some .globalImplicit) (hm : C.mg ("sorted" : Str) = none)
    (h : ∀ qs : List (Int × Int), qs.Perm ps → qs.Pairwise (fun a b => SrtO.lexB b a = false) → Φ k (.list (qs.map prD))) (hd : (x == ("__debug__" : Str)) = false := by decide) (hcd : (x == ("__classdict__" : Str)) = false := by decide) (hse : ∀ env : Env, starEach [.Name x px] env = (false, eval (.Name x px) env) :: starEach [] env := by intro _; rfl) :
    WPE F C (.Call (.Name "sorted" p) [.Name x px] [] pos) ρ k Φ :=
  of_pe (fun X fx => pe_callB (srtPK fx) (by show X.env.scope.names.lookup ("sorted" : Str) = _; rw [fx.sc]; exact hg) (by rw [fx.mg]; exact hm) (by decide +kernel) (pa_cons (pe_var (i := i) (by rw [fx.N]; exact hN) (by rw [fx.sc]; exact hv) hd hcd) pa_nil (hse X.env)) (by decide) (by decide) (hse X.env) rfl) fun σ H Q en j q => by
    obtain ⟨hσ, hS, hM, h0, vs, hv', rv⟩ := en.own hr
    obtain ⟨emap, hall⟩ := pairs_rep rv
    refine ⟨_, hσ, o, vs, pairAt H, rfl, SqL.of hv', fun y hy => ?_, fun ys l hs hb hl => ?_⟩
    · obtain ⟨_, t, e, ht⟩ := pair_rep (hall y hy)
      exact ⟨t, e, ht⟩
    · have hmem : ∀ v ∈ ys, v ∈ vs := fun v hy => hb.perm.mem_iff.mp hy
      refine q _ (.list ((ys.map (pairAt H)).map prD)) k _ (.new hl) (j.new hl) (rep_newL j hl (reps_pair fun v hy => hall v (hmem v hy))) (h _ ?_ ?_)
      · rw [← emap]; exact hb.perm.map _
      · rw [List.pairwise_map]
        refine hs.imp fun hlt => ?_
        exact hlt
end
end Dl

namespace Dl
open PySem PySem.Spec PyProof.Rows L2
/-! ### the comprehension of two clauses, given to a name -/
structure Blk2 (C : Cs) (scope : Scope) (i : Nat) (x : Str) (i1 : Nat) (x1 : Str) : Prop where
  ok : BlkOk C.N C.sc scope [(x, i), (x1, i1)]
  t : Tgt (C.blk scope) i x
  t1 : Tgt (C.blk scope) i1 x1
section
variable {F : Fm} {C : Cs} {ρ : Rho} {k : Nat} {Φ : Nat → PyData → Prop} {P : DE} {pos spos : Pos} {elt iter iter1 : Expr} {scope : Scope} {x x1 y : Str} {px px1 py : Pos} {α β : Type}
theorem ps_lc2X {X : Cx} {i i1 iy : Nat} (fx : Fits C X) (b : Blk2 C scope i x i1 x1) (ty : Tgt C iy y) (hyl : C.sc.names.lookup y = some .local) (hk : C.sc.kind = .function) (hl : (py.line == pos.line) = true) (ha : (scope.names.any fun (n, k) => n == y && (k == .local || k == .cell)) = false)
    (hs : ∀ (env : Env) (v : Value), foldedSetIterable iter env v = pure v) (hs1 : ∀ (env : Env) (v : Value), foldedSetIterable iter1 env v = pure v) :
    PS X (.Assign [.Name y py] (.ListComp elt [⟨.Name x px, iter, [], 0⟩, ⟨.Name x1 px1, iter1, [], 0⟩] scope pos) spos) (tAsg (tLc2 (iTup C.K (tE C iter)) (gName i) tYes (iList (C.blk scope).K (tE (C.blk scope) iter1)) (gName i1) tYes (tE (C.blk scope) elt) [i, i1] [i1]) (gName iy)) :=
  ps_setLc2 (own := [(x, i), (x1, i1)]) (vs1 := [i1]) fx.calm (by rw [fx.N]; exact b.t.hN) (by rw [fx.N]; exact ty.hi) (by rw [fx.sc]; exact hyl) (sw_true (by rw [fx.sc]; exact hk) (by rw [fx.sc]; exact hyl) hl ha) (piT fx) (by rw [fx.N, fx.sc]; exact b.ok) (fun j hj => by simp at hj ⊢; exact .inr hj)
    (fun s H a cl fp => b.t.pg (fx.blk s H scope a cl fp)) (fun s H a cl fp => pts_nil) (fun s H a cl fp => piL (fx.blk s H scope a cl fp)) (fun s H a cl fp => b.t1.pg (fx.blk s H scope a cl fp)) (fun s H a cl fp => pts_nil) (fun s H a cl fp => peE (fx.blk s H scope a cl fp)) (hs X.env) (fun env => hs1 env)
theorem ws_comp2 (ei : α → PyData) (ej : β → PyData) (bs : α → List β) (g : α → β → PyData) (B : Nat) (i i1 iy : Nat) (hne : i ≠ i1) (b : Blk2 C scope i x i1 x1) (ty : Tgt C iy y) (hyl : C.sc.names.lookup y = some .local) (hk : C.sc.kind = .function) (hl : (py.line == pos.line) = true) (ha : (scope.names.any fun (n, k) => n == y && (k == .local || k == .cell)) = false) (hK : F.K = C.K)
    (hs : ∀ (env : Env) (v : Value), foldedSetIterable iter env v = pure v) (hs1 : ∀ (env : Env) (v : Value), foldedSetIterable iter1 env v = pure v)
    (h : WPE F C iter ρ k fun k1 d => ∃ as : List α, d = .tuple (as.map ei) ∧ as.length * B ≤ 1000000 ∧ (∀ a ∈ as, (bs a).length ≤ B) ∧
      (∀ D (a : α), a ∈ as → WPE (F.ext D) (C.blk scope) iter1 ((ρ.set i1 .un).set i (.d (ei a))) k1 (fun k2 d2 => k2 = k1 ∧ d2 = .list ((bs a).map ej)) ∧
        ∀ b ∈ bs a, WPE (F.ext D) (C.blk scope) elt (((ρ.set i1 .un).set i (.d (ei a))).set i1 (.d (ej b))) k1 fun k3 y => k3 = k1 ∧ y = g a b) ∧ P.nx k1 (ρ.set iy (.d (.list (as.flatMap fun a => (bs a).map (g a)))))) :
    WPS F C (.Assign [.Name y py] (.ListComp elt [⟨.Name x px, iter, [], 0⟩, ⟨.Name x1 px1, iter1, [], 0⟩] scope pos) spos) ρ k P :=
  of_ps (fun X fx => ps_lc2X fx b ty hyl hk hl ha hs hs1) (ws_asgName iy (we_lc2 ei ej bs g B i i1 hne hK h))
end
end Dl

namespace Dl
open PySem PySem.Spec PyProof.Rows L2
section
variable {F : Fm} {C : Cs} {ρ : Rho} {k : Nat} {Φ : Nat → PyData → Prop} {P : DE} {pos apos px p2 ap cp : Pos} {o e : Expr} {x : Str} {rest : List Stmt}
/-! ### i.bit_length() -/
theorem we_bits (hbase : ∀ env : Env, attributeBase o "bit_length" env (eval o env) = eval o env) (hline : (apos.endLine == pos.line) = true) (h : WPE F C o ρ k fun k1 d => ∃ i : Int, d = .int i ∧ Φ k1 (.int (Builtin.Int.intBits i : Nat))) : WPE F C (.Call (.Attribute o "bit_length" apos) [] [] pos) ρ k Φ :=
  of_pe (fun X fx => pe_bits (peE fx) (hbase X.env) hline) fun σ H Q en j q => h σ H _ en j fun v d k1 H1 l1 j1 r ⟨i, e, p⟩ => by
    subst e
    cases r
    exact ⟨i, rfl, q _ _ k1 H1 l1 j1 (.int _) p⟩
/-! ### x = [c] * e, the def's own list -/
theorem rep_ints {K : PySem.W.Frag} {S : Addr → Prop} {H : Hp} {c : Int} : ∀ n : Nat, RepAll K S H (List.replicate n (V.int c)) (List.replicate n (.int c))
  | 0 => .nil
  | n + 1 => .cons (.int c) (rep_ints n)
theorem flat1 {α : Type} (c : α) : ∀ n : Nat, (List.replicate n [c]).flatten = List.replicate n c
  | 0 => rfl
  | n + 1 => by rw [List.replicate_succ, List.flatten_cons, flat1 c n, List.replicate_succ]; rfl
theorem wb_ownRep (i : Nat) {c : Int} {kk : Nat} {pc p3 p4 : Pos} (t : Tgt C i x) (hi : i < ρ.length) (hs : ∀ env : Env, env.scope = C.sc → swapsWith (.BinOp (.List [.Constant (.int c) kk pc] p3) .Mult e p4) (some (.Name x px)) pos.line env = pure false)
    (h : WPE F C e ρ k fun k1 d => ∃ n : Nat, d = .int (n : Int) ∧ n ≤ 1000000 ∧ ∀ o, WPB (F.ext o) C rest (ρ.set i (.own o (List.replicate n (.int c)))) k1 { nx := fun _ _ => False, rt := P.rt, bk := fun _ _ => False, ct := fun _ _ => False }) : WPB F C (.Assign [.Name x px] (.BinOp (.List [.Constant (.int c) kk pc] p3) .Mult e p4) pos :: rest) ρ k P :=
  of_pb (fun X fx => pss_cons (ps_set (by rw [fx.N]; exact t.hN) (by rw [fx.N]; exact t.hi) (by rw [fx.sc]; exact t.hx) (pe_op op_rep (pe_lst (pa_cons pe_int pa_nil)) (peE fx)) (hs X.env fx.sc) (by rw [fx.fn, fx.sc]; exact t.hf)) (pbB fx)) fun σ H E en j q1 q2 q3 q4 => by
    refine ⟨by show 1 ≤ sizeLine; decide, fun o1 no1 => ?_⟩
    show tE C e σ _ _
    refine h σ _ _ (en.le (.new no1)) (j.new no1) fun v d k1 H1 l1 j1 r ⟨n, ed, hn, hb⟩ => ?_
    subst ed
    cases r
    have ho1 : H1 o1 = some (.lst [V.int c]) := l1 o1 _ (Fm.mxA fun z => F.gl _ _ j.g o1 z no1) upd_same
    refine ⟨o1, _, [V.int c], rfl, rfl, ho1, by omega, by omega, ?_, fun o no => ?_⟩
    · rw [Int.toNat_natCast]; show 1 * n ≤ sizeLine; rw [Nat.one_mul]; exact Nat.le_trans hn (by decide)
    rw [Int.toNat_natCast, flat1]
    have en1 : EnvOk F H1 σ ρ := en.le (fun b u hb z => l1 b u hb (by rw [upd_ne (ne_of_none z no1)]; exact z))
    have hM : ¬ F.M o := fun z => F.gl _ _ j1.g o z no
    have h0 : F.H0 o = none := j1.h0 hM no
    have en2 : EnvOk (F.ext o) (upd H1 o (.lst (List.replicate n (V.int c)))) (σ.set i (some (.ref o))) (ρ.set i (.own o (List.replicate n (.int c)))) :=
      (en1.ext no).set (sv := .own o _) ⟨rfl, .inr rfl, hM, h0, _, upd_same, rep_ints n⟩
    refine hb o (σ.set i (some (.ref o))) _ E en2 ((j1.new no).ext (lv_new fun _ z => nomatch z)) ?_ ?_ ?_ ?_
    · exact fun _ _ _ _ _ _ _ z => z.elim
    · exact fun v d k' H' j' r' p => q2 v d k' H' j'.unext r'.unext p
    · exact fun _ _ _ _ _ _ _ z => z.elim
    · exact fun _ _ _ _ _ _ _ z => z.elim
end
end Dl
namespace Dl
open PySem PySem.Spec PyProof.Rows L2
section
variable {F : Fm} {C : Cs} {ρ : Rho} {k : Nat} {Φ : Nat → PyData → Prop} {P : DE} {pos apos px px2 p2 ap cp spos : Pos} {o e ie : Expr} {x : Str} {rest : List Stmt}
/-! ### x[i], x the own list -/
theorem atI_rep {K : PySem.W.Frag} {S : Addr → Prop} {H : Hp} {vs : List V} {xs : List PyData} (r : RepAll K S H vs xs) {j : Nat} (hj : j < xs.length) : ∃ v, atI vs (j : Int) = some v ∧ Rep K S H v xs[j] := by
  have hl := r.length
  have hv : vs[j]? = some vs[j] := List.getElem?_eq_getElem (by omega)
  obtain ⟨y, hy, ry⟩ := r.got hv
  rw [List.getElem?_eq_getElem hj] at hy
  cases hy
  exact ⟨vs[j], atI_nat hv, ry⟩
theorem ixlK {X : Cx} (fx : Fits C X) : IxR X (rIxL C.K) := by rw [← fx.K]; exact ix_list
theorem we_ixOwn (i : Nat) {ow : Addr} {xs : List PyData} (hK : F.K = C.K) (hN : C.N[i]? = some x) (hv : Vis C.sc x) (hr : ρ[i]? = some (.own ow xs)) (hs : PlainIx ie)
    (h : WPE F C ie ρ k fun k1 d => ∃ (j : Nat) (hj : j < xs.length), d = .int (j : Int) ∧ Φ k1 xs[j]) (hd : (x == ("__debug__" : Str)) = false := by decide) (hcd : (x == ("__classdict__" : Str)) = false := by decide) :
    WPE F C (.Subscript (.Name x px) ie pos) ρ k Φ :=
  of_pe (fun X fx => pe_ix (ixlK fx) (pe_var (i := i) (by rw [fx.N]; exact hN) (by rw [fx.sc]; exact hv) hd hcd) (peE fx) hs) fun σ H Q en j q => by
    obtain ⟨hσ, hS, hM, h0, vs, hv', rv⟩ := en.own hr
    refine ⟨_, hσ, ?_⟩
    show tE C ie σ H _
    refine h σ H _ en j fun v d k1 H1 l1 j1 r ⟨jj, hj, ed, p⟩ => ?_
    subst ed
    cases r
    obtain ⟨v, hat, ry⟩ := atI_rep rv hj
    exact ⟨ow, vs, _, v, rfl, rfl, SqL.of (l1 ow _ (Fm.mxA hM) hv'), hat, q _ _ k1 H1 l1 j1 (ry.le l1.lz) p⟩
/-! ### x[i] = v, x the own list -/
theorem rep_set {K : PySem.W.Frag} {S : Addr → Prop} {H : Hp} {v : V} {d : PyData} (rv : Rep K S H v d) : ∀ {vs : List V} {xs : List PyData} (j : Nat), RepAll K S H vs xs → RepAll K S H (vs.set j v) (xs.set j d)
  | _, _, 0, .nil => .nil
  | _, _, j + 1, .nil => .nil
  | _, _, 0, .cons r rs => .cons rv rs
  | _, _, j + 1, .cons r rs => .cons r (rep_set rv j rs)
theorem ixN_nat {n j : Nat} (h : j < n) : ixN n (j : Int) = some j := by
  unfold ixN
  simp
  omega
theorem ws_setOwn (i : Nat) {ow : Addr} {xs : List PyData} (hN : C.N[i]? = some x) (hv : Vis C.sc x) (hr : ρ[i]? = some (.own ow xs)) (hno : (ρ.set i .un).all plainB = true)
    (h : WPE F C e ρ k fun k1 d => WPE F C ie ρ k1 fun k2 d2 => ∃ j : Nat, j < xs.length ∧ d2 = .int (j : Int) ∧ P.nx k2 (ρ.set i (.own ow (xs.set j d))))
    (hs1 : ∀ env : Env, swapsWithSole [.Subscript (.Name x px) ie p2] e spos.line env = pure false) (hs2 : ∀ env : Env, swappedStores [.Subscript (.Name x px) ie p2] e env = pure none)
    (ha : ∀ (X : Cx) (v : Value), assign (.Subscript (.Name x px) ie p2) X.env v = (do
      let ov ← holding [v] (eval (.Name x px) X.env)
      let iv ← holding [v, ov] (eval ie X.env)
      standAt p2
      holding [v, ov, iv] (setItem ov iv v)
      release [v, ov, iv] []) := by intro _ _; rfl) (hd : (x == ("__debug__" : Str)) = false := by decide) (hcd : (x == ("__classdict__" : Str)) = false := by decide) :
    WPS F C (.Assign [.Subscript (.Name x px) ie p2] e spos) ρ k P :=
  of_ps (fun X fx => ps_asg (peE fx) (pg_sub (pe_var (i := i) (by rw [fx.N]; exact hN) (by rw [fx.sc]; exact hv) hd hcd) (peE fx) set_list (ha X)) (hs1 X.env) (hs2 X.env)) fun σ H E en j q1 q2 q3 q4 => by
    show tE C e σ H _
    refine h σ H _ en j fun v d k1 H1 l1 j1 r1 h2 => ?_
    have en1 := en.le l1
    obtain ⟨hσ, hS, hM, h0, vs, hv', rv⟩ := en1.own hr
    refine ⟨_, hσ, ?_⟩
    show tE C ie σ H1 _
    refine h2 σ H1 _ en1 j1 fun v2 d2 k2 H2 l2 j2 r2 ⟨jj, hj, ed, p⟩ => ?_
    subst ed
    cases r2
    have hv2 : H2 ow = some (.lst vs) := l2 ow _ (Fm.mxA hM) hv'
    refine ⟨ow, vs, _, jj, rfl, rfl, hv2, ixN_nat (by rw [rv.length]; exact hj), ?_⟩
    refine q1 _ σ k2 _ ?_ ((en1.le l2).ownSet hr hno (rep_set (r1.le l2.lz) jj (rv.le l2.lz))) (j2.own hM h0 (pl_lst hv2)) p
    exact fun b u hb z => by rw [upd_ne (show b ≠ ow from fun y => hb (.inl (y ▸ hS)))]; exact l2.lz b u hb (l1.lz b u hb z)
/-! ### x.count(i), a list of ints -/
theorem rep_vints {K : PySem.W.Frag} {S : Addr → Prop} {H : Hp} : ∀ {ns : List Int} {vs : List V}, RepAll K S H vs (ns.map PyData.int) → vs = ns.map V.int
  | [], _, r => by cases r; rfl
  | n :: ns, _, r => by
    cases r with
    | cons r1 r2 =>
      cases r1
      rw [rep_vints r2]; rfl
theorem we_count (hK : F.K = C.K) (hse : ∀ env : Env, starEach [e] env = (false, eval e env) :: starEach [] env)
    (h : WPE F C o ρ k fun k1 d => ∃ ns : List Int, d = .list (ns.map PyData.int) ∧ WPE F C e ρ k1 fun k2 d2 => ∃ i : Int, d2 = .int i ∧ Φ k2 (.int (ns.count i : Nat)))
    (hbm : ∀ X : Cx, ∀ {to : TE} {t : TA}, PE X o to → PA X [e] t → PE X (.Call (.Attribute o "count" ap) [e] [] cp) (tBM X.K "list" (rCntI X.K) to t)) :
    WPE F C (.Call (.Attribute o "count" ap) [e] [] cp) ρ k Φ :=
  of_pe (t := tBM C.K "list" (rCntI C.K) (tE C o) (tCons (tE C e) tNil)) (fun X fx => by rw [← fx.K]; exact hbm X (peE fx) (pa_cons (peE fx) pa_nil (hse X.env))) fun σ H Q en j q => by
    show tE C o σ H _
    refine h σ H _ en j fun v d k1 H1 l1 j1 r1 ⟨ns, ed, h2⟩ => ?_
    subst ed
    cases r1 with
    | @lst a vs _ ha hr =>
    obtain rfl := rep_vints hr
    have sq : ∀ H', Lz F H1 H' → SqL C.K H' a (ns.map V.int) := fun H' lz => hK ▸ sql_of (K := F.K) (S := F.S) ⟨lz _ _ (Fm.sxA ha.2) ha.1, ha.2⟩
    refine ⟨.inl ⟨rfl, _, sq H1 .refl⟩, ?_⟩
    show tE C e σ H1 _
    refine h2 σ H1 _ (en.le l1) j1 fun v2 d2 k2 H2 l2 j2 r2 ⟨i, ed, p⟩ => ?_
    subst ed
    cases r2
    exact ⟨a, ns, i, rfl, rfl, sq H2 l2.lz, q _ _ k2 H2 (l1.trans l2) j2 (.int _) p⟩
end
end Dl
namespace Dl
open PySem PySem.Spec PyProof.Rows L2
/-! ### [.. for a, b in a tuple of pairs] -/
theorem wipe3 {i i1 : Nat} {a b : V} (hne : i ≠ i1) (σ : L2.St) : ((wipe σ [i, i1]).set i (some a)).set i1 (some b) = (σ.set i (some a)).set i1 (some b) := by
  show (((σ.set i1 none).set i none).set i (some a)).set i1 (some b) = _
  rw [List.set_set, List.set_comm _ _ (Ne.symm hne), List.set_set]
theorem wipe3' {i i1 : Nat} {a b : V} (hne : i ≠ i1) (σ : L2.St) : wipe ((σ.set i (some a)).set i1 (some b)) [i, i1] = wipe σ [i, i1] := by
  show ((((σ.set i (some a)).set i1 (some b)).set i1 none).set i none) = (σ.set i1 none).set i none
  rw [List.set_set, List.set_comm _ _ hne, List.set_set]
section
variable {F : Fm} {C : Cs} {ρ : Rho} {k : Nat} {Φ : Nat → PyData → Prop} {P : DE} {pos spos : Pos} {elt iter : Expr} {scope : Scope} {x x1 y : Str} {px px1 py p3 : Pos} {kk : Nat} {α : Type}
theorem we_lcP (i i1 : Nat) (hne1 : i ≠ i1) {tl : TE} {K : PySem.W.Frag} (hK : F.K = K) {te : TE} (ei : α → PyData × PyData) (g : α → PyData)
    (h : WE F tl ρ k fun k1 d => ∃ as : List α, d = .tuple (as.map fun a => PyData.tuple [(ei a).1, (ei a).2]) ∧ as.length ≤ 1000000 ∧ (∀ D (a : α), a ∈ as → WE (F.ext D) te ((ρ.set i (.d (ei a).1)).set i1 (.d (ei a).2)) k1 fun k2 z => k2 = k1 ∧ z = g a) ∧ Φ k1 (.list (as.map g))) :
    WE F (tLc (iTup K tl) (gTup K 2 (gCons (gName i) (gCons (gName i1) gNil))) tYes te [i, i1]) ρ k Φ := fun σ H Q en j q => by
  show tl σ H _
  refine h σ H _ en j fun v d k1 H1 l1 j1 r hh => ?_
  obtain ⟨as, e, hz, hstep, hend⟩ := hh
  subst e
  cases r with
  | @tup a xs _ ha hr =>
  refine ⟨a, rfl, ⟨xs, hK ▸ sqt_of ha⟩, fun D hD => ?_⟩
  have en1 := en.le l1
  have hM : ¬ F.M D := fun z => F.gl _ _ j1.g D z hD
  have hS : ¬ F.S D := j1.fresh hD
  have h0 : F.H0 D = none := j1.h0 hM hD
  have hne : ∀ (i : Nat) o xs, ρ[i]? = some (SV.own o xs) → o ≠ D := fun i o xs e => by
    obtain ⟨x, _, s⟩ := en1 i _ e
    obtain ⟨_, _, _, _, vs, h1, _⟩ := s
    exact ne_of_none h1 hD
  have rr : Rp (F.ext D) (upd H1 D (.lst [])) (.ref a) (.tuple (as.map fun a => PyData.tuple [(ei a).1, (ei a).2])) := Rep.ext (.tup ha hr) hD
  cases rr with
  | @tup _ xs' _ ha' hr' =>
  have hlen : xs'.length = as.length := by rw [hr'.length, List.length_map]
  refine lc_tup (xs := xs') (fun n H' => ∃ vs, EnvOk (F.ext D) H' σ ρ ∧ J (F.ext D) k1 H' ∧ LeD (F.ext D) D (upd H1 D (.lst [])) H' ∧ H' D = some (.lst vs) ∧ RpAll (F.ext D) H' vs ((as.take n).map g))
    ⟨[], en1.ext hD, (j1.new hD).ext (lv_new fun _ z => nomatch z), .refl, upd_same, .nil⟩ ?_ ?_ ?_
  · rintro n H' _ ⟨vs, _, _, ld, _⟩
    have := sqt_of (K := F.K) (H := H') (S := (F.ext D).S) ⟨ld.lz (.inr rfl) _ _ (Fm.sxA ha'.2) ha'.1, ha'.2⟩
    exact hK ▸ this
  · rintro n v H' hv ⟨vs, en', j', ld, hd, ra⟩
    obtain ⟨y, hy, ry⟩ := hr'.got hv
    rw [List.getElem?_map] at hy
    cases hc : as[n]? with
    | none => rw [hc] at hy; cases hy
    | some a0 =>
    rw [hc] at hy
    cases hy
    have ry' : Rp (F.ext D) H' v (PyData.tuple [(ei a0).1, (ei a0).2]) := ry.le (ld.lz (.inr rfl))
    cases ry' with
    | @tup t ts _ ht hts =>
    cases hts with
    | @cons v1 _ _ _ r1 hts =>
    cases hts with
    | @cons v2 _ _ _ r2 hts =>
    cases hts
    refine ⟨t, _, rfl, hK ▸ sqt_of (K := F.K) ht, rfl, v1, _, rfl, ?_⟩
    refine ⟨v2, _, rfl, rfl, ?_⟩
    rw [wipe3 hne1]
    refine ⟨wipe3' hne1 σ, ?_⟩
    have hn : n < as.length := (List.getElem?_eq_some_iff.mp hc).1
    have hl0 : ((as.take n).map g).length ≤ n := by rw [List.length_map]; exact List.length_take_le _ _
    refine lc_turn (F := F.ext D) (I := fun k acc => k = k1 ∧ acc = (as.take (n + 1)).map g) hM (.inr rfl) h0 ((en'.set (sv := .d (ei a0).1) ⟨v1, rfl, r1⟩).set (sv := .d (ei a0).2) ⟨v2, rfl, r2⟩) j' hd ra (Nat.lt_of_le_of_lt (show ((as.take n).map g).length ≤ 1000000 by omega) (by decide)) (wt_yes ?_) fun H2 k2 vs2 acc2 hl2 ld2 hd2 ra2 j2 i2 => ?_
    · rw [if_pos rfl]
      refine (hstep D a0 (List.mem_of_getElem? hc)).imp fun k2 z ⟨e1, e2⟩ => ⟨e1, ?_⟩
      rw [take_next hc, List.map_append, e2]; rfl
    · obtain ⟨rfl, rfl⟩ := i2
      exact ⟨vs2, en'.ld ld2 (.inr rfl) hne, j2, ld.trans ld2, hd2, ra2⟩
  · rintro H' ⟨vs, en', j', ld, hd, ra⟩
    rw [hlen, List.take_length] at ra
    refine q (.ref D) _ k1 H' ?_ j'.unext (.lst ⟨hd, hS⟩ ra.unext) hend
    exact fun b o n e => ld b o n (ne_of_none (l1 b o n e) hD) (by rw [upd_ne (ne_of_none (l1 b o n e) hD)]; exact l1 b o n e)
theorem ws_compP (ei : α → PyData × PyData) (g : α → PyData) (i i1 iy : Nat) (hne : i ≠ i1) (b : Blk2 C scope i x i1 x1) (ty : Tgt C iy y) (hyl : C.sc.names.lookup y = some .local) (hk : C.sc.kind = .function) (hl : (py.line == pos.line) = true) (ha : (scope.names.any fun (n, k) => n == y && (k == .local || k == .cell)) = false) (hK : F.K = C.K)
    (hs : ∀ (env : Env) (v : Value), foldedSetIterable iter env v = pure v)
    (h : WPE F C iter ρ k fun k1 d => ∃ as : List α, d = .tuple (as.map fun a => PyData.tuple [(ei a).1, (ei a).2]) ∧ as.length ≤ 1000000 ∧ (∀ D (a : α), a ∈ as → WPE (F.ext D) (C.blk scope) elt ((ρ.set i (.d (ei a).1)).set i1 (.d (ei a).2)) k1 fun k2 z => k2 = k1 ∧ z = g a) ∧ P.nx k1 (ρ.set iy (.d (.list (as.map g))))) :
    WPS F C (.Assign [.Name y py] (.ListComp elt [⟨.Tuple [.Name x px, .Name x1 px1] kk p3, iter, [], 0⟩] scope pos) spos) ρ k P :=
  of_ps (fun X fx => ps_setLc (own := [(x, i), (x1, i1)]) fx.calm (by rw [fx.N]; exact b.t.hN) (by rw [fx.N]; exact ty.hi) (by rw [fx.sc]; exact hyl) (sw_true (by rw [fx.sc]; exact hk) (by rw [fx.sc]; exact hyl) hl ha) (piT fx) (by rw [fx.N, fx.sc]; exact b.ok) (fun s H a cl fp => pgTup (n := 2) (fx.blk s H scope a cl fp) (pgs_cons (b.t.pg (fx.blk s H scope a cl fp)) (pgs_cons (b.t1.pg (fx.blk s H scope a cl fp)) pgs_nil)) (by rfl) (by rfl)) (fun s H a cl fp => pts_nil) (fun s H a cl fp => peE (fx.blk s H scope a cl fp)) (hs X.env))
    (ws_asgName iy (we_lcP i i1 hne hK ei g h))
/-- the same as a value -/
theorem we_compP (ei : α → PyData × PyData) (g : α → PyData) (i i1 : Nat) (hne : i ≠ i1) (b : Blk2 C scope i x i1 x1) (hK : F.K = C.K)
    (hs : ∀ (env : Env) (v : Value), foldedSetIterable iter env v = pure v)
    (h : WPE F C iter ρ k fun k1 d => ∃ as : List α, d = .tuple (as.map fun a => PyData.tuple [(ei a).1, (ei a).2]) ∧ as.length ≤ 1000000 ∧ (∀ D (a : α), a ∈ as → WPE (F.ext D) (C.blk scope) elt ((ρ.set i (.d (ei a).1)).set i1 (.d (ei a).2)) k1 fun k2 z => k2 = k1 ∧ z = g a) ∧ Φ k1 (.list (as.map g))) :
    WPE F C (.ListComp elt [⟨.Tuple [.Name x px, .Name x1 px1] kk p3, iter, [], 0⟩] scope pos) ρ k Φ :=
  of_pe (fun X fx => pe_lc (own := [(x, i), (x1, i1)]) fx.calm (by rw [fx.N]; exact b.t.hN) (piT fx) (by rw [fx.N, fx.sc]; exact b.ok) (fun s H a cl fp => pgTup (n := 2) (fx.blk s H scope a cl fp) (pgs_cons (b.t.pg (fx.blk s H scope a cl fp)) (pgs_cons (b.t1.pg (fx.blk s H scope a cl fp)) pgs_nil)) (by rfl) (by rfl)) (fun s H a cl fp => pts_nil) (fun s H a cl fp => peE (fx.blk s H scope a cl fp)) (hs X.env))
    (we_lcP i i1 hne hK ei g h)
end
end Dl

namespace Dl
open PySem PySem.Spec PyProof.Rows L2
/-! ### sorted(a set of hii), any number of members -/
section
variable {P : Program} {w : World} {A : Around} {E : Value → Shared → Prop} {s : Shared} {a : Addr}
theorem sortedSetAll {S : Int → Bool} {n : Nat} {Q : Value → Shared → Prop} (R : SetR w s.heap a S n) (calm : A.handled = none)
    (hQ : ∀ (t : Shared) (p : Addr) (res : List Value) (c : Nat) (ms : List Int), (∀ b o, s.heap.get? b = some o → t.heap.get? b = some o) → t.gens = s.gens → t.os = s.os → s.heap.objs.size ≤ p →
      t.heap.get? p = some (seqObj "list" res.toArray c) → IntsAre res ms → ms.Pairwise (· < ·) → (∀ i, i ∈ ms ↔ S i = true) → ms.length = n → Q (.ref p) t) :
    wpAny (model P w) A (call (.builtin "sorted") [.ref a]) Q E s := by
  obtain ⟨ob, els, epo, tab, hob, exact1, hdat, gd, nodup, memb, bnd, fit, cnt, ris, led⟩ := R
  refine Calls.call_function_entry PyProof.Rows.kind_sorted PyProof.Rows.plain_sorted PyProof.Rows.entry_sorted (PyProof.Rows.args_sorted1 _) ?_
  unfold Builtin.«sorted»
  refine wpAny_bind (m := checkCount "sorted" 1 1 _) (wpAny_pure (wpAny_bind (collect_set (A := A.in1) calm ⟨ob, hob, exact1.1, hdat⟩ fit bnd ris led fun s1 vs kp sz gs os pm => ?_)))
  have vlen : vs.length = n := (pm.length_eq.trans ((List.length_map _).trans Array.length_toList)).trans cnt
  have small : n < 4096 := cnt ▸ bnd
  have hii : IntsAre vs (vs.map Builtin.Re.reRawOf) := ints_of vs fun v hv => by
    obtain ⟨e, he, rfl⟩ := List.mem_map.mp (pm.mem_iff.mp hv)
    obtain ⟨k, tk, h1, _⟩ := gd e he
    exact ⟨k, tk, h1⟩
  have pkeys : (vs.map Builtin.Re.reRawOf).Perm (els.toList.map keyOf) := by
    have z := pm.map Builtin.Re.reRawOf
    rwa [List.map_map] at z
  have lim : vs.length ≤ sizeLine := by rw [vlen, sizeLine_eq]; omega
  refine wpAny_bind (wpAny_newList ?_ (by rw [vlen, sizeLine_eq]; omega))
  have here : (s1.heap.push (seqObj "list" vs.toArray 0)).get? s1.heap.objs.size = some (seqObj "list" vs.toArray 0) := Heap.get?_push_size _ rfl
  refine wpAny_bind (wpAny_holding (wpAny_call_entry PyProof.Rows.slot_list_sort ⟨_, here, rfl⟩ PyProof.Rows.entry_list_sort (SrtO.list_sort_ord SrtO.swo_int here lim (fun h2 => SrtO.ints_sortable hii h2) fun res r1 r2 => ⟨_, rfl, ?_⟩) (PyProof.Rows.args_list_sort _)))
  obtain ⟨z1, z2, z3⟩ := SrtO.ints_out hii r1 r2
  obtain ⟨c, hc⟩ := PyProof.Rows.sortedHeap_at (vs := vs) (out := res.toArray) here
  have pfin := z2.trans pkeys
  refine wpAny_pure ⟨_, rfl, hQ _ s1.heap.objs.size res c (res.map SrtO.iv) (fun b u e => ?_) gs os sz hc z1 (lt_of_le_nodup _ z3 (pfin.nodup_iff.mpr nodup)) (fun i => (pfin.mem_iff).trans (memb i).symm) ?_⟩
  · have old := kp b u e
    have blt := Heap.lt_size old
    show (sortedHeap (s1.heap.push (seqObj "list" vs.toArray 0)) s1.heap.objs.size vs res.toArray).get? b = _
    rw [PyProof.Rows.sortedHeap_old (Nat.ne_of_lt blt) (by rw [Heap.size_push]; exact Nat.lt_succ_of_lt blt)]
    exact Heap.get?_push_of_some _ old
  · exact (pfin.length_eq.trans ((List.length_map _).trans Array.length_toList)).trans cnt
end
def rSortSetA (w : World) : List V → Hp → VK → Prop := fun vs H Q => ∃ (a : Addr) (S : Int → Bool) (n : Nat), vs = [V.ref a] ∧ H a = some (SetO w a S n) ∧
  ∀ (ms : List Int) (p : Addr), ms.Pairwise (· < ·) → (∀ i : Int, i ∈ ms ↔ S i = true) → ms.length = n → H p = none → Q (.ref p) (upd H p (.lst (ms.map V.int)))
theorem cr_sortSetA {X : Cx} (hc : X.calm = true) : CallR X (.builtin "sorted") (rSortSetA X.w) := by
  intro pins s σ H vs us Q I r h
  obtain ⟨a, S, n, rfl, ha, q⟩ := h
  have R := setO_get I ha
  have nb : n < 4096 := by
    obtain ⟨_, els, _, _, _, _, _, _, _, _, bnd, _, cnt, _⟩ := R
    exact cnt ▸ bnd
  rw [Vals.ref1 r]
  refine sortedSetAll R (I.ok.hd hc) fun t p res c ms kp gs os sz at1 hii asc mem len => ?_
  have fits : (ms.map V.int).length ≤ sizeLine := by rw [List.length_map, len, sizeLine_eq]; omega
  have fresh : H p = none := I.hok.fresh sz
  have J1 : Inv X pins σ (upd H p (.lst (ms.map V.int))) { s with heap := t.heap, gens := t.gens, drawn := t.drawn, toks := t.toks } :=
    I.call (ch := []) (Un.laid kp sz fresh) (I.hok.laid kp sz ⟨fits, res, c, vals_of_ints hii, at1⟩) (by rw [gs]; exact I.bare) (fun _ z => nomatch z)
  have same : t = { s with heap := t.heap, gens := t.gens, drawn := t.drawn, toks := t.toks } := by
    cases t; cases s; cases os; rfl
  rw [same]
  exact ⟨.ref p, _, J1, rfl, q ms p asc mem len fresh⟩
/-! ### {elt for x in iter if ..}, elt an int -/
section
variable {X : Cx}
def tSci (w : World) (wi : TI) (g : TG) (tt : TT) (te : TE) (vs : List Nat) : TE := fun σ H Q => wi σ H fun J H1 => ∀ D, H1 D = none →
  ∃ W : Nat → Nat → Hp → Prop, (∃ m, W 0 m (upd H1 D (SetO w D (fun _ => false) 0))) ∧ ∀ i m H, W i m H → (J.stop i H ∧ Q (.ref D) H) ∨
    (J.go i H ∧ ∃ Nx : Hp → Prop, (∀ H', Nx H' → ∃ m', m' < m ∧ W (i + 1) m' H') ∧ ∀ x H', J.yld i H x H' → g x (wipe σ vs) H' fun σ2 H2 => wipe σ2 vs = wipe σ vs ∧ tt σ2 H2 fun b H3 =>
      if b = true then te σ2 H3 fun y H4 => ∃ (c : Int) (S : Int → Bool) (n : Nat), y = .int c ∧ H4 D = some (SetO w D S n) ∧ n + 1 < scanBound ∧ Nx (upd H4 D (SetO w D (fun j => S j || decide (j = c)) (if S c = true then n else n + 1))) else Nx H3)
set_option maxHeartbeats 4000000 in
theorem sci_core {pins : List (Addr × Obj)} {s : Shared} {σ : L2.St} {H : Hp} {Q : VK} {elt tg iter : Expr} {ifs : List Expr} {scope : Scope} {own : List (PySem.Str × Nat)} {pos pos' : Pos} {wi : TI} {g : TG} {tt : TT} {te : TE} {use : Option (Value → Sem Unit)} {Qf : Value → Shared → Prop}
    (calm : X.calm = true) (nodup : X.N.Nodup) (Iv : Inv X pins σ H s) (hit : PI X tg iter wi) (bok : BlkOk X.N X.env.scope scope own)
    (hg : ∀ (s : Shared) (H : Hp) (B : Addr) (cl : List (PySem.Str × Addr)) (fp : List Addr), PG (X.blk s H scope (compEnvC scope cl B X.env) fp) tg g)
    (ht : ∀ (s : Shared) (H : Hp) (B : Addr) (cl : List (PySem.Str × Addr)) (fp : List Addr), PTs (X.blk s H scope (compEnvC scope cl B X.env) fp) ifs tt)
    (he : ∀ (s : Shared) (H : Hp) (B : Addr) (cl : List (PySem.Str × Addr)) (fp : List Addr), PE (X.blk s H scope (compEnvC scope cl B X.env) fp) elt te)
    (hfold : ∀ x, foldedSetIterable iter X.env x = pure x) (hh : tSci X.w wi g tt te (own.map (·.2)) σ H Q)
    (hpost : ∀ D B s' m H', Inv X pins σ H' s' → Q (.ref D) H' → s'.heap.Ns B m → FpOk X pins H' B → compPost (model X.prog X.w) X.A X.xe use Qf (.ref D) B (.ok .next) s') :
    wpAny (model X.prog X.w) X.A (comprehension (.SetComp elt [⟨tg, iter, ifs, 0⟩] scope pos) scope X.env pos' (newSet (.type "set")) false (eval iter X.env) use) Qf X.xe s := by
  have frees : ∀ y ∈ scope.names, y.2 = .free → ∃ c, X.env.cells.lookup y.1 = some c := fun y hy e => (bok.free y hy e).elim (fun k => Iv.ok.has _ (.inl k)) (fun k => Iv.ok.has _ (.inr k))
  refine wpAny_comprehension_free (use := use) rfl hfold (closure_ok frees) bok.kind (fun y hy e => by rw [bok.uniq y hy, e]) ?_
  refine thn (hit.run pins s σ H _ Iv hh) fun xv s1 hx => thn hx fun itv s2 h2 => ?_
  obtain ⟨it, fp, tn, J, H2, rfl, Iv2, T, start2, fpo2, q⟩ := h2
  refine PpSet.newSet_ok (newEnv_comp ?_)
  generalize eD : s2.heap.objs.size = D
  have noD : H2 D = none := Iv2.hok.fresh (Nat.le_of_eq eD)
  obtain ⟨W, ⟨m0, w0⟩, turn⟩ := q D noD
  generalize e3 : ({ s2 with heap := s2.heap.push (nso X.w) } : Shared) = s3
  have there : (s2.heap.push (nso X.w)).get? s2.heap.objs.size = some (nso X.w) := Heap.get?_push_size _ rfl
  have new0 : SetR X.w (s2.heap.push (nso X.w)) s2.heap.objs.size (fun _ => false) 0 := by
    have z := setR_new_at (w := X.w) (ns := []) there
    exact z
  have Iv3 : Inv X pins σ (upd H2 D (SetO X.w D (fun _ => false) 0)) s3 := by
    subst e3 eD
    exact Iv2.laid (t' := s2.toks) (fun b o e => Heap.get?_push_of_some _ e) (Nat.le_refl _) (setO_new new0)
  have heap3 : s3.heap = s2.heap.push (nso X.w) := by rw [← e3]
  have below : ∀ b ∈ fp, b < s2.heap.objs.size := fun b hb => let ⟨o, e, _⟩ := T.obj _ _ start2 b hb; Heap.lt_size e
  have fpo3 : ∀ b ∈ fp, FpOk X pins (upd H2 D (SetO X.w D (fun _ => false) 0)) b ∧ b < s3.heap.objs.size := fun b hb => by
    have lt := below b hb
    refine ⟨⟨?_, (fpo2 b hb).2⟩, by rw [heap3, Heap.size_push]; exact Nat.lt_succ_of_lt lt⟩
    rw [upd_ne (show b ≠ D from eD ▸ Nat.ne_of_lt lt)]
    exact (fpo2 b hb).1
  have start3 : tn 0 s3.heap := T.keep _ _ _ start2 fun b _ o e => by rw [heap3]; exact Heap.get?_push_of_some _ e
  have Iv4 := block_start Iv3 bok nodup fpo3
  generalize eH3 : upd H2 D (SetO X.w D (fun _ => false) 0) = H3 at Iv3 Iv4 w0 fpo3
  have none3 : ∀ b ∈ fp, H3 b = none := fun b hb => (fpo3 b hb).1.1
  have pg := hg s3 H3 s3.heap.objs.size (cellsFrom (s3.heap.objs.size + 1) scope.names (cloFrom X.env.cells scope.names [])) fp
  have pt := ht s3 H3 s3.heap.objs.size (cellsFrom (s3.heap.objs.size + 1) scope.names (cloFrom X.env.cells scope.names [])) fp
  have pe := he s3 H3 s3.heap.objs.size (cellsFrom (s3.heap.objs.size + 1) scope.names (cloFrom X.env.cells scope.names [])) fp
  show codeAny _ _ (.compStart (.SetComp elt [⟨tg, iter, ifs, 0⟩] scope pos) 0 (.ref it) (.ref D) (compEnvC scope (cellsFrom (s3.heap.objs.size + 1) scope.names (cloFrom X.env.cells scope.names [])) s3.heap.objs.size X.env))
    (compPost (model X.prog X.w) X.A X.xe use Qf (.ref D) s3.heap.objs.size) { s3 with heap := pushCells (s3.heap.push { cls := .type "dict", data := .dict #[] }) scope.names }
  generalize eE : compEnvC scope (cellsFrom (s3.heap.objs.size + 1) scope.names (cloFrom X.env.cells scope.names [])) s3.heap.objs.size X.env = en at Iv4 pg pt pe ⊢
  have loc : en.locals = s3.heap.objs.size := by rw [← eE]; rfl
  generalize e4 : ({ s3 with heap := pushCells (s3.heap.push { cls := .type "dict", data := .dict #[] }) scope.names } : Shared) = s4 at Iv4 ⊢
  have start4 : tn 0 s4.heap := T.keep _ _ _ start3 fun b _ o e => by subst e4; exact pushCells_keeps _ _ _ _ (Heap.get?_push_of_some _ e)
  have stays : ∀ {σ' : L2.St} {H' : Hp} {s' : Shared}, Inv (X.blk s3 H3 scope en fp) [] σ' H' s' → (∀ b ∈ fp, H' b = none) → ∀ b ∈ fp, FpOk (X.blk s3 H3 scope en fp) [] H' b := fun {σ' H' s'} V hn b hb =>
    ⟨hn b hb, (V.ok.exf b hb).1, V.ok.exfs b hb, .inl hb, fun x c e => (V.ok.exf b hb).2 x c e, fun p hp => absurd (show p ∈ ([] : List (Addr × Obj)) ++ [] from hp) (by simp)⟩
  have run : codeAny (model X.prog X.w) X.A (.compLoop (.SetComp elt [⟨tg, iter, ifs, 0⟩] scope pos) 0 (.ref it) (.ref D) en) (compPost (model X.prog X.w) X.A X.xe use Qf (.ref D) s3.heap.objs.size) s4 := by
    refine PpSet.compLoopS_any (fun n s' => ∃ i H', Inv (X.blk s3 H3 scope en fp) [] (wipe σ (own.map (·.2))) H' s' ∧ tn i s'.heap ∧ (∀ b ∈ fp, H' b = none) ∧ W i n H') ?_ m0 ⟨0, H3, Iv4, start4, none3, w0⟩
    rintro n s5 ⟨i, H5, Iv5, start5, none5, w5⟩
    rcases turn i n H5 w5 with ⟨stop, fin⟩ | ⟨go, Nx, hNx, step⟩
    · have ends := T.done (X.blk s3 H3 scope en fp) rfl rfl rfl calm i [] s5 _ H5 (fun _ _ => False) Iv5 (stays Iv5 none5) start5 stop
      refine thnF ends fun r s6 ⟨hr, Iv6⟩ => ?_
      subst hr
      have back : Inv X pins σ H5 s6 := Iv3.call' (ch := fp) Iv6.os Iv6.base Iv6.hok Iv6.bare fun b hb => let z := (fpo3 b hb).1; ⟨z.2.2.2.1, z.2.1, z.2.2.2.2.1, z.2.2.2.2.2⟩
      have noC : H5 s3.heap.objs.size = none := by rw [← loc]; exact Iv6.free
      obtain ⟨m, hn, _⟩ := Iv6.loc
      have hn' : s6.heap.Ns s3.heap.objs.size m := by rw [← loc]; exact hn
      exact hpost D s3.heap.objs.size s6 m H5 back fin hn' (Iv3.fpOk (Nat.le_refl _) noC)
    · have next := T.item (X.blk s3 H3 scope en fp) rfl rfl rfl calm i [] s5 _ H5 (fun _ _ => False) Iv5 (stays Iv5 none5) start5 go
      refine thnF next fun r s6 ⟨u, hr, h6⟩ => ?_
      subst hr
      refine thnF h6 fun _ s7 ⟨x, H7, Iv7, r7, y7, start7, none7⟩ => ?_
      have pinned := Iv7.pinned (stays Iv7 none7) (T.obj _ _ start7)
      refine thnF (pg.run _ s7 _ H7 x u _ pinned r7 (step x H7 y7)) fun _ s8 ⟨σ8, H8, Iv8, wip8, q8⟩ => thnF (pt.run _ s8 σ8 H8 _ Iv8 q8) fun b s9 ⟨H9, Iv9, q9⟩ => ?_
      have close : ∀ {s' : Shared} {H' : Hp}, Inv (X.blk s3 H3 scope en fp) ([] ++ pinsAt fp s7.heap) σ8 H' s' → Nx H' → ∃ m, m < n ∧ ∃ i H', Inv (X.blk s3 H3 scope en fp) [] (wipe σ (own.map (·.2))) H' s' ∧ tn i s'.heap ∧ (∀ b ∈ fp, H' b = none) ∧ W i m H' := by
        intro s' H' V nx
        obtain ⟨m', less, w'⟩ := hNx H' nx
        have kept : ∀ b ∈ fp, ∀ o, s7.heap.get? b = some o → s'.heap.get? b = some o ∧ H' b = none := fun b hb o e =>
          have z := V.pin (b, o) (List.mem_append_right _ (List.mem_append_right _ (mem_pinsAt hb e)))
          ⟨z.1, z.2.1⟩
        refine ⟨m', less, i + 1, H', (V.unpinned (pins := [])).weak (by rw [← wip8, wipe_length]) (fun j v e => ?_), T.keep _ _ _ start7 fun b hb o e => (kept b hb o e).1, fun b hb => ?_, w'⟩
        · rw [← wip8] at e
          exact (wipe_some e).1
        · obtain ⟨o, e, _⟩ := T.obj _ _ start7 b hb
          exact (kept b hb o e).2
      cases b with
      | false => exact close Iv9 q9
      | true =>
        show wpAny _ _ _ _ _ _
        have q9' := (if_pos (c := true = true) rfl) ▸ q9
        refine thnF (pe.run _ s9 σ8 H9 _ Iv9 q9') fun z s10 ⟨yv, H10, Iv10, r10, cb, S0, n0, ey, hD10, hz10, nx⟩ => ?_
        subst ey
        have ad := mt_sadd (X := X.blk s3 H3 scope en fp) _ s10 σ8 H10 (.ref D) [.int cb] (.ref D) [z] (fun _ H' => Nx H') Iv10 rfl (.cons r10 .nil) ⟨D, cb, S0, n0, rfl, rfl, hD10, hz10, nx⟩
        refine thnF ad fun v s11 ⟨_, H11, Iv11, _, nx11⟩ => ?_
        exact close Iv11 nx11
  exact PpSet.codeAny_compStart_set run (T.self X.A 0 _ _ _ start4 run)
theorem pe_sci {elt tg iter : Expr} {ifs : List Expr} {scope : Scope} {own : List (PySem.Str × Nat)} {pos : Pos} {wi : TI} {g : TG} {tt : TT} {te : TE} (calm : X.calm = true) (nodup : X.N.Nodup) (hit : PI X tg iter wi) (bok : BlkOk X.N X.env.scope scope own)
    (hg : ∀ (s : Shared) (H : Hp) (B : Addr) (cl : List (PySem.Str × Addr)) (fp : List Addr), PG (X.blk s H scope (compEnvC scope cl B X.env) fp) tg g)
    (ht : ∀ (s : Shared) (H : Hp) (B : Addr) (cl : List (PySem.Str × Addr)) (fp : List Addr), PTs (X.blk s H scope (compEnvC scope cl B X.env) fp) ifs tt)
    (he : ∀ (s : Shared) (H : Hp) (B : Addr) (cl : List (PySem.Str × Addr)) (fp : List Addr), PE (X.blk s H scope (compEnvC scope cl B X.env) fp) elt te) (hfold : ∀ x, foldedSetIterable iter X.env x = pure x) :
    PE X (.SetComp elt [⟨tg, iter, ifs, 0⟩] scope pos) (tSci X.w wi g tt te (own.map (·.2))) :=
  ⟨fun pins s σ H Q I h => by
    rw [PpSet.eval_SetComp]
    refine sci_core calm nodup I hit bok hg ht he hfold h fun D B s' m H' I' q hn f => ⟨m, hn, fun h'' sb => ?_⟩
    obtain ⟨f0, f1, f2, f3, f4, f5⟩ := f
    exact ⟨.ref D, H', I'.turned (t' := s'.toks) (fun b o hb e => (sb.2 b hb).trans e) f0 f1 f3 f4 f5, rfl, q⟩⟩
end

/-! ### .. over data -/
section
variable {F : Fm} {C : Cs} {ρ : Rho} {k : Nat} {Φ : Nat → PyData → Prop} {pos p1 p2 p3 px : Pos} {elt iter e : Expr} {scope : Scope} {x : Str} {α : Type}
theorem pe_sciX {X : Cx} {i : Nat} (fx : Fits C X) (b : Blk C scope i x) {ifs : List Expr} {wi : TI} {tt : TT} (hi : PI X (.Name x px) iter wi) (ht : ∀ X', Fits (C.blk scope) X' → PTs X' ifs tt) (hs : ∀ (env : Env) (v : Value), foldedSetIterable iter env v = pure v) :
    PE X (.SetComp elt [⟨.Name x px, iter, ifs, 0⟩] scope pos) (tSci C.w wi (gName i) tt (tE (C.blk scope) elt) [i]) := by
  rw [← fx.w]
  exact pe_sci (own := [(x, i)]) fx.calm (by rw [fx.N]; exact b.t.hN) hi (by rw [fx.N, fx.sc]; exact b.ok) (fun s H a cl fp => b.t.pg (fx.blk s H scope a cl fp)) (fun s H a cl fp => ht _ (fx.blk s H scope a cl fp)) (fun s H a cl fp => peE (fx.blk s H scope a cl fp)) (hs X.env)
/-- a walk over a tuple for a set -/
theorem sci_tup {w : World} {K : PySem.W.Frag} {a : Addr} {xs : List V} {g : TG} {tt : TT} {te : TE} {vs : List Nat} {σ : L2.St} {H0 : Hp} {D : Addr} {Qd : Hp → Prop} (Pv : Nat → Hp → Prop) (h0 : Pv 0 H0) (hl : ∀ i H, Pv i H → SqT K H a xs)
    (hs : ∀ i v H, xs[i]? = some v → Pv i H → g v (wipe σ vs) H fun σ2 H2 => wipe σ2 vs = wipe σ vs ∧ tt σ2 H2 fun b H3 =>
      if b = true then te σ2 H3 fun y H4 => ∃ (c : Int) (S : Int → Bool) (n : Nat), y = .int c ∧ H4 D = some (SetO w D S n) ∧ n + 1 < scanBound ∧ Pv (i + 1) (upd H4 D (SetO w D (fun j => S j || decide (j = c)) (if S c = true then n else n + 1))) else Pv (i + 1) H3)
    (hd : ∀ H, Pv xs.length H → Qd H) :
    ∃ W : Nat → Nat → Hp → Prop, (∃ m, W 0 m H0) ∧ ∀ i m H, W i m H → ((Itt K a).stop i H ∧ Qd H) ∨
      ((Itt K a).go i H ∧ ∃ Nx : Hp → Prop, (∀ H', Nx H' → ∃ m', m' < m ∧ W (i + 1) m' H') ∧ ∀ x H', (Itt K a).yld i H x H' → g x (wipe σ vs) H' fun σ2 H2 => wipe σ2 vs = wipe σ vs ∧ tt σ2 H2 fun b H3 =>
        if b = true then te σ2 H3 fun y H4 => ∃ (c : Int) (S : Int → Bool) (n : Nat), y = .int c ∧ H4 D = some (SetO w D S n) ∧ n + 1 < scanBound ∧ Nx (upd H4 D (SetO w D (fun j => S j || decide (j = c)) (if S c = true then n else n + 1))) else Nx H3) := by
  refine ⟨fun i m H => m + i = xs.length ∧ Pv i H, ⟨xs.length, by simp, h0⟩, ?_⟩
  rintro i m H ⟨hm, pv⟩
  have sq := hl i H pv
  by_cases end1 : i = xs.length
  · subst end1
    exact .inl ⟨⟨xs, sq, Nat.le_refl _⟩, hd H pv⟩
  · have lt : i < xs.length := by omega
    refine .inr ⟨⟨xs, xs[i], sq, List.getElem?_eq_getElem lt⟩, Pv (i + 1), fun H' pv' => ⟨m - 1, by omega, by omega, pv'⟩, ?_⟩
    rintro v H' ⟨rfl, hy⟩
    exact hs i v _ (hy xs sq) pv
/-- sorted({elt for x in a tuple}), hii -/
theorem we_sortSc (ei : α → PyData) (g : α → Int) (i : Nat) (b : Blk C scope i x) (hK : F.K = C.K) (hg : C.sc.names.lookup ("sorted" : Str) = some .globalImplicit) (hm : C.mg ("sorted" : Str) = none) (hfs : ∀ (env : Env) (v : Value), foldedSetIterable iter env v = pure v)
    (hs : ∀ env : Env, starEach [.SetComp elt [⟨.Name x px, iter, [], 0⟩] scope p2] env = (false, eval (.SetComp elt [⟨.Name x px, iter, [], 0⟩] scope p2) env) :: starEach [] env)
    (h : WPE F C iter ρ k fun k1 d => ∃ as : List α, d = .tuple (as.map ei) ∧ as.length ≤ 1000 ∧ (∀ D a, a ∈ as → WPE (F.ext D) (C.blk scope) elt (ρ.set i (.d (ei a))) k1 fun k2 z => k2 = k1 ∧ z = .int (g a)) ∧
      ∀ ms : List Int, ms.Pairwise (· < ·) → (∀ z, z ∈ ms ↔ z ∈ as.map g) → Φ k1 (.list (ms.map PyData.int))) :
    WPE F C (.Call (.Name "sorted" p1) [.SetComp elt [⟨.Name x px, iter, [], 0⟩] scope p2] [] pos) ρ k Φ :=
  of_pe (t := tCB (rSortSetA C.w) (tCons (tSci C.w (iTup C.K (tE C iter)) (gName i) tYes (tE (C.blk scope) elt) [i]) tNil)) (fun X fx => pe_callB (by rw [← fx.w]; exact cr_sortSetA fx.calm) (by show X.env.scope.names.lookup ("sorted" : Str) = _; rw [fx.sc]; exact hg) (by rw [fx.mg]; exact hm) (by decide +kernel)
      (pa_cons (pe_sciX fx b (piT fx) (fun _ _ => pts_nil) hfs) pa_nil (hs X.env)) (by decide) (by decide) (hs X.env) rfl) fun σ H Q en j q => by
    show tE C iter σ H _
    refine h σ H _ en j fun v d k1 H1 l1 j1 r ⟨as, ed, hz, hbody, hend⟩ => ?_
    subst ed
    cases r with
    | @tup a xs _ ha hr =>
    refine ⟨a, rfl, ⟨xs, hK ▸ sqt_of ha⟩, fun D hD => ?_⟩
    have hlen : xs.length = as.length := by rw [hr.length, List.length_map]
    have en1 := en.le l1
    have hM : ¬ F.M D := fun z => F.gl _ _ j1.g D z hD
    have hS : ¬ F.S D := j1.fresh hD
    have h0 : F.H0 D = none := j1.h0 hM hD
    have hne : ∀ (i : Nat) o xs, ρ[i]? = some (SV.own o xs) → o ≠ D := fun i o xs e => by
      obtain ⟨x, _, s⟩ := en1 i _ e
      obtain ⟨_, _, _, _, vs, h1, _⟩ := s
      exact ne_of_none h1 hD
    have rr : Rp (F.ext D) (upd H1 D (SetO C.w D (fun _ => false) 0)) (.ref a) (.tuple (as.map ei)) := Rep.ext (.tup ha hr) hD
    cases rr with
    | @tup _ xs' _ ha' hr' =>
    have hlen' : xs'.length = as.length := by rw [hr'.length, List.length_map]
    refine sci_tup (xs := xs') (fun n H' => ∃ (S : Int → Bool) (c : Nat), c ≤ n ∧ EnvOk (F.ext D) H' σ ρ ∧ J (F.ext D) k1 H' ∧ LeD (F.ext D) D (upd H1 D (SetO C.w D (fun _ => false) 0)) H' ∧ H' D = some (SetO C.w D S c) ∧ ∀ z, S z = true ↔ z ∈ (as.take n).map g)
      ⟨fun _ => false, 0, Nat.le_refl _, en1.ext hD, (j1.new hD).ext (lv_new fun _ z => nomatch z), .refl, upd_same, by simp⟩ ?_ ?_ ?_
    · rintro n H' ⟨S, c, _, _, _, ld, _⟩
      have := sqt_of (K := F.K) (H := H') (S := (F.ext D).S) ⟨ld.lz (.inr rfl) _ _ (Fm.sxA ha'.2) ha'.1, ha'.2⟩
      exact hK ▸ this
    · rintro n v H' hv ⟨S, c, hc, en', j', ld, hd, hmem⟩
      obtain ⟨y, hy, ry⟩ := hr'.got hv
      rw [List.getElem?_map, Option.map_eq_some_iff] at hy
      obtain ⟨a1, ha1, rfl⟩ := hy
      have hn : n < as.length := (List.getElem?_eq_some_iff.mp ha1).1
      show (wipe ((wipe σ [i]).set i (some v)) [i] = wipe σ [i] ∧ _)
      rw [set_wipe]
      refine ⟨wipe_set σ, ?_⟩
      refine hbody D a1 (List.mem_of_getElem? ha1) (σ.set i (some v)) H' _ (en'.set (sv := .d (ei a1)) ⟨v, rfl, ry.le (ld.lz (.inr rfl))⟩) j' fun vz z k2 H4 l4 j4 r4 ⟨ek, ez⟩ => ?_
      subst ek ez
      cases r4
      have hd4 : H4 D = some (SetO C.w D S c) := l4 D _ (Fm.mxA hM) hd
      refine ⟨g a1, S, c, rfl, hd4, Nat.lt_of_le_of_lt (show c + 1 ≤ 1001 by omega) (by decide), ?_⟩
      have ld2 : LeD (F.ext D) D H' (upd H4 D (SetO C.w D (fun j => S j || decide (j = g a1)) (if S (g a1) = true then c else c + 1))) := fun b o nb m e => by rw [upd_ne m]; exact l4 b o nb e
      refine ⟨_, _, ?_, en'.ld ld2 (.inr rfl) hne, j4.own hM h0 (pl_set hd4), ld.trans ld2, upd_same, fun z => ?_⟩
      · split <;> omega
      · rw [take_next ha1, List.map_append, List.mem_append, Bool.or_eq_true, hmem z, decide_eq_true_eq]
        simp
    · rintro H' ⟨S, c, hc, en', j', ld, hd, hmem⟩
      refine ⟨D, S, c, rfl, hd, fun ms l2 hpw hms _ hl2 => ?_⟩
      have j2 := j'.unext
      refine q _ _ k1 _ ?_ (j2.new hl2) (rep_newL j2 hl2 (RepAll.of_ints ms)) (hend ms hpw fun z => ?_)
      · intro b o nb e
        have e1 := l1 b o nb e
        have e2 := ld b o nb (ne_of_none e1 hD) (by rw [upd_ne (ne_of_none e1 hD)]; exact e1)
        rw [upd_ne (ne_of_none e2 hl2)]; exact e2
      · rw [hms z, hmem z, hlen', List.take_length]
/-- sorted(set(xs)), any number -/
theorem we_sortSetA (hK : F.K = C.K) (hg : C.sc.names.lookup ("sorted" : Str) = some .globalImplicit) (hm : C.mg ("sorted" : Str) = none) (hg2 : C.sc.names.lookup ("set" : Str) = some .globalImplicit) (hm2 : C.mg ("set" : Str) = none)
    (hs : ∀ env : Env, starEach [e] env = (false, eval e env) :: starEach [] env) (hs2 : ∀ env : Env, starEach [.Call (.Name "set" p2) [e] [] p3] env = (false, eval (.Call (.Name "set" p2) [e] [] p3) env) :: starEach [] env)
    (h : WPE F C e ρ k fun k1 x => ∃ ns : List Int, x = .list (ns.map PyData.int) ∧ ns.length ≤ 1000 ∧ ∀ ms : List Int, ms.Pairwise (· < ·) → (∀ i, i ∈ ms ↔ i ∈ ns) → Φ k1 (.list (ms.map PyData.int))) : WPE F C (.Call (.Name "sorted" p1) [.Call (.Name "set" p2) [e] [] p3] [] pos) ρ k Φ :=
  of_pe (t := tCB (rSortSetA C.w) (tCons (tCB (rSetL C.K C.w) (tCons (tE C e) tNil)) tNil)) (fun X fx => pe_callB (by rw [← fx.w]; exact cr_sortSetA fx.calm) (by show X.env.scope.names.lookup ("sorted" : Str) = _; rw [fx.sc]; exact hg) (by rw [fx.mg]; exact hm) (by decide +kernel)
      (pa_cons (pe_callTy (by rw [← fx.w, ← fx.K]; exact cr_setL fx.calm) (by show X.env.scope.names.lookup ("set" : Str) = _; rw [fx.sc]; exact hg2) (by rw [fx.mg]; exact hm2) (by decide +kernel) (pa_cons (peE fx) pa_nil (hs X.env)) (by decide) (by decide) (hs X.env) rfl) pa_nil (hs2 X.env)) (by decide) (by decide) (hs2 X.env) rfl) fun σ H Q en j q => by
    show tE C e σ H _
    refine h σ H _ en j fun v d k1 H1 l1 j1 r ⟨ns, ed, hz, p⟩ => ?_
    subst ed
    cases r with
    | @lst a xs _ ha hr =>
    refine ⟨a, ns, rfl, hr.ints ▸ hK ▸ sql_of ha, hz, fun l c hl hc => ?_⟩
    refine ⟨l, _, c, rfl, upd_same, fun ms l2 hpw hmem _ hl2 => ?_⟩
    have j2 := j1.new (o := SetO C.w l (fun j => decide (j ∈ ns)) c) hl
    refine q _ _ k1 _ ((l1.trans (.new hl)).trans (.new hl2)) (j2.new hl2) (rep_newL j2 hl2 (RepAll.of_ints ms)) (p ms hpw fun i => ?_)
    rw [hmem i, decide_eq_true_eq]
end

/-! ### len(set(xs)) -/
def rLenSetO (w : World) : List V → Hp → VK → Prop := fun vs H Q => ∃ (a : Addr) (S : Int → Bool) (n : Nat), vs = [V.ref a] ∧ H a = some (SetO w a S n) ∧ ∀ ks : List Int, ks.Nodup → (∀ z, z ∈ ks ↔ S z = true) → ks.length = n → Q (.int (n : Nat)) H
theorem cr_lenSetO {X : Cx} : CallR X (.builtin "len") (rLenSetO X.w) := by
  intro pins s σ H vs us Q I r h
  obtain ⟨a, S, n, rfl, ha, q⟩ := h
  obtain ⟨ob, els, epo, tab, hob, exact1, hdat, gd, nodup, memb, bnd, fit, cnt, ris, led⟩ := setO_get I ha
  rw [Vals.ref1 r]
  have hb : els.size < 4096 := bnd
  refine call_len_set hob exact1 hdat fit (by omega) ⟨.int (n : Nat), H, (I.tok _).tok _, ⟨_, by rw [cnt]⟩, q _ nodup (fun z => (memb z).symm) ?_⟩
  rw [List.length_map, Array.length_toList]; exact cnt
section
variable {F : Fm} {C : Cs} {ρ : Rho} {k : Nat} {Φ : Nat → PyData → Prop} {pos p1 p2 p3 px : Pos} {e : Expr}
theorem we_lenSet (hK : F.K = C.K) (hg : C.sc.names.lookup ("len" : Str) = some .globalImplicit) (hm : C.mg ("len" : Str) = none) (hg2 : C.sc.names.lookup ("set" : Str) = some .globalImplicit) (hm2 : C.mg ("set" : Str) = none)
    (hs : ∀ env : Env, starEach [e] env = (false, eval e env) :: starEach [] env) (hs2 : ∀ env : Env, starEach [.Call (.Name "set" p2) [e] [] p3] env = (false, eval (.Call (.Name "set" p2) [e] [] p3) env) :: starEach [] env)
    (h : WPE F C e ρ k fun k1 x => ∃ ns : List Int, x = .list (ns.map PyData.int) ∧ ns.length ≤ 1000 ∧ ∀ ks : List Int, ks.Nodup → (∀ i, i ∈ ks ↔ i ∈ ns) → Φ k1 (.int (ks.length : Nat))) : WPE F C (.Call (.Name "len" p1) [.Call (.Name "set" p2) [e] [] p3] [] pos) ρ k Φ :=
  of_pe (t := tCB (rLenSetO C.w) (tCons (tCB (rSetL C.K C.w) (tCons (tE C e) tNil)) tNil)) (fun X fx => pe_callB (by rw [← fx.w]; exact cr_lenSetO) (by show X.env.scope.names.lookup ("len" : Str) = _; rw [fx.sc]; exact hg) (by rw [fx.mg]; exact hm) (by decide +kernel)
      (pa_cons (pe_callTy (by rw [← fx.w, ← fx.K]; exact cr_setL fx.calm) (by show X.env.scope.names.lookup ("set" : Str) = _; rw [fx.sc]; exact hg2) (by rw [fx.mg]; exact hm2) (by decide +kernel) (pa_cons (peE fx) pa_nil (hs X.env)) (by decide) (by decide) (hs X.env) rfl) pa_nil (hs2 X.env)) (by decide) (by decide) (hs2 X.env) rfl) fun σ H Q en j q => by
    show tE C e σ H _
    refine h σ H _ en j fun v d k1 H1 l1 j1 r ⟨ns, ed, hz, p⟩ => ?_
    subst ed
    cases r with
    | @lst a xs _ ha hr =>
    refine ⟨a, ns, rfl, hr.ints ▸ hK ▸ sql_of ha, hz, fun l c hl hc => ?_⟩
    refine ⟨l, _, c, rfl, upd_same, fun ks hnd hmem hlen => ?_⟩
    subst hlen
    exact q _ _ k1 _ (l1.trans (.new hl)) (j1.new hl) (.int _) (p ks hnd fun i => by rw [hmem i, decide_eq_true_eq])
end
/-! ### small steps that a walk takes by itself -/
section
variable {a b c d e f g h : PyData} {p : Prop}
theorem tl0 (h : p) : ([] : List PyData).length ≤ sizeLine ∧ p := ⟨Nat.zero_le _, h⟩
theorem tl1 (h : p) : [a].length ≤ sizeLine ∧ p := ⟨by show 1 ≤ sizeLine; decide, h⟩
theorem tl2 (h : p) : [a, b].length ≤ sizeLine ∧ p := ⟨by show 2 ≤ sizeLine; decide, h⟩
theorem tl3 (h : p) : [a, b, c].length ≤ sizeLine ∧ p := ⟨by show 3 ≤ sizeLine; decide, h⟩
theorem tl4 (h : p) : [a, b, c, d].length ≤ sizeLine ∧ p := ⟨by show 4 ≤ sizeLine; decide, h⟩
theorem tl5 (h : p) : [a, b, c, d, e].length ≤ sizeLine ∧ p := ⟨by show 5 ≤ sizeLine; decide, h⟩
theorem tl6 (h : p) : [a, b, c, d, e, f].length ≤ sizeLine ∧ p := ⟨by show 6 ≤ sizeLine; decide, h⟩
theorem tl7 (h : p) : [a, b, c, d, e, f, g].length ≤ sizeLine ∧ p := ⟨by show 7 ≤ sizeLine; decide, h⟩
theorem ii2 {i j : Int} {Θ : Int → Int → Prop} (h : Θ i j) : ∃ x y, PyData.int i = .int x ∧ PyData.int j = .int y ∧ Θ x y := ⟨i, j, rfl, rfl, h⟩
theorem ii1 {i : Int} {Θ : Int → Prop} (h : Θ i) : ∃ x, PyData.int i = .int x ∧ Θ x := ⟨i, rfl, h⟩
theorem ss2 {i j : Str} {Θ : Str → Str → Prop} (h : Θ i j) : ∃ x y, PyData.str i = .str x ∧ PyData.str j = .str y ∧ Θ x y := ⟨i, j, rfl, rfl, h⟩
theorem bb1 {i : Bool} {Θ : Bool → Prop} (h : Θ i) : ∃ x, PyData.bool i = .bool x ∧ Θ x := ⟨i, rfl, h⟩
theorem sqT {ds : List PyData} {Θ : List PyData → Prop} (h : Θ ds) : ∃ xs, seqD (.tuple ds) = some xs ∧ Θ xs := ⟨ds, rfl, h⟩
theorem sqL {ds : List PyData} {Θ : List PyData → Prop} (h : Θ ds) : ∃ xs, seqD (.list ds) = some xs ∧ Θ xs := ⟨ds, rfl, h⟩
theorem shII {i j : Int} (h : p) : SeqAt.shaped (.int i) = true ∧ SeqAt.shaped (.int j) = true ∧ p := ⟨rfl, rfl, h⟩
end
end Dl

namespace Dl
open PySem PySem.Spec PyProof.Rows L2
/-! ### max(xs, default=None), max(xs), ints -/
theorem maxD_ints : ∀ (ns : List Int) (a : Int), ∃ m : Int, PySem.W.maxD (.int a) (ns.map PyData.int) = .int m ∧ m ∈ a :: ns ∧ ∀ y ∈ a :: ns, y ≤ m
  | [], a => ⟨a, rfl, List.mem_cons_self, fun y hy => by simp at hy; omega⟩
  | n :: ns, a => by
    by_cases h : a < n
    · obtain ⟨m, e, hm, hle⟩ := maxD_ints ns n
      refine ⟨m, ?_, ?_, fun y hy => ?_⟩
      · rw [← e]
        unfold PySem.W.maxD
        rw [List.map_cons, List.foldl_cons, PySem.W.dataLt_int, decide_eq_true h]; rfl
      · exact List.mem_cons_of_mem _ hm
      · rcases List.mem_cons.mp hy with rfl | hy
        · have := hle n List.mem_cons_self; omega
        · exact hle y hy
    · obtain ⟨m, e, hm, hle⟩ := maxD_ints ns a
      refine ⟨m, ?_, ?_, fun y hy => ?_⟩
      · rw [← e]
        unfold PySem.W.maxD
        rw [List.map_cons, List.foldl_cons, PySem.W.dataLt_int, decide_eq_false h]; rfl
      · rcases List.mem_cons.mp hm with rfl | hm
        · exact List.mem_cons_self
        · exact List.mem_cons_of_mem _ (List.mem_cons_of_mem _ hm)
      · rcases List.mem_cons.mp hy with rfl | hy
        · exact hle y List.mem_cons_self
        · rcases List.mem_cons.mp hy with rfl | hy
          · have := hle a List.mem_cons_self; omega
          · exact hle y (List.mem_cons_of_mem _ hy)
def rMaxDef (K : PySem.W.Frag) : List V → List V → Hp → VK → Prop := fun vs zs H Q => ∃ (a : Addr) (ns : List Int), vs = [V.ref a] ∧ zs = [V.non] ∧ SqL K H a (ns.map V.int) ∧ (ns = [] → Q .non H) ∧ ∀ m, m ∈ ns → (∀ y, y ∈ ns → y ≤ m) → Q (.int m) H
theorem cr_maxDef {X : Cx} (hc : X.calm = true) (hu : X.A.units + 1 < cLine) : CallRK X (.builtin "max") [Str.ofString "default"] (rMaxDef X.K) := by
  intro pins s σ H vs zs us ws Q I r rz h
  obtain ⟨a, ns, rfl, rfl, hs, h0, h1⟩ := h
  obtain ⟨its, rv, hl, _⟩ := I.list hs
  rw [Vals.ref1 r]
  obtain ⟨u, rfl, ru⟩ := vals1 rz
  obtain rfl : u = Value.none := ru
  have hi := rv.ints
  have hd : PyData.depthAll (ns.map PyData.int) = 0 := (lay_ints ns).2
  refine PySem.W.max_list_default (xs := ns.map PyData.int) (as := []) (I.ok.hd hc) hl.isList (by simpa using hi.reads s.heap) ⟨fun x hx y hy => ?_, fun x hx => ?_⟩ (by rw [hd]; exact hu) (fun e h' tk hk => ?_) (fun y ys i v h' tk bs e hv rd hk => ?_)
  · obtain ⟨p, _, rfl⟩ := List.mem_map.mp hx
    obtain ⟨q, _, rfl⟩ := List.mem_map.mp hy
    rfl
  · obtain ⟨p, _, rfl⟩ := List.mem_map.mp hx
    exact fun z => nomatch z
  · exact ⟨.non, H, I.kept hk, rfl, h0 (List.map_eq_nil_iff.mp e)⟩
  · cases ns with
    | nil => cases e
    | cons n ns =>
      rw [List.map_cons, List.cons.injEq] at e
      obtain ⟨rfl, rfl⟩ := e
      obtain ⟨m, em, hm, hle⟩ := maxD_ints ns n
      rw [em] at rd
      cases rd with
      | int i t => exact ⟨.int m, H, I.kept hk, ⟨_, rfl⟩, h1 m hm hle⟩
section
variable {F : Fm} {C : Cs} {ρ : Rho} {k : Nat} {Φ : Nat → PyData → Prop} {pos p1 p2 p3 px kp : Pos} {e : Expr} {jj : Nat} {P : DE} {x : Str} {rest : List Stmt}
theorem we_maxDef (hK : F.K = C.K) (hg : C.sc.names.lookup ("max" : Str) = some .globalImplicit) (hm : C.mg ("max" : Str) = none)
    (h1 : ∀ env : Env, backTo pos (starEach [e] env) = (false, eval e env) :: backTo pos (starEach [] env) ∧ (backTo pos (starEach [e] env)).any (·.1) = false) (h2 : ∀ env : Env, starEach [e] env = (false, eval e env) :: starEach [] env)
    (h : WPE F C e ρ k fun k1 d => ∃ ns : List Int, d = .list (ns.map PyData.int) ∧ (ns = [] → Φ k1 .none) ∧ ∀ m, m ∈ ns → (∀ y, y ∈ ns → y ≤ m) → Φ k1 (.int m)) :
    WPE F C (.Call (.Name "max" p1) [e] [⟨some "default", .Constant .none jj p2, kp⟩] pos) ρ k Φ :=
  of_pe (t := tCKw (rMaxDef C.K) (tCons (tE C e) tNil) (tCons (tC .non) tNil)) (fun X fx => pe_callBK (id := "max") (by rw [← fx.K]; exact cr_maxDef fx.calm (by have := fx.room.units; omega)) (by show X.env.scope.names.lookup ("max" : Str) = _; rw [fx.sc]; exact hg) (by rw [fx.mg]; exact hm) (by decide +kernel)
      (pa_cons (peE fx) pa_nil (h2 X.env)) (pk_cons pe_non pk_nil) (by decide) (by decide) (h1 X.env).1 (h1 X.env).2) fun σ H Q en j q => by
    show tE C e σ H _
    refine h σ H _ en j fun v d k1 H1 l1 j1 r ⟨ns, ed, p0, p⟩ => ?_
    subst ed
    cases r with
    | @lst a xs _ ha hr =>
    exact ⟨a, ns, rfl, rfl, hr.ints ▸ hK ▸ sql_of ha, fun e0 => q _ _ k1 H1 l1 j1 .non (p0 e0), fun m hm1 hle => q _ _ k1 H1 l1 j1 (.int m) (p m hm1 hle)⟩
theorem we_max (hK : F.K = C.K) (hg : C.sc.names.lookup ("max" : Str) = some .globalImplicit) (hm : C.mg ("max" : Str) = none) (hs : ∀ env : Env, starEach [e] env = (false, eval e env) :: starEach [] env) (h : WPE F C e ρ k fun k1 x => ∃ ns : List Int, x = .list (ns.map PyData.int) ∧ 0 < ns.length ∧ ∀ m, m ∈ ns → (∀ y, y ∈ ns → y ≤ m) → Φ k1 (.int m)) : WPE F C (.Call (.Name "max" p1) [e] [] pos) ρ k Φ :=
  we_callB (id := "max") (fun X fx => maxK fx) hg hm (by decide +kernel) (wa_one hs (h.imp fun k1 x ⟨ns, e, hp, p⟩ => fun H vs Q j r q => by
    subst e
    cases r with
    | cons r1 r2 =>
    cases r2
    cases r1 with
    | @lst a xs _ ha hr => exact ⟨a, ns, rfl, hr.ints ▸ hK ▸ sql_of ha, hp, fun m hm hle => q _ _ k1 H .refl j (.int _) (p m hm hle)⟩)) (by decide) (by decide) hs
end

section
variable {F : Fm} {C : Cs} {ρ : Rho} {k : Nat} {P : DE} {pos p2 px : Pos} {a b : Expr} {x : Str} {rest : List Stmt}
/-- x = xs + ys, lists: the new list is the def's own -/
theorem wb_ownCat (i : Nat) (t : Tgt C i x) (hi : i < ρ.length) (hs : ∀ env : Env, env.scope = C.sc → swapsWith (.BinOp a .Add b p2) (some (.Name x px)) pos.line env = pure false)
    (h : WPE F C a ρ k fun k1 u => WPE F C b ρ k1 fun k2 v => ∃ ds es, u = .list ds ∧ v = .list es ∧ ds.length + es.length ≤ 1000000 ∧
      ∀ o, WPB (F.ext o) C rest (ρ.set i (.own o (ds ++ es))) k2 { nx := fun _ _ => False, rt := P.rt, bk := fun _ _ => False, ct := fun _ _ => False }) : WPB F C (.Assign [.Name x px] (.BinOp a .Add b p2) pos :: rest) ρ k P :=
  of_pb (fun X fx => pss_cons (ps_set (by rw [fx.N]; exact t.hN) (by rw [fx.N]; exact t.hi) (by rw [fx.sc]; exact t.hx) (pe_op op_cat (peE fx) (peE fx)) (hs X.env fx.sc) (by rw [fx.fn, fx.sc]; exact t.hf)) (pbB fx)) fun σ H E en j q1 q2 q3 q4 => by
    refine h σ H _ en j fun vx u k1 H1 l1 j1 r1 hx => hx σ H1 _ (en.le l1) j1 fun vy v k2 H2 l2 j2 r2 ⟨ds, es, e1, e2, hz, p⟩ => ?_
    subst e1 e2
    have r1' := r1.le l2.lz
    cases r1' with
    | @lst pa xs _ ha hr =>
    cases r2 with
    | @lst pb ys _ hb hr2 =>
    refine ⟨pa, pb, xs, ys, rfl, rfl, ha.1, hb.1, by rw [hr.length, hr2.length]; exact Nat.le_trans hz (by decide), fun o no => ?_⟩
    have hM : ¬ F.M o := fun z => F.gl _ _ j2.g o z no
    have h0 : F.H0 o = none := j2.h0 hM no
    have en2 : EnvOk (F.ext o) (upd H2 o (.lst (xs ++ ys))) (σ.set i (some (.ref o))) (ρ.set i (.own o (ds ++ es))) :=
      (((en.le l1).le l2).ext no).set (sv := .own o (ds ++ es)) ⟨rfl, .inr rfl, hM, h0, xs ++ ys, upd_same, (hr.append hr2).ext no⟩
    refine p o (σ.set i (some (.ref o))) (upd H2 o (.lst (xs ++ ys))) E en2 ((j2.new no).ext (lv_new fun _ z => nomatch z)) ?_ ?_ ?_ ?_
    · exact fun _ _ _ _ _ _ _ z => z.elim
    · exact fun v d k' H' j' r' p => q2 v d k' H' j'.unext r'.unext p
    · exact fun _ _ _ _ _ _ _ z => z.elim
    · exact fun _ _ _ _ _ _ _ z => z.elim
/-- x = xs + ys, a statement that may change x, the rest with x as data -/
theorem wb_ownCat1 (i : Nat) {st : Stmt} (t : Tgt C i x) (hi : i < ρ.length) (hs : ∀ env : Env, env.scope = C.sc → swapsWith (.BinOp a .Add b p2) (some (.Name x px)) pos.line env = pure false)
    (h : WPE F C a ρ k fun k1 u => WPE F C b ρ k1 fun k2 v => ∃ ds es, u = .list ds ∧ v = .list es ∧ ds.length + es.length ≤ 1000000 ∧
      ∀ o, WPS (F.ext o) C st (ρ.set i (.own o (ds ++ es))) k2 { nx := fun k' ρ' => ∃ ys, ρ'[i]? = some (.own o ys) ∧ (ρ'.set i .un).all plainB = true ∧ WPB F C rest (ρ'.set i (.d (.list ys))) k' P, rt := P.rt, bk := fun _ _ => False, ct := fun _ _ => False }) :
    WPB F C (.Assign [.Name x px] (.BinOp a .Add b p2) pos :: st :: rest) ρ k P :=
  of_pb (fun X fx => pss_cons (ps_set (by rw [fx.N]; exact t.hN) (by rw [fx.N]; exact t.hi) (by rw [fx.sc]; exact t.hx) (pe_op op_cat (peE fx) (peE fx)) (hs X.env fx.sc) (by rw [fx.fn, fx.sc]; exact t.hf)) (pss_cons (psS fx) (pbB fx))) fun σ H E en j q1 q2 q3 q4 => by
    refine h σ H _ en j fun vx u k1 H1 l1 j1 r1 hx => hx σ H1 _ (en.le l1) j1 fun vy v k2 H2 l2 j2 r2 ⟨ds, es, e1, e2, hz, p⟩ => ?_
    subst e1 e2
    have r1' := r1.le l2.lz
    cases r1' with
    | @lst pa xs _ ha hr =>
    cases r2 with
    | @lst pb ys _ hb hr2 =>
    refine ⟨pa, pb, xs, ys, rfl, rfl, ha.1, hb.1, by rw [hr.length, hr2.length]; exact Nat.le_trans hz (by decide), fun o no => ?_⟩
    have hM : ¬ F.M o := fun z => F.gl _ _ j2.g o z no
    have hS : ¬ F.S o := j2.fresh no
    have h0 : F.H0 o = none := j2.h0 hM no
    have en2 : EnvOk (F.ext o) (upd H2 o (.lst (xs ++ ys))) (σ.set i (some (.ref o))) (ρ.set i (.own o (ds ++ es))) :=
      (((en.le l1).le l2).ext no).set (sv := .own o (ds ++ es)) ⟨rfl, .inr rfl, hM, h0, xs ++ ys, upd_same, (hr.append hr2).ext no⟩
    have lz0 : Lz F H H2 := l1.lz.trans l2.lz
    have lzo : ∀ H', Lz (F.ext o) (upd H2 o (.lst (xs ++ ys))) H' → Lz F H H' := fun H' lz b u hb e => by
      have e2 := lz0 b u hb e
      have ne : b ≠ o := ne_of_none e2 no
      exact lz b u (fun z => z.elim (fun y => y.elim (fun q => hb (.inl q)) ne) fun q => hb (.inr q)) (by rw [upd_ne ne]; exact e2)
    refine p o (σ.set i (some (.ref o))) (upd H2 o (.lst (xs ++ ys))) _ en2 ((j2.new no).ext (lv_new fun _ z => nomatch z)) ?_ ?_ ?_ ?_
    · rintro ρ' σ' k' H' lz en' j' ⟨zs, hown, hpl, hrest⟩
      have hlz := lzo H' lz
      obtain ⟨hσ', _, _, _, vs, hvs, rvs⟩ := en'.own hown
      have en3 : EnvOk F H' σ' (ρ'.set i (.d (.list zs))) := by
        intro m sv em
        by_cases hj : i = m
        · subst hj
          have hl : i < ρ'.length := (List.getElem?_eq_some_iff.mp hown).1
          rw [List.getElem?_set_self hl] at em
          cases em
          exact ⟨_, hσ', _, rfl, .lst ⟨hvs, hS⟩ rvs.unext⟩
        · rw [List.getElem?_set_ne hj] at em
          obtain ⟨y, qy, sy⟩ := en' m sv em
          refine ⟨y, qy, ?_⟩
          cases sv with
          | un => trivial
          | d d => obtain ⟨v, z, r⟩ := sy; exact ⟨v, z, r.unext⟩
          | raw v => exact sy
          | own o' xs' => exact (noOwn_of hpl m o' xs' (Ne.symm hj) em).elim
      exact hrest σ' H' E en3 j'.unext (fun ρ2 σ2 k2 H2 l2 => q1 ρ2 σ2 k2 H2 (hlz.trans l2)) q2 (fun ρ2 σ2 k2 H2 l2 => q3 ρ2 σ2 k2 H2 (hlz.trans l2)) (fun ρ2 σ2 k2 H2 l2 => q4 ρ2 σ2 k2 H2 (hlz.trans l2))
    · exact fun v d k' H' j' r' p => q2 v d k' H' j'.unext r'.unext p
    · exact fun _ _ _ _ _ _ _ z => z.elim
    · exact fun _ _ _ _ _ _ _ z => z.elim
end
end Dl

namespace Dl
open PySem PySem.Spec PyProof.Rows L2
section
variable {F : Fm} {C : Cs} {ρ : Rho} {k : Nat} {Φ : Nat → PyData → Prop}
/-! ### comprehensions over range(a, b) -/
theorem we_lcR2 (i : Nat) {ta tb : TE} {tt : TT} {te : TE}
    (h : WE F ta ρ k fun k1 d => WE F tb ρ k1 fun k2 d' => ∃ (I : Nat → Nat → List PyData → Prop) (u z : Int), d = .int u ∧ d' = .int z ∧ (-1000000 ≤ u ∧ z ≤ 1000000 ∧ u ≤ 1000000 ∧ -1000000 ≤ z) ∧ I 0 k2 [] ∧ (∀ D (j : Nat) k' acc, j < (z - u).toNat → I j k' acc → WT (F.ext D) tt (ρ.set i (.d (.int (u + j)))) k' fun k1 b => if b = true then WE (F.ext D) te (ρ.set i (.d (.int (u + j)))) k1 fun k2 z => I (j + 1) k2 (acc ++ [z]) else I (j + 1) k1 acc) ∧ (∀ k' acc, I (z - u).toNat k' acc → Φ k' (.list acc))) : WE F (tLc (iRng2 (tCons ta (tCons tb tNil))) (gName i) tt te [i]) ρ k Φ := fun σ H Q en j q => by
  show ta σ H _
  refine h σ H _ en j fun va da k1 H1 l1 j1 r1 hh => ?_
  show tb σ H1 _
  refine hh σ H1 _ (en.le l1) j1 fun vb db k2 H2 l2 j2 r2 hh => ?_
  obtain ⟨I, u, z, e1, e2, hz, i0, hstep, hend⟩ := hh
  subst e1 e2
  cases r1
  cases r2
  refine ⟨u, z, rfl, ⟨by omega, by omega, by omega, by omega⟩, fun D hD => ?_⟩
  have en1 := (en.le l1).le l2
  have l12 := l1.trans l2
  have hM : ¬ F.M D := fun z => F.gl _ _ j2.g D z hD
  have hS : ¬ F.S D := j2.fresh hD
  have h0 : F.H0 D = none := j2.h0 hM hD
  have hne : ∀ (i : Nat) o xs, ρ[i]? = some (SV.own o xs) → o ≠ D := fun i o xs e => by
    obtain ⟨x, _, s⟩ := en1 i _ e
    obtain ⟨_, _, _, _, vs, h1, _⟩ := s
    exact ne_of_none h1 hD
  refine lc_range (lo := u) (n := (z - u).toNat) (fun n H' => ∃ k' vs acc, acc.length ≤ n ∧ EnvOk (F.ext D) H' σ ρ ∧ J (F.ext D) k' H' ∧ LeD (F.ext D) D (upd H2 D (.lst [])) H' ∧ H' D = some (.lst vs) ∧ RpAll (F.ext D) H' vs acc ∧ I n k' acc)
    ⟨k2, [], [], Nat.le_refl _, en1.ext hD, (j2.new hD).ext (lv_new fun _ z => nomatch z), .refl, upd_same, .nil, i0⟩ ?_ ?_
  · rintro n H' hn ⟨k', vs, acc, hle, en', j', ld, hd, ra, ii⟩
    show (wipe ((wipe σ [i]).set i (some (.int (u + n)))) [i] = wipe σ [i] ∧ _)
    rw [set_wipe]
    refine ⟨wipe_set σ, ?_⟩
    refine lc_turn (F := F.ext D) (I := fun k acc => I (n + 1) k acc) hM (.inr rfl) h0 (en'.set (sv := .d (.int (u + n))) ⟨_, rfl, .int _⟩) j' hd ra (Nat.lt_of_le_of_lt (show acc.length ≤ 2000000 by omega) (by decide)) (hstep D n k' acc hn ii) fun H2 k2 vs2 acc2 hl2 ld2 hd2 ra2 j2 i2 => ?_
    exact ⟨k2, vs2, acc2, by omega, en'.ld ld2 (.inr rfl) hne, j2, ld.trans ld2, hd2, ra2, i2⟩
  · rintro H' ⟨k', vs, acc, hle, en', j', ld, hd, ra, ii⟩
    refine q (.ref D) (.list acc) k' H' ?_ j'.unext (.lst ⟨hd, hS⟩ ra.unext) (hend k' acc ii)
    exact fun b o n e => ld b o n (ne_of_none (l12 b o n e) hD) (by rw [upd_ne (ne_of_none (l12 b o n e) hD)]; exact l12 b o n e)
end
section
variable {F : Fm} {C : Cs} {ρ : Rho} {k : Nat} {Φ : Nat → PyData → Prop} {P : DE} {pos spos pr pr2 p2 : Pos} {elt a b e : Expr} {scope : Scope}
theorem we_mR2 (g : Int → PyData) (i : Nat) {x : Str} {px : Pos} (bk : Blk C scope i x) (hg : C.sc.names.lookup ("range" : Str) = some .globalImplicit) (hm : C.mg ("range" : Str) = none) (hse : ∀ env : Env, starEach [a, b] env = [(false, eval a env), (false, eval b env)]) (hse2 : ∀ env : Env, starEach [b] env = [(false, eval b env)]) (hfs : ∀ (env : Env) (v : Value), foldedSetIterable (.Call (.Name "range" pr) [a, b] [] pr2) env v = pure v)
    (h : WPE F C a ρ k fun k1 d => WPE F C b ρ k1 fun k2 d' => ∃ (u z : Int), d = .int u ∧ d' = .int z ∧ (-1000000 ≤ u ∧ z ≤ 1000000 ∧ u ≤ 1000000 ∧ -1000000 ≤ z) ∧ (∀ D (j : Int), u ≤ j → j < z → WPE (F.ext D) (C.blk scope) elt (ρ.set i (.d (.int j))) k2 fun k3 y => k3 = k2 ∧ y = g j) ∧ Φ k2 (.list ((rg (z - u)).map fun j => g (u + j)))) :
    WPE F C (.ListComp elt [⟨.Name x px, .Call (.Name "range" pr) [a, b] [] pr2, [], 0⟩] scope pos) ρ k Φ :=
  of_pe (fun X fx => pe_lcX fx bk (pi_range2 (by show X.env.scope.names.lookup ("range" : Str) = _; rw [fx.sc]; exact hg) (by rw [fx.mg]; exact hm) (pa_cons (peE fx) (pa_cons (peE fx) pa_nil (hse2 X.env)) (by rw [hse X.env, hse2 X.env])) (hse X.env) (hse2 X.env)) (fun _ _ => pts_nil) hfs) (we_lcR2 i (h.imp fun k1 d hh => hh.imp fun k2 d' ⟨u, z, e1, e2, hz, hs, he⟩ =>
    ⟨fun j k' acc => k' = k2 ∧ acc = (rg (j : Int)).map fun j => g (u + j), u, z, e1, e2, hz, ⟨rfl, rfl⟩, fun D j k' acc hj ⟨ek, ea⟩ => wt_yes (by
      rw [if_pos rfl, ek]
      refine WE.imp (hs D (u + j) (by omega) (by omega)) fun k3 y ⟨e3, ey⟩ => ⟨e3, ?_⟩
      rw [ea, ey]
      show _ = (rg ((j : Int) + 1)).map _
      rw [rg_succ, List.map_append]; rfl), fun k' acc ⟨ek, ea⟩ => by
      rw [ek, ea]
      by_cases hp : 0 ≤ z - u
      · rw [Int.toNat_of_nonneg hp]; exact he
      · have e0 : rg (z - u) = [] := by unfold rg; rw [show (z - u).toNat = 0 by omega]; rfl
        rw [show (z - u).toNat = 0 by omega]
        rw [e0] at he; exact he⟩))
/-- xs * n, lists -/
theorem we_repL (h : WPE F C a ρ k fun k1 x => WPE F C b ρ k1 fun k2 y => ∃ ds n, x = .list ds ∧ y = .int n ∧ (-1000 ≤ n ∧ n ≤ 1000) ∧ ds.length ≤ 1000 ∧ Φ k2 (.list (List.replicate n.toNat ds).flatten)) : WPE F C (.BinOp a .Mult b pos) ρ k Φ :=
  we_bin (fun X _ => op_rep) (h.imp fun k1 x h1 => h1.imp fun k2 y ⟨ds, n, e1, e2, hz, hl, p⟩ => by
    subst e1 e2
    intro H vx vy Q j rx ry q
    cases rx with
    | @lst pa xs _ ha hr =>
    cases ry
    refine ⟨pa, n, xs, rfl, rfl, ha.1, by omega, by omega, ?_, fun l hl => q _ _ k2 _ (.new hl) (j.new hl) (rep_newL j hl ?_) p⟩
    · rw [hr.length]
      exact Nat.le_trans (Nat.mul_le_mul hl (show n.toNat ≤ 1000 by omega)) (by decide)
    · have : ∀ m : Nat, RpAll F H (List.replicate m xs).flatten (List.replicate m ds).flatten := by
        intro m
        induction m with
        | zero => exact .nil
        | succ m ih =>
          rw [List.replicate_succ, List.replicate_succ, List.flatten_cons, List.flatten_cons]
          exact hr.append ih
      exact this _)
/-- xs[:e], a list, the bound any int expression -/
theorem we_sliceE (hK : F.K = C.K) (h : WPE F C a ρ k fun k1 x => WPE F C e ρ k1 fun k2 y => ∃ ds, ∃ m : Nat, x = .list ds ∧ y = .int (m : Int) ∧ Φ k2 (.list (ds.take m))) : WPE F C (.Subscript a (.Slice none (some e) none p2) pos) ρ k Φ :=
  of_pe (fun X fx => pe_slice (slLK fx) (peE fx) po_none (po_some (peE fx))) fun σ H Q en j q => by
    show tE C a σ H _
    refine h σ H _ en j fun v d k1 H1 l1 j1 r hx => ?_
    show tE C e σ H1 _
    refine hx σ H1 _ (en.le l1) j1 fun vy y k2 H2 l2 j2 r2 ⟨ds, m, e1, e2, p⟩ => ?_
    subst e1 e2
    have r' := r.le l2.lz
    cases r' with
    | @lst a xs _ ha hr =>
    cases r2
    refine ⟨(m : Int), rfl, a, xs, rfl, hK ▸ sql_of ha, fun l hl => ?_⟩
    have ec : cutV xs none (some (m : Int)) = xs.take m := by
      unfold cutV
      rw [HT.sIx_nat, HT.sIx_none, List.drop_zero, Nat.sub_zero, List.take_eq_take_iff]
      omega
    rw [ec]
    exact q _ _ k2 _ ((l1.trans l2).trans (.new hl)) (j2.new hl) (rep_newL j2 hl (hr.take m)) p
end
end Dl

namespace Sb
/-! ### sets of switches as numbers; boxes as tests on numbers below 2 ^ n; all by the last switch -/
def cnt : Nat → (Nat → Bool) → Nat
  | 0, p => if p 0 = true then 1 else 0
  | n + 1, p => cnt n p + cnt n fun i => p (i + 2 ^ n)
def up (n : Nat) (A : Nat → Bool) : Nat → Bool := fun c => A (c + 2 ^ n)
def oj (n : Nat) (A : Nat → Bool) : Nat → Bool := fun c => A c || A (c + 2 ^ n)
def aj (n : Nat) (A : Nat → Bool) : Nat → Bool := fun c => A c && A (c + 2 ^ n)
def sh : Nat → (Nat → Bool) → Nat → Bool
  | 0, A, _ => A 0
  | n + 1, A, s => if s < 2 ^ n then sh n (oj n A) s else sh n A (s - 2 ^ n) && sh n (up n A) (s - 2 ^ n)
def so : Nat → (Nat → Bool) → Nat → Bool
  | 0, A, _ => A 0
  | n + 1, A, s => if s < 2 ^ n then so n A s || so n (up n A) s else so n (aj n A) (s - 2 ^ n)
theorem cnt_congr : ∀ (n : Nat) {p q : Nat → Bool}, (∀ i < 2 ^ n, p i = q i) → cnt n p = cnt n q
  | 0, p, q, h => by unfold cnt; rw [h 0 (by decide)]
  | n + 1, p, q, h => by
    have e : 2 ^ (n + 1) = 2 ^ n + 2 ^ n := by rw [Nat.pow_succ]; omega
    unfold cnt
    rw [cnt_congr n fun i hi => h i (by omega), cnt_congr n (p := fun i => p (i + 2 ^ n)) fun i hi => h (i + 2 ^ n) (by omega)]
theorem cnt_mono : ∀ (n : Nat) {p q : Nat → Bool}, (∀ i < 2 ^ n, p i = true → q i = true) → cnt n p ≤ cnt n q
  | 0, p, q, h => by
    have := h 0 (by decide)
    unfold cnt
    cases hp : p 0 with
    | false => simp
    | true => rw [this hp]; simp
  | n + 1, p, q, h => by
    have e : 2 ^ (n + 1) = 2 ^ n + 2 ^ n := by rw [Nat.pow_succ]; omega
    unfold cnt
    have h1 := cnt_mono n (p := p) (q := q) fun i hi => h i (by omega)
    have h2 := cnt_mono n (p := fun i => p (i + 2 ^ n)) (q := fun i => q (i + 2 ^ n)) fun i hi => h (i + 2 ^ n) (by omega)
    omega
theorem cnt_same : ∀ (n : Nat) {p q : Nat → Bool}, (∀ i < 2 ^ n, p i = true → q i = true) → cnt n p = cnt n q → ∀ i < 2 ^ n, p i = q i
  | 0, p, q, h, e, i, hi => by
    have hi : i = 0 := by simpa using hi
    subst hi
    have h0 := h 0 (by decide)
    unfold cnt at e
    cases hp : p 0 with
    | true => exact (h0 hp).symm
    | false =>
      cases hq : q 0 with
      | false => rfl
      | true => rw [hp, hq] at e; simp at e
  | n + 1, p, q, h, e, i, hi => by
    have e2 : 2 ^ (n + 1) = 2 ^ n + 2 ^ n := by rw [Nat.pow_succ]; omega
    unfold cnt at e
    have m1 := cnt_mono n (p := p) (q := q) fun i hi => h i (by omega)
    have m2 := cnt_mono n (p := fun i => p (i + 2 ^ n)) (q := fun i => q (i + 2 ^ n)) fun i hi => h (i + 2 ^ n) (by omega)
    by_cases hlt : i < 2 ^ n
    · exact cnt_same n (fun i hi => h i (by omega)) (by omega) i hlt
    · have := cnt_same n (p := fun i => p (i + 2 ^ n)) (q := fun i => q (i + 2 ^ n)) (fun i hi => h (i + 2 ^ n) (by omega)) (by omega) (i - 2 ^ n) (by omega)
      rw [show i - 2 ^ n + 2 ^ n = i by omega] at this
      exact this
theorem cnt_or_and : ∀ (n : Nat) (p q : Nat → Bool), cnt n (fun i => p i || q i) + cnt n (fun i => p i && q i) = cnt n p + cnt n q
  | 0, p, q => by
    show (if (p 0 || q 0) = true then 1 else 0) + (if (p 0 && q 0) = true then 1 else 0) = (if p 0 = true then 1 else 0) + (if q 0 = true then 1 else 0)
    cases p 0 <;> cases q 0 <;> rfl
  | n + 1, p, q => by
    have h1 := cnt_or_and n p q
    have h2 := cnt_or_and n (fun i => p (i + 2 ^ n)) (fun i => q (i + 2 ^ n))
    show (cnt n (fun i => p i || q i) + cnt n (fun i => p (i + 2 ^ n) || q (i + 2 ^ n))) + (cnt n (fun i => p i && q i) + cnt n (fun i => p (i + 2 ^ n) && q (i + 2 ^ n))) = (cnt n p + cnt n fun i => p (i + 2 ^ n)) + (cnt n q + cnt n fun i => q (i + 2 ^ n))
    omega
theorem cnt_not : ∀ (n : Nat) (p : Nat → Bool), cnt n (fun i => !p i) + cnt n p = 2 ^ n
  | 0, p => by
    show (if (!p 0) = true then 1 else 0) + (if p 0 = true then 1 else 0) = 1
    cases p 0 <;> rfl
  | n + 1, p => by
    have h1 := cnt_not n p
    have h2 := cnt_not n fun i => p (i + 2 ^ n)
    show (cnt n (fun i => !p i) + cnt n (fun i => !p (i + 2 ^ n))) + (cnt n p + cnt n fun i => p (i + 2 ^ n)) = 2 ^ (n + 1)
    rw [Nat.pow_succ]
    omega
/-- counted from the other end -/
theorem cnt_rev : ∀ (n : Nat) (p : Nat → Bool), cnt n (fun i => p (2 ^ n - 1 - i)) = cnt n p
  | 0, p => rfl
  | n + 1, p => by
    have e2 : 2 ^ (n + 1) = 2 ^ n + 2 ^ n := by rw [Nat.pow_succ]; omega
    have h1 := cnt_rev n p
    have h2 := cnt_rev n fun i => p (i + 2 ^ n)
    unfold cnt
    rw [← h1, ← h2, Nat.add_comm]
    congr 1
    · refine cnt_congr n fun i hi => ?_
      show p _ = p _
      congr 1; omega
    · refine cnt_congr n fun i hi => ?_
      show p _ = p _
      congr 1; omega
theorem sh_congr : ∀ (n : Nat) {A B : Nat → Bool} (s : Nat), (∀ i < 2 ^ n, A i = B i) → sh n A s = sh n B s
  | 0, A, B, s, h => h 0 (by decide)
  | n + 1, A, B, s, h => by
    have e2 : 2 ^ (n + 1) = 2 ^ n + 2 ^ n := by rw [Nat.pow_succ]; omega
    unfold sh
    rw [sh_congr n (A := oj n A) (B := oj n B) s fun i hi => by unfold oj; rw [h i (by omega), h (i + 2 ^ n) (by omega)],
      sh_congr n (A := A) (B := B) (s - 2 ^ n) fun i hi => h i (by omega), sh_congr n (A := up n A) (B := up n B) (s - 2 ^ n) fun i hi => h (i + 2 ^ n) (by omega)]
theorem so_congr : ∀ (n : Nat) {A B : Nat → Bool} (s : Nat), (∀ i < 2 ^ n, A i = B i) → so n A s = so n B s
  | 0, A, B, s, h => h 0 (by decide)
  | n + 1, A, B, s, h => by
    have e2 : 2 ^ (n + 1) = 2 ^ n + 2 ^ n := by rw [Nat.pow_succ]; omega
    unfold so
    rw [so_congr n (A := aj n A) (B := aj n B) (s - 2 ^ n) fun i hi => by unfold aj; rw [h i (by omega), h (i + 2 ^ n) (by omega)],
      so_congr n (A := A) (B := B) s fun i hi => h i (by omega), so_congr n (A := up n A) (B := up n B) s fun i hi => h (i + 2 ^ n) (by omega)]
theorem sh_mono : ∀ (n : Nat) {A B : Nat → Bool} (s : Nat), (∀ i < 2 ^ n, A i = true → B i = true) → sh n A s = true → sh n B s = true
  | 0, A, B, s, h, hs => h 0 (by decide) hs
  | n + 1, A, B, s, h, hs => by
    have e2 : 2 ^ (n + 1) = 2 ^ n + 2 ^ n := by rw [Nat.pow_succ]; omega
    unfold sh at hs ⊢
    split at hs
    · rename_i hlt
      rw [if_pos hlt]
      refine sh_mono n s (fun i hi q => ?_) hs
      unfold oj at q ⊢
      rcases Bool.or_eq_true_iff.mp q with q | q
      · rw [h i (by omega) q]; rfl
      · rw [h (i + 2 ^ n) (by omega) q, Bool.or_true]
    · rename_i hlt
      rw [if_neg hlt]
      obtain ⟨h1, h2⟩ := Bool.and_eq_true_iff.mp hs
      rw [sh_mono n _ (fun i hi q => h i (by omega) q) h1, sh_mono n (A := up n A) (B := up n B) _ (fun i hi q => h (i + 2 ^ n) (by omega) q) h2]; rfl
theorem so_mono : ∀ (n : Nat) {A B : Nat → Bool} (s : Nat), (∀ i < 2 ^ n, A i = true → B i = true) → so n A s = true → so n B s = true
  | 0, A, B, s, h, hs => h 0 (by decide) hs
  | n + 1, A, B, s, h, hs => by
    have e2 : 2 ^ (n + 1) = 2 ^ n + 2 ^ n := by rw [Nat.pow_succ]; omega
    unfold so at hs ⊢
    split at hs
    · rename_i hlt
      rw [if_pos hlt]
      rcases Bool.or_eq_true_iff.mp hs with q | q
      · rw [so_mono n _ (fun i hi q => h i (by omega) q) q]; rfl
      · rw [so_mono n (A := up n A) (B := up n B) _ (fun i hi q => h (i + 2 ^ n) (by omega) q) q, Bool.or_true]
    · rename_i hlt
      rw [if_neg hlt]
      refine so_mono n _ (fun i hi q => ?_) hs
      unfold aj at q ⊢
      obtain ⟨h1, h2⟩ := Bool.and_eq_true_iff.mp q
      rw [h i (by omega) h1, h (i + 2 ^ n) (by omega) h2]; rfl
/-- every solid set is shown -/
theorem so_sh : ∀ (n : Nat) (A : Nat → Bool) (s : Nat), so n A s = true → sh n A s = true
  | 0, A, s, h => h
  | n + 1, A, s, h => by
    unfold so at h
    unfold sh
    split at h
    · rename_i hlt
      rw [if_pos hlt]
      rcases Bool.or_eq_true_iff.mp h with q | q
      · exact sh_mono n s (fun i hi q => by unfold oj; rw [q]; rfl) (so_sh n A s q)
      · exact sh_mono n s (fun i hi q => by unfold up at q; unfold oj; rw [q, Bool.or_true]) (so_sh n (up n A) s q)
    · rename_i hlt
      rw [if_neg hlt]
      have q := so_sh n _ _ h
      rw [sh_mono n _ (fun i hi q => by unfold aj at q; exact (Bool.and_eq_true_iff.mp q).1) q, sh_mono n (B := up n A) _ (fun i hi q => by unfold aj at q; exact (Bool.and_eq_true_iff.mp q).2) q]; rfl
theorem cnt_so_step (n : Nat) (A : Nat → Bool) : cnt (n + 1) (so (n + 1) A) = cnt n (fun s => so n A s || so n (up n A) s) + cnt n (so n (aj n A)) := by
  show cnt n (so (n + 1) A) + cnt n (fun i => so (n + 1) A (i + 2 ^ n)) = _
  congr 1
  · refine cnt_congr n fun s hs => ?_
    show (if s < 2 ^ n then _ else _) = _
    rw [if_pos hs]
  · refine cnt_congr n fun s hs => ?_
    show (if s + 2 ^ n < 2 ^ n then _ else _) = _
    rw [if_neg (by omega), Nat.add_sub_cancel]
theorem cnt_sh_step (n : Nat) (A : Nat → Bool) : cnt (n + 1) (sh (n + 1) A) = cnt n (sh n (oj n A)) + cnt n (fun s => sh n A s && sh n (up n A) s) := by
  show cnt n (sh (n + 1) A) + cnt n (fun i => sh (n + 1) A (i + 2 ^ n)) = _
  congr 1
  · refine cnt_congr n fun s hs => ?_
    show (if s < 2 ^ n then _ else _) = _
    rw [if_pos hs]
  · refine cnt_congr n fun s hs => ?_
    show (if s + 2 ^ n < 2 ^ n then _ else _) = _
    rw [if_neg (by omega), Nat.add_sub_cancel]
/-- at most as many solid sets as cards -/
theorem so_le : ∀ (n : Nat) (A : Nat → Bool), cnt n (so n A) ≤ cnt n A
  | 0, A => by show (if A 0 = true then 1 else 0) ≤ (if A 0 = true then 1 else 0); exact Nat.le_refl _
  | n + 1, A => by
    rw [cnt_so_step]
    have h1 := so_le n A
    have h2 := so_le n (up n A)
    have h3 := cnt_or_and n (so n A) (so n (up n A))
    have h4 := cnt_mono n (p := so n (aj n A)) (q := fun s => so n A s && so n (up n A) s) fun s hs q => by
      rw [so_mono n _ (fun i hi q => by unfold aj at q; exact (Bool.and_eq_true_iff.mp q).1) q, so_mono n (B := up n A) _ (fun i hi q => by unfold aj at q; exact (Bool.and_eq_true_iff.mp q).2) q]; rfl
    have e : cnt (n + 1) A = cnt n A + cnt n (up n A) := rfl
    omega
/-- at most as many cards as shown sets -/
theorem sh_ge : ∀ (n : Nat) (A : Nat → Bool), cnt n A ≤ cnt n (sh n A)
  | 0, A => by show (if A 0 = true then 1 else 0) ≤ (if A 0 = true then 1 else 0); exact Nat.le_refl _
  | n + 1, A => by
    rw [cnt_sh_step]
    have h1 := sh_ge n A
    have h2 := sh_ge n (up n A)
    have h3 := cnt_or_and n (sh n A) (sh n (up n A))
    have h4 := cnt_mono n (p := fun s => sh n A s || sh n (up n A) s) (q := sh n (oj n A)) fun s hs q => by
      rcases Bool.or_eq_true_iff.mp q with q | q
      · exact sh_mono n s (fun i hi q => by unfold oj; rw [q]; rfl) q
      · exact sh_mono n s (fun i hi q => by unfold up at q; unfold oj; rw [q, Bool.or_true]) q
    have e : cnt (n + 1) A = cnt n A + cnt n (up n A) := rfl
    omega
/-- as many cards as shown sets: each shown set is solid -/
theorem sh_tight : ∀ (n : Nat) (A : Nat → Bool), cnt n A = cnt n (sh n A) → ∀ s < 2 ^ n, sh n A s = so n A s
  | 0, A, _, s, _ => rfl
  | n + 1, A, e, s, hs => by
    have e2 : 2 ^ (n + 1) = 2 ^ n + 2 ^ n := by rw [Nat.pow_succ]; omega
    rw [cnt_sh_step] at e
    have eA : cnt (n + 1) A = cnt n A + cnt n (up n A) := rfl
    have g1 := sh_ge n A
    have g2 := sh_ge n (up n A)
    have g3 := sh_ge n (oj n A)
    have g4 := sh_ge n (aj n A)
    have c1 := cnt_or_and n (sh n A) (sh n (up n A))
    have c2 : cnt n (oj n A) + cnt n (aj n A) = cnt n A + cnt n (up n A) := cnt_or_and n A (up n A)
    have i1 : ∀ s < 2 ^ n, (sh n A s || sh n (up n A) s) = true → sh n (oj n A) s = true := fun s hs q => by
      rcases Bool.or_eq_true_iff.mp q with q | q
      · exact sh_mono n s (fun i hi q => by unfold oj; rw [q]; rfl) q
      · exact sh_mono n s (fun i hi q => by unfold up at q; unfold oj; rw [q, Bool.or_true]) q
    have i2 : ∀ s < 2 ^ n, sh n (aj n A) s = true → (sh n A s && sh n (up n A) s) = true := fun s hs q => by
      rw [sh_mono n _ (fun i hi q => by unfold aj at q; exact (Bool.and_eq_true_iff.mp q).1) q, sh_mono n (B := up n A) _ (fun i hi q => by unfold aj at q; exact (Bool.and_eq_true_iff.mp q).2) q]; rfl
    have m1 := cnt_mono n (p := fun s => sh n A s || sh n (up n A) s) (q := sh n (oj n A)) i1
    have m2 := cnt_mono n (p := sh n (aj n A)) (q := fun s => sh n A s && sh n (up n A) s) i2
    have s0 := sh_tight n A (by omega)
    have s1 := sh_tight n (up n A) (by omega)
    have s2 := sh_tight n (aj n A) (by omega)
    have f1 := cnt_same n i1 (by omega)
    have f2 := cnt_same n i2 (by omega)
    unfold sh so
    by_cases hlt : s < 2 ^ n
    · rw [if_pos hlt, if_pos hlt, ← f1 s hlt, s0 s hlt, s1 s hlt]
    · rw [if_neg hlt, if_neg hlt]
      have := f2 (s - 2 ^ n) (by omega)
      rw [← this, s2 _ (by omega)]
/-- shown exactly if the others are not solid in the opposite box -/
theorem sh_so_opp : ∀ (n : Nat) (A : Nat → Bool), ∀ s < 2 ^ n, sh n A s = !so n (fun c => !A c) (2 ^ n - 1 - s)
  | 0, A, s, _ => by show A 0 = !!A 0; rw [Bool.not_not]
  | n + 1, A, s, hs => by
    have e2 : 2 ^ (n + 1) = 2 ^ n + 2 ^ n := by rw [Nat.pow_succ]; omega
    unfold sh so
    by_cases hlt : s < 2 ^ n
    · rw [if_pos hlt, if_neg (by omega), sh_so_opp n _ s hlt]
      rw [show 2 ^ (n + 1) - 1 - s - 2 ^ n = 2 ^ n - 1 - s by omega]
      congr 1
      refine so_congr n _ fun i hi => ?_
      show (!(A i || A (i + 2 ^ n))) = ((!A i) && (!A (i + 2 ^ n)))
      rw [Bool.not_or]
    · rw [if_neg hlt, if_pos (by omega), sh_so_opp n _ (s - 2 ^ n) (by omega), sh_so_opp n (up n A) (s - 2 ^ n) (by omega)]
      rw [show 2 ^ n - 1 - (s - 2 ^ n) = 2 ^ (n + 1) - 1 - s by omega, ← Bool.not_or]
      rfl
def smooth (n : Nat) (A : Nat → Bool) : Prop := ∀ s < 2 ^ n, sh n A s = so n A s
theorem smooth_opp {n : Nat} {A : Nat → Bool} (h : smooth n A) : smooth n fun c => !A c := by
  intro s hs
  have hp := Nat.two_pow_pos n
  have h1 := sh_so_opp n (fun c => !A c) s hs
  have h2 := sh_so_opp n A (2 ^ n - 1 - s) (by omega)
  have e : (fun c => !(!A c)) = A := by funext c; rw [Bool.not_not]
  rw [h1]
  show (!so n (fun c => !(!A c)) (2 ^ n - 1 - s)) = _
  rw [e, ← h (2 ^ n - 1 - s) (by omega), h2, Bool.not_not, show 2 ^ n - 1 - (2 ^ n - 1 - s) = s by omega]
theorem cnt_sh_opp (n : Nat) (A : Nat → Bool) : cnt n (sh n A) + cnt n (so n fun c => !A c) = 2 ^ n := by
  rw [cnt_congr n (sh_so_opp n A)]
  have := cnt_not n fun i => so n (fun c => !A c) (2 ^ n - 1 - i)
  rw [cnt_rev n (so n fun c => !A c)] at this
  exact this
theorem smooth_sh {n : Nat} {A : Nat → Bool} : smooth n A ↔ cnt n A = cnt n (sh n A) := by
  constructor
  · intro h
    have h1 := so_le n A
    have h2 := sh_ge n A
    have h3 := cnt_congr n h
    omega
  · exact sh_tight n A
theorem smooth_so {n : Nat} {A : Nat → Bool} : smooth n A ↔ cnt n A = cnt n (so n A) := by
  constructor
  · intro h
    have h1 := so_le n A
    have h2 := sh_ge n A
    have h3 := cnt_congr n h
    omega
  · intro h
    have e : (fun c => !(!A c)) = A := by funext c; rw [Bool.not_not]
    have h1 := cnt_sh_opp n fun c => !A c
    have h2 := cnt_not n A
    rw [show (fun c => !(fun c => !A c) c) = A from e] at h1
    have := smooth_opp (sh_tight n (fun c => !A c) (by omega))
    have r : (fun c => !(fun c => !A c) c) = A := e
    rwa [r] at this
theorem smooth_opp_iff {n : Nat} {A : Nat → Bool} : (smooth n fun c => !A c) ↔ smooth n A := by
  constructor
  · intro h
    have := smooth_opp h
    have r : (fun c => !(fun c => !A c) c) = A := by funext c; rw [Bool.not_not]
    rwa [r] at this
  · exact smooth_opp
end Sb

namespace Sb
theorem tb_add {n c : Nat} (i : Nat) (hc : c < 2 ^ n) : (c + 2 ^ n).testBit i = (decide (n = i) || c.testBit i) := by
  have h := Nat.two_pow_add_eq_or_of_lt hc 1
  rw [Nat.mul_one] at h
  rw [Nat.add_comm, h, Nat.testBit_or, Nat.testBit_two_pow]
theorem tb_lt {n c i : Nat} (hc : c < 2 ^ n) (hi : n ≤ i) : c.testBit i = false := Nat.testBit_lt_two_pow (Nat.lt_of_lt_of_le hc (Nat.pow_le_pow_right (by decide) hi))
theorem and_ul {n c s : Nat} (hc : c < 2 ^ n) (hs : s < 2 ^ n) : (c + 2 ^ n) &&& s = c &&& s := by
  refine Nat.eq_of_testBit_eq fun i => ?_
  rw [Nat.testBit_and, Nat.testBit_and, tb_add i hc]
  by_cases h : n = i
  · subst h; rw [tb_lt hs (Nat.le_refl _)]; simp
  · simp [h]
theorem and_lu {n c s : Nat} (hc : c < 2 ^ n) (hs : s < 2 ^ n) : c &&& (s + 2 ^ n) = c &&& s := by
  rw [Nat.and_comm, and_ul hs hc, Nat.and_comm]
theorem and_lt {n c s : Nat} (hs : s < 2 ^ n) : c &&& s < 2 ^ n := Nat.lt_of_le_of_lt Nat.and_le_right hs
theorem and_uu {n c s : Nat} (hc : c < 2 ^ n) (hs : s < 2 ^ n) : (c + 2 ^ n) &&& (s + 2 ^ n) = (c &&& s) + 2 ^ n := by
  refine Nat.eq_of_testBit_eq fun i => ?_
  rw [Nat.testBit_and, tb_add i hc, tb_add i hs, tb_add i (and_lt hs), Nat.testBit_and]
  by_cases h : n = i <;> simp [h]
theorem split_lt {n c : Nat} (h : c < 2 ^ (n + 1)) : c < 2 ^ n ∨ ∃ c', c' < 2 ^ n ∧ c = c' + 2 ^ n := by
  have e2 : 2 ^ (n + 1) = 2 ^ n + 2 ^ n := by rw [Nat.pow_succ]; omega
  by_cases hlt : c < 2 ^ n
  · exact .inl hlt
  · exact .inr ⟨c - 2 ^ n, by omega, by omega⟩
def Shown (n : Nat) (A : Nat → Bool) (s : Nat) : Prop := ∀ p, p &&& s = p → ∃ c, c < 2 ^ n ∧ A c = true ∧ c &&& s = p
def Solid (n : Nat) (A : Nat → Bool) (s : Nat) : Prop := ∃ b, b < 2 ^ n ∧ b &&& s = 0 ∧ ∀ p, p &&& s = p → A (b + p) = true
theorem part_le {p s : Nat} (h : p &&& s = p) : p ≤ s := by rw [← h]; exact Nat.and_le_right
theorem shown_sh : ∀ (n : Nat) (A : Nat → Bool) (s : Nat), s < 2 ^ n → (sh n A s = true ↔ Shown n A s)
  | 0, A, s, hs => by
    have hs : s = 0 := by simpa using hs
    subst hs
    constructor
    · intro h p hp
      exact ⟨0, by decide, h, by rw [Nat.and_zero] at hp ⊢; exact hp⟩
    · intro h
      obtain ⟨c, hc, hA, _⟩ := h 0 rfl
      have : c = 0 := by simpa using hc
      subst this
      exact hA
  | n + 1, A, s, hs => by
    have e2 : 2 ^ (n + 1) = 2 ^ n + 2 ^ n := by rw [Nat.pow_succ]; omega
    unfold sh
    rcases split_lt hs with hlt | ⟨s', hs', rfl⟩
    · rw [if_pos hlt, shown_sh n _ s hlt]
      constructor
      · intro h p hp
        obtain ⟨c, hc, hA, e⟩ := h p hp
        rcases Bool.or_eq_true_iff.mp hA with q | q
        · exact ⟨c, by omega, q, e⟩
        · exact ⟨c + 2 ^ n, by omega, q, by rw [and_ul hc hlt]; exact e⟩
      · intro h p hp
        obtain ⟨c, hc, hA, e⟩ := h p hp
        rcases split_lt hc with hc' | ⟨c', hc', rfl⟩
        · exact ⟨c, hc', by unfold oj; rw [hA]; rfl, e⟩
        · exact ⟨c', hc', by unfold oj; rw [hA, Bool.or_true], by rw [and_ul hc' hlt] at e; exact e⟩
    · rw [if_neg (by omega), Nat.add_sub_cancel, Bool.and_eq_true, shown_sh n _ s' hs', shown_sh n (up n A) s' hs']
      constructor
      · rintro ⟨h1, h2⟩ p hp
        have hpl := part_le hp
        rcases split_lt (n := n) (c := p) (by omega) with hp' | ⟨p', hp', rfl⟩
        · rw [and_lu hp' hs'] at hp
          obtain ⟨c, hc, hA, e⟩ := h1 p hp
          exact ⟨c, by omega, hA, by rw [and_lu hc hs']; exact e⟩
        · rw [and_uu hp' hs'] at hp
          obtain ⟨c, hc, hA, e⟩ := h2 p' (by omega)
          exact ⟨c + 2 ^ n, by omega, hA, by rw [and_uu hc hs', e]⟩
      · intro h
        constructor
        · intro p hp
          have hpl := part_le hp
          obtain ⟨c, hc, hA, e⟩ := h p (by rw [and_lu (by omega) hs']; exact hp)
          rcases split_lt hc with hc' | ⟨c', hc', rfl⟩
          · exact ⟨c, hc', hA, by rw [and_lu hc' hs'] at e; exact e⟩
          · rw [and_uu hc' hs'] at e; omega
        · intro p hp
          have hpl := part_le hp
          obtain ⟨c, hc, hA, e⟩ := h (p + 2 ^ n) (by rw [and_uu (by omega) hs', hp])
          rcases split_lt hc with hc' | ⟨c', hc', rfl⟩
          · rw [and_lu hc' hs'] at e
            have := and_lt (c := c) hs'
            omega
          · exact ⟨c', hc', hA, by rw [and_uu hc' hs'] at e; omega⟩
theorem solid_so : ∀ (n : Nat) (A : Nat → Bool) (s : Nat), s < 2 ^ n → (so n A s = true ↔ Solid n A s)
  | 0, A, s, hs => by
    have hs : s = 0 := by simpa using hs
    subst hs
    constructor
    · intro h
      exact ⟨0, by decide, rfl, fun p hp => by rw [Nat.and_zero] at hp; subst hp; exact h⟩
    · rintro ⟨b, hb, _, h⟩
      have : b = 0 := by simpa using hb
      subst this
      exact h 0 rfl
  | n + 1, A, s, hs => by
    have e2 : 2 ^ (n + 1) = 2 ^ n + 2 ^ n := by rw [Nat.pow_succ]; omega
    unfold so
    rcases split_lt hs with hlt | ⟨s', hs', rfl⟩
    · rw [if_pos hlt, Bool.or_eq_true, solid_so n _ s hlt, solid_so n (up n A) s hlt]
      constructor
      · rintro (⟨b, hb, h0, h⟩ | ⟨b, hb, h0, h⟩)
        · exact ⟨b, by omega, h0, h⟩
        · refine ⟨b + 2 ^ n, by omega, by rw [and_ul hb hlt]; exact h0, fun p hp => ?_⟩
          have := h p hp
          unfold up at this
          rw [show b + 2 ^ n + p = b + p + 2 ^ n by omega]; exact this
      · rintro ⟨b, hb, h0, h⟩
        rcases split_lt hb with hb' | ⟨b', hb', rfl⟩
        · exact .inl ⟨b, hb', h0, h⟩
        · refine .inr ⟨b', hb', by rw [and_ul hb' hlt] at h0; exact h0, fun p hp => ?_⟩
          have := h p hp
          unfold up
          rw [show b' + p + 2 ^ n = b' + 2 ^ n + p by omega]; exact this
    · rw [if_neg (by omega), Nat.add_sub_cancel, solid_so n _ s' hs']
      constructor
      · rintro ⟨b, hb, h0, h⟩
        refine ⟨b, by omega, by rw [and_lu hb hs']; exact h0, fun p hp => ?_⟩
        have hpl := part_le hp
        rcases split_lt (n := n) (c := p) (by omega) with hp' | ⟨p', hp', rfl⟩
        · rw [and_lu hp' hs'] at hp
          exact (Bool.and_eq_true_iff.mp (h p hp)).1
        · rw [and_uu hp' hs'] at hp
          have := (Bool.and_eq_true_iff.mp (h p' (by omega))).2
          rw [show b + (p' + 2 ^ n) = b + p' + 2 ^ n by omega]; exact this
      · rintro ⟨b, hb, h0, h⟩
        rcases split_lt hb with hb' | ⟨b', hb', rfl⟩
        · refine ⟨b, hb', by rw [and_lu hb' hs'] at h0; exact h0, fun p hp => ?_⟩
          have hpl := part_le hp
          have h1 := h p (by rw [and_lu (by omega) hs']; exact hp)
          have h2 := h (p + 2 ^ n) (by rw [and_uu (by omega) hs', hp])
          unfold aj
          rw [h1, show b + p + 2 ^ n = b + (p + 2 ^ n) by omega, h2]; rfl
        · rw [and_uu hb' hs'] at h0
          have := Nat.two_pow_pos n
          omega
/-- counted on a list -/
theorem range_split (n : Nat) : List.range (2 ^ (n + 1)) = List.range (2 ^ n) ++ (List.range (2 ^ n)).map fun i => i + 2 ^ n := by
  have e2 : 2 ^ (n + 1) = 2 ^ n + 2 ^ n := by rw [Nat.pow_succ]; omega
  rw [e2, List.range_add]
  congr 1
  exact List.map_congr_left fun i _ => Nat.add_comm _ _
theorem cnt_list : ∀ (n : Nat) (p : Nat → Bool), ((List.range (2 ^ n)).filter p).length = cnt n p
  | 0, p => by
    show ((List.range 1).filter p).length = if p 0 = true then 1 else 0
    rw [show List.range 1 = [0] from rfl, List.filter_cons]
    split <;> simp
  | n + 1, p => by
    rw [range_split, List.filter_append, List.length_append, cnt_list n p, List.filter_map, List.length_map]
    show _ = cnt n p + _
    rw [← cnt_list n fun i => p (i + 2 ^ n)]
    rfl
end Sb

namespace Dl
open PySem PySem.Spec PyProof.Rows L2
/-! ### the laws' draws: a list [cells, count, rests] -/
def DqM (st a : Addr) (b : Addr) : Prop := b = st ∨ b = a
def DqG (st a : Addr) (k : Nat) (H : Hp) : Prop := ∃ (cells : List Int) (n : Int), H st = some (.lst [.ref a, .int n]) ∧ H a = some (.lst (cells.map V.int)) ∧ cells.length ≤ 63 ∧ 0 ≤ n ∧ n + k ≤ 1000000
theorem DqG.weak {st a : Addr} {k k' : Nat} {H : Hp} (h : DqG st a k H) (hk : k' ≤ k) : DqG st a k' H := by
  obtain ⟨c, n, h1, h2, h3, h4, h5⟩ := h
  exact ⟨c, n, h1, h2, h3, h4, by omega⟩
theorem DqG.at {st a : Addr} {k : Nat} {H H' : Hp} (h : DqG st a k H) (e : ∀ b, DqM st a b → H' b = H b) : DqG st a k H' := by
  obtain ⟨c, n, h1, h2, h3⟩ := h
  exact ⟨c, n, (e st (.inl rfl)).trans h1, (e a (.inr rfl)).trans h2, h3⟩
theorem DqG.live {st a : Addr} {k : Nat} {H : Hp} (h : DqG st a k H) (b : Addr) (hb : DqM st a b) : H b ≠ none := by
  obtain ⟨c, n, h1, h2, h3⟩ := h
  rcases hb with rfl | rfl
  · rw [h1]; exact fun z => nomatch z
  · rw [h2]; exact fun z => nomatch z
theorem DqG.lv {st a : Addr} {k : Nat} {H : Hp} (h : DqG st a k H) (b : Addr) (hb : DqM st a b) : Lv H b := by
  obtain ⟨c, n, h1, h2, h3⟩ := h
  rcases hb with rfl | rfl
  · exact lv_lst h1
  · exact lv_lst h2
def dqFm (K : PySem.W.Frag) (S : Addr → Prop) (H : Hp) (st a : Addr) : Fm where
  K := K
  S := fun b => S b ∨ DqM st a b
  M := DqM st a
  H0 := H
  G := DqG st a
  ms := fun b h => .inr h
  gm := fun k H H' g e _ => g.at e
  gl := fun k H g b hb => g.live b hb
/-- the frame knows the draws -/
structure IsDq (F : Fm) (st a : Addr) : Prop where
  M : F.M = DqM st a
  G : F.G = DqG st a
theorem IsDq.ext {F : Fm} {st a : Addr} (h : IsDq F st a) (D : Addr) : IsDq (F.ext D) st a := ⟨h.M, h.G⟩
theorem isDq_fm {K : PySem.W.Frag} {S : Addr → Prop} {H : Hp} {st a : Addr} : IsDq (dqFm K S H st a) st a := ⟨rfl, rfl⟩
/-- a def that draws: at most `cost` draws; Pre of its data, R what it may hand back -/
def spDrawQ (K : PySem.W.Frag) (cost : Nat) (Pre : List PyData → Prop) (R : Rel) : Sp := fun vs H Q _ => ∃ (S : Addr → Prop) (st a : Addr) (vs' : List V) (ds : List PyData) (k : Nat), vs = .ref st :: vs' ∧ DqG st a (k + cost) H ∧ (∀ b, S b → Lv H b) ∧ (∀ b, DqM st a b → S b) ∧ RepAll K S H vs' ds ∧ Pre ds ∧
  ∀ v d H', (∀ b o, ¬ DqM st a b → H b = some o → H' b = some o) → DqG st a k H' → Rep K S H' v d → R ds d → Q v H'
structure DFnQ (P : Program) (w : World) (K : PySem.W.Frag) (mg : Str → Option Value) (base : Heap) (lvl : Nat) (x : Str) (cost : Nat) (Pre : List PyData → Prop) (R : Rel) : Prop where
  ex : ∃ (fa : Addr) (fd : FuncData) (ps : List Str), FnG P w K mg base lvl fa fd ps (spDrawQ K cost Pre R) ∧ mg x = some (.ref fa) ∧ PySem.W.keepIn K (.ref fa) = true ∧ L2.Binds K fd ps []
section
variable {P : Program} {w : World} {K : PySem.W.Frag} {mg : Str → Option Value} {base : Heap}
def drawFmQ (K : PySem.W.Frag) (S : Addr → Prop) (H : Hp) (st a : Addr) (hS : ∀ b, DqM st a b → S b) : Fm where
  K := K
  S := S
  M := DqM st a
  H0 := H
  G := DqG st a
  ms := hS
  gm := fun k H H' g e _ => g.at e
  gl := fun k H g b hb => g.live b hb
theorem draw_okQ {x qual : Str} {st : Stmt} {f : Addr} {fd : FuncData} {N ps : List Str} {k cost : Nat} {Pre : List PyData → Prop} {R : Rel} (Fn : Fun K x qual st f fd) (Sc : FnScope N ps (defScope st)) (len : ∀ ds, Pre ds → ds.length + 1 = ps.length)
    (body : ∀ (F : Fm) (s a : Addr) (ds : List PyData) (kk : Nat), IsDq F s a → F.K = K → Pre ds → WPB F (bodyCs P w K mg base N (defScope st) k) (defBody st) (.raw (.ref s) :: (ds.map SV.d ++ List.replicate (N.length - (ds.length + 1)) SV.un)) (kk + cost) { nx := fun k' _ => kk ≤ k' ∧ R ds .none, rt := fun k' d => kk ≤ k' ∧ R ds d, bk := fun _ _ => False, ct := fun _ _ => False }) :
    FnG P w K mg base (k + 1) f fd ps (spDrawQ K cost Pre R) := by
  refine FnG.of_body Fn Sc (fun vs H Q E h => ?_) (fun cdv A outer s H vs Q hgd hr h => ?_)
  · obtain ⟨S, st, a, vs', ds, k, rfl, _, _, _, rr, hp, _⟩ := h
    rw [List.length_cons, rr.length, len ds hp]
  · obtain ⟨S, st, a, vs', ds, kk, rfl, g, al, hS, rr, hp, q⟩ := h
    refine ⟨_, pbB (fits_body hgd hr), ?_⟩
    refine body (drawFmQ K S H st a hS) st a ds kk ⟨rfl, rfl⟩ rfl hp (L2.start N (.ref st :: vs')) H _ (env_raw (F := drawFmQ K S H st a hS) rr) ⟨g, fun b o _ e => e, al⟩ ?_ ?_ ?_ ?_
    · exact fun ρ' σ' k' H' _ _ j' e => q _ .none H' (fun b o n h => j'.le b o (fun z => z.elim n id) h) (DqG.weak j'.g e.1) .non e.2
    · exact fun v d' k' H' j' r' e => q v d' H' (fun b o n h => j'.le b o (fun z => z.elim n id) h) (DqG.weak j'.g e.1) r' e.2
    · exact fun _ _ _ _ _ _ _ z => z.elim
    · exact fun _ _ _ _ _ _ _ z => z.elim
end
section
variable {F : Fm} {C : Cs} {ρ : Rho} {k : Nat} {Φ : Nat → PyData → Prop} {es : List Expr} {pos p py : Pos} {x y : Str}
/-- a call of a def that draws, the state by its name -/
theorem we_callQ {s a : Addr} (dk : IsDq F s a) {j cost : Nat} {Pre : List PyData → Prop} {R : Rel} (hF : DFnQ C.P C.w C.K C.mg C.base j x cost Pre R) (hl : j ≤ C.lvl) (hK : F.K = C.K) (i : Nat) (hg : C.sc.names.lookup x = some .globalImplicit) (hN : C.N[i]? = some y) (hv : Vis C.sc y) (hr : ρ[i]? = some (.raw (.ref s)))
    (h : WPA F C es ρ k fun k1 ds => Pre ds ∧ ∃ k2, k1 = k2 + cost ∧ ∀ d, R ds d → Φ k2 d) (hdb : (x == ("__debug__" : Str)) = false := by decide) (hd : (y == ("__debug__" : Str)) = false := by decide) (hcd : (y == ("__classdict__" : Str)) = false := by decide)
    (hss : ∀ env : Env, starEach (.Name y py :: es) env = (false, eval (.Name y py) env) :: starEach es env := by intro _; rfl) (hpl : ∀ env : Env, ((backTo pos (starEach es env)).any fun x => x.fst) = false := by intro _; rfl) :
    WPE F C (.Call (.Name x p) (.Name y py :: es) [] pos) ρ k Φ := by
  obtain ⟨fa, fd, ps, G, hm, kp, hb⟩ := hF.ex
  refine of_pe (fun X fx => pe_callF fx G hl hg hm kp hb (pa_cons (pe_var (i := i) (by rw [fx.N]; exact hN) (by rw [fx.sc]; exact hv) hd hcd) (paA fx) (hss X.env)) hdb hss hpl) fun σ H Q en jj q => ?_
  refine ⟨_, en.raw hr, ?_⟩
  refine h σ H _ en jj fun vs ds k1 H1 l1 j1 r1 ⟨hp, k2, e, hf⟩ => ?_
  subst e
  refine ⟨F.S, s, a, vs, ds, k2, rfl, dk.G ▸ j1.g, j1.al, fun b hb => F.ms b (dk.M ▸ hb), hK ▸ r1, hp, fun v d H' keep g rv hR => ?_⟩
  have le : Le F H1 H' := fun b o n e => keep b o (fun z => n (.inl (by rw [dk.M]; exact z))) e
  refine q v d k2 H' (l1.trans le) ⟨by rw [dk.G]; exact g, fun b o n e => le b o n (j1.le b o n e), fun b hb => ?_⟩ (by show Rep F.K F.S H' v d; rw [hK]; exact rv) (hf d hR)
  by_cases hM : DqM s a b
  · exact g.lv b hM
  · exact (j1.al b hb).keep fun o e => keep b o hM e
end
/-! ### the law whose first statement makes the deck -/
def spDeck (K : PySem.W.Frag) : Sp := fun vs H Q _ => ∃ (sc : Addr) (ns : List Int), vs = [.ref sc] ∧ SqL K H sc (ns.map V.int) ∧ ns.length ≤ 63 ∧
  ∀ H' st a, Same H H' → H st = none → H a = none → DqG st a 900000 H' → Q (.ref st) H'
section
variable {P : Program} {w : World} {K : PySem.W.Frag} {mg : Str → Option Value} {base : Heap}
theorem lawQ_ok {qual : Str} {st : Stmt} {f : Addr} {fd : FuncData} {N : List Str} {k j : Nat} {xs xd xt : Str} {p1 p2 p3 p4 p5 : Pos} {rest : List Stmt} (Fn : Fun K "law" qual st f fd) (Sc : FnScope N [xs] (defScope st)) (hbody : defBody st = .Assign [.Name xt p1] (.Call (.Name xd p2) [.Name xs p3] [] p4) p5 :: rest)
    (gd : ∃ (fa : Addr) (fdd : FuncData), FnG P w K mg base j fa fdd [xs] (spDeck K) ∧ mg xd = some (.ref fa) ∧ PySem.W.keepIn K (.ref fa) = true ∧ L2.Binds K fdd [xs] []) (hj : j ≤ k)
    (h0 : N[0]? = some xs) (h1 : N[1]? = some xt) (vs : Vis (defScope st) xs) (lt : Loc (defScope st) xt) (gl : (defScope st).names.lookup xd = some .globalImplicit)
    (hsw : ∀ env : Env, swapsWith (.Call (.Name xd p2) [.Name xs p3] [] p4) (some (.Name xt p1)) p5.line env = pure false)
    (body : ∀ (F : Fm) (s a : Addr), IsDq F s a → F.K = K → WPB F (bodyCs P w K mg base N (defScope st) k) rest (.un :: .raw (.ref s) :: List.replicate (N.length - 2) SV.un) 900000 { nx := fun _ _ => False, rt := fun _ d => d = .bool true, bk := fun _ _ => False, ct := fun _ _ => False })
    (hdb : (xd == ("__debug__" : Str)) = false := by decide) (hdb2 : (xs == ("__debug__" : Str)) = false := by decide) (hcd : (xs == ("__classdict__" : Str)) = false := by decide) : FnG P w K mg base (k + 1) f fd [xs] (spLaw K) := by
  obtain ⟨fa, fdd, G, hm, kp, hb⟩ := gd
  refine FnG.of_body Fn Sc (fun vs H Q E h => ?_) (fun cdv A outer s H vs Q hgd hr h => ?_)
  · obtain ⟨sc, ns, rfl, _⟩ := h
    rfl
  obtain ⟨sc, ns, rfl, hS, hlen, q⟩ := h
  have fx := fits_body (CX := CX0) (P := P) (w := w) (K := K) (mg := mg) (base := base) (N := N) (outer := outer) (s := s) (H := H) (E := E0) hgd hr
  rw [hbody]
  have hN0 : 2 ≤ N.length := by
    have := (List.getElem?_eq_some_iff.mp h1).1
    omega
  refine ⟨_, pss_cons (ps_set (i := 1) Sc.nd h1 lt (FnG.pe G hgd (hr.mono hj) hb gl hm kp (pa_cons (pe_var (i := 0) h0 vs hdb2 hcd) pa_nil) hdb rfl rfl) (hsw _) (.inl rfl)) (pbB fx), ?_⟩
  have est : L2.start N [.ref sc] = some (.ref sc) :: none :: List.replicate (N.length - 2) none := by
    unfold L2.start
    show some (V.ref sc) :: List.replicate (N.length - 1) none = _
    rw [show N.length - 1 = (N.length - 2) + 1 by omega]; rfl
  rw [est]
  refine ⟨.ref sc, rfl, sc, ns, rfl, hS, hlen, fun H' st a sm hst ha g => ?_⟩
  refine body (drawFmQ K (DqM st a) H' st a (fun b hb => hb)) st a ⟨rfl, rfl⟩ rfl (some (.ref sc) :: some (.ref st) :: List.replicate (N.length - 2) none) H' _ (fun i sv e => ?_) ⟨g, fun b o _ e => e, fun b hb => g.lv b hb⟩ ?_ ?_ ?_ ?_
  · match i, e with
    | 0, e => cases e; exact ⟨_, rfl, trivial⟩
    | 1, e => cases e; exact ⟨_, rfl, rfl⟩
    | i + 2, e =>
      have e' : (List.replicate (N.length - 2) SV.un)[i]? = some sv := e
      rw [List.getElem?_replicate] at e'
      by_cases hi : i < N.length - 2
      · rw [if_pos hi] at e'
        cases e'
        exact ⟨none, by show (List.replicate (N.length - 2) none)[i]? = _; rw [List.getElem?_replicate, if_pos hi], trivial⟩
      · rw [if_neg hi] at e'; cases e'
  · exact fun _ _ _ _ _ _ _ z => z.elim
  · exact fun v d k' H2 _ rv e => by subst e; cases rv; exact q H2
  · exact fun _ _ _ _ _ _ _ z => z.elim
  · exact fun _ _ _ _ _ _ _ z => z.elim
end
end Dl

namespace Dl
open PySem PySem.Spec PyProof.Rows L2
section
variable {F : Fm} {C : Cs} {ρ : Rho} {k : Nat} {P : DE} {Φ : Nat → PyData → Prop} {Ψ : Nat → Bool → Prop} {pos p p1 p2 p3 p4 p5 : Pos} {e a b c : Expr}
/-- a, b, c = a tuple -/
theorem ws_asg3s (i1 i2 i3 : Nat) {x1 x2 x3 : Str} {kk : Nat} (t1 : Tgt C i1 x1) (t2 : Tgt C i2 x2) (t3 : Tgt C i3 x3) (hK : F.K = C.K)
    (hs : ∀ env : Env, env.scope = C.sc → swapsWithSole [.Tuple [.Name x1 p1, .Name x2 p2, .Name x3 p3] kk p4] e pos.line env = pure false) (hw : ∀ env : Env, env.scope = C.sc → swappedStores [.Tuple [.Name x1 p1, .Name x2 p2, .Name x3 p3] kk p4] e env = pure none)
    (h : WPE F C e ρ k fun k1 d => ∃ d1 d2 d3, d = .tuple [d1, d2, d3] ∧ P.nx k1 (((ρ.set i1 (.d d1)).set i2 (.d d2)).set i3 (.d d3))) : WPS F C (.Assign [.Tuple [.Name x1 p1, .Name x2 p2, .Name x3 p3] kk p4] e pos) ρ k P :=
  of_ps (fun X fx => ps_asg (peE fx) (pgTup (n := 3) fx (pgs_cons (t1.pg fx) (pgs_cons (t2.pg fx) (pgs_cons (t3.pg fx) pgs_nil))) (by rfl) (by rfl)) (hs X.env fx.sc) (hw X.env fx.sc)) fun σ H E en j q1 _ _ _ =>
    h σ H _ en j fun v d k1 H1 l1 j1 r ⟨d1, d2, d3, e, q⟩ => by
      subst e
      cases r with
      | tup ha hr =>
        cases hr with
        | cons r1 hr =>
          cases hr with
          | cons r2 hr =>
            cases hr with
            | cons r3 hr =>
              cases hr
              exact ⟨_, _, rfl, hK ▸ sqt_of ha, rfl, _, _, rfl, _, _, rfl, _, _, rfl, rfl, q1 _ _ k1 H1 l1.lz ((((en.le l1).set (sv := .d d1) ⟨_, rfl, r1⟩).set (sv := .d d2) ⟨_, rfl, r2⟩).set (sv := .d d3) ⟨_, rfl, r3⟩) j1 q⟩
/-- a, b, c = x, y, z -/
theorem ws_par3 (i1 i2 i3 : Nat) {x1 x2 x3 : Str} {kk k2 : Nat} (h12 : i1 ≠ i2) (h13 : i1 ≠ i3) (h23 : i2 ≠ i3) (t1 : Tgt C i1 x1) (t2 : Tgt C i2 x2) (t3 : Tgt C i3 x3) (l1 : C.sc.names.lookup x1 = some .local) (l2 : C.sc.names.lookup x2 = some .local) (l3 : C.sc.names.lookup x3 = some .local)
    (hs : ∀ env : Env, swapsWithSole [.Tuple [.Name x1 p1, .Name x2 p2, .Name x3 p3] kk p4] (.Tuple [a, b, c] k2 p5) pos.line env = pure false) (hw : ∀ env : Env, env.scope = C.sc → swappedStores [.Tuple [.Name x1 p1, .Name x2 p2, .Name x3 p3] kk p4] (.Tuple [a, b, c] k2 p5) env = pure (some [x1, x2, x3]))
    (h : WPA F C [a, b, c] ρ k fun k1 ds => ∃ d1 d2 d3, ds = [d1, d2, d3] ∧ P.nx k1 (((ρ.set i1 (.d d1)).set i2 (.d d2)).set i3 (.d d3))) : WPS F C (.Assign [.Tuple [.Name x1 p1, .Name x2 p2, .Name x3 p3] kk p4] (.Tuple [a, b, c] k2 p5) pos) ρ k P :=
  of_ps (fun X fx => ps_par3 fx.calm (by rw [fx.N]; exact t1.hN) (by rw [fx.N]; exact t1.hi) (by rw [fx.N]; exact t2.hi) (by rw [fx.N]; exact t3.hi) h12 h13 h23 (by rw [fx.sc]; exact l1) (by rw [fx.sc]; exact l2) (by rw [fx.sc]; exact l3) (paA fx) (hw X.env fx.sc) (hs X.env)) fun σ H E en j q1 _ _ _ =>
    h σ H _ en j fun vs ds k1 H1 l1 j1 r ⟨d1, d2, d3, e, q⟩ => by
      subst e
      cases r with
      | cons r1 hr =>
        cases hr with
        | cons r2 hr =>
          cases hr with
          | cons r3 hr =>
            cases hr
            exact ⟨_, _, _, rfl, q1 _ _ k1 H1 l1.lz ((((en.le l1).set (sv := .d d1) ⟨_, rfl, r1⟩).set (sv := .d d2) ⟨_, rfl, r2⟩).set (sv := .d d3) ⟨_, rfl, r3⟩) j1 q⟩
/-- xs + ys, tuples -/
theorem catTK {X : Cx} (fx : Fits C X) : OpR X (binaryOp .Add) (rCatA C.K) := by rw [← fx.K]; exact op_catA
theorem we_catT (hK : F.K = C.K) (h : WPE F C a ρ k fun k1 x => WPE F C b ρ k1 fun k2 y => ∃ ds es, x = .tuple ds ∧ y = .tuple es ∧ ds.length + es.length ≤ 1000000 ∧ Φ k2 (.tuple (ds ++ es))) : WPE F C (.BinOp a .Add b pos) ρ k Φ :=
  we_bin (fun X fx => catTK fx) (h.imp fun k1 x h1 => h1.imp fun k2 y ⟨ds, es, e1, e2, hz, q⟩ => by
    subst e1 e2
    intro H vx vy Q j rx ry qq
    have rx0 := rx
    have ry0 := ry
    cases rx with
    | @tup pa xs _ ha hr =>
    cases ry with
    | @tup pb ys _ hb hs =>
    refine ⟨pa, pb, xs, ys, rfl, rfl, hK ▸ sqt_of ha, hK ▸ sqt_of hb, by rw [hr.length, hs.length]; exact Nat.le_trans hz (by decide), fun e => ?_, fun _ e => ?_, fun _ _ l hl => ?_⟩
    · subst e
      have : ds = [] := List.eq_nil_of_length_eq_zero (by rw [← hr.length]; rfl)
      subst this
      exact qq _ _ k2 H .refl j ry0 q
    · subst e
      have : es = [] := List.eq_nil_of_length_eq_zero (by rw [← hs.length]; rfl)
      subst this
      rw [List.append_nil] at q
      exact qq _ _ k2 H .refl j rx0 q
    · exact qq _ _ k2 _ (.new hl) (j.new hl) (rep_newT j hl (hr.append hs)) q)
/-- xs[:m], a tuple -/
theorem slTK {X : Cx} (fx : Fits C X) : SlR X (rSlA C.K) := by rw [← fx.K]; exact sl_tupA
theorem we_sliceT (hK : F.K = C.K) (h : WPE F C a ρ k fun k1 x => WPE F C e ρ k1 fun k2 y => ∃ ds, ∃ m : Nat, x = .tuple ds ∧ y = .int (m : Int) ∧ Φ k2 (.tuple (ds.take m))) : WPE F C (.Subscript a (.Slice none (some e) none p2) pos) ρ k Φ :=
  of_pe (fun X fx => pe_slice (slTK fx) (peE fx) po_none (po_some (peE fx))) fun σ H Q en j q => by
    show tE C a σ H _
    refine h σ H _ en j fun v d k1 H1 l1 j1 r hx => ?_
    show tE C e σ H1 _
    refine hx σ H1 _ (en.le l1) j1 fun vy y k2 H2 l2 j2 r2 ⟨ds, m, e1, e2, p⟩ => ?_
    subst e1 e2
    have r' := r.le l2.lz
    have r0 := r'
    cases r' with
    | @tup a xs _ ha hr =>
    cases r2
    have ec : cutV xs none (some (m : Int)) = xs.take m := by
      unfold cutV
      rw [HT.sIx_nat, HT.sIx_none, List.drop_zero, Nat.sub_zero, List.take_eq_take_iff]
      omega
    refine ⟨(m : Int), rfl, a, xs, rfl, hK ▸ sqt_of ha, fun hf => ?_, fun _ l hl => ?_⟩
    · have hm : xs.length ≤ m := by
        have := hf.2
        rw [HT.sIx_nat] at this
        omega
      rw [List.take_of_length_le (by rw [← hr.length]; exact hm)] at p
      exact q _ _ k2 _ (l1.trans l2) j2 r0 p
    · rw [ec]
      exact q _ _ k2 _ ((l1.trans l2).trans (.new hl)) (j2.new hl) (rep_newT j2 hl (hr.take m)) p
end
/-! ### sorted(set(a tuple)) -/
def rSetT (K : PySem.W.Frag) (w : World) : List V → Hp → VK → Prop := fun vs H Q => ∃ (a : Addr) (ns : List Int), vs = [.ref a] ∧ SqT K H a (ns.map V.int) ∧ ns.length ≤ 1000 ∧
  ∀ p c, H p = none → c ≤ ns.length → Q (.ref p) (upd H p (SetO w p (fun j => decide (j ∈ ns)) c))
theorem cr_setT {X : Cx} (hc : X.calm = true) : CallR X (.type "set") (rSetT X.K X.w) := by
  intro pins s σ H vs us Q I r h
  obtain ⟨a, ns, rfl, hS, hz, q⟩ := h
  rw [Vals.ref1 r]
  obtain ⟨its, rv, pl, _⟩ := I.tuple hS
  refine call_set_tupI ns (I.ok.hd hc) (show s.heap.IsTuple a its.toArray from pl) (by simpa using rv.ints) (Nat.lt_of_le_of_lt (Nat.succ_le_succ hz) (by decide)) fun h' tk c R hcn hk => ?_
  exact ⟨.ref _, _, I.laid (t' := tk) hk (Nat.le_refl _) (setO_new R), rfl, q _ c (I.hok.fresh (Nat.le_refl _)) hcn⟩
section
variable {F : Fm} {C : Cs} {ρ : Rho} {k : Nat} {Φ : Nat → PyData → Prop} {pos p1 p2 p3 : Pos} {e : Expr}
theorem we_sortSetT (hK : F.K = C.K) (hg : C.sc.names.lookup ("sorted" : Str) = some .globalImplicit) (hm : C.mg ("sorted" : Str) = none) (hg2 : C.sc.names.lookup ("set" : Str) = some .globalImplicit) (hm2 : C.mg ("set" : Str) = none)
    (hs : ∀ env : Env, starEach [e] env = (false, eval e env) :: starEach [] env) (hs2 : ∀ env : Env, starEach [.Call (.Name "set" p2) [e] [] p3] env = (false, eval (.Call (.Name "set" p2) [e] [] p3) env) :: starEach [] env)
    (h : WPE F C e ρ k fun k1 x => ∃ ns : List Int, x = .tuple (ns.map PyData.int) ∧ ns.length ≤ 1000 ∧ ∀ ms : List Int, ms.Pairwise (· < ·) → (∀ i, i ∈ ms ↔ i ∈ ns) → Φ k1 (.list (ms.map PyData.int))) : WPE F C (.Call (.Name "sorted" p1) [.Call (.Name "set" p2) [e] [] p3] [] pos) ρ k Φ :=
  of_pe (t := tCB (rSortSetA C.w) (tCons (tCB (rSetT C.K C.w) (tCons (tE C e) tNil)) tNil)) (fun X fx => pe_callB (by rw [← fx.w]; exact cr_sortSetA fx.calm) (by show X.env.scope.names.lookup ("sorted" : Str) = _; rw [fx.sc]; exact hg) (by rw [fx.mg]; exact hm) (by decide +kernel)
      (pa_cons (pe_callTy (by rw [← fx.w, ← fx.K]; exact cr_setT fx.calm) (by show X.env.scope.names.lookup ("set" : Str) = _; rw [fx.sc]; exact hg2) (by rw [fx.mg]; exact hm2) (by decide +kernel) (pa_cons (peE fx) pa_nil (hs X.env)) (by decide) (by decide) (hs X.env) rfl) pa_nil (hs2 X.env)) (by decide) (by decide) (hs2 X.env) rfl) fun σ H Q en j q => by
    show tE C e σ H _
    refine h σ H _ en j fun v d k1 H1 l1 j1 r ⟨ns, ed, hz, p⟩ => ?_
    subst ed
    cases r with
    | @tup a xs _ ha hr =>
    refine ⟨a, ns, rfl, hr.ints ▸ hK ▸ sqt_of ha, hz, fun l c hl hc => ?_⟩
    refine ⟨l, _, c, rfl, upd_same, fun ms l2 hpw hmem _ hl2 => ?_⟩
    have j2 := j1.new (o := SetO C.w l (fun j => decide (j ∈ ns)) c) hl
    refine q _ _ k1 _ ((l1.trans (.new hl)).trans (.new hl2)) (j2.new hl2) (rep_newL j2 hl2 (RepAll.of_ints ms)) (p ms hpw fun i => ?_)
    rw [hmem i, decide_eq_true_eq]
end
end Dl

namespace Dl
open PySem PySem.Spec PyProof.Rows L2
section
variable {F : Fm} {C : Cs} {ρ : Rho} {k : Nat} {P : DE} {Φ : Nat → PyData → Prop} {Ψ : Nat → Bool → Prop} {pos p1 p2 : Pos} {a b c : Expr}
/-- a <= b <= c, ints -/
theorem wt_leLe (hm : lastMarks [.LtE, .LtE] [b, c] = false) (h : WPE F C a ρ k fun k1 x => WPE F C b ρ k1 fun k2 y => ∃ i j, x = .int i ∧ y = .int j ∧ if i ≤ j then WPE F C c ρ k2 fun k3 z => ∃ l, z = .int l ∧ Ψ k3 (decide (j ≤ l)) else Ψ k2 false) : WPT F C (.Compare a [.LtE, .LtE] [b, c] pos) ρ k Ψ :=
  of_pt (fun X fx => pt_chain op_le op_le (peE fx) (peE fx) (peE fx) hm) fun σ H Q en j q => by
    refine h σ H _ en j fun vx x k1 H1 l1 j1 r1 hx => hx σ H1 _ (en.le l1) j1 fun vy y k2 H2 l2 j2 r2 ⟨i, jj, e1, e2, hh⟩ => ?_
    subst e1 e2
    cases r1
    cases r2
    refine ⟨i, jj, rfl, rfl, decide (i ≤ jj), rfl, ?_⟩
    by_cases hle : i ≤ jj
    · rw [if_pos hle] at hh
      rw [if_pos (decide_eq_true hle)]
      refine hh σ H2 _ ((en.le l1).le l2) j2 fun vz z k3 H3 l3 j3 r3 ⟨l, e3, p⟩ => ?_
      subst e3
      cases r3
      exact ⟨jj, l, rfl, rfl, _, rfl, q _ k3 H3 ((l1.trans l2).trans l3) j3 p⟩
    · rw [if_neg hle] at hh
      rw [if_neg (by rw [decide_eq_true_eq]; exact hle)]
      exact ⟨false, rfl, q _ k2 H2 (l1.trans l2) j2 hh⟩
theorem wt_leLt (hm : lastMarks [.LtE, .Lt] [b, c] = false) (h : WPE F C a ρ k fun k1 x => WPE F C b ρ k1 fun k2 y => ∃ i j, x = .int i ∧ y = .int j ∧ if i ≤ j then WPE F C c ρ k2 fun k3 z => ∃ l, z = .int l ∧ Ψ k3 (decide (j < l)) else Ψ k2 false) : WPT F C (.Compare a [.LtE, .Lt] [b, c] pos) ρ k Ψ :=
  of_pt (fun X fx => pt_chain op_le op_lt (peE fx) (peE fx) (peE fx) hm) fun σ H Q en j q => by
    refine h σ H _ en j fun vx x k1 H1 l1 j1 r1 hx => hx σ H1 _ (en.le l1) j1 fun vy y k2 H2 l2 j2 r2 ⟨i, jj, e1, e2, hh⟩ => ?_
    subst e1 e2
    cases r1
    cases r2
    refine ⟨i, jj, rfl, rfl, decide (i ≤ jj), rfl, ?_⟩
    by_cases hle : i ≤ jj
    · rw [if_pos hle] at hh
      rw [if_pos (decide_eq_true hle)]
      refine hh σ H2 _ ((en.le l1).le l2) j2 fun vz z k3 H3 l3 j3 r3 ⟨l, e3, p⟩ => ?_
      subst e3
      cases r3
      exact ⟨jj, l, rfl, rfl, _, rfl, q _ k3 H3 ((l1.trans l2).trans l3) j3 p⟩
    · rw [if_neg hle] at hh
      rw [if_neg (by rw [decide_eq_true_eq]; exact hle)]
      exact ⟨false, rfl, q _ k2 H2 (l1.trans l2) j2 hh⟩
/-- the same as a value -/
theorem we_leLt (hm : lastMarks [.LtE, .Lt] [b, c] = false) (h : WPE F C a ρ k fun k1 x => WPE F C b ρ k1 fun k2 y => ∃ i j, x = .int i ∧ y = .int j ∧ if i ≤ j then WPE F C c ρ k2 fun k3 z => ∃ l, z = .int l ∧ Φ k3 (.bool (decide (j < l))) else Φ k2 (.bool false)) : WPE F C (.Compare a [.LtE, .Lt] [b, c] pos) ρ k Φ :=
  of_pe (fun X fx => pe_chain op_le op_lt (peE fx) (peE fx) (peE fx) hm) fun σ H Q en j q => by
    refine h σ H _ en j fun vx x k1 H1 l1 j1 r1 hx => hx σ H1 _ (en.le l1) j1 fun vy y k2 H2 l2 j2 r2 ⟨i, jj, e1, e2, hh⟩ => ?_
    subst e1 e2
    cases r1
    cases r2
    refine ⟨i, jj, rfl, rfl, decide (i ≤ jj), rfl, ?_⟩
    by_cases hle : i ≤ jj
    · rw [if_pos hle] at hh
      rw [if_pos (decide_eq_true hle)]
      refine hh σ H2 _ ((en.le l1).le l2) j2 fun vz z k3 H3 l3 j3 r3 ⟨l, e3, p⟩ => ?_
      subst e3
      cases r3
      exact ⟨jj, l, rfl, rfl, q _ _ k3 H3 ((l1.trans l2).trans l3) j3 (.bl _) p⟩
    · rw [if_neg hle] at hh
      rw [if_neg (by rw [decide_eq_true_eq]; exact hle)]
      exact q _ _ k2 H2 (l1.trans l2) j2 (.bl _) hh
end

/-! ### sorted(a tuple of ints) -/
section
variable {P : Program} {w : World} {A : Around} {E : Value → Shared → Prop} {s : Shared} {a : Addr}
theorem collectT {Q : List Value → Shared → Prop} {ob : Obj} {vals : Array Value} {n : Nat} (at0 : s.heap.get? a = some ob) (cl : ob.cls = .type "tuple") (da : ob.data = .seq vals n) (lim : vals.size ≤ sizeLine)
    (hQ : ∀ h1, (∀ b u, s.heap.get? b = some u → h1.get? b = some u) → s.heap.objs.size ≤ h1.objs.size → Q vals.toList { s with heap := h1 }) : wpAny (model P w) A (collect (.ref a)) Q E s := by
  unfold collect
  refine wpAny_bind (wpAny_runValue (codeAny_builtin F.entry_proto_collect ?_))
  rw [Around.under_plainId F.plain_proto_collect _]
  show wpAny _ A.in1 (do let l ← newList []; again (.builtin "list.__iadd__" ⟨[l, .ref a], []⟩)) _ _ s
  refine wpAny_bind (wpAny_newObj_type (wpAny_pure ⟨plainId_quiet F.plain_list_iadd _, codeAny_builtin F.entry_list_iadd ?_⟩))
  rw [Around.under_plainId F.plain_list_iadd _]
  have new0 : (s.heap.push { cls := .type "list", data := .seq ([] : List Value).toArray }).get? s.heap.objs.size = some { cls := .type "list", data := .seq #[] 0 } := Heap.get?_push_size _ rfl
  have new1 := Heap.get?_update_self (Obj.mapSeq (· ++ vals)) new0 rfl
  have done1 : wpAny (model P w) A (match Value.ref s.heap.objs.size with | Value.ref l => do { match (← load l).data with | Data.seq xs _ => pure xs.toList | _ => unsupported "internal:collect" } | _ => unsupported "internal:collect") Q E
      { s with heap := (s.heap.push { cls := .type "list", data := .seq ([] : List Value).toArray }).update s.heap.objs.size (Obj.mapSeq (· ++ vals)) } := by
    refine wpAny_bind (wpAny_load new1 (wpAny_pure ?_))
    have e : ((#[] : Array Value) ++ vals).toList = vals.toList := by simp
    show Q (#[] ++ vals : Array Value).toList _
    rw [e]
    refine hQ _ (fun b u hb => ?_) (by rw [Heap.size_update, Heap.size_push]; exact Nat.le_succ _)
    exact (Heap.get?_update_other _ _ (Nat.ne_of_gt (Heap.lt_size hb))).trans (Heap.get?_push_of_some _ hb)
  refine wpAny_mono (wpAny_extend_seq (hsz := lim) (A := A) (R := fun r t => r = .ok (.ret (.ref s.heap.objs.size)) ∧ t = { s with heap := (s.heap.push { cls := .type "list", data := .seq ([] : List Value).toArray }).update s.heap.objs.size (Obj.mapSeq (· ++ vals)) })
    (s := { s with heap := s.heap.push { cls := .type "list", data := .seq ([] : List Value).toArray } }) _ a _ 0 (.inr rfl) new0 (Heap.get?_push_of_some _ at0) cl da ⟨rfl, rfl⟩) (fun fin t h => ?_) (fun e t h => absurd h.1 (by simp))
  cases fin with
  | done fl => obtain ⟨e, rfl⟩ := h; cases e; exact done1
  | again c => exact ⟨h.1, codeAny_mono h.2 fun r t2 hr => by rw [hr.1, hr.2]; exact done1⟩
theorem sortedTupAll {its : Array Value} {ns : List Int} {Q : Value → Shared → Prop} (tp : s.heap.IsTuple a its) (hi : IntsAre its.toList ns) (hz : its.size ≤ 4000)
    (hQ : ∀ (t : Shared) (p : Addr) (res : List Value) (c : Nat) (ms : List Int), (∀ b o, s.heap.get? b = some o → t.heap.get? b = some o) → t.gens = s.gens → t.os = s.os → s.heap.objs.size ≤ p →
      t.heap.get? p = some (seqObj "list" res.toArray c) → IntsAre res ms → ms.Perm ns → ms.Pairwise (· ≤ ·) → Q (.ref p) t) :
    wpAny (model P w) A (call (.builtin "sorted") [.ref a]) Q E s := by
  obtain ⟨o, ho, hc, n, hd⟩ := tp
  refine Calls.call_function_entry PyProof.Rows.kind_sorted PyProof.Rows.plain_sorted PyProof.Rows.entry_sorted (PyProof.Rows.args_sorted1 _) ?_
  unfold Builtin.«sorted»
  have lim : its.toList.length ≤ sizeLine := by rw [Array.length_toList, sizeLine_eq]; omega
  refine wpAny_bind (m := checkCount "sorted" 1 1 _) (wpAny_pure (wpAny_bind (collectT (A := A.in1) ho hc hd (by rw [sizeLine_eq]; omega) fun h1 kp szs => ?_)))
  refine wpAny_bind (wpAny_newList ?_ lim)
  have here : (h1.push (seqObj "list" its.toList.toArray 0)).get? h1.objs.size = some (seqObj "list" its.toList.toArray 0) := Heap.get?_push_size _ rfl
  refine wpAny_bind (wpAny_holding (wpAny_call_entry PyProof.Rows.slot_list_sort ⟨_, here, rfl⟩ PyProof.Rows.entry_list_sort (SrtO.list_sort_ord SrtO.swo_int here lim (fun h2 => SrtO.ints_sortable hi h2) fun res r1 r2 => ⟨_, rfl, ?_⟩) (PyProof.Rows.args_list_sort _)))
  obtain ⟨z1, z2, z3⟩ := SrtO.ints_out hi r1 r2
  obtain ⟨c, hcc⟩ := PyProof.Rows.sortedHeap_at (vs := its.toList) (out := res.toArray) here
  refine wpAny_pure ⟨_, rfl, hQ _ h1.objs.size res c (res.map SrtO.iv) (fun b u e => ?_) rfl rfl szs hcc z1 z2 z3⟩
  have old := kp b u e
  have blt := Heap.lt_size old
  show (sortedHeap (h1.push (seqObj "list" its.toList.toArray 0)) h1.objs.size its.toList res.toArray).get? b = _
  rw [PyProof.Rows.sortedHeap_old (Nat.ne_of_lt blt) (by rw [Heap.size_push]; exact Nat.lt_succ_of_lt blt)]
  exact Heap.get?_push_of_some _ old
end
def rSortTI (K : PySem.W.Frag) : List V → Hp → VK → Prop := fun vs H Q => ∃ (a : Addr) (ns : List Int), vs = [V.ref a] ∧ SqT K H a (ns.map V.int) ∧ ns.length ≤ 4000 ∧
  ∀ (ms : List Int) (p : Addr), ms.Perm ns → ms.Pairwise (· ≤ ·) → H p = none → Q (.ref p) (upd H p (.lst (ms.map V.int)))
theorem cr_sortTI {X : Cx} : CallR X (.builtin "sorted") (rSortTI X.K) := by
  intro pins s σ H vs us Q I r h
  obtain ⟨a, ns, rfl, hS, hz, q⟩ := h
  rw [Vals.ref1 r]
  obtain ⟨its, rv, pl, _⟩ := I.tuple hS
  have hlen : its.length = ns.length := by rw [← rv.length, List.length_map]
  refine sortedTupAll (show s.heap.IsTuple a its.toArray from pl) (by simpa using rv.ints) (by rw [List.size_toArray, hlen]; exact hz) fun t p res c ms kp gs os sz at1 hii perm asc => ?_
  have fits : (ms.map V.int).length ≤ sizeLine := by rw [List.length_map, perm.length_eq, sizeLine_eq]; omega
  have fresh : H p = none := I.hok.fresh sz
  have J1 : Inv X pins σ (upd H p (.lst (ms.map V.int))) { s with heap := t.heap, gens := t.gens, drawn := t.drawn, toks := t.toks } :=
    I.call (ch := []) (Un.laid kp sz fresh) (I.hok.laid kp sz ⟨fits, res, c, vals_of_ints hii, at1⟩) (by rw [gs]; exact I.bare) (fun _ z => nomatch z)
  have same : t = { s with heap := t.heap, gens := t.gens, drawn := t.drawn, toks := t.toks } := by
    cases t; cases s; cases os; rfl
  rw [same]
  exact ⟨.ref p, _, J1, rfl, q ms p perm asc fresh⟩
section
variable {F : Fm} {C : Cs} {ρ : Rho} {k : Nat} {Φ : Nat → PyData → Prop} {pos p : Pos} {e : Expr}
theorem srtTK {X : Cx} (fx : Fits C X) : CallR X (.builtin "sorted") (rSortTI C.K) := by rw [← fx.K]; exact cr_sortTI
theorem we_sortedT (hK : F.K = C.K) (hg : C.sc.names.lookup ("sorted" : Str) = some .globalImplicit) (hm : C.mg ("sorted" : Str) = none) (hs : ∀ env : Env, starEach [e] env = (false, eval e env) :: starEach [] env) (h : WPE F C e ρ k fun k1 x => ∃ ns : List Int, x = .tuple (ns.map PyData.int) ∧ ns.length ≤ 4000 ∧ ∀ ms : List Int, ms.Perm ns → ms.Pairwise (· ≤ ·) → Φ k1 (.list (ms.map PyData.int))) : WPE F C (.Call (.Name "sorted" p) [e] [] pos) ρ k Φ :=
  we_callB (id := "sorted") (fun X fx => srtTK fx) hg hm (by decide +kernel) (wa_one hs (h.imp fun k1 x ⟨ns, e, hz, p⟩ => fun H vs Q j r q => by
    subst e
    cases r with
    | cons r1 r2 =>
    cases r2
    cases r1 with
    | @tup a xs _ ha hr => exact ⟨a, ns, rfl, hr.ints ▸ hK ▸ sqt_of ha, hz, fun ms l hp hw hl => q _ _ k1 _ (.new hl) (j.new hl) (rep_newL j hl (RepAll.of_ints ms)) (p ms hp hw)⟩)) (by decide) (by decide) hs
end

section
variable {F : Fm} {C : Cs} {ρ : Rho} {k : Nat} {Ψ : Nat → Bool → Prop} {pos : Pos} {a b : Expr}
/-- a and b, a or b, as tests of known value -/
theorem wt_and2 {p q : Bool} (ha : WPT F C a ρ k fun k1 z => k1 = k ∧ z = p) (hb : p = true → WPT F C b ρ k fun k1 z => k1 = k ∧ z = q) (h : Ψ k (p && q)) : WPT F C (.BoolOp .And [a, b] pos) ρ k Ψ :=
  wt_bool (ww_and (ha.imp fun k1 z ⟨e1, e2⟩ => by
    subst e1 e2
    cases z with
    | false => exact h
    | true => rw [if_pos rfl]; exact ww_and1 ((hb rfl).imp fun k2 z ⟨e3, e4⟩ => by subst e3 e4; exact h)))
theorem wt_or2 {p q : Bool} (ha : WPT F C a ρ k fun k1 z => k1 = k ∧ z = p) (hb : p = false → WPT F C b ρ k fun k1 z => k1 = k ∧ z = q) (h : Ψ k (p || q)) : WPT F C (.BoolOp .Or [a, b] pos) ρ k Ψ :=
  wt_bool (ww_or (ha.imp fun k1 z ⟨e1, e2⟩ => by
    subst e1 e2
    cases z with
    | true => exact h
    | false => rw [if_neg (by decide)]; exact ww_or1 ((hb rfl).imp fun k2 z ⟨e3, e4⟩ => by subst e3 e4; exact h)))
end
end Dl

set_option maxHeartbeats 2000000
namespace Dl
open PySem PySem.Spec PyProof.Rows L2
/-! ### zip of two sequences, each a list (true) or a tuple (false) -/
def Wk (b : Bool) (h : Heap) (it l : Addr) (i : Nat) : Prop := match b with | true => h.IsListIter it l i | false => h.IsTupleIter it l i
def Sk (b : Bool) (h : Heap) (l : Addr) (xs : Array Value) : Prop := match b with | true => h.IsList l xs | false => h.IsTuple l xs
section
variable {b : Bool} {h h' : Heap} {it l c : Addr} {i : Nat} {xs : Array Value}
theorem Wk.far (x : Wk b h it l i) (e : Heap.ExtBut c h h') (ne : it ≠ c) : Wk b h' it l i := by
  cases b with
  | true => exact Heap.IsListIter.extBut x e ne
  | false => exact Heap.IsTupleIter.extBut x e ne
theorem Wk.keep (x : Wk b h it l i) (e : ∀ o, h.get? it = some o → h'.get? it = some o) : Wk b h' it l i := by
  cases b with
  | true => exact Heap.IsListIter.at x e
  | false => exact Heap.IsTupleIter.at x e
theorem Sk.far (x : Sk b h l xs) (e : Heap.ExtBut c h h') (ne : l ≠ c) : Sk b h' l xs := by
  cases b with
  | true => exact Heap.IsList.extBut x e ne
  | false => exact Heap.IsTuple.extBut x e ne
theorem Sk.push (x : Sk b h l xs) (o : Obj) : Sk b (h.push o) l xs := by
  cases b with
  | true => exact Heap.IsList.push x o
  | false => exact Heap.IsTuple.push x o
theorem Sk.lt (x : Sk b h l xs) : l < h.objs.size := by
  cases b with
  | true => obtain ⟨o, e, _⟩ := x; exact Heap.lt_size e
  | false => obtain ⟨o, e, _⟩ := x; exact Heap.lt_size e
theorem Wk.obj (x : Wk b h it l i) : ∃ o, h.get? it = some o ∧ ∀ v, o.data ≠ Data.cell v := by
  cases b with
  | true => obtain ⟨o, e, _, d⟩ := x; exact ⟨o, e, fun v q => by rw [d] at q; cases q⟩
  | false => obtain ⟨o, e, _, d⟩ := x; exact ⟨o, e, fun v q => by rw [d] at q; cases q⟩
end
section
variable {prog : Program} {w : World} {A : Around} {E : Value → Shared → Prop} {s : Shared} {b b1 b2 : Bool}
theorem step_item {it l : Addr} {i : Nat} {xs : Array Value} {x : Value} {Q : Value → Shared → Prop} (wk : Wk b s.heap it l i) (sk : Sk b s.heap l xs) (hx : xs[i]? = some x)
    (q : ∀ h', Wk b h' it l (i + 1) → Heap.SameBut it s.heap h' → Q x { s with heap := h' }) : wpAny (model prog w) A (Builtin.SmallTypes.nextOf (.ref it)) Q E s := by
  cases b with
  | true => exact wpAny_nextOf_list_item wk sk hx q
  | false => exact RZ.nextOf_tuple_item wk sk hx q
theorem step_end {it l : Addr} {i : Nat} {xs : Array Value} {Q : Value → Shared → Prop} (calm : A.handled = none) (wk : Wk b s.heap it l i) (sk : Sk b s.heap l xs) (hx : xs[i]? = none)
    (q : ∀ h' e, Heap.ExtBut it s.heap h' → (∃ o, h'.get? e = some o ∧ o.cls = .type "StopIteration") → E (.ref e) { s with heap := h' }) : wpAny (model prog w) A (Builtin.SmallTypes.nextOf (.ref it)) Q E s := by
  cases b with
  | true => exact wpAny_nextOf_list_end calm wk sk hx q
  | false => exact RZ.nextOf_tuple_end calm wk sk hx q
theorem zk_item {z ti to i1 i2 l1 l2 : Addr} {k1 k2 : Nat} {xs ys : Array Value} {x y u v : Value} {Q : Value → Shared → Prop} (D : ZipApart z ti to i1 i2 l1 l2)
    (pz : IsZip s.heap z ti to .none) (pi : IsPair s.heap ti (.ref i1) (.ref i2)) (po : IsPair s.heap to u v) (w1 : Wk b1 s.heap i1 l1 k1) (w2 : Wk b2 s.heap i2 l2 k2) (s1 : Sk b1 s.heap l1 xs) (s2 : Sk b2 s.heap l2 ys) (hx : xs[k1]? = some x) (hy : ys[k2]? = some y)
    (q : ∀ h', IsZip h' z ti to (rawInt s.heap.objs.size) → IsPair h' to x y → Wk b1 h' i1 l1 (k1 + 1) → Wk b2 h' i2 l2 (k2 + 1) → IsPair h' s.heap.objs.size x y → h'.objs.size = s.heap.objs.size + 1 →
      (∀ c o, c ≠ z → c ≠ to → c ≠ i1 → c ≠ i2 → s.heap.get? c = some o → h'.get? c = some o) → Q (.ref s.heap.objs.size) { s with heap := h' }) :
    wpAny (model prog w) A (Builtin.«zip.__next__» ⟨[.ref z], []⟩) (fun fin t => ∃ r, fin = .done (.ret r) ∧ Q r t) E s := by
  show wpAny _ _ (field (.ref z) 2 >>= _) _ _ _; refine wpAny_bind (wpAny_field pz rfl (x := .bool false) rfl ?_)
  show wpAny _ _ (field (.ref z) 3 >>= _) _ _ _; refine wpAny_bind (wpAny_field pz rfl (x := .ref ti) rfl (wpAny_bind (wpAny_seqItems pi rfl ?_)))
  show wpAny _ _ (Builtin.SmallTypes.ownedTupleIsFree (.ref z) >>= _) _ _ _; refine wpAny_bind ?_; unfold Builtin.SmallTypes.ownedTupleIsFree
  refine wpAny_bind (wpAny_field pz rfl (x := .none) rfl (wpAny_pure ?_)); simp only [if_true]
  refine wpAny_bind (wpAny_rule (wpAny_bind (wpAny_field pz rfl (x := .ref to) rfl (wpAny_bind (wpAny_setField_rec pz (by simp) fun g1 z1 e1 => ?_)))))
  replace z1 : IsZip g1 z ti to .ellipsis := z1
  refine wpAny_bind ?_; simp only [List.zipIdx_cons, List.zipIdx_nil, List.forIn_cons, List.forIn_nil]
  refine wpAny_bind (wpAny_bind (wpAny_onRaise ?_)); show wpAny _ _ (Builtin.SmallTypes.nextOf (.ref i1) >>= _) _ _ _
  refine wpAny_bind (step_item (w1.far e1.extBut D.i1z) (s1.far e1.extBut D.l1z) hx fun g2 w12 e2 => wpAny_pure ?_)
  have po2 : IsPair g2 to u v := e2.extBut _ _ D.TOi1 (e1.extBut _ _ D.TOz po)
  refine wpAny_bind (wpAny_seqItems po2 rfl (wpAny_bind (wpAny_updateSeq_pair po2 fun g3 po3 e3 => wpAny_bind (wpAny_letGo (wpAny_pure ?_)))))
  replace po3 : IsPair g3 to x v := po3
  refine wpAny_bind (wpAny_bind (wpAny_onRaise ?_)); show wpAny _ _ (Builtin.SmallTypes.nextOf (.ref i2) >>= _) _ _ _
  refine wpAny_bind (step_item (((w2.far e1.extBut D.i2z).far e2.extBut D.i12.symm).far e3.extBut D.TOi2.symm) (((s2.far e1.extBut D.l2z).far e2.extBut D.l2i1).far e3.extBut D.l2TO) hy fun g4 w24 e4 => wpAny_pure ?_)
  have po4 : IsPair g4 to x v := e4.extBut _ _ D.TOi2 po3
  refine wpAny_bind (wpAny_seqItems po4 rfl (wpAny_bind (wpAny_updateSeq_pair po4 fun g5 po5 e5 => wpAny_bind (wpAny_letGo (wpAny_pure (wpAny_pure ?_))))))
  replace po5 : IsPair g5 to x y := po5
  refine wpAny_bind (wpAny_seqItems po5 rfl (wpAny_bind (wpAny_newTuple ?_)))
  have size5 : g5.objs.size = s.heap.objs.size := by rw [e5.1, e4.1, e3.1, e2.1, e1.1]
  have z5 : IsZip g5 z ti to .ellipsis := e5.extBut _ _ D.TOz.symm (e4.extBut _ _ D.i2z.symm (e3.extBut _ _ D.TOz.symm (e2.extBut _ _ D.i1z.symm z1)))
  have kp5 : ∀ c o, c ≠ z → c ≠ to → c ≠ i1 → c ≠ i2 → s.heap.get? c = some o → g5.get? c = some o := fun c o n1 n2 n3 n4 g => e5.extBut _ _ n2 (e4.extBut _ _ n4 (e3.extBut _ _ n2 (e2.extBut _ _ n3 (e1.extBut _ _ n1 g))))
  have w15 : Wk b1 g5 i1 l1 (k1 + 1) := ((w12.far e3.extBut D.TOi1.symm).far e4.extBut D.i12).far e5.extBut D.TOi1.symm
  have w25 : Wk b2 g5 i2 l2 (k2 + 1) := w24.far e5.extBut D.TOi2.symm
  have zlt : z < g5.objs.size := Heap.lt_size z5
  show wpAny _ _ (Builtin.SmallTypes.ownedTupleHandOut (.ref z) (.ref g5.objs.size) >>= _) _ _ _; refine wpAny_bind ?_; unfold Builtin.SmallTypes.ownedTupleHandOut
  have z6 : IsZip (g5.push { cls := .type "tuple", data := .seq #[x, y] }) z ti to .ellipsis := Heap.get?_push_of_some _ z5
  refine wpAny_bind (wpAny_setField_rec z6 (by simp) fun g7 z7 e7 => ?_)
  replace z7 : IsZip g7 z ti to (rawInt g5.objs.size) := z7
  refine wpAny_setField_rec z7 (by simp) fun g8 z8 e8 => ?_
  replace z8 : IsZip g8 z ti to (rawInt g5.objs.size) := z8
  have rise : ∀ c o, c ≠ z → g5.get? c = some o → g8.get? c = some o := fun c o n1 g => e8.extBut _ _ n1 (e7.extBut _ _ n1 (Heap.get?_push_of_some _ g))
  have new8 : IsPair g8 g5.objs.size x y := e8.extBut _ _ (Nat.ne_of_gt zlt) (e7.extBut _ _ (Nat.ne_of_gt zlt) (Heap.get?_push_size _ rfl))
  have size8 : g8.objs.size = g5.objs.size + 1 := by rw [e8.1, e7.1, Heap.size_push]
  rw [size5] at z8 new8 size8
  refine wpAny_pure ⟨_, rfl, ?_⟩
  show Q (.ref g5.objs.size) _
  rw [size5]
  exact q g8 z8 (rise _ _ D.TOz po5) (w15.keep fun o g => rise _ o D.i1z g) (w25.keep fun o g => rise _ o D.i2z g) new8 size8 fun c o n1 n2 n3 n4 g => rise c o n1 (kp5 c o n1 n2 n3 n4 g)
theorem zk_end {z ti to i1 i2 l1 l2 : Addr} {k1 k2 : Nat} {xs ys : Array Value} {u v : Value} {Q : PySem.Fin → Shared → Prop} (calm : A.handled = none) (D : ZipApart z ti to i1 i2 l1 l2)
    (pz : IsZip s.heap z ti to .none) (pi : IsPair s.heap ti (.ref i1) (.ref i2)) (po : IsPair s.heap to u v) (w1 : Wk b1 s.heap i1 l1 k1) (w2 : Wk b2 s.heap i2 l2 k2) (s1 : Sk b1 s.heap l1 xs) (s2 : Sk b2 s.heap l2 ys) (over : xs[k1]? = none ∨ ys[k2]? = none)
    (q : ∀ h' e, (∀ c o, c ≠ z → c ≠ to → c ≠ i1 → c ≠ i2 → s.heap.get? c = some o → h'.get? c = some o) → (∃ o, h'.get? e = some o ∧ o.cls = .type "StopIteration") → E (.ref e) { s with heap := h' }) :
    wpAny (model prog w) A (Builtin.«zip.__next__» ⟨[.ref z], []⟩) Q E s := by
  show wpAny _ _ (field (.ref z) 2 >>= _) _ _ _; refine wpAny_bind (wpAny_field pz rfl (x := .bool false) rfl ?_)
  show wpAny _ _ (field (.ref z) 3 >>= _) _ _ _; refine wpAny_bind (wpAny_field pz rfl (x := .ref ti) rfl (wpAny_bind (wpAny_seqItems pi rfl ?_)))
  show wpAny _ _ (Builtin.SmallTypes.ownedTupleIsFree (.ref z) >>= _) _ _ _; refine wpAny_bind ?_; unfold Builtin.SmallTypes.ownedTupleIsFree
  refine wpAny_bind (wpAny_field pz rfl (x := .none) rfl (wpAny_pure ?_)); simp only [if_true]
  refine wpAny_bind (wpAny_rule (wpAny_bind (wpAny_field pz rfl (x := .ref to) rfl (wpAny_bind (wpAny_setField_rec pz (by simp) fun g1 z1 e1 => ?_)))))
  replace z1 : IsZip g1 z ti to .ellipsis := z1
  refine wpAny_bind ?_; simp only [List.zipIdx_cons, List.zipIdx_nil, List.forIn_cons, List.forIn_nil]
  refine wpAny_bind (wpAny_bind (wpAny_onRaise ?_)); show wpAny _ _ (Builtin.SmallTypes.nextOf (.ref i1) >>= _) _ _ _
  cases hx : xs[k1]? with
  | none =>
    refine wpAny_bind (step_end calm (w1.far e1.extBut D.i1z) (s1.far e1.extBut D.l1z) hx fun g2 e e2 ⟨oe, ge, ce⟩ => ?_)
    have z2 : IsZip g2 z ti to .ellipsis := e2 _ _ D.i1z.symm z1
    have nez : e ≠ z := fun t => by subst t; rw [z2] at ge; cases ge; simp at ce
    exact wpAny_setField_rec z2 (by simp) fun g3 _ e3 => q g3 e (fun c o n1 _ n3 _ t => e3.extBut _ _ n1 (e2 _ _ n3 (e1.extBut _ _ n1 t))) ⟨oe, e3.extBut _ _ nez ge, ce⟩
  | some x =>
    have hy : ys[k2]? = none := over.elim (fun t => by rw [hx] at t; cases t) id
    refine wpAny_bind (step_item (w1.far e1.extBut D.i1z) (s1.far e1.extBut D.l1z) hx fun g2 w12 e2 => wpAny_pure ?_)
    have po2 : IsPair g2 to u v := e2.extBut _ _ D.TOi1 (e1.extBut _ _ D.TOz po)
    refine wpAny_bind (wpAny_seqItems po2 rfl (wpAny_bind (wpAny_updateSeq_pair po2 fun g3 po3 e3 => wpAny_bind (wpAny_letGo (wpAny_pure ?_)))))
    refine wpAny_bind (wpAny_bind (wpAny_onRaise ?_)); show wpAny _ _ (Builtin.SmallTypes.nextOf (.ref i2) >>= _) _ _ _
    refine wpAny_bind (step_end calm (((w2.far e1.extBut D.i2z).far e2.extBut D.i12.symm).far e3.extBut D.TOi2.symm) (((s2.far e1.extBut D.l2z).far e2.extBut D.l2i1).far e3.extBut D.l2TO) hy fun g4 e e4 ⟨oe, ge, ce⟩ => ?_)
    have z4 : IsZip g4 z ti to .ellipsis := e4 _ _ D.i2z.symm (e3.extBut _ _ D.TOz.symm (e2.extBut _ _ D.i1z.symm z1))
    have nez : e ≠ z := fun t => by subst t; rw [z4] at ge; cases ge; simp at ce
    exact wpAny_setField_rec z4 (by simp) fun g5 _ e5 => q g5 e (fun c o n1 n2 n3 n4 t => e5.extBut _ _ n1 (e4 _ _ n4 (e3.extBut _ _ n2 (e2.extBut _ _ n3 (e1.extBut _ _ n1 t))))) ⟨oe, e5.extBut _ _ nez ge, ce⟩
theorem zk_next {z ti to i1 i2 l1 l2 : Addr} {k1 k2 : Nat} {xs ys : Array Value} {x y u v : Value} {Q : Option Value → Shared → Prop} (D : ZipApart z ti to i1 i2 l1 l2)
    (pz : IsZip s.heap z ti to .none) (pi : IsPair s.heap ti (.ref i1) (.ref i2)) (po : IsPair s.heap to u v) (w1 : Wk b1 s.heap i1 l1 k1) (w2 : Wk b2 s.heap i2 l2 k2) (s1 : Sk b1 s.heap l1 xs) (s2 : Sk b2 s.heap l2 ys) (hx : xs[k1]? = some x) (hy : ys[k2]? = some y)
    (q : ∀ h', IsZip h' z ti to (rawInt s.heap.objs.size) → IsPair h' to x y → Wk b1 h' i1 l1 (k1 + 1) → Wk b2 h' i2 l2 (k2 + 1) → IsPair h' s.heap.objs.size x y → h'.objs.size = s.heap.objs.size + 1 →
      (∀ c o, c ≠ z → c ≠ to → c ≠ i1 → c ≠ i2 → s.heap.get? c = some o → h'.get? c = some o) → Q (some (.ref s.heap.objs.size)) { s with heap := h' }) : wpAny (model prog w) A (pyNext (.ref z)) Q E s := by
  have ty : s.TypeIs (.ref z) "zip" := ⟨_, pz, rfl⟩
  unfold pyNext
  exact wpAny_bind (wpAny_attempt (wpAny_callSpecial?_slot (name := Str.ofString "__next__") ty F.slot_zip_next (wpAny_call_entry F.slot_zip_next ty F.entry_zip_next
    (zk_item D pz pi po w1 w2 s1 s2 hx hy fun h' a1 a2 a3 a4 a5 a6 a7 => wpAny_pure (q h' a1 a2 a3 a4 a5 a6 a7)) (F.args_zip_next_1 _))))
theorem zk_stop {z ti to i1 i2 l1 l2 : Addr} {k1 k2 : Nat} {xs ys : Array Value} {u v : Value} {Q : Option Value → Shared → Prop} (calm : A.handled = none) (D : ZipApart z ti to i1 i2 l1 l2)
    (pz : IsZip s.heap z ti to .none) (pi : IsPair s.heap ti (.ref i1) (.ref i2)) (po : IsPair s.heap to u v) (w1 : Wk b1 s.heap i1 l1 k1) (w2 : Wk b2 s.heap i2 l2 k2) (s1 : Sk b1 s.heap l1 xs) (s2 : Sk b2 s.heap l2 ys) (over : xs[k1]? = none ∨ ys[k2]? = none)
    (q : ∀ h', (∀ c o, c ≠ z → c ≠ to → c ≠ i1 → c ≠ i2 → s.heap.get? c = some o → h'.get? c = some o) → Q none { s with heap := h' }) : wpAny (model prog w) A (pyNext (.ref z)) Q E s := by
  have ty : s.TypeIs (.ref z) "zip" := ⟨_, pz, rfl⟩
  unfold pyNext
  refine wpAny_bind (wpAny_attempt (wpAny_callSpecial?_slot (name := Str.ofString "__next__") ty F.slot_zip_next (wpAny_call_entry F.slot_zip_next ty F.entry_zip_next
    (zk_end calm D pz pi po w1 w2 s1 s2 over fun h' e kp ⟨o, ge, ce⟩ => wpAny_bind (wpAny_isInstance (T := "StopIteration") (b := true) ⟨o, ge, ce⟩ isSubtype_stop (wpAny_pure (q _ kp)))) (F.args_zip_next_1 _))))
end

/-! ### zip(a list, a tuple) -/
abbrev zg1 (h : Heap) (l1 : Addr) : Heap := h.push { cls := .type "list_iterator", data := .fields #[.ref l1, .int 0 0] }
abbrev zg2 (h : Heap) (l1 l2 : Addr) : Heap := (zg1 h l1).push { cls := .type "tuple_iterator", data := .fields #[.ref l2, .int 0 0] }
abbrev zg3 (h : Heap) (l1 l2 : Addr) : Heap := (zg2 h l1 l2).push { cls := .type "tuple", data := .seq #[.ref h.objs.size, .ref (zg1 h l1).objs.size] }
abbrev zg4 (h : Heap) (l1 l2 : Addr) : Heap := (zg3 h l1 l2).push { cls := .type "tuple", data := .seq #[.none, .none] }
abbrev zg5 (h : Heap) (l1 l2 : Addr) : Heap := (zg4 h l1 l2).push { cls := .type "zip", data := .fields #[.none, .bool false, .bool false, .ref (zg2 h l1 l2).objs.size, .ref (zg3 h l1 l2).objs.size] }
theorem meets_zg (l1 l2 : Addr) (xs ys : Array Value) : Meets (Builtin.«zip.__new__» ⟨[.type "zip", .ref l1, .ref l2], []⟩)
    (fun _ R s => s.heap.IsList l1 xs ∧ s.heap.IsTuple l2 ys ∧ R (.ok (.ret (.ref (zg4 s.heap l1 l2).objs.size))) { s with heap := zg5 s.heap l1 l2 }) :=
  .of_wp fun prog w A R s h => by
    obtain ⟨hp, g, d, tk, os⟩ := s; obtain ⟨q1, q2, q⟩ := h
    have hsub := sub_zip
    have L1 : Heap.IsList (Shared.heap ⟨hp, g, d, tk, os⟩) l1 xs := q1
    have L2 : Heap.IsTuple (Shared.heap ⟨zg1 hp l1, g, d, tk, os⟩) l2 ys := Heap.IsTuple.push q2 _
    wp_walk using wpAny_pyIter_list L1, wpAny_pyIter_tuple L2
    exact ⟨_, rfl, q⟩
section
variable {prog : Program} {w : World} {A : Around} {E : Value → Shared → Prop} {s : Shared}
theorem call_zg {l1 l2 : Addr} {xs ys : Array Value} {Q : Value → Shared → Prop} (q1 : s.heap.IsList l1 xs) (q2 : s.heap.IsTuple l2 ys)
    (q : ∀ h', IsZip h' (s.heap.objs.size + 4) (s.heap.objs.size + 2) (s.heap.objs.size + 3) .none → IsPair h' (s.heap.objs.size + 2) (.ref s.heap.objs.size) (.ref (s.heap.objs.size + 1)) → IsPair h' (s.heap.objs.size + 3) .none .none →
      Wk true h' s.heap.objs.size l1 0 → Wk false h' (s.heap.objs.size + 1) l2 0 → (∀ c o, s.heap.get? c = some o → h'.get? c = some o) → Q (.ref (s.heap.objs.size + 4)) { s with heap := h' }) :
    wpAny (model prog w) A (call (.type "zip") [.ref l1, .ref l2]) Q E s := by
  refine callType_new F.called_zip (by decide) (F.typeCall_zip_2 _ _) (F.newCall_zip_2 _ _) (fun obj => F.args_object_init_3 obj _ _) F.entry_zip_new (meets_zg l1 l2 xs ys) ⟨q1, q2, ?_⟩
  have n1 : (zg1 s.heap l1).objs.size = s.heap.objs.size + 1 := Heap.size_push ..
  have n2 : (zg2 s.heap l1 l2).objs.size = s.heap.objs.size + 2 := by rw [Heap.size_push, n1]
  have n3 : (zg3 s.heap l1 l2).objs.size = s.heap.objs.size + 3 := by rw [Heap.size_push, n2]
  have n4 : (zg4 s.heap l1 l2).objs.size = s.heap.objs.size + 4 := by rw [Heap.size_push, n3]
  have m5 : (zg5 s.heap l1 l2).get? (zg4 s.heap l1 l2).objs.size = some _ := Heap.get?_push_size _ rfl
  have m4 : (zg5 s.heap l1 l2).get? (zg3 s.heap l1 l2).objs.size = some _ := Heap.get?_push_of_some _ (Heap.get?_push_size _ rfl)
  have m3 : (zg5 s.heap l1 l2).get? (zg2 s.heap l1 l2).objs.size = some _ := Heap.get?_push_of_some _ (Heap.get?_push_of_some _ (Heap.get?_push_size _ rfl))
  have m2 : (zg5 s.heap l1 l2).get? (zg1 s.heap l1).objs.size = some _ := Heap.get?_push_of_some _ (Heap.get?_push_of_some _ (Heap.get?_push_of_some _ (Heap.get?_push_size _ rfl)))
  have m1 : (zg5 s.heap l1 l2).get? s.heap.objs.size = some _ := Heap.get?_push_of_some _ (Heap.get?_push_of_some _ (Heap.get?_push_of_some _ (Heap.get?_push_of_some _ (Heap.get?_push_size _ rfl))))
  show _ ∧ _
  rw [n2, n3, n4] at m5
  rw [n1, n2] at m3
  rw [n3] at m4
  rw [n1] at m2
  rw [n4]
  exact ⟨⟨_, m5, rfl⟩, q _ m5 m3 m4 ⟨_, m1, rfl, rfl⟩ ⟨_, m2, rfl, rfl⟩ fun c o g => Heap.get?_push_of_some _ (Heap.get?_push_of_some _ (Heap.get?_push_of_some _ (Heap.get?_push_of_some _ (Heap.get?_push_of_some _ g))))⟩
end
def Itg (K : PySem.W.Frag) (a b : Addr) : It :=
  ⟨fun i H => ∃ (xs ys : List V) (x y : V), SqL K H a xs ∧ SqT K H b ys ∧ xs[i]? = some x ∧ ys[i]? = some y,
    fun i H v H' => ∃ t x y, v = .ref t ∧ H t = none ∧ H' = upd H t (.tup [x, y]) ∧ (∀ xs, SqL K H a xs → xs[i]? = some x) ∧ ∀ ys, SqT K H b ys → ys[i]? = some y,
    fun i H => ∃ xs ys : List V, SqL K H a xs ∧ SqT K H b ys ∧ (xs.length ≤ i ∨ ys.length ≤ i)⟩
theorem turn_zg {P : Program} {w : World} {K : PySem.W.Frag} {elts : List Expr} {kk : Nat} {tpos : Pos} {a b z ti to i1 i2 : Addr} (D : ZipApart z ti to i1 i2 a b) :
    Turn P w K (.Tuple elts kk tpos) (Itg K a b) [z, ti, to, i1, i2] z (fun i h => IsZip h z ti to .none ∧ IsPair h ti (.ref i1) (.ref i2) ∧ (∃ u v, IsPair h to u v) ∧ Wk true h i1 a i ∧ Wk false h i2 b i) where
  mem := by simp
  obj := fun i h st c hc => by
    obtain ⟨pz, pi, ⟨u, v, po⟩, w1, w2⟩ := st
    obtain ⟨o1, g1, d1⟩ := w1.obj
    obtain ⟨o2, g2, d2⟩ := w2.obj
    have cases5 : c = z ∨ c = ti ∨ c = to ∨ c = i1 ∨ c = i2 := by simpa using hc
    rcases cases5 with rfl | rfl | rfl | rfl | rfl
    · exact ⟨_, pz, fun _ q => nomatch q⟩
    · exact ⟨_, pi, fun _ q => nomatch q⟩
    · exact ⟨_, po, fun _ q => nomatch q⟩
    · exact ⟨o1, g1, d1⟩
    · exact ⟨o2, g2, d2⟩
  keep := fun i h h' st k => by
    obtain ⟨pz, pi, ⟨u, v, po⟩, w1, w2⟩ := st
    exact ⟨k z (by simp) _ pz, k ti (by simp) _ pi, ⟨u, v, k to (by simp) _ po⟩, w1.keep fun o q => k i1 (by simp) o q, w2.keep fun o q => k i2 (by simp) o q⟩
  item := by
    intro X hP hw hK hc i pins s σ H E I hf st hg
    subst hP hw hK
    obtain ⟨pz, pi, ⟨u0, v0, po⟩, w1, w2⟩ := st
    obtain ⟨xs, ys, x, y, sqx, sqy, hx, hy⟩ := hg
    obtain ⟨vx, rx, lx, _⟩ := I.list sqx
    obtain ⟨vy, ry, ly, _⟩ := I.tuple sqy
    obtain ⟨ux, hux, rux⟩ := rx.get hx
    obtain ⟨uy, huy, ruy⟩ := ry.get hy
    have zlt : z < s.heap.objs.size := Heap.lt_size pz
    refine zk_next D pz pi po w1 w2 (show Sk true s.heap a vx.toArray from lx.isList) (show Sk false s.heap b vy.toArray from ly) (x := ux) (y := uy) (by simpa using hux) (by simpa using huy) fun h1 z1 o1 w11 w21 new1 _ kp => ?_
    refine ⟨_, rfl, wpAny_letOwnedTupleGo_zip (s := { s with heap := h1 }) z1 fun h2 z2 sb => ?_⟩
    have new2 : h2.get? s.heap.objs.size = some { cls := .type "tuple", data := .seq #[ux, uy] } := (sb.2 _ (Nat.ne_of_gt zlt)).trans new1
    have okn : ObjOk X.prog X.w (upd H s.heap.objs.size (.tup [x, y])) h2 s.heap.objs.size (.tup [x, y]) := ⟨by show 2 ≤ sizeLine; decide, [ux, uy], .cons rux (.cons ruy .nil), ⟨_, new2, rfl, _, rfl⟩⟩
    have V1 : Inv X pins σ (upd H s.heap.objs.size (.tup [x, y])) { s with heap := h2 } := I.turnedNew (t' := s.toks) (ch := [z, ti, to, i1, i2]) (fun c o nb g => (sb.2 c fun q => nb (by simp [q])).trans (kp c o (fun q => nb (by simp [q])) (fun q => nb (by simp [q])) (fun q => nb (by simp [q])) (fun q => nb (by simp [q])) g)) hf (Nat.le_refl _) okn
    refine ⟨.ref s.heap.objs.size, _, V1, rfl, ⟨_, x, y, rfl, I.hok.fresh (Nat.le_refl _), rfl, fun l hl => by rw [I.list_inj hl sqx]; exact hx, fun l hl => by rw [I.tuple_inj hl sqy]; exact hy⟩, ⟨z2, (sb.2 _ D.TIz).trans (kp _ _ D.TIz D.TITO D.TIi1 D.TIi2 pi), ⟨ux, uy, (sb.2 _ D.TOz).trans o1⟩, w11.keep fun o g => (sb.2 _ D.i1z).trans g, w21.keep fun o g => (sb.2 _ D.i2z).trans g⟩, fun c hcm => ?_⟩
    have clt : c < s.heap.objs.size := by
      obtain ⟨o1, g1, _⟩ := w1.obj
      obtain ⟨o2, g2, _⟩ := w2.obj
      have cases5 : c = z ∨ c = ti ∨ c = to ∨ c = i1 ∨ c = i2 := by simpa using hcm
      rcases cases5 with rfl | rfl | rfl | rfl | rfl
      · exact zlt
      · exact Heap.lt_size pi
      · exact Heap.lt_size po
      · exact Heap.lt_size g1
      · exact Heap.lt_size g2
    rw [upd_ne (Nat.ne_of_lt clt)]
    exact (hf c hcm).1
  done := by
    intro X hP hw hK hc i pins s σ H E I hf st hg
    subst hP hw hK
    obtain ⟨pz, pi, ⟨u0, v0, po⟩, w1, w2⟩ := st
    obtain ⟨xs, ys, sqx, sqy, over⟩ := hg
    obtain ⟨vx, rx, lx, _⟩ := I.list sqx
    obtain ⟨vy, ry, ly, _⟩ := I.tuple sqy
    have nx := rx.length
    have ny := ry.length
    have over' : vx.toArray[i]? = none ∨ vy.toArray[i]? = none := over.imp (fun q => by simp; omega) (fun q => by simp; omega)
    exact zk_stop (I.ok.hd hc) D pz pi po w1 w2 (show Sk true s.heap a vx.toArray from lx.isList) (show Sk false s.heap b vy.toArray from ly) over' fun h1 kp => ⟨rfl, I.turnedL (t' := s.toks) (ch := [z, ti, to, i1, i2]) (fun c o nb g => kp c o (fun q => nb (by simp [q])) (fun q => nb (by simp [q])) (fun q => nb (by simp [q])) (fun q => nb (by simp [q])) g) hf⟩
  self := fun A i s Q E st h => wpAny_pyIter_zip st.1 h
def iZg (K : PySem.W.Frag) (ta : TA) : TI := fun σ H R => ta σ H fun vs H1 => ∃ a b xs ys, vs = [.ref a, .ref b] ∧ SqL K H1 a xs ∧ SqT K H1 b ys ∧ R (Itg K a b) H1
theorem pi_zg {X : Cx} {e e2 : Expr} {ta : TA} {p pos tpos : Pos} {elts : List Expr} {kk : Nat} (hg : Gl X "zip") (hm : X.mg "zip" = none) (ha : PA X [e, e2] ta)
    (hs : starEach [e, e2] X.env = (false, eval e X.env) :: starEach [e2] X.env) (hpl : (backTo pos (starEach [e2] X.env)).any (·.1) = false) : PI X (.Tuple elts kk tpos) (.Call (.Name "zip" p) [e, e2] [] pos) (iZg X.K ta) := by
  refine ⟨fun pins s σ H R I h => Call_ (ld_blt I hg hm PyProof.Rows.boot_zip (PyProof.Rows.callWith_type1 (thn (ha.run pos pins s σ H _ I h) fun us s1 ⟨vs, H1, I1, r1, q1⟩ => ?_) hs hpl))⟩
  obtain ⟨a, b, xs, ys, rfl, sqx, sqy, q⟩ := q1
  cases r1 with
  | cons ra rr =>
  cases rr with
  | cons rb rr =>
  cases rr
  cases ra
  cases rb
  obtain ⟨vx, rx, lx, _⟩ := I1.list sqx
  obtain ⟨vy, ry, ly, _⟩ := I1.tuple sqy
  have lta : a < s1.heap.objs.size := (show Sk true s1.heap a vx.toArray from lx.isList).lt
  have ltb : b < s1.heap.objs.size := (show Sk false s1.heap b vy.toArray from ly).lt
  refine call_zg lx.isList ly fun h1 pz pi po w1 w2 kp => wpAny_pyIter_zip pz ?_
  have V2 : Inv X pins σ H1 { s1 with heap := h1 } := I1.kept (t' := s1.toks) kp
  refine ⟨s1.heap.objs.size + 4, [s1.heap.objs.size + 4, s1.heap.objs.size + 2, s1.heap.objs.size + 3, s1.heap.objs.size, s1.heap.objs.size + 1], _, _, H1, rfl, V2, turn_zg (PySem.W.ktu_apart s1.heap.objs.size a b lta ltb), ⟨pz, pi, ⟨_, _, po⟩, w1, w2⟩, fun c hcm => ?_, q⟩
  have ge : s1.heap.objs.size ≤ c := by
    have cases5 : c = s1.heap.objs.size + 4 ∨ c = s1.heap.objs.size + 2 ∨ c = s1.heap.objs.size + 3 ∨ c = s1.heap.objs.size ∨ c = s1.heap.objs.size + 1 := by simpa using hcm
    rcases cases5 with q | q | q | q | q <;> rw [q] <;> first | exact Nat.le_add_right _ _ | exact Nat.le_refl _
  exact I1.fpOk ge (I1.hok.fresh ge)
section
variable {F : Fm} {C : Cs} {ρ : Rho} {k : Nat} {P : DE} {pos p p1 p2 tp : Pos} {a b : Expr} {x1 x2 : Str} {kk : Nat} {body : List Stmt}
/-- for x1, x2 in zip(a list, a tuple) of one length -/
theorem ws_for_zg (i1 i2 : Nat) (t1 : Tgt C i1 x1) (t2 : Tgt C i2 x2) (hK : F.K = C.K) (hg : C.sc.names.lookup ("zip" : Str) = some .globalImplicit) (hm : C.mg ("zip" : Str) = none)
    (hs : ∀ env : Env, starEach [a, b] env = (false, eval a env) :: starEach [b] env) (hs2 : ∀ env : Env, starEach [b] env = (false, eval b env) :: starEach [] env) (hpl : ∀ env : Env, (backTo pos (starEach [b] env)).any (·.1) = false) (hfs : ∀ (env : Env) (v : Value), foldedSetIterable (.Call (.Name "zip" p) [a, b] [] pos) env v = pure v)
    (h : WPE F C a ρ k fun k1 d => WPE F C b ρ k1 fun k2 d' => ∃ (I : Nat → Nat → Rho → Prop) (ds es : List PyData), d = .list ds ∧ d' = .tuple es ∧ ds.length = es.length ∧ I 0 k2 ρ ∧
      (∀ (j : Nat) (y z : PyData) k' ρ', ds[j]? = some y → es[j]? = some z → I j k' ρ' → WPB F C body ((ρ'.set i1 (.d y)).set i2 (.d z)) k' (P.loop (I (j + 1)))) ∧ (∀ k' ρ', I ds.length k' ρ' → P.nx k' ρ')) :
    WPS F C (.For (.Tuple [.Name x1 p1, .Name x2 p2] kk tp) (.Call (.Name "zip" p) [a, b] [] pos) body [] pos) ρ k P :=
  of_ps (t := tFor (iZg C.K (tCons (tE C a) (tCons (tE C b) tNil))) (gTup C.K 2 (gCons (gName i1) (gCons (gName i2) gNil))) (tB C body)) (fun X fx => ps_for (by rw [fx.xe]; exact PassesOwn.never) fx.calm
      (by rw [← fx.K]; exact pi_zg (by show X.env.scope.names.lookup ("zip" : Str) = _; rw [fx.sc]; exact hg) (by rw [fx.mg]; exact hm) (pa_cons (peE fx) (pa_cons (peE fx) pa_nil (hs2 X.env)) (hs X.env)) (hs X.env) (hpl X.env))
      (pgTup (n := 2) fx (pgs_cons (t1.pg fx) (pgs_cons (t2.pg fx) pgs_nil)) (by rfl) (by rfl)) (pbB fx) (hfs X.env)) fun σ H E en j q1 q2 q3 q4 => by
    show tE C a σ H _
    refine h σ H _ en j fun va da k1 H1 l1 j1 ra hh => ?_
    show tE C b σ H1 _
    refine hh σ H1 _ (en.le l1) j1 fun vb db k2 H2 l2 j2 rb hh => ?_
    obtain ⟨I, ds, es, e1, e2, hlen, i0, hstep, hend⟩ := hh
    subst e1 e2
    have ra := ra.le l2.lz
    cases ra with
    | @lst pa xs _ ha hra =>
    cases rb with
    | @tup pb ys _ hb hrb =>
    have l12 := l1.trans l2
    refine ⟨pa, pb, xs, ys, rfl, hK ▸ sql_of ha, hK ▸ sqt_of hb, ?_⟩
    have nx : xs.length = ds.length := hra.length
    have ny : ys.length = es.length := hrb.length
    refine ⟨fun n m σ' H' => m + n = xs.length ∧ ∃ k' ρ', EnvOk F H' σ' ρ' ∧ J F k' H' ∧ Lz F H2 H' ∧ I n k' ρ', ⟨xs.length, by omega, k2, ρ, (en.le l1).le l2, j2, .refl, i0⟩, ?_⟩
    rintro n m σ' H' ⟨hm', k', ρ', en', j', lz, ii⟩
    have sqa : SqL C.K H' pa xs := hK ▸ sql_of (K := F.K) (⟨lz _ _ (Fm.sxA ha.2) ha.1, ha.2⟩ : H' pa = some (.lst xs) ∧ ¬ F.S pa)
    have sqb : SqT C.K H' pb ys := hK ▸ sqt_of (K := F.K) (⟨lz _ _ (Fm.sxA hb.2) hb.1, hb.2⟩ : H' pb = some (.tup ys) ∧ ¬ F.S pb)
    by_cases over : n = xs.length
    · refine .inl ⟨⟨xs, ys, sqa, sqb, .inl (by omega)⟩, ?_⟩
      exact q1 ρ' σ' k' H' (l12.lz.trans lz) en' j' (hend k' ρ' (by rw [← nx, ← over]; exact ii))
    · have lt1 : n < xs.length := by omega
      have lt2 : n < ys.length := by omega
      refine .inr ⟨⟨xs, ys, xs[n], ys[n], sqa, sqb, List.getElem?_eq_getElem lt1, List.getElem?_eq_getElem lt2⟩, fun σ2 H2' => ∃ k' ρ', EnvOk F H2' σ2 ρ' ∧ J F k' H2' ∧ Lz F H2 H2' ∧ I (n + 1) k' ρ', fun σ2 H2' w => ⟨m - 1, by omega, by omega, w⟩, ?_⟩
      rintro v H3 ⟨t, x, y, rfl, ht, rfl, fx1, fy1⟩
      have hx := fx1 xs sqa
      have hy := fy1 ys sqb
      obtain ⟨dx, hdx, rdx⟩ := hra.got hx
      obtain ⟨dy, hdy, rdy⟩ := hrb.got hy
      have lnew : Le F H' (upd H' t (.tup [x, y])) := .new ht
      have rx2 := (rdx.le lz).le lnew.lz
      have ry2 := (rdy.le lz).le lnew.lz
      refine ⟨t, [x, y], rfl, .inl (.inl upd_same), rfl, x, [y], rfl, y, [], rfl, rfl, ?_⟩
      refine hstep n dx dy k' ρ' hdx hdy ii _ _ _ (((en'.le lnew).set (sv := .d dx) ⟨_, rfl, rx2⟩).set (sv := .d dy) ⟨_, rfl, ry2⟩) (j'.new ht) ?_ q2 ?_ ?_
      · exact fun ρ2 σ2 k2' H2' l2' e2 j2' p => ⟨k2', ρ2, e2, j2', (lz.trans lnew.lz).trans l2', p⟩
      · exact fun ρ2 σ2 k2' H2' l2' e2 j2' p => q1 ρ2 σ2 k2' H2' (l12.lz.trans ((lz.trans lnew.lz).trans l2')) e2 j2' p
      · exact fun ρ2 σ2 k2' H2' l2' e2 j2' p => ⟨k2', ρ2, e2, j2', (lz.trans lnew.lz).trans l2', p⟩
end
end Dl

namespace Dl
open PySem PySem.Spec PyProof.Rows L2
/-! ### isinstance(data, a built-in type) -/
def tyN : PyData → String
  | .none => "NoneType"
  | .bool _ => "bool"
  | .int _ => "int"
  | .str _ => "str"
  | .list _ => "list"
  | .tuple _ => "tuple"
  | .dict _ => "dict"
def isiD (T : String) : PyData → Bool
  | .none => T == "NoneType"
  | .bool _ => T == "bool" || T == "int"
  | .int _ => T == "int"
  | .str _ => T == "str"
  | .list _ => T == "list"
  | .tuple _ => T == "tuple"
  | .dict _ => T == "dict"
theorem kit_int (K : PySem.W.Frag) (d : PyData) : PySem.W.kitOne K (.type (tyN d)) (.type "int") = some (isiD "int" d) := by cases d <;> kernel_rfl
theorem kit_bool (K : PySem.W.Frag) (d : PyData) : PySem.W.kitOne K (.type (tyN d)) (.type "bool") = some (isiD "bool" d) := by cases d <;> kernel_rfl
theorem kit_tuple (K : PySem.W.Frag) (d : PyData) : PySem.W.kitOne K (.type (tyN d)) (.type "tuple") = some (isiD "tuple" d) := by cases d <;> kernel_rfl
theorem kit_str (K : PySem.W.Frag) (d : PyData) : PySem.W.kitOne K (.type (tyN d)) (.type "str") = some (isiD "str" d) := by cases d <;> kernel_rfl
theorem kit_list (K : PySem.W.Frag) (d : PyData) : PySem.W.kitOne K (.type (tyN d)) (.type "list") = some (isiD "list" d) := by cases d <;> kernel_rfl
theorem ty_rep {F : Fm} {H : Hp} {v : V} {d : PyData} (r : Rp F H v d) : TyX F.K H v (.type (tyN d)) := by
  cases r with
  | non => exact .base .non
  | bl b => exact .base (.bl b)
  | int i => exact .base (.int i)
  | str x => exact .base (.str x)
  | lst h _ => exact .base (.lst h.1)
  | tup h _ => exact .base (.tup h.1)
  | dct h _ => exact .base (.dK h.1)
section
variable {F : Fm} {C : Cs} {ρ : Rho} {k : Nat} {Φ : Nat → PyData → Prop} {pos p p2 : Pos} {e : Expr} {x : Str}
theorem we_isi (T : String) (kit : ∀ (K : PySem.W.Frag) (d : PyData), PySem.W.kitOne K (.type (tyN d)) (.type T) = some (isiD T d)) (hK : F.K = C.K) (hg : C.sc.names.lookup ("isinstance" : Str) = some .globalImplicit) (hm : C.mg ("isinstance" : Str) = none) (hg2 : C.sc.names.lookup x = some .globalImplicit) (hm2 : C.mg x = none) (hx : bootBuiltins x = some (.type T)) (hxn : x ≠ "__name__") (hxd : (x == ("__debug__" : Str)) = false)
    (hs : ∀ env : Env, starEach [e, .Name x p2] env = (false, eval e env) :: starEach [.Name x p2] env)
    (h : WPE F C e ρ k fun k1 d => Φ k1 (.bool (isiD T d))) : WPE F C (.Call (.Name "isinstance" p) [e, .Name x p2] [] pos) ρ k Φ :=
  of_pe (t := tCB (rIsi C.K) (tCons (tE C e) (tCons (tC (.ty T)) tNil))) (fun X fx => pe_callB (by rw [← fx.K]; exact call_isi) (by show X.env.scope.names.lookup ("isinstance" : Str) = _; rw [fx.sc]; exact hg) (by rw [fx.mg]; exact hm) (by decide +kernel)
      (pa_cons (peE fx) (pa_cons (pe_bltn (v := .ty T) (by show X.env.scope.names.lookup x = _; rw [fx.sc]; exact hg2) (by rw [fx.mg]; exact hm2) hx rfl hxn hxd) pa_nil) (hs X.env)) (by decide) (by decide) (hs X.env) rfl) fun σ H Q en j q => by
    show tE C e σ H _
    refine h σ H _ en j fun v d k1 H1 l1 j1 r hp => ?_
    refine ⟨v, .ty T, _, _, isiD T d, rfl, .ty T, hK ▸ ty_rep r, kit _ d, q _ _ k1 H1 l1 j1 (.bl _) hp⟩
end
section
variable {F : Fm} {C : Cs} {ρ : Rho} {k : Nat} {Ψ : Nat → Bool → Prop} {pos : Pos} {a b : Expr}
theorem wt_isnB (h : WPE F C a ρ k fun k1 x => WPE F C b ρ k1 fun k2 y => ∃ c c', x = .bool c ∧ y = .bool c' ∧ Ψ k2 (!decide (c = c'))) : WPT F C (.Compare a [.IsNot] [b] pos) ρ k Ψ :=
  wt_cmp (fun X _ => op_isnot_bl) (nomark _) (h.imp fun k1 x h1 => h1.imp fun k2 y ⟨c, c', e1, e2, p⟩ => by
    subst e1 e2
    intro H vx vy Q j rx ry q
    cases rx
    cases ry
    exact ⟨c, c', rfl, rfl, q _ _ k2 H .refl j (.bl _) ⟨_, rfl, p⟩⟩)
end
end Dl

set_option maxHeartbeats 2000000
namespace Dl
open PySem PySem.Spec PyProof.Rows L2
/-! ### [.. for a, b in ..] where each turn makes a new pair: enumerate(list), zip(list, tuple) -/
structure PI2 (F : Fm) (Jt : It) (H1 : Hp) (ds : List (PyData × PyData)) : Prop where
  go : ∀ D, H1 D = none → ∀ n d, ds[n]? = some d → ∃ x y, Rp (F.ext D) (upd H1 D (.lst [])) x d.1 ∧ Rp (F.ext D) (upd H1 D (.lst [])) y d.2 ∧ ∀ H', Lz (F.ext D) (upd H1 D (.lst [])) H' → Jt.go n H' ∧ ∀ v H'', Jt.yld n H' v H'' → ∃ T, v = .ref T ∧ H' T = none ∧ H'' = upd H' T (.tup [x, y])
  stop : ∀ D, H1 D = none → ∀ H', Lz (F.ext D) (upd H1 D (.lst [])) H' → Jt.stop ds.length H'
section
variable {F : Fm} {C : Cs} {ρ : Rho} {k : Nat} {Φ : Nat → PyData → Prop}
theorem we_lcG (i i1 : Nat) (hne1 : i ≠ i1) {wi : TI} {K : PySem.W.Frag} (hK : F.K = K) {tt : TT} {te : TE}
    (h : ∀ (σ : L2.St) (H : Hp) (R : It → Hp → Prop), EnvOk F H σ ρ → J F k H → (∀ (Jt : It) (k1 : Nat) (H1 : Hp) (ds : List (PyData × PyData)), Le F H H1 → J F k1 H1 → PI2 F Jt H1 ds →
      (∃ I : Nat → Nat → List PyData → Prop, ds.length ≤ 1000000 ∧ I 0 k1 [] ∧ (∀ D (j : Nat) (d : PyData × PyData) k' acc, ds[j]? = some d → I j k' acc → WT (F.ext D) tt ((ρ.set i (.d d.1)).set i1 (.d d.2)) k' fun k1 b => if b = true then WE (F.ext D) te ((ρ.set i (.d d.1)).set i1 (.d d.2)) k1 fun k2 z => I (j + 1) k2 (acc ++ [z]) else I (j + 1) k1 acc) ∧ (∀ k' acc, I ds.length k' acc → Φ k' (.list acc))) → R Jt H1) → wi σ H R) :
    WE F (tLc wi (gTup K 2 (gCons (gName i) (gCons (gName i1) gNil))) tt te [i, i1]) ρ k Φ := fun σ H Q en j q => by
  show wi σ H _
  refine h σ H _ en j fun Jt k1 H1 ds l1 j1 pi ⟨I, hz, i0, hstep, hend⟩ => fun D hD => ?_
  have en1 := en.le l1
  have hM : ¬ F.M D := fun z => F.gl _ _ j1.g D z hD
  have hS : ¬ F.S D := j1.fresh hD
  have h0 : F.H0 D = none := j1.h0 hM hD
  have hne : ∀ (i : Nat) o xs, ρ[i]? = some (SV.own o xs) → o ≠ D := fun i o xs e => by
    obtain ⟨x, _, s⟩ := en1 i _ e
    obtain ⟨_, _, _, _, vs, h1, _⟩ := s
    exact ne_of_none h1 hD
  refine ⟨fun n m H' => m + n = ds.length ∧ ∃ k' vs acc, acc.length ≤ n ∧ EnvOk (F.ext D) H' σ ρ ∧ J (F.ext D) k' H' ∧ LeD (F.ext D) D (upd H1 D (.lst [])) H' ∧ H' D = some (.lst vs) ∧ RpAll (F.ext D) H' vs acc ∧ I n k' acc,
    ⟨ds.length, by omega, k1, [], [], Nat.le_refl _, en1.ext hD, (j1.new hD).ext (lv_new fun _ z => nomatch z), .refl, upd_same, .nil, i0⟩, ?_⟩
  rintro n m H' ⟨hm', k', vs, acc, hle, en', j', ld, hd, ra, ii⟩
  have lz := ld.lz (F := F.ext D) (.inr rfl)
  by_cases over : n = ds.length
  · subst over
    refine .inl ⟨pi.stop D hD H' lz, ?_⟩
    refine q (.ref D) (.list acc) k' H' ?_ j'.unext (.lst ⟨hd, hS⟩ ra.unext) (hend k' acc ii)
    exact fun b o n e => ld b o n (ne_of_none (l1 b o n e) hD) (by rw [upd_ne (ne_of_none (l1 b o n e) hD)]; exact l1 b o n e)
  · have lt : n < ds.length := by omega
    obtain ⟨x, y, rx, ry, gy⟩ := pi.go D hD n ds[n] (List.getElem?_eq_getElem lt)
    obtain ⟨hgo, hyl⟩ := gy H' lz
    refine .inr ⟨hgo, fun H2' => ∃ k' vs acc, acc.length ≤ n + 1 ∧ EnvOk (F.ext D) H2' σ ρ ∧ J (F.ext D) k' H2' ∧ LeD (F.ext D) D (upd H1 D (.lst [])) H2' ∧ H2' D = some (.lst vs) ∧ RpAll (F.ext D) H2' vs acc ∧ I (n + 1) k' acc, fun H2' w => ⟨m - 1, by omega, by omega, w⟩, ?_⟩
    intro v H'' yy
    obtain ⟨t, rfl, ht, rfl⟩ := hyl v H'' yy
    have lnew : Le (F.ext D) H' (upd H' t (.tup [x, y])) := .new ht
    have rx2 := (rx.le lz).le lnew.lz
    have ry2 := (ry.le lz).le lnew.lz
    have hdt : D ≠ t := ne_of_none hd ht
    refine ⟨t, [x, y], rfl, .inl (.inl upd_same), rfl, x, [y], rfl, y, [], rfl, rfl, ?_⟩
    rw [wipe3 hne1]
    refine ⟨wipe3' hne1 σ, ?_⟩
    refine lc_turn (F := F.ext D) (I := fun k acc => I (n + 1) k acc) hM (.inr rfl) h0 (((en'.le lnew).set (sv := .d ds[n].1) ⟨x, rfl, rx2⟩).set (sv := .d ds[n].2) ⟨y, rfl, ry2⟩) (j'.new ht) (by rw [upd_ne hdt]; exact hd) (ra.le lnew.lz) (Nat.lt_of_le_of_lt (show acc.length ≤ 1000000 by omega) (by decide)) (hstep D n ds[n] k' acc (List.getElem?_eq_getElem lt) ii) fun H2 k2 vs2 acc2 hl2 ld2 hd2 ra2 j2 i2 => ?_
    exact ⟨k2, vs2, acc2, by omega, (en'.le lnew).ld ld2 (.inr rfl) hne, j2, (ld.trans lnew.ld).trans ld2, hd2, ra2, i2⟩
end
section
variable {F : Fm} {C : Cs} {ρ : Rho} {k : Nat} {Φ : Nat → PyData → Prop} {P : DE} {pos spos : Pos} {elt e e2 c : Expr} {scope : Scope} {x x1 : Str} {px px1 p3 pr pr2 : Pos} {kk : Nat}
/-- enumerate as pairs -/
def enD : Nat → List PyData → List (PyData × PyData)
  | _, [] => []
  | n, d :: ds => (.int (n : Int), d) :: enD (n + 1) ds
theorem enD_len : ∀ (n : Nat) (ds : List PyData), (enD n ds).length = ds.length
  | _, [] => rfl
  | n, d :: ds => by show (enD (n + 1) ds).length + 1 = _; rw [enD_len (n + 1) ds]; rfl
theorem enD_get : ∀ (n : Nat) (ds : List PyData) (j : Nat), (enD n ds)[j]? = ds[j]?.map fun d => (.int ((n + j : Nat) : Int), d)
  | _, [], j => by cases j <;> rfl
  | n, d :: ds, 0 => rfl
  | n, d :: ds, j + 1 => by
    show (enD (n + 1) ds)[j]? = _
    rw [enD_get (n + 1) ds j]
    show _ = ds[j]?.map _
    congr 1; funext d; rw [show n + 1 + j = n + (j + 1) by omega]
theorem pi2_enum {Jt : It} {H1 : Hp} {a : Addr} {xs : List V} {ds : List PyData} (ha : H1 a = some (.lst xs) ∧ ¬ F.S a) (hr : RpAll F H1 xs ds) : PI2 F (Ite F.K a) H1 (enD 0 ds) where
  go := fun D hD n d hd => by
    rw [enD_get, Option.map_eq_some_iff] at hd
    obtain ⟨y, hy, rfl⟩ := hd
    have rr : Rp (F.ext D) (upd H1 D (.lst [])) (.ref a) (.list ds) := Rep.ext (.lst ha hr) hD
    cases rr with
    | @lst _ xs' _ ha' hr' =>
    have hn : n < xs'.length := by rw [hr'.length]; exact (List.getElem?_eq_some_iff.mp hy).1
    obtain ⟨y', hy', ry'⟩ := hr'.got (List.getElem?_eq_getElem hn)
    rw [hy] at hy'
    cases hy'
    refine ⟨.int ((0 + n : Nat) : Int), xs'[n], .int _, ry', fun H' lz => ?_⟩
    have sq : SqL F.K H' a xs' := sql_of (S := (F.ext D).S) ⟨lz _ _ (Fm.sxA ha'.2) ha'.1, ha'.2⟩
    refine ⟨⟨xs', xs'[n], sq, List.getElem?_eq_getElem hn⟩, ?_⟩
    rintro v H'' ⟨T, x, rfl, hT, rfl, hx⟩
    have := hx xs' sq
    rw [List.getElem?_eq_getElem hn] at this
    cases this
    exact ⟨T, rfl, hT, by rw [Nat.zero_add]⟩
  stop := fun D hD H' lz => by
    have rr : Rp (F.ext D) (upd H1 D (.lst [])) (.ref a) (.list ds) := Rep.ext (.lst ha hr) hD
    cases rr with
    | @lst _ xs' _ ha' hr' =>
    have sq : SqL F.K H' a xs' := sql_of (S := (F.ext D).S) ⟨lz _ _ (Fm.sxA ha'.2) ha'.1, ha'.2⟩
    exact ⟨xs', sq, by rw [enD_len, hr'.length]; exact Nat.le_refl _⟩
theorem pi2_zg {H1 : Hp} {a b : Addr} {xs ys : List V} {ds es : List PyData} (ha : H1 a = some (.lst xs) ∧ ¬ F.S a) (hr : RpAll F H1 xs ds) (hb : H1 b = some (.tup ys) ∧ ¬ F.S b) (hs : RpAll F H1 ys es) (hl : ds.length = es.length) : PI2 F (Itg F.K a b) H1 (ds.zip es) where
  go := fun D hD n d hd => by
    obtain ⟨h1, h2⟩ := List.getElem?_zip_eq_some.mp hd
    have rr : Rp (F.ext D) (upd H1 D (.lst [])) (.ref a) (.list ds) := Rep.ext (.lst ha hr) hD
    have ss : Rp (F.ext D) (upd H1 D (.lst [])) (.ref b) (.tuple es) := Rep.ext (.tup hb hs) hD
    cases rr with
    | @lst _ xs' _ ha' hr' =>
    cases ss with
    | @tup _ ys' _ hb' hs' =>
    have hn : n < xs'.length := by rw [hr'.length]; exact (List.getElem?_eq_some_iff.mp h1).1
    have hn2 : n < ys'.length := by rw [hs'.length]; exact (List.getElem?_eq_some_iff.mp h2).1
    obtain ⟨x', hx', rx'⟩ := hr'.got (List.getElem?_eq_getElem hn)
    obtain ⟨y', hy', ry'⟩ := hs'.got (List.getElem?_eq_getElem hn2)
    rw [h1] at hx'
    rw [h2] at hy'
    cases hx'
    cases hy'
    refine ⟨xs'[n], ys'[n], rx', ry', fun H' lz => ?_⟩
    have sq : SqL F.K H' a xs' := sql_of (S := (F.ext D).S) ⟨lz _ _ (Fm.sxA ha'.2) ha'.1, ha'.2⟩
    have st : SqT F.K H' b ys' := sqt_of (S := (F.ext D).S) ⟨lz _ _ (Fm.sxA hb'.2) hb'.1, hb'.2⟩
    refine ⟨⟨xs', ys', xs'[n], ys'[n], sq, st, List.getElem?_eq_getElem hn, List.getElem?_eq_getElem hn2⟩, ?_⟩
    rintro v H'' ⟨T, x, y, rfl, hT, rfl, hx, hy⟩
    have e1 := hx xs' sq
    have e2 := hy ys' st
    rw [List.getElem?_eq_getElem hn] at e1
    rw [List.getElem?_eq_getElem hn2] at e2
    cases e1
    cases e2
    exact ⟨T, rfl, hT, rfl⟩
  stop := fun D hD H' lz => by
    have rr : Rp (F.ext D) (upd H1 D (.lst [])) (.ref a) (.list ds) := Rep.ext (.lst ha hr) hD
    have ss : Rp (F.ext D) (upd H1 D (.lst [])) (.ref b) (.tuple es) := Rep.ext (.tup hb hs) hD
    cases rr with
    | @lst _ xs' _ ha' hr' =>
    cases ss with
    | @tup _ ys' _ hb' hs' =>
    have sq : SqL F.K H' a xs' := sql_of (S := (F.ext D).S) ⟨lz _ _ (Fm.sxA ha'.2) ha'.1, ha'.2⟩
    have st : SqT F.K H' b ys' := sqt_of (S := (F.ext D).S) ⟨lz _ _ (Fm.sxA hb'.2) hb'.1, hb'.2⟩
    refine ⟨xs', ys', sq, st, .inl ?_⟩
    rw [List.length_zip, hr'.length]; omega
/-- [elt for x, x1 in enumerate(e)], e a list -/
theorem we_compE (i i1 : Nat) (hne : i ≠ i1) (b : Blk2 C scope i x i1 x1) (hK : F.K = C.K) (hg : C.sc.names.lookup ("enumerate" : Str) = some .globalImplicit) (hm : C.mg ("enumerate" : Str) = none)
    (hse : ∀ env : Env, starEach [e] env = [(false, eval e env)]) (hs : ∀ (env : Env) (v : Value), foldedSetIterable (.Call (.Name "enumerate" pr) [e] [] pr2) env v = pure v) (g : Nat → PyData → PyData)
    (h : WPE F C e ρ k fun k1 d => ∃ ds : List PyData, d = .list ds ∧ ds.length ≤ 1000000 ∧ (∀ D (j : Nat) (y : PyData), ds[j]? = some y → WPE (F.ext D) (C.blk scope) elt ((ρ.set i (.d (.int (j : Int)))).set i1 (.d y)) k1 fun k2 z => k2 = k1 ∧ z = g j y) ∧ Φ k1 (.list (ds.mapIdx g))) :
    WPE F C (.ListComp elt [⟨.Tuple [.Name x px, .Name x1 px1] kk p3, .Call (.Name "enumerate" pr) [e] [] pr2, [], 0⟩] scope pos) ρ k Φ :=
  of_pe (fun X fx => pe_lc (own := [(x, i), (x1, i1)]) (wi := iEnum C.K (tCons (tE C e) tNil)) fx.calm (by rw [fx.N]; exact b.t.hN) (by rw [← fx.K]; exact pi_enum (by show X.env.scope.names.lookup ("enumerate" : Str) = _; rw [fx.sc]; exact hg) (by rw [fx.mg]; exact hm) (pa_cons (peE fx) pa_nil (hse X.env)) (hse X.env)) (by rw [fx.N, fx.sc]; exact b.ok) (fun s H a cl fp => pgTup (n := 2) (fx.blk s H scope a cl fp) (pgs_cons (b.t.pg (fx.blk s H scope a cl fp)) (pgs_cons (b.t1.pg (fx.blk s H scope a cl fp)) pgs_nil)) (by rfl) (by rfl)) (fun s H a cl fp => pts_nil) (fun s H a cl fp => peE (fx.blk s H scope a cl fp)) (hs X.env))
    (we_lcG i i1 hne hK fun σ H R en j q => by
      show tE C e σ H _
      refine h σ H _ en j fun v d k1 H1 l1 j1 r ⟨ds, e, hz, hstep, hend⟩ => ?_
      subst e
      cases r with
      | @lst a xs _ ha hr =>
      refine ⟨a, xs, rfl, hK ▸ sql_of ha, ?_⟩
      rw [← hK]
      refine q _ k1 H1 (enD 0 ds) l1 j1 (pi2_enum (Jt := Ite F.K a) ha hr) ⟨fun n k' acc => k' = k1 ∧ acc = (ds.take n).mapIdx g, by rw [enD_len]; exact hz, ⟨rfl, by simp⟩, ?_, ?_⟩
      · rintro D n d k' acc hd ⟨rfl, rfl⟩
        rw [enD_get, Option.map_eq_some_iff] at hd
        obtain ⟨y, hy, rfl⟩ := hd
        refine wt_yes ?_
        rw [if_pos rfl]
        have := hstep D n y hy
        rw [Nat.zero_add]
        refine this.imp fun k2 z ⟨e1, e2⟩ => ⟨e1, ?_⟩
        have hn : n < ds.length := (List.getElem?_eq_some_iff.mp hy).1
        rw [take_next hy, List.mapIdx_append, List.length_take, Nat.min_eq_left (Nat.le_of_lt hn), e2]
        simp
      · rintro k' acc ⟨rfl, rfl⟩
        rw [enD_len, List.take_length]
        exact hend)
/-- [elt for x, x1 in zip(e, e2)], e a list and e2 a tuple of one length -/
theorem we_compZ (i i1 : Nat) (hne : i ≠ i1) (b : Blk2 C scope i x i1 x1) (hK : F.K = C.K) (hg : C.sc.names.lookup ("zip" : Str) = some .globalImplicit) (hm : C.mg ("zip" : Str) = none)
    (hs0 : ∀ env : Env, starEach [e, e2] env = (false, eval e env) :: starEach [e2] env) (hs2 : ∀ env : Env, starEach [e2] env = (false, eval e2 env) :: starEach [] env) (hpl : ∀ env : Env, (backTo pr2 (starEach [e2] env)).any (·.1) = false) (hs : ∀ (env : Env) (v : Value), foldedSetIterable (.Call (.Name "zip" pr) [e, e2] [] pr2) env v = pure v) (g : PyData → PyData → PyData)
    (h : WPE F C e ρ k fun k1 d => WPE F C e2 ρ k1 fun k2 d' => ∃ ds es : List PyData, d = .list ds ∧ d' = .tuple es ∧ ds.length = es.length ∧ ds.length ≤ 1000000 ∧ (∀ D (j : Nat) (y z : PyData), ds[j]? = some y → es[j]? = some z → WPE (F.ext D) (C.blk scope) elt ((ρ.set i (.d y)).set i1 (.d z)) k2 fun k3 u => k3 = k2 ∧ u = g y z) ∧ Φ k2 (.list (List.zipWith g ds es))) :
    WPE F C (.ListComp elt [⟨.Tuple [.Name x px, .Name x1 px1] kk p3, .Call (.Name "zip" pr) [e, e2] [] pr2, [], 0⟩] scope pos) ρ k Φ :=
  of_pe (fun X fx => pe_lc (own := [(x, i), (x1, i1)]) (wi := iZg C.K (tCons (tE C e) (tCons (tE C e2) tNil))) fx.calm (by rw [fx.N]; exact b.t.hN) (by rw [← fx.K]; exact pi_zg (by show X.env.scope.names.lookup ("zip" : Str) = _; rw [fx.sc]; exact hg) (by rw [fx.mg]; exact hm) (pa_cons (peE fx) (pa_cons (peE fx) pa_nil (hs2 X.env)) (hs0 X.env)) (hs0 X.env) (hpl X.env)) (by rw [fx.N, fx.sc]; exact b.ok) (fun s H a cl fp => pgTup (n := 2) (fx.blk s H scope a cl fp) (pgs_cons (b.t.pg (fx.blk s H scope a cl fp)) (pgs_cons (b.t1.pg (fx.blk s H scope a cl fp)) pgs_nil)) (by rfl) (by rfl)) (fun s H a cl fp => pts_nil) (fun s H a cl fp => peE (fx.blk s H scope a cl fp)) (hs X.env))
    (we_lcG i i1 hne hK fun σ H R en j q => by
      show tE C e σ H _
      refine h σ H _ en j fun v d k1 H1 l1 j1 r hh => ?_
      show tE C e2 σ H1 _
      refine hh σ H1 _ (en.le l1) j1 fun v2 d2 k2 H2 l2 j2 r2 ⟨ds, es, e1, e2, hl, hz, hstep, hend⟩ => ?_
      subst e1 e2
      have r := r.le l2.lz
      cases r with
      | @lst a xs _ ha hr =>
      cases r2 with
      | @tup b ys _ hb hrb =>
      refine ⟨a, b, xs, ys, rfl, hK ▸ sql_of ha, hK ▸ sqt_of hb, ?_⟩
      rw [← hK]
      have hlz : (ds.zip es).length = ds.length := by rw [List.length_zip]; omega
      refine q _ k2 H2 (ds.zip es) (l1.trans l2) j2 (pi2_zg ha hr hb hrb hl) ⟨fun n k' acc => k' = k2 ∧ acc = ((ds.zip es).take n).map fun p => g p.1 p.2, by rw [hlz]; exact hz, ⟨rfl, by simp⟩, ?_, ?_⟩
      · rintro D n d k' acc hd ⟨rfl, rfl⟩
        obtain ⟨h1, h2⟩ := List.getElem?_zip_eq_some.mp hd
        refine wt_yes ?_
        rw [if_pos rfl]
        refine (hstep D n d.1 d.2 h1 h2).imp fun k2 z ⟨e1, e2⟩ => ⟨e1, ?_⟩
        rw [take_next hd, List.map_append, e2]; rfl
      · rintro k' acc ⟨rfl, rfl⟩
        rw [List.take_length]
        rw [List.zip, List.map_zipWith]; exact hend)
end
/-! ### all, any of a list of bools -/
section
variable {F : Fm} {C : Cs} {ρ : Rho} {k : Nat} {Φ : Nat → PyData → Prop} {pos p : Pos} {e : Expr}
theorem RpAll.bls {H : Hp} : ∀ {bs : List Bool} {vs : List V}, RpAll F H vs (bs.map PyData.bool) → vs = bs.map V.bl
  | [], _, h => by cases h; rfl
  | b :: bs, _, h => by
    cases h with
    | cons r1 r2 =>
    cases r1
    rw [RpAll.bls r2]; rfl
theorem allK {X : Cx} (fx : Fits C X) : CallR X (.builtin "all") (rAll C.K) := by rw [← fx.K]; exact cr_all fx.calm
theorem anyK {X : Cx} (fx : Fits C X) : CallR X (.builtin "any") (rAny C.K) := by rw [← fx.K]; exact cr_any fx.calm
theorem we_all (hK : F.K = C.K) (hg : C.sc.names.lookup ("all" : Str) = some .globalImplicit) (hm : C.mg ("all" : Str) = none) (hs : ∀ env : Env, starEach [e] env = (false, eval e env) :: starEach [] env) (h : WPE F C e ρ k fun k1 x => ∃ bs : List Bool, x = .list (bs.map PyData.bool) ∧ Φ k1 (.bool (bs.all id))) : WPE F C (.Call (.Name "all" p) [e] [] pos) ρ k Φ :=
  we_callB (id := "all") (fun X fx => allK fx) hg hm (by decide +kernel) (wa_one hs (h.imp fun k1 x ⟨ns, e, p⟩ => fun H vs Q j r q => by
    subst e
    cases r with
    | cons r1 r2 =>
    cases r2
    cases r1 with
    | @lst a xs _ ha hr => exact ⟨a, ns, rfl, RpAll.bls hr ▸ hK ▸ sql_of ha, q _ _ k1 H .refl j (.bl _) p⟩)) (by decide) (by decide) hs
theorem we_any (hK : F.K = C.K) (hg : C.sc.names.lookup ("any" : Str) = some .globalImplicit) (hm : C.mg ("any" : Str) = none) (hs : ∀ env : Env, starEach [e] env = (false, eval e env) :: starEach [] env) (h : WPE F C e ρ k fun k1 x => ∃ bs : List Bool, x = .list (bs.map PyData.bool) ∧ Φ k1 (.bool (bs.any id))) : WPE F C (.Call (.Name "any" p) [e] [] pos) ρ k Φ :=
  we_callB (id := "any") (fun X fx => anyK fx) hg hm (by decide +kernel) (wa_one hs (h.imp fun k1 x ⟨ns, e, p⟩ => fun H vs Q j r q => by
    subst e
    cases r with
    | cons r1 r2 =>
    cases r2
    cases r1 with
    | @lst a xs _ ha hr => exact ⟨a, ns, rfl, RpAll.bls hr ▸ hK ▸ sql_of ha, q _ _ k1 H .refl j (.bl _) p⟩)) (by decide) (by decide) hs
end
/-! ### xs[e:] of a list -/
section
variable {F : Fm} {C : Cs} {ρ : Rho} {k : Nat} {Φ : Nat → PyData → Prop} {pos p2 : Pos} {a e : Expr}
theorem RpAll.drp {H : Hp} : ∀ {ds : List PyData} {vs : List V} (m : Nat), RpAll F H vs ds → RpAll F H (vs.drop m) (ds.drop m)
  | _, _, 0, h => h
  | _, _, m + 1, h => by
    cases h with
    | nil => exact .nil
    | cons r1 r2 => exact RpAll.drp m r2
theorem we_sliceF (hK : F.K = C.K) (h : WPE F C a ρ k fun k1 x => WPE F C e ρ k1 fun k2 y => ∃ ds, ∃ m : Nat, x = .list ds ∧ y = .int (m : Int) ∧ Φ k2 (.list (ds.drop m))) : WPE F C (.Subscript a (.Slice (some e) none none p2) pos) ρ k Φ :=
  of_pe (fun X fx => pe_slice (slLK fx) (peE fx) (po_some (peE fx)) po_none) fun σ H Q en j q => by
    show tE C a σ H _
    refine h σ H _ en j fun v d k1 H1 l1 j1 r hx => ?_
    show tE C e σ H1 _
    refine hx σ H1 _ (en.le l1) j1 fun vy y k2 H2 l2 j2 r2 ⟨ds, m, e1, e2, p⟩ => ?_
    subst e1 e2
    have r' := r.le l2.lz
    cases r' with
    | @lst a xs _ ha hr =>
    cases r2
    refine ⟨(m : Int), rfl, a, xs, rfl, hK ▸ sql_of ha, fun l hl => ?_⟩
    have ec : cutV xs (some (m : Int)) none = xs.drop m := by
      unfold cutV
      rw [HT.sIx_nat, HT.sIx_none]
      by_cases hm : m ≤ xs.length
      · rw [Nat.min_eq_left hm, List.take_of_length_le (by rw [List.length_drop]; exact Nat.le_refl _)]
      · rw [Nat.min_eq_right (by omega), Nat.sub_self, List.take_zero, List.drop_of_length_le (by omega)]
    rw [ec]
    exact q _ _ k2 _ ((l1.trans l2).trans (.new hl)) (j2.new hl) (rep_newL j2 hl (RpAll.drp m hr)) p
end
end Dl

namespace Dl
open PySem PySem.Spec PyProof.Rows L2
section
variable {F : Fm} {C : Cs} {ρ : Rho} {k : Nat} {Φ : Nat → PyData → Prop} {pos p p1 p2 p3 px : Pos} {x : Str}
/-- sorted(own list of ints) -/
theorem we_sortOwnI (i : Nat) {o : Addr} {ns : List Int} (hK : F.K = C.K) (hN : C.N[i]? = some x) (hv : Vis C.sc x) (hr : ρ[i]? = some (.own o (ns.map PyData.int))) (hg : C.sc.names.lookup ("sorted" : Str) = some .globalImplicit) (hm : C.mg ("sorted" : Str) = none)
    (h : ∀ ms : List Int, ms.Perm ns → ms.Pairwise (· ≤ ·) → Φ k (.list (ms.map PyData.int))) (hd : (x == ("__debug__" : Str)) = false := by decide) (hcd : (x == ("__classdict__" : Str)) = false := by decide) (hse : ∀ env : Env, starEach [.Name x px] env = (false, eval (.Name x px) env) :: starEach [] env := by intro _; rfl) :
    WPE F C (.Call (.Name "sorted" p) [.Name x px] [] pos) ρ k Φ :=
  of_pe (fun X fx => pe_callB (srtK fx) (by show X.env.scope.names.lookup ("sorted" : Str) = _; rw [fx.sc]; exact hg) (by rw [fx.mg]; exact hm) (by decide +kernel) (pa_cons (pe_var (i := i) (by rw [fx.N]; exact hN) (by rw [fx.sc]; exact hv) hd hcd) pa_nil (hse X.env)) (by decide) (by decide) (hse X.env) rfl) fun σ H Q en j q => by
    obtain ⟨hσ, hS, hM, h0, vs, hv', rv⟩ := en.own hr
    refine ⟨_, hσ, o, ns, rfl, rep_vints rv ▸ SqL.of hv', fun ms l hp hw hl => ?_⟩
    exact q _ _ k _ (.new hl) (j.new hl) (rep_newL j hl (RepAll.of_ints ms)) (h ms hp hw)
/-- sorted(set(own list of ints)) -/
theorem we_sortSetOwn (i : Nat) {o : Addr} {ns : List Int} (hK : F.K = C.K) (hN : C.N[i]? = some x) (hv : Vis C.sc x) (hr : ρ[i]? = some (.own o (ns.map PyData.int))) (hg : C.sc.names.lookup ("sorted" : Str) = some .globalImplicit) (hm : C.mg ("sorted" : Str) = none) (hg2 : C.sc.names.lookup ("set" : Str) = some .globalImplicit) (hm2 : C.mg ("set" : Str) = none)
    (hz : ns.length ≤ 1000) (h : ∀ ms : List Int, ms.Pairwise (· < ·) → (∀ i, i ∈ ms ↔ i ∈ ns) → Φ k (.list (ms.map PyData.int))) (hd : (x == ("__debug__" : Str)) = false := by decide) (hcd : (x == ("__classdict__" : Str)) = false := by decide) (hs : ∀ env : Env, starEach [.Name x px] env = (false, eval (.Name x px) env) :: starEach [] env := by intro _; rfl)
    (hs2 : ∀ env : Env, starEach [.Call (.Name "set" p2) [.Name x px] [] p3] env = (false, eval (.Call (.Name "set" p2) [.Name x px] [] p3) env) :: starEach [] env := by intro _; rfl) :
    WPE F C (.Call (.Name "sorted" p1) [.Call (.Name "set" p2) [.Name x px] [] p3] [] pos) ρ k Φ :=
  of_pe (t := tCB (rSortSetA C.w) (tCons (tCB (rSetL C.K C.w) (tCons (tVar i) tNil)) tNil)) (fun X fx => pe_callB (by rw [← fx.w]; exact cr_sortSetA fx.calm) (by show X.env.scope.names.lookup ("sorted" : Str) = _; rw [fx.sc]; exact hg) (by rw [fx.mg]; exact hm) (by decide +kernel)
      (pa_cons (pe_callTy (by rw [← fx.w, ← fx.K]; exact cr_setL fx.calm) (by show X.env.scope.names.lookup ("set" : Str) = _; rw [fx.sc]; exact hg2) (by rw [fx.mg]; exact hm2) (by decide +kernel) (pa_cons (pe_var (i := i) (by rw [fx.N]; exact hN) (by rw [fx.sc]; exact hv) hd hcd) pa_nil (hs X.env)) (by decide) (by decide) (hs X.env) rfl) pa_nil (hs2 X.env)) (by decide) (by decide) (hs2 X.env) rfl) fun σ H Q en j q => by
    obtain ⟨hσ, hS, hM, h0, vs, hv', rv⟩ := en.own hr
    refine ⟨_, hσ, o, ns, rfl, rep_vints rv ▸ SqL.of hv', hz, fun l c hl hc => ?_⟩
    refine ⟨l, _, c, rfl, upd_same, fun ms l2 hpw hmem _ hl2 => ?_⟩
    have j2 := j.new (o := SetO C.w l (fun j => decide (j ∈ ns)) c) hl
    refine q _ _ k _ ((Le.new hl).trans (.new hl2)) (j2.new hl2) (rep_newL j2 hl2 (RepAll.of_ints ms)) (h ms hpw fun i => ?_)
    rw [hmem i, decide_eq_true_eq]
end
section
variable {F : Fm} {C : Cs} {ρ : Rho} {k : Nat} {Φ : Nat → PyData → Prop} {pos : Pos} {a b : Expr}
theorem inV_bools {v : Bool} : ∀ (bs : List Bool), inV (.bl v) (bs.map V.bl) = bs.any (· == v)
  | [] => by simp [inV]
  | x :: bs => by
    have ih := inV_bools (v := v) bs
    unfold inV at ih ⊢
    rw [List.map_cons, List.any_cons, ih, List.any_cons]
    congr 1
/-- a bool in a list of bools -/
theorem we_inB (hK : F.K = C.K) (hm : behindInMarks .In b = false) (h : WPE F C a ρ k fun k1 x => WPE F C b ρ k1 fun k2 y => ∃ (v : Bool) (bs : List Bool), x = .bool v ∧ seqD y = some (bs.map PyData.bool) ∧ Φ k2 (.bool (bs.any (· == v)))) : WPE F C (.Compare a [.In] [b] pos) ρ k Φ :=
  we_cmp (fun X fx => opInK fx) hm (h.imp fun k1 x h1 => h1.imp fun k2 y ⟨v, bs, e1, e2, p⟩ => by
    subst e1
    exact rd_in (neg := false) hK e2 rfl (by rw [List.all_map]; exact List.all_eq_true.mpr fun _ _ => rfl) (fun H vx vs rx rv => by cases rx; rw [RpAll.bls rv]; exact inV_bools bs) p)
end
end Dl

namespace Dl
open PySem PySem.Spec PyProof.Rows L2
section
variable {F : Fm} {C : Cs} {ρ : Rho} {k : Nat} {P : DE} {pos pos' pos2 p p2 px : Pos} {e : Expr} {x : Str} {body : List Stmt}
/-- for x in reversed(range(e)) -/
theorem ws_for_revR (i : Nat) (t : Tgt C i x) (hg : C.sc.names.lookup ("reversed" : Str) = some .globalImplicit) (hm : C.mg ("reversed" : Str) = none) (hg2 : C.sc.names.lookup ("range" : Str) = some .globalImplicit) (hm2 : C.mg ("range" : Str) = none)
    (hse : ∀ env : Env, starEach [e] env = (false, eval e env) :: starEach [] env) (hse2 : ∀ env : Env, starEach [.Call (.Name "range" p2) [e] [] pos2] env = (false, eval (.Call (.Name "range" p2) [e] [] pos2) env) :: starEach [] env)
    (hfs : ∀ (env : Env) (v : Value), foldedSetIterable (.Call (.Name "reversed" p) [.Call (.Name "range" p2) [e] [] pos2] [] pos') env v = pure v)
    (h : WPE F C e ρ k fun k1 d => ∃ (I : Nat → Nat → Rho → Prop) (z : Nat), d = .int (z : Int) ∧ z ≤ 1000000 ∧ I 0 k1 ρ ∧ (∀ (j : Nat) k' ρ', j < z → I j k' ρ' → WPB F C body (ρ'.set i (.d (.int ((z - 1 - j : Nat) : Int)))) k' (P.loop (I (j + 1)))) ∧ (∀ k' ρ', I z k' ρ' → P.nx k' ρ')) :
    WPS F C (.For (.Name x px) (.Call (.Name "reversed" p) [.Call (.Name "range" p2) [e] [] pos2] [] pos') body [] pos) ρ k P :=
  of_ps (t := tFor (iRevR (tRg1 (tE C e))) (gName i) (tB C body)) (fun X fx => ps_for (by rw [fx.xe]; exact PassesOwn.never) fx.calm (pi_revR (by show X.env.scope.names.lookup ("reversed" : Str) = _; rw [fx.sc]; exact hg) (by rw [fx.mg]; exact hm) (prg_1 (by show X.env.scope.names.lookup ("range" : Str) = _; rw [fx.sc]; exact hg2) (by rw [fx.mg]; exact hm2) (peE fx) (hse X.env)) (hse2 X.env)) (t.pg fx) (pbB fx) (hfs X.env)) fun σ H E en j q1 q2 q3 q4 => by
    show tE C e σ H _
    refine h σ H _ en j fun v d k1 H1 l1 j1 r hh => ?_
    obtain ⟨I, z, e, hz, i0, hstep, hend⟩ := hh
    subst e
    cases r
    refine ⟨(z : Int), rfl, ?_⟩
    refine ⟨by decide, by decide, by omega, by omega, ?_⟩
    have ez : (((z : Int)) - 0).toNat = z := by omega
    rw [ez]
    refine ⟨fun n m σ' H' => m + n = z ∧ ∃ k' ρ', EnvOk F H' σ' ρ' ∧ J F k' H' ∧ Lz F H1 H' ∧ I n k' ρ', ⟨z, by omega, k1, ρ, en.le l1, j1, .refl, i0⟩, ?_⟩
    rintro n m σ' H' ⟨hm', k', ρ', en', j', lz, ii⟩
    by_cases over : n = z
    · subst over
      exact .inl ⟨Nat.le_refl _, q1 ρ' σ' k' H' (l1.lz.trans lz) en' j' (hend k' ρ' ii)⟩
    · have lt : n < z := by omega
      refine .inr ⟨lt, fun σ2 H2' => ∃ k' ρ', EnvOk F H2' σ2 ρ' ∧ J F k' H2' ∧ Lz F H1 H2' ∧ I (n + 1) k' ρ', fun σ2 H2' w => ⟨m - 1, by omega, by omega, w⟩, ?_⟩
      rintro v H3 ⟨rfl, rfl⟩
      have ev : (0 : Int) + ((z : Nat) : Int) - 1 + ((n : Nat) : Int) * (-1) = ((z - 1 - n : Nat) : Int) := by omega
      rw [ev]
      refine hstep n k' ρ' lt ii _ _ _ (en'.set (sv := .d (.int ((z - 1 - n : Nat) : Int))) ⟨_, rfl, .int _⟩) j' ?_ q2 ?_ ?_
      · exact fun ρ2 σ2 k2' H2' l2' e2 j2' p => ⟨k2', ρ2, e2, j2', lz.trans l2', p⟩
      · exact fun ρ2 σ2 k2' H2' l2' e2 j2' p => q1 ρ2 σ2 k2' H2' (l1.lz.trans (lz.trans l2')) e2 j2' p
      · exact fun ρ2 σ2 k2' H2' l2' e2 j2' p => ⟨k2', ρ2, e2, j2', lz.trans l2', p⟩
end
end Dl

namespace Dl
open PySem PySem.Spec PyProof.Rows L2
section
variable {F : Fm} {C : Cs} {ρ : Rho} {k : Nat} {P : DE} {pos p2 px : Pos} {es : List Expr} {x : Str} {rest : List Stmt}
/-- x = [..] as an own list for one statement, then data again -/
theorem wb_ownLst1 (i : Nat) {st : Stmt} (t : Tgt C i x) (hi : i < ρ.length) (hs : ∀ env : Env, env.scope = C.sc → swapsWith (.List es p2) (some (.Name x px)) pos.line env = pure false)
    (h : WPA F C es ρ k fun k2 ds => ds.length ≤ 1000000 ∧
      ∀ o, WPS (F.ext o) C st (ρ.set i (.own o ds)) k2 { nx := fun k' ρ' => ∃ ys, ρ'[i]? = some (.own o ys) ∧ (ρ'.set i .un).all plainB = true ∧ WPB F C rest (ρ'.set i (.d (.list ys))) k' P, rt := P.rt, bk := fun _ _ => False, ct := fun _ _ => False }) :
    WPB F C (.Assign [.Name x px] (.List es p2) pos :: st :: rest) ρ k P :=
  of_pb (fun X fx => pss_cons (ps_set (by rw [fx.N]; exact t.hN) (by rw [fx.N]; exact t.hi) (by rw [fx.sc]; exact t.hx) (pe_lst (paA fx)) (hs X.env fx.sc) (by rw [fx.fn, fx.sc]; exact t.hf)) (pss_cons (psS fx) (pbB fx))) fun σ H E en j q1 q2 q3 q4 => by
    refine h σ H _ en j fun xs ds k2 H2 l2 j2 hr ⟨hz, p⟩ => ?_
    refine ⟨by rw [hr.length]; exact Nat.le_trans hz (by decide), fun o no => ?_⟩
    have hM : ¬ F.M o := fun z => F.gl _ _ j2.g o z no
    have hS : ¬ F.S o := j2.fresh no
    have h0 : F.H0 o = none := j2.h0 hM no
    have en2 : EnvOk (F.ext o) (upd H2 o (.lst (xs))) (σ.set i (some (.ref o))) (ρ.set i (.own o ds)) :=
      ((en.le l2).ext no).set (sv := .own o ds) ⟨rfl, .inr rfl, hM, h0, xs, upd_same, hr.ext no⟩
    have lz0 : Lz F H H2 := l2.lz
    have lzo : ∀ H', Lz (F.ext o) (upd H2 o (.lst (xs))) H' → Lz F H H' := fun H' lz b u hb e => by
      have e2 := lz0 b u hb e
      have ne : b ≠ o := ne_of_none e2 no
      exact lz b u (fun z => z.elim (fun y => y.elim (fun q => hb (.inl q)) ne) fun q => hb (.inr q)) (by rw [upd_ne ne]; exact e2)
    refine p o (σ.set i (some (.ref o))) (upd H2 o (.lst (xs))) _ en2 ((j2.new no).ext (lv_new fun _ z => nomatch z)) ?_ ?_ ?_ ?_
    · rintro ρ' σ' k' H' lz en' j' ⟨zs, hown, hpl, hrest⟩
      have hlz := lzo H' lz
      obtain ⟨hσ', _, _, _, vs, hvs, rvs⟩ := en'.own hown
      have en3 : EnvOk F H' σ' (ρ'.set i (.d (.list zs))) := by
        intro m sv em
        by_cases hj : i = m
        · subst hj
          have hl : i < ρ'.length := (List.getElem?_eq_some_iff.mp hown).1
          rw [List.getElem?_set_self hl] at em
          cases em
          exact ⟨_, hσ', _, rfl, .lst ⟨hvs, hS⟩ rvs.unext⟩
        · rw [List.getElem?_set_ne hj] at em
          obtain ⟨y, qy, sy⟩ := en' m sv em
          refine ⟨y, qy, ?_⟩
          cases sv with
          | un => trivial
          | d d => obtain ⟨v, z, r⟩ := sy; exact ⟨v, z, r.unext⟩
          | raw v => exact sy
          | own o' xs' => exact (noOwn_of hpl m o' xs' (Ne.symm hj) em).elim
      exact hrest σ' H' E en3 j'.unext (fun ρ2 σ2 k2 H2 l2 => q1 ρ2 σ2 k2 H2 (hlz.trans l2)) q2 (fun ρ2 σ2 k2 H2 l2 => q3 ρ2 σ2 k2 H2 (hlz.trans l2)) (fun ρ2 σ2 k2 H2 l2 => q4 ρ2 σ2 k2 H2 (hlz.trans l2))
    · exact fun v d k' H' j' r' p => q2 v d k' H' j'.unext r'.unext p
    · exact fun _ _ _ _ _ _ _ z => z.elim
    · exact fun _ _ _ _ _ _ _ z => z.elim
end
section
variable {F : Fm} {C : Cs} {ρ : Rho} {k : Nat} {Φ : Nat → PyData → Prop} {pos : Pos} {elt iter iter1 : Expr} {scope : Scope} {x x1 : Str} {px px1 : Pos} {α β : Type}
/-- [elt for x in a tuple for x1 in a list], as a value -/
theorem we_comp2 (ei : α → PyData) (ej : β → PyData) (bs : α → List β) (g : α → β → PyData) (B : Nat) (i i1 : Nat) (hne : i ≠ i1) (b : Blk2 C scope i x i1 x1) (hK : F.K = C.K)
    (hs : ∀ (env : Env) (v : Value), foldedSetIterable iter env v = pure v) (hs1 : ∀ (env : Env) (v : Value), foldedSetIterable iter1 env v = pure v)
    (h : WPE F C iter ρ k fun k1 d => ∃ as : List α, d = .tuple (as.map ei) ∧ as.length * B ≤ 1000000 ∧ (∀ a ∈ as, (bs a).length ≤ B) ∧
      (∀ D (a : α), a ∈ as → WPE (F.ext D) (C.blk scope) iter1 ((ρ.set i1 .un).set i (.d (ei a))) k1 (fun k2 d2 => k2 = k1 ∧ d2 = .list ((bs a).map ej)) ∧
        ∀ b ∈ bs a, WPE (F.ext D) (C.blk scope) elt (((ρ.set i1 .un).set i (.d (ei a))).set i1 (.d (ej b))) k1 fun k3 y => k3 = k1 ∧ y = g a b) ∧ Φ k1 (.list (as.flatMap fun a => (bs a).map (g a)))) :
    WPE F C (.ListComp elt [⟨.Name x px, iter, [], 0⟩, ⟨.Name x1 px1, iter1, [], 0⟩] scope pos) ρ k Φ :=
  of_pe (t := tLc2 (iTup C.K (tE C iter)) (gName i) tYes (iList (C.blk scope).K (tE (C.blk scope) iter1)) (gName i1) tYes (tE (C.blk scope) elt) [i, i1] [i1]) (fun X fx => pe_lc2 (own := [(x, i), (x1, i1)]) (vs1 := [i1]) fx.calm (by rw [fx.N]; exact b.t.hN) (piT fx) (by rw [fx.N, fx.sc]; exact b.ok) (fun j hj => by simp at hj ⊢; exact .inr hj)
    (fun s H a cl fp => b.t.pg (fx.blk s H scope a cl fp)) (fun s H a cl fp => pts_nil) (fun s H a cl fp => piL (fx.blk s H scope a cl fp)) (fun s H a cl fp => b.t1.pg (fx.blk s H scope a cl fp)) (fun s H a cl fp => pts_nil) (fun s H a cl fp => peE (fx.blk s H scope a cl fp)) (hs X.env) (fun env => hs1 env))
    (we_lc2 ei ej bs g B i i1 hne hK h)
end
end Dl

namespace Dl
open PySem PySem.Spec PyProof.Rows L2
/-! ### expressions that change one own list: left.pop(e), and tuple([left.pop(e) for k in range(z)]) -/
theorem RepAll.erase {K : PySem.W.Frag} {S : Addr → Prop} {H : Hp} (n : Nat) : ∀ {ds : List PyData} {vs : List V}, RepAll K S H vs ds → RepAll K S H (vs.eraseIdx n) (ds.eraseIdx n) := by
  induction n with
  | zero =>
    intro ds vs h
    cases h with
    | nil => exact .nil
    | cons h1 h2 => exact h2
  | succ n ih =>
    intro ds vs h
    cases h with
    | nil => exact .nil
    | cons h1 h2 => exact .cons h1 (ih h2)
theorem seqIx_nat {n len : Nat} (h : n < len) : seqIndex? (n : Int) len = some n := by
  unfold seqIndex?
  have h1 : ¬ ((n : Int) < 0) := by omega
  simp only [h1, if_false]
  rw [if_pos (by simp; omega)]
  simp
def WX (F : Fm) (o : Addr) (t : TE) (ρ : Rho) (k : Nat) (Φ : Nat → List PyData → PyData → Prop) : Prop :=
  ∀ (σ : L2.St) (H : Hp) (Q : VK), EnvOk F H σ ρ → J F k H → (∀ v d k' ys ws H', LeD F o H H' → H' o = some (.lst ws) → RpAll F H' ws ys → J F k' H' → Rp F H' v d → Φ k' ys d → Q v H') → t σ H Q
section
variable {F : Fm} {C : Cs} {ρ : Rho} {k : Nat} {P : DE} {Φ : Nat → PyData → Prop} {Ξ : Nat → List PyData → PyData → Prop} {pos p p0 px py ap cp spos pr pr2 : Pos} {x y : Str} {rest : List Stmt} {e ez : Expr} {o : Addr} {scope : Scope}
theorem EnvOk.ownLd {H H' : Hp} {σ : L2.St} {i : Nat} {xs ys : List PyData} {ws : List V} (en : EnvOk F H σ ρ) (e : ρ[i]? = some (.own o xs)) (hno : (ρ.set i .un).all plainB = true) (l : LeD F o H H') (hw : H' o = some (.lst ws)) (r : RpAll F H' ws ys) : EnvOk F H' σ (ρ.set i (.own o ys)) := by
  obtain ⟨hσ, hS, hM, h0, vs, hv, rv⟩ := en.own e
  intro j sv ej
  by_cases hj : i = j
  · subst hj
    have hl : i < ρ.length := (List.getElem?_eq_some_iff.mp e).1
    rw [List.getElem?_set_self hl] at ej
    cases ej
    exact ⟨_, hσ, rfl, hS, hM, h0, ws, hw, r⟩
  · rw [List.getElem?_set_ne hj] at ej
    obtain ⟨z, q, s⟩ := en j sv ej
    refine ⟨z, q, ?_⟩
    cases sv with
    | un => trivial
    | d d => obtain ⟨v, z, r⟩ := s; exact ⟨v, z, r.le (l.lz hS)⟩
    | raw v => exact s
    | own o' xs' => exact (noOwn_of hno j o' xs' (Ne.symm hj) ej).elim
theorem WX.imp {t : TE} {Ξ' : Nat → List PyData → PyData → Prop} (h : WX F o t ρ k Ξ) (i : ∀ k' ys d, Ξ k' ys d → Ξ' k' ys d) : WX F o t ρ k Ξ' := fun σ H Q en j q => h σ H Q en j fun v d k' ys ws H' l hw r j' rv p => q v d k' ys ws H' l hw r j' rv (i k' ys d p)
/-- x.pop(e), x the own list -/
def tPop (C : Cs) (i : Nat) (e : Expr) : TE := tBM C.K "list" rPopAt (tVar i) (tCons (tE C e) tNil)
theorem pePop (i : Nat) {X : Cx} (fx : Fits C X) (hN : C.N[i]? = some x) (hv : Vis C.sc x) (hse : ∀ env : Env, starEach [e] env = (false, eval e env) :: starEach [] env)
    (hd : (x == ("__debug__" : Str)) = false := by decide) (hcd : (x == ("__classdict__" : Str)) = false := by decide)
    (hbm : ∀ X : Cx, ∀ {to : TE} {t : TA}, PE X (.Name x px) to → PA X [e] t → PE X (.Call (.Attribute (.Name x px) "pop" ap) [e] [] cp) (tBM X.K "list" rPopAt to t) := by exact fun X {to t} h1 h2 => pe_bm PySem.F.plainAttrs_list PySem.F.slot_list_pop PySem.F.type_list_pop mt_popAt h1 h2) :
    PE X (.Call (.Attribute (.Name x px) "pop" ap) [e] [] cp) (tPop C i e) := by
  unfold tPop
  rw [← fx.K]
  exact hbm X (pe_var (by rw [fx.N]; exact hN) (by rw [fx.sc]; exact hv) hd hcd) (pa_cons (peE fx) pa_nil (hse X.env))
theorem wx_pop (i : Nat) {xs : List PyData} (hr : ρ[i]? = some (.own o xs)) (hz : xs.length ≤ 1000000)
    (h : WPE F C e ρ k fun k1 d => ∃ (n : Nat) (y : PyData), d = .int n ∧ xs[n]? = some y ∧ Ξ k1 (xs.eraseIdx n) y) : WX F o (tPop C i e) ρ k Ξ := fun σ H Q en j q => by
  obtain ⟨hσ, hS, hM, h0, vs, hv', rv⟩ := en.own hr
  refine ⟨_, hσ, .inl ⟨rfl, _, SqL.of hv'⟩, ?_⟩
  show tE C e σ H _
  refine h σ H _ en j fun v d k1 H1 l1 j1 r1 ⟨n, y, ed, hy, p⟩ => ?_
  subst ed
  cases r1
  have hv1 : H1 o = some (.lst vs) := l1 o _ (Fm.mxA hM) hv'
  obtain ⟨u, hu, ru⟩ := (rv.le l1.lz).get hy
  have hn : n < vs.length := (List.getElem?_eq_some_iff.mp hu).1
  have hlen := rv.length
  have lz : Lz F H1 (upd H1 o (.lst (vs.eraseIdx n))) := fun b u hb z => by rw [upd_ne (show b ≠ o from fun y => hb (.inl (y ▸ hS)))]; exact z
  refine ⟨o, vs, n, n, u, rfl, rfl, hv1, by omega, by omega, seqIx_nat hn, hu, ?_⟩
  refine q u y k1 _ _ _ (fun b u hb hne z => by rw [upd_ne hne]; exact l1 b u hb z) upd_same (((rv.le l1.lz).erase n).le lz) (j1.own hM h0 (pl_lst (l1 o _ (Fm.mxA hM) hv'))) (ru.le lz) p
/-- [elt for _ in range(z)], elt changes the own list -/
theorem wx_lcR (i il : Nat) {tl : TE} {te : TE} {xs : List PyData} (hne : i ≠ il) (hr : ρ[il]? = some (.own o xs)) (hno : (ρ.set il .un).all plainB = true)
    (h : WE F tl ρ k fun k1 d => ∃ (I : Nat → Nat → List PyData → List PyData → Prop) (z : Int), d = .int z ∧ -(2 ^ 62) ≤ z ∧ z ≤ 1000000 ∧ I 0 k1 xs [] ∧ (∀ D (j : Nat) k' ys acc, j < z.toNat → I j k' ys acc → WX (F.ext D) o te ((ρ.set il (.own o ys)).set i (.d (.int j))) k' fun k2 ys' z => I (j + 1) k2 ys' (acc ++ [z])) ∧ (∀ k' ys acc, I z.toNat k' ys acc → Ξ k' ys (.list acc))) :
    WX F o (tLc (iRng1 (tCons tl tNil)) (gName i) tYes te [i]) ρ k Ξ := fun σ H Q en j q => by
  show tl σ H _
  refine h σ H _ en j fun v d k1 H1 l1 j1 r hh => ?_
  obtain ⟨I, z, e, z1, z2, i0, hstep, hend⟩ := hh
  subst e
  cases r
  refine ⟨z, rfl, z1, by omega, fun D hD => ?_⟩
  have en1 := en.le l1
  have hM : ¬ F.M D := fun z => F.gl _ _ j1.g D z hD
  have hS : ¬ F.S D := j1.fresh hD
  have h0 : F.H0 D = none := j1.h0 hM hD
  obtain ⟨_, hSo, hMo, h0o, vs0, hv0, rv0⟩ := en1.own hr
  have hoD : o ≠ D := ne_of_none hv0 hD
  have en2 : EnvOk (F.ext D) (upd H1 D (.lst [])) σ ρ := en1.ext hD
  have lzo : ∀ H', (∀ b u, ¬ F.Mx b u → b ≠ D → b ≠ o → upd H1 D (.lst []) b = some u → H' b = some u) → Lz (F.ext D) (upd H1 D (.lst [])) H' := fun H' ld b u hb e => ld b u (fun z => hb (z.imp (fun q => .inl (F.ms b q)) id)) (fun z => hb (.inl (.inr z))) (fun z => hb (.inl (.inl (z ▸ hSo)))) e
  have mkEnv : ∀ H' ys ws, (∀ b u, ¬ F.Mx b u → b ≠ D → b ≠ o → upd H1 D (.lst []) b = some u → H' b = some u) → H' o = some (.lst ws) → RpAll (F.ext D) H' ws ys → EnvOk (F.ext D) H' σ (ρ.set il (.own o ys)) := by
    intro H' ys ws ld hw rw'
    intro m sv em
    by_cases hj : il = m
    · subst hj
      have hl : il < ρ.length := (List.getElem?_eq_some_iff.mp hr).1
      rw [List.getElem?_set_self hl] at em
      cases em
      exact ⟨_, (en2.own hr).1, rfl, .inl hSo, hMo, h0o, ws, hw, rw'⟩
    · rw [List.getElem?_set_ne hj] at em
      obtain ⟨y, qy, sy⟩ := en2 m sv em
      refine ⟨y, qy, ?_⟩
      cases sv with
      | un => trivial
      | d d => obtain ⟨v, z, r⟩ := sy; exact ⟨v, z, r.le (lzo H' ld)⟩
      | raw v => exact sy
      | own o' xs' => exact (noOwn_of hno m o' xs' (Ne.symm hj) em).elim
  refine lc_range (lo := 0) (n := z.toNat) (fun n H' => ∃ k' vs acc ys ws, acc.length ≤ n ∧ J (F.ext D) k' H' ∧ (∀ b u, ¬ F.Mx b u → b ≠ D → b ≠ o → upd H1 D (.lst []) b = some u → H' b = some u) ∧ H' D = some (.lst vs) ∧ RpAll (F.ext D) H' vs acc ∧ H' o = some (.lst ws) ∧ RpAll (F.ext D) H' ws ys ∧ I n k' ys acc)
    ⟨k1, [], [], xs, vs0, Nat.le_refl _, (j1.new hD).ext (lv_new fun _ z => nomatch z), fun _ _ _ _ _ e => e, upd_same, .nil, by rw [upd_ne hoD]; exact hv0, rv0.ext hD, i0⟩ ?_ ?_
  · rintro n H' hn ⟨k', vs, acc, ys, ws, hle, j', ld, hd, ra, hw, rw', ii⟩
    rw [Int.zero_add]
    show (wipe ((wipe σ [i]).set i (some (.int n))) [i] = wipe σ [i] ∧ _)
    rw [set_wipe]
    refine ⟨wipe_set σ, ?_⟩
    have en' := mkEnv H' ys ws ld hw rw'
    unfold tYes
    dsimp only
    rw [if_pos rfl]
    refine hstep D n k' ys acc hn ii (σ.set i (some (.int n))) H' _ (en'.set (sv := .d (.int n)) ⟨_, rfl, .int n⟩) j' fun v d k2 ys2 ws2 H4 l4 hw4 rw4 j4 r4 p => ?_
    have hd4 : H4 D = some (.lst vs) := l4 D _ (Fm.mxA hM) (Ne.symm hoD) hd
    have ra4 : RpAll (F.ext D) H4 vs acc := ra.le (l4.lz (F := F.ext D) (.inl hSo))
    have lz : Lz (F.ext D) H4 (upd H4 D (.lst (vs ++ [v]))) := fun b u hb e => by rw [upd_ne (show b ≠ D from fun z => hb (.inl (.inr z)))]; exact e
    refine ⟨vs, hd4, by rw [ra.length]; exact Nat.lt_of_le_of_lt (show acc.length ≤ 1000000 by omega) (by decide), k2, vs ++ [v], acc ++ [d], ys2, ws2, by rw [List.length_append]; show _ + 1 ≤ _; omega, j4.own hM h0 (pl_lst hd4), ?_, upd_same, (ra4.le lz).append (.cons (r4.le lz) .nil), by rw [upd_ne hoD]; exact hw4, rw4.le lz, p⟩
    exact fun b u hb h1 h2 e => by rw [upd_ne h1]; exact l4 b u hb h2 (ld b u hb h1 h2 e)
  · rintro H' ⟨k', vs, acc, ys, ws, hle, j', ld, hd, ra, hw, rw', ii⟩
    refine q (.ref D) (.list acc) k' ys ws H' ?_ hw rw'.unext j'.unext (.lst ⟨hd, hS⟩ ra.unext) (hend k' ys acc ii)
    exact fun b u n1 n2 e => ld b u n1 (ne_of_none (l1 b u n1 e) hD) n2 (by rw [upd_ne (ne_of_none (l1 b u n1 e) hD)]; exact l1 b u n1 e)
def rTup (C : Cs) : List V → Hp → VK → Prop := fun xs H Q => ∃ p ys, xs = [.ref p] ∧ ((SqL C.K H p ys ∧ ∀ l, H l = none → Q (.ref l) (upd H l (.tup ys))) ∨ (SqT C.K H p ys ∧ Q (.ref p) H))
theorem wx_tup {t : TE} (hK : F.K = C.K) (h : WX F o t ρ k fun k1 ys d => ∃ ds, d = .list ds ∧ Ξ k1 ys (.tuple ds)) (hr : ∀ H σ, EnvOk F H σ ρ → F.S o) : WX F o (tCB (rTup C) (tCons t tNil)) ρ k Ξ := fun σ H Q en j q => by
  show t σ H _
  refine h σ H _ en j fun v d k1 ys ws H1 l1 hw rw' j1 r ⟨ds, e, p⟩ => ?_
  subst e
  cases r with
  | @lst a xs _ ha hra =>
  refine ⟨a, xs, rfl, .inl ⟨hK ▸ sql_of ha, fun l hl => ?_⟩⟩
  exact q _ (.tuple ds) k1 ys ws _ (l1.trans (Le.new hl).ld) (by rw [upd_ne (ne_of_none hw hl)]; exact hw) (rw'.le (Le.new hl).lz) (j1.new hl) (rep_newT j1 hl hra) p
/-- len(x), x the own list -/
theorem we_lenOwn (i : Nat) {xs : List PyData} (hN : C.N[i]? = some x) (hv : Vis C.sc x) (hr : ρ[i]? = some (.own o xs)) (hg : C.sc.names.lookup ("len" : Str) = some .globalImplicit) (hm : C.mg ("len" : Str) = none)
    (h : Φ k (.int xs.length)) (hd : (x == ("__debug__" : Str)) = false := by decide) (hcd : (x == ("__classdict__" : Str)) = false := by decide) (hse : ∀ env : Env, starEach [.Name x px] env = (false, eval (.Name x px) env) :: starEach [] env := by intro _; rfl) : WPE F C (.Call (.Name "len" p) [.Name x px] [] pos) ρ k Φ :=
  of_pe (fun X fx => pe_callB (lenK fx) (by show X.env.scope.names.lookup ("len" : Str) = _; rw [fx.sc]; exact hg) (by rw [fx.mg]; exact hm) PySem.boot_len (pa_cons (pe_var (i := i) (by rw [fx.N]; exact hN) (by rw [fx.sc]; exact hv) hd hcd) pa_nil (hse X.env)) (by decide) (by decide) (hse X.env) rfl) fun σ H Q en j q => by
    obtain ⟨hσ, hS, hM, h0, vs, hv', rv⟩ := en.own hr
    refine ⟨_, hσ, o, vs, rfl, .inl (SqL.of hv'), ?_⟩
    rw [rv.length]
    exact q _ _ k _ .refl j (.int _) h
/-- x = y.pop(e) -/
theorem ws_popSet (i il : Nat) {xs : List PyData} (t : Tgt C i x) (hne : i ≠ il) (hN : C.N[il]? = some y) (hv : Vis C.sc y) (hr : ρ[il]? = some (.own o xs)) (hno : (ρ.set il .un).all plainB = true) (hz : xs.length ≤ 1000000)
    (hse : ∀ env : Env, starEach [e] env = (false, eval e env) :: starEach [] env)
    (hs : ∀ env : Env, env.scope = C.sc → swapsWith (.Call (.Attribute (.Name y py) "pop" ap) [e] [] cp) (some (.Name x px)) pos.line env = pure false)
    (h : WPE F C e ρ k fun k1 d => ∃ (n : Nat) (u : PyData), d = .int n ∧ xs[n]? = some u ∧ P.nx k1 ((ρ.set il (.own o (xs.eraseIdx n))).set i (.d u)))
    (hd : (y == ("__debug__" : Str)) = false := by decide) (hcd : (y == ("__classdict__" : Str)) = false := by decide)
    (hbm : ∀ X : Cx, ∀ {to : TE} {t : TA}, PE X (.Name y py) to → PA X [e] t → PE X (.Call (.Attribute (.Name y py) "pop" ap) [e] [] cp) (tBM X.K "list" rPopAt to t) := by exact fun X {to t} h1 h2 => pe_bm PySem.F.plainAttrs_list PySem.F.slot_list_pop PySem.F.type_list_pop mt_popAt h1 h2) :
    WPS F C (.Assign [.Name x px] (.Call (.Attribute (.Name y py) "pop" ap) [e] [] cp) pos) ρ k P :=
  of_ps (fun X fx => ps_set (by rw [fx.N]; exact t.hN) (by rw [fx.N]; exact t.hi) (by rw [fx.sc]; exact t.hx) (pePop (x := y) il fx hN hv hse hd hcd hbm) (hs X.env fx.sc) (by rw [fx.fn, fx.sc]; exact t.hf)) fun σ H E en j q1 _ _ _ => by
    refine wx_pop (Ξ := fun k1 ys u => P.nx k1 ((ρ.set il (.own o ys)).set i (.d u))) il hr hz (h.imp fun k1 d ⟨n, u, e1, e2, p⟩ => ⟨n, u, e1, e2, p⟩) σ H _ en j fun v d k' ys ws H' l hw r j' rv p => ?_
    have hSo := (en.own hr).2.1
    exact q1 _ (σ.set i (some v)) k' H' (l.lz hSo) ((en.ownLd hr hno l hw r).set (sv := .d d) ⟨v, rfl, rv⟩) j' p
/-- return tuple([x.pop(e) for _ in range(z)]) -/
theorem ws_retPops (i il : Nat) {xs : List PyData} {w : Str} {pw : Pos} (b : Blk C scope i w) (hK : F.K = C.K) (hne : i ≠ il) (hN : (C.blk scope).N[il]? = some x) (hv : Vis (C.blk scope).sc x) (hr : ρ[il]? = some (.own o xs)) (hno : (ρ.set il .un).all plainB = true)
    (hg : C.sc.names.lookup ("tuple" : Str) = some .globalImplicit) (hm : C.mg ("tuple" : Str) = none) (hg2 : C.sc.names.lookup ("range" : Str) = some .globalImplicit) (hm2 : C.mg ("range" : Str) = none)
    (hs1 : ∀ env : Env, starEach [.ListComp (.Call (.Attribute (.Name x px) "pop" ap) [e] [] cp) [⟨.Name w pw, (.Call (.Name "range" pr) [ez] [] pr2), [], 0⟩] scope pos] env = (false, eval (.ListComp (.Call (.Attribute (.Name x px) "pop" ap) [e] [] cp) [⟨.Name w pw, (.Call (.Name "range" pr) [ez] [] pr2), [], 0⟩] scope pos) env) :: starEach [] env)
    (hse : ∀ env : Env, starEach [e] env = (false, eval e env) :: starEach [] env) (hse2 : ∀ env : Env, starEach [ez] env = [(false, eval ez env)])
    (hfs : ∀ (env : Env) (v : Value), foldedSetIterable (.Call (.Name "range" pr) [ez] [] pr2) env v = pure v)
    (h : WPE F C ez ρ k fun k1 d => ∃ (I : Nat → Nat → List PyData → List PyData → Prop) (z : Int), d = .int z ∧ -(2 ^ 62) ≤ z ∧ z ≤ 1000000 ∧ I 0 k1 xs [] ∧
      (∀ D (j : Nat) k' ys acc, j < z.toNat → I j k' ys acc → ys.length ≤ 1000000 ∧ WPE (F.ext D) (C.blk scope) e ((ρ.set il (.own o ys)).set i (.d (.int j))) k' fun k2 d => ∃ (n : Nat) (y : PyData), d = .int n ∧ ys[n]? = some y ∧ I (j + 1) k2 (ys.eraseIdx n) (acc ++ [y])) ∧ (∀ k' ys acc, I z.toNat k' ys acc → P.rt k' (.tuple acc)))
    (hd : (x == ("__debug__" : Str)) = false := by decide) (hcd : (x == ("__classdict__" : Str)) = false := by decide)
    (hbm : ∀ X : Cx, ∀ {to : TE} {t : TA}, PE X (.Name x px) to → PA X [e] t → PE X (.Call (.Attribute (.Name x px) "pop" ap) [e] [] cp) (tBM X.K "list" rPopAt to t) := by exact fun X {to t} h1 h2 => pe_bm PySem.F.plainAttrs_list PySem.F.slot_list_pop PySem.F.type_list_pop mt_popAt h1 h2) :
    WPS F C (.Return (some (.Call (.Name "tuple" p) [.ListComp (.Call (.Attribute (.Name x px) "pop" ap) [e] [] cp) [⟨.Name w pw, (.Call (.Name "range" pr) [ez] [] pr2), [], 0⟩] scope pos] [] p0)) spos) ρ k P :=
  of_ps (fun X fx => ps_ret (pe_callTy (r := rTup C) (tupK fx) (by show X.env.scope.names.lookup ("tuple" : Str) = _; rw [fx.sc]; exact hg) (by rw [fx.mg]; exact hm) (by decide +kernel)
      (pa_cons (pe_lc (own := [(w, i)]) fx.calm (by rw [fx.N]; exact b.t.hN) (pi_range1 (by show X.env.scope.names.lookup ("range" : Str) = _; rw [fx.sc]; exact hg2) (by rw [fx.mg]; exact hm2) (pa_cons (peE fx) pa_nil (hse2 X.env)) (hse2 X.env)) (by rw [fx.N, fx.sc]; exact b.ok) (fun s H a cl fp => b.t.pg (fx.blk s H scope a cl fp)) (fun s H a cl fp => pts_nil) (fun s H a cl fp => pePop il (fx.blk s H scope a cl fp) hN hv hse hd hcd hbm) (hfs X.env)) pa_nil (hs1 X.env)) (by decide) (by decide) (hs1 X.env) rfl)) fun σ H E en j _ q2 _ _ => by
    refine wx_tup (o := o) (Ξ := fun k1 _ d => P.rt k1 d) hK (wx_lcR i il hne hr hno (h.imp fun k1 d ⟨I, z, e1, z1, z2, i0, hst, hen⟩ => ⟨I, z, e1, z1, z2, i0, fun D j k' ys acc hj ii => wx_pop il (by rw [List.getElem?_set_ne hne, List.getElem?_set_self (List.getElem?_eq_some_iff.mp hr).1]) (hst D j k' ys acc hj ii).1 (hst D j k' ys acc hj ii).2, fun k' ys acc ii => ⟨acc, rfl, hen k' ys acc ii⟩⟩)) (fun H σ en => (en.own hr).2.1) σ H _ en j fun v d k' ys ws H' l hw r j' rv p => q2 v d k' H' j' rv p
end
end Dl

namespace Dl
open PySem PySem.Spec PyProof.Rows L2
/-! ### x = an expression that makes a new list, which is the def's own -/
def WN (F : Fm) (t : TE) (ρ : Rho) (k : Nat) (Φ : Nat → List PyData → Prop) : Prop :=
  ∀ (σ : L2.St) (H : Hp) (Q : VK), EnvOk F H σ ρ → J F k H → (∀ o vs ds k' H', Le F H H' → J F k' H' → H' o = none → RpAll F H' vs ds → Φ k' ds → Q (.ref o) (upd H' o (.lst vs))) → t σ H Q
section
variable {F : Fm} {C : Cs} {ρ : Rho} {k : Nat} {P : DE} {Φ : Nat → List PyData → Prop} {pos p p2 px pr pr2 : Pos} {a e : Expr} {x : Str} {rest : List Stmt}
theorem wb_ownNew (i : Nat) {t0 : TE} (ht : ∀ X, Fits C X → PE X e t0) (t : Tgt C i x) (hi : i < ρ.length) (hs : ∀ env : Env, env.scope = C.sc → swapsWith e (some (.Name x px)) pos.line env = pure false)
    (h : WN F t0 ρ k fun k2 ds => ∀ o, WPB (F.ext o) C rest (ρ.set i (.own o ds)) k2 { nx := fun _ _ => False, rt := P.rt, bk := fun _ _ => False, ct := fun _ _ => False }) : WPB F C (.Assign [.Name x px] e pos :: rest) ρ k P :=
  of_pb (fun X fx => pss_cons (ps_set (by rw [fx.N]; exact t.hN) (by rw [fx.N]; exact t.hi) (by rw [fx.sc]; exact t.hx) (ht X fx) (hs X.env fx.sc) (by rw [fx.fn, fx.sc]; exact t.hf)) (pbB fx)) fun σ H E en j q1 q2 q3 q4 => by
    refine h σ H _ en j fun o xs ds k2 H2 l2 j2 no hr p => ?_
    have hM : ¬ F.M o := fun z => F.gl _ _ j2.g o z no
    have h0 : F.H0 o = none := j2.h0 hM no
    have en2 : EnvOk (F.ext o) (upd H2 o (.lst xs)) (σ.set i (some (.ref o))) (ρ.set i (.own o ds)) :=
      ((en.le l2).ext no).set (sv := .own o ds) ⟨rfl, .inr rfl, hM, h0, xs, upd_same, hr.ext no⟩
    refine p o (σ.set i (some (.ref o))) (upd H2 o (.lst xs)) E en2 ((j2.new no).ext (lv_new fun _ z => nomatch z)) ?_ ?_ ?_ ?_
    · exact fun _ _ _ _ _ _ _ z => z.elim
    · exact fun v d k' H' j' r' p => q2 v d k' H' j'.unext r'.unext p
    · exact fun _ _ _ _ _ _ _ z => z.elim
    · exact fun _ _ _ _ _ _ _ z => z.elim
/-- .. for one statement, then data again -/
theorem wb_ownNew1 (i : Nat) {st : Stmt} {t0 : TE} (ht : ∀ X, Fits C X → PE X e t0) (t : Tgt C i x) (hi : i < ρ.length) (hs : ∀ env : Env, env.scope = C.sc → swapsWith e (some (.Name x px)) pos.line env = pure false)
    (h : WN F t0 ρ k fun k2 ds => ∀ o, WPS (F.ext o) C st (ρ.set i (.own o ds)) k2 { nx := fun k' ρ' => ∃ ys, ρ'[i]? = some (.own o ys) ∧ (ρ'.set i .un).all plainB = true ∧ WPB F C rest (ρ'.set i (.d (.list ys))) k' P, rt := P.rt, bk := fun _ _ => False, ct := fun _ _ => False }) :
    WPB F C (.Assign [.Name x px] e pos :: st :: rest) ρ k P :=
  of_pb (fun X fx => pss_cons (ps_set (by rw [fx.N]; exact t.hN) (by rw [fx.N]; exact t.hi) (by rw [fx.sc]; exact t.hx) (ht X fx) (hs X.env fx.sc) (by rw [fx.fn, fx.sc]; exact t.hf)) (pss_cons (psS fx) (pbB fx))) fun σ H E en j q1 q2 q3 q4 => by
    refine h σ H _ en j fun o xs ds k2 H2 l2 j2 no hr p => ?_
    have hM : ¬ F.M o := fun z => F.gl _ _ j2.g o z no
    have hS : ¬ F.S o := j2.fresh no
    have h0 : F.H0 o = none := j2.h0 hM no
    have en2 : EnvOk (F.ext o) (upd H2 o (.lst xs)) (σ.set i (some (.ref o))) (ρ.set i (.own o ds)) :=
      ((en.le l2).ext no).set (sv := .own o ds) ⟨rfl, .inr rfl, hM, h0, xs, upd_same, hr.ext no⟩
    have lzo : ∀ H', Lz (F.ext o) (upd H2 o (.lst xs)) H' → Lz F H H' := fun H' lz b u hb e => by
      have e2 := l2.lz b u hb e
      have ne : b ≠ o := ne_of_none e2 no
      exact lz b u (fun z => z.elim (fun y => y.elim (fun q => hb (.inl q)) ne) fun q => hb (.inr q)) (by rw [upd_ne ne]; exact e2)
    refine p o (σ.set i (some (.ref o))) (upd H2 o (.lst xs)) _ en2 ((j2.new no).ext (lv_new fun _ z => nomatch z)) ?_ ?_ ?_ ?_
    · rintro ρ' σ' k' H' lz en' j' ⟨zs, hown, hpl, hrest⟩
      have hlz := lzo H' lz
      obtain ⟨hσ', _, _, _, vs, hvs, rvs⟩ := en'.own hown
      have en3 : EnvOk F H' σ' (ρ'.set i (.d (.list zs))) := by
        intro m sv em
        by_cases hj : i = m
        · subst hj
          have hl : i < ρ'.length := (List.getElem?_eq_some_iff.mp hown).1
          rw [List.getElem?_set_self hl] at em
          cases em
          exact ⟨_, hσ', _, rfl, .lst ⟨hvs, hS⟩ rvs.unext⟩
        · rw [List.getElem?_set_ne hj] at em
          obtain ⟨y, qy, sy⟩ := en' m sv em
          refine ⟨y, qy, ?_⟩
          cases sv with
          | un => trivial
          | d d => obtain ⟨v, z, r⟩ := sy; exact ⟨v, z, r.unext⟩
          | raw v => exact sy
          | own o' xs' => exact (noOwn_of hpl m o' xs' (Ne.symm hj) em).elim
      exact hrest σ' H' E en3 j'.unext (fun ρ2 σ2 k2 H2 l2 => q1 ρ2 σ2 k2 H2 (hlz.trans l2)) q2 (fun ρ2 σ2 k2 H2 l2 => q3 ρ2 σ2 k2 H2 (hlz.trans l2)) (fun ρ2 σ2 k2 H2 l2 => q4 ρ2 σ2 k2 H2 (hlz.trans l2))
    · exact fun v d k' H' j' r' p => q2 v d k' H' j'.unext r'.unext p
    · exact fun _ _ _ _ _ _ _ z => z.elim
    · exact fun _ _ _ _ _ _ _ z => z.elim
theorem wn_rg {t : TE} (h : WE F t ρ k fun k1 d => ∃ z : Int, d = .int z ∧ (0 ≤ z ∧ z ≤ 16777216) ∧ Φ k1 ((rg z).map PyData.int)) : WN F (tLstRg (tRg1 t)) ρ k Φ := fun σ H Q en j q => by
  show t σ H _
  refine h σ H _ en j fun v d k1 H1 l1 j1 r ⟨z, e, hz, p⟩ => ?_
  subst e
  cases r
  refine ⟨z, rfl, RgOk.of_le (by decide) hz.2 (by decide) hz.1, fun l hl => ?_⟩
  rw [rgV_rg]
  exact q l _ _ k1 H1 l1 j1 hl (RepAll.of_ints _) p
/-- x = list(range(a)) -/
theorem wb_ownRg (i : Nat) (t : Tgt C i x) (hi : i < ρ.length) (hg : C.sc.names.lookup ("list" : Str) = some .globalImplicit) (hm : C.mg ("list" : Str) = none) (hg2 : C.sc.names.lookup ("range" : Str) = some .globalImplicit) (hm2 : C.mg ("range" : Str) = none)
    (hs1 : ∀ env : Env, starEach [a] env = (false, eval a env) :: starEach [] env) (hs2 : ∀ env : Env, starEach [.Call (.Name "range" pr) [a] [] pr2] env = (false, eval (.Call (.Name "range" pr) [a] [] pr2) env) :: starEach [] env)
    (hs : ∀ env : Env, env.scope = C.sc → swapsWith (.Call (.Name "list" p) [.Call (.Name "range" pr) [a] [] pr2] [] p2) (some (.Name x px)) pos.line env = pure false)
    (h : WPE F C a ρ k fun k1 d => ∃ z : Int, d = .int z ∧ (0 ≤ z ∧ z ≤ 16777216) ∧ ∀ o, WPB (F.ext o) C rest (ρ.set i (.own o ((rg z).map PyData.int))) k1 { nx := fun _ _ => False, rt := P.rt, bk := fun _ _ => False, ct := fun _ _ => False }) :
    WPB F C (.Assign [.Name x px] (.Call (.Name "list" p) [.Call (.Name "range" pr) [a] [] pr2] [] p2) pos :: rest) ρ k P :=
  wb_ownNew i (fun X fx => pe_listRg fx.calm (by show X.env.scope.names.lookup ("list" : Str) = _; rw [fx.sc]; exact hg) (by rw [fx.mg]; exact hm) (prg_1 (by show X.env.scope.names.lookup ("range" : Str) = _; rw [fx.sc]; exact hg2) (by rw [fx.mg]; exact hm2) (peE fx) (hs1 X.env)) (hs2 X.env)) t hi hs (wn_rg h)
theorem wb_ownRg1 (i : Nat) {st : Stmt} (t : Tgt C i x) (hi : i < ρ.length) (hg : C.sc.names.lookup ("list" : Str) = some .globalImplicit) (hm : C.mg ("list" : Str) = none) (hg2 : C.sc.names.lookup ("range" : Str) = some .globalImplicit) (hm2 : C.mg ("range" : Str) = none)
    (hs1 : ∀ env : Env, starEach [a] env = (false, eval a env) :: starEach [] env) (hs2 : ∀ env : Env, starEach [.Call (.Name "range" pr) [a] [] pr2] env = (false, eval (.Call (.Name "range" pr) [a] [] pr2) env) :: starEach [] env)
    (hs : ∀ env : Env, env.scope = C.sc → swapsWith (.Call (.Name "list" p) [.Call (.Name "range" pr) [a] [] pr2] [] p2) (some (.Name x px)) pos.line env = pure false)
    (h : WPE F C a ρ k fun k1 d => ∃ z : Int, d = .int z ∧ (0 ≤ z ∧ z ≤ 16777216) ∧ ∀ o, WPS (F.ext o) C st (ρ.set i (.own o ((rg z).map PyData.int))) k1 { nx := fun k' ρ' => ∃ ys, ρ'[i]? = some (.own o ys) ∧ (ρ'.set i .un).all plainB = true ∧ WPB F C rest (ρ'.set i (.d (.list ys))) k' P, rt := P.rt, bk := fun _ _ => False, ct := fun _ _ => False }) :
    WPB F C (.Assign [.Name x px] (.Call (.Name "list" p) [.Call (.Name "range" pr) [a] [] pr2] [] p2) pos :: st :: rest) ρ k P :=
  wb_ownNew1 i (fun X fx => pe_listRg fx.calm (by show X.env.scope.names.lookup ("list" : Str) = _; rw [fx.sc]; exact hg) (by rw [fx.mg]; exact hm) (prg_1 (by show X.env.scope.names.lookup ("range" : Str) = _; rw [fx.sc]; exact hg2) (by rw [fx.mg]; exact hm2) (peE fx) (hs1 X.env)) (hs2 X.env)) t hi hs (wn_rg h)
theorem listK {X : Cx} (fx : Fits C X) : CallR X (.type "list") (fun xs H Q => ∃ p ys, xs = [.ref p] ∧ (SqL C.K H p ys ∨ SqT C.K H p ys) ∧ ∀ l, H l = none → Q (.ref l) (upd H l (.lst ys))) := by rw [← fx.K]; exact call_list_of
/-- x = list(e), e a list or a tuple -/
theorem wb_ownLs (i : Nat) (t : Tgt C i x) (hi : i < ρ.length) (hK : F.K = C.K) (hg : C.sc.names.lookup ("list" : Str) = some .globalImplicit) (hm : C.mg ("list" : Str) = none)
    (hs1 : ∀ env : Env, starEach [a] env = (false, eval a env) :: starEach [] env)
    (hs : ∀ env : Env, env.scope = C.sc → swapsWith (.Call (.Name "list" p) [a] [] p2) (some (.Name x px)) pos.line env = pure false)
    (h : WPE F C a ρ k fun k1 d => ∃ ds, seqD d = some ds ∧ ∀ o, WPB (F.ext o) C rest (ρ.set i (.own o ds)) k1 { nx := fun _ _ => False, rt := P.rt, bk := fun _ _ => False, ct := fun _ _ => False }) :
    WPB F C (.Assign [.Name x px] (.Call (.Name "list" p) [a] [] p2) pos :: rest) ρ k P :=
  wb_ownNew i (fun X fx => pe_callTy (listK fx) (by show X.env.scope.names.lookup ("list" : Str) = _; rw [fx.sc]; exact hg) (by rw [fx.mg]; exact hm) (by decide +kernel) (pa_cons (peE fx) pa_nil (hs1 X.env)) (by decide) (by decide) (hs1 X.env) rfl) t hi hs (fun σ H Q en j q => by
    show tE C a σ H _
    refine h σ H _ en j fun v d k1 H1 l1 j1 r ⟨ds, e, p⟩ => ?_
    cases d with
    | list xs =>
      cases e
      cases r with
      | @lst b ws _ hb hr => exact ⟨b, ws, rfl, .inl (hK ▸ sql_of hb), fun l hl => q l ws _ k1 H1 l1 j1 hl hr p⟩
    | tuple xs =>
      cases e
      cases r with
      | @tup b ws _ hb hr => exact ⟨b, ws, rfl, .inr (hK ▸ sqt_of hb), fun l hl => q l ws _ k1 H1 l1 j1 hl hr p⟩
    | _ => cases e)
end
end Dl

namespace Dl
open PySem PySem.Spec PyProof.Rows L2
/-! ### a comprehension of two clauses, over two tuples -/
section
variable {F : Fm} {C : Cs} {ρ : Rho} {k : Nat} {Φ : Nat → PyData → Prop} {α β : Type} {Cb : Cs} {iter1 elt : Expr} {tl : TE} {K : PySem.W.Frag}
theorem we_lc2T (ei : α → PyData) (ej : β → PyData) (bs : α → List β) (g : α → β → PyData) (B : Nat) (i i1 : Nat) (hne : i ≠ i1) (hK : F.K = K)
    (h : WE F tl ρ k fun k1 d => ∃ as : List α, d = .tuple (as.map ei) ∧ as.length * B ≤ 1000000 ∧ (∀ a ∈ as, (bs a).length ≤ B) ∧
      (∀ D (a : α), a ∈ as → WPE (F.ext D) Cb iter1 ((ρ.set i1 .un).set i (.d (ei a))) k1 (fun k2 d2 => k2 = k1 ∧ d2 = .tuple ((bs a).map ej)) ∧
        ∀ b ∈ bs a, WPE (F.ext D) Cb elt (((ρ.set i1 .un).set i (.d (ei a))).set i1 (.d (ej b))) k1 fun k3 y => k3 = k1 ∧ y = g a b) ∧ Φ k1 (.list (as.flatMap fun a => (bs a).map (g a)))) :
    WE F (tLc2 (iTup K tl) (gName i) tYes (iTup K (tE Cb iter1)) (gName i1) tYes (tE Cb elt) [i, i1] [i1]) ρ k Φ := fun σ H Q en j q => by
  show tl σ H _
  refine h σ H _ en j fun v d k1 H1 l1 j1 r hh => ?_
  obtain ⟨as, e, hz, hB, hin, hfin⟩ := hh
  subst e
  cases r with
  | @tup a xs _ ha hr =>
  refine ⟨a, rfl, ⟨xs, hK ▸ sqt_of ha⟩, fun D hD => ?_⟩
  have en1 := en.le l1
  have hM : ¬ F.M D := fun z => F.gl _ _ j1.g D z hD
  have hS : ¬ F.S D := j1.fresh hD
  have h0 : F.H0 D = none := j1.h0 hM hD
  have hno : ∀ (i : Nat) o xs, ρ[i]? = some (SV.own o xs) → o ≠ D := fun i o xs e => by
    obtain ⟨x, _, s⟩ := en1 i _ e
    obtain ⟨_, _, _, _, vs, h1, _⟩ := s
    exact ne_of_none h1 hD
  have rr : Rp (F.ext D) (upd H1 D (.lst [])) (.ref a) (.tuple (as.map ei)) := Rep.ext (.tup ha hr) hD
  cases rr with
  | @tup _ xs' _ ha' hr' =>
  have hlen : xs'.length = as.length := by rw [hr'.length, List.length_map]
  have bound : ∀ n, n ≤ as.length → ((as.take n).flatMap fun a => (bs a).map (g a)).length ≤ n * B := by
    intro n
    induction n with
    | zero => intro _; simp
    | succ n ih =>
      intro hn
      have hx : as[n]? = some as[n] := List.getElem?_eq_getElem (by omega)
      rw [take_next hx, List.flatMap_append, List.length_append, List.flatMap_singleton, List.length_map]
      have h1 := ih (by omega)
      have h2 := hB as[n] (List.getElem_mem _)
      rw [Nat.succ_mul]; omega
  refine ⟨fun n m H' => m = xs'.length - n ∧ n ≤ xs'.length ∧ ∃ vs, EnvOk (F.ext D) H' σ ρ ∧ J (F.ext D) k1 H' ∧ LeD (F.ext D) D (upd H1 D (.lst [])) H' ∧ H' D = some (.lst vs) ∧ RpAll (F.ext D) H' vs ((as.take n).flatMap fun a => (bs a).map (g a)),
    ⟨xs'.length, by simp, Nat.zero_le _, [], en1.ext hD, (j1.new hD).ext (lv_new fun _ z => nomatch z), .refl, upd_same, .nil⟩, ?_⟩
  rintro n m H' ⟨rfl, hn, vs, en', j', ld, hd, ra⟩
  have sq : SqT K H' a xs' := hK ▸ sqt_of (K := F.K) (H := H') (S := (F.ext D).S) ⟨ld.lz (.inr rfl) _ _ (Fm.sxA ha'.2) ha'.1, ha'.2⟩
  by_cases hlt : n < xs'.length
  · refine .inr ⟨⟨xs', xs'[n], sq, by simp [hlt]⟩, fun H2 => ∃ vs, EnvOk (F.ext D) H2 σ ρ ∧ J (F.ext D) k1 H2 ∧ LeD (F.ext D) D (upd H1 D (.lst [])) H2 ∧ H2 D = some (.lst vs) ∧ RpAll (F.ext D) H2 vs ((as.take (n + 1)).flatMap fun a => (bs a).map (g a)), fun H2 p => ⟨xs'.length - (n + 1), by omega, rfl, hlt, p⟩, fun x H2 y => ?_⟩
    obtain ⟨e, y⟩ := y
    subst e
    obtain ⟨y0, hy0, ry⟩ := hr'.got (y xs' sq)
    rw [List.getElem?_map] at hy0
    cases hc : as[n]? with
    | none => rw [hc] at hy0; cases hy0
    | some a0 =>
    rw [hc] at hy0
    cases hy0
    obtain ⟨hit, hel⟩ := hin D a0 (List.mem_of_getElem? hc)
    show (wipe ((wipe σ [i, i1]).set i (some x)) [i, i1] = wipe σ [i, i1] ∧ _)
    rw [wipe2 hne]
    refine ⟨wipe2' hne σ, ?_⟩
    dsimp only [tYes]
    rw [if_pos rfl]
    have en2 : EnvOk (F.ext D) H2 ((σ.set i1 none).set i (some x)) ((ρ.set i1 .un).set i (.d (ei a0))) := (en'.set (sv := .un) trivial).set (sv := .d (ei a0)) ⟨x, rfl, ry.le (ld.lz (.inr rfl))⟩
    show tE Cb iter1 _ H2 _
    refine hit _ H2 _ en2 j' fun v1 d1 k3 H3 l3 j3 r3 ⟨ek, ed⟩ => ?_
    subst ek ed
    cases r3 with
    | @tup a1 ys _ ha1 hr1 =>
    refine ⟨a1, rfl, ⟨ys, hK ▸ sqt_of (K := F.K) ha1⟩, ?_⟩
    have hlen1 : ys.length = (bs a0).length := by rw [hr1.length, List.length_map]
    refine ⟨fun m mm H' => mm = ys.length - m ∧ m ≤ ys.length ∧ ∃ vs2, EnvOk (F.ext D) H' ((σ.set i1 none).set i (some x)) ((ρ.set i1 .un).set i (.d (ei a0))) ∧ J (F.ext D) k3 H' ∧ LeD (F.ext D) D H3 H' ∧ H' D = some (.lst vs2) ∧ RpAll (F.ext D) H' vs2 (((as.take n).flatMap fun a => (bs a).map (g a)) ++ ((bs a0).take m).map (g a0)),
      ⟨ys.length, by simp, Nat.zero_le _, vs, en2.le l3, j3, .refl, l3 D _ (Fm.mxA hM) hd, by rw [List.take_zero, List.map_nil, List.append_nil]; exact ra.le l3.lz⟩, ?_⟩
    rintro m mm H5 ⟨rfl, hm, vs2, en5, j5, ld5, hd5, ra5⟩
    have sq1 : SqT K H5 a1 ys := hK ▸ sqt_of (K := F.K) (S := (F.ext D).S) ⟨ld5.lz (.inr rfl) _ _ (Fm.sxA ha1.2) ha1.1, ha1.2⟩
    by_cases hlt1 : m < ys.length
    · refine .inr ⟨⟨ys, ys[m], sq1, by simp [hlt1]⟩, fun H6 => ∃ vs2, EnvOk (F.ext D) H6 ((σ.set i1 none).set i (some x)) ((ρ.set i1 .un).set i (.d (ei a0))) ∧ J (F.ext D) k3 H6 ∧ LeD (F.ext D) D H3 H6 ∧ H6 D = some (.lst vs2) ∧ RpAll (F.ext D) H6 vs2 (((as.take n).flatMap fun a => (bs a).map (g a)) ++ ((bs a0).take (m + 1)).map (g a0)), fun H6 p => ⟨ys.length - (m + 1), by omega, rfl, hlt1, p⟩, fun z H6 y1 => ?_⟩
      obtain ⟨e1, y1⟩ := y1
      subst e1
      obtain ⟨z0, hz0, rz⟩ := hr1.got (y1 ys sq1)
      rw [List.getElem?_map] at hz0
      cases hc1 : (bs a0)[m]? with
      | none => rw [hc1] at hz0; cases hz0
      | some b0 =>
      rw [hc1] at hz0
      cases hz0
      show (wipe ((wipe ((σ.set i1 none).set i (some x)) [i1]).set i1 (some z)) [i1] = wipe ((σ.set i1 none).set i (some x)) [i1] ∧ _)
      rw [set_wipe]
      refine ⟨wipe_set _, ?_⟩
      dsimp only [tYes]
      rw [if_pos rfl]
      have en6 := en5.set (i := i1) (sv := .d (ej b0)) (x := some z) ⟨z, rfl, rz.le (ld5.lz (.inr rfl))⟩
      show tE Cb elt _ H6 _
      refine hel b0 (List.mem_of_getElem? hc1) _ H6 _ en6 j5 fun v6 d6 k6 H7 l7 j7 r7 ⟨ek6, ed6⟩ => ?_
      subst ek6 ed6
      have hd7 : H7 D = some (.lst vs2) := l7 D _ (Fm.mxA hM) hd5
      have lz7 : Lz (F.ext D) H7 (upd H7 D (.lst (vs2 ++ [v6]))) := fun b o nn e => by rw [upd_ne (show b ≠ D from fun z => nn (.inl (.inr z)))]; exact e
      have hN : n < as.length := (List.getElem?_eq_some_iff.mp hc).1
      refine ⟨vs2, hd7, ?_, vs2 ++ [v6], ?_, j7.own hM h0 (pl_lst hd7), ?_, upd_same, ?_⟩
      · rw [ra5.length, List.length_append, List.length_map]
        have h1 := bound n (by omega)
        have h2 := hB a0 (List.mem_of_getElem? hc)
        have h3 := List.length_take_le m (bs a0)
        have h4 : (n + 1) * B ≤ as.length * B := Nat.mul_le_mul_right B (by omega)
        rw [Nat.succ_mul] at h4
        have h5 : m < (bs a0).length := by omega
        have h6 : ((bs a0).take m).length = m := by rw [List.length_take]; omega
        exact Nat.lt_of_lt_of_le (show _ < 1000001 by omega) (by decide)
      · refine (en5.le l7).ld (D := D) (fun b o _ nb e => by rw [upd_ne nb]; exact e) (.inr rfl) (fun ii o xs e => ?_)
        have : ∃ (ii' : Nat) (xs' : List PyData), ρ[ii']? = some (SV.own o xs') := by
          by_cases hi : i = ii
          · subst hi
            by_cases hl : i < (ρ.set i1 .un).length
            · rw [List.getElem?_set_self hl] at e; cases e
            · rw [List.getElem?_eq_none (by simpa using hl)] at e; cases e
          · rw [List.getElem?_set_ne hi] at e
            by_cases hi1 : i1 = ii
            · subst hi1
              by_cases hl : i1 < ρ.length
              · rw [List.getElem?_set_self hl] at e; cases e
              · rw [List.getElem?_eq_none (by simpa using hl)] at e; cases e
            · rw [List.getElem?_set_ne hi1] at e
              exact ⟨_, _, e⟩
        obtain ⟨ii', xs2, e'⟩ := this
        exact hno _ _ _ e'
      · exact fun b o nn nb e => by rw [upd_ne nb]; exact l7 b o nn (ld5 b o nn nb e)
      · rw [take_next hc1, List.map_append, ← List.append_assoc]
        exact ((ra5.le l7.lz).le lz7).append (.cons (r7.le lz7) .nil)
    · have em : m = ys.length := by omega
      refine .inl ⟨⟨ys, sq1, by omega⟩, vs2, ?_, j5, ld.trans (l3.ld.trans ld5), hd5, ?_⟩
      · exact (en'.le l3).ld ld5 (.inr rfl) hno
      · rw [take_next hc, List.flatMap_append, List.flatMap_singleton]
        rw [em, hlen1, List.take_length] at ra5
        exact ra5
  · have en0 : n = xs'.length := by omega
    refine .inl ⟨⟨xs', sq, by omega⟩, ?_⟩
    rw [en0, hlen, List.take_length] at ra
    refine q (.ref D) _ k1 H' ?_ j'.unext (.lst ⟨hd, hS⟩ ra.unext) hfin
    exact fun b o n e => ld b o n (ne_of_none (l1 b o n e) hD) (by rw [upd_ne (ne_of_none (l1 b o n e) hD)]; exact l1 b o n e)
end
section
variable {F : Fm} {C : Cs} {ρ : Rho} {k : Nat} {Φ : Nat → PyData → Prop} {pos : Pos} {elt iter iter1 : Expr} {scope : Scope} {x x1 : Str} {px px1 : Pos} {α β : Type}
/-- [elt for x in a tuple for x1 in a tuple], as a value -/
theorem we_comp2T (ei : α → PyData) (ej : β → PyData) (bs : α → List β) (g : α → β → PyData) (B : Nat) (i i1 : Nat) (hne : i ≠ i1) (b : Blk2 C scope i x i1 x1) (hK : F.K = C.K)
    (hs : ∀ (env : Env) (v : Value), foldedSetIterable iter env v = pure v) (hs1 : ∀ (env : Env) (v : Value), foldedSetIterable iter1 env v = pure v)
    (h : WPE F C iter ρ k fun k1 d => ∃ as : List α, d = .tuple (as.map ei) ∧ as.length * B ≤ 1000000 ∧ (∀ a ∈ as, (bs a).length ≤ B) ∧
      (∀ D (a : α), a ∈ as → WPE (F.ext D) (C.blk scope) iter1 ((ρ.set i1 .un).set i (.d (ei a))) k1 (fun k2 d2 => k2 = k1 ∧ d2 = .tuple ((bs a).map ej)) ∧
        ∀ b ∈ bs a, WPE (F.ext D) (C.blk scope) elt (((ρ.set i1 .un).set i (.d (ei a))).set i1 (.d (ej b))) k1 fun k3 y => k3 = k1 ∧ y = g a b) ∧ Φ k1 (.list (as.flatMap fun a => (bs a).map (g a)))) :
    WPE F C (.ListComp elt [⟨.Name x px, iter, [], 0⟩, ⟨.Name x1 px1, iter1, [], 0⟩] scope pos) ρ k Φ :=
  of_pe (t := tLc2 (iTup C.K (tE C iter)) (gName i) tYes (iTup (C.blk scope).K (tE (C.blk scope) iter1)) (gName i1) tYes (tE (C.blk scope) elt) [i, i1] [i1]) (fun X fx => pe_lc2 (own := [(x, i), (x1, i1)]) (vs1 := [i1]) fx.calm (by rw [fx.N]; exact b.t.hN) (piT fx) (by rw [fx.N, fx.sc]; exact b.ok) (fun j hj => by simp at hj ⊢; exact .inr hj)
    (fun s H a cl fp => b.t.pg (fx.blk s H scope a cl fp)) (fun s H a cl fp => pts_nil) (fun s H a cl fp => piT (fx.blk s H scope a cl fp)) (fun s H a cl fp => b.t1.pg (fx.blk s H scope a cl fp)) (fun s H a cl fp => pts_nil) (fun s H a cl fp => peE (fx.blk s H scope a cl fp)) (hs X.env) (fun env => hs1 env))
    (we_lc2T ei ej bs g B i i1 hne hK h)
end
section
variable {F : Fm} {C : Cs} {ρ : Rho} {k : Nat} {Φ : Nat → PyData → Prop} {pos p : Pos} {a b : Expr}
/-- min(a, b) of two ints -/
theorem we_min2 (hg : C.sc.names.lookup ("min" : Str) = some .globalImplicit) (hm : C.mg ("min" : Str) = none) (hs1 : ∀ env : Env, starEach [a, b] env = (false, eval a env) :: starEach [b] env) (hs2 : ∀ env : Env, starEach [b] env = (false, eval b env) :: starEach [] env)
    (h : WPE F C a ρ k fun k1 x => WPE F C b ρ k1 fun k2 y => ∃ i j : Int, x = .int i ∧ y = .int j ∧ Φ k2 (.int (if j < i then j else i))) : WPE F C (.Call (.Name "min" p) [a, b] [] pos) ρ k Φ :=
  we_callB (id := "min") (fun X fx => call_min2 fx.calm) hg hm (by decide +kernel) (wa_cons hs1 (h.imp fun k1 x h1 => wa_cons hs2 (h1.imp fun k2 y ⟨i, j, e1, e2, pp⟩ => wa_nil fun H vs Q jj r q => by
    subst e1 e2
    cases r with
    | cons r1 r2 =>
    cases r2 with
    | cons r3 r4 =>
    cases r4
    cases r1
    cases r3
    exact ⟨i, j, rfl, q _ _ k2 H .refl jj (.int _) pp⟩))) (by decide) (by decide) hs1 (fun env => by rw [hs2 env]; rfl)
end
end Dl

namespace Dl
open PySem PySem.Spec PyProof.Rows L2
/-! ### list(d.values()), a dict of the def's own -/
theorem kv_vals {κ : Type} : ∀ {kvs : List (κ × V)} {vs : List (κ × Value)}, KV kvs vs → Vals (kvs.map (·.2)) (vs.map (·.2))
  | [], [], _ => .nil
  | _ :: _, _ :: _, .cons h t => .cons h.2 (kv_vals t)
/-- list(o.values()) -/
def tListVals (td : TE) : TE := fun σ H Q => td σ H fun x H1 => ∃ a kvs, x = V.ref a ∧ H1 a = some (.dK kvs) ∧ ∀ p, H1 p = none → Q (.ref p) (upd H1 p (.lst (kvs.map (·.2))))
theorem pe_listVals {X : Cx} {o : Expr} {p pos apos mpos : Pos} {td : TE} (hc : X.calm = true) (hg : Gl X "list") (hm : X.mg "list" = none) (hd : PE X o td) (hbase : attributeBase o "values" X.env (eval o X.env) = eval o X.env := by rfl) (hline : (apos.endLine == mpos.line) = true := by rfl)
    (hse : starEach [Expr.Call (.Attribute o "values" apos) [] [] mpos] X.env = [(false, eval (Expr.Call (.Attribute o "values" apos) [] [] mpos) X.env)] := by rfl) :
    PE X (.Call (.Name "list" p) [.Call (.Attribute o "values" apos) [] [] mpos] [] pos) (tListVals td) := by
  refine ⟨fun pins s σ H Q I h => ?_⟩
  refine wpAny_Call_Name_kw (ld_blt I hg hm (u := .type "list") boot_list ?_ (by first | decide +kernel | decide) (by first | decide +kernel | decide))
  rw [hse]
  refine PySem.callWith_type1 (wpAny_Call_method0_late hbase hline (thn (hd.run pins s σ H _ I h) fun v s1 ⟨x, H1, I1, r1, a, kvs, ex, ha, q⟩ => ?_))
  subst ex
  obtain rfl : v = Value.ref a := r1
  obtain ⟨hlen, hsys, vs, rel, dof⟩ := dk_of I1.hok ha
  obtain ⟨ep, dat⟩ := dof.dictAt
  have dat' := dat
  obtain ⟨ob, es, ho, ex, hdat, hko, hpr, hnd⟩ := dat'
  refine ⟨"dict", "dict.values", F.plainAttrs_dict, F.slot_dict_values, F.type_dict_values, ⟨ob, ho, ex.1⟩, fun b e => ?_, Calls.callWith_builtin rfl (PySem.evalArgs_none ?_)⟩
  · cases e
    exact ⟨ob, ho, ex.2.1⟩
  refine call_meetsIn F.slot_dict_values ⟨ob, ho, ex.1⟩ F.entry_dict_values (F.args_dict_values_1 _) (meets_dict_values (mixKind X.prog X.w) a hsys) ⟨⟨vs, dof⟩, ?_⟩
  have k1 : ∀ b u, s1.heap.get? b = some u → (s1.heap.push { cls := .type "dict_values", data := .fields #[.ref a] }).get? b = some u := fun b u e => Heap.get?_push_of_some _ e
  have dat1 : (s1.heap.push { cls := .type "dict_values", data := .fields #[.ref a] }).DictAt (mixKind X.prog X.w) a vs ep := dat.keep k1
  have hle : s1.heap.objs.size ≤ (s1.heap.push { cls := .type "dict_values", data := .fields #[.ref a] }).objs.size := by rw [Heap.size_push]; exact Nat.le_succ _
  refine PySem.W.kdl_call (PySem.W.kdl_values (knd := mixKind X.prog X.w) (r := s1.heap.objs.size) (d := a) (kvs := vs) (ep := ep)) (I1.ok.hd hc) ⟨⟨_, Heap.get?_push_size _ rfl, rfl, rfl⟩, dat1⟩ (by rw [← KV.length rel]; exact hlen) fun h' tk acc' c' hk hS hacc => ?_
  have ev : acc'.toList = vs.map (·.2) := PySem.W.kdl_vals_eq acc'.toList (by rw [Array.length_toList]; exact hacc.1) fun j u hu => hacc.2 j u (by rw [← Array.getElem?_toList]; exact hu)
  refine ⟨.ref _, upd H1 _ (.lst (kvs.map (·.2))), I1.laid (t' := tk) (fun b u e => hk b u (k1 b u e)) hle ⟨by rw [List.length_map]; exact hlen, acc'.toList, c', by rw [ev]; exact kv_vals rel, by rw [Array.toArray_toList]; exact hS⟩, rfl, q _ (I1.hok.fresh hle)⟩
/-! ### a dict that counts: d = {}; for c in a tuple: b = e; d[b] = d.get(b, 0) + 1 -/
structure CK (bs : List Int) (kvs : List (Key × V)) : Prop where
  val : ∀ b : Int, valV kvs (Sum.inl b) = if b ∈ bs then some (V.int (bs.count b)) else none
  mem : ∀ p ∈ kvs, ∃ b ∈ bs, p = (Sum.inl b, V.int (bs.count b))
  len : kvs.length ≤ bs.length
theorem CK.nil : CK [] [] := ⟨fun b => rfl, fun _ h => (nomatch h), Nat.le_refl _⟩
theorem CK.put {bs : List Int} {kvs : List (Key × V)} (c : CK bs kvs) (b : Int) : CK (bs ++ [b]) (putK kvs (Sum.inl b) (V.int (((bs.count b : Nat) : Int) + 1))) := by
  have hc : ∀ b', ((bs ++ [b]).count b' : Nat) = bs.count b' + if b = b' then 1 else 0 := fun b' => by
    rw [List.count_append, List.count_singleton]
    by_cases h : b = b' <;> simp [h]
  have hself : V.int (((bs.count b : Nat) : Int) + 1) = V.int (((bs ++ [b]).count b : Nat) : Int) := by rw [hc, if_pos rfl]; rfl
  refine ⟨fun b' => ?_, fun p hp => ?_, ?_⟩
  · rw [valV_put, c.val]
    by_cases h : b' = b
    · subst h
      rw [if_pos rfl, if_pos (by simp), hself]
    · rw [if_neg (fun e => h (Sum.inl.inj e)), hc, if_neg (show ¬ b = b' from fun e => h e.symm), Nat.add_zero]
      by_cases hm : b' ∈ bs
      · rw [if_pos hm, if_pos (by simp [hm])]
      · rw [if_neg hm, if_neg (by simp [hm, h])]
  · have old : ∀ q ∈ kvs, ¬ q.1 = Sum.inl b → ∃ b1 ∈ bs ++ [b], q = (Sum.inl b1, V.int ((bs ++ [b]).count b1)) := fun q hq hne => by
      obtain ⟨b1, h1, rfl⟩ := c.mem q hq
      have : ¬ b = b1 := fun e => hne (by rw [e])
      exact ⟨b1, by simp [h1], by rw [hc, if_neg this, Nat.add_zero]⟩
    unfold putK at hp
    split at hp
    · obtain ⟨q, hq, rfl⟩ := List.mem_map.mp hp
      by_cases hk : q.1 = Sum.inl b
      · rw [if_pos hk, hk]
        exact ⟨b, by simp, by rw [hself]⟩
      · rw [if_neg hk]
        exact old q hq hk
    · next hn =>
      rcases List.mem_append.mp hp with hp | hp
      · refine old p hp fun e => hn ?_
        rw [List.any_eq_true]
        exact ⟨p, hp, decide_eq_true e⟩
      · rw [List.mem_singleton.mp hp]
        exact ⟨b, by simp, by rw [hself]⟩
  · have := length_putK kvs (Sum.inl b) (V.int (((bs.count b : Nat) : Int) + 1))
    have := c.len
    rw [List.length_append, List.length_singleton]
    omega
/-- the values of such a dict -/
def cntI (kvs : List (Key × V)) : List Int := kvs.map fun p => match p.2 with
  | .int i => i
  | _ => 0
theorem CK.vals {bs : List Int} {kvs : List (Key × V)} (c : CK bs kvs) : kvs.map (·.2) = (cntI kvs).map V.int := by
  unfold cntI
  rw [List.map_map]
  refine List.map_congr_left fun p hp => ?_
  obtain ⟨b, _, rfl⟩ := c.mem p hp
  rfl
theorem CK.some {bs : List Int} {kvs : List (Key × V)} (c : CK bs kvs) {i : Int} (h : i ∈ cntI kvs) : ∃ b ∈ bs, i = (bs.count b : Nat) := by
  obtain ⟨p, hp, rfl⟩ := List.mem_map.mp h
  obtain ⟨b, hb, rfl⟩ := c.mem p hp
  exact ⟨b, hb, rfl⟩
theorem CK.all {bs : List Int} {kvs : List (Key × V)} (c : CK bs kvs) {b : Int} (h : b ∈ bs) : ((bs.count b : Nat) : Int) ∈ cntI kvs := by
  have hv := c.val b
  rw [if_pos h] at hv
  unfold valV at hv
  rw [Option.map_eq_some_iff] at hv
  obtain ⟨p, hp, e⟩ := hv
  refine List.mem_map.mpr ⟨p, List.mem_of_find?_eq_some hp, ?_⟩
  rw [e]
def Fm.dic (F : Fm) (o : Addr) (kvs : List (Key × V)) : Fm := { F.ext o with
  H0 := upd F.H0 o (.dK kvs)
  xa := fun k H g b u hm hu e => by
    by_cases hb : b = o
    · rw [hb, upd_same] at e; cases e; exact absurd (F.xi _ hu) nx_dK
    · rw [upd_ne hb] at e; exact F.xa k H g b u hm hu e }
section
variable {F : Fm} {C : Cs} {ρ : Rho} {k : Nat} {P : DE} {Φ : Nat → PyData → Prop} {x xc xb : Str} {px dp pc pb p3 p4 p5 p6 p7 p8 p9 p10 p11 p12 s1 s2 s3 s4 : Pos} {j1 j2 : Nat} {iter eb : Expr} {rest : List Stmt}
theorem en_upd {F : Fm} {H : Hp} {σ : L2.St} {o : Addr} {kvs : List (Key × V)} {u : HO} (en : EnvOk F H σ ρ) (hS : F.S o) (ho : H o = some (.dK kvs)) : EnvOk F (upd H o u) σ ρ := fun i sv e => by
  obtain ⟨y, q, r⟩ := en i sv e
  refine ⟨y, q, ?_⟩
  have lz : Lz F H (upd H o u) := fun b w hb e => by rw [upd_ne (show b ≠ o from fun z => hb (.inl (z ▸ hS)))]; exact e
  cases sv with
  | un => trivial
  | d d => obtain ⟨v, z, r⟩ := r; exact ⟨v, z, r.le lz⟩
  | raw v => exact r
  | own o' xs =>
    obtain ⟨e1, s1, m1, z1, vs, h1, r1⟩ := r
    have hne : o' ≠ o := fun z => by rw [z, ho] at h1; cases h1
    exact ⟨e1, s1, m1, z1, vs, by rw [upd_ne hne]; exact h1, r1.le lz⟩
theorem wb_counts (i ix ib : Nat) (hix : i ≠ ix) (hib : i ≠ ib) (hxb : ix ≠ ib) (t : Tgt C i x) (tc : Tgt C ix xc) (tb : Tgt C ib xb) (hi : i < ρ.length) (hrc : ρ[ix]? = some .un) (hrb : ρ[ib]? = some .un) (hv : Vis C.sc x) (hvb : Vis C.sc xb) (hK : F.K = C.K)
    (hs : ∀ env : Env, env.scope = C.sc → swapsWith (.Dict [] [] dp) (some (.Name x px)) s1.line env = pure false)
    (hsb : ∀ env : Env, env.scope = C.sc → swapsWith eb (some (.Name xb pb)) s2.line env = pure false)
    (hsd : ∀ env : Env, swapsWith (.BinOp (.Call (.Attribute (.Name x p6) "get" p7) [.Name xb p8, .Constant (.int 0) j1 p9] [] p10) .Add (.Constant (.int 1) j2 p11) p12) (some (.Subscript (.Name x p3) (.Name xb p4) p5)) s3.line env = pure false)
    (hfs : ∀ (env : Env) (v : Value), foldedSetIterable iter env v = pure v)
    (hm2 : ∀ X : Cx, M2 X (.Name x p6) "get" p7 (.Name xb p8) (.Constant (.int 0) j1 p9) p10)
    (h : ∀ o, ¬ F.M o → WPE (F.ext o) C iter (ρ.set i (.raw (.ref o))) k fun k1 d => ∃ (cs : List Int) (g : Int → Int), d = .tuple (cs.map PyData.int) ∧ cs.length ≤ 100000 ∧
      (∀ yb c, c ∈ cs → WPE (F.ext o) C eb (((ρ.set i (.raw (.ref o))).set ib yb).set ix (.d (.int c))) k1 fun k2 d2 => k2 = k1 ∧ d2 = .int (g c)) ∧
      ∀ kvs yb yc, CK (cs.map g) kvs → WPB (F.dic o kvs) C rest (((ρ.set i (.raw (.ref o))).set ib yb).set ix yc) k1 { nx := fun _ _ => False, rt := P.rt, bk := fun _ _ => False, ct := fun _ _ => False })
    (hd : (x == ("__debug__" : Str)) = false := by decide) (hcd : (x == ("__classdict__" : Str)) = false := by decide) (hd2 : (xb == ("__debug__" : Str)) = false := by decide) (hcd2 : (xb == ("__classdict__" : Str)) = false := by decide) :
    WPB F C (.Assign [.Name x px] (.Dict [] [] dp) s1 :: .For (.Name xc pc) iter [.Assign [.Name xb pb] eb s2, .Assign [.Subscript (.Name x p3) (.Name xb p4) p5] (.BinOp (.Call (.Attribute (.Name x p6) "get" p7) [.Name xb p8, .Constant (.int 0) j1 p9] [] p10) .Add (.Constant (.int 1) j2 p11) p12) s3] [] s4 :: rest) ρ k P :=
  of_pb (fun X fx => pss_cons (ps_set (by rw [fx.N]; exact t.hN) (by rw [fx.N]; exact t.hi) (by rw [fx.sc]; exact t.hx) pe_dnewK (hs X.env fx.sc) (by rw [fx.fn, fx.sc]; exact t.hf))
      (pss_cons (ps_for (by rw [fx.xe]; exact PassesOwn.never) fx.calm (piT fx) (tc.pg fx)
        (pss_cons (ps_set (by rw [fx.N]; exact tb.hN) (by rw [fx.N]; exact tb.hi) (by rw [fx.sc]; exact tb.hx) (peE fx) (hsb X.env fx.sc) (by rw [fx.fn, fx.sc]; exact tb.hf))
          (pss_cons (ps_dput (by have := fx.room.units; omega) (pe_var (i := i) (by rw [fx.N]; exact t.hi) (by rw [fx.sc]; exact hv) hd hcd) (pe_var (i := ib) (by rw [fx.N]; exact tb.hi) (by rw [fx.sc]; exact hvb) hd2 hcd2)
            (pe_op op_add (pe_dget2 (by have := fx.room.units; omega) (pe_var (i := i) (by rw [fx.N]; exact t.hi) (by rw [fx.sc]; exact hv) hd hcd) (pe_var (i := ib) (by rw [fx.N]; exact tb.hi) (by rw [fx.sc]; exact hvb) hd2 hcd2) pe_int (hm2 X)) pe_int) (hsd X.env)) pss_nil)) (hfs X.env)) (pbB fx))) fun σ H E en j q1 q2 q3 q4 => by
    intro o no
    have hM : ¬ F.M o := fun z => F.gl _ _ j.g o z no
    have h0 : F.H0 o = none := j.h0 hM no
    have en1 : EnvOk (F.ext o) (upd H o (.dK [])) (σ.set i (some (.ref o))) (ρ.set i (.raw (.ref o))) := (en.ext no).set (sv := .raw (.ref o)) rfl
    have jj : J (F.ext o) k (upd H o (.dK [])) := (j.new no).ext (lv_new fun _ z => nomatch z)
    show tE C iter _ _ _
    refine h o hM _ _ _ en1 jj fun v d k1 H1 l1 j1 r ⟨cs, g, e, hz, hstep, hend⟩ => ?_
    subst e
    have ho1 : H1 o = some (.dK []) := l1 o _ (Fm.mxA hM) upd_same
    have eun : ∀ (l : Rho) (m : Nat), l[m]? = some .un → l.set m .un = l := fun l m e => by
      refine List.ext_getElem? fun q => ?_
      by_cases hq : m = q
      · subst hq
        rw [List.getElem?_set_self (List.getElem?_eq_some_iff.mp e).1, e]
      · rw [List.getElem?_set_ne hq]
    have e1 : ((ρ.set i (.raw (.ref o))).set ib .un).set ix .un = ρ.set i (.raw (.ref o)) := by
      rw [eun (ρ.set i (.raw (.ref o))) ib (by rw [List.getElem?_set_ne hib]; exact hrb), eun _ ix (by rw [List.getElem?_set_ne hix]; exact hrc)]
    cases r with
    | @tup a xs _ ha hr =>
    refine ⟨a, rfl, ⟨xs, hK ▸ sqt_of ha⟩, ?_⟩
    have hlen : xs.length = cs.length := by rw [hr.length, List.length_map]
    refine for_tup (xs := xs) (fun n σ' H' => ∃ yb yc kvs, EnvOk (F.ext o) H' σ' (((ρ.set i (.raw (.ref o))).set ib yb).set ix yc) ∧ J (F.ext o) k1 H' ∧ Lz (F.ext o) H1 H' ∧ H' o = some (.dK kvs) ∧ CK ((cs.take n).map g) kvs) ⟨.un, .un, [], by rw [e1]; exact en1.le l1, j1, .refl, ho1, .nil⟩ ?_ ?_ ?_
    · rintro n σ' H' _ ⟨yb, yc, kvs, _, _, lz, _⟩
      have := sqt_of (K := F.K) (⟨lz _ _ (Fm.sxA ha.2) ha.1, ha.2⟩ : H' a = some (.tup xs) ∧ ¬ (F.ext o).S a)
      exact hK ▸ this
    · rintro n v σ' H' hv' ⟨yb, yc, kvs, en', j', lz, ho', ck⟩
      obtain ⟨y, hy, ry⟩ := hr.got hv'
      rw [List.getElem?_map, Option.map_eq_some_iff] at hy
      obtain ⟨c, hc, rfl⟩ := hy
      have en2 : EnvOk (F.ext o) H' (σ'.set ix (some v)) (((ρ.set i (.raw (.ref o))).set ib yb).set ix (.d (.int c))) := by
        have := en'.set (i := ix) (sv := .d (.int c)) (x := some v) ⟨v, rfl, ry.le lz⟩
        rw [List.set_set] at this
        exact this
      show tE C eb (σ'.set ix (some v)) H' _
      refine hstep yb c (List.mem_of_getElem? hc) _ H' _ en2 j' fun vb db k2 H2 l2 j2 rb ⟨ek, ed⟩ => ?_
      subst ek ed
      cases rb
      have ho2 : H2 o = some (.dK kvs) := l2 o _ (Fm.mxA hM) ho'
      have en3 : EnvOk (F.ext o) H2 ((σ'.set ix (some v)).set ib (some (.int (g c)))) (((ρ.set i (.raw (.ref o))).set ib (.d (.int (g c)))).set ix (.d (.int c))) := by
        have := (en2.le l2).set (i := ib) (sv := .d (.int (g c))) (x := some (.int (g c))) ⟨_, rfl, .int _⟩
        have e9 : ((((ρ.set i (.raw (.ref o))).set ib yb).set ix (.d (.int c))).set ib (.d (.int (g c)))) = (((ρ.set i (.raw (.ref o))).set ib (.d (.int (g c)))).set ix (.d (.int c))) := by rw [List.set_comm _ _ hxb, List.set_set]
        rw [e9] at this
        exact this
      have hi1 : (((ρ.set i (.raw (.ref o))).set ib (.d (.int (g c)))).set ix (.d (.int c)))[i]? = some (SV.raw (.ref o)) := by
        rw [List.getElem?_set_ne (Ne.symm hix), List.getElem?_set_ne (Ne.symm hib), List.getElem?_set_self hi]
      have hσi := en3.raw hi1
      have hb1 : (((ρ.set i (.raw (.ref o))).set ib (.d (.int (g c)))).set ix (.d (.int c)))[ib]? = some (SV.d (.int (g c))) := by
        rw [List.getElem?_set_ne hxb, List.getElem?_set_self (by rw [List.length_set]; exact (List.getElem?_eq_some_iff.mp hrb).1)]
      obtain ⟨wb, hσb, rwb⟩ := en3.d hb1
      cases rwb
      have hval := ck.val (g c)
      have hget : DGet H2 o (.int (g c)) (valV kvs (Sum.inl (g c))) := .k (k := Sum.inl (g c)) ho2
      have hnum : (valV kvs (Sum.inl (g c))).getD (V.int 0) = V.int ((((cs.take n).map g).count (g c) : Nat) : Int) := by
        rw [hval]
        by_cases hm : g c ∈ (cs.take n).map g
        · rw [if_pos hm]; rfl
        · rw [if_neg hm, List.count_eq_zero_of_not_mem hm]; rfl
      have hlk : kvs.length < sizeLine := by
        have h1 := ck.len
        rw [List.length_map, List.length_take] at h1
        exact Nat.lt_of_le_of_lt (show kvs.length ≤ 100000 by omega) (by decide)
      show ∃ v, _ ∧ _
      refine ⟨_, hσi, o, rfl, .inl ⟨kvs, .inl ho2⟩, _, hσb, _, hget, ?_⟩
      rw [hnum]
      refine ⟨_, _, rfl, rfl, _, hσi, _, hσb, o, _, rfl, .k (k := Sum.inl (g c)) ho2 hlk, ?_⟩
      have hS : (F.ext o).S o := .inr rfl
      refine ⟨.d (.int (g c)), .d (.int c), _, en_upd en3 hS ho2, j2.own (F := F.ext o) hM h0 (pl_dK ho2), fun b u hb e => ?_, upd_same, ?_⟩
      · rw [upd_ne (show b ≠ o from fun z => hb (.inl (.inr z)))]
        exact l2.lz b u hb (lz b u hb e)
      · rw [take_next hc, List.map_append]
        exact ck.put (g c)
    · rintro σ' H' ⟨yb, yc, kvs, en', j', lz, ho', ck⟩
      rw [hlen, List.take_length] at ck
      have en2 : EnvOk (F.dic o kvs) H' σ' (((ρ.set i (.raw (.ref o))).set ib yb).set ix yc) := fun m sv e => by
        obtain ⟨y, q, r⟩ := en' m sv e
        refine ⟨y, q, ?_⟩
        cases sv with
        | un => trivial
        | d d => exact r
        | raw v => exact r
        | own o' xs' =>
          obtain ⟨f1, f2, f3, f4, vs, f5, f6⟩ := r
          have hne : o' ≠ o := fun z => by rw [z, ho'] at f5; cases f5
          exact ⟨f1, f2, f3, by show upd F.H0 o _ o' = none; rw [upd_ne hne]; exact f4, vs, f5, f6⟩
      have jd : J (F.dic o kvs) k1 H' := ⟨j'.g, fun b u hb e => by
        by_cases hbo : b = o
        · subst hbo
          have e : upd F.H0 b (.dK kvs) b = some u := e
          rw [upd_same] at e
          rw [← e]; exact ho'
        · have e : upd F.H0 o (.dK kvs) b = some u := e
          rw [upd_ne hbo] at e
          exact j'.le b u hb e, j'.al⟩
      refine hend kvs yb yc ck σ' H' E en2 jd ?_ ?_ ?_ ?_
      · exact fun _ _ _ _ _ _ _ z => z.elim
      · intro v d k' H2 j2 r2 p
        have j3 : J (F.ext o) k' H2 := ⟨j2.g, fun b u hb e => j2.le b u hb (by
          show upd F.H0 o _ b = some u
          have hbo : b ≠ o := fun z => by rw [z] at e; have e : F.H0 o = some u := e; rw [h0] at e; cases e
          rw [upd_ne hbo]; exact e), j2.al⟩
        have r3 : Rp (F.ext o) H2 v d := r2
        exact q2 v d k' H2 j3.unext r3.unext p
      · exact fun _ _ _ _ _ _ _ z => z.elim
      · exact fun _ _ _ _ _ _ _ z => z.elim
/-- list(d.values()), d a dict that rests -/
theorem we_listVals {p pos apos mpos pp : Pos} (i : Nat) {o : Addr} {kvs : List (Key × V)} {is : List Int} (hN : C.N[i]? = some x) (hv : Vis C.sc x) (hr : ρ[i]? = some (.raw (.ref o))) (hM : ¬ F.M o) (h0 : F.H0 o = some (.dK kvs)) (e : kvs.map (·.2) = is.map V.int)
    (hg : C.sc.names.lookup ("list" : Str) = some .globalImplicit) (hm : C.mg ("list" : Str) = none) (hline : (apos.endLine == mpos.line) = true) (h : Φ k (.list (is.map PyData.int))) (hd : (x == ("__debug__" : Str)) = false := by decide) (hcd : (x == ("__classdict__" : Str)) = false := by decide) :
    WPE F C (.Call (.Name "list" p) [.Call (.Attribute (.Name x pp) "values" apos) [] [] mpos] [] pos) ρ k Φ :=
  of_pe (fun X fx => pe_listVals fx.calm (by show X.env.scope.names.lookup ("list" : Str) = _; rw [fx.sc]; exact hg) (by rw [fx.mg]; exact hm) (pe_var (i := i) (by rw [fx.N]; exact hN) (by rw [fx.sc]; exact hv) hd hcd) rfl hline rfl) fun σ H Q en j q => by
    refine ⟨_, en.raw hr, o, kvs, rfl, j.le o _ (Fm.mxA hM) h0, fun l hl => ?_⟩
    rw [e]
    have rv : ∀ is : List Int, RpAll F H (is.map V.int) (is.map PyData.int) := fun is => by
      induction is with
      | nil => exact .nil
      | cons a l ih => exact .cons (.int _) ih
    exact q _ (.list (is.map PyData.int)) k _ (.new hl) (j.new hl) (rep_newL j hl (rv is)) h
end
end Dl

namespace Dl
open PySem PySem.Spec PyProof.Rows L2
/-! ### xs[e:] of a tuple -/
section
variable {F : Fm} {C : Cs} {ρ : Rho} {k : Nat} {Φ : Nat → PyData → Prop} {pos p2 : Pos} {a e : Expr}
theorem we_sliceTF (hK : F.K = C.K) (h : WPE F C a ρ k fun k1 x => WPE F C e ρ k1 fun k2 y => ∃ ds, ∃ m : Nat, x = .tuple ds ∧ y = .int (m : Int) ∧ Φ k2 (.tuple (ds.drop m))) : WPE F C (.Subscript a (.Slice (some e) none none p2) pos) ρ k Φ :=
  of_pe (fun X fx => pe_slice (slTK fx) (peE fx) (po_some (peE fx)) po_none) fun σ H Q en j q => by
    show tE C a σ H _
    refine h σ H _ en j fun v d k1 H1 l1 j1 r hx => ?_
    show tE C e σ H1 _
    refine hx σ H1 _ (en.le l1) j1 fun vy y k2 H2 l2 j2 r2 ⟨ds, m, e1, e2, p⟩ => ?_
    subst e1 e2
    have r' := r.le l2.lz
    have r0 := r'
    cases r' with
    | @tup a xs _ ha hr =>
    cases r2
    have ec : cutV xs (some (m : Int)) none = xs.drop m := by
      unfold cutV
      rw [HT.sIx_nat, HT.sIx_none]
      by_cases hm : m ≤ xs.length
      · rw [Nat.min_eq_left hm, List.take_of_length_le (by rw [List.length_drop]; exact Nat.le_refl _)]
      · rw [Nat.min_eq_right (by omega), Nat.sub_self, List.take_zero, List.drop_of_length_le (by omega)]
    refine ⟨(m : Int), rfl, a, xs, rfl, hK ▸ sqt_of ha, fun hf => ?_, fun _ l hl => ?_⟩
    · have hm : m = 0 ∨ xs.length = 0 := by
        have := hf.1
        rw [HT.sIx_nat] at this
        omega
      have ed : ds.drop m = ds := by
        rcases hm with rfl | hm
        · rfl
        · have : ds = [] := List.eq_nil_of_length_eq_zero (by rw [← hr.length]; exact hm)
          subst this
          exact List.drop_nil
      rw [ed] at p
      exact q _ _ k2 _ (l1.trans l2) j2 r0 p
    · rw [ec]
      exact q _ _ k2 _ ((l1.trans l2).trans (.new hl)) (j2.new hl) (rep_newT j2 hl (RpAll.drp m hr)) p
end
end Dl

namespace Dl
open PySem PySem.Spec PyProof.Rows L2
/-! ### zip of two tuples -/
section
variable {F : Fm} {C : Cs} {ρ : Rho} {k : Nat} {Φ : Nat → PyData → Prop} {P : DE} {pos spos : Pos} {elt e e2 c : Expr} {scope : Scope} {x x1 : Str} {px px1 p3 pr pr2 : Pos} {kk : Nat}
theorem pi2_zt {H1 : Hp} {a b : Addr} {xs ys : List V} {ds es : List PyData} (ha : H1 a = some (.tup xs) ∧ ¬ F.S a) (hr : RpAll F H1 xs ds) (hb : H1 b = some (.tup ys) ∧ ¬ F.S b) (hs : RpAll F H1 ys es) (hl : ds.length = es.length) : PI2 F (RZ.ItzT F.K a b) H1 (ds.zip es) where
  go := fun D hD n d hd => by
    obtain ⟨h1, h2⟩ := List.getElem?_zip_eq_some.mp hd
    have rr : Rp (F.ext D) (upd H1 D (.lst [])) (.ref a) (.tuple ds) := Rep.ext (.tup ha hr) hD
    have ss : Rp (F.ext D) (upd H1 D (.lst [])) (.ref b) (.tuple es) := Rep.ext (.tup hb hs) hD
    cases rr with
    | @tup _ xs' _ ha' hr' =>
    cases ss with
    | @tup _ ys' _ hb' hs' =>
    have hn : n < xs'.length := by rw [hr'.length]; exact (List.getElem?_eq_some_iff.mp h1).1
    have hn2 : n < ys'.length := by rw [hs'.length]; exact (List.getElem?_eq_some_iff.mp h2).1
    obtain ⟨x', hx', rx'⟩ := hr'.got (List.getElem?_eq_getElem hn)
    obtain ⟨y', hy', ry'⟩ := hs'.got (List.getElem?_eq_getElem hn2)
    rw [h1] at hx'
    rw [h2] at hy'
    cases hx'
    cases hy'
    refine ⟨xs'[n], ys'[n], rx', ry', fun H' lz => ?_⟩
    have sq : SqT F.K H' a xs' := sqt_of (S := (F.ext D).S) ⟨lz _ _ (Fm.sxA ha'.2) ha'.1, ha'.2⟩
    have st : SqT F.K H' b ys' := sqt_of (S := (F.ext D).S) ⟨lz _ _ (Fm.sxA hb'.2) hb'.1, hb'.2⟩
    refine ⟨⟨xs', ys', xs'[n], ys'[n], sq, st, List.getElem?_eq_getElem hn, List.getElem?_eq_getElem hn2⟩, ?_⟩
    rintro v H'' ⟨T, x, y, rfl, hT, rfl, hx, hy⟩
    have e1 := hx xs' sq
    have e2 := hy ys' st
    rw [List.getElem?_eq_getElem hn] at e1
    rw [List.getElem?_eq_getElem hn2] at e2
    cases e1
    cases e2
    exact ⟨T, rfl, hT, rfl⟩
  stop := fun D hD H' lz => by
    have rr : Rp (F.ext D) (upd H1 D (.lst [])) (.ref a) (.tuple ds) := Rep.ext (.tup ha hr) hD
    have ss : Rp (F.ext D) (upd H1 D (.lst [])) (.ref b) (.tuple es) := Rep.ext (.tup hb hs) hD
    cases rr with
    | @tup _ xs' _ ha' hr' =>
    cases ss with
    | @tup _ ys' _ hb' hs' =>
    have sq : SqT F.K H' a xs' := sqt_of (S := (F.ext D).S) ⟨lz _ _ (Fm.sxA ha'.2) ha'.1, ha'.2⟩
    have st : SqT F.K H' b ys' := sqt_of (S := (F.ext D).S) ⟨lz _ _ (Fm.sxA hb'.2) hb'.1, hb'.2⟩
    refine ⟨xs', ys', sq, st, .inl ?_⟩
    rw [List.length_zip, hr'.length]; omega
/-- [elt for x, x1 in zip(e, e2)], two tuples of one length -/
theorem we_compZT (i i1 : Nat) (hne : i ≠ i1) (b : Blk2 C scope i x i1 x1) (hK : F.K = C.K) (hg : C.sc.names.lookup ("zip" : Str) = some .globalImplicit) (hm : C.mg ("zip" : Str) = none)
    (hs0 : ∀ env : Env, starEach [e, e2] env = (false, eval e env) :: starEach [e2] env) (hs2 : ∀ env : Env, starEach [e2] env = (false, eval e2 env) :: starEach [] env) (hpl : ∀ env : Env, (backTo pr2 (starEach [e2] env)).any (·.1) = false) (hs : ∀ (env : Env) (v : Value), foldedSetIterable (.Call (.Name "zip" pr) [e, e2] [] pr2) env v = pure v) (g : PyData → PyData → PyData)
    (h : WPE F C e ρ k fun k1 d => WPE F C e2 ρ k1 fun k2 d' => ∃ ds es : List PyData, d = .tuple ds ∧ d' = .tuple es ∧ ds.length = es.length ∧ ds.length ≤ 1000000 ∧ (∀ D (j : Nat) (y z : PyData), ds[j]? = some y → es[j]? = some z → WPE (F.ext D) (C.blk scope) elt ((ρ.set i (.d y)).set i1 (.d z)) k2 fun k3 u => k3 = k2 ∧ u = g y z) ∧ Φ k2 (.list (List.zipWith g ds es))) :
    WPE F C (.ListComp elt [⟨.Tuple [.Name x px, .Name x1 px1] kk p3, .Call (.Name "zip" pr) [e, e2] [] pr2, [], 0⟩] scope pos) ρ k Φ :=
  of_pe (fun X fx => pe_lc (own := [(x, i), (x1, i1)]) (wi := RZ.iZipA C.K (tCons (tE C e) (tCons (tE C e2) tNil))) fx.calm (by rw [fx.N]; exact b.t.hN) (by rw [← fx.K]; exact RZ.pi_zipA (by show X.env.scope.names.lookup ("zip" : Str) = _; rw [fx.sc]; exact hg) (by rw [fx.mg]; exact hm) (pa_cons (peE fx) (pa_cons (peE fx) pa_nil (hs2 X.env)) (hs0 X.env)) (hs0 X.env) (hpl X.env)) (by rw [fx.N, fx.sc]; exact b.ok) (fun s H a cl fp => pgTup (n := 2) (fx.blk s H scope a cl fp) (pgs_cons (b.t.pg (fx.blk s H scope a cl fp)) (pgs_cons (b.t1.pg (fx.blk s H scope a cl fp)) pgs_nil)) (by rfl) (by rfl)) (fun s H a cl fp => pts_nil) (fun s H a cl fp => peE (fx.blk s H scope a cl fp)) (hs X.env))
    (we_lcG i i1 hne hK fun σ H R en j q => by
      show tE C e σ H _
      refine h σ H _ en j fun v d k1 H1 l1 j1 r hh => ?_
      show tE C e2 σ H1 _
      refine hh σ H1 _ (en.le l1) j1 fun v2 d2 k2 H2 l2 j2 r2 ⟨ds, es, e1, e2, hl, hz, hstep, hend⟩ => ?_
      subst e1 e2
      have r := r.le l2.lz
      cases r with
      | @tup a xs _ ha hr =>
      cases r2 with
      | @tup b ys _ hb hrb =>
      refine ⟨a, b, xs, ys, rfl, .inr ⟨hK ▸ sqt_of ha, hK ▸ sqt_of hb, ?_⟩⟩
      rw [← hK]
      have hlz : (ds.zip es).length = ds.length := by rw [List.length_zip]; omega
      refine q _ k2 H2 (ds.zip es) (l1.trans l2) j2 (pi2_zt ha hr hb hrb hl) ⟨fun n k' acc => k' = k2 ∧ acc = ((ds.zip es).take n).map fun p => g p.1 p.2, by rw [hlz]; exact hz, ⟨rfl, by simp⟩, ?_, ?_⟩
      · rintro D n d k' acc hd ⟨rfl, rfl⟩
        obtain ⟨h1, h2⟩ := List.getElem?_zip_eq_some.mp hd
        refine wt_yes ?_
        rw [if_pos rfl]
        refine (hstep D n d.1 d.2 h1 h2).imp fun k2 z ⟨e1, e2⟩ => ⟨e1, ?_⟩
        rw [take_next hd, List.map_append, e2]; rfl
      · rintro k' acc ⟨rfl, rfl⟩
        rw [List.take_length]
        rw [List.zip, List.map_zipWith]; exact hend)
end
end Dl

namespace Dl
open PySem PySem.Spec PyProof.Rows L2
/-! ### x, y, z = (list(range(a)), e2, e3), the first an own list; the own list against [] -/
section
variable {F : Fm} {C : Cs} {ρ : Rho} {k : Nat} {P : DE} {Φ : Nat → PyData → Prop} {Ψ : Nat → Bool → Prop} {pos p pl p1 p2 p3 p4 pt pr pr2 px pq : Pos} {a e2 e3 : Expr} {x x1 x2 x3 : Str} {kk kt : Nat} {rest : List Stmt} {o : Addr}
theorem wb_own3 (i1 i2 i3 : Nat) (h12 : i1 ≠ i2) (h13 : i1 ≠ i3) (h23 : i2 ≠ i3) (t1 : Tgt C i1 x1) (t2 : Tgt C i2 x2) (t3 : Tgt C i3 x3) (hK : F.K = C.K) (hg : C.sc.names.lookup ("list" : Str) = some .globalImplicit) (hm : C.mg ("list" : Str) = none) (hg2 : C.sc.names.lookup ("range" : Str) = some .globalImplicit) (hm2 : C.mg ("range" : Str) = none)
    (hs1 : ∀ env : Env, starEach [a] env = (false, eval a env) :: starEach [] env) (hs2 : ∀ env : Env, starEach [.Call (.Name "range" pr) [a] [] pr2] env = (false, eval (.Call (.Name "range" pr) [a] [] pr2) env) :: starEach [] env)
    (he1 : ∀ env : Env, starEach [.Call (.Name "list" p) [.Call (.Name "range" pr) [a] [] pr2] [] pl, e2, e3] env = (false, eval (.Call (.Name "list" p) [.Call (.Name "range" pr) [a] [] pr2] [] pl) env) :: starEach [e2, e3] env)
    (he2 : ∀ env : Env, starEach [e2, e3] env = (false, eval e2 env) :: starEach [e3] env) (he3 : ∀ env : Env, starEach [e3] env = (false, eval e3 env) :: starEach [] env)
    (hs : ∀ env : Env, env.scope = C.sc → swapsWithSole [.Tuple [.Name x1 p1, .Name x2 p2, .Name x3 p3] kk p4] (.Tuple [.Call (.Name "list" p) [.Call (.Name "range" pr) [a] [] pr2] [] pl, e2, e3] kt pt) pos.line env = pure false)
    (hw : ∀ env : Env, env.scope = C.sc → swappedStores [.Tuple [.Name x1 p1, .Name x2 p2, .Name x3 p3] kk p4] (.Tuple [.Call (.Name "list" p) [.Call (.Name "range" pr) [a] [] pr2] [] pl, e2, e3] kt pt) env = pure none)
    (h : WPE F C a ρ k fun k1 d => ∃ z : Int, d = .int z ∧ (0 ≤ z ∧ z ≤ 16777216) ∧ ∀ o, WPE (F.ext o) C e2 ρ k1 fun k2 d2 => WPE (F.ext o) C e3 ρ k2 fun k3 d3 =>
      WPB (F.ext o) C rest (((ρ.set i1 (.own o ((rg z).map PyData.int))).set i2 (.d d2)).set i3 (.d d3)) k3 { nx := fun _ _ => False, rt := P.rt, bk := fun _ _ => False, ct := fun _ _ => False }) :
    WPB F C (.Assign [.Tuple [.Name x1 p1, .Name x2 p2, .Name x3 p3] kk p4] (.Tuple [.Call (.Name "list" p) [.Call (.Name "range" pr) [a] [] pr2] [] pl, e2, e3] kt pt) pos :: rest) ρ k P :=
  of_pb (fun X fx => pss_cons (ps_asg (pe_tup (pa_cons (pe_listRg fx.calm (by show X.env.scope.names.lookup ("list" : Str) = _; rw [fx.sc]; exact hg) (by rw [fx.mg]; exact hm) (prg_1 (by show X.env.scope.names.lookup ("range" : Str) = _; rw [fx.sc]; exact hg2) (by rw [fx.mg]; exact hm2) (peE fx) (hs1 X.env)) (hs2 X.env)) (pa_cons (peE fx) (pa_cons (peE fx) pa_nil (he3 X.env)) (he2 X.env)) (he1 X.env)))
      (pgTup (n := 3) fx (pgs_cons (t1.pg fx) (pgs_cons (t2.pg fx) (pgs_cons (t3.pg fx) pgs_nil))) (by rfl) (by rfl)) (hs X.env fx.sc) (hw X.env fx.sc)) (pbB fx)) fun σ H E en j q1 q2 q3 q4 => by
    show tE C a σ H _
    refine h σ H _ en j fun v d k1 H1 l1 j1 r ⟨z, e, hz, p⟩ => ?_
    subst e
    cases r
    refine ⟨z, rfl, RgOk.of_le (by decide) hz.2 (by decide) hz.1, fun o no => ?_⟩
    rw [rgV_rg]
    have hM : ¬ F.M o := fun z => F.gl _ _ j1.g o z no
    have h0 : F.H0 o = none := j1.h0 hM no
    have en1 : EnvOk (F.ext o) (upd H1 o (.lst ((rg z).map V.int))) σ ρ := (en.le l1).ext no
    have jo : J (F.ext o) k1 (upd H1 o (.lst ((rg z).map V.int))) := (j1.new no).ext (lv_new fun _ z => nomatch z)
    show tE C e2 σ _ _
    refine p o σ _ _ en1 jo fun v2 d2 k2 H2 l2 j2 r2 p2 => ?_
    show tE C e3 σ _ _
    refine p2 σ H2 _ (en1.le l2) j2 fun v3 d3 k3 H3 l3 j3 r3 p3 => ?_
    refine ⟨by show 3 ≤ sizeLine; decide, fun T nT => ?_⟩
    have hoT : ∀ b u, H3 b = some u → upd H3 T (.tup [.ref o, v2, v3]) b = some u := fun b u e => by rw [upd_ne (ne_of_none e nT)]; exact e
    have leT : Le (F.ext o) H3 (upd H3 T (.tup [.ref o, v2, v3])) := .new nT
    have ho : upd H3 T (.tup [.ref o, v2, v3]) o = some (.lst ((rg z).map V.int)) := hoT o _ (l3 o _ (Fm.mxA hM) (l2 o _ (Fm.mxA hM) upd_same))
    have en4 : EnvOk (F.ext o) (upd H3 T (.tup [.ref o, v2, v3])) (((σ.set i1 (some (.ref o))).set i2 (some v2)).set i3 (some v3)) (((ρ.set i1 (.own o ((rg z).map PyData.int))).set i2 (.d d2)).set i3 (.d d3)) :=
      ((((en1.le l2).le l3).le leT).set (sv := .own o ((rg z).map PyData.int)) ⟨rfl, .inr rfl, hM, h0, _, ho, RepAll.of_ints _⟩ |>.set (sv := .d d2) ⟨v2, rfl, (r2.le l3.lz).le leT.lz⟩).set (sv := .d d3) ⟨v3, rfl, r3.le leT.lz⟩
    refine ⟨T, [.ref o, v2, v3], rfl, .inl (.inl upd_same), rfl, _, _, rfl, _, _, rfl, _, _, rfl, rfl, ?_⟩
    refine p3 _ _ E en4 (j3.new nT) ?_ ?_ ?_ ?_
    · exact fun _ _ _ _ _ _ _ z => z.elim
    · exact fun v d k' H' j' r' p => q2 v d k' H' j'.unext r'.unext p
    · exact fun _ _ _ _ _ _ _ z => z.elim
    · exact fun _ _ _ _ _ _ _ z => z.elim
theorem dp_own {F : Fm} {H : Hp} {o : Addr} {vs : List V} {xs : List PyData} (hv : H o = some (.lst vs)) (rv : RpAll F H vs xs) (hn : SeqAt.shaped (.list xs) = true) : Dp F.K H (.ref o) (.list xs) :=
  Rep.dp (S := fun _ => False) _ _ (.lst ⟨hv, fun z => z⟩ (RepAll.keep (S := F.S) (S' := fun _ => False) (fun _ _ _ e => e) (fun _ _ z => z.elim) _ _ rv)) (nodict_sh hn)
/-- x != [], x the own list -/
theorem wt_neNil (i : Nat) {xs : List PyData} (hK : F.K = C.K) (hN : C.N[i]? = some x) (hv : Vis C.sc x) (hr : ρ[i]? = some (.own o xs)) (hsh : SeqAt.shaped (.list xs) = true) (h : Ψ k (!xs.isEmpty)) (hd : (x == ("__debug__" : Str)) = false := by decide) (hcd : (x == ("__classdict__" : Str)) = false := by decide) :
    WPT F C (.Compare (.Name x px) [.NotEq] [.List [] pq] pos) ρ k Ψ :=
  of_pt (fun X fx => pt_cmpR (opNeK fx) (pe_var (i := i) (by rw [fx.N]; exact hN) (by rw [fx.sc]; exact hv) hd hcd) (pe_lst pa_nil) (nomark _)) fun σ H Q en j q => by
    obtain ⟨hσ, hS, hM, h0, vs, hv', rv⟩ := en.own hr
    refine ⟨_, hσ, Nat.zero_le _, fun l hl => ?_⟩
    have ho : upd H l (.lst []) o = some (.lst vs) := by rw [upd_ne (ne_of_none hv' hl)]; exact hv'
    have leT : Le F H (upd H l (.lst [])) := .new hl
    have d2 : Dp F.K (upd H l (.lst [])) (.ref l) (.list []) := dp_own (F := F) upd_same .nil (shaped_intsL [])
    refine ⟨.list xs, .list [], hK ▸ dp_own ho (rv.le leT.lz) hsh, hK ▸ d2, hsh, shaped_intsL [], _, rfl, ?_⟩
    rw [eqv_nilL]
    exact q _ k _ leT (j.new hl) h
/-- x == [], x the own list -/
theorem we_eqNil (i : Nat) {xs : List PyData} (hK : F.K = C.K) (hN : C.N[i]? = some x) (hv : Vis C.sc x) (hr : ρ[i]? = some (.own o xs)) (hsh : SeqAt.shaped (.list xs) = true) (h : Φ k (.bool xs.isEmpty)) (hd : (x == ("__debug__" : Str)) = false := by decide) (hcd : (x == ("__classdict__" : Str)) = false := by decide) :
    WPE F C (.Compare (.Name x px) [.Eq] [.List [] pq] pos) ρ k Φ :=
  of_pe (fun X fx => pe_cmpR (opEqK fx) (pe_var (i := i) (by rw [fx.N]; exact hN) (by rw [fx.sc]; exact hv) hd hcd) (pe_lst pa_nil) (nomark _)) fun σ H Q en j q => by
    obtain ⟨hσ, hS, hM, h0, vs, hv', rv⟩ := en.own hr
    refine ⟨_, hσ, Nat.zero_le _, fun l hl => ?_⟩
    have ho : upd H l (.lst []) o = some (.lst vs) := by rw [upd_ne (ne_of_none hv' hl)]; exact hv'
    have leT : Le F H (upd H l (.lst [])) := .new hl
    have d2 : Dp F.K (upd H l (.lst [])) (.ref l) (.list []) := dp_own (F := F) upd_same .nil (shaped_intsL [])
    refine ⟨.list xs, .list [], hK ▸ dp_own ho (rv.le leT.lz) hsh, hK ▸ d2, hsh, shaped_intsL [], ?_⟩
    rw [eqv_nilL]
    exact q _ _ k _ leT (j.new hl) (.bl _) h
end
end Dl

namespace Dl
open PySem PySem.Spec PyProof.Rows L2
/-! ### t.index(i), a tuple of ints -/
theorem flat_intsV (ys : List Int) : (ys.map V.int).all flatV = true := by
  rw [List.all_map]
  exact List.all_eq_true.mpr fun _ _ => rfl
def rTupIx (K : PySem.W.Frag) : V → List V → Hp → VK → Prop := fun x xs H Q => ∃ p, ∃ ys : List Int, ∃ (z : Int) (j : Nat), x = .ref p ∧ xs = [.int z] ∧ SqT K H p (ys.map V.int) ∧ ys[j]? = some z ∧ (∀ m, m < j → ys[m]? ≠ some z) ∧ Q (.int (j : Nat)) H
theorem mt_tup_indexI {X : Cx} : MtR X "tuple.index" (rTupIx X.K) := by
  intro pins s σ H x xs v us Q I rx rs h
  obtain ⟨p, ys, z, j, rfl, rfl, hq, hy, hno, q⟩ := h
  cases rx
  obtain ⟨u, rfl, t, rfl⟩ := vals1 rs
  obtain ⟨its, r, pl, hz⟩ := I.tuple hq
  obtain ⟨⟨cls, dd, dt, sl⟩, ho, hc, n, hd⟩ := pl
  simp only at hc hd
  subst hc
  subst hd
  have hl : its.toArray.size = ys.length := by rw [List.size_toArray, ← r.length, List.length_map]
  have hj : j < its.toArray.size := by rw [hl]; exact (List.getElem?_eq_some_iff.mp hy).1
  have at' : ∀ (m : Nat) (hm : m < its.toArray.size), ∃ y t', ys[m]? = some y ∧ its.toArray[m] = Value.int y t' := fun m hm => by
    have hm' : m < ys.length := by rw [← hl]; exact hm
    obtain ⟨w, hw, t', hw'⟩ := r.get (i := m) (x := .int ys[m]) (by simp [hm'])
    refine ⟨ys[m], t', List.getElem?_eq_getElem hm', ?_⟩
    have e := (List.getElem?_eq_some_iff.mp hw).2
    rw [← hw', ← e]
    simp
  refine call_meets PySem.F.slot_tuple_index ⟨_, ho, rfl⟩ PySem.F.entry_tuple_index (PySem.F.args_tuple_index_2 _ _) (TI.tuple_indexAt p its.toArray n dd sl (.int z t) (eqU (.int z)) j hj ?_ ?_)
    ⟨ho, fun w hw => mem_eqAt (x := .int z) ⟨t, rfl⟩ rfl r (flat_intsV ys) w (by simpa using hw), ⟨.int (j : Nat), H, I.tok _, ⟨_, rfl⟩, q⟩⟩
  · obtain ⟨y, t', h1, h2⟩ := at' j hj
    rw [hy] at h1
    cases h1
    rw [h2]
    show (z == z) = true
    exact beq_self_eq_true z
  · intro m hm hmj
    obtain ⟨y, t', h1, h2⟩ := at' m hm
    rw [h2]
    show (y == z) = false
    exact beq_eq_false_iff_ne.mpr fun e => hno m hmj (e ▸ h1)
/-! ### t[::-1], a tuple -/
section
variable {prog : Program} {w : World} {A : Around} {E : Value → Shared → Prop} {s : Shared}
theorem sliceApplied_back {sl : Addr} {n : Nat} {t : Tok} {Q : Int × Int × Nat → Shared → Prop} (hs : s.heap.IsSliceOf sl .none .none (.int (-1) t)) (h : Q ((n : Int) - 1, -1, n) s) : wpAny (model prog w) A (Builtin.Slice.sliceApplied (.ref sl) (pure (n : Int))) Q E s := by
  obtain ⟨os, hos, hcs, hds⟩ := id hs
  unfold Builtin.Slice.sliceApplied Builtin.Slice.sliceFields
  refine wpAny_bind (wpAny_bind (wpAny_field hos hds (x := .none) rfl (wpAny_bind (wpAny_field hos hds (x := .none) rfl (wpAny_bind (wpAny_field hos hds (x := .int (-1) t) rfl (wpAny_pure ?_)))))))
  refine wpAny_bind (HT.slicePart_ (.int (-1) t) ?_)
  show wpAny _ _ (if ((-1 : Int) == 0) = true then _ else _) _ _ s
  rw [if_neg (by decide)]
  refine wpAny_bind (HT.slicePart_ .none (wpAny_bind (HT.slicePart_ .none (wpAny_bind (wpAny_pure ?_)))))
  show wpAny _ _ (pure ((n : Int) - 1, (-1 : Int), Builtin.Slice.slicePlaces ((n : Int) - 1) (-1) (-1))) _ _ s
  have e : Builtin.Slice.slicePlaces ((n : Int) - 1) (-1) (-1) = n := by
    unfold Builtin.Slice.slicePlaces
    have h1 : ¬ ((-1 : Int) > 0) := by decide
    simp only [h1, if_false, show (- -1 : Int) = 1 by decide, Int.ediv_one]
    split <;> omega
  rw [e]
  exact wpAny_pure h
theorem pick_back (xs : Array Value) : ((List.range xs.size).filterMap fun (m : Nat) => xs[((xs.size : Int) - 1 + (m : Int) * (-1)).toNat]?).toArray = xs.toList.reverse.toArray := by
  have e : (List.range xs.size).filterMap (fun (m : Nat) => xs[((xs.size : Int) - 1 + (m : Int) * (-1)).toNat]?) = ((List.range xs.size).map fun k => xs.size - 1 - k).filterMap (xs[·]?) := by
    rw [List.filterMap_map]
    have e2 : (fun (m : Nat) => xs[((xs.size : Int) - 1 + (m : Int) * (-1)).toNat]?) = (fun x => xs[x]?) ∘ fun k => xs.size - 1 - k := by
      funext m
      show xs[_]? = xs[xs.size - 1 - m]?
      rw [show ((xs.size : Int) - 1 + (m : Int) * (-1)).toNat = xs.size - 1 - m by omega]
    rw [e2]
  rw [e, PySem.W.krv_range, List.filterMap_reverse, PySem.W.krv_all]
theorem getItem_tuple_back {t sl : Addr} {items : Array Value} {tk : Tok} {Q : Value → Shared → Prop} (ht : IsTup s.heap t items) (hs : s.heap.IsSliceOf sl .none .none (.int (-1) tk))
    (h : Q (.ref s.heap.objs.size) { s with heap := s.heap.push { cls := .type "tuple", data := .seq items.toList.reverse.toArray } }) (hsz : items.size ≤ sizeLine) : wpAny (model prog w) A (getItem (.ref t) (.ref sl)) Q E s := by
  have htake : sizeOk (.seq items.toList.reverse.toArray) := by
    show items.toList.reverse.toArray.size ≤ sizeLine
    rw [List.size_toArray, List.length_reverse, Array.length_toList]
    exact hsz
  obtain ⟨os, hos, hcs, hds⟩ := id hs
  have hTs : s.TypeIs (.ref sl) "slice" := ⟨os, hos, hcs⟩
  unfold getItem
  try with_reducible refine wpAny_holding ?_
  first | refine wpAny_bind (wpAny_pure ?_) | skip
  refine wpAny_bind (wpAny_sequenceKey ht.typeIs (by decide) ?_)
  refine wpAny_bind (wpAny_callSpecial?_slot (name := Str.ofString "__getitem__") ht.typeIs PyProof.Rows.slot_tuple_getitem
    (wpAny_call_entry PyProof.Rows.slot_tuple_getitem ht.typeIs entry_tuple_getitem ?_ (args_tuple_getitem _ _)))
  show wpAny _ _ (Builtin.Tuple.tupleItemsOf (.ref t) >>= _) _ _ s
  refine wpAny_bind (tupleItemsOf_ ht ?_)
  refine wpAny_bind (wpAny_typeOf hTs ?_)
  rw [if_pos (by decide)]
  refine wpAny_bind (sliceApplied_back hs ?_)
  have hno : ¬ ((((items.size : Int) - 1) == 0 && (-1 : Int) == 1 && items.size == items.size) = true) := by
    rw [show ((-1 : Int) == 1) = false by decide, Bool.and_false, Bool.false_and]
    decide
  show wpAny _ _ (if (((items.size : Int) - 1) == 0 && (-1 : Int) == 1 && items.size == items.size) = true then _ else _) _ _ s
  rw [if_neg hno, pick_back]
  first
    | exact wpAny_bind (m := Builtin.Tuple.tupleExact _) (wpAny_newObj_type (wpAny_pure ⟨_, rfl, wpAny_pure h⟩) htake)
    | exact wpAny_bind (m := Builtin.Tuple.tupleExact _) (wpAny_newObj_type (wpAny_bind (wpAny_pure (wpAny_pure ⟨_, rfl, wpAny_pure h⟩))) htake)
    | exact wpAny_bind (wpAny_bind (m := Builtin.Tuple.tupleExact _) (wpAny_newObj_type (wpAny_pure (wpAny_pure ⟨_, rfl, wpAny_pure h⟩)) htake))
    | exact wpAny_bind (wpAny_bind (m := Builtin.Tuple.tupleExact _) (wpAny_newObj_type (wpAny_pure ⟨_, rfl, wpAny_pure h⟩) htake))
end
def tRevT (K : PySem.W.Frag) (te : TE) : TE := fun σ H Q => te σ H fun x H1 => ∃ a xs, x = .ref a ∧ SqT K H1 a xs ∧ ∀ p, H1 p = none → Q (.ref p) (upd H1 p (.tup xs.reverse))
theorem pe_revT {X : Cx} {e : Expr} {te : TE} {k : Nat} {p1 p2 p3 pos : Pos} (he : PE X e te) : PE X (.Subscript e (.Slice none none (some (.UnaryOp .USub (.Constant (.int 1) k p1) p2)) p3) pos) (tRevT X.K te) := by
  refine ⟨fun pins s σ H Q I h => ?_⟩
  refine Subscript_ (thn (he.run pins s σ H _ I h) fun v s1 ⟨x, H1, I1, r1, q1⟩ => ?_)
  obtain ⟨a, xs, ex, hx, q⟩ := q1
  subst ex
  cases r1
  have hst : PO X (some (.UnaryOp .USub (.Constant (.int 1) k p1) p2)) (tPart (tUn (rU fun i => .int (-i)) (tC (.int 1)))) := po_some (pe_un un_neg pe_int)
  refine wpAny_Slice (thn (po_none.run pins s1 σ H1 (fun o H2 => o = none ∧ H2 = H1) I1 ⟨rfl, rfl⟩) fun vl s2 ⟨l, H2, I2, pl, el, e2⟩ => ?_)
  subst el e2
  refine thn (po_none.run pins s2 σ H2 (fun o H3 => o = none ∧ H3 = H2) I2 ⟨rfl, rfl⟩) fun vu s3 ⟨u, H3, I3, pu, eu, e3⟩ => ?_
  subst eu e3
  refine thn (hst.run pins s3 σ H3 (fun o H4 => o = some (-1) ∧ H4 = H3) I3 ⟨1, rfl, -1, rfl, rfl, rfl⟩) fun vs s4 ⟨o, H4, I4, ps, eo, e4⟩ => ?_
  subst eo e4
  have I5 : Inv X pins σ H4 { s4 with heap := s4.heap.push { cls := .type "slice", data := .fields #[vl, vu, vs] } } := I4.kept (t' := s4.toks) fun b ob q => Heap.get?_push_of_some _ q
  obtain ⟨its, r, ht, hz⟩ := I5.tuple hx
  have hlen := r.length
  cases pl
  cases pu
  cases ps
  show wpAny (model X.prog X.w) X.A (subscriptTail e (.Slice none none (some (.UnaryOp .USub (.Constant (.int 1) k p1) p2)) p3) (.ref a) (.ref s4.heap.objs.size)) (EP X pins σ Q) X.xe _
  refine tail_any (ops := [.ref a, .ref s4.heap.objs.size]) ht.typeIs (PyProof.Rows.slot_tuple_getitem.lookup) ?_ (by with_unfolding_all rfl)
  refine getItem_tuple_back ht (Heap.IsSliceOf.new _ _ _ _) ?_ (by rw [List.size_toArray]; omega)
  refine ⟨.ref _, _, I5.laid (t' := s4.toks) (o := .tup xs.reverse) (fun b ob q => Heap.get?_push_of_some _ q) (Nat.le_refl _) ?_, rfl, q _ (I5.hok.fresh (Nat.le_refl _))⟩
  exact ⟨by rw [List.length_reverse]; exact hz, _, r.reverse, _, Heap.get?_push_size _ rfl, rfl, _, rfl⟩
section
variable {F : Fm} {C : Cs} {ρ : Rho} {k : Nat} {Φ : Nat → PyData → Prop} {pos ap cp p1 p2 p3 : Pos} {a e : Expr} {jj : Nat}
theorem we_revT (hK : F.K = C.K) (h : WPE F C a ρ k fun k1 x => ∃ ds, x = .tuple ds ∧ Φ k1 (.tuple ds.reverse)) : WPE F C (.Subscript a (.Slice none none (some (.UnaryOp .USub (.Constant (.int 1) jj p1) p2)) p3) pos) ρ k Φ :=
  of_pe (t := tRevT C.K (tE C a)) (fun X fx => by rw [← fx.K]; exact pe_revT (peE fx)) fun σ H Q en j q => by
    show tE C a σ H _
    refine h σ H _ en j fun v d k1 H1 l1 j1 r ⟨ds, e, p⟩ => ?_
    subst e
    cases r with
    | @tup b xs _ hb hr =>
    have rev : ∀ (ds : List PyData) (vs : List V), RpAll F H1 vs ds → RpAll F H1 vs.reverse ds.reverse := fun ds => by
      induction ds with
      | nil => intro vs h; cases h; exact .nil
      | cons d ds ih =>
        intro vs h
        cases h with
        | cons r1 r2 => rw [List.reverse_cons, List.reverse_cons]; exact (ih _ r2).append (.cons r1 .nil)
    exact ⟨b, xs, rfl, hK ▸ sqt_of hb, fun l hl => q _ _ k1 _ (l1.trans (.new hl)) (j1.new hl) (rep_newT j1 hl (rev _ _ hr)) p⟩
end
end Dl

namespace Dl
open PySem PySem.Spec PyProof.Rows L2
/-! ### y = tuple(sorted(x + (left.pop(e),))): values over an expression that changes an own list -/
section
variable {F : Fm} {C : Cs} {ρ : Rho} {k : Nat} {P : DE} {Ξ : Nat → List PyData → PyData → Prop} {o : Addr} {te : TE}
theorem wx_tup1 (hM : ¬ F.M o) (h : WX F o te ρ k fun k1 ys d => Ξ k1 ys (.tuple [d])) : WX F o (tTup (tCons te tNil)) ρ k Ξ := fun σ H Q en j q => by
  show te σ H _
  refine h σ H _ en j fun v d k1 ys ws H1 l hw rw j1 rv p => ?_
  refine ⟨by show 1 ≤ sizeLine; decide, fun T hT => ?_⟩
  have le : Le F H1 (upd H1 T (.tup [v])) := .new hT
  exact q _ _ k1 ys ws _ (l.trans le.ld) (le o _ (Fm.mxA hM) hw) (rw.le le.lz) (j1.new hT) (rep_newT j1 hT (.cons rv .nil)) p
theorem wx_call {r : List V → Hp → VK → Prop} (hM : ¬ F.M o) (h : WX F o te ρ k fun k1 ys d => RA F r [d] k1 fun k2 d2 => Ξ k2 ys d2) : WX F o (tCB r (tCons te tNil)) ρ k Ξ := fun σ H Q en j q => by
  show te σ H _
  refine h σ H _ en j fun v d k1 ys ws H1 l hw rw j1 rv p => ?_
  exact p H1 [v] Q j1 (.cons rv .nil) fun v2 d2 k2 H2 le j2 r2 p2 => q v2 d2 k2 ys ws H2 (l.trans le.ld) (le o _ (Fm.mxA hM) hw) (rw.le le.lz) j2 r2 p2
theorem wx_op {r : R2} (ix : Nat) {dx : PyData} (hS : F.S o) (hM : ¬ F.M o) (hx : ρ[ix]? = some (.d dx)) (h : WX F o te ρ k fun k1 ys d => RD F r dx d k1 fun k2 d2 => Ξ k2 ys d2) : WX F o (tOp r (tVar ix) te) ρ k Ξ := fun σ H Q en j q => by
  obtain ⟨vx, hσ, rx⟩ := en.d hx
  refine ⟨vx, hσ, ?_⟩
  show te σ H _
  refine h σ H _ en j fun v d k1 ys ws H1 l hw rw j1 rv p => ?_
  exact p H1 vx v Q j1 (rx.le (l.lz hS)) rv fun v2 d2 k2 H2 le j2 r2 p2 => q v2 d2 k2 ys ws H2 (l.trans le.ld) (le o _ (Fm.mxA hM) hw) (rw.le le.lz) j2 r2 p2
end
section
variable {F : Fm} {C : Cs} {ρ : Rho} {k : Nat} {P : DE} {Φ : Nat → PyData → Prop}
theorem rd_catT (hK : F.K = C.K) {ds es : List PyData} (hz : ds.length + es.length ≤ 1000000) (p : Φ k (.tuple (ds ++ es))) : RD F (rCatA C.K) (.tuple ds) (.tuple es) k Φ := by
  intro H vx vy Q j rx ry qq
  have rx0 := rx
  have ry0 := ry
  cases rx with
  | @tup pa xs _ ha hr =>
  cases ry with
  | @tup pb ys _ hb hs =>
  refine ⟨pa, pb, xs, ys, rfl, rfl, hK ▸ sqt_of ha, hK ▸ sqt_of hb, by rw [hr.length, hs.length]; exact Nat.le_trans hz (by decide), fun e => ?_, fun _ e => ?_, fun _ _ l hl => ?_⟩
  · subst e
    have : ds = [] := List.eq_nil_of_length_eq_zero (by rw [← hr.length]; rfl)
    subst this
    exact qq _ _ k H .refl j ry0 p
  · subst e
    have : es = [] := List.eq_nil_of_length_eq_zero (by rw [← hs.length]; rfl)
    subst this
    rw [List.append_nil] at p
    exact qq _ _ k H .refl j rx0 p
  · exact qq _ _ k _ (.new hl) (j.new hl) (rep_newT j hl (hr.append hs)) p
theorem ra_sortT (hK : F.K = C.K) {ns : List Int} (hz : ns.length ≤ 4000) (p : ∀ ms : List Int, ms.Perm ns → ms.Pairwise (· ≤ ·) → Φ k (.list (ms.map PyData.int))) : RA F (rSortTI C.K) [.tuple (ns.map PyData.int)] k Φ := fun H vs Q j r q => by
  cases r with
  | cons r1 r2 =>
  cases r2
  cases r1 with
  | @tup a xs _ ha hr => exact ⟨a, ns, rfl, hr.ints ▸ hK ▸ sqt_of ha, hz, fun ms l hp hw hl => q _ _ k _ (.new hl) (j.new hl) (rep_newL j hl (RepAll.of_ints ms)) (p ms hp hw)⟩
theorem ra_tuple (hK : F.K = C.K) {ds : List PyData} (p : Φ k (.tuple ds)) : RA F (fun xs H Q => ∃ p ys, xs = [.ref p] ∧ ((SqL C.K H p ys ∧ ∀ l, H l = none → Q (.ref l) (upd H l (.tup ys))) ∨ (SqT C.K H p ys ∧ Q (.ref p) H))) [.list ds] k Φ := fun H vs Q j r q => by
  cases r with
  | cons r1 r2 =>
  cases r2
  cases r1 with
  | @lst a xs _ ha hr => exact ⟨a, xs, rfl, .inl ⟨hK ▸ sql_of ha, fun l hl => q _ _ k _ (.new hl) (j.new hl) (rep_newT j hl hr) p⟩⟩
end
section
variable {F : Fm} {C : Cs} {ρ : Rho} {k : Nat} {P : DE} {pos px py pz ap cp pc pt p1 p2 p3 p4 p5 : Pos} {x y z : Str} {e : Expr} {o : Addr} {kt : Nat}
/-- x = tuple(sorted(z + (y.pop(e),))), y the own list -/
theorem ws_popTS (i ix il : Nat) {xs : List PyData} {ns : List Int} (t : Tgt C i x) (hK : F.K = C.K) (hN : C.N[il]? = some y) (hv : Vis C.sc y) (hr : ρ[il]? = some (.own o xs)) (hNz : C.N[ix]? = some z) (hvz : Vis C.sc z) (hrz : ρ[ix]? = some (.d (.tuple (ns.map PyData.int)))) (hS : F.S o) (hM : ¬ F.M o) (hno : (ρ.set il .un).all plainB = true) (hz : xs.length ≤ 1000000) (hzn : ns.length ≤ 1000)
    (hg : C.sc.names.lookup ("tuple" : Str) = some .globalImplicit) (hm : C.mg ("tuple" : Str) = none) (hg2 : C.sc.names.lookup ("sorted" : Str) = some .globalImplicit) (hm2 : C.mg ("sorted" : Str) = none)
    (hse : ∀ env : Env, starEach [e] env = (false, eval e env) :: starEach [] env)
    (hs1 : ∀ env : Env, starEach [.Call (.Attribute (.Name y py) "pop" ap) [e] [] cp] env = (false, eval (.Call (.Attribute (.Name y py) "pop" ap) [e] [] cp) env) :: starEach [] env)
    (hs2 : ∀ env : Env, starEach [.BinOp (.Name z pz) .Add (.Tuple [.Call (.Attribute (.Name y py) "pop" ap) [e] [] cp] kt pt) pc] env = (false, eval (.BinOp (.Name z pz) .Add (.Tuple [.Call (.Attribute (.Name y py) "pop" ap) [e] [] cp] kt pt) pc) env) :: starEach [] env)
    (hs3 : ∀ env : Env, starEach [.Call (.Name "sorted" p1) [.BinOp (.Name z pz) .Add (.Tuple [.Call (.Attribute (.Name y py) "pop" ap) [e] [] cp] kt pt) pc] [] p2] env = (false, eval (.Call (.Name "sorted" p1) [.BinOp (.Name z pz) .Add (.Tuple [.Call (.Attribute (.Name y py) "pop" ap) [e] [] cp] kt pt) pc] [] p2) env) :: starEach [] env)
    (hs : ∀ env : Env, env.scope = C.sc → swapsWith (.Call (.Name "tuple" p3) [.Call (.Name "sorted" p1) [.BinOp (.Name z pz) .Add (.Tuple [.Call (.Attribute (.Name y py) "pop" ap) [e] [] cp] kt pt) pc] [] p2] [] p4) (some (.Name x px)) pos.line env = pure false)
    (h : WPE F C e ρ k fun k1 d => ∃ (n : Nat) (c : Int), d = .int n ∧ xs[n]? = some (.int c) ∧ ∀ ms : List Int, ms.Perm (ns ++ [c]) → ms.Pairwise (· ≤ ·) → P.nx k1 ((ρ.set il (.own o (xs.eraseIdx n))).set i (.d (.tuple (ms.map PyData.int)))))
    (hd : (y == ("__debug__" : Str)) = false := by decide) (hcd : (y == ("__classdict__" : Str)) = false := by decide) (hd2 : (z == ("__debug__" : Str)) = false := by decide) (hcd2 : (z == ("__classdict__" : Str)) = false := by decide)
    (hbm : ∀ X : Cx, ∀ {to : TE} {t : TA}, PE X (.Name y py) to → PA X [e] t → PE X (.Call (.Attribute (.Name y py) "pop" ap) [e] [] cp) (tBM X.K "list" rPopAt to t) := by exact fun X {to t} h1 h2 => pe_bm PySem.F.plainAttrs_list PySem.F.slot_list_pop PySem.F.type_list_pop mt_popAt h1 h2) :
    WPS F C (.Assign [.Name x px] (.Call (.Name "tuple" p3) [.Call (.Name "sorted" p1) [.BinOp (.Name z pz) .Add (.Tuple [.Call (.Attribute (.Name y py) "pop" ap) [e] [] cp] kt pt) pc] [] p2] [] p4) pos) ρ k P :=
  of_ps (fun X fx => ps_set (by rw [fx.N]; exact t.hN) (by rw [fx.N]; exact t.hi) (by rw [fx.sc]; exact t.hx)
      (pe_callTy (tupK fx) (by show X.env.scope.names.lookup ("tuple" : Str) = _; rw [fx.sc]; exact hg) (by rw [fx.mg]; exact hm) (by decide +kernel) (pa_cons (pe_callB (id := "sorted") (srtTK fx) (by show X.env.scope.names.lookup ("sorted" : Str) = _; rw [fx.sc]; exact hg2) (by rw [fx.mg]; exact hm2) (by decide +kernel)
        (pa_cons (pe_op (catTK fx) (pe_var (i := ix) (by rw [fx.N]; exact hNz) (by rw [fx.sc]; exact hvz) hd2 hcd2) (pe_tup (pa_cons (pePop (x := y) il fx hN hv hse hd hcd hbm) pa_nil (hs1 X.env)))) pa_nil (hs2 X.env)) (by decide) (by decide) (hs2 X.env) rfl) pa_nil (hs3 X.env)) (by decide) (by decide) (hs3 X.env) rfl)
      (hs X.env fx.sc) (by rw [fx.fn, fx.sc]; exact t.hf)) fun σ H E en j q1 _ _ _ => by
    have w1 : WX F o (tPop C il e) ρ k fun k1 ys d => ∃ c : Int, d = .int c ∧ ∀ ms : List Int, ms.Perm (ns ++ [c]) → ms.Pairwise (· ≤ ·) → P.nx k1 ((ρ.set il (.own o ys)).set i (.d (.tuple (ms.map PyData.int)))) :=
      wx_pop il hr hz (h.imp fun k1 d ⟨n, c, e1, e2, p⟩ => ⟨n, .int c, e1, e2, c, rfl, p⟩)
    have w4 := wx_call (Ξ := fun k1 ys d => P.nx k1 ((ρ.set il (.own o ys)).set i (.d d))) hM (wx_call hM (wx_op ix hS hM hrz (wx_tup1 hM (Ξ := fun k1 ys d => RD F (rCatA C.K) (.tuple (ns.map PyData.int)) d k1 fun k2 d2 => RA F (rSortTI C.K) [d2] k2 fun k3 d3 => RA F (fun xs H Q => ∃ p ys, xs = [.ref p] ∧ ((SqL C.K H p ys ∧ ∀ l, H l = none → Q (.ref l) (upd H l (.tup ys))) ∨ (SqT C.K H p ys ∧ Q (.ref p) H))) [d3] k3 fun k4 d4 => P.nx k4 ((ρ.set il (.own o ys)).set i (.d d4))) (fun σ H Q en j q => w1 σ H Q en j fun v d k' ys ws H' l hw r j' rv ⟨c, ec, p⟩ => by
      subst ec
      refine q v _ k' ys ws H' l hw r j' rv (rd_catT hK (by rw [List.length_map]; show _ + 1 ≤ _; omega) ?_)
      have e1 : ns.map PyData.int ++ [PyData.int c] = (ns ++ [c]).map PyData.int := by rw [List.map_append]; rfl
      rw [e1]
      exact ra_sortT hK (by rw [List.length_append]; show _ + 1 ≤ _; omega) fun ms hp hw => ra_tuple hK (p ms hp hw)))))
    refine w4 σ H _ en j fun v d k' ys ws H' l hw r j' rv p => ?_
    exact q1 _ (σ.set i (some v)) k' H' (l.lz hS) ((en.ownLd hr hno l hw r).set (sv := .d d) ⟨v, rfl, rv⟩) j' p
end
section
variable {F : Fm} {C : Cs} {ρ : Rho} {k : Nat} {P : DE} {pos p pl p1 p2 p4 pt pr pr2 : Pos} {a e2 : Expr} {x1 x2 : Str} {kk kt : Nat} {rest : List Stmt}
/-- x, y = (list(range(a)), e2), both plain names, the first an own list -/
theorem wb_own2 (i1 i2 : Nat) (h12 : i1 ≠ i2) (t1 : Tgt C i1 x1) (t2 : Tgt C i2 x2) (hl1 : C.sc.names.lookup x1 = some .local) (hl2 : C.sc.names.lookup x2 = some .local) (hg : C.sc.names.lookup ("list" : Str) = some .globalImplicit) (hm : C.mg ("list" : Str) = none) (hg2 : C.sc.names.lookup ("range" : Str) = some .globalImplicit) (hm2 : C.mg ("range" : Str) = none)
    (hs1 : ∀ env : Env, starEach [a] env = (false, eval a env) :: starEach [] env) (hs2 : ∀ env : Env, starEach [.Call (.Name "range" pr) [a] [] pr2] env = (false, eval (.Call (.Name "range" pr) [a] [] pr2) env) :: starEach [] env)
    (he1 : ∀ env : Env, starEach [.Call (.Name "list" p) [.Call (.Name "range" pr) [a] [] pr2] [] pl, e2] env = (false, eval (.Call (.Name "list" p) [.Call (.Name "range" pr) [a] [] pr2] [] pl) env) :: starEach [e2] env)
    (he2 : ∀ env : Env, starEach [e2] env = (false, eval e2 env) :: starEach [] env)
    (hs : ∀ env : Env, swapsWithSole [.Tuple [.Name x1 p1, .Name x2 p2] kk p4] (.Tuple [.Call (.Name "list" p) [.Call (.Name "range" pr) [a] [] pr2] [] pl, e2] kt pt) pos.line env = pure false)
    (hw : ∀ env : Env, env.scope = C.sc → swappedStores [.Tuple [.Name x1 p1, .Name x2 p2] kk p4] (.Tuple [.Call (.Name "list" p) [.Call (.Name "range" pr) [a] [] pr2] [] pl, e2] kt pt) env = pure (some [x1, x2]))
    (h : WPE F C a ρ k fun k1 d => ∃ z : Int, d = .int z ∧ (0 ≤ z ∧ z ≤ 16777216) ∧ ∀ o, ¬ F.M o → WPE (F.ext o) C e2 ρ k1 fun k2 d2 =>
      WPB (F.ext o) C rest ((ρ.set i1 (.own o ((rg z).map PyData.int))).set i2 (.d d2)) k2 { nx := fun _ _ => False, rt := P.rt, bk := fun _ _ => False, ct := fun _ _ => False }) :
    WPB F C (.Assign [.Tuple [.Name x1 p1, .Name x2 p2] kk p4] (.Tuple [.Call (.Name "list" p) [.Call (.Name "range" pr) [a] [] pr2] [] pl, e2] kt pt) pos :: rest) ρ k P :=
  of_pb (fun X fx => pss_cons (ps_par fx.calm (by rw [fx.N]; exact t1.hN) (by rw [fx.N]; exact t1.hi) (by rw [fx.N]; exact t2.hi) h12 (by rw [fx.sc]; exact hl1) (by rw [fx.sc]; exact hl2)
      (pa_cons (pe_listRg fx.calm (by show X.env.scope.names.lookup ("list" : Str) = _; rw [fx.sc]; exact hg) (by rw [fx.mg]; exact hm) (prg_1 (by show X.env.scope.names.lookup ("range" : Str) = _; rw [fx.sc]; exact hg2) (by rw [fx.mg]; exact hm2) (peE fx) (hs1 X.env)) (hs2 X.env)) (pa_cons (peE fx) pa_nil (he2 X.env)) (he1 X.env))
      (hw X.env fx.sc) (hs X.env)) (pbB fx)) fun σ H E en j q1 q2 q3 q4 => by
    show tE C a σ H _
    refine h σ H _ en j fun v d k1 H1 l1 j1 r ⟨z, e, hz, p⟩ => ?_
    subst e
    cases r
    refine ⟨z, rfl, RgOk.of_le (by decide) hz.2 (by decide) hz.1, fun o no => ?_⟩
    rw [rgV_rg]
    have hM : ¬ F.M o := fun z => F.gl _ _ j1.g o z no
    have h0 : F.H0 o = none := j1.h0 hM no
    have en1 : EnvOk (F.ext o) (upd H1 o (.lst ((rg z).map V.int))) σ ρ := (en.le l1).ext no
    have jo : J (F.ext o) k1 (upd H1 o (.lst ((rg z).map V.int))) := (j1.new no).ext (lv_new fun _ z => nomatch z)
    show tE C e2 σ _ _
    refine p o hM σ _ _ en1 jo fun v2 d2 k2 H2 l2 j2 r2 p2 => ?_
    have ho : H2 o = some (.lst ((rg z).map V.int)) := l2 o _ (Fm.mxA hM) upd_same
    have en4 : EnvOk (F.ext o) H2 ((σ.set i1 (some (.ref o))).set i2 (some v2)) ((ρ.set i1 (.own o ((rg z).map PyData.int))).set i2 (.d d2)) :=
      ((en1.le l2).set (sv := .own o ((rg z).map PyData.int)) ⟨rfl, .inr rfl, hM, h0, _, ho, RepAll.of_ints _⟩).set (sv := .d d2) ⟨v2, rfl, r2⟩
    refine ⟨.ref o, v2, rfl, ?_⟩
    refine p2 _ _ E en4 j2 ?_ ?_ ?_ ?_
    · exact fun _ _ _ _ _ _ _ z => z.elim
    · exact fun v d k' H' j' r' p => q2 v d k' H' j'.unext r'.unext p
    · exact fun _ _ _ _ _ _ _ z => z.elim
    · exact fun _ _ _ _ _ _ _ z => z.elim
end
section
variable {F : Fm} {C : Cs} {ρ : Rho} {k : Nat} {P : DE} {pos p2 px : Pos} {es : List Expr} {x : Str} {rest : List Stmt}
/-- x = [..] as an own list for two statements, then data again -/
theorem wb_ownLst2 (i : Nat) {st st2 : Stmt} (t : Tgt C i x) (hi : i < ρ.length) (hs : ∀ env : Env, env.scope = C.sc → swapsWith (.List es p2) (some (.Name x px)) pos.line env = pure false)
    (h : WPA F C es ρ k fun k2 ds => ds.length ≤ 1000000 ∧
      ∀ o, WPS (F.ext o) C st (ρ.set i (.own o ds)) k2 { nx := fun k' ρ' => WPS (F.ext o) C st2 ρ' k' { nx := fun k' ρ' => ∃ ys, ρ'[i]? = some (.own o ys) ∧ (ρ'.set i .un).all plainB = true ∧ WPB F C rest (ρ'.set i (.d (.list ys))) k' P, rt := P.rt, bk := fun _ _ => False, ct := fun _ _ => False }, rt := P.rt, bk := fun _ _ => False, ct := fun _ _ => False }) :
    WPB F C (.Assign [.Name x px] (.List es p2) pos :: st :: st2 :: rest) ρ k P :=
  of_pb (fun X fx => pss_cons (ps_set (by rw [fx.N]; exact t.hN) (by rw [fx.N]; exact t.hi) (by rw [fx.sc]; exact t.hx) (pe_lst (paA fx)) (hs X.env fx.sc) (by rw [fx.fn, fx.sc]; exact t.hf)) (pss_cons (psS fx) (pss_cons (psS fx) (pbB fx)))) fun σ H E en j q1 q2 q3 q4 => by
    refine h σ H _ en j fun xs ds k2 H2 l2 j2 hr ⟨hz, p⟩ => ?_
    refine ⟨by rw [hr.length]; exact Nat.le_trans hz (by decide), fun o no => ?_⟩
    have hM : ¬ F.M o := fun z => F.gl _ _ j2.g o z no
    have hS : ¬ F.S o := j2.fresh no
    have h0 : F.H0 o = none := j2.h0 hM no
    have en2 : EnvOk (F.ext o) (upd H2 o (.lst (xs))) (σ.set i (some (.ref o))) (ρ.set i (.own o ds)) :=
      ((en.le l2).ext no).set (sv := .own o ds) ⟨rfl, .inr rfl, hM, h0, xs, upd_same, hr.ext no⟩
    have lz0 : Lz F H H2 := l2.lz
    have lzo : ∀ H', Lz (F.ext o) (upd H2 o (.lst (xs))) H' → Lz F H H' := fun H' lz b u hb e => by
      have e2 := lz0 b u hb e
      have ne : b ≠ o := ne_of_none e2 no
      exact lz b u (fun z => z.elim (fun y => y.elim (fun q => hb (.inl q)) ne) fun q => hb (.inr q)) (by rw [upd_ne ne]; exact e2)
    refine p o (σ.set i (some (.ref o))) (upd H2 o (.lst (xs))) _ en2 ((j2.new no).ext (lv_new fun _ z => nomatch z)) ?_ ?_ ?_ ?_
    · rintro ρ1 σ1 k1' H1' lz1 en1' j1' hst2
      refine hst2 σ1 H1' _ en1' j1' ?_ (fun v d k' H' j' r' p => q2 v d k' H' j'.unext r'.unext p) (fun _ _ _ _ _ _ _ z => z.elim) (fun _ _ _ _ _ _ _ z => z.elim)
      rintro ρ' σ' k' H' lz2 en' j' ⟨zs, hown, hpl, hrest⟩
      have lz := lz1.trans lz2
      have hlz := lzo H' lz
      obtain ⟨hσ', _, _, _, vs, hvs, rvs⟩ := en'.own hown
      have en3 : EnvOk F H' σ' (ρ'.set i (.d (.list zs))) := by
        intro m sv em
        by_cases hj : i = m
        · subst hj
          have hl : i < ρ'.length := (List.getElem?_eq_some_iff.mp hown).1
          rw [List.getElem?_set_self hl] at em
          cases em
          exact ⟨_, hσ', _, rfl, .lst ⟨hvs, hS⟩ rvs.unext⟩
        · rw [List.getElem?_set_ne hj] at em
          obtain ⟨y, qy, sy⟩ := en' m sv em
          refine ⟨y, qy, ?_⟩
          cases sv with
          | un => trivial
          | d d => obtain ⟨v, z, r⟩ := sy; exact ⟨v, z, r.unext⟩
          | raw v => exact sy
          | own o' xs' => exact (noOwn_of hpl m o' xs' (Ne.symm hj) em).elim
      exact hrest σ' H' E en3 j'.unext (fun ρ2 σ2 k2 H2 l2 => q1 ρ2 σ2 k2 H2 (hlz.trans l2)) q2 (fun ρ2 σ2 k2 H2 l2 => q3 ρ2 σ2 k2 H2 (hlz.trans l2)) (fun ρ2 σ2 k2 H2 l2 => q4 ρ2 σ2 k2 H2 (hlz.trans l2))
    · exact fun v d k' H' j' r' p => q2 v d k' H' j'.unext r'.unext p
    · exact fun _ _ _ _ _ _ _ z => z.elim
    · exact fun _ _ _ _ _ _ _ z => z.elim
end
end Dl

namespace Dl
open PySem PySem.Spec PyProof.Rows L2
/-! ### enumerate over a tuple -/
abbrev et1 (h : Heap) (t : Addr) : Heap := h.push { cls := .type "tuple_iterator", data := .fields #[.ref t, .int 0 0] }
abbrev et2 (h : Heap) (t : Addr) : Heap := (et1 h t).push { cls := .type "enumerate", data := .fields #[.none, .bool false, .ref h.objs.size, rawInt 0, .none, .none] }
set_option maxHeartbeats 1000000 in
theorem meets_et (t : Addr) (xs : Array Value) : Meets (Builtin.«enumerate.__new__» ⟨[.type "enumerate", .ref t], []⟩)
    (fun _ R s => s.heap.IsTuple t xs ∧ R (.ok (.ret (.ref (et1 s.heap t).objs.size))) { s with heap := et2 s.heap t }) :=
  .of_wp fun prog w A R s q => by
    obtain ⟨hp, g, d, tk, os⟩ := s; obtain ⟨q1, q⟩ := q
    have hsub := sub_enumerate
    have T1 : Heap.IsTuple (Shared.heap ⟨hp, g, d, tk, os⟩) t xs := q1
    obtain ⟨o, ho, hc, n, hd⟩ := id q1
    obtain ⟨c0, dct, dt, sl⟩ := o
    replace hc : c0 = .type "tuple" := hc
    replace hd : dt = .seq xs n := hd
    subst hc hd
    wp_walk using AutoSeq1.wpAny_loadPart' ho
    refine wpAny_stack_any (fun sk => wpAny_pure ?_)
    split
    · rename_i c _ _ _ _ _
      cases (c == Value.type "enumerate") <;> (wp_walk using AutoSeq1.wpAny_loadPart' ho, wpAny_pyIter_tuple T1) <;> exact ⟨_, rfl, q⟩
    · wp_walk using AutoSeq1.wpAny_loadPart' ho, wpAny_pyIter_tuple T1
      exact ⟨_, rfl, q⟩
section
variable {prog : Program} {w : World} {A : Around} {E : Value → Shared → Prop} {s : Shared}
theorem call_et {t : Addr} {xs : Array Value} {Q : Value → Shared → Prop} (q1 : s.heap.IsTuple t xs)
    (q : IsEnum (et2 s.heap t) (s.heap.objs.size + 1) s.heap.objs.size 0 .none → (et2 s.heap t).IsTupleIter s.heap.objs.size t 0 → (∀ c o, s.heap.get? c = some o → (et2 s.heap t).get? c = some o) → Q (.ref (s.heap.objs.size + 1)) { s with heap := et2 s.heap t }) :
    wpAny (model prog w) A (call (.type "enumerate") [.ref t]) Q E s := by
  refine callType_new F.called_enumerate (by decide) (F.typeCall_enumerate_1 _) (F.newCall_enumerate_1 _) (fun obj => F.args_object_init_2 obj _) F.entry_enumerate_new (meets_et t xs) ⟨q1, ?_⟩
  have n1 : (et1 s.heap t).objs.size = s.heap.objs.size + 1 := Heap.size_push ..
  have m2 : (et2 s.heap t).get? (et1 s.heap t).objs.size = some _ := Heap.get?_push_size _ rfl
  have m1 : (et2 s.heap t).get? s.heap.objs.size = some _ := Heap.get?_push_of_some _ (Heap.get?_push_size _ rfl)
  rw [n1] at m2
  show _ ∧ _
  rw [n1]
  exact ⟨⟨_, m2, rfl⟩, q m2 ⟨_, m1, rfl, rfl⟩ fun c o e => Heap.get?_push_of_some _ (Heap.get?_push_of_some _ e)⟩
end
def Itet (K : PySem.W.Frag) (a : Addr) : It :=
  ⟨fun i H => ∃ (xs : List V) (x : V), SqT K H a xs ∧ xs[i]? = some x, fun i H v H' => ∃ t x, v = .ref t ∧ H t = none ∧ H' = upd H t (.tup [.int (i : Nat), x]) ∧ ∀ xs, SqT K H a xs → xs[i]? = some x, fun i H => ∃ xs : List V, SqT K H a xs ∧ xs.length = i⟩
theorem turn_et {P : Program} {w : World} {K : PySem.W.Frag} {elts : List Expr} {kk : Nat} {tpos : Pos} (a e it : Addr) (hae : a ≠ e) (hai : a ≠ it) (hei : e ≠ it) :
    Turn P w K (.Tuple elts kk tpos) (Itet K a) [e, it] e (fun i h => (∃ old, IsEnum h e it ((i : Nat) : Int) old) ∧ h.IsTupleIter it a i) where
  mem := by simp
  obj := fun i h st c hc => by
    obtain ⟨⟨old, he⟩, ⟨o, ho, _, hd⟩⟩ := st
    have two : c = e ∨ c = it := by simpa using hc
    rcases two with rfl | rfl
    · exact ⟨_, he, fun v q => nomatch q⟩
    · exact ⟨o, ho, fun v q => by rw [hd] at q; cases q⟩
  keep := fun i h h' st k => by
    obtain ⟨⟨old, he⟩, wt⟩ := st
    exact ⟨⟨old, k e (by simp) _ he⟩, wt.at fun o q => k it (by simp) o q⟩
  item := by
    intro X hP hw hK hc i pins s σ H E I hf st hg
    subst hP hw hK
    obtain ⟨⟨old, he⟩, wt⟩ := st
    obtain ⟨xs, x, sq, hx⟩ := hg
    obtain ⟨its, rv, p, _⟩ := I.tuple sq
    obtain ⟨u, hu, ru⟩ := rv.get hx
    have elt : e < s.heap.objs.size := Heap.lt_size he
    have ilt : it < s.heap.objs.size := by obtain ⟨o, q, _⟩ := wt; exact Heap.lt_size q
    have hi : i < its.toArray.size := by
      have := (List.getElem?_eq_some_iff.mp hu).1
      simpa using this
    have D := Draws.tuple (prog := X.prog) (w := X.w) (A := X.A.in1) (I.ok.hd hc) it a hai its.toArray
    refine wpAny_pyNext_enum_itemD D he ⟨wt, p⟩ hi hei (by simp [hei, Ne.symm hae]) fun y h1 tk hy ho st1 hT hsz hk => ?_
    have ey : y = u := by
      have h2 : its.toArray[i]? = some u := by simpa using hu
      exact Option.some.inj (hy.symm.trans h2)
    subst ey
    refine ⟨_, rfl, wpAny_letOwnedTupleGo_enum (s := { s with heap := h1, toks := tk + 1 }) ho fun h2 he2 sb => ?_⟩
    have hT2 : h2.get? s.heap.objs.size = some { cls := .type "tuple", data := .seq #[.int i tk, y] } := (sb.2 _ (Nat.ne_of_gt elt)).trans hT
    have okn : ObjOk X.prog X.w (upd H s.heap.objs.size (.tup [.int (i : Nat), x])) h2 s.heap.objs.size (.tup [.int (i : Nat), x]) :=
      ⟨by show 2 ≤ sizeLine; decide, [.int i tk, y], .cons ⟨_, rfl⟩ (.cons ru .nil), ⟨_, hT2, rfl, _, rfl⟩⟩
    have V1 : Inv X pins σ (upd H s.heap.objs.size (.tup [.int (i : Nat), x])) { s with heap := h2, toks := tk + 1 } :=
      I.turnedNew (ch := [e, it]) (fun c o nb g => (sb.2 c fun q => nb (by simp [q])).trans (hk c o (fun q => nb (by simp [q])) (fun q => nb (by simp [q])) g)) hf (Nat.le_refl _) okn
    refine ⟨.ref s.heap.objs.size, _, V1, rfl, ⟨_, x, rfl, I.hok.fresh (Nat.le_refl _), rfl, fun ys hy => by rw [I.tuple_inj hy sq]; exact hx⟩, ⟨⟨y, ?_⟩, st1.1.at fun o q => (sb.2 it (Ne.symm hei)).trans q⟩, fun c hcm => ?_⟩
    · have eI : ((i + 1 : Nat) : Int) = (i : Int) + 1 := by omega
      rw [eI]; exact he2
    · have clt : c < s.heap.objs.size := by
        have two : c = e ∨ c = it := by simpa using hcm
        rcases two with rfl | rfl <;> assumption
      rw [upd_ne (Nat.ne_of_lt clt)]
      exact (hf c hcm).1
  done := by
    intro X hP hw hK hc i pins s σ H E I hf st hg
    subst hP hw hK
    obtain ⟨⟨old, he⟩, wt⟩ := st
    obtain ⟨xs, sq, hx⟩ := hg
    obtain ⟨its, rv, p, _⟩ := I.tuple sq
    obtain ⟨f0, f1, f2, f3, f4, f5⟩ := hf it (by simp)
    have hl := rv.length
    have ei : i = its.toArray.size := by rw [← hx, hl]; simp
    have D := Draws.tuple (prog := X.prog) (w := X.w) (A := X.A.in1) (I.ok.hd hc) it a hai its.toArray
    exact wpAny_pyNext_enum_endD D he ⟨ei ▸ wt, p⟩ fun h' eb => ⟨rfl, I.turned (t' := s.toks) (fun b o hb q => eb b o hb q) f0 f1 f3 f4 f5⟩
  self := fun A i s Q E st h => let ⟨⟨_, he⟩, _⟩ := st; wpAny_pyIter_enum he h
def iEt (K : PySem.W.Frag) (ta : TA) : TI := fun σ H R => ta σ H fun vs H1 => ∃ a xs, vs = [.ref a] ∧ SqT K H1 a xs ∧ R (Itet K a) H1
theorem pi_et {X : Cx} {e : Expr} {ta : TA} {p pos tpos : Pos} {elts : List Expr} {kk : Nat} (hg : Gl X "enumerate") (hm : X.mg "enumerate" = none) (ha : PA X [e] ta) (hs : starEach [e] X.env = [(false, eval e X.env)]) :
    PI X (.Tuple elts kk tpos) (.Call (.Name "enumerate" p) [e] [] pos) (iEt X.K ta) := by
  refine ⟨fun pins s σ H R I h => Call_ (ld_blt I hg hm boot_enumerate (PyProof.Rows.callWith_type1 (thn (ha.run pos pins s σ H _ I h) fun us s1 ⟨vs, H1, I1, r1, q1⟩ => ?_) hs rfl))⟩
  obtain ⟨a, xs, rfl, sq, q⟩ := q1
  cases r1 with
  | cons ra rr =>
  cases rr
  cases ra
  obtain ⟨vx, rx, lx, _⟩ := I1.tuple sq
  have lta : a < s1.heap.objs.size := by obtain ⟨o, q, _⟩ := lx; exact Heap.lt_size q
  refine call_et lx fun pe wt kp => wpAny_pyIter_enum pe ?_
  have V2 : Inv X pins σ H1 { s1 with heap := et2 s1.heap a } := I1.kept (t' := s1.toks) kp
  refine ⟨s1.heap.objs.size + 1, [s1.heap.objs.size + 1, s1.heap.objs.size], _, _, H1, rfl, V2, turn_et a (s1.heap.objs.size + 1) s1.heap.objs.size (Nat.ne_of_lt (Nat.lt_succ_of_lt lta)) (Nat.ne_of_lt lta) (Nat.succ_ne_self _), ⟨⟨.none, pe⟩, wt⟩, fun c hcm => ?_, q⟩
  have two : c = s1.heap.objs.size + 1 ∨ c = s1.heap.objs.size := by simpa using hcm
  have ge : s1.heap.objs.size ≤ c := by rcases two with z | z <;> rw [z] <;> first | exact Nat.le_add_right _ _ | exact Nat.le_refl _
  exact I1.fpOk ge (I1.hok.fresh ge)
section
variable {F : Fm} {C : Cs} {ρ : Rho} {k : Nat} {P : DE} {pos p p1 p2 tp : Pos} {a : Expr} {x1 x2 : Str} {kk : Nat} {body : List Stmt}
/-- for x1, x2 in enumerate(a tuple) -/
theorem ws_for_et (i1 i2 : Nat) (t1 : Tgt C i1 x1) (t2 : Tgt C i2 x2) (hK : F.K = C.K) (hg : C.sc.names.lookup ("enumerate" : Str) = some .globalImplicit) (hm : C.mg ("enumerate" : Str) = none)
    (hse : ∀ env : Env, starEach [a] env = [(false, eval a env)]) (hfs : ∀ (env : Env) (v : Value), foldedSetIterable (.Call (.Name "enumerate" p) [a] [] pos) env v = pure v)
    (h : WPE F C a ρ k fun k2 d => ∃ (I : Nat → Nat → Rho → Prop) (ds : List PyData), d = .tuple ds ∧ I 0 k2 ρ ∧
      (∀ (j : Nat) (y : PyData) k' ρ', ds[j]? = some y → I j k' ρ' → WPB F C body ((ρ'.set i1 (.d (.int (j : Int)))).set i2 (.d y)) k' (P.loop (I (j + 1)))) ∧ (∀ k' ρ', I ds.length k' ρ' → P.nx k' ρ')) :
    WPS F C (.For (.Tuple [.Name x1 p1, .Name x2 p2] kk tp) (.Call (.Name "enumerate" p) [a] [] pos) body [] pos) ρ k P :=
  of_ps (t := tFor (iEt C.K (tCons (tE C a) tNil)) (gTup C.K 2 (gCons (gName i1) (gCons (gName i2) gNil))) (tB C body)) (fun X fx => ps_for (by rw [fx.xe]; exact PassesOwn.never) fx.calm
      (by rw [← fx.K]; exact pi_et (by show X.env.scope.names.lookup ("enumerate" : Str) = _; rw [fx.sc]; exact hg) (by rw [fx.mg]; exact hm) (pa_cons (peE fx) pa_nil (hse X.env)) (hse X.env))
      (pgTup (n := 2) fx (pgs_cons (t1.pg fx) (pgs_cons (t2.pg fx) pgs_nil)) (by rfl) (by rfl)) (pbB fx) (hfs X.env)) fun σ H E en j q1 q2 q3 q4 => by
    show tE C a σ H _
    refine h σ H _ en j fun va da k2 H2 l2 j2 ra hh => ?_
    obtain ⟨I, ds, e1, i0, hstep, hend⟩ := hh
    subst e1
    cases ra with
    | @tup pa xs _ ha hra =>
    refine ⟨pa, xs, rfl, hK ▸ sqt_of ha, ?_⟩
    have nx : xs.length = ds.length := hra.length
    refine ⟨fun n m σ' H' => m + n = xs.length ∧ ∃ k' ρ', EnvOk F H' σ' ρ' ∧ J F k' H' ∧ Lz F H2 H' ∧ I n k' ρ', ⟨xs.length, by omega, k2, ρ, en.le l2, j2, .refl, i0⟩, ?_⟩
    rintro n m σ' H' ⟨hm', k', ρ', en', j', lz, ii⟩
    have sqa : SqT C.K H' pa xs := hK ▸ sqt_of (K := F.K) (⟨lz _ _ (Fm.sxA ha.2) ha.1, ha.2⟩ : H' pa = some (.tup xs) ∧ ¬ F.S pa)
    by_cases over : n = xs.length
    · exact .inl ⟨⟨xs, sqa, over.symm⟩, q1 ρ' σ' k' H' (l2.lz.trans lz) en' j' (hend k' ρ' (by rw [← nx, ← over]; exact ii))⟩
    · have lt1 : n < xs.length := by omega
      refine .inr ⟨⟨xs, xs[n], sqa, List.getElem?_eq_getElem lt1⟩, fun σ2 H2' => ∃ k' ρ', EnvOk F H2' σ2 ρ' ∧ J F k' H2' ∧ Lz F H2 H2' ∧ I (n + 1) k' ρ', fun σ2 H2' w => ⟨m - 1, by omega, by omega, w⟩, ?_⟩
      rintro v H3 ⟨t, x, rfl, ht, rfl, fx1⟩
      obtain ⟨dx, hdx, rdx⟩ := hra.got (fx1 xs sqa)
      have lnew : Le F H' (upd H' t (.tup [.int (n : Nat), x])) := .new ht
      have rx2 := (rdx.le lz).le lnew.lz
      refine ⟨t, [.int (n : Nat), x], rfl, .inl (.inl upd_same), rfl, .int (n : Nat), [x], rfl, x, [], rfl, rfl, ?_⟩
      refine hstep n dx k' ρ' hdx ii _ _ _ (((en'.le lnew).set (sv := .d (.int (n : Int))) ⟨_, rfl, .int _⟩).set (sv := .d dx) ⟨_, rfl, rx2⟩) (j'.new ht) ?_ q2 ?_ ?_
      · exact fun ρ2 σ2 k2' H2' l2' e2 j2' p => ⟨k2', ρ2, e2, j2', (lz.trans lnew.lz).trans l2', p⟩
      · exact fun ρ2 σ2 k2' H2' l2' e2 j2' p => q1 ρ2 σ2 k2' H2' (l2.lz.trans ((lz.trans lnew.lz).trans l2')) e2 j2' p
      · exact fun ρ2 σ2 k2' H2' l2' e2 j2' p => ⟨k2', ρ2, e2, j2', (lz.trans lnew.lz).trans l2', p⟩
end
end Dl

namespace Dl
open PySem PySem.Spec PyProof.Rows L2
section
variable {F : Fm} {C : Cs} {ρ : Rho} {k : Nat} {Φ : Nat → PyData → Prop} {pos : Pos} {elt e c : Expr} {scope : Scope} {x x1 : Str} {px px1 p3 pr pr2 : Pos} {kk : Nat}
theorem pi2_et {H1 : Hp} {a : Addr} {xs : List V} {ds : List PyData} (ha : H1 a = some (.tup xs) ∧ ¬ F.S a) (hr : RpAll F H1 xs ds) : PI2 F (Itet F.K a) H1 (enD 0 ds) where
  go := fun D hD n d hd => by
    rw [enD_get, Option.map_eq_some_iff] at hd
    obtain ⟨y, hy, rfl⟩ := hd
    have rr : Rp (F.ext D) (upd H1 D (.lst [])) (.ref a) (.tuple ds) := Rep.ext (.tup ha hr) hD
    cases rr with
    | @tup _ xs' _ ha' hr' =>
    have hn : n < xs'.length := by rw [hr'.length]; exact (List.getElem?_eq_some_iff.mp hy).1
    obtain ⟨y', hy', ry'⟩ := hr'.got (List.getElem?_eq_getElem hn)
    rw [hy] at hy'
    cases hy'
    refine ⟨.int ((0 + n : Nat) : Int), xs'[n], .int _, ry', fun H' lz => ?_⟩
    have sq : SqT F.K H' a xs' := sqt_of (S := (F.ext D).S) ⟨lz _ _ (Fm.sxA ha'.2) ha'.1, ha'.2⟩
    refine ⟨⟨xs', xs'[n], sq, List.getElem?_eq_getElem hn⟩, ?_⟩
    rintro v H'' ⟨T, x, rfl, hT, rfl, hx⟩
    have := hx xs' sq
    rw [List.getElem?_eq_getElem hn] at this
    cases this
    exact ⟨T, rfl, hT, by rw [Nat.zero_add]⟩
  stop := fun D hD H' lz => by
    have rr : Rp (F.ext D) (upd H1 D (.lst [])) (.ref a) (.tuple ds) := Rep.ext (.tup ha hr) hD
    cases rr with
    | @tup _ xs' _ ha' hr' =>
    have sq : SqT F.K H' a xs' := sqt_of (S := (F.ext D).S) ⟨lz _ _ (Fm.sxA ha'.2) ha'.1, ha'.2⟩
    exact ⟨xs', sq, by rw [enD_len, hr'.length]⟩
/-- [elt for x, x1 in enumerate(e) if c], e a tuple -/
theorem we_compEt1 (i i1 : Nat) (hne : i ≠ i1) (b : Blk2 C scope i x i1 x1) (hK : F.K = C.K) (hg : C.sc.names.lookup ("enumerate" : Str) = some .globalImplicit) (hm : C.mg ("enumerate" : Str) = none)
    (hse : ∀ env : Env, starEach [e] env = [(false, eval e env)]) (hs : ∀ (env : Env) (v : Value), foldedSetIterable (.Call (.Name "enumerate" pr) [e] [] pr2) env v = pure v)
    (h : WPE F C e ρ k fun k1 d => ∃ (I : Nat → Nat → List PyData → Prop) (ds : List PyData), d = .tuple ds ∧ ds.length ≤ 1000000 ∧ I 0 k1 [] ∧ (∀ D (j : Nat) (y : PyData) k' acc, ds[j]? = some y → I j k' acc → WPT (F.ext D) (C.blk scope) c ((ρ.set i (.d (.int (j : Int)))).set i1 (.d y)) k' fun k1 z => if z = true then WPE (F.ext D) (C.blk scope) elt ((ρ.set i (.d (.int (j : Int)))).set i1 (.d y)) k1 fun k2 u => I (j + 1) k2 (acc ++ [u]) else I (j + 1) k1 acc) ∧ (∀ k' acc, I ds.length k' acc → Φ k' (.list acc))) :
    WPE F C (.ListComp elt [⟨.Tuple [.Name x px, .Name x1 px1] kk p3, .Call (.Name "enumerate" pr) [e] [] pr2, [c], 0⟩] scope pos) ρ k Φ :=
  of_pe (fun X fx => pe_lc (own := [(x, i), (x1, i1)]) (wi := iEt C.K (tCons (tE C e) tNil)) fx.calm (by rw [fx.N]; exact b.t.hN) (by rw [← fx.K]; exact pi_et (by show X.env.scope.names.lookup ("enumerate" : Str) = _; rw [fx.sc]; exact hg) (by rw [fx.mg]; exact hm) (pa_cons (peE fx) pa_nil (hse X.env)) (hse X.env)) (by rw [fx.N, fx.sc]; exact b.ok) (fun s H a cl fp => pgTup (n := 2) (fx.blk s H scope a cl fp) (pgs_cons (b.t.pg (fx.blk s H scope a cl fp)) (pgs_cons (b.t1.pg (fx.blk s H scope a cl fp)) pgs_nil)) (by rfl) (by rfl)) (fun s H a cl fp => pts_one (ptT (fx.blk s H scope a cl fp))) (fun s H a cl fp => peE (fx.blk s H scope a cl fp)) (hs X.env))
    (we_lcG i i1 hne hK fun σ H R en j q => by
      show tE C e σ H _
      refine h σ H _ en j fun v d k1 H1 l1 j1 r ⟨I, ds, e, hz, i0, hstep, hend⟩ => ?_
      subst e
      cases r with
      | @tup a xs _ ha hr =>
      refine ⟨a, xs, rfl, hK ▸ sqt_of ha, ?_⟩
      rw [← hK]
      refine q _ k1 H1 (enD 0 ds) l1 j1 (pi2_et ha hr) ⟨I, by rw [enD_len]; exact hz, i0, ?_, ?_⟩
      · intro D n d k' acc hd ii
        rw [enD_get, Option.map_eq_some_iff] at hd
        obtain ⟨y, hy, rfl⟩ := hd
        rw [Nat.zero_add]
        exact hstep D n y k' acc hy ii
      · intro k' acc ii
        rw [enD_len] at ii
        exact hend k' acc ii)
end
end Dl

namespace Dl
open PySem PySem.Spec PyProof.Rows L2
/-! ### data of any kind in the heap, dicts too -/
section
variable {X : Cx} {pins : List (Addr × Obj)} {σ : L2.St} {H : Hp} {s : Shared}
theorem tup_get {a : Addr} {xs : List V} (I : Inv X pins σ H s) (h : H a = some (.tup xs)) : ∃ (its : Array Value) (o : Obj) (n : Nat), Vals xs its.toList ∧ s.heap.get? a = some o ∧ o.cls = .type "tuple" ∧ o.data = .seq its n := by
  obtain ⟨_, its, r, o, e, c, n, d⟩ := I.hok a _ h
  exact ⟨_, o, n, by simpa using r, e, c, d⟩
theorem kv_reads {P : Program} {w : World} : ∀ {es : List DictEntry} {vs : List (Key × Value)} {kvs : List (Key × V)}, Pairs (mixKind P w) es vs → KV kvs vs → (∀ h : Heap, ReadsAll h (es.map (·.key)) (kvs.map fun p => kP p.1) []) ∧ Vals (kvs.map (·.2)) (es.map (·.val))
  | [], _, _, hp, hk => by
    cases hp
    cases hk
    exact ⟨fun h => .nil, .nil⟩
  | e :: es, _, _, hp, hk => by
    cases hp with
    | @cons _ kv _ kvs hi hv hp =>
    cases hk with
    | @cons p _ ps _ hr hk =>
    obtain ⟨h1, h2⟩ := kv_reads hp hk
    obtain ⟨hr1, hr2⟩ := hr
    refine ⟨fun h => ?_, .cons (show RelV p.2 e.val from hv ▸ hr2) h2⟩
    have hi' : keyIs p.1 e.key = true := by rw [hr1]; exact hi
    refine ReadsAll.cons (as := []) (bs := []) ?_ (h1 h)
    show Reads h e.key (kP p.1) []
    rcases keyIs_shape hi' with ⟨i, t, e1, e2⟩ | ⟨x, t, e1, e2⟩
    · rw [e1, e2]; exact .int i t
    · rw [e1, e2]; exact .str x t
theorem repKV_split {K : PySem.W.Frag} {S : Addr → Prop} : ∀ {es : List (PyData × PyData)} {kvs : List (Key × V)}, RepKV K S H kvs es → es.map (·.1) = kvs.map (fun p => kP p.1)
  | [], _, h => by cases h; rfl
  | _ :: _, _, h => by
    cases h with
    | cons h1 h2 => rw [List.map_cons, List.map_cons, repKV_split h2]
mutual
theorem Rep.reads {K : PySem.W.Frag} {S : Addr → Prop} (I : Inv X pins σ H s) : ∀ (d : PyData) (v : V) (u : Value), Rep K S H v d → RelV v u → ∃ as, Reads s.heap u d as
  | .none, _, _, h, r => by
    cases h
    cases r
    exact ⟨_, .none⟩
  | .bool b, _, _, h, r => by
    cases h
    cases r
    exact ⟨_, .bool b⟩
  | .int i, _, _, h, r => by
    cases h
    obtain ⟨t, rfl⟩ := r
    exact ⟨_, .int i t⟩
  | .str x, _, _, h, r => by
    cases h
    obtain ⟨t, rfl⟩ := r
    exact ⟨_, .str x t⟩
  | .list ds, _, _, h, r => by
    cases h with
    | lst h1 h3 =>
      cases r
      obtain ⟨_, its, n, rv, e⟩ := I.hok _ _ h1.1
      obtain ⟨as, hr⟩ := RepAll.reads I ds _ its h3 rv
      exact ⟨_, .list e rfl rfl hr⟩
  | .tuple ds, _, _, h, r => by
    cases h with
    | tup h1 h3 =>
      cases r
      obtain ⟨its, o, n, rv, e, c, dd⟩ := tup_get I h1.1
      obtain ⟨as, hr⟩ := RepAll.reads I ds _ _ h3 rv
      exact ⟨_, .tuple e c dd hr⟩
  | .dict es, _, _, h, r => by
    cases h with
    | dct h1 h3 =>
      cases r
      obtain ⟨_, _, vs, rk, o, ents, ep, e, ex, dd, _, hp, _⟩ := I.hok _ _ h1.1
      obtain ⟨q1, q2⟩ := kv_reads hp rk
      obtain ⟨bs, hr⟩ := RepKV.reads I es _ _ h3 q2
      exact ⟨_, .dict e ex.1 dd (by rw [repKV_split h3]; exact q1 _) hr⟩
theorem RepAll.reads {K : PySem.W.Frag} {S : Addr → Prop} (I : Inv X pins σ H s) : ∀ (ds : List PyData) (vs : List V) (us : List Value), RepAll K S H vs ds → Vals vs us → ∃ as, ReadsAll s.heap us ds as
  | [], _, _, h, r => by
    cases h
    cases r
    exact ⟨_, .nil⟩
  | d :: ds, _, _, h, r => by
    cases h with
    | cons h1 h2 =>
      cases r with
      | cons r1 r2 =>
        obtain ⟨as, q1⟩ := Rep.reads I d _ _ h1 r1
        obtain ⟨bs, q2⟩ := RepAll.reads I ds _ _ h2 r2
        exact ⟨_, .cons q1 q2⟩
theorem RepKV.reads {K : PySem.W.Frag} {S : Addr → Prop} (I : Inv X pins σ H s) : ∀ (es : List (PyData × PyData)) (kvs : List (Key × V)) (us : List Value), RepKV K S H kvs es → Vals (kvs.map (·.2)) us → ∃ as, ReadsAll s.heap us (es.map (·.2)) as
  | [], _, _, h, r => by
    cases h
    cases r
    exact ⟨_, .nil⟩
  | (p, d) :: es, _, _, h, r => by
    cases h with
    | cons h1 h2 =>
      cases r with
      | cons r1 r2 =>
        obtain ⟨as, q1⟩ := Rep.reads I d _ _ h1 r1
        obtain ⟨bs, q2⟩ := RepKV.reads I es _ _ h2 r2
        exact ⟨_, .cons q1 q2⟩
end
end
/-! ### repr of data of any kind: where the texts come from -/
section
variable {X : Cx} {pins : List (Addr × Obj)} {σ : L2.St} {H : Hp} {s : Shared} {K : PySem.W.Frag} {S : Addr → Prop}
/-- the text of one datum, and the objects that it looks at -/
def TxOk (X : Cx) (h : Heap) (u : Value) (n : Nat) (t : Str) : Prop := ∃ bs, ReadAtMost h n bs ∧ ReprK X.prog X.w bs h n u t
def TxAll (X : Cx) (h : Heap) (us : List Value) (n : Nat) (ts : List Str) : Prop := ∃ bs, ReadAtMost h n bs ∧ ReprAllK X.prog X.w bs h n us ts
theorem txAll_nil {h : Heap} {n : Nat} : TxAll X h [] n [] := ⟨[], fun _ z => (List.not_mem_nil z).elim, .nil⟩
theorem txAll_cons {h : Heap} {u : Value} {us : List Value} {n m : Nat} {t : Str} {ts : List Str} (a : TxOk X h u n t) (b : TxAll X h us m ts) : TxAll X h (u :: us) (max n m) (t :: ts) := by
  obtain ⟨b1, l1, k1⟩ := a
  obtain ⟨b2, l2, k2⟩ := b
  refine ⟨b1 ++ b2, (l1.mono (Nat.le_max_left n m)).append (l2.mono (Nat.le_max_right n m)), .cons ((k1.more fun x hx => ?_).level_le (Nat.le_max_left n m)) (k2.more_le (fun x hx => ?_) (Nat.le_max_right n m))⟩
  · rw [List.mem_append]; exact .inl hx
  · rw [List.mem_append]; exact .inr hx
theorem tx_list {h : Heap} {a : Addr} {o : Obj} {its : List Value} {nn n : Nat} {d : PyData} {as : List Addr} {ts : List Str} (e : h.get? a = some o) (c : o.cls = .type "list") (dt : o.data = .seq its.toArray nn) (r : Reads h (.ref a) d as) (hd : d.depth = n + 1) (x : TxAll X h its n ts) : TxOk X h (.ref a) (n + 1) (listText ts) ∧ ∃ bs, ReadAtMost h n bs ∧ a ∉ bs ∧ ReprAllK X.prog X.w bs h n its ts := by
  obtain ⟨bs, lb, kb⟩ := x
  have na : a ∉ bs := not_mem_of_deeper r (show n < d.depth by omega) lb
  refine ⟨⟨a :: bs, hd ▸ ReadAtMost.cons r (show n ≤ d.depth by omega) lb, ?_⟩, bs, lb, na, kb⟩
  cases its with
  | nil => cases kb; rw [listText_nil]; exact ReprK.listEmpty e c dt
  | cons y ys => exact ReprK.list e c dt na (by have := kb.length_eq; simpa using this) fun i z q => kb.item i z (by simpa using q)
theorem keys_tx {P : Program} {w : World} : ∀ {es : List DictEntry} {vs : List (Key × Value)}, Pairs (mixKind P w) es vs → ∀ (es' : List (PyData × PyData)), es'.map (·.1) = vs.map (fun p => kP p.1) → PyData.showableAll (es'.map (·.1)) = true → (∀ t ∈ PyData.shownAll (es'.map (·.1)), t.length ≤ sizeLine) → (h : Heap) → X.prog = P → X.w = w → TxAll X h (es.map (·.key)) 0 (PyData.shownAll (es'.map (·.1)))
  | [], _, hp, es', he, _, _, h, _, _ => by
    cases hp
    cases es' with
    | nil => exact txAll_nil
    | cons _ _ => cases he
  | e :: es, _, hp, es', he, hs, hz, h, hP, hw => by
    cases hp with
    | @cons _ kv _ kvs hi hv hp =>
    cases es' with
    | nil => cases he
    | cons q qs =>
    rw [List.map_cons, List.map_cons] at he
    injection he with he1 he2
    simp only [List.map_cons, PyData.showableAll, Bool.and_eq_true] at hs
    simp only [List.map_cons, PyData.shownAll] at hz ⊢
    have ih := keys_tx hp qs he2 hs.2 (fun t ht => hz t (List.mem_cons_of_mem _ ht)) h hP hw
    refine txAll_cons (n := 0) (m := 0) ⟨[], fun _ z => (List.not_mem_nil z).elim, ?_⟩ ih
    have hz0 := hz _ List.mem_cons_self
    have hs0 := hs.1
    have hi' : keyIs kv.1 e.key = true := hi
    rw [he1] at hz0 hs0 ⊢
    rcases keyIs_shape hi' with ⟨i, t, e1, e2⟩ | ⟨x, t, e1, e2⟩
    · rw [e1] at hz0 hs0 ⊢; rw [e2]
      simp only [kP, PyData.showable, PyData.shown] at hz0 hs0 ⊢
      exact .of_is (ReprIs.int t (of_decide_eq_true hs0)) _ _ _
    · rw [e1] at hz0 hs0 ⊢; rw [e2]
      simp only [kP, PyData.shown] at hz0 ⊢
      exact .of_is (ReprIs.str x t hz0) _ _ _
theorem kvKeys : ∀ {vs : List (Key × Value)} {kvs : List (Key × V)}, KV kvs vs → vs.map (fun p => kP p.1) = kvs.map (fun p => kP p.1)
  | [], _, hk => by
    cases hk
    rfl
  | _ :: _, _, hk => by
    cases hk with
    | cons hr hk =>
    rw [List.map_cons, List.map_cons, kvKeys hk, hr.1]
mutual
theorem Rep.tx (I : Inv X pins σ H s) : ∀ (d : PyData) (v : V) (u : Value), Rep K S H v d → RelV v u → d.showable = true → d.shown.length ≤ sizeLine → TxOk X s.heap u d.depth d.shown
  | .none, _, _, h, r, _, _ => by
    cases h; cases r
    simp only [PyData.shown]
    exact ⟨[], fun _ z => (List.not_mem_nil z).elim, .of_is ReprIs.none _ _ _⟩
  | .bool b, _, _, h, r, _, _ => by
    cases h; cases r
    simp only [PyData.shown]
    exact ⟨[], fun _ z => (List.not_mem_nil z).elim, .of_is (ReprIs.bool b) _ _ _⟩
  | .int i, _, _, h, r, hs, _ => by
    cases h
    obtain ⟨t, rfl⟩ := r
    simp only [PyData.shown, PyData.showable] at hs ⊢
    exact ⟨[], fun _ z => (List.not_mem_nil z).elim, .of_is (ReprIs.int t (of_decide_eq_true hs)) _ _ _⟩
  | .str x, _, _, h, r, _, hz => by
    cases h
    obtain ⟨t, rfl⟩ := r
    simp only [PyData.shown] at hz ⊢
    exact ⟨[], fun _ z => (List.not_mem_nil z).elim, .of_is (ReprIs.str x t hz) _ _ _⟩
  | .list ds, _, _, h, r, hs, hz => by
    obtain ⟨as, hrd⟩ := Rep.reads I (.list ds) _ _ h r
    cases h with
    | lst h1 h3 =>
      cases r
      obtain ⟨_, its, n, rv, e⟩ := I.hok _ _ h1.1
      simp only [PyData.showable, PyData.shown, PyData.depth] at hs hz ⊢
      have x := RepAll.tx I ds _ its h3 rv hs fun t ht => Nat.le_trans (listText_mem_le ht) hz
      exact (tx_list e rfl rfl hrd (by simp only [PyData.depth]; try omega) x).1
  | .tuple ds, _, _, h, r, hs, hz => by
    obtain ⟨as, hrd⟩ := Rep.reads I (.tuple ds) _ _ h r
    cases h with
    | tup h1 h3 =>
      cases r
      obtain ⟨its, o, n, rv, e, c, dd⟩ := tup_get I h1.1
      simp only [PyData.showable, PyData.shown, PyData.depth] at hs hz ⊢
      obtain ⟨bs, lb, kb⟩ := RepAll.tx I ds _ _ h3 rv hs fun t ht => Nat.le_trans (tupleText_mem_le ht) hz
      have lt : PyData.depthAll ds < (PyData.tuple ds).depth := by simp only [PyData.depth]; omega
      have l2 := ReadAtMost.cons hrd (Nat.le_of_lt lt) lb
      simp only [PyData.depth] at l2
      exact ⟨_, l2, ReprK.tuple e c dd (not_mem_of_deeper hrd lt lb) kb⟩
  | .dict es, _, _, h, r, hs, hz => by
    obtain ⟨as, hrd⟩ := Rep.reads I (.dict es) _ _ h r
    cases h with
    | dct h1 h3 =>
      cases r
      obtain ⟨_, ns, vs, rk, o, ents, ep, e, ex, dd, _, hp, _⟩ := I.hok _ _ h1.1
      obtain ⟨_, q2⟩ := kv_reads hp rk
      simp only [PyData.showable, PyData.shown, PyData.depth] at hs hz ⊢
      obtain ⟨s1, s2⟩ := PyData.showableKv_split es hs
      obtain ⟨b1, l1, k1⟩ := keys_tx (X := X) hp es (by rw [repKV_split h3, kvKeys rk]) s1 (fun t ht => by
        obtain ⟨p, hp, hl⟩ := PyData.shownKv_key_le es t ht
        exact Nat.le_trans hl (Nat.le_trans (dictText_mem_le hp) hz)) s.heap rfl rfl
      obtain ⟨b2, l2, k2⟩ := RepKV.tx I es _ _ h3 q2 s2 (fun t ht => by
        obtain ⟨p, hp, hl⟩ := PyData.shownKv_val_le es t ht
        exact Nat.le_trans hl (Nat.le_trans (dictText_mem_le hp) hz))
      have hv := PyData.depthAll_vals_le es
      have lb : ReadAtMost s.heap (PyData.depthKv es) (b1 ++ b2) := (l1.mono (Nat.zero_le _)).append (l2.mono hv)
      have lt : PyData.depthKv es < (PyData.dict es).depth := by simp only [PyData.depth]; omega
      have l3 := ReadAtMost.cons hrd (Nat.le_of_lt lt) lb
      simp only [PyData.depth] at l3
      refine ⟨_, l3, ?_⟩
      have fin := ReprK.dict e ex.1 dd ns (not_mem_of_deeper hrd lt lb) (ReprEntriesK.of_two ents.toList _ _ (k1.more_le (fun b hb => by rw [List.mem_append]; exact .inl hb) (Nat.zero_le _)) (k2.more_le (fun b hb => by rw [List.mem_append]; exact .inr hb) hv))
      rw [PyData.shownKv_eq]
      exact fin
theorem RepAll.tx (I : Inv X pins σ H s) : ∀ (ds : List PyData) (vs : List V) (us : List Value), RepAll K S H vs ds → Vals vs us → PyData.showableAll ds = true → (∀ t ∈ PyData.shownAll ds, t.length ≤ sizeLine) → TxAll X s.heap us (PyData.depthAll ds) (PyData.shownAll ds)
  | [], _, _, h, r, _, _ => by
    cases h; cases r
    simp only [PyData.shownAll]
    exact txAll_nil
  | d :: ds, _, _, h, r, hs, hz => by
    cases h with
    | cons h1 h2 =>
      cases r with
      | cons r1 r2 =>
        simp only [PyData.showableAll, Bool.and_eq_true] at hs
        simp only [PyData.shownAll, PyData.depthAll] at hz ⊢
        exact txAll_cons (Rep.tx I d _ _ h1 r1 hs.1 (hz _ List.mem_cons_self)) (RepAll.tx I ds _ _ h2 r2 hs.2 fun t ht => hz t (List.mem_cons_of_mem _ ht))
theorem RepKV.tx (I : Inv X pins σ H s) : ∀ (es : List (PyData × PyData)) (kvs : List (Key × V)) (us : List Value), RepKV K S H kvs es → Vals (kvs.map (·.2)) us → PyData.showableAll (es.map (·.2)) = true → (∀ t ∈ PyData.shownAll (es.map (·.2)), t.length ≤ sizeLine) → TxAll X s.heap us (PyData.depthAll (es.map (·.2))) (PyData.shownAll (es.map (·.2)))
  | [], _, _, h, r, _, _ => by
    cases h; cases r
    simp only [List.map_nil, PyData.shownAll]
    exact txAll_nil
  | (p, d) :: es, _, _, h, r, hs, hz => by
    cases h with
    | cons h1 h2 =>
      cases r with
      | cons r1 r2 =>
        simp only [List.map_cons, PyData.showableAll, Bool.and_eq_true] at hs
        simp only [List.map_cons, PyData.shownAll, PyData.depthAll] at hz ⊢
        exact txAll_cons (Rep.tx I d _ _ h1 r1 hs.1 (hz _ List.mem_cons_self)) (RepKV.tx I es _ _ h2 r2 hs.2 fun t ht => hz t (List.mem_cons_of_mem _ ht))
end
end
/-- repr of any data -/
theorem reprA {X : Cx} {C : Cs} (fx : Fits C X) : CallR X (.builtin "repr") (fun xs H Q => ∃ v d, ∃ S : Addr → Prop, xs = [v] ∧ Rep C.K S H v d ∧ d.showable = true ∧ d.depth ≤ 60 ∧ d.shown.length ≤ sizeLine ∧ Q (.str d.shown) H) := by
  intro pins s σ H vs us Q I rv h
  obtain ⟨v, d, S, e, hd, sh, dp, sz, q⟩ := h
  subst e
  obtain ⟨u, rfl, ru⟩ := vals1 rv
  have un := fx.room.units
  have hd0 := hd
  cases hd with
  | non => cases ru; exact P.repr_of_none ⟨.str _, H, I.tok _, ⟨_, rfl⟩, q⟩
  | bl b => cases ru; exact P.repr_of_bool ⟨.str _, H, I.tok _, ⟨_, rfl⟩, q⟩
  | int i => obtain ⟨t, rfl⟩ := ru; exact P.repr_of_int (of_decide_eq_true sh) ⟨.str _, H, I.tok _, ⟨_, rfl⟩, q⟩
  | str x => obtain ⟨t, rfl⟩ := ru; exact P.repr_of_str ⟨.str _, H, I.tok _, ⟨_, rfl⟩, q⟩ sz
  | @lst a xs ds h1 h3 =>
    obtain ⟨as, hrd⟩ := Rep.reads I (.list ds) _ _ hd0 ru
    cases ru
    obtain ⟨_, its, n, rv, e⟩ := I.hok _ _ h1.1
    simp only [PyData.showable, PyData.shown, PyData.depth] at sh sz dp q
    have x := RepAll.tx I ds _ its h3 rv sh fun t ht => Nat.le_trans (listText_mem_le ht) sz
    obtain ⟨_, bs, lb, na, kb⟩ := tx_list (d := .list ds) e rfl rfl hrd (by simp only [PyData.depth]; try omega) x
    refine call_repr_slot (by omega) ⟨_, e, rfl⟩ F.slot_list_repr.toG ?_
    generalize PyData.shownAll ds = sa at kb q sz
    cases its with
    | nil =>
      cases kb
      rw [listText_nil] at q
      exact call_list_repr_empty ⟨_, e, rfl⟩ e rfl ⟨_, _, rfl, ⟨.str _, H, I.tok _, ⟨_, rfl⟩, q⟩⟩
    | cons y ys => exact call_list_reprK e rfl rfl na (by have := kb.length_eq; simpa using this) (fun i z p => kb.item i z (by simpa using p)) fx.gd (fun b _ => Clear.nil b) (by show X.A.units + 1 + _ < cLine; omega) (fun _ _ z => z) (fun h' u tk hk => ⟨_, _, rfl, ⟨.str _, H, I.kept hk, ⟨_, rfl⟩, q⟩⟩) sz
  | @tup a xs ds h1 h3 =>
    obtain ⟨as, hrd⟩ := Rep.reads I (.tuple ds) _ _ hd0 ru
    cases ru
    obtain ⟨its, o, n, rv, e, c, dd⟩ := tup_get I h1.1
    have lt : PyData.depthAll ds < (PyData.tuple ds).depth := by simp only [PyData.depth]; omega
    simp only [PyData.showable, PyData.shown, PyData.depth] at sh sz dp q
    obtain ⟨bs, lb, kb⟩ := RepAll.tx I ds _ _ h3 rv sh fun t ht => Nat.le_trans (tupleText_mem_le ht) sz
    refine call_repr_slot (by omega) ⟨_, e, c⟩ F.slot_tuple_repr ?_
    exact call_tuple_reprK e c dd (not_mem_of_deeper hrd lt lb) kb fx.gd (fun b _ => Clear.nil b) (by show X.A.units + 1 + _ < cLine; omega) (fun _ _ z => z) (fun h' u tk hk => ⟨_, _, rfl, ⟨.str _, H, I.kept hk, ⟨_, rfl⟩, q⟩⟩) sz
  | @dct a kvs es h1 h3 =>
    obtain ⟨as, hrd⟩ := Rep.reads I (.dict es) _ _ hd0 ru
    cases ru
    obtain ⟨_, ns, vs, rk, o, ents, ep, e, ex, dd, _, hp, _⟩ := I.hok _ _ h1.1
    obtain ⟨_, q2⟩ := kv_reads hp rk
    have lt : PyData.depthKv es < (PyData.dict es).depth := by simp only [PyData.depth]; omega
    simp only [PyData.showable, PyData.shown, PyData.depth] at sh sz dp q
    obtain ⟨s1, s2⟩ := PyData.showableKv_split es sh
    obtain ⟨b1, l1, k1⟩ := keys_tx (X := X) hp es (by rw [repKV_split h3, kvKeys rk]) s1 (fun t ht => by
      obtain ⟨p, hp, hl⟩ := PyData.shownKv_key_le es t ht
      exact Nat.le_trans hl (Nat.le_trans (dictText_mem_le hp) sz)) s.heap rfl rfl
    obtain ⟨b2, l2, k2⟩ := RepKV.tx I es _ _ h3 q2 s2 (fun t ht => by
      obtain ⟨p, hp, hl⟩ := PyData.shownKv_val_le es t ht
      exact Nat.le_trans hl (Nat.le_trans (dictText_mem_le hp) sz))
    have hv := PyData.depthAll_vals_le es
    have lb : ReadAtMost s.heap (PyData.depthKv es) (b1 ++ b2) := (l1.mono (Nat.zero_le _)).append (l2.mono hv)
    rw [PyData.shownKv_eq] at sz q
    refine call_repr_slot (by omega) ⟨_, e, ex.1⟩ F.slot_dict_repr ?_
    exact call_dict_reprK e ex.1 dd ns (not_mem_of_deeper hrd lt lb) (ReprEntriesK.of_two ents.toList _ _ (k1.more_le (fun b hb => by rw [List.mem_append]; exact .inl hb) (Nat.zero_le _)) (k2.more_le (fun b hb => by rw [List.mem_append]; exact .inr hb) hv)) fx.gd (fun b _ => Clear.nil b) (by show X.A.units + 1 + _ < cLine; omega) (fun _ _ z => z) (fun h' u tk hk => ⟨_, _, rfl, ⟨.str _, H, I.kept hk, ⟨_, rfl⟩, q⟩⟩) sz
section
variable {F : Fm} {C : Cs} {ρ : Rho} {k : Nat} {Φ : Nat → PyData → Prop} {Ψ : Nat → Bool → Prop} {e a b c : Expr} {pos p p1 p2 : Pos} {x : Str}
theorem we_reprA (hK : F.K = C.K) (hg : C.sc.names.lookup ("repr" : Str) = some .globalImplicit) (hm : C.mg ("repr" : Str) = none) (hs : ∀ env : Env, starEach [e] env = (false, eval e env) :: starEach [] env) (h : WPE F C e ρ k fun k1 d => (d.showable = true ∧ d.depth ≤ 60 ∧ d.shown.length ≤ sizeLine) ∧ Φ k1 (.str d.shown)) : WPE F C (.Call (.Name "repr" p) [e] [] pos) ρ k Φ :=
  we_callB (id := "repr") (fun X fx => reprA fx) hg hm (by decide +kernel) (wa_one hs (h.imp fun k1 x ⟨⟨s1, s3, s4⟩, p⟩ => fun H vs Q j r q => by
    cases r with
    | cons r1 r2 =>
    cases r2
    exact ⟨_, x, F.S, rfl, hK ▸ r1, s1, s3, s4, q _ _ k1 H .refl j (.str _) p⟩)) (by decide) (by decide) hs
/-- {} -/
theorem we_dict0 (h : Φ k (.dict [])) : WPE F C (.Dict [] [] pos) ρ k Φ :=
  of_pe (fun X fx => pe_dnewK) fun σ H Q en j q => fun p hp => q _ (.dict []) k _ (.new hp) (j.new hp) (.dct ⟨upd_same, j.fresh hp⟩ .nil) h
theorem putK_nil {κ : Type} [DecidableEq κ] (k : κ) (v : V) : putK ([] : List (κ × V)) k v = [(k, v)] := rfl
/-- {"word": a number} -/
theorem we_dictI {y : Str} {i : Int} {j1 j2 : Nat} (h : Φ k (.dict [(.str y, .int i)])) : WPE F C (.Dict [some (.Constant (.str y) j1 p1)] [.Constant (.int i) j2 p2] pos) ρ k Φ :=
  of_pe (fun X fx => pe_disp (pps_cons pe_str pe_int pps_nil) rfl rfl (by simp) (by show 1 ≤ 15; omega)) fun σ H Q en j q => fun p hp => by
    refine ⟨upd_same, [(.inr y, .int i)], rfl, by show 1 ≤ 15; omega, ?_⟩
    show Q _ (upd (upd H p (.dK [])) p (.dK [(.inr y, .int i)]))
    rw [upd_upd]
    exact q _ (.dict [(.str y, .int i)]) k _ (.new hp) (j.new hp) (.dct ⟨upd_same, j.fresh hp⟩ (.cons (k := .inr y) (.int i) .nil)) h
/-- {"word": a name} -/
theorem we_dictN {y : Str} {j1 : Nat} {d : PyData} (i : Nat) (hN : C.N[i]? = some x) (hv : Vis C.sc x) (hr : ρ[i]? = some (.d d)) (h : Φ k (.dict [(.str y, d)])) (hd : (x == ("__debug__" : Str)) = false := by decide) (hcd : (x == ("__classdict__" : Str)) = false := by decide) : WPE F C (.Dict [some (.Constant (.str y) j1 p1)] [.Name x p2] pos) ρ k Φ :=
  of_pe (fun X fx => pe_disp (pps_cons pe_str (pe_var (i := i) (by rw [fx.N]; exact hN) (by rw [fx.sc]; exact hv) hd hcd) pps_nil) rfl rfl (by simp) (by show 1 ≤ 15; omega)) fun σ H Q en j q => fun p hp => by
    obtain ⟨v, e, r⟩ := en.d hr
    refine ⟨v, e, upd_same, [(.inr y, v)], rfl, by show 1 ≤ 15; decide, ?_⟩
    show Q _ (upd (upd H p (.dK [])) p (.dK [(.inr y, v)]))
    rw [upd_upd]
    exact q _ (.dict [(.str y, d)]) k _ (.new hp) (j.new hp) (.dct ⟨upd_same, j.fresh hp⟩ (.cons (k := .inr y) (r.le (Le.new hp).lz) .nil)) h
theorem we_leLe (hm : lastMarks [.LtE, .LtE] [b, c] = false) (h : WPE F C a ρ k fun k1 x => WPE F C b ρ k1 fun k2 y => ∃ i j, x = .int i ∧ y = .int j ∧ if i ≤ j then WPE F C c ρ k2 fun k3 z => ∃ l, z = .int l ∧ Φ k3 (.bool (decide (j ≤ l))) else Φ k2 (.bool false)) : WPE F C (.Compare a [.LtE, .LtE] [b, c] pos) ρ k Φ :=
  of_pe (fun X fx => pe_chain op_le op_le (peE fx) (peE fx) (peE fx) hm) fun σ H Q en j q => by
    refine h σ H _ en j fun vx x k1 H1 l1 j1 r1 hx => hx σ H1 _ (en.le l1) j1 fun vy y k2 H2 l2 j2 r2 ⟨i, jj, e1, e2, hh⟩ => ?_
    subst e1 e2
    cases r1
    cases r2
    refine ⟨i, jj, rfl, rfl, decide (i ≤ jj), rfl, ?_⟩
    by_cases hc : i ≤ jj
    · rw [if_pos hc] at hh
      rw [if_pos (decide_eq_true hc)]
      refine hh σ H2 _ ((en.le l1).le l2) j2 fun vz z k3 H3 l3 j3 r3 ⟨l, e3, hp⟩ => ?_
      subst e3
      cases r3
      exact ⟨jj, l, rfl, rfl, q _ _ k3 H3 ((l1.trans l2).trans l3) j3 (.bl _) hp⟩
    · rw [if_neg hc] at hh
      rw [if_neg (by rw [decide_eq_true_eq]; exact hc)]
      exact q _ _ k2 H2 (l1.trans l2) j2 (.bl _) hh
end
section
variable {F : Fm} {C : Cs} {ρ : Rho} {k : Nat} {Φ : Nat → PyData → Prop} {pos p2 : Pos} {a e : Expr}
/-- xs[e:] of a tuple, e any number: some end of it -/
theorem we_sliceTA (hK : F.K = C.K) (h : WPE F C a ρ k fun k1 x => WPE F C e ρ k1 fun k2 y => ∃ ds, ∃ i : Int, x = .tuple ds ∧ y = .int i ∧ ∀ m : Nat, Φ k2 (.tuple (ds.drop m))) : WPE F C (.Subscript a (.Slice (some e) none none p2) pos) ρ k Φ :=
  of_pe (fun X fx => pe_slice (slTK fx) (peE fx) (po_some (peE fx)) po_none) fun σ H Q en j q => by
    show tE C a σ H _
    refine h σ H _ en j fun v d k1 H1 l1 j1 r hx => ?_
    show tE C e σ H1 _
    refine hx σ H1 _ (en.le l1) j1 fun vy y k2 H2 l2 j2 r2 ⟨ds, i, e1, e2, p⟩ => ?_
    subst e1 e2
    have r' := r.le l2.lz
    have r0 := r'
    cases r' with
    | @tup a xs _ ha hr =>
    cases r2
    have ec : cutV xs (some i) none = xs.drop (HT.sIx xs.length 0 (some i)) := by
      unfold cutV
      rw [HT.sIx_none]
      exact List.take_of_length_le (by rw [List.length_drop]; exact Nat.le_refl _)
    refine ⟨i, rfl, a, xs, rfl, hK ▸ sqt_of ha, fun hf => ?_, fun _ l hl => ?_⟩
    · exact q _ _ k2 _ (l1.trans l2) j2 r0 (by have := p 0; rwa [List.drop_zero] at this)
    · rw [ec]
      exact q _ _ k2 _ ((l1.trans l2).trans (.new hl)) (j2.new hl) (rep_newT j2 hl (RepAll.drop _ hr)) (p _)
end
/-! ### data whose repr is within the line, dicts too -/
structure FineA (n dp : Nat) (d : PyData) : Prop where
  sh : d.showable = true
  dp : d.depth ≤ dp
  sz : d.shown.length ≤ n
theorem FineA.ok {n dp : Nat} {d : PyData} (h : FineA n dp d) (hn : n ≤ 16000000 := by decide) (hd : dp ≤ 60 := by decide) : d.showable = true ∧ d.depth ≤ 60 ∧ d.shown.length ≤ sizeLine :=
  ⟨h.sh, Nat.le_trans h.dp hd, Nat.le_trans h.sz (Nat.le_trans hn (by decide))⟩
theorem FineA.mono {n n' dp dp' : Nat} {d : PyData} (h : FineA n dp d) (hn : n ≤ n' := by decide) (hd : dp ≤ dp' := by decide) : FineA n' dp' d := ⟨h.sh, Nat.le_trans h.dp hd, Nat.le_trans h.sz hn⟩
theorem Fine.a {n dp : Nat} {d : PyData} (h : Fine n dp d) : FineA n dp d := ⟨h.sh, h.dp, h.sz⟩
section
variable {n dp : Nat}
theorem fineA_all : ∀ {ds : List PyData}, (∀ d ∈ ds, FineA n dp d) → PyData.showableAll ds = true ∧ PyData.depthAll ds ≤ dp ∧ ((PyData.shownAll ds).map (·.length)).sum ≤ ds.length * n ∧ (PyData.shownAll ds).length = ds.length
  | [], _ => by simp [PyData.showableAll, PyData.depthAll, PyData.shownAll]
  | d :: ds, h => by
    obtain ⟨h1, h3, h4, h5⟩ := fineA_all (ds := ds) fun d hd => h d (List.mem_cons_of_mem _ hd)
    have f := h d List.mem_cons_self
    have := f.dp
    have := f.sz
    refine ⟨by simp only [PyData.showableAll, f.sh, h1, Bool.and_self], by simp only [PyData.depthAll]; omega, ?_, by simp only [PyData.shownAll, List.length_cons, h5]⟩
    simp only [PyData.shownAll, List.map_cons, List.sum_cons, List.length_cons, Nat.succ_mul]
    omega
theorem fineA_tuple {ds : List PyData} {L : Nat} (h : ∀ d ∈ ds, FineA n dp d) (hl : ds.length ≤ L) : FineA (L * (n + 2) + 3) (dp + 1) (.tuple ds) := by
  obtain ⟨h1, h3, h4, h5⟩ := fineA_all h
  refine ⟨by simp only [PyData.showable, h1], by simp only [PyData.depth]; omega, ?_⟩
  simp only [PyData.shown]
  refine Nat.le_trans (tupleText_len_le _) ?_
  rw [h5, Nat.mul_add]
  have : ds.length * n ≤ L * n := Nat.mul_le_mul_right n hl
  omega
theorem fineA_list {ds : List PyData} {L : Nat} (h : ∀ d ∈ ds, FineA n dp d) (hl : ds.length ≤ L) : FineA (L * (n + 2) + 3) (dp + 1) (.list ds) := by
  obtain ⟨h1, h3, h4, h5⟩ := fineA_all h
  refine ⟨by simp only [PyData.showable, h1], by simp only [PyData.depth]; omega, ?_⟩
  simp only [PyData.shown]
  refine Nat.le_trans (listText_len_le _) ?_
  rw [h5, Nat.mul_add]
  have : ds.length * n ≤ L * n := Nat.mul_le_mul_right n hl
  omega
end
end Dl

namespace Dl
open PySem PySem.Spec PyProof.Rows L2
theorem sw_none (env : Env) {o1 i1 o2 i2 o3 i3 o4 i4 : Expr} {p1 p2 p3 p4 p5 p6 : Pos} {kk k2 : Nat} : swappedStores [.Tuple [.Subscript o1 i1 p1, .Subscript o2 i2 p2] kk p3] (.Tuple [.Subscript o3 i3 p4, .Subscript o4 i4 p5] k2 p6) env = pure none := by
  unfold swappedStores
  cases h : (env.blockKind != .function) <;> simp [h]
section
variable {F : Fm} {C : Cs} {ρ : Rho} {k : Nat} {P : DE} {e : Expr} {x a b : Str} {p1 p2 p3 p4 p5 p6 p7 spos : Pos} {kk : Nat}
/-- x[a], x[b] = e, x the own list, a and b names of numbers -/
theorem ws_setOwn2 (i ia ib : Nat) {ow : Addr} {xs : List PyData} {ja jb : Nat} (hja : ja < xs.length) (hjb : jb < xs.length) (hK : F.K = C.K) (hN : C.N[i]? = some x) (hv : Vis C.sc x) (hr : ρ[i]? = some (.own ow xs)) (hno : (ρ.set i .un).all plainB = true)
    (hNa : C.N[ia]? = some a) (hva : Vis C.sc a) (hra : ρ[ia]? = some (.d (.int (ja : Int)))) (hNb : C.N[ib]? = some b) (hvb : Vis C.sc b) (hrb : ρ[ib]? = some (.d (.int (jb : Int))))
    (hs1 : ∀ env : Env, swapsWithSole [.Tuple [.Subscript (.Name x p1) (.Name a p2) p3, .Subscript (.Name x p4) (.Name b p5) p6] kk p7] e spos.line env = pure false)
    (hs2 : ∀ env : Env, swappedStores [.Tuple [.Subscript (.Name x p1) (.Name a p2) p3, .Subscript (.Name x p4) (.Name b p5) p6] kk p7] e env = pure none)
    (h : WPE F C e ρ k fun k1 d => ∃ d1 d2, d = .tuple [d1, d2] ∧ P.nx k1 (ρ.set i (.own ow ((xs.set ja d1).set jb d2))))
    (hd : (x == ("__debug__" : Str)) = false := by decide) (hcd : (x == ("__classdict__" : Str)) = false := by decide) (hda : (a == ("__debug__" : Str)) = false := by decide) (hcda : (a == ("__classdict__" : Str)) = false := by decide) (hdb : (b == ("__debug__" : Str)) = false := by decide) (hcdb : (b == ("__classdict__" : Str)) = false := by decide) :
    WPS F C (.Assign [.Tuple [.Subscript (.Name x p1) (.Name a p2) p3, .Subscript (.Name x p4) (.Name b p5) p6] kk p7] e spos) ρ k P :=
  of_ps (fun X fx => ps_asg (peE fx) (pgTup (n := 2) fx (pgs_cons (pg_sub (pe_var (i := i) (by rw [fx.N]; exact hN) (by rw [fx.sc]; exact hv) hd hcd) (pe_var (i := ia) (by rw [fx.N]; exact hNa) (by rw [fx.sc]; exact hva) hda hcda) set_list) (pgs_cons (pg_sub (pe_var (i := i) (by rw [fx.N]; exact hN) (by rw [fx.sc]; exact hv) hd hcd) (pe_var (i := ib) (by rw [fx.N]; exact hNb) (by rw [fx.sc]; exact hvb) hdb hcdb) set_list) pgs_nil)) (by rfl) (by rfl)) (hs1 X.env) (hs2 X.env)) fun σ H E en j q1 _ _ _ => by
    show tE C e σ H _
    refine h σ H _ en j fun v d k1 H1 l1 j1 r ⟨d1, d2, ed, p⟩ => ?_
    subst ed
    cases r with
    | @tup pa _ _ ha hr1 =>
    cases hr1 with
    | @cons w1 _ _ _ r1 hr1 =>
    cases hr1 with
    | @cons w2 _ _ _ r2 hr1 =>
    cases hr1
    have hT : SqT C.K H1 pa [w1, w2] := hK ▸ sqt_of ha
    have en1 := en.le l1
    obtain ⟨hσ, hS, hM, h0, vs, hv', rv⟩ := en1.own hr
    obtain ⟨va, hsa, ra⟩ := en1.d hra
    obtain ⟨vb, hsb, rb⟩ := en1.d hrb
    cases ra
    cases rb
    have lA : ∀ (ws : List V), Lz F H1 (upd H1 ow (.lst ws)) := fun ws b u hb z => by rw [upd_ne (show b ≠ ow from fun y => hb (.inl (y ▸ hS)))]; exact z
    refine ⟨pa, [w1, w2], rfl, hT, rfl, w1, [w2], rfl, ⟨_, hσ, _, hsa, ow, vs, _, ja, rfl, rfl, hv', ixN_nat (by rw [rv.length]; exact hja), ?_⟩⟩
    refine ⟨w2, [], rfl, ⟨_, hσ, _, hsb, ow, vs.set ja _, _, jb, rfl, rfl, upd_same, ixN_nat (by rw [List.length_set, rv.length]; exact hjb), ?_⟩⟩
    rw [upd_upd]
    refine ⟨rfl, ?_⟩
    refine q1 _ σ k1 _ (fun b u hb z => lA _ b u hb (l1.lz b u hb z)) (en1.ownSet hr hno (rep_set r2 jb (rep_set r1 ja rv))) (j1.own hM h0 (pl_lst hv')) p
end
end Dl

namespace Dl
open PySem PySem.Spec PyProof.Rows L2
/-! ### any datum == a text -/
theorem dict_not_str (l : Addr) (es : Array DictEntry) (n : Nat) (b : Str) (u : Tok) :
    Meets (Builtin.«dict.__eq__» ⟨[.ref l, .str b u], []⟩) (fun _ R s => s.heap.get? l = some { cls := .type "dict", data := .dict es n } ∧ R (.ok (.ret .notImplemented)) s) := by
  refine .of_wp fun prog w A R s h => ?_
  obtain ⟨hp, g, d, tk, os⟩ := s
  obtain ⟨hl, h⟩ := h
  have f1 := F.sub_str_dict
  wp_walk using PySem.wpAny_loadPart' hl
  exact ⟨_, rfl, h⟩
theorem str_not_dict (l : Addr) (es : Array DictEntry) (n : Nat) (b : Str) (u : Tok) :
    Meets (Builtin.«str.__eq__» ⟨[.str b u, .ref l], []⟩) (fun _ R s => s.heap.get? l = some { cls := .type "dict", data := .dict es n } ∧ R (.ok (.ret .notImplemented)) s) := by
  refine .of_wp fun prog w A R s h => ?_
  obtain ⟨hp, g, d, tk, os⟩ := s
  obtain ⟨hl, h⟩ := h
  have f1 := F.sub_dict_str
  wp_walk using PySem.wpAny_loadPart' hl
  exact ⟨_, rfl, h⟩
theorem rc_dict_str {A : Around} {s : Shared} {l : Addr} {o : Obj} {es : Array DictEntry} {n : Nat} (b : Str) (u : Tok) (ho : s.heap.get? l = some o) (ex : o.ExactDict) (hd : o.data = .dict es n) (hu : A.units < cLine) : SeqAt.RcAt A s (.ref l) (.str b u) false := fun prog w E Q h => by
  obtain ⟨c, dd, data, sl⟩ := o
  obtain ⟨e1, e2, e3⟩ := ex
  simp only at e1 e2 e3 hd
  subst e1 e2 e3 hd
  refine SeqAt.rc_eq_decline_or (k := false) ⟨_, ho, rfl⟩ (typeIs_str s b u) (by decide) F.sub_str_dict F.slot_dict_eq F.slot_str_eq_refl (fun _ hq => ?_) (fun _ hq => ?_) (fun _ hq => ?_) (.inr hu) h
  · exact call_meets F.slot_dict_eq ⟨_, ho, rfl⟩ F.entry_dict_eq (F.args_dict_eq_2 _ _) (dict_not_str l es n b u) ⟨ho, hq⟩
  · exact call_meets F.slot_str_eq_refl (typeIs_str s b u) F.entry_str_eq (F.args_str_eq_2 _ _) (str_not_dict l es n b u) ⟨ho, hq⟩
  · exact wpAny_of_eq (rfl : isSame (Value.ref l) (Value.str b u) = pure false) hq
def isS (w : Str) : PyData → Bool
  | .str x => x == w
  | _ => false
def rEqS (K : PySem.W.Frag) : R2 := fun x y H Q => ∃ (S : Addr → Prop) (d : PyData) (w : Str), Rep K S H x d ∧ y = .str w ∧ Q (.bl (isS w d)) H
theorem op_eqS {X : Cx} (hu : X.A.units + 64 < cLine) : OpR X (compareOp .Eq) (rEqS X.K) := by
  intro pins s σ H x y v u Q I rx ry h
  obtain ⟨S, d, w, hd, rfl, q⟩ := h
  obtain ⟨tw, rfl⟩ := ry
  have un : X.A.units < cLine := by omega
  have fin : ∀ b : Bool, b = isS w d → EP X pins σ Q (.bool b) s := fun b e => by subst e; exact ⟨.bl _, H, I, rfl, q⟩
  cases hd with
  | non => cases rx; exact SeqAt.RcAt.none_str w tw _ _ _ _ (fin _ rfl)
  | bl b => cases rx; exact SeqAt.RcAt.bool_str b w tw _ _ _ _ (fin _ rfl)
  | int i => obtain ⟨t, rfl⟩ := rx; exact SeqAt.RcAt.int_str i t w tw _ _ _ _ (fin _ rfl)
  | str x => obtain ⟨t, rfl⟩ := rx; exact SeqAt.RcAt.str_str x t w tw _ _ _ _ (fin _ rfl)
  | lst h1 h3 =>
    cases rx
    obtain ⟨_, its, n, rv, e⟩ := I.hok _ _ h1.1
    exact SeqAt.RcAt.list_str w tw (items := its.toArray) ⟨_, e, rfl, n, rfl⟩ un _ _ _ _ (fin _ rfl)
  | tup h1 h3 =>
    cases rx
    obtain ⟨its, o, n, rv, e, c, dd⟩ := tup_get I h1.1
    exact SeqAt.RcAt.tuple_str w tw (items := its) ⟨o, e, c, n, dd⟩ un _ _ _ _ (fin _ rfl)
  | dct h1 h3 =>
    cases rx
    obtain ⟨_, ns, vs, rk, o, ents, ep, e, ex, dd, _⟩ := I.hok _ _ h1.1
    exact rc_dict_str w tw e ex dd un _ _ _ _ (fin _ rfl)
section
variable {F : Fm} {C : Cs} {ρ : Rho} {k : Nat} {Φ : Nat → PyData → Prop} {Ψ : Nat → Bool → Prop} {a b : Expr} {pos : Pos}
theorem opEqSK {X : Cx} (fx : Fits C X) : OpR X (compareOp .Eq) (rEqS C.K) := by rw [← fx.K]; exact op_eqS fx.room.units
theorem rd_eqTx {x : PyData} {w : Str} (hK : F.K = C.K) (h : Φ k (.bool (isS w x))) : RD F (rEqS C.K) x (.str w) k Φ := fun H vx vy Q j rx ry q => by
  cases ry
  exact ⟨F.S, x, w, hK ▸ rx, rfl, q _ _ k H .refl j (.bl _) h⟩
/-- any datum == a text -/
theorem we_eqTx (hK : F.K = C.K) (h : WPE F C a ρ k fun k1 x => WPE F C b ρ k1 fun k2 y => ∃ w, y = .str w ∧ Φ k2 (.bool (isS w x))) : WPE F C (.Compare a [.Eq] [b] pos) ρ k Φ :=
  we_cmp (fun X fx => opEqSK fx) (nomark _) (h.imp fun k1 x h1 => h1.imp fun k2 y ⟨w, e, p⟩ => by subst e; exact rd_eqTx hK p)
theorem wt_eqTx (hK : F.K = C.K) (h : WPE F C a ρ k fun k1 x => WPE F C b ρ k1 fun k2 y => ∃ w, y = .str w ∧ Ψ k2 (isS w x)) : WPT F C (.Compare a [.Eq] [b] pos) ρ k Ψ :=
  wt_cmp (fun X fx => opEqSK fx) (nomark _) (h.imp fun k1 x h1 => h1.imp fun k2 y ⟨w, e, p⟩ => by subst e; exact rd_eqTx hK ⟨_, rfl, p⟩)
theorem RpAll.strs {H : Hp} : ∀ {bs : List Str} {vs : List V}, RpAll F H vs (bs.map PyData.str) → vs = bs.map V.str
  | [], _, h => by cases h; rfl
  | b :: bs, _, h => by
    cases h with
    | cons h1 h2 => cases h1; rw [RpAll.strs h2]; rfl
theorem inV_strs {v : Str} : ∀ (bs : List Str), inV (.str v) (bs.map V.str) = bs.any (· == v)
  | [] => by simp [inV]
  | x :: bs => by
    have ih := inV_strs (v := v) bs
    unfold inV at ih ⊢
    rw [List.map_cons, List.any_cons, ih, List.any_cons]
    congr 1
/-- a text in a list or tuple of texts -/
theorem rd_inTx {neg : Bool} {v : Str} {y : PyData} {bs : List Str} (hK : F.K = C.K) (hy : seqD y = some (bs.map PyData.str)) (h : Φ k (.bool (if neg then !bs.any (· == v) else bs.any (· == v)))) : RD F (rIn C.K neg) (.str v) y k Φ :=
  rd_in hK hy rfl (by rw [List.all_map]; exact List.all_eq_true.mpr fun _ _ => rfl) (fun H vx vs rx rv => by cases rx; rw [RpAll.strs rv]; exact inV_strs bs) h
theorem wt_niTx (hK : F.K = C.K) (hm : behindInMarks .NotIn b = false) (h : WPE F C a ρ k fun k1 x => WPE F C b ρ k1 fun k2 y => ∃ (v : Str) (bs : List Str), x = .str v ∧ seqD y = some (bs.map PyData.str) ∧ Ψ k2 (!bs.any (· == v))) : WPT F C (.Compare a [.NotIn] [b] pos) ρ k Ψ :=
  wt_cmp (fun X fx => opNiK fx) hm (h.imp fun k1 x h1 => h1.imp fun k2 y ⟨v, bs, e1, e2, p⟩ => by subst e1; exact rd_inTx hK e2 ⟨_, rfl, p⟩)
end
/-! ### a list of any data != [] -/
def rNeNil (K : PySem.W.Frag) : R2 := fun x y H Q => ∃ (S S' : Addr → Prop) (ds : List PyData), Rep K S H x (.list ds) ∧ Rep K S' H y (.list []) ∧ Q (.bl (!ds.isEmpty)) H
theorem op_neNil {X : Cx} (hu : X.A.units + 64 < cLine) : OpR X (compareOp .NotEq) (rNeNil X.K) := by
  intro pins s σ H x y v u Q I rx ry h
  obtain ⟨S, S', ds, hx, hy, q⟩ := h
  cases hx with
  | lst h1 h3 =>
  cases hy with
  | lst g1 g3 =>
  cases g3
  cases rx
  cases ry
  obtain ⟨_, its, n, rv, e⟩ := I.hok _ _ h1.1
  obtain ⟨_, js, m, rw', f⟩ := I.hok _ _ g1.1
  cases rw'
  cases ds with
  | nil =>
    cases h3
    cases rv
    exact SeqAt.compareNe_shaped (Reads.list e rfl rfl .nil) (Reads.list f rfl rfl .nil) (da := .list []) (db := .list []) (by decide +kernel) (by decide +kernel) hu ⟨.bl _, H, I, rfl, q⟩
  | cons d ds =>
    cases h3 with
    | cons r1 r2 =>
    cases rv with
    | cons p1 p2 =>
    exact SeqAt.RcNeAt.lists_lengths (items := (_ :: _).toArray) (items2 := #[]) ⟨_, e, rfl, n, rfl⟩ ⟨_, f, rfl, m, rfl⟩ (by rfl) (by omega) _ _ _ _ ⟨.bl _, H, I, rfl, q⟩
section
variable {F : Fm} {C : Cs} {ρ : Rho} {k : Nat} {Ψ : Nat → Bool → Prop} {a : Expr} {pos pq : Pos}
theorem wt_neNilA (hK : F.K = C.K) (h : WPE F C a ρ k fun k1 x => ∃ ds, x = .list ds ∧ Ψ k1 (!ds.isEmpty)) : WPT F C (.Compare a [.NotEq] [.List [] pq] pos) ρ k Ψ :=
  wt_cmp (fun X fx => by have := op_neNil (X := X) fx.room.units; rw [fx.K] at this; exact this) (nomark _) (h.imp fun k1 x ⟨ds, e, p⟩ => by
    subst e
    refine we_lst (wa_nil ⟨by show 0 ≤ sizeLine; decide, ?_⟩)
    intro H vx vy Q j rx ry q
    exact ⟨F.S, F.S, ds, hK ▸ rx, hK ▸ ry, q _ _ _ H .refl j (.bl _) ⟨_, rfl, p⟩⟩)
end
end Dl

namespace Dl
open PySem PySem.Spec PyProof.Rows L2
section
variable {F : Fm} {C : Cs} {ρ : Rho} {k : Nat} {Φ : Nat → PyData → Prop} {pos p2 : Pos} {a e e2 : Expr}
/-- xs[i:j] of a tuple, within it -/
theorem we_sliceTN (hK : F.K = C.K) (h : WPE F C a ρ k fun k1 x => WPE F C e ρ k1 fun k2 y => ∃ m : Nat, y = .int (m : Int) ∧ WPE F C e2 ρ k2 fun k3 z => ∃ ds, ∃ m' : Nat, x = .tuple ds ∧ z = .int (m' : Int) ∧ m ≤ m' ∧ m' ≤ ds.length ∧ Φ k3 (.tuple ((ds.drop m).take (m' - m)))) : WPE F C (.Subscript a (.Slice (some e) (some e2) none p2) pos) ρ k Φ :=
  of_pe (fun X fx => pe_slice (slTK fx) (peE fx) (po_some (peE fx)) (po_some (peE fx))) fun σ H Q en j q => by
    show tE C a σ H _
    refine h σ H _ en j fun v d k1 H1 l1 j1 r hx => ?_
    show tE C e σ H1 _
    refine hx σ H1 _ (en.le l1) j1 fun vy y k2 H2 l2 j2 r2 ⟨m, ey, hy⟩ => ?_
    subst ey
    cases r2
    refine ⟨(m : Int), rfl, ?_⟩
    show tE C e2 σ H2 _
    refine hy σ H2 _ ((en.le l1).le l2) j2 fun vz z k3 H3 l3 j3 r3 ⟨ds, m', e1, e3, hm, hm', p⟩ => ?_
    subst e1 e3
    have r' := (r.le l2.lz).le l3.lz
    have r0 := r'
    cases r' with
    | @tup a xs _ ha hr =>
    cases r3
    have hlen : xs.length = ds.length := hr.length
    have s1 : HT.sIx xs.length 0 (some (m : Int)) = m := by rw [HT.sIx_nat]; omega
    have s2 : HT.sIx xs.length xs.length (some (m' : Int)) = m' := by rw [HT.sIx_nat]; omega
    have ec : cutV xs (some (m : Int)) (some (m' : Int)) = (xs.drop m).take (m' - m) := by
      unfold cutV
      rw [s1, s2]
    refine ⟨(m' : Int), rfl, a, xs, rfl, hK ▸ sqt_of ha, fun hf => ?_, fun _ l hl => ?_⟩
    · have h1 := hf.1
      have h2 := hf.2
      rw [s1] at h1
      rw [s2] at h2
      subst h1
      rw [List.drop_zero, List.take_of_length_le (by omega)] at p
      exact q _ _ k3 _ ((l1.trans l2).trans l3) j3 r0 p
    · rw [ec]
      exact q _ _ k3 _ (((l1.trans l2).trans l3).trans (.new hl)) (j3.new hl) (rep_newT j3 hl (RepAll.take _ (RepAll.drop _ hr))) p
/-- xs[:e] of a tuple, e any number: some start of it -/
theorem we_sliceTE (hK : F.K = C.K) (h : WPE F C a ρ k fun k1 x => WPE F C e ρ k1 fun k2 y => ∃ ds, ∃ i : Int, x = .tuple ds ∧ y = .int i ∧ ∀ m : Nat, Φ k2 (.tuple (ds.take m))) : WPE F C (.Subscript a (.Slice none (some e) none p2) pos) ρ k Φ :=
  of_pe (fun X fx => pe_slice (slTK fx) (peE fx) po_none (po_some (peE fx))) fun σ H Q en j q => by
    show tE C a σ H _
    refine h σ H _ en j fun v d k1 H1 l1 j1 r hx => ?_
    show tE C e σ H1 _
    refine hx σ H1 _ (en.le l1) j1 fun vy y k2 H2 l2 j2 r2 ⟨ds, i, e1, e2, p⟩ => ?_
    subst e1 e2
    have r' := r.le l2.lz
    have r0 := r'
    cases r' with
    | @tup a xs _ ha hr =>
    cases r2
    have ec : cutV xs none (some i) = xs.take (HT.sIx xs.length xs.length (some i)) := by
      unfold cutV
      rw [HT.sIx_none, List.drop_zero, Nat.sub_zero]
    refine ⟨i, rfl, a, xs, rfl, hK ▸ sqt_of ha, fun hf => ?_, fun _ l hl => ?_⟩
    · exact q _ _ k2 _ (l1.trans l2) j2 r0 (by have := p ds.length; rwa [List.take_length] at this)
    · rw [ec]
      exact q _ _ k2 _ ((l1.trans l2).trans (.new hl)) (j2.new hl) (rep_newT j2 hl (hr.take _)) (p _)
end
end Dl

namespace PySem
abbrev bInt (b : Bool) : Int := if b = true then (1 : Int) else 0
theorem gv_addBI (b : Bool) (j : Int) (u : Tok) : Gives (Builtin.«int.__add__» ⟨[.bool b, .int j u], []⟩) (.int (bInt b + j)) :=
  .of_wp fun M A E s Q h => by obtain ⟨hp, g, d, tk, os⟩ := s; wp_walk; exact ⟨_, rfl, h⟩
theorem gv_subBI (b : Bool) (j : Int) (u : Tok) : Gives (Builtin.«int.__sub__» ⟨[.bool b, .int j u], []⟩) (.int (bInt b - j)) :=
  .of_wp fun M A E s Q h => by obtain ⟨hp, g, d, tk, os⟩ := s; wp_walk; exact ⟨_, rfl, h⟩
theorem gv_xorBI (b : Bool) (j : Int) (u : Tok) : Gives (Builtin.«int.__xor__» ⟨[.bool b, .int j u], []⟩) (.int (Builtin.bitXor (bInt b) j)) :=
  .of_wp fun M A E s Q h => by obtain ⟨hp, g, d, tk, os⟩ := s; wp_walk; exact ⟨_, rfl, h⟩
section
variable {prog : Program} {w : World} {A : Around} {E : Value → Shared → Prop} {s : Shared} {b : Bool} {j : Int} {u : Tok} {Q : Value → Shared → Prop}
theorem add_bi (h : Q (.int (bInt b + j) s.toks) { s with toks := s.toks + 1 }) : wpAny (model prog w) A (binaryOp .Add (.bool b) (.int j u)) Q E s :=
  binaryOp_left_gives (op := .Add) (T := "bool") (U := "int") (by decide) (typeIs_bool s b) (fun s' => typeIs_int s' j u) F.fills_bool_add F.fills_int_add F.sub_int_bool F.slot_bool_add F.slot_int_radd F.entry_int_add (F.args_int_add_2 _ _) (gv_addBI b j u) trivial h
theorem sub_bi (h : Q (.int (bInt b - j) s.toks) { s with toks := s.toks + 1 }) : wpAny (model prog w) A (binaryOp .Sub (.bool b) (.int j u)) Q E s :=
  binaryOp_left_gives (op := .Sub) (T := "bool") (U := "int") (by decide) (typeIs_bool s b) (fun s' => typeIs_int s' j u) F.fills_bool_sub F.fills_int_sub F.sub_int_bool F.slot_bool_sub F.slot_int_rsub F.entry_int_sub (F.args_int_sub_2 _ _) (gv_subBI b j u) trivial h
theorem mt_xorBI (b : Bool) (j : Int) (u : Tok) : Meets (Builtin.«bool.__xor__» ⟨[.bool b, .int j u], []⟩) (fun A R s => R (.ok (.ret (.int (Builtin.bitXor (bInt b) j) s.toks))) { s with toks := s.toks + 1 }) := by
  intro prog w A R s h
  obtain ⟨hp, g, d, tk, os⟩ := s
  wp_walk
  refine ⟨plainId_quiet (by decide +kernel) _, codeAny_builtin F.entry_int_xor ?_⟩
  rw [Around.under_plainId (by decide +kernel) _]
  show wpAny _ _ (Builtin.«int.__xor__» ⟨[.bool b, .int j u], []⟩) _ _ _
  wp_walk
  exact h
theorem xor_bi (h : Q (.int (Builtin.bitXor (bInt b) j) s.toks) { s with toks := s.toks + 1 }) : wpAny (model prog w) A (binaryOp .BitXor (.bool b) (.int j u)) Q E s :=
  wpAny_binaryOp_two (op := .BitXor) (T := "bool") (U := "int") (by decide) (typeIs_bool s b) (fun s' => typeIs_int s' j u) F.fills_bool_xor F.fills_int_xor F.sub_int_bool F.slot_bool_xor F.slot_int_rxor
    (call_meets F.slot_bool_xor (typeIs_bool s b) F.entry_bool_xor (F.args_bool_xor_2 _ _) (mt_xorBI b j u) (.inl ⟨by simp, h⟩))
end
end PySem
namespace Dl
open PySem PySem.Spec PyProof.Rows L2
/-! ### ints and bools under +, -, ^ -/
def rBI (g : Int → Int → Int) : R2 := fun x y H Q => ∃ (b : Bool) (j : Int), x = .bl b ∧ y = .int j ∧ Q (.int (g (bInt b) j)) H
theorem opBI {X : Cx} {f : Value → Value → Sem Value} {g : Int → Int → Int}
    (rule : ∀ (b : Bool) (j : Int) (u : Tok) (s : Shared) (Q : Value → Shared → Prop) (E : Value → Shared → Prop), Q (.int (g (bInt b) j) s.toks) { s with toks := s.toks + 1 } → wpAny (model X.prog X.w) X.A (f (.bool b) (.int j u)) Q E s) :
    OpR X f (rBI g) := by
  intro pins s σ H x y v u Q I rx ry h
  obtain ⟨i, j, rfl, rfl, q⟩ := h
  cases rx
  obtain ⟨t', rfl⟩ := ry
  exact rule i j t' s _ _ ⟨.int (g (bInt i) j), H, I.tok _, ⟨_, rfl⟩, q⟩
section
variable {F : Fm} {C : Cs} {ρ : Rho} {k : Nat} {Φ : Nat → PyData → Prop} {Ψ : Nat → Bool → Prop} {a b : Expr} {pos : Pos}
theorem rd_BI {g : Int → Int → Int} {i : Bool} {j : Int} (h : Φ k (.int (g (bInt i) j))) : RD F (rBI g) (.bool i) (.int j) k Φ := fun H vx vy Q jj rx ry q => by
  cases rx; cases ry; exact ⟨i, j, rfl, rfl, q _ _ k H .refl jj (.int _) h⟩
abbrev BI2 (F : Fm) (C : Cs) (a b : Expr) (ρ : Rho) (k : Nat) (Θ : Nat → Bool → Int → Prop) : Prop := WPE F C a ρ k fun k1 x => WPE F C b ρ k1 fun k2 y => ∃ i j, x = .bool i ∧ y = .int j ∧ Θ k2 i j
theorem we_addBI (h : BI2 F C a b ρ k fun k i j => Φ k (.int (bInt i + j))) : WPE F C (.BinOp a .Add b pos) ρ k Φ :=
  we_bin (fun X _ => opBI (g := fun i j => i + j) fun _ _ _ _ _ _ q => add_bi q) (h.imp fun k1 x h1 => h1.imp fun k2 y ⟨i, j, e1, e2, p⟩ => by subst e1 e2; exact rd_BI (g := fun i j => i + j) p)
theorem we_subBI (h : BI2 F C a b ρ k fun k i j => Φ k (.int (bInt i - j))) : WPE F C (.BinOp a .Sub b pos) ρ k Φ :=
  we_bin (fun X _ => opBI (g := fun i j => i - j) fun _ _ _ _ _ _ q => sub_bi q) (h.imp fun k1 x h1 => h1.imp fun k2 y ⟨i, j, e1, e2, p⟩ => by subst e1 e2; exact rd_BI (g := fun i j => i - j) p)
theorem we_xorBI (h : BI2 F C a b ρ k fun k i j => Φ k (.int (Builtin.bitXor (bInt i) j))) : WPE F C (.BinOp a .BitXor b pos) ρ k Φ :=
  we_bin (fun X _ => opBI (g := fun i j => Builtin.bitXor i j) fun _ _ _ _ _ _ q => xor_bi q) (h.imp fun k1 x h1 => h1.imp fun k2 y ⟨i, j, e1, e2, p⟩ => by subst e1 e2; exact rd_BI (g := fun i j => Builtin.bitXor i j) p)
/-- a bool == an int -/
def rEqBI : R2 := fun x y H Q => ∃ (b : Bool) (j : Int), x = .bl b ∧ y = .int j ∧ Q (.bl (bInt b == j)) H
theorem op_eqBI {X : Cx} : OpR X (compareOp .Eq) rEqBI := by
  intro pins s σ H x y v u Q I rx ry h
  obtain ⟨i, j, rfl, rfl, q⟩ := h
  cases rx
  obtain ⟨t', rfl⟩ := ry
  exact SeqAt.RcAt.bool_int i j t' _ _ _ _ ⟨.bl _, H, I, rfl, q⟩
theorem we_eqBI (h : BI2 F C a b ρ k fun k i j => Φ k (.bool (bInt i == j))) : WPE F C (.Compare a [.Eq] [b] pos) ρ k Φ :=
  we_cmp (fun X _ => op_eqBI) (nomark _) (h.imp fun k1 x h1 => h1.imp fun k2 y ⟨i, j, e1, e2, p⟩ => by
    subst e1 e2
    intro H vx vy Q jj rx ry q
    cases rx; cases ry
    exact ⟨i, j, rfl, rfl, q _ _ k2 H .refl jj (.bl _) p⟩)
end
/-! ### a tuple of any data != () -/
def rNeNilT (K : PySem.W.Frag) : R2 := fun x y H Q => ∃ (S S' : Addr → Prop) (ds : List PyData), Rep K S H x (.tuple ds) ∧ Rep K S' H y (.tuple []) ∧ Q (.bl (!ds.isEmpty)) H
theorem op_neNilT {X : Cx} (hu : X.A.units + 64 < cLine) : OpR X (compareOp .NotEq) (rNeNilT X.K) := by
  intro pins s σ H x y v u Q I rx ry h
  obtain ⟨S, S', ds, hx, hy, q⟩ := h
  cases hx with
  | tup h1 h3 =>
  cases hy with
  | tup g1 g3 =>
  cases g3
  cases rx
  cases ry
  obtain ⟨its, o, n, rv, e, c, dd⟩ := tup_get I h1.1
  obtain ⟨js, o', m, rw', e', c', dd'⟩ := tup_get I g1.1
  have hj : js.size = 0 := by simpa using rw'.length.symm
  have hi : its.size = ds.length := by
    have := rv.length
    rw [h3.length] at this
    simpa using this.symm
  have hR := SeqAt.RcNeAt.tuples (A := X.A) (s := s) (items := its) (items2 := js) (e := fun _ => true) ⟨o, e, c, n, dd⟩ ⟨o', e', c', m, dd'⟩ (by omega) (fun j h1 h2 => absurd h2 (by omega))
  refine hR _ _ _ _ ?_
  have hb : (!((List.range (min its.size js.size)).all (fun _ => true) && its.size == js.size)) = !ds.isEmpty := by
    rw [hj, hi, Nat.min_zero]
    cases ds with
    | nil => rfl
    | cons a l => rfl
  rw [hb]
  exact ⟨.bl _, H, I, rfl, q⟩
section
variable {F : Fm} {C : Cs} {ρ : Rho} {k : Nat} {Φ : Nat → PyData → Prop} {Ψ : Nat → Bool → Prop} {a : Expr} {pos pq : Pos} {x1 : Nat}
theorem wt_neNilT (hK : F.K = C.K) (h : WPE F C a ρ k fun k1 x => ∃ ds, x = .tuple ds ∧ Ψ k1 (!ds.isEmpty)) : WPT F C (.Compare a [.NotEq] [.Tuple [] x1 pq] pos) ρ k Ψ :=
  wt_cmp (fun X fx => by have := op_neNilT (X := X) fx.room.units; rw [fx.K] at this; exact this) (nomark _) (h.imp fun k1 x ⟨ds, e, p⟩ => by
    subst e
    refine we_tup (wa_nil ⟨by show 0 ≤ sizeLine; decide, ?_⟩)
    intro H vx vy Q j rx ry q
    exact ⟨F.S, F.S, ds, hK ▸ rx, hK ▸ ry, q _ _ _ H .refl j (.bl _) ⟨_, rfl, p⟩⟩)
end
end Dl

namespace Dl
open PySem PySem.Spec PyProof.Rows L2
/-! ### xs[::-1], a list -/
section
variable {F : Fm} {C : Cs} {ρ : Rho} {k : Nat} {Φ : Nat → PyData → Prop} {pos p1 p2 p3 : Pos} {a : Expr} {jj : Nat}
theorem we_revL (hK : F.K = C.K) (h : WPE F C a ρ k fun k1 x => ∃ ds, x = .list ds ∧ Φ k1 (.list ds.reverse)) : WPE F C (.Subscript a (.Slice none none (some (.UnaryOp .USub (.Constant (.int 1) jj p1) p2)) p3) pos) ρ k Φ :=
  of_pe (t := L2.tRevL C.K (tE C a)) (fun X fx => by rw [← fx.K]; exact L2.pe_revL (peE fx)) fun σ H Q en j q => by
    show tE C a σ H _
    refine h σ H _ en j fun v d k1 H1 l1 j1 r ⟨ds, e, p⟩ => ?_
    subst e
    cases r with
    | @lst b xs _ hb hr =>
    have rev : ∀ (ds : List PyData) (vs : List V), RpAll F H1 vs ds → RpAll F H1 vs.reverse ds.reverse := fun ds => by
      induction ds with
      | nil => intro vs h; cases h; exact .nil
      | cons d ds ih =>
        intro vs h
        cases h with
        | cons r1 r2 => rw [List.reverse_cons, List.reverse_cons]; exact (ih _ r2).append (.cons r1 .nil)
    exact ⟨b, xs, rfl, hK ▸ sql_of hb, fun l hl => q _ _ k1 _ (l1.trans (.new hl)) (j1.new hl) (rep_newL j1 hl (rev _ _ hr)) p⟩
end
end Dl

set_option maxHeartbeats 8000000
namespace K18
open PySem PySem.Spec PyProof.Rows L2 Dl
def topS (i : Nat) : Stmt := PySem.Challenge.pw_cardboxes_k18_solid_holds_judged.main.body.getD i (.Pass ⟨0, 0, 0, 0⟩)
local macro_rules | `(tactic| walk_at "vis") => `(tactic| first | exact Or.inl rfl | exact Or.inr (Or.inl rfl) | exact Or.inr (Or.inr rfl))
local macro_rules | `(tactic| walk_at "blk") => `(tactic| exact ⟨blkOk_by (by dsimp only [bodyCs, Cs.blk]; decide +kernel), ⟨by dsimp only [bodyCs, Cs.blk]; decide +kernel, rfl, (by first | exact Or.inl rfl | exact Or.inr rfl), (by first | exact Or.inl rfl | exact Or.inr rfl)⟩⟩)
local macro_rules | `(tactic| walk_at "tgt") => `(tactic| exact ⟨by dsimp only [bodyCs, Cs.blk]; decide +kernel, rfl, (by first | exact Or.inl rfl | exact Or.inr rfl), (by first | exact Or.inl rfl | exact Or.inr rfl)⟩)
local macro_rules | `(tactic| walk_at "name") => `(tactic| first
  | ((with_reducible refine' we_name 0 ?n1 ?n2 ?n3 ?_); (case n1 => rfl); (case n2 => walk_at "vis"); (case n3 => rfl))
  | ((with_reducible refine' we_name 1 ?n1 ?n2 ?n3 ?_); (case n1 => rfl); (case n2 => walk_at "vis"); (case n3 => rfl))
  | ((with_reducible refine' we_name 2 ?n1 ?n2 ?n3 ?_); (case n1 => rfl); (case n2 => walk_at "vis"); (case n3 => rfl))
  | ((with_reducible refine' we_name 3 ?n1 ?n2 ?n3 ?_); (case n1 => rfl); (case n2 => walk_at "vis"); (case n3 => rfl))
  | ((with_reducible refine' we_name 4 ?n1 ?n2 ?n3 ?_); (case n1 => rfl); (case n2 => walk_at "vis"); (case n3 => rfl))
  | ((with_reducible refine' we_name 5 ?n1 ?n2 ?n3 ?_); (case n1 => rfl); (case n2 => walk_at "vis"); (case n3 => rfl))
  | ((with_reducible refine' we_name 6 ?n1 ?n2 ?n3 ?_); (case n1 => rfl); (case n2 => walk_at "vis"); (case n3 => rfl))
  | ((with_reducible refine' we_name 7 ?n1 ?n2 ?n3 ?_); (case n1 => rfl); (case n2 => walk_at "vis"); (case n3 => rfl))
  | ((with_reducible refine' we_name 8 ?n1 ?n2 ?n3 ?_); (case n1 => rfl); (case n2 => walk_at "vis"); (case n3 => rfl))
  | ((with_reducible refine' we_name 9 ?n1 ?n2 ?n3 ?_); (case n1 => rfl); (case n2 => walk_at "vis"); (case n3 => rfl))
  | ((with_reducible refine' we_name 10 ?n1 ?n2 ?n3 ?_); (case n1 => rfl); (case n2 => walk_at "vis"); (case n3 => rfl))
  | ((with_reducible refine' we_name 11 ?n1 ?n2 ?n3 ?_); (case n1 => rfl); (case n2 => walk_at "vis"); (case n3 => rfl))
  | ((with_reducible refine' we_name 12 ?n1 ?n2 ?n3 ?_); (case n1 => rfl); (case n2 => walk_at "vis"); (case n3 => rfl))
  | ((with_reducible refine' we_name 13 ?n1 ?n2 ?n3 ?_); (case n1 => rfl); (case n2 => walk_at "vis"); (case n3 => rfl))
  | ((with_reducible refine' we_name 14 ?n1 ?n2 ?n3 ?_); (case n1 => rfl); (case n2 => walk_at "vis"); (case n3 => rfl))
  | ((with_reducible refine' we_name 15 ?n1 ?n2 ?n3 ?_); (case n1 => rfl); (case n2 => walk_at "vis"); (case n3 => rfl)))
local macro_rules | `(tactic| walk_at "dl") => `(tactic| first
  | walk_at "name"
  | with_reducible refine we_int ?_
  | with_reducible refine we_bl ?_
  | with_reducible refine we_str ?_
  | with_reducible refine we_non ?_
  | with_reducible refine wb_cons ?_
  | with_reducible refine wb_nil ?_
  | with_reducible refine ws_ret ?_
  | with_reducible refine ws_retN ?_
  | with_reducible refine ws_if ?_
  | with_reducible refine wa_nil ?_
  | with_reducible refine we_add ?_
  | with_reducible refine we_sub ?_
  | with_reducible refine we_mul ?_
  | with_reducible refine we_fdiv ?_
  | with_reducible refine we_mod ?_
  | with_reducible refine we_shl ?_
  | with_reducible refine we_shr ?_
  | with_reducible refine we_pow ?_
  | with_reducible refine we_band ?_
  | with_reducible refine we_bor ?_
  | with_reducible refine we_bxor ?_
  | with_reducible refine we_neg ?_
  | with_reducible refine wt_lt ?_
  | with_reducible refine wt_le ?_
  | with_reducible refine wt_gt ?_
  | with_reducible refine wt_ge ?_
  | with_reducible refine we_lt ?_
  | with_reducible refine we_le ?_
  | with_reducible refine we_gt ?_
  | with_reducible refine we_ge ?_
  | with_reducible refine wt_not ?_
  | with_reducible refine wt_bool ?_
  | with_reducible refine ww_and ?_
  | with_reducible refine ww_or ?_
  | with_reducible refine ww_and1 ?_
  | with_reducible refine ww_or1 ?_
  | with_reducible refine we_and ?_
  | with_reducible refine we_or ?_
  | with_reducible refine we_one ?_
  | with_reducible refine we_not ?_
  | with_reducible refine we_tup ?_
  | with_reducible refine we_lst ?_
  | with_reducible refine we_isN ?_
  | with_reducible refine wt_isN ?_
  | ((with_reducible refine wa_cons ?s1 ?_); (case s1 => exact fun _ => rfl))
  | ((with_reducible refine we_len ?c1 ?c2 ?c3 ?c4 ?_); (case c1 => assumption); (case c2 => rfl); (case c3 => assumption); (case c4 => exact fun _ => rfl))
  | ((with_reducible refine we_tuple ?c1 ?c2 ?c3 ?c4 ?_); (case c1 => assumption); (case c2 => rfl); (case c3 => assumption); (case c4 => exact fun _ => rfl))
  | ((with_reducible refine we_list ?c1 ?c2 ?c3 ?c4 ?_); (case c1 => assumption); (case c2 => rfl); (case c3 => assumption); (case c4 => exact fun _ => rfl))
  | ((with_reducible refine we_repr ?c1 ?c2 ?c3 ?c4 ?_); (case c1 => assumption); (case c2 => rfl); (case c3 => assumption); (case c4 => exact fun _ => rfl))
  | ((with_reducible refine we_sum ?c1 ?c2 ?c3 ?c4 ?_); (case c1 => assumption); (case c2 => rfl); (case c3 => assumption); (case c4 => exact fun _ => rfl))
  | ((with_reducible refine we_sorted ?c1 ?c2 ?c3 ?c4 ?_); (case c1 => assumption); (case c2 => rfl); (case c3 => assumption); (case c4 => exact fun _ => rfl))
  | ((with_reducible refine we_min ?c1 ?c2 ?c3 ?c4 ?_); (case c1 => assumption); (case c2 => rfl); (case c3 => assumption); (case c4 => exact fun _ => rfl))
  | ((with_reducible refine we_abs ?c2 ?c3 ?c4 ?_); (case c2 => rfl); (case c3 => assumption); (case c4 => exact fun _ => rfl))
  | ((with_reducible refine we_intB ?c2 ?c3 ?c4 ?_); (case c2 => rfl); (case c3 => assumption); (case c4 => exact fun _ => rfl))
  | ((with_reducible refine' we_callP ?c1 ?c2 ?c3 ?c4 ?_ ?c5 ?c6 ?c7); (case c1 => assumption); (case c2 => exact Nat.le_of_ble_eq_true rfl); (case c3 => assumption); (case c4 => rfl); (case c5 => decide); (case c6 => exact fun _ => rfl); (case c7 => exact fun _ => rfl))
  | ((with_reducible refine' we_callD ?c0 ?c1 ?c2 ?c3 0 ?c4 ?c5 ?c6 ?c7 ?_ ?c8 ?c9 ?c10 ?c11 ?c12); (case c0 => first | assumption | exact IsDk.ext (by assumption) _ | exact IsDk.ext (IsDk.ext (by assumption) _) _); (case c1 => assumption); (case c2 => exact Nat.le_of_ble_eq_true rfl); (case c3 => assumption); (case c4 => rfl); (case c5 => rfl); (case c6 => walk_at "vis"); (case c7 => rfl); (case c8 => decide); (case c9 => decide); (case c10 => decide); (case c11 => exact fun _ => rfl); (case c12 => exact fun _ => rfl))
  | ((with_reducible refine' we_callD ?c0 ?c1 ?c2 ?c3 1 ?c4 ?c5 ?c6 ?c7 ?_ ?c8 ?c9 ?c10 ?c11 ?c12); (case c0 => first | assumption | exact IsDk.ext (by assumption) _ | exact IsDk.ext (IsDk.ext (by assumption) _) _); (case c1 => assumption); (case c2 => exact Nat.le_of_ble_eq_true rfl); (case c3 => assumption); (case c4 => rfl); (case c5 => rfl); (case c6 => walk_at "vis"); (case c7 => rfl); (case c8 => decide); (case c9 => decide); (case c10 => decide); (case c11 => exact fun _ => rfl); (case c12 => exact fun _ => rfl))
  | ((with_reducible refine we_ix ?c1 ?c2 ?_); (case c1 => assumption); (case c2 => exact fun _ _ => rfl)))
local macro_rules | `(tactic| walk_at "dx") => `(tactic| first
  | with_reducible refine tl0 ?_
  | with_reducible refine tl1 ?_
  | with_reducible refine tl2 ?_
  | with_reducible refine tl3 ?_
  | with_reducible refine tl4 ?_
  | with_reducible refine tl5 ?_
  | with_reducible refine tl6 ?_
  | with_reducible refine tl7 ?_
  | with_reducible refine ii2 ?_
  | with_reducible refine ii1 ?_
  | with_reducible refine ss2 ?_
  | with_reducible refine bb1 ?_
  | with_reducible refine sqT ?_
  | with_reducible refine sqL ?_
  | walk_at "dl")
def parts (n : Int) : List Int := (rg (n + 1)).filter fun i => decide (Builtin.bitAnd i n = i)
def Rparts : Rel := fun ds d => ∃ n : Int, ds = [.int n] ∧ (0 ≤ n ∧ n < 1000) ∧ d = .list ((parts n).map PyData.int)
theorem parts_len {n : Int} (h0 : 0 ≤ n) (h1 : n < 1000) : (parts n).length ≤ 1000 := by
  refine Nat.le_trans (List.length_filter_le _ _) ?_
  rw [rg_length]; omega


abbrev nSub : List Str := ["switches", "part"]
theorem scSub : FnScope nSub ["switches"] (defScope (topS 5)) := ⟨rfl, rfl, rfl, by decide +kernel, rfl, by decide +kernel, by decide +kernel⟩
section
variable {P : Program} {w : World} {K : PySem.W.Frag} {mg : Str → Option Value} {base : Heap}
theorem ok_sub {f : Addr} {fd : FuncData} (Fn : Fun K "subsets_of" "subsets_of" (topS 5) f fd) (mr : mg "range" = none) : FnG P w K mg base 1 f fd ["switches"] (spPure K Rparts) := by
  refine pure_ok (k := 0) Fn scSub (fun ds d ⟨n, e, _⟩ => by rw [e]; rfl) (fun F ds d hK ⟨n, e, hn, ed⟩ => ?_)
  subst e ed
  refine wb_cons (ws_ret (we_fR (fun i => decide (Builtin.bitAnd i n = i)) PyData.int 1 (by walk_at "blk") rfl mr (fun _ => rfl) (fun _ _ => rfl) ?_))
  repeat walk_at "dl"
  refine ⟨_, _, rfl, rfl, _, rfl, by omega, by omega, fun D j j0 j1 => ?_, rfl⟩
  refine wt_eqI ?_
  repeat walk_at "dl"
  refine ⟨_, _, rfl, rfl, ?_⟩
  repeat walk_at "dl"
  refine ⟨_, _, rfl, rfl, rfl, rfl, fun _ => ?_⟩
  repeat walk_at "dl"
  exact ⟨rfl, rfl⟩
end


abbrev nCube : List Str := ["cube", "base", "directions", "part"]
theorem scCube : FnScope nCube ["cube"] (defScope (topS 8)) := ⟨rfl, rfl, rfl, by decide +kernel, rfl, by decide +kernel, by decide +kernel⟩
def cubeCards (b q : Int) : List Int := (parts q).map fun i => b + i
def Rcube : Rel := fun ds d => ∃ b q : Int, ds = [.tuple [.int b, .int q]] ∧ (0 ≤ q ∧ q < 1000) ∧ d = .tuple ((cubeCards b q).map PyData.int)
section
variable {P : Program} {w : World} {K : PySem.W.Frag} {mg : Str → Option Value} {base : Heap}
theorem ok_cube {f : Addr} {fd : FuncData} (Fn : Fun K "cube_cards" "cube_cards" (topS 8) f fd) (mt : mg "tuple" = none) (gs : PFn P w K mg base 1 "subsets_of" Rparts) : FnG P w K mg base 2 f fd ["cube"] (spPure K Rcube) := by
  refine pure_ok (k := 1) Fn scCube (fun ds d ⟨b, q, e, _⟩ => by rw [e]; rfl) (fun F ds d hK ⟨b, q, e, hn, ed⟩ => ?_)
  subst e ed
  refine wb_cons (ws_asg2 1 2 (by decide) (by walk_at "tgt") (by walk_at "tgt") hK (fun _ => rfl) (fun _ => rfl) ?_)
  repeat walk_at "dl"
  refine ⟨_, _, rfl, ?_⟩
  repeat walk_at "dl"
  refine we_mL PyData.int (fun i => PyData.int (b + i)) 3 (by walk_at "blk") hK (fun _ _ => rfl) ?_
  repeat walk_at "dl"
  refine ⟨_, ⟨q, rfl, hn, rfl⟩, _, rfl, ?_, fun D j hj => ?_, _, rfl, ?_⟩
  · have := parts_len hn.1 hn.2; omega
  · repeat walk_at "dl"
    exact ⟨_, _, rfl, rfl, rfl, rfl⟩
  · show PyData.tuple _ = PyData.tuple _
    unfold cubeCards
    rw [List.map_map]; rfl
end


theorem band_nat (a b : Nat) : Builtin.bitAnd (a : Int) (b : Int) = ((a &&& b : Nat) : Int) := by
  rw [bitAnd_pp (by omega) (by omega), Int.toNat_natCast, Int.toNat_natCast]
def partsN (q : Nat) : List Nat := (List.range (q + 1)).filter fun i => decide (i &&& q = i)
theorem parts_nat (q : Nat) : parts (q : Int) = (partsN q).map fun (i : Nat) => (i : Int) := by
  unfold parts partsN rg
  rw [show ((q : Int) + 1).toNat = q + 1 by omega, List.filter_map]
  congr 1
  apply List.filter_congr
  intro i _
  show decide (Builtin.bitAnd (i : Int) (q : Int) = (i : Int)) = _
  rw [band_nat]
  by_cases h : i &&& q = i
  · rw [decide_eq_true h, decide_eq_true (by omega)]
  · rw [decide_eq_false h, decide_eq_false (by omega)]



theorem one_shl (n : Nat) : (1 : Int) * 2 ^ ((n : Int)).toNat = 2 ^ n := by rw [Int.one_mul, Int.toNat_natCast]
theorem pow_le64 {n : Nat} (h : n ≤ 6) : (2 : Int) ^ n ≤ 64 ∧ (1 : Int) ≤ 2 ^ n := by
  have : n = 0 ∨ n = 1 ∨ n = 2 ∨ n = 3 ∨ n = 4 ∨ n = 5 ∨ n = 6 := by omega
  rcases this with rfl | rfl | rfl | rfl | rfl | rfl | rfl <;> decide
def outside (n : Nat) (s : Int) : List Int := (rg (2 ^ n)).filter fun i => decide (Builtin.bitAnd i s = 0)
theorem find_at {α : Type} {p : α → Bool} : ∀ {xs : List α} {j : Nat} {x : α}, xs[j]? = some x → (∀ y ∈ xs.take j, p y = false) → p x = true → xs.find? p = some x
  | y :: ys, 0, x, e, _, h => by cases e; rw [List.find?_cons, h]
  | y :: ys, j + 1, x, e, ha, h => by
    rw [List.find?_cons, ha y (by simp)]
    exact find_at (j := j) (by simpa using e) (fun z hz => ha z (by rw [List.take_succ_cons]; exact List.mem_cons_of_mem _ hz)) h
  | [], j, x, e, _, _ => by simp at e
def missing (cs : List Int) (b q : Int) : Option Int := (cubeCards b q).find? fun c => !decide (c ∈ cs)
def missD (cs : List Int) (b q : Int) : PyData := match missing cs b q with
  | some c => .int c
  | none => .none
def basesL (n : Nat) (cs : List Int) (s : Int) : List Int := (outside n s).filter fun b => (missing cs b s).isNone
theorem ix0T (x : Int) (r : List Int) : ixD (.tuple ((x :: r).map PyData.int)) (.int 0) = some (.int x) := atI_nat (xs := (x :: r).map PyData.int) (j := 0) rfl
def boxD (n : Nat) (cs : List Int) : PyData := .tuple [.int (n : Int), .tuple (cs.map PyData.int)]
theorem mem_outside {n : Nat} {s i : Int} (h : i ∈ outside n s) : 0 ≤ i ∧ i < 2 ^ n := mem_rg.mp (List.mem_filter.mp h).1
theorem outside_len {n : Nat} (h : n ≤ 6) (s : Int) : (outside n s).length ≤ 64 := by
  refine Nat.le_trans (List.length_filter_le _ _) ?_
  rw [rg_length]
  have := pow_le64 h
  omega

abbrev nOut : List Str := ["n", "switches", "other"]
theorem scOut : FnScope nOut ["n", "switches"] (defScope (topS 6)) := ⟨rfl, rfl, rfl, by decide +kernel, rfl, by decide +kernel, by decide +kernel⟩
def Rout : Rel := fun ds d => ∃ (n : Nat) (s : Int), ds = [.int (n : Int), .int s] ∧ n ≤ 6 ∧ d = .list ((outside n s).map PyData.int)
section
variable {P : Program} {w : World} {K : PySem.W.Frag} {mg : Str → Option Value} {base : Heap}
theorem ok_out {f : Addr} {fd : FuncData} (Fn : Fun K "sets_outside" "sets_outside" (topS 6) f fd) (mr : mg "range" = none) : FnG P w K mg base 1 f fd ["n", "switches"] (spPure K Rout) := by
  refine pure_ok (k := 0) Fn scOut (fun ds d ⟨n, s, e, _⟩ => by rw [e]; rfl) (fun F ds d hK ⟨n, s, e, hn, ed⟩ => ?_)
  subst e ed
  refine wb_cons (ws_ret (we_fR (fun i => decide (Builtin.bitAnd i s = 0)) PyData.int 2 (by walk_at "blk") rfl mr (fun _ => rfl) (fun _ _ => rfl) ?_))
  repeat walk_at "dl"
  refine ⟨_, _, rfl, rfl, ⟨by omega, by omega, by decide⟩, ?_⟩
  rw [one_shl]
  have := pow_le64 hn
  refine ⟨_, rfl, by omega, by omega, fun D j j0 j1 => ?_, rfl⟩
  refine wt_eqI ?_
  repeat walk_at "dl"
  refine ⟨_, _, rfl, rfl, ?_⟩
  repeat walk_at "dl"
  refine ⟨_, _, rfl, rfl, rfl, rfl, fun _ => ?_⟩
  repeat walk_at "dl"
  exact ⟨rfl, rfl⟩
end

abbrev nMiss : List Str := ["cards", "cube", "card"]
theorem scMiss : FnScope nMiss ["cards", "cube"] (defScope (topS 9)) := ⟨rfl, rfl, rfl, by decide +kernel, rfl, by decide +kernel, by decide +kernel⟩
def Rmiss : Rel := fun ds d => ∃ (cs : List Int) (b q : Int), ds = [.tuple (cs.map PyData.int), .tuple [.int b, .int q]] ∧ (0 ≤ q ∧ q < 1000) ∧ d = missD cs b q
section
variable {P : Program} {w : World} {K : PySem.W.Frag} {mg : Str → Option Value} {base : Heap}
theorem ok_miss {f : Addr} {fd : FuncData} (Fn : Fun K "first_missing" "first_missing" (topS 9) f fd) (gc : PFn P w K mg base 2 "cube_cards" Rcube) : FnG P w K mg base 3 f fd ["cards", "cube"] (spPure K Rmiss) := by
  refine pure_ok (k := 2) Fn scMiss (fun ds d ⟨cs, b, q, e, _⟩ => by rw [e]; rfl) (fun F ds d hK ⟨cs, b, q, e, hq, ed⟩ => ?_)
  subst e ed
  refine wb_cons (ws_for_tup 2 (by walk_at "tgt") hK (fun _ _ => rfl) ?_)
  repeat walk_at "dl"
  refine ⟨_, ⟨b, q, rfl, hq, rfl⟩, ?_⟩
  refine ⟨fun j k ρ => (∀ y ∈ (cubeCards b q).take j, y ∈ cs) ∧ ∃ x, ρ = [.d (.tuple (cs.map PyData.int)), .d (.tuple [.int b, .int q]), x], _, rfl, ⟨by simp, _, rfl⟩, ?_, ?_⟩
  · rintro j y k ρ hy ⟨hin, x, rfl⟩
    rw [List.getElem?_map] at hy
    cases hc : (cubeCards b q)[j]? with
    | none => rw [hc] at hy; cases hy
    | some c =>
    rw [hc] at hy
    cases hy
    refine wb_cons (ws_if (wt_niI hK rfl ?_))
    repeat walk_at "dl"
    refine ⟨c, cs, rfl, rfl, iteB (fun h => ?_) (fun h => ?_)⟩
    · repeat walk_at "dl"
      show PyData.int c = missD cs b q
      unfold missD missing
      rw [find_at hc (fun y hy => by simp [hin y hy]) h]
    · repeat walk_at "dl"
      refine ⟨fun y hy => ?_, _, rfl⟩
      rw [take_next hc] at hy
      rcases List.mem_append.mp hy with hy | hy
      · exact hin y hy
      · have : y = c := by simpa using hy
        subst this
        simpa using h
  · rintro k ρ ⟨hin, x, rfl⟩
    repeat walk_at "dl"
    show PyData.none = missD cs b q
    unfold missD missing
    rw [List.find?_eq_none.mpr]
    intro y hy
    rw [List.length_map, List.take_length] at hin
    simp [hin y hy]
end

abbrev nBases : List Str := ["box", "switches", "n", "cards", "base"]
theorem scBases : FnScope nBases ["box", "switches"] (defScope (topS 10)) := ⟨rfl, rfl, rfl, by decide +kernel, rfl, by decide +kernel, by decide +kernel⟩
def Rbases : Rel := fun ds d => ∃ (n : Nat) (cs : List Int) (s : Int), ds = [boxD n cs, .int s] ∧ n ≤ 6 ∧ (0 ≤ s ∧ s < 1000) ∧ d = .tuple ((basesL n cs s).map PyData.int)
section
variable {P : Program} {w : World} {K : PySem.W.Frag} {mg : Str → Option Value} {base : Heap}
theorem ok_bases {f : Addr} {fd : FuncData} (Fn : Fun K "bases_of" "bases_of" (topS 10) f fd) (mt : mg "tuple" = none) (go : PFn P w K mg base 1 "sets_outside" Rout) (gm : PFn P w K mg base 3 "first_missing" Rmiss) : FnG P w K mg base 4 f fd ["box", "switches"] (spPure K Rbases) := by
  refine pure_ok (k := 3) Fn scBases (fun ds d ⟨n, cs, s, e, _⟩ => by rw [e]; rfl) (fun F ds d hK ⟨n, cs, s, e, hn, hs, ed⟩ => ?_)
  subst e ed
  refine wb_cons (ws_asg2 2 3 (by decide) (by walk_at "tgt") (by walk_at "tgt") hK (fun _ => rfl) (fun _ => rfl) ?_)
  repeat walk_at "dl"
  refine ⟨_, _, rfl, ?_⟩
  repeat walk_at "dl"
  refine we_fL (fun b => (missing cs b s).isNone) PyData.int PyData.int 4 (by walk_at "blk") hK (fun _ _ => rfl) ?_
  repeat walk_at "dl"
  refine ⟨_, ⟨n, s, rfl, hn, rfl⟩, _, rfl, ?_, fun D b hb => ?_, _, rfl, rfl⟩
  · have := outside_len hn s; omega
  · refine wt_isN ?_
    repeat walk_at "dl"
    refine ⟨by show 2 ≤ sizeLine; decide, ?_⟩
    repeat walk_at "dl"
    refine ⟨_, ⟨cs, b, s, rfl, hs, rfl⟩, rfl, ?_, fun _ => ?_⟩
    · unfold missD
      cases missing cs b s <;> rfl
    · repeat walk_at "dl"
      exact ⟨rfl, rfl⟩
end

abbrev nPow : List Str := ["_law_k", "_law_found", "_law_step"]
theorem scPow : FnScope nPow ["_law_k"] (defScope (topS 17)) := ⟨rfl, rfl, rfl, by decide +kernel, rfl, by decide +kernel, by decide +kernel⟩
def Rpow : Rel := fun ds d => ∃ n : Nat, ds = [.int n] ∧ n ≤ 60 ∧ d = .int (2 ^ n)
section
variable {P : Program} {w : World} {K : PySem.W.Frag} {mg : Str → Option Value} {base : Heap}
theorem ok_pow {f : Addr} {fd : FuncData} (Fn : Fun K "_law_power" "_law_power" (topS 17) f fd) (mr : mg "range" = none) : FnG P w K mg base 1 f fd ["_law_k"] (spPure K Rpow) := by
  refine pure_ok (k := 0) Fn scPow (fun ds d ⟨n, e, _⟩ => by rw [e]; rfl) (fun F ds d hK ⟨n, e, hn, ed⟩ => ?_)
  subst e ed
  refine wb_cons (ws_set 1 (by walk_at "tgt") (fun _ _ => rfl) (we_int ?_))
  refine wb_cons (ws_for_range 2 (by walk_at "tgt") rfl mr (fun _ => rfl) (fun _ _ => rfl) ?_)
  repeat walk_at "dl"
  refine ⟨fun j k ρ => ∃ x, ρ = [.d (.int n), .d (.int (2 ^ j)), x], n, rfl, by omega, by omega, ⟨_, rfl⟩, ?_, ?_⟩
  · rintro j k ρ hj ⟨x, rfl⟩
    refine wb_cons (ws_set 1 (by walk_at "tgt") (fun _ _ => rfl) ?_)
    repeat walk_at "dl"
    refine ⟨_, _, rfl, rfl, .inl ⟨by decide, by decide⟩, ?_⟩
    repeat walk_at "dl"
    exact ⟨_, by rw [Int.pow_succ, Int.mul_comm]; rfl⟩
  · rintro k ρ ⟨x, rfl⟩
    rw [Int.toNat_natCast]
    repeat walk_at "dl"
    rfl
end


abbrev nSize : List Str := ["_law_switches", "_law_found"]
theorem scSize : FnScope nSize ["_law_switches"] (defScope (topS 19)) := ⟨rfl, rfl, rfl, by decide +kernel, rfl, by decide +kernel, by decide +kernel⟩
/-- how many binary digits are 1 -/
def bits (n : Nat) : Nat := if n = 0 then 0 else n % 2 + bits (n / 2)
theorem bits_pos {n : Nat} (h : 0 < n) : bits n = n % 2 + bits (n / 2) := by
  rw [bits, if_neg (by omega)]
def Rsize : Rel := fun ds d => ∃ n : Nat, ds = [.int n] ∧ d = .int (bits n : Nat)
section
variable {P : Program} {w : World} {K : PySem.W.Frag} {mg : Str → Option Value} {base : Heap}
theorem ok_size {f : Addr} {fd : FuncData} (Fn : Fun K "_law_size" "_law_size" (topS 19) f fd) : FnG P w K mg base 1 f fd ["_law_switches"] (spPure K Rsize) := by
  refine pure_ok (k := 0) Fn scSize (fun ds d ⟨n, e, _⟩ => by rw [e]; rfl) (fun F ds d hK ⟨n, e, ed⟩ => ?_)
  subst e ed
  refine wb_cons (ws_set 1 (by walk_at "tgt") (fun _ _ => rfl) (we_int ?_))
  refine wb_cons (ws_while (fun m k ρ => ∃ c : Nat, ρ = [.d (.int (m : Nat)), .d (.int (c : Nat))] ∧ c + bits m = bits n) n ⟨0, rfl, by simp⟩ ?_)
  rintro m k ρ ⟨c, rfl, hc⟩
  repeat walk_at "dl"
  refine ⟨_, _, rfl, rfl, iteD (fun hm => ?_) (fun hm => ?_)⟩
  · have hm' : 0 < m := by omega
    refine wb_cons (ws_set 1 (by walk_at "tgt") (fun _ _ => rfl) ?_)
    repeat walk_at "dl"
    refine ⟨_, _, rfl, rfl, by decide, ?_⟩
    refine ⟨_, _, rfl, rfl, ?_⟩
    refine wb_cons (ws_set 0 (by walk_at "tgt") (fun _ _ => rfl) ?_)
    repeat walk_at "dl"
    refine ⟨_, _, rfl, rfl, ⟨by decide, by decide⟩, ?_⟩
    refine wb_nil ⟨m / 2, by omega, c + m % 2, ?_, ?_⟩
    · have e1 : ((m : Nat) : Int) / 2 = ((m / 2 : Nat) : Int) := by omega
      have e2 : ((c : Nat) : Int) + ((m : Nat) : Int) % 2 = ((c + m % 2 : Nat) : Int) := by omega
      rw [← e1, ← e2]; rfl
    · rw [bits_pos hm'] at hc; omega
  · have hm' : m = 0 := by omega
    subst hm'
    repeat walk_at "dl"
    have : bits 0 = 0 := by rw [bits]; rfl
    rw [this] at hc
    show PyData.int _ = PyData.int _
    rw [← hc]; rfl
end


abbrev nParts : List Str := ["_law_switches", "_law_part"]
theorem scParts : FnScope nParts ["_law_switches"] (defScope (topS 20)) := ⟨rfl, rfl, rfl, by decide +kernel, rfl, by decide +kernel, by decide +kernel⟩
section
variable {P : Program} {w : World} {K : PySem.W.Frag} {mg : Str → Option Value} {base : Heap}
theorem ok_parts {f : Addr} {fd : FuncData} (Fn : Fun K "_law_parts" "_law_parts" (topS 20) f fd) (mr : mg "range" = none) : FnG P w K mg base 1 f fd ["_law_switches"] (spPure K Rparts) := by
  refine pure_ok (k := 0) Fn scParts (fun ds d ⟨n, e, _⟩ => by rw [e]; rfl) (fun F ds d hK ⟨n, e, hn, ed⟩ => ?_)
  subst e ed
  refine wb_cons (ws_ret (we_fR (fun i => decide (Builtin.bitAnd i n = i)) PyData.int 1 (by walk_at "blk") rfl mr (fun _ => rfl) (fun _ _ => rfl) ?_))
  repeat walk_at "dl"
  refine ⟨_, _, rfl, rfl, _, rfl, by omega, by omega, fun D j j0 j1 => ?_, rfl⟩
  refine wt_eqI ?_
  repeat walk_at "dl"
  refine ⟨_, _, rfl, rfl, ?_⟩
  repeat walk_at "dl"
  refine ⟨_, _, rfl, rfl, rfl, rfl, fun _ => ?_⟩
  repeat walk_at "dl"
  exact ⟨rfl, rfl⟩
end


abbrev nLB : List Str := ["_law_box_here", "_law_switches", "_law_found", "_law_base", "_law_part"]
theorem scLB : FnScope nLB ["_law_box_here", "_law_switches"] (defScope (topS 24)) := ⟨rfl, rfl, rfl, by decide +kernel, rfl, by decide +kernel, by decide +kernel⟩
def RLB : Rel := fun ds d => ∃ (n : Nat) (cs : List Int) (s : Nat), ds = [boxD n cs, .int (s : Int)] ∧ n ≤ 6 ∧ s < 2 ^ n ∧ d = .tuple ((basesL n cs s).map PyData.int)
theorem out_parts : ∀ n ≤ 6, ∀ s < 2 ^ n, (List.range (2 ^ n)).filter (fun i => decide (i &&& s = 0)) = partsN (2 ^ n - 1 - s) := by decide +kernel
theorem outside_eq {n s : Nat} (hn : n ≤ 6) (hs : s < 2 ^ n) : outside n (s : Int) = parts ((2 : Int) ^ n - 1 - s) := by
  have e : (2 : Int) ^ n - 1 - s = ((2 ^ n - 1 - s : Nat) : Int) := by
    have h1 : ((2 ^ n : Nat) : Int) = (2 : Int) ^ n := by rw [Int.natCast_pow]; rfl
    omega
  rw [e, parts_nat, ← out_parts n hn s hs]
  unfold outside rg
  have e2 : ((2 : Int) ^ n).toNat = 2 ^ n := by
    have h1 : ((2 ^ n : Nat) : Int) = (2 : Int) ^ n := by rw [Int.natCast_pow]; rfl
    omega
  rw [e2, List.filter_map]
  congr 1
  apply List.filter_congr
  intro i _
  show decide (Builtin.bitAnd (i : Int) (s : Int) = 0) = _
  rw [band_nat]
  by_cases h : i &&& s = 0
  · rw [decide_eq_true h, decide_eq_true (by omega)]
  · rw [decide_eq_false h, decide_eq_false (by omega)]
theorem missing_iff (cs : List Int) (b q : Int) : (missing cs b q).isNone = ((parts q).filter fun p => !decide (b + p ∈ cs)).isEmpty := by
  rw [Bool.eq_iff_iff, Option.isNone_iff_eq_none, List.isEmpty_iff, List.filter_eq_nil_iff]
  unfold missing
  rw [List.find?_eq_none]
  unfold cubeCards
  constructor
  · intro h p hp
    exact h (b + p) (List.mem_map.mpr ⟨p, hp, rfl⟩)
  · intro h c hc
    obtain ⟨p, hp, rfl⟩ := List.mem_map.mp hc
    exact h p hp
section
variable {P : Program} {w : World} {K : PySem.W.Frag} {mg : Str → Option Value} {base : Heap}
theorem ok_lbases {f : Addr} {fd : FuncData} (Fn : Fun K "_law_bases" "_law_bases" (topS 24) f fd) (mt : mg "tuple" = none) (gp : PFn P w K mg base 1 "_law_parts" Rparts) (gw : PFn P w K mg base 1 "_law_power" Rpow) : FnG P w K mg base 2 f fd ["_law_box_here", "_law_switches"] (spPure K RLB) := by
  refine pure_ok (k := 1) Fn scLB (fun ds d ⟨n, cs, s, e, _⟩ => by rw [e]; rfl) (fun F ds d hK ⟨n, cs, s, e, hn, hs, ed⟩ => ?_)
  subst e ed
  have hp := pow_le64 hn
  have hs' : (s : Int) < 2 ^ n := by
    have h1 : ((2 ^ n : Nat) : Int) = (2 : Int) ^ n := by rw [Int.natCast_pow]; rfl
    omega
  refine wb_own 2 (by walk_at "tgt") (by show 2 < 5; decide) (fun _ _ => rfl) (fun o => ?_)
  have hKo : (F.ext o).K = K := hK
  refine wb_cons (ws_for_list 3 (by walk_at "tgt") hKo (fun _ _ => rfl) ?_)
  repeat walk_at "dl"
  refine ⟨_, rfl, ?_⟩
  repeat walk_at "dl"
  refine ⟨_, ⟨n, rfl, by omega, rfl⟩, ?_⟩
  repeat walk_at "dl"
  refine ⟨_, _, rfl, rfl, ?_⟩
  repeat walk_at "dl"
  refine ⟨_, _, rfl, rfl, ?_⟩
  repeat walk_at "dl"
  refine ⟨_, ⟨_, rfl, ⟨by omega, by omega⟩, rfl⟩, ?_⟩
  rw [← outside_eq hn hs]
  refine ⟨fun j k ρ => ∃ x4 x3, plainB x3 = true ∧ plainB x4 = true ∧ ρ = [.d (boxD n cs), .d (.int (s : Int)), .own o ((((outside n (s : Int)).take j).filter fun b => (missing cs b (s : Int)).isNone).map PyData.int), x3, x4], _, rfl, ⟨.un, .un, rfl, rfl, rfl⟩, ?_, ?_⟩
  · rintro j y k ρ hy ⟨x4, x3, h3, h4, rfl⟩
    rw [List.getElem?_map] at hy
    cases hc : (outside n (s : Int))[j]? with
    | none => rw [hc] at hy; cases hy
    | some b =>
    rw [hc] at hy
    cases hy
    have hlen : ((((outside n (s : Int)).take j).filter fun b => (missing cs b (s : Int)).isNone).map PyData.int).length ≤ 1000000 := by
      rw [List.length_map]
      refine Nat.le_trans (List.length_filter_le _ _) (Nat.le_trans (List.length_take_le _ _) ?_)
      have := (List.getElem?_eq_some_iff.mp hc).1
      have := outside_len hn (s : Int)
      omega
    refine wb_cons (ws_if (wt_eq hKo ?_))
    refine we_fL (fun p => !decide (b + p ∈ cs)) PyData.int PyData.int 4 (by walk_at "blk") hKo (fun _ _ => rfl) ?_
    repeat walk_at "dl"
    refine ⟨_, ⟨_, rfl, ⟨by omega, by omega⟩, rfl⟩, _, rfl, ?_, fun D p hp' => ?_, ?_⟩
    · have := parts_len (n := (s : Int)) (by omega) (by omega); omega
    · have hKD : ((F.ext o).ext D).K = K := hK
      refine wt_niI hKD rfl ?_
      repeat walk_at "dl"
      refine ⟨_, _, rfl, rfl, ?_⟩
      repeat walk_at "dl"
      refine ⟨_, rfl, b + p, cs, rfl, rfl, rfl, rfl, fun _ => ?_⟩
      repeat walk_at "dl"
      exact ⟨rfl, rfl⟩
    · repeat walk_at "dl"
      refine ⟨Nat.zero_le _, shaped_intsL _, shaped_intsL [], ?_⟩
      have hcond : PyData.eqv (.list (((parts (s : Int)).filter fun p => !decide (b + p ∈ cs)).map PyData.int)) (.list []) = (missing cs b (s : Int)).isNone := by rw [eqv_nilL, List.isEmpty_map, ← missing_iff]
      refine iteB (fun h => ?_) (fun h => ?_)
      all_goals replace h := hcond.symm.trans h
      · refine wb_cons (ws_append 2 rfl (by walk_at "vis") rfl (by show (plainB x4 && true) = true; rw [h4]; rfl) hlen (fun _ => rfl) ?_ (fun _ => rfl))
        repeat walk_at "dl"
        refine ⟨x4, .d (.int b), rfl, h4, ?_⟩
        rw [take_next hc, List.filter_append, List.map_append]
        have : ([b].filter fun b => (missing cs b (s : Int)).isNone) = [b] := by simp [h]
        rw [this]; rfl
      · repeat walk_at "dl"
        refine ⟨x4, .d (.int b), rfl, h4, ?_⟩
        rw [take_next hc, List.filter_append, List.map_append]
        have : ([b].filter fun b => (missing cs b (s : Int)).isNone) = [] := by simp [h]
        rw [this, List.map_nil, List.append_nil]; rfl
  · rintro k ρ ⟨x4, x3, h3, h4, rfl⟩
    refine wb_cons (ws_ret (we_tupOwn 2 hKo rfl (by walk_at "vis") rfl rfl mt ?_))
    rw [List.length_map, List.take_length]
    rfl
end


structure IsBox (n : Nat) (cs : List Int) : Prop where
  asc : cs.Pairwise (· < ·)
  rng : ∀ c ∈ cs, 0 ≤ c ∧ c < 2 ^ n
structure GoodC (n : Nat) (cs : List Int) : Prop where
  nd : cs.Nodup
  rng : ∀ c ∈ cs, 0 ≤ c ∧ c < 2 ^ n
theorem GoodC.sorted {n : Nat} {as ms : List Int} (g : GoodC n as) (hp : ms.Perm as) (hw : ms.Pairwise (· ≤ ·)) : IsBox n ms := by
  refine ⟨?_, fun c hc => g.rng c (hp.mem_iff.mp hc)⟩
  have nd : ms.Nodup := hp.symm.nodup g.nd
  exact (hw.and nd).imp fun ⟨h1, h2⟩ => by omega
theorem GoodC.sub {n : Nat} {as : List Int} (h : as.Sublist (rg (2 ^ n))) : GoodC n as := by
  refine ⟨?_, fun c hc => mem_rg.mp (h.subset hc)⟩
  have : (rg (2 ^ n)).Nodup := rg_pairwise.imp fun h => by omega
  exact h.nodup this
theorem box_len {n : Nat} {cs : List Int} (hn : n ≤ 6) (b : IsBox n cs) : cs.length ≤ 64 := by
  have key : ∀ (l : List Int) (lo : Int), l.Pairwise (· < ·) → (∀ c ∈ l, lo ≤ c ∧ c < 64) → lo ≤ 64 → (l.length : Int) ≤ 64 - lo := by
    intro l
    induction l with
    | nil => intro lo _ _ h; simp; omega
    | cons x xs ih =>
      intro lo hp hr hlo
      have hx := hr x List.mem_cons_self
      have := ih (x + 1) (List.pairwise_cons.mp hp).2 (fun c hc => ⟨(List.pairwise_cons.mp hp).1 c hc, (hr c (List.mem_cons_of_mem _ hc)).2⟩) (by omega)
      rw [List.length_cons]; omega
  have hp := pow_le64 hn
  have := key cs 0 b.asc (fun c hc => ⟨(b.rng c hc).1, by have := (b.rng c hc).2; omega⟩) (by omega)
  omega
theorem box_fine {n : Nat} {cs : List Int} (hn : n ≤ 6) (b : IsBox n cs) : Fine 5000 2 (boxD n cs) := by
  have hp := pow_le64 hn
  have h1 : Fine (64 * 33 + 3) 1 (.tuple (cs.map PyData.int)) := fine_ints (fun i hi => by
    have := b.rng i hi
    have h2 : i.natAbs < 64 := by omega
    exact Nat.lt_trans h2 (by decide)) (box_len hn b)
  refine (fine_tuple (n := 64 * 33 + 3) (dp := 1) (L := 2) (fun d hd => ?_) (Nat.le_refl _)).mono (by decide) (by decide)
  rcases List.mem_cons.mp hd with rfl | hd
  · exact (fine_int (by rw [Int.natAbs_natCast]; exact Nat.lt_of_le_of_lt hn (by decide))).mono (by decide) (by decide)
  · have : d = .tuple (cs.map PyData.int) := by simpa using hd
    rw [this]; exact h1
theorem xor_small : ∀ a < 64, ∀ b < 64, (a ||| b) - (a &&& b) = a ^^^ b := by decide +kernel
theorem and_le_or : ∀ a < 64, ∀ b < 64, a &&& b ≤ a ||| b := by decide +kernel
theorem bxor_nat {a b : Nat} (ha : a < 64) (hb : b < 64) : Builtin.bitXor (a : Int) (b : Int) = ((a ^^^ b : Nat) : Int) := by
  unfold Builtin.bitXor
  rw [bitOr_nn (by omega) (by omega), band_nat, Int.toNat_natCast, Int.toNat_natCast, ← xor_small a ha b hb]
  have := and_le_or a ha b hb
  omega
theorem xor_good {n : Nat} {f : Int} (hn : n ≤ 6) (f0 : 0 ≤ f) (f1 : f < 2 ^ n) {as : List Int} (h : as.Sublist (rg (2 ^ n))) : GoodC n (as.map fun c => Builtin.bitXor c f) := by
  have hp := pow_le64 hn
  have h1 : ((2 ^ n : Nat) : Int) = (2 : Int) ^ n := by rw [Int.natCast_pow]; rfl
  have g := GoodC.sub h
  obtain ⟨f, rfl⟩ : ∃ m : Nat, f = (m : Int) := ⟨f.toNat, by omega⟩
  have conv : ∀ c ∈ as, ∃ m : Nat, c = (m : Int) ∧ m < 2 ^ n ∧ Builtin.bitXor c (f : Int) = ((m ^^^ f : Nat) : Int) := fun c hc => by
    have := g.rng c hc
    refine ⟨c.toNat, by omega, by omega, ?_⟩
    rw [← bxor_nat (a := c.toNat) (b := f) (by omega) (by omega), show ((c.toNat : Nat) : Int) = c by omega]
  constructor
  · rw [List.nodup_iff_pairwise_ne, List.pairwise_map]
    refine (List.Pairwise.and_mem.mp (List.nodup_iff_pairwise_ne.mp g.nd)).imp ?_
    rintro a b ⟨ha, hb, hne⟩ e
    obtain ⟨m, rfl, _, e1⟩ := conv a ha
    obtain ⟨m', rfl, _, e2⟩ := conv b hb
    rw [e1, e2] at e
    have e3 : m ^^^ f = m' ^^^ f := by omega
    have : m = m' := by
      have := congrArg (· ^^^ f) e3
      simpa [Nat.xor_assoc] using this
    exact hne (by rw [this])
  · intro c hc
    obtain ⟨a, ha, rfl⟩ := List.mem_map.mp hc
    obtain ⟨m, rfl, hm, e1⟩ := conv a ha
    rw [e1]
    have : m ^^^ f < 2 ^ n := Nat.xor_lt_two_pow hm (by omega)
    omega

def Boxed (d : PyData) : Prop := ∃ (n : Nat) (cs : List Int), n ≤ 6 ∧ IsBox n cs ∧ d = boxD n cs
theorem box0 (n : Nat) : IsBox n [] := ⟨List.Pairwise.nil, fun _ h => by cases h⟩
theorem box00 (n : Nat) : IsBox n [0] := ⟨List.pairwise_singleton _ _, fun c h => by
  have : c = 0 := by simpa using h
  subst this
  exact ⟨by decide, Int.pow_pos (by decide)⟩⟩
theorem boxed_fine {d : PyData} (h : Boxed d) : Fine 5000 2 d := by
  obtain ⟨n, cs, hn, hb, rfl⟩ := h
  exact box_fine hn hb
theorem sub_fine {n : Nat} (hn : n ≤ 6) {as : List Int} (h : as.Sublist (rg (2 ^ n))) : Fine (64 * 33 + 3) 1 (.tuple (as.map PyData.int)) := by
  have hp := pow_le64 hn
  refine fine_ints (fun i hi => ?_) (Nat.le_trans h.length_le (by rw [rg_length]; omega))
  have := mem_rg.mp (h.subset hi)
  have h2 : i.natAbs < 64 := by omega
  exact Nat.lt_trans h2 (by decide)

/-! ### one draw -/
abbrev nNext : List Str := ["_law_state", "_law_many", "_law_cells", "_law_count", "_law_rests", "_law_index", "_law_digit", "_law_mixed"]
theorem scNext : FnScope nNext ["_law_state", "_law_many"] (defScope (topS 16)) := ⟨rfl, rfl, rfl, by decide +kernel, rfl, by decide +kernel, by decide +kernel⟩
def PreNext : List PyData → Prop := fun ds => ∃ m : Int, ds = [.int m] ∧ 0 < m ∧ m < 1073741824
def RNext : Rel := fun ds d => ∃ m i : Int, ds = [.int m] ∧ d = .int i ∧ 0 ≤ i ∧ i < m
theorem ints_at {ns : List Int} {i : Int} (h0 : 0 ≤ i) (h1 : i < (ns.length : Int)) : ∃ v : Int, atI (ns.map V.int) i = some (.int v) ∧ ixN (ns.map V.int).length i = some i.toNat := by
  have hl : i.toNat < ns.length := by omega
  refine ⟨ns[i.toNat], ?_, ?_⟩
  · have := atI_nat (xs := ns.map V.int) (j := i.toNat) (v := .int ns[i.toNat]) (by rw [List.getElem?_map, List.getElem?_eq_getElem hl]; rfl)
    rw [show ((i.toNat : Nat) : Int) = i by omega] at this
    exact this
  · unfold ixN
    rw [if_pos h0, if_pos (by rw [List.length_map]; exact h1)]
section
variable {P : Program} {w : World} {K : PySem.W.Frag} {mg : Str → Option Value} {base : Heap}
theorem ok_next {f : Addr} {fd : FuncData} (Fn : Fun K "_law_next" "_law_next" (topS 16) f fd) (ml : mg "len" = none) : FnG P w K mg base 1 f fd ["_law_state", "_law_many"] (spDraw K 1 PreNext RNext) := by
  refine FnG.of_body (k := 0) Fn scNext (fun vs H Q E h => ?_) (fun cdv A outer s H vs Q hgd hr h => ?_)
  · obtain ⟨S, st, a, r, vs', ds, k, rfl, _, _, _, rr, ⟨m, rfl, _⟩, _⟩ := h
    rw [List.length_cons, rr.length]; rfl
  obtain ⟨S, st, a, r, vs', ds, k, rfl, ⟨cells, rests, n, h1, h2, h3, hlen, hpos, hn0, hnk⟩, al, hS, rr, ⟨m, rfl, hm0, hm1⟩, q⟩ := h
  cases rr with
  | cons r1 r2 =>
  cases r2
  cases r1
  refine ⟨_, pss_cons (ps_asg (pv 0) (pg_unl (n := 3) rfl (pgs_cons (pg_name (i := 2) scNext.nd rfl (.inl rfl)) (pgs_cons (pg_name (i := 3) scNext.nd rfl (.inl rfl)) (pgs_cons (pg_name (i := 4) scNext.nd rfl (.inl rfl)) pgs_nil)))))
    (pss_cons (ps_set (i := 5) scNext.nd rfl (.inl rfl) (pe_op op_mod (pv 3) (pe_callB call_len_seq (by rfl) ml PySem.boot_len (pa_cons (pv 2) pa_nil))))
    (pss_cons (ps_asg (pe_op op_add (pv 3) pe_int) (pg_sub (pv 0) pe_int set_list))
    (pss_cons (ps_if (pt_cmpR op_gt (pe_ix ix_list (pv 4) (pv 5) (fun _ _ => rfl)) pe_int (nomark _))
      (pss_cons (ps_set (i := 6) scNext.nd rfl (.inl rfl) (pe_op op_mod (pe_ix ix_list (pv 4) (pv 5) (fun _ _ => rfl)) (pv 1)))
        (pss_cons (ps_asg (pe_op op_fdiv (pe_ix ix_list (pv 4) (pv 5) (fun _ _ => rfl)) (pv 1)) (pg_sub (pv 4) (pv 5) set_list))
        (pss_one (ps_ret (pv 6))))) pss_nil)
    (pss_cons (ps_set (i := 7) scNext.nd rfl (.inl rfl) (pe_op op_mod (pe_op op_pow (pe_op op_add (pe_op op_add (pe_op op_mod (pe_ix ix_list (pv 2) (pv 5) (fun _ _ => rfl)) pe_int) (pe_op op_mul pe_int (pv 3))) pe_int) pe_int) pe_int))
    (pss_cons (ps_set (i := 7) scNext.nd rfl (.inl rfl) (pe_op op_mod (pe_op op_pow (pe_op op_add (pe_op op_add (pv 7) (pe_op op_mul (pe_op op_mul pe_int (pv 3)) (pv 3))) pe_int) pe_int) pe_int))
    (pss_one (ps_ret (pe_op op_mod (pe_op op_fdiv (pe_op op_mod (pe_op op_mul (pv 7) pe_int) pe_int) pe_int) (pv 1))))))))), ?_⟩
  have hst : st ≠ a := ne_of h1 h2 (fun z => by
    have z' := HO.lst.inj z
    cases cells with
    | nil => simp at hpos
    | cons c cs => rw [List.map_cons] at z'; injection z' with z1; cases z1)
  have hsr : st ≠ r := ne_of h1 h3 (fun z => by
    have z' := HO.lst.inj z
    cases rests with
    | nil => rw [List.length_nil] at hlen; omega
    | cons c cs => rw [List.map_cons] at z'; injection z' with z1; cases z1)
  have hlc : (0 : Int) < ((cells.map V.int).length : Int) := by rw [List.length_map]; omega
  -- cells, count, rests = state
  refine ⟨.ref st, rfl, st, _, rfl, SqL.of h1, rfl, _, _, rfl, _, _, rfl, _, _, rfl, rfl, ?_⟩
  -- index = count % len(cells)
  refine ⟨.int n, rfl, .ref a, rfl, a, _, rfl, .inl (SqL.of h2), n, _, rfl, rfl, hlc, ?_⟩
  have i0 : 0 ≤ n % ((cells.map V.int).length : Int) := Int.emod_nonneg _ (by omega)
  have i1 : n % ((cells.map V.int).length : Int) < (cells.length : Int) := by rw [List.length_map]; exact Int.emod_lt_of_pos _ (by omega)
  dsimp only
  generalize n % ((cells.map V.int).length : Int) = ix at i0 i1 ⊢
  obtain ⟨cv, c1, c2⟩ := ints_at i0 i1
  obtain ⟨rv, e1, e2⟩ := ints_at (ns := rests) i0 (by omega)
  -- state[1] = count + 1
  refine ⟨.int n, rfl, _, _, rfl, rfl, .ref st, rfl, st, _, 1, 1, rfl, rfl, h1, rfl, ?_⟩
  generalize hH1 : upd H st (.lst (List.set [.ref a, .int n, .ref r] 1 (.int (n + 1)))) = H1
  have g1 : H1 st = some (.lst [.ref a, .int (n + 1), .ref r]) := by rw [← hH1, upd_same]; rfl
  have g2 : H1 a = some (.lst (cells.map V.int)) := by rw [← hH1, upd_ne hst.symm]; exact h2
  have g3 : H1 r = some (.lst (rests.map V.int)) := by rw [← hH1, upd_ne hsr.symm]; exact h3
  have keep1 : ∀ b o, ¬ DkM st a r b → H b = some o → H1 b = some o := fun b o nb e => by rw [← hH1, upd_ne (fun z => nb (.inl z))]; exact e
  -- if rests[index] > 0
  refine ⟨.ref r, rfl, .int ix, rfl, r, _, ix, _, rfl, rfl, SqL.of g3, e1, _, _, rfl, rfl, _, rfl, ite2 (fun _ => ?_) (fun _ => ?_)⟩
  · refine ⟨.ref r, rfl, .int ix, rfl, r, _, ix, _, rfl, rfl, SqL.of g3, e1, .int m, rfl, _, _, rfl, rfl, hm0, ?_⟩
    refine ⟨.ref r, rfl, .int ix, rfl, r, _, ix, _, rfl, rfl, SqL.of g3, e1, .int m, rfl, _, _, rfl, rfl, ⟨hm0, hm1⟩, .ref r, rfl, .int ix, rfl, r, _, ix, _, rfl, rfl, g3, e2, ?_⟩
    refine ⟨_, rfl, ?_⟩
    refine q _ (.int (rv % m)) _ (fun b o nb e => ?_) ?_ (.int _) ⟨m, _, rfl, rfl, Int.emod_nonneg _ (by omega), Int.emod_lt_of_pos _ hm0⟩
    · rw [upd_ne (fun z => nb (.inr (.inr z)))]; exact keep1 b o nb e
    · have hset : (rests.map V.int).set ix.toNat (.int (rv / m)) = (rests.set ix.toNat (rv / m)).map V.int := by rw [List.map_set]
      rw [hset]
      by_cases har : a = r
      · subst har
        refine ⟨rests.set ix.toNat (rv / m), rests.set ix.toNat (rv / m), n + 1, by rw [upd_ne hst]; exact g1, upd_same, upd_same, rfl, by rw [List.length_set]; omega, by omega, by omega⟩
      · exact ⟨cells, rests.set ix.toNat (rv / m), n + 1, by rw [upd_ne hsr]; exact g1, by rw [upd_ne har]; exact g2, upd_same, by rw [List.length_set]; exact hlen, hpos, by omega, by omega⟩
  · -- the mixed number
    refine ⟨.ref a, rfl, .int ix, rfl, a, _, ix, _, rfl, rfl, SqL.of g2, c1, _, _, rfl, rfl, (by dsimp only; decide), .int n, rfl, _, _, rfl, rfl, .inl ⟨by decide, by decide⟩, _, _, rfl, rfl, _, _, rfl, rfl, _, _, rfl, rfl, ⟨by decide, by decide, ?_⟩, _, _, rfl, rfl, (by dsimp only; decide), ?_⟩
    · have := Int.emod_nonneg cv (b := 2147483629) (by decide)
      have := Int.emod_lt_of_pos cv (b := 2147483629) (by decide)
      omega
    dsimp only
    generalize hx1 : (cv % 2147483629 + 40013 * n + 7121) ^ (3 : Int).toNat % 2147483587 = x1
    have x10 : 0 ≤ x1 := by rw [← hx1]; exact Int.emod_nonneg _ (by decide)
    have x11 : x1 < 2147483587 := by rw [← hx1]; exact Int.emod_lt_of_pos _ (by decide)
    have nn0 : 0 ≤ 5011 * n * n := Int.mul_nonneg (by omega) hn0
    have nn1 : 5011 * n * n ≤ 5011 * 1000000 * 1000000 := by
      have : 5011 * n * n ≤ 5011 * 1000000 * n := Int.mul_le_mul_of_nonneg_right (by omega) hn0
      omega
    refine ⟨.int x1, rfl, .int n, rfl, _, _, rfl, rfl, .inl ⟨by decide, by decide⟩, .int n, rfl, _, _, rfl, rfl, .inl ⟨by omega, by omega⟩, _, _, rfl, rfl, _, _, rfl, rfl, _, _, rfl, rfl, ⟨by decide, by decide, by omega⟩, _, _, rfl, rfl, (by dsimp only; decide), ?_⟩
    dsimp only
    generalize hx2 : (x1 + 5011 * n * n + 37) ^ (3 : Int).toNat % 2147483563 = x2
    have x20 : 0 ≤ x2 := by rw [← hx2]; exact Int.emod_nonneg _ (by decide)
    have x21 : x2 < 2147483563 := by rw [← hx2]; exact Int.emod_lt_of_pos _ (by decide)
    refine ⟨.int x2, rfl, _, _, rfl, rfl, .inl ⟨by omega, by omega⟩, _, _, rfl, rfl, (by dsimp only; decide), _, _, rfl, rfl, ⟨by decide, by decide⟩, .int m, rfl, _, _, rfl, rfl, hm0, ?_⟩
    exact q _ (.int _) _ keep1 ⟨cells, rests, n + 1, g1, g2, g3, hlen, hpos, by omega, by omega⟩ (.int _) ⟨m, _, rfl, rfl, Int.emod_nonneg _ (by omega), Int.emod_lt_of_pos _ hm0⟩
end


/-! ### the draws made from the script -/
abbrev nDraws : List Str := ["_law_script", "_law_cells", "_law_cell"]
theorem scDraws : FnScope nDraws ["_law_script"] (defScope (topS 15)) := ⟨rfl, rfl, rfl, by decide +kernel, rfl, by decide +kernel, by decide +kernel⟩
theorem cutV_ints (ns : List Int) (lo hi : Option Int) : ∃ ms : List Int, cutV (ns.map V.int) lo hi = ms.map V.int ∧ (lo = none → hi = some 63 → ns.length ≤ 63 → ms.length = ns.length) := by
  refine ⟨_, by unfold cutV; rw [← List.map_drop, ← List.map_take], ?_⟩
  rintro rfl rfl h
  rw [List.length_take, List.length_drop, List.length_map]
  rw [show HT.sIx ns.length ns.length (some 63) = min 63 ns.length from HT.sIx_nat ns.length ns.length 63, HT.sIx_none]
  omega
section
variable {P : Program} {w : World} {K : PySem.W.Frag} {mg : Str → Option Value} {base : Heap}
theorem ok_draws {f : Addr} {fd : FuncData} (Fn : Fun K "_law_draws" "_law_draws" (topS 15) f fd) (ml : mg "len" = none) (ma : mg "abs" = none) (mi : mg "int" = none) : FnG P w K mg base 1 f fd ["_law_script"] (spDraws K) := by
  refine FnG.of_body (k := 0) Fn scDraws (fun vs H Q E h => ?_) (fun cdv A outer s H vs Q hgd hr h => ?_)
  · obtain ⟨sc, ns, rfl, _⟩ := h
    rfl
  obtain ⟨sc, ns, rfl, hS, hlen, q⟩ := h
  refine ⟨_, pss_cons (ps_set (i := 1) scDraws.nd rfl (.inl rfl) (pe_op op_cat
      (pe_lc (own := [("_law_cell", 2)]) (g := gName 2) (tt := tYes) rfl scDraws.nd (pi_list (pe_slice sl_list (pv 0) po_none (po_some pe_int))) (blkOk_by (own := [("_law_cell", 2)]) (N := nDraws) (sc := defScope (topS 15)) (by decide +kernel))
        (fun _ _ _ _ _ => pg_name (i := 2) scDraws.nd rfl (Or.inl rfl)) (fun _ _ _ _ _ => pts_nil) (fun _ _ _ _ _ => pe_callB call_abs (by rfl) ma (by decide +kernel) (pa_cons (pv 2) pa_nil)))
      (pe_op op_rep (pe_lst (pa_cons pe_int pa_nil)) (pe_callTy call_int1 (by rfl) mi (by decide +kernel) (pa_cons (pe_cmpR op_eq (pe_callB call_len_seq (by rfl) ml PySem.boot_len (pa_cons (pv 0) pa_nil)) pe_int (nomark _)) pa_nil)))))
    (pss_one (ps_ret (pe_lst (pa_cons (pv 1) (pa_cons pe_int (pa_cons
      (pe_lc (own := [("_law_cell", 2)]) (g := gName 2) (tt := tYes) rfl scDraws.nd (pi_list (pv 1)) (blkOk_by (own := [("_law_cell", 2)]) (N := nDraws) (sc := defScope (topS 15)) (by decide +kernel))
        (fun _ _ _ _ _ => pg_name (i := 2) scDraws.nd rfl (Or.inl rfl)) (fun _ _ _ _ _ => pts_nil) (fun _ _ _ _ _ => pe_op op_mul (pv 2) (pe_callTy call_int1 (by rfl) mi (by decide +kernel) (pa_cons (pe_cmpR op_ge (pv 2) (pe_op op_pow pe_int pe_int) (nomark _)) pa_nil)))) pa_nil)))))), ?_⟩
  -- script[:63]
  refine ⟨.ref sc, rfl, 63, rfl, sc, _, rfl, hS, fun c0 nc0 => ?_⟩
  obtain ⟨ms, em, hml⟩ := cutV_ints ns none (some 63)
  rw [em]
  have hml := hml rfl rfl hlen
  have s0 : Same H (upd H c0 (.lst (ms.map V.int))) := fun b o e => by rw [upd_ne (ne_of_none e nc0)]; exact e
  generalize hH0 : upd H c0 (.lst (ms.map V.int)) = H0 at s0 ⊢
  have hc0 : H0 c0 = some (.lst (ms.map V.int)) := by rw [← hH0, upd_same]
  refine ⟨c0, rfl, ⟨_, SqL.of hc0⟩, fun D hD => ?_⟩
  have hDn : H D = none := s0.free hD
  have hDc : c0 ≠ D := ne_of_none hc0 hD
  refine lc_list (xs := ms.map V.int) (fun n H' => ∃ zs : List Int, zs.length = n ∧ (∀ b o, b ≠ D → H0 b = some o → H' b = some o) ∧ H' D = some (.lst (zs.map V.int))) ⟨[], rfl, fun b o nb e => by rw [upd_ne nb]; exact e, upd_same⟩ (fun n H' _ ⟨zs, _, kp, _⟩ => SqL.of (kp c0 _ hDc hc0)) ?_ ?_
  · rintro n v H' hv ⟨zs, hz, kp, hd⟩
    rw [List.getElem?_map] at hv
    cases hm : ms[n]? with
    | none => rw [hm] at hv; cases hv
    | some y =>
    rw [hm] at hv
    cases hv
    have hn : n < ms.length := (List.getElem?_eq_some_iff.mp hm).1
    refine ⟨rfl, .int y, rfl, y, rfl, _, hd, by rw [List.length_map, hz]; exact small1000 (by omega), zs ++ [if y < 0 then -y else y], by rw [List.length_append, hz]; rfl, fun b o nb e => by rw [upd_ne nb]; exact kp b o nb e, ?_⟩
    rw [upd_same, List.map_append]; rfl
  rintro H1 ⟨zs, hz, kp, hd⟩
  rw [List.length_map, hml] at hz
  -- [0] * int(len(script) == 0)
  have s1 : Same H H1 := fun b o e => kp b o (ne_of_none e hDn) (s0 b o e)
  refine ⟨by decide, fun z0 nz0 => ?_⟩
  have s2 : Same H1 (upd H1 z0 (.lst [.int 0])) := fun b o e => by rw [upd_ne (ne_of_none e nz0)]; exact e
  generalize hH2 : upd H1 z0 (.lst [.int 0]) = H2 at s2 ⊢
  have hz0 : H2 z0 = some (.lst [.int 0]) := by rw [← hH2, upd_same]
  refine ⟨.ref sc, rfl, sc, _, rfl, .inl (s2.seq (s1.seq hS)), rfl, .inr ⟨_, rfl, ?_⟩⟩
  refine ⟨z0, _, _, rfl, rfl, hz0, ?_⟩
  rw [List.length_map]
  have key : ∃ t : Nat, (if decide (V.int (ns.length : Int) = V.int 0) = true then (1 : Int) else 0) = (t : Int) ∧ t ≤ 1 ∧ 0 < ns.length + t := by
    by_cases h : ns.length = 0
    · exact ⟨1, by simp [h], Nat.le_refl _, by omega⟩
    · exact ⟨0, by simp [h], Nat.zero_le _, by omega⟩
  obtain ⟨t, et, ht, htp⟩ := key
  rw [et]
  refine ⟨by omega, by omega, by rw [List.length_singleton, Int.toNat_natCast]; exact Nat.le_trans (by omega) (by decide : 1 ≤ sizeLine), fun p1 np1 => ?_⟩
  rw [Int.toNat_natCast]
  have rep1 : (List.replicate t [V.int 0]).flatten = (List.replicate t (0 : Int)).map V.int := by
    rcases (by omega : t = 0 ∨ t = 1) with rfl | rfl <;> rfl
  rw [rep1]
  have s3 : Same H2 (upd H2 p1 (.lst ((List.replicate t (0 : Int)).map V.int))) := fun b o e => by rw [upd_ne (ne_of_none e np1)]; exact e
  generalize hH3 : upd H2 p1 (.lst ((List.replicate t (0 : Int)).map V.int)) = H3 at s3 ⊢
  have hp1 : H3 p1 = some (.lst ((List.replicate t (0 : Int)).map V.int)) := by rw [← hH3, upd_same]
  -- the sum of both lists
  refine ⟨D, p1, _, _, rfl, rfl, s3 _ _ (s2 _ _ hd), hp1, ?_, fun ca nca => ?_⟩
  · rw [List.length_map, List.length_map, List.length_replicate, hz]
    exact Nat.le_trans (by omega : ns.length + t ≤ 64) (by decide)
  rw [← List.map_append]
  generalize hcs : zs ++ List.replicate t (0 : Int) = cs
  have hcl : cs.length = ns.length + t := by rw [← hcs, List.length_append, List.length_replicate, hz]
  have s4 : Same H3 (upd H3 ca (.lst (cs.map V.int))) := fun b o e => by rw [upd_ne (ne_of_none e nca)]; exact e
  generalize hH4 : upd H3 ca (.lst (cs.map V.int)) = H4 at s4 ⊢
  have hca : H4 ca = some (.lst (cs.map V.int)) := by rw [← hH4, upd_same]
  have s34 : Same H H4 := fun b o e => s4 _ _ (s3 _ _ (s2 _ _ (s1 _ _ e)))
  have ncaH : H ca = none := Same.free (H := H) (H' := H3) (fun b o e => s3 _ _ (s2 _ _ (s1 _ _ e))) nca
  -- return [cells, 0, rests]
  refine ⟨.ref ca, rfl, .ref ca, rfl, ca, rfl, ⟨_, SqL.of hca⟩, fun R hR => ?_⟩
  have hRn : H R = none := s34.free hR
  have hRc : ca ≠ R := ne_of_none hca hR
  refine lc_list (xs := cs.map V.int) (fun n H' => ∃ zs : List Int, zs.length = n ∧ (∀ b o, b ≠ R → H4 b = some o → H' b = some o) ∧ H' R = some (.lst (zs.map V.int))) ⟨[], rfl, fun b o nb e => by rw [upd_ne nb]; exact e, upd_same⟩ (fun n H' _ ⟨zs, _, kp, _⟩ => SqL.of (kp ca _ hRc hca)) ?_ ?_
  · rintro n v H' hv ⟨zs, hz, kp, hd⟩
    rw [List.getElem?_map] at hv
    cases hm : cs[n]? with
    | none => rw [hm] at hv; cases hv
    | some y =>
    rw [hm] at hv
    cases hv
    have hn : n < cs.length := (List.getElem?_eq_some_iff.mp hm).1
    refine ⟨rfl, .int y, rfl, .int y, rfl, _, _, rfl, rfl, ⟨by decide, by decide, by decide⟩, _, _, rfl, rfl, .inr ⟨_, rfl, _, _, rfl, rfl, .inr ?_, _, hd, by rw [List.length_map, hz]; exact small1000 (by omega), zs ++ [y * (if decide ((10 : Int) ^ (18 : Int).toNat ≤ y) = true then 1 else 0)], by rw [List.length_append, hz]; rfl, fun b o nb e => by rw [upd_ne nb]; exact kp b o nb e, ?_⟩⟩
    · split <;> decide
    · rw [upd_same, List.map_append]; rfl
  rintro H5 ⟨zs2, hz2, kp2, hd2⟩
  rw [List.length_map] at hz2
  refine ⟨(by show 3 ≤ sizeLine; decide), fun st nst => ?_⟩
  have s5 : Same H H5 := fun b o e => kp2 b o (ne_of_none e hRn) (s34 b o e)
  refine q _ st ca R (fun b o e => by rw [upd_ne (ne_of_none (s5 b o e) nst)]; exact s5 b o e) (s5.free nst) ncaH hRn ⟨cs, zs2, 0, upd_same, ?_, ?_, by omega, by omega, by omega, by omega⟩
  · rw [upd_ne (ne_of_none (kp2 ca _ hRc hca) nst)]; exact kp2 ca _ hRc hca
  · rw [upd_ne (ne_of_none hd2 nst)]; exact hd2
end


abbrev nBox : List Str := ["_law_state", "_law_most", "_law_n", "_law_kind", "_law_flip", "_law_every", "_law_cards", "_law_card", "_law_limit"]
theorem scBox : FnScope nBox ["_law_state", "_law_most"] (defScope (topS 21)) := ⟨rfl, rfl, rfl, by decide +kernel, rfl, by decide +kernel, by decide +kernel⟩
def PreBox : List PyData → Prop := fun ds => ∃ m : Nat, ds = [.int (m : Int)] ∧ m ≤ 5
def RBox : Rel := fun ds d => ∃ m n : Nat, ∃ cs : List Int, ds = [.int (m : Int)] ∧ n ≤ m ∧ IsBox n cs ∧ d = boxD n cs
section
variable {P : Program} {w : World} {K : PySem.W.Frag} {mg : Str → Option Value} {base : Heap}
theorem ok_box {f : Addr} {fd : FuncData} (Fn : Fun K "_law_box" "_law_box" (topS 21) f fd) (mr : mg "range" = none) (ml : mg "list" = none) (mt : mg "tuple" = none) (ms : mg "sorted" = none)
    (gn : DFn P w K mg base 1 "_law_next" 1 PreNext RNext) (gw : PFn P w K mg base 1 "_law_power" Rpow) (gz : PFn P w K mg base 1 "_law_size" Rsize) : FnG P w K mg base 2 f fd ["_law_state", "_law_most"] (spDraw K 40 PreBox RBox) := by
  refine draw_ok (k := 1) Fn scBox (fun ds ⟨m, e, _⟩ => by rw [e]; rfl) (fun F s a r ds kk dk hK ⟨m, e, hm⟩ => ?_)
  subst e
  -- n
  refine wb_cons (ws_set 2 (by walk_at "tgt") (fun _ _ => rfl) ?_)
  repeat walk_at "dl"
  refine ⟨_, _, rfl, rfl, ?_⟩
  repeat walk_at "dl"
  refine ⟨⟨_, rfl, by omega, by omega⟩, kk + 39, rfl, ?_⟩
  rintro d ⟨m', n, e1, rfl, n0, n1⟩
  cases e1
  obtain ⟨n, rfl⟩ : ∃ z : Nat, n = (z : Int) := ⟨n.toNat, by omega⟩
  have hn : n ≤ 6 := by omega
  have hnm : n ≤ m := by omega
  have hp := pow_le64 hn
  have hp5 : (2 : Int) ^ n ≤ 32 := by
    have : n = 0 ∨ n = 1 ∨ n = 2 ∨ n = 3 ∨ n = 4 ∨ n = 5 := by omega
    rcases this with rfl | rfl | rfl | rfl | rfl | rfl <;> decide
  -- kind, flip
  refine wb_cons (ws_asg2s 3 4 (by decide) (by walk_at "tgt") (by walk_at "tgt") hK (fun env h => by cases env; cases h; rfl) (fun env h => by cases env; cases h; rfl) ?_)
  repeat walk_at "dl"
  refine ⟨⟨_, rfl, by decide, by decide⟩, kk + 38, rfl, ?_⟩
  rintro d ⟨m', kd, e1, rfl, k0, k1⟩
  cases e1
  repeat walk_at "dl"
  refine ⟨_, ⟨n, rfl, by omega, rfl⟩, ?_⟩
  repeat walk_at "dl"
  refine ⟨⟨_, rfl, by omega, by omega⟩, kk + 37, rfl, ?_⟩
  rintro d ⟨m', fl, e1, rfl, f0, f1⟩
  cases e1
  repeat walk_at "dl"
  refine ⟨by show 2 ≤ sizeLine; decide, _, _, rfl, ?_⟩
  -- every
  refine wb_cons (ws_set 5 (by walk_at "tgt") (fun _ _ => rfl) (we_listRg rfl ml rfl mr (fun _ => rfl) (fun _ => rfl) ?_))
  repeat walk_at "dl"
  refine ⟨_, ⟨n, rfl, by omega, rfl⟩, _, rfl, ⟨by omega, by omega⟩, ?_⟩
  -- cards
  refine wb_cons (ws_compL1 7 6 (by walk_at "blk") (by walk_at "tgt") rfl rfl rfl (by decide +kernel) hK (fun _ _ => rfl) ?_)
  repeat walk_at "dl"
  have hlen : (rg ((2 : Int) ^ n)).length ≤ 32 := by rw [rg_length]; omega
  refine ⟨fun j k acc => k + j = kk + 37 ∧ ∃ as : List Int, acc = as.map PyData.int ∧ as.Sublist ((rg ((2 : Int) ^ n)).take j), _, rfl, by rw [List.length_map]; omega, ⟨rfl, [], rfl, by simp⟩, ?_, ?_⟩
  · rintro D j y k acc hy ⟨hk, as, rfl, hsub⟩
    rw [List.getElem?_map] at hy
    cases hc : (rg ((2 : Int) ^ n))[j]? with
    | none => rw [hc] at hy; cases hy
    | some c =>
    rw [hc] at hy
    cases hy
    have hj : j < 32 := Nat.lt_of_lt_of_le (List.getElem?_eq_some_iff.mp hc).1 hlen
    have tn := take_next hc
    have hKD : (F.ext D).K = K := hK
    obtain ⟨k2, rfl⟩ : ∃ k2, k = k2 + 1 := ⟨k - 1, by omega⟩
    repeat walk_at "dl"
    refine ⟨⟨_, rfl, by decide, by decide⟩, k2, rfl, ?_⟩
    rintro d ⟨m', v, e1, rfl, v0, v1⟩
    cases e1
    repeat walk_at "dl"
    refine ⟨by show 4 ≤ sizeLine; decide, ?_⟩
    repeat walk_at "dl"
    refine ⟨_, _, rfl, rfl, by decide, ?_⟩
    have hat : ∃ t : Int, ixD (.list [.int 2, .int 1, .int 3, .int 2]) (.int (kd % 4)) = some (.int t) := by
      have h0 : 0 ≤ kd % 4 := Int.emod_nonneg _ (by decide)
      have h1 : kd % 4 < 4 := Int.emod_lt_of_pos _ (by decide)
      generalize kd % 4 = z at h0 h1
      have : z = 0 ∨ z = 1 ∨ z = 2 ∨ z = 3 := by omega
      rcases this with rfl | rfl | rfl | rfl
      · exact ⟨2, rfl⟩
      · exact ⟨1, rfl⟩
      · exact ⟨3, rfl⟩
      · exact ⟨2, rfl⟩
    obtain ⟨t, ht⟩ := hat
    refine ⟨_, ht, _, _, rfl, rfl, iteD (fun _ => ?_) (fun _ => ?_)⟩
    · repeat walk_at "dl"
      exact ⟨by omega, as ++ [c], by rw [List.map_append]; rfl, by rw [tn]; exact hsub.append (List.Sublist.refl _)⟩
    · exact ⟨by omega, as, rfl, by rw [tn]; exact hsub.trans (List.sublist_append_left _ _)⟩
  rintro k acc ⟨hk, as, rfl, hsub⟩
  rw [List.length_map] at hk hsub
  rw [List.take_length] at hsub
  have hk2 : kk + 5 ≤ k := by omega
  -- if kind == 4
  refine wb_mid (fun k ρ => kk ≤ k ∧ ∃ as x8, GoodC n as ∧ ρ = [.raw (.ref s), .d (.int (m : Int)), .d (.int (n : Int)), .d (.int kd), .d (.int fl), .d (.list ((rg ((2 : Int) ^ n)).map PyData.int)), .d (.list (as.map PyData.int)), .un, x8]) (ws_if (wt_eqI ?_)) ?_
  · repeat walk_at "dl"
    refine ⟨_, _, rfl, rfl, iteD (fun _ => ?_) (fun _ => ?_)⟩
    · obtain ⟨k2, rfl⟩ : ∃ k2, k = k2 + 1 := ⟨k - 1, by omega⟩
      refine wb_cons (ws_set 8 (by walk_at "tgt") (fun _ _ => rfl) ?_)
      repeat walk_at "dl"
      refine ⟨_, _, rfl, rfl, ?_⟩
      repeat walk_at "dl"
      refine ⟨⟨_, rfl, by omega, by omega⟩, k2, rfl, ?_⟩
      rintro d ⟨m', lim, e1, rfl, l0, l1⟩
      cases e1
      refine wb_cons (ws_fL (fun c => decide (((bits c.toNat : Nat) : Int) ≤ lim)) PyData.int (fun c => PyData.int (Builtin.bitXor c fl)) 7 6 (by walk_at "blk") (by walk_at "tgt") rfl rfl rfl (by decide +kernel) hK (fun _ _ => rfl) ?_)
      repeat walk_at "dl"
      refine ⟨_, rfl, by omega, fun D c hc => ?_, ?_⟩
      · have hKD : (F.ext D).K = K := hK
        have hc' := mem_rg.mp hc
        repeat walk_at "dl"
        refine ⟨_, ⟨c.toNat, by rw [show ((c.toNat : Nat) : Int) = c by omega], rfl⟩, ?_⟩
        repeat walk_at "dl"
        refine ⟨_, _, rfl, rfl, rfl, rfl, fun _ => ?_⟩
        repeat walk_at "dl"
        exact ⟨_, _, rfl, rfl, rfl, rfl⟩
      · refine wb_nil ⟨by omega, _, .d (.int lim), xor_good hn f0 f1 (List.filter_sublist (p := fun c => decide (((bits c.toNat : Nat) : Int) ≤ lim))), ?_⟩
        rw [List.map_map]; rfl
    · refine wb_nil ⟨by omega, as, .un, GoodC.sub hsub, rfl⟩
  rintro k ρ ⟨hk, as, x8, hg, rfl⟩
  -- if kind == 5
  refine wb_mid (fun k ρ => kk ≤ k ∧ ∃ as x8, GoodC n as ∧ ρ = [.raw (.ref s), .d (.int (m : Int)), .d (.int (n : Int)), .d (.int kd), .d (.int fl), .d (.list ((rg ((2 : Int) ^ n)).map PyData.int)), .d (.list (as.map PyData.int)), .un, x8]) (ws_if (wt_eqI ?_)) ?_
  · repeat walk_at "dl"
    refine ⟨_, _, rfl, rfl, iteD (fun _ => ?_) (fun _ => ?_)⟩
    · refine wb_cons (ws_fL (fun c => !decide (c = fl) && !decide (c = (2 : Int) ^ n - 1 - fl)) PyData.int PyData.int 7 6 (by walk_at "blk") (by walk_at "tgt") rfl rfl rfl (by decide +kernel) hK (fun _ _ => rfl) ?_)
      repeat walk_at "dl"
      refine ⟨_, rfl, by omega, fun D c hc => ?_, ?_⟩
      · have hKD : (F.ext D).K = K := hK
        refine wt_bool (ww_and (wt_neI ?_))
        repeat walk_at "dl"
        refine ⟨_, _, rfl, rfl, iteB (fun h => ?_) (fun h => ?_)⟩
        · refine ww_and1 (wt_neI ?_)
          repeat walk_at "dl"
          refine ⟨_, ⟨n, rfl, by omega, rfl⟩, ?_⟩
          repeat walk_at "dl"
          refine ⟨_, _, rfl, rfl, ?_⟩
          repeat walk_at "dl"
          refine ⟨_, _, rfl, rfl, ?_⟩
          refine ⟨_, _, rfl, rfl, rfl, ?_, fun _ => ?_⟩
          · rw [h, Bool.true_and]
          · repeat walk_at "dl"
            exact ⟨rfl, rfl⟩
        · exact ⟨rfl, by rw [h, Bool.false_and], fun z => by cases z⟩
      · exact wb_nil ⟨hk, _, x8, GoodC.sub (List.filter_sublist (p := fun c => !decide (c = fl) && !decide (c = (2 : Int) ^ n - 1 - fl))), rfl⟩
    · exact wb_nil ⟨hk, as, x8, hg, rfl⟩
  rintro k ρ ⟨hk, as, x8, hg, rfl⟩
  repeat walk_at "dl"
  refine ⟨as, rfl, fun ms hpm hpw => ⟨_, rfl, ?_⟩⟩
  repeat walk_at "dl"
  exact ⟨by show 2 ≤ sizeLine; decide, hk, m, n, ms, rfl, hnm, hg.sorted hpm hpw, rfl⟩
end


abbrev nSix : List Str := ["_law_state", "_law_most", "_law_some", "_law_k"]
theorem scSix : FnScope nSix ["_law_state", "_law_most"] (defScope (topS 22)) := ⟨rfl, rfl, rfl, by decide +kernel, rfl, by decide +kernel, by decide +kernel⟩
def PreSix : List PyData → Prop := fun ds => ∃ m : Nat, ds = [.int (m : Int)] ∧ 0 < m ∧ m ≤ 12
def RSix : Rel := fun ds d => ∃ cs : List Int, IsBox 6 cs ∧ cs ≠ [] ∧ d = boxD 6 cs
section
variable {P : Program} {w : World} {K : PySem.W.Frag} {mg : Str → Option Value} {base : Heap}
theorem ok_six {f : Addr} {fd : FuncData} (Fn : Fun K "_law_six" "_law_six" (topS 22) f fd) (mr : mg "range" = none) (mt : mg "tuple" = none) (ms : mg "sorted" = none) (me : mg "set" = none)
    (gn : DFn P w K mg base 1 "_law_next" 1 PreNext RNext) : FnG P w K mg base 2 f fd ["_law_state", "_law_most"] (spDraw K 20 PreSix RSix) := by
  refine draw_ok (k := 1) Fn scSix (fun ds ⟨m, e, _⟩ => by rw [e]; rfl) (fun F s a r ds kk dk hK ⟨m, e, hm0, hm⟩ => ?_)
  subst e
  refine wb_cons (ws_compR0 3 2 (by walk_at "blk") (by walk_at "tgt") rfl rfl rfl (by decide +kernel) rfl mr (fun _ => rfl) (fun _ _ => rfl) ?_)
  repeat walk_at "dl"
  refine ⟨⟨_, rfl, by omega, by omega⟩, kk + 19, rfl, ?_⟩
  rintro d ⟨m', v, e1, rfl, v0, v1⟩
  cases e1
  refine ⟨_, _, rfl, rfl, ?_⟩
  refine ⟨fun j k acc => k + j = kk + 19 ∧ ∃ as : List Int, acc = as.map PyData.int ∧ as.length = j ∧ ∀ c ∈ as, 0 ≤ c ∧ c < 64, _, rfl, by omega, by omega, ⟨rfl, [], rfl, rfl, by simp⟩, ?_, ?_⟩
  · rintro D j k acc hj ⟨hk, as, rfl, hl, hc⟩
    have hKD : (F.ext D).K = K := hK
    obtain ⟨k2, rfl⟩ : ∃ k2, k = k2 + 1 := ⟨k - 1, by omega⟩
    repeat walk_at "dl"
    refine ⟨⟨_, rfl, by decide, by decide⟩, k2, rfl, ?_⟩
    rintro d ⟨m', u, e1, rfl, u0, u1⟩
    cases e1
    refine ⟨by omega, as ++ [u], by rw [List.map_append]; rfl, by rw [List.length_append, hl]; rfl, fun c hcm => ?_⟩
    rcases List.mem_append.mp hcm with h | h
    · exact hc c h
    · have : c = u := by simpa using h
      subst this; exact ⟨u0, u1⟩
  rintro k acc ⟨hk, as, rfl, hl, hc⟩
  refine wb_cons (ws_ret (we_tup (wa_cons (fun _ => rfl) (we_int (wa_cons (fun _ => rfl) (we_tuple hK rfl mt (fun _ => rfl) (we_sortSet hK rfl ms rfl me (fun _ => rfl) (fun _ => rfl) ?_)))))))
  repeat walk_at "dl"
  refine ⟨as, rfl, by omega, fun cs hpw hmem => ⟨_, rfl, ?_⟩⟩
  repeat walk_at "dl"
  refine ⟨by show 2 ≤ sizeLine; decide, by omega, cs, ⟨hpw, fun c hcm => ?_⟩, ?_, rfl⟩
  · have := hc c ((hmem c).mp hcm)
    exact ⟨this.1, by show c < 64; exact this.2⟩
  · rintro rfl
    cases as with
    | nil => rw [List.length_nil] at hl; omega
    | cons x xs =>
      have := (hmem x).mpr List.mem_cons_self
      cases this
end

abbrev nWide : List Str := ["_law_state", "_law_most", "_law_kind", "_law_few", "_law_mask", "_law_card"]
theorem scWide : FnScope nWide ["_law_state", "_law_most"] (defScope (topS 23)) := ⟨rfl, rfl, rfl, by decide +kernel, rfl, by decide +kernel, by decide +kernel⟩
def RWide : Rel := fun ds d => ∃ cs : List Int, IsBox 6 cs ∧ d = boxD 6 cs
theorem sub64 {as : List Int} (h : as.Sublist (rg 64)) : IsBox 6 as := ⟨rg_pairwise.sublist h, fun c hc => mem_rg.mp (h.subset hc)⟩
section
variable {P : Program} {w : World} {K : PySem.W.Frag} {mg : Str → Option Value} {base : Heap}
theorem ok_wide {f : Addr} {fd : FuncData} (Fn : Fun K "_law_wide" "_law_wide" (topS 23) f fd) (mr : mg "range" = none) (mt : mg "tuple" = none)
    (gn : DFn P w K mg base 1 "_law_next" 1 PreNext RNext) (gx : DFn P w K mg base 2 "_law_six" 20 PreSix RSix) : FnG P w K mg base 3 f fd ["_law_state", "_law_most"] (spDraw K 25 PreSix RWide) := by
  refine draw_ok (k := 2) Fn scWide (fun ds ⟨m, e, _⟩ => by rw [e]; rfl) (fun F s a r ds kk dk hK ⟨m, e, hm0, hm⟩ => ?_)
  subst e
  refine wb_cons (ws_asg2s 2 3 (by decide) (by walk_at "tgt") (by walk_at "tgt") hK (fun env h => by cases env; cases h; rfl) (fun env h => by cases env; cases h; rfl) ?_)
  repeat walk_at "dl"
  refine ⟨⟨_, rfl, by decide, by decide⟩, kk + 24, rfl, ?_⟩
  rintro d ⟨m', kd, e1, rfl, k0, k1⟩
  cases e1
  repeat walk_at "dl"
  refine ⟨⟨m, rfl, hm0, hm⟩, kk + 4, rfl, ?_⟩
  rintro d ⟨fs, hfs, hne, rfl⟩
  repeat walk_at "dl"
  refine ⟨_, rfl, ?_⟩
  repeat walk_at "dl"
  refine ⟨by show 2 ≤ sizeLine; decide, _, _, rfl, ?_⟩
  refine wb_cons (ws_set 4 (by walk_at "tgt") (fun _ _ => rfl) ?_)
  repeat walk_at "dl"
  refine ⟨⟨_, rfl, by decide, by decide⟩, kk + 3, rfl, ?_⟩
  rintro d ⟨m', mk, e1, rfl, q0, q1⟩
  cases e1
  refine wb_cons (ws_if (wt_eqI ?_))
  repeat walk_at "dl"
  refine ⟨_, _, rfl, rfl, iteD (fun _ => ?_) (fun _ => ?_)⟩
  · repeat walk_at "dl"
    exact ⟨by show 2 ≤ sizeLine; decide, by omega, fs, hfs, rfl⟩
  refine wb_nil ?_
  refine wb_cons (ws_if (wt_eqI ?_))
  repeat walk_at "dl"
  refine ⟨_, _, rfl, rfl, iteD (fun _ => ?_) (fun _ => ?_)⟩
  · obtain ⟨f0, fr, rfl⟩ : ∃ x xs, fs = x :: xs := by
      cases fs with
      | nil => exact absurd rfl hne
      | cons x xs => exact ⟨x, xs, rfl⟩
    repeat walk_at "dl"
    refine we_fR (fun c => decide (c ∈ f0 :: fr) || decide (Builtin.bitAnd c mk = Builtin.bitAnd f0 mk)) PyData.int 5 (by walk_at "blk") rfl mr (fun _ => rfl) (fun _ _ => rfl) (we_int ?_)
    refine ⟨64, rfl, by decide, by decide, fun D c c0 c1 => ?_, _, rfl, ?_⟩
    · have hKD : (F.ext D).K = K := hK
      refine wt_bool (ww_or (wt_inI hKD rfl ?_))
      repeat walk_at "dl"
      refine ⟨c, f0 :: fr, rfl, rfl, iteD (fun h => ?_) (fun h => ?_)⟩
      · refine ⟨rfl, by rw [decide_eq_true h, Bool.true_or], fun _ => ?_⟩
        repeat walk_at "dl"
        exact ⟨rfl, rfl⟩
      · refine ww_or1 (wt_eqI ?_)
        repeat walk_at "dl"
        refine ⟨_, _, rfl, rfl, ?_⟩
        repeat walk_at "dl"
        refine ⟨_, ix0T _ _, ?_⟩
        repeat walk_at "dl"
        refine ⟨_, _, rfl, rfl, ?_⟩
        refine ⟨_, _, rfl, rfl, rfl, by rw [decide_eq_false h, Bool.false_or], fun _ => ?_⟩
        repeat walk_at "dl"
        exact ⟨rfl, rfl⟩
    · repeat walk_at "dl"
      exact ⟨by show 2 ≤ sizeLine; decide, by omega, _, sub64 List.filter_sublist, rfl⟩
  refine wb_nil ?_
  repeat walk_at "dl"
  refine we_fR (fun c => !decide (c ∈ fs)) PyData.int 5 (by walk_at "blk") rfl mr (fun _ => rfl) (fun _ _ => rfl) (we_int ?_)
  refine ⟨64, rfl, by decide, by decide, fun D c c0 c1 => ?_, _, rfl, ?_⟩
  · have hKD : (F.ext D).K = K := hK
    refine wt_niI hKD rfl ?_
    repeat walk_at "dl"
    refine ⟨c, fs, rfl, rfl, rfl, rfl, fun _ => ?_⟩
    repeat walk_at "dl"
    exact ⟨rfl, rfl⟩
  · repeat walk_at "dl"
    exact ⟨by show 2 ≤ sizeLine; decide, by omega, _, sub64 List.filter_sublist, rfl⟩
end

def certD (n : Nat) (cs : List Int) (s : Int) : PyData := match basesL n cs s with
  | b :: _ => .tuple [.str "solid", .int b]
  | [] => .tuple [.str "broken", .tuple ((outside n s).map fun b => missD cs b s)]
theorem certD_cons {n : Nat} {cs : List Int} {s b : Int} {r : List Int} (h : basesL n cs s = b :: r) : certD n cs s = .tuple [.str "solid", .int b] := by unfold certD; rw [h]
theorem certD_nil {n : Nat} {cs : List Int} {s : Int} (h : basesL n cs s = []) : certD n cs s = .tuple [.str "broken", .tuple ((outside n s).map fun b => missD cs b s)] := by unfold certD; rw [h]
theorem fine_solid : Fine 20 0 (.str "solid") := ⟨by simp only [PyData.showable], by simp only [PyData.hasDict], by simp only [PyData.depth]; exact Nat.le_refl _, by simp only [PyData.shown]; decide +kernel⟩
theorem fine_broken : Fine 20 0 (.str "broken") := ⟨by simp only [PyData.showable], by simp only [PyData.hasDict], by simp only [PyData.depth]; exact Nat.le_refl _, by simp only [PyData.shown]; decide +kernel⟩
theorem cube_mem {b q c : Int} (h : c ∈ cubeCards b q) (hq : 0 ≤ q) : b ≤ c ∧ c ≤ b + q := by
  unfold cubeCards parts at h
  obtain ⟨i, hi, rfl⟩ := List.mem_map.mp h
  have := mem_rg.mp (List.mem_filter.mp hi).1
  omega
theorem miss_mem {cs : List Int} {b q c : Int} (h : missing cs b q = some c) : c ∈ cubeCards b q := List.mem_of_find?_eq_some h
theorem fine_miss {cs : List Int} {b q : Int} (b0 : 0 ≤ b) (b1 : b < 64) (q0 : 0 ≤ q) (q1 : q < 64) : Fine 31 0 (missD cs b q) := by
  unfold missD
  cases h : missing cs b q with
  | none => exact fine_none.mono (by decide) (by decide)
  | some c =>
    have := cube_mem (miss_mem h) q0
    exact fine_int (Nat.lt_trans (show c.natAbs < 128 by omega) (by decide))
theorem cert_fine {n : Nat} (hn : n ≤ 6) (cs : List Int) {s : Int} (s0 : 0 ≤ s) (s1 : s < 64) : Fine 5000 2 (certD n cs s) := by
  have hp := pow_le64 hn
  cases h : basesL n cs s with
  | cons b r =>
    rw [certD_cons h]
    have hb : b ∈ outside n s := (List.mem_filter.mp (show b ∈ basesL n cs s by rw [h]; exact List.mem_cons_self)).1
    have hb' := mem_outside hb
    refine (fine_tuple (n := 31) (dp := 0) (L := 2) (fun d hd => ?_) (Nat.le_refl _)).mono (by decide) (by decide)
    simp only [List.mem_cons, List.not_mem_nil, or_false] at hd
    rcases hd with rfl | rfl
    · exact fine_solid.mono (by decide) (by decide)
    · exact fine_int (Nat.lt_trans (show b.natAbs < 64 by omega) (by decide))
  | nil =>
    rw [certD_nil h]
    have h1 : Fine (64 * 33 + 3) 1 (.tuple ((outside n s).map fun b => missD cs b s)) := by
      refine fine_tuple (n := 31) (dp := 0) (L := 64) (fun d hd => ?_) (by rw [List.length_map]; exact outside_len hn s)
      obtain ⟨b, hb, rfl⟩ := List.mem_map.mp hd
      have hb' := mem_outside hb
      exact fine_miss hb'.1 (by omega) s0 s1
    refine (fine_tuple (n := 64 * 33 + 3) (dp := 1) (L := 2) (fun d hd => ?_) (Nat.le_refl _)).mono (by decide) (by decide)
    simp only [List.mem_cons, List.not_mem_nil, or_false] at hd
    rcases hd with rfl | rfl
    · exact fine_broken.mono (by decide) (by decide)
    · exact h1
theorem cube_asc (b q : Int) : (cubeCards b q).Pairwise (· < ·) := by
  unfold cubeCards parts
  rw [List.pairwise_map]
  exact (rg_pairwise.filter _).imp fun h => by omega
/-- the smallest card that lacks is the first one -/
theorem min_miss {cs : List Int} {b q m : Int} (hm : m ∈ ((parts q).filter fun p => !decide (b + p ∈ cs)).map fun p => b + p) (hle : ∀ y ∈ ((parts q).filter fun p => !decide (b + p ∈ cs)).map (fun p => b + p), m ≤ y) : missD cs b q = .int m := by
  have e : ((parts q).filter fun p => !decide (b + p ∈ cs)).map (fun p => b + p) = (cubeCards b q).filter fun c => !decide (c ∈ cs) := by
    unfold cubeCards
    rw [List.filter_map]; rfl
  rw [e] at hm hle
  have hasc := (cube_asc b q).filter (fun c => !decide (c ∈ cs))
  unfold missD missing
  rw [← List.head?_filter]
  cases hf : (cubeCards b q).filter fun c => !decide (c ∈ cs) with
  | nil => rw [hf] at hm; cases hm
  | cons c r =>
    rw [hf] at hm hle hasc
    have h1 := hle c List.mem_cons_self
    have h2 : c ≤ m := by
      rcases List.mem_cons.mp hm with h | h
      · omega
      · have := (List.pairwise_cons.mp hasc).1 m h; omega
    show PyData.int c = PyData.int m
    rw [show c = m by omega]

abbrev nCert : List Str := ["box", "switches", "bases", "n", "cards", "base"]
theorem scCert : FnScope nCert ["box", "switches"] (defScope (topS 11)) := ⟨rfl, rfl, rfl, by decide +kernel, rfl, by decide +kernel, by decide +kernel⟩
def Rcert : Rel := fun ds d => ∃ (n : Nat) (cs : List Int) (s : Int), ds = [boxD n cs, .int s] ∧ n ≤ 6 ∧ (0 ≤ s ∧ s < 1000) ∧ d = certD n cs s
section
variable {P : Program} {w : World} {K : PySem.W.Frag} {mg : Str → Option Value} {base : Heap}
theorem ok_cert {f : Addr} {fd : FuncData} (Fn : Fun K "solid_certificate" "solid_certificate" (topS 11) f fd) (ml : mg "len" = none) (mt : mg "tuple" = none) (gb : PFn P w K mg base 4 "bases_of" Rbases) (go : PFn P w K mg base 1 "sets_outside" Rout) (gm : PFn P w K mg base 3 "first_missing" Rmiss) : FnG P w K mg base 5 f fd ["box", "switches"] (spPure K Rcert) := by
  refine pure_ok (k := 4) Fn scCert (fun ds d ⟨n, cs, s, e, _⟩ => by rw [e]; rfl) (fun F ds d hK ⟨n, cs, s, e, hn, hs, ed⟩ => ?_)
  subst e ed
  refine wb_cons (ws_set 2 (by walk_at "tgt") (fun _ _ => rfl) ?_)
  repeat walk_at "dl"
  refine ⟨_, ⟨n, cs, s, rfl, hn, hs, rfl⟩, ?_⟩
  refine wb_cons (ws_if ?_)
  repeat walk_at "dl"
  refine ⟨_, rfl, ?_⟩
  repeat walk_at "dl"
  refine ⟨_, _, rfl, rfl, iteD (fun h => ?_) (fun h => ?_)⟩
  · cases hb : basesL n cs s with
    | nil => rw [hb] at h; exact absurd h (by decide)
    | cons b r =>
    rw [certD_cons hb]
    repeat walk_at "dl"
    refine ⟨_, ix0T _ _, ?_⟩
    repeat walk_at "dl"
    exact ⟨by show 2 ≤ sizeLine; decide, rfl⟩
  · have hb : basesL n cs s = [] := by
      cases hb : basesL n cs s with
      | nil => rfl
      | cons b r => rw [hb] at h; exact absurd (show (0 : Int) < (((b :: r).map PyData.int).length : Int) by rw [List.length_map, List.length_cons]; omega) h
    rw [certD_nil hb]
    refine wb_nil ?_
    refine wb_cons (ws_asg2 3 4 (by decide) (by walk_at "tgt") (by walk_at "tgt") hK (fun _ => rfl) (fun _ => rfl) ?_)
    repeat walk_at "dl"
    refine ⟨_, _, rfl, ?_⟩
    repeat walk_at "dl"
    refine we_mL PyData.int (fun b => missD cs b s) 5 (by walk_at "blk") hK (fun _ _ => rfl) ?_
    repeat walk_at "dl"
    refine ⟨_, ⟨n, s, rfl, hn, rfl⟩, _, rfl, ?_, fun D b hbm => ?_, _, rfl, ?_⟩
    · have := outside_len hn s; omega
    · repeat walk_at "dl"
      refine ⟨by show 2 ≤ sizeLine; decide, ?_⟩
      repeat walk_at "dl"
      exact ⟨_, ⟨cs, b, s, rfl, hs, rfl⟩, rfl, rfl⟩
    · repeat walk_at "dl"
      exact ⟨by show 2 ≤ sizeLine; decide, rfl⟩
end

theorem uniqA {α : Type} {R : α → α → Prop} (ir : ∀ a, ¬ R a a) (tr : ∀ a b, R a b → ¬ R b a) : ∀ {xs ys : List α}, xs.Pairwise R → ys.Pairwise R → (∀ a, a ∈ xs ↔ a ∈ ys) → xs = ys
  | [], [], _, _, _ => rfl
  | [], y :: ys, _, _, h => by have := (h y).mpr List.mem_cons_self; cases this
  | x :: xs, [], _, _, h => by have := (h x).mp List.mem_cons_self; cases this
  | x :: xs, y :: ys, hx, hy, h => by
    have hx' := List.pairwise_cons.mp hx
    have hy' := List.pairwise_cons.mp hy
    have e : x = y := by
      rcases List.mem_cons.mp ((h x).mp List.mem_cons_self) with e | m1
      · exact e
      rcases List.mem_cons.mp ((h y).mpr List.mem_cons_self) with e | m2
      · exact e.symm
      exact absurd (hx'.1 y m2) (tr _ _ (hy'.1 x m1))
    subst e
    refine congrArg (x :: ·) (uniqA ir tr hx'.2 hy'.2 fun a => ⟨fun m => ?_, fun m => ?_⟩)
    · rcases List.mem_cons.mp ((h a).mp (List.mem_cons_of_mem _ m)) with e | m'
      · exact absurd (e ▸ hx'.1 a m) (ir x)
      · exact m'
    · rcases List.mem_cons.mp ((h a).mpr (List.mem_cons_of_mem _ m)) with e | m'
      · exact absurd (e ▸ hy'.1 a m) (ir x)
      · exact m'
theorem uniqI {xs ys : List Int} (hx : xs.Pairwise (· < ·)) (hy : ys.Pairwise (· < ·)) (h : ∀ a, a ∈ xs ↔ a ∈ ys) : xs = ys := uniqA (R := fun a b : Int => a < b) (fun a h => by omega) (fun a b h1 h2 => by omega) hx hy h
theorem permA : ∀ {xs ys : List Int}, xs.Nodup → ys.Nodup → (∀ a, a ∈ xs ↔ a ∈ ys) → xs.length = ys.length
  | [], ys, _, _, h => by
    cases ys with
    | nil => rfl
    | cons y ys => have := (h y).mpr List.mem_cons_self; cases this
  | x :: xs, ys, hx, hy, h => by
    have hm : x ∈ ys := (h x).mp List.mem_cons_self
    have hx' := List.nodup_cons.mp hx
    have ih := permA hx'.2 (hy.erase x) fun a => by
      rw [hy.mem_erase_iff]
      constructor
      · intro ha
        exact ⟨fun e => hx'.1 (e ▸ ha), (h a).mp (List.mem_cons_of_mem _ ha)⟩
      · rintro ⟨hne, ha⟩
        rcases List.mem_cons.mp ((h a).mpr ha) with e | e
        · exact absurd e hne
        · exact e
    rw [List.length_cons, ih, List.length_erase_of_mem hm]
    have := List.length_pos_of_mem hm
    omega
theorem asc_nodup {xs : List Int} (h : xs.Pairwise (· < ·)) : xs.Nodup := List.nodup_iff_pairwise_ne.mpr (h.imp fun h => by omega)
theorem eqvAll_ints : ∀ xs ys : List Int, PyData.eqvAll (xs.map PyData.int) (ys.map PyData.int) = decide (xs = ys)
  | [], [] => by simp [PyData.eqvAll]
  | [], y :: ys => by simp [PyData.eqvAll]
  | x :: xs, [] => by simp [PyData.eqvAll]
  | x :: xs, y :: ys => by
    have ih := eqvAll_ints xs ys
    simp only [List.map_cons, PyData.eqvAll, PyData.eqv, ih]
    by_cases h1 : x = y <;> by_cases h2 : xs = ys <;> simp [h1, h2]
theorem eqv_intsT (xs ys : List Int) : PyData.eqv (.tuple (xs.map PyData.int)) (.tuple (ys.map PyData.int)) = decide (xs = ys) := by
  simp only [PyData.eqv]; exact eqvAll_ints xs ys
theorem eqv_intsL (xs ys : List Int) : PyData.eqv (.list (xs.map PyData.int)) (.list (ys.map PyData.int)) = decide (xs = ys) := by
  simp only [PyData.eqv]; exact eqvAll_ints xs ys
def hasP (cs : List Int) (s p : Int) : Bool := cs.any fun c => decide (Builtin.bitAnd c s = p)
def patsL (cs : List Int) (s : Int) : List Int := (parts s).filter fun p => hasP cs s p
def shownB (cs : List Int) (s : Int) : Bool := (parts s).all fun p => hasP cs s p
theorem parts_asc (s : Int) : (parts s).Pairwise (· < ·) := rg_pairwise.filter _
theorem band_part {c s : Int} (hc : 0 ≤ c) (hs : 0 ≤ s) : Builtin.bitAnd c s ∈ parts s := by
  obtain ⟨c, rfl⟩ : ∃ m : Nat, c = (m : Int) := ⟨c.toNat, by omega⟩
  obtain ⟨s, rfl⟩ : ∃ m : Nat, s = (m : Int) := ⟨s.toNat, by omega⟩
  have h : c &&& s ≤ s := Nat.and_le_right
  rw [band_nat]
  refine List.mem_filter.mpr ⟨mem_rg.mpr ⟨by omega, by omega⟩, decide_eq_true ?_⟩
  rw [band_nat, Nat.and_assoc, Nat.and_self]
theorem mem_pats {cs : List Int} {s : Int} (hb : ∀ c ∈ cs, 0 ≤ c) (hs : 0 ≤ s) (z : Int) : z ∈ patsL cs s ↔ z ∈ cs.map fun c => Builtin.bitAnd c s := by
  unfold patsL hasP
  rw [List.mem_filter, List.any_eq_true, List.mem_map]
  constructor
  · rintro ⟨_, c, hc, e⟩
    exact ⟨c, hc, of_decide_eq_true e⟩
  · rintro ⟨c, hc, rfl⟩
    exact ⟨band_part (hb c hc) hs, c, hc, decide_eq_true rfl⟩
theorem pats_uniq {cs ms : List Int} {s : Int} (hb : ∀ c ∈ cs, 0 ≤ c) (hs : 0 ≤ s) (hw : ms.Pairwise (· < ·)) (hm : ∀ z, z ∈ ms ↔ z ∈ cs.map fun c => Builtin.bitAnd c s) : ms = patsL cs s :=
  uniqI hw ((parts_asc s).filter _) fun z => (hm z).trans (mem_pats hb hs z).symm
theorem shown_dec (cs : List Int) (s : Int) : decide (patsL cs s = parts s) = shownB cs s := by
  unfold patsL shownB
  rw [Bool.eq_iff_iff, decide_eq_true_eq, List.filter_eq_self, List.all_eq_true]
theorem shown_len (cs : List Int) (s : Int) : decide ((patsL cs s).length = (parts s).length) = shownB cs s := by
  unfold patsL shownB
  rw [Bool.eq_iff_iff, decide_eq_true_eq, List.length_filter_eq_length_iff, List.all_eq_true]
def b6 (s : Nat) : Nat := s % 2 + (s / 2 % 2 + (s / 4 % 2 + (s / 8 % 2 + (s / 16 % 2 + s / 32 % 2))))
theorem bits_all (n : Nat) : bits n = n % 2 + bits (n / 2) := by
  by_cases h : n = 0
  · subst h; rw [bits, if_pos rfl]
  · exact bits_pos (by omega)
theorem bits_b6 {s : Nat} (h : s < 64) : bits s = b6 s := by
  unfold b6
  rw [bits_all s, bits_all (s / 2), bits_all (s / 2 / 2), bits_all (s / 2 / 2 / 2), bits_all (s / 2 / 2 / 2 / 2), bits_all (s / 2 / 2 / 2 / 2 / 2)]
  have e : s / 2 / 2 / 2 / 2 / 2 / 2 = 0 := by omega
  rw [e, bits, if_pos rfl]
  omega
theorem b6_le : ∀ n ≤ 6, ∀ s < 2 ^ n, b6 s ≤ n := by decide +kernel
theorem b6_six (s : Nat) : b6 s ≤ 6 := by unfold b6; omega
theorem parts_b6 : ∀ s < 64, (partsN s).length = 2 ^ b6 s := by decide +kernel
theorem parts_count {s : Nat} (h : s < 64) : (parts (s : Int)).length = 2 ^ bits s := by
  rw [parts_nat, List.length_map, parts_b6 s h, bits_b6 h]
theorem box_ge {n : Nat} {cs : List Int} (b : IsBox n cs) : ∀ c ∈ cs, 0 ≤ c := fun c hc => (b.rng c hc).1

/-! ### values of any kind: is it a number, a card, a box -/
def numD : PyData → Bool
  | .int _ => true
  | _ => false
def belD (b : Int) : PyData → Bool
  | .int i => decide (0 ≤ i) && decide (i < b)
  | _ => false
def rngD (lo hi : Int) : PyData → Bool
  | .int i => decide (lo ≤ i) && decide (i ≤ hi)
  | _ => false
def pairD : PyData → Bool
  | .tuple ds => decide (ds.length = 2)
  | _ => false
def isTup : PyData → Bool
  | .tuple _ => true
  | _ => false
theorem numD_eq (x : PyData) : numD x = (isiD "int" x && !isiD "bool" x) := by cases x <;> rfl
theorem isTup_eq (x : PyData) : isiD "tuple" x = isTup x := by cases x <;> rfl
theorem bel_rng (b : Int) (x : PyData) : rngD 0 (b - 1) x = belD b x := by
  cases x <;> try rfl
  rename_i i
  show (decide (0 ≤ i) && decide (i ≤ b - 1)) = (decide (0 ≤ i) && decide (i < b))
  rw [show decide (i ≤ b - 1) = decide (i < b) from decide_eq_decide.mpr (by omega)]
theorem num_int {x : PyData} (h : numD x = true) : ∃ i : Int, x = .int i := by cases x <;> first | exact ⟨_, rfl⟩ | cases h
theorem bel_int {b : Int} {x : PyData} (h : belD b x = true) : ∃ i : Int, x = .int i ∧ 0 ≤ i ∧ i < b := by
  cases x with
  | int i =>
    rw [belD, Bool.and_eq_true, decide_eq_true_eq, decide_eq_true_eq] at h
    exact ⟨i, rfl, h.1, h.2⟩
  | _ => cases h
theorem tup_some {x : PyData} (h : isTup x = true) : ∃ ds, x = .tuple ds := by cases x <;> first | exact ⟨_, rfl⟩ | cases h
theorem itP {p : Bool} {A B : Prop} (h : p = true) (x : A) : if p = true then A else B := by rw [if_pos h]; exact x
theorem itN {p : Bool} {A B : Prop} (h : p = false) (x : B) : if p = true then A else B := by rw [if_neg (by rw [h]; decide)]; exact x
def errP (i : PyData) (w : Str) : PyData := .tuple [i, .str w]
/-- the first error of the cards from the i-th on, p the card ahead -/
def cerr (b : Int) : Option Int → Nat → List PyData → PyData
  | _, _, [] => .none
  | p, i, c :: cs => if belD b c = true then (match c with
      | .int v => if (match p with | some q => decide (v ≤ q) | none => false) = true then errP (.int (i : Int)) "order" else cerr b (some v) (i + 1) cs
      | _ => .none) else errP (.int (i : Int)) "card"
theorem cerr_cons (b : Int) (p : Option Int) (i : Nat) (c : PyData) (cs : List PyData) : cerr b p i (c :: cs) = if belD b c = true then (match c with
      | .int v => if (match p with | some q => decide (v ≤ q) | none => false) = true then errP (.int (i : Int)) "order" else cerr b (some v) (i + 1) cs
      | _ => .none) else errP (.int (i : Int)) "card" := by cases c <;> rfl
def berr : PyData → PyData
  | .tuple [n, c] => if belD 7 n = true then (match n, c with
      | .int m, .tuple cs => cerr (2 ^ m.toNat) none 0 cs
      | _, _ => errP .none "cards") else errP .none "switches"
  | _ => errP .none "tuple"
theorem berr_two (a b : PyData) : berr (.tuple [a, b]) = if belD 7 a = true then (match a, b with
      | .int m, .tuple cs => cerr (2 ^ m.toNat) none 0 cs
      | _, _ => errP .none "cards") else errP .none "switches" := rfl
/-- the card ahead of the j-th -/
def prevI (cs : List PyData) : Nat → Option Int
  | 0 => none
  | j + 1 => match cs[j]? with
    | some (.int v) => some v
    | _ => none
def CInv (b : Int) (cs : List PyData) (j : Nat) : Prop := cerr b none 0 cs = cerr b (prevI cs j) j (cs.drop j) ∧ ∀ i, j = i + 1 → ∃ v : Int, cs[i]? = some (.int v)
theorem cinv_zero (b : Int) (cs : List PyData) : CInv b cs 0 := ⟨rfl, fun i h => by omega⟩
theorem cinv_step {b : Int} {cs : List PyData} {j : Nat} {y : PyData} (h : CInv b cs j) (e : cs[j]? = some y) :
    (belD b y = false → cerr b none 0 cs = errP (.int (j : Int)) "card") ∧
    (∀ v : Int, y = .int v → belD b y = true → (∀ q, prevI cs j = some q → v ≤ q → cerr b none 0 cs = errP (.int (j : Int)) "order") ∧ ((∀ q, prevI cs j = some q → ¬ v ≤ q) → CInv b cs (j + 1))) := by
  have hd : cs.drop j = y :: cs.drop (j + 1) := by
    obtain ⟨hl, hv⟩ := List.getElem?_eq_some_iff.mp e
    rw [List.drop_eq_getElem_cons hl, hv]
  have h1 := h.1
  rw [hd, cerr_cons] at h1
  refine ⟨fun hb => by rw [h1, hb]; rfl, fun v hy hb => ?_⟩
  subst hy
  rw [if_pos hb] at h1
  have h1 : cerr b none 0 cs = if (match prevI cs j with | some q => decide (v ≤ q) | none => false) = true then errP (.int (j : Int)) "order" else cerr b (some v) (j + 1) (cs.drop (j + 1)) := h1
  refine ⟨fun q hq hle => ?_, fun hno => ⟨?_, fun i hi => ?_⟩⟩
  · rw [h1, hq]
    show (if decide (v ≤ q) = true then _ else _) = _
    rw [if_pos (decide_eq_true hle)]
  · rw [h1]
    have : prevI cs (j + 1) = some v := by rw [prevI, e]
    rw [this, if_neg]
    cases hp : prevI cs j with
    | none => show ¬ (false = true); decide
    | some q =>
      show ¬ (decide (v ≤ q) = true)
      rw [decide_eq_true_eq]; exact hno q hp
  · have : i = j := by omega
    subst this
    exact ⟨v, e⟩
theorem cinv_end {b : Int} {cs : List PyData} (h : CInv b cs cs.length) : cerr b none 0 cs = .none := by
  have := h.1
  rw [List.drop_length] at this
  rw [this]; cases prevI cs cs.length <;> rfl
theorem pair_some {x : PyData} (h : pairD x = true) : ∃ a b, x = .tuple [a, b] := by
  cases x with
  | tuple ds =>
    have : ds.length = 2 := of_decide_eq_true h
    match ds, this with
    | [a, b], _ => exact ⟨a, b, rfl⟩
  | _ => cases h

abbrev nNum : List Str := ["value"]
theorem scNum : FnScope nNum ["value"] (defScope (topS 1)) := ⟨rfl, rfl, rfl, by decide +kernel, rfl, by decide +kernel, by decide +kernel⟩
def RnumA : Rel := fun ds d => ∃ x : PyData, ds = [x] ∧ d = .bool (numD x)
section
variable {P : Program} {w : World} {K : PySem.W.Frag} {mg : Str → Option Value} {base : Heap}
theorem ok_numA {f : Addr} {fd : FuncData} (Fn : Fun K "is_number" "is_number" (topS 1) f fd) (mi : mg "isinstance" = none) (mn : mg "int" = none) (mb : mg "bool" = none) : FnG P w K mg base 1 f fd ["value"] (spPure K RnumA) := by
  refine pure_ok (k := 0) Fn scNum (fun ds d ⟨x, e, _⟩ => by rw [e]; rfl) (fun F ds d hK ⟨x, e, ed⟩ => ?_)
  subst e ed
  refine wb_cons (ws_ret (we_and (we_isi "int" kit_int hK rfl mi rfl mn rfl (by decide) rfl (fun _ => rfl) ?_)))
  repeat walk_at "dx"
  show if isiD "int" x = true then _ else _
  rw [numD_eq]
  cases hx : isiD "int" x with
  | false => rw [if_neg (by decide)]; rfl
  | true =>
    rw [if_pos rfl]
    refine we_one (we_not (we_isi "bool" kit_bool hK rfl mi rfl mb rfl (by decide) rfl (fun _ => rfl) ?_))
    repeat walk_at "dx"
    rfl
end

abbrev nPr : List Str := ["value"]
theorem scPr : FnScope nPr ["value"] (defScope (topS 3)) := ⟨rfl, rfl, rfl, by decide +kernel, rfl, by decide +kernel, by decide +kernel⟩
def RprA : Rel := fun ds d => ∃ x : PyData, ds = [x] ∧ d = .bool (pairD x)
section
variable {P : Program} {w : World} {K : PySem.W.Frag} {mg : Str → Option Value} {base : Heap}
theorem ok_prA {f : Addr} {fd : FuncData} (Fn : Fun K "is_pair" "is_pair" (topS 3) f fd) (mi : mg "isinstance" = none) (mt : mg "tuple" = none) (ml : mg "len" = none) : FnG P w K mg base 1 f fd ["value"] (spPure K RprA) := by
  refine pure_ok (k := 0) Fn scPr (fun ds d ⟨x, e, _⟩ => by rw [e]; rfl) (fun F ds d hK ⟨x, e, ed⟩ => ?_)
  subst e ed
  refine wb_cons (ws_ret (we_and (we_isi "tuple" kit_tuple hK rfl mi rfl mt rfl (by decide) rfl (fun _ => rfl) ?_)))
  repeat walk_at "dx"
  show if isiD "tuple" x = true then _ else _
  rw [isTup_eq]
  cases hx : isTup x with
  | false =>
    rw [if_neg (by decide)]
    show PyData.bool false = PyData.bool (pairD x)
    cases x <;> first | rfl | cases hx
  | true =>
    obtain ⟨ds, rfl⟩ := tup_some hx
    rw [if_pos rfl]
    refine we_one (we_eqI ?_)
    repeat walk_at "dx"
    show PyData.bool _ = PyData.bool (decide (ds.length = 2))
    congr 1
    exact decide_eq_decide.mpr (by omega)
end

/-! ### values that are judged: a set is shown, or it is not -/
def isOne (xs : List Int) : PyData → Bool
  | .int v => decide (v ∈ xs)
  | _ => false
def selD (chs : List (List Int)) : PyData → Bool
  | .tuple ds => decide (ds.length = chs.length) && (List.zipWith isOne chs ds).all id
  | _ => false
def unI : PyData → List Int
  | .list xs => xs.filterMap fun | .int i => some i | _ => none
  | _ => []
def chD (c : List Int) : PyData := .list (c.map PyData.int)
theorem unI_ch (c : List Int) : unI (chD c) = c := by
  show (c.map PyData.int).filterMap _ = c
  induction c with
  | nil => rfl
  | cons x c ih =>
    rw [List.map_cons, List.filterMap_cons]
    show x :: _ = _
    rw [ih]
theorem zip_one : ∀ (chs : List (List Int)) (ds : List PyData), List.zipWith (fun c d => PyData.bool (isOne (unI c) d)) (chs.map chD) ds = (List.zipWith isOne chs ds).map PyData.bool
  | [], _ => rfl
  | _ :: _, [] => rfl
  | c :: chs, d :: ds => by
    rw [List.map_cons, List.zipWith_cons_cons, List.zipWith_cons_cons, List.map_cons, zip_one chs ds, unI_ch]
theorem isOne_int {xs : List Int} {x : PyData} (h : isOne xs x = true) : ∃ i : Int, x = .int i ∧ i ∈ xs := by
  cases x <;> first | exact ⟨_, rfl, of_decide_eq_true h⟩ | cases h
theorem isS_str {w : Str} {x : PyData} (h : isS w x = true) : x = .str w := by
  cases x with
  | str y => rw [show y = w from eq_of_beq h]
  | _ => cases h

abbrev nOof : List Str := ["numbers", "value"]
theorem scOof : FnScope nOof ["numbers", "value"] (defScope (topS 2)) := ⟨rfl, rfl, rfl, by decide +kernel, rfl, by decide +kernel, by decide +kernel⟩
def RoofA : Rel := fun ds d => ∃ (y : PyData) (xs : List Int) (x : PyData), ds = [y, x] ∧ seqD y = some (xs.map PyData.int) ∧ d = .bool (isOne xs x)
section
variable {P : Program} {w : World} {K : PySem.W.Frag} {mg : Str → Option Value} {base : Heap}
theorem ok_oofA {f : Addr} {fd : FuncData} (Fn : Fun K "is_one_of" "is_one_of" (topS 2) f fd) (gn : PFn P w K mg base 1 "is_number" RnumA) : FnG P w K mg base 2 f fd ["numbers", "value"] (spPure K RoofA) := by
  refine pure_ok (k := 1) Fn scOof (fun ds d ⟨y, xs, x, e, _⟩ => by rw [e]; rfl) (fun F ds d hK ⟨y, xs, x, e, hy, ed⟩ => ?_)
  subst e ed
  refine wb_cons (ws_ret (we_and ?_))
  repeat walk_at "dx"
  refine ⟨_, ⟨x, rfl, rfl⟩, _, rfl, ?_⟩
  cases hx : numD x with
  | false =>
    refine itN rfl ?_
    show PyData.bool false = PyData.bool (isOne xs x)
    cases x <;> first | rfl | cases hx
  | true =>
    obtain ⟨v, rfl⟩ := num_int hx
    refine itP rfl (we_one (we_inI hK rfl ?_))
    repeat walk_at "dx"
    exact ⟨v, xs, rfl, hy, rfl⟩
end

abbrev nSel : List Str := ["choices", "value", "choice", "item"]
theorem scSel : FnScope nSel ["choices", "value"] (defScope (topS 4)) := ⟨rfl, rfl, rfl, by decide +kernel, rfl, by decide +kernel, by decide +kernel⟩
def RselA : Rel := fun ds d => ∃ (chs : List (List Int)) (x : PyData), ds = [.list (chs.map chD), x] ∧ chs.length ≤ 1000 ∧ d = .bool (selD chs x)
section
variable {P : Program} {w : World} {K : PySem.W.Frag} {mg : Str → Option Value} {base : Heap}
theorem ok_selA {f : Addr} {fd : FuncData} (Fn : Fun K "is_selection" "is_selection" (topS 4) f fd) (mi : mg "isinstance" = none) (mt : mg "tuple" = none) (ml : mg "len" = none) (mz : mg "zip" = none) (ma : mg "all" = none) (gn : PFn P w K mg base 2 "is_one_of" RoofA) : FnG P w K mg base 3 f fd ["choices", "value"] (spPure K RselA) := by
  refine pure_ok (k := 2) Fn scSel (fun ds d ⟨chs, x, e, _⟩ => by rw [e]; rfl) (fun F ds d hK ⟨chs, x, e, hz, ed⟩ => ?_)
  subst e ed
  refine wb_cons (ws_if (wt_bool (ww_or (wt_not (wt_val (fun _ _ => rfl) (we_isi "tuple" kit_tuple hK rfl mi rfl mt rfl (by decide) rfl (fun _ => rfl) ?_))))))
  repeat walk_at "dx"
  show if (!isiD "tuple" x) = true then _ else _
  rw [isTup_eq]
  cases ht : isTup x with
  | false =>
    refine itP rfl (itP rfl ?_)
    repeat walk_at "dx"
    cases x <;> first | rfl | cases ht
  | true =>
  obtain ⟨ds, rfl⟩ := tup_some ht
  refine itN rfl (ww_or1 (wt_neI ?_))
  repeat walk_at "dx"
  by_cases hl : ds.length = chs.length
  rotate_left
  · refine itP (by rw [Bool.not_eq_true', decide_eq_false_iff_not, List.length_map]; omega) ?_
    repeat walk_at "dx"
    show PyData.bool false = PyData.bool (decide (ds.length = chs.length) && _)
    rw [decide_eq_false hl, Bool.false_and]
  refine itN (by rw [Bool.not_eq_false', decide_eq_true_eq, List.length_map]; omega) (wb_nil ?_)
  refine wb_cons (ws_ret (we_all hK rfl ma (fun _ => rfl) (we_compZ 2 3 (by decide) ⟨blkOk_by (by dsimp only [bodyCs, Cs.blk]; decide +kernel), by walk_at "tgt", by walk_at "tgt"⟩ hK rfl mz (fun _ => rfl) (fun _ => rfl) (fun _ => rfl) (fun _ _ => rfl) (fun c d => .bool (isOne (unI c) d)) ?_)))
  repeat walk_at "dx"
  refine ⟨_, _, rfl, rfl, by rw [List.length_map, hl], by rw [List.length_map]; omega, fun D j y z hy hz => ?_, _, congrArg PyData.list (zip_one chs ds), ?_⟩
  · have hKD : (F.ext D).K = K := hK
    rw [List.getElem?_map, Option.map_eq_some_iff] at hy
    obtain ⟨c, hc, rfl⟩ := hy
    repeat walk_at "dx"
    refine ⟨_, ⟨_, c, z, rfl, rfl, rfl⟩, rfl, ?_⟩
    rw [unI_ch]
  · show PyData.bool _ = PyData.bool (decide (ds.length = chs.length) && _)
    rw [decide_eq_true hl, Bool.true_and]
end

/-! values that are judged: a set is solid, or it is broken -/
def brkL (n : Nat) (cs : List Int) (s : Int) : List (List Int) := (outside n s).map fun b => (cubeCards b s).filter fun c => !decide (c ∈ cs)
def solD (n : Nat) (cs : List Int) (s : Int) : PyData → Bool
  | .tuple [w, p] => if isS "solid" w = true then isOne (basesL n cs s) p else isS "broken" w && selD (brkL n cs s) p
  | _ => false
theorem solD_no {n : Nat} {cs : List Int} {s : Int} {x : PyData} (h : pairD x = false) : solD n cs s x = false := by
  cases x with
  | tuple ds =>
    match ds, h with
    | [], _ => rfl
    | [_], _ => rfl
    | [_, _], h => exact nomatch h
    | _ :: _ :: _ :: _, _ => rfl
  | _ => rfl
theorem spl6B : ∀ n ≤ 6, ∀ s < 2 ^ n, ∀ x < 2 ^ n, (decide ((x &&& (2 ^ n - 1 - s)) + (x &&& s) = x) && (decide ((x &&& (2 ^ n - 1 - s)) &&& s = 0) && (decide ((x &&& s) &&& s = x &&& s) && ((!decide (x &&& s = 0) || decide (x &&& (2 ^ n - 1 - s) = x)) && (!decide (x &&& s = x) || decide (x &&& (2 ^ n - 1 - s) = 0)))))) = true := by decide +kernel
theorem spl6 (n : Nat) (hn : n ≤ 6) (s : Nat) (hs : s < 2 ^ n) (x : Nat) (hx : x < 2 ^ n) : (x &&& (2 ^ n - 1 - s)) + (x &&& s) = x ∧ (x &&& (2 ^ n - 1 - s)) &&& s = 0 ∧ (x &&& s) &&& s = x &&& s ∧ (x &&& s = 0 → x &&& (2 ^ n - 1 - s) = x) ∧ (x &&& s = x → x &&& (2 ^ n - 1 - s) = 0) := by
  have h := spl6B n hn s hs x hx
  rw [Bool.and_eq_true, Bool.and_eq_true, Bool.and_eq_true, Bool.and_eq_true, decide_eq_true_eq, decide_eq_true_eq, decide_eq_true_eq, Bool.or_eq_true, Bool.or_eq_true, Bool.not_eq_true', Bool.not_eq_true', decide_eq_false_iff_not, decide_eq_false_iff_not, decide_eq_true_eq, decide_eq_true_eq] at h
  obtain ⟨h1, h2, h3, h4, h5⟩ := h
  exact ⟨h1, h2, h3, fun h => h4.resolve_left fun z => z h, fun h => h5.resolve_left fun z => z h⟩
theorem add_or6 : ∀ b < 64, ∀ p < 64, b &&& p = 0 → b + p = b ||| p := by decide +kernel
theorem mem_pN18 {s p : Nat} : p ∈ partsN s ↔ p &&& s = p := by
  unfold partsN
  rw [List.mem_filter, List.mem_range]
  constructor
  · rintro ⟨_, h⟩; exact of_decide_eq_true h
  · intro h
    exact ⟨by have : p &&& s ≤ s := Nat.and_le_right; omega, decide_eq_true h⟩
theorem mem_partsI {s p : Nat} : (p : Int) ∈ parts (s : Int) ↔ p &&& s = p := by
  rw [parts_nat]
  constructor
  · intro h
    obtain ⟨q, hq, e⟩ := List.mem_map.mp h
    have : q = p := by omega
    subst this
    exact mem_pN18.mp hq
  · intro h
    exact List.mem_map.mpr ⟨p, mem_pN18.mpr h, rfl⟩
theorem cube_iff {n s : Nat} (hn : n ≤ 6) (hs : s < 2 ^ n) {b v : Nat} (hb : (b : Int) ∈ outside n (s : Int)) (hv : v < 2 ^ n) : (v : Int) ∈ cubeCards (b : Int) (s : Int) ↔ v &&& (2 ^ n - 1 - s) = b := by
  obtain ⟨hbm, hbs⟩ := List.mem_filter.mp hb
  have hb2 : b < 2 ^ n := by
    have h := (mem_rg.mp hbm).2
    rw [show (2 : Int) ^ n = ((2 ^ n : Nat) : Int) by norm_cast] at h
    omega
  have hbs : b &&& s = 0 := by
    have h := of_decide_eq_true hbs
    rw [band_nat] at h
    omega
  have h64 : 2 ^ n ≤ 64 := by
    have := Nat.pow_le_pow_right (n := 2) (by decide) hn
    exact this
  obtain ⟨v1, v2, v3, _, _⟩ := spl6 n hn s hs v hv
  obtain ⟨_, _, _, b4, _⟩ := spl6 n hn s hs b hb2
  unfold cubeCards
  constructor
  · intro h
    obtain ⟨p, hp, e⟩ := List.mem_map.mp h
    have hp0 : 0 ≤ p := (mem_rg.mp (List.mem_filter.mp hp).1).1
    obtain ⟨p, rfl⟩ := Int.eq_ofNat_of_zero_le hp0
    have hps := mem_partsI.mp hp
    have hp2 : p < 2 ^ n := by
      have : p &&& s ≤ s := Nat.and_le_right
      omega
    obtain ⟨_, _, _, _, p5⟩ := spl6 n hn s hs p hp2
    have hbp : b &&& p = 0 := by
      rw [← hps, Nat.and_comm p s, ← Nat.and_assoc, hbs, Nat.zero_and]
    have ev : v = b ||| p := by
      rw [← add_or6 b (by omega) p (by omega) hbp]
      omega
    rw [ev, Nat.and_or_distrib_right, b4 hbs, p5 hps, Nat.or_zero]
  · intro h
    refine List.mem_map.mpr ⟨((v &&& s : Nat) : Int), mem_partsI.mpr v3, ?_⟩
    show (b : Int) + ((v &&& s : Nat) : Int) = (v : Int)
    omega
/-- the items of a good proof -/
theorem sel_brk {n s : Nat} (hn : n ≤ 6) (hs : s < 2 ^ n) {cs vs : List Int} (hv : ∀ v ∈ vs, 0 ≤ v ∧ v < 2 ^ n ∧ v ∉ cs) :
    selD (brkL n cs (s : Int)) (.tuple (vs.map PyData.int)) = decide ((vs.map fun v => Builtin.bitAnd v ((2 : Int) ^ n - 1 - s)) = outside n (s : Int)) := by
  have key : ∀ (bs vs : List Int), (∀ b ∈ bs, b ∈ outside n (s : Int)) → (∀ v ∈ vs, 0 ≤ v ∧ v < 2 ^ n ∧ v ∉ cs) →
      (decide ((vs.map PyData.int).length = (bs.map fun b => (cubeCards b (s : Int)).filter fun c => !decide (c ∈ cs)).length) && (List.zipWith isOne (bs.map fun b => (cubeCards b (s : Int)).filter fun c => !decide (c ∈ cs)) (vs.map PyData.int)).all id) = decide ((vs.map fun v => Builtin.bitAnd v ((2 : Int) ^ n - 1 - s)) = bs) := by
    intro bs
    induction bs with
    | nil =>
      intro vs _ _
      cases vs with
      | nil => rfl
      | cons v vs => rfl
    | cons b bs ih =>
      intro vs hb hv
      cases vs with
      | nil => rfl
      | cons v vs =>
        have ih := ih vs (fun b hb' => hb b (List.mem_cons_of_mem _ hb')) (fun v hv' => hv v (List.mem_cons_of_mem _ hv'))
        have hbo := hb b List.mem_cons_self
        obtain ⟨v0, v1, v2⟩ := hv v List.mem_cons_self
        have hb0 := (mem_outside hbo).1
        obtain ⟨b, rfl⟩ := Int.eq_ofNat_of_zero_le hb0
        obtain ⟨v, rfl⟩ := Int.eq_ofNat_of_zero_le v0
        have hvn : v < 2 ^ n := by
          rw [show (2 : Int) ^ n = ((2 ^ n : Nat) : Int) by norm_cast] at v1
          omega
        have hc := cube_iff hn hs hbo hvn
        have e1 : isOne ((cubeCards (b : Int) (s : Int)).filter fun c => !decide (c ∈ cs)) (.int (v : Int)) = decide (Builtin.bitAnd (v : Int) ((2 : Int) ^ n - 1 - s) = (b : Int)) := by
          show decide ((v : Int) ∈ _) = _
          have e2 : (2 : Int) ^ n - 1 - s = ((2 ^ n - 1 - s : Nat) : Int) := by
            rw [show (2 : Int) ^ n = ((2 ^ n : Nat) : Int) by norm_cast]; omega
          rw [e2, band_nat]
          refine decide_eq_decide.mpr ?_
          rw [List.mem_filter, hc, decide_eq_false v2]
          simp only [Bool.not_false, and_true]
          omega
        simp only [List.map_cons, List.length_cons, List.zipWith_cons_cons, List.all_cons, id] at ih ⊢
        rw [e1]
        by_cases h1 : Builtin.bitAnd (v : Int) ((2 : Int) ^ n - 1 - s) = (b : Int)
        · rw [decide_eq_true h1, Bool.true_and]
          have e3 : decide ((vs.map PyData.int).length + 1 = (bs.map fun b => (cubeCards b (s : Int)).filter fun c => !decide (c ∈ cs)).length + 1) = decide ((vs.map PyData.int).length = (bs.map fun b => (cubeCards b (s : Int)).filter fun c => !decide (c ∈ cs)).length) := decide_eq_decide.mpr (by omega)
          rw [e3, ih]
          exact decide_eq_decide.mpr ⟨fun h => by rw [h1, h], fun h => (List.cons.inj h).2⟩
        · rw [decide_eq_false h1, Bool.false_and, Bool.and_false]
          exact (decide_eq_false fun h => h1 (List.cons.inj h).1).symm
  exact key (outside n (s : Int)) vs (fun _ h => h) hv
def badB (n : Nat) (cs : List Int) (x : PyData) : Bool := !belD ((2 : Int) ^ n) x || isOne cs x
theorem sel_badB {n s : Nat} (hn : n ≤ 6) (hs : s < 2 ^ n) {cs : List Int} {ds : List PyData} (h : ds.filter (badB n cs) ≠ []) : selD (brkL n cs (s : Int)) (.tuple ds) = false := by
  show (decide (ds.length = (brkL n cs (s : Int)).length) && (List.zipWith isOne (brkL n cs (s : Int)) ds).all id) = false
  by_cases hl : ds.length = (brkL n cs (s : Int)).length
  rotate_left
  · rw [decide_eq_false hl]; rfl
  rw [decide_eq_true hl, Bool.true_and]
  cases q : (List.zipWith isOne (brkL n cs (s : Int)) ds).all id with
  | false => rfl
  | true =>
    exfalso
    apply h
    refine List.filter_eq_nil_iff.mpr fun x hx => ?_
    obtain ⟨j, hj⟩ := List.getElem?_of_mem hx
    have hjl := (List.getElem?_eq_some_iff.mp hj).1
    have hj2 : j < (brkL n cs (s : Int)).length := by omega
    have hz : (List.zipWith isOne (brkL n cs (s : Int)) ds)[j]? = some (isOne (brkL n cs (s : Int))[j] x) := by
      rw [List.getElem?_zipWith, hj, List.getElem?_eq_getElem hj2]
    have h1 : isOne (brkL n cs (s : Int))[j] x = true := List.all_eq_true.mp q _ (List.mem_of_getElem? hz)
    obtain ⟨i, rfl, hi⟩ := isOne_int h1
    have hm : (brkL n cs (s : Int))[j] ∈ brkL n cs (s : Int) := List.getElem_mem hj2
    generalize (brkL n cs (s : Int))[j] = L at hi hm
    obtain ⟨b, hb, rfl⟩ := List.mem_map.mp hm
    obtain ⟨hi1, hi2⟩ := List.mem_filter.mp hi
    obtain ⟨hbm, hbs⟩ := List.mem_filter.mp hb
    have hb0 := mem_rg.mp hbm
    obtain ⟨p, hp, e⟩ := List.mem_map.mp hi1
    have hp0 := (mem_rg.mp (List.mem_filter.mp hp).1).1
    obtain ⟨p, rfl⟩ := Int.eq_ofNat_of_zero_le hp0
    obtain ⟨b, rfl⟩ := Int.eq_ofNat_of_zero_le hb0.1
    have hps := mem_partsI.mp hp
    have hp2 : p < 2 ^ n := by
      have : p &&& s ≤ s := Nat.and_le_right
      omega
    have h64 : 2 ^ n ≤ 64 := Nat.pow_le_pow_right (n := 2) (by decide) hn
    have c2 : (2 : Int) ^ n = ((2 ^ n : Nat) : Int) := by norm_cast
    have hb2 : b < 2 ^ n := by have := hb0.2; rw [c2] at this; omega
    have hbs : b &&& s = 0 := by
      have h := of_decide_eq_true hbs
      rw [band_nat] at h
      omega
    have hbp : b &&& p = 0 := by
      rw [← hps, Nat.and_comm p s, ← Nat.and_assoc, hbs, Nat.zero_and]
    have hlt : b + p < 2 ^ n := by
      rw [add_or6 b (by omega) p (by omega) hbp]
      exact Nat.or_lt_two_pow hb2 hp2
    have hbel : belD ((2 : Int) ^ n) (.int i) = true := by
      show (decide (0 ≤ i) && decide (i < (2 : Int) ^ n)) = true
      rw [c2, decide_eq_true (by omega), decide_eq_true (by omega)]; rfl
    have hno : isOne cs (.int i) = false := by
      show decide (i ∈ cs) = false
      simpa using hi2
    unfold badB
    rw [hbel, hno]
    simp
theorem good_ints {n : Nat} {cs : List Int} : ∀ {ds : List PyData}, ds.filter (badB n cs) = [] → ∃ vs : List Int, ds = vs.map PyData.int ∧ ∀ v ∈ vs, 0 ≤ v ∧ v < 2 ^ n ∧ v ∉ cs
  | [], _ => ⟨[], rfl, fun v h => by cases h⟩
  | d :: ds, h => by
    have hd : badB n cs d = false := by
      cases q : badB n cs d with
      | false => rfl
      | true => rw [List.filter_cons_of_pos q] at h; cases h
    rw [List.filter_cons_of_neg (by rw [hd]; decide)] at h
    obtain ⟨vs, rfl, hv⟩ := good_ints h
    unfold badB at hd
    rw [Bool.or_eq_false_iff] at hd
    obtain ⟨h1, h2⟩ := hd
    obtain ⟨i, rfl, i0, i1⟩ := bel_int (by simpa using h1)
    have h3 : i ∉ cs := of_decide_eq_false h2
    refine ⟨i :: vs, rfl, fun v hvm => ?_⟩
    rcases List.mem_cons.mp hvm with rfl | hvm
    · exact ⟨i0, i1, h3⟩
    · exact hv v hvm

abbrev nBrk : List Str := ["box", "switches", "value", "n", "cards", "cubes", "base", "cube", "card"]
theorem scBrk : FnScope nBrk ["box", "switches", "value"] (defScope (topS 13)) := ⟨rfl, rfl, rfl, by decide +kernel, rfl, by decide +kernel, by decide +kernel⟩
def RbrkA : Rel := fun ds d => ∃ (n : Nat) (cs : List Int) (s : Int) (x : PyData), ds = [boxD n cs, .int s, x] ∧ n ≤ 6 ∧ IsBox n cs ∧ (0 ≤ s ∧ s < 1000) ∧ d = .bool (selD (brkL n cs s) x)
section
variable {P : Program} {w : World} {K : PySem.W.Frag} {mg : Str → Option Value} {base : Heap}
theorem ok_brkA {f : Addr} {fd : FuncData} (Fn : Fun K "broken_holds" "broken_holds" (topS 13) f fd) (gc : PFn P w K mg base 2 "cube_cards" Rcube) (go : PFn P w K mg base 1 "sets_outside" Rout) (gl : PFn P w K mg base 3 "is_selection" RselA) : FnG P w K mg base 4 f fd ["box", "switches", "value"] (spPure K RbrkA) := by
  refine pure_ok (k := 3) Fn scBrk (fun ds d ⟨n, cs, s, x, e, _⟩ => by rw [e]; rfl) (fun F ds d hK ⟨n, cs, s, x, e, hn, hb, hs, ed⟩ => ?_)
  subst e ed
  have hol := outside_len hn s
  have hpl := parts_len hs.1 hs.2
  refine wb_cons (ws_asg2s 3 4 (by decide) (by walk_at "tgt") (by walk_at "tgt") hK (fun env h => by cases env; cases h; rfl) (fun env h => by cases env; cases h; rfl) ?_)
  repeat walk_at "dx"
  refine ⟨.int (n : Int), .tuple (cs.map PyData.int), rfl, ?_⟩
  refine wb_cons (ws_mL PyData.int (fun b => .tuple ((cubeCards b s).map PyData.int)) 6 5 (by walk_at "blk") (by walk_at "tgt") rfl rfl rfl (by decide +kernel) hK (fun _ _ => rfl) ?_)
  repeat walk_at "dx"
  refine ⟨_, ⟨n, s, rfl, hn, rfl⟩, outside n s, rfl, by omega, fun D b hb' => ?_, ?_⟩
  · have hKD : (F.ext D).K = K := hK
    repeat walk_at "dx"
    exact ⟨_, ⟨b, s, rfl, hs, rfl⟩, rfl, rfl⟩
  refine wb_cons (ws_ret (we_callP gl (by show 3 ≤ 3; decide) hK rfl (wa_cons (fun _ => rfl) (we_mL (fun b : Int => .tuple ((cubeCards b s).map PyData.int)) (fun b => chD ((cubeCards b s).filter fun c => !decide (c ∈ cs))) 7 (by walk_at "blk") hK (fun _ _ => rfl) ?_))))
  repeat walk_at "dx"
  refine ⟨outside n s, rfl, by omega, fun D b hb' => ?_, ?_⟩
  · have hKD : (F.ext D).K = K := hK
    refine we_fT (fun c => !decide (c ∈ cs)) PyData.int PyData.int 8 (by walk_at "blk") hKD (fun _ _ => rfl) ?_
    repeat walk_at "dx"
    refine ⟨cubeCards b s, rfl, by unfold cubeCards; rw [List.length_map]; omega, fun D2 c hc => ?_, rfl, rfl⟩
    have hKD2 : ((F.ext D).ext D2).K = K := hK
    refine wt_niI hKD2 rfl ?_
    repeat walk_at "dx"
    refine ⟨c, cs, rfl, rfl, rfl, rfl, fun _ => ?_⟩
    repeat walk_at "dx"
    exact ⟨rfl, rfl⟩
  repeat walk_at "dx"
  refine ⟨_, ⟨brkL n cs s, x, by unfold brkL; rw [List.map_map]; rfl, by unfold brkL; rw [List.length_map]; omega, rfl⟩, rfl⟩
end

abbrev nSoh : List Str := ["box", "switches", "value", "word", "proof"]
theorem scSoh : FnScope nSoh ["box", "switches", "value"] (defScope (topS 12)) := ⟨rfl, rfl, rfl, by decide +kernel, rfl, by decide +kernel, by decide +kernel⟩
def RsohA : Rel := fun ds d => ∃ (n : Nat) (cs : List Int) (s : Int) (x : PyData), ds = [boxD n cs, .int s, x] ∧ n ≤ 6 ∧ IsBox n cs ∧ (0 ≤ s ∧ s < 1000) ∧ d = .bool (solD n cs s x)
section
variable {P : Program} {w : World} {K : PySem.W.Frag} {mg : Str → Option Value} {base : Heap}
theorem ok_sohA {f : Addr} {fd : FuncData} (Fn : Fun K "solid_holds" "solid_holds" (topS 12) f fd) (gp : PFn P w K mg base 1 "is_pair" RprA) (g1 : PFn P w K mg base 2 "is_one_of" RoofA) (gb : PFn P w K mg base 4 "bases_of" Rbases) (gk : PFn P w K mg base 4 "broken_holds" RbrkA) : FnG P w K mg base 5 f fd ["box", "switches", "value"] (spPure K RsohA) := by
  refine pure_ok (k := 4) Fn scSoh (fun ds d ⟨n, cs, s, v, e, _⟩ => by rw [e]; rfl) (fun F ds d hK ⟨n, cs, s, x, e, hn, hb, hs, ed⟩ => ?_)
  subst e ed
  refine wb_cons (ws_if (wt_not (wt_val (fun _ _ => rfl) ?_)))
  repeat walk_at "dx"
  refine ⟨_, ⟨x, rfl, rfl⟩, _, rfl, ?_⟩
  cases hp : pairD x with
  | false =>
    refine itP rfl ?_
    repeat walk_at "dx"
    rw [solD_no hp]
  | true =>
  obtain ⟨wd, pf, rfl⟩ := pair_some hp
  refine itN rfl (wb_nil (wb_cons (ws_asg2 3 4 (by decide) (by walk_at "tgt") (by walk_at "tgt") hK (fun _ => rfl) (fun _ => rfl) ?_)))
  repeat walk_at "dx"
  refine ⟨_, _, rfl, ?_⟩
  have es : solD n cs s (.tuple [wd, pf]) = if isS "solid" wd = true then isOne (basesL n cs s) pf else isS "broken" wd && selD (brkL n cs s) pf := rfl
  rw [es]
  refine wb_cons (ws_if (wt_eqTx hK ?_))
  walk_at "name"
  refine we_str ⟨_, rfl, ?_⟩
  cases h1 : isS "solid" wd with
  | true =>
    refine itP rfl ?_
    refine wb_cons (ws_ret ?_)
    repeat walk_at "dx"
    refine ⟨_, ⟨n, cs, s, rfl, hn, hs, rfl⟩, ?_⟩
    repeat walk_at "dx"
    exact ⟨_, ⟨_, basesL n cs s, pf, rfl, rfl, rfl⟩, rfl⟩
  | false =>
    refine itN rfl (wb_nil ?_)
    refine wb_cons (ws_ret (we_and (we_eqTx hK ?_)))
    walk_at "name"
    refine we_str ⟨_, rfl, ?_⟩
    cases h2 : isS "broken" wd with
    | false => exact ⟨_, rfl, itN rfl rfl⟩
    | true =>
      refine ⟨_, rfl, itP rfl (we_one ?_)⟩
      repeat walk_at "dx"
      exact ⟨_, ⟨n, cs, s, pf, rfl, hn, hb, hs, rfl⟩, rfl⟩
end

abbrev nLii : List Str := ["_law_value", "_law_limit"]
theorem scLii : FnScope nLii ["_law_value", "_law_limit"] (defScope (topS 25)) := ⟨rfl, rfl, rfl, by decide +kernel, rfl, by decide +kernel, by decide +kernel⟩
def Rlii : Rel := fun ds d => ∃ (x : PyData) (b : Int), ds = [x, .int b] ∧ d = .bool (belD b x)
section
variable {P : Program} {w : World} {K : PySem.W.Frag} {mg : Str → Option Value} {base : Heap}
theorem ok_lii {f : Addr} {fd : FuncData} (Fn : Fun K "_law_is_int" "_law_is_int" (topS 25) f fd) (mi : mg "isinstance" = none) (mn : mg "int" = none) (mb : mg "bool" = none) : FnG P w K mg base 1 f fd ["_law_value", "_law_limit"] (spPure K Rlii) := by
  refine pure_ok (k := 0) Fn scLii (fun ds d ⟨x, b, e, _⟩ => by rw [e]; rfl) (fun F ds d hK ⟨x, b, e, ed⟩ => ?_)
  subst e ed
  refine wb_cons (ws_ret (we_and (we_isi "int" kit_int hK rfl mi rfl mn rfl (by decide) rfl (fun _ => rfl) ?_)))
  walk_at "name"
  cases h1 : isiD "int" x with
  | false =>
    refine ⟨_, rfl, itN rfl ?_⟩
    cases x <;> first | rfl | cases h1
  | true =>
  refine ⟨_, rfl, itP rfl (we_and (we_not (we_isi "bool" kit_bool hK rfl mi rfl mb rfl (by decide) rfl (fun _ => rfl) ?_)))⟩
  walk_at "name"
  cases h2 : isiD "bool" x with
  | true =>
    refine ⟨_, rfl, _, rfl, itN rfl ?_⟩
    cases x <;> first | rfl | (cases h2; done) | (cases h1; done)
  | false =>
  obtain ⟨i, rfl⟩ : ∃ i : Int, x = .int i := by cases x <;> first | exact ⟨_, rfl⟩ | (cases h2; done) | (cases h1; done)
  refine ⟨_, rfl, _, rfl, itP rfl (we_one (we_leLt (by rfl) (we_int ?_)))⟩
  walk_at "name"
  refine ⟨_, _, rfl, rfl, ?_⟩
  show if (0 : Int) ≤ i then _ else _
  by_cases h0 : (0 : Int) ≤ i
  · rw [if_pos h0]
    walk_at "name"
    refine ⟨_, rfl, ?_⟩
    show PyData.bool (decide (i < b)) = PyData.bool (decide (0 ≤ i) && decide (i < b))
    rw [decide_eq_true h0, Bool.true_and]
  · rw [if_neg h0]
    show PyData.bool false = PyData.bool (decide (0 ≤ i) && decide (i < b))
    rw [decide_eq_false h0, Bool.false_and]
end

abbrev nDue : List Str := ["_law_box_here", "_law_switches", "_law_value", "_law_n", "_law_cards", "_law_word", "_law_proof", "_law_others", "_law_one_here"]
theorem scDue : FnScope nDue ["_law_box_here", "_law_switches", "_law_value"] (defScope (topS 27)) := ⟨rfl, rfl, rfl, by decide +kernel, rfl, by decide +kernel, by decide +kernel⟩
def Rdue18 : Rel := fun ds d => ∃ (n : Nat) (cs : List Int) (s : Nat) (x : PyData), ds = [boxD n cs, .int (s : Int), x] ∧ n ≤ 6 ∧ IsBox n cs ∧ s < 2 ^ n ∧ (∀ w ps, x = .tuple [w, .tuple ps] → ps.length ≤ 1000000) ∧ d = .bool (solD n cs (s : Int) x)
section
variable {P : Program} {w : World} {K : PySem.W.Frag} {mg : Str → Option Value} {base : Heap}
theorem ok_due18 {f : Addr} {fd : FuncData} (Fn : Fun K "_law_due" "_law_due" (topS 27) f fd) (mi : mg "isinstance" = none) (mt : mg "tuple" = none) (ml : mg "len" = none) (ms : mg "str" = none) (gn : PFn P w K mg base 1 "_law_is_int" Rlii) (gw : PFn P w K mg base 1 "_law_power" Rpow) (gb : PFn P w K mg base 2 "_law_bases" RLB) (gp : PFn P w K mg base 1 "_law_parts" Rparts) : FnG P w K mg base 3 f fd ["_law_box_here", "_law_switches", "_law_value"] (spPure K Rdue18) := by
  refine pure_ok (k := 2) Fn scDue (fun ds d ⟨n, cs, s, x, e, _⟩ => by rw [e]; rfl) (fun F ds d hK ⟨n, cs, s, x, e, hn, hb, hs, hx, ed⟩ => ?_)
  subst e ed
  have c2 : (2 : Int) ^ n = ((2 ^ n : Nat) : Int) := by norm_cast
  have hp := pow_le64 hn
  refine wb_cons (ws_if (wt_bool (ww_or (wt_not (wt_val (fun _ _ => rfl) (we_isi "tuple" kit_tuple hK rfl mi rfl mt rfl (by decide) rfl (fun _ => rfl) ?_))))))
  repeat walk_at "dx"
  show if (!isiD "tuple" x) = true then _ else _
  rw [isTup_eq]
  cases ht : isTup x with
  | false =>
    refine itP rfl (itP rfl ?_)
    repeat walk_at "dx"
    rw [solD_no (by cases x <;> first | rfl | cases ht)]
  | true =>
  obtain ⟨ds, rfl⟩ := tup_some ht
  refine itN rfl (ww_or (wt_neI ?_))
  repeat walk_at "dx"
  by_cases h2 : ds.length = 2
  rotate_left
  · refine itP (by rw [Bool.not_eq_true', decide_eq_false_iff_not]; omega) (itP rfl ?_)
    repeat walk_at "dx"
    exact congrArg PyData.bool (solD_no (x := .tuple ds) (show decide (ds.length = 2) = false from decide_eq_false h2)).symm
  refine itN (by rw [Bool.not_eq_false', decide_eq_true_eq]; omega) ?_
  obtain ⟨wd, pf, e⟩ := pair_some (x := .tuple ds) (decide_eq_true h2)
  cases e
  have es : solD n cs (s : Int) (.tuple [wd, pf]) = if isS "solid" wd = true then isOne (basesL n cs (s : Int)) pf else isS "broken" wd && selD (brkL n cs (s : Int)) pf := rfl
  rw [es]
  refine ww_or1 (wt_not (wt_val (fun _ _ => rfl) (we_isi "str" kit_str hK rfl mi rfl ms rfl (by decide) rfl (fun _ => rfl) ?_)))
  repeat walk_at "dx"
  refine ⟨wd, rfl, _, rfl, ?_⟩
  cases hw : isiD "str" wd with
  | false =>
    refine itP rfl ?_
    repeat walk_at "dx"
    have n1 : ∀ z : Str, isS z wd = false := fun z => by cases wd <;> first | rfl | cases hw
    rw [n1, n1]; rfl
  | true =>
  obtain ⟨wd, rfl⟩ : ∃ z : Str, wd = .str z := by cases wd <;> first | exact ⟨_, rfl⟩ | cases hw
  refine itN rfl (wb_nil (wb_cons (ws_asg2s 3 4 (by decide) (by walk_at "tgt") (by walk_at "tgt") hK (fun env h => by cases env; cases h; rfl) (fun env h => by cases env; cases h; rfl) ?_)))
  repeat walk_at "dx"
  refine ⟨.int (n : Int), .tuple (cs.map PyData.int), rfl, ?_⟩
  refine wb_cons (ws_asg2 5 6 (by decide) (by walk_at "tgt") (by walk_at "tgt") hK (fun _ => rfl) (fun _ => rfl) ?_)
  repeat walk_at "dx"
  refine ⟨_, _, rfl, ?_⟩
  refine wb_cons (ws_if (wt_eqT ?_))
  repeat walk_at "dx"
  have e1 : isS "solid" (.str wd) = (wd == "solid") := rfl
  have e2 : isS "broken" (.str wd) = (wd == "broken") := rfl
  rw [e1, e2]
  refine iteD (fun h1 => ?_) (fun h1 => ?_)
  · subst h1
    rw [beq_self_eq_true]
    simp only [if_true]
    refine wb_cons (ws_ret (we_and ?_))
    repeat walk_at "dx"
    refine ⟨_, ⟨n, rfl, by omega, rfl⟩, ?_⟩
    repeat walk_at "dx"
    refine ⟨_, ⟨pf, _, rfl, rfl⟩, _, rfl, ?_⟩
    cases hbel : belD ((2 : Int) ^ n) pf with
    | false =>
      refine itN rfl ?_
      cases hone : isOne (basesL n cs (s : Int)) pf with
      | false => rfl
      | true =>
        obtain ⟨i, rfl, hi⟩ := isOne_int hone
        have := mem_outside (List.mem_filter.mp hi).1
        have : belD ((2 : Int) ^ n) (.int i) = true := by
          show (decide (0 ≤ i) && decide (i < (2 : Int) ^ n)) = true
          rw [decide_eq_true this.1, decide_eq_true this.2]; rfl
        rw [this] at hbel; cases hbel
    | true =>
      obtain ⟨i, rfl, i0, i1⟩ := bel_int hbel
      refine itP rfl (we_one (we_inI hK rfl ?_))
      repeat walk_at "dx"
      refine ⟨_, ⟨n, cs, s, rfl, hn, hs, rfl⟩, i, basesL n cs (s : Int), rfl, rfl, ?_⟩
      rfl
  · rw [show (wd == ("solid" : Str)) = false from beq_eq_false_iff_ne.mpr h1]
    simp only [Bool.false_eq_true, if_false]
    refine wb_nil (wb_cons (ws_if (wt_bool (ww_or (wt_neT ?_)))))
    repeat walk_at "dx"
    by_cases h3 : wd = "broken"
    rotate_left
    · refine itP (by rw [decide_eq_false h3]; rfl) (itP rfl ?_)
      repeat walk_at "dx"
      rw [show (wd == ("broken" : Str)) = false from beq_eq_false_iff_ne.mpr h3]; rfl
    subst h3
    rw [beq_self_eq_true, Bool.true_and]
    refine itN rfl (ww_or1 (wt_not (wt_val (fun _ _ => rfl) (we_isi "tuple" kit_tuple hK rfl mi rfl mt rfl (by decide) rfl (fun _ => rfl) ?_))))
    repeat walk_at "dx"
    show if (!isiD "tuple" pf) = true then _ else _
    rw [isTup_eq]
    cases hpt : isTup pf with
    | false =>
      refine itP rfl ?_
      repeat walk_at "dx"
      cases pf <;> first | rfl | cases hpt
    | true =>
    obtain ⟨ps, rfl⟩ := tup_some hpt
    refine itN rfl (wb_nil (wb_cons (ws_if (wt_neNilA hK (we_fT (fun x : PyData => badB n cs x) (fun x => x) (fun x => x) 8 (by walk_at "blk") hK (fun _ _ => rfl) ?_)))))
    walk_at "name"
    refine ⟨ps, by rw [List.map_id'], hx _ _ rfl, fun D y hy => ?_, ?_⟩
    · have hKD : (F.ext D).K = K := hK
      refine wt_bool (ww_or (wt_not ?_))
      refine wt_val (fun _ _ => rfl) ?_
      repeat walk_at "dx"
      refine ⟨_, ⟨n, rfl, by omega, rfl⟩, ?_⟩
      repeat walk_at "dx"
      refine ⟨_, ⟨y, _, rfl, rfl⟩, _, rfl, ?_⟩
      cases hbel : belD ((2 : Int) ^ n) y with
      | false =>
        refine itP rfl ⟨rfl, by unfold badB; rw [hbel]; rfl, fun _ => ?_⟩
        walk_at "name"
        exact ⟨rfl, rfl⟩
      | true =>
        obtain ⟨i, rfl, i0, i1⟩ := bel_int hbel
        refine itN rfl (ww_or1 (wt_inI hKD rfl ?_))
        repeat walk_at "dx"
        refine ⟨i, cs, rfl, rfl, rfl, by unfold badB; rw [hbel]; rfl, fun _ => ?_⟩
        walk_at "name"
        exact ⟨rfl, rfl⟩
    rw [List.map_id']
    refine ⟨_, rfl, ?_⟩
    by_cases hbad : ps.filter (badB n cs) = []
    rotate_left
    · refine itP (by cases q : ps.filter (badB n cs) with | nil => exact absurd q hbad | cons a l => rfl) ?_
      repeat walk_at "dx"
      rw [sel_badB hn hs hbad]
    obtain ⟨vs, rfl, hvs⟩ := good_ints hbad
    refine itN (by rw [hbad]; rfl) (wb_nil ?_)
    have hvl : vs.length ≤ 1000000 := by have := hx _ _ rfl; rwa [List.length_map] at this
    refine wb_cons (ws_set 7 (by walk_at "tgt") (fun env h => by cases env; cases h; rfl) ?_)
    repeat walk_at "dx"
    refine ⟨_, ⟨n, rfl, by omega, rfl⟩, ?_⟩
    repeat walk_at "dx"
    refine we_eq hK (we_mT PyData.int (fun v => .int (Builtin.bitAnd v ((2 : Int) ^ n - 1 - s))) 8 (by walk_at "blk") hK (fun _ _ => rfl) ?_)
    walk_at "name"
    refine ⟨vs, rfl, hvl, fun D v hv => ?_, ?_⟩
    · have hKD : (F.ext D).K = K := hK
      repeat walk_at "dx"
      exact ⟨rfl, rfl⟩
    repeat walk_at "dx"
    have e3 : (2 : Int) ^ n - 1 - s = ((2 ^ n - 1 - s : Nat) : Int) := by rw [c2]; omega
    refine ⟨_, ⟨_, rfl, ⟨by omega, by omega⟩, rfl⟩, ?_⟩
    rw [← outside_eq hn hs]
    have e4 : (vs.map fun v => PyData.int (Builtin.bitAnd v ((2 : Int) ^ n - 1 - s))) = (vs.map fun v => Builtin.bitAnd v ((2 : Int) ^ n - 1 - s)).map PyData.int := by rw [List.map_map]; rfl
    rw [e4]
    refine ⟨shaped_intsL _, shaped_intsL _, ?_⟩
    show PyData.bool _ = PyData.bool _
    rw [sel_brk hn hs hvs, eqv_intsL]
end

/-! data that is bent: its size, its levels -/
mutual
def msz : PyData → Nat
  | .none => 4
  | .bool _ => 5
  | .int i => (PyData.int i).shown.length
  | .str x => (PyData.str x).shown.length
  | .list xs => (PyData.list xs).shown.length
  | .tuple ds => mszA ds + 3
  | .dict es => (PyData.dict es).shown.length
def mszA : List PyData → Nat
  | [] => 0
  | d :: ds => msz d + 2 + mszA ds
end
mutual
theorem shown_msz : ∀ x : PyData, x.shown.length ≤ msz x
  | .none => by decide
  | .bool b => by cases b <;> decide
  | .int i => by simp only [msz]; exact Nat.le_refl _
  | .str x => by simp only [msz]; exact Nat.le_refl _
  | .list xs => by simp only [msz]; exact Nat.le_refl _
  | .dict xs => by simp only [msz]; exact Nat.le_refl _
  | .tuple ds => by
    simp only [msz, PyData.shown]
    refine Nat.le_trans (tupleText_len_le _) ?_
    have := shown_mszA ds
    omega
theorem shown_mszA : ∀ ds : List PyData, ((PyData.shownAll ds).map (·.length)).sum + 2 * (PyData.shownAll ds).length ≤ mszA ds
  | [] => by simp [PyData.shownAll, mszA]
  | d :: ds => by
    have h1 := shown_msz d
    have h2 := shown_mszA ds
    simp only [PyData.shownAll, List.map_cons, List.sum_cons, List.length_cons, mszA]
    omega
end
theorem mszA_app : ∀ xs ys : List PyData, mszA (xs ++ ys) = mszA xs + mszA ys
  | [], ys => by rw [List.nil_append, mszA]; omega
  | x :: xs, ys => by rw [List.cons_append, mszA, mszA, mszA_app xs ys]; omega
theorem mszA_take (xs : List PyData) (m : Nat) : mszA (xs.take m) ≤ mszA xs := by
  have := mszA_app (xs.take m) (xs.drop m)
  rw [List.take_append_drop] at this
  omega
theorem mszA_drop (xs : List PyData) (m : Nat) : mszA (xs.drop m) ≤ mszA xs := by
  have := mszA_app (xs.take m) (xs.drop m)
  rw [List.take_append_drop] at this
  omega
theorem mszA_rev : ∀ xs : List PyData, mszA xs.reverse = mszA xs
  | [] => rfl
  | x :: xs => by
    rw [List.reverse_cons, mszA_app, mszA_rev xs]
    simp only [mszA]; omega
/-- data that can be shown, of a depth, of a size -/
structure GD (k m : Nat) (x : PyData) : Prop where
  sh : x.showable = true
  dp : x.depth ≤ k
  sz : msz x ≤ m
structure GL (k m : Nat) (ds : List PyData) : Prop where
  all : ∀ d ∈ ds, d.showable = true ∧ d.depth ≤ k
  sz : mszA ds ≤ m
theorem GD.a {k m : Nat} {x : PyData} (h : GD k m x) : FineA m k x := ⟨h.sh, h.dp, Nat.le_trans (shown_msz x) h.sz⟩
theorem GD.mono {k m k' m' : Nat} {x : PyData} (h : GD k m x) (hk : k ≤ k') (hm : m ≤ m') : GD k' m' x := ⟨h.sh, Nat.le_trans h.dp hk, Nat.le_trans h.sz hm⟩
theorem GL.mono {k m k' m' : Nat} {x : List PyData} (h : GL k m x) (hk : k ≤ k') (hm : m ≤ m') : GL k' m' x := ⟨fun d hd => ⟨(h.all d hd).1, Nat.le_trans (h.all d hd).2 hk⟩, Nat.le_trans h.sz hm⟩
theorem gl_sh : ∀ {ds : List PyData} {k : Nat}, (∀ d ∈ ds, d.showable = true ∧ d.depth ≤ k) → PyData.showableAll ds = true ∧ PyData.depthAll ds ≤ k
  | [], _, _ => by simp [PyData.showableAll, PyData.depthAll]
  | d :: ds, k, h => by
    obtain ⟨h1, h2⟩ := gl_sh (ds := ds) fun d hd => h d (List.mem_cons_of_mem _ hd)
    obtain ⟨h3, h4⟩ := h d List.mem_cons_self
    refine ⟨by simp only [PyData.showableAll, h3, h1, Bool.and_self], by simp only [PyData.depthAll]; omega⟩
theorem sh_gl : ∀ {ds : List PyData} {k : Nat}, PyData.showableAll ds = true → PyData.depthAll ds ≤ k → ∀ d ∈ ds, d.showable = true ∧ d.depth ≤ k
  | [], _, _, _, d, hd => by cases hd
  | x :: ds, k, h1, h2, d, hd => by
    simp only [PyData.showableAll, Bool.and_eq_true] at h1
    simp only [PyData.depthAll] at h2
    rcases List.mem_cons.mp hd with rfl | hd
    · exact ⟨h1.1, by omega⟩
    · exact sh_gl (ds := ds) h1.2 (by omega) d hd
theorem GL.tup {k m : Nat} {ds : List PyData} (h : GL k m ds) : GD (k + 1) (m + 3) (.tuple ds) := by
  obtain ⟨h1, h2⟩ := gl_sh h.all
  refine ⟨by simp only [PyData.showable, h1], by simp only [PyData.depth]; omega, ?_⟩
  have := h.sz
  simp only [msz]; omega
theorem GL.lst {k m : Nat} {ds : List PyData} (h : GL k m ds) : GD (k + 1) (m + 3) (.list ds) := by
  obtain ⟨h1, h2⟩ := gl_sh h.all
  refine ⟨by simp only [PyData.showable, h1], by simp only [PyData.depth]; omega, ?_⟩
  have h3 := h.sz
  have h4 := shown_mszA ds
  simp only [msz, PyData.shown]
  refine Nat.le_trans (listText_len_le _) ?_
  omega
theorem GD.items {k m : Nat} {ds : List PyData} (h : GD k m (.tuple ds)) : ∃ k' m', k = k' + 1 ∧ m = m' + 3 ∧ GL k' m' ds := by
  have h1 := h.sh
  have h2 := h.dp
  have h3 := h.sz
  simp only [PyData.showable] at h1
  simp only [PyData.depth] at h2
  simp only [msz] at h3
  exact ⟨k - 1, m - 3, by omega, by omega, sh_gl h1 (by omega), by omega⟩
theorem GL.app {k m m' : Nat} {xs ys : List PyData} (h : GL k m xs) (h' : GL k m' ys) : GL k (m + m') (xs ++ ys) :=
  ⟨fun d hd => (List.mem_append.mp hd).elim (h.all d) (h'.all d), by rw [mszA_app]; have := h.sz; have := h'.sz; omega⟩
theorem GL.one {k m : Nat} {x : PyData} (h : GD k m x) : GL k (m + 2) [x] := ⟨fun d hd => by rw [List.mem_singleton.mp hd]; exact ⟨h.sh, h.dp⟩, by simp only [mszA]; have := h.sz; omega⟩
theorem GL.nil {k : Nat} : GL k 0 [] := ⟨fun d hd => (List.not_mem_nil hd).elim, Nat.le_refl _⟩
theorem GL.take {k m : Nat} {xs : List PyData} (h : GL k m xs) (j : Nat) : GL k m (xs.take j) := ⟨fun d hd => h.all d (List.mem_of_mem_take hd), Nat.le_trans (mszA_take xs j) h.sz⟩
theorem GL.drop {k m : Nat} {xs : List PyData} (h : GL k m xs) (j : Nat) : GL k m (xs.drop j) := ⟨fun d hd => h.all d (List.mem_of_mem_drop hd), Nat.le_trans (mszA_drop xs j) h.sz⟩
theorem GL.rev {k m : Nat} {xs : List PyData} (h : GL k m xs) : GL k m xs.reverse := ⟨fun d hd => h.all d (List.mem_reverse.mp hd), by rw [mszA_rev]; exact h.sz⟩
theorem GL.cons {k m m' : Nat} {x : PyData} {xs : List PyData} (h : GD k m x) (h' : GL k m' xs) : GL k (m + 2 + m') (x :: xs) := (GL.one h).app h'
theorem mszA_set {ds : List PyData} {i : Nat} {z y : PyData} (h : ds[i]? = some z) : mszA (ds.take i ++ [y] ++ ds.drop (i + 1)) + msz z = mszA ds + msz y := by
  have hi := (List.getElem?_eq_some_iff.mp h).1
  have e : ds = ds.take i ++ [z] ++ ds.drop (i + 1) := by
    rw [List.append_assoc, List.singleton_append]
    have : z :: ds.drop (i + 1) = ds.drop i := by
      rw [List.drop_eq_getElem_cons hi, (List.getElem?_eq_some_iff.mp h).2]
    rw [this, List.take_append_drop]
  have h1 := congrArg mszA e
  rw [mszA_app, mszA_app] at h1
  rw [mszA_app, mszA_app]
  simp only [mszA] at h1 ⊢
  omega
/-- ints within a bound that grows -/
def IB (t : Nat) (i : Int) : Prop := -((2 ^ (97 + t) : Nat) : Int) ≤ i ∧ i < ((2 ^ (97 + t) : Nat) : Int)
theorem ib_two (t : Nat) : 2 ^ (97 + (t + 1)) = 2 * 2 ^ (97 + t) := by rw [← Nat.add_assoc, Nat.pow_succ, Nat.mul_comm]
theorem ib_big (t : Nat) : 10 ^ 29 + 4 ≤ 2 ^ (97 + t) := Nat.le_trans (by decide) (Nat.pow_le_pow_right (by decide) (Nat.le_add_right 97 t))
theorem IB.mono {t : Nat} {i : Int} (h : IB t i) : IB (t + 1) i := by
  have h2 := ib_two t
  obtain ⟨h0, h1⟩ := h
  unfold IB
  rw [h2]
  generalize 2 ^ (97 + t) = M at h0 h1
  exact ⟨by omega, by omega⟩
theorem IB.add {t : Nat} {i : Int} (h : IB t i) {z : Int} (hz : -4 ≤ z ∧ z ≤ 4) : IB (t + 1) (i + z) := by
  have h2 := ib_two t
  have h3 := ib_big t
  obtain ⟨h0, h1⟩ := h
  unfold IB
  rw [h2]
  generalize 2 ^ (97 + t) = M at h0 h1 h3
  exact ⟨by omega, by omega⟩
theorem IB.small {t : Nat} {i : Int} (h : -4 ≤ i ∧ i ≤ 10 ^ 29) : IB t i := by
  have h3 := ib_big t
  unfold IB
  generalize 2 ^ (97 + t) = M at h3
  have : ((10 ^ 29 : Nat) : Int) = (10 : Int) ^ 29 := by norm_cast
  exact ⟨by omega, by omega⟩
theorem IB.fine {t : Nat} {i : Int} (h : IB t i) (ht : t ≤ 2) : i.natAbs < 10 ^ 30 := by
  have h3 : 2 ^ (97 + t) ≤ 2 ^ 99 := Nat.pow_le_pow_right (by decide) (by omega)
  have h4 : (2 : Nat) ^ 99 < 10 ^ 30 := by decide
  obtain ⟨h0, h1⟩ := h
  generalize 2 ^ (97 + t) = M at h0 h1 h3
  omega
theorem xor_IB {t : Nat} {i : Int} (h : IB t i) {b : Nat} (hb : b ≤ 2) : IB (t + 1) (Builtin.bitXor i (b : Int)) := by
  have h2 := ib_two t
  have h3 := ib_big t
  obtain ⟨h0, h1⟩ := h
  by_cases hi : 0 ≤ i
  · obtain ⟨m, rfl⟩ := Int.eq_ofNat_of_zero_le hi
    have e : Builtin.bitXor (m : Int) (b : Int) = ((m ||| b : Nat) : Int) - ((m &&& b : Nat) : Int) := by
      unfold Builtin.bitXor
      rw [bitOr_nn (by omega) (by omega), band_nat, Int.toNat_natCast, Int.toNat_natCast]
    have h5 : m ||| b < 2 ^ (97 + t) := Nat.or_lt_two_pow (by omega) (by omega)
    have h6 : m &&& b ≤ b := Nat.and_le_right
    unfold IB
    rw [e, h2]
    generalize 2 ^ (97 + t) = M at h0 h1 h3 h5
    exact ⟨by omega, by omega⟩
  · have h6 : (Builtin.bitNot i).toNat &&& b ≤ b := Nat.and_le_right
    have e : Builtin.bitXor i (b : Int) = i - b + 2 * (((Builtin.bitNot i).toNat &&& b : Nat) : Int) := by
      have hn : 0 ≤ Builtin.bitNot i := by unfold Builtin.bitNot; omega
      have hbn : ¬ 0 ≤ Builtin.bitNot (b : Int) := by unfold Builtin.bitNot; omega
      have e1 : Builtin.bitAnd i (b : Int) = (b : Int) - ((b &&& (Builtin.bitNot i).toNat : Nat) : Int) := by
        unfold Builtin.bitAnd
        rw [decide_eq_false hi, decide_eq_true (show (0 : Int) ≤ (b : Int) by omega)]
        rfl
      have e2 : Builtin.bitAnd (Builtin.bitNot i) (Builtin.bitNot (b : Int)) = Builtin.bitNot i - (((Builtin.bitNot i).toNat &&& b : Nat) : Int) := by
        unfold Builtin.bitAnd
        rw [decide_eq_true hn, decide_eq_false hbn]
        have : Builtin.bitNot (Builtin.bitNot (b : Int)) = (b : Int) := by unfold Builtin.bitNot; omega
        show _ - (((Builtin.bitNot i).toNat &&& (Builtin.bitNot (Builtin.bitNot (b : Int))).toNat : Nat) : Int) = _
        rw [this, Int.toNat_natCast]
      unfold Builtin.bitXor Builtin.bitOr
      rw [e1, e2, Nat.and_comm b]
      generalize ((Builtin.bitNot i).toNat &&& b : Nat) = q
      unfold Builtin.bitNot
      omega
    rw [e]
    generalize ((Builtin.bitNot i).toNat &&& b : Nat) = q at h6
    unfold IB
    rw [h2]
    generalize 2 ^ (97 + t) = M at h0 h1 h3
    exact ⟨by omega, by omega⟩
def TL (t : Nat) : Nat → PyData → Prop
  | 0, x => (∀ ds, x ≠ .tuple ds) ∧ ∀ i, x = .int i → IB t i
  | L + 1, x => (∀ ds, x = .tuple ds → ds.length ≤ 66 + t ∧ ∀ y ∈ ds, TL t L y) ∧ ∀ i, x = .int i → IB t i
theorem TL.int {t L : Nat} {i : Int} (h : TL t L (.int i)) : IB t i := by
  cases L with
  | zero => exact h.2 i rfl
  | succ L => exact h.2 i rfl
theorem TL.up {t : Nat} : ∀ {L : Nat} {x : PyData}, TL t L x → TL (t + 1) L x
  | 0, x, h => ⟨h.1, fun i e => (h.2 i e).mono⟩
  | L + 1, x, h => ⟨fun ds e => ⟨by have := (h.1 ds e).1; omega, fun y hy => ((h.1 ds e).2 y hy).up⟩, fun i e => (h.2 i e).mono⟩
theorem TL.deep {t : Nat} : ∀ {L : Nat} {x : PyData}, TL t L x → TL t (L + 1) x
  | 0, x, h => ⟨fun ds e => absurd e (h.1 ds), h.2⟩
  | L + 1, x, h => ⟨fun ds e => ⟨(h.1 ds e).1, fun y hy => ((h.1 ds e).2 y hy).deep⟩, h.2⟩
theorem tl_leaf {t L : Nat} {x : PyData} (h1 : ∀ ds, x ≠ .tuple ds) (h2 : ∀ i, x = .int i → IB t i) : TL t L x := by
  cases L with
  | zero => exact ⟨h1, h2⟩
  | succ L => exact ⟨fun ds e => absurd e (h1 ds), h2⟩
theorem tl_int {t L : Nat} {i : Int} (h : IB t i) : TL t L (.int i) := tl_leaf (fun _ z => nomatch z) fun j e => by cases e; exact h
theorem tl_tup {t L : Nat} {ds : List PyData} (h1 : ds.length ≤ 66 + t) (h2 : ∀ y ∈ ds, TL t L y) : TL t (L + 1) (.tuple ds) := ⟨fun es e => by cases e; exact ⟨h1, h2⟩, fun i e => nomatch e⟩
/-- what a bent value is -/
structure Bn (L : Nat) (x d : PyData) : Prop where
  tl : ∀ t ≤ 1, TL t L x → TL (t + 1) (L + 1) d
  gd : ∀ k m, GD k m x → GD (k + 1) (2 * m + 60) d

abbrev nOne : List Str := ["_law_state", "_law_items"]
theorem scOne : FnScope nOne ["_law_state", "_law_items"] (defScope (topS 18)) := ⟨rfl, rfl, rfl, by decide +kernel, rfl, by decide +kernel, by decide +kernel⟩
def POne : List PyData → Prop := fun ds => ∃ xs : List PyData, ds = [.list xs] ∧ 0 < xs.length ∧ xs.length ≤ 1000
def ROne : Rel := fun ds d => ∃ xs : List PyData, ds = [.list xs] ∧ d ∈ xs
section
variable {P : Program} {w : World} {K : PySem.W.Frag} {mg : Str → Option Value} {base : Heap}
theorem ok_one {f : Addr} {fd : FuncData} (Fn : Fun K "_law_one" "_law_one" (topS 18) f fd) (ml : mg "len" = none) (gn : DFn P w K mg base 1 "_law_next" 1 PreNext RNext) : FnG P w K mg base 2 f fd ["_law_state", "_law_items"] (spDraw K 1 POne ROne) := by
  refine draw_ok (k := 1) Fn scOne (fun ds ⟨xs, e, _⟩ => by rw [e]; rfl) (fun F s a r ds kk dk hK ⟨xs, e, h0, h1⟩ => ?_)
  subst e
  refine wb_cons (ws_ret ?_)
  repeat walk_at "dl"
  refine ⟨_, rfl, ?_⟩
  repeat walk_at "dl"
  refine ⟨⟨_, rfl, by omega, by omega⟩, kk, rfl, ?_⟩
  rintro d ⟨m, i, e1, rfl, i0, i1⟩
  cases e1
  have hi : i.toNat < xs.length := by omega
  refine ⟨xs[i.toNat], ?_, Nat.le_refl _, xs, rfl, List.getElem_mem hi⟩
  have := atI_nat (xs := xs) (j := i.toNat) (v := xs[i.toNat]) (List.getElem?_eq_getElem hi)
  rw [show ((i.toNat : Nat) : Int) = i by omega] at this
  exact this
end


local macro_rules | `(tactic| walk_at "ds") => `(tactic| first
  | ((with_reducible refine wa_cons ?s1 ?_); (case s1 => exact fun _ => rfl))
  | with_reducible refine we_int ?_
  | with_reducible refine we_str ?_
  | with_reducible refine we_bl ?_
  | with_reducible refine we_non ?_
  | with_reducible refine we_tup ?_
  | with_reducible refine we_lst ?_
  | with_reducible refine wa_nil ?_
  | with_reducible refine tl0 ?_
  | with_reducible refine tl1 ?_
  | with_reducible refine ii2 ?_
  | with_reducible refine ii1 ?_)
abbrev nBnt : List Str := ["_law_state", "_law_value", "_law_index", "_law_some"]
theorem scBnt : FnScope nBnt ["_law_state", "_law_value"] (defScope (topS 26)) := ⟨rfl, rfl, rfl, by decide +kernel, rfl, by decide +kernel, by decide +kernel⟩
def PreBn (L : Nat) : List PyData → Prop := fun ds => ∃ x, ds = [x] ∧ ∃ t ≤ 1, TL t L x
def RBn (L : Nat) : Rel := fun ds d => ∃ x, ds = [x] ∧ Bn L x d
theorem bn_int {L : Nat} {x : PyData} {i : Int} (h : -4 ≤ i ∧ i ≤ 10 ^ 29) : Bn L x (.int i) :=
  ⟨fun t _ _ => tl_int (IB.small h), fun k m g => ⟨(fine_int (i := i) (by omega)).sh, by simp only [PyData.depth]; omega, by
    have := (fine_int (i := i) (by omega)).sz
    simp only [msz]; omega⟩⟩
theorem bn_str {L : Nat} {x : PyData} {w : Str} (h : (PyData.str w).shown.length ≤ 60 := by decide +kernel) : Bn L x (.str w) :=
  ⟨fun t _ _ => tl_leaf (fun _ z => nomatch z) (fun _ z => nomatch z), fun k m g => ⟨by simp only [PyData.showable], by simp only [PyData.depth]; omega, by simp only [msz]; omega⟩⟩
theorem bn_bool {L : Nat} {x : PyData} (b : Bool) : Bn L x (.bool b) :=
  ⟨fun t _ _ => tl_leaf (fun _ z => nomatch z) (fun _ z => nomatch z), fun k m g => ⟨by simp only [PyData.showable], by simp only [PyData.depth]; omega, by simp only [msz]; omega⟩⟩
theorem bn_none {L : Nat} {x : PyData} : Bn L x .none :=
  ⟨fun t _ _ => tl_leaf (fun _ z => nomatch z) (fun _ z => nomatch z), fun k m g => ⟨by simp only [PyData.showable], by simp only [PyData.depth]; omega, by simp only [msz]; omega⟩⟩
theorem bn_nilT {L : Nat} {x : PyData} : Bn L x (.tuple []) :=
  ⟨fun t _ _ => tl_tup (Nat.zero_le _) (fun y hy => (List.not_mem_nil hy).elim), fun k m g => (GL.nil (k := k)).tup.mono (Nat.le_refl _) (by omega)⟩
theorem bn_nilL {L : Nat} {x : PyData} : Bn L x (.list []) :=
  ⟨fun t _ _ => tl_leaf (fun _ z => nomatch z) (fun _ z => nomatch z), fun k m g => (GL.nil (k := k)).lst.mono (Nat.le_refl _) (by omega)⟩
theorem bn_nilD {L : Nat} {x : PyData} : Bn L x (.dict []) :=
  ⟨fun t _ _ => tl_leaf (fun _ z => nomatch z) (fun _ z => nomatch z), fun k m g => ⟨by decide +kernel, Nat.le_trans (show (PyData.dict []).depth ≤ 1 by decide +kernel) (by omega), Nat.le_trans (show msz (.dict []) ≤ 60 by decide +kernel) (by omega)⟩⟩
theorem bn_one {L : Nat} {x : PyData} : Bn L x (.tuple [x]) :=
  ⟨fun t _ h => tl_tup (by show 1 ≤ 66 + (t + 1); omega) (fun y hy => by rw [List.mem_singleton.mp hy]; exact h.up), fun k m g => (GL.one g).tup.mono (Nat.le_refl _) (by omega)⟩
theorem bn_i {L : Nat} {x : PyData} {i : Int} (h : ∀ t ≤ 1, TL t L x → IB (t + 1) i) (hf : i.natAbs < 10 ^ 30) : Bn L x (.int i) :=
  ⟨fun t ht hx => tl_int (h t ht hx), fun k m g => ⟨(fine_int hf).sh, by simp only [PyData.depth]; omega, by
    have := (fine_int hf).sz
    simp only [msz]; omega⟩⟩
theorem bn_tup {L : Nat} {ds es : List PyData} (h1 : es.length ≤ ds.length + 1) (h2 : ∀ y ∈ es, y ∈ ds) (h3 : ∀ k m, GL k m ds → GL k (2 * m) es) : Bn L (.tuple ds) (.tuple es) := by
  refine ⟨fun t ht hx => ?_, fun k m g => ?_⟩
  · cases L with
    | zero => exact absurd rfl (hx.1 ds)
    | succ L =>
      obtain ⟨hl, hi⟩ := hx.1 ds rfl
      exact tl_tup (by omega) fun y hy => (hi y (h2 y hy)).up.deep
  · obtain ⟨k', m', rfl, rfl, hg⟩ := g.items
    exact (h3 k' m' hg).tup.mono (by omega) (by omega)
theorem bn_lst {L : Nat} {ds : List PyData} : Bn L (.tuple ds) (.list ds) := by
  refine ⟨fun t ht hx => tl_leaf (fun _ z => nomatch z) (fun _ z => nomatch z), fun k m g => ?_⟩
  obtain ⟨k', m', rfl, rfl, hg⟩ := g.items
  exact hg.lst.mono (by omega) (by omega)
theorem bn_in {L : Nat} {ds : List PyData} {i : Nat} {z y : PyData} (hz : ds[i]? = some z) (h : Bn L z y) : Bn (L + 1) (.tuple ds) (.tuple (ds.take i ++ [y] ++ ds.drop (i + 1))) := by
  have hi := (List.getElem?_eq_some_iff.mp hz).1
  refine ⟨fun t ht hx => ?_, fun k m g => ?_⟩
  · obtain ⟨hl, hit⟩ := hx.1 ds rfl
    refine tl_tup (by simp only [List.length_append, List.length_take, List.length_drop, List.length_singleton]; omega) fun w hw => ?_
    rcases List.mem_append.mp hw with hw | hw
    · rcases List.mem_append.mp hw with hw | hw
      · exact (hit w (List.mem_of_mem_take hw)).up.deep
      · rw [List.mem_singleton.mp hw]
        exact h.tl t ht (hit z (List.mem_of_getElem? hz))
    · exact (hit w (List.mem_of_mem_drop hw)).up.deep
  · obtain ⟨k', m', rfl, rfl, hg⟩ := g.items
    have hzz := hg.all z (List.mem_of_getElem? hz)
    have hy := h.gd k' (msz z) ⟨hzz.1, hzz.2, Nat.le_refl _⟩
    have hs := mszA_set (y := y) hz
    have hzm : msz z ≤ mszA ds := by
      have e : ds = ds.take i ++ ds.drop i := (List.take_append_drop i ds).symm
      rw [e, mszA_app, List.drop_eq_getElem_cons hi, (List.getElem?_eq_some_iff.mp hz).2]
      simp only [mszA]; omega
    have h5 := hg.sz
    have h6 := hy.sz
    have hl : GL (k' + 1) (2 * m' + 60) (ds.take i ++ [y] ++ ds.drop (i + 1)) := by
      refine ⟨fun w hw => ?_, by omega⟩
      rcases List.mem_append.mp hw with hw | hw
      · rcases List.mem_append.mp hw with hw | hw
        · have := hg.all w (List.mem_of_mem_take hw); exact ⟨this.1, by omega⟩
        · rw [List.mem_singleton.mp hw]; exact ⟨hy.sh, hy.dp⟩
      · have := hg.all w (List.mem_of_mem_drop hw); exact ⟨this.1, by omega⟩
    exact hl.tup.mono (by omega) (by omega)
/-- a judgement of a block, closed, so that it is not unfolded where it is used -/
structure BE (F : Fm) (C : Cs) (B : List Stmt) (ρ : Rho) (k : Nat) (P : DE) : Prop where
  run : WPB F C B ρ k P
theorem BE.imp {F : Fm} {C : Cs} {B : List Stmt} {ρ : Rho} {k : Nat} {P P' : DE} (h : BE F C B ρ k P) (h1 : ∀ k ρ, P.nx k ρ → P'.nx k ρ) (h2 : ∀ k d, P.rt k d → P'.rt k d) (h3 : ∀ k ρ, P.bk k ρ → P'.bk k ρ) (h4 : ∀ k ρ, P.ct k ρ → P'.ct k ρ) : BE F C B ρ k P' := ⟨WS.imp h.run h1 h2 h3 h4⟩
section
variable {P : Program} {w : World} {K : PySem.W.Frag} {mg : Str → Option Value} {base : Heap}
/-- the end of the def: one of the values that are not cut open -/
theorem bent_end {F : Fm} {s a r : Addr} {kk L j : Nat} {x : PyData} {x2 x3 : SV} (dk : IsDk F s a r) (hK : F.K = K) (hx : ∃ t ≤ 1, TL t L x) (mi : mg "isinstance" = none) (mt : mg "tuple" = none) (mn : mg "int" = none) (mL : mg "list" = none) (go : DFn P w K mg base 2 "_law_one" 1 POne ROne) (hj : 2 ≤ j) :
    BE F (bodyCs P w K mg base nBnt (defScope (topS 26)) j) ((defBody (topS 26)).drop 1) [.raw (.ref s), .d x, x2, x3] (kk + 1) { nx := fun k' _ => kk ≤ k' ∧ RBn L [x] .none, rt := fun k' d => kk ≤ k' ∧ RBn L [x] d, bk := fun _ _ => False, ct := fun _ _ => False } := by
  refine ⟨?_⟩
  show WPB F _ (_ :: _ :: _ :: []) _ _ _
  refine wb_mid (fun k ρ => k = kk + 1 ∧ ∃ S : List PyData, S.length = 15 ∧ (∀ d ∈ S, Bn L x d) ∧ ρ = [.raw (.ref s), .d x, x2, .d (.list S)]) ?_ ?_
  · refine ws_set 3 (by walk_at "tgt") (fun _ _ => rfl) (we_lst ?_)
    repeat walk_at "ds"
    refine we_neg ?_
    repeat walk_at "ds"
    refine we_dict0 ?_
    repeat walk_at "ds"
    walk_at "name"
    refine wa_nil ⟨by show 1 ≤ sizeLine; decide, ?_⟩
    refine wa_cons (fun _ => rfl) (we_pow ?_)
    repeat walk_at "ds"
    refine ⟨⟨by decide, by decide, by decide⟩, ?_⟩
    repeat walk_at "ds"
    refine ⟨by show 15 ≤ sizeLine; decide, rfl, _, rfl, ?_, rfl⟩
    exact List.forall_mem_cons.mpr ⟨bn_none, List.forall_mem_cons.mpr ⟨bn_bool _, List.forall_mem_cons.mpr ⟨bn_bool _, List.forall_mem_cons.mpr ⟨bn_int (by decide), List.forall_mem_cons.mpr ⟨bn_int (by decide), List.forall_mem_cons.mpr ⟨bn_int (by decide), List.forall_mem_cons.mpr ⟨bn_int (by decide), List.forall_mem_cons.mpr ⟨bn_str, List.forall_mem_cons.mpr ⟨bn_str, List.forall_mem_cons.mpr ⟨bn_str, List.forall_mem_cons.mpr ⟨bn_nilT, List.forall_mem_cons.mpr ⟨bn_nilL, List.forall_mem_cons.mpr ⟨bn_nilD, List.forall_mem_cons.mpr ⟨bn_one, List.forall_mem_cons.mpr ⟨bn_int (by decide), fun _ z => (List.not_mem_nil z).elim⟩⟩⟩⟩⟩⟩⟩⟩⟩⟩⟩⟩⟩⟩⟩
  rintro k ρ ⟨rfl, S, hSl, hS, rfl⟩
  refine wb_mid (fun k ρ => k = kk + 1 ∧ ∃ S : List PyData, 0 < S.length ∧ S.length ≤ 1000 ∧ (∀ d ∈ S, Bn L x d) ∧ ρ = [.raw (.ref s), .d x, x2, .d (.list S)]) ?_ ?_
  · refine ws_if (wt_val (fun _ _ => rfl) (we_isi "tuple" kit_tuple hK rfl mi rfl mt rfl (by decide) rfl (fun _ => rfl) ?_))
    walk_at "name"
    refine ⟨_, rfl, ?_⟩
    cases ht : isiD "tuple" x with
    | true =>
      obtain ⟨ds, rfl⟩ : ∃ ds, x = .tuple ds := by cases x <;> first | exact ⟨_, rfl⟩ | (cases ht; done)
      have hdl : ds.length ≤ 100 := by
        obtain ⟨t, ht1, hx⟩ := hx
        cases L with
        | zero => exact absurd rfl (hx.1 ds)
        | succ L => have := (hx.1 ds rfl).1; omega
      refine itP rfl (wb_cons (ws_set 3 (by walk_at "tgt") (fun _ _ => rfl) (we_cat ?_)))
      walk_at "name"
      refine we_lst (wa_cons (fun _ => rfl) (we_sliceTF hK ?_))
      walk_at "name"
      refine we_int ⟨ds, 1, rfl, rfl, ?_⟩
      refine wa_cons (fun _ => rfl) (we_sliceTE hK ?_)
      walk_at "name"
      refine we_neg (we_int ⟨1, rfl, ds, -1, rfl, rfl, fun m => ?_⟩)
      refine wa_cons (fun _ => rfl) (we_catT hK ?_)
      walk_at "name"
      refine we_sliceT hK ?_
      walk_at "name"
      refine we_int ⟨ds, 1, rfl, rfl, ds, _, rfl, rfl, by rw [List.length_take]; omega, ?_⟩
      refine wa_cons (fun _ => rfl) (we_revT hK ?_)
      walk_at "name"
      refine ⟨ds, rfl, ?_⟩
      refine wa_cons (fun _ => rfl) (we_list hK rfl mL (fun _ => rfl) ?_)
      walk_at "name"
      refine ⟨ds, rfl, ?_⟩
      refine wa_nil ⟨by show 5 ≤ sizeLine; decide, S, _, rfl, rfl, by rw [hSl]; show 15 + 5 ≤ 1000000; decide, ?_⟩
      refine wb_nil ⟨rfl, _, by rw [List.length_append]; omega, by rw [List.length_append, hSl]; show 15 + 5 ≤ 1000; decide, ?_, rfl⟩
      intro d hd
      rcases List.mem_append.mp hd with h2 | h2
      · exact hS d h2
      clear hd
      revert d
      refine List.forall_mem_cons.mpr ⟨?_, List.forall_mem_cons.mpr ⟨?_, List.forall_mem_cons.mpr ⟨?_, List.forall_mem_cons.mpr ⟨?_, List.forall_mem_cons.mpr ⟨bn_lst, fun _ z => (List.not_mem_nil z).elim⟩⟩⟩⟩⟩
      · exact bn_tup (by rw [List.length_drop]; omega) (fun y hy => List.mem_of_mem_drop hy) fun k m g => (g.drop 1).mono (Nat.le_refl _) (by omega)
      · exact bn_tup (by rw [List.length_take]; omega) (fun y hy => List.mem_of_mem_take hy) fun k m' g => (g.take m).mono (Nat.le_refl _) (by omega)
      · exact bn_tup (by rw [List.length_append, List.length_take]; omega) (fun y hy => (List.mem_append.mp hy).elim id fun h => List.mem_of_mem_take h) fun k m g => (g.app (g.take 1)).mono (Nat.le_refl _) (by omega)
      · exact bn_tup (by rw [List.length_reverse]; omega) (fun y hy => List.mem_reverse.mp hy) fun k m g => g.rev.mono (Nat.le_refl _) (by omega)
    | false =>
      refine itN rfl (wb_cons (ws_if (wt_val (fun _ _ => rfl) (we_isi "int" kit_int hK rfl mi rfl mn rfl (by decide) rfl (fun _ => rfl) ?_))))
      walk_at "name"
      refine ⟨_, rfl, ?_⟩
      cases hi : isiD "int" x with
      | false => exact itN rfl (wb_nil (wb_nil ⟨rfl, S, by omega, by omega, hS, rfl⟩))
      | true =>
        refine itP rfl (wb_cons (ws_set 3 (by walk_at "tgt") (fun _ _ => rfl) (we_cat ?_)))
        walk_at "name"
        cases x with
        | int i =>
          refine we_lst (wa_cons (fun _ => rfl) ?_)
          repeat walk_at "dx"
          refine we_eqI ?_
          repeat walk_at "dx"
          refine ⟨S, _, rfl, rfl, by rw [hSl]; show 15 + 5 ≤ 1000000; decide, ?_⟩
          refine wb_nil (wb_nil ⟨rfl, _, by rw [List.length_append]; omega, by rw [List.length_append, hSl]; show 15 + 5 ≤ 1000; decide, ?_, rfl⟩)
          intro d hd
          rcases List.mem_append.mp hd with h2 | h2
          · exact hS d h2
          clear hd
          revert d
          obtain ⟨t0, ht0, hx0⟩ := hx
          have hb0 := hx0.int
          have e1 : Builtin.bitXor i 1 = Builtin.bitXor i ((1 : Nat) : Int) := rfl
          have e2 : Builtin.bitXor i 2 = Builtin.bitXor i ((2 : Nat) : Int) := rfl
          refine List.forall_mem_cons.mpr ⟨?_, List.forall_mem_cons.mpr ⟨?_, List.forall_mem_cons.mpr ⟨?_, List.forall_mem_cons.mpr ⟨?_, List.forall_mem_cons.mpr ⟨bn_bool _, fun _ z => (List.not_mem_nil z).elim⟩⟩⟩⟩⟩
          · exact bn_i (fun t ht h => h.int.add (by decide)) (IB.fine (hb0.add (z := 1) (by decide)) (by omega))
          · exact bn_i (fun t ht h => h.int.add (z := -1) (by decide)) (IB.fine (hb0.add (z := -1) (by decide)) (by omega))
          · rw [e1]; exact bn_i (fun t ht h => xor_IB h.int (by decide)) (IB.fine (xor_IB hb0 (by decide)) (by omega))
          · rw [e2]; exact bn_i (fun t ht h => xor_IB h.int (by decide)) (IB.fine (xor_IB hb0 (by decide)) (by omega))
        | bool b =>
          refine we_lst (wa_cons (fun _ => rfl) (we_addBI ?_))
          walk_at "name"
          refine we_int ⟨_, _, rfl, rfl, wa_cons (fun _ => rfl) (we_subBI ?_)⟩
          walk_at "name"
          refine we_int ⟨_, _, rfl, rfl, wa_cons (fun _ => rfl) (we_xorBI ?_)⟩
          walk_at "name"
          refine we_int ⟨_, _, rfl, rfl, wa_cons (fun _ => rfl) (we_xorBI ?_)⟩
          walk_at "name"
          refine we_int ⟨_, _, rfl, rfl, wa_cons (fun _ => rfl) (we_eqBI ?_)⟩
          walk_at "name"
          refine we_int ⟨_, _, rfl, rfl, wa_nil ?_⟩
          refine ⟨by show 5 ≤ sizeLine; decide, S, _, rfl, rfl, by rw [hSl]; show 15 + 5 ≤ 1000000; decide, ?_⟩
          refine wb_nil (wb_nil ⟨rfl, _, by rw [List.length_append]; omega, by rw [List.length_append, hSl]; show 15 + 5 ≤ 1000; decide, ?_, rfl⟩)
          intro d hd
          rcases List.mem_append.mp hd with h2 | h2
          · exact hS d h2
          clear hd
          revert d
          refine List.forall_mem_cons.mpr ⟨?_, List.forall_mem_cons.mpr ⟨?_, List.forall_mem_cons.mpr ⟨?_, List.forall_mem_cons.mpr ⟨?_, List.forall_mem_cons.mpr ⟨bn_bool _, fun _ z => (List.not_mem_nil z).elim⟩⟩⟩⟩⟩ <;> refine bn_int ?_ <;> cases b <;> decide +kernel
        | _ => cases hi
  rintro k ρ ⟨rfl, S, hS0, hS1, hS, rfl⟩
  refine wb_cons (ws_ret (we_callD dk go (show 2 ≤ j from hj) hK 0 rfl rfl (by walk_at "vis") rfl ?_))
  walk_at "dx"
  walk_at "name"
  refine wa_nil ⟨⟨S, rfl, hS0, hS1⟩, kk, rfl, ?_⟩
  rintro d ⟨S', e, hd⟩
  cases e
  exact ⟨Nat.le_refl _, x, rfl, hS d hd⟩
end

theorem bent_body : defBody (topS 26) = (defBody (topS 26)).getD 0 (.Pass ⟨0, 0, 0, 0⟩) :: (defBody (topS 26)).drop 1 := rfl
section
variable {P : Program} {w : World} {K : PySem.W.Frag} {mg : Str → Option Value} {base : Heap}
theorem ok_bn0 {f : Addr} {fd : FuncData} (Fn : Fun K "_law_bent" "_law_bent" (topS 26) f fd) (mi : mg "isinstance" = none) (mt : mg "tuple" = none) (mn : mg "int" = none) (mL : mg "list" = none) (go : DFn P w K mg base 2 "_law_one" 1 POne ROne) : FnG P w K mg base 3 f fd ["_law_state", "_law_value"] (spDraw K 2 (PreBn 0) (RBn 0)) := by
  refine draw_ok (k := 2) Fn scBnt (fun ds ⟨x, e, _⟩ => by rw [e]; rfl) (fun F s a r ds kk dk hK ⟨x, e, hx⟩ => ?_)
  subst e
  rw [bent_body]
  refine wb_cons ?_
  refine ws_if ?_
  refine wt_bool ?_
  refine ww_and ?_
  refine wt_val (fun _ _ => rfl) ?_
  refine we_isi "tuple" kit_tuple hK rfl mi rfl mt rfl (by decide) rfl (fun _ => rfl) ?_
  walk_at "name"
  refine ⟨_, rfl, ?_⟩
  cases ht : isiD "tuple" x with
  | true =>
    obtain ⟨ds, rfl⟩ : ∃ ds, x = .tuple ds := by cases x <;> first | exact ⟨_, rfl⟩ | (cases ht; done)
    obtain ⟨t, _, h⟩ := hx
    exact absurd rfl (h.1 ds)
  | false =>
    (with_reducible refine itN rfl ?_)
    (with_reducible refine itN rfl ?_)
    (with_reducible refine wb_nil ?_)
    show WPB F _ ((defBody (topS 26)).drop 1) _ _ _
    have := bent_end (P := P) (w := w) (base := base) (kk := kk + 1) (L := 0) (j := 2) (x2 := .un) (x3 := .un) dk hK hx mi mt mn mL go (Nat.le_refl _)
    obtain ⟨h⟩ := this.imp (P' := { nx := fun k' _ => kk ≤ k' ∧ RBn 0 [x] .none, rt := fun k' d => kk ≤ k' ∧ RBn 0 [x] d, bk := fun _ _ => False, ct := fun _ _ => False }) (fun k ρ h => ⟨by have := h.1; omega, h.2⟩) (fun k d h => ⟨by have := h.1; omega, h.2⟩) (fun _ _ h => h) (fun _ _ h => h)
    exact h
theorem ok_bn {L : Nat} {f : Addr} {fd : FuncData} (Fn : Fun K "_law_bent" "_law_bent" (topS 26) f fd) (mi : mg "isinstance" = none) (mt : mg "tuple" = none) (mn : mg "int" = none) (mL : mg "list" = none) (ml : mg "len" = none) (go : DFn P w K mg base 2 "_law_one" 1 POne ROne) (gn : DFn P w K mg base 1 "_law_next" 1 PreNext RNext)
    (g : DFn P w K mg base (L + 3) "_law_bent" (2 * L + 2) (PreBn L) (RBn L)) : FnG P w K mg base (L + 4) f fd ["_law_state", "_law_value"] (spDraw K (2 * (L + 1) + 2) (PreBn (L + 1)) (RBn (L + 1))) := by
  refine draw_ok (k := L + 3) Fn scBnt (fun ds ⟨x, e, _⟩ => by rw [e]; rfl) (fun F s a r ds kk dk hK ⟨x, e, hx⟩ => ?_)
  subst e
  have fin : ∀ k, kk + 1 ≤ k → BE F (bodyCs P w K mg base nBnt (defScope (topS 26)) (L + 3)) ((defBody (topS 26)).drop 1) [.raw (.ref s), .d x, .un, .un] k { nx := fun k' _ => kk ≤ k' ∧ RBn (L + 1) [x] .none, rt := fun k' d => kk ≤ k' ∧ RBn (L + 1) [x] d, bk := fun _ _ => False, ct := fun _ _ => False } := fun k hk => by
    obtain ⟨k1, rfl⟩ : ∃ k1, k = k1 + 1 := ⟨k - 1, by omega⟩
    have := bent_end (P := P) (w := w) (base := base) (kk := k1) (L := L + 1) (j := L + 3) (x2 := .un) (x3 := .un) dk hK hx mi mt mn mL go (by omega)
    exact this.imp (fun k ρ h => ⟨by have := h.1; omega, h.2⟩) (fun k d h => ⟨by have := h.1; omega, h.2⟩) (fun _ _ h => h) (fun _ _ h => h)
  rw [bent_body]
  refine wb_cons ?_
  refine ws_if ?_
  refine wt_bool ?_
  refine ww_and ?_
  refine wt_val (fun _ _ => rfl) ?_
  refine we_isi "tuple" kit_tuple hK rfl mi rfl mt rfl (by decide) rfl (fun _ => rfl) ?_
  walk_at "name"
  refine ⟨_, rfl, ?_⟩
  cases ht : isiD "tuple" x with
  | false =>
    (with_reducible refine itN rfl ?_)
    (with_reducible refine itN rfl ?_)
    (with_reducible refine wb_nil ?_)
    show WPB F _ ((defBody (topS 26)).drop 1) _ _ _
    obtain ⟨h⟩ := fin (kk + (2 * (L + 1) + 2)) (by omega)
    exact h
  | true =>
  obtain ⟨ds, rfl⟩ : ∃ ds, x = .tuple ds := by cases x <;> first | exact ⟨_, rfl⟩ | (cases ht; done)
  refine itP rfl (ww_and (wt_neNilT hK ?_))
  walk_at "name"
  refine ⟨ds, rfl, ?_⟩
  cases hne : ds.isEmpty with
  | true =>
    (with_reducible refine itN rfl ?_)
    (with_reducible refine itN rfl ?_)
    (with_reducible refine wb_nil ?_)
    show WPB F _ ((defBody (topS 26)).drop 1) _ _ _
    obtain ⟨h⟩ := fin (kk + (2 * (L + 1) + 2)) (by omega)
    exact h
  | false =>
  have hpos : 0 < ds.length := by cases ds with | nil => cases hne | cons a l => exact Nat.succ_pos _
  obtain ⟨t0, ht0, hx0⟩ := id hx
  obtain ⟨hdl, hit⟩ := hx0.1 ds rfl
  refine itP rfl (ww_and1 (wt_gt (we_callD dk gn (by show 1 ≤ L + 3; omega) hK 0 rfl rfl (by walk_at "vis") rfl ?_)))
  refine wa_cons (fun _ => rfl) (we_int (wa_nil ⟨⟨6, rfl, by decide, by decide⟩, kk + (2 * (L + 1) + 1), by omega, ?_⟩))
  rintro d ⟨m', z, e1, rfl, z0, z1⟩
  refine we_int ⟨_, _, rfl, rfl, ?_⟩
  refine iteD (fun hz => ?_) (fun hz => ?_)
  rotate_left
  · (with_reducible refine wb_nil ?_)
    show WPB F _ ((defBody (topS 26)).drop 1) _ _ _
    obtain ⟨h⟩ := fin (kk + (2 * (L + 1) + 1)) (by omega)
    exact h
  refine wb_cons (ws_set 2 (by walk_at "tgt") (fun _ _ => rfl) (we_callD dk gn (by show 1 ≤ L + 3; omega) hK 0 rfl rfl (by walk_at "vis") rfl ?_))
  repeat walk_at "dx"
  refine ⟨⟨_, rfl, by omega, by omega⟩, kk + (2 * L + 2), by omega, ?_⟩
  rintro d ⟨m', i, e1, rfl, i0, i1⟩
  cases e1
  obtain ⟨i, rfl⟩ := Int.eq_ofNat_of_zero_le i0
  have hi : i < ds.length := by omega
  have hz : ds[i]? = some ds[i] := List.getElem?_eq_getElem hi
  have hixD : ixD (.tuple ds) (.int (i : Int)) = some ds[i] := atI_nat hz
  refine wb_cons (ws_ret (we_catT hK (we_catT hK (we_sliceT hK ?_))))
  walk_at "name"
  walk_at "name"
  refine ⟨ds, i, rfl, rfl, we_tup (wa_cons (fun _ => rfl) (we_callD dk g (Nat.le_refl _) hK 0 rfl rfl (by walk_at "vis") rfl (wa_cons (fun _ => rfl) (we_ix hK (fun _ _ => rfl) ?_))))⟩
  walk_at "name"
  walk_at "name"
  refine ⟨_, hixD, wa_nil ⟨⟨_, rfl, t0, ht0, hit _ (List.getElem_mem hi)⟩, kk, rfl, ?_⟩⟩
  rintro d ⟨x', e, hbn⟩
  cases e
  refine wa_nil ⟨by show 1 ≤ sizeLine; decide, _, _, rfl, rfl, by rw [List.length_take]; show _ + 1 ≤ 1000000; omega, we_sliceTF hK ?_⟩
  walk_at "name"
  refine we_add ?_
  walk_at "name"
  refine we_int ⟨_, _, rfl, rfl, ds, i + 1, rfl, rfl, _, _, rfl, rfl, by rw [List.length_append, List.length_take, List.length_drop]; show _ + 1 + _ ≤ 1000000; omega, ?_⟩
  exact ⟨Nat.le_refl _, _, rfl, bn_in hz hbn⟩
end





theorem len_mszA : ∀ ds : List PyData, ds.length ≤ mszA ds
  | [] => Nat.le_refl _
  | d :: ds => by have := len_mszA ds; simp only [mszA, List.length_cons]; omega
theorem gd_len {k m : Nat} {w : PyData} {ps : List PyData} (h : GD k m (.tuple [w, .tuple ps])) : ps.length ≤ m := by
  have h1 := h.sz
  have h2 := len_mszA ps
  simp only [msz, mszA] at h1
  omega
theorem gd_int {k m : Nat} {i : Int} (h : i.natAbs < 10 ^ 30) (hm : 33 ≤ m) : GD k m (.int i) := ⟨(fine_int h).sh, by simp only [PyData.depth]; omega, by have := (fine_int h).sz; simp only [msz]; omega⟩
theorem gd_bool {k m : Nat} (b : Bool) (hm : 33 ≤ m) : GD k m (.bool b) := ⟨by simp only [PyData.showable], by simp only [PyData.depth]; omega, by simp only [msz]; omega⟩
theorem gd_none {k m : Nat} (hm : 33 ≤ m) : GD k m .none := ⟨by simp only [PyData.showable], by simp only [PyData.depth]; omega, by simp only [msz]; omega⟩
theorem gd_str {k m : Nat} {w : Str} (hm : 33 ≤ m) (h : (PyData.str w).shown.length ≤ 33 := by decide +kernel) : GD k m (.str w) := ⟨by simp only [PyData.showable], by simp only [PyData.depth]; omega, by simp only [msz]; omega⟩
theorem gl_ints {k : Nat} : ∀ {cs : List Int}, (∀ c ∈ cs, c.natAbs < 10 ^ 30) → GL k (35 * cs.length) (cs.map PyData.int)
  | [], _ => GL.nil.mono (Nat.le_refl _) (Nat.zero_le _)
  | c :: cs, h => by
    rw [List.map_cons, List.length_cons]
    exact (GL.cons (gd_int (k := k) (m := 33) (h c List.mem_cons_self) (Nat.le_refl _)) (gl_ints fun x hx => h x (List.mem_cons_of_mem _ hx))).mono (Nat.le_refl _) (by omega)
theorem gd_pair {k m m' : Nat} {x y : PyData} (hx : GD k m x) (hy : GD k m' y) : GD (k + 1) (m + m' + 7) (.tuple [x, y]) :=
  ((GL.one hx).app (GL.one hy)).tup.mono (Nat.le_refl _) (by omega)
/-- the own certificate: a pair of a word and a number or a tuple of numbers -/
theorem own_parts {n : Nat} (hn : n ≤ 6) (cs : List Int) {s : Nat} (hs : s < 2 ^ n) : ∃ w y, certD n cs (s : Int) = .tuple [w, y] ∧ GD 0 33 w ∧ GD 1 2300 y ∧ TL 0 1 w ∧ TL 0 1 y := by
  have hs64 : (s : Int) < 64 := by
    have : 2 ^ n ≤ 64 := Nat.pow_le_pow_right (n := 2) (by decide) hn
    omega
  have hol := outside_len hn (s : Int)
  have hmz : ∀ b ∈ outside n (s : Int), (∃ c : Int, missD cs b (s : Int) = .int c ∧ 0 ≤ c ∧ c < 128) ∨ missD cs b (s : Int) = .none := fun b hb => by
    have hb' := mem_outside hb
    have hp := pow_le64 hn
    unfold missD
    cases h : missing cs b (s : Int) with
    | none => exact .inr rfl
    | some c =>
      have := cube_mem (miss_mem h) (by omega)
      exact .inl ⟨c, rfl, by omega, by omega⟩
  cases h : basesL n cs (s : Int) with
  | cons b r =>
    have hb : b ∈ outside n (s : Int) := (List.mem_filter.mp (show b ∈ basesL n cs (s : Int) by rw [h]; exact List.mem_cons_self)).1
    have hb' := mem_outside hb
    have hp := pow_le64 hn
    refine ⟨.str "solid", .int b, certD_cons h, gd_str (Nat.le_refl _), gd_int (by omega) (by omega), tl_leaf (fun _ z => nomatch z) (fun _ z => nomatch z), tl_int (IB.small ⟨by omega, by omega⟩)⟩
  | nil =>
    refine ⟨.str "broken", .tuple ((outside n (s : Int)).map fun b => missD cs b (s : Int)), certD_nil h, gd_str (Nat.le_refl _), ?_, tl_leaf (fun _ z => nomatch z) (fun _ z => nomatch z), ?_⟩
    · have : ∀ bs : List Int, (∀ b ∈ bs, b ∈ outside n (s : Int)) → GL 0 (35 * bs.length) (bs.map fun b => missD cs b (s : Int)) := fun bs => by
        induction bs with
        | nil => exact fun _ => GL.nil.mono (Nat.le_refl _) (Nat.zero_le _)
        | cons b bs ih =>
          intro hb
          rw [List.map_cons, List.length_cons]
          have h1 : GD 0 33 (missD cs b (s : Int)) := by
            rcases hmz b (hb b List.mem_cons_self) with ⟨c, e, c0, c1⟩ | e
            · rw [e]; exact gd_int (by omega) (Nat.le_refl _)
            · rw [e]; exact gd_none (Nat.le_refl _)
          exact (GL.cons h1 (ih fun x hx => hb x (List.mem_cons_of_mem _ hx))).mono (Nat.le_refl _) (by omega)
      exact ((this _ fun _ h => h).tup).mono (Nat.le_refl _) (by omega)
    · refine tl_tup (by rw [List.length_map]; omega) fun y hy => ?_
      obtain ⟨b, hb, rfl⟩ := List.mem_map.mp hy
      rcases hmz b hb with ⟨c, e, c0, c1⟩ | e
      · rw [e]; exact tl_int (IB.small ⟨by omega, by omega⟩)
      · rw [e]; exact tl_leaf (fun _ z => nomatch z) (fun _ z => nomatch z)
/-- the values so far -/
def Vs (m : Nat) (S : List PyData) : Prop := S.length ≤ m ∧ ∀ x ∈ S, GD 8 20000 x
theorem Vs.app {a b : Nat} {S T : List PyData} (h : Vs a S) (h' : Vs b T) : Vs (a + b) (S ++ T) := ⟨by have := h.1; have := h'.1; rw [List.length_append]; omega, fun x hx => (List.mem_append.mp hx).elim (h.2 x) (h'.2 x)⟩
theorem Vs.nil : Vs 0 [] := ⟨Nat.le_refl _, fun x hx => (List.not_mem_nil hx).elim⟩
theorem Vs.cons {a : Nat} {x : PyData} {S : List PyData} (hx : GD 8 20000 x) (h : Vs a S) : Vs (a + 1) (x :: S) := ⟨by have := h.1; rw [List.length_cons]; omega, List.forall_mem_cons.mpr ⟨hx, h.2⟩⟩

abbrev nVal : List Str := ["_law_state", "_law_box_here", "_law_switches", "_law_own", "_law_missing", "_law_limit", "_law_base", "_law_some", "_law_found", "_law_k", "_law_bent_here", "_law_part"]
theorem scVal : FnScope nVal ["_law_state", "_law_box_here", "_law_switches"] (defScope (topS 28)) := ⟨rfl, rfl, rfl, by decide +kernel, rfl, by decide +kernel, by decide +kernel⟩
def PreVal : List PyData → Prop := fun ds => ∃ (n : Nat) (cs : List Int) (s : Nat), ds = [boxD n cs, .int (s : Int)] ∧ n ≤ 6 ∧ IsBox n cs ∧ s < 2 ^ n
def RVal : Rel := fun _ d => ∃ S, d = .list S ∧ Vs 100 S
section
variable {P : Program} {w : World} {K : PySem.W.Frag} {mg : Str → Option Value} {base : Heap}
theorem ok_val18 {f : Addr} {fd : FuncData} (Fn : Fun K "_law_values" "_law_values" (topS 28) f fd) (mr : mg "range" = none) (mi : mg "int" = none) (mt : mg "tuple" = none) (mL : mg "list" = none) (mm : mg "min" = none) (gw : PFn P w K mg base 1 "_law_power" Rpow) (gp : PFn P w K mg base 1 "_law_parts" Rparts) (gc : PFn P w K mg base 5 "solid_certificate" Rcert) (go : DFn P w K mg base 2 "_law_one" 1 POne ROne)
    (g2 : DFn P w K mg base 5 "_law_bent" 6 (PreBn 2) (RBn 2)) (g3 : DFn P w K mg base 6 "_law_bent" 8 (PreBn 3) (RBn 3)) : FnG P w K mg base 7 f fd ["_law_state", "_law_box_here", "_law_switches"] (spDraw K 148 PreVal RVal) := by
  refine draw_ok (k := 6) Fn scVal (fun ds ⟨n, cs, s, e, _⟩ => by rw [e]; rfl) (fun F st a r ds kk dk hK ⟨n, cs, s, e, hn, hb, hs⟩ => ?_)
  subst e
  have hp := pow_le64 hn
  have hol := outside_len hn (s : Int)
  have c2 : (2 : Int) ^ n = ((2 ^ n : Nat) : Int) := by norm_cast
  have h64 : 2 ^ n ≤ 64 := Nat.pow_le_pow_right (n := 2) (by decide) hn
  obtain ⟨ow, oy, eo, how, hoy, tow, toy⟩ := own_parts hn cs hs
  refine wb_cons (ws_set 3 (by walk_at "tgt") (fun _ _ => rfl) ?_)
  repeat walk_at "dx"
  refine ⟨_, ⟨n, cs, (s : Int), rfl, hn, ⟨by omega, by omega⟩, rfl⟩, ?_⟩
  rw [eo]
  refine wb_ownLst2 4 (by walk_at "tgt") (by show 4 < 12; decide) (fun env h => by cases env; cases h; rfl) (wa_nil ⟨by decide, fun o => ?_⟩)
  have hKo : (F.ext o).K = K := hK
  have dko : IsDk (F.ext o) st a r := dk.ext o
  refine ws_set 5 (by walk_at "tgt") (fun _ _ => rfl) ?_
  repeat walk_at "dx"
  refine ⟨.int (n : Int), rfl, wa_nil ⟨_, ⟨n, rfl, by omega, rfl⟩, ?_⟩⟩
  refine ws_for_list 6 (by walk_at "tgt") hKo (fun _ _ => rfl) ?_
  repeat walk_at "dx"
  refine ⟨_, ⟨_, rfl, ⟨by omega, by omega⟩, rfl⟩, ?_⟩
  rw [← outside_eq hn hs]
  refine ⟨fun j k ρ => kk + 148 ≤ k + j ∧ ∃ (ms : List Int) (x6 x7 : SV), plainB x6 = true ∧ plainB x7 = true ∧ ρ = [.raw (.ref st), .d (boxD n cs), .d (.int (s : Int)), .d (.tuple [ow, oy]), .own o (ms.map PyData.int), .d (.int (2 ^ n)), x6, x7, .un, .un, .un, .un] ∧ ms.length = j ∧ ∀ c ∈ ms, 0 ≤ c ∧ c < 128, _, rfl, ⟨Nat.le_refl _, [], .un, .un, rfl, rfl, rfl, rfl, fun c h => (List.not_mem_nil h).elim⟩, ?_, ?_⟩
  · rintro j y k ρ hy ⟨hk, ms, x6, x7, h6, h7, rfl, hl, hm⟩
    rw [List.getElem?_map, Option.map_eq_some_iff] at hy
    obtain ⟨b, hbj, rfl⟩ := hy
    have hj : j < (outside n (s : Int)).length := (List.getElem?_eq_some_iff.mp hbj).1
    have hb' := mem_outside (List.mem_of_getElem? hbj)
    obtain ⟨k2, rfl⟩ : ∃ k2, k = k2 + 1 := ⟨k - 1, by omega⟩
    refine wb_cons (ws_fL (fun p => !decide (b + p ∈ cs)) PyData.int (fun p => .int (b + p)) 11 7 (by walk_at "blk") (by walk_at "tgt") rfl rfl rfl (by decide +kernel) hKo (fun _ _ => rfl) ?_)
    repeat walk_at "dx"
    refine ⟨_, ⟨(s : Int), rfl, ⟨by omega, by omega⟩, rfl⟩, parts (s : Int), rfl, Nat.le_trans (parts_len (by omega) (by omega)) (by decide), fun D p hpm => ?_, ?_⟩
    · have hKD : ((F.ext o).ext D).K = K := hK
      refine wt_niI hKD rfl ?_
      repeat walk_at "dx"
      refine ⟨.tuple (cs.map PyData.int), rfl, _, cs, rfl, rfl, rfl, rfl, fun _ => ?_⟩
      repeat walk_at "dx"
      exact ⟨rfl, rfl⟩
    have hpl := parts_len (n := (s : Int)) (by omega) (by omega)
    have hfl : ((parts (s : Int)).filter fun p => !decide (b + p ∈ cs)).length ≤ 100 := by
      refine Nat.le_trans (List.length_filter_le _ _) ?_
      have : (parts (s : Int)).length ≤ (rg ((s : Int) + 1)).length := List.length_filter_le _ _
      rw [rg_length] at this
      omega
    have hall : ∀ p ∈ (parts (s : Int)).filter fun p => !decide (b + p ∈ cs), 0 ≤ b + p ∧ b + p < 128 := fun p hp2 => by
      have := mem_rg.mp (List.mem_filter.mp (List.mem_filter.mp hp2).1).1
      omega
    generalize (parts (s : Int)).filter (fun p => !decide (b + p ∈ cs)) = A at hfl hall
    refine wb_cons (ws_append 4 rfl (by walk_at "vis") rfl rfl (by rw [List.length_map]; omega) (fun _ => rfl) (we_callD dko go (by show 2 ≤ 6; decide) hKo 0 rfl rfl (by walk_at "vis") rfl (wa_cons (fun _ => rfl) (we_cat ?_))) (fun _ => rfl))
    walk_at "name"
    refine we_repL (we_lst (wa_cons (fun _ => rfl) ?_))
    walk_at "name"
    refine wa_nil ⟨by show 1 ≤ sizeLine; decide, we_intB rfl mi (fun _ => rfl) (we_eq hKo ?_)⟩
    walk_at "name"
    have eA : (A.map fun p => PyData.int (b + p)) = (A.map fun p => b + p).map PyData.int := by rw [List.map_map]; rfl
    rw [eA]
    refine we_lst (wa_nil ⟨by show 0 ≤ sizeLine; decide, shaped_intsL _, shaped_intsL [], ?_⟩)
    dsimp only
    rw [eqv_nilL]
    obtain ⟨T, hT, hT1, hT2, hTb⟩ : ∃ T : List Int, (List.replicate (if (((A.map fun p => b + p).map PyData.int).isEmpty) = true then (1 : Int) else 0).toNat [PyData.int b]).flatten = T.map PyData.int ∧ T.length ≤ 1 ∧ 0 < A.length + T.length ∧ ∀ c ∈ T, c = b := by
      cases A with
      | nil => exact ⟨[b], rfl, Nat.le_refl _, Nat.succ_pos _, fun c hc => List.mem_singleton.mp hc⟩
      | cons a l => exact ⟨[], rfl, Nat.zero_le _, Nat.succ_pos _, fun c hc => (List.not_mem_nil hc).elim⟩
    refine ⟨_, rfl, _, _, rfl, rfl, by split <;> decide, by show 1 ≤ 1000; decide, _, _, rfl, rfl, ?_, ?_⟩
    · rw [hT, List.length_map, List.length_map, List.length_map]; omega
    rw [hT]
    refine wa_nil ⟨⟨_, rfl, by rw [List.length_append, List.length_map, List.length_map, List.length_map]; omega, by rw [List.length_append, List.length_map, List.length_map, List.length_map]; omega⟩, k2, rfl, ?_⟩
    rintro d ⟨xs, e1, hd⟩
    cases e1
    obtain ⟨c, rfl, c0, c1⟩ : ∃ c : Int, d = .int c ∧ 0 ≤ c ∧ c < 128 := by
      rcases List.mem_append.mp hd with hd | hd
      · obtain ⟨q, hq, rfl⟩ := List.mem_map.mp hd
        obtain ⟨p, hp2, rfl⟩ := List.mem_map.mp hq
        exact ⟨_, rfl, hall p hp2⟩
      · obtain ⟨q, hq, rfl⟩ := List.mem_map.mp hd
        rw [hTb q hq]
        exact ⟨_, rfl, by omega, by omega⟩
    refine wb_nil ⟨by omega, ms ++ [c], .d (.int b), .d (.list ((A.map fun p => b + p).map PyData.int)), rfl, rfl, ?_, by rw [List.length_append, hl]; rfl, fun x hx => ?_⟩
    · rw [List.map_append]; rfl
    · rcases List.mem_append.mp hx with hx | hx
      · exact hm x hx
      · rw [List.mem_singleton.mp hx]; exact ⟨c0, c1⟩
  · rintro k ρ ⟨hk, ms, x6, x7, h6, h7, rfl, hl, hm⟩
    rw [List.length_map] at hk hl
    refine ⟨ms.map PyData.int, rfl, ?_, ?_⟩
    · show (true && (true && (true && (true && (true && (true && (plainB x6 && (plainB x7 && _)))))))) = true
      rw [h6, h7]; rfl
    have hml : ms.length ≤ 64 := by omega
    have gms : GL 0 2240 (ms.map PyData.int) := (gl_ints fun c hc => by have := hm c hc; omega).mono (Nat.le_refl _) (by omega)
    have hkk : kk + 84 ≤ k := by omega
    have gown : GD 2 2400 (.tuple [ow, oy]) := ((gd_pair (how.mono (Nat.zero_le _) (Nat.le_refl _)) hoy)).mono (Nat.le_refl _) (by omega)
    show WPB F _ _ [.raw (.ref st), .d (boxD n cs), .d (.int (s : Int)), .d (.tuple [ow, oy]), .d (.list (ms.map PyData.int)), .d (.int (2 ^ n)), x6, x7, .un, .un, .un, .un] _ _
    refine wb_mid (fun k ρ => kk + 84 ≤ k ∧ ∃ S : List PyData, Vs 6 S ∧ ρ = [.raw (.ref st), .d (boxD n cs), .d (.int (s : Int)), .d (.tuple [ow, oy]), .d (.list (ms.map PyData.int)), .d (.int (2 ^ n)), x6, x7, .d (.list S), .un, .un, .un]) ?_ ?_
    · refine ws_set 8 (by walk_at "tgt") (fun _ _ => rfl) (we_lst (wa_cons (fun _ => rfl) ?_))
      walk_at "name"
      refine wa_cons (fun _ => rfl) (we_tup (wa_cons (fun _ => rfl) (we_str (wa_cons (fun _ => rfl) (we_tuple hK rfl mt (fun _ => rfl) ?_)))))
      walk_at "name"
      refine ⟨_, rfl, wa_nil ⟨by show 2 ≤ sizeLine; decide, ?_⟩⟩
      refine wa_cons (fun _ => rfl) (we_tup (wa_cons (fun _ => rfl) (we_str (wa_cons (fun _ => rfl) (we_tuple hK rfl mt (fun _ => rfl) (we_revL hK ?_))))))
      walk_at "name"
      refine ⟨_, rfl, _, rfl, wa_nil ⟨by show 2 ≤ sizeLine; decide, ?_⟩⟩
      repeat walk_at "dx"
      refine ⟨hkk, _, ?_, rfl⟩
      exact .cons (gown.mono (by omega) (by omega)) (.cons ((gd_pair (gd_str (k := 1) (Nat.le_refl _)) gms.tup).mono (by omega) (by omega)) (.cons ((gd_pair (gd_str (k := 1) (Nat.le_refl _)) gms.rev.tup).mono (by omega) (by omega)) (.cons ((gd_pair (gd_str (k := 1) (Nat.le_refl _)) (GL.nil (k := 0)).tup).mono (by omega) (by omega)) (.cons ((gd_pair (gd_str (k := 1) (Nat.le_refl _)) (GL.nil (k := 0)).tup).mono (by omega) (by omega)) (.cons (gd_none (by omega)) .nil)))))
    rintro k ρ ⟨hkk, S, hS, rfl⟩
    refine wb_mid (fun k ρ => kk + 84 ≤ k ∧ ∃ S : List PyData, Vs 16 S ∧ ρ = [.raw (.ref st), .d (boxD n cs), .d (.int (s : Int)), .d (.tuple [ow, oy]), .d (.list (ms.map PyData.int)), .d (.int (2 ^ n)), x6, x7, .d (.list S), .un, .un, .un]) ?_ ?_
    · refine ws_set 8 (by walk_at "tgt") (fun _ _ => rfl) (we_cat ?_)
      walk_at "name"
      refine we_mR2 (fun j => .tuple [.str "solid", .int j]) 6 (by walk_at "blk") rfl mr (fun _ => rfl) (fun _ => rfl) (fun _ _ => rfl) (we_sub (we_int (we_int ⟨_, _, rfl, rfl, we_min2 rfl mm (fun _ => rfl) (fun _ => rfl) (we_int (we_add ?_))⟩)))
      walk_at "name"
      refine we_int ⟨_, _, rfl, rfl, _, _, rfl, rfl, _, _, rfl, rfl, ?_, fun D j hj0 hj1 => ?_, ?_⟩
      · split <;> omega
      · repeat walk_at "dx"
        exact ⟨rfl, rfl⟩
      have hz : (if (2 : Int) ^ n + 1 < 9 then (2 : Int) ^ n + 1 else 9) ≤ 9 := by split <;> omega
      generalize (if (2 : Int) ^ n + 1 < 9 then (2 : Int) ^ n + 1 else 9) = z at hz
      have hl10 : ((rg (z - (0 - 1))).map fun j => PyData.tuple [.str "solid", .int (0 - 1 + j)]).length ≤ 10 := by rw [List.length_map, rg_length]; omega
      refine ⟨S, _, rfl, rfl, by have := hS.1; omega, hkk, _, hS.app ⟨hl10, fun x hx => ?_⟩, rfl⟩
      obtain ⟨j, hj, rfl⟩ := List.mem_map.mp hx
      have := mem_rg.mp hj
      exact (gd_pair (gd_str (k := 0) (Nat.le_refl _)) (gd_int (k := 0) (m := 33) (by omega) (Nat.le_refl _))).mono (by omega) (by omega)
    rintro k ρ ⟨hkk, S, hS, rfl⟩
    refine wb_mid (fun k ρ => kk + 84 ≤ k ∧ ∃ S : List PyData, Vs 19 S ∧ ρ = [.raw (.ref st), .d (boxD n cs), .d (.int (s : Int)), .d (.tuple [ow, oy]), .d (.list (ms.map PyData.int)), .d (.int (2 ^ n)), x6, x7, .d (.list S), .un, .un, .un]) ?_ ?_
    · refine ws_set 8 (by walk_at "tgt") (fun _ _ => rfl) (we_cat ?_)
      walk_at "name"
      refine we_lst (wa_cons (fun _ => rfl) (we_list hK rfl mL (fun _ => rfl) ?_))
      walk_at "name"
      refine ⟨_, rfl, wa_cons (fun _ => rfl) (we_catT hK ?_)⟩
      walk_at "name"
      refine we_tup (wa_cons (fun _ => rfl) (we_int (wa_nil ⟨by show 1 ≤ sizeLine; decide, _, _, rfl, rfl, by show 2 + 1 ≤ 1000000; decide, ?_⟩)))
      refine wa_cons (fun _ => rfl) (we_sliceT hK ?_)
      walk_at "name"
      refine we_int ⟨_, 1, rfl, rfl, wa_nil ⟨by show 3 ≤ sizeLine; decide, S, _, rfl, rfl, by have := hS.1; show S.length + 3 ≤ 1000000; omega, hkk, _, hS.app (.cons ?_ (.cons ?_ (.cons ?_ .nil))), rfl⟩⟩
      · obtain ⟨k', m', e1, e2, hg⟩ := gown.items
        exact hg.lst.mono (by omega) (by omega)
      · obtain ⟨k', m', e1, e2, hg⟩ := gown.items
        exact (hg.app (GL.one (gd_int (m := 33) (by decide) (Nat.le_refl _)))).tup.mono (by omega) (by omega)
      · obtain ⟨k', m', e1, e2, hg⟩ := gown.items
        exact (hg.take 1).tup.mono (by omega) (by omega)
    rintro k ρ ⟨hkk, S, hS, rfl⟩
    refine wb_mid (fun k ρ => kk + 84 ≤ k ∧ ∃ S : List PyData, Vs 23 S ∧ ρ = [.raw (.ref st), .d (boxD n cs), .d (.int (s : Int)), .d (.tuple [ow, oy]), .d (.list (ms.map PyData.int)), .d (.int (2 ^ n)), x6, x7, .d (.list S), .un, .un, .un]) ?_ ?_
    · refine ws_set 8 (by walk_at "tgt") (fun _ _ => rfl) (we_cat ?_)
      walk_at "name"
      refine we_lst (wa_cons (fun _ => rfl) ?_)
      repeat walk_at "dx"
      refine ⟨oy, rfl, ?_⟩
      repeat walk_at "dx"
      refine ⟨oy, rfl, ?_⟩
      repeat walk_at "dx"
      refine ⟨ow, rfl, ?_⟩
      repeat walk_at "dx"
      refine ⟨S, _, rfl, rfl, by have := hS.1; show S.length + 4 ≤ 1000000; omega, hkk, _, hS.app (.cons ((gd_pair (gd_str (k := 0) (Nat.le_refl _)) (gd_bool (k := 0) true (Nat.le_refl _))).mono (by omega) (by omega)) (.cons ((gd_pair (gd_str (k := 0) (Nat.le_refl _)) (gd_bool (k := 0) false (Nat.le_refl _))).mono (by omega) (by omega)) (.cons ((gd_pair (gd_str (k := 1) (Nat.le_refl _)) hoy).mono (by omega) (by omega)) (.cons ((gd_pair hoy (how.mono (k' := 1) (by omega) (Nat.le_refl _))).mono (by omega) (by omega)) .nil)))), rfl⟩
    rintro k ρ ⟨hkk, S, hS, rfl⟩
    have town : TL 0 2 (.tuple [ow, oy]) := tl_tup (by show 2 ≤ 66; decide) (List.forall_mem_cons.mpr ⟨tow, List.forall_mem_cons.mpr ⟨toy, fun _ z => (List.not_mem_nil z).elim⟩⟩)
    refine wb_cons (ws_for_range 9 (by walk_at "tgt") rfl mr (fun _ => rfl) (fun _ _ => rfl) (we_int ?_))
    refine ⟨fun j k ρ => kk + 84 ≤ k + 14 * j ∧ ∃ (S : List PyData) (x9 x10 : SV), Vs (23 + 2 * j) S ∧ ρ = [.raw (.ref st), .d (boxD n cs), .d (.int (s : Int)), .d (.tuple [ow, oy]), .d (.list (ms.map PyData.int)), .d (.int (2 ^ n)), x6, x7, .d (.list S), x9, x10, .un], 6, rfl, by decide, by decide, ⟨by omega, S, _, _, hS, rfl⟩, ?_, ?_⟩
    · rintro j k ρ hj ⟨hk3, S, x9, x10, hS, rfl⟩
      have hj6 : j < 6 := hj
      obtain ⟨k3, rfl⟩ : ∃ k3, k = k3 + 8 + 6 := ⟨k - 14, by omega⟩
      refine wb_cons (ws_set 10 (by walk_at "tgt") (fun _ _ => rfl) (we_callD dk g2 (by show 5 ≤ 6; decide) hK 0 rfl rfl (by walk_at "vis") rfl (wa_cons (fun _ => rfl) ?_)))
      walk_at "name"
      refine wa_nil ⟨⟨_, rfl, 0, by decide, town⟩, k3 + 8, rfl, ?_⟩
      rintro d1 ⟨x1, e1, hb1⟩
      cases e1
      refine wb_cons (ws_set 8 (by walk_at "tgt") (fun _ _ => rfl) (we_cat ?_))
      walk_at "name"
      refine we_lst (wa_cons (fun _ => rfl) ?_)
      walk_at "name"
      refine wa_cons (fun _ => rfl) (we_callD dk g3 (by show 6 ≤ 6; decide) hK 0 rfl rfl (by walk_at "vis") rfl (wa_cons (fun _ => rfl) ?_))
      walk_at "name"
      refine wa_nil ⟨⟨_, rfl, 1, Nat.le_refl _, hb1.tl 0 (by decide) town⟩, k3, rfl, ?_⟩
      rintro d2 ⟨x2, e2, hb2⟩
      cases e2
      have gd1 := hb1.gd _ _ gown
      have gd2 := hb2.gd _ _ gd1
      refine wa_nil ⟨by show 2 ≤ sizeLine; decide, S, _, rfl, rfl, by have := hS.1; show S.length + 2 ≤ 1000000; omega, ?_⟩
      exact wb_nil ⟨by omega, _, _, _, hS.app (.cons (gd1.mono (by omega) (by omega)) (.cons (gd2.mono (by omega) (by omega)) .nil)), rfl⟩
    · rintro k ρ ⟨hk3, S, x9, x10, hS, rfl⟩
      refine wb_cons (ws_ret ?_)
      walk_at "name"
      exact ⟨by omega, S, rfl, Nat.le_trans hS.1 (by decide), hS.2⟩
end

abbrev nRt : List Str := ["_law_state", "_law_box_here", "_law_switches", "_law_value", "_law_kept", "_law_found"]
theorem scRt : FnScope nRt ["_law_state", "_law_box_here", "_law_switches"] (defScope (topS 29)) := ⟨rfl, rfl, rfl, by decide +kernel, rfl, by decide +kernel, by decide +kernel⟩
def RRt : Rel := fun _ d => d = .bool true
section
variable {P : Program} {w : World} {K : PySem.W.Frag} {mg : Str → Option Value} {base : Heap}
theorem ok_rt18 {f : Addr} {fd : FuncData} (Fn : Fun K "_law_right" "_law_right" (topS 29) f fd) (mp : mg "repr" = none) (mi : mg "isinstance" = none) (mb : mg "bool" = none) (gv : DFn P w K mg base 7 "_law_values" 148 PreVal RVal) (gh : PFn P w K mg base 5 "solid_holds" RsohA) (ge : PFn P w K mg base 3 "_law_due" Rdue18) : FnG P w K mg base 8 f fd ["_law_state", "_law_box_here", "_law_switches"] (spDraw K 148 PreVal RRt) := by
  refine draw_ok (k := 7) Fn scRt (fun ds ⟨n, cs, s, e, _⟩ => by rw [e]; rfl) (fun F st a r ds kk dk hK ⟨n, cs, s, e, hn, hb, hs⟩ => ?_)
  subst e
  have h64 : 2 ^ n ≤ 64 := Nat.pow_le_pow_right (n := 2) (by decide) hn
  refine wb_cons (ws_for_list 3 (by walk_at "tgt") hK (fun _ _ => rfl) ?_)
  repeat walk_at "dx"
  refine ⟨⟨n, cs, s, rfl, hn, hb, hs⟩, kk, rfl, ?_⟩
  rintro d ⟨S, rfl, hSl, hS⟩
  refine ⟨fun i k ρ => k = kk ∧ ∃ x3 x4 x5, ρ = [.raw (.ref st), .d (boxD n cs), .d (.int (s : Int)), x3, x4, x5], S, rfl, ⟨rfl, _, _, _, rfl⟩, ?_, ?_⟩
  · rintro i y k ρ hy ⟨rfl, x3, x4, x5, rfl⟩
    have gy := hS y (List.mem_of_getElem? hy)
    have hfy : FineA 20000 8 y := gy.a
    have hfb : FineA 20000 8 (boxD n cs) := (box_fine hn hb).a.mono
    have hrp := (fineA_list (L := 2) (ds := [boxD n cs, y]) (List.forall_mem_cons.mpr ⟨hfb, List.forall_mem_cons.mpr ⟨hfy, fun _ z => (List.not_mem_nil z).elim⟩⟩) (Nat.le_refl _)).ok
    have hlen : ∀ w ps, y = .tuple [w, .tuple ps] → ps.length ≤ 1000000 := fun w ps e => by
      subst e
      have := gd_len gy
      omega
    show WPB F _ _ [.raw (.ref st), .d (boxD n cs), .d (.int (s : Int)), .d y, x4, x5] _ _
    refine wb_cons (ws_set 4 (by walk_at "tgt") (fun _ _ => rfl) (we_reprA hK rfl mp (fun _ => rfl) ?_))
    repeat walk_at "dx"
    refine ⟨hrp, ?_⟩
    refine wb_cons (ws_set 5 (by walk_at "tgt") (fun _ _ => rfl) ?_)
    repeat walk_at "dx"
    refine ⟨_, ⟨n, cs, (s : Int), y, rfl, hn, hb, ⟨by omega, by omega⟩, rfl⟩, ?_⟩
    refine wb_cons (ws_if (wt_bool (ww_or (wt_not (wt_val (fun _ _ => rfl) (we_isi "bool" kit_bool hK rfl mi rfl mb rfl (by decide) rfl (fun _ => rfl) ?_))))))
    repeat walk_at "dx"
    refine itN rfl (ww_or (wt_ne hK ?_))
    repeat walk_at "dx"
    refine ⟨_, ⟨n, cs, s, y, rfl, hn, hb, hs, hlen, rfl⟩, ?_⟩
    refine ⟨rfl, rfl, ?_⟩
    refine itN (by show (!(solD n cs (s : Int) y == solD n cs (s : Int) y)) = false; rw [beq_self_eq_true]; rfl) (ww_or1 (wt_neT (we_reprA hK rfl mp (fun _ => rfl) ?_)))
    repeat walk_at "dx"
    refine ⟨hrp, ?_⟩
    repeat walk_at "dx"
    refine iteNe rfl ?_
    repeat walk_at "dx"
    exact ⟨rfl, _, _, _, rfl⟩
  · rintro k ρ ⟨rfl, x3, x4, x5, rfl⟩
    repeat walk_at "dx"
    exact ⟨Nat.le_refl _, rfl⟩
end

abbrev nLaw : List Str := ["_law_script", "_law_state", "_law_turn", "_law_box_here", "_law_k"]
theorem scLaw : FnScope nLaw ["_law_script"] (defScope (topS 30)) := ⟨rfl, rfl, rfl, by decide +kernel, rfl, by decide +kernel, by decide +kernel⟩
section
variable {P : Program} {w : World} {K : PySem.W.Frag} {mg : Str → Option Value} {base : Heap}
theorem ok_law {f : Addr} {fd : FuncData} (Fn : Fun K "law" "law" (topS 30) f fd) (mr : mg "range" = none)
    (gd : ∃ (fa : Addr) (fdd : FuncData), FnG P w K mg base 1 fa fdd ["_law_script"] (spDraws K) ∧ mg "_law_draws" = some (.ref fa) ∧ PySem.W.keepIn K (.ref fa) = true ∧ L2.Binds K fdd ["_law_script"] [])
    (gx : DFn P w K mg base 2 "_law_box" 40 PreBox RBox) (gw : PFn P w K mg base 1 "_law_power" Rpow) (gi : DFn P w K mg base 3 "_law_wide" 25 PreSix RWide) (gn : DFn P w K mg base 1 "_law_next" 1 PreNext RNext) (gr : DFn P w K mg base 8 "_law_right" 148 PreVal RRt) :
    FnG P w K mg base 9 f fd ["_law_script"] (spLaw K) := by
  refine lawB_ok (k := 8) Fn scLaw rfl gd (by decide) rfl rfl (.inl rfl) (.inl rfl) rfl (fun _ => rfl) (fun F s a r dk hK => ?_)
  have key : ∀ (n : Nat) (cs : List Int) (v : Int), n ≤ 6 → 0 ≤ v → v < 2 ^ n → ∃ q : Nat, v = (q : Int) ∧ q < 2 ^ n := fun n cs v hn v0 v1 => by
    obtain ⟨q, rfl⟩ := Int.eq_ofNat_of_zero_le v0
    rw [show (2 : Int) ^ n = ((2 ^ n : Nat) : Int) by norm_cast] at v1
    exact ⟨q, rfl, by omega⟩
  refine wb_cons (ws_for_range 2 (by walk_at "tgt") rfl mr (fun _ => rfl) (fun _ _ => rfl) (we_int ?_))
  refine ⟨fun j k ρ => 900000 ≤ k + 1000 * j ∧ ∃ x2 x3 x4, ρ = [.un, .raw (.ref s), x2, x3, x4], 3, rfl, by decide, by decide, ⟨by decide, _, _, _, rfl⟩, ?_, ?_⟩
  · rintro j k ρ hj ⟨hk, x2, x3, x4, rfl⟩
    have hj3 : j < 3 := hj
    obtain ⟨k2, rfl⟩ : ∃ k2, k = k2 + 40 := ⟨k - 40, by omega⟩
    refine wb_cons (ws_set 3 (by walk_at "tgt") (fun _ _ => rfl) ?_)
    repeat walk_at "dx"
    refine ⟨⟨4, rfl, by decide⟩, k2, rfl, ?_⟩
    rintro d ⟨m', n, cs, e1, hnm, hb, rfl⟩
    have e2 := PyData.int.inj (List.cons.inj e1).1
    have hn : n ≤ 6 := by omega
    have hp := pow_le64 hn
    refine wb_cons (ws_for_range 4 (by walk_at "tgt") rfl mr (fun _ => rfl) (fun _ _ => rfl) (we_int ?_))
    refine ⟨fun i k ρ => k2 ≤ k + 149 * i ∧ ∃ x4, ρ = [.un, .raw (.ref s), .d (.int (j : Int)), .d (boxD n cs), x4], 4, rfl, by decide, by decide, ⟨by omega, _, rfl⟩, ?_, ?_⟩
    · rintro i k ρ hi ⟨hk3, x4, rfl⟩
      have hi4 : i < 4 := hi
      obtain ⟨k3, rfl⟩ : ∃ k3, k = k3 + 148 + 1 := ⟨k - 149, by omega⟩
      refine wb_cons (ws_if (wt_not (wt_val (fun _ _ => rfl) (we_callD dk gr (by show 8 ≤ 8; decide) hK 1 rfl rfl (by walk_at "vis") rfl (wa_cons (fun _ => rfl) ?_)))))
      walk_at "name"
      refine wa_cons (fun _ => rfl) (we_callD dk gn (by show 1 ≤ 8; decide) hK 1 rfl rfl (by walk_at "vis") rfl ?_)
      repeat walk_at "dx"
      refine ⟨.int (n : Int), rfl, wa_nil ⟨_, ⟨n, rfl, by omega, rfl⟩, ?_⟩⟩
      refine wa_nil ⟨⟨_, rfl, by omega, by omega⟩, k3 + 148, rfl, ?_⟩
      rintro d ⟨m', v, e1, rfl, v0, v1⟩
      cases e1
      obtain ⟨q, rfl, hq⟩ := key n cs v hn v0 v1
      refine wa_nil ⟨⟨n, cs, q, rfl, hn, hb, hq⟩, k3, rfl, ?_⟩
      rintro d rfl
      refine ⟨true, rfl, itN rfl (wb_nil (wb_nil ⟨by omega, _, rfl⟩))⟩
    · rintro k ρ ⟨hk3, x4, rfl⟩
      have hk3 : k2 ≤ k + 149 * 4 := hk3
      exact wb_nil ⟨by omega, _, _, _, rfl⟩
  · rintro k ρ ⟨hk, x2, x3, x4, rfl⟩
    have hk : 900000 ≤ k + 3000 := hk
    obtain ⟨k2, rfl⟩ : ∃ k2, k = k2 + 148 + 1 + 148 + 1 + 25 := ⟨k - 323, by omega⟩
    refine wb_cons (ws_set 3 (by walk_at "tgt") (fun _ _ => rfl) ?_)
    repeat walk_at "dx"
    refine ⟨⟨12, rfl, by decide, by decide⟩, k2 + 148 + 1 + 148 + 1, rfl, ?_⟩
    rintro d ⟨cs, hb, rfl⟩
    refine wb_cons (ws_ret (we_and (we_callD dk gr (by show 8 ≤ 8; decide) hK 1 rfl rfl (by walk_at "vis") rfl (wa_cons (fun _ => rfl) ?_))))
    walk_at "name"
    refine wa_cons (fun _ => rfl) (we_callD dk gn (by show 1 ≤ 8; decide) hK 1 rfl rfl (by walk_at "vis") rfl (wa_cons (fun _ => rfl) (we_int (wa_nil ⟨⟨64, rfl, by decide, by decide⟩, k2 + 148 + 1 + 148, rfl, ?_⟩))))
    rintro d ⟨m', v, e1, rfl, v0, v1⟩
    cases e1
    obtain ⟨q, rfl, hq⟩ := key 6 cs v (Nat.le_refl _) v0 v1
    refine wa_nil ⟨⟨6, cs, q, rfl, Nat.le_refl _, hb, hq⟩, k2 + 148 + 1, rfl, ?_⟩
    rintro d rfl
    refine ⟨true, rfl, itP rfl (we_one (we_callD dk gr (by show 8 ≤ 8; decide) hK 1 rfl rfl (by walk_at "vis") rfl (wa_cons (fun _ => rfl) ?_)))⟩
    walk_at "name"
    refine wa_cons (fun _ => rfl) (we_callD dk gn (by show 1 ≤ 8; decide) hK 1 rfl rfl (by walk_at "vis") rfl (wa_cons (fun _ => rfl) (we_int (wa_nil ⟨⟨64, rfl, by decide, by decide⟩, k2 + 148, rfl, ?_⟩))))
    rintro d ⟨m', v, e1, rfl, v0, v1⟩
    cases e1
    obtain ⟨q2, rfl, hq2⟩ := key 6 cs v (Nat.le_refl _) v0 v1
    refine wa_nil ⟨⟨6, cs, q2, rfl, Nat.le_refl _, hb, hq2⟩, k2, rfl, ?_⟩
    rintro d rfl
    rfl
end



/-! ### what the top has written; the end -/
theorem all_mk {P : Program} {w : World} {K : PySem.W.Frag} {h : Heap} {mg : Str → Option Value} {fa f0 f1 f2 f3 f4 f5 f6 f7 f8 f9 f10 f11 f12 f13 f14 f15 f16 f17 f18 f19 f20 f21 f22 f23 f24 f25 f26 f27 : Addr} (X : K.In h) (G : h.Ns mainGlobals mg) (hfa : mg "law" = some (.ref fa))
    {od0 an0 od1 an1 od2 an2 od3 an3 od4 an4 od5 an5 od6 an6 od7 an7 od8 an8 od9 an9 od10 an10 od11 an11 od12 an12 od13 an13 od14 an14 od15 an15 od16 an16 od17 an17 od18 an18 od19 an19 od20 an20 od21 an21 od22 an22 od23 an23 od24 an24 od25 an25 od26 an26 od27 an27 : Option Addr} {sl0 sl1 sl2 sl3 sl4 sl5 sl6 sl7 sl8 sl9 sl10 sl11 sl12 sl13 sl14 sl15 sl16 sl17 sl18 sl19 sl20 sl21 sl22 sl23 sl24 sl25 sl26 sl27 : Array (Option Value)} {oc0 kV0 dc0 pm0 cd0 ct0 oc1 kV1 dc1 pm1 cd1 ct1 oc2 kV2 dc2 pm2 cd2 ct2 oc3 kV3 dc3 pm3 cd3 ct3 oc4 kV4 dc4 pm4 cd4 ct4 oc5 kV5 dc5 pm5 cd5 ct5 oc6 kV6 dc6 pm6 cd6 ct6 oc7 kV7 dc7 pm7 cd7 ct7 oc8 kV8 dc8 pm8 cd8 ct8 oc9 kV9 dc9 pm9 cd9 ct9 oc10 kV10 dc10 pm10 cd10 ct10 oc11 kV11 dc11 pm11 cd11 ct11 oc12 kV12 dc12 pm12 cd12 ct12 oc13 kV13 dc13 pm13 cd13 ct13 oc14 kV14 dc14 pm14 cd14 ct14 oc15 kV15 dc15 pm15 cd15 ct15 oc16 kV16 dc16 pm16 cd16 ct16 oc17 kV17 dc17 pm17 cd17 ct17 oc18 kV18 dc18 pm18 cd18 ct18 oc19 kV19 dc19 pm19 cd19 ct19 oc20 kV20 dc20 pm20 cd20 ct20 oc21 kV21 dc21 pm21 cd21 ct21 oc22 kV22 dc22 pm22 cd22 ct22 oc23 kV23 dc23 pm23 cd23 ct23 oc24 kV24 dc24 pm24 cd24 ct24 oc25 kV25 dc25 pm25 cd25 ct25 oc26 kV26 dc26 pm26 cd26 ct26 oc27 kV27 dc27 pm27 cd27 ct27 : Value}
    (a0 : PySem.W.nsIn K mainGlobals "is_number" = some (some (.ref f0))) (l0 : K.lookup f0 = some ⟨oc0, od0, .func (PySem.W.fnOf "is_number" "is_number" (defArgs (topS 1)) (defBody (topS 1)) (defScope (topS 1)) .none kV0 dc0 pm0 an0 cd0 ct0), sl0⟩) (c0 : PySem.W.codeIn K cd0 "is_number" = true) (k0 : PySem.W.keepIn K (.ref f0) = true)
    (a1 : PySem.W.nsIn K mainGlobals "is_one_of" = some (some (.ref f1))) (l1 : K.lookup f1 = some ⟨oc1, od1, .func (PySem.W.fnOf "is_one_of" "is_one_of" (defArgs (topS 2)) (defBody (topS 2)) (defScope (topS 2)) .none kV1 dc1 pm1 an1 cd1 ct1), sl1⟩) (c1 : PySem.W.codeIn K cd1 "is_one_of" = true) (k1 : PySem.W.keepIn K (.ref f1) = true)
    (a2 : PySem.W.nsIn K mainGlobals "is_pair" = some (some (.ref f2))) (l2 : K.lookup f2 = some ⟨oc2, od2, .func (PySem.W.fnOf "is_pair" "is_pair" (defArgs (topS 3)) (defBody (topS 3)) (defScope (topS 3)) .none kV2 dc2 pm2 an2 cd2 ct2), sl2⟩) (c2 : PySem.W.codeIn K cd2 "is_pair" = true) (k2 : PySem.W.keepIn K (.ref f2) = true)
    (a3 : PySem.W.nsIn K mainGlobals "is_selection" = some (some (.ref f3))) (l3 : K.lookup f3 = some ⟨oc3, od3, .func (PySem.W.fnOf "is_selection" "is_selection" (defArgs (topS 4)) (defBody (topS 4)) (defScope (topS 4)) .none kV3 dc3 pm3 an3 cd3 ct3), sl3⟩) (c3 : PySem.W.codeIn K cd3 "is_selection" = true) (k3 : PySem.W.keepIn K (.ref f3) = true)
    (a4 : PySem.W.nsIn K mainGlobals "subsets_of" = some (some (.ref f4))) (l4 : K.lookup f4 = some ⟨oc4, od4, .func (PySem.W.fnOf "subsets_of" "subsets_of" (defArgs (topS 5)) (defBody (topS 5)) (defScope (topS 5)) .none kV4 dc4 pm4 an4 cd4 ct4), sl4⟩) (c4 : PySem.W.codeIn K cd4 "subsets_of" = true) (k4 : PySem.W.keepIn K (.ref f4) = true)
    (a5 : PySem.W.nsIn K mainGlobals "sets_outside" = some (some (.ref f5))) (l5 : K.lookup f5 = some ⟨oc5, od5, .func (PySem.W.fnOf "sets_outside" "sets_outside" (defArgs (topS 6)) (defBody (topS 6)) (defScope (topS 6)) .none kV5 dc5 pm5 an5 cd5 ct5), sl5⟩) (c5 : PySem.W.codeIn K cd5 "sets_outside" = true) (k5 : PySem.W.keepIn K (.ref f5) = true)
    (a6 : PySem.W.nsIn K mainGlobals "cube_cards" = some (some (.ref f6))) (l6 : K.lookup f6 = some ⟨oc6, od6, .func (PySem.W.fnOf "cube_cards" "cube_cards" (defArgs (topS 8)) (defBody (topS 8)) (defScope (topS 8)) .none kV6 dc6 pm6 an6 cd6 ct6), sl6⟩) (c6 : PySem.W.codeIn K cd6 "cube_cards" = true) (k6 : PySem.W.keepIn K (.ref f6) = true)
    (a7 : PySem.W.nsIn K mainGlobals "first_missing" = some (some (.ref f7))) (l7 : K.lookup f7 = some ⟨oc7, od7, .func (PySem.W.fnOf "first_missing" "first_missing" (defArgs (topS 9)) (defBody (topS 9)) (defScope (topS 9)) .none kV7 dc7 pm7 an7 cd7 ct7), sl7⟩) (c7 : PySem.W.codeIn K cd7 "first_missing" = true) (k7 : PySem.W.keepIn K (.ref f7) = true)
    (a8 : PySem.W.nsIn K mainGlobals "bases_of" = some (some (.ref f8))) (l8 : K.lookup f8 = some ⟨oc8, od8, .func (PySem.W.fnOf "bases_of" "bases_of" (defArgs (topS 10)) (defBody (topS 10)) (defScope (topS 10)) .none kV8 dc8 pm8 an8 cd8 ct8), sl8⟩) (c8 : PySem.W.codeIn K cd8 "bases_of" = true) (k8 : PySem.W.keepIn K (.ref f8) = true)
    (a9 : PySem.W.nsIn K mainGlobals "solid_certificate" = some (some (.ref f9))) (l9 : K.lookup f9 = some ⟨oc9, od9, .func (PySem.W.fnOf "solid_certificate" "solid_certificate" (defArgs (topS 11)) (defBody (topS 11)) (defScope (topS 11)) .none kV9 dc9 pm9 an9 cd9 ct9), sl9⟩) (c9 : PySem.W.codeIn K cd9 "solid_certificate" = true) (k9 : PySem.W.keepIn K (.ref f9) = true)
    (a10 : PySem.W.nsIn K mainGlobals "solid_holds" = some (some (.ref f10))) (l10 : K.lookup f10 = some ⟨oc10, od10, .func (PySem.W.fnOf "solid_holds" "solid_holds" (defArgs (topS 12)) (defBody (topS 12)) (defScope (topS 12)) .none kV10 dc10 pm10 an10 cd10 ct10), sl10⟩) (c10 : PySem.W.codeIn K cd10 "solid_holds" = true) (k10 : PySem.W.keepIn K (.ref f10) = true)
    (a11 : PySem.W.nsIn K mainGlobals "broken_holds" = some (some (.ref f11))) (l11 : K.lookup f11 = some ⟨oc11, od11, .func (PySem.W.fnOf "broken_holds" "broken_holds" (defArgs (topS 13)) (defBody (topS 13)) (defScope (topS 13)) .none kV11 dc11 pm11 an11 cd11 ct11), sl11⟩) (c11 : PySem.W.codeIn K cd11 "broken_holds" = true) (k11 : PySem.W.keepIn K (.ref f11) = true)
    (a12 : PySem.W.nsIn K mainGlobals "_law_draws" = some (some (.ref f12))) (l12 : K.lookup f12 = some ⟨oc12, od12, .func (PySem.W.fnOf "_law_draws" "_law_draws" (defArgs (topS 15)) (defBody (topS 15)) (defScope (topS 15)) .none kV12 dc12 pm12 an12 cd12 ct12), sl12⟩) (c12 : PySem.W.codeIn K cd12 "_law_draws" = true) (k12 : PySem.W.keepIn K (.ref f12) = true)
    (a13 : PySem.W.nsIn K mainGlobals "_law_next" = some (some (.ref f13))) (l13 : K.lookup f13 = some ⟨oc13, od13, .func (PySem.W.fnOf "_law_next" "_law_next" (defArgs (topS 16)) (defBody (topS 16)) (defScope (topS 16)) .none kV13 dc13 pm13 an13 cd13 ct13), sl13⟩) (c13 : PySem.W.codeIn K cd13 "_law_next" = true) (k13 : PySem.W.keepIn K (.ref f13) = true)
    (a14 : PySem.W.nsIn K mainGlobals "_law_power" = some (some (.ref f14))) (l14 : K.lookup f14 = some ⟨oc14, od14, .func (PySem.W.fnOf "_law_power" "_law_power" (defArgs (topS 17)) (defBody (topS 17)) (defScope (topS 17)) .none kV14 dc14 pm14 an14 cd14 ct14), sl14⟩) (c14 : PySem.W.codeIn K cd14 "_law_power" = true) (k14 : PySem.W.keepIn K (.ref f14) = true)
    (a15 : PySem.W.nsIn K mainGlobals "_law_one" = some (some (.ref f15))) (l15 : K.lookup f15 = some ⟨oc15, od15, .func (PySem.W.fnOf "_law_one" "_law_one" (defArgs (topS 18)) (defBody (topS 18)) (defScope (topS 18)) .none kV15 dc15 pm15 an15 cd15 ct15), sl15⟩) (c15 : PySem.W.codeIn K cd15 "_law_one" = true) (k15 : PySem.W.keepIn K (.ref f15) = true)
    (a16 : PySem.W.nsIn K mainGlobals "_law_size" = some (some (.ref f16))) (l16 : K.lookup f16 = some ⟨oc16, od16, .func (PySem.W.fnOf "_law_size" "_law_size" (defArgs (topS 19)) (defBody (topS 19)) (defScope (topS 19)) .none kV16 dc16 pm16 an16 cd16 ct16), sl16⟩) (c16 : PySem.W.codeIn K cd16 "_law_size" = true) (k16 : PySem.W.keepIn K (.ref f16) = true)
    (a17 : PySem.W.nsIn K mainGlobals "_law_parts" = some (some (.ref f17))) (l17 : K.lookup f17 = some ⟨oc17, od17, .func (PySem.W.fnOf "_law_parts" "_law_parts" (defArgs (topS 20)) (defBody (topS 20)) (defScope (topS 20)) .none kV17 dc17 pm17 an17 cd17 ct17), sl17⟩) (c17 : PySem.W.codeIn K cd17 "_law_parts" = true) (k17 : PySem.W.keepIn K (.ref f17) = true)
    (a18 : PySem.W.nsIn K mainGlobals "_law_box" = some (some (.ref f18))) (l18 : K.lookup f18 = some ⟨oc18, od18, .func (PySem.W.fnOf "_law_box" "_law_box" (defArgs (topS 21)) (defBody (topS 21)) (defScope (topS 21)) .none kV18 dc18 pm18 an18 cd18 ct18), sl18⟩) (c18 : PySem.W.codeIn K cd18 "_law_box" = true) (k18 : PySem.W.keepIn K (.ref f18) = true)
    (a19 : PySem.W.nsIn K mainGlobals "_law_six" = some (some (.ref f19))) (l19 : K.lookup f19 = some ⟨oc19, od19, .func (PySem.W.fnOf "_law_six" "_law_six" (defArgs (topS 22)) (defBody (topS 22)) (defScope (topS 22)) .none kV19 dc19 pm19 an19 cd19 ct19), sl19⟩) (c19 : PySem.W.codeIn K cd19 "_law_six" = true) (k19 : PySem.W.keepIn K (.ref f19) = true)
    (a20 : PySem.W.nsIn K mainGlobals "_law_wide" = some (some (.ref f20))) (l20 : K.lookup f20 = some ⟨oc20, od20, .func (PySem.W.fnOf "_law_wide" "_law_wide" (defArgs (topS 23)) (defBody (topS 23)) (defScope (topS 23)) .none kV20 dc20 pm20 an20 cd20 ct20), sl20⟩) (c20 : PySem.W.codeIn K cd20 "_law_wide" = true) (k20 : PySem.W.keepIn K (.ref f20) = true)
    (a21 : PySem.W.nsIn K mainGlobals "_law_bases" = some (some (.ref f21))) (l21 : K.lookup f21 = some ⟨oc21, od21, .func (PySem.W.fnOf "_law_bases" "_law_bases" (defArgs (topS 24)) (defBody (topS 24)) (defScope (topS 24)) .none kV21 dc21 pm21 an21 cd21 ct21), sl21⟩) (c21 : PySem.W.codeIn K cd21 "_law_bases" = true) (k21 : PySem.W.keepIn K (.ref f21) = true)
    (a22 : PySem.W.nsIn K mainGlobals "_law_is_int" = some (some (.ref f22))) (l22 : K.lookup f22 = some ⟨oc22, od22, .func (PySem.W.fnOf "_law_is_int" "_law_is_int" (defArgs (topS 25)) (defBody (topS 25)) (defScope (topS 25)) .none kV22 dc22 pm22 an22 cd22 ct22), sl22⟩) (c22 : PySem.W.codeIn K cd22 "_law_is_int" = true) (k22 : PySem.W.keepIn K (.ref f22) = true)
    (a23 : PySem.W.nsIn K mainGlobals "_law_bent" = some (some (.ref f23))) (l23 : K.lookup f23 = some ⟨oc23, od23, .func (PySem.W.fnOf "_law_bent" "_law_bent" (defArgs (topS 26)) (defBody (topS 26)) (defScope (topS 26)) .none kV23 dc23 pm23 an23 cd23 ct23), sl23⟩) (c23 : PySem.W.codeIn K cd23 "_law_bent" = true) (k23 : PySem.W.keepIn K (.ref f23) = true)
    (a24 : PySem.W.nsIn K mainGlobals "_law_due" = some (some (.ref f24))) (l24 : K.lookup f24 = some ⟨oc24, od24, .func (PySem.W.fnOf "_law_due" "_law_due" (defArgs (topS 27)) (defBody (topS 27)) (defScope (topS 27)) .none kV24 dc24 pm24 an24 cd24 ct24), sl24⟩) (c24 : PySem.W.codeIn K cd24 "_law_due" = true) (k24 : PySem.W.keepIn K (.ref f24) = true)
    (a25 : PySem.W.nsIn K mainGlobals "_law_values" = some (some (.ref f25))) (l25 : K.lookup f25 = some ⟨oc25, od25, .func (PySem.W.fnOf "_law_values" "_law_values" (defArgs (topS 28)) (defBody (topS 28)) (defScope (topS 28)) .none kV25 dc25 pm25 an25 cd25 ct25), sl25⟩) (c25 : PySem.W.codeIn K cd25 "_law_values" = true) (k25 : PySem.W.keepIn K (.ref f25) = true)
    (a26 : PySem.W.nsIn K mainGlobals "_law_right" = some (some (.ref f26))) (l26 : K.lookup f26 = some ⟨oc26, od26, .func (PySem.W.fnOf "_law_right" "_law_right" (defArgs (topS 29)) (defBody (topS 29)) (defScope (topS 29)) .none kV26 dc26 pm26 an26 cd26 ct26), sl26⟩) (c26 : PySem.W.codeIn K cd26 "_law_right" = true) (k26 : PySem.W.keepIn K (.ref f26) = true)
    (a27 : PySem.W.nsIn K mainGlobals "law" = some (some (.ref f27))) (l27 : K.lookup f27 = some ⟨oc27, od27, .func (PySem.W.fnOf "law" "law" (defArgs (topS 30)) (defBody (topS 30)) (defScope (topS 30)) .none kV27 dc27 pm27 an27 cd27 ct27), sl27⟩) (c27 : PySem.W.codeIn K cd27 "law" = true) (k27 : PySem.W.keepIn K (.ref f27) = true)
    (z0 : PySem.W.nsIn K mainGlobals "range" = some none)
    (z1 : PySem.W.nsIn K mainGlobals "tuple" = some none)
    (z2 : PySem.W.nsIn K mainGlobals "len" = some none)
    (z3 : PySem.W.nsIn K mainGlobals "repr" = some none)
    (z4 : PySem.W.nsIn K mainGlobals "abs" = some none)
    (z5 : PySem.W.nsIn K mainGlobals "int" = some none)
    (z6 : PySem.W.nsIn K mainGlobals "list" = some none)
    (z7 : PySem.W.nsIn K mainGlobals "sorted" = some none)
    (z8 : PySem.W.nsIn K mainGlobals "set" = some none)
    (z9 : PySem.W.nsIn K mainGlobals "min" = some none)
    (z10 : PySem.W.nsIn K mainGlobals "isinstance" = some none)
    (z11 : PySem.W.nsIn K mainGlobals "bool" = some none)
    (z12 : PySem.W.nsIn K mainGlobals "str" = some none)
    (z13 : PySem.W.nsIn K mainGlobals "zip" = some none)
    (z14 : PySem.W.nsIn K mainGlobals "all" = some none)
    : ∃ fd : FuncData, (∀ (s : Shared) (v : Value), BindsTo s fd ⟨[v], []⟩ [("_law_script", v)]) ∧ ∀ base : Heap, K.In base → base.Ns mainGlobals mg → FnG P w K mg base 9 fa fd ["_law_script"] (spLaw K) := by
  have e := hfa.symm.trans (PySem.W.mg_of X G a27)
  cases e
  have F0 := fun_mk (st := topS 1) l0 c0 k0
  have m0 := PySem.W.mg_of X G a0
  have b0 := F0.binds (ps := ["value"]) fun _ _ _ _ _ _ us hl => match us, hl with | [_], _ => rfl
  have F1 := fun_mk (st := topS 2) l1 c1 k1
  have m1 := PySem.W.mg_of X G a1
  have b1 := F1.binds (ps := ["numbers", "value"]) fun _ _ _ _ _ _ us hl => match us, hl with | [_, _], _ => rfl
  have F2 := fun_mk (st := topS 3) l2 c2 k2
  have m2 := PySem.W.mg_of X G a2
  have b2 := F2.binds (ps := ["value"]) fun _ _ _ _ _ _ us hl => match us, hl with | [_], _ => rfl
  have F3 := fun_mk (st := topS 4) l3 c3 k3
  have m3 := PySem.W.mg_of X G a3
  have b3 := F3.binds (ps := ["choices", "value"]) fun _ _ _ _ _ _ us hl => match us, hl with | [_, _], _ => rfl
  have F4 := fun_mk (st := topS 5) l4 c4 k4
  have m4 := PySem.W.mg_of X G a4
  have b4 := F4.binds (ps := ["switches"]) fun _ _ _ _ _ _ us hl => match us, hl with | [_], _ => rfl
  have F5 := fun_mk (st := topS 6) l5 c5 k5
  have m5 := PySem.W.mg_of X G a5
  have b5 := F5.binds (ps := ["n", "switches"]) fun _ _ _ _ _ _ us hl => match us, hl with | [_, _], _ => rfl
  have F6 := fun_mk (st := topS 8) l6 c6 k6
  have m6 := PySem.W.mg_of X G a6
  have b6 := F6.binds (ps := ["cube"]) fun _ _ _ _ _ _ us hl => match us, hl with | [_], _ => rfl
  have F7 := fun_mk (st := topS 9) l7 c7 k7
  have m7 := PySem.W.mg_of X G a7
  have b7 := F7.binds (ps := ["cards", "cube"]) fun _ _ _ _ _ _ us hl => match us, hl with | [_, _], _ => rfl
  have F8 := fun_mk (st := topS 10) l8 c8 k8
  have m8 := PySem.W.mg_of X G a8
  have b8 := F8.binds (ps := ["box", "switches"]) fun _ _ _ _ _ _ us hl => match us, hl with | [_, _], _ => rfl
  have F9 := fun_mk (st := topS 11) l9 c9 k9
  have m9 := PySem.W.mg_of X G a9
  have b9 := F9.binds (ps := ["box", "switches"]) fun _ _ _ _ _ _ us hl => match us, hl with | [_, _], _ => rfl
  have F10 := fun_mk (st := topS 12) l10 c10 k10
  have m10 := PySem.W.mg_of X G a10
  have b10 := F10.binds (ps := ["box", "switches", "value"]) fun _ _ _ _ _ _ us hl => match us, hl with | [_, _, _], _ => rfl
  have F11 := fun_mk (st := topS 13) l11 c11 k11
  have m11 := PySem.W.mg_of X G a11
  have b11 := F11.binds (ps := ["box", "switches", "value"]) fun _ _ _ _ _ _ us hl => match us, hl with | [_, _, _], _ => rfl
  have F12 := fun_mk (st := topS 15) l12 c12 k12
  have m12 := PySem.W.mg_of X G a12
  have b12 := F12.binds (ps := ["_law_script"]) fun _ _ _ _ _ _ us hl => match us, hl with | [_], _ => rfl
  have F13 := fun_mk (st := topS 16) l13 c13 k13
  have m13 := PySem.W.mg_of X G a13
  have b13 := F13.binds (ps := ["_law_state", "_law_many"]) fun _ _ _ _ _ _ us hl => match us, hl with | [_, _], _ => rfl
  have F14 := fun_mk (st := topS 17) l14 c14 k14
  have m14 := PySem.W.mg_of X G a14
  have b14 := F14.binds (ps := ["_law_k"]) fun _ _ _ _ _ _ us hl => match us, hl with | [_], _ => rfl
  have F15 := fun_mk (st := topS 18) l15 c15 k15
  have m15 := PySem.W.mg_of X G a15
  have b15 := F15.binds (ps := ["_law_state", "_law_items"]) fun _ _ _ _ _ _ us hl => match us, hl with | [_, _], _ => rfl
  have F16 := fun_mk (st := topS 19) l16 c16 k16
  have m16 := PySem.W.mg_of X G a16
  have b16 := F16.binds (ps := ["_law_switches"]) fun _ _ _ _ _ _ us hl => match us, hl with | [_], _ => rfl
  have F17 := fun_mk (st := topS 20) l17 c17 k17
  have m17 := PySem.W.mg_of X G a17
  have b17 := F17.binds (ps := ["_law_switches"]) fun _ _ _ _ _ _ us hl => match us, hl with | [_], _ => rfl
  have F18 := fun_mk (st := topS 21) l18 c18 k18
  have m18 := PySem.W.mg_of X G a18
  have b18 := F18.binds (ps := ["_law_state", "_law_most"]) fun _ _ _ _ _ _ us hl => match us, hl with | [_, _], _ => rfl
  have F19 := fun_mk (st := topS 22) l19 c19 k19
  have m19 := PySem.W.mg_of X G a19
  have b19 := F19.binds (ps := ["_law_state", "_law_most"]) fun _ _ _ _ _ _ us hl => match us, hl with | [_, _], _ => rfl
  have F20 := fun_mk (st := topS 23) l20 c20 k20
  have m20 := PySem.W.mg_of X G a20
  have b20 := F20.binds (ps := ["_law_state", "_law_most"]) fun _ _ _ _ _ _ us hl => match us, hl with | [_, _], _ => rfl
  have F21 := fun_mk (st := topS 24) l21 c21 k21
  have m21 := PySem.W.mg_of X G a21
  have b21 := F21.binds (ps := ["_law_box_here", "_law_switches"]) fun _ _ _ _ _ _ us hl => match us, hl with | [_, _], _ => rfl
  have F22 := fun_mk (st := topS 25) l22 c22 k22
  have m22 := PySem.W.mg_of X G a22
  have b22 := F22.binds (ps := ["_law_value", "_law_limit"]) fun _ _ _ _ _ _ us hl => match us, hl with | [_, _], _ => rfl
  have F23 := fun_mk (st := topS 26) l23 c23 k23
  have m23 := PySem.W.mg_of X G a23
  have b23 := F23.binds (ps := ["_law_state", "_law_value"]) fun _ _ _ _ _ _ us hl => match us, hl with | [_, _], _ => rfl
  have F24 := fun_mk (st := topS 27) l24 c24 k24
  have m24 := PySem.W.mg_of X G a24
  have b24 := F24.binds (ps := ["_law_box_here", "_law_switches", "_law_value"]) fun _ _ _ _ _ _ us hl => match us, hl with | [_, _, _], _ => rfl
  have F25 := fun_mk (st := topS 28) l25 c25 k25
  have m25 := PySem.W.mg_of X G a25
  have b25 := F25.binds (ps := ["_law_state", "_law_box_here", "_law_switches"]) fun _ _ _ _ _ _ us hl => match us, hl with | [_, _, _], _ => rfl
  have F26 := fun_mk (st := topS 29) l26 c26 k26
  have m26 := PySem.W.mg_of X G a26
  have b26 := F26.binds (ps := ["_law_state", "_law_box_here", "_law_switches"]) fun _ _ _ _ _ _ us hl => match us, hl with | [_, _, _], _ => rfl
  have F27 := fun_mk (st := topS 30) l27 c27 k27
  have m27 := PySem.W.mg_of X G a27
  have n_range := PySem.W.mg_none_of X G z0
  have n_tuple := PySem.W.mg_none_of X G z1
  have n_len := PySem.W.mg_none_of X G z2
  have n_repr := PySem.W.mg_none_of X G z3
  have n_abs := PySem.W.mg_none_of X G z4
  have n_int := PySem.W.mg_none_of X G z5
  have n_list := PySem.W.mg_none_of X G z6
  have n_sorted := PySem.W.mg_none_of X G z7
  have n_set := PySem.W.mg_none_of X G z8
  have n_min := PySem.W.mg_none_of X G z9
  have n_isinstance := PySem.W.mg_none_of X G z10
  have n_bool := PySem.W.mg_none_of X G z11
  have n_str := PySem.W.mg_none_of X G z12
  have n_zip := PySem.W.mg_none_of X G z13
  have n_all := PySem.W.mg_none_of X G z14
  refine ⟨PySem.W.fnOf "law" "law" (defArgs (topS 30)) (defBody (topS 30)) (defScope (topS 30)) .none kV27 dc27 pm27 an27 cd27 ct27, fun s v => .of_eq rfl, fun base _ _ => ?_⟩
  have g_subsets_of : PFn P w K mg base 1 "subsets_of" Rparts := ⟨_, _, _, ok_sub F4 n_range, m4, k4, b4⟩
  have g_cube_cards : PFn P w K mg base 2 "cube_cards" Rcube := ⟨_, _, _, ok_cube F6 n_tuple g_subsets_of, m6, k6, b6⟩
  have g_sets_outside : PFn P w K mg base 1 "sets_outside" Rout := ⟨_, _, _, ok_out F5 n_range, m5, k5, b5⟩
  have g_first_missing : PFn P w K mg base 3 "first_missing" Rmiss := ⟨_, _, _, ok_miss F7 g_cube_cards, m7, k7, b7⟩
  have g_bases_of : PFn P w K mg base 4 "bases_of" Rbases := ⟨_, _, _, ok_bases F8 n_tuple g_sets_outside g_first_missing, m8, k8, b8⟩
  have g__law_power : PFn P w K mg base 1 "_law_power" Rpow := ⟨_, _, _, ok_pow F14 n_range, m14, k14, b14⟩
  have g__law_size : PFn P w K mg base 1 "_law_size" Rsize := ⟨_, _, _, ok_size F16 , m16, k16, b16⟩
  have g__law_parts : PFn P w K mg base 1 "_law_parts" Rparts := ⟨_, _, _, ok_parts F17 n_range, m17, k17, b17⟩
  have g__law_bases : PFn P w K mg base 2 "_law_bases" RLB := ⟨_, _, _, ok_lbases F21 n_tuple g__law_parts g__law_power, m21, k21, b21⟩
  have g__law_next : DFn P w K mg base 1 "_law_next" 1 PreNext RNext := ⟨_, _, _, ok_next F13 n_len, m13, k13, b13⟩
  have g__law_box : DFn P w K mg base 2 "_law_box" 40 PreBox RBox := ⟨_, _, _, ok_box F18 n_range n_list n_tuple n_sorted g__law_next g__law_power g__law_size, m18, k18, b18⟩
  have g__law_six : DFn P w K mg base 2 "_law_six" 20 PreSix RSix := ⟨_, _, _, ok_six F19 n_range n_tuple n_sorted n_set g__law_next, m19, k19, b19⟩
  have g__law_wide : DFn P w K mg base 3 "_law_wide" 25 PreSix RWide := ⟨_, _, _, ok_wide F20 n_range n_tuple g__law_next g__law_six, m20, k20, b20⟩
  have g_solid_certificate : PFn P w K mg base 5 "solid_certificate" Rcert := ⟨_, _, _, ok_cert F9 n_len n_tuple g_bases_of g_sets_outside g_first_missing, m9, k9, b9⟩
  have g_is_numberA : PFn P w K mg base 1 "is_number" RnumA := ⟨_, _, _, ok_numA F0 n_isinstance n_int n_bool, m0, k0, b0⟩
  have g_is_pairA : PFn P w K mg base 1 "is_pair" RprA := ⟨_, _, _, ok_prA F2 n_isinstance n_tuple n_len, m2, k2, b2⟩
  have g_is_one_ofA : PFn P w K mg base 2 "is_one_of" RoofA := ⟨_, _, _, ok_oofA F1 g_is_numberA, m1, k1, b1⟩
  have g_is_selectionA : PFn P w K mg base 3 "is_selection" RselA := ⟨_, _, _, ok_selA F3 n_isinstance n_tuple n_len n_zip n_all g_is_one_ofA, m3, k3, b3⟩
  have g_broken_holdsA : PFn P w K mg base 4 "broken_holds" RbrkA := ⟨_, _, _, ok_brkA F11 g_cube_cards g_sets_outside g_is_selectionA, m11, k11, b11⟩
  have g_solid_holdsA : PFn P w K mg base 5 "solid_holds" RsohA := ⟨_, _, _, ok_sohA F10 g_is_pairA g_is_one_ofA g_bases_of g_broken_holdsA, m10, k10, b10⟩
  have g__law_is_int18 : PFn P w K mg base 1 "_law_is_int" Rlii := ⟨_, _, _, ok_lii F22 n_isinstance n_int n_bool, m22, k22, b22⟩
  have g__law_due18 : PFn P w K mg base 3 "_law_due" Rdue18 := ⟨_, _, _, ok_due18 F24 n_isinstance n_tuple n_len n_str g__law_is_int18 g__law_power g__law_bases g__law_parts, m24, k24, b24⟩
  have g__law_one : DFn P w K mg base 2 "_law_one" 1 POne ROne := ⟨_, _, _, ok_one F15 n_len g__law_next, m15, k15, b15⟩
  have g__law_bent18_0 : DFn P w K mg base 3 "_law_bent" 2 (PreBn 0) (RBn 0) := ⟨_, _, _, ok_bn0 F23 n_isinstance n_tuple n_int n_list g__law_one, m23, k23, b23⟩
  have g__law_bent18_1 : DFn P w K mg base 4 "_law_bent" 4 (PreBn 1) (RBn 1) := ⟨_, _, _, ok_bn F23 n_isinstance n_tuple n_int n_list n_len g__law_one g__law_next g__law_bent18_0, m23, k23, b23⟩
  have g__law_bent18_2 : DFn P w K mg base 5 "_law_bent" 6 (PreBn 2) (RBn 2) := ⟨_, _, _, ok_bn F23 n_isinstance n_tuple n_int n_list n_len g__law_one g__law_next g__law_bent18_1, m23, k23, b23⟩
  have g__law_bent18_3 : DFn P w K mg base 6 "_law_bent" 8 (PreBn 3) (RBn 3) := ⟨_, _, _, ok_bn F23 n_isinstance n_tuple n_int n_list n_len g__law_one g__law_next g__law_bent18_2, m23, k23, b23⟩
  have g__law_values18 : DFn P w K mg base 7 "_law_values" 148 PreVal RVal := ⟨_, _, _, ok_val18 F25 n_range n_int n_tuple n_list n_min g__law_power g__law_parts g_solid_certificate g__law_one g__law_bent18_2 g__law_bent18_3, m25, k25, b25⟩
  have g__law_right18 : DFn P w K mg base 8 "_law_right" 148 PreVal RRt := ⟨_, _, _, ok_rt18 F26 n_repr n_isinstance n_bool g__law_values18 g_solid_holdsA g__law_due18, m26, k26, b26⟩
  exact ok_law F27 n_range ⟨_, _, ok_draws F12 n_len n_abs n_int, m12, k12, b12⟩ g__law_box g__law_power g__law_wide g__law_next g__law_right18
end K18
open PySem PySem.W PyProof.Rows
set_option maxHeartbeats 0 in
theorem PySem.Challenge.cw_cardboxes_k18_solid_holds_judged_holds : PySem.Challenge.rw_cardboxes_k18_solid_holds_judged.Holds := by
  w_on; o_law; k_head; (case hw => w_witness2)
  k_fill
  refine Dl.walk_end (l := PySem.Challenge.rw_cardboxes_k18_solid_holds_judged) (n := 63) (k := 9) (x := "_law_script") (sp := Dl.spLaw) rfl (by decide) rfl ⟨rfl, by decide, by decide⟩ (fun w h Y => PySem.W.kIn_of Y) ?F (fun _ _ a ns hl _ hS => ⟨a, ns, rfl, hS, hl, fun _ => rfl⟩)
  case F =>
    intro w mg fa h KX G hmg
    refine' K18.all_mk KX G hmg ?a0 ?l0 ?c0 ?k0 ?a1 ?l1 ?c1 ?k1 ?a2 ?l2 ?c2 ?k2 ?a3 ?l3 ?c3 ?k3 ?a4 ?l4 ?c4 ?k4 ?a5 ?l5 ?c5 ?k5 ?a6 ?l6 ?c6 ?k6 ?a7 ?l7 ?c7 ?k7 ?a8 ?l8 ?c8 ?k8 ?a9 ?l9 ?c9 ?k9 ?a10 ?l10 ?c10 ?k10 ?a11 ?l11 ?c11 ?k11 ?a12 ?l12 ?c12 ?k12 ?a13 ?l13 ?c13 ?k13 ?a14 ?l14 ?c14 ?k14 ?a15 ?l15 ?c15 ?k15 ?a16 ?l16 ?c16 ?k16 ?a17 ?l17 ?c17 ?k17 ?a18 ?l18 ?c18 ?k18 ?a19 ?l19 ?c19 ?k19 ?a20 ?l20 ?c20 ?k20 ?a21 ?l21 ?c21 ?k21 ?a22 ?l22 ?c22 ?k22 ?a23 ?l23 ?c23 ?k23 ?a24 ?l24 ?c24 ?k24 ?a25 ?l25 ?c25 ?k25 ?a26 ?l26 ?c26 ?k26 ?a27 ?l27 ?c27 ?k27 ?z0 ?z1 ?z2 ?z3 ?z4 ?z5 ?z6 ?z7 ?z8 ?z9 ?z10 ?z11 ?z12 ?z13 ?z14 
    (case a0 => k_is); (case l0 => k_is); (case c0 => k_is); (case k0 => k_is)
    (case a1 => k_is); (case l1 => k_is); (case c1 => k_is); (case k1 => k_is)
    (case a2 => k_is); (case l2 => k_is); (case c2 => k_is); (case k2 => k_is)
    (case a3 => k_is); (case l3 => k_is); (case c3 => k_is); (case k3 => k_is)
    (case a4 => k_is); (case l4 => k_is); (case c4 => k_is); (case k4 => k_is)
    (case a5 => k_is); (case l5 => k_is); (case c5 => k_is); (case k5 => k_is)
    (case a6 => k_is); (case l6 => k_is); (case c6 => k_is); (case k6 => k_is)
    (case a7 => k_is); (case l7 => k_is); (case c7 => k_is); (case k7 => k_is)
    (case a8 => k_is); (case l8 => k_is); (case c8 => k_is); (case k8 => k_is)
    (case a9 => k_is); (case l9 => k_is); (case c9 => k_is); (case k9 => k_is)
    (case a10 => k_is); (case l10 => k_is); (case c10 => k_is); (case k10 => k_is)
    (case a11 => k_is); (case l11 => k_is); (case c11 => k_is); (case k11 => k_is)
    (case a12 => k_is); (case l12 => k_is); (case c12 => k_is); (case k12 => k_is)
    (case a13 => k_is); (case l13 => k_is); (case c13 => k_is); (case k13 => k_is)
    (case a14 => k_is); (case l14 => k_is); (case c14 => k_is); (case k14 => k_is)
    (case a15 => k_is); (case l15 => k_is); (case c15 => k_is); (case k15 => k_is)
    (case a16 => k_is); (case l16 => k_is); (case c16 => k_is); (case k16 => k_is)
    (case a17 => k_is); (case l17 => k_is); (case c17 => k_is); (case k17 => k_is)
    (case a18 => k_is); (case l18 => k_is); (case c18 => k_is); (case k18 => k_is)
    (case a19 => k_is); (case l19 => k_is); (case c19 => k_is); (case k19 => k_is)
    (case a20 => k_is); (case l20 => k_is); (case c20 => k_is); (case k20 => k_is)
    (case a21 => k_is); (case l21 => k_is); (case c21 => k_is); (case k21 => k_is)
    (case a22 => k_is); (case l22 => k_is); (case c22 => k_is); (case k22 => k_is)
    (case a23 => k_is); (case l23 => k_is); (case c23 => k_is); (case k23 => k_is)
    (case a24 => k_is); (case l24 => k_is); (case c24 => k_is); (case k24 => k_is)
    (case a25 => k_is); (case l25 => k_is); (case c25 => k_is); (case k25 => k_is)
    (case a26 => k_is); (case l26 => k_is); (case c26 => k_is); (case k26 => k_is)
    (case a27 => k_is); (case l27 => k_is); (case c27 => k_is); (case k27 => k_is)
    (case z0 => k_is); (case z1 => k_is); (case z2 => k_is); (case z3 => k_is); (case z4 => k_is); (case z5 => k_is); (case z6 => k_is); (case z7 => k_is); (case z8 => k_is); (case z9 => k_is); (case z10 => k_is); (case z11 => k_is); (case z12 => k_is); (case z13 => k_is); (case z14 => k_is)

