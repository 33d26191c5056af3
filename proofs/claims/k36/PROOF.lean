import PyProof.Rows.All
import Wide.All
import OpenK.AllK
import Wide.FinOn
import HandS.ForMost
import HandS.Conv
import HandS.Strs
import HandS.SortInts
import HandS.Wide
import HandS.WideBits
import HandS.IsInst
import HandS.Style
import HandS.NoneIn
import HandS.SetFor
import HandS.SetBool
import HandS.SortKw
import KE.DataMinMax
import HandS.TupAny
import PyProof.TupleOfSeq
import PyProof.ReprRoads
import PyProof.ReprLen
import HandS.Zip
import HandS.TupLe
import HandS.RevRange
import KE.GoesMore
import KE.KRevSl
import HandS.SortRule
import PySem.Challenge.RW_cardboxes_k36_renamed_switches
set_option Elab.async false
set_option linter.all false
set_option maxRecDepth 100000
set_option maxHeartbeats 4000000
namespace Dl
open PySem PySem.Spec PyProof.Rows L2

/-! ### lists that only their owner knows: described by what is true of the object; data are never such -/
def extL (s : Addr) (as : List Addr) : HO := .ext fun h => as.length ≤ sizeLine ∧ ∃ n : Nat, h.get? s = some { cls := .type "list", data := .seq (as.map Value.ref).toArray n }
def IsX (o : HO) : Prop := ∃ s as, as.length ≤ sizeLine ∧ o = extL s as
theorem nx_lst {xs : List V} : ¬ IsX (.lst xs) := fun ⟨_, _, _, e⟩ => by unfold extL at e; cases e
theorem nx_tup {xs : List V} : ¬ IsX (.tup xs) := fun ⟨_, _, _, e⟩ => by unfold extL at e; cases e
theorem nx_set {w : World} {D : Addr} {S : Int → Bool} {c : Nat} : ¬ IsX (SetO w D S c) := fun ⟨s, as, hl, e⟩ => by
  unfold SetO extL at e
  have e2 := HO.ext.inj e
  let ob : Obj := { cls := .type "list", data := .seq (as.map Value.ref).toArray 0 }
  let h : Heap := ⟨(List.replicate (s + 1) ob).toArray, {}⟩
  have hs : h.get? s = some ob := by
    unfold Heap.get?
    have : h.objs[s]? = some ob := by
      show (List.replicate (s + 1) ob).toArray[s]? = some ob
      simp
    rw [this]
  have hr : SetR w h D S c := by
    have := congrFun e2 h
    rw [this]
    exact ⟨hl, 0, hs⟩
  obtain ⟨o, es, ep, t, ho, _, hd, _⟩ := hr
  have : o = ob := by
    unfold Heap.get? at ho
    cases q : h.objs[D]? with
    | none => rw [q] at ho; cases ho
    | some u =>
      have hu : u = ob := by
        have q' : (List.replicate (s + 1) ob).toArray[D]? = some u := q
        rw [List.getElem?_toArray] at q'
        exact List.eq_of_mem_replicate (List.mem_of_getElem? q')
      subst hu
      rw [q] at ho
      exact (Option.some.inj ho).symm
  rw [this] at hd
  cases hd
theorem nx_dK {xs : List (Key × V)} : ¬ IsX (.dK xs) := fun ⟨_, _, _, e⟩ => by unfold extL at e; cases e
theorem nx_ins {C dx : Addr} {fs : List (Str × V)} : ¬ IsX (.ins C dx fs) := fun ⟨_, _, _, e⟩ => by unfold extL at e; cases e
theorem nx_own {x : Addr} : ¬ IsX (.own x) := fun ⟨_, _, _, e⟩ => by unfold extL at e; cases e
theorem nx_frz {x : Obj} {u : HO} : ¬ IsX (.frz x u) := fun ⟨_, _, _, e⟩ => by unfold extL at e; cases e
/-! ### data in the heap, away from the addresses S -/
/-- a tuple that is known to have no dict -/
def NT (H : Hp) (a : Addr) (xs : List V) : Prop := ∃ ob : Obj, H a = some (.frz ob (.tup xs)) ∧ ob.dict = none
def kP : Key → PyData
  | .inl i => .int i
  | .inr x => .str x
mutual
inductive Rep (K : PySem.W.Frag) (S : Addr → Prop) (H : Hp) : V → PyData → Prop
  | non : Rep K S H .non .none
  | bl (b : Bool) : Rep K S H (.bl b) (.bool b)
  | int (i : Int) : Rep K S H (.int i) (.int i)
  | str (x : Str) : Rep K S H (.str x) (.str x)
  | lst {a : Addr} {xs : List V} {ds : List PyData} : H a = some (.lst xs) ∧ ¬ S a → RepAll K S H xs ds → Rep K S H (.ref a) (.list ds)
  | tup {a : Addr} {xs : List V} {ds : List PyData} : NT H a xs ∧ ¬ S a → RepAll K S H xs ds → Rep K S H (.ref a) (.tuple ds)
  | dct {a : Addr} {kvs : List (Key × V)} {es : List (PyData × PyData)} : H a = some (.dK kvs) ∧ ¬ S a → RepKV K S H kvs es → Rep K S H (.ref a) (.dict es)
inductive RepAll (K : PySem.W.Frag) (S : Addr → Prop) (H : Hp) : List V → List PyData → Prop
  | nil : RepAll K S H [] []
  | cons {v : V} {vs : List V} {d : PyData} {ds : List PyData} : Rep K S H v d → RepAll K S H vs ds → RepAll K S H (v :: vs) (d :: ds)
inductive RepKV (K : PySem.W.Frag) (S : Addr → Prop) (H : Hp) : List (Key × V) → List (PyData × PyData) → Prop
  | nil : RepKV K S H [] []
  | cons {k : Key} {v : V} {kvs : List (Key × V)} {d : PyData} {es : List (PyData × PyData)} : Rep K S H v d → RepKV K S H kvs es → RepKV K S H ((k, v) :: kvs) ((kP k, d) :: es)
end
section
variable {K : PySem.W.Frag} {S S' : Addr → Prop} {H H' : Hp}
theorem rd_keep {a : Addr} {u : HO} (e : ∀ o, H a = some o → H' a = some o) (h : Rd H a u) : Rd H' a u := by
  rcases h with h | ⟨o, h⟩
  · exact .inl (e _ h)
  · exact .inr ⟨o, e _ h⟩
theorem rd_ne {a : Addr} {u : HO} (h : Rd H a u) : H a ≠ none := by
  rcases h with h | ⟨o, h⟩
  · rw [h]; exact fun z => nomatch z
  · rw [h]; exact fun z => nomatch z
theorem sql_none {a : Addr} {xs : List V} (h : SqL K (fun _ => none) a xs) : SqL K H a xs := by
  rcases h with (h | ⟨o, h⟩) | h
  · cases h
  · cases h
  · exact .inr h
theorem sqt_none {a : Addr} {xs : List V} (h : SqT K (fun _ => none) a xs) : SqT K H a xs := by
  rcases h with (h | ⟨o, h⟩) | h
  · cases h
  · cases h
  · exact .inr h
theorem sql_of {a : Addr} {xs : List V} (h : H a = some (.lst xs) ∧ ¬ S a) : SqL K H a xs := .inl (.inl h.1)
theorem sqt_of {a : Addr} {xs : List V} (h : NT H a xs ∧ ¬ S a) : SqT K H a xs := by
  obtain ⟨⟨o, e, _⟩, _⟩ := h
  exact .inl (.inr ⟨o, e⟩)
theorem NT.ne {a : Addr} {xs : List V} (h : NT H a xs) : H a ≠ none := by
  obtain ⟨o, e, _⟩ := h
  rw [e]; exact fun z => nomatch z
theorem NT.keep {a : Addr} {xs : List V} (h : NT H a xs) (e : ∀ o, ¬ IsX o → H a = some o → H' a = some o) : NT H' a xs := by
  obtain ⟨o, q, d⟩ := h
  exact ⟨o, e _ nx_frz q, d⟩
mutual
theorem Rep.keepX (e : ∀ b o, ¬ S b → ¬ IsX o → H b = some o → H' b = some o) (hs : ∀ b, H b ≠ none → S' b → S b) : ∀ (d : PyData) (v : V), Rep K S H v d → Rep K S' H' v d
  | .none, _, h => by cases h; exact .non
  | .bool b, _, h => by cases h; exact .bl b
  | .int i, _, h => by cases h; exact .int i
  | .str x, _, h => by cases h; exact .str x
  | .list ds, _, h => by
    cases h with
    | lst h1 h3 => exact .lst ⟨e _ _ h1.2 nx_lst h1.1, fun y => h1.2 (hs _ (by rw [h1.1]; exact fun z => nomatch z) y)⟩ (RepAll.keepX e hs ds _ h3)
  | .tuple ds, _, h => by
    cases h with
    | tup h1 h3 => exact .tup ⟨h1.1.keep fun o => e _ o h1.2, fun y => h1.2 (hs _ h1.1.ne y)⟩ (RepAll.keepX e hs ds _ h3)
  | .dict es, _, h => by
    cases h with
    | dct h1 h3 => exact .dct ⟨e _ _ h1.2 nx_dK h1.1, fun y => h1.2 (hs _ (by rw [h1.1]; exact fun z => nomatch z) y)⟩ (RepKV.keepX e hs es _ h3)
theorem RepAll.keepX (e : ∀ b o, ¬ S b → ¬ IsX o → H b = some o → H' b = some o) (hs : ∀ b, H b ≠ none → S' b → S b) : ∀ (ds : List PyData) (vs : List V), RepAll K S H vs ds → RepAll K S' H' vs ds
  | [], _, h => by cases h; exact .nil
  | d :: ds, _, h => by
    cases h with
    | cons h1 h2 => exact .cons (Rep.keepX e hs d _ h1) (RepAll.keepX e hs ds _ h2)
theorem RepKV.keepX (e : ∀ b o, ¬ S b → ¬ IsX o → H b = some o → H' b = some o) (hs : ∀ b, H b ≠ none → S' b → S b) : ∀ (es : List (PyData × PyData)) (vs : List (Key × V)), RepKV K S H vs es → RepKV K S' H' vs es
  | [], _, h => by cases h; exact .nil
  | (p, d) :: es, _, h => by
    cases h with
    | cons h1 h2 => exact .cons (Rep.keepX e hs d _ h1) (RepKV.keepX e hs es _ h2)
end
theorem Rep.keep (e : ∀ b o, ¬ S b → H b = some o → H' b = some o) (hs : ∀ b, H b ≠ none → S' b → S b) (d : PyData) (v : V) (r : Rep K S H v d) : Rep K S' H' v d := Rep.keepX (fun b o n _ q => e b o n q) hs d v r
theorem RepAll.keep (e : ∀ b o, ¬ S b → H b = some o → H' b = some o) (hs : ∀ b, H b ≠ none → S' b → S b) (d : List PyData) (v : List V) (r : RepAll K S H v d) : RepAll K S' H' v d := RepAll.keepX (fun b o n _ q => e b o n q) hs d v r
mutual
theorem Rep.dp : ∀ (d : PyData) (v : V), Rep K S H v d → d.hasDict = false → Dp K H v d
  | .none, _, h, _ => by cases h; exact .non
  | .bool b, _, h, _ => by cases h; exact .bl b
  | .int i, _, h, _ => by cases h; exact .int i
  | .str x, _, h, _ => by cases h; exact .str x
  | .list ds, _, h, n => by
    cases h with
    | lst h1 h3 => exact .lst (sql_of h1) (RepAll.dp ds _ h3 (by simpa only [PyData.hasDict] using n))
  | .tuple ds, _, h, n => by
    cases h with
    | tup h1 h3 => exact .tup (sqt_of h1) (RepAll.dp ds _ h3 (by simpa only [PyData.hasDict] using n))
  | .dict _, _, h, n => by simp [PyData.hasDict] at n
theorem RepAll.dp : ∀ (ds : List PyData) (vs : List V), RepAll K S H vs ds → PyData.hasDictAll ds = false → DpAll K H vs ds
  | [], _, h, _ => by cases h; exact .nil
  | d :: ds, _, h, n => by
    rw [PyData.hasDictAll, Bool.or_eq_false_iff] at n
    cases h with
    | cons h1 h2 => exact .cons (Rep.dp d _ h1 n.1) (RepAll.dp ds _ h2 n.2)
end
mutual
theorem nodict_of : ∀ d : PyData, d.canLay0 = true → d.hasDict = false
  | .none, _ => by simp only [PyData.hasDict]
  | .bool _, _ => by simp only [PyData.hasDict]
  | .int _, _ => by simp only [PyData.hasDict]
  | .str _, _ => by simp only [PyData.hasDict]
  | .list ds, h => by rw [PyData.hasDict]; exact nodictAll_of ds (by simpa only [PyData.canLay0] using h)
  | .tuple ds, h => by rw [PyData.hasDict]; exact nodictAll_of ds (by simpa only [PyData.canLay0] using h)
  | .dict _, h => by simp [PyData.canLay0] at h
theorem nodictAll_of : ∀ ds : List PyData, PyData.canLayAll0 ds = true → PyData.hasDictAll ds = false
  | [], _ => by simp only [PyData.hasDictAll]
  | d :: ds, h => by
    rw [PyData.canLayAll0, Bool.and_eq_true] at h
    rw [PyData.hasDictAll, nodict_of d h.1, nodictAll_of ds h.2]; rfl
end
theorem nodict_sh {d : PyData} (h : SeqAt.shaped d = true) : d.hasDict = false := nodict_of d (Bool.and_eq_true_iff.mp h).1
theorem RepAll.length : ∀ {ds : List PyData} {vs : List V}, RepAll K S H vs ds → vs.length = ds.length
  | [], _, h => by cases h; rfl
  | d :: ds, _, h => by
    cases h with
    | cons h1 h2 => rw [List.length_cons, List.length_cons, RepAll.length h2]
theorem RepAll.get : ∀ {ds : List PyData} {vs : List V} {i : Nat} {d : PyData}, RepAll K S H vs ds → ds[i]? = some d → ∃ v, vs[i]? = some v ∧ Rep K S H v d
  | _ :: _, _, 0, _, h, e => by
    cases h with
    | cons h1 h2 => cases e; exact ⟨_, rfl, h1⟩
  | _ :: ds, _, i + 1, d, h, e => by
    cases h with
    | cons h1 h2 =>
      obtain ⟨v, q, r⟩ := RepAll.get (i := i) (d := d) h2 (by simpa using e)
      exact ⟨v, by simpa using q, r⟩
  | [], _, i, _, _, e => by simp at e
theorem RepAll.got : ∀ {ds : List PyData} {vs : List V} {i : Nat} {v : V}, RepAll K S H vs ds → vs[i]? = some v → ∃ d, ds[i]? = some d ∧ Rep K S H v d
  | _ :: _, _, 0, _, h, e => by
    cases h with
    | cons h1 h2 => cases e; exact ⟨_, rfl, h1⟩
  | _ :: ds, _, i + 1, d, h, e => by
    cases h with
    | cons h1 h2 =>
      obtain ⟨v, q, r⟩ := RepAll.got (i := i) h2 (by simpa using e)
      exact ⟨v, by simpa using q, r⟩
  | [], _, i, _, h, e => by cases h; simp at e
theorem RepAll.append : ∀ {ds es : List PyData} {vs ws : List V}, RepAll K S H vs ds → RepAll K S H ws es → RepAll K S H (vs ++ ws) (ds ++ es)
  | [], _, _, _, h, h' => by cases h; exact h'
  | d :: ds, _, _, _, h, h' => by
    cases h with
    | cons h1 h2 => exact .cons h1 (RepAll.append h2 h')
theorem RepAll.take (n : Nat) : ∀ {ds : List PyData} {vs : List V}, RepAll K S H vs ds → RepAll K S H (vs.take n) (ds.take n) := by
  induction n with
  | zero => intro _ _ _; simp; exact .nil
  | succ n ih =>
    intro ds vs h
    cases h with
    | nil => exact .nil
    | cons h1 h2 => exact .cons h1 (ih h2)
theorem RepAll.drop (n : Nat) : ∀ {ds : List PyData} {vs : List V}, RepAll K S H vs ds → RepAll K S H (vs.drop n) (ds.drop n) := by
  induction n with
  | zero => intro _ _ h; exact h
  | succ n ih =>
    intro ds vs h
    cases h with
    | nil => exact .nil
    | cons h1 h2 => exact ih h2
theorem RepAll.ints : ∀ {ns : List Int} {vs : List V}, RepAll K S H vs (ns.map PyData.int) → vs = ns.map V.int
  | [], _, h => by cases h; rfl
  | n :: ns, _, h => by
    cases h with
    | cons h1 h2 => cases h1; rw [RepAll.ints h2]; rfl
theorem RepAll.of_ints : ∀ (ns : List Int), RepAll K S H (ns.map V.int) (ns.map PyData.int)
  | [] => .nil
  | n :: ns => .cons (.int n) (RepAll.of_ints ns)
theorem RepAll.of_get : ∀ {ds : List PyData} {vs : List V}, vs.length = ds.length → (∀ (i : Nat) (v : V) (d : PyData), vs[i]? = some v → ds[i]? = some d → Rep K S H v d) → RepAll K S H vs ds
  | [], [], _, _ => .nil
  | d :: ds, v :: vs, e, h => .cons (h 0 v d rfl rfl) (RepAll.of_get (by simpa using e) fun i v d h1 h2 => h (i + 1) v d (by simpa using h1) (by simpa using h2))
  | [], _ :: _, e, _ => by simp at e
  | _ :: _, [], e, _ => by simp at e
end
end Dl

namespace Dl
open PySem PySem.Spec PyProof.Rows L2

/-- what stands, and is no tuple -/
def Lv (H : Hp) (b : Addr) : Prop := ∃ o, H b = some o ∧ ∀ xs, o ≠ .tup xs
theorem Lv.ne {H : Hp} {b : Addr} (h : Lv H b) : H b ≠ none := by obtain ⟨o, e, _⟩ := h; rw [e]; exact fun z => nomatch z
theorem lv_lst {H : Hp} {b : Addr} {xs : List V} (h : H b = some (.lst xs)) : Lv H b := ⟨_, h, fun _ z => nomatch z⟩
theorem lv_dK {H : Hp} {b : Addr} {xs : List (Key × V)} (h : H b = some (.dK xs)) : Lv H b := ⟨_, h, fun _ z => nomatch z⟩
theorem lv_ext {H : Hp} {b : Addr} {φ : Heap → Prop} (h : H b = some (.ext φ)) : Lv H b := ⟨_, h, fun _ z => nomatch z⟩
theorem Lv.keep {H H' : Hp} {b : Addr} (h : Lv H b) (k : ∀ o, H b = some o → H' b = some o) : Lv H' b := by obtain ⟨o, e, n⟩ := h; exact ⟨o, k o e, n⟩

/-! ### the frame of a run: K the written part; S what data avoid; M what calls may change; H0 the heap at the entry; G what is known of M, with k draws left -/
structure Fm where
  K : PySem.W.Frag
  S : Addr → Prop
  M : Addr → Prop
  H0 : Hp
  G : Nat → Hp → Prop
  ms : ∀ b, M b → S b
  gm : ∀ k H H', G k H → (∀ b, M b → H' b = H b) → (∀ b o, (IsX o ∨ ∃ xs, o = .tup xs) → H b = some o → H' b = some o) → G k H'
  gl : ∀ k H, G k H → ∀ b, M b → H b ≠ none
  X : HO → Prop := fun _ => False
  xi : ∀ o, X o → IsX o := by exact fun _ h => h.elim
  xa : ∀ k H, G k H → ∀ b o, ¬ M b → X o → H0 b = some o → ∃ o', IsX o' ∧ H b = some o' := by exact fun _ _ _ _ _ _ h => h.elim
def Fm.Mx (F : Fm) (b : Addr) (o : HO) : Prop := F.M b ∨ F.X o
def Fm.Sx (F : Fm) (b : Addr) (o : HO) : Prop := F.S b ∨ F.X o
theorem Fm.mx {F : Fm} {b : Addr} {o : HO} (h : ¬ F.M b) (x : ¬ IsX o) : ¬ F.Mx b o := fun z => z.elim h fun y => x (F.xi _ y)
theorem Fm.sxA {F : Fm} {b : Addr} {o : HO} (h : ¬ F.S b) (x : ¬ IsX o := by first | exact nx_lst | exact nx_tup | exact nx_dK | exact nx_set) : ¬ F.Sx b o := fun z => z.elim h fun y => x (F.xi _ y)
theorem Fm.mxA {F : Fm} {b : Addr} {o : HO} (h : ¬ F.M b) (x : ¬ IsX o := by first | exact nx_lst | exact nx_tup | exact nx_dK | exact nx_set) : ¬ F.Mx b o := fun z => z.elim h fun y => x (F.xi _ y)
theorem lv_new {H : Hp} {p : Addr} {o : HO} (h : ∀ xs, o ≠ .tup xs) : Lv (upd H p o) p := ⟨o, upd_same, h⟩
theorem Fm.mxL {F : Fm} {b : Addr} {xs : List V} (h : ¬ F.M b) : ¬ F.Mx b (.lst xs) := Fm.mx h nx_lst
structure J (F : Fm) (k : Nat) (H : Hp) : Prop where
  g : F.G k H
  le : ∀ b o, ¬ F.Mx b o → F.H0 b = some o → H b = some o
  al : ∀ b, F.S b → Lv H b
def Le (F : Fm) (H H' : Hp) : Prop := ∀ b o, ¬ F.Mx b o → H b = some o → H' b = some o
def Lz (F : Fm) (H H' : Hp) : Prop := ∀ b o, ¬ F.Sx b o → H b = some o → H' b = some o
abbrev Rp (F : Fm) (H : Hp) (v : V) (d : PyData) : Prop := Rep F.K F.S H v d
abbrev RpAll (F : Fm) (H : Hp) (vs : List V) (ds : List PyData) : Prop := RepAll F.K F.S H vs ds
section
variable {F : Fm} {H H1 H2 : Hp} {k : Nat}
theorem Le.refl : Le F H H := fun _ _ _ h => h
theorem Le.trans (a : Le F H H1) (b : Le F H1 H2) : Le F H H2 := fun x o n h => b x o n (a x o n h)
theorem Lz.refl : Lz F H H := fun _ _ _ h => h
theorem Lz.trans (a : Lz F H H1) (b : Lz F H1 H2) : Lz F H H2 := fun x o n h => b x o n (a x o n h)
theorem Le.lz (a : Le F H H1) : Lz F H H1 := fun b o n h => a b o (fun z => n (z.imp (F.ms b) id)) h
theorem Le.new {p : Addr} {o : HO} (hp : H p = none) : Le F H (upd H p o) := fun b u _ e => by
  rw [upd_ne (ne_of_none e hp)]; exact e
theorem Rep.le {v : V} {d : PyData} (r : Rp F H v d) (a : Lz F H H1) : Rp F H1 v d := Rep.keepX (fun b o n hp e => a b o (fun z => z.elim n fun y => hp (F.xi _ y)) e) (fun _ _ z => z) d v r
theorem RepAll.le {v : List V} {d : List PyData} (r : RpAll F H v d) (a : Lz F H H1) : RpAll F H1 v d := RepAll.keepX (fun b o n hp e => a b o (fun z => z.elim n fun y => hp (F.xi _ y)) e) (fun _ _ z => z) d v r
theorem J.new {p : Addr} {o : HO} (j : J F k H) (hp : H p = none) : J F k (upd H p o) where
  g := F.gm k H _ j.g (fun b hb => upd_ne fun e => F.gl k H j.g b hb (e ▸ hp)) fun b u _ e => by rw [upd_ne (ne_of_none e hp)]; exact e
  le := fun b u hb e => by
    have q := j.le b u hb e
    rw [upd_ne (ne_of_none q hp)]; exact q
  al := fun b hb => (j.al b hb).keep fun u e => by rw [upd_ne (ne_of_none e hp)]; exact e
theorem J.h0 {p : Addr} (j : J F k H) (hm : ¬ F.M p) (hp : H p = none) : F.H0 p = none := by
  cases e : F.H0 p with
  | none => rfl
  | some u =>
    by_cases x : F.X u
    · obtain ⟨o', _, q⟩ := F.xa k H j.g p u hm x e
      rw [hp] at q; cases q
    · rw [j.le p u (fun z => z.elim hm x) e] at hp; cases hp
theorem J.fresh {p : Addr} (j : J F k H) (hp : H p = none) : ¬ F.S p := fun z => (j.al p z).ne hp
/-- what is neither a tuple nor known to its owner alone -/
def Pl (H : Hp) (p : Addr) : Prop := ∀ u, H p = some u → ¬ (IsX u ∨ ∃ xs, u = .tup xs)
theorem pl_lst {H : Hp} {p : Addr} {xs : List V} (h : H p = some (.lst xs)) : Pl H p := fun u e => by
  rw [h] at e; cases e; exact fun z => z.elim nx_lst fun ⟨_, q⟩ => nomatch q
theorem pl_set {H : Hp} {p : Addr} {w : World} {D : Addr} {S : Int → Bool} {c : Nat} (h : H p = some (SetO w D S c)) : Pl H p := fun u e => by
  rw [h] at e; cases e; exact fun z => z.elim nx_set fun ⟨_, q⟩ => nomatch q
theorem pl_dK {H : Hp} {p : Addr} {xs : List (Key × V)} (h : H p = some (.dK xs)) : Pl H p := fun u e => by
  rw [h] at e; cases e; exact fun z => z.elim nx_dK fun ⟨_, q⟩ => nomatch q
theorem J.own {p : Addr} {o : HO} (j : J F k H) (hm : ¬ F.M p) (h0 : F.H0 p = none) (hp : Pl H p) (ho : ∀ xs, o ≠ .tup xs := by exact fun _ z => nomatch z) : J F k (upd H p o) where
  g := F.gm k H _ j.g (fun b hb => upd_ne fun e => hm (e ▸ hb)) fun b u hu e => by
    rw [upd_ne (show b ≠ p from fun z => hp u (z ▸ e) hu)]; exact e
  le := fun b u hb e => by
    rw [upd_ne (ne_of_none e h0)]; exact j.le b u hb e
  al := fun b hb => by
    by_cases e : b = p
    · rw [e]; exact ⟨o, upd_same, ho⟩
    · exact (j.al b hb).keep fun u q => by rw [upd_ne e]; exact q
theorem rep_newL {p : Addr} {vs : List V} {ds : List PyData} (j : J F k H) (hp : H p = none) (r : RpAll F H vs ds) : Rp F (upd H p (.lst vs)) (.ref p) (.list ds) :=
  .lst ⟨upd_same, j.fresh hp⟩ (r.le (Le.new hp).lz)
theorem rep_newT {p : Addr} {vs : List V} {ds : List PyData} {ob : Obj} (j : J F k H) (hp : H p = none) (hd : ob.dict = none) (r : RpAll F H vs ds) : Rp F (upd H p (.frz ob (.tup vs))) (.ref p) (.tuple ds) :=
  .tup ⟨⟨ob, upd_same, hd⟩, j.fresh hp⟩ (r.le (Le.new hp).lz)
theorem NT.lz {H' : Hp} {a : Addr} {xs : List V} (h : NT H a xs) (hs : ¬ F.S a) (l : Lz F H H') : NT H' a xs := h.keep fun o n e => l a o (Fm.sxA hs n) e
end

/-! ### slots -/
inductive SV where
  | un
  | d (x : PyData)
  | raw (v : V)
  | own (o : Addr) (xs : List PyData)
def SlotOk (F : Fm) (H : Hp) : SV → Option V → Prop
  | .un, _ => True
  | .d d, x => ∃ v, x = some v ∧ Rp F H v d
  | .raw v, x => x = some v
  | .own o xs, x => x = some (.ref o) ∧ F.S o ∧ ¬ F.M o ∧ F.H0 o = none ∧ ∃ vs, H o = some (.lst vs) ∧ RpAll F H vs xs
abbrev Rho := List SV
def EnvOk (F : Fm) (H : Hp) (σ : L2.St) (ρ : Rho) : Prop := ∀ (i : Nat) (sv : SV), ρ[i]? = some sv → ∃ x, σ[i]? = some x ∧ SlotOk F H sv x
section
variable {F : Fm} {H H1 H2 : Hp} {k : Nat} {σ : L2.St} {ρ : Rho}
theorem SlotOk.le {sv : SV} {x : Option V} (h : SlotOk F H sv x) (a : Le F H H1) : SlotOk F H1 sv x := by
  cases sv with
  | un => trivial
  | d d => obtain ⟨v, e, r⟩ := h; exact ⟨v, e, r.le a.lz⟩
  | raw v => exact h
  | own o xs =>
    obtain ⟨e, s, m, z, vs, h1, r⟩ := h
    exact ⟨e, s, m, z, vs, a o _ (Fm.mxL m) h1, r.le a.lz⟩
theorem EnvOk.le (h : EnvOk F H σ ρ) (a : Le F H H1) : EnvOk F H1 σ ρ := fun i sv e => by
  obtain ⟨x, q, r⟩ := h i sv e
  exact ⟨x, q, r.le a⟩
theorem EnvOk.set {i : Nat} {sv : SV} {x : Option V} (h : EnvOk F H σ ρ) (s : SlotOk F H sv x) : EnvOk F H (σ.set i x) (ρ.set i sv) := fun j tv e => by
  by_cases hj : i = j
  · subst hj
    by_cases hl : i < ρ.length
    · rw [List.getElem?_set_self hl] at e
      cases e
      obtain ⟨y, q, _⟩ := h i _ (List.getElem?_eq_getElem hl)
      obtain ⟨hl', _⟩ := List.getElem?_eq_some_iff.mp q
      exact ⟨x, List.getElem?_set_self hl', s⟩
    · rw [List.getElem?_eq_none (by simpa using hl)] at e; cases e
  · rw [List.getElem?_set_ne hj] at e
    obtain ⟨y, q, r⟩ := h j tv e
    exact ⟨y, by rw [List.getElem?_set_ne hj]; exact q, r⟩
theorem EnvOk.d {i : Nat} {d : PyData} (h : EnvOk F H σ ρ) (e : ρ[i]? = some (.d d)) : ∃ v, σ[i]? = some (some v) ∧ Rp F H v d := by
  obtain ⟨x, q, v, rfl, r⟩ := h i _ e
  exact ⟨v, q, r⟩
theorem EnvOk.raw {i : Nat} {v : V} (h : EnvOk F H σ ρ) (e : ρ[i]? = some (.raw v)) : σ[i]? = some (some v) := by
  obtain ⟨x, q, r⟩ := h i _ e
  rw [q, show x = some v from r]
end

/-! ### runs of readings on data -/
def WE (F : Fm) (t : TE) (ρ : Rho) (k : Nat) (Φ : Nat → PyData → Prop) : Prop :=
  ∀ (σ : L2.St) (H : Hp) (Q : VK), EnvOk F H σ ρ → J F k H → (∀ v d k' H', Le F H H' → J F k' H' → Rp F H' v d → Φ k' d → Q v H') → t σ H Q
def WA (F : Fm) (t : TA) (ρ : Rho) (k : Nat) (Φ : Nat → List PyData → Prop) : Prop :=
  ∀ (σ : L2.St) (H : Hp) (Q : List V → Hp → Prop), EnvOk F H σ ρ → J F k H → (∀ vs ds k' H', Le F H H' → J F k' H' → RpAll F H' vs ds → Φ k' ds → Q vs H') → t σ H Q
def WT (F : Fm) (t : TT) (ρ : Rho) (k : Nat) (Φ : Nat → Bool → Prop) : Prop :=
  ∀ (σ : L2.St) (H : Hp) (Q : Bool → Hp → Prop), EnvOk F H σ ρ → J F k H → (∀ b k' H', Le F H H' → J F k' H' → Φ k' b → Q b H') → t σ H Q
structure DE where
  nx : Nat → Rho → Prop
  rt : Nat → PyData → Prop
  bk : Nat → Rho → Prop
  ct : Nat → Rho → Prop
def WS (F : Fm) (t : TS) (ρ : Rho) (k : Nat) (P : DE) : Prop :=
  ∀ (σ : L2.St) (H : Hp) (E : Ends), EnvOk F H σ ρ → J F k H →
    (∀ ρ' σ' k' H', Lz F H H' → EnvOk F H' σ' ρ' → J F k' H' → P.nx k' ρ' → E.nx σ' H') →
    (∀ v d k' H', J F k' H' → Rp F H' v d → P.rt k' d → E.rt v H') →
    (∀ ρ' σ' k' H', Lz F H H' → EnvOk F H' σ' ρ' → J F k' H' → P.bk k' ρ' → E.bk σ' H') →
    (∀ ρ' σ' k' H', Lz F H H' → EnvOk F H' σ' ρ' → J F k' H' → P.ct k' ρ' → E.ct σ' H') → t E σ H
/-- an operation on two data; on a list of data -/
def RD (F : Fm) (r : R2) (x y : PyData) (k : Nat) (Φ : Nat → PyData → Prop) : Prop :=
  ∀ (H : Hp) (vx vy : V) (Q : VK), J F k H → Rp F H vx x → Rp F H vy y → (∀ v d k' H', Le F H H' → J F k' H' → Rp F H' v d → Φ k' d → Q v H') → r vx vy H Q
def RA (F : Fm) (r : List V → Hp → VK → Prop) (ds : List PyData) (k : Nat) (Φ : Nat → PyData → Prop) : Prop :=
  ∀ (H : Hp) (vs : List V) (Q : VK), J F k H → RpAll F H vs ds → (∀ v d k' H', Le F H H' → J F k' H' → Rp F H' v d → Φ k' d → Q v H') → r vs H Q

/-! ### where the text stands -/
structure Cs where
  P : Program
  w : World
  K : PySem.W.Frag
  mg : Str → Option Value
  base : Heap
  N : List Str
  sc : Scope
  fn : Str → Bool
  lvl : Nat
structure Fits (C : Cs) (X : Cx) : Prop where
  P : X.prog = C.P
  w : X.w = C.w
  K : X.K = C.K
  mg : X.mg = C.mg
  base : X.base = C.base
  N : X.N = C.N
  sc : X.env.scope = C.sc
  fn : X.fn = C.fn
  calm : X.calm = true
  room : Room C.lvl X.A
  xe : X.xe = fun _ _ => False
  gd : X.A.guards = some []
abbrev Cs.blk (C : Cs) (scope : Scope) : Cs := { C with sc := relS scope C.sc, fn := fun x => scope.names.lookup x == some .cell }
theorem Fits.blk {C : Cs} {X : Cx} (f : Fits C X) (s : Shared) (H : Hp) (scope : Scope) (a : Addr) (cl : List (Str × Addr)) (fp : List Addr) : Fits (C.blk scope) (X.blk s H scope (compEnvC scope cl a X.env) fp) :=
  ⟨f.P, f.w, f.K, f.mg, f.base, f.N, by show relS scope X.env.scope = _; rw [f.sc], rfl, f.calm, f.room, rfl, f.gd⟩

/-- the widest readings -/
def tE (C : Cs) (e : Expr) : TE := fun σ H Q => ∀ X, Fits C X → ∀ pins s, Inv X pins σ H s → wpAny (model X.prog X.w) X.A (eval e X.env) (EP X pins σ Q) X.xe s
def tT (C : Cs) (e : Expr) : TT := fun σ H Q => ∀ X, Fits C X → ∀ pins s, Inv X pins σ H s → wpAny (model X.prog X.w) X.A (isTrue e X.env (eval e X.env)) (TP X pins σ Q) X.xe s
def tW (C : Cs) (e : Expr) : TT := fun σ H Q => ∀ X, Fits C X → ∀ (whole : Sem Value) pins s, Inv X pins σ H s → wpAny (model X.prog X.w) X.A (isTrue e X.env whole) (TP X pins σ Q) X.xe s
def tA (C : Cs) (es : List Expr) : TA := fun σ H Q => ∀ X, Fits C X → ∀ (pos : Pos) pins s, Inv X pins σ H s → wpAny (model X.prog X.w) X.A (spliced (backTo pos (starEach es X.env))) (AP X pins σ Q) X.xe s
def tS (C : Cs) (st : Stmt) : TS := fun D σ H => ∀ X, Fits C X → ∀ pins s, Inv X pins σ H s → wpAny (model X.prog X.w) X.A (exec st X.env) (SP X pins D) X.xe s
def tB (C : Cs) (st : List Stmt) : TS := fun D σ H => ∀ X, Fits C X → ∀ pins s, Inv X pins σ H s → wpAny (model X.prog X.w) X.A (execs st X.env) (SP X pins D) X.xe s
section
variable {C : Cs} {X : Cx}
theorem peE (f : Fits C X) {e : Expr} : PE X e (tE C e) := ⟨fun pins s σ H Q I h => h X f pins s I⟩
theorem ptT (f : Fits C X) {e : Expr} : PT X e (tT C e) := ⟨fun pins s σ H Q I h => h X f pins s I⟩
theorem pwW (f : Fits C X) {e : Expr} : PW X e (tW C e) := ⟨fun wh pins s σ H Q I h => h X f wh pins s I⟩
theorem paA (f : Fits C X) {es : List Expr} : PA X es (tA C es) := ⟨fun pos pins s σ H Q I h => h X f pos pins s I⟩
theorem psS (f : Fits C X) {st : Stmt} : PS X st (tS C st) := ⟨fun pins s σ H D I h => h X f pins s I⟩
theorem pbB (f : Fits C X) {st : List Stmt} : PSs X st (tB C st) := ⟨fun pins s σ H D I h => h X f pins s I⟩
end
abbrev WPE (F : Fm) (C : Cs) (e : Expr) (ρ : Rho) (k : Nat) (Φ : Nat → PyData → Prop) : Prop := WE F (tE C e) ρ k Φ
abbrev WPT (F : Fm) (C : Cs) (e : Expr) (ρ : Rho) (k : Nat) (Φ : Nat → Bool → Prop) : Prop := WT F (tT C e) ρ k Φ
abbrev WPW (F : Fm) (C : Cs) (e : Expr) (ρ : Rho) (k : Nat) (Φ : Nat → Bool → Prop) : Prop := WT F (tW C e) ρ k Φ
abbrev WPA (F : Fm) (C : Cs) (es : List Expr) (ρ : Rho) (k : Nat) (Φ : Nat → List PyData → Prop) : Prop := WA F (tA C es) ρ k Φ
abbrev WPS (F : Fm) (C : Cs) (st : Stmt) (ρ : Rho) (k : Nat) (P : DE) : Prop := WS F (tS C st) ρ k P
abbrev WPB (F : Fm) (C : Cs) (st : List Stmt) (ρ : Rho) (k : Nat) (P : DE) : Prop := WS F (tB C st) ρ k P

section
variable {F : Fm} {C : Cs} {ρ : Rho} {k : Nat} {Φ Φ' : Nat → PyData → Prop} {Ψ Ψ' : Nat → Bool → Prop} {e a b : Expr} {es : List Expr} {pos : Pos} {P : DE}
theorem of_pe {t : TE} (h : ∀ X, Fits C X → PE X e t) (hw : WE F t ρ k Φ) : WPE F C e ρ k Φ := fun σ H Q en j q X fx pins s I => (h X fx).run pins s σ H Q I (hw σ H Q en j q)
theorem of_pt {t : TT} (h : ∀ X, Fits C X → PT X e t) (hw : WT F t ρ k Ψ) : WPT F C e ρ k Ψ := fun σ H Q en j q X fx pins s I => (h X fx).run pins s σ H Q I (hw σ H Q en j q)
theorem of_pw {t : TT} (h : ∀ X, Fits C X → PW X e t) (hw : WT F t ρ k Ψ) : WPW F C e ρ k Ψ := fun σ H Q en j q X fx wh pins s I => (h X fx).run wh pins s σ H Q I (hw σ H Q en j q)
theorem of_pa {t : TA} {Φ : Nat → List PyData → Prop} (h : ∀ X, Fits C X → PA X es t) (hw : WA F t ρ k Φ) : WPA F C es ρ k Φ := fun σ H Q en j q X fx pos pins s I => (h X fx).run pos pins s σ H Q I (hw σ H Q en j q)
theorem of_ps {t : TS} {st : Stmt} (h : ∀ X, Fits C X → PS X st t) (hw : WS F t ρ k P) : WPS F C st ρ k P := fun σ H E en j q1 q2 q3 q4 X fx pins s I => (h X fx).run pins s σ H E I (hw σ H E en j q1 q2 q3 q4)
theorem of_pb {t : TS} {st : List Stmt} (h : ∀ X, Fits C X → PSs X st t) (hw : WS F t ρ k P) : WPB F C st ρ k P := fun σ H E en j q1 q2 q3 q4 X fx pins s I => (h X fx).run pins s σ H E I (hw σ H E en j q1 q2 q3 q4)
theorem WE.imp {t : TE} (h : WE F t ρ k Φ) (i : ∀ k' d, Φ k' d → Φ' k' d) : WE F t ρ k Φ' := fun σ H Q en j q => h σ H Q en j fun v d k' H' l j' r p => q v d k' H' l j' r (i k' d p)
theorem WT.imp {t : TT} (h : WT F t ρ k Ψ) (i : ∀ k' d, Ψ k' d → Ψ' k' d) : WT F t ρ k Ψ' := fun σ H Q en j q => h σ H Q en j fun b k' H' l j' p => q b k' H' l j' (i k' b p)

/-! ### names and constants -/
theorem we_name (i : Nat) {x : Str} {d : PyData} (hN : C.N[i]? = some x) (hv : Vis C.sc x) (hr : ρ[i]? = some (.d d)) (h : Φ k d) (hd : (x == ("__debug__" : Str)) = false := by decide) (hcd : (x == ("__classdict__" : Str)) = false := by decide) : WPE F C (.Name x pos) ρ k Φ :=
  of_pe (t := tVar i) (fun X fx => pe_var (by rw [fx.N]; exact hN) (by rw [fx.sc]; exact hv) hd hcd) fun σ H Q en j q => by
    obtain ⟨v, e, r⟩ := en.d hr
    exact ⟨v, e, q v d k H .refl j r h⟩
theorem we_int {i : Int} {jj : Nat} (h : Φ k (.int i)) : WPE F C (.Constant (.int i) jj pos) ρ k Φ := of_pe (fun X _ => pe_int) fun σ H Q en j q => q _ _ k H .refl j (.int i) h
theorem we_bl {i : Bool} {jj : Nat} (h : Φ k (.bool i)) : WPE F C (.Constant (.bool i) jj pos) ρ k Φ := of_pe (fun X _ => pe_bl) fun σ H Q en j q => q _ _ k H .refl j (.bl i) h
theorem we_str {i : Str} {jj : Nat} (h : Φ k (.str i)) : WPE F C (.Constant (.str i) jj pos) ρ k Φ := of_pe (fun X _ => pe_str) fun σ H Q en j q => q _ _ k H .refl j (.str i) h
theorem we_non {jj : Nat} (h : Φ k .none) : WPE F C (.Constant .none jj pos) ρ k Φ := of_pe (fun X _ => pe_non) fun σ H Q en j q => q _ _ k H .refl j .non h
theorem we_gint {x : Str} {n : Int} {t : Tok} (hg : C.sc.names.lookup x = some .globalImplicit) (hm : C.mg x = some (.int n t)) (h : Φ k (.int n)) (hd : (x == ("__debug__" : Str)) = false := by decide) : WPE F C (.Name x pos) ρ k Φ :=
  of_pe (fun X fx => pe_glob (v := .int n) (u := .int n t) (by show X.env.scope.names.lookup x = _; rw [fx.sc]; exact hg) (by rw [fx.mg]; exact hm) ⟨t, rfl⟩ hd) fun σ H Q en j q => q _ _ k H .refl j (.int n) h

/-! ### operations -/
theorem we_op {r : R2} {ta tb : TE} (h : WE F ta ρ k fun k1 x => WE F tb ρ k1 fun k2 y => RD F r x y k2 Φ) : WE F (tOp r ta tb) ρ k Φ := fun σ H Q en j q =>
  h σ H _ en j fun vx x k1 H1 l1 j1 r1 hx => hx σ H1 _ (en.le l1) j1 fun vy y k2 H2 l2 j2 r2 hy => hy H2 vx vy Q j2 (r1.le l2.lz) r2 fun v d k' H' l' j' r' p => q v d k' H' ((l1.trans l2).trans l') j' r' p
theorem we_bin {op : Operator} {r : R2} (ho : ∀ X, Fits C X → OpR X (binaryOp op) r) (h : WPE F C a ρ k fun k1 x => WPE F C b ρ k1 fun k2 y => RD F r x y k2 Φ) : WPE F C (.BinOp a op b pos) ρ k Φ :=
  of_pe (fun X fx => pe_op (ho X fx) (peE fx) (peE fx)) (we_op h)
theorem we_cmp {op : CmpOp} {r : R2} (ho : ∀ X, Fits C X → OpR X (compareOp op) r) (hm : behindInMarks op b = false) (h : WPE F C a ρ k fun k1 x => WPE F C b ρ k1 fun k2 y => RD F r x y k2 Φ) : WPE F C (.Compare a [op] [b] pos) ρ k Φ :=
  of_pe (fun X fx => pe_cmpR (ho X fx) (peE fx) (peE fx) hm) (we_op h)
theorem wt_test {t : TE} (h : WE F t ρ k fun k1 d => ∃ b, d = .bool b ∧ Ψ k1 b) : WT F (tTest t) ρ k Ψ := fun σ H Q en j q => h σ H _ en j fun v d k' H' l j' r ⟨b, e, p⟩ => by
  subst e; cases r; exact ⟨b, rfl, q b k' H' l j' p⟩
theorem wt_cmp {op : CmpOp} {r : R2} (ho : ∀ X, Fits C X → OpR X (compareOp op) r) (hm : behindInMarks op b = false) (h : WPE F C a ρ k fun k1 x => WPE F C b ρ k1 fun k2 y => RD F r x y k2 fun k3 d => ∃ b, d = .bool b ∧ Ψ k3 b) : WPT F C (.Compare a [op] [b] pos) ρ k Ψ :=
  of_pt (fun X fx => pt_cmpR (ho X fx) (peE fx) (peE fx) hm) (wt_test (we_op h))
/-- an expression whose value is a bool, as a test -/
theorem wt_val (he : ∀ (env : Env) (whole : Sem Value), isTrue e env whole = (do let v ← whole; standAt e.pos; holding [v] (truthy v))) (h : WPE F C e ρ k fun k1 d => ∃ b, d = .bool b ∧ Ψ k1 b) : WPT F C e ρ k Ψ :=
  of_pt (fun X fx => pt_val (peE fx) (he X.env)) fun σ H Q en j q => h σ H _ en j fun v d k' H' l j' r ⟨b, e, p⟩ => by
    subst e; cases r; exact ⟨b, rfl, q b k' H' l j' p⟩
theorem wt_not (h : WPT F C a ρ k fun k1 b => Ψ k1 (!b)) : WPT F C (.UnaryOp .Not a pos) ρ k Ψ :=
  of_pt (fun X fx => pt_not (ptT fx)) fun σ H Q en j q => h σ H _ en j fun b k' H' l j' p => q (!b) k' H' l j' p
theorem we_not (h : WPE F C a ρ k fun k1 d => ∃ b, d = .bool b ∧ Φ k1 (.bool (!b))) : WPE F C (.UnaryOp .Not a pos) ρ k Φ :=
  of_pe (fun X fx => pe_not (peE fx)) fun σ H Q en j q => h σ H _ en j fun v d k' H' l j' r ⟨b, e, p⟩ => by
    subst e; cases r; exact ⟨b, rfl, q _ _ k' H' l j' (.bl _) p⟩
/-- and, or as tests -/
theorem ww_and {rest : List Expr} (h : WPT F C a ρ k fun k1 c => if c = true then WPW F C (.BoolOp .And (b :: rest) pos) ρ k1 Ψ else Ψ k1 false) : WPW F C (.BoolOp .And (a :: b :: rest) pos) ρ k Ψ :=
  of_pw (fun X fx => pw_and (ptT fx) (pwW fx)) fun σ H Q en j q => h σ H _ en j fun c k1 H1 l1 j1 p => by
    cases c with
    | true => exact p σ H1 Q (en.le l1) j1 fun b k' H' l j' p' => q b k' H' (l1.trans l) j' p'
    | false => exact q false k1 H1 l1 j1 p
theorem ww_or {rest : List Expr} (h : WPT F C a ρ k fun k1 c => if c = true then Ψ k1 true else WPW F C (.BoolOp .Or (b :: rest) pos) ρ k1 Ψ) : WPW F C (.BoolOp .Or (a :: b :: rest) pos) ρ k Ψ :=
  of_pw (fun X fx => pw_or (ptT fx) (pwW fx)) fun σ H Q en j q => h σ H _ en j fun c k1 H1 l1 j1 p => by
    cases c with
    | false => exact p σ H1 Q (en.le l1) j1 fun b k' H' l j' p' => q b k' H' (l1.trans l) j' p'
    | true => exact q true k1 H1 l1 j1 p
theorem ww_and1 (h : WPT F C a ρ k Ψ) : WPW F C (.BoolOp .And [a] pos) ρ k Ψ := of_pw (fun X fx => pw_and1 (ptT fx)) h
theorem ww_or1 (h : WPT F C a ρ k Ψ) : WPW F C (.BoolOp .Or [a] pos) ρ k Ψ := of_pw (fun X fx => pw_or1 (ptT fx)) h
theorem wt_bool {op : BoolOp} {es : List Expr} (h : WPW F C (.BoolOp op es pos) ρ k Ψ) : WPT F C (.BoolOp op es pos) ρ k Ψ := of_pt (fun X fx => (pwW fx).pt) h
/-- .. as values -/
theorem we_and {rest : List Expr} (h : WPE F C a ρ k fun k1 d => ∃ c, d = .bool c ∧ if c = true then WPE F C (.BoolOp .And (b :: rest) pos) ρ k1 Φ else Φ k1 (.bool false)) : WPE F C (.BoolOp .And (a :: b :: rest) pos) ρ k Φ :=
  of_pe (fun X fx => pe_and (peE fx) (peE fx)) fun σ H Q en j q => h σ H _ en j fun v d k1 H1 l1 j1 r ⟨c, e, p⟩ => by
    subst e; cases r
    refine ⟨c, rfl, ?_⟩
    cases c with
    | true => exact p σ H1 Q (en.le l1) j1 fun v d k' H' l j' r' p' => q v d k' H' (l1.trans l) j' r' p'
    | false => exact q _ _ k1 H1 l1 j1 (.bl false) p
theorem we_or {rest : List Expr} (h : WPE F C a ρ k fun k1 d => ∃ c, d = .bool c ∧ if c = true then Φ k1 (.bool true) else WPE F C (.BoolOp .Or (b :: rest) pos) ρ k1 Φ) : WPE F C (.BoolOp .Or (a :: b :: rest) pos) ρ k Φ :=
  of_pe (fun X fx => pe_or (peE fx) (peE fx)) fun σ H Q en j q => h σ H _ en j fun v d k1 H1 l1 j1 r ⟨c, e, p⟩ => by
    subst e; cases r
    refine ⟨c, rfl, ?_⟩
    cases c with
    | false => exact p σ H1 Q (en.le l1) j1 fun v d k' H' l j' r' p' => q v d k' H' (l1.trans l) j' r' p'
    | true => exact q _ _ k1 H1 l1 j1 (.bl true) p
theorem we_one {op : BoolOp} (h : WPE F C a ρ k Φ) : WPE F C (.BoolOp op [a] pos) ρ k Φ := of_pe (fun X fx => pe_one (peE fx)) h
theorem we_ifExp {c : Expr} (h : WPT F C c ρ k fun k1 z => if z = true then WPE F C a ρ k1 Φ else WPE F C b ρ k1 Φ) : WPE F C (.IfExp c a b pos) ρ k Φ :=
  of_pe (fun X fx => pe_ifExp (ptT fx) (peE fx) (peE fx)) fun σ H Q en j q => h σ H _ en j fun c k1 H1 l1 j1 p => by
    cases c with
    | true => exact p σ H1 Q (en.le l1) j1 fun v d k' H' l j' r' p' => q v d k' H' (l1.trans l) j' r' p'
    | false => exact p σ H1 Q (en.le l1) j1 fun v d k' H' l j' r' p' => q v d k' H' (l1.trans l) j' r' p'
/-- arguments -/
theorem wa_nil {Φ : Nat → List PyData → Prop} (h : Φ k []) : WPA F C [] ρ k Φ := of_pa (fun X fx => pa_nil) fun σ H Q en j q => q [] [] k H .refl j .nil h
theorem wa_cons {Φ : Nat → List PyData → Prop} (hs : ∀ env : Env, starEach (e :: es) env = (false, eval e env) :: starEach es env) (h : WPE F C e ρ k fun k1 x => WPA F C es ρ k1 fun k2 xs => Φ k2 (x :: xs)) : WPA F C (e :: es) ρ k Φ :=
  of_pa (fun X fx => pa_cons (peE fx) (paA fx) (hs X.env)) fun σ H Q en j q => h σ H _ en j fun vx x k1 H1 l1 j1 r1 hx => hx σ H1 _ (en.le l1) j1 fun vs xs k2 H2 l2 j2 r2 hy =>
    q (vx :: vs) (x :: xs) k2 H2 (l1.trans l2) j2 (.cons (r1.le l2.lz) r2) hy
/-- a display of a tuple, whose object is told -/
def tTupF (t : TA) : TE := fun σ H Q => t σ H fun xs H1 => xs.length ≤ sizeLine ∧ ∀ p ob, H1 p = none → ob.dict = none → Q (.ref p) (upd H1 p (.frz ob (.tup xs)))
theorem pe_tupF {X : Cx} {es : List Expr} {pos : Pos} {t : TA} {x1} (h : PA X es t) : PE X (.Tuple es x1 pos) (tTupF t) := ⟨fun pins s σ H Q I hq => by
  refine wpAny_Tuple_spliced (thn (h.run pos pins s σ H _ I hq) fun us s1 hs => ?_)
  obtain ⟨xs, G, J, rv, lz, qq⟩ := hs
  have fr : G s1.heap.objs.size = none := J.hok.fresh (Nat.le_refl _)
  refine ⟨by rw [← rv.length]; exact lz, .ref s1.heap.objs.size, _, J.laid (t' := s1.toks) (o := .frz { cls := .type "tuple", data := .seq us.toArray } (.tup xs)) (fun b u e => Heap.get?_push_of_some _ e) (Nat.le_refl _) ?_, rfl, qq _ _ fr rfl⟩
  exact ⟨Heap.get?_push_size _ rfl, lz, us, rv, ⟨_, Heap.get?_push_size _ rfl, rfl, _, rfl⟩⟩⟩
theorem we_tup {x1} (h : WPA F C es ρ k fun k1 ds => ds.length ≤ sizeLine ∧ Φ k1 (.tuple ds)) : WPE F C (.Tuple es x1 pos) ρ k Φ :=
  of_pe (fun X fx => pe_tupF (paA fx)) fun σ H Q en j q => h σ H _ en j fun vs ds k1 H1 l1 j1 r1 ⟨hz, p⟩ => ⟨by rw [r1.length]; exact hz, fun p0 ob hp hd => q _ (.tuple ds) k1 _ (l1.trans (.new hp)) (j1.new hp) (rep_newT j1 hp hd r1) p⟩
theorem we_lst (h : WPA F C es ρ k fun k1 ds => ds.length ≤ sizeLine ∧ Φ k1 (.list ds)) : WPE F C (.List es pos) ρ k Φ :=
  of_pe (fun X fx => pe_lst (paA fx)) fun σ H Q en j q => h σ H _ en j fun vs ds k1 H1 l1 j1 r1 ⟨hz, p⟩ => ⟨by rw [r1.length]; exact hz, fun p0 hp => q _ (.list ds) k1 _ (l1.trans (.new hp)) (j1.new hp) (rep_newL j1 hp r1) p⟩
/-- a call of a built-in by its name -/
theorem we_cb {r : List V → Hp → VK → Prop} {ta : TA} (h : WA F ta ρ k fun k1 ds => RA F r ds k1 Φ) : WE F (tCB r ta) ρ k Φ := fun σ H Q en j q =>
  h σ H _ en j fun vs ds k1 H1 l1 j1 r1 p => p H1 vs Q j1 r1 fun v d k' H' l' j' r' p' => q v d k' H' (l1.trans l') j' r' p'
theorem we_callB {r : List V → Hp → VK → Prop} {x : Str} {id : String} {p : Pos} (hc : ∀ X, Fits C X → CallR X (.builtin id) r) (hg : C.sc.names.lookup x = some .globalImplicit) (hm : C.mg x = none) (hv : bootBuiltins x = some (.builtin id))
    (h : WPA F C (e :: es) ρ k fun k1 ds => RA F r ds k1 Φ) (hn : x ≠ "__name__" := by decide) (hdb : (x == ("__debug__" : Str)) = false := by decide) (hss : ∀ env : Env, starEach (e :: es) env = (false, eval e env) :: starEach es env := by intro _; rfl) (hpl : ∀ env : Env, ((backTo pos (starEach es env)).any fun x => x.fst) = false := by intro _; rfl) : WPE F C (.Call (.Name x p) (e :: es) [] pos) ρ k Φ :=
  of_pe (fun X fx => pe_callB (hc X fx) (by show X.env.scope.names.lookup x = _; rw [fx.sc]; exact hg) (by rw [fx.mg]; exact hm) hv (paA fx) hn hdb (hss X.env) (hpl X.env)) (we_cb h)
theorem we_callTy {r : List V → Hp → VK → Prop} {x : Str} {T : String} {p : Pos} (hc : ∀ X, Fits C X → CallR X (.type T) r) (hg : C.sc.names.lookup x = some .globalImplicit) (hm : C.mg x = none) (hv : bootBuiltins x = some (.type T))
    (h : WPA F C (e :: es) ρ k fun k1 ds => RA F r ds k1 Φ) (hn : x ≠ "__name__" := by decide) (hdb : (x == ("__debug__" : Str)) = false := by decide) (hss : ∀ env : Env, starEach (e :: es) env = (false, eval e env) :: starEach es env := by intro _; rfl) (hpl : ∀ env : Env, ((backTo pos (starEach es env)).any fun x => x.fst) = false := by intro _; rfl) : WPE F C (.Call (.Name x p) (e :: es) [] pos) ρ k Φ :=
  of_pe (fun X fx => pe_callTy (hc X fx) (by show X.env.scope.names.lookup x = _; rw [fx.sc]; exact hg) (by rw [fx.mg]; exact hm) hv (paA fx) hn hdb (hss X.env) (hpl X.env)) (we_cb h)
end
end Dl

namespace Dl
open PySem PySem.Spec PyProof.Rows L2

/-! ### statements -/
abbrev DE.seq (P : DE) (n : Nat → Rho → Prop) : DE := ⟨n, P.rt, P.bk, P.ct⟩
abbrev DE.loop (P : DE) (n : Nat → Rho → Prop) : DE := ⟨n, P.rt, P.nx, n⟩
section
variable {F : Fm} {C : Cs} {ρ : Rho} {k : Nat} {Φ Φ' : Nat → PyData → Prop} {Ψ Ψ' : Nat → Bool → Prop} {e a b : Expr} {es : List Expr} {pos : Pos} {P : DE}
theorem WS.imp {t : TS} {P' : DE} (h : WS F t ρ k P) (h1 : ∀ k ρ, P.nx k ρ → P'.nx k ρ) (h2 : ∀ k d, P.rt k d → P'.rt k d) (h3 : ∀ k ρ, P.bk k ρ → P'.bk k ρ) (h4 : ∀ k ρ, P.ct k ρ → P'.ct k ρ) : WS F t ρ k P' :=
  fun σ H E en j q1 q2 q3 q4 => h σ H E en j (fun ρ' σ' k' H' l e j' p => q1 ρ' σ' k' H' l e j' (h1 _ _ p)) (fun v d k' H' j' r p => q2 v d k' H' j' r (h2 _ _ p)) (fun ρ' σ' k' H' l e j' p => q3 ρ' σ' k' H' l e j' (h3 _ _ p)) (fun ρ' σ' k' H' l e j' p => q4 ρ' σ' k' H' l e j' (h4 _ _ p))
theorem wb_nil (h : P.nx k ρ) : WPB F C [] ρ k P := of_pb (fun X fx => pss_nil) fun σ H E en j q1 _ _ _ => q1 ρ σ k H .refl en j h
theorem wb_cons {st : Stmt} {rest : List Stmt} (h : WPS F C st ρ k (P.seq fun k1 ρ1 => WPB F C rest ρ1 k1 P)) : WPB F C (st :: rest) ρ k P :=
  of_pb (fun X fx => pss_cons (psS fx) (pbB fx)) fun σ H E en j q1 q2 q3 q4 =>
    h σ H { E with nx := tB C rest E } en j (fun ρ' σ' k' H' l en' j' p => p σ' H' E en' j' (fun ρ2 σ2 k2 H2 l2 => q1 ρ2 σ2 k2 H2 (l.trans l2)) q2 (fun ρ2 σ2 k2 H2 l2 => q3 ρ2 σ2 k2 H2 (l.trans l2)) (fun ρ2 σ2 k2 H2 l2 => q4 ρ2 σ2 k2 H2 (l.trans l2))) q2 q3 q4
theorem ws_pass (h : P.nx k ρ) : WPS F C (.Pass pos) ρ k P := of_ps (fun X fx => ps_pass) fun σ H E en j q1 _ _ _ => q1 ρ σ k H .refl en j h
theorem ws_break (h : P.bk k ρ) : WPS F C (.Break pos) ρ k P := of_ps (fun X fx => ps_break) fun σ H E en j _ _ q3 _ => q3 ρ σ k H .refl en j h
theorem ws_continue (h : P.ct k ρ) : WPS F C (.Continue pos) ρ k P := of_ps (fun X fx => ps_continue) fun σ H E en j _ _ _ q4 => q4 ρ σ k H .refl en j h
theorem ws_ret (h : WPE F C e ρ k P.rt) : WPS F C (.Return (some e) pos) ρ k P := of_ps (fun X fx => ps_ret (peE fx)) fun σ H E en j _ q2 _ _ => h σ H _ en j fun v d k' H' _ j' r p => q2 v d k' H' j' r p
theorem ws_retN (h : P.rt k .none) : WPS F C (.Return none pos) ρ k P := of_ps (fun X fx => ps_retN) fun σ H E en j _ q2 _ _ => q2 _ _ k H j .non h
theorem ws_if {c : Expr} {s1 s2 : List Stmt} (h : WPT F C c ρ k fun k1 z => if z = true then WPB F C s1 ρ k1 P else WPB F C s2 ρ k1 P) : WPS F C (.If c s1 s2 pos) ρ k P :=
  of_ps (fun X fx => ps_if (ptT fx) (pbB fx) (pbB fx)) fun σ H E en j q1 q2 q3 q4 => h σ H _ en j fun z k1 H1 l1 j1 p => by
    have l := l1.lz
    cases z with
    | true => exact p σ H1 E (en.le l1) j1 (fun ρ2 σ2 k2 H2 l2 => q1 ρ2 σ2 k2 H2 (l.trans l2)) q2 (fun ρ2 σ2 k2 H2 l2 => q3 ρ2 σ2 k2 H2 (l.trans l2)) (fun ρ2 σ2 k2 H2 l2 => q4 ρ2 σ2 k2 H2 (l.trans l2))
    | false => exact p σ H1 E (en.le l1) j1 (fun ρ2 σ2 k2 H2 l2 => q1 ρ2 σ2 k2 H2 (l.trans l2)) q2 (fun ρ2 σ2 k2 H2 l2 => q3 ρ2 σ2 k2 H2 (l.trans l2)) (fun ρ2 σ2 k2 H2 l2 => q4 ρ2 σ2 k2 H2 (l.trans l2))
theorem ws_asgName {t : TE} (i : Nat) (h : WE F t ρ k fun k1 d => P.nx k1 (ρ.set i (.d d))) : WS F (tAsg t (gName i)) ρ k P := fun σ H E en j q1 _ _ _ =>
  h σ H _ en j fun v d k1 H1 l1 j1 r p => q1 _ (σ.set i (some v)) k1 H1 l1.lz ((en.le l1).set (sv := .d d) ⟨v, rfl, r⟩) j1 p
/-- what a target wants: no name twice, its place, its kind -/
structure Tgt (C : Cs) (i : Nat) (x : Str) : Prop where
  hN : C.N.Nodup
  hi : C.N[i]? = some x
  hx : Loc C.sc x
  hf : C.fn x = true ∨ C.sc.names.lookup x = some .local
theorem Tgt.pg {i : Nat} {x : Str} (t : Tgt C i x) {X : Cx} (fx : Fits C X) : PG X (.Name x pos) (gName i) :=
  pg_name (by rw [fx.N]; exact t.hN) (by rw [fx.N]; exact t.hi) (by rw [fx.sc]; exact t.hx) (by rw [fx.fn, fx.sc]; exact t.hf)
theorem ws_set (i : Nat) {x : Str} {pos' : Pos} (t : Tgt C i x) (hs : ∀ env : Env, env.scope = C.sc → swapsWith e (some (.Name x pos')) pos.line env = pure false) (h : WPE F C e ρ k fun k1 d => P.nx k1 (ρ.set i (.d d))) : WPS F C (.Assign [.Name x pos'] e pos) ρ k P :=
  of_ps (fun X fx => ps_set (by rw [fx.N]; exact t.hN) (by rw [fx.N]; exact t.hi) (by rw [fx.sc]; exact t.hx) (peE fx) (hs X.env fx.sc) (by rw [fx.fn, fx.sc]; exact t.hf)) (ws_asgName i h)
/-- a, b = a tuple -/
theorem pgTup {es : List Expr} {kk : Nat} {t : TGs} {n : Nat} {X : Cx} (fx : Fits C X) (h : PGs X es t) (hn : (assignEach es X.env).length = n) (hst : (assignEach es X.env).findIdx? (·.1) = none) : PG X (.Tuple es kk pos) (gTup C.K n t) := by
  rw [← fx.K]; exact pg_tup fx.calm h hn hst
theorem piL {X : Cx} (fx : Fits C X) {tg l : Expr} : PI X tg l (iList C.K (tE C l)) := by
  rw [← fx.K]; exact pi_list (peE fx)
theorem piT {X : Cx} (fx : Fits C X) {tg l : Expr} : PI X tg l (iTup C.K (tE C l)) := by
  rw [← fx.K]; exact pi_tup (peE fx)
theorem ws_asg2 (i1 i2 : Nat) {x1 x2 : Str} {p1 p2 p3 : Pos} {kk : Nat} (hne : i1 ≠ i2) (t1 : Tgt C i1 x1) (t2 : Tgt C i2 x2) (hK : F.K = C.K)
    (hs : ∀ env : Env, swapsWithSole [.Tuple [.Name x1 p1, .Name x2 p2] kk p3] e pos.line env = pure false) (hw : ∀ env : Env, swappedStores [.Tuple [.Name x1 p1, .Name x2 p2] kk p3] e env = pure none)
    (h : WPE F C e ρ k fun k1 d => ∃ d1 d2, d = .tuple [d1, d2] ∧ P.nx k1 ((ρ.set i1 (.d d1)).set i2 (.d d2))) : WPS F C (.Assign [.Tuple [.Name x1 p1, .Name x2 p2] kk p3] e pos) ρ k P :=
  of_ps (fun X fx => ps_asg (peE fx) (pgTup (n := 2) fx (pgs_cons (t1.pg fx) (pgs_cons (t2.pg fx) pgs_nil)) (by rfl) (by rfl)) (hs X.env) (hw X.env)) fun σ H E en j q1 _ _ _ =>
    h σ H _ en j fun v d k1 H1 l1 j1 r ⟨d1, d2, e, p⟩ => by
      subst e
      cases r with
      | tup ha hr =>
        cases hr with
        | cons r1 hr =>
          cases hr with
          | cons r2 hr =>
            cases hr
            exact ⟨_, _, rfl, hK ▸ sqt_of ha, rfl, _, _, rfl, _, _, rfl, rfl, q1 _ _ k1 H1 l1.lz (((en.le l1).set (sv := .d d1) ⟨_, rfl, r1⟩).set (sv := .d d2) ⟨_, rfl, r2⟩) j1 p⟩
/-- a, b = x, y -/
theorem ws_par2 (i1 i2 : Nat) {x1 x2 : Str} {p1 p2 p3 p4 : Pos} {kk k2 : Nat} (hne : i1 ≠ i2) (t1 : Tgt C i1 x1) (t2 : Tgt C i2 x2) (h1 : C.sc.names.lookup x1 = some .local) (h2 : C.sc.names.lookup x2 = some .local)
    (hs : ∀ env : Env, swapsWithSole [.Tuple [.Name x1 p1, .Name x2 p2] kk p3] (.Tuple [a, b] k2 p4) pos.line env = pure false) (hw : ∀ env : Env, env.scope = C.sc → swappedStores [.Tuple [.Name x1 p1, .Name x2 p2] kk p3] (.Tuple [a, b] k2 p4) env = pure (some [x1, x2]))
    (h : WPA F C [a, b] ρ k fun k1 ds => ∃ d1 d2, ds = [d1, d2] ∧ P.nx k1 ((ρ.set i1 (.d d1)).set i2 (.d d2))) : WPS F C (.Assign [.Tuple [.Name x1 p1, .Name x2 p2] kk p3] (.Tuple [a, b] k2 p4) pos) ρ k P :=
  of_ps (fun X fx => ps_par fx.calm (by rw [fx.N]; exact t1.hN) (by rw [fx.N]; exact t1.hi) (by rw [fx.N]; exact t2.hi) hne (by rw [fx.sc]; exact h1) (by rw [fx.sc]; exact h2) (paA fx) (hw X.env fx.sc) (hs X.env)) fun σ H E en j q1 _ _ _ =>
    h σ H _ en j fun vs ds k1 H1 l1 j1 r ⟨d1, d2, e, p⟩ => by
      subst e
      cases r with
      | cons r1 hr =>
        cases hr with
        | cons r2 hr =>
          cases hr
          exact ⟨_, _, rfl, q1 _ _ k1 H1 l1.lz (((en.le l1).set (sv := .d d1) ⟨_, rfl, r1⟩).set (sv := .d d2) ⟨_, rfl, r2⟩) j1 p⟩
theorem ws_expr (hs : ∀ env : Env, swapsWith e none pos.line env = pure false) (h : WPE F C e ρ k fun k1 _ => P.nx k1 ρ) : WPS F C (.Expr e pos) ρ k P :=
  of_ps (fun X fx => ps_expr (peE fx) (hs X.env)) fun σ H E en j q1 _ _ _ => h σ H _ en j fun v d k1 H1 l1 j1 r p => q1 ρ σ k1 H1 l1.lz (en.le l1) j1 p
theorem ws_doc {x : Str} {jj : Nat} {p : Pos} (h : P.nx k ρ) : WPS F C (.Expr (.Constant (.str x) jj p) pos) ρ k P := of_ps (fun X fx => ps_doc) fun σ H E en j q1 _ _ _ => q1 ρ σ k H .refl en j h

/-! ### for, while -/
theorem ws_for_list (i : Nat) {x : Str} {px : Pos} {iter : Expr} {body : List Stmt} (t : Tgt C i x) (hK : F.K = C.K) (hfs : ∀ (env : Env) (v : Value), foldedSetIterable iter env v = pure v)
    (h : WPE F C iter ρ k fun k1 d => ∃ (I : Nat → Nat → Rho → Prop) (ds : List PyData), d = .list ds ∧ I 0 k1 ρ ∧ (∀ (j : Nat) (y : PyData) k' ρ', ds[j]? = some y → I j k' ρ' → WPB F C body (ρ'.set i (.d y)) k' (P.loop (I (j + 1)))) ∧ (∀ k' ρ', I ds.length k' ρ' → P.nx k' ρ')) :
    WPS F C (.For (.Name x px) iter body [] pos) ρ k P :=
  of_ps (fun X fx => ps_for (by rw [fx.xe]; exact PassesOwn.never) fx.calm (piL fx) (t.pg fx) (pbB fx) (hfs X.env)) fun σ H E en j q1 q2 q3 q4 => by
    show tE C iter σ H _
    refine h σ H _ en j fun v d k1 H1 l1 j1 r hh => ?_
    obtain ⟨I, ds, e, i0, hstep, hend⟩ := hh
    subst e
    cases r with
    | @lst a xs _ ha hr =>
    refine ⟨a, rfl, ⟨xs, hK ▸ sql_of ha⟩, ?_⟩
    have hlen : xs.length = ds.length := hr.length
    have rr : Rp F H1 (.ref a) (.list ds) := .lst ha hr
    refine for_list (xs := xs) (fun n σ' H' => ∃ k' ρ', EnvOk F H' σ' ρ' ∧ J F k' H' ∧ Lz F H1 H' ∧ I n k' ρ') ⟨k1, ρ, en.le l1, j1, .refl, i0⟩ ?_ ?_ ?_
    · rintro n σ' H' _ ⟨k', ρ', _, _, lz, _⟩
      have := sql_of (K := F.K) (⟨lz _ _ (Fm.sxA ha.2) ha.1, ha.2⟩ : H' a = some (.lst xs) ∧ ¬ F.S a)
      exact hK ▸ this
    · rintro n v σ' H' hv ⟨k', ρ', en', j', lz, ii⟩
      obtain ⟨y, hy, ry⟩ := hr.got hv
      refine hstep n y k' ρ' hy ii (σ'.set i (some v)) H' _ (en'.set (sv := .d y) ⟨v, rfl, ry.le lz⟩) j' ?_ q2 ?_ ?_
      · exact fun ρ2 σ2 k2 H2 l2 e2 j2 p => ⟨k2, ρ2, e2, j2, lz.trans l2, p⟩
      · exact fun ρ2 σ2 k2 H2 l2 e2 j2 p => q1 ρ2 σ2 k2 H2 (l1.lz.trans (lz.trans l2)) e2 j2 p
      · exact fun ρ2 σ2 k2 H2 l2 e2 j2 p => ⟨k2, ρ2, e2, j2, lz.trans l2, p⟩
    · rintro σ' H' ⟨k', ρ', en', j', lz, ii⟩
      exact q1 ρ' σ' k' H' (l1.lz.trans lz) en' j' (hend k' ρ' (hlen ▸ ii))
theorem ws_for_tup (i : Nat) {x : Str} {px : Pos} {iter : Expr} {body : List Stmt} (t : Tgt C i x) (hK : F.K = C.K) (hfs : ∀ (env : Env) (v : Value), foldedSetIterable iter env v = pure v)
    (h : WPE F C iter ρ k fun k1 d => ∃ (I : Nat → Nat → Rho → Prop) (ds : List PyData), d = .tuple ds ∧ I 0 k1 ρ ∧ (∀ (j : Nat) (y : PyData) k' ρ', ds[j]? = some y → I j k' ρ' → WPB F C body (ρ'.set i (.d y)) k' (P.loop (I (j + 1)))) ∧ (∀ k' ρ', I ds.length k' ρ' → P.nx k' ρ')) :
    WPS F C (.For (.Name x px) iter body [] pos) ρ k P :=
  of_ps (fun X fx => ps_for (by rw [fx.xe]; exact PassesOwn.never) fx.calm (piT fx) (t.pg fx) (pbB fx) (hfs X.env)) fun σ H E en j q1 q2 q3 q4 => by
    show tE C iter σ H _
    refine h σ H _ en j fun v d k1 H1 l1 j1 r hh => ?_
    obtain ⟨I, ds, e, i0, hstep, hend⟩ := hh
    subst e
    cases r with
    | @tup a xs _ ha hr =>
    refine ⟨a, rfl, ⟨xs, hK ▸ sqt_of ha⟩, ?_⟩
    have hlen : xs.length = ds.length := hr.length
    refine for_tup (xs := xs) (fun n σ' H' => ∃ k' ρ', EnvOk F H' σ' ρ' ∧ J F k' H' ∧ Lz F H1 H' ∧ I n k' ρ') ⟨k1, ρ, en.le l1, j1, .refl, i0⟩ ?_ ?_ ?_
    · rintro n σ' H' _ ⟨k', ρ', _, _, lz, _⟩
      have := sqt_of (K := F.K) (⟨ha.1.lz ha.2 lz, ha.2⟩ : NT H' a xs ∧ ¬ F.S a)
      exact hK ▸ this
    · rintro n v σ' H' hv ⟨k', ρ', en', j', lz, ii⟩
      obtain ⟨y, hy, ry⟩ := hr.got hv
      refine hstep n y k' ρ' hy ii (σ'.set i (some v)) H' _ (en'.set (sv := .d y) ⟨v, rfl, ry.le lz⟩) j' ?_ q2 ?_ ?_
      · exact fun ρ2 σ2 k2 H2 l2 e2 j2 p => ⟨k2, ρ2, e2, j2, lz.trans l2, p⟩
      · exact fun ρ2 σ2 k2 H2 l2 e2 j2 p => q1 ρ2 σ2 k2 H2 (l1.lz.trans (lz.trans l2)) e2 j2 p
      · exact fun ρ2 σ2 k2 H2 l2 e2 j2 p => ⟨k2, ρ2, e2, j2, lz.trans l2, p⟩
    · rintro σ' H' ⟨k', ρ', en', j', lz, ii⟩
      exact q1 ρ' σ' k' H' (l1.lz.trans lz) en' j' (hend k' ρ' (hlen ▸ ii))
theorem ws_for_range (i : Nat) {x : Str} {px p : Pos} {pos' : Pos} {body : List Stmt} (t : Tgt C i x) (hg : C.sc.names.lookup ("range" : Str) = some .globalImplicit) (hm : C.mg ("range" : Str) = none)
    (hse : ∀ env : Env, starEach [e] env = [(false, eval e env)]) (hfs : ∀ (env : Env) (v : Value), foldedSetIterable (.Call (.Name "range" p) [e] [] pos') env v = pure v)
    (h : WPE F C e ρ k fun k1 d => ∃ (I : Nat → Nat → Rho → Prop) (z : Int), d = .int z ∧ -(2 ^ 62) ≤ z ∧ z < 2 ^ 62 ∧ I 0 k1 ρ ∧ (∀ (j : Nat) k' ρ', j < z.toNat → I j k' ρ' → WPB F C body (ρ'.set i (.d (.int j))) k' (P.loop (I (j + 1)))) ∧ (∀ k' ρ', I z.toNat k' ρ' → P.nx k' ρ')) :
    WPS F C (.For (.Name x px) (.Call (.Name "range" p) [e] [] pos') body [] pos) ρ k P :=
  of_ps (fun X fx => ps_for (by rw [fx.xe]; exact PassesOwn.never) fx.calm (pi_range1 (by show X.env.scope.names.lookup ("range" : Str) = _; rw [fx.sc]; exact hg) (by rw [fx.mg]; exact hm) (pa_cons (peE fx) pa_nil (hse X.env)) (hse X.env)) (t.pg fx) (pbB fx) (hfs X.env)) fun σ H E en j q1 q2 q3 q4 => by
    show tE C e σ H _
    refine h σ H _ en j fun v d k1 H1 l1 j1 r hh => ?_
    obtain ⟨I, z, e, z1, z2, i0, hstep, hend⟩ := hh
    subst e
    cases r
    refine ⟨z, rfl, z1, z2, ?_⟩
    refine for_range (lo := 0) (n := z.toNat) (fun n σ' H' => ∃ k' ρ', EnvOk F H' σ' ρ' ∧ J F k' H' ∧ Lz F H1 H' ∧ I n k' ρ') ⟨k1, ρ, en.le l1, j1, .refl, i0⟩ ?_ ?_
    · rintro n σ' H' hn ⟨k', ρ', en', j', lz, ii⟩
      rw [Int.zero_add]
      refine hstep n k' ρ' hn ii (σ'.set i (some (.int n))) H' _ (en'.set (sv := .d (.int n)) ⟨_, rfl, .int n⟩) j' ?_ q2 ?_ ?_
      · exact fun ρ2 σ2 k2 H2 l2 e2 j2 p => ⟨k2, ρ2, e2, j2, lz.trans l2, p⟩
      · exact fun ρ2 σ2 k2 H2 l2 e2 j2 p => q1 ρ2 σ2 k2 H2 (l1.lz.trans (lz.trans l2)) e2 j2 p
      · exact fun ρ2 σ2 k2 H2 l2 e2 j2 p => ⟨k2, ρ2, e2, j2, lz.trans l2, p⟩
    · rintro σ' H' ⟨k', ρ', en', j', lz, ii⟩
      exact q1 ρ' σ' k' H' (l1.lz.trans lz) en' j' (hend k' ρ' ii)
/-- a while, by a word over the slots with a number that falls -/
theorem ws_while (I : Nat → Nat → Rho → Prop) {c : Expr} {body : List Stmt} (m0 : Nat) (h0 : I m0 k ρ)
    (hstep : ∀ m k' ρ', I m k' ρ' → WPT F C c ρ' k' fun k1 z => if z = true then WPB F C body ρ' k1 (P.loop fun k2 ρ2 => ∃ m2, m2 < m ∧ I m2 k2 ρ2) else P.nx k1 ρ') :
    WPS F C (.While c body [] pos) ρ k P :=
  of_ps (fun X fx => ps_while (by rw [fx.xe]; exact PassesOwn.never) (ptT fx) (pbB fx)) fun σ H E en j q1 q2 q3 q4 => by
    refine ⟨fun m σ' H' => ∃ k' ρ', EnvOk F H' σ' ρ' ∧ J F k' H' ∧ Lz F H H' ∧ I m k' ρ', ⟨m0, k, ρ, en, j, .refl, h0⟩, ?_⟩
    rintro m σ' H' ⟨k', ρ', en', j', lz, ii⟩
    refine hstep m k' ρ' ii σ' H' _ en' j' fun z k1 H1 l1 j1 p => ?_
    cases z with
    | true =>
      refine ⟨fun σ2 H2 => ∃ m2, m2 < m ∧ ∃ k2 ρ2, EnvOk F H2 σ2 ρ2 ∧ J F k2 H2 ∧ Lz F H H2 ∧ I m2 k2 ρ2, fun σ2 H2 ⟨m2, hm, w⟩ => ⟨m2, hm, w⟩, ?_⟩
      refine p σ' H1 _ (en'.le l1) j1 ?_ q2 ?_ ?_
      · exact fun ρ2 σ2 k2 H2 l2 e2 j2 ⟨m2, hm, p⟩ => ⟨m2, hm, k2, ρ2, e2, j2, lz.trans (l1.lz.trans l2), p⟩
      · exact fun ρ2 σ2 k2 H2 l2 e2 j2 p => q1 ρ2 σ2 k2 H2 (lz.trans (l1.lz.trans l2)) e2 j2 p
      · exact fun ρ2 σ2 k2 H2 l2 e2 j2 ⟨m2, hm, p⟩ => ⟨m2, hm, k2, ρ2, e2, j2, lz.trans (l1.lz.trans l2), p⟩
    | false => exact q1 ρ' σ' k1 H1 (lz.trans l1.lz) (en'.le l1) j1 p
end

/-! ### comprehensions -/
def Fm.ext (F : Fm) (D : Addr) : Fm := { F with S := fun b => F.S b ∨ b = D, ms := fun b h => .inl (F.ms b h) }
section
variable {F : Fm} {C : Cs} {ρ : Rho} {k : Nat} {H H1 : Hp} {D : Addr} {σ : L2.St}
theorem J.ext (j : J F k H) (h : Lv H D) : J (F.ext D) k H := ⟨j.g, j.le, fun b hb => hb.elim (j.al b) fun e => e ▸ h⟩
theorem J.unext (j : J (F.ext D) k H) : J F k H := ⟨j.g, j.le, fun b hb => j.al b (.inl hb)⟩
theorem Rep.unext {v : V} {d : PyData} (r : Rp (F.ext D) H v d) : Rp F H v d := Rep.keep (S := (F.ext D).S) (S' := F.S) (fun _ _ _ e => e) (fun b _ z => .inl z) d v r
theorem RepAll.unext {v : List V} {d : List PyData} (r : RpAll (F.ext D) H v d) : RpAll F H v d := RepAll.keep (S := (F.ext D).S) (S' := F.S) (fun _ _ _ e => e) (fun b _ z => .inl z) d v r
theorem Rep.ext {o : HO} {v : V} {d : PyData} (r : Rp F H v d) (h : H D = none) : Rp (F.ext D) (upd H D o) v d :=
  Rep.keep (S := F.S) (S' := (F.ext D).S) (fun b u _ e => by rw [upd_ne (ne_of_none e h)]; exact e) (fun b hb z => z.elim id fun e => absurd (e ▸ h) hb) d v r
theorem RepAll.ext {o : HO} {v : List V} {d : List PyData} (r : RpAll F H v d) (h : H D = none) : RpAll (F.ext D) (upd H D o) v d :=
  RepAll.keep (S := F.S) (S' := (F.ext D).S) (fun b u _ e => by rw [upd_ne (ne_of_none e h)]; exact e) (fun b hb z => z.elim id fun e => absurd (e ▸ h) hb) d v r
theorem EnvOk.ext {o : HO} (en : EnvOk F H σ ρ) (h : H D = none) : EnvOk (F.ext D) (upd H D o) σ ρ := fun i sv e => by
  obtain ⟨x, q, r⟩ := en i sv e
  refine ⟨x, q, ?_⟩
  cases sv with
  | un => trivial
  | d d => obtain ⟨v, e, r⟩ := r; exact ⟨v, e, r.ext h⟩
  | raw v => exact r
  | own o xs =>
    obtain ⟨e, s, m, z, vs, h1, r⟩ := r
    exact ⟨e, .inl s, m, z, vs, by rw [upd_ne (ne_of_none h1 h)]; exact h1, r.ext h⟩
/-- the new list at D changes: the rest is as it was -/
theorem EnvOk.at {o : HO} (en : EnvOk (F.ext D) H σ ρ) (hne : ∀ (i : Nat) o xs, ρ[i]? = some (SV.own o xs) → o ≠ D) : EnvOk (F.ext D) (upd H D o) σ ρ := fun i sv e => by
  obtain ⟨x, q, r⟩ := en i sv e
  have lz : ∀ b u, ¬ (F.ext D).S b → H b = some u → (upd H D o) b = some u := fun b u hb e => by rw [upd_ne fun z => hb (.inr z)]; exact e
  refine ⟨x, q, ?_⟩
  cases sv with
  | un => trivial
  | d d => obtain ⟨v, e, r⟩ := r; exact ⟨v, e, Rep.keep lz (fun _ _ z => z) _ _ r⟩
  | raw v => exact r
  | own o' xs =>
    obtain ⟨e, s, m, z, vs, h1, r⟩ := r
    exact ⟨e, s, m, z, vs, by rw [upd_ne (hne _ _ _ ‹_›)]; exact h1, RepAll.keep lz (fun _ _ z => z) _ _ r⟩
end
end Dl

namespace Dl
open PySem PySem.Spec PyProof.Rows L2
section
variable {F : Fm} {C : Cs} {ρ : Rho} {k : Nat} {H H1 : Hp} {D : Addr} {σ : L2.St} {Φ : Nat → PyData → Prop}
def LeD (F : Fm) (D : Addr) (H H' : Hp) : Prop := ∀ b o, ¬ F.Mx b o → b ≠ D → H b = some o → H' b = some o
theorem LeD.refl : LeD F D H H := fun _ _ _ _ e => e
theorem LeD.trans {H2 : Hp} (a : LeD F D H H1) (b : LeD F D H1 H2) : LeD F D H H2 := fun x o n m e => b x o n m (a x o n m e)
theorem Le.ld (a : Le F H H1) : LeD F D H H1 := fun b o n _ e => a b o n e
theorem LeD.lz (a : LeD F D H H1) (hs : F.S D) : Lz F H H1 := fun b o n e => a b o (fun z => n (z.imp (F.ms b) id)) (fun z => n (.inl (z ▸ hs))) e
theorem EnvOk.ld (en : EnvOk F H σ ρ) (a : LeD F D H H1) (hs : F.S D) (hne : ∀ (i : Nat) o xs, ρ[i]? = some (SV.own o xs) → o ≠ D) : EnvOk F H1 σ ρ := fun i sv e => by
  obtain ⟨x, q, r⟩ := en i sv e
  refine ⟨x, q, ?_⟩
  cases sv with
  | un => trivial
  | d d => obtain ⟨v, e, r⟩ := r; exact ⟨v, e, r.le (a.lz hs)⟩
  | raw v => exact r
  | own o' xs =>
    obtain ⟨e', s, m, z, vs, h1, r⟩ := r
    exact ⟨e', s, m, z, vs, a o' _ (Fm.mxA m) (hne _ _ _ e) h1, r.le (a.lz hs)⟩
theorem lc_turn {tt : TT} {te : TE} {ρ2 : Rho} {σ2 : L2.St} {vs : List V} {acc : List PyData} {I : Nat → List PyData → Prop} {Nx : Hp → Prop} (hM : ¬ F.M D) (hS : F.S D) (h0 : F.H0 D = none)
    (en : EnvOk F H σ2 ρ2) (j : J F k H) (hd : H D = some (.lst vs)) (ra : RpAll F H vs acc) (hz : acc.length < sizeLine)
    (body : WT F tt ρ2 k fun k1 b => if b = true then WE F te ρ2 k1 fun k2 y => I k2 (acc ++ [y]) else I k1 acc)
    (nx : ∀ H' k' vs' acc', acc'.length ≤ acc.length + 1 → LeD F D H H' → H' D = some (.lst vs') → RpAll F H' vs' acc' → J F k' H' → I k' acc' → Nx H') :
    tt σ2 H fun b H3 => if b = true then te σ2 H3 fun y H4 => ∃ acc, H4 D = some (.lst acc) ∧ acc.length < sizeLine ∧ Nx (upd H4 D (.lst (acc ++ [y]))) else Nx H3 := by
  refine body σ2 H _ en j fun b k1 H3 l3 j3 p => ?_
  cases b with
  | false => exact nx H3 k1 vs acc (Nat.le_succ _) l3.ld (l3 D _ (Fm.mxA hM) hd) (ra.le l3.lz) j3 p
  | true =>
    refine p σ2 H3 _ (en.le l3) j3 fun v y k2 H4 l4 j4 r4 q => ?_
    have hd4 : H4 D = some (.lst vs) := l4 D _ (Fm.mxA hM) (l3 D _ (Fm.mxA hM) hd)
    refine ⟨vs, hd4, by rw [ra.length]; exact hz, nx _ k2 _ _ (by rw [List.length_append]; exact Nat.le_refl _) ?_ upd_same ?_ (j4.own hM h0 (pl_lst hd4)) q⟩
    · exact fun b o n m e => by rw [upd_ne m]; exact l4 b o n (l3 b o n e)
    · have lz : Lz F H4 (upd H4 D (.lst (vs ++ [v]))) := fun b o n e => by rw [upd_ne (show b ≠ D from fun z => n (.inl (by rw [z]; exact hS)))]; exact e
      exact (((ra.le l3.lz).le l4.lz).le lz).append (.cons (r4.le lz) .nil)
theorem set_wipe {i : Nat} {x : V} (σ : L2.St) : (wipe σ [i]).set i (some x) = σ.set i (some x) := by
  show (σ.set i none).set i (some x) = _
  rw [List.set_set]
theorem wipe_set {i : Nat} {x : V} (σ : L2.St) : wipe (σ.set i (some x)) [i] = wipe σ [i] := by
  show (σ.set i (some x)).set i none = σ.set i none
  rw [List.set_set]
theorem we_lcL (i : Nat) {tl : TE} {K : PySem.W.Frag} (hK : F.K = K) {tt : TT} {te : TE}
    (h : WE F tl ρ k fun k1 d => ∃ (I : Nat → Nat → List PyData → Prop) (ds : List PyData), d = .list ds ∧ ds.length ≤ 1000000 ∧ I 0 k1 [] ∧ (∀ D (j : Nat) (y : PyData) k' acc, ds[j]? = some y → I j k' acc → WT (F.ext D) tt (ρ.set i (.d y)) k' fun k1 b => if b = true then WE (F.ext D) te (ρ.set i (.d y)) k1 fun k2 z => I (j + 1) k2 (acc ++ [z]) else I (j + 1) k1 acc) ∧ (∀ k' acc, I ds.length k' acc → Φ k' (.list acc))) : WE F (tLc (iList K tl) (gName i) tt te [i]) ρ k Φ := fun σ H Q en j q => by
  show tl σ H _
  refine h σ H _ en j fun v d k1 H1 l1 j1 r hh => ?_
  obtain ⟨I, ds, e, hz, i0, hstep, hend⟩ := hh
  subst e
  cases r with
  | @lst a xs _ ha hr =>
  refine ⟨a, rfl, ⟨xs, hK ▸ sql_of ha⟩, fun D hD => ?_⟩
  have hlen : xs.length = ds.length := hr.length
  have en1 := en.le l1
  have hM : ¬ F.M D := fun z => F.gl _ _ j1.g D z hD
  have hS : ¬ F.S D := j1.fresh hD
  have h0 : F.H0 D = none := j1.h0 hM hD
  have hne : ∀ (i : Nat) o xs, ρ[i]? = some (SV.own o xs) → o ≠ D := fun i o xs e => by
    obtain ⟨x, _, s⟩ := en1 i _ e
    obtain ⟨_, _, _, _, vs, h1, _⟩ := s
    exact ne_of_none h1 hD
  have rr : Rp (F.ext D) (upd H1 D (.lst [])) (.ref a) (.list ds) := Rep.ext (.lst ha hr) hD
  cases rr with
  | @lst _ xs' _ ha' hr' =>
  have exs : True := trivial
  refine lc_list (xs := xs') (fun n H' => ∃ k' vs acc, acc.length ≤ n ∧ EnvOk (F.ext D) H' σ ρ ∧ J (F.ext D) k' H' ∧ LeD (F.ext D) D (upd H1 D (.lst [])) H' ∧ H' D = some (.lst vs) ∧ RpAll (F.ext D) H' vs acc ∧ I n k' acc)
    ⟨k1, [], [], Nat.le_refl _, en1.ext hD, (j1.new hD).ext (lv_new fun _ z => nomatch z), .refl, upd_same, .nil, i0⟩ ?_ ?_ ?_
  · rintro n H' _ ⟨k', vs, acc, _, _, _, ld, _⟩
    have := sql_of (K := F.K) (H := H') (S := (F.ext D).S) ⟨ld.lz (.inr rfl) _ _ (Fm.sxA ha'.2) ha'.1, ha'.2⟩
    exact hK ▸ this
  · rintro n v H' hv ⟨k', vs, acc, hle, en', j', ld, hd, ra, ii⟩
    obtain ⟨y, hy, ry⟩ := hr'.got hv
    show (wipe ((wipe σ [i]).set i (some v)) [i] = wipe σ [i] ∧ _)
    rw [set_wipe]
    refine ⟨wipe_set σ, ?_⟩
    have hn : n < ds.length := (List.getElem?_eq_some_iff.mp hy).1
    refine lc_turn (F := F.ext D) (I := fun k acc => I (n + 1) k acc) hM (.inr rfl) h0 (en'.set (sv := .d y) ⟨v, rfl, ry.le (ld.lz (.inr rfl))⟩) j' hd ra (Nat.lt_of_le_of_lt (show acc.length ≤ 1000000 by omega) (by decide)) (hstep D n y k' acc hy ii) fun H2 k2 vs2 acc2 hl2 ld2 hd2 ra2 j2 i2 => ?_
    exact ⟨k2, vs2, acc2, by omega, en'.ld ld2 (.inr rfl) hne, j2, ld.trans ld2, hd2, ra2, i2⟩
  · rintro H' ⟨k', vs, acc, hle, en', j', ld, hd, ra, ii⟩
    refine q (.ref D) (.list acc) k' H' ?_ j'.unext (.lst ⟨hd, hS⟩ ra.unext) (hend k' acc (by rw [← hr'.length]; exact ii))
    exact fun b o n e => ld b o n (ne_of_none (l1 b o n e) hD) (by rw [upd_ne (ne_of_none (l1 b o n e) hD)]; exact l1 b o n e)
theorem we_lcT (i : Nat) {tl : TE} {K : PySem.W.Frag} (hK : F.K = K) {tt : TT} {te : TE}
    (h : WE F tl ρ k fun k1 d => ∃ (I : Nat → Nat → List PyData → Prop) (ds : List PyData), d = .tuple ds ∧ ds.length ≤ 1000000 ∧ I 0 k1 [] ∧ (∀ D (j : Nat) (y : PyData) k' acc, ds[j]? = some y → I j k' acc → WT (F.ext D) tt (ρ.set i (.d y)) k' fun k1 b => if b = true then WE (F.ext D) te (ρ.set i (.d y)) k1 fun k2 z => I (j + 1) k2 (acc ++ [z]) else I (j + 1) k1 acc) ∧ (∀ k' acc, I ds.length k' acc → Φ k' (.list acc))) : WE F (tLc (iTup K tl) (gName i) tt te [i]) ρ k Φ := fun σ H Q en j q => by
  show tl σ H _
  refine h σ H _ en j fun v d k1 H1 l1 j1 r hh => ?_
  obtain ⟨I, ds, e, hz, i0, hstep, hend⟩ := hh
  subst e
  cases r with
  | @tup a xs _ ha hr =>
  refine ⟨a, rfl, ⟨xs, hK ▸ sqt_of ha⟩, fun D hD => ?_⟩
  have hlen : xs.length = ds.length := hr.length
  have en1 := en.le l1
  have hM : ¬ F.M D := fun z => F.gl _ _ j1.g D z hD
  have hS : ¬ F.S D := j1.fresh hD
  have h0 : F.H0 D = none := j1.h0 hM hD
  have hne : ∀ (i : Nat) o xs, ρ[i]? = some (SV.own o xs) → o ≠ D := fun i o xs e => by
    obtain ⟨x, _, s⟩ := en1 i _ e
    obtain ⟨_, _, _, _, vs, h1, _⟩ := s
    exact ne_of_none h1 hD
  have rr : Rp (F.ext D) (upd H1 D (.lst [])) (.ref a) (.tuple ds) := Rep.ext (.tup ha hr) hD
  cases rr with
  | @tup _ xs' _ ha' hr' =>
  have exs : True := trivial
  refine lc_tup (xs := xs') (fun n H' => ∃ k' vs acc, acc.length ≤ n ∧ EnvOk (F.ext D) H' σ ρ ∧ J (F.ext D) k' H' ∧ LeD (F.ext D) D (upd H1 D (.lst [])) H' ∧ H' D = some (.lst vs) ∧ RpAll (F.ext D) H' vs acc ∧ I n k' acc)
    ⟨k1, [], [], Nat.le_refl _, en1.ext hD, (j1.new hD).ext (lv_new fun _ z => nomatch z), .refl, upd_same, .nil, i0⟩ ?_ ?_ ?_
  · rintro n H' _ ⟨k', vs, acc, _, _, _, ld, _⟩
    have := sqt_of (K := F.K) (H := H') (S := (F.ext D).S) ⟨ha'.1.lz ha'.2 (ld.lz (.inr rfl)), ha'.2⟩
    exact hK ▸ this
  · rintro n v H' hv ⟨k', vs, acc, hle, en', j', ld, hd, ra, ii⟩
    obtain ⟨y, hy, ry⟩ := hr'.got hv
    show (wipe ((wipe σ [i]).set i (some v)) [i] = wipe σ [i] ∧ _)
    rw [set_wipe]
    refine ⟨wipe_set σ, ?_⟩
    have hn : n < ds.length := (List.getElem?_eq_some_iff.mp hy).1
    refine lc_turn (F := F.ext D) (I := fun k acc => I (n + 1) k acc) hM (.inr rfl) h0 (en'.set (sv := .d y) ⟨v, rfl, ry.le (ld.lz (.inr rfl))⟩) j' hd ra (Nat.lt_of_le_of_lt (show acc.length ≤ 1000000 by omega) (by decide)) (hstep D n y k' acc hy ii) fun H2 k2 vs2 acc2 hl2 ld2 hd2 ra2 j2 i2 => ?_
    exact ⟨k2, vs2, acc2, by omega, en'.ld ld2 (.inr rfl) hne, j2, ld.trans ld2, hd2, ra2, i2⟩
  · rintro H' ⟨k', vs, acc, hle, en', j', ld, hd, ra, ii⟩
    refine q (.ref D) (.list acc) k' H' ?_ j'.unext (.lst ⟨hd, hS⟩ ra.unext) (hend k' acc (by rw [← hr'.length]; exact ii))
    exact fun b o n e => ld b o n (ne_of_none (l1 b o n e) hD) (by rw [upd_ne (ne_of_none (l1 b o n e) hD)]; exact l1 b o n e)
theorem we_lcR (i : Nat) {tl : TE} {tt : TT} {te : TE}
    (h : WE F tl ρ k fun k1 d => ∃ (I : Nat → Nat → List PyData → Prop) (z : Int), d = .int z ∧ -(2 ^ 62) ≤ z ∧ z ≤ 1000000 ∧ I 0 k1 [] ∧ (∀ D (j : Nat) k' acc, j < z.toNat → I j k' acc → WT (F.ext D) tt (ρ.set i (.d (.int j))) k' fun k1 b => if b = true then WE (F.ext D) te (ρ.set i (.d (.int j))) k1 fun k2 z => I (j + 1) k2 (acc ++ [z]) else I (j + 1) k1 acc) ∧ (∀ k' acc, I z.toNat k' acc → Φ k' (.list acc))) : WE F (tLc (iRng1 (tCons tl tNil)) (gName i) tt te [i]) ρ k Φ := fun σ H Q en j q => by
  show tl σ H _
  refine h σ H _ en j fun v d k1 H1 l1 j1 r hh => ?_
  obtain ⟨I, z, e, z1, z2, i0, hstep, hend⟩ := hh
  subst e
  cases r
  refine ⟨z, rfl, z1, by omega, fun D hD => ?_⟩
  have en1 := en.le l1
  have hM : ¬ F.M D := fun z => F.gl _ _ j1.g D z hD
  have hS : ¬ F.S D := j1.fresh hD
  have h0 : F.H0 D = none := j1.h0 hM hD
  have hne : ∀ (i : Nat) o xs, ρ[i]? = some (SV.own o xs) → o ≠ D := fun i o xs e => by
    obtain ⟨x, _, s⟩ := en1 i _ e
    obtain ⟨_, _, _, _, vs, h1, _⟩ := s
    exact ne_of_none h1 hD
  refine lc_range (lo := 0) (n := z.toNat) (fun n H' => ∃ k' vs acc, acc.length ≤ n ∧ EnvOk (F.ext D) H' σ ρ ∧ J (F.ext D) k' H' ∧ LeD (F.ext D) D (upd H1 D (.lst [])) H' ∧ H' D = some (.lst vs) ∧ RpAll (F.ext D) H' vs acc ∧ I n k' acc)
    ⟨k1, [], [], Nat.le_refl _, en1.ext hD, (j1.new hD).ext (lv_new fun _ z => nomatch z), .refl, upd_same, .nil, i0⟩ ?_ ?_
  · rintro n H' hn ⟨k', vs, acc, hle, en', j', ld, hd, ra, ii⟩
    rw [Int.zero_add]
    show (wipe ((wipe σ [i]).set i (some (.int n))) [i] = wipe σ [i] ∧ _)
    rw [set_wipe]
    refine ⟨wipe_set σ, ?_⟩
    refine lc_turn (F := F.ext D) (I := fun k acc => I (n + 1) k acc) hM (.inr rfl) h0 (en'.set (sv := .d (.int n)) ⟨_, rfl, .int n⟩) j' hd ra (Nat.lt_of_le_of_lt (show acc.length ≤ 1000000 by omega) (by decide)) (hstep D n k' acc hn ii) fun H2 k2 vs2 acc2 hl2 ld2 hd2 ra2 j2 i2 => ?_
    exact ⟨k2, vs2, acc2, by omega, en'.ld ld2 (.inr rfl) hne, j2, ld.trans ld2, hd2, ra2, i2⟩
  · rintro H' ⟨k', vs, acc, hle, en', j', ld, hd, ra, ii⟩
    refine q (.ref D) (.list acc) k' H' ?_ j'.unext (.lst ⟨hd, hS⟩ ra.unext) (hend k' acc ii)
    exact fun b o n e => ld b o n (ne_of_none (l1 b o n e) hD) (by rw [upd_ne (ne_of_none (l1 b o n e) hD)]; exact l1 b o n e)

theorem wt_yes {Ψ : Nat → Bool → Prop} (h : Ψ k true) : WT F tYes ρ k Ψ := fun σ H Q en j q => q true k H .refl j h
end
/-! comprehensions as expressions, as values given to a name -/
section
variable {F : Fm} {C : Cs} {ρ : Rho} {k : Nat} {Φ : Nat → PyData → Prop} {P : DE} {pos spos : Pos} {elt iter : Expr} {scope : Scope} {i : Nat} {x : Str} {px : Pos}
/-- what a comprehension's block wants: its own name at the place i -/
structure Blk (C : Cs) (scope : Scope) (i : Nat) (x : Str) : Prop where
  ok : BlkOk C.N C.sc scope [(x, i)]
  t : Tgt (C.blk scope) i x
theorem pe_lcX {X : Cx} (fx : Fits C X) (b : Blk C scope i x) {ifs : List Expr} {wi : TI} {tt : TT} (hi : PI X (.Name x px) iter wi) (ht : ∀ X', Fits (C.blk scope) X' → PTs X' ifs tt) (hs : ∀ (env : Env) (v : Value), foldedSetIterable iter env v = pure v) :
    PE X (.ListComp elt [⟨.Name x px, iter, ifs, 0⟩] scope pos) (tLc wi (gName i) tt (tE (C.blk scope) elt) [i]) :=
  pe_lc (own := [(x, i)]) fx.calm (by rw [fx.N]; exact b.t.hN) hi (by rw [fx.N, fx.sc]; exact b.ok) (fun s H a cl fp => b.t.pg (fx.blk s H scope a cl fp)) (fun s H a cl fp => ht _ (fx.blk s H scope a cl fp)) (fun s H a cl fp => peE (fx.blk s H scope a cl fp)) (hs X.env)
theorem ps_lcX {X : Cx} {y : Str} {py : Pos} {iy : Nat} (fx : Fits C X) (b : Blk C scope i x) (ty : Tgt C iy y) (hyl : C.sc.names.lookup y = some .local) (hk : C.sc.kind = .function) (hl : (py.line == pos.line) = true) (ha : (scope.names.any fun (n, k) => n == y && (k == .local || k == .cell)) = false)
    {ifs : List Expr} {wi : TI} {tt : TT} (hi : PI X (.Name x px) iter wi) (ht : ∀ X', Fits (C.blk scope) X' → PTs X' ifs tt) (hs : ∀ (env : Env) (v : Value), foldedSetIterable iter env v = pure v) :
    PS X (.Assign [.Name y py] (.ListComp elt [⟨.Name x px, iter, ifs, 0⟩] scope pos) spos) (tAsg (tLc wi (gName i) tt (tE (C.blk scope) elt) [i]) (gName iy)) :=
  ps_setLc (own := [(x, i)]) fx.calm (by rw [fx.N]; exact b.t.hN) (by rw [fx.N]; exact ty.hi) (by rw [fx.sc]; exact hyl) (sw_true (by rw [fx.sc]; exact hk) (by rw [fx.sc]; exact hyl) hl ha) hi (by rw [fx.N, fx.sc]; exact b.ok) (fun s H a cl fp => b.t.pg (fx.blk s H scope a cl fp)) (fun s H a cl fp => ht _ (fx.blk s H scope a cl fp)) (fun s H a cl fp => peE (fx.blk s H scope a cl fp)) (hs X.env)
theorem we_compL0 (i : Nat) {x : Str} {px : Pos} (b : Blk C scope i x) (hK : F.K = C.K) (hfs : ∀ (env : Env) (v : Value), foldedSetIterable iter env v = pure v)
    (h : WPE F C iter ρ k fun k1 d => ∃ (I : Nat → Nat → List PyData → Prop) (ds : List PyData), d = .list ds ∧ ds.length ≤ 1000000 ∧ I 0 k1 [] ∧ (∀ D (j : Nat) (y : PyData) k' acc, ds[j]? = some y → I j k' acc → WPE (F.ext D) (C.blk scope) elt (ρ.set i (.d y)) k' fun k2 z => I (j + 1) k2 (acc ++ [z])) ∧ (∀ k' acc, I ds.length k' acc → Φ k' (.list acc))) : WPE F C (.ListComp elt [⟨.Name x px, iter, [], 0⟩] scope pos) ρ k Φ :=
  of_pe (fun X fx => pe_lcX fx b (piL fx) (fun _ _ => pts_nil) hfs) (we_lcL i hK (h.imp fun k1 d ⟨I, ds, e, hz, i0, hs, he⟩ => ⟨I, ds, e, hz, i0, fun D j y k' acc hy ii => wt_yes (by rw [if_pos rfl]; exact hs D j y k' acc hy ii), he⟩))
theorem ws_compL0 (i iy : Nat) {x y : Str} {px py : Pos} (b : Blk C scope i x) (ty : Tgt C iy y) (hyl : C.sc.names.lookup y = some .local) (hk : C.sc.kind = .function) (hl : (py.line == pos.line) = true) (ha : (scope.names.any fun (n, k) => n == y && (k == .local || k == .cell)) = false) (hK : F.K = C.K) (hfs : ∀ (env : Env) (v : Value), foldedSetIterable iter env v = pure v)
    (h : WPE F C iter ρ k fun k1 d => ∃ (I : Nat → Nat → List PyData → Prop) (ds : List PyData), d = .list ds ∧ ds.length ≤ 1000000 ∧ I 0 k1 [] ∧ (∀ D (j : Nat) (y : PyData) k' acc, ds[j]? = some y → I j k' acc → WPE (F.ext D) (C.blk scope) elt (ρ.set i (.d y)) k' fun k2 z => I (j + 1) k2 (acc ++ [z])) ∧ (∀ k' acc, I ds.length k' acc → P.nx k' (ρ.set iy (.d (.list acc))))) : WPS F C (.Assign [.Name y py] (.ListComp elt [⟨.Name x px, iter, [], 0⟩] scope pos) spos) ρ k P :=
  of_ps (fun X fx => ps_lcX fx b ty hyl hk hl ha (piL fx) (fun _ _ => pts_nil) hfs) (ws_asgName iy (we_lcL i hK (h.imp fun k1 d ⟨I, ds, e, hz, i0, hs, he⟩ => ⟨I, ds, e, hz, i0, fun D j y k' acc hy ii => wt_yes (by rw [if_pos rfl]; exact hs D j y k' acc hy ii), he⟩)))
theorem we_compL1 (i : Nat) {x : Str} {px : Pos} {c : Expr} (b : Blk C scope i x) (hK : F.K = C.K) (hfs : ∀ (env : Env) (v : Value), foldedSetIterable iter env v = pure v)
    (h : WPE F C iter ρ k fun k1 d => ∃ (I : Nat → Nat → List PyData → Prop) (ds : List PyData), d = .list ds ∧ ds.length ≤ 1000000 ∧ I 0 k1 [] ∧ (∀ D (j : Nat) (y : PyData) k' acc, ds[j]? = some y → I j k' acc → WPT (F.ext D) (C.blk scope) c (ρ.set i (.d y)) k' fun k1 b => if b = true then WPE (F.ext D) (C.blk scope) elt (ρ.set i (.d y)) k1 fun k2 z => I (j + 1) k2 (acc ++ [z]) else I (j + 1) k1 acc) ∧ (∀ k' acc, I ds.length k' acc → Φ k' (.list acc))) : WPE F C (.ListComp elt [⟨.Name x px, iter, [c], 0⟩] scope pos) ρ k Φ :=
  of_pe (fun X fx => pe_lcX fx b (piL fx) (fun X' fx' => pts_one (ptT fx')) hfs) (we_lcL i hK h)
theorem ws_compL1 (i iy : Nat) {x y : Str} {px py : Pos} {c : Expr} (b : Blk C scope i x) (ty : Tgt C iy y) (hyl : C.sc.names.lookup y = some .local) (hk : C.sc.kind = .function) (hl : (py.line == pos.line) = true) (ha : (scope.names.any fun (n, k) => n == y && (k == .local || k == .cell)) = false) (hK : F.K = C.K) (hfs : ∀ (env : Env) (v : Value), foldedSetIterable iter env v = pure v)
    (h : WPE F C iter ρ k fun k1 d => ∃ (I : Nat → Nat → List PyData → Prop) (ds : List PyData), d = .list ds ∧ ds.length ≤ 1000000 ∧ I 0 k1 [] ∧ (∀ D (j : Nat) (y : PyData) k' acc, ds[j]? = some y → I j k' acc → WPT (F.ext D) (C.blk scope) c (ρ.set i (.d y)) k' fun k1 b => if b = true then WPE (F.ext D) (C.blk scope) elt (ρ.set i (.d y)) k1 fun k2 z => I (j + 1) k2 (acc ++ [z]) else I (j + 1) k1 acc) ∧ (∀ k' acc, I ds.length k' acc → P.nx k' (ρ.set iy (.d (.list acc))))) : WPS F C (.Assign [.Name y py] (.ListComp elt [⟨.Name x px, iter, [c], 0⟩] scope pos) spos) ρ k P :=
  of_ps (fun X fx => ps_lcX fx b ty hyl hk hl ha (piL fx) (fun X' fx' => pts_one (ptT fx')) hfs) (ws_asgName iy (we_lcL i hK h))
theorem we_compT0 (i : Nat) {x : Str} {px : Pos} (b : Blk C scope i x) (hK : F.K = C.K) (hfs : ∀ (env : Env) (v : Value), foldedSetIterable iter env v = pure v)
    (h : WPE F C iter ρ k fun k1 d => ∃ (I : Nat → Nat → List PyData → Prop) (ds : List PyData), d = .tuple ds ∧ ds.length ≤ 1000000 ∧ I 0 k1 [] ∧ (∀ D (j : Nat) (y : PyData) k' acc, ds[j]? = some y → I j k' acc → WPE (F.ext D) (C.blk scope) elt (ρ.set i (.d y)) k' fun k2 z => I (j + 1) k2 (acc ++ [z])) ∧ (∀ k' acc, I ds.length k' acc → Φ k' (.list acc))) : WPE F C (.ListComp elt [⟨.Name x px, iter, [], 0⟩] scope pos) ρ k Φ :=
  of_pe (fun X fx => pe_lcX fx b (piT fx) (fun _ _ => pts_nil) hfs) (we_lcT i hK (h.imp fun k1 d ⟨I, ds, e, hz, i0, hs, he⟩ => ⟨I, ds, e, hz, i0, fun D j y k' acc hy ii => wt_yes (by rw [if_pos rfl]; exact hs D j y k' acc hy ii), he⟩))
theorem ws_compT0 (i iy : Nat) {x y : Str} {px py : Pos} (b : Blk C scope i x) (ty : Tgt C iy y) (hyl : C.sc.names.lookup y = some .local) (hk : C.sc.kind = .function) (hl : (py.line == pos.line) = true) (ha : (scope.names.any fun (n, k) => n == y && (k == .local || k == .cell)) = false) (hK : F.K = C.K) (hfs : ∀ (env : Env) (v : Value), foldedSetIterable iter env v = pure v)
    (h : WPE F C iter ρ k fun k1 d => ∃ (I : Nat → Nat → List PyData → Prop) (ds : List PyData), d = .tuple ds ∧ ds.length ≤ 1000000 ∧ I 0 k1 [] ∧ (∀ D (j : Nat) (y : PyData) k' acc, ds[j]? = some y → I j k' acc → WPE (F.ext D) (C.blk scope) elt (ρ.set i (.d y)) k' fun k2 z => I (j + 1) k2 (acc ++ [z])) ∧ (∀ k' acc, I ds.length k' acc → P.nx k' (ρ.set iy (.d (.list acc))))) : WPS F C (.Assign [.Name y py] (.ListComp elt [⟨.Name x px, iter, [], 0⟩] scope pos) spos) ρ k P :=
  of_ps (fun X fx => ps_lcX fx b ty hyl hk hl ha (piT fx) (fun _ _ => pts_nil) hfs) (ws_asgName iy (we_lcT i hK (h.imp fun k1 d ⟨I, ds, e, hz, i0, hs, he⟩ => ⟨I, ds, e, hz, i0, fun D j y k' acc hy ii => wt_yes (by rw [if_pos rfl]; exact hs D j y k' acc hy ii), he⟩)))
theorem we_compT1 (i : Nat) {x : Str} {px : Pos} {c : Expr} (b : Blk C scope i x) (hK : F.K = C.K) (hfs : ∀ (env : Env) (v : Value), foldedSetIterable iter env v = pure v)
    (h : WPE F C iter ρ k fun k1 d => ∃ (I : Nat → Nat → List PyData → Prop) (ds : List PyData), d = .tuple ds ∧ ds.length ≤ 1000000 ∧ I 0 k1 [] ∧ (∀ D (j : Nat) (y : PyData) k' acc, ds[j]? = some y → I j k' acc → WPT (F.ext D) (C.blk scope) c (ρ.set i (.d y)) k' fun k1 b => if b = true then WPE (F.ext D) (C.blk scope) elt (ρ.set i (.d y)) k1 fun k2 z => I (j + 1) k2 (acc ++ [z]) else I (j + 1) k1 acc) ∧ (∀ k' acc, I ds.length k' acc → Φ k' (.list acc))) : WPE F C (.ListComp elt [⟨.Name x px, iter, [c], 0⟩] scope pos) ρ k Φ :=
  of_pe (fun X fx => pe_lcX fx b (piT fx) (fun X' fx' => pts_one (ptT fx')) hfs) (we_lcT i hK h)
theorem ws_compT1 (i iy : Nat) {x y : Str} {px py : Pos} {c : Expr} (b : Blk C scope i x) (ty : Tgt C iy y) (hyl : C.sc.names.lookup y = some .local) (hk : C.sc.kind = .function) (hl : (py.line == pos.line) = true) (ha : (scope.names.any fun (n, k) => n == y && (k == .local || k == .cell)) = false) (hK : F.K = C.K) (hfs : ∀ (env : Env) (v : Value), foldedSetIterable iter env v = pure v)
    (h : WPE F C iter ρ k fun k1 d => ∃ (I : Nat → Nat → List PyData → Prop) (ds : List PyData), d = .tuple ds ∧ ds.length ≤ 1000000 ∧ I 0 k1 [] ∧ (∀ D (j : Nat) (y : PyData) k' acc, ds[j]? = some y → I j k' acc → WPT (F.ext D) (C.blk scope) c (ρ.set i (.d y)) k' fun k1 b => if b = true then WPE (F.ext D) (C.blk scope) elt (ρ.set i (.d y)) k1 fun k2 z => I (j + 1) k2 (acc ++ [z]) else I (j + 1) k1 acc) ∧ (∀ k' acc, I ds.length k' acc → P.nx k' (ρ.set iy (.d (.list acc))))) : WPS F C (.Assign [.Name y py] (.ListComp elt [⟨.Name x px, iter, [c], 0⟩] scope pos) spos) ρ k P :=
  of_ps (fun X fx => ps_lcX fx b ty hyl hk hl ha (piT fx) (fun X' fx' => pts_one (ptT fx')) hfs) (ws_asgName iy (we_lcT i hK h))
theorem we_compR0 (i : Nat) {x : Str} {px : Pos} (b : Blk C scope i x) {e : Expr} {pr pr2 : Pos} (hg : C.sc.names.lookup ("range" : Str) = some .globalImplicit) (hm : C.mg ("range" : Str) = none) (hse : ∀ env : Env, starEach [e] env = [(false, eval e env)]) (hfs : ∀ (env : Env) (v : Value), foldedSetIterable (.Call (.Name "range" pr) [e] [] pr2) env v = pure v)
    (h : WPE F C e ρ k fun k1 d => ∃ (I : Nat → Nat → List PyData → Prop) (z : Int), d = .int z ∧ -(2 ^ 62) ≤ z ∧ z ≤ 1000000 ∧ I 0 k1 [] ∧ (∀ D (j : Nat) k' acc, j < z.toNat → I j k' acc → WPE (F.ext D) (C.blk scope) elt (ρ.set i (.d (.int j))) k' fun k2 z => I (j + 1) k2 (acc ++ [z])) ∧ (∀ k' acc, I z.toNat k' acc → Φ k' (.list acc))) : WPE F C (.ListComp elt [⟨.Name x px, (.Call (.Name "range" pr) [e] [] pr2), [], 0⟩] scope pos) ρ k Φ :=
  of_pe (fun X fx => pe_lcX fx b (pi_range1 (by show X.env.scope.names.lookup ("range" : Str) = _; rw [fx.sc]; exact hg) (by rw [fx.mg]; exact hm) (pa_cons (peE fx) pa_nil (hse X.env)) (hse X.env)) (fun _ _ => pts_nil) hfs) (we_lcR i (h.imp fun k1 d ⟨I, z, e, z1, z2, i0, hs, he⟩ => ⟨I, z, e, z1, z2, i0, fun D j k' acc hj ii => wt_yes (by rw [if_pos rfl]; exact hs D j k' acc hj ii), he⟩))
theorem ws_compR0 (i iy : Nat) {x y : Str} {px py : Pos} (b : Blk C scope i x) (ty : Tgt C iy y) (hyl : C.sc.names.lookup y = some .local) (hk : C.sc.kind = .function) (hl : (py.line == pos.line) = true) (ha : (scope.names.any fun (n, k) => n == y && (k == .local || k == .cell)) = false) {e : Expr} {pr pr2 : Pos} (hg : C.sc.names.lookup ("range" : Str) = some .globalImplicit) (hm : C.mg ("range" : Str) = none) (hse : ∀ env : Env, starEach [e] env = [(false, eval e env)]) (hfs : ∀ (env : Env) (v : Value), foldedSetIterable (.Call (.Name "range" pr) [e] [] pr2) env v = pure v)
    (h : WPE F C e ρ k fun k1 d => ∃ (I : Nat → Nat → List PyData → Prop) (z : Int), d = .int z ∧ -(2 ^ 62) ≤ z ∧ z ≤ 1000000 ∧ I 0 k1 [] ∧ (∀ D (j : Nat) k' acc, j < z.toNat → I j k' acc → WPE (F.ext D) (C.blk scope) elt (ρ.set i (.d (.int j))) k' fun k2 z => I (j + 1) k2 (acc ++ [z])) ∧ (∀ k' acc, I z.toNat k' acc → P.nx k' (ρ.set iy (.d (.list acc))))) : WPS F C (.Assign [.Name y py] (.ListComp elt [⟨.Name x px, (.Call (.Name "range" pr) [e] [] pr2), [], 0⟩] scope pos) spos) ρ k P :=
  of_ps (fun X fx => ps_lcX fx b ty hyl hk hl ha (pi_range1 (by show X.env.scope.names.lookup ("range" : Str) = _; rw [fx.sc]; exact hg) (by rw [fx.mg]; exact hm) (pa_cons (peE fx) pa_nil (hse X.env)) (hse X.env)) (fun _ _ => pts_nil) hfs) (ws_asgName iy (we_lcR i (h.imp fun k1 d ⟨I, z, e, z1, z2, i0, hs, he⟩ => ⟨I, z, e, z1, z2, i0, fun D j k' acc hj ii => wt_yes (by rw [if_pos rfl]; exact hs D j k' acc hj ii), he⟩)))
theorem we_compR1 (i : Nat) {x : Str} {px : Pos} {c : Expr} (b : Blk C scope i x) {e : Expr} {pr pr2 : Pos} (hg : C.sc.names.lookup ("range" : Str) = some .globalImplicit) (hm : C.mg ("range" : Str) = none) (hse : ∀ env : Env, starEach [e] env = [(false, eval e env)]) (hfs : ∀ (env : Env) (v : Value), foldedSetIterable (.Call (.Name "range" pr) [e] [] pr2) env v = pure v)
    (h : WPE F C e ρ k fun k1 d => ∃ (I : Nat → Nat → List PyData → Prop) (z : Int), d = .int z ∧ -(2 ^ 62) ≤ z ∧ z ≤ 1000000 ∧ I 0 k1 [] ∧ (∀ D (j : Nat) k' acc, j < z.toNat → I j k' acc → WPT (F.ext D) (C.blk scope) c (ρ.set i (.d (.int j))) k' fun k1 b => if b = true then WPE (F.ext D) (C.blk scope) elt (ρ.set i (.d (.int j))) k1 fun k2 z => I (j + 1) k2 (acc ++ [z]) else I (j + 1) k1 acc) ∧ (∀ k' acc, I z.toNat k' acc → Φ k' (.list acc))) : WPE F C (.ListComp elt [⟨.Name x px, (.Call (.Name "range" pr) [e] [] pr2), [c], 0⟩] scope pos) ρ k Φ :=
  of_pe (fun X fx => pe_lcX fx b (pi_range1 (by show X.env.scope.names.lookup ("range" : Str) = _; rw [fx.sc]; exact hg) (by rw [fx.mg]; exact hm) (pa_cons (peE fx) pa_nil (hse X.env)) (hse X.env)) (fun X' fx' => pts_one (ptT fx')) hfs) (we_lcR i h)
theorem ws_compR1 (i iy : Nat) {x y : Str} {px py : Pos} {c : Expr} (b : Blk C scope i x) (ty : Tgt C iy y) (hyl : C.sc.names.lookup y = some .local) (hk : C.sc.kind = .function) (hl : (py.line == pos.line) = true) (ha : (scope.names.any fun (n, k) => n == y && (k == .local || k == .cell)) = false) {e : Expr} {pr pr2 : Pos} (hg : C.sc.names.lookup ("range" : Str) = some .globalImplicit) (hm : C.mg ("range" : Str) = none) (hse : ∀ env : Env, starEach [e] env = [(false, eval e env)]) (hfs : ∀ (env : Env) (v : Value), foldedSetIterable (.Call (.Name "range" pr) [e] [] pr2) env v = pure v)
    (h : WPE F C e ρ k fun k1 d => ∃ (I : Nat → Nat → List PyData → Prop) (z : Int), d = .int z ∧ -(2 ^ 62) ≤ z ∧ z ≤ 1000000 ∧ I 0 k1 [] ∧ (∀ D (j : Nat) k' acc, j < z.toNat → I j k' acc → WPT (F.ext D) (C.blk scope) c (ρ.set i (.d (.int j))) k' fun k1 b => if b = true then WPE (F.ext D) (C.blk scope) elt (ρ.set i (.d (.int j))) k1 fun k2 z => I (j + 1) k2 (acc ++ [z]) else I (j + 1) k1 acc) ∧ (∀ k' acc, I z.toNat k' acc → P.nx k' (ρ.set iy (.d (.list acc))))) : WPS F C (.Assign [.Name y py] (.ListComp elt [⟨.Name x px, (.Call (.Name "range" pr) [e] [] pr2), [c], 0⟩] scope pos) spos) ρ k P :=
  of_ps (fun X fx => ps_lcX fx b ty hyl hk hl ha (pi_range1 (by show X.env.scope.names.lookup ("range" : Str) = _; rw [fx.sc]; exact hg) (by rw [fx.mg]; exact hm) (pa_cons (peE fx) pa_nil (hse X.env)) (hse X.env)) (fun X' fx' => pts_one (ptT fx')) hfs) (ws_asgName iy (we_lcR i h))
end
end Dl

namespace Dl
open PySem PySem.Spec PyProof.Rows L2

/-! ### defs whose promise holds where no repr is under way -/
structure FnG (P : Program) (w : World) (K : PySem.W.Frag) (mg : Str → Option Value) (base : Heap) (k : Nat) (f : Addr) (fd : FuncData) (ps : List Str) (sp : Sp) : Prop where
  len : ∀ vs H Q E, sp vs H Q E → vs.length = ps.length
  run : ∀ (A : Around) (outer : List Env) (s : Shared) (H : Hp) (args : Args) (us : List Value) (vs : List V) (Q : VK), A.guards = some [] → Room k A → Env0 P w K mg base A outer s H → BindsTo s fd args (ps.zip us) → Vals vs us → sp vs H Q E0 →
    codeAny (model P w) A (.call (.ref f) args) (CR CX0 outer P w H s Q E0) s
section
variable {P : Program} {w : World} {K : PySem.W.Frag} {mg : Str → Option Value} {base : Heap}
theorem FnG.of_body {x qual : Str} {st : Stmt} {f : Addr} {fd : FuncData} {N ps : List Str} {k : Nat} {sp : Sp} (Fn : Fun K x qual st f fd) (Sc : FnScope N ps (defScope st)) (len : ∀ vs H Q E, sp vs H Q E → vs.length = ps.length)
    (body : ∀ (cdv : Value) (A : Around) (outer : List Env) (s : Shared) (H : Hp) (vs : List V) (Q : VK), A.guards = some [] → Room k (A.deeper (envOfC qual (defScope st) s.heap.objs.size f cdv)) → sp vs H Q E0 →
      ∃ t, PSs (cxOf CX0 P w K mg base N qual (defScope st) f cdv A outer s H E0).nox (defBody st) t ∧ t { nx := fun _ H' => Q .non H', rt := Q } (L2.start N vs) H) :
    FnG P w K mg base (k + 1) f fd ps sp := by
  obtain ⟨oc, od, kV, doc, pm, an, cdv, ct, osl, efd, look, hcode⟩ := Fn.ex
  subst efd
  constructor
  · exact len
  intro A outer s H args us vs Q hgd room env hbind rel hsp
  have hlen := len vs H Q E0 hsp
  have inK : K.In s.heap := env.mod.kin.keeps fun b o z => (env.bs b o z).1
  have nolim : s.heap.NoLimit := env.mod.nolimit.keeps fun b o z => (env.bs b o z).1
  refine codeAny_call_function room.depth (inK f _ look) rfl Sc.co Sc.gen rfl (PySem.W.codeRec_of inK hcode) (hbind _ _ _ _ ?_)
  have kinds : ∀ y ∈ ps.zip us, (defScope st).names.lookup y.1 = some .local ∨ ((defScope st).names.lookup y.1 = some .cell ∧ ((cellsFrom (s.heap.objs.size + 1) (defScope st).names []).lookup y.1).isSome = true) := by
    rintro ⟨n, v⟩ hy
    have hn : n ∈ ps := (List.of_mem_zip hy).1
    cases Sc.par n hn with
    | inl q => left; exact q
    | inr q => right; exact ⟨q, PySem.W.cellsFrom_some _ _ _ (Or.inl q)⟩
  apply wpAny_newFunctionEnv_cells Sc.kind kinds
  intro env' he s1 ic
  subst he
  refine ⟨nolim.keeps ic.toInCall.keep, codeAny_func ?_⟩
  obtain ⟨t, ht, hq⟩ := body cdv A outer s H vs Q hgd (room.deeper _) hsp
  have inv : Inv (cxOf CX0 P w K mg base N qual (defScope st) f cdv A outer s H E0) [] (L2.start N vs) H s1 := inv_start Sc room.hd env hlen rel ic
  refine wpAny_mono (ht.nox.run [] s1 _ H _ inv hq) ?_ (fun e s' z => z)
  intro fl s' hfl
  cases fl with
  | ret u => exact let ⟨v, _, H', j, rv, q⟩ := hfl; ⟨v, H', j.os, j.bare, j.base, j.hok, rv, q⟩
  | next => exact let ⟨_, H', j, q⟩ := hfl; ⟨V.non, H', j.os, j.bare, j.base, j.hok, rfl, q⟩
  | brk => exact let ⟨_, _, _, q⟩ := hfl; False.elim q
  | cont => exact let ⟨_, _, _, q⟩ := hfl; False.elim q
theorem FnG.mono {j k : Nat} {f : Addr} {fd : FuncData} {ps : List Str} {sp : Sp} (G : FnG P w K mg base j f fd ps sp) (h : j ≤ k) : FnG P w K mg base k f fd ps sp :=
  ⟨G.len, fun A outer s H args us vs Q g room => G.run A outer s H args us vs Q g (room.mono h)⟩
end
section
variable {X : Cx} {x : Str} {p pos : Pos} {e : Expr} {es : List Expr} {t : TA} {k : Nat} {f : Addr} {fd : FuncData} {ps : List Str} {sp : Sp}
theorem FnG.call_run {pins : List (Addr × Obj)} {σ : L2.St} {H : Hp} {s : Shared} {Q : VK} {us : List Value} {vs : List V} (G : FnG X.prog X.w X.K X.mg X.base k f fd ps sp) (gd : X.A.guards = some []) (room : Room k X.A) (hb : L2.Binds X.K fd ps [])
    (I : Inv X pins σ H s) (r : Vals vs us) (h : sp vs H Q E0) : wpAny (model X.prog X.w) X.A (call (.ref f) us) (EP X pins σ Q) X.xe s := by
  have hl : us.length = ps.length := r.length.symm.trans (G.len vs H Q E0 h)
  have bind := hb s us I.kIn (by rw [List.append_nil]; exact hl)
  rw [List.append_nil] at bind
  refine wpAny_call (codeAny_mono (G.run X.A X.stack s H ⟨us, []⟩ us vs Q gd room I.env0 bind r h) ?_)
  intro res s' hr
  match res, hr with
  | .ok (.ret u), hr => exact I.after hr
  | .ok .next, hr => exact False.elim hr
  | .ok .brk, hr => exact False.elim hr
  | .ok .cont, hr => exact False.elim hr
  | .error _, hr => exact False.elim hr
theorem FnG.pe (G : FnG X.prog X.w X.K X.mg X.base k f fd ps sp) (gd : X.A.guards = some []) (room : Room k X.A) (hb : L2.Binds X.K fd ps []) (hg : Gl X x) (hm : X.mg x = some (.ref f)) (kp : PySem.W.keepIn X.K (.ref f) = true)
    (ha : PA X (e :: es) t) (hdb : (x == ("__debug__" : Str)) = false) (hss : starEach (e :: es) X.env = (false, eval e X.env) :: starEach es X.env) (hpl : ((backTo pos (starEach es X.env)).any fun z => z.fst) = false) :
    PE X (.Call (.Name x p) (e :: es) [] pos) (fun σ H Q => t σ H fun vs H1 => sp vs H1 Q E0) := by
  constructor
  intro pins s σ H Q I h
  refine wpAny_Call_Name_kw (ld_glob I hg hm ?_ hdb)
  refine PySem.W.callWith_K (h₀ := X.base) I.ok.mod.kin kp (wpAny_mono (ha.run pos pins s σ H _ I h) ?_ fun _ _ z => z) hss hpl
  rintro us s1 ⟨vs, H1, I1, rv, q⟩
  exact ⟨I1.kIn, G.call_run gd room hb I1 rv q⟩
end
/-! ### the law's end -/
theorem law_end {P : Program} {w : World} {K : PySem.W.Frag} {mg mb : Str → Option Value} {k : Nat} {fa a : Addr} {fd : FuncData} {x : Str} {sp : Sp} {s1 : Shared} {vs : List Value} {ns : List Int}
    (inK : K.In s1.heap) (hns : s1.heap.Ns mainGlobals mg) (hbl : s1.heap.Ns builtinsNs mb) (hboot : ∀ x : Str, x ≠ "__name__" → mb x = bootBuiltins x) (nolim : s1.heap.NoLimit) (nogen : s1.gens = #[])
    (ha : s1.heap.get? a = some { cls := .type "list", data := .seq vs.toArray }) (hint : IntsAre vs ns) (hlen : ns.length ≤ sizeLine) (room : Room k callerA)
    (G : ∀ base : Heap, K.In base → base.Ns mainGlobals mg → FnG P w K mg base k fa fd [x] sp) (hbind : ∀ (s : Shared) (u : Value), BindsTo s fd ⟨[u], []⟩ [(x, u)])
    (hsp : ∀ H : Hp, (∀ b, H b = none ∨ ∃ o xs, H b = some (.frz o (.lst xs))) → SqL K H a (ns.map V.int) → sp [.ref a] H (fun v _ => v = .bl true) E0) :
    codeAny (model P w) callerA (.call (.ref fa) ⟨[.ref a], []⟩) (fun r s' => r = .ok (.ret (.bool true)) ∧ OldK s1.heap s'.heap ∧ s'.os = s1.os ∧ AllBare s'.gens) s1 := by
  -- the abstract heap: the script alone, where it is none of the module's own
  let H : Hp := fun b => if b = a ∧ K.lookup a = none then some (.frz { cls := .type "list", data := .seq vs.toArray } (.lst (ns.map V.int))) else none
  have Hcase : ∀ b, H b = none ∨ (b = a ∧ K.lookup a = none ∧ H b = some (.frz { cls := .type "list", data := .seq vs.toArray } (.lst (ns.map V.int)))) := by
    intro b
    by_cases c : b = a ∧ K.lookup a = none
    · exact Or.inr ⟨c.1, c.2, if_pos c⟩
    · exact Or.inl (if_neg c)
  have only : ∀ b, H b = none ∨ ∃ o xs, H b = some (.frz o (.lst xs)) := fun b => (Hcase b).imp id fun z => ⟨_, _, z.2.2⟩
  have rel : Vals (ns.map V.int) vs := vals_ints hint
  have hsq : SqL K H a (ns.map V.int) := by
    cases c : K.lookup a with
    | none => exact Or.inl (Or.inr ⟨_, if_pos ⟨rfl, c⟩⟩)
    | some o =>
      have z := inK a o c
      rw [ha] at z
      cases z
      exact Or.inr ⟨_, vs.toArray, _, c, rfl, rfl, rfl, (by rw [List.size_toArray, ← rel.length, List.length_map]; exact hlen), (by simpa using rel)⟩
  have hok : HOk P w H s1.heap := by
    intro b u z
    rcases Hcase b with q | ⟨e, _, q⟩
    · rw [q] at z; cases z
    · rw [q] at z
      cases z
      subst e
      exact ⟨ha, by rw [List.length_map]; exact hlen, vs, _, rel, ha⟩
  -- what is not the script stands in the base
  have keepB : ∀ {b : Addr} {o : Obj}, s1.heap.get? b = some o → H b = none → (hidT s1.heap H).get? b = some o := fun z n => hidT_get z n
  have nsB : ∀ {b : Addr} {m : Str → Option Value}, s1.heap.Ns b m → (hidT s1.heap H).Ns b m := by
    rintro b m ⟨o, es, ep, z, d, r⟩
    refine ⟨o, es, ep, keepB z ?_, d, r⟩
    rcases Hcase b with q | ⟨e, _, _⟩
    · exact q
    · rw [e, ha] at z
      cases z
      have d' : Data.seq vs.toArray _ = Data.dict es ep := d
      cases d'
  have inB : K.In (hidT s1.heap H) := by
    intro b o z
    refine keepB (inK b o z) ?_
    rcases Hcase b with q | ⟨e, c, _⟩
    · exact q
    · rw [e, c] at z; cases z
  have mod : Mod K mg (hidT s1.heap H) := ⟨inB, nsB hns, ⟨mb, nsB hbl, hboot⟩, let ⟨m, z1, z2⟩ := nolim; ⟨m, nsB z1, z2⟩⟩
  have env : Env0 P w K mg (hidT s1.heap H) callerA [] s1 H := by
    refine ⟨rfl, mod, fun b o z => of_hidT z, Nat.le_of_eq (hidT_size _ _), trivial, ?_, hok, .of_eq nogen⟩
    intro b z
    have z' : b ∈ ([] : List Addr) := z
    cases z'
  refine codeAny_mono ((G _ inB (nsB hns)).run callerA [] s1 H ⟨[.ref a], []⟩ [.ref a] [.ref a] _ rfl room env (hbind s1 (.ref a)) (.cons rfl .nil) (hsp H only hsq)) ?_
  intro res s' hr
  match res, hr with
  | .ok (.ret u), hr =>
    obtain ⟨v, H', os, bare, un, hok', rv, q⟩ := hr
    have q' : v = .bl true := q
    subst q'
    obtain rfl : u = Value.bool true := rv
    refine ⟨rfl, OldK.of_keep ?_, os, bare⟩
    intro b o z
    rcases Hcase b with c | ⟨e, _, c⟩
    · exact un.keep b o z c (fun y => by have y' : b ∈ ([] : List Addr) := y; cases y') (fun y => by cases y)
    · have c2 := un.frzs b _ _ c
      obtain ⟨e1, _⟩ := hok b _ c
      obtain ⟨e2, _⟩ := hok' b _ c2
      rw [z] at e1
      cases e1
      exact e2
  | .ok .next, hr => exact False.elim hr
  | .ok .brk, hr => exact False.elim hr
  | .ok .cont, hr => exact False.elim hr
  | .error _, hr => exact False.elim hr
theorem walk_end {l : PySem.W.OpenLaw} {n k : Nat} {q : Program} {loose : List Str} {XP : (Str → Option Value) → Heap → Prop} {YP : World → Heap → Prop} {d : DefRec} {K : Params → PySem.W.Frag} {sp : PySem.W.Frag → Sp} {x : Str}
    (hmost : l.most = some n) (hsmall : n ≤ sizeLine) (nodef : d.params.defaults = []) (room : Room k callerA) (hY : ∀ (w : World) (h : Heap), YP w h → (K w.params).In h)
    (G : ∀ (w : World) (mg : Str → Option Value) (fa : Addr) (h : Heap), (K w.params).In h → h.Ns mainGlobals mg → mg d.name = some (.ref fa) →
      ∃ fd : FuncData, (∀ (s : Shared) (u : Value), BindsTo s fd ⟨[u], []⟩ [(x, u)]) ∧ ∀ base : Heap, (K w.params).In base → base.Ns mainGlobals mg → FnG l.prog w (K w.params) mg base k fa fd [x] (sp (K w.params)))
    (hsp : ∀ (K : PySem.W.Frag) (H : Hp) (a : Addr) (ns : List Int), ns.length ≤ n → (∀ b, H b = none ∨ ∃ o xs, H b = some (.frz o (.lst xs))) → SqL K H a (ns.map V.int) → sp K [.ref a] H (fun v _ => v = .bl true) E0) :
    PySem.W.WalkO q loose XP YP l.row.toRowW d [] (fun f vs => PySem.call f vs) := by
  apply Att.attach_call hmost nodef
  intro w s0 s1 mg mb fa o pm cd doc a vs ns Gr Y _ _ _ hmg hobj hint hlen hgen
  obtain ⟨fd, hb, hG⟩ := G w mg fa _ (hY w _ Y) Gr.T.g hmg
  exact law_end (hY w _ Y) Gr.T.g Gr.T.b Gr.T.builtins Gr.T.nolimit hgen hobj hint (Nat.le_trans hlen hsmall) room hG hb fun H hO hS => hsp _ H a ns hlen hO hS
end Dl

namespace Dl
open PySem PySem.Spec PyProof.Rows L2

/-! ### defs that only read: the promise R, arguments to result -/
abbrev Rel := List PyData → PyData → Prop
def spPure (K : PySem.W.Frag) (R : Rel) : Sp := fun vs H Q _ => ∃ (S : Addr → Prop) (ds : List PyData) (d : PyData), (∀ b, S b → Lv H b) ∧ RepAll K S H vs ds ∧ R ds d ∧ ∀ v H', Same H H' → Rep K S H' v d → Q v H'
structure PFn (P : Program) (w : World) (K : PySem.W.Frag) (mg : Str → Option Value) (base : Heap) (lvl : Nat) (x : Str) (R : Rel) : Prop where
  ex : ∃ (fa : Addr) (fd : FuncData) (ps : List Str), FnG P w K mg base lvl fa fd ps (spPure K R) ∧ mg x = some (.ref fa) ∧ PySem.W.keepIn K (.ref fa) = true ∧ L2.Binds K fd ps []
def pureFm (K : PySem.W.Frag) (S : Addr → Prop) (H : Hp) : Fm := { K := K, S := S, M := fun _ => False, H0 := H, G := fun _ _ => True, ms := fun _ h => h.elim, gm := fun _ _ _ _ _ _ => trivial, gl := fun _ _ _ _ h => h.elim }
def bodyCs (P : Program) (w : World) (K : PySem.W.Frag) (mg : Str → Option Value) (base : Heap) (N : List Str) (sc : Scope) (lvl : Nat) : Cs := ⟨P, w, K, mg, base, N, sc, fun _ => true, lvl⟩
theorem fits_body {CX : CXT} {P : Program} {w : World} {K : PySem.W.Frag} {mg : Str → Option Value} {base : Heap} {N : List Str} {qual : Str} {sc : Scope} {f : Addr} {cd : Value} {A : Around} {outer : List Env} {s : Shared} {H : Hp} {E : XK} {k : Nat} (hgd : A.guards = some []) (hr : Room k (A.deeper (envOfC qual sc s.heap.objs.size f cd))) :
    Fits (bodyCs P w K mg base N sc k) (cxOf CX P w K mg base N qual sc f cd A outer s H E).nox := ⟨rfl, rfl, rfl, rfl, rfl, rfl, rfl, rfl, rfl, hr, rfl, hgd⟩
def startR (N : List Str) (ds : List PyData) : Rho := ds.map .d ++ List.replicate (N.length - ds.length) .un
theorem env_start {F : Fm} {H : Hp} {N : List Str} {vs : List V} {ds : List PyData} (r : RpAll F H vs ds) : EnvOk F H (start N vs) (startR N ds) := fun i sv e => by
  have hl := r.length
  unfold L2.start
  by_cases hi : i < ds.length
  · have e1 : (startR N ds)[i]? = some (.d ds[i]) := by
      unfold startR
      rw [List.getElem?_append_left (by simpa using hi), List.getElem?_map, List.getElem?_eq_getElem hi]; rfl
    rw [e1] at e
    cases e
    obtain ⟨v, hv, rv⟩ := r.get (List.getElem?_eq_getElem hi)
    refine ⟨some v, ?_, v, rfl, rv⟩
    rw [List.getElem?_append_left (by simpa [hl] using hi), List.getElem?_map, hv]; rfl
  · unfold startR at e
    rw [List.getElem?_append_right (by simpa using hi)] at e
    rw [List.getElem?_append_right (by simp; omega)]
    simp only [List.length_map] at e ⊢
    rw [List.getElem?_replicate] at e ⊢
    rw [hl]
    by_cases hj : i - ds.length < N.length - ds.length
    · rw [if_pos hj] at e ⊢
      cases e
      exact ⟨none, rfl, trivial⟩
    · rw [if_neg hj] at e; cases e
section
variable {P : Program} {w : World} {K : PySem.W.Frag} {mg : Str → Option Value} {base : Heap}
/-- a def that only reads keeps its promise -/
theorem pure_ok {x qual : Str} {st : Stmt} {f : Addr} {fd : FuncData} {N ps : List Str} {k : Nat} {R : Rel} (Fn : Fun K x qual st f fd) (Sc : FnScope N ps (defScope st)) (len : ∀ ds d, R ds d → ds.length = ps.length)
    (body : ∀ (F : Fm) (ds : List PyData) (d : PyData), F.K = K → R ds d → WPB F (bodyCs P w K mg base N (defScope st) k) (defBody st) (startR N ds) 0 { nx := fun _ _ => d = .none, rt := fun _ d' => d' = d, bk := fun _ _ => False, ct := fun _ _ => False }) :
    FnG P w K mg base (k + 1) f fd ps (spPure K R) := by
  refine FnG.of_body Fn Sc (fun vs H Q E h => ?_) (fun cdv A outer s H vs Q hgd hr h => ?_)
  · obtain ⟨S, ds, d, _, r, hR, _⟩ := h
    rw [RepAll.length r, len ds d hR]
  · obtain ⟨S, ds, d, al, r, hR, q⟩ := h
    refine ⟨_, pbB (fits_body hgd hr), ?_⟩
    refine body (pureFm K S H) ds d rfl hR (start N vs) H _ (env_start (F := pureFm K S H) r) ⟨trivial, fun b o _ e => e, al⟩ ?_ ?_ ?_ ?_
    · exact fun ρ' σ' k' H' _ _ j' e => q _ H' (fun b o h => j'.le b o (fun z => z.elim id id) h) (by rw [e]; exact .non)
    · exact fun v d' k' H' j' r' e => q v H' (fun b o h => j'.le b o (fun z => z.elim id id) h) (e ▸ r')
    · exact fun _ _ _ _ _ _ _ z => z.elim
    · exact fun _ _ _ _ _ _ _ z => z.elim
end
section
variable {F : Fm} {C : Cs} {ρ : Rho} {k : Nat} {Φ Φ' : Nat → PyData → Prop} {Ψ Ψ' : Nat → Bool → Prop} {e a b : Expr} {es : List Expr} {pos : Pos} {P : DE}
theorem pe_callF {x : Str} {p : Pos} {j : Nat} {fa : Addr} {fd : FuncData} {ps : List Str} {sp : Sp} {t : TA} {X : Cx} (fx : Fits C X) (G : FnG C.P C.w C.K C.mg C.base j fa fd ps sp) (hl : j ≤ C.lvl) (hg : C.sc.names.lookup x = some .globalImplicit) (hm : C.mg x = some (.ref fa)) (kp : PySem.W.keepIn C.K (.ref fa) = true) (hb : L2.Binds C.K fd ps [])
    (ha : PA X (e :: es) t) (hdb : (x == ("__debug__" : Str)) = false) (hss : ∀ env : Env, starEach (e :: es) env = (false, eval e env) :: starEach es env) (hpl : ∀ env : Env, ((backTo pos (starEach es env)).any fun x => x.fst) = false) : PE X (.Call (.Name x p) (e :: es) [] pos) (fun σ H Q => t σ H fun vs H1 => sp vs H1 Q E0) :=
  FnG.pe (by rw [fx.P, fx.w, fx.K, fx.mg, fx.base]; exact G) fx.gd (fx.room.mono hl) (by rw [fx.K]; exact hb) (by show X.env.scope.names.lookup x = _; rw [fx.sc]; exact hg) (by rw [fx.mg]; exact hm) (by rw [fx.K]; exact kp) ha hdb (hss X.env) (hpl X.env)
/-- a call of a def that only reads -/
theorem we_callP {x : Str} {R : Rel} {p : Pos} {j : Nat} (hF : PFn C.P C.w C.K C.mg C.base j x R) (hl : j ≤ C.lvl) (hK : F.K = C.K) (hg : C.sc.names.lookup x = some .globalImplicit)
    (h : WPA F C (e :: es) ρ k fun k1 ds => ∃ d, R ds d ∧ Φ k1 d) (hdb : (x == ("__debug__" : Str)) = false := by decide) (hss : ∀ env : Env, starEach (e :: es) env = (false, eval e env) :: starEach es env := by intro _; rfl) (hpl : ∀ env : Env, ((backTo pos (starEach es env)).any fun x => x.fst) = false := by intro _; rfl) :
    WPE F C (.Call (.Name x p) (e :: es) [] pos) ρ k Φ := by
  obtain ⟨fa, fd, ps, G, hm, kp, hb⟩ := hF.ex
  refine of_pe (fun X fx => pe_callF fx G hl hg hm kp hb (paA fx) hdb hss hpl) fun σ H Q en jj q => ?_
  refine h σ H _ en jj fun vs ds k1 H1 l1 j1 r1 ⟨d, hR, p⟩ => ?_
  refine ⟨F.S, ds, d, j1.al, hK ▸ r1, hR, fun v H' sm rv => ?_⟩
  have le : Le F H1 H' := fun b o _ e => sm b o e
  refine q v d k1 H' (l1.trans le) ⟨F.gm _ _ _ j1.g (fun b hb => ?_) (fun b o _ e => sm b o e), fun b o n e => sm b o (j1.le b o n e), fun b hb => (j1.al b hb).keep fun o e => sm b o e⟩ (by show Rep F.K F.S H' v d; rw [hK]; exact rv) p
  cases e : H1 b with
  | none => exact absurd e (F.gl _ _ j1.g b hb)
  | some o => exact sm b o e

/-! ### operations on data -/
theorem rd_or1 {r r' : R2} {x y : PyData} (h : RD F r x y k Φ) : RD F (fun x y H Q => r x y H Q ∨ r' x y H Q) x y k Φ := fun H vx vy Q j rx ry q => .inl (h H vx vy Q j rx ry q)
theorem rd_or2 {r r' : R2} {x y : PyData} (h : RD F r' x y k Φ) : RD F (fun x y H Q => r x y H Q ∨ r' x y H Q) x y k Φ := fun H vx vy Q j rx ry q => .inr (h H vx vy Q j rx ry q)
theorem rd_II {g : Int → Int → Int} {i j : Int} (h : Φ k (.int (g i j))) : RD F (rI0 fun i j => .int (g i j)) (.int i) (.int j) k Φ := fun H vx vy Q jj rx ry q => by
  cases rx; cases ry; exact ⟨i, j, rfl, rfl, q _ _ k H .refl jj (.int _) h⟩
theorem rd_IB {g : Int → Int → Bool} {i j : Int} (h : Φ k (.bool (g i j))) : RD F (rI0 fun i j => .bl (g i j)) (.int i) (.int j) k Φ := fun H vx vy Q jj rx ry q => by
  cases rx; cases ry; exact ⟨i, j, rfl, rfl, q _ _ k H .refl jj (.bl _) h⟩
theorem rd_IC {c : Int → Int → Prop} {g : Int → Int → Int} {i j : Int} (hc : c i j) (h : Φ k (.int (g i j))) : RD F (rI c fun i j => .int (g i j)) (.int i) (.int j) k Φ := fun H vx vy Q jj rx ry q => by
  cases rx; cases ry; exact ⟨i, j, rfl, rfl, hc, q _ _ k H .refl jj (.int _) h⟩
theorem we_add (h : WPE F C a ρ k fun k1 x => WPE F C b ρ k1 fun k2 y => ∃ i j, x = .int i ∧ y = .int j ∧ Φ k2 (.int (i + j))) : WPE F C (.BinOp a .Add b pos) ρ k Φ :=
  we_bin (fun X _ => op_add) (h.imp fun k1 x h1 => h1.imp fun k2 y ⟨i, j, e1, e2, p⟩ => by subst e1 e2; exact rd_II p)
theorem we_sub (h : WPE F C a ρ k fun k1 x => WPE F C b ρ k1 fun k2 y => ∃ i j, x = .int i ∧ y = .int j ∧ Φ k2 (.int (i - j))) : WPE F C (.BinOp a .Sub b pos) ρ k Φ :=
  we_bin (fun X _ => op_sub) (h.imp fun k1 x h1 => h1.imp fun k2 y ⟨i, j, e1, e2, p⟩ => by subst e1 e2; exact rd_II p)
theorem we_mul (h : WPE F C a ρ k fun k1 x => WPE F C b ρ k1 fun k2 y => ∃ i j, x = .int i ∧ y = .int j ∧ CMul i j ∧ Φ k2 (.int (i * j))) : WPE F C (.BinOp a .Mult b pos) ρ k Φ :=
  we_bin (fun X _ => op_mul) (h.imp fun k1 x h1 => h1.imp fun k2 y ⟨i, j, e1, e2, c, p⟩ => by subst e1 e2; exact rd_IC c p)
theorem we_fdiv (h : WPE F C a ρ k fun k1 x => WPE F C b ρ k1 fun k2 y => ∃ i j, x = .int i ∧ y = .int j ∧ (0 < j ∧ j < 1073741824) ∧ Φ k2 (.int (i / j))) : WPE F C (.BinOp a .FloorDiv b pos) ρ k Φ :=
  we_bin (fun X _ => op_fdiv) (h.imp fun k1 x h1 => h1.imp fun k2 y ⟨i, j, e1, e2, c, p⟩ => by subst e1 e2; exact rd_IC (c := CDiv) c p)
theorem we_mod (h : WPE F C a ρ k fun k1 x => WPE F C b ρ k1 fun k2 y => ∃ i j, x = .int i ∧ y = .int j ∧ 0 < j ∧ Φ k2 (.int (i % j))) : WPE F C (.BinOp a .Mod b pos) ρ k Φ :=
  we_bin (fun X _ => op_mod) (h.imp fun k1 x h1 => h1.imp fun k2 y ⟨i, j, e1, e2, c, p⟩ => by subst e1 e2; exact rd_IC c p)
theorem we_shl (h : WPE F C a ρ k fun k1 x => WPE F C b ρ k1 fun k2 y => ∃ i j, x = .int i ∧ y = .int j ∧ (0 ≤ j ∧ j ≤ 1000000 ∧ i.natAbs < 2 ^ 64) ∧ Φ k2 (.int (i * 2 ^ j.toNat))) : WPE F C (.BinOp a .LShift b pos) ρ k Φ :=
  we_bin (fun X _ => op_shl) (h.imp fun k1 x h1 => h1.imp fun k2 y ⟨i, j, e1, e2, c, p⟩ => by subst e1 e2; exact rd_IC (c := CPow) c p)
theorem we_shr (h : WPE F C a ρ k fun k1 x => WPE F C b ρ k1 fun k2 y => ∃ i j, x = .int i ∧ y = .int j ∧ 0 ≤ j ∧ Φ k2 (.int (i / 2 ^ j.toNat))) : WPE F C (.BinOp a .RShift b pos) ρ k Φ :=
  we_bin (fun X _ => op_shr) (h.imp fun k1 x h1 => h1.imp fun k2 y ⟨i, j, e1, e2, c, p⟩ => by subst e1 e2; exact rd_IC c p)
theorem we_pow (h : WPE F C a ρ k fun k1 x => WPE F C b ρ k1 fun k2 y => ∃ i j, x = .int i ∧ y = .int j ∧ (0 ≤ j ∧ j ≤ 1000000 ∧ i.natAbs < 2 ^ 64) ∧ Φ k2 (.int (i ^ j.toNat))) : WPE F C (.BinOp a .Pow b pos) ρ k Φ :=
  we_bin (fun X _ => op_pow) (h.imp fun k1 x h1 => h1.imp fun k2 y ⟨i, j, e1, e2, c, p⟩ => by subst e1 e2; exact rd_IC (c := CPow) c p)
theorem we_band (h : WPE F C a ρ k fun k1 x => WPE F C b ρ k1 fun k2 y => ∃ i j, x = .int i ∧ y = .int j ∧ Φ k2 (.int (Builtin.bitAnd i j))) : WPE F C (.BinOp a .BitAnd b pos) ρ k Φ :=
  we_bin (fun X _ => op_and) (h.imp fun k1 x h1 => h1.imp fun k2 y ⟨i, j, e1, e2, p⟩ => by subst e1 e2; exact rd_II p)
theorem we_bor (h : WPE F C a ρ k fun k1 x => WPE F C b ρ k1 fun k2 y => ∃ i j, x = .int i ∧ y = .int j ∧ Φ k2 (.int (Builtin.bitOr i j))) : WPE F C (.BinOp a .BitOr b pos) ρ k Φ :=
  we_bin (fun X _ => op_or) (h.imp fun k1 x h1 => h1.imp fun k2 y ⟨i, j, e1, e2, p⟩ => by subst e1 e2; exact rd_II p)
theorem we_bxor (h : WPE F C a ρ k fun k1 x => WPE F C b ρ k1 fun k2 y => ∃ i j, x = .int i ∧ y = .int j ∧ Φ k2 (.int (Builtin.bitXor i j))) : WPE F C (.BinOp a .BitXor b pos) ρ k Φ :=
  we_bin (fun X _ => op_xor) (h.imp fun k1 x h1 => h1.imp fun k2 y ⟨i, j, e1, e2, p⟩ => by subst e1 e2; exact rd_II p)
theorem we_neg (h : WPE F C a ρ k fun k1 x => ∃ i, x = .int i ∧ Φ k1 (.int (-i))) : WPE F C (.UnaryOp .USub a pos) ρ k Φ :=
  of_pe (fun X fx => pe_un un_neg (peE fx)) fun σ H Q en j q => h σ H _ en j fun v d k1 H1 l1 j1 r ⟨i, e, p⟩ => by
    subst e; cases r; exact ⟨i, rfl, q _ _ k1 H1 l1 j1 (.int _) p⟩
/-- comparisons of ints, as values and as tests -/
abbrev I2 (F : Fm) (C : Cs) (a b : Expr) (ρ : Rho) (k : Nat) (Θ : Nat → Int → Int → Prop) : Prop := WPE F C a ρ k fun k1 x => WPE F C b ρ k1 fun k2 y => ∃ i j, x = .int i ∧ y = .int j ∧ Θ k2 i j
theorem we_lt (h : I2 F C a b ρ k fun k i j => Φ k (.bool (decide (i < j)))) : WPE F C (.Compare a [.Lt] [b] pos) ρ k Φ := we_cmp (fun X _ => op_lt) (nomark _) (h.imp fun k1 x h1 => h1.imp fun k2 y ⟨i, j, e1, e2, p⟩ => by subst e1 e2; exact rd_IB (g := fun i j => decide (i < j)) p)
theorem we_le (h : I2 F C a b ρ k fun k i j => Φ k (.bool (decide (i ≤ j)))) : WPE F C (.Compare a [.LtE] [b] pos) ρ k Φ := we_cmp (fun X _ => op_le) (nomark _) (h.imp fun k1 x h1 => h1.imp fun k2 y ⟨i, j, e1, e2, p⟩ => by subst e1 e2; exact rd_IB (g := fun i j => decide (i ≤ j)) p)
theorem we_gt (h : I2 F C a b ρ k fun k i j => Φ k (.bool (decide (j < i)))) : WPE F C (.Compare a [.Gt] [b] pos) ρ k Φ := we_cmp (fun X _ => op_gt) (nomark _) (h.imp fun k1 x h1 => h1.imp fun k2 y ⟨i, j, e1, e2, p⟩ => by subst e1 e2; exact rd_IB (g := fun i j => decide (j < i)) p)
theorem we_ge (h : I2 F C a b ρ k fun k i j => Φ k (.bool (decide (j ≤ i)))) : WPE F C (.Compare a [.GtE] [b] pos) ρ k Φ := we_cmp (fun X _ => op_ge) (nomark _) (h.imp fun k1 x h1 => h1.imp fun k2 y ⟨i, j, e1, e2, p⟩ => by subst e1 e2; exact rd_IB (g := fun i j => decide (j ≤ i)) p)
theorem wt_lt (h : I2 F C a b ρ k fun k i j => Ψ k (decide (i < j))) : WPT F C (.Compare a [.Lt] [b] pos) ρ k Ψ := wt_cmp (fun X _ => op_lt) (nomark _) (h.imp fun k1 x h1 => h1.imp fun k2 y ⟨i, j, e1, e2, p⟩ => by subst e1 e2; exact rd_IB (g := fun i j => decide (i < j)) ⟨_, rfl, p⟩)
theorem wt_le (h : I2 F C a b ρ k fun k i j => Ψ k (decide (i ≤ j))) : WPT F C (.Compare a [.LtE] [b] pos) ρ k Ψ := wt_cmp (fun X _ => op_le) (nomark _) (h.imp fun k1 x h1 => h1.imp fun k2 y ⟨i, j, e1, e2, p⟩ => by subst e1 e2; exact rd_IB (g := fun i j => decide (i ≤ j)) ⟨_, rfl, p⟩)
theorem wt_gt (h : I2 F C a b ρ k fun k i j => Ψ k (decide (j < i))) : WPT F C (.Compare a [.Gt] [b] pos) ρ k Ψ := wt_cmp (fun X _ => op_gt) (nomark _) (h.imp fun k1 x h1 => h1.imp fun k2 y ⟨i, j, e1, e2, p⟩ => by subst e1 e2; exact rd_IB (g := fun i j => decide (j < i)) ⟨_, rfl, p⟩)
theorem wt_ge (h : I2 F C a b ρ k fun k i j => Ψ k (decide (j ≤ i))) : WPT F C (.Compare a [.GtE] [b] pos) ρ k Ψ := wt_cmp (fun X _ => op_ge) (nomark _) (h.imp fun k1 x h1 => h1.imp fun k2 y ⟨i, j, e1, e2, p⟩ => by subst e1 e2; exact rd_IB (g := fun i j => decide (j ≤ i)) ⟨_, rfl, p⟩)
/-- == and != of any data -/
theorem opEqK {X : Cx} (fx : Fits C X) : OpR X (compareOp .Eq) (rEqD C.K) := by rw [← fx.K]; exact op_eqD fx.room.units
theorem opNeK {X : Cx} (fx : Fits C X) : OpR X (compareOp .NotEq) (rNeD C.K) := by rw [← fx.K]; exact op_neD fx.room.units
theorem rd_eq {x y : PyData} (hK : F.K = C.K) (sx : SeqAt.shaped x = true) (sy : SeqAt.shaped y = true) (h : Φ k (.bool (PyData.eqv x y))) : RD F (rEqD C.K) x y k Φ := fun H vx vy Q j rx ry q =>
  ⟨x, y, hK ▸ Rep.dp x vx rx (nodict_sh sx), hK ▸ Rep.dp y vy ry (nodict_sh sy), sx, sy, q _ _ k H .refl j (.bl _) h⟩
theorem rd_nE {x y : PyData} (hK : F.K = C.K) (sx : SeqAt.shaped x = true) (sy : SeqAt.shaped y = true) (h : Φ k (.bool (!PyData.eqv x y))) : RD F (rNeD C.K) x y k Φ := fun H vx vy Q j rx ry q =>
  ⟨x, y, hK ▸ Rep.dp x vx rx (nodict_sh sx), hK ▸ Rep.dp y vy ry (nodict_sh sy), sx, sy, q _ _ k H .refl j (.bl _) h⟩
abbrev D2 (F : Fm) (C : Cs) (a b : Expr) (ρ : Rho) (k : Nat) (Θ : Nat → PyData → PyData → Prop) : Prop := WPE F C a ρ k fun k1 x => WPE F C b ρ k1 fun k2 y => SeqAt.shaped x = true ∧ SeqAt.shaped y = true ∧ Θ k2 x y
theorem we_eq (hK : F.K = C.K) (h : D2 F C a b ρ k fun k x y => Φ k (.bool (PyData.eqv x y))) : WPE F C (.Compare a [.Eq] [b] pos) ρ k Φ := we_cmp (fun X fx => opEqK fx) (nomark _) (h.imp fun k1 x h1 => h1.imp fun k2 y ⟨s1, s2, p⟩ => rd_eq hK s1 s2 p)
theorem we_ne (hK : F.K = C.K) (h : D2 F C a b ρ k fun k x y => Φ k (.bool (!PyData.eqv x y))) : WPE F C (.Compare a [.NotEq] [b] pos) ρ k Φ := we_cmp (fun X fx => opNeK fx) (nomark _) (h.imp fun k1 x h1 => h1.imp fun k2 y ⟨s1, s2, p⟩ => rd_nE hK s1 s2 p)
theorem wt_eq (hK : F.K = C.K) (h : D2 F C a b ρ k fun k x y => Ψ k (PyData.eqv x y)) : WPT F C (.Compare a [.Eq] [b] pos) ρ k Ψ := wt_cmp (fun X fx => opEqK fx) (nomark _) (h.imp fun k1 x h1 => h1.imp fun k2 y ⟨s1, s2, p⟩ => rd_eq hK s1 s2 ⟨_, rfl, p⟩)
theorem wt_ne (hK : F.K = C.K) (h : D2 F C a b ρ k fun k x y => Ψ k (!PyData.eqv x y)) : WPT F C (.Compare a [.NotEq] [b] pos) ρ k Ψ := wt_cmp (fun X fx => opNeK fx) (nomark _) (h.imp fun k1 x h1 => h1.imp fun k2 y ⟨s1, s2, p⟩ => rd_nE hK s1 s2 ⟨_, rfl, p⟩)
/-- == of ints, of texts -/
theorem rd_eqS {x y : PyData} {c : Bool} (hx : ∀ H vx vy, Rp F H vx x → Rp F H vy y → scal vx vy = true ∧ decide (vx = vy) = c) (h : Φ k (.bool c)) : RD F rEq x y k Φ := fun H vx vy Q j rx ry q => by
  obtain ⟨h1, h2⟩ := hx H vx vy rx ry
  exact ⟨h1, by rw [h2]; exact q _ _ k H .refl j (.bl _) h⟩
theorem rd_neS {x y : PyData} {c : Bool} (hx : ∀ H vx vy, Rp F H vx x → Rp F H vy y → scal vx vy = true ∧ decide (vx = vy) = c) (h : Φ k (.bool (!c))) : RD F rNe x y k Φ := fun H vx vy Q j rx ry q => by
  obtain ⟨h1, h2⟩ := hx H vx vy rx ry
  exact ⟨h1, by rw [h2]; exact q _ _ k H .refl j (.bl _) h⟩
theorem scal_int {i j : Int} {H : Hp} {vx vy : V} (rx : Rp F H vx (.int i)) (ry : Rp F H vy (.int j)) : scal vx vy = true ∧ decide (vx = vy) = decide (i = j) := by
  cases rx; cases ry; exact ⟨rfl, by simp⟩
theorem scal_str {i j : Str} {H : Hp} {vx vy : V} (rx : Rp F H vx (.str i)) (ry : Rp F H vy (.str j)) : scal vx vy = true ∧ decide (vx = vy) = decide (i = j) := by
  cases rx; cases ry; exact ⟨rfl, by simp⟩
theorem scal_bl {i j : Bool} {H : Hp} {vx vy : V} (rx : Rp F H vx (.bool i)) (ry : Rp F H vy (.bool j)) : scal vx vy = true ∧ decide (vx = vy) = decide (i = j) := by
  cases rx; cases ry; exact ⟨rfl, by simp⟩
theorem wt_eqI (h : I2 F C a b ρ k fun k i j => Ψ k (decide (i = j))) : WPT F C (.Compare a [.Eq] [b] pos) ρ k Ψ := wt_cmp (fun X _ => op_eq) (nomark _) (h.imp fun k1 x h1 => h1.imp fun k2 y ⟨i, j, e1, e2, p⟩ => by subst e1 e2; exact rd_eqS (fun _ _ _ => scal_int) ⟨_, rfl, p⟩)
theorem wt_neI (h : I2 F C a b ρ k fun k i j => Ψ k (!decide (i = j))) : WPT F C (.Compare a [.NotEq] [b] pos) ρ k Ψ := wt_cmp (fun X _ => op_ne) (nomark _) (h.imp fun k1 x h1 => h1.imp fun k2 y ⟨i, j, e1, e2, p⟩ => by subst e1 e2; exact rd_neS (fun _ _ _ => scal_int) ⟨_, rfl, p⟩)
theorem we_eqI (h : I2 F C a b ρ k fun k i j => Φ k (.bool (decide (i = j)))) : WPE F C (.Compare a [.Eq] [b] pos) ρ k Φ := we_cmp (fun X _ => op_eq) (nomark _) (h.imp fun k1 x h1 => h1.imp fun k2 y ⟨i, j, e1, e2, p⟩ => by subst e1 e2; exact rd_eqS (fun _ _ _ => scal_int) p)
theorem we_neI (h : I2 F C a b ρ k fun k i j => Φ k (.bool (!decide (i = j)))) : WPE F C (.Compare a [.NotEq] [b] pos) ρ k Φ := we_cmp (fun X _ => op_ne) (nomark _) (h.imp fun k1 x h1 => h1.imp fun k2 y ⟨i, j, e1, e2, p⟩ => by subst e1 e2; exact rd_neS (fun _ _ _ => scal_int) p)
abbrev T2 (F : Fm) (C : Cs) (a b : Expr) (ρ : Rho) (k : Nat) (Θ : Nat → Str → Str → Prop) : Prop := WPE F C a ρ k fun k1 x => WPE F C b ρ k1 fun k2 y => ∃ i j, x = .str i ∧ y = .str j ∧ Θ k2 i j
theorem wt_eqT (h : T2 F C a b ρ k fun k i j => Ψ k (decide (i = j))) : WPT F C (.Compare a [.Eq] [b] pos) ρ k Ψ := wt_cmp (fun X _ => op_eq) (nomark _) (h.imp fun k1 x h1 => h1.imp fun k2 y ⟨i, j, e1, e2, p⟩ => by subst e1 e2; exact rd_eqS (fun _ _ _ => scal_str) ⟨_, rfl, p⟩)
theorem wt_neT (h : T2 F C a b ρ k fun k i j => Ψ k (!decide (i = j))) : WPT F C (.Compare a [.NotEq] [b] pos) ρ k Ψ := wt_cmp (fun X _ => op_ne) (nomark _) (h.imp fun k1 x h1 => h1.imp fun k2 y ⟨i, j, e1, e2, p⟩ => by subst e1 e2; exact rd_neS (fun _ _ _ => scal_str) ⟨_, rfl, p⟩)
theorem we_eqT (h : T2 F C a b ρ k fun k i j => Φ k (.bool (decide (i = j)))) : WPE F C (.Compare a [.Eq] [b] pos) ρ k Φ := we_cmp (fun X _ => op_eq) (nomark _) (h.imp fun k1 x h1 => h1.imp fun k2 y ⟨i, j, e1, e2, p⟩ => by subst e1 e2; exact rd_eqS (fun _ _ _ => scal_str) p)
theorem we_neT (h : T2 F C a b ρ k fun k i j => Φ k (.bool (!decide (i = j)))) : WPE F C (.Compare a [.NotEq] [b] pos) ρ k Φ := we_cmp (fun X _ => op_ne) (nomark _) (h.imp fun k1 x h1 => h1.imp fun k2 y ⟨i, j, e1, e2, p⟩ => by subst e1 e2; exact rd_neS (fun _ _ _ => scal_str) p)
end
end Dl

namespace Dl
open PySem PySem.Spec PyProof.Rows L2
section
variable {F : Fm} {C : Cs} {ρ : Rho} {k : Nat} {Φ Φ' : Nat → PyData → Prop} {Ψ Ψ' : Nat → Bool → Prop} {e a b : Expr} {es : List Expr} {pos : Pos} {P : DE}
/-! ### subscripts -/
theorem atI_some {α β : Type} {xs : List α} {ys : List β} (hl : xs.length = ys.length) {i : Int} {y : β} (h : atI ys i = some y) : ∃ j : Nat, ys[j]? = some y ∧ ∀ x, xs[j]? = some x → atI xs i = some x := by
  unfold atI at h ⊢
  rw [hl]
  cases e : ixN ys.length i with
  | none => rw [e] at h; cases h
  | some j => rw [e] at h; exact ⟨j, h, fun x hx => hx⟩
theorem ixK {X : Cx} (fx : Fits C X) : IxR X (rIx C.K) := by rw [← fx.K]; exact ix_seq
def ixD : PyData → PyData → Option PyData
  | .list ds, .int i => atI ds i
  | .tuple ds, .int i => atI ds i
  | _, _ => none
theorem we_ix (hK : F.K = C.K) (hs : PlainIx b) (h : WPE F C a ρ k fun k1 x => WPE F C b ρ k1 fun k2 y => ∃ d, ixD x y = some d ∧ Φ k2 d) : WPE F C (.Subscript a b pos) ρ k Φ :=
  of_pe (fun X fx => pe_ix (ixK fx) (peE fx) (peE fx) hs) (we_op (h.imp fun k1 x h1 => h1.imp fun k2 y ⟨d, e, p⟩ => fun H vx vy Q j rx ry q => by
    cases x with
    | list ds =>
      cases y with
      | int i =>
        cases rx with
        | @lst a xs _ ha hr =>
        cases ry
        obtain ⟨n, hn, hx⟩ := atI_some hr.length e
        obtain ⟨v, hv, rv⟩ := hr.get hn
        exact .inl ⟨a, xs, i, v, rfl, rfl, hK ▸ sql_of ha, hx v hv, q v d k2 H .refl j rv p⟩
      | _ => cases e
    | tuple ds =>
      cases y with
      | int i =>
        cases rx with
        | @tup a xs _ ha hr =>
        cases ry
        obtain ⟨n, hn, hx⟩ := atI_some hr.length e
        obtain ⟨v, hv, rv⟩ := hr.get hn
        exact .inr (.inl ⟨a, xs, i, v, rfl, rfl, hK ▸ sqt_of ha, hx v hv, q v d k2 H .refl j rv p⟩)
      | _ => cases e
    | _ => cases e))
/-! ### in, not in: flat things in a list or tuple of flat things -/
def flatD : PyData → Bool
  | .none | .bool _ | .int _ | .str _ => true
  | _ => false
theorem flat_rep {H : Hp} {v : V} {d : PyData} (r : Rp F H v d) (h : flatD d = true) : flatV v = true := by
  cases r <;> first | rfl | cases h
theorem flat_all {H : Hp} : ∀ {ds : List PyData} {vs : List V}, RpAll F H vs ds → ds.all flatD = true → vs.all flatV = true
  | [], _, r, _ => by cases r; rfl
  | d :: ds, _, r, h => by
    cases r with
    | cons r1 r2 =>
      rw [List.all_cons, Bool.and_eq_true] at h ⊢
      exact ⟨flat_rep r1 h.1, flat_all r2 h.2⟩
def seqD : PyData → Option (List PyData)
  | .list ds => some ds
  | .tuple ds => some ds
  | _ => none
theorem opInK {X : Cx} (fx : Fits C X) : OpR X (compareOp .In) (rIn C.K false) := by rw [← fx.K]; exact op_in_seq
theorem opNiK {X : Cx} (fx : Fits C X) : OpR X (compareOp .NotIn) (rIn C.K true) := by rw [← fx.K]; exact op_notIn_seq
theorem rd_in {neg : Bool} {x y : PyData} {ds : List PyData} {c : Bool} (hK : F.K = C.K) (hy : seqD y = some ds) (fx : flatD x = true) (fy : ds.all flatD = true) (hc : ∀ H vx vs, Rp F H vx x → RpAll F H vs ds → inV vx vs = c) (h : Φ k (.bool (if neg then !c else c))) : RD F (rIn C.K neg) x y k Φ := fun H vx vy Q j rx ry q => by
  cases ry with
  | @lst a xs _ ha hr => cases hy; exact ⟨a, xs, rfl, .inl (hK ▸ sql_of ha), flat_rep rx fx, flat_all hr fy, by rw [hc H vx xs rx hr]; exact q _ _ k H .refl j (.bl _) h⟩
  | @tup a xs _ ha hr => cases hy; exact ⟨a, xs, rfl, .inr (hK ▸ sqt_of ha), flat_rep rx fx, flat_all hr fy, by rw [hc H vx xs rx hr]; exact q _ _ k H .refl j (.bl _) h⟩
  | _ => cases hy
theorem inV_ints {i : Int} : ∀ (ns : List Int), inV (.int i) (ns.map V.int) = decide (i ∈ ns)
  | [] => by simp [inV]
  | n :: ns => by
    have ih := inV_ints (i := i) ns
    unfold inV at ih ⊢
    rw [List.map_cons, List.any_cons, ih]
    have : eqV (.int n) (.int i) = decide (n = i) := by
      unfold eqV
      by_cases h : n = i <;> simp [h]
    rw [this]
    by_cases h : n = i
    · simp [h]
    · simp [h, Ne.symm h, eq_comm]
/-- an int in a list or tuple of ints -/
theorem rd_inI {neg : Bool} {i : Int} {y : PyData} {ns : List Int} (hK : F.K = C.K) (hy : seqD y = some (ns.map PyData.int)) (h : Φ k (.bool (if neg then !decide (i ∈ ns) else decide (i ∈ ns)))) : RD F (rIn C.K neg) (.int i) y k Φ :=
  rd_in hK hy rfl (by rw [List.all_map]; exact List.all_eq_true.mpr fun _ _ => rfl) (fun H vx vs rx rv => by cases rx; rw [rv.ints]; exact inV_ints ns) h
abbrev N2 (F : Fm) (C : Cs) (a b : Expr) (ρ : Rho) (k : Nat) (Θ : Nat → Int → List Int → Prop) : Prop := WPE F C a ρ k fun k1 x => WPE F C b ρ k1 fun k2 y => ∃ i ns, x = .int i ∧ seqD y = some (ns.map PyData.int) ∧ Θ k2 i ns
theorem wt_inI (hK : F.K = C.K) (hm : behindInMarks .In b = false) (h : N2 F C a b ρ k fun k i ns => Ψ k (decide (i ∈ ns))) : WPT F C (.Compare a [.In] [b] pos) ρ k Ψ := wt_cmp (fun X fx => opInK fx) hm (h.imp fun k1 x h1 => h1.imp fun k2 y ⟨i, j, e1, e2, p⟩ => by subst e1; exact rd_inI hK e2 ⟨_, rfl, p⟩)
theorem wt_niI (hK : F.K = C.K) (hm : behindInMarks .NotIn b = false) (h : N2 F C a b ρ k fun k i ns => Ψ k (!decide (i ∈ ns))) : WPT F C (.Compare a [.NotIn] [b] pos) ρ k Ψ := wt_cmp (fun X fx => opNiK fx) hm (h.imp fun k1 x h1 => h1.imp fun k2 y ⟨i, j, e1, e2, p⟩ => by subst e1; exact rd_inI hK e2 ⟨_, rfl, p⟩)
theorem we_inI (hK : F.K = C.K) (hm : behindInMarks .In b = false) (h : N2 F C a b ρ k fun k i ns => Φ k (.bool (decide (i ∈ ns)))) : WPE F C (.Compare a [.In] [b] pos) ρ k Φ := we_cmp (fun X fx => opInK fx) hm (h.imp fun k1 x h1 => h1.imp fun k2 y ⟨i, j, e1, e2, p⟩ => by subst e1; exact rd_inI hK e2 p)
theorem we_niI (hK : F.K = C.K) (hm : behindInMarks .NotIn b = false) (h : N2 F C a b ρ k fun k i ns => Φ k (.bool (!decide (i ∈ ns)))) : WPE F C (.Compare a [.NotIn] [b] pos) ρ k Φ := we_cmp (fun X fx => opNiK fx) hm (h.imp fun k1 x h1 => h1.imp fun k2 y ⟨i, j, e1, e2, p⟩ => by subst e1; exact rd_inI hK e2 p)
/-- is None -/
theorem none_rep {H : Hp} {v : V} {d : PyData} (r : Rp F H v d) : (v = .non ↔ d = .none) := by
  cases r <;> constructor <;> intro h <;> first | rfl | cases h
def isNone : PyData → Bool
  | .none => true
  | _ => false
theorem dec_non {H : Hp} {v : V} {d : PyData} (r : Rp F H v d) : decide (v = .non) = isNone d := by
  cases r <;> rfl
theorem we_isN {jj : Nat} {p' : Pos} (h : WPE F C a ρ k fun k1 x => Φ k1 (.bool (isNone x))) : WPE F C (.Compare a [.Is] [.Constant .none jj p'] pos) ρ k Φ :=
  of_pe (fun X fx => pe_cmp (pc_isN (peE fx)) rfl) fun σ H Q en j q => h σ H _ en j fun v d k1 H1 l1 j1 r p => by
    show Q (.bl (decide (v = .non))) H1
    rw [dec_non r]; exact q _ _ k1 H1 l1 j1 (.bl _) p
theorem wt_isN {jj : Nat} {p' : Pos} (h : WPE F C a ρ k fun k1 x => Ψ k1 (isNone x)) : WPT F C (.Compare a [.Is] [.Constant .none jj p'] pos) ρ k Ψ :=
  of_pt (fun X fx => pt_cmp (pc_isN (peE fx)) rfl) fun σ H Q en j q => h σ H _ en j fun v d k1 H1 l1 j1 r p => by
    refine ⟨isNone d, ?_, q _ k1 H1 l1 j1 p⟩
    rw [dec_non r]
/-! ### built-ins -/
theorem lenK {X : Cx} (fx : Fits C X) : CallR X (.builtin "len") (fun xs H Q => ∃ p ys, xs = [.ref p] ∧ (SqL C.K H p ys ∨ SqT C.K H p ys) ∧ Q (.int ys.length) H) := by rw [← fx.K]; exact call_len_seq
/-- tuple(xs), whose object is told -/
theorem call_tuple_F {X : Cx} : CallR X (.type "tuple") (fun xs H Q => ∃ p ys, xs = [.ref p] ∧ ((SqL X.K H p ys ∧ ∀ l ob, H l = none → ob.dict = none → Q (.ref l) (upd H l (.frz ob (.tup ys)))) ∨ (SqT X.K H p ys ∧ Q (.ref p) H))) := by
  rintro pins s σ H xs us Q I r ⟨p, ys, rfl, h⟩
  obtain ⟨u, rfl, rx⟩ := vals1 r
  cases rx
  rcases h with ⟨hq, q⟩ | ⟨hq, q⟩
  · obtain ⟨its, rr, pl, lz⟩ := I.list hq
    have hl := rr.length
    refine call_tuple_list pl.isList (fun g kp => ?_) (by rw [List.size_toArray]; omega)
    have J : Inv X pins σ H { s with heap := g } := I.kept (t' := s.toks) kp
    refine ⟨.ref g.objs.size, _, J.laid (t' := s.toks) (o := .frz { cls := .type "tuple", data := .seq its.toArray } (.tup ys)) (fun b o e => Heap.get?_push_of_some _ e) (Nat.le_refl _) ⟨Heap.get?_push_size _ rfl, lz, its, rr, IsTup.new _ _⟩, rfl, q _ _ (J.hok.fresh (Nat.le_refl _)) rfl⟩
  · obtain ⟨its, _, pl, _⟩ := I.tuple hq
    exact call_tuple_same pl ⟨.ref p, H, I, rfl, q⟩
theorem tupK {X : Cx} (fx : Fits C X) : CallR X (.type "tuple") (fun xs H Q => ∃ p ys, xs = [.ref p] ∧ ((SqL C.K H p ys ∧ ∀ l ob, H l = none → ob.dict = none → Q (.ref l) (upd H l (.frz ob (.tup ys)))) ∨ (SqT C.K H p ys ∧ Q (.ref p) H))) := by rw [← fx.K]; exact call_tuple_F
theorem lstK {X : Cx} (fx : Fits C X) : CallR X (.type "list") (fun xs H Q => ∃ p ys, xs = [.ref p] ∧ (SqL C.K H p ys ∨ SqT C.K H p ys) ∧ ∀ l, H l = none → Q (.ref l) (upd H l (.lst ys))) := by rw [← fx.K]; exact call_list_of
theorem sumK {X : Cx} (fx : Fits C X) : CallR X (.builtin "sum") (rSum C.K) := by rw [← fx.K]; exact cr_sum fx.calm
theorem minK {X : Cx} (fx : Fits C X) : CallR X (.builtin "min") (rMin C.K) := by rw [← fx.K]; exact cr_min fx.calm
theorem maxK {X : Cx} (fx : Fits C X) : CallR X (.builtin "max") (rMax C.K) := by rw [← fx.K]; exact cr_max fx.calm
theorem srtK {X : Cx} (fx : Fits C X) : CallR X (.builtin "sorted") (rSortedI C.K) := by rw [← fx.K]; exact cr_sortedI
abbrev A1 (F : Fm) (C : Cs) (e : Expr) (ρ : Rho) (k : Nat) (Θ : Nat → PyData → Prop) : Prop := WPE F C e ρ k Θ
theorem wa_one {Θ : Nat → List PyData → Prop} (hs : ∀ env : Env, starEach [e] env = (false, eval e env) :: starEach [] env) (h : WPE F C e ρ k fun k1 x => Θ k1 [x]) : WPA F C [e] ρ k Θ := wa_cons hs (h.imp fun k1 x p => wa_nil p)
variable {p : Pos}
section
variable (hK : F.K = C.K)
include hK
theorem we_len (hg : C.sc.names.lookup ("len" : Str) = some .globalImplicit) (hm : C.mg ("len" : Str) = none) (hs : ∀ env : Env, starEach [e] env = (false, eval e env) :: starEach [] env) (h : WPE F C e ρ k fun k1 x => ∃ ds, seqD x = some ds ∧ Φ k1 (.int ds.length)) : WPE F C (.Call (.Name "len" p) [e] [] pos) ρ k Φ :=
  we_callB (fun X fx => lenK fx) hg hm boot_len (wa_one hs (h.imp fun k1 x ⟨ds, e, p⟩ => fun H vs Q j r q => by
    cases r with
    | cons r1 r2 =>
    cases r2
    cases r1 with
    | @lst a xs _ ha hr => cases e; exact ⟨a, xs, rfl, .inl (hK ▸ sql_of ha), by rw [hr.length]; exact q _ _ k1 H .refl j (.int _) p⟩
    | @tup a xs _ ha hr => cases e; exact ⟨a, xs, rfl, .inr (hK ▸ sqt_of ha), by rw [hr.length]; exact q _ _ k1 H .refl j (.int _) p⟩
    | _ => cases e)) (by decide) (by decide) hs
theorem we_tuple (hg : C.sc.names.lookup ("tuple" : Str) = some .globalImplicit) (hm : C.mg ("tuple" : Str) = none) (hs : ∀ env : Env, starEach [e] env = (false, eval e env) :: starEach [] env) (h : WPE F C e ρ k fun k1 x => ∃ ds, seqD x = some ds ∧ Φ k1 (.tuple ds)) : WPE F C (.Call (.Name "tuple" p) [e] [] pos) ρ k Φ :=
  we_callTy (T := "tuple") (fun X fx => tupK fx) hg hm (by decide +kernel) (wa_one hs (h.imp fun k1 x ⟨ds, e, p⟩ => fun H vs Q j r q => by
    cases r with
    | cons r1 r2 =>
    cases r2
    cases r1 with
    | @lst a xs _ ha hr => cases e; exact ⟨a, xs, rfl, .inl ⟨hK ▸ sql_of ha, fun l ob hl hd => q _ _ k1 _ (.new hl) (j.new hl) (rep_newT j hl hd hr) p⟩⟩
    | @tup a xs _ ha hr => cases e; exact ⟨a, xs, rfl, .inr ⟨hK ▸ sqt_of ha, q _ _ k1 H .refl j (.tup ha hr) p⟩⟩
    | _ => cases e)) (by decide) (by decide) hs
theorem we_list (hg : C.sc.names.lookup ("list" : Str) = some .globalImplicit) (hm : C.mg ("list" : Str) = none) (hs : ∀ env : Env, starEach [e] env = (false, eval e env) :: starEach [] env) (h : WPE F C e ρ k fun k1 x => ∃ ds, seqD x = some ds ∧ Φ k1 (.list ds)) : WPE F C (.Call (.Name "list" p) [e] [] pos) ρ k Φ :=
  we_callTy (T := "list") (fun X fx => lstK fx) hg hm (by decide +kernel) (wa_one hs (h.imp fun k1 x ⟨ds, e, p⟩ => fun H vs Q j r q => by
    cases r with
    | cons r1 r2 =>
    cases r2
    cases r1 with
    | @lst a xs _ ha hr => cases e; exact ⟨a, xs, rfl, .inl (hK ▸ sql_of ha), fun l hl => q _ _ k1 _ (.new hl) (j.new hl) (rep_newL j hl hr) p⟩
    | @tup a xs _ ha hr => cases e; exact ⟨a, xs, rfl, .inr (hK ▸ sqt_of ha), fun l hl => q _ _ k1 _ (.new hl) (j.new hl) (rep_newL j hl hr) p⟩
    | _ => cases e)) (by decide) (by decide) hs
theorem we_sum (hg : C.sc.names.lookup ("sum" : Str) = some .globalImplicit) (hm : C.mg ("sum" : Str) = none) (hs : ∀ env : Env, starEach [e] env = (false, eval e env) :: starEach [] env) (h : WPE F C e ρ k fun k1 x => ∃ ns : List Int, x = .list (ns.map PyData.int) ∧ Φ k1 (.int ns.sum)) : WPE F C (.Call (.Name "sum" p) [e] [] pos) ρ k Φ :=
  we_callB (id := "sum") (fun X fx => sumK fx) hg hm (by decide +kernel) (wa_one hs (h.imp fun k1 x ⟨ns, e, p⟩ => fun H vs Q j r q => by
    subst e
    cases r with
    | cons r1 r2 =>
    cases r2
    cases r1 with
    | @lst a xs _ ha hr => exact ⟨a, ns, rfl, hr.ints ▸ hK ▸ sql_of ha, q _ _ k1 H .refl j (.int _) p⟩)) (by decide) (by decide) hs
theorem we_min (hg : C.sc.names.lookup ("min" : Str) = some .globalImplicit) (hm : C.mg ("min" : Str) = none) (hs : ∀ env : Env, starEach [e] env = (false, eval e env) :: starEach [] env) (h : WPE F C e ρ k fun k1 x => ∃ ns : List Int, x = .list (ns.map PyData.int) ∧ 0 < ns.length ∧ ∀ m, m ∈ ns → (∀ y, y ∈ ns → m ≤ y) → Φ k1 (.int m)) : WPE F C (.Call (.Name "min" p) [e] [] pos) ρ k Φ :=
  we_callB (id := "min") (fun X fx => minK fx) hg hm (by decide +kernel) (wa_one hs (h.imp fun k1 x ⟨ns, e, hp, p⟩ => fun H vs Q j r q => by
    subst e
    cases r with
    | cons r1 r2 =>
    cases r2
    cases r1 with
    | @lst a xs _ ha hr => exact ⟨a, ns, rfl, hr.ints ▸ hK ▸ sql_of ha, hp, fun m hm hle => q _ _ k1 H .refl j (.int _) (p m hm hle)⟩)) (by decide) (by decide) hs
theorem we_sorted (hg : C.sc.names.lookup ("sorted" : Str) = some .globalImplicit) (hm : C.mg ("sorted" : Str) = none) (hs : ∀ env : Env, starEach [e] env = (false, eval e env) :: starEach [] env) (h : WPE F C e ρ k fun k1 x => ∃ ns : List Int, x = .list (ns.map PyData.int) ∧ ∀ ms : List Int, ms.Perm ns → ms.Pairwise (· ≤ ·) → Φ k1 (.list (ms.map PyData.int))) : WPE F C (.Call (.Name "sorted" p) [e] [] pos) ρ k Φ :=
  we_callB (id := "sorted") (fun X fx => srtK fx) hg hm (by decide +kernel) (wa_one hs (h.imp fun k1 x ⟨ns, e, p⟩ => fun H vs Q j r q => by
    subst e
    cases r with
    | cons r1 r2 =>
    cases r2
    cases r1 with
    | @lst a xs _ ha hr => exact ⟨a, ns, rfl, hr.ints ▸ hK ▸ sql_of ha, fun ms l hp hw hl => q _ _ k1 _ (.new hl) (j.new hl) (rep_newL j hl (RepAll.of_ints ms)) (p ms hp hw)⟩)) (by decide) (by decide) hs
end
theorem we_abs (hg : C.sc.names.lookup ("abs" : Str) = some .globalImplicit) (hm : C.mg ("abs" : Str) = none) (hs : ∀ env : Env, starEach [e] env = (false, eval e env) :: starEach [] env) (h : WPE F C e ρ k fun k1 x => ∃ i : Int, x = .int i ∧ Φ k1 (.int (if i < 0 then -i else i))) : WPE F C (.Call (.Name "abs" p) [e] [] pos) ρ k Φ :=
  we_callB (id := "abs") (fun X fx => call_abs) hg hm (by decide +kernel) (wa_one hs (h.imp fun k1 x ⟨i, e, p⟩ => fun H vs Q j r q => by
    subst e
    cases r with
    | cons r1 r2 =>
    cases r2
    cases r1
    exact ⟨i, rfl, q _ _ k1 H .refl j (.int _) p⟩)) (by decide) (by decide) hs
theorem we_intB (hg : C.sc.names.lookup ("int" : Str) = some .globalImplicit) (hm : C.mg ("int" : Str) = none) (hs : ∀ env : Env, starEach [e] env = (false, eval e env) :: starEach [] env) (h : WPE F C e ρ k fun k1 x => ∃ c : Bool, x = .bool c ∧ Φ k1 (.int (if c then 1 else 0))) : WPE F C (.Call (.Name "int" p) [e] [] pos) ρ k Φ :=
  we_callTy (T := "int") (fun X fx => call_int1) hg hm (by decide +kernel) (wa_one hs (h.imp fun k1 x ⟨i, e, p⟩ => fun H vs Q j r q => by
    subst e
    cases r with
    | cons r1 r2 =>
    cases r2
    cases r1
    exact .inr ⟨i, rfl, q _ _ k1 H .refl j (.int _) p⟩)) (by decide) (by decide) hs
/-- repr of data at any depth -/
theorem reprK {X : Cx} (fx : Fits C X) : CallR X (.builtin "repr") (fun xs H Q => ∃ v d, xs = [v] ∧ Dp C.K H v d ∧ d.showable = true ∧ d.hasDict = false ∧ d.depth ≤ 60 ∧ d.shown.length ≤ sizeLine ∧ Q (.str d.shown) H) := by
  intro pins s σ H vs us Q I rv h
  obtain ⟨v, d, e, hd, sh, nd, dp, sz, q⟩ := h
  subst e
  obtain ⟨u, rfl, ru⟩ := vals1 rv
  obtain ⟨as, rd⟩ := Dp.reads I d v u (fx.K ▸ hd) ru
  cases rd with
  | none => exact P.repr_of_none ⟨.str _, H, I.tok _, ⟨_, rfl⟩, q⟩
  | bool b => exact P.repr_of_bool ⟨.str _, H, I.tok _, ⟨_, rfl⟩, q⟩
  | int i t => exact P.repr_of_int (of_decide_eq_true sh) ⟨.str _, H, I.tok _, ⟨_, rfl⟩, q⟩
  | str x t => exact P.repr_of_str ⟨.str _, H, I.tok _, ⟨_, rfl⟩, q⟩ sz
  | list h1 h2 h3 h4 => exact repr_of_reads' (.list h1 h2 h3 h4) sh (fun z => by rw [nd] at z; cases z) fx.gd (by have := fx.room.units; omega) (fun _ _ z => z) (fun h' u tk hk => ⟨.str _, H, I.kept hk, ⟨_, rfl⟩, q⟩) sz
  | tuple h1 h2 h3 h4 => exact repr_of_reads' (.tuple h1 h2 h3 h4) sh (fun z => by rw [nd] at z; cases z) fx.gd (by have := fx.room.units; omega) (fun _ _ z => z) (fun h' u tk hk => ⟨.str _, H, I.kept hk, ⟨_, rfl⟩, q⟩) sz
  | dict h1 h2 h3 h4 h5 => cases nd
theorem we_repr (hK : F.K = C.K) (hg : C.sc.names.lookup ("repr" : Str) = some .globalImplicit) (hm : C.mg ("repr" : Str) = none) (hs : ∀ env : Env, starEach [e] env = (false, eval e env) :: starEach [] env) (h : WPE F C e ρ k fun k1 d => (d.showable = true ∧ d.hasDict = false ∧ d.depth ≤ 60 ∧ d.shown.length ≤ sizeLine) ∧ Φ k1 (.str d.shown)) : WPE F C (.Call (.Name "repr" p) [e] [] pos) ρ k Φ :=
  we_callB (id := "repr") (fun X fx => reprK fx) hg hm (by decide +kernel) (wa_one hs (h.imp fun k1 x ⟨⟨s1, s2, s3, s4⟩, p⟩ => fun H vs Q j r q => by
    cases r with
    | cons r1 r2 =>
    cases r2
    exact ⟨_, x, rfl, hK ▸ Rep.dp x _ r1 s2, s1, s2, s3, s4, q _ _ k1 H .refl j (.str _) p⟩)) (by decide) (by decide) hs
end
end Dl

namespace Dl
open PySem PySem.Spec PyProof.Rows L2
theorem iteD {c A B : Prop} [Decidable c] (h1 : c → A) (h2 : ¬ c → B) : if decide c = true then A else B := by
  by_cases h : c
  · rw [decide_eq_true h, if_pos rfl]; exact h1 h
  · rw [decide_eq_false h, if_neg Bool.false_ne_true]; exact h2 h
theorem iteB {c : Bool} {A B : Prop} (h1 : c = true → A) (h2 : c = false → B) : if c = true then A else B := by
  cases c with
  | true => rw [if_pos rfl]; exact h1 rfl
  | false => rw [if_neg Bool.false_ne_true]; exact h2 rfl
theorem iteNe {α : Type} [DecidableEq α] {x y : α} {A B : Prop} (e : x = y) (h : B) : if (!decide (x = y)) = true then A else B := by
  rw [decide_eq_true e, if_neg (by decide)]; exact h
theorem iteEq {α : Type} [DecidableEq α] {x y : α} {A B : Prop} (e : x = y) (h : A) : if decide (x = y) = true then A else B := by
  rw [decide_eq_true e, if_pos rfl]; exact h
theorem iteF' {A B : Prop} (h : B) : if (!true) = true then A else B := by
  rw [if_neg (by decide)]; exact h
/-- 0, 1, .. below z -/
def rg (z : Int) : List Int := (List.range z.toNat).map fun (j : Nat) => (j : Int)
theorem mem_rg {z i : Int} : i ∈ rg z ↔ 0 ≤ i ∧ i < z := by
  unfold rg
  rw [List.mem_map]
  constructor
  · rintro ⟨j, hj, rfl⟩
    have := List.mem_range.mp hj
    omega
  · rintro ⟨h0, h1⟩
    exact ⟨i.toNat, List.mem_range.mpr (by omega), by omega⟩
theorem rg_length {z : Int} : (rg z).length = z.toNat := by unfold rg; simp
theorem rg_succ (j : Nat) : rg ((j : Int) + 1) = rg (j : Int) ++ [(j : Int)] := by
  unfold rg
  rw [show ((j : Int) + 1).toNat = j + 1 by omega, show (j : Int).toNat = j by omega, List.range_succ, List.map_append]; rfl
theorem rg_pairwise {z : Int} : (rg z).Pairwise (· < ·) := by
  unfold rg
  rw [List.pairwise_map]
  exact List.pairwise_lt_range.imp fun h => by omega
theorem take_next {α : Type} {xs : List α} {j : Nat} {x : α} (h : xs[j]? = some x) : xs.take (j + 1) = xs.take j ++ [x] := by
  rw [List.take_add_one, h]; rfl
section
variable {F : Fm} {C : Cs} {ρ : Rho} {k : Nat} {Φ : Nat → PyData → Prop} {P : DE} {pos spos : Pos} {elt iter : Expr} {scope : Scope} {α : Type}
theorem we_mL (ei : α → PyData) (g : α → PyData) (i : Nat) {x : Str} {px : Pos} (b : Blk C scope i x) (hK : F.K = C.K) (hfs : ∀ (env : Env) (v : Value), foldedSetIterable iter env v = pure v)
    (h : WPE F C iter ρ k fun k1 d => ∃ as : List α, d = .list (as.map ei) ∧ as.length ≤ 1000000 ∧ (∀ D (j : α), j ∈ as → WPE (F.ext D) (C.blk scope) elt (ρ.set i (.d (ei j))) k1 fun k3 y => k3 = k1 ∧ y = g j) ∧ Φ k1 (.list ((as).map g))) : WPE F C (.ListComp elt [⟨.Name x px, iter, [], 0⟩] scope pos) ρ k Φ := by
  refine we_compL0 i b hK hfs (h.imp fun k1 d hh => ?_)
  obtain ⟨as, e, hz, hb, hf⟩ := hh
  refine ⟨fun j k2 acc => k2 = k1 ∧ acc = (as.take j).map g, as.map ei, e, by rw [List.length_map]; exact hz, ⟨rfl, by simp⟩, ?_, ?_⟩
  · rintro D j y k2 acc hy ⟨rfl, rfl⟩
    rw [List.getElem?_map] at hy
    cases ha' : as[j]? with
    | none => rw [ha'] at hy; cases hy
    | some a' =>
    rw [ha'] at hy
    cases hy
    have tn := take_next ha'
    refine (hb D _ (List.mem_of_getElem? ha')).imp fun k4 y' ⟨e1, e2⟩ => ⟨e1, ?_⟩
    rw [tn, e2, List.map_append]; rfl
  · rintro k2 acc ⟨rfl, rfl⟩
    rw [List.length_map, List.take_length]; exact hf
theorem ws_mL (ei : α → PyData) (g : α → PyData) (i iy : Nat) {x y : Str} {px py : Pos} (b : Blk C scope i x) (ty : Tgt C iy y) (hyl : C.sc.names.lookup y = some .local) (hk : C.sc.kind = .function) (hl : (py.line == pos.line) = true) (ha : (scope.names.any fun (n, k) => n == y && (k == .local || k == .cell)) = false) (hK : F.K = C.K) (hfs : ∀ (env : Env) (v : Value), foldedSetIterable iter env v = pure v)
    (h : WPE F C iter ρ k fun k1 d => ∃ as : List α, d = .list (as.map ei) ∧ as.length ≤ 1000000 ∧ (∀ D (j : α), j ∈ as → WPE (F.ext D) (C.blk scope) elt (ρ.set i (.d (ei j))) k1 fun k3 y => k3 = k1 ∧ y = g j) ∧ P.nx k1 (ρ.set iy (.d (.list ((as).map g))))) : WPS F C (.Assign [.Name y py] (.ListComp elt [⟨.Name x px, iter, [], 0⟩] scope pos) spos) ρ k P := by
  refine ws_compL0 i iy b ty hyl hk hl ha hK hfs (h.imp fun k1 d hh => ?_)
  obtain ⟨as, e, hz, hb, hf⟩ := hh
  refine ⟨fun j k2 acc => k2 = k1 ∧ acc = (as.take j).map g, as.map ei, e, by rw [List.length_map]; exact hz, ⟨rfl, by simp⟩, ?_, ?_⟩
  · rintro D j y k2 acc hy ⟨rfl, rfl⟩
    rw [List.getElem?_map] at hy
    cases ha' : as[j]? with
    | none => rw [ha'] at hy; cases hy
    | some a' =>
    rw [ha'] at hy
    cases hy
    have tn := take_next ha'
    refine (hb D _ (List.mem_of_getElem? ha')).imp fun k4 y' ⟨e1, e2⟩ => ⟨e1, ?_⟩
    rw [tn, e2, List.map_append]; rfl
  · rintro k2 acc ⟨rfl, rfl⟩
    rw [List.length_map, List.take_length]; exact hf
theorem we_fL (p : α → Bool) (ei : α → PyData) (g : α → PyData) (i : Nat) {x : Str} {px : Pos} {c : Expr} (b : Blk C scope i x) (hK : F.K = C.K) (hfs : ∀ (env : Env) (v : Value), foldedSetIterable iter env v = pure v)
    (h : WPE F C iter ρ k fun k1 d => ∃ as : List α, d = .list (as.map ei) ∧ as.length ≤ 1000000 ∧ (∀ D (j : α), j ∈ as → WPT (F.ext D) (C.blk scope) c (ρ.set i (.d (ei j))) k1 fun k2 b => k2 = k1 ∧ b = p j ∧ (b = true → WPE (F.ext D) (C.blk scope) elt (ρ.set i (.d (ei j))) k1 fun k3 y => k3 = k1 ∧ y = g j)) ∧ Φ k1 (.list (((as).filter p).map g))) : WPE F C (.ListComp elt [⟨.Name x px, iter, [c], 0⟩] scope pos) ρ k Φ := by
  refine we_compL1 i b hK hfs (h.imp fun k1 d hh => ?_)
  obtain ⟨as, e, hz, hb, hf⟩ := hh
  refine ⟨fun j k2 acc => k2 = k1 ∧ acc = ((as.take j).filter p).map g, as.map ei, e, by rw [List.length_map]; exact hz, ⟨rfl, by simp⟩, ?_, ?_⟩
  · rintro D j y k2 acc hy ⟨rfl, rfl⟩
    rw [List.getElem?_map] at hy
    cases ha' : as[j]? with
    | none => rw [ha'] at hy; cases hy
    | some a' =>
    rw [ha'] at hy
    cases hy
    have tn := take_next ha'
    refine (hb D _ (List.mem_of_getElem? ha')).imp fun k3 c' hc => ?_
    obtain ⟨rfl, ec, hel⟩ := hc
    cases c' with
    | true =>
      rw [if_pos rfl]
      refine (hel rfl).imp fun k4 y' ⟨e1, e2⟩ => ⟨e1, ?_⟩
      rw [tn, List.filter_append, List.map_append, e2, List.filter_cons, if_pos ec.symm]; rfl
    | false =>
      rw [if_neg Bool.false_ne_true]
      refine ⟨rfl, ?_⟩
      rw [tn, List.filter_append, List.map_append, List.filter_cons, if_neg (by rw [← ec]; exact Bool.false_ne_true)]; simp
  · rintro k2 acc ⟨rfl, rfl⟩
    rw [List.length_map, List.take_length]; exact hf
theorem ws_fL (p : α → Bool) (ei : α → PyData) (g : α → PyData) (i iy : Nat) {x y : Str} {px py : Pos} {c : Expr} (b : Blk C scope i x) (ty : Tgt C iy y) (hyl : C.sc.names.lookup y = some .local) (hk : C.sc.kind = .function) (hl : (py.line == pos.line) = true) (ha : (scope.names.any fun (n, k) => n == y && (k == .local || k == .cell)) = false) (hK : F.K = C.K) (hfs : ∀ (env : Env) (v : Value), foldedSetIterable iter env v = pure v)
    (h : WPE F C iter ρ k fun k1 d => ∃ as : List α, d = .list (as.map ei) ∧ as.length ≤ 1000000 ∧ (∀ D (j : α), j ∈ as → WPT (F.ext D) (C.blk scope) c (ρ.set i (.d (ei j))) k1 fun k2 b => k2 = k1 ∧ b = p j ∧ (b = true → WPE (F.ext D) (C.blk scope) elt (ρ.set i (.d (ei j))) k1 fun k3 y => k3 = k1 ∧ y = g j)) ∧ P.nx k1 (ρ.set iy (.d (.list (((as).filter p).map g))))) : WPS F C (.Assign [.Name y py] (.ListComp elt [⟨.Name x px, iter, [c], 0⟩] scope pos) spos) ρ k P := by
  refine ws_compL1 i iy b ty hyl hk hl ha hK hfs (h.imp fun k1 d hh => ?_)
  obtain ⟨as, e, hz, hb, hf⟩ := hh
  refine ⟨fun j k2 acc => k2 = k1 ∧ acc = ((as.take j).filter p).map g, as.map ei, e, by rw [List.length_map]; exact hz, ⟨rfl, by simp⟩, ?_, ?_⟩
  · rintro D j y k2 acc hy ⟨rfl, rfl⟩
    rw [List.getElem?_map] at hy
    cases ha' : as[j]? with
    | none => rw [ha'] at hy; cases hy
    | some a' =>
    rw [ha'] at hy
    cases hy
    have tn := take_next ha'
    refine (hb D _ (List.mem_of_getElem? ha')).imp fun k3 c' hc => ?_
    obtain ⟨rfl, ec, hel⟩ := hc
    cases c' with
    | true =>
      rw [if_pos rfl]
      refine (hel rfl).imp fun k4 y' ⟨e1, e2⟩ => ⟨e1, ?_⟩
      rw [tn, List.filter_append, List.map_append, e2, List.filter_cons, if_pos ec.symm]; rfl
    | false =>
      rw [if_neg Bool.false_ne_true]
      refine ⟨rfl, ?_⟩
      rw [tn, List.filter_append, List.map_append, List.filter_cons, if_neg (by rw [← ec]; exact Bool.false_ne_true)]; simp
  · rintro k2 acc ⟨rfl, rfl⟩
    rw [List.length_map, List.take_length]; exact hf
theorem we_mT (ei : α → PyData) (g : α → PyData) (i : Nat) {x : Str} {px : Pos} (b : Blk C scope i x) (hK : F.K = C.K) (hfs : ∀ (env : Env) (v : Value), foldedSetIterable iter env v = pure v)
    (h : WPE F C iter ρ k fun k1 d => ∃ as : List α, d = .tuple (as.map ei) ∧ as.length ≤ 1000000 ∧ (∀ D (j : α), j ∈ as → WPE (F.ext D) (C.blk scope) elt (ρ.set i (.d (ei j))) k1 fun k3 y => k3 = k1 ∧ y = g j) ∧ Φ k1 (.list ((as).map g))) : WPE F C (.ListComp elt [⟨.Name x px, iter, [], 0⟩] scope pos) ρ k Φ := by
  refine we_compT0 i b hK hfs (h.imp fun k1 d hh => ?_)
  obtain ⟨as, e, hz, hb, hf⟩ := hh
  refine ⟨fun j k2 acc => k2 = k1 ∧ acc = (as.take j).map g, as.map ei, e, by rw [List.length_map]; exact hz, ⟨rfl, by simp⟩, ?_, ?_⟩
  · rintro D j y k2 acc hy ⟨rfl, rfl⟩
    rw [List.getElem?_map] at hy
    cases ha' : as[j]? with
    | none => rw [ha'] at hy; cases hy
    | some a' =>
    rw [ha'] at hy
    cases hy
    have tn := take_next ha'
    refine (hb D _ (List.mem_of_getElem? ha')).imp fun k4 y' ⟨e1, e2⟩ => ⟨e1, ?_⟩
    rw [tn, e2, List.map_append]; rfl
  · rintro k2 acc ⟨rfl, rfl⟩
    rw [List.length_map, List.take_length]; exact hf
theorem ws_mT (ei : α → PyData) (g : α → PyData) (i iy : Nat) {x y : Str} {px py : Pos} (b : Blk C scope i x) (ty : Tgt C iy y) (hyl : C.sc.names.lookup y = some .local) (hk : C.sc.kind = .function) (hl : (py.line == pos.line) = true) (ha : (scope.names.any fun (n, k) => n == y && (k == .local || k == .cell)) = false) (hK : F.K = C.K) (hfs : ∀ (env : Env) (v : Value), foldedSetIterable iter env v = pure v)
    (h : WPE F C iter ρ k fun k1 d => ∃ as : List α, d = .tuple (as.map ei) ∧ as.length ≤ 1000000 ∧ (∀ D (j : α), j ∈ as → WPE (F.ext D) (C.blk scope) elt (ρ.set i (.d (ei j))) k1 fun k3 y => k3 = k1 ∧ y = g j) ∧ P.nx k1 (ρ.set iy (.d (.list ((as).map g))))) : WPS F C (.Assign [.Name y py] (.ListComp elt [⟨.Name x px, iter, [], 0⟩] scope pos) spos) ρ k P := by
  refine ws_compT0 i iy b ty hyl hk hl ha hK hfs (h.imp fun k1 d hh => ?_)
  obtain ⟨as, e, hz, hb, hf⟩ := hh
  refine ⟨fun j k2 acc => k2 = k1 ∧ acc = (as.take j).map g, as.map ei, e, by rw [List.length_map]; exact hz, ⟨rfl, by simp⟩, ?_, ?_⟩
  · rintro D j y k2 acc hy ⟨rfl, rfl⟩
    rw [List.getElem?_map] at hy
    cases ha' : as[j]? with
    | none => rw [ha'] at hy; cases hy
    | some a' =>
    rw [ha'] at hy
    cases hy
    have tn := take_next ha'
    refine (hb D _ (List.mem_of_getElem? ha')).imp fun k4 y' ⟨e1, e2⟩ => ⟨e1, ?_⟩
    rw [tn, e2, List.map_append]; rfl
  · rintro k2 acc ⟨rfl, rfl⟩
    rw [List.length_map, List.take_length]; exact hf
theorem we_fT (p : α → Bool) (ei : α → PyData) (g : α → PyData) (i : Nat) {x : Str} {px : Pos} {c : Expr} (b : Blk C scope i x) (hK : F.K = C.K) (hfs : ∀ (env : Env) (v : Value), foldedSetIterable iter env v = pure v)
    (h : WPE F C iter ρ k fun k1 d => ∃ as : List α, d = .tuple (as.map ei) ∧ as.length ≤ 1000000 ∧ (∀ D (j : α), j ∈ as → WPT (F.ext D) (C.blk scope) c (ρ.set i (.d (ei j))) k1 fun k2 b => k2 = k1 ∧ b = p j ∧ (b = true → WPE (F.ext D) (C.blk scope) elt (ρ.set i (.d (ei j))) k1 fun k3 y => k3 = k1 ∧ y = g j)) ∧ Φ k1 (.list (((as).filter p).map g))) : WPE F C (.ListComp elt [⟨.Name x px, iter, [c], 0⟩] scope pos) ρ k Φ := by
  refine we_compT1 i b hK hfs (h.imp fun k1 d hh => ?_)
  obtain ⟨as, e, hz, hb, hf⟩ := hh
  refine ⟨fun j k2 acc => k2 = k1 ∧ acc = ((as.take j).filter p).map g, as.map ei, e, by rw [List.length_map]; exact hz, ⟨rfl, by simp⟩, ?_, ?_⟩
  · rintro D j y k2 acc hy ⟨rfl, rfl⟩
    rw [List.getElem?_map] at hy
    cases ha' : as[j]? with
    | none => rw [ha'] at hy; cases hy
    | some a' =>
    rw [ha'] at hy
    cases hy
    have tn := take_next ha'
    refine (hb D _ (List.mem_of_getElem? ha')).imp fun k3 c' hc => ?_
    obtain ⟨rfl, ec, hel⟩ := hc
    cases c' with
    | true =>
      rw [if_pos rfl]
      refine (hel rfl).imp fun k4 y' ⟨e1, e2⟩ => ⟨e1, ?_⟩
      rw [tn, List.filter_append, List.map_append, e2, List.filter_cons, if_pos ec.symm]; rfl
    | false =>
      rw [if_neg Bool.false_ne_true]
      refine ⟨rfl, ?_⟩
      rw [tn, List.filter_append, List.map_append, List.filter_cons, if_neg (by rw [← ec]; exact Bool.false_ne_true)]; simp
  · rintro k2 acc ⟨rfl, rfl⟩
    rw [List.length_map, List.take_length]; exact hf
theorem ws_fT (p : α → Bool) (ei : α → PyData) (g : α → PyData) (i iy : Nat) {x y : Str} {px py : Pos} {c : Expr} (b : Blk C scope i x) (ty : Tgt C iy y) (hyl : C.sc.names.lookup y = some .local) (hk : C.sc.kind = .function) (hl : (py.line == pos.line) = true) (ha : (scope.names.any fun (n, k) => n == y && (k == .local || k == .cell)) = false) (hK : F.K = C.K) (hfs : ∀ (env : Env) (v : Value), foldedSetIterable iter env v = pure v)
    (h : WPE F C iter ρ k fun k1 d => ∃ as : List α, d = .tuple (as.map ei) ∧ as.length ≤ 1000000 ∧ (∀ D (j : α), j ∈ as → WPT (F.ext D) (C.blk scope) c (ρ.set i (.d (ei j))) k1 fun k2 b => k2 = k1 ∧ b = p j ∧ (b = true → WPE (F.ext D) (C.blk scope) elt (ρ.set i (.d (ei j))) k1 fun k3 y => k3 = k1 ∧ y = g j)) ∧ P.nx k1 (ρ.set iy (.d (.list (((as).filter p).map g))))) : WPS F C (.Assign [.Name y py] (.ListComp elt [⟨.Name x px, iter, [c], 0⟩] scope pos) spos) ρ k P := by
  refine ws_compT1 i iy b ty hyl hk hl ha hK hfs (h.imp fun k1 d hh => ?_)
  obtain ⟨as, e, hz, hb, hf⟩ := hh
  refine ⟨fun j k2 acc => k2 = k1 ∧ acc = ((as.take j).filter p).map g, as.map ei, e, by rw [List.length_map]; exact hz, ⟨rfl, by simp⟩, ?_, ?_⟩
  · rintro D j y k2 acc hy ⟨rfl, rfl⟩
    rw [List.getElem?_map] at hy
    cases ha' : as[j]? with
    | none => rw [ha'] at hy; cases hy
    | some a' =>
    rw [ha'] at hy
    cases hy
    have tn := take_next ha'
    refine (hb D _ (List.mem_of_getElem? ha')).imp fun k3 c' hc => ?_
    obtain ⟨rfl, ec, hel⟩ := hc
    cases c' with
    | true =>
      rw [if_pos rfl]
      refine (hel rfl).imp fun k4 y' ⟨e1, e2⟩ => ⟨e1, ?_⟩
      rw [tn, List.filter_append, List.map_append, e2, List.filter_cons, if_pos ec.symm]; rfl
    | false =>
      rw [if_neg Bool.false_ne_true]
      refine ⟨rfl, ?_⟩
      rw [tn, List.filter_append, List.map_append, List.filter_cons, if_neg (by rw [← ec]; exact Bool.false_ne_true)]; simp
  · rintro k2 acc ⟨rfl, rfl⟩
    rw [List.length_map, List.take_length]; exact hf
theorem we_mR (g : Int → PyData) (i : Nat) {x : Str} {px : Pos} (b : Blk C scope i x) {e : Expr} {pr pr2 : Pos} (hg : C.sc.names.lookup ("range" : Str) = some .globalImplicit) (hm : C.mg ("range" : Str) = none) (hse : ∀ env : Env, starEach [e] env = [(false, eval e env)]) (hfs : ∀ (env : Env) (v : Value), foldedSetIterable (.Call (.Name "range" pr) [e] [] pr2) env v = pure v)
    (h : WPE F C e ρ k fun k1 d => ∃ z : Int, d = .int z ∧ -(2 ^ 62) ≤ z ∧ z ≤ 1000000 ∧ (∀ D (j : Int), 0 ≤ j → j < z → WPE (F.ext D) (C.blk scope) elt (ρ.set i (.d (.int j))) k1 fun k3 y => k3 = k1 ∧ y = g j) ∧ Φ k1 (.list ((rg z).map g))) : WPE F C (.ListComp elt [⟨.Name x px, (.Call (.Name "range" pr) [e] [] pr2), [], 0⟩] scope pos) ρ k Φ := by
  refine we_compR0 i b hg hm hse hfs (h.imp fun k1 d hh => ?_)
  obtain ⟨z, e, z1, z2, hb, hf⟩ := hh
  refine ⟨fun j k2 acc => k2 = k1 ∧ acc = (rg (j : Int)).map g, z, e, z1, z2, ⟨rfl, rfl⟩, ?_, ?_⟩
  · rintro D j k2 acc hj ⟨rfl, rfl⟩
    have tn : rg ((j + 1 : Nat) : Int) = rg (j : Int) ++ [(j : Int)] := by rw [show ((j + 1 : Nat) : Int) = (j : Int) + 1 by omega, rg_succ]
    refine (hb D _ (by omega) (by omega)).imp fun k4 y' ⟨e1, e2⟩ => ⟨e1, ?_⟩
    rw [tn, e2, List.map_append]; rfl
  · rintro k2 acc ⟨rfl, rfl⟩
    have ez : rg ((z.toNat : Nat) : Int) = rg z := by unfold rg; congr 2
    rw [ez]; exact hf
theorem ws_mR (g : Int → PyData) (i iy : Nat) {x y : Str} {px py : Pos} (b : Blk C scope i x) (ty : Tgt C iy y) (hyl : C.sc.names.lookup y = some .local) (hk : C.sc.kind = .function) (hl : (py.line == pos.line) = true) (ha : (scope.names.any fun (n, k) => n == y && (k == .local || k == .cell)) = false) {e : Expr} {pr pr2 : Pos} (hg : C.sc.names.lookup ("range" : Str) = some .globalImplicit) (hm : C.mg ("range" : Str) = none) (hse : ∀ env : Env, starEach [e] env = [(false, eval e env)]) (hfs : ∀ (env : Env) (v : Value), foldedSetIterable (.Call (.Name "range" pr) [e] [] pr2) env v = pure v)
    (h : WPE F C e ρ k fun k1 d => ∃ z : Int, d = .int z ∧ -(2 ^ 62) ≤ z ∧ z ≤ 1000000 ∧ (∀ D (j : Int), 0 ≤ j → j < z → WPE (F.ext D) (C.blk scope) elt (ρ.set i (.d (.int j))) k1 fun k3 y => k3 = k1 ∧ y = g j) ∧ P.nx k1 (ρ.set iy (.d (.list ((rg z).map g))))) : WPS F C (.Assign [.Name y py] (.ListComp elt [⟨.Name x px, (.Call (.Name "range" pr) [e] [] pr2), [], 0⟩] scope pos) spos) ρ k P := by
  refine ws_compR0 i iy b ty hyl hk hl ha hg hm hse hfs (h.imp fun k1 d hh => ?_)
  obtain ⟨z, e, z1, z2, hb, hf⟩ := hh
  refine ⟨fun j k2 acc => k2 = k1 ∧ acc = (rg (j : Int)).map g, z, e, z1, z2, ⟨rfl, rfl⟩, ?_, ?_⟩
  · rintro D j k2 acc hj ⟨rfl, rfl⟩
    have tn : rg ((j + 1 : Nat) : Int) = rg (j : Int) ++ [(j : Int)] := by rw [show ((j + 1 : Nat) : Int) = (j : Int) + 1 by omega, rg_succ]
    refine (hb D _ (by omega) (by omega)).imp fun k4 y' ⟨e1, e2⟩ => ⟨e1, ?_⟩
    rw [tn, e2, List.map_append]; rfl
  · rintro k2 acc ⟨rfl, rfl⟩
    have ez : rg ((z.toNat : Nat) : Int) = rg z := by unfold rg; congr 2
    rw [ez]; exact hf
theorem we_fR (p : Int → Bool) (g : Int → PyData) (i : Nat) {x : Str} {px : Pos} {c : Expr} (b : Blk C scope i x) {e : Expr} {pr pr2 : Pos} (hg : C.sc.names.lookup ("range" : Str) = some .globalImplicit) (hm : C.mg ("range" : Str) = none) (hse : ∀ env : Env, starEach [e] env = [(false, eval e env)]) (hfs : ∀ (env : Env) (v : Value), foldedSetIterable (.Call (.Name "range" pr) [e] [] pr2) env v = pure v)
    (h : WPE F C e ρ k fun k1 d => ∃ z : Int, d = .int z ∧ -(2 ^ 62) ≤ z ∧ z ≤ 1000000 ∧ (∀ D (j : Int), 0 ≤ j → j < z → WPT (F.ext D) (C.blk scope) c (ρ.set i (.d (.int j))) k1 fun k2 b => k2 = k1 ∧ b = p j ∧ (b = true → WPE (F.ext D) (C.blk scope) elt (ρ.set i (.d (.int j))) k1 fun k3 y => k3 = k1 ∧ y = g j)) ∧ Φ k1 (.list (((rg z).filter p).map g))) : WPE F C (.ListComp elt [⟨.Name x px, (.Call (.Name "range" pr) [e] [] pr2), [c], 0⟩] scope pos) ρ k Φ := by
  refine we_compR1 i b hg hm hse hfs (h.imp fun k1 d hh => ?_)
  obtain ⟨z, e, z1, z2, hb, hf⟩ := hh
  refine ⟨fun j k2 acc => k2 = k1 ∧ acc = ((rg (j : Int)).filter p).map g, z, e, z1, z2, ⟨rfl, rfl⟩, ?_, ?_⟩
  · rintro D j k2 acc hj ⟨rfl, rfl⟩
    have tn : rg ((j + 1 : Nat) : Int) = rg (j : Int) ++ [(j : Int)] := by rw [show ((j + 1 : Nat) : Int) = (j : Int) + 1 by omega, rg_succ]
    refine (hb D _ (by omega) (by omega)).imp fun k3 c' hc => ?_
    obtain ⟨rfl, ec, hel⟩ := hc
    cases c' with
    | true =>
      rw [if_pos rfl]
      refine (hel rfl).imp fun k4 y' ⟨e1, e2⟩ => ⟨e1, ?_⟩
      rw [tn, List.filter_append, List.map_append, e2, List.filter_cons, if_pos ec.symm]; rfl
    | false =>
      rw [if_neg Bool.false_ne_true]
      refine ⟨rfl, ?_⟩
      rw [tn, List.filter_append, List.map_append, List.filter_cons, if_neg (by rw [← ec]; exact Bool.false_ne_true)]; simp
  · rintro k2 acc ⟨rfl, rfl⟩
    have ez : rg ((z.toNat : Nat) : Int) = rg z := by unfold rg; congr 2
    rw [ez]; exact hf
theorem ws_fR (p : Int → Bool) (g : Int → PyData) (i iy : Nat) {x y : Str} {px py : Pos} {c : Expr} (b : Blk C scope i x) (ty : Tgt C iy y) (hyl : C.sc.names.lookup y = some .local) (hk : C.sc.kind = .function) (hl : (py.line == pos.line) = true) (ha : (scope.names.any fun (n, k) => n == y && (k == .local || k == .cell)) = false) {e : Expr} {pr pr2 : Pos} (hg : C.sc.names.lookup ("range" : Str) = some .globalImplicit) (hm : C.mg ("range" : Str) = none) (hse : ∀ env : Env, starEach [e] env = [(false, eval e env)]) (hfs : ∀ (env : Env) (v : Value), foldedSetIterable (.Call (.Name "range" pr) [e] [] pr2) env v = pure v)
    (h : WPE F C e ρ k fun k1 d => ∃ z : Int, d = .int z ∧ -(2 ^ 62) ≤ z ∧ z ≤ 1000000 ∧ (∀ D (j : Int), 0 ≤ j → j < z → WPT (F.ext D) (C.blk scope) c (ρ.set i (.d (.int j))) k1 fun k2 b => k2 = k1 ∧ b = p j ∧ (b = true → WPE (F.ext D) (C.blk scope) elt (ρ.set i (.d (.int j))) k1 fun k3 y => k3 = k1 ∧ y = g j)) ∧ P.nx k1 (ρ.set iy (.d (.list (((rg z).filter p).map g))))) : WPS F C (.Assign [.Name y py] (.ListComp elt [⟨.Name x px, (.Call (.Name "range" pr) [e] [] pr2), [c], 0⟩] scope pos) spos) ρ k P := by
  refine ws_compR1 i iy b ty hyl hk hl ha hg hm hse hfs (h.imp fun k1 d hh => ?_)
  obtain ⟨z, e, z1, z2, hb, hf⟩ := hh
  refine ⟨fun j k2 acc => k2 = k1 ∧ acc = ((rg (j : Int)).filter p).map g, z, e, z1, z2, ⟨rfl, rfl⟩, ?_, ?_⟩
  · rintro D j k2 acc hj ⟨rfl, rfl⟩
    have tn : rg ((j + 1 : Nat) : Int) = rg (j : Int) ++ [(j : Int)] := by rw [show ((j + 1 : Nat) : Int) = (j : Int) + 1 by omega, rg_succ]
    refine (hb D _ (by omega) (by omega)).imp fun k3 c' hc => ?_
    obtain ⟨rfl, ec, hel⟩ := hc
    cases c' with
    | true =>
      rw [if_pos rfl]
      refine (hel rfl).imp fun k4 y' ⟨e1, e2⟩ => ⟨e1, ?_⟩
      rw [tn, List.filter_append, List.map_append, e2, List.filter_cons, if_pos ec.symm]; rfl
    | false =>
      rw [if_neg Bool.false_ne_true]
      refine ⟨rfl, ?_⟩
      rw [tn, List.filter_append, List.map_append, List.filter_cons, if_neg (by rw [← ec]; exact Bool.false_ne_true)]; simp
  · rintro k2 acc ⟨rfl, rfl⟩
    have ez : rg ((z.toNat : Nat) : Int) = rg z := by unfold rg; congr 2
    rw [ez]; exact hf
end
end Dl

namespace Dl
open PySem PySem.Spec PyProof.Rows L2
/-! ### the laws' draws: a list [cells, count, rests] -/
def DkM (st a r : Addr) (b : Addr) : Prop := b = st ∨ b = a ∨ b = r
def DkG (st a r : Addr) (k : Nat) (H : Hp) : Prop := ∃ (cells rests : List Int) (n : Int), H st = some (.lst [.ref a, .int n, .ref r]) ∧ H a = some (.lst (cells.map V.int)) ∧ H r = some (.lst (rests.map V.int)) ∧
  cells.length = rests.length ∧ 0 < cells.length ∧ 0 ≤ n ∧ n + k ≤ 1000000
theorem DkG.weak {st a r : Addr} {k k' : Nat} {H : Hp} (h : DkG st a r k H) (hk : k' ≤ k) : DkG st a r k' H := by
  obtain ⟨c, rs, n, h1, h2, h3, h4, h5, h6, h7⟩ := h
  exact ⟨c, rs, n, h1, h2, h3, h4, h5, h6, by omega⟩
theorem DkG.at {st a r : Addr} {k : Nat} {H H' : Hp} (h : DkG st a r k H) (e : ∀ b, DkM st a r b → H' b = H b) : DkG st a r k H' := by
  obtain ⟨c, rs, n, h1, h2, h3, h4⟩ := h
  exact ⟨c, rs, n, (e st (.inl rfl)).trans h1, (e a (.inr (.inl rfl))).trans h2, (e r (.inr (.inr rfl))).trans h3, h4⟩
theorem DkG.live {st a r : Addr} {k : Nat} {H : Hp} (h : DkG st a r k H) (b : Addr) (hb : DkM st a r b) : H b ≠ none := by
  obtain ⟨c, rs, n, h1, h2, h3, h4⟩ := h
  rcases hb with rfl | rfl | rfl
  · rw [h1]; exact fun z => nomatch z
  · rw [h2]; exact fun z => nomatch z
  · rw [h3]; exact fun z => nomatch z
theorem DkG.lv {st a r : Addr} {k : Nat} {H : Hp} (h : DkG st a r k H) (b : Addr) (hb : DkM st a r b) : Lv H b := by
  obtain ⟨c, rs, n, h1, h2, h3, h4⟩ := h
  rcases hb with rfl | rfl | rfl
  · exact lv_lst h1
  · exact lv_lst h2
  · exact lv_lst h3
def dkFm (K : PySem.W.Frag) (S : Addr → Prop) (H : Hp) (st a r : Addr) : Fm where
  K := K
  S := fun b => S b ∨ DkM st a r b
  M := DkM st a r
  H0 := H
  G := DkG st a r
  ms := fun b h => .inr h
  gm := fun k H H' g e _ => g.at e
  gl := fun k H g b hb => g.live b hb
/-- the frame knows the draws -/
structure IsDk (F : Fm) (st a r : Addr) : Prop where
  M : F.M = DkM st a r
  G : F.G = DkG st a r
theorem IsDk.ext {F : Fm} {st a r : Addr} (h : IsDk F st a r) (D : Addr) : IsDk (F.ext D) st a r := ⟨h.M, h.G⟩
theorem isDk_fm {K : PySem.W.Frag} {S : Addr → Prop} {H : Hp} {st a r : Addr} : IsDk (dkFm K S H st a r) st a r := ⟨rfl, rfl⟩
/-- a def that draws: at most `cost` draws; Pre of its data, R what it may hand back -/
def spDraw (K : PySem.W.Frag) (cost : Nat) (Pre : List PyData → Prop) (R : Rel) : Sp := fun vs H Q _ => ∃ (S : Addr → Prop) (st a r : Addr) (vs' : List V) (ds : List PyData) (k : Nat), vs = .ref st :: vs' ∧ DkG st a r (k + cost) H ∧ (∀ b, S b → Lv H b) ∧ (∀ b, DkM st a r b → S b) ∧ RepAll K S H vs' ds ∧ Pre ds ∧
  ∀ v d H', (∀ b o, ¬ DkM st a r b → H b = some o → H' b = some o) → DkG st a r k H' → Rep K S H' v d → R ds d → Q v H'
structure DFn (P : Program) (w : World) (K : PySem.W.Frag) (mg : Str → Option Value) (base : Heap) (lvl : Nat) (x : Str) (cost : Nat) (Pre : List PyData → Prop) (R : Rel) : Prop where
  ex : ∃ (fa : Addr) (fd : FuncData) (ps : List Str), FnG P w K mg base lvl fa fd ps (spDraw K cost Pre R) ∧ mg x = some (.ref fa) ∧ PySem.W.keepIn K (.ref fa) = true ∧ L2.Binds K fd ps []
section
variable {P : Program} {w : World} {K : PySem.W.Frag} {mg : Str → Option Value} {base : Heap}
theorem env_raw {F : Fm} {H : Hp} {N : List Str} {v : V} {vs : List V} {ds : List PyData} (r : RpAll F H vs ds) : EnvOk F H (L2.start N (v :: vs)) (.raw v :: (ds.map SV.d ++ List.replicate (N.length - (ds.length + 1)) SV.un)) := fun i sv e => by
  have hl := r.length
  unfold L2.start
  cases i with
  | zero => cases e; exact ⟨some v, rfl, rfl⟩
  | succ i =>
    have e' : (ds.map SV.d ++ List.replicate (N.length - (ds.length + 1)) SV.un)[i]? = some sv := e
    show ∃ x, ((vs.map some) ++ List.replicate (N.length - (vs.length + 1)) none)[i]? = some x ∧ SlotOk F H sv x
    by_cases hi : i < ds.length
    · rw [List.getElem?_append_left (by simpa using hi), List.getElem?_map, List.getElem?_eq_getElem hi] at e'
      cases e'
      obtain ⟨u, hu, ru⟩ := r.get (List.getElem?_eq_getElem hi)
      refine ⟨some u, ?_, u, rfl, ru⟩
      rw [List.getElem?_append_left (by simpa [hl] using hi), List.getElem?_map, hu]; rfl
    · rw [List.getElem?_append_right (by simpa using hi)] at e'
      rw [List.getElem?_append_right (by simp; omega)]
      simp only [List.length_map] at e' ⊢
      rw [List.getElem?_replicate] at e' ⊢
      rw [hl]
      by_cases hj : i - ds.length < N.length - (ds.length + 1)
      · rw [if_pos hj] at e' ⊢
        cases e'
        exact ⟨none, rfl, trivial⟩
      · rw [if_neg hj] at e'; cases e'
def drawFm (K : PySem.W.Frag) (S : Addr → Prop) (H : Hp) (st a r : Addr) (hS : ∀ b, DkM st a r b → S b) : Fm where
  K := K
  S := S
  M := DkM st a r
  H0 := H
  G := DkG st a r
  ms := hS
  gm := fun k H H' g e _ => g.at e
  gl := fun k H g b hb => g.live b hb
theorem draw_ok {x qual : Str} {st : Stmt} {f : Addr} {fd : FuncData} {N ps : List Str} {k cost : Nat} {Pre : List PyData → Prop} {R : Rel} (Fn : Fun K x qual st f fd) (Sc : FnScope N ps (defScope st)) (len : ∀ ds, Pre ds → ds.length + 1 = ps.length)
    (body : ∀ (F : Fm) (s a r : Addr) (ds : List PyData) (kk : Nat), IsDk F s a r → F.K = K → Pre ds → WPB F (bodyCs P w K mg base N (defScope st) k) (defBody st) (.raw (.ref s) :: (ds.map SV.d ++ List.replicate (N.length - (ds.length + 1)) SV.un)) (kk + cost) { nx := fun k' _ => kk ≤ k' ∧ R ds .none, rt := fun k' d => kk ≤ k' ∧ R ds d, bk := fun _ _ => False, ct := fun _ _ => False }) :
    FnG P w K mg base (k + 1) f fd ps (spDraw K cost Pre R) := by
  refine FnG.of_body Fn Sc (fun vs H Q E h => ?_) (fun cdv A outer s H vs Q hgd hr h => ?_)
  · obtain ⟨S, st, a, r, vs', ds, k, rfl, _, _, _, rr, hp, _⟩ := h
    rw [List.length_cons, rr.length, len ds hp]
  · obtain ⟨S, st, a, r, vs', ds, kk, rfl, g, al, hS, rr, hp, q⟩ := h
    refine ⟨_, pbB (fits_body hgd hr), ?_⟩
    refine body (drawFm K S H st a r hS) st a r ds kk ⟨rfl, rfl⟩ rfl hp (L2.start N (.ref st :: vs')) H _ (env_raw (F := drawFm K S H st a r hS) rr) ⟨g, fun b o _ e => e, al⟩ ?_ ?_ ?_ ?_
    · exact fun ρ' σ' k' H' _ _ j' e => q _ .none H' (fun b o n h => j'.le b o (fun z => z.elim n id) h) (DkG.weak j'.g e.1) .non e.2
    · exact fun v d' k' H' j' r' e => q v d' H' (fun b o n h => j'.le b o (fun z => z.elim n id) h) (DkG.weak j'.g e.1) r' e.2
    · exact fun _ _ _ _ _ _ _ z => z.elim
    · exact fun _ _ _ _ _ _ _ z => z.elim
end
section
variable {F : Fm} {C : Cs} {ρ : Rho} {k : Nat} {Φ : Nat → PyData → Prop} {es : List Expr} {pos p py : Pos} {x y : Str}
/-- a call of a def that draws, the state by its name -/
theorem we_callD {s a r : Addr} (dk : IsDk F s a r) {j cost : Nat} {Pre : List PyData → Prop} {R : Rel} (hF : DFn C.P C.w C.K C.mg C.base j x cost Pre R) (hl : j ≤ C.lvl) (hK : F.K = C.K) (i : Nat) (hg : C.sc.names.lookup x = some .globalImplicit) (hN : C.N[i]? = some y) (hv : Vis C.sc y) (hr : ρ[i]? = some (.raw (.ref s)))
    (h : WPA F C es ρ k fun k1 ds => Pre ds ∧ ∃ k2, k1 = k2 + cost ∧ ∀ d, R ds d → Φ k2 d) (hdb : (x == ("__debug__" : Str)) = false := by decide) (hd : (y == ("__debug__" : Str)) = false := by decide) (hcd : (y == ("__classdict__" : Str)) = false := by decide)
    (hss : ∀ env : Env, starEach (.Name y py :: es) env = (false, eval (.Name y py) env) :: starEach es env := by intro _; rfl) (hpl : ∀ env : Env, ((backTo pos (starEach es env)).any fun x => x.fst) = false := by intro _; rfl) :
    WPE F C (.Call (.Name x p) (.Name y py :: es) [] pos) ρ k Φ := by
  obtain ⟨fa, fd, ps, G, hm, kp, hb⟩ := hF.ex
  refine of_pe (fun X fx => pe_callF fx G hl hg hm kp hb (pa_cons (pe_var (i := i) (by rw [fx.N]; exact hN) (by rw [fx.sc]; exact hv) hd hcd) (paA fx) (hss X.env)) hdb hss hpl) fun σ H Q en jj q => ?_
  refine ⟨_, en.raw hr, ?_⟩
  refine h σ H _ en jj fun vs ds k1 H1 l1 j1 r1 ⟨hp, k2, e, hf⟩ => ?_
  subst e
  refine ⟨F.S, s, a, r, vs, ds, k2, rfl, dk.G ▸ j1.g, j1.al, fun b hb => F.ms b (dk.M ▸ hb), hK ▸ r1, hp, fun v d H' keep g rv hR => ?_⟩
  have le : Le F H1 H' := fun b o n e => keep b o (fun z => n (.inl (by rw [dk.M]; exact z))) e
  refine q v d k2 H' (l1.trans le) ⟨by rw [dk.G]; exact g, fun b o n e => le b o n (j1.le b o n e), fun b hb => ?_⟩ (by show Rep F.K F.S H' v d; rw [hK]; exact rv) (hf d hR)
  by_cases hM : DkM s a r b
  · exact g.lv b hM
  · exact (j1.al b hb).keep fun o e => keep b o hM e
end
end Dl

namespace Dl
open PySem PySem.Spec PyProof.Rows L2
/-! ### data whose repr is within the line -/
structure Fine (n dp : Nat) (d : PyData) : Prop where
  sh : d.showable = true
  nd : d.hasDict = false
  dp : d.depth ≤ dp
  sz : d.shown.length ≤ n
theorem Fine.ok {n dp : Nat} {d : PyData} (h : Fine n dp d) (hn : n ≤ 16000000 := by decide) (hd : dp ≤ 60 := by decide) : d.showable = true ∧ d.hasDict = false ∧ d.depth ≤ 60 ∧ d.shown.length ≤ sizeLine :=
  ⟨h.sh, h.nd, Nat.le_trans h.dp hd, Nat.le_trans h.sz (Nat.le_trans hn (by decide))⟩
theorem Fine.mono {n n' dp dp' : Nat} {d : PyData} (h : Fine n dp d) (hn : n ≤ n') (hd : dp ≤ dp') : Fine n' dp' d := ⟨h.sh, h.nd, Nat.le_trans h.dp hd, Nat.le_trans h.sz hn⟩
theorem fine_int {i : Int} (h : i.natAbs < 10 ^ 30) : Fine 31 0 (.int i) := by
  refine ⟨?_, by simp only [PyData.hasDict], by simp only [PyData.depth]; exact Nat.le_refl _, ?_⟩
  · simp only [PyData.showable, decide_eq_true_eq]
    by_cases h0 : i.natAbs = 0
    · rw [h0]; decide
    · exact (Nat.log2_lt h0).mpr (Nat.lt_trans h (by decide +kernel))
  · simp only [PyData.shown]
    rw [PySem.ofString_length]
    exact int_text_length_le10 (by decide) h
theorem fine_none : Fine 4 0 .none := ⟨by simp only [PyData.showable], by simp only [PyData.hasDict], by simp only [PyData.depth]; exact Nat.le_refl _, by simp only [PyData.shown]; decide +kernel⟩
theorem fine_bool (b : Bool) : Fine 5 0 (.bool b) := ⟨by simp only [PyData.showable], by simp only [PyData.hasDict], by simp only [PyData.depth]; exact Nat.le_refl _, by cases b <;> simp only [PyData.shown] <;> decide +kernel⟩
section
variable {n dp : Nat}
theorem fine_all : ∀ {ds : List PyData}, (∀ d ∈ ds, Fine n dp d) → PyData.showableAll ds = true ∧ PyData.hasDictAll ds = false ∧ PyData.depthAll ds ≤ dp ∧ ((PyData.shownAll ds).map (·.length)).sum ≤ ds.length * n ∧ (PyData.shownAll ds).length = ds.length
  | [], _ => by simp [PyData.showableAll, PyData.hasDictAll, PyData.depthAll, PyData.shownAll]
  | d :: ds, h => by
    obtain ⟨h1, h2, h3, h4, h5⟩ := fine_all (ds := ds) fun d hd => h d (List.mem_cons_of_mem _ hd)
    have f := h d List.mem_cons_self
    have := f.dp
    have := f.sz
    refine ⟨by simp only [PyData.showableAll, f.sh, h1, Bool.and_self], by simp only [PyData.hasDictAll, f.nd, h2, Bool.or_self], by simp only [PyData.depthAll]; omega, ?_, by simp only [PyData.shownAll, List.length_cons, h5]⟩
    simp only [PyData.shownAll, List.map_cons, List.sum_cons, List.length_cons, Nat.succ_mul]
    omega
theorem fine_tuple {ds : List PyData} {L : Nat} (h : ∀ d ∈ ds, Fine n dp d) (hl : ds.length ≤ L) : Fine (L * (n + 2) + 3) (dp + 1) (.tuple ds) := by
  obtain ⟨h1, h2, h3, h4, h5⟩ := fine_all h
  refine ⟨by simp only [PyData.showable, h1], by simp only [PyData.hasDict, h2], by simp only [PyData.depth]; omega, ?_⟩
  simp only [PyData.shown]
  refine Nat.le_trans (tupleText_len_le _) ?_
  rw [h5, Nat.mul_add]
  have : ds.length * n ≤ L * n := Nat.mul_le_mul_right n hl
  omega
theorem fine_list {ds : List PyData} {L : Nat} (h : ∀ d ∈ ds, Fine n dp d) (hl : ds.length ≤ L) : Fine (L * (n + 2) + 3) (dp + 1) (.list ds) := by
  obtain ⟨h1, h2, h3, h4, h5⟩ := fine_all h
  refine ⟨by simp only [PyData.showable, h1], by simp only [PyData.hasDict, h2], by simp only [PyData.depth]; omega, ?_⟩
  simp only [PyData.shown]
  refine Nat.le_trans (listText_len_le _) ?_
  rw [h5, Nat.mul_add]
  have : ds.length * n ≤ L * n := Nat.mul_le_mul_right n hl
  omega
end
theorem fine_ints {ns : List Int} {L : Nat} (h : ∀ i ∈ ns, i.natAbs < 10 ^ 30) (hl : ns.length ≤ L) : Fine (L * 33 + 3) 1 (.tuple (ns.map PyData.int)) :=
  fine_tuple (n := 31) (dp := 0) (fun d hd => by obtain ⟨i, hi, rfl⟩ := List.mem_map.mp hd; exact fine_int (h i hi)) (by rw [List.length_map]; exact hl)
theorem fine_intsL {ns : List Int} {L : Nat} (h : ∀ i ∈ ns, i.natAbs < 10 ^ 30) (hl : ns.length ≤ L) : Fine (L * 33 + 3) 1 (.list (ns.map PyData.int)) :=
  fine_list (n := 31) (dp := 0) (fun d hd => by obtain ⟨i, hi, rfl⟩ := List.mem_map.mp hd; exact fine_int (h i hi)) (by rw [List.length_map]; exact hl)
/-! ### the law's own end, where its first statement makes the draws -/
def spDraws (K : PySem.W.Frag) : Sp := fun vs H Q _ => ∃ (sc : Addr) (ns : List Int), vs = [.ref sc] ∧ SqL K H sc (ns.map V.int) ∧ ns.length ≤ 63 ∧
  ∀ H' st a r, Same H H' → H st = none → H a = none → H r = none → DkG st a r 900000 H' → Q (.ref st) H'
def spLaw (K : PySem.W.Frag) : Sp := fun vs H Q _ => ∃ (sc : Addr) (ns : List Int), vs = [.ref sc] ∧ SqL K H sc (ns.map V.int) ∧ ns.length ≤ 63 ∧ ∀ H', Q (.bl true) H'
section
variable {P : Program} {w : World} {K : PySem.W.Frag} {mg : Str → Option Value} {base : Heap}
theorem lawB_ok {qual : Str} {st : Stmt} {f : Addr} {fd : FuncData} {N : List Str} {k j : Nat} {xs xd xt : Str} {p1 p2 p3 p4 p5 : Pos} {rest : List Stmt} (Fn : Fun K "law" qual st f fd) (Sc : FnScope N [xs] (defScope st)) (hbody : defBody st = .Assign [.Name xt p1] (.Call (.Name xd p2) [.Name xs p3] [] p4) p5 :: rest)
    (gd : ∃ (fa : Addr) (fdd : FuncData), FnG P w K mg base j fa fdd [xs] (spDraws K) ∧ mg xd = some (.ref fa) ∧ PySem.W.keepIn K (.ref fa) = true ∧ L2.Binds K fdd [xs] []) (hj : j ≤ k)
    (h0 : N[0]? = some xs) (h1 : N[1]? = some xt) (vs : Vis (defScope st) xs) (lt : Loc (defScope st) xt) (gl : (defScope st).names.lookup xd = some .globalImplicit)
    (hsw : ∀ env : Env, swapsWith (.Call (.Name xd p2) [.Name xs p3] [] p4) (some (.Name xt p1)) p5.line env = pure false)
    (body : ∀ (F : Fm) (s a r : Addr), IsDk F s a r → F.K = K → WPB F (bodyCs P w K mg base N (defScope st) k) rest (.un :: .raw (.ref s) :: List.replicate (N.length - 2) SV.un) 900000 { nx := fun _ _ => False, rt := fun _ d => d = .bool true, bk := fun _ _ => False, ct := fun _ _ => False })
    (hdb : (xd == ("__debug__" : Str)) = false := by decide) (hdb2 : (xs == ("__debug__" : Str)) = false := by decide) (hcd : (xs == ("__classdict__" : Str)) = false := by decide) : FnG P w K mg base (k + 1) f fd [xs] (spLaw K) := by
  obtain ⟨fa, fdd, G, hm, kp, hb⟩ := gd
  refine FnG.of_body Fn Sc (fun vs H Q E h => ?_) (fun cdv A outer s H vs Q hgd hr h => ?_)
  · obtain ⟨sc, ns, rfl, _⟩ := h
    rfl
  obtain ⟨sc, ns, rfl, hS, hlen, q⟩ := h
  have fx := fits_body (CX := CX0) (P := P) (w := w) (K := K) (mg := mg) (base := base) (N := N) (outer := outer) (s := s) (H := H) (E := E0) hgd hr
  rw [hbody]
  have hN0 : 2 ≤ N.length := by
    have := (List.getElem?_eq_some_iff.mp h1).1
    omega
  refine ⟨_, pss_cons (ps_set (i := 1) Sc.nd h1 lt (FnG.pe G hgd (hr.mono hj) hb gl hm kp (pa_cons (pe_var (i := 0) h0 vs hdb2 hcd) pa_nil) hdb rfl rfl) (hsw _) (.inl rfl)) (pbB fx), ?_⟩
  have est : L2.start N [.ref sc] = some (.ref sc) :: none :: List.replicate (N.length - 2) none := by
    unfold L2.start
    show some (V.ref sc) :: List.replicate (N.length - 1) none = _
    rw [show N.length - 1 = (N.length - 2) + 1 by omega]; rfl
  rw [est]
  refine ⟨.ref sc, rfl, sc, ns, rfl, hS, hlen, fun H' st a r sm hst ha hr' g => ?_⟩
  refine body (drawFm K (DkM st a r) H' st a r (fun b hb => hb)) st a r ⟨rfl, rfl⟩ rfl (some (.ref sc) :: some (.ref st) :: List.replicate (N.length - 2) none) H' _ (fun i sv e => ?_) ⟨g, fun b o _ e => e, fun b hb => g.lv b hb⟩ ?_ ?_ ?_ ?_
  · match i, e with
    | 0, e => cases e; exact ⟨_, rfl, trivial⟩
    | 1, e => cases e; exact ⟨_, rfl, rfl⟩
    | i + 2, e =>
      have e' : (List.replicate (N.length - 2) SV.un)[i]? = some sv := e
      rw [List.getElem?_replicate] at e'
      by_cases hi : i < N.length - 2
      · rw [if_pos hi] at e'
        cases e'
        exact ⟨none, by show (List.replicate (N.length - 2) none)[i]? = _; rw [List.getElem?_replicate, if_pos hi], trivial⟩
      · rw [if_neg hi] at e'; cases e'
  · exact fun _ _ _ _ _ _ _ z => z.elim
  · exact fun v d k' H2 _ rv e => by subst e; cases rv; exact q H2
  · exact fun _ _ _ _ _ _ _ z => z.elim
  · exact fun _ _ _ _ _ _ _ z => z.elim
end
end Dl

namespace Dl
open PySem PySem.Spec PyProof.Rows L2
/-! ### a list of the def's own, that grows -/
def plainB : SV → Bool
  | .own _ _ => false
  | _ => true
theorem noOwn_of {ρ : Rho} {i : Nat} (h : (ρ.set i .un).all plainB = true) (j : Nat) (o : Addr) (xs : List PyData) (hj : j ≠ i) (e : ρ[j]? = some (.own o xs)) : False := by
  have e' : (ρ.set i .un)[j]? = some (.own o xs) := by rw [List.getElem?_set_ne (Ne.symm hj)]; exact e
  have := List.all_eq_true.mp h _ (List.mem_of_getElem? e')
  cases this
section
variable {F : Fm} {C : Cs} {ρ : Rho} {k : Nat} {P : DE} {Φ : Nat → PyData → Prop} {pos p px p2 ap cp : Pos} {x : Str} {rest : List Stmt} {e : Expr}
theorem wb_own (i : Nat) (t : Tgt C i x) (hi : i < ρ.length) (hs : ∀ env : Env, env.scope = C.sc → swapsWith (.List [] p2) (some (.Name x px)) pos.line env = pure false)
    (h : ∀ o, WPB (F.ext o) C rest (ρ.set i (.own o [])) k { nx := fun _ _ => False, rt := P.rt, bk := fun _ _ => False, ct := fun _ _ => False }) : WPB F C (.Assign [.Name x px] (.List [] p2) pos :: rest) ρ k P :=
  of_pb (fun X fx => pss_cons (ps_set (by rw [fx.N]; exact t.hN) (by rw [fx.N]; exact t.hi) (by rw [fx.sc]; exact t.hx) (pe_lst pa_nil) (hs X.env fx.sc) (by rw [fx.fn, fx.sc]; exact t.hf)) (pbB fx)) fun σ H E en j q1 q2 q3 q4 => by
    refine ⟨Nat.zero_le _, fun o no => ?_⟩
    have hM : ¬ F.M o := fun z => F.gl _ _ j.g o z no
    have h0 : F.H0 o = none := j.h0 hM no
    have en2 : EnvOk (F.ext o) (upd H o (.lst [])) (σ.set i (some (.ref o))) (ρ.set i (.own o [])) :=
      (en.ext no).set (sv := .own o []) ⟨rfl, .inr rfl, hM, h0, [], upd_same, .nil⟩
    refine h o (σ.set i (some (.ref o))) (upd H o (.lst [])) E en2 ((j.new no).ext (lv_new fun _ z => nomatch z)) ?_ ?_ ?_ ?_
    · exact fun _ _ _ _ _ _ _ z => z.elim
    · exact fun v d k' H' j' r' p => q2 v d k' H' j'.unext r'.unext p
    · exact fun _ _ _ _ _ _ _ z => z.elim
    · exact fun _ _ _ _ _ _ _ z => z.elim
theorem EnvOk.own {H : Hp} {σ : L2.St} {i : Nat} {o : Addr} {xs : List PyData} (en : EnvOk F H σ ρ) (e : ρ[i]? = some (.own o xs)) : σ[i]? = some (some (.ref o)) ∧ F.S o ∧ ¬ F.M o ∧ F.H0 o = none ∧ ∃ vs, H o = some (.lst vs) ∧ RpAll F H vs xs := by
  obtain ⟨y, q, h1, h2⟩ := en i _ e
  exact ⟨by rw [q, h1], h2⟩
/-- the own list becomes another one -/
theorem EnvOk.ownSet {H : Hp} {σ : L2.St} {i : Nat} {o : Addr} {xs ys : List PyData} {ws : List V} (en : EnvOk F H σ ρ) (e : ρ[i]? = some (.own o xs)) (hno : (ρ.set i .un).all plainB = true) (r : RpAll F H ws ys) : EnvOk F (upd H o (.lst ws)) σ (ρ.set i (.own o ys)) := by
  obtain ⟨hσ, hS, hM, h0, vs, hv, rv⟩ := en.own e
  have lz : ∀ b u, ¬ F.S b → H b = some u → (upd H o (.lst ws)) b = some u := fun b u hb z => by rw [upd_ne (show b ≠ o from fun y => hb (y ▸ hS))]; exact z
  intro j sv ej
  by_cases hj : i = j
  · subst hj
    have hl : i < ρ.length := (List.getElem?_eq_some_iff.mp e).1
    rw [List.getElem?_set_self hl] at ej
    cases ej
    exact ⟨_, hσ, rfl, hS, hM, h0, ws, upd_same, RepAll.keep lz (fun _ _ z => z) _ _ r⟩
  · rw [List.getElem?_set_ne hj] at ej
    obtain ⟨y, q, s⟩ := en j sv ej
    refine ⟨y, q, ?_⟩
    cases sv with
    | un => trivial
    | d d => obtain ⟨v, z, r⟩ := s; exact ⟨v, z, Rep.keep lz (fun _ _ z => z) _ _ r⟩
    | raw v => exact s
    | own o' xs' => exact (noOwn_of hno j o' xs' (Ne.symm hj) ej).elim
theorem ws_append (i : Nat) {o : Addr} {xs : List PyData} (hN : C.N[i]? = some x) (hv : Vis C.sc x) (hr : ρ[i]? = some (.own o xs)) (hno : (ρ.set i .un).all plainB = true) (hz : xs.length ≤ 1000000)
    (hse : ∀ env : Env, starEach [e] env = (false, eval e env) :: starEach [] env) (h : WPE F C e ρ k fun k1 d => P.nx k1 (ρ.set i (.own o (xs ++ [d]))))
    (hsw : ∀ env : Env, swapsWith (.Call (.Attribute (.Name x px) "append" ap) [e] [] cp) none pos.line env = pure false) (hd : (x == ("__debug__" : Str)) = false := by decide) (hcd : (x == ("__classdict__" : Str)) = false := by decide)
    (hbm : ∀ X : Cx, ∀ {to : TE} {t : TA}, PE X (.Name x px) to → PA X [e] t → PE X (.Call (.Attribute (.Name x px) "append" ap) [e] [] cp) (tBM X.K "list" rAppend to t) := by exact fun X {to t} h1 h2 => pe_bm PySem.F.plainAttrs_list PySem.F.slot_list_append PySem.F.type_list_append mt_append h1 h2) :
    WPS F C (.Expr (.Call (.Attribute (.Name x px) "append" ap) [e] [] cp) pos) ρ k P :=
  of_ps (t := tDrop (tBM C.K "list" rAppend (tVar i) (tCons (tE C e) tNil))) (fun X fx => ps_expr (by rw [← fx.K]; exact hbm X (pe_var (by rw [fx.N]; exact hN) (by rw [fx.sc]; exact hv) hd hcd) (pa_cons (peE fx) pa_nil (hse X.env))) (hsw X.env)) fun σ H E en j q1 q2 q3 q4 => by
    obtain ⟨hσ, hS, hM, h0, vs, hv', rv⟩ := en.own hr
    refine ⟨_, hσ, .inl ⟨rfl, _, SqL.of hv'⟩, ?_⟩
    show tE C e σ H _
    refine h σ H _ en j fun v d k1 H1 l1 j1 r1 p => ?_
    have hv1 : H1 o = some (.lst vs) := l1 o _ (Fm.mxA hM) hv'
    refine ⟨o, vs, v, rfl, rfl, hv1, ?_, ?_⟩
    · rw [rv.length]; exact Nat.lt_of_le_of_lt hz (by decide)
    · refine q1 _ σ k1 _ ?_ ((en.le l1).ownSet hr hno ((rv.le l1.lz).append (.cons r1 .nil))) (j1.own hM h0 (pl_lst (l1 o _ (Fm.mxA hM) hv'))) p
      exact fun b u hb z => by rw [upd_ne (show b ≠ o from fun y => hb (.inl (y ▸ hS)))]; exact l1.lz b u hb z
/-- tuple(x), x the own list -/
theorem we_tupOwn (i : Nat) {o : Addr} {xs : List PyData} (hK : F.K = C.K) (hN : C.N[i]? = some x) (hv : Vis C.sc x) (hr : ρ[i]? = some (.own o xs)) (hg : C.sc.names.lookup ("tuple" : Str) = some .globalImplicit) (hm : C.mg ("tuple" : Str) = none)
    (h : Φ k (.tuple xs)) (hd : (x == ("__debug__" : Str)) = false := by decide) (hcd : (x == ("__classdict__" : Str)) = false := by decide) (hse : ∀ env : Env, starEach [.Name x px] env = (false, eval (.Name x px) env) :: starEach [] env := by intro _; rfl) : WPE F C (.Call (.Name "tuple" p) [.Name x px] [] pos) ρ k Φ :=
  of_pe (fun X fx => pe_callTy (tupK fx) (by show X.env.scope.names.lookup ("tuple" : Str) = _; rw [fx.sc]; exact hg) (by rw [fx.mg]; exact hm) (by decide +kernel) (pa_cons (pe_var (i := i) (by rw [fx.N]; exact hN) (by rw [fx.sc]; exact hv) hd hcd) pa_nil (hse X.env)) (by decide) (by decide) (hse X.env) rfl) fun σ H Q en j q => by
    obtain ⟨hσ, hS, hM, h0, vs, hv', rv⟩ := en.own hr
    refine ⟨_, hσ, o, vs, rfl, .inl ⟨SqL.of hv', fun l ob hl hd => ?_⟩⟩
    exact q _ (.tuple xs) k _ (.new hl) (j.new hl) (rep_newT j hl hd rv) h
/-- eqv with an empty list or tuple -/
theorem eqv_nilL (ds : List PyData) : PyData.eqv (.list ds) (.list []) = ds.isEmpty := by cases ds <;> simp [PyData.eqv, PyData.eqvAll]
theorem eqv_nilT (ds : List PyData) : PyData.eqv (.tuple ds) (.tuple []) = ds.isEmpty := by cases ds <;> simp [PyData.eqv, PyData.eqvAll]
theorem lay_ints : ∀ ns : List Int, PyData.canLayAll0 (ns.map PyData.int) = true ∧ PyData.depthAll (ns.map PyData.int) = 0
  | [] => ⟨by simp [PyData.canLayAll0], by simp [PyData.depthAll]⟩
  | n :: ns => by
    obtain ⟨h1, h2⟩ := lay_ints ns
    exact ⟨by simp [PyData.canLayAll0, PyData.canLay0, h1], by simp [PyData.depthAll, PyData.depth, h2]⟩
theorem shaped_intsL (ns : List Int) : SeqAt.shaped (.list (ns.map PyData.int)) = true := by
  obtain ⟨h1, h2⟩ := lay_ints ns
  simp [SeqAt.shaped, PyData.canLay0, PyData.depth, h1, h2]
theorem shaped_intsT (ns : List Int) : SeqAt.shaped (.tuple (ns.map PyData.int)) = true := by
  obtain ⟨h1, h2⟩ := lay_ints ns
  simp [SeqAt.shaped, PyData.canLay0, PyData.depth, h1, h2]
end
end Dl

namespace Dl
open PySem PySem.Spec PyProof.Rows L2
section
variable {F : Fm} {C : Cs} {ρ : Rho} {k : Nat} {P : DE} {Φ : Nat → PyData → Prop} {Ψ : Nat → Bool → Prop} {pos p p1 p2 p3 p4 pr pr2 : Pos} {x : Str} {rest : List Stmt} {e a b : Expr}
theorem rgV_rg (z : Int) : rgV 0 z = (rg z).map V.int := by
  unfold rgV rg
  rw [List.map_map, Int.sub_zero]
  apply List.map_congr_left
  intro i _
  show V.int (0 + (i : Int)) = V.int (i : Int)
  rw [Int.zero_add]
/-- list(range(z)), tuple(range(z)) -/
theorem we_listRg (hg : C.sc.names.lookup ("list" : Str) = some .globalImplicit) (hm : C.mg ("list" : Str) = none) (hg2 : C.sc.names.lookup ("range" : Str) = some .globalImplicit) (hm2 : C.mg ("range" : Str) = none)
    (hs : ∀ env : Env, starEach [a] env = (false, eval a env) :: starEach [] env) (hs2 : ∀ env : Env, starEach [.Call (.Name "range" pr) [a] [] pr2] env = (false, eval (.Call (.Name "range" pr) [a] [] pr2) env) :: starEach [] env)
    (h : WPE F C a ρ k fun k1 d => ∃ z : Int, d = .int z ∧ (0 ≤ z ∧ z ≤ 16777216) ∧ Φ k1 (.list ((rg z).map PyData.int))) : WPE F C (.Call (.Name "list" p) [.Call (.Name "range" pr) [a] [] pr2] [] pos) ρ k Φ :=
  of_pe (fun X fx => pe_listRg fx.calm (by show X.env.scope.names.lookup ("list" : Str) = _; rw [fx.sc]; exact hg) (by rw [fx.mg]; exact hm) (prg_1 (by show X.env.scope.names.lookup ("range" : Str) = _; rw [fx.sc]; exact hg2) (by rw [fx.mg]; exact hm2) (peE fx) (hs X.env)) (hs2 X.env)) fun σ H Q en j q => by
    show tE C a σ H _
    refine h σ H _ en j fun v d k1 H1 l1 j1 r ⟨z, e, hz, p⟩ => ?_
    subst e
    cases r
    refine ⟨z, rfl, RgOk.of_le (by decide) hz.2 (by decide) hz.1, fun l hl => ?_⟩
    rw [rgV_rg]
    exact q _ _ k1 _ (l1.trans (.new hl)) (j1.new hl) (rep_newL j1 hl (RepAll.of_ints _)) p
/-- a, b = a tuple, the scope known -/
theorem ws_asg2s (i1 i2 : Nat) {x1 x2 : Str} {kk : Nat} (hne : i1 ≠ i2) (t1 : Tgt C i1 x1) (t2 : Tgt C i2 x2) (hK : F.K = C.K)
    (hs : ∀ env : Env, env.scope = C.sc → swapsWithSole [.Tuple [.Name x1 p1, .Name x2 p2] kk p3] e pos.line env = pure false) (hw : ∀ env : Env, env.scope = C.sc → swappedStores [.Tuple [.Name x1 p1, .Name x2 p2] kk p3] e env = pure none)
    (h : WPE F C e ρ k fun k1 d => ∃ d1 d2, d = .tuple [d1, d2] ∧ P.nx k1 ((ρ.set i1 (.d d1)).set i2 (.d d2))) : WPS F C (.Assign [.Tuple [.Name x1 p1, .Name x2 p2] kk p3] e pos) ρ k P :=
  of_ps (fun X fx => ps_asg (peE fx) (pgTup (n := 2) fx (pgs_cons (t1.pg fx) (pgs_cons (t2.pg fx) pgs_nil)) (by rfl) (by rfl)) (hs X.env fx.sc) (hw X.env fx.sc)) fun σ H E en j q1 _ _ _ =>
    h σ H _ en j fun v d k1 H1 l1 j1 r ⟨d1, d2, e, p⟩ => by
      subst e
      cases r with
      | tup ha hr =>
        cases hr with
        | cons r1 hr =>
          cases hr with
          | cons r2 hr =>
            cases hr
            exact ⟨_, _, rfl, hK ▸ sqt_of ha, rfl, _, _, rfl, _, _, rfl, rfl, q1 _ _ k1 H1 l1.lz (((en.le l1).set (sv := .d d1) ⟨_, rfl, r1⟩).set (sv := .d d2) ⟨_, rfl, r2⟩) j1 p⟩
/-- a part of the state's slots is forgotten -/
def Forget : Rho → Rho → Prop
  | [], [] => True
  | x :: xs, y :: ys => (y = .un ∨ y = x) ∧ Forget xs ys
  | _, _ => False
theorem Forget.env : ∀ {H : Hp} {σ : L2.St} {ρ ρ' : Rho}, EnvOk F H σ ρ → Forget ρ ρ' → EnvOk F H σ ρ' := by
  intro H σ ρ ρ' en fo i sv e
  have key : ∀ (ρ ρ' : Rho), Forget ρ ρ' → ∀ (i : Nat) sv, ρ'[i]? = some sv → ∃ sv', ρ[i]? = some sv' ∧ (sv = .un ∨ sv = sv') := by
    intro ρ
    induction ρ with
    | nil => intro ρ' f i sv e; cases ρ' with
      | nil => simp at e
      | cons y ys => cases f
    | cons x xs ih => intro ρ' f i sv e; cases ρ' with
      | nil => cases f
      | cons y ys =>
        cases i with
        | zero => cases e; exact ⟨x, rfl, f.1⟩
        | succ i => exact ih ys f.2 i sv e
  obtain ⟨sv', e', h⟩ := key ρ ρ' fo i sv e
  obtain ⟨x, q, s⟩ := en i sv' e'
  rcases h with rfl | rfl
  · exact ⟨x, q, trivial⟩
  · exact ⟨x, q, s⟩
theorem wb_forget {ρ' : Rho} (f : Forget ρ ρ') (h : WPB F C rest ρ' k P) : WPB F C rest ρ k P := fun σ H E en j q1 q2 q3 q4 => h σ H E (f.env en) j q1 q2 q3 q4
end
end Dl
namespace Dl
open PySem PySem.Spec PyProof.Rows L2
section
variable {F : Fm} {C : Cs} {ρ : Rho} {k : Nat} {P : DE} {st : Stmt} {rest : List Stmt}
/-- a statement, what holds behind it, the rest -/
theorem wb_mid (R : Nat → Rho → Prop) (h1 : WPS F C st ρ k (P.seq R)) (h2 : ∀ k ρ, R k ρ → WPB F C rest ρ k P) : WPB F C (st :: rest) ρ k P :=
  wb_cons (h1.imp h2 (fun _ _ z => z) (fun _ _ z => z) (fun _ _ z => z))
end
end Dl
namespace Dl
open PySem PySem.Spec PyProof.Rows L2
section
variable {F : Fm} {C : Cs} {ρ : Rho} {k : Nat} {Φ : Nat → PyData → Prop} {pos p2 : Pos} {a b e : Expr}
/-- xs + ys, lists -/
theorem we_cat (h : WPE F C a ρ k fun k1 x => WPE F C b ρ k1 fun k2 y => ∃ ds es, x = .list ds ∧ y = .list es ∧ ds.length + es.length ≤ 1000000 ∧ Φ k2 (.list (ds ++ es))) : WPE F C (.BinOp a .Add b pos) ρ k Φ :=
  we_bin (fun X _ => op_cat) (h.imp fun k1 x h1 => h1.imp fun k2 y ⟨ds, es, e1, e2, hz, p⟩ => by
    subst e1 e2
    intro H vx vy Q j rx ry q
    cases rx with
    | @lst a xs _ ha hr =>
    cases ry with
    | @lst b ys _ hb hs =>
    refine ⟨a, b, xs, ys, rfl, rfl, ha.1, hb.1, ?_, fun l hl => q _ _ k2 _ (.new hl) (j.new hl) (rep_newL j hl (hr.append hs)) p⟩
    rw [hr.length, hs.length]; exact Nat.le_trans hz (by decide))
theorem slLK {X : Cx} (fx : Fits C X) : SlR X (rSlL C.K) := by rw [← fx.K]; exact sl_list
/-- xs[:m], a list -/
theorem we_sliceTo (hK : F.K = C.K) {m : Nat} {jj : Nat} {p3 : Pos} (h : WPE F C a ρ k fun k1 x => ∃ ds, x = .list ds ∧ Φ k1 (.list (ds.take m))) : WPE F C (.Subscript a (.Slice none (some (.Constant (.int (m : Int)) jj p3)) none p2) pos) ρ k Φ :=
  of_pe (fun X fx => pe_slice (slLK fx) (peE fx) po_none (po_some pe_int)) fun σ H Q en j q => by
    show tE C a σ H _
    refine h σ H _ en j fun v d k1 H1 l1 j1 r ⟨ds, e, p⟩ => ?_
    subst e
    cases r with
    | @lst a xs _ ha hr =>
    refine ⟨(m : Int), rfl, a, xs, rfl, hK ▸ sql_of ha, fun l hl => ?_⟩
    have ec : cutV xs none (some (m : Int)) = xs.take m := by
      unfold cutV
      rw [HT.sIx_nat, HT.sIx_none, List.drop_zero, Nat.sub_zero, List.take_eq_take_iff]
      omega
    rw [ec]
    exact q _ _ k1 _ (l1.trans (.new hl)) (j1.new hl) (rep_newL j1 hl (hr.take m)) p
end
end Dl
namespace Dl
open PySem PySem.Spec PyProof.Rows L2
section
variable {F : Fm} {C : Cs} {ρ : Rho} {k : Nat} {Φ : Nat → PyData → Prop} {pos p2 : Pos} {a b e : Expr}
theorem we_isB (h : WPE F C a ρ k fun k1 x => WPE F C b ρ k1 fun k2 y => ∃ c c', x = .bool c ∧ y = .bool c' ∧ Φ k2 (.bool (decide (c = c')))) : WPE F C (.Compare a [.Is] [b] pos) ρ k Φ :=
  we_cmp (fun X _ => op_isBl) (nomark _) (h.imp fun k1 x h1 => h1.imp fun k2 y ⟨c, c', e1, e2, p⟩ => by
    subst e1 e2
    intro H vx vy Q j rx ry q
    cases rx
    cases ry
    exact ⟨c, c', rfl, rfl, q _ _ k2 H .refl j (.bl _) p⟩)
end
end Dl

namespace Dl
open PySem PySem.Spec PyProof.Rows L2
/-! ### set(xs), xs a list of ints -/
abbrev nso (w : World) : Obj := ⟨.type "set", none, .set #[] 0 (.fresh 0 0 (!w.params.followText "set-order")), #[]⟩
abbrev GotSet (w : World) (s : Shared) (ns : List Int) (r : Value) (s2 : Shared) : Prop :=
  r = .none ∧ ∃ h' tk c, s2 = { s with heap := h', toks := tk } ∧ SetR w h' s.heap.objs.size (fun j => decide (j ∈ ns)) c ∧ c ≤ ns.length ∧ ∀ b o, s.heap.get? b = some o → h'.get? b = some o
section
variable {P : Program} {w : World} {A : Around} {E : Value → Shared → Prop} {s : Shared}
set_option maxHeartbeats 3200000 in
theorem set_of_list {l : Addr} {its : Array Value} (ns : List Int) {Q : Value → Shared → Prop} (calm : A.handled = none) (hl : s.heap.IsList l its) (hint : IntsAre its.toList ns) (few : ns.length + 1 < scanBound)
    (h : ∀ (h' : Heap) (tk c : Nat), SetR w h' s.heap.objs.size (fun j => decide (j ∈ ns)) c → c ≤ ns.length → (∀ b o, s.heap.get? b = some o → h'.get? b = some o) → Q (.ref s.heap.objs.size) { s with heap := h', toks := tk }) :
    wpAny (model P w) A (call (.type "set") [.ref l]) Q E s := by
  have size_eq : its.size = ns.length := by have z := IntsAre.length hint; rwa [Array.length_toList] at z
  obtain ⟨_, _, hmro⟩ := F.called_set.mro
  have f1 := F.called_set.made; have f2 := F.called_set.sub; have f3 := F.called_set.notType
  have f4 := F.called_set.canCreate; have f5 := F.typeCall_set_1 (.ref l)
  apply wpAny_call; apply codeAny_of_tree
  show wpAny _ _ (callAny (.type "set") _) _ _ _
  apply wpAny_pure
  refine ⟨Code.quiet_builtin _ (by decide +kernel), ?_⟩
  apply codeAny_builtin F.entry_type_call
  rw [Around.under_plain (weight_type_call_type "set" [.ref l] []) rfl]
  repeat (any_goals (first | assumption | wp_step))
  apply codeAny_mono (code_set_led1 (.ref l) (E := E) (Q₁ := fun ob s1 => ob = .ref s.heap.objs.size ∧ s1 = { s with heap := s.heap.push (nso w) }) ⟨rfl, rfl⟩)
  intro r s1 hr
  match r, hr with
  | .error e, hr => exact hr
  | .ok .next, hr => exact hr.elim
  | .ok .brk, hr => exact hr.elim
  | .ok .cont, hr => exact hr.elim
  | .ok (.ret ob), hr =>
    obtain ⟨rfl, rfl⟩ := hr
    have there : (s.heap.push (nso w)).get? s.heap.objs.size = some (nso w) := Heap.get?_push_size _ rfl
    have isSet : Shared.TypeIs { s with heap := s.heap.push (nso w) } (.ref s.heap.objs.size) "set" := ⟨_, there, rfl⟩
    have g1 := F.called_set.init.lookup; have g2 := F.called_set.init.bind (.ref s.heap.objs.size)
    repeat (any_goals (first | assumption | wp_step))
    refine codeAny_mono (codeAny_call_builtin (R := wants (GotSet w s ns) E) F.called_set.init.plain F.entry_set_init (check_set_init_1 isSet ?_)) ?_
    · obtain ⟨ol, at_l, cls_l, cap, dat_l⟩ := hl
      obtain ⟨k1, k2, k3, k4⟩ := ol
      simp only at cls_l dat_l
      subst cls_l; subst dat_l
      have at_l2 : (s.heap.push (nso w)).get? l = some ⟨.type "list", k2, .seq its cap, k4⟩ := Heap.get?_push_of_some _ at_l
      have s1 := F.sub_list_set; have s2 := F.sub_list_frozenset
      have s3 : (Value.type "list" == Value.type "dict") = false := by decide
      have isl : (s.heap.push (nso w)).IsList l its := ⟨_, at_l2, rfl, cap, rfl⟩
      unfold Builtin.«set.__init__» noKeywords Builtin.Frozenset.updateFrom
      generalize hPI : pyIter = PI
      wp_walk
      subst hPI
      apply wpAny_pyIter_list isl
      apply wpAny_bind; apply wpAny_runValue
      have low : l < s.heap.objs.size := Heap.lt_size at_l
      have calm3 : A.in1.in1.in1.handled = none := by simp [calm]
      have apart : l ≠ (s.heap.push (nso w)).objs.size := by
        rw [Heap.size_push]; exact Nat.ne_of_lt (Nat.lt_succ_of_lt low)
      have off : s.heap.objs.size ∉ [(s.heap.push (nso w)).objs.size, l] := by
        rw [Heap.size_push]; simp only [List.mem_cons, List.not_mem_nil, or_false, not_or]
        exact ⟨Nat.ne_of_lt (Nat.lt_succ_self _), Nat.ne_of_gt low⟩
      have item : ∀ (i : Nat) (v : Value), its[i]? = some v → ∃ k t, ns[i]? = some k ∧ v = .int k t := by
        intro i v hv
        have hi : i < ns.length := size_eq ▸ (Array.getElem?_eq_some_iff.mp hv).1
        obtain ⟨t, z⟩ := IntsAre.int_at hint i v (by rw [Array.getElem?_toList]; exact hv)
        exact ⟨ns[i], t, List.getElem?_eq_getElem hi, by rw [z, List.getD_eq_getElem?_getD, List.getElem?_eq_getElem hi]; rfl⟩
      refine set_update_ints ((Walks.list calm3 _ l apart its).toS) s.heap.objs.size off ns size_eq few item (its.size - 0) 0 _ (by omega) (Nat.zero_le _) ⟨⟨_, Heap.get?_push_size _ rfl, rfl, rfl⟩, isl.push _⟩ ⟨0, Nat.le_refl 0, setR_new_at (Heap.get?_push_of_some _ there)⟩ ?_
      rintro ⟨h', g', d', tk', os'⟩ c' hm hc' hS'
      obtain rfl : g' = s.gens := hm.gens
      obtain rfl : d' = s.drawn := hm.drawn
      obtain rfl : os' = s.os := hm.os
      show wpAny _ _ _ _ _ _
      apply wpAny_pure
      show wpAny _ _ (ret Value.none) _ _ _
      apply wpAny_pure
      refine ⟨rfl, h', tk', c', rfl, hS', size_eq ▸ hc', fun b o z => ?_⟩
      have lowb : b < s.heap.objs.size := Heap.lt_size z
      refine hm.heap b o ?_ (Heap.get?_push_of_some _ (Heap.get?_push_of_some _ z))
      rw [Heap.size_push]; simp only [List.mem_cons, List.not_mem_nil, or_false, not_or]
      exact ⟨Nat.ne_of_lt lowb, Nat.ne_of_lt (Nat.lt_succ_of_lt lowb)⟩
    · intro r2 s2 hr2
      match r2, hr2 with
      | .error e, hr2 => exact hr2
      | .ok .next, hr2 => exact hr2.elim
      | .ok .brk, hr2 => exact hr2.elim
      | .ok .cont, hr2 => exact hr2.elim
      | .ok (.ret v), hr2 =>
        obtain ⟨rfl, h', tk, c', rfl, hS', hc', hk'⟩ := hr2
        repeat (any_goals (first | assumption | wp_step))
        exact h _ _ _ hS' hc' hk'
end
/-- .. over the layer -/
def rSetL (K : PySem.W.Frag) (w : World) : List V → Hp → VK → Prop := fun vs H Q => ∃ (a : Addr) (ns : List Int), vs = [.ref a] ∧ SqL K H a (ns.map V.int) ∧ ns.length ≤ 1000 ∧
  ∀ p c, H p = none → c ≤ ns.length → Q (.ref p) (upd H p (SetO w p (fun j => decide (j ∈ ns)) c))
theorem cr_setL {X : Cx} (hc : X.calm = true) : CallR X (.type "set") (rSetL X.K X.w) := by
  intro pins s σ H vs us Q I r h
  obtain ⟨a, ns, rfl, hS, hz, q⟩ := h
  rw [Vals.ref1 r]
  obtain ⟨its, rv, pl, _⟩ := I.list hS
  obtain ⟨o, n, ho, hcl, hdi, hda⟩ := pl
  refine set_of_list ns (I.ok.hd hc) ⟨o, ho, hcl, n, hda⟩ (by simpa using rv.ints) (Nat.lt_of_le_of_lt (Nat.succ_le_succ hz) (by decide)) fun h' tk c R hcn hk => ?_
  exact ⟨.ref _, _, I.laid (t' := tk) hk (Nat.le_refl _) (setO_new R), rfl, q _ c (I.hok.fresh (Nat.le_refl _)) hcn⟩
section
variable {F : Fm} {C : Cs} {ρ : Rho} {k : Nat} {Φ : Nat → PyData → Prop} {pos p1 p2 p3 : Pos} {e : Expr}
/-- sorted(set(xs)), fewer than 64 items -/
theorem we_sortSet (hK : F.K = C.K) (hg : C.sc.names.lookup ("sorted" : Str) = some .globalImplicit) (hm : C.mg ("sorted" : Str) = none) (hg2 : C.sc.names.lookup ("set" : Str) = some .globalImplicit) (hm2 : C.mg ("set" : Str) = none)
    (hs : ∀ env : Env, starEach [e] env = (false, eval e env) :: starEach [] env) (hs2 : ∀ env : Env, starEach [.Call (.Name "set" p2) [e] [] p3] env = (false, eval (.Call (.Name "set" p2) [e] [] p3) env) :: starEach [] env)
    (h : WPE F C e ρ k fun k1 x => ∃ ns : List Int, x = .list (ns.map PyData.int) ∧ ns.length < 64 ∧ ∀ ms : List Int, ms.Pairwise (· < ·) → (∀ i, i ∈ ms ↔ i ∈ ns) → Φ k1 (.list (ms.map PyData.int))) : WPE F C (.Call (.Name "sorted" p1) [.Call (.Name "set" p2) [e] [] p3] [] pos) ρ k Φ :=
  of_pe (t := tCB (rSortedSet C.w) (tCons (tCB (rSetL C.K C.w) (tCons (tE C e) tNil)) tNil)) (fun X fx => pe_callB (by rw [← fx.w]; exact cr_sortedSet fx.calm) (by show X.env.scope.names.lookup ("sorted" : Str) = _; rw [fx.sc]; exact hg) (by rw [fx.mg]; exact hm) (by decide +kernel)
      (pa_cons (pe_callTy (by rw [← fx.w, ← fx.K]; exact cr_setL fx.calm) (by show X.env.scope.names.lookup ("set" : Str) = _; rw [fx.sc]; exact hg2) (by rw [fx.mg]; exact hm2) (by decide +kernel) (pa_cons (peE fx) pa_nil (hs X.env)) (by decide) (by decide) (hs X.env) rfl) pa_nil (hs2 X.env)) (by decide) (by decide) (hs2 X.env) rfl) fun σ H Q en j q => by
    show tE C e σ H _
    refine h σ H _ en j fun v d k1 H1 l1 j1 r ⟨ns, ed, h64, p⟩ => ?_
    subst ed
    cases r with
    | @lst a xs _ ha hr =>
    refine ⟨a, ns, rfl, hr.ints ▸ hK ▸ sql_of ha, by omega, fun l c hl hc => ?_⟩
    refine ⟨l, _, c, rfl, upd_same, by omega, fun ms l2 hpw hmem _ hl2 => ?_⟩
    have j2 := j1.new (o := SetO C.w l (fun j => decide (j ∈ ns)) c) hl
    refine q _ _ k1 _ ((l1.trans (.new hl)).trans (.new hl2)) (j2.new hl2) (rep_newL j2 hl2 (RepAll.of_ints ms)) (p ms hpw fun i => ?_)
    rw [hmem i, decide_eq_true_eq]
end
end Dl

namespace Dl
open PySem PySem.Spec PyProof.Rows L2
/-! ### a comprehension of two clauses: over a tuple, then over a list made for each item -/
theorem wipe2 {i i1 : Nat} {x : V} (hne : i ≠ i1) (σ : L2.St) : (wipe σ [i, i1]).set i (some x) = (σ.set i1 none).set i (some x) := by
  show ((σ.set i1 none).set i none).set i (some x) = _
  rw [List.set_set]
theorem wipe2' {i i1 : Nat} {x : V} (hne : i ≠ i1) (σ : L2.St) : wipe ((σ.set i1 none).set i (some x)) [i, i1] = wipe σ [i, i1] := by
  show (((σ.set i1 none).set i (some x)).set i1 none).set i none = (σ.set i1 none).set i none
  rw [List.set_comm _ _ hne, List.set_set, List.set_set]
section
variable {F : Fm} {C : Cs} {ρ : Rho} {k : Nat} {Φ : Nat → PyData → Prop} {α β : Type} {Cb : Cs} {iter1 elt : Expr} {tl : TE} {K : PySem.W.Frag}
theorem we_lc2 (ei : α → PyData) (ej : β → PyData) (bs : α → List β) (g : α → β → PyData) (B : Nat) (i i1 : Nat) (hne : i ≠ i1) (hK : F.K = K)
    (h : WE F tl ρ k fun k1 d => ∃ as : List α, d = .tuple (as.map ei) ∧ as.length * B ≤ 1000000 ∧ (∀ a ∈ as, (bs a).length ≤ B) ∧
      (∀ D (a : α), a ∈ as → WPE (F.ext D) Cb iter1 ((ρ.set i1 .un).set i (.d (ei a))) k1 (fun k2 d2 => k2 = k1 ∧ d2 = .list ((bs a).map ej)) ∧
        ∀ b ∈ bs a, WPE (F.ext D) Cb elt (((ρ.set i1 .un).set i (.d (ei a))).set i1 (.d (ej b))) k1 fun k3 y => k3 = k1 ∧ y = g a b) ∧ Φ k1 (.list (as.flatMap fun a => (bs a).map (g a)))) :
    WE F (tLc2 (iTup K tl) (gName i) tYes (iList K (tE Cb iter1)) (gName i1) tYes (tE Cb elt) [i, i1] [i1]) ρ k Φ := fun σ H Q en j q => by
  show tl σ H _
  refine h σ H _ en j fun v d k1 H1 l1 j1 r hh => ?_
  obtain ⟨as, e, hz, hB, hin, hfin⟩ := hh
  subst e
  cases r with
  | @tup a xs _ ha hr =>
  refine ⟨a, rfl, ⟨xs, hK ▸ sqt_of ha⟩, fun D hD => ?_⟩
  have en1 := en.le l1
  have hM : ¬ F.M D := fun z => F.gl _ _ j1.g D z hD
  have hS : ¬ F.S D := j1.fresh hD
  have h0 : F.H0 D = none := j1.h0 hM hD
  have hno : ∀ (i : Nat) o xs, ρ[i]? = some (SV.own o xs) → o ≠ D := fun i o xs e => by
    obtain ⟨x, _, s⟩ := en1 i _ e
    obtain ⟨_, _, _, _, vs, h1, _⟩ := s
    exact ne_of_none h1 hD
  have rr : Rp (F.ext D) (upd H1 D (.lst [])) (.ref a) (.tuple (as.map ei)) := Rep.ext (.tup ha hr) hD
  cases rr with
  | @tup _ xs' _ ha' hr' =>
  have hlen : xs'.length = as.length := by rw [hr'.length, List.length_map]
  have bound : ∀ n, n ≤ as.length → ((as.take n).flatMap fun a => (bs a).map (g a)).length ≤ n * B := by
    intro n
    induction n with
    | zero => intro _; simp
    | succ n ih =>
      intro hn
      have hx : as[n]? = some as[n] := List.getElem?_eq_getElem (by omega)
      rw [take_next hx, List.flatMap_append, List.length_append, List.flatMap_singleton, List.length_map]
      have h1 := ih (by omega)
      have h2 := hB as[n] (List.getElem_mem _)
      rw [Nat.succ_mul]; omega
  refine ⟨fun n m H' => m = xs'.length - n ∧ n ≤ xs'.length ∧ ∃ vs, EnvOk (F.ext D) H' σ ρ ∧ J (F.ext D) k1 H' ∧ LeD (F.ext D) D (upd H1 D (.lst [])) H' ∧ H' D = some (.lst vs) ∧ RpAll (F.ext D) H' vs ((as.take n).flatMap fun a => (bs a).map (g a)),
    ⟨xs'.length, by simp, Nat.zero_le _, [], en1.ext hD, (j1.new hD).ext (lv_new fun _ z => nomatch z), .refl, upd_same, .nil⟩, ?_⟩
  rintro n m H' ⟨rfl, hn, vs, en', j', ld, hd, ra⟩
  have sq : SqT K H' a xs' := hK ▸ sqt_of (K := F.K) (H := H') (S := (F.ext D).S) ⟨ha'.1.lz ha'.2 (ld.lz (.inr rfl)), ha'.2⟩
  by_cases hlt : n < xs'.length
  · refine .inr ⟨⟨xs', xs'[n], sq, by simp [hlt]⟩, fun H2 => ∃ vs, EnvOk (F.ext D) H2 σ ρ ∧ J (F.ext D) k1 H2 ∧ LeD (F.ext D) D (upd H1 D (.lst [])) H2 ∧ H2 D = some (.lst vs) ∧ RpAll (F.ext D) H2 vs ((as.take (n + 1)).flatMap fun a => (bs a).map (g a)), fun H2 p => ⟨xs'.length - (n + 1), by omega, rfl, hlt, p⟩, fun x H2 y => ?_⟩
    obtain ⟨e, y⟩ := y
    subst e
    obtain ⟨y0, hy0, ry⟩ := hr'.got (y xs' sq)
    rw [List.getElem?_map] at hy0
    cases hc : as[n]? with
    | none => rw [hc] at hy0; cases hy0
    | some a0 =>
    rw [hc] at hy0
    cases hy0
    obtain ⟨hit, hel⟩ := hin D a0 (List.mem_of_getElem? hc)
    show (wipe ((wipe σ [i, i1]).set i (some x)) [i, i1] = wipe σ [i, i1] ∧ _)
    rw [wipe2 hne]
    refine ⟨wipe2' hne σ, ?_⟩
    dsimp only [tYes]
    rw [if_pos rfl]
    have en2 : EnvOk (F.ext D) H2 ((σ.set i1 none).set i (some x)) ((ρ.set i1 .un).set i (.d (ei a0))) := (en'.set (sv := .un) trivial).set (sv := .d (ei a0)) ⟨x, rfl, ry.le (ld.lz (.inr rfl))⟩
    show tE Cb iter1 _ H2 _
    refine hit _ H2 _ en2 j' fun v1 d1 k3 H3 l3 j3 r3 ⟨ek, ed⟩ => ?_
    subst ek ed
    cases r3 with
    | @lst a1 ys _ ha1 hr1 =>
    refine ⟨a1, rfl, ⟨ys, hK ▸ sql_of (K := F.K) ha1⟩, ?_⟩
    have hlen1 : ys.length = (bs a0).length := by rw [hr1.length, List.length_map]
    refine ⟨fun m mm H' => mm = ys.length - m ∧ m ≤ ys.length ∧ ∃ vs2, EnvOk (F.ext D) H' ((σ.set i1 none).set i (some x)) ((ρ.set i1 .un).set i (.d (ei a0))) ∧ J (F.ext D) k3 H' ∧ LeD (F.ext D) D H3 H' ∧ H' D = some (.lst vs2) ∧ RpAll (F.ext D) H' vs2 (((as.take n).flatMap fun a => (bs a).map (g a)) ++ ((bs a0).take m).map (g a0)),
      ⟨ys.length, by simp, Nat.zero_le _, vs, en2.le l3, j3, .refl, l3 D _ (Fm.mxA hM) hd, by rw [List.take_zero, List.map_nil, List.append_nil]; exact ra.le l3.lz⟩, ?_⟩
    rintro m mm H5 ⟨rfl, hm, vs2, en5, j5, ld5, hd5, ra5⟩
    have sq1 : SqL K H5 a1 ys := hK ▸ sql_of (K := F.K) (S := (F.ext D).S) ⟨ld5.lz (.inr rfl) _ _ (Fm.sxA ha1.2) ha1.1, ha1.2⟩
    by_cases hlt1 : m < ys.length
    · refine .inr ⟨⟨ys, ys[m], sq1, by simp [hlt1]⟩, fun H6 => ∃ vs2, EnvOk (F.ext D) H6 ((σ.set i1 none).set i (some x)) ((ρ.set i1 .un).set i (.d (ei a0))) ∧ J (F.ext D) k3 H6 ∧ LeD (F.ext D) D H3 H6 ∧ H6 D = some (.lst vs2) ∧ RpAll (F.ext D) H6 vs2 (((as.take n).flatMap fun a => (bs a).map (g a)) ++ ((bs a0).take (m + 1)).map (g a0)), fun H6 p => ⟨ys.length - (m + 1), by omega, rfl, hlt1, p⟩, fun z H6 y1 => ?_⟩
      obtain ⟨e1, y1⟩ := y1
      subst e1
      obtain ⟨z0, hz0, rz⟩ := hr1.got (y1 ys sq1)
      rw [List.getElem?_map] at hz0
      cases hc1 : (bs a0)[m]? with
      | none => rw [hc1] at hz0; cases hz0
      | some b0 =>
      rw [hc1] at hz0
      cases hz0
      show (wipe ((wipe ((σ.set i1 none).set i (some x)) [i1]).set i1 (some z)) [i1] = wipe ((σ.set i1 none).set i (some x)) [i1] ∧ _)
      rw [set_wipe]
      refine ⟨wipe_set _, ?_⟩
      dsimp only [tYes]
      rw [if_pos rfl]
      have en6 := en5.set (i := i1) (sv := .d (ej b0)) (x := some z) ⟨z, rfl, rz.le (ld5.lz (.inr rfl))⟩
      show tE Cb elt _ H6 _
      refine hel b0 (List.mem_of_getElem? hc1) _ H6 _ en6 j5 fun v6 d6 k6 H7 l7 j7 r7 ⟨ek6, ed6⟩ => ?_
      subst ek6 ed6
      have hd7 : H7 D = some (.lst vs2) := l7 D _ (Fm.mxA hM) hd5
      have lz7 : Lz (F.ext D) H7 (upd H7 D (.lst (vs2 ++ [v6]))) := fun b o nn e => by rw [upd_ne (show b ≠ D from fun z => nn (.inl (.inr z)))]; exact e
      have hN : n < as.length := (List.getElem?_eq_some_iff.mp hc).1
      refine ⟨vs2, hd7, ?_, vs2 ++ [v6], ?_, j7.own hM h0 (pl_lst hd7), ?_, upd_same, ?_⟩
      · rw [ra5.length, List.length_append, List.length_map]
        have h1 := bound n (by omega)
        have h2 := hB a0 (List.mem_of_getElem? hc)
        have h3 := List.length_take_le m (bs a0)
        have h4 : (n + 1) * B ≤ as.length * B := Nat.mul_le_mul_right B (by omega)
        rw [Nat.succ_mul] at h4
        have h5 : m < (bs a0).length := by omega
        have h6 : ((bs a0).take m).length = m := by rw [List.length_take]; omega
        exact Nat.lt_of_lt_of_le (show _ < 1000001 by omega) (by decide)
      · refine (en5.le l7).ld (D := D) (fun b o _ nb e => by rw [upd_ne nb]; exact e) (.inr rfl) (fun ii o xs e => ?_)
        have : ∃ (ii' : Nat) (xs' : List PyData), ρ[ii']? = some (SV.own o xs') := by
          by_cases hi : i = ii
          · subst hi
            by_cases hl : i < (ρ.set i1 .un).length
            · rw [List.getElem?_set_self hl] at e; cases e
            · rw [List.getElem?_eq_none (by simpa using hl)] at e; cases e
          · rw [List.getElem?_set_ne hi] at e
            by_cases hi1 : i1 = ii
            · subst hi1
              by_cases hl : i1 < ρ.length
              · rw [List.getElem?_set_self hl] at e; cases e
              · rw [List.getElem?_eq_none (by simpa using hl)] at e; cases e
            · rw [List.getElem?_set_ne hi1] at e
              exact ⟨_, _, e⟩
        obtain ⟨ii', xs2, e'⟩ := this
        exact hno _ _ _ e'
      · exact fun b o nn nb e => by rw [upd_ne nb]; exact l7 b o nn (ld5 b o nn nb e)
      · rw [take_next hc1, List.map_append, ← List.append_assoc]
        exact ((ra5.le l7.lz).le lz7).append (.cons (r7.le lz7) .nil)
    · have em : m = ys.length := by omega
      refine .inl ⟨⟨ys, sq1, by omega⟩, vs2, ?_, j5, ld.trans (l3.ld.trans ld5), hd5, ?_⟩
      · exact (en'.le l3).ld ld5 (.inr rfl) hno
      · rw [take_next hc, List.flatMap_append, List.flatMap_singleton]
        rw [em, hlen1, List.take_length] at ra5
        exact ra5
  · have en0 : n = xs'.length := by omega
    refine .inl ⟨⟨xs', sq, by omega⟩, ?_⟩
    rw [en0, hlen, List.take_length] at ra
    refine q (.ref D) _ k1 H' ?_ j'.unext (.lst ⟨hd, hS⟩ ra.unext) hfin
    exact fun b o n e => ld b o n (ne_of_none (l1 b o n e) hD) (by rw [upd_ne (ne_of_none (l1 b o n e) hD)]; exact l1 b o n e)
end
end Dl
namespace Dl
open PySem PySem.Spec PyProof.Rows L2
section
variable {F : Fm} {C : Cs} {ρ : Rho} {k : Nat} {P : DE} {Φ : Nat → PyData → Prop} {pos p px p2 ap cp : Pos} {x : Str} {e : Expr}
/-- x.extend(ys), x the own list -/
theorem ws_extend (i : Nat) {o : Addr} {xs : List PyData} (hN : C.N[i]? = some x) (hv : Vis C.sc x) (hr : ρ[i]? = some (.own o xs)) (hno : (ρ.set i .un).all plainB = true)
    (hse : ∀ env : Env, starEach [e] env = (false, eval e env) :: starEach [] env) (h : WPE F C e ρ k fun k1 d => ∃ ds, d = .list ds ∧ xs.length + ds.length ≤ 1000000 ∧ P.nx k1 (ρ.set i (.own o (xs ++ ds))))
    (hsw : ∀ env : Env, swapsWith (.Call (.Attribute (.Name x px) "extend" ap) [e] [] cp) none pos.line env = pure false) (hd : (x == ("__debug__" : Str)) = false := by decide) (hcd : (x == ("__classdict__" : Str)) = false := by decide)
    (hbm : ∀ X : Cx, ∀ {to : TE} {t : TA}, PE X (.Name x px) to → PA X [e] t → PE X (.Call (.Attribute (.Name x px) "extend" ap) [e] [] cp) (tBM X.K "list" rExtend to t) := by exact fun X {to t} h1 h2 => pe_bm PySem.F.plainAttrs_list PySem.F.slot_list_extend PySem.F.type_list_extend mt_extend h1 h2) :
    WPS F C (.Expr (.Call (.Attribute (.Name x px) "extend" ap) [e] [] cp) pos) ρ k P :=
  of_ps (t := tDrop (tBM C.K "list" rExtend (tVar i) (tCons (tE C e) tNil))) (fun X fx => ps_expr (by rw [← fx.K]; exact hbm X (pe_var (by rw [fx.N]; exact hN) (by rw [fx.sc]; exact hv) hd hcd) (pa_cons (peE fx) pa_nil (hse X.env))) (hsw X.env)) fun σ H E en j q1 q2 q3 q4 => by
    obtain ⟨hσ, hS, hM, h0, vs, hv', rv⟩ := en.own hr
    refine ⟨_, hσ, .inl ⟨rfl, _, SqL.of hv'⟩, ?_⟩
    show tE C e σ H _
    refine h σ H _ en j fun v d k1 H1 l1 j1 r1 ⟨ds, ed, hz, p⟩ => ?_
    subst ed
    have hv1 : H1 o = some (.lst vs) := l1 o _ (Fm.mxA hM) hv'
    cases r1 with
    | @lst b ys _ hb hs =>
    refine ⟨o, b, vs, ys, rfl, rfl, hv1, hb.1, ?_, ?_⟩
    · rw [rv.length, hs.length]; exact Nat.le_trans hz (by decide)
    · refine q1 _ σ k1 _ ?_ ((en.le l1).ownSet hr hno ((rv.le l1.lz).append hs)) (j1.own hM h0 (pl_lst (l1 o _ (Fm.mxA hM) hv'))) p
      exact fun b u hb z => by rw [upd_ne (show b ≠ o from fun y => hb (.inl (y ▸ hS)))]; exact l1.lz b u hb z
end
end Dl

namespace Dl
open PySem PySem.Spec PyProof.Rows L2
/-! ### sorted(x), x the own list of pairs of ints -/
def prD (p : Int × Int) : PyData := .tuple [.int p.1, .int p.2]
section
variable {F : Fm} {C : Cs} {ρ : Rho} {k : Nat} {Φ : Nat → PyData → Prop} {pos p px : Pos} {x : Str}
end
end Dl

namespace Dl
open PySem PySem.Spec PyProof.Rows L2
/-! ### the comprehension of two clauses, given to a name -/
structure Blk2 (C : Cs) (scope : Scope) (i : Nat) (x : Str) (i1 : Nat) (x1 : Str) : Prop where
  ok : BlkOk C.N C.sc scope [(x, i), (x1, i1)]
  t : Tgt (C.blk scope) i x
  t1 : Tgt (C.blk scope) i1 x1
section
variable {F : Fm} {C : Cs} {ρ : Rho} {k : Nat} {Φ : Nat → PyData → Prop} {P : DE} {pos spos : Pos} {elt iter iter1 : Expr} {scope : Scope} {x x1 y : Str} {px px1 py : Pos} {α β : Type}
theorem ps_lc2X {X : Cx} {i i1 iy : Nat} (fx : Fits C X) (b : Blk2 C scope i x i1 x1) (ty : Tgt C iy y) (hyl : C.sc.names.lookup y = some .local) (hk : C.sc.kind = .function) (hl : (py.line == pos.line) = true) (ha : (scope.names.any fun (n, k) => n == y && (k == .local || k == .cell)) = false)
    (hs : ∀ (env : Env) (v : Value), foldedSetIterable iter env v = pure v) (hs1 : ∀ (env : Env) (v : Value), foldedSetIterable iter1 env v = pure v) :
    PS X (.Assign [.Name y py] (.ListComp elt [⟨.Name x px, iter, [], 0⟩, ⟨.Name x1 px1, iter1, [], 0⟩] scope pos) spos) (tAsg (tLc2 (iTup C.K (tE C iter)) (gName i) tYes (iList (C.blk scope).K (tE (C.blk scope) iter1)) (gName i1) tYes (tE (C.blk scope) elt) [i, i1] [i1]) (gName iy)) :=
  ps_setLc2 (own := [(x, i), (x1, i1)]) (vs1 := [i1]) fx.calm (by rw [fx.N]; exact b.t.hN) (by rw [fx.N]; exact ty.hi) (by rw [fx.sc]; exact hyl) (sw_true (by rw [fx.sc]; exact hk) (by rw [fx.sc]; exact hyl) hl ha) (piT fx) (by rw [fx.N, fx.sc]; exact b.ok) (fun j hj => by simp at hj ⊢; exact .inr hj)
    (fun s H a cl fp => b.t.pg (fx.blk s H scope a cl fp)) (fun s H a cl fp => pts_nil) (fun s H a cl fp => piL (fx.blk s H scope a cl fp)) (fun s H a cl fp => b.t1.pg (fx.blk s H scope a cl fp)) (fun s H a cl fp => pts_nil) (fun s H a cl fp => peE (fx.blk s H scope a cl fp)) (hs X.env) (fun env => hs1 env)
theorem ws_comp2 (ei : α → PyData) (ej : β → PyData) (bs : α → List β) (g : α → β → PyData) (B : Nat) (i i1 iy : Nat) (hne : i ≠ i1) (b : Blk2 C scope i x i1 x1) (ty : Tgt C iy y) (hyl : C.sc.names.lookup y = some .local) (hk : C.sc.kind = .function) (hl : (py.line == pos.line) = true) (ha : (scope.names.any fun (n, k) => n == y && (k == .local || k == .cell)) = false) (hK : F.K = C.K)
    (hs : ∀ (env : Env) (v : Value), foldedSetIterable iter env v = pure v) (hs1 : ∀ (env : Env) (v : Value), foldedSetIterable iter1 env v = pure v)
    (h : WPE F C iter ρ k fun k1 d => ∃ as : List α, d = .tuple (as.map ei) ∧ as.length * B ≤ 1000000 ∧ (∀ a ∈ as, (bs a).length ≤ B) ∧
      (∀ D (a : α), a ∈ as → WPE (F.ext D) (C.blk scope) iter1 ((ρ.set i1 .un).set i (.d (ei a))) k1 (fun k2 d2 => k2 = k1 ∧ d2 = .list ((bs a).map ej)) ∧
        ∀ b ∈ bs a, WPE (F.ext D) (C.blk scope) elt (((ρ.set i1 .un).set i (.d (ei a))).set i1 (.d (ej b))) k1 fun k3 y => k3 = k1 ∧ y = g a b) ∧ P.nx k1 (ρ.set iy (.d (.list (as.flatMap fun a => (bs a).map (g a)))))) :
    WPS F C (.Assign [.Name y py] (.ListComp elt [⟨.Name x px, iter, [], 0⟩, ⟨.Name x1 px1, iter1, [], 0⟩] scope pos) spos) ρ k P :=
  of_ps (fun X fx => ps_lc2X fx b ty hyl hk hl ha hs hs1) (ws_asgName iy (we_lc2 ei ej bs g B i i1 hne hK h))
end
end Dl

namespace Dl
open PySem PySem.Spec PyProof.Rows L2
section
variable {F : Fm} {C : Cs} {ρ : Rho} {k : Nat} {Φ : Nat → PyData → Prop} {P : DE} {pos apos px p2 ap cp : Pos} {o e : Expr} {x : Str} {rest : List Stmt}
/-! ### i.bit_length() -/
theorem we_bits (hbase : ∀ env : Env, attributeBase o "bit_length" env (eval o env) = eval o env) (hline : (apos.endLine == pos.line) = true) (h : WPE F C o ρ k fun k1 d => ∃ i : Int, d = .int i ∧ Φ k1 (.int (Builtin.Int.intBits i : Nat))) : WPE F C (.Call (.Attribute o "bit_length" apos) [] [] pos) ρ k Φ :=
  of_pe (fun X fx => pe_bits (peE fx) (hbase X.env) hline) fun σ H Q en j q => h σ H _ en j fun v d k1 H1 l1 j1 r ⟨i, e, p⟩ => by
    subst e
    cases r
    exact ⟨i, rfl, q _ _ k1 H1 l1 j1 (.int _) p⟩
/-! ### x = [c] * e, the def's own list -/
theorem rep_ints {K : PySem.W.Frag} {S : Addr → Prop} {H : Hp} {c : Int} : ∀ n : Nat, RepAll K S H (List.replicate n (V.int c)) (List.replicate n (.int c))
  | 0 => .nil
  | n + 1 => .cons (.int c) (rep_ints n)
theorem flat1 {α : Type} (c : α) : ∀ n : Nat, (List.replicate n [c]).flatten = List.replicate n c
  | 0 => rfl
  | n + 1 => by rw [List.replicate_succ, List.flatten_cons, flat1 c n, List.replicate_succ]; rfl
theorem wb_ownRep (i : Nat) {c : Int} {kk : Nat} {pc p3 p4 : Pos} (t : Tgt C i x) (hi : i < ρ.length) (hs : ∀ env : Env, env.scope = C.sc → swapsWith (.BinOp (.List [.Constant (.int c) kk pc] p3) .Mult e p4) (some (.Name x px)) pos.line env = pure false)
    (h : WPE F C e ρ k fun k1 d => ∃ n : Nat, d = .int (n : Int) ∧ n ≤ 1000000 ∧ ∀ o, WPB (F.ext o) C rest (ρ.set i (.own o (List.replicate n (.int c)))) k1 { nx := fun _ _ => False, rt := P.rt, bk := fun _ _ => False, ct := fun _ _ => False }) : WPB F C (.Assign [.Name x px] (.BinOp (.List [.Constant (.int c) kk pc] p3) .Mult e p4) pos :: rest) ρ k P :=
  of_pb (fun X fx => pss_cons (ps_set (by rw [fx.N]; exact t.hN) (by rw [fx.N]; exact t.hi) (by rw [fx.sc]; exact t.hx) (pe_op op_rep (pe_lst (pa_cons pe_int pa_nil)) (peE fx)) (hs X.env fx.sc) (by rw [fx.fn, fx.sc]; exact t.hf)) (pbB fx)) fun σ H E en j q1 q2 q3 q4 => by
    refine ⟨by show 1 ≤ sizeLine; decide, fun o1 no1 => ?_⟩
    show tE C e σ _ _
    refine h σ _ _ (en.le (.new no1)) (j.new no1) fun v d k1 H1 l1 j1 r ⟨n, ed, hn, hb⟩ => ?_
    subst ed
    cases r
    have ho1 : H1 o1 = some (.lst [V.int c]) := l1 o1 _ (Fm.mxA fun z => F.gl _ _ j.g o1 z no1) upd_same
    refine ⟨o1, _, [V.int c], rfl, rfl, ho1, by omega, by omega, ?_, fun o no => ?_⟩
    · rw [Int.toNat_natCast]; show 1 * n ≤ sizeLine; rw [Nat.one_mul]; exact Nat.le_trans hn (by decide)
    rw [Int.toNat_natCast, flat1]
    have en1 : EnvOk F H1 σ ρ := en.le (fun b u hb z => l1 b u hb (by rw [upd_ne (ne_of_none z no1)]; exact z))
    have hM : ¬ F.M o := fun z => F.gl _ _ j1.g o z no
    have h0 : F.H0 o = none := j1.h0 hM no
    have en2 : EnvOk (F.ext o) (upd H1 o (.lst (List.replicate n (V.int c)))) (σ.set i (some (.ref o))) (ρ.set i (.own o (List.replicate n (.int c)))) :=
      (en1.ext no).set (sv := .own o _) ⟨rfl, .inr rfl, hM, h0, _, upd_same, rep_ints n⟩
    refine hb o (σ.set i (some (.ref o))) _ E en2 ((j1.new no).ext (lv_new fun _ z => nomatch z)) ?_ ?_ ?_ ?_
    · exact fun _ _ _ _ _ _ _ z => z.elim
    · exact fun v d k' H' j' r' p => q2 v d k' H' j'.unext r'.unext p
    · exact fun _ _ _ _ _ _ _ z => z.elim
    · exact fun _ _ _ _ _ _ _ z => z.elim
end
end Dl
namespace Dl
open PySem PySem.Spec PyProof.Rows L2
section
variable {F : Fm} {C : Cs} {ρ : Rho} {k : Nat} {Φ : Nat → PyData → Prop} {P : DE} {pos apos px px2 p2 ap cp spos : Pos} {o e ie : Expr} {x : Str} {rest : List Stmt}
/-! ### x[i], x the own list -/
theorem atI_rep {K : PySem.W.Frag} {S : Addr → Prop} {H : Hp} {vs : List V} {xs : List PyData} (r : RepAll K S H vs xs) {j : Nat} (hj : j < xs.length) : ∃ v, atI vs (j : Int) = some v ∧ Rep K S H v xs[j] := by
  have hl := r.length
  have hv : vs[j]? = some vs[j] := List.getElem?_eq_getElem (by omega)
  obtain ⟨y, hy, ry⟩ := r.got hv
  rw [List.getElem?_eq_getElem hj] at hy
  cases hy
  exact ⟨vs[j], atI_nat hv, ry⟩
theorem ixlK {X : Cx} (fx : Fits C X) : IxR X (rIxL C.K) := by rw [← fx.K]; exact ix_list
theorem we_ixOwn (i : Nat) {ow : Addr} {xs : List PyData} (hK : F.K = C.K) (hN : C.N[i]? = some x) (hv : Vis C.sc x) (hr : ρ[i]? = some (.own ow xs)) (hs : PlainIx ie)
    (h : WPE F C ie ρ k fun k1 d => ∃ (j : Nat) (hj : j < xs.length), d = .int (j : Int) ∧ Φ k1 xs[j]) (hd : (x == ("__debug__" : Str)) = false := by decide) (hcd : (x == ("__classdict__" : Str)) = false := by decide) :
    WPE F C (.Subscript (.Name x px) ie pos) ρ k Φ :=
  of_pe (fun X fx => pe_ix (ixlK fx) (pe_var (i := i) (by rw [fx.N]; exact hN) (by rw [fx.sc]; exact hv) hd hcd) (peE fx) hs) fun σ H Q en j q => by
    obtain ⟨hσ, hS, hM, h0, vs, hv', rv⟩ := en.own hr
    refine ⟨_, hσ, ?_⟩
    show tE C ie σ H _
    refine h σ H _ en j fun v d k1 H1 l1 j1 r ⟨jj, hj, ed, p⟩ => ?_
    subst ed
    cases r
    obtain ⟨v, hat, ry⟩ := atI_rep rv hj
    exact ⟨ow, vs, _, v, rfl, rfl, SqL.of (l1 ow _ (Fm.mxA hM) hv'), hat, q _ _ k1 H1 l1 j1 (ry.le l1.lz) p⟩
/-! ### x[i] = v, x the own list -/
theorem rep_set {K : PySem.W.Frag} {S : Addr → Prop} {H : Hp} {v : V} {d : PyData} (rv : Rep K S H v d) : ∀ {vs : List V} {xs : List PyData} (j : Nat), RepAll K S H vs xs → RepAll K S H (vs.set j v) (xs.set j d)
  | _, _, 0, .nil => .nil
  | _, _, j + 1, .nil => .nil
  | _, _, 0, .cons r rs => .cons rv rs
  | _, _, j + 1, .cons r rs => .cons r (rep_set rv j rs)
theorem ixN_nat {n j : Nat} (h : j < n) : ixN n (j : Int) = some j := by
  unfold ixN
  simp
  omega
theorem ws_setOwn (i : Nat) {ow : Addr} {xs : List PyData} (hN : C.N[i]? = some x) (hv : Vis C.sc x) (hr : ρ[i]? = some (.own ow xs)) (hno : (ρ.set i .un).all plainB = true)
    (h : WPE F C e ρ k fun k1 d => WPE F C ie ρ k1 fun k2 d2 => ∃ j : Nat, j < xs.length ∧ d2 = .int (j : Int) ∧ P.nx k2 (ρ.set i (.own ow (xs.set j d))))
    (hs1 : ∀ env : Env, swapsWithSole [.Subscript (.Name x px) ie p2] e spos.line env = pure false) (hs2 : ∀ env : Env, swappedStores [.Subscript (.Name x px) ie p2] e env = pure none)
    (ha : ∀ (X : Cx) (v : Value), assign (.Subscript (.Name x px) ie p2) X.env v = (do
      let ov ← holding [v] (eval (.Name x px) X.env)
      let iv ← holding [v, ov] (eval ie X.env)
      standAt p2
      holding [v, ov, iv] (setItem ov iv v)
      release [v, ov, iv] []) := by intro _ _; rfl) (hd : (x == ("__debug__" : Str)) = false := by decide) (hcd : (x == ("__classdict__" : Str)) = false := by decide) :
    WPS F C (.Assign [.Subscript (.Name x px) ie p2] e spos) ρ k P :=
  of_ps (fun X fx => ps_asg (peE fx) (pg_sub (pe_var (i := i) (by rw [fx.N]; exact hN) (by rw [fx.sc]; exact hv) hd hcd) (peE fx) set_list (ha X)) (hs1 X.env) (hs2 X.env)) fun σ H E en j q1 q2 q3 q4 => by
    show tE C e σ H _
    refine h σ H _ en j fun v d k1 H1 l1 j1 r1 h2 => ?_
    have en1 := en.le l1
    obtain ⟨hσ, hS, hM, h0, vs, hv', rv⟩ := en1.own hr
    refine ⟨_, hσ, ?_⟩
    show tE C ie σ H1 _
    refine h2 σ H1 _ en1 j1 fun v2 d2 k2 H2 l2 j2 r2 ⟨jj, hj, ed, p⟩ => ?_
    subst ed
    cases r2
    have hv2 : H2 ow = some (.lst vs) := l2 ow _ (Fm.mxA hM) hv'
    refine ⟨ow, vs, _, jj, rfl, rfl, hv2, ixN_nat (by rw [rv.length]; exact hj), ?_⟩
    refine q1 _ σ k2 _ ?_ ((en1.le l2).ownSet hr hno (rep_set (r1.le l2.lz) jj (rv.le l2.lz))) (j2.own hM h0 (pl_lst hv2)) p
    exact fun b u hb z => by rw [upd_ne (show b ≠ ow from fun y => hb (.inl (y ▸ hS)))]; exact l2.lz b u hb (l1.lz b u hb z)
/-! ### x.count(i), a list of ints -/
theorem rep_vints {K : PySem.W.Frag} {S : Addr → Prop} {H : Hp} : ∀ {ns : List Int} {vs : List V}, RepAll K S H vs (ns.map PyData.int) → vs = ns.map V.int
  | [], _, r => by cases r; rfl
  | n :: ns, _, r => by
    cases r with
    | cons r1 r2 =>
      cases r1
      rw [rep_vints r2]; rfl
theorem we_count (hK : F.K = C.K) (hse : ∀ env : Env, starEach [e] env = (false, eval e env) :: starEach [] env)
    (h : WPE F C o ρ k fun k1 d => ∃ ns : List Int, d = .list (ns.map PyData.int) ∧ WPE F C e ρ k1 fun k2 d2 => ∃ i : Int, d2 = .int i ∧ Φ k2 (.int (ns.count i : Nat)))
    (hbm : ∀ X : Cx, ∀ {to : TE} {t : TA}, PE X o to → PA X [e] t → PE X (.Call (.Attribute o "count" ap) [e] [] cp) (tBM X.K "list" (rCntI X.K) to t)) :
    WPE F C (.Call (.Attribute o "count" ap) [e] [] cp) ρ k Φ :=
  of_pe (t := tBM C.K "list" (rCntI C.K) (tE C o) (tCons (tE C e) tNil)) (fun X fx => by rw [← fx.K]; exact hbm X (peE fx) (pa_cons (peE fx) pa_nil (hse X.env))) fun σ H Q en j q => by
    show tE C o σ H _
    refine h σ H _ en j fun v d k1 H1 l1 j1 r1 ⟨ns, ed, h2⟩ => ?_
    subst ed
    cases r1 with
    | @lst a vs _ ha hr =>
    obtain rfl := rep_vints hr
    have sq : ∀ H', Lz F H1 H' → SqL C.K H' a (ns.map V.int) := fun H' lz => hK ▸ sql_of (K := F.K) (S := F.S) ⟨lz _ _ (Fm.sxA ha.2) ha.1, ha.2⟩
    refine ⟨.inl ⟨rfl, _, sq H1 .refl⟩, ?_⟩
    show tE C e σ H1 _
    refine h2 σ H1 _ (en.le l1) j1 fun v2 d2 k2 H2 l2 j2 r2 ⟨i, ed, p⟩ => ?_
    subst ed
    cases r2
    exact ⟨a, ns, i, rfl, rfl, sq H2 l2.lz, q _ _ k2 H2 (l1.trans l2) j2 (.int _) p⟩
end
end Dl
namespace Dl
open PySem PySem.Spec PyProof.Rows L2
/-! ### [.. for a, b in a tuple of pairs] -/
theorem wipe3 {i i1 : Nat} {a b : V} (hne : i ≠ i1) (σ : L2.St) : ((wipe σ [i, i1]).set i (some a)).set i1 (some b) = (σ.set i (some a)).set i1 (some b) := by
  show (((σ.set i1 none).set i none).set i (some a)).set i1 (some b) = _
  rw [List.set_set, List.set_comm _ _ (Ne.symm hne), List.set_set]
theorem wipe3' {i i1 : Nat} {a b : V} (hne : i ≠ i1) (σ : L2.St) : wipe ((σ.set i (some a)).set i1 (some b)) [i, i1] = wipe σ [i, i1] := by
  show ((((σ.set i (some a)).set i1 (some b)).set i1 none).set i none) = (σ.set i1 none).set i none
  rw [List.set_set, List.set_comm _ _ hne, List.set_set]
section
variable {F : Fm} {C : Cs} {ρ : Rho} {k : Nat} {Φ : Nat → PyData → Prop} {P : DE} {pos spos : Pos} {elt iter : Expr} {scope : Scope} {x x1 y : Str} {px px1 py p3 : Pos} {kk : Nat} {α : Type}
theorem we_lcP (i i1 : Nat) (hne1 : i ≠ i1) {tl : TE} {K : PySem.W.Frag} (hK : F.K = K) {te : TE} (ei : α → PyData × PyData) (g : α → PyData)
    (h : WE F tl ρ k fun k1 d => ∃ as : List α, d = .tuple (as.map fun a => PyData.tuple [(ei a).1, (ei a).2]) ∧ as.length ≤ 1000000 ∧ (∀ D (a : α), a ∈ as → WE (F.ext D) te ((ρ.set i (.d (ei a).1)).set i1 (.d (ei a).2)) k1 fun k2 z => k2 = k1 ∧ z = g a) ∧ Φ k1 (.list (as.map g))) :
    WE F (tLc (iTup K tl) (gTup K 2 (gCons (gName i) (gCons (gName i1) gNil))) tYes te [i, i1]) ρ k Φ := fun σ H Q en j q => by
  show tl σ H _
  refine h σ H _ en j fun v d k1 H1 l1 j1 r hh => ?_
  obtain ⟨as, e, hz, hstep, hend⟩ := hh
  subst e
  cases r with
  | @tup a xs _ ha hr =>
  refine ⟨a, rfl, ⟨xs, hK ▸ sqt_of ha⟩, fun D hD => ?_⟩
  have en1 := en.le l1
  have hM : ¬ F.M D := fun z => F.gl _ _ j1.g D z hD
  have hS : ¬ F.S D := j1.fresh hD
  have h0 : F.H0 D = none := j1.h0 hM hD
  have hne : ∀ (i : Nat) o xs, ρ[i]? = some (SV.own o xs) → o ≠ D := fun i o xs e => by
    obtain ⟨x, _, s⟩ := en1 i _ e
    obtain ⟨_, _, _, _, vs, h1, _⟩ := s
    exact ne_of_none h1 hD
  have rr : Rp (F.ext D) (upd H1 D (.lst [])) (.ref a) (.tuple (as.map fun a => PyData.tuple [(ei a).1, (ei a).2])) := Rep.ext (.tup ha hr) hD
  cases rr with
  | @tup _ xs' _ ha' hr' =>
  have hlen : xs'.length = as.length := by rw [hr'.length, List.length_map]
  refine lc_tup (xs := xs') (fun n H' => ∃ vs, EnvOk (F.ext D) H' σ ρ ∧ J (F.ext D) k1 H' ∧ LeD (F.ext D) D (upd H1 D (.lst [])) H' ∧ H' D = some (.lst vs) ∧ RpAll (F.ext D) H' vs ((as.take n).map g))
    ⟨[], en1.ext hD, (j1.new hD).ext (lv_new fun _ z => nomatch z), .refl, upd_same, .nil⟩ ?_ ?_ ?_
  · rintro n H' _ ⟨vs, _, _, ld, _⟩
    have := sqt_of (K := F.K) (H := H') (S := (F.ext D).S) ⟨ha'.1.lz ha'.2 (ld.lz (.inr rfl)), ha'.2⟩
    exact hK ▸ this
  · rintro n v H' hv ⟨vs, en', j', ld, hd, ra⟩
    obtain ⟨y, hy, ry⟩ := hr'.got hv
    rw [List.getElem?_map] at hy
    cases hc : as[n]? with
    | none => rw [hc] at hy; cases hy
    | some a0 =>
    rw [hc] at hy
    cases hy
    have ry' : Rp (F.ext D) H' v (PyData.tuple [(ei a0).1, (ei a0).2]) := ry.le (ld.lz (.inr rfl))
    cases ry' with
    | @tup t ts _ ht hts =>
    cases hts with
    | @cons v1 _ _ _ r1 hts =>
    cases hts with
    | @cons v2 _ _ _ r2 hts =>
    cases hts
    refine ⟨t, _, rfl, hK ▸ sqt_of (K := F.K) ht, rfl, v1, _, rfl, ?_⟩
    refine ⟨v2, _, rfl, rfl, ?_⟩
    rw [wipe3 hne1]
    refine ⟨wipe3' hne1 σ, ?_⟩
    have hn : n < as.length := (List.getElem?_eq_some_iff.mp hc).1
    have hl0 : ((as.take n).map g).length ≤ n := by rw [List.length_map]; exact List.length_take_le _ _
    refine lc_turn (F := F.ext D) (I := fun k acc => k = k1 ∧ acc = (as.take (n + 1)).map g) hM (.inr rfl) h0 ((en'.set (sv := .d (ei a0).1) ⟨v1, rfl, r1⟩).set (sv := .d (ei a0).2) ⟨v2, rfl, r2⟩) j' hd ra (Nat.lt_of_le_of_lt (show ((as.take n).map g).length ≤ 1000000 by omega) (by decide)) (wt_yes ?_) fun H2 k2 vs2 acc2 hl2 ld2 hd2 ra2 j2 i2 => ?_
    · rw [if_pos rfl]
      refine (hstep D a0 (List.mem_of_getElem? hc)).imp fun k2 z ⟨e1, e2⟩ => ⟨e1, ?_⟩
      rw [take_next hc, List.map_append, e2]; rfl
    · obtain ⟨rfl, rfl⟩ := i2
      exact ⟨vs2, en'.ld ld2 (.inr rfl) hne, j2, ld.trans ld2, hd2, ra2⟩
  · rintro H' ⟨vs, en', j', ld, hd, ra⟩
    rw [hlen, List.take_length] at ra
    refine q (.ref D) _ k1 H' ?_ j'.unext (.lst ⟨hd, hS⟩ ra.unext) hend
    exact fun b o n e => ld b o n (ne_of_none (l1 b o n e) hD) (by rw [upd_ne (ne_of_none (l1 b o n e) hD)]; exact l1 b o n e)
theorem ws_compP (ei : α → PyData × PyData) (g : α → PyData) (i i1 iy : Nat) (hne : i ≠ i1) (b : Blk2 C scope i x i1 x1) (ty : Tgt C iy y) (hyl : C.sc.names.lookup y = some .local) (hk : C.sc.kind = .function) (hl : (py.line == pos.line) = true) (ha : (scope.names.any fun (n, k) => n == y && (k == .local || k == .cell)) = false) (hK : F.K = C.K)
    (hs : ∀ (env : Env) (v : Value), foldedSetIterable iter env v = pure v)
    (h : WPE F C iter ρ k fun k1 d => ∃ as : List α, d = .tuple (as.map fun a => PyData.tuple [(ei a).1, (ei a).2]) ∧ as.length ≤ 1000000 ∧ (∀ D (a : α), a ∈ as → WPE (F.ext D) (C.blk scope) elt ((ρ.set i (.d (ei a).1)).set i1 (.d (ei a).2)) k1 fun k2 z => k2 = k1 ∧ z = g a) ∧ P.nx k1 (ρ.set iy (.d (.list (as.map g))))) :
    WPS F C (.Assign [.Name y py] (.ListComp elt [⟨.Tuple [.Name x px, .Name x1 px1] kk p3, iter, [], 0⟩] scope pos) spos) ρ k P :=
  of_ps (fun X fx => ps_setLc (own := [(x, i), (x1, i1)]) fx.calm (by rw [fx.N]; exact b.t.hN) (by rw [fx.N]; exact ty.hi) (by rw [fx.sc]; exact hyl) (sw_true (by rw [fx.sc]; exact hk) (by rw [fx.sc]; exact hyl) hl ha) (piT fx) (by rw [fx.N, fx.sc]; exact b.ok) (fun s H a cl fp => pgTup (n := 2) (fx.blk s H scope a cl fp) (pgs_cons (b.t.pg (fx.blk s H scope a cl fp)) (pgs_cons (b.t1.pg (fx.blk s H scope a cl fp)) pgs_nil)) (by rfl) (by rfl)) (fun s H a cl fp => pts_nil) (fun s H a cl fp => peE (fx.blk s H scope a cl fp)) (hs X.env))
    (ws_asgName iy (we_lcP i i1 hne hK ei g h))
/-- the same as a value -/
theorem we_compP (ei : α → PyData × PyData) (g : α → PyData) (i i1 : Nat) (hne : i ≠ i1) (b : Blk2 C scope i x i1 x1) (hK : F.K = C.K)
    (hs : ∀ (env : Env) (v : Value), foldedSetIterable iter env v = pure v)
    (h : WPE F C iter ρ k fun k1 d => ∃ as : List α, d = .tuple (as.map fun a => PyData.tuple [(ei a).1, (ei a).2]) ∧ as.length ≤ 1000000 ∧ (∀ D (a : α), a ∈ as → WPE (F.ext D) (C.blk scope) elt ((ρ.set i (.d (ei a).1)).set i1 (.d (ei a).2)) k1 fun k2 z => k2 = k1 ∧ z = g a) ∧ Φ k1 (.list (as.map g))) :
    WPE F C (.ListComp elt [⟨.Tuple [.Name x px, .Name x1 px1] kk p3, iter, [], 0⟩] scope pos) ρ k Φ :=
  of_pe (fun X fx => pe_lc (own := [(x, i), (x1, i1)]) fx.calm (by rw [fx.N]; exact b.t.hN) (piT fx) (by rw [fx.N, fx.sc]; exact b.ok) (fun s H a cl fp => pgTup (n := 2) (fx.blk s H scope a cl fp) (pgs_cons (b.t.pg (fx.blk s H scope a cl fp)) (pgs_cons (b.t1.pg (fx.blk s H scope a cl fp)) pgs_nil)) (by rfl) (by rfl)) (fun s H a cl fp => pts_nil) (fun s H a cl fp => peE (fx.blk s H scope a cl fp)) (hs X.env))
    (we_lcP i i1 hne hK ei g h)
end
end Dl

namespace Dl
open PySem PySem.Spec PyProof.Rows L2
/-! ### sorted(a set of hii), any number of members -/
section
variable {P : Program} {w : World} {A : Around} {E : Value → Shared → Prop} {s : Shared} {a : Addr}
theorem sortedSetAll {S : Int → Bool} {n : Nat} {Q : Value → Shared → Prop} (R : SetR w s.heap a S n) (calm : A.handled = none)
    (hQ : ∀ (t : Shared) (p : Addr) (res : List Value) (c : Nat) (ms : List Int), (∀ b o, s.heap.get? b = some o → t.heap.get? b = some o) → t.gens = s.gens → t.os = s.os → s.heap.objs.size ≤ p →
      t.heap.get? p = some (seqObj "list" res.toArray c) → IntsAre res ms → ms.Pairwise (· < ·) → (∀ i, i ∈ ms ↔ S i = true) → ms.length = n → Q (.ref p) t) :
    wpAny (model P w) A (call (.builtin "sorted") [.ref a]) Q E s := by
  obtain ⟨ob, els, epo, tab, hob, exact1, hdat, gd, nodup, memb, bnd, fit, cnt, ris, led⟩ := R
  refine Calls.call_function_entry PyProof.Rows.kind_sorted PyProof.Rows.plain_sorted PyProof.Rows.entry_sorted (PyProof.Rows.args_sorted1 _) ?_
  unfold Builtin.«sorted»
  refine wpAny_bind (m := checkCount "sorted" 1 1 _) (wpAny_pure (wpAny_bind (collect_set (A := A.in1) calm ⟨ob, hob, exact1.1, hdat⟩ fit bnd ris led fun s1 vs kp sz gs os pm => ?_)))
  have vlen : vs.length = n := (pm.length_eq.trans ((List.length_map _).trans Array.length_toList)).trans cnt
  have small : n < 4096 := cnt ▸ bnd
  have hii : IntsAre vs (vs.map Builtin.Re.reRawOf) := ints_of vs fun v hv => by
    obtain ⟨e, he, rfl⟩ := List.mem_map.mp (pm.mem_iff.mp hv)
    obtain ⟨k, tk, h1, _⟩ := gd e he
    exact ⟨k, tk, h1⟩
  have pkeys : (vs.map Builtin.Re.reRawOf).Perm (els.toList.map keyOf) := by
    have z := pm.map Builtin.Re.reRawOf
    rwa [List.map_map] at z
  have lim : vs.length ≤ sizeLine := by rw [vlen, sizeLine_eq]; omega
  refine wpAny_bind (wpAny_newList ?_ (by rw [vlen, sizeLine_eq]; omega))
  have here : (s1.heap.push (seqObj "list" vs.toArray 0)).get? s1.heap.objs.size = some (seqObj "list" vs.toArray 0) := Heap.get?_push_size _ rfl
  refine wpAny_bind (wpAny_holding (wpAny_call_entry PyProof.Rows.slot_list_sort ⟨_, here, rfl⟩ PyProof.Rows.entry_list_sort (SrtO.list_sort_ord SrtO.swo_int here lim (fun h2 => SrtO.ints_sortable hii h2) fun res r1 r2 => ⟨_, rfl, ?_⟩) (PyProof.Rows.args_list_sort _)))
  obtain ⟨z1, z2, z3⟩ := SrtO.ints_out hii r1 r2
  obtain ⟨c, hc⟩ := PyProof.Rows.sortedHeap_at (vs := vs) (out := res.toArray) here
  have pfin := z2.trans pkeys
  refine wpAny_pure ⟨_, rfl, hQ _ s1.heap.objs.size res c (res.map SrtO.iv) (fun b u e => ?_) gs os sz hc z1 (lt_of_le_nodup _ z3 (pfin.nodup_iff.mpr nodup)) (fun i => (pfin.mem_iff).trans (memb i).symm) ?_⟩
  · have old := kp b u e
    have blt := Heap.lt_size old
    show (sortedHeap (s1.heap.push (seqObj "list" vs.toArray 0)) s1.heap.objs.size vs res.toArray).get? b = _
    rw [PyProof.Rows.sortedHeap_old (Nat.ne_of_lt blt) (by rw [Heap.size_push]; exact Nat.lt_succ_of_lt blt)]
    exact Heap.get?_push_of_some _ old
  · exact (pfin.length_eq.trans ((List.length_map _).trans Array.length_toList)).trans cnt
end
def rSortSetA (w : World) : List V → Hp → VK → Prop := fun vs H Q => ∃ (a : Addr) (S : Int → Bool) (n : Nat), vs = [V.ref a] ∧ H a = some (SetO w a S n) ∧
  ∀ (ms : List Int) (p : Addr), ms.Pairwise (· < ·) → (∀ i : Int, i ∈ ms ↔ S i = true) → ms.length = n → H p = none → Q (.ref p) (upd H p (.lst (ms.map V.int)))
theorem cr_sortSetA {X : Cx} (hc : X.calm = true) : CallR X (.builtin "sorted") (rSortSetA X.w) := by
  intro pins s σ H vs us Q I r h
  obtain ⟨a, S, n, rfl, ha, q⟩ := h
  have R := setO_get I ha
  have nb : n < 4096 := by
    obtain ⟨_, els, _, _, _, _, _, _, _, _, bnd, _, cnt, _⟩ := R
    exact cnt ▸ bnd
  rw [Vals.ref1 r]
  refine sortedSetAll R (I.ok.hd hc) fun t p res c ms kp gs os sz at1 hii asc mem len => ?_
  have fits : (ms.map V.int).length ≤ sizeLine := by rw [List.length_map, len, sizeLine_eq]; omega
  have fresh : H p = none := I.hok.fresh sz
  have J1 : Inv X pins σ (upd H p (.lst (ms.map V.int))) { s with heap := t.heap, gens := t.gens, drawn := t.drawn, toks := t.toks } :=
    I.call (ch := []) (Un.laid kp sz fresh) (I.hok.laid kp sz ⟨fits, res, c, vals_of_ints hii, at1⟩) (by rw [gs]; exact I.bare) (fun _ z => nomatch z)
  have same : t = { s with heap := t.heap, gens := t.gens, drawn := t.drawn, toks := t.toks } := by
    cases t; cases s; cases os; rfl
  rw [same]
  exact ⟨.ref p, _, J1, rfl, q ms p asc mem len fresh⟩
/-! ### {elt for x in iter if ..}, elt an int -/
section
variable {X : Cx}
def tSci (w : World) (wi : TI) (g : TG) (tt : TT) (te : TE) (vs : List Nat) : TE := fun σ H Q => wi σ H fun J H1 => ∀ D, H1 D = none →
  ∃ W : Nat → Nat → Hp → Prop, (∃ m, W 0 m (upd H1 D (SetO w D (fun _ => false) 0))) ∧ ∀ i m H, W i m H → (J.stop i H ∧ Q (.ref D) H) ∨
    (J.go i H ∧ ∃ Nx : Hp → Prop, (∀ H', Nx H' → ∃ m', m' < m ∧ W (i + 1) m' H') ∧ ∀ x H', J.yld i H x H' → g x (wipe σ vs) H' fun σ2 H2 => wipe σ2 vs = wipe σ vs ∧ tt σ2 H2 fun b H3 =>
      if b = true then te σ2 H3 fun y H4 => ∃ (c : Int) (S : Int → Bool) (n : Nat), y = .int c ∧ H4 D = some (SetO w D S n) ∧ n + 1 < scanBound ∧ Nx (upd H4 D (SetO w D (fun j => S j || decide (j = c)) (if S c = true then n else n + 1))) else Nx H3)
set_option maxHeartbeats 4000000 in
theorem sci_core {pins : List (Addr × Obj)} {s : Shared} {σ : L2.St} {H : Hp} {Q : VK} {elt tg iter : Expr} {ifs : List Expr} {scope : Scope} {own : List (PySem.Str × Nat)} {pos pos' : Pos} {wi : TI} {g : TG} {tt : TT} {te : TE} {use : Option (Value → Sem Unit)} {Qf : Value → Shared → Prop}
    (calm : X.calm = true) (nodup : X.N.Nodup) (Iv : Inv X pins σ H s) (hit : PI X tg iter wi) (bok : BlkOk X.N X.env.scope scope own)
    (hg : ∀ (s : Shared) (H : Hp) (B : Addr) (cl : List (PySem.Str × Addr)) (fp : List Addr), PG (X.blk s H scope (compEnvC scope cl B X.env) fp) tg g)
    (ht : ∀ (s : Shared) (H : Hp) (B : Addr) (cl : List (PySem.Str × Addr)) (fp : List Addr), PTs (X.blk s H scope (compEnvC scope cl B X.env) fp) ifs tt)
    (he : ∀ (s : Shared) (H : Hp) (B : Addr) (cl : List (PySem.Str × Addr)) (fp : List Addr), PE (X.blk s H scope (compEnvC scope cl B X.env) fp) elt te)
    (hfold : ∀ x, foldedSetIterable iter X.env x = pure x) (hh : tSci X.w wi g tt te (own.map (·.2)) σ H Q)
    (hpost : ∀ D B s' m H', Inv X pins σ H' s' → Q (.ref D) H' → s'.heap.Ns B m → FpOk X pins H' B → compPost (model X.prog X.w) X.A X.xe use Qf (.ref D) B (.ok .next) s') :
    wpAny (model X.prog X.w) X.A (comprehension (.SetComp elt [⟨tg, iter, ifs, 0⟩] scope pos) scope X.env pos' (newSet (.type "set")) false (eval iter X.env) use) Qf X.xe s := by
  have frees : ∀ y ∈ scope.names, y.2 = .free → ∃ c, X.env.cells.lookup y.1 = some c := fun y hy e => (bok.free y hy e).elim (fun k => Iv.ok.has _ (.inl k)) (fun k => Iv.ok.has _ (.inr k))
  refine wpAny_comprehension_free (use := use) rfl hfold (closure_ok frees) bok.kind (fun y hy e => by rw [bok.uniq y hy, e]) ?_
  refine thn (hit.run pins s σ H _ Iv hh) fun xv s1 hx => thn hx fun itv s2 h2 => ?_
  obtain ⟨it, fp, tn, J, H2, rfl, Iv2, T, start2, fpo2, q⟩ := h2
  refine PpSet.newSet_ok (newEnv_comp ?_)
  generalize eD : s2.heap.objs.size = D
  have noD : H2 D = none := Iv2.hok.fresh (Nat.le_of_eq eD)
  obtain ⟨W, ⟨m0, w0⟩, turn⟩ := q D noD
  generalize e3 : ({ s2 with heap := s2.heap.push (nso X.w) } : Shared) = s3
  have there : (s2.heap.push (nso X.w)).get? s2.heap.objs.size = some (nso X.w) := Heap.get?_push_size _ rfl
  have new0 : SetR X.w (s2.heap.push (nso X.w)) s2.heap.objs.size (fun _ => false) 0 := by
    have z := setR_new_at (w := X.w) (ns := []) there
    exact z
  have Iv3 : Inv X pins σ (upd H2 D (SetO X.w D (fun _ => false) 0)) s3 := by
    subst e3 eD
    exact Iv2.laid (t' := s2.toks) (fun b o e => Heap.get?_push_of_some _ e) (Nat.le_refl _) (setO_new new0)
  have heap3 : s3.heap = s2.heap.push (nso X.w) := by rw [← e3]
  have below : ∀ b ∈ fp, b < s2.heap.objs.size := fun b hb => let ⟨o, e, _⟩ := T.obj _ _ start2 b hb; Heap.lt_size e
  have fpo3 : ∀ b ∈ fp, FpOk X pins (upd H2 D (SetO X.w D (fun _ => false) 0)) b ∧ b < s3.heap.objs.size := fun b hb => by
    have lt := below b hb
    refine ⟨⟨?_, (fpo2 b hb).2⟩, by rw [heap3, Heap.size_push]; exact Nat.lt_succ_of_lt lt⟩
    rw [upd_ne (show b ≠ D from eD ▸ Nat.ne_of_lt lt)]
    exact (fpo2 b hb).1
  have start3 : tn 0 s3.heap := T.keep _ _ _ start2 fun b _ o e => by rw [heap3]; exact Heap.get?_push_of_some _ e
  have Iv4 := block_start Iv3 bok nodup fpo3
  generalize eH3 : upd H2 D (SetO X.w D (fun _ => false) 0) = H3 at Iv3 Iv4 w0 fpo3
  have none3 : ∀ b ∈ fp, H3 b = none := fun b hb => (fpo3 b hb).1.1
  have pg := hg s3 H3 s3.heap.objs.size (cellsFrom (s3.heap.objs.size + 1) scope.names (cloFrom X.env.cells scope.names [])) fp
  have pt := ht s3 H3 s3.heap.objs.size (cellsFrom (s3.heap.objs.size + 1) scope.names (cloFrom X.env.cells scope.names [])) fp
  have pe := he s3 H3 s3.heap.objs.size (cellsFrom (s3.heap.objs.size + 1) scope.names (cloFrom X.env.cells scope.names [])) fp
  show codeAny _ _ (.compStart (.SetComp elt [⟨tg, iter, ifs, 0⟩] scope pos) 0 (.ref it) (.ref D) (compEnvC scope (cellsFrom (s3.heap.objs.size + 1) scope.names (cloFrom X.env.cells scope.names [])) s3.heap.objs.size X.env))
    (compPost (model X.prog X.w) X.A X.xe use Qf (.ref D) s3.heap.objs.size) { s3 with heap := pushCells (s3.heap.push { cls := .type "dict", data := .dict #[] }) scope.names }
  generalize eE : compEnvC scope (cellsFrom (s3.heap.objs.size + 1) scope.names (cloFrom X.env.cells scope.names [])) s3.heap.objs.size X.env = en at Iv4 pg pt pe ⊢
  have loc : en.locals = s3.heap.objs.size := by rw [← eE]; rfl
  generalize e4 : ({ s3 with heap := pushCells (s3.heap.push { cls := .type "dict", data := .dict #[] }) scope.names } : Shared) = s4 at Iv4 ⊢
  have start4 : tn 0 s4.heap := T.keep _ _ _ start3 fun b _ o e => by subst e4; exact pushCells_keeps _ _ _ _ (Heap.get?_push_of_some _ e)
  have stays : ∀ {σ' : L2.St} {H' : Hp} {s' : Shared}, Inv (X.blk s3 H3 scope en fp) [] σ' H' s' → (∀ b ∈ fp, H' b = none) → ∀ b ∈ fp, FpOk (X.blk s3 H3 scope en fp) [] H' b := fun {σ' H' s'} V hn b hb =>
    ⟨hn b hb, (V.ok.exf b hb).1, V.ok.exfs b hb, .inl hb, fun x c e => (V.ok.exf b hb).2 x c e, fun p hp => absurd (show p ∈ ([] : List (Addr × Obj)) ++ [] from hp) (by simp)⟩
  have run : codeAny (model X.prog X.w) X.A (.compLoop (.SetComp elt [⟨tg, iter, ifs, 0⟩] scope pos) 0 (.ref it) (.ref D) en) (compPost (model X.prog X.w) X.A X.xe use Qf (.ref D) s3.heap.objs.size) s4 := by
    refine PpSet.compLoopS_any (fun n s' => ∃ i H', Inv (X.blk s3 H3 scope en fp) [] (wipe σ (own.map (·.2))) H' s' ∧ tn i s'.heap ∧ (∀ b ∈ fp, H' b = none) ∧ W i n H') ?_ m0 ⟨0, H3, Iv4, start4, none3, w0⟩
    rintro n s5 ⟨i, H5, Iv5, start5, none5, w5⟩
    rcases turn i n H5 w5 with ⟨stop, fin⟩ | ⟨go, Nx, hNx, step⟩
    · have ends := T.done (X.blk s3 H3 scope en fp) rfl rfl rfl calm i [] s5 _ H5 (fun _ _ => False) Iv5 (stays Iv5 none5) start5 stop
      refine thnF ends fun r s6 ⟨hr, Iv6⟩ => ?_
      subst hr
      have back : Inv X pins σ H5 s6 := Iv3.call' (ch := fp) Iv6.os Iv6.base Iv6.hok Iv6.bare fun b hb => let z := (fpo3 b hb).1; ⟨z.2.2.2.1, z.2.1, z.2.2.2.2.1, z.2.2.2.2.2⟩
      have noC : H5 s3.heap.objs.size = none := by rw [← loc]; exact Iv6.free
      obtain ⟨m, hn, _⟩ := Iv6.loc
      have hn' : s6.heap.Ns s3.heap.objs.size m := by rw [← loc]; exact hn
      exact hpost D s3.heap.objs.size s6 m H5 back fin hn' (Iv3.fpOk (Nat.le_refl _) noC)
    · have next := T.item (X.blk s3 H3 scope en fp) rfl rfl rfl calm i [] s5 _ H5 (fun _ _ => False) Iv5 (stays Iv5 none5) start5 go
      refine thnF next fun r s6 ⟨u, hr, h6⟩ => ?_
      subst hr
      refine thnF h6 fun _ s7 ⟨x, H7, Iv7, r7, y7, start7, none7⟩ => ?_
      have pinned := Iv7.pinned (stays Iv7 none7) (T.obj _ _ start7)
      refine thnF (pg.run _ s7 _ H7 x u _ pinned r7 (step x H7 y7)) fun _ s8 ⟨σ8, H8, Iv8, wip8, q8⟩ => thnF (pt.run _ s8 σ8 H8 _ Iv8 q8) fun b s9 ⟨H9, Iv9, q9⟩ => ?_
      have close : ∀ {s' : Shared} {H' : Hp}, Inv (X.blk s3 H3 scope en fp) ([] ++ pinsAt fp s7.heap) σ8 H' s' → Nx H' → ∃ m, m < n ∧ ∃ i H', Inv (X.blk s3 H3 scope en fp) [] (wipe σ (own.map (·.2))) H' s' ∧ tn i s'.heap ∧ (∀ b ∈ fp, H' b = none) ∧ W i m H' := by
        intro s' H' V nx
        obtain ⟨m', less, w'⟩ := hNx H' nx
        have kept : ∀ b ∈ fp, ∀ o, s7.heap.get? b = some o → s'.heap.get? b = some o ∧ H' b = none := fun b hb o e =>
          have z := V.pin (b, o) (List.mem_append_right _ (List.mem_append_right _ (mem_pinsAt hb e)))
          ⟨z.1, z.2.1⟩
        refine ⟨m', less, i + 1, H', (V.unpinned (pins := [])).weak (by rw [← wip8, wipe_length]) (fun j v e => ?_), T.keep _ _ _ start7 fun b hb o e => (kept b hb o e).1, fun b hb => ?_, w'⟩
        · rw [← wip8] at e
          exact (wipe_some e).1
        · obtain ⟨o, e, _⟩ := T.obj _ _ start7 b hb
          exact (kept b hb o e).2
      cases b with
      | false => exact close Iv9 q9
      | true =>
        show wpAny _ _ _ _ _ _
        have q9' := (if_pos (c := true = true) rfl) ▸ q9
        refine thnF (pe.run _ s9 σ8 H9 _ Iv9 q9') fun z s10 ⟨yv, H10, Iv10, r10, cb, S0, n0, ey, hD10, hz10, nx⟩ => ?_
        subst ey
        have ad := mt_sadd (X := X.blk s3 H3 scope en fp) _ s10 σ8 H10 (.ref D) [.int cb] (.ref D) [z] (fun _ H' => Nx H') Iv10 rfl (.cons r10 .nil) ⟨D, cb, S0, n0, rfl, rfl, hD10, hz10, nx⟩
        refine thnF ad fun v s11 ⟨_, H11, Iv11, _, nx11⟩ => ?_
        exact close Iv11 nx11
  exact PpSet.codeAny_compStart_set run (T.self X.A 0 _ _ _ start4 run)
theorem pe_sci {elt tg iter : Expr} {ifs : List Expr} {scope : Scope} {own : List (PySem.Str × Nat)} {pos : Pos} {wi : TI} {g : TG} {tt : TT} {te : TE} (calm : X.calm = true) (nodup : X.N.Nodup) (hit : PI X tg iter wi) (bok : BlkOk X.N X.env.scope scope own)
    (hg : ∀ (s : Shared) (H : Hp) (B : Addr) (cl : List (PySem.Str × Addr)) (fp : List Addr), PG (X.blk s H scope (compEnvC scope cl B X.env) fp) tg g)
    (ht : ∀ (s : Shared) (H : Hp) (B : Addr) (cl : List (PySem.Str × Addr)) (fp : List Addr), PTs (X.blk s H scope (compEnvC scope cl B X.env) fp) ifs tt)
    (he : ∀ (s : Shared) (H : Hp) (B : Addr) (cl : List (PySem.Str × Addr)) (fp : List Addr), PE (X.blk s H scope (compEnvC scope cl B X.env) fp) elt te) (hfold : ∀ x, foldedSetIterable iter X.env x = pure x) :
    PE X (.SetComp elt [⟨tg, iter, ifs, 0⟩] scope pos) (tSci X.w wi g tt te (own.map (·.2))) :=
  ⟨fun pins s σ H Q I h => by
    rw [PpSet.eval_SetComp]
    refine sci_core calm nodup I hit bok hg ht he hfold h fun D B s' m H' I' q hn f => ⟨m, hn, fun h'' sb => ?_⟩
    obtain ⟨f0, f1, f2, f3, f4, f5⟩ := f
    exact ⟨.ref D, H', I'.turned (t' := s'.toks) (fun b o hb e => (sb.2 b hb).trans e) f0 f1 f3 f4 f5, rfl, q⟩⟩
end

/-! ### .. over data -/
section
variable {F : Fm} {C : Cs} {ρ : Rho} {k : Nat} {Φ : Nat → PyData → Prop} {pos p1 p2 p3 px : Pos} {elt iter e : Expr} {scope : Scope} {x : Str} {α : Type}
theorem pe_sciX {X : Cx} {i : Nat} (fx : Fits C X) (b : Blk C scope i x) {ifs : List Expr} {wi : TI} {tt : TT} (hi : PI X (.Name x px) iter wi) (ht : ∀ X', Fits (C.blk scope) X' → PTs X' ifs tt) (hs : ∀ (env : Env) (v : Value), foldedSetIterable iter env v = pure v) :
    PE X (.SetComp elt [⟨.Name x px, iter, ifs, 0⟩] scope pos) (tSci C.w wi (gName i) tt (tE (C.blk scope) elt) [i]) := by
  rw [← fx.w]
  exact pe_sci (own := [(x, i)]) fx.calm (by rw [fx.N]; exact b.t.hN) hi (by rw [fx.N, fx.sc]; exact b.ok) (fun s H a cl fp => b.t.pg (fx.blk s H scope a cl fp)) (fun s H a cl fp => ht _ (fx.blk s H scope a cl fp)) (fun s H a cl fp => peE (fx.blk s H scope a cl fp)) (hs X.env)
/-- a walk over a tuple for a set -/
theorem sci_tup {w : World} {K : PySem.W.Frag} {a : Addr} {xs : List V} {g : TG} {tt : TT} {te : TE} {vs : List Nat} {σ : L2.St} {H0 : Hp} {D : Addr} {Qd : Hp → Prop} (Pv : Nat → Hp → Prop) (h0 : Pv 0 H0) (hl : ∀ i H, Pv i H → SqT K H a xs)
    (hs : ∀ i v H, xs[i]? = some v → Pv i H → g v (wipe σ vs) H fun σ2 H2 => wipe σ2 vs = wipe σ vs ∧ tt σ2 H2 fun b H3 =>
      if b = true then te σ2 H3 fun y H4 => ∃ (c : Int) (S : Int → Bool) (n : Nat), y = .int c ∧ H4 D = some (SetO w D S n) ∧ n + 1 < scanBound ∧ Pv (i + 1) (upd H4 D (SetO w D (fun j => S j || decide (j = c)) (if S c = true then n else n + 1))) else Pv (i + 1) H3)
    (hd : ∀ H, Pv xs.length H → Qd H) :
    ∃ W : Nat → Nat → Hp → Prop, (∃ m, W 0 m H0) ∧ ∀ i m H, W i m H → ((Itt K a).stop i H ∧ Qd H) ∨
      ((Itt K a).go i H ∧ ∃ Nx : Hp → Prop, (∀ H', Nx H' → ∃ m', m' < m ∧ W (i + 1) m' H') ∧ ∀ x H', (Itt K a).yld i H x H' → g x (wipe σ vs) H' fun σ2 H2 => wipe σ2 vs = wipe σ vs ∧ tt σ2 H2 fun b H3 =>
        if b = true then te σ2 H3 fun y H4 => ∃ (c : Int) (S : Int → Bool) (n : Nat), y = .int c ∧ H4 D = some (SetO w D S n) ∧ n + 1 < scanBound ∧ Nx (upd H4 D (SetO w D (fun j => S j || decide (j = c)) (if S c = true then n else n + 1))) else Nx H3) := by
  refine ⟨fun i m H => m + i = xs.length ∧ Pv i H, ⟨xs.length, by simp, h0⟩, ?_⟩
  rintro i m H ⟨hm, pv⟩
  have sq := hl i H pv
  by_cases end1 : i = xs.length
  · subst end1
    exact .inl ⟨⟨xs, sq, Nat.le_refl _⟩, hd H pv⟩
  · have lt : i < xs.length := by omega
    refine .inr ⟨⟨xs, xs[i], sq, List.getElem?_eq_getElem lt⟩, Pv (i + 1), fun H' pv' => ⟨m - 1, by omega, by omega, pv'⟩, ?_⟩
    rintro v H' ⟨rfl, hy⟩
    exact hs i v _ (hy xs sq) pv
/-- sorted({elt for x in a tuple}), hii -/
theorem we_sortSc (ei : α → PyData) (g : α → Int) (i : Nat) (b : Blk C scope i x) (hK : F.K = C.K) (hg : C.sc.names.lookup ("sorted" : Str) = some .globalImplicit) (hm : C.mg ("sorted" : Str) = none) (hfs : ∀ (env : Env) (v : Value), foldedSetIterable iter env v = pure v)
    (hs : ∀ env : Env, starEach [.SetComp elt [⟨.Name x px, iter, [], 0⟩] scope p2] env = (false, eval (.SetComp elt [⟨.Name x px, iter, [], 0⟩] scope p2) env) :: starEach [] env)
    (h : WPE F C iter ρ k fun k1 d => ∃ as : List α, d = .tuple (as.map ei) ∧ as.length ≤ 1000 ∧ (∀ D a, a ∈ as → WPE (F.ext D) (C.blk scope) elt (ρ.set i (.d (ei a))) k1 fun k2 z => k2 = k1 ∧ z = .int (g a)) ∧
      ∀ ms : List Int, ms.Pairwise (· < ·) → (∀ z, z ∈ ms ↔ z ∈ as.map g) → Φ k1 (.list (ms.map PyData.int))) :
    WPE F C (.Call (.Name "sorted" p1) [.SetComp elt [⟨.Name x px, iter, [], 0⟩] scope p2] [] pos) ρ k Φ :=
  of_pe (t := tCB (rSortSetA C.w) (tCons (tSci C.w (iTup C.K (tE C iter)) (gName i) tYes (tE (C.blk scope) elt) [i]) tNil)) (fun X fx => pe_callB (by rw [← fx.w]; exact cr_sortSetA fx.calm) (by show X.env.scope.names.lookup ("sorted" : Str) = _; rw [fx.sc]; exact hg) (by rw [fx.mg]; exact hm) (by decide +kernel)
      (pa_cons (pe_sciX fx b (piT fx) (fun _ _ => pts_nil) hfs) pa_nil (hs X.env)) (by decide) (by decide) (hs X.env) rfl) fun σ H Q en j q => by
    show tE C iter σ H _
    refine h σ H _ en j fun v d k1 H1 l1 j1 r ⟨as, ed, hz, hbody, hend⟩ => ?_
    subst ed
    cases r with
    | @tup a xs _ ha hr =>
    refine ⟨a, rfl, ⟨xs, hK ▸ sqt_of ha⟩, fun D hD => ?_⟩
    have hlen : xs.length = as.length := by rw [hr.length, List.length_map]
    have en1 := en.le l1
    have hM : ¬ F.M D := fun z => F.gl _ _ j1.g D z hD
    have hS : ¬ F.S D := j1.fresh hD
    have h0 : F.H0 D = none := j1.h0 hM hD
    have hne : ∀ (i : Nat) o xs, ρ[i]? = some (SV.own o xs) → o ≠ D := fun i o xs e => by
      obtain ⟨x, _, s⟩ := en1 i _ e
      obtain ⟨_, _, _, _, vs, h1, _⟩ := s
      exact ne_of_none h1 hD
    have rr : Rp (F.ext D) (upd H1 D (SetO C.w D (fun _ => false) 0)) (.ref a) (.tuple (as.map ei)) := Rep.ext (.tup ha hr) hD
    cases rr with
    | @tup _ xs' _ ha' hr' =>
    have hlen' : xs'.length = as.length := by rw [hr'.length, List.length_map]
    refine sci_tup (xs := xs') (fun n H' => ∃ (S : Int → Bool) (c : Nat), c ≤ n ∧ EnvOk (F.ext D) H' σ ρ ∧ J (F.ext D) k1 H' ∧ LeD (F.ext D) D (upd H1 D (SetO C.w D (fun _ => false) 0)) H' ∧ H' D = some (SetO C.w D S c) ∧ ∀ z, S z = true ↔ z ∈ (as.take n).map g)
      ⟨fun _ => false, 0, Nat.le_refl _, en1.ext hD, (j1.new hD).ext (lv_new fun _ z => nomatch z), .refl, upd_same, by simp⟩ ?_ ?_ ?_
    · rintro n H' ⟨S, c, _, _, _, ld, _⟩
      have := sqt_of (K := F.K) (H := H') (S := (F.ext D).S) ⟨ha'.1.lz ha'.2 (ld.lz (.inr rfl)), ha'.2⟩
      exact hK ▸ this
    · rintro n v H' hv ⟨S, c, hc, en', j', ld, hd, hmem⟩
      obtain ⟨y, hy, ry⟩ := hr'.got hv
      rw [List.getElem?_map, Option.map_eq_some_iff] at hy
      obtain ⟨a1, ha1, rfl⟩ := hy
      have hn : n < as.length := (List.getElem?_eq_some_iff.mp ha1).1
      show (wipe ((wipe σ [i]).set i (some v)) [i] = wipe σ [i] ∧ _)
      rw [set_wipe]
      refine ⟨wipe_set σ, ?_⟩
      refine hbody D a1 (List.mem_of_getElem? ha1) (σ.set i (some v)) H' _ (en'.set (sv := .d (ei a1)) ⟨v, rfl, ry.le (ld.lz (.inr rfl))⟩) j' fun vz z k2 H4 l4 j4 r4 ⟨ek, ez⟩ => ?_
      subst ek ez
      cases r4
      have hd4 : H4 D = some (SetO C.w D S c) := l4 D _ (Fm.mxA hM) hd
      refine ⟨g a1, S, c, rfl, hd4, Nat.lt_of_le_of_lt (show c + 1 ≤ 1001 by omega) (by decide), ?_⟩
      have ld2 : LeD (F.ext D) D H' (upd H4 D (SetO C.w D (fun j => S j || decide (j = g a1)) (if S (g a1) = true then c else c + 1))) := fun b o nb m e => by rw [upd_ne m]; exact l4 b o nb e
      refine ⟨_, _, ?_, en'.ld ld2 (.inr rfl) hne, j4.own hM h0 (pl_set hd4), ld.trans ld2, upd_same, fun z => ?_⟩
      · split <;> omega
      · rw [take_next ha1, List.map_append, List.mem_append, Bool.or_eq_true, hmem z, decide_eq_true_eq]
        simp
    · rintro H' ⟨S, c, hc, en', j', ld, hd, hmem⟩
      refine ⟨D, S, c, rfl, hd, fun ms l2 hpw hms _ hl2 => ?_⟩
      have j2 := j'.unext
      refine q _ _ k1 _ ?_ (j2.new hl2) (rep_newL j2 hl2 (RepAll.of_ints ms)) (hend ms hpw fun z => ?_)
      · intro b o nb e
        have e1 := l1 b o nb e
        have e2 := ld b o nb (ne_of_none e1 hD) (by rw [upd_ne (ne_of_none e1 hD)]; exact e1)
        rw [upd_ne (ne_of_none e2 hl2)]; exact e2
      · rw [hms z, hmem z, hlen', List.take_length]
/-- sorted(set(xs)), any number -/
theorem we_sortSetA (hK : F.K = C.K) (hg : C.sc.names.lookup ("sorted" : Str) = some .globalImplicit) (hm : C.mg ("sorted" : Str) = none) (hg2 : C.sc.names.lookup ("set" : Str) = some .globalImplicit) (hm2 : C.mg ("set" : Str) = none)
    (hs : ∀ env : Env, starEach [e] env = (false, eval e env) :: starEach [] env) (hs2 : ∀ env : Env, starEach [.Call (.Name "set" p2) [e] [] p3] env = (false, eval (.Call (.Name "set" p2) [e] [] p3) env) :: starEach [] env)
    (h : WPE F C e ρ k fun k1 x => ∃ ns : List Int, x = .list (ns.map PyData.int) ∧ ns.length ≤ 1000 ∧ ∀ ms : List Int, ms.Pairwise (· < ·) → (∀ i, i ∈ ms ↔ i ∈ ns) → Φ k1 (.list (ms.map PyData.int))) : WPE F C (.Call (.Name "sorted" p1) [.Call (.Name "set" p2) [e] [] p3] [] pos) ρ k Φ :=
  of_pe (t := tCB (rSortSetA C.w) (tCons (tCB (rSetL C.K C.w) (tCons (tE C e) tNil)) tNil)) (fun X fx => pe_callB (by rw [← fx.w]; exact cr_sortSetA fx.calm) (by show X.env.scope.names.lookup ("sorted" : Str) = _; rw [fx.sc]; exact hg) (by rw [fx.mg]; exact hm) (by decide +kernel)
      (pa_cons (pe_callTy (by rw [← fx.w, ← fx.K]; exact cr_setL fx.calm) (by show X.env.scope.names.lookup ("set" : Str) = _; rw [fx.sc]; exact hg2) (by rw [fx.mg]; exact hm2) (by decide +kernel) (pa_cons (peE fx) pa_nil (hs X.env)) (by decide) (by decide) (hs X.env) rfl) pa_nil (hs2 X.env)) (by decide) (by decide) (hs2 X.env) rfl) fun σ H Q en j q => by
    show tE C e σ H _
    refine h σ H _ en j fun v d k1 H1 l1 j1 r ⟨ns, ed, hz, p⟩ => ?_
    subst ed
    cases r with
    | @lst a xs _ ha hr =>
    refine ⟨a, ns, rfl, hr.ints ▸ hK ▸ sql_of ha, hz, fun l c hl hc => ?_⟩
    refine ⟨l, _, c, rfl, upd_same, fun ms l2 hpw hmem _ hl2 => ?_⟩
    have j2 := j1.new (o := SetO C.w l (fun j => decide (j ∈ ns)) c) hl
    refine q _ _ k1 _ ((l1.trans (.new hl)).trans (.new hl2)) (j2.new hl2) (rep_newL j2 hl2 (RepAll.of_ints ms)) (p ms hpw fun i => ?_)
    rw [hmem i, decide_eq_true_eq]
end

/-! ### len(set(xs)) -/
def rLenSetO (w : World) : List V → Hp → VK → Prop := fun vs H Q => ∃ (a : Addr) (S : Int → Bool) (n : Nat), vs = [V.ref a] ∧ H a = some (SetO w a S n) ∧ ∀ ks : List Int, ks.Nodup → (∀ z, z ∈ ks ↔ S z = true) → ks.length = n → Q (.int (n : Nat)) H
theorem cr_lenSetO {X : Cx} : CallR X (.builtin "len") (rLenSetO X.w) := by
  intro pins s σ H vs us Q I r h
  obtain ⟨a, S, n, rfl, ha, q⟩ := h
  obtain ⟨ob, els, epo, tab, hob, exact1, hdat, gd, nodup, memb, bnd, fit, cnt, ris, led⟩ := setO_get I ha
  rw [Vals.ref1 r]
  have hb : els.size < 4096 := bnd
  refine call_len_set hob exact1 hdat fit (by omega) ⟨.int (n : Nat), H, (I.tok _).tok _, ⟨_, by rw [cnt]⟩, q _ nodup (fun z => (memb z).symm) ?_⟩
  rw [List.length_map, Array.length_toList]; exact cnt
section
variable {F : Fm} {C : Cs} {ρ : Rho} {k : Nat} {Φ : Nat → PyData → Prop} {pos p1 p2 p3 px : Pos} {e : Expr}
theorem we_lenSet (hK : F.K = C.K) (hg : C.sc.names.lookup ("len" : Str) = some .globalImplicit) (hm : C.mg ("len" : Str) = none) (hg2 : C.sc.names.lookup ("set" : Str) = some .globalImplicit) (hm2 : C.mg ("set" : Str) = none)
    (hs : ∀ env : Env, starEach [e] env = (false, eval e env) :: starEach [] env) (hs2 : ∀ env : Env, starEach [.Call (.Name "set" p2) [e] [] p3] env = (false, eval (.Call (.Name "set" p2) [e] [] p3) env) :: starEach [] env)
    (h : WPE F C e ρ k fun k1 x => ∃ ns : List Int, x = .list (ns.map PyData.int) ∧ ns.length ≤ 1000 ∧ ∀ ks : List Int, ks.Nodup → (∀ i, i ∈ ks ↔ i ∈ ns) → Φ k1 (.int (ks.length : Nat))) : WPE F C (.Call (.Name "len" p1) [.Call (.Name "set" p2) [e] [] p3] [] pos) ρ k Φ :=
  of_pe (t := tCB (rLenSetO C.w) (tCons (tCB (rSetL C.K C.w) (tCons (tE C e) tNil)) tNil)) (fun X fx => pe_callB (by rw [← fx.w]; exact cr_lenSetO) (by show X.env.scope.names.lookup ("len" : Str) = _; rw [fx.sc]; exact hg) (by rw [fx.mg]; exact hm) (by decide +kernel)
      (pa_cons (pe_callTy (by rw [← fx.w, ← fx.K]; exact cr_setL fx.calm) (by show X.env.scope.names.lookup ("set" : Str) = _; rw [fx.sc]; exact hg2) (by rw [fx.mg]; exact hm2) (by decide +kernel) (pa_cons (peE fx) pa_nil (hs X.env)) (by decide) (by decide) (hs X.env) rfl) pa_nil (hs2 X.env)) (by decide) (by decide) (hs2 X.env) rfl) fun σ H Q en j q => by
    show tE C e σ H _
    refine h σ H _ en j fun v d k1 H1 l1 j1 r ⟨ns, ed, hz, p⟩ => ?_
    subst ed
    cases r with
    | @lst a xs _ ha hr =>
    refine ⟨a, ns, rfl, hr.ints ▸ hK ▸ sql_of ha, hz, fun l c hl hc => ?_⟩
    refine ⟨l, _, c, rfl, upd_same, fun ks hnd hmem hlen => ?_⟩
    subst hlen
    exact q _ _ k1 _ (l1.trans (.new hl)) (j1.new hl) (.int _) (p ks hnd fun i => by rw [hmem i, decide_eq_true_eq])
end
/-! ### small steps that a walk takes by itself -/
section
variable {a b c d e f g h : PyData} {p : Prop}
theorem tl0 (h : p) : ([] : List PyData).length ≤ sizeLine ∧ p := ⟨Nat.zero_le _, h⟩
theorem tl1 (h : p) : [a].length ≤ sizeLine ∧ p := ⟨by show 1 ≤ sizeLine; decide, h⟩
theorem tl2 (h : p) : [a, b].length ≤ sizeLine ∧ p := ⟨by show 2 ≤ sizeLine; decide, h⟩
theorem tl3 (h : p) : [a, b, c].length ≤ sizeLine ∧ p := ⟨by show 3 ≤ sizeLine; decide, h⟩
theorem tl4 (h : p) : [a, b, c, d].length ≤ sizeLine ∧ p := ⟨by show 4 ≤ sizeLine; decide, h⟩
theorem tl5 (h : p) : [a, b, c, d, e].length ≤ sizeLine ∧ p := ⟨by show 5 ≤ sizeLine; decide, h⟩
theorem tl6 (h : p) : [a, b, c, d, e, f].length ≤ sizeLine ∧ p := ⟨by show 6 ≤ sizeLine; decide, h⟩
theorem tl7 (h : p) : [a, b, c, d, e, f, g].length ≤ sizeLine ∧ p := ⟨by show 7 ≤ sizeLine; decide, h⟩
theorem ii2 {i j : Int} {Θ : Int → Int → Prop} (h : Θ i j) : ∃ x y, PyData.int i = .int x ∧ PyData.int j = .int y ∧ Θ x y := ⟨i, j, rfl, rfl, h⟩
theorem ii1 {i : Int} {Θ : Int → Prop} (h : Θ i) : ∃ x, PyData.int i = .int x ∧ Θ x := ⟨i, rfl, h⟩
theorem ss2 {i j : Str} {Θ : Str → Str → Prop} (h : Θ i j) : ∃ x y, PyData.str i = .str x ∧ PyData.str j = .str y ∧ Θ x y := ⟨i, j, rfl, rfl, h⟩
theorem bb1 {i : Bool} {Θ : Bool → Prop} (h : Θ i) : ∃ x, PyData.bool i = .bool x ∧ Θ x := ⟨i, rfl, h⟩
theorem sqT {ds : List PyData} {Θ : List PyData → Prop} (h : Θ ds) : ∃ xs, seqD (.tuple ds) = some xs ∧ Θ xs := ⟨ds, rfl, h⟩
theorem sqL {ds : List PyData} {Θ : List PyData → Prop} (h : Θ ds) : ∃ xs, seqD (.list ds) = some xs ∧ Θ xs := ⟨ds, rfl, h⟩
theorem shII {i j : Int} (h : p) : SeqAt.shaped (.int i) = true ∧ SeqAt.shaped (.int j) = true ∧ p := ⟨rfl, rfl, h⟩
end
end Dl

namespace Dl
open PySem PySem.Spec PyProof.Rows L2
/-! ### max(xs, default=None), max(xs), ints -/
theorem maxD_ints : ∀ (ns : List Int) (a : Int), ∃ m : Int, PySem.W.maxD (.int a) (ns.map PyData.int) = .int m ∧ m ∈ a :: ns ∧ ∀ y ∈ a :: ns, y ≤ m
  | [], a => ⟨a, rfl, List.mem_cons_self, fun y hy => by simp at hy; omega⟩
  | n :: ns, a => by
    by_cases h : a < n
    · obtain ⟨m, e, hm, hle⟩ := maxD_ints ns n
      refine ⟨m, ?_, ?_, fun y hy => ?_⟩
      · rw [← e]
        unfold PySem.W.maxD
        rw [List.map_cons, List.foldl_cons, PySem.W.dataLt_int, decide_eq_true h]; rfl
      · exact List.mem_cons_of_mem _ hm
      · rcases List.mem_cons.mp hy with rfl | hy
        · have := hle n List.mem_cons_self; omega
        · exact hle y hy
    · obtain ⟨m, e, hm, hle⟩ := maxD_ints ns a
      refine ⟨m, ?_, ?_, fun y hy => ?_⟩
      · rw [← e]
        unfold PySem.W.maxD
        rw [List.map_cons, List.foldl_cons, PySem.W.dataLt_int, decide_eq_false h]; rfl
      · rcases List.mem_cons.mp hm with rfl | hm
        · exact List.mem_cons_self
        · exact List.mem_cons_of_mem _ (List.mem_cons_of_mem _ hm)
      · rcases List.mem_cons.mp hy with rfl | hy
        · exact hle y List.mem_cons_self
        · rcases List.mem_cons.mp hy with rfl | hy
          · have := hle a List.mem_cons_self; omega
          · exact hle y (List.mem_cons_of_mem _ hy)
def rMaxDef (K : PySem.W.Frag) : List V → List V → Hp → VK → Prop := fun vs zs H Q => ∃ (a : Addr) (ns : List Int), vs = [V.ref a] ∧ zs = [V.non] ∧ SqL K H a (ns.map V.int) ∧ (ns = [] → Q .non H) ∧ ∀ m, m ∈ ns → (∀ y, y ∈ ns → y ≤ m) → Q (.int m) H
theorem cr_maxDef {X : Cx} (hc : X.calm = true) (hu : X.A.units + 1 < cLine) : CallRK X (.builtin "max") [Str.ofString "default"] (rMaxDef X.K) := by
  intro pins s σ H vs zs us ws Q I r rz h
  obtain ⟨a, ns, rfl, rfl, hs, h0, h1⟩ := h
  obtain ⟨its, rv, hl, _⟩ := I.list hs
  rw [Vals.ref1 r]
  obtain ⟨u, rfl, ru⟩ := vals1 rz
  obtain rfl : u = Value.none := ru
  have hi := rv.ints
  have hd : PyData.depthAll (ns.map PyData.int) = 0 := (lay_ints ns).2
  refine PySem.W.max_list_default (xs := ns.map PyData.int) (as := []) (I.ok.hd hc) hl.isList (by simpa using hi.reads s.heap) ⟨fun x hx y hy => ?_, fun x hx => ?_⟩ (by rw [hd]; exact hu) (fun e h' tk hk => ?_) (fun y ys i v h' tk bs e hv rd hk => ?_)
  · obtain ⟨p, _, rfl⟩ := List.mem_map.mp hx
    obtain ⟨q, _, rfl⟩ := List.mem_map.mp hy
    rfl
  · obtain ⟨p, _, rfl⟩ := List.mem_map.mp hx
    exact fun z => nomatch z
  · exact ⟨.non, H, I.kept hk, rfl, h0 (List.map_eq_nil_iff.mp e)⟩
  · cases ns with
    | nil => cases e
    | cons n ns =>
      rw [List.map_cons, List.cons.injEq] at e
      obtain ⟨rfl, rfl⟩ := e
      obtain ⟨m, em, hm, hle⟩ := maxD_ints ns n
      rw [em] at rd
      cases rd with
      | int i t => exact ⟨.int m, H, I.kept hk, ⟨_, rfl⟩, h1 m hm hle⟩
section
variable {F : Fm} {C : Cs} {ρ : Rho} {k : Nat} {Φ : Nat → PyData → Prop} {pos p1 p2 p3 px kp : Pos} {e : Expr} {jj : Nat} {P : DE} {x : Str} {rest : List Stmt}
theorem we_maxDef (hK : F.K = C.K) (hg : C.sc.names.lookup ("max" : Str) = some .globalImplicit) (hm : C.mg ("max" : Str) = none)
    (h1 : ∀ env : Env, backTo pos (starEach [e] env) = (false, eval e env) :: backTo pos (starEach [] env) ∧ (backTo pos (starEach [e] env)).any (·.1) = false) (h2 : ∀ env : Env, starEach [e] env = (false, eval e env) :: starEach [] env)
    (h : WPE F C e ρ k fun k1 d => ∃ ns : List Int, d = .list (ns.map PyData.int) ∧ (ns = [] → Φ k1 .none) ∧ ∀ m, m ∈ ns → (∀ y, y ∈ ns → y ≤ m) → Φ k1 (.int m)) :
    WPE F C (.Call (.Name "max" p1) [e] [⟨some "default", .Constant .none jj p2, kp⟩] pos) ρ k Φ :=
  of_pe (t := tCKw (rMaxDef C.K) (tCons (tE C e) tNil) (tCons (tC .non) tNil)) (fun X fx => pe_callBK (id := "max") (by rw [← fx.K]; exact cr_maxDef fx.calm (by have := fx.room.units; omega)) (by show X.env.scope.names.lookup ("max" : Str) = _; rw [fx.sc]; exact hg) (by rw [fx.mg]; exact hm) (by decide +kernel)
      (pa_cons (peE fx) pa_nil (h2 X.env)) (pk_cons pe_non pk_nil) (by decide) (by decide) (h1 X.env).1 (h1 X.env).2) fun σ H Q en j q => by
    show tE C e σ H _
    refine h σ H _ en j fun v d k1 H1 l1 j1 r ⟨ns, ed, p0, p⟩ => ?_
    subst ed
    cases r with
    | @lst a xs _ ha hr =>
    exact ⟨a, ns, rfl, rfl, hr.ints ▸ hK ▸ sql_of ha, fun e0 => q _ _ k1 H1 l1 j1 .non (p0 e0), fun m hm1 hle => q _ _ k1 H1 l1 j1 (.int m) (p m hm1 hle)⟩
theorem we_max (hK : F.K = C.K) (hg : C.sc.names.lookup ("max" : Str) = some .globalImplicit) (hm : C.mg ("max" : Str) = none) (hs : ∀ env : Env, starEach [e] env = (false, eval e env) :: starEach [] env) (h : WPE F C e ρ k fun k1 x => ∃ ns : List Int, x = .list (ns.map PyData.int) ∧ 0 < ns.length ∧ ∀ m, m ∈ ns → (∀ y, y ∈ ns → y ≤ m) → Φ k1 (.int m)) : WPE F C (.Call (.Name "max" p1) [e] [] pos) ρ k Φ :=
  we_callB (id := "max") (fun X fx => maxK fx) hg hm (by decide +kernel) (wa_one hs (h.imp fun k1 x ⟨ns, e, hp, p⟩ => fun H vs Q j r q => by
    subst e
    cases r with
    | cons r1 r2 =>
    cases r2
    cases r1 with
    | @lst a xs _ ha hr => exact ⟨a, ns, rfl, hr.ints ▸ hK ▸ sql_of ha, hp, fun m hm hle => q _ _ k1 H .refl j (.int _) (p m hm hle)⟩)) (by decide) (by decide) hs
end

section
variable {F : Fm} {C : Cs} {ρ : Rho} {k : Nat} {P : DE} {pos p2 px : Pos} {a b : Expr} {x : Str} {rest : List Stmt}
/-- x = xs + ys, lists: the new list is the def's own -/
theorem wb_ownCat (i : Nat) (t : Tgt C i x) (hi : i < ρ.length) (hs : ∀ env : Env, env.scope = C.sc → swapsWith (.BinOp a .Add b p2) (some (.Name x px)) pos.line env = pure false)
    (h : WPE F C a ρ k fun k1 u => WPE F C b ρ k1 fun k2 v => ∃ ds es, u = .list ds ∧ v = .list es ∧ ds.length + es.length ≤ 1000000 ∧
      ∀ o, WPB (F.ext o) C rest (ρ.set i (.own o (ds ++ es))) k2 { nx := fun _ _ => False, rt := P.rt, bk := fun _ _ => False, ct := fun _ _ => False }) : WPB F C (.Assign [.Name x px] (.BinOp a .Add b p2) pos :: rest) ρ k P :=
  of_pb (fun X fx => pss_cons (ps_set (by rw [fx.N]; exact t.hN) (by rw [fx.N]; exact t.hi) (by rw [fx.sc]; exact t.hx) (pe_op op_cat (peE fx) (peE fx)) (hs X.env fx.sc) (by rw [fx.fn, fx.sc]; exact t.hf)) (pbB fx)) fun σ H E en j q1 q2 q3 q4 => by
    refine h σ H _ en j fun vx u k1 H1 l1 j1 r1 hx => hx σ H1 _ (en.le l1) j1 fun vy v k2 H2 l2 j2 r2 ⟨ds, es, e1, e2, hz, p⟩ => ?_
    subst e1 e2
    have r1' := r1.le l2.lz
    cases r1' with
    | @lst pa xs _ ha hr =>
    cases r2 with
    | @lst pb ys _ hb hr2 =>
    refine ⟨pa, pb, xs, ys, rfl, rfl, ha.1, hb.1, by rw [hr.length, hr2.length]; exact Nat.le_trans hz (by decide), fun o no => ?_⟩
    have hM : ¬ F.M o := fun z => F.gl _ _ j2.g o z no
    have h0 : F.H0 o = none := j2.h0 hM no
    have en2 : EnvOk (F.ext o) (upd H2 o (.lst (xs ++ ys))) (σ.set i (some (.ref o))) (ρ.set i (.own o (ds ++ es))) :=
      (((en.le l1).le l2).ext no).set (sv := .own o (ds ++ es)) ⟨rfl, .inr rfl, hM, h0, xs ++ ys, upd_same, (hr.append hr2).ext no⟩
    refine p o (σ.set i (some (.ref o))) (upd H2 o (.lst (xs ++ ys))) E en2 ((j2.new no).ext (lv_new fun _ z => nomatch z)) ?_ ?_ ?_ ?_
    · exact fun _ _ _ _ _ _ _ z => z.elim
    · exact fun v d k' H' j' r' p => q2 v d k' H' j'.unext r'.unext p
    · exact fun _ _ _ _ _ _ _ z => z.elim
    · exact fun _ _ _ _ _ _ _ z => z.elim
/-- x = xs + ys, a statement that may change x, the rest with x as data -/
theorem wb_ownCat1 (i : Nat) {st : Stmt} (t : Tgt C i x) (hi : i < ρ.length) (hs : ∀ env : Env, env.scope = C.sc → swapsWith (.BinOp a .Add b p2) (some (.Name x px)) pos.line env = pure false)
    (h : WPE F C a ρ k fun k1 u => WPE F C b ρ k1 fun k2 v => ∃ ds es, u = .list ds ∧ v = .list es ∧ ds.length + es.length ≤ 1000000 ∧
      ∀ o, WPS (F.ext o) C st (ρ.set i (.own o (ds ++ es))) k2 { nx := fun k' ρ' => ∃ ys, ρ'[i]? = some (.own o ys) ∧ (ρ'.set i .un).all plainB = true ∧ WPB F C rest (ρ'.set i (.d (.list ys))) k' P, rt := P.rt, bk := fun _ _ => False, ct := fun _ _ => False }) :
    WPB F C (.Assign [.Name x px] (.BinOp a .Add b p2) pos :: st :: rest) ρ k P :=
  of_pb (fun X fx => pss_cons (ps_set (by rw [fx.N]; exact t.hN) (by rw [fx.N]; exact t.hi) (by rw [fx.sc]; exact t.hx) (pe_op op_cat (peE fx) (peE fx)) (hs X.env fx.sc) (by rw [fx.fn, fx.sc]; exact t.hf)) (pss_cons (psS fx) (pbB fx))) fun σ H E en j q1 q2 q3 q4 => by
    refine h σ H _ en j fun vx u k1 H1 l1 j1 r1 hx => hx σ H1 _ (en.le l1) j1 fun vy v k2 H2 l2 j2 r2 ⟨ds, es, e1, e2, hz, p⟩ => ?_
    subst e1 e2
    have r1' := r1.le l2.lz
    cases r1' with
    | @lst pa xs _ ha hr =>
    cases r2 with
    | @lst pb ys _ hb hr2 =>
    refine ⟨pa, pb, xs, ys, rfl, rfl, ha.1, hb.1, by rw [hr.length, hr2.length]; exact Nat.le_trans hz (by decide), fun o no => ?_⟩
    have hM : ¬ F.M o := fun z => F.gl _ _ j2.g o z no
    have hS : ¬ F.S o := j2.fresh no
    have h0 : F.H0 o = none := j2.h0 hM no
    have en2 : EnvOk (F.ext o) (upd H2 o (.lst (xs ++ ys))) (σ.set i (some (.ref o))) (ρ.set i (.own o (ds ++ es))) :=
      (((en.le l1).le l2).ext no).set (sv := .own o (ds ++ es)) ⟨rfl, .inr rfl, hM, h0, xs ++ ys, upd_same, (hr.append hr2).ext no⟩
    have lz0 : Lz F H H2 := l1.lz.trans l2.lz
    have lzo : ∀ H', Lz (F.ext o) (upd H2 o (.lst (xs ++ ys))) H' → Lz F H H' := fun H' lz b u hb e => by
      have e2 := lz0 b u hb e
      have ne : b ≠ o := ne_of_none e2 no
      exact lz b u (fun z => z.elim (fun y => y.elim (fun q => hb (.inl q)) ne) fun q => hb (.inr q)) (by rw [upd_ne ne]; exact e2)
    refine p o (σ.set i (some (.ref o))) (upd H2 o (.lst (xs ++ ys))) _ en2 ((j2.new no).ext (lv_new fun _ z => nomatch z)) ?_ ?_ ?_ ?_
    · rintro ρ' σ' k' H' lz en' j' ⟨zs, hown, hpl, hrest⟩
      have hlz := lzo H' lz
      obtain ⟨hσ', _, _, _, vs, hvs, rvs⟩ := en'.own hown
      have en3 : EnvOk F H' σ' (ρ'.set i (.d (.list zs))) := by
        intro m sv em
        by_cases hj : i = m
        · subst hj
          have hl : i < ρ'.length := (List.getElem?_eq_some_iff.mp hown).1
          rw [List.getElem?_set_self hl] at em
          cases em
          exact ⟨_, hσ', _, rfl, .lst ⟨hvs, hS⟩ rvs.unext⟩
        · rw [List.getElem?_set_ne hj] at em
          obtain ⟨y, qy, sy⟩ := en' m sv em
          refine ⟨y, qy, ?_⟩
          cases sv with
          | un => trivial
          | d d => obtain ⟨v, z, r⟩ := sy; exact ⟨v, z, r.unext⟩
          | raw v => exact sy
          | own o' xs' => exact (noOwn_of hpl m o' xs' (Ne.symm hj) em).elim
      exact hrest σ' H' E en3 j'.unext (fun ρ2 σ2 k2 H2 l2 => q1 ρ2 σ2 k2 H2 (hlz.trans l2)) q2 (fun ρ2 σ2 k2 H2 l2 => q3 ρ2 σ2 k2 H2 (hlz.trans l2)) (fun ρ2 σ2 k2 H2 l2 => q4 ρ2 σ2 k2 H2 (hlz.trans l2))
    · exact fun v d k' H' j' r' p => q2 v d k' H' j'.unext r'.unext p
    · exact fun _ _ _ _ _ _ _ z => z.elim
    · exact fun _ _ _ _ _ _ _ z => z.elim
end
end Dl

namespace Dl
open PySem PySem.Spec PyProof.Rows L2
section
variable {F : Fm} {C : Cs} {ρ : Rho} {k : Nat} {Φ : Nat → PyData → Prop}
/-! ### comprehensions over range(a, b) -/
theorem we_lcR2 (i : Nat) {ta tb : TE} {tt : TT} {te : TE}
    (h : WE F ta ρ k fun k1 d => WE F tb ρ k1 fun k2 d' => ∃ (I : Nat → Nat → List PyData → Prop) (u z : Int), d = .int u ∧ d' = .int z ∧ (-1000000 ≤ u ∧ z ≤ 1000000 ∧ u ≤ 1000000 ∧ -1000000 ≤ z) ∧ I 0 k2 [] ∧ (∀ D (j : Nat) k' acc, j < (z - u).toNat → I j k' acc → WT (F.ext D) tt (ρ.set i (.d (.int (u + j)))) k' fun k1 b => if b = true then WE (F.ext D) te (ρ.set i (.d (.int (u + j)))) k1 fun k2 z => I (j + 1) k2 (acc ++ [z]) else I (j + 1) k1 acc) ∧ (∀ k' acc, I (z - u).toNat k' acc → Φ k' (.list acc))) : WE F (tLc (iRng2 (tCons ta (tCons tb tNil))) (gName i) tt te [i]) ρ k Φ := fun σ H Q en j q => by
  show ta σ H _
  refine h σ H _ en j fun va da k1 H1 l1 j1 r1 hh => ?_
  show tb σ H1 _
  refine hh σ H1 _ (en.le l1) j1 fun vb db k2 H2 l2 j2 r2 hh => ?_
  obtain ⟨I, u, z, e1, e2, hz, i0, hstep, hend⟩ := hh
  subst e1 e2
  cases r1
  cases r2
  refine ⟨u, z, rfl, ⟨by omega, by omega, by omega, by omega⟩, fun D hD => ?_⟩
  have en1 := (en.le l1).le l2
  have l12 := l1.trans l2
  have hM : ¬ F.M D := fun z => F.gl _ _ j2.g D z hD
  have hS : ¬ F.S D := j2.fresh hD
  have h0 : F.H0 D = none := j2.h0 hM hD
  have hne : ∀ (i : Nat) o xs, ρ[i]? = some (SV.own o xs) → o ≠ D := fun i o xs e => by
    obtain ⟨x, _, s⟩ := en1 i _ e
    obtain ⟨_, _, _, _, vs, h1, _⟩ := s
    exact ne_of_none h1 hD
  refine lc_range (lo := u) (n := (z - u).toNat) (fun n H' => ∃ k' vs acc, acc.length ≤ n ∧ EnvOk (F.ext D) H' σ ρ ∧ J (F.ext D) k' H' ∧ LeD (F.ext D) D (upd H2 D (.lst [])) H' ∧ H' D = some (.lst vs) ∧ RpAll (F.ext D) H' vs acc ∧ I n k' acc)
    ⟨k2, [], [], Nat.le_refl _, en1.ext hD, (j2.new hD).ext (lv_new fun _ z => nomatch z), .refl, upd_same, .nil, i0⟩ ?_ ?_
  · rintro n H' hn ⟨k', vs, acc, hle, en', j', ld, hd, ra, ii⟩
    show (wipe ((wipe σ [i]).set i (some (.int (u + n)))) [i] = wipe σ [i] ∧ _)
    rw [set_wipe]
    refine ⟨wipe_set σ, ?_⟩
    refine lc_turn (F := F.ext D) (I := fun k acc => I (n + 1) k acc) hM (.inr rfl) h0 (en'.set (sv := .d (.int (u + n))) ⟨_, rfl, .int _⟩) j' hd ra (Nat.lt_of_le_of_lt (show acc.length ≤ 2000000 by omega) (by decide)) (hstep D n k' acc hn ii) fun H2 k2 vs2 acc2 hl2 ld2 hd2 ra2 j2 i2 => ?_
    exact ⟨k2, vs2, acc2, by omega, en'.ld ld2 (.inr rfl) hne, j2, ld.trans ld2, hd2, ra2, i2⟩
  · rintro H' ⟨k', vs, acc, hle, en', j', ld, hd, ra, ii⟩
    refine q (.ref D) (.list acc) k' H' ?_ j'.unext (.lst ⟨hd, hS⟩ ra.unext) (hend k' acc ii)
    exact fun b o n e => ld b o n (ne_of_none (l12 b o n e) hD) (by rw [upd_ne (ne_of_none (l12 b o n e) hD)]; exact l12 b o n e)
end
section
variable {F : Fm} {C : Cs} {ρ : Rho} {k : Nat} {Φ : Nat → PyData → Prop} {P : DE} {pos spos pr pr2 p2 : Pos} {elt a b e : Expr} {scope : Scope}
theorem we_mR2 (g : Int → PyData) (i : Nat) {x : Str} {px : Pos} (bk : Blk C scope i x) (hg : C.sc.names.lookup ("range" : Str) = some .globalImplicit) (hm : C.mg ("range" : Str) = none) (hse : ∀ env : Env, starEach [a, b] env = [(false, eval a env), (false, eval b env)]) (hse2 : ∀ env : Env, starEach [b] env = [(false, eval b env)]) (hfs : ∀ (env : Env) (v : Value), foldedSetIterable (.Call (.Name "range" pr) [a, b] [] pr2) env v = pure v)
    (h : WPE F C a ρ k fun k1 d => WPE F C b ρ k1 fun k2 d' => ∃ (u z : Int), d = .int u ∧ d' = .int z ∧ (-1000000 ≤ u ∧ z ≤ 1000000 ∧ u ≤ 1000000 ∧ -1000000 ≤ z) ∧ (∀ D (j : Int), u ≤ j → j < z → WPE (F.ext D) (C.blk scope) elt (ρ.set i (.d (.int j))) k2 fun k3 y => k3 = k2 ∧ y = g j) ∧ Φ k2 (.list ((rg (z - u)).map fun j => g (u + j)))) :
    WPE F C (.ListComp elt [⟨.Name x px, .Call (.Name "range" pr) [a, b] [] pr2, [], 0⟩] scope pos) ρ k Φ :=
  of_pe (fun X fx => pe_lcX fx bk (pi_range2 (by show X.env.scope.names.lookup ("range" : Str) = _; rw [fx.sc]; exact hg) (by rw [fx.mg]; exact hm) (pa_cons (peE fx) (pa_cons (peE fx) pa_nil (hse2 X.env)) (by rw [hse X.env, hse2 X.env])) (hse X.env) (hse2 X.env)) (fun _ _ => pts_nil) hfs) (we_lcR2 i (h.imp fun k1 d hh => hh.imp fun k2 d' ⟨u, z, e1, e2, hz, hs, he⟩ =>
    ⟨fun j k' acc => k' = k2 ∧ acc = (rg (j : Int)).map fun j => g (u + j), u, z, e1, e2, hz, ⟨rfl, rfl⟩, fun D j k' acc hj ⟨ek, ea⟩ => wt_yes (by
      rw [if_pos rfl, ek]
      refine WE.imp (hs D (u + j) (by omega) (by omega)) fun k3 y ⟨e3, ey⟩ => ⟨e3, ?_⟩
      rw [ea, ey]
      show _ = (rg ((j : Int) + 1)).map _
      rw [rg_succ, List.map_append]; rfl), fun k' acc ⟨ek, ea⟩ => by
      rw [ek, ea]
      by_cases hp : 0 ≤ z - u
      · rw [Int.toNat_of_nonneg hp]; exact he
      · have e0 : rg (z - u) = [] := by unfold rg; rw [show (z - u).toNat = 0 by omega]; rfl
        rw [show (z - u).toNat = 0 by omega]
        rw [e0] at he; exact he⟩))
/-- xs * n, lists -/
theorem we_repL (h : WPE F C a ρ k fun k1 x => WPE F C b ρ k1 fun k2 y => ∃ ds n, x = .list ds ∧ y = .int n ∧ (-1000 ≤ n ∧ n ≤ 1000) ∧ ds.length ≤ 1000 ∧ Φ k2 (.list (List.replicate n.toNat ds).flatten)) : WPE F C (.BinOp a .Mult b pos) ρ k Φ :=
  we_bin (fun X _ => op_rep) (h.imp fun k1 x h1 => h1.imp fun k2 y ⟨ds, n, e1, e2, hz, hl, p⟩ => by
    subst e1 e2
    intro H vx vy Q j rx ry q
    cases rx with
    | @lst pa xs _ ha hr =>
    cases ry
    refine ⟨pa, n, xs, rfl, rfl, ha.1, by omega, by omega, ?_, fun l hl => q _ _ k2 _ (.new hl) (j.new hl) (rep_newL j hl ?_) p⟩
    · rw [hr.length]
      exact Nat.le_trans (Nat.mul_le_mul hl (show n.toNat ≤ 1000 by omega)) (by decide)
    · have : ∀ m : Nat, RpAll F H (List.replicate m xs).flatten (List.replicate m ds).flatten := by
        intro m
        induction m with
        | zero => exact .nil
        | succ m ih =>
          rw [List.replicate_succ, List.replicate_succ, List.flatten_cons, List.flatten_cons]
          exact hr.append ih
      exact this _)
/-- xs[:e], a list, the bound any int expression -/
theorem we_sliceE (hK : F.K = C.K) (h : WPE F C a ρ k fun k1 x => WPE F C e ρ k1 fun k2 y => ∃ ds, ∃ m : Nat, x = .list ds ∧ y = .int (m : Int) ∧ Φ k2 (.list (ds.take m))) : WPE F C (.Subscript a (.Slice none (some e) none p2) pos) ρ k Φ :=
  of_pe (fun X fx => pe_slice (slLK fx) (peE fx) po_none (po_some (peE fx))) fun σ H Q en j q => by
    show tE C a σ H _
    refine h σ H _ en j fun v d k1 H1 l1 j1 r hx => ?_
    show tE C e σ H1 _
    refine hx σ H1 _ (en.le l1) j1 fun vy y k2 H2 l2 j2 r2 ⟨ds, m, e1, e2, p⟩ => ?_
    subst e1 e2
    have r' := r.le l2.lz
    cases r' with
    | @lst a xs _ ha hr =>
    cases r2
    refine ⟨(m : Int), rfl, a, xs, rfl, hK ▸ sql_of ha, fun l hl => ?_⟩
    have ec : cutV xs none (some (m : Int)) = xs.take m := by
      unfold cutV
      rw [HT.sIx_nat, HT.sIx_none, List.drop_zero, Nat.sub_zero, List.take_eq_take_iff]
      omega
    rw [ec]
    exact q _ _ k2 _ ((l1.trans l2).trans (.new hl)) (j2.new hl) (rep_newL j2 hl (hr.take m)) p
end
end Dl

namespace Dl
open PySem PySem.Spec PyProof.Rows L2
/-! ### the laws' draws: a list [cells, count, rests] -/
def DqM (st a : Addr) (b : Addr) : Prop := b = st ∨ b = a
def DqG (st a : Addr) (k : Nat) (H : Hp) : Prop := ∃ (cells : List Int) (n : Int), H st = some (.lst [.ref a, .int n]) ∧ H a = some (.lst (cells.map V.int)) ∧ cells.length ≤ 63 ∧ 0 ≤ n ∧ n + k ≤ 1000000
theorem DqG.weak {st a : Addr} {k k' : Nat} {H : Hp} (h : DqG st a k H) (hk : k' ≤ k) : DqG st a k' H := by
  obtain ⟨c, n, h1, h2, h3, h4, h5⟩ := h
  exact ⟨c, n, h1, h2, h3, h4, by omega⟩
theorem DqG.at {st a : Addr} {k : Nat} {H H' : Hp} (h : DqG st a k H) (e : ∀ b, DqM st a b → H' b = H b) : DqG st a k H' := by
  obtain ⟨c, n, h1, h2, h3⟩ := h
  exact ⟨c, n, (e st (.inl rfl)).trans h1, (e a (.inr rfl)).trans h2, h3⟩
theorem DqG.live {st a : Addr} {k : Nat} {H : Hp} (h : DqG st a k H) (b : Addr) (hb : DqM st a b) : H b ≠ none := by
  obtain ⟨c, n, h1, h2, h3⟩ := h
  rcases hb with rfl | rfl
  · rw [h1]; exact fun z => nomatch z
  · rw [h2]; exact fun z => nomatch z
theorem DqG.lv {st a : Addr} {k : Nat} {H : Hp} (h : DqG st a k H) (b : Addr) (hb : DqM st a b) : Lv H b := by
  obtain ⟨c, n, h1, h2, h3⟩ := h
  rcases hb with rfl | rfl
  · exact lv_lst h1
  · exact lv_lst h2
def dqFm (K : PySem.W.Frag) (S : Addr → Prop) (H : Hp) (st a : Addr) : Fm where
  K := K
  S := fun b => S b ∨ DqM st a b
  M := DqM st a
  H0 := H
  G := DqG st a
  ms := fun b h => .inr h
  gm := fun k H H' g e _ => g.at e
  gl := fun k H g b hb => g.live b hb
/-- the frame knows the draws -/
structure IsDq (F : Fm) (st a : Addr) : Prop where
  M : F.M = DqM st a
  G : F.G = DqG st a
theorem IsDq.ext {F : Fm} {st a : Addr} (h : IsDq F st a) (D : Addr) : IsDq (F.ext D) st a := ⟨h.M, h.G⟩
theorem isDq_fm {K : PySem.W.Frag} {S : Addr → Prop} {H : Hp} {st a : Addr} : IsDq (dqFm K S H st a) st a := ⟨rfl, rfl⟩
/-- a def that draws: at most `cost` draws; Pre of its data, R what it may hand back -/
def spDrawQ (K : PySem.W.Frag) (cost : Nat) (Pre : List PyData → Prop) (R : Rel) : Sp := fun vs H Q _ => ∃ (S : Addr → Prop) (st a : Addr) (vs' : List V) (ds : List PyData) (k : Nat), vs = .ref st :: vs' ∧ DqG st a (k + cost) H ∧ (∀ b, S b → Lv H b) ∧ (∀ b, DqM st a b → S b) ∧ RepAll K S H vs' ds ∧ Pre ds ∧
  ∀ v d H', (∀ b o, ¬ DqM st a b → H b = some o → H' b = some o) → DqG st a k H' → Rep K S H' v d → R ds d → Q v H'
structure DFnQ (P : Program) (w : World) (K : PySem.W.Frag) (mg : Str → Option Value) (base : Heap) (lvl : Nat) (x : Str) (cost : Nat) (Pre : List PyData → Prop) (R : Rel) : Prop where
  ex : ∃ (fa : Addr) (fd : FuncData) (ps : List Str), FnG P w K mg base lvl fa fd ps (spDrawQ K cost Pre R) ∧ mg x = some (.ref fa) ∧ PySem.W.keepIn K (.ref fa) = true ∧ L2.Binds K fd ps []
section
variable {P : Program} {w : World} {K : PySem.W.Frag} {mg : Str → Option Value} {base : Heap}
def drawFmQ (K : PySem.W.Frag) (S : Addr → Prop) (H : Hp) (st a : Addr) (hS : ∀ b, DqM st a b → S b) : Fm where
  K := K
  S := S
  M := DqM st a
  H0 := H
  G := DqG st a
  ms := hS
  gm := fun k H H' g e _ => g.at e
  gl := fun k H g b hb => g.live b hb
theorem draw_okQ {x qual : Str} {st : Stmt} {f : Addr} {fd : FuncData} {N ps : List Str} {k cost : Nat} {Pre : List PyData → Prop} {R : Rel} (Fn : Fun K x qual st f fd) (Sc : FnScope N ps (defScope st)) (len : ∀ ds, Pre ds → ds.length + 1 = ps.length)
    (body : ∀ (F : Fm) (s a : Addr) (ds : List PyData) (kk : Nat), IsDq F s a → F.K = K → Pre ds → WPB F (bodyCs P w K mg base N (defScope st) k) (defBody st) (.raw (.ref s) :: (ds.map SV.d ++ List.replicate (N.length - (ds.length + 1)) SV.un)) (kk + cost) { nx := fun k' _ => kk ≤ k' ∧ R ds .none, rt := fun k' d => kk ≤ k' ∧ R ds d, bk := fun _ _ => False, ct := fun _ _ => False }) :
    FnG P w K mg base (k + 1) f fd ps (spDrawQ K cost Pre R) := by
  refine FnG.of_body Fn Sc (fun vs H Q E h => ?_) (fun cdv A outer s H vs Q hgd hr h => ?_)
  · obtain ⟨S, st, a, vs', ds, k, rfl, _, _, _, rr, hp, _⟩ := h
    rw [List.length_cons, rr.length, len ds hp]
  · obtain ⟨S, st, a, vs', ds, kk, rfl, g, al, hS, rr, hp, q⟩ := h
    refine ⟨_, pbB (fits_body hgd hr), ?_⟩
    refine body (drawFmQ K S H st a hS) st a ds kk ⟨rfl, rfl⟩ rfl hp (L2.start N (.ref st :: vs')) H _ (env_raw (F := drawFmQ K S H st a hS) rr) ⟨g, fun b o _ e => e, al⟩ ?_ ?_ ?_ ?_
    · exact fun ρ' σ' k' H' _ _ j' e => q _ .none H' (fun b o n h => j'.le b o (fun z => z.elim n id) h) (DqG.weak j'.g e.1) .non e.2
    · exact fun v d' k' H' j' r' e => q v d' H' (fun b o n h => j'.le b o (fun z => z.elim n id) h) (DqG.weak j'.g e.1) r' e.2
    · exact fun _ _ _ _ _ _ _ z => z.elim
    · exact fun _ _ _ _ _ _ _ z => z.elim
end
section
variable {F : Fm} {C : Cs} {ρ : Rho} {k : Nat} {Φ : Nat → PyData → Prop} {es : List Expr} {pos p py : Pos} {x y : Str}
/-- a call of a def that draws, the state by its name -/
theorem we_callQ {s a : Addr} (dk : IsDq F s a) {j cost : Nat} {Pre : List PyData → Prop} {R : Rel} (hF : DFnQ C.P C.w C.K C.mg C.base j x cost Pre R) (hl : j ≤ C.lvl) (hK : F.K = C.K) (i : Nat) (hg : C.sc.names.lookup x = some .globalImplicit) (hN : C.N[i]? = some y) (hv : Vis C.sc y) (hr : ρ[i]? = some (.raw (.ref s)))
    (h : WPA F C es ρ k fun k1 ds => Pre ds ∧ ∃ k2, k1 = k2 + cost ∧ ∀ d, R ds d → Φ k2 d) (hdb : (x == ("__debug__" : Str)) = false := by decide) (hd : (y == ("__debug__" : Str)) = false := by decide) (hcd : (y == ("__classdict__" : Str)) = false := by decide)
    (hss : ∀ env : Env, starEach (.Name y py :: es) env = (false, eval (.Name y py) env) :: starEach es env := by intro _; rfl) (hpl : ∀ env : Env, ((backTo pos (starEach es env)).any fun x => x.fst) = false := by intro _; rfl) :
    WPE F C (.Call (.Name x p) (.Name y py :: es) [] pos) ρ k Φ := by
  obtain ⟨fa, fd, ps, G, hm, kp, hb⟩ := hF.ex
  refine of_pe (fun X fx => pe_callF fx G hl hg hm kp hb (pa_cons (pe_var (i := i) (by rw [fx.N]; exact hN) (by rw [fx.sc]; exact hv) hd hcd) (paA fx) (hss X.env)) hdb hss hpl) fun σ H Q en jj q => ?_
  refine ⟨_, en.raw hr, ?_⟩
  refine h σ H _ en jj fun vs ds k1 H1 l1 j1 r1 ⟨hp, k2, e, hf⟩ => ?_
  subst e
  refine ⟨F.S, s, a, vs, ds, k2, rfl, dk.G ▸ j1.g, j1.al, fun b hb => F.ms b (dk.M ▸ hb), hK ▸ r1, hp, fun v d H' keep g rv hR => ?_⟩
  have le : Le F H1 H' := fun b o n e => keep b o (fun z => n (.inl (by rw [dk.M]; exact z))) e
  refine q v d k2 H' (l1.trans le) ⟨by rw [dk.G]; exact g, fun b o n e => le b o n (j1.le b o n e), fun b hb => ?_⟩ (by show Rep F.K F.S H' v d; rw [hK]; exact rv) (hf d hR)
  by_cases hM : DqM s a b
  · exact g.lv b hM
  · exact (j1.al b hb).keep fun o e => keep b o hM e
end
/-! ### the law whose first statement makes the deck -/
def spDeck (K : PySem.W.Frag) : Sp := fun vs H Q _ => ∃ (sc : Addr) (ns : List Int), vs = [.ref sc] ∧ SqL K H sc (ns.map V.int) ∧ ns.length ≤ 63 ∧
  ∀ H' st a, Same H H' → H st = none → H a = none → DqG st a 900000 H' → Q (.ref st) H'
section
variable {P : Program} {w : World} {K : PySem.W.Frag} {mg : Str → Option Value} {base : Heap}
theorem lawQ_ok {qual : Str} {st : Stmt} {f : Addr} {fd : FuncData} {N : List Str} {k j : Nat} {xs xd xt : Str} {p1 p2 p3 p4 p5 : Pos} {rest : List Stmt} (Fn : Fun K "law" qual st f fd) (Sc : FnScope N [xs] (defScope st)) (hbody : defBody st = .Assign [.Name xt p1] (.Call (.Name xd p2) [.Name xs p3] [] p4) p5 :: rest)
    (gd : ∃ (fa : Addr) (fdd : FuncData), FnG P w K mg base j fa fdd [xs] (spDeck K) ∧ mg xd = some (.ref fa) ∧ PySem.W.keepIn K (.ref fa) = true ∧ L2.Binds K fdd [xs] []) (hj : j ≤ k)
    (h0 : N[0]? = some xs) (h1 : N[1]? = some xt) (vs : Vis (defScope st) xs) (lt : Loc (defScope st) xt) (gl : (defScope st).names.lookup xd = some .globalImplicit)
    (hsw : ∀ env : Env, swapsWith (.Call (.Name xd p2) [.Name xs p3] [] p4) (some (.Name xt p1)) p5.line env = pure false)
    (body : ∀ (F : Fm) (s a : Addr), IsDq F s a → F.K = K → WPB F (bodyCs P w K mg base N (defScope st) k) rest (.un :: .raw (.ref s) :: List.replicate (N.length - 2) SV.un) 900000 { nx := fun _ _ => False, rt := fun _ d => d = .bool true, bk := fun _ _ => False, ct := fun _ _ => False })
    (hdb : (xd == ("__debug__" : Str)) = false := by decide) (hdb2 : (xs == ("__debug__" : Str)) = false := by decide) (hcd : (xs == ("__classdict__" : Str)) = false := by decide) : FnG P w K mg base (k + 1) f fd [xs] (spLaw K) := by
  obtain ⟨fa, fdd, G, hm, kp, hb⟩ := gd
  refine FnG.of_body Fn Sc (fun vs H Q E h => ?_) (fun cdv A outer s H vs Q hgd hr h => ?_)
  · obtain ⟨sc, ns, rfl, _⟩ := h
    rfl
  obtain ⟨sc, ns, rfl, hS, hlen, q⟩ := h
  have fx := fits_body (CX := CX0) (P := P) (w := w) (K := K) (mg := mg) (base := base) (N := N) (outer := outer) (s := s) (H := H) (E := E0) hgd hr
  rw [hbody]
  have hN0 : 2 ≤ N.length := by
    have := (List.getElem?_eq_some_iff.mp h1).1
    omega
  refine ⟨_, pss_cons (ps_set (i := 1) Sc.nd h1 lt (FnG.pe G hgd (hr.mono hj) hb gl hm kp (pa_cons (pe_var (i := 0) h0 vs hdb2 hcd) pa_nil) hdb rfl rfl) (hsw _) (.inl rfl)) (pbB fx), ?_⟩
  have est : L2.start N [.ref sc] = some (.ref sc) :: none :: List.replicate (N.length - 2) none := by
    unfold L2.start
    show some (V.ref sc) :: List.replicate (N.length - 1) none = _
    rw [show N.length - 1 = (N.length - 2) + 1 by omega]; rfl
  rw [est]
  refine ⟨.ref sc, rfl, sc, ns, rfl, hS, hlen, fun H' st a sm hst ha g => ?_⟩
  refine body (drawFmQ K (DqM st a) H' st a (fun b hb => hb)) st a ⟨rfl, rfl⟩ rfl (some (.ref sc) :: some (.ref st) :: List.replicate (N.length - 2) none) H' _ (fun i sv e => ?_) ⟨g, fun b o _ e => e, fun b hb => g.lv b hb⟩ ?_ ?_ ?_ ?_
  · match i, e with
    | 0, e => cases e; exact ⟨_, rfl, trivial⟩
    | 1, e => cases e; exact ⟨_, rfl, rfl⟩
    | i + 2, e =>
      have e' : (List.replicate (N.length - 2) SV.un)[i]? = some sv := e
      rw [List.getElem?_replicate] at e'
      by_cases hi : i < N.length - 2
      · rw [if_pos hi] at e'
        cases e'
        exact ⟨none, by show (List.replicate (N.length - 2) none)[i]? = _; rw [List.getElem?_replicate, if_pos hi], trivial⟩
      · rw [if_neg hi] at e'; cases e'
  · exact fun _ _ _ _ _ _ _ z => z.elim
  · exact fun v d k' H2 _ rv e => by subst e; cases rv; exact q H2
  · exact fun _ _ _ _ _ _ _ z => z.elim
  · exact fun _ _ _ _ _ _ _ z => z.elim
end
end Dl

namespace Sb
/-! ### sets of switches as numbers; boxes as tests on numbers below 2 ^ n; all by the last switch -/
def cnt : Nat → (Nat → Bool) → Nat
  | 0, p => if p 0 = true then 1 else 0
  | n + 1, p => cnt n p + cnt n fun i => p (i + 2 ^ n)
def up (n : Nat) (A : Nat → Bool) : Nat → Bool := fun c => A (c + 2 ^ n)
def oj (n : Nat) (A : Nat → Bool) : Nat → Bool := fun c => A c || A (c + 2 ^ n)
def aj (n : Nat) (A : Nat → Bool) : Nat → Bool := fun c => A c && A (c + 2 ^ n)
def sh : Nat → (Nat → Bool) → Nat → Bool
  | 0, A, _ => A 0
  | n + 1, A, s => if s < 2 ^ n then sh n (oj n A) s else sh n A (s - 2 ^ n) && sh n (up n A) (s - 2 ^ n)
def so : Nat → (Nat → Bool) → Nat → Bool
  | 0, A, _ => A 0
  | n + 1, A, s => if s < 2 ^ n then so n A s || so n (up n A) s else so n (aj n A) (s - 2 ^ n)
theorem cnt_congr : ∀ (n : Nat) {p q : Nat → Bool}, (∀ i < 2 ^ n, p i = q i) → cnt n p = cnt n q
  | 0, p, q, h => by unfold cnt; rw [h 0 (by decide)]
  | n + 1, p, q, h => by
    have e : 2 ^ (n + 1) = 2 ^ n + 2 ^ n := by rw [Nat.pow_succ]; omega
    unfold cnt
    rw [cnt_congr n fun i hi => h i (by omega), cnt_congr n (p := fun i => p (i + 2 ^ n)) fun i hi => h (i + 2 ^ n) (by omega)]
theorem cnt_mono : ∀ (n : Nat) {p q : Nat → Bool}, (∀ i < 2 ^ n, p i = true → q i = true) → cnt n p ≤ cnt n q
  | 0, p, q, h => by
    have := h 0 (by decide)
    unfold cnt
    cases hp : p 0 with
    | false => simp
    | true => rw [this hp]; simp
  | n + 1, p, q, h => by
    have e : 2 ^ (n + 1) = 2 ^ n + 2 ^ n := by rw [Nat.pow_succ]; omega
    unfold cnt
    have h1 := cnt_mono n (p := p) (q := q) fun i hi => h i (by omega)
    have h2 := cnt_mono n (p := fun i => p (i + 2 ^ n)) (q := fun i => q (i + 2 ^ n)) fun i hi => h (i + 2 ^ n) (by omega)
    omega
theorem cnt_same : ∀ (n : Nat) {p q : Nat → Bool}, (∀ i < 2 ^ n, p i = true → q i = true) → cnt n p = cnt n q → ∀ i < 2 ^ n, p i = q i
  | 0, p, q, h, e, i, hi => by
    have hi : i = 0 := by simpa using hi
    subst hi
    have h0 := h 0 (by decide)
    unfold cnt at e
    cases hp : p 0 with
    | true => exact (h0 hp).symm
    | false =>
      cases hq : q 0 with
      | false => rfl
      | true => rw [hp, hq] at e; simp at e
  | n + 1, p, q, h, e, i, hi => by
    have e2 : 2 ^ (n + 1) = 2 ^ n + 2 ^ n := by rw [Nat.pow_succ]; omega
    unfold cnt at e
    have m1 := cnt_mono n (p := p) (q := q) fun i hi => h i (by omega)
    have m2 := cnt_mono n (p := fun i => p (i + 2 ^ n)) (q := fun i => q (i + 2 ^ n)) fun i hi => h (i + 2 ^ n) (by omega)
    by_cases hlt : i < 2 ^ n
    · exact cnt_same n (fun i hi => h i (by omega)) (by omega) i hlt
    · have := cnt_same n (p := fun i => p (i + 2 ^ n)) (q := fun i => q (i + 2 ^ n)) (fun i hi => h (i + 2 ^ n) (by omega)) (by omega) (i - 2 ^ n) (by omega)
      rw [show i - 2 ^ n + 2 ^ n = i by omega] at this
      exact this
theorem cnt_or_and : ∀ (n : Nat) (p q : Nat → Bool), cnt n (fun i => p i || q i) + cnt n (fun i => p i && q i) = cnt n p + cnt n q
  | 0, p, q => by
    show (if (p 0 || q 0) = true then 1 else 0) + (if (p 0 && q 0) = true then 1 else 0) = (if p 0 = true then 1 else 0) + (if q 0 = true then 1 else 0)
    cases p 0 <;> cases q 0 <;> rfl
  | n + 1, p, q => by
    have h1 := cnt_or_and n p q
    have h2 := cnt_or_and n (fun i => p (i + 2 ^ n)) (fun i => q (i + 2 ^ n))
    show (cnt n (fun i => p i || q i) + cnt n (fun i => p (i + 2 ^ n) || q (i + 2 ^ n))) + (cnt n (fun i => p i && q i) + cnt n (fun i => p (i + 2 ^ n) && q (i + 2 ^ n))) = (cnt n p + cnt n fun i => p (i + 2 ^ n)) + (cnt n q + cnt n fun i => q (i + 2 ^ n))
    omega
theorem cnt_not : ∀ (n : Nat) (p : Nat → Bool), cnt n (fun i => !p i) + cnt n p = 2 ^ n
  | 0, p => by
    show (if (!p 0) = true then 1 else 0) + (if p 0 = true then 1 else 0) = 1
    cases p 0 <;> rfl
  | n + 1, p => by
    have h1 := cnt_not n p
    have h2 := cnt_not n fun i => p (i + 2 ^ n)
    show (cnt n (fun i => !p i) + cnt n (fun i => !p (i + 2 ^ n))) + (cnt n p + cnt n fun i => p (i + 2 ^ n)) = 2 ^ (n + 1)
    rw [Nat.pow_succ]
    omega
/-- counted from the other end -/
theorem cnt_rev : ∀ (n : Nat) (p : Nat → Bool), cnt n (fun i => p (2 ^ n - 1 - i)) = cnt n p
  | 0, p => rfl
  | n + 1, p => by
    have e2 : 2 ^ (n + 1) = 2 ^ n + 2 ^ n := by rw [Nat.pow_succ]; omega
    have h1 := cnt_rev n p
    have h2 := cnt_rev n fun i => p (i + 2 ^ n)
    unfold cnt
    rw [← h1, ← h2, Nat.add_comm]
    congr 1
    · refine cnt_congr n fun i hi => ?_
      show p _ = p _
      congr 1; omega
    · refine cnt_congr n fun i hi => ?_
      show p _ = p _
      congr 1; omega
theorem sh_congr : ∀ (n : Nat) {A B : Nat → Bool} (s : Nat), (∀ i < 2 ^ n, A i = B i) → sh n A s = sh n B s
  | 0, A, B, s, h => h 0 (by decide)
  | n + 1, A, B, s, h => by
    have e2 : 2 ^ (n + 1) = 2 ^ n + 2 ^ n := by rw [Nat.pow_succ]; omega
    unfold sh
    rw [sh_congr n (A := oj n A) (B := oj n B) s fun i hi => by unfold oj; rw [h i (by omega), h (i + 2 ^ n) (by omega)],
      sh_congr n (A := A) (B := B) (s - 2 ^ n) fun i hi => h i (by omega), sh_congr n (A := up n A) (B := up n B) (s - 2 ^ n) fun i hi => h (i + 2 ^ n) (by omega)]
theorem so_congr : ∀ (n : Nat) {A B : Nat → Bool} (s : Nat), (∀ i < 2 ^ n, A i = B i) → so n A s = so n B s
  | 0, A, B, s, h => h 0 (by decide)
  | n + 1, A, B, s, h => by
    have e2 : 2 ^ (n + 1) = 2 ^ n + 2 ^ n := by rw [Nat.pow_succ]; omega
    unfold so
    rw [so_congr n (A := aj n A) (B := aj n B) (s - 2 ^ n) fun i hi => by unfold aj; rw [h i (by omega), h (i + 2 ^ n) (by omega)],
      so_congr n (A := A) (B := B) s fun i hi => h i (by omega), so_congr n (A := up n A) (B := up n B) s fun i hi => h (i + 2 ^ n) (by omega)]
theorem sh_mono : ∀ (n : Nat) {A B : Nat → Bool} (s : Nat), (∀ i < 2 ^ n, A i = true → B i = true) → sh n A s = true → sh n B s = true
  | 0, A, B, s, h, hs => h 0 (by decide) hs
  | n + 1, A, B, s, h, hs => by
    have e2 : 2 ^ (n + 1) = 2 ^ n + 2 ^ n := by rw [Nat.pow_succ]; omega
    unfold sh at hs ⊢
    split at hs
    · rename_i hlt
      rw [if_pos hlt]
      refine sh_mono n s (fun i hi q => ?_) hs
      unfold oj at q ⊢
      rcases Bool.or_eq_true_iff.mp q with q | q
      · rw [h i (by omega) q]; rfl
      · rw [h (i + 2 ^ n) (by omega) q, Bool.or_true]
    · rename_i hlt
      rw [if_neg hlt]
      obtain ⟨h1, h2⟩ := Bool.and_eq_true_iff.mp hs
      rw [sh_mono n _ (fun i hi q => h i (by omega) q) h1, sh_mono n (A := up n A) (B := up n B) _ (fun i hi q => h (i + 2 ^ n) (by omega) q) h2]; rfl
theorem so_mono : ∀ (n : Nat) {A B : Nat → Bool} (s : Nat), (∀ i < 2 ^ n, A i = true → B i = true) → so n A s = true → so n B s = true
  | 0, A, B, s, h, hs => h 0 (by decide) hs
  | n + 1, A, B, s, h, hs => by
    have e2 : 2 ^ (n + 1) = 2 ^ n + 2 ^ n := by rw [Nat.pow_succ]; omega
    unfold so at hs ⊢
    split at hs
    · rename_i hlt
      rw [if_pos hlt]
      rcases Bool.or_eq_true_iff.mp hs with q | q
      · rw [so_mono n _ (fun i hi q => h i (by omega) q) q]; rfl
      · rw [so_mono n (A := up n A) (B := up n B) _ (fun i hi q => h (i + 2 ^ n) (by omega) q) q, Bool.or_true]
    · rename_i hlt
      rw [if_neg hlt]
      refine so_mono n _ (fun i hi q => ?_) hs
      unfold aj at q ⊢
      obtain ⟨h1, h2⟩ := Bool.and_eq_true_iff.mp q
      rw [h i (by omega) h1, h (i + 2 ^ n) (by omega) h2]; rfl
/-- every solid set is shown -/
theorem so_sh : ∀ (n : Nat) (A : Nat → Bool) (s : Nat), so n A s = true → sh n A s = true
  | 0, A, s, h => h
  | n + 1, A, s, h => by
    unfold so at h
    unfold sh
    split at h
    · rename_i hlt
      rw [if_pos hlt]
      rcases Bool.or_eq_true_iff.mp h with q | q
      · exact sh_mono n s (fun i hi q => by unfold oj; rw [q]; rfl) (so_sh n A s q)
      · exact sh_mono n s (fun i hi q => by unfold up at q; unfold oj; rw [q, Bool.or_true]) (so_sh n (up n A) s q)
    · rename_i hlt
      rw [if_neg hlt]
      have q := so_sh n _ _ h
      rw [sh_mono n _ (fun i hi q => by unfold aj at q; exact (Bool.and_eq_true_iff.mp q).1) q, sh_mono n (B := up n A) _ (fun i hi q => by unfold aj at q; exact (Bool.and_eq_true_iff.mp q).2) q]; rfl
theorem cnt_so_step (n : Nat) (A : Nat → Bool) : cnt (n + 1) (so (n + 1) A) = cnt n (fun s => so n A s || so n (up n A) s) + cnt n (so n (aj n A)) := by
  show cnt n (so (n + 1) A) + cnt n (fun i => so (n + 1) A (i + 2 ^ n)) = _
  congr 1
  · refine cnt_congr n fun s hs => ?_
    show (if s < 2 ^ n then _ else _) = _
    rw [if_pos hs]
  · refine cnt_congr n fun s hs => ?_
    show (if s + 2 ^ n < 2 ^ n then _ else _) = _
    rw [if_neg (by omega), Nat.add_sub_cancel]
theorem cnt_sh_step (n : Nat) (A : Nat → Bool) : cnt (n + 1) (sh (n + 1) A) = cnt n (sh n (oj n A)) + cnt n (fun s => sh n A s && sh n (up n A) s) := by
  show cnt n (sh (n + 1) A) + cnt n (fun i => sh (n + 1) A (i + 2 ^ n)) = _
  congr 1
  · refine cnt_congr n fun s hs => ?_
    show (if s < 2 ^ n then _ else _) = _
    rw [if_pos hs]
  · refine cnt_congr n fun s hs => ?_
    show (if s + 2 ^ n < 2 ^ n then _ else _) = _
    rw [if_neg (by omega), Nat.add_sub_cancel]
/-- at most as many solid sets as cards -/
theorem so_le : ∀ (n : Nat) (A : Nat → Bool), cnt n (so n A) ≤ cnt n A
  | 0, A => by show (if A 0 = true then 1 else 0) ≤ (if A 0 = true then 1 else 0); exact Nat.le_refl _
  | n + 1, A => by
    rw [cnt_so_step]
    have h1 := so_le n A
    have h2 := so_le n (up n A)
    have h3 := cnt_or_and n (so n A) (so n (up n A))
    have h4 := cnt_mono n (p := so n (aj n A)) (q := fun s => so n A s && so n (up n A) s) fun s hs q => by
      rw [so_mono n _ (fun i hi q => by unfold aj at q; exact (Bool.and_eq_true_iff.mp q).1) q, so_mono n (B := up n A) _ (fun i hi q => by unfold aj at q; exact (Bool.and_eq_true_iff.mp q).2) q]; rfl
    have e : cnt (n + 1) A = cnt n A + cnt n (up n A) := rfl
    omega
/-- at most as many cards as shown sets -/
theorem sh_ge : ∀ (n : Nat) (A : Nat → Bool), cnt n A ≤ cnt n (sh n A)
  | 0, A => by show (if A 0 = true then 1 else 0) ≤ (if A 0 = true then 1 else 0); exact Nat.le_refl _
  | n + 1, A => by
    rw [cnt_sh_step]
    have h1 := sh_ge n A
    have h2 := sh_ge n (up n A)
    have h3 := cnt_or_and n (sh n A) (sh n (up n A))
    have h4 := cnt_mono n (p := fun s => sh n A s || sh n (up n A) s) (q := sh n (oj n A)) fun s hs q => by
      rcases Bool.or_eq_true_iff.mp q with q | q
      · exact sh_mono n s (fun i hi q => by unfold oj; rw [q]; rfl) q
      · exact sh_mono n s (fun i hi q => by unfold up at q; unfold oj; rw [q, Bool.or_true]) q
    have e : cnt (n + 1) A = cnt n A + cnt n (up n A) := rfl
    omega
/-- as many cards as shown sets: each shown set is solid -/
theorem sh_tight : ∀ (n : Nat) (A : Nat → Bool), cnt n A = cnt n (sh n A) → ∀ s < 2 ^ n, sh n A s = so n A s
  | 0, A, _, s, _ => rfl
  | n + 1, A, e, s, hs => by
    have e2 : 2 ^ (n + 1) = 2 ^ n + 2 ^ n := by rw [Nat.pow_succ]; omega
    rw [cnt_sh_step] at e
    have eA : cnt (n + 1) A = cnt n A + cnt n (up n A) := rfl
    have g1 := sh_ge n A
    have g2 := sh_ge n (up n A)
    have g3 := sh_ge n (oj n A)
    have g4 := sh_ge n (aj n A)
    have c1 := cnt_or_and n (sh n A) (sh n (up n A))
    have c2 : cnt n (oj n A) + cnt n (aj n A) = cnt n A + cnt n (up n A) := cnt_or_and n A (up n A)
    have i1 : ∀ s < 2 ^ n, (sh n A s || sh n (up n A) s) = true → sh n (oj n A) s = true := fun s hs q => by
      rcases Bool.or_eq_true_iff.mp q with q | q
      · exact sh_mono n s (fun i hi q => by unfold oj; rw [q]; rfl) q
      · exact sh_mono n s (fun i hi q => by unfold up at q; unfold oj; rw [q, Bool.or_true]) q
    have i2 : ∀ s < 2 ^ n, sh n (aj n A) s = true → (sh n A s && sh n (up n A) s) = true := fun s hs q => by
      rw [sh_mono n _ (fun i hi q => by unfold aj at q; exact (Bool.and_eq_true_iff.mp q).1) q, sh_mono n (B := up n A) _ (fun i hi q => by unfold aj at q; exact (Bool.and_eq_true_iff.mp q).2) q]; rfl
    have m1 := cnt_mono n (p := fun s => sh n A s || sh n (up n A) s) (q := sh n (oj n A)) i1
    have m2 := cnt_mono n (p := sh n (aj n A)) (q := fun s => sh n A s && sh n (up n A) s) i2
    have s0 := sh_tight n A (by omega)
    have s1 := sh_tight n (up n A) (by omega)
    have s2 := sh_tight n (aj n A) (by omega)
    have f1 := cnt_same n i1 (by omega)
    have f2 := cnt_same n i2 (by omega)
    unfold sh so
    by_cases hlt : s < 2 ^ n
    · rw [if_pos hlt, if_pos hlt, ← f1 s hlt, s0 s hlt, s1 s hlt]
    · rw [if_neg hlt, if_neg hlt]
      have := f2 (s - 2 ^ n) (by omega)
      rw [← this, s2 _ (by omega)]
/-- shown exactly if the others are not solid in the opposite box -/
theorem sh_so_opp : ∀ (n : Nat) (A : Nat → Bool), ∀ s < 2 ^ n, sh n A s = !so n (fun c => !A c) (2 ^ n - 1 - s)
  | 0, A, s, _ => by show A 0 = !!A 0; rw [Bool.not_not]
  | n + 1, A, s, hs => by
    have e2 : 2 ^ (n + 1) = 2 ^ n + 2 ^ n := by rw [Nat.pow_succ]; omega
    unfold sh so
    by_cases hlt : s < 2 ^ n
    · rw [if_pos hlt, if_neg (by omega), sh_so_opp n _ s hlt]
      rw [show 2 ^ (n + 1) - 1 - s - 2 ^ n = 2 ^ n - 1 - s by omega]
      congr 1
      refine so_congr n _ fun i hi => ?_
      show (!(A i || A (i + 2 ^ n))) = ((!A i) && (!A (i + 2 ^ n)))
      rw [Bool.not_or]
    · rw [if_neg hlt, if_pos (by omega), sh_so_opp n _ (s - 2 ^ n) (by omega), sh_so_opp n (up n A) (s - 2 ^ n) (by omega)]
      rw [show 2 ^ n - 1 - (s - 2 ^ n) = 2 ^ (n + 1) - 1 - s by omega, ← Bool.not_or]
      rfl
def smooth (n : Nat) (A : Nat → Bool) : Prop := ∀ s < 2 ^ n, sh n A s = so n A s
theorem smooth_opp {n : Nat} {A : Nat → Bool} (h : smooth n A) : smooth n fun c => !A c := by
  intro s hs
  have hp := Nat.two_pow_pos n
  have h1 := sh_so_opp n (fun c => !A c) s hs
  have h2 := sh_so_opp n A (2 ^ n - 1 - s) (by omega)
  have e : (fun c => !(!A c)) = A := by funext c; rw [Bool.not_not]
  rw [h1]
  show (!so n (fun c => !(!A c)) (2 ^ n - 1 - s)) = _
  rw [e, ← h (2 ^ n - 1 - s) (by omega), h2, Bool.not_not, show 2 ^ n - 1 - (2 ^ n - 1 - s) = s by omega]
theorem cnt_sh_opp (n : Nat) (A : Nat → Bool) : cnt n (sh n A) + cnt n (so n fun c => !A c) = 2 ^ n := by
  rw [cnt_congr n (sh_so_opp n A)]
  have := cnt_not n fun i => so n (fun c => !A c) (2 ^ n - 1 - i)
  rw [cnt_rev n (so n fun c => !A c)] at this
  exact this
theorem smooth_sh {n : Nat} {A : Nat → Bool} : smooth n A ↔ cnt n A = cnt n (sh n A) := by
  constructor
  · intro h
    have h1 := so_le n A
    have h2 := sh_ge n A
    have h3 := cnt_congr n h
    omega
  · exact sh_tight n A
theorem smooth_so {n : Nat} {A : Nat → Bool} : smooth n A ↔ cnt n A = cnt n (so n A) := by
  constructor
  · intro h
    have h1 := so_le n A
    have h2 := sh_ge n A
    have h3 := cnt_congr n h
    omega
  · intro h
    have e : (fun c => !(!A c)) = A := by funext c; rw [Bool.not_not]
    have h1 := cnt_sh_opp n fun c => !A c
    have h2 := cnt_not n A
    rw [show (fun c => !(fun c => !A c) c) = A from e] at h1
    have := smooth_opp (sh_tight n (fun c => !A c) (by omega))
    have r : (fun c => !(fun c => !A c) c) = A := e
    rwa [r] at this
theorem smooth_opp_iff {n : Nat} {A : Nat → Bool} : (smooth n fun c => !A c) ↔ smooth n A := by
  constructor
  · intro h
    have := smooth_opp h
    have r : (fun c => !(fun c => !A c) c) = A := by funext c; rw [Bool.not_not]
    rwa [r] at this
  · exact smooth_opp
end Sb

namespace Sb
theorem tb_add {n c : Nat} (i : Nat) (hc : c < 2 ^ n) : (c + 2 ^ n).testBit i = (decide (n = i) || c.testBit i) := by
  have h := Nat.two_pow_add_eq_or_of_lt hc 1
  rw [Nat.mul_one] at h
  rw [Nat.add_comm, h, Nat.testBit_or, Nat.testBit_two_pow]
theorem tb_lt {n c i : Nat} (hc : c < 2 ^ n) (hi : n ≤ i) : c.testBit i = false := Nat.testBit_lt_two_pow (Nat.lt_of_lt_of_le hc (Nat.pow_le_pow_right (by decide) hi))
theorem and_ul {n c s : Nat} (hc : c < 2 ^ n) (hs : s < 2 ^ n) : (c + 2 ^ n) &&& s = c &&& s := by
  refine Nat.eq_of_testBit_eq fun i => ?_
  rw [Nat.testBit_and, Nat.testBit_and, tb_add i hc]
  by_cases h : n = i
  · subst h; rw [tb_lt hs (Nat.le_refl _)]; simp
  · simp [h]
theorem and_lu {n c s : Nat} (hc : c < 2 ^ n) (hs : s < 2 ^ n) : c &&& (s + 2 ^ n) = c &&& s := by
  rw [Nat.and_comm, and_ul hs hc, Nat.and_comm]
theorem and_lt {n c s : Nat} (hs : s < 2 ^ n) : c &&& s < 2 ^ n := Nat.lt_of_le_of_lt Nat.and_le_right hs
theorem and_uu {n c s : Nat} (hc : c < 2 ^ n) (hs : s < 2 ^ n) : (c + 2 ^ n) &&& (s + 2 ^ n) = (c &&& s) + 2 ^ n := by
  refine Nat.eq_of_testBit_eq fun i => ?_
  rw [Nat.testBit_and, tb_add i hc, tb_add i hs, tb_add i (and_lt hs), Nat.testBit_and]
  by_cases h : n = i <;> simp [h]
theorem split_lt {n c : Nat} (h : c < 2 ^ (n + 1)) : c < 2 ^ n ∨ ∃ c', c' < 2 ^ n ∧ c = c' + 2 ^ n := by
  have e2 : 2 ^ (n + 1) = 2 ^ n + 2 ^ n := by rw [Nat.pow_succ]; omega
  by_cases hlt : c < 2 ^ n
  · exact .inl hlt
  · exact .inr ⟨c - 2 ^ n, by omega, by omega⟩
def Shown (n : Nat) (A : Nat → Bool) (s : Nat) : Prop := ∀ p, p &&& s = p → ∃ c, c < 2 ^ n ∧ A c = true ∧ c &&& s = p
def Solid (n : Nat) (A : Nat → Bool) (s : Nat) : Prop := ∃ b, b < 2 ^ n ∧ b &&& s = 0 ∧ ∀ p, p &&& s = p → A (b + p) = true
theorem part_le {p s : Nat} (h : p &&& s = p) : p ≤ s := by rw [← h]; exact Nat.and_le_right
theorem shown_sh : ∀ (n : Nat) (A : Nat → Bool) (s : Nat), s < 2 ^ n → (sh n A s = true ↔ Shown n A s)
  | 0, A, s, hs => by
    have hs : s = 0 := by simpa using hs
    subst hs
    constructor
    · intro h p hp
      exact ⟨0, by decide, h, by rw [Nat.and_zero] at hp ⊢; exact hp⟩
    · intro h
      obtain ⟨c, hc, hA, _⟩ := h 0 rfl
      have : c = 0 := by simpa using hc
      subst this
      exact hA
  | n + 1, A, s, hs => by
    have e2 : 2 ^ (n + 1) = 2 ^ n + 2 ^ n := by rw [Nat.pow_succ]; omega
    unfold sh
    rcases split_lt hs with hlt | ⟨s', hs', rfl⟩
    · rw [if_pos hlt, shown_sh n _ s hlt]
      constructor
      · intro h p hp
        obtain ⟨c, hc, hA, e⟩ := h p hp
        rcases Bool.or_eq_true_iff.mp hA with q | q
        · exact ⟨c, by omega, q, e⟩
        · exact ⟨c + 2 ^ n, by omega, q, by rw [and_ul hc hlt]; exact e⟩
      · intro h p hp
        obtain ⟨c, hc, hA, e⟩ := h p hp
        rcases split_lt hc with hc' | ⟨c', hc', rfl⟩
        · exact ⟨c, hc', by unfold oj; rw [hA]; rfl, e⟩
        · exact ⟨c', hc', by unfold oj; rw [hA, Bool.or_true], by rw [and_ul hc' hlt] at e; exact e⟩
    · rw [if_neg (by omega), Nat.add_sub_cancel, Bool.and_eq_true, shown_sh n _ s' hs', shown_sh n (up n A) s' hs']
      constructor
      · rintro ⟨h1, h2⟩ p hp
        have hpl := part_le hp
        rcases split_lt (n := n) (c := p) (by omega) with hp' | ⟨p', hp', rfl⟩
        · rw [and_lu hp' hs'] at hp
          obtain ⟨c, hc, hA, e⟩ := h1 p hp
          exact ⟨c, by omega, hA, by rw [and_lu hc hs']; exact e⟩
        · rw [and_uu hp' hs'] at hp
          obtain ⟨c, hc, hA, e⟩ := h2 p' (by omega)
          exact ⟨c + 2 ^ n, by omega, hA, by rw [and_uu hc hs', e]⟩
      · intro h
        constructor
        · intro p hp
          have hpl := part_le hp
          obtain ⟨c, hc, hA, e⟩ := h p (by rw [and_lu (by omega) hs']; exact hp)
          rcases split_lt hc with hc' | ⟨c', hc', rfl⟩
          · exact ⟨c, hc', hA, by rw [and_lu hc' hs'] at e; exact e⟩
          · rw [and_uu hc' hs'] at e; omega
        · intro p hp
          have hpl := part_le hp
          obtain ⟨c, hc, hA, e⟩ := h (p + 2 ^ n) (by rw [and_uu (by omega) hs', hp])
          rcases split_lt hc with hc' | ⟨c', hc', rfl⟩
          · rw [and_lu hc' hs'] at e
            have := and_lt (c := c) hs'
            omega
          · exact ⟨c', hc', hA, by rw [and_uu hc' hs'] at e; omega⟩
theorem solid_so : ∀ (n : Nat) (A : Nat → Bool) (s : Nat), s < 2 ^ n → (so n A s = true ↔ Solid n A s)
  | 0, A, s, hs => by
    have hs : s = 0 := by simpa using hs
    subst hs
    constructor
    · intro h
      exact ⟨0, by decide, rfl, fun p hp => by rw [Nat.and_zero] at hp; subst hp; exact h⟩
    · rintro ⟨b, hb, _, h⟩
      have : b = 0 := by simpa using hb
      subst this
      exact h 0 rfl
  | n + 1, A, s, hs => by
    have e2 : 2 ^ (n + 1) = 2 ^ n + 2 ^ n := by rw [Nat.pow_succ]; omega
    unfold so
    rcases split_lt hs with hlt | ⟨s', hs', rfl⟩
    · rw [if_pos hlt, Bool.or_eq_true, solid_so n _ s hlt, solid_so n (up n A) s hlt]
      constructor
      · rintro (⟨b, hb, h0, h⟩ | ⟨b, hb, h0, h⟩)
        · exact ⟨b, by omega, h0, h⟩
        · refine ⟨b + 2 ^ n, by omega, by rw [and_ul hb hlt]; exact h0, fun p hp => ?_⟩
          have := h p hp
          unfold up at this
          rw [show b + 2 ^ n + p = b + p + 2 ^ n by omega]; exact this
      · rintro ⟨b, hb, h0, h⟩
        rcases split_lt hb with hb' | ⟨b', hb', rfl⟩
        · exact .inl ⟨b, hb', h0, h⟩
        · refine .inr ⟨b', hb', by rw [and_ul hb' hlt] at h0; exact h0, fun p hp => ?_⟩
          have := h p hp
          unfold up
          rw [show b' + p + 2 ^ n = b' + 2 ^ n + p by omega]; exact this
    · rw [if_neg (by omega), Nat.add_sub_cancel, solid_so n _ s' hs']
      constructor
      · rintro ⟨b, hb, h0, h⟩
        refine ⟨b, by omega, by rw [and_lu hb hs']; exact h0, fun p hp => ?_⟩
        have hpl := part_le hp
        rcases split_lt (n := n) (c := p) (by omega) with hp' | ⟨p', hp', rfl⟩
        · rw [and_lu hp' hs'] at hp
          exact (Bool.and_eq_true_iff.mp (h p hp)).1
        · rw [and_uu hp' hs'] at hp
          have := (Bool.and_eq_true_iff.mp (h p' (by omega))).2
          rw [show b + (p' + 2 ^ n) = b + p' + 2 ^ n by omega]; exact this
      · rintro ⟨b, hb, h0, h⟩
        rcases split_lt hb with hb' | ⟨b', hb', rfl⟩
        · refine ⟨b, hb', by rw [and_lu hb' hs'] at h0; exact h0, fun p hp => ?_⟩
          have hpl := part_le hp
          have h1 := h p (by rw [and_lu (by omega) hs']; exact hp)
          have h2 := h (p + 2 ^ n) (by rw [and_uu (by omega) hs', hp])
          unfold aj
          rw [h1, show b + p + 2 ^ n = b + (p + 2 ^ n) by omega, h2]; rfl
        · rw [and_uu hb' hs'] at h0
          have := Nat.two_pow_pos n
          omega
/-- counted on a list -/
theorem range_split (n : Nat) : List.range (2 ^ (n + 1)) = List.range (2 ^ n) ++ (List.range (2 ^ n)).map fun i => i + 2 ^ n := by
  have e2 : 2 ^ (n + 1) = 2 ^ n + 2 ^ n := by rw [Nat.pow_succ]; omega
  rw [e2, List.range_add]
  congr 1
  exact List.map_congr_left fun i _ => Nat.add_comm _ _
theorem cnt_list : ∀ (n : Nat) (p : Nat → Bool), ((List.range (2 ^ n)).filter p).length = cnt n p
  | 0, p => by
    show ((List.range 1).filter p).length = if p 0 = true then 1 else 0
    rw [show List.range 1 = [0] from rfl, List.filter_cons]
    split <;> simp
  | n + 1, p => by
    rw [range_split, List.filter_append, List.length_append, cnt_list n p, List.filter_map, List.length_map]
    show _ = cnt n p + _
    rw [← cnt_list n fun i => p (i + 2 ^ n)]
    rfl
end Sb

namespace Dl
open PySem PySem.Spec PyProof.Rows L2
section
variable {F : Fm} {C : Cs} {ρ : Rho} {k : Nat} {P : DE} {Φ : Nat → PyData → Prop} {Ψ : Nat → Bool → Prop} {pos p p1 p2 p3 p4 p5 : Pos} {e a b c : Expr}
/-- a, b, c = a tuple -/
theorem ws_asg3s (i1 i2 i3 : Nat) {x1 x2 x3 : Str} {kk : Nat} (t1 : Tgt C i1 x1) (t2 : Tgt C i2 x2) (t3 : Tgt C i3 x3) (hK : F.K = C.K)
    (hs : ∀ env : Env, env.scope = C.sc → swapsWithSole [.Tuple [.Name x1 p1, .Name x2 p2, .Name x3 p3] kk p4] e pos.line env = pure false) (hw : ∀ env : Env, env.scope = C.sc → swappedStores [.Tuple [.Name x1 p1, .Name x2 p2, .Name x3 p3] kk p4] e env = pure none)
    (h : WPE F C e ρ k fun k1 d => ∃ d1 d2 d3, d = .tuple [d1, d2, d3] ∧ P.nx k1 (((ρ.set i1 (.d d1)).set i2 (.d d2)).set i3 (.d d3))) : WPS F C (.Assign [.Tuple [.Name x1 p1, .Name x2 p2, .Name x3 p3] kk p4] e pos) ρ k P :=
  of_ps (fun X fx => ps_asg (peE fx) (pgTup (n := 3) fx (pgs_cons (t1.pg fx) (pgs_cons (t2.pg fx) (pgs_cons (t3.pg fx) pgs_nil))) (by rfl) (by rfl)) (hs X.env fx.sc) (hw X.env fx.sc)) fun σ H E en j q1 _ _ _ =>
    h σ H _ en j fun v d k1 H1 l1 j1 r ⟨d1, d2, d3, e, q⟩ => by
      subst e
      cases r with
      | tup ha hr =>
        cases hr with
        | cons r1 hr =>
          cases hr with
          | cons r2 hr =>
            cases hr with
            | cons r3 hr =>
              cases hr
              exact ⟨_, _, rfl, hK ▸ sqt_of ha, rfl, _, _, rfl, _, _, rfl, _, _, rfl, rfl, q1 _ _ k1 H1 l1.lz ((((en.le l1).set (sv := .d d1) ⟨_, rfl, r1⟩).set (sv := .d d2) ⟨_, rfl, r2⟩).set (sv := .d d3) ⟨_, rfl, r3⟩) j1 q⟩
/-- a, b, c = x, y, z -/
theorem ws_par3 (i1 i2 i3 : Nat) {x1 x2 x3 : Str} {kk k2 : Nat} (h12 : i1 ≠ i2) (h13 : i1 ≠ i3) (h23 : i2 ≠ i3) (t1 : Tgt C i1 x1) (t2 : Tgt C i2 x2) (t3 : Tgt C i3 x3) (l1 : C.sc.names.lookup x1 = some .local) (l2 : C.sc.names.lookup x2 = some .local) (l3 : C.sc.names.lookup x3 = some .local)
    (hs : ∀ env : Env, swapsWithSole [.Tuple [.Name x1 p1, .Name x2 p2, .Name x3 p3] kk p4] (.Tuple [a, b, c] k2 p5) pos.line env = pure false) (hw : ∀ env : Env, env.scope = C.sc → swappedStores [.Tuple [.Name x1 p1, .Name x2 p2, .Name x3 p3] kk p4] (.Tuple [a, b, c] k2 p5) env = pure (some [x1, x2, x3]))
    (h : WPA F C [a, b, c] ρ k fun k1 ds => ∃ d1 d2 d3, ds = [d1, d2, d3] ∧ P.nx k1 (((ρ.set i1 (.d d1)).set i2 (.d d2)).set i3 (.d d3))) : WPS F C (.Assign [.Tuple [.Name x1 p1, .Name x2 p2, .Name x3 p3] kk p4] (.Tuple [a, b, c] k2 p5) pos) ρ k P :=
  of_ps (fun X fx => ps_par3 fx.calm (by rw [fx.N]; exact t1.hN) (by rw [fx.N]; exact t1.hi) (by rw [fx.N]; exact t2.hi) (by rw [fx.N]; exact t3.hi) h12 h13 h23 (by rw [fx.sc]; exact l1) (by rw [fx.sc]; exact l2) (by rw [fx.sc]; exact l3) (paA fx) (hw X.env fx.sc) (hs X.env)) fun σ H E en j q1 _ _ _ =>
    h σ H _ en j fun vs ds k1 H1 l1 j1 r ⟨d1, d2, d3, e, q⟩ => by
      subst e
      cases r with
      | cons r1 hr =>
        cases hr with
        | cons r2 hr =>
          cases hr with
          | cons r3 hr =>
            cases hr
            exact ⟨_, _, _, rfl, q1 _ _ k1 H1 l1.lz ((((en.le l1).set (sv := .d d1) ⟨_, rfl, r1⟩).set (sv := .d d2) ⟨_, rfl, r2⟩).set (sv := .d d3) ⟨_, rfl, r3⟩) j1 q⟩
/-- xs + ys, tuples -/
theorem catTK {X : Cx} (fx : Fits C X) : OpR X (binaryOp .Add) (rCatA C.K) := by rw [← fx.K]; exact op_catA
/-- xs[:m], a tuple -/
theorem slTK {X : Cx} (fx : Fits C X) : SlR X (rSlA C.K) := by rw [← fx.K]; exact sl_tupA
end
/-! ### sorted(set(a tuple)) -/
def rSetT (K : PySem.W.Frag) (w : World) : List V → Hp → VK → Prop := fun vs H Q => ∃ (a : Addr) (ns : List Int), vs = [.ref a] ∧ SqT K H a (ns.map V.int) ∧ ns.length ≤ 1000 ∧
  ∀ p c, H p = none → c ≤ ns.length → Q (.ref p) (upd H p (SetO w p (fun j => decide (j ∈ ns)) c))
theorem cr_setT {X : Cx} (hc : X.calm = true) : CallR X (.type "set") (rSetT X.K X.w) := by
  intro pins s σ H vs us Q I r h
  obtain ⟨a, ns, rfl, hS, hz, q⟩ := h
  rw [Vals.ref1 r]
  obtain ⟨its, rv, pl, _⟩ := I.tuple hS
  refine call_set_tupI ns (I.ok.hd hc) (show s.heap.IsTuple a its.toArray from pl) (by simpa using rv.ints) (Nat.lt_of_le_of_lt (Nat.succ_le_succ hz) (by decide)) fun h' tk c R hcn hk => ?_
  exact ⟨.ref _, _, I.laid (t' := tk) hk (Nat.le_refl _) (setO_new R), rfl, q _ c (I.hok.fresh (Nat.le_refl _)) hcn⟩
section
variable {F : Fm} {C : Cs} {ρ : Rho} {k : Nat} {Φ : Nat → PyData → Prop} {pos p1 p2 p3 : Pos} {e : Expr}
theorem we_sortSetT (hK : F.K = C.K) (hg : C.sc.names.lookup ("sorted" : Str) = some .globalImplicit) (hm : C.mg ("sorted" : Str) = none) (hg2 : C.sc.names.lookup ("set" : Str) = some .globalImplicit) (hm2 : C.mg ("set" : Str) = none)
    (hs : ∀ env : Env, starEach [e] env = (false, eval e env) :: starEach [] env) (hs2 : ∀ env : Env, starEach [.Call (.Name "set" p2) [e] [] p3] env = (false, eval (.Call (.Name "set" p2) [e] [] p3) env) :: starEach [] env)
    (h : WPE F C e ρ k fun k1 x => ∃ ns : List Int, x = .tuple (ns.map PyData.int) ∧ ns.length ≤ 1000 ∧ ∀ ms : List Int, ms.Pairwise (· < ·) → (∀ i, i ∈ ms ↔ i ∈ ns) → Φ k1 (.list (ms.map PyData.int))) : WPE F C (.Call (.Name "sorted" p1) [.Call (.Name "set" p2) [e] [] p3] [] pos) ρ k Φ :=
  of_pe (t := tCB (rSortSetA C.w) (tCons (tCB (rSetT C.K C.w) (tCons (tE C e) tNil)) tNil)) (fun X fx => pe_callB (by rw [← fx.w]; exact cr_sortSetA fx.calm) (by show X.env.scope.names.lookup ("sorted" : Str) = _; rw [fx.sc]; exact hg) (by rw [fx.mg]; exact hm) (by decide +kernel)
      (pa_cons (pe_callTy (by rw [← fx.w, ← fx.K]; exact cr_setT fx.calm) (by show X.env.scope.names.lookup ("set" : Str) = _; rw [fx.sc]; exact hg2) (by rw [fx.mg]; exact hm2) (by decide +kernel) (pa_cons (peE fx) pa_nil (hs X.env)) (by decide) (by decide) (hs X.env) rfl) pa_nil (hs2 X.env)) (by decide) (by decide) (hs2 X.env) rfl) fun σ H Q en j q => by
    show tE C e σ H _
    refine h σ H _ en j fun v d k1 H1 l1 j1 r ⟨ns, ed, hz, p⟩ => ?_
    subst ed
    cases r with
    | @tup a xs _ ha hr =>
    refine ⟨a, ns, rfl, hr.ints ▸ hK ▸ sqt_of ha, hz, fun l c hl hc => ?_⟩
    refine ⟨l, _, c, rfl, upd_same, fun ms l2 hpw hmem _ hl2 => ?_⟩
    have j2 := j1.new (o := SetO C.w l (fun j => decide (j ∈ ns)) c) hl
    refine q _ _ k1 _ ((l1.trans (.new hl)).trans (.new hl2)) (j2.new hl2) (rep_newL j2 hl2 (RepAll.of_ints ms)) (p ms hpw fun i => ?_)
    rw [hmem i, decide_eq_true_eq]
end
end Dl

namespace Dl
open PySem PySem.Spec PyProof.Rows L2
section
variable {F : Fm} {C : Cs} {ρ : Rho} {k : Nat} {P : DE} {Φ : Nat → PyData → Prop} {Ψ : Nat → Bool → Prop} {pos p1 p2 : Pos} {a b c : Expr}
/-- a <= b <= c, ints -/
theorem wt_leLe (hm : lastMarks [.LtE, .LtE] [b, c] = false) (h : WPE F C a ρ k fun k1 x => WPE F C b ρ k1 fun k2 y => ∃ i j, x = .int i ∧ y = .int j ∧ if i ≤ j then WPE F C c ρ k2 fun k3 z => ∃ l, z = .int l ∧ Ψ k3 (decide (j ≤ l)) else Ψ k2 false) : WPT F C (.Compare a [.LtE, .LtE] [b, c] pos) ρ k Ψ :=
  of_pt (fun X fx => pt_chain op_le op_le (peE fx) (peE fx) (peE fx) hm) fun σ H Q en j q => by
    refine h σ H _ en j fun vx x k1 H1 l1 j1 r1 hx => hx σ H1 _ (en.le l1) j1 fun vy y k2 H2 l2 j2 r2 ⟨i, jj, e1, e2, hh⟩ => ?_
    subst e1 e2
    cases r1
    cases r2
    refine ⟨i, jj, rfl, rfl, decide (i ≤ jj), rfl, ?_⟩
    by_cases hle : i ≤ jj
    · rw [if_pos hle] at hh
      rw [if_pos (decide_eq_true hle)]
      refine hh σ H2 _ ((en.le l1).le l2) j2 fun vz z k3 H3 l3 j3 r3 ⟨l, e3, p⟩ => ?_
      subst e3
      cases r3
      exact ⟨jj, l, rfl, rfl, _, rfl, q _ k3 H3 ((l1.trans l2).trans l3) j3 p⟩
    · rw [if_neg hle] at hh
      rw [if_neg (by rw [decide_eq_true_eq]; exact hle)]
      exact ⟨false, rfl, q _ k2 H2 (l1.trans l2) j2 hh⟩
theorem wt_leLt (hm : lastMarks [.LtE, .Lt] [b, c] = false) (h : WPE F C a ρ k fun k1 x => WPE F C b ρ k1 fun k2 y => ∃ i j, x = .int i ∧ y = .int j ∧ if i ≤ j then WPE F C c ρ k2 fun k3 z => ∃ l, z = .int l ∧ Ψ k3 (decide (j < l)) else Ψ k2 false) : WPT F C (.Compare a [.LtE, .Lt] [b, c] pos) ρ k Ψ :=
  of_pt (fun X fx => pt_chain op_le op_lt (peE fx) (peE fx) (peE fx) hm) fun σ H Q en j q => by
    refine h σ H _ en j fun vx x k1 H1 l1 j1 r1 hx => hx σ H1 _ (en.le l1) j1 fun vy y k2 H2 l2 j2 r2 ⟨i, jj, e1, e2, hh⟩ => ?_
    subst e1 e2
    cases r1
    cases r2
    refine ⟨i, jj, rfl, rfl, decide (i ≤ jj), rfl, ?_⟩
    by_cases hle : i ≤ jj
    · rw [if_pos hle] at hh
      rw [if_pos (decide_eq_true hle)]
      refine hh σ H2 _ ((en.le l1).le l2) j2 fun vz z k3 H3 l3 j3 r3 ⟨l, e3, p⟩ => ?_
      subst e3
      cases r3
      exact ⟨jj, l, rfl, rfl, _, rfl, q _ k3 H3 ((l1.trans l2).trans l3) j3 p⟩
    · rw [if_neg hle] at hh
      rw [if_neg (by rw [decide_eq_true_eq]; exact hle)]
      exact ⟨false, rfl, q _ k2 H2 (l1.trans l2) j2 hh⟩
/-- the same as a value -/
theorem we_leLt (hm : lastMarks [.LtE, .Lt] [b, c] = false) (h : WPE F C a ρ k fun k1 x => WPE F C b ρ k1 fun k2 y => ∃ i j, x = .int i ∧ y = .int j ∧ if i ≤ j then WPE F C c ρ k2 fun k3 z => ∃ l, z = .int l ∧ Φ k3 (.bool (decide (j < l))) else Φ k2 (.bool false)) : WPE F C (.Compare a [.LtE, .Lt] [b, c] pos) ρ k Φ :=
  of_pe (fun X fx => pe_chain op_le op_lt (peE fx) (peE fx) (peE fx) hm) fun σ H Q en j q => by
    refine h σ H _ en j fun vx x k1 H1 l1 j1 r1 hx => hx σ H1 _ (en.le l1) j1 fun vy y k2 H2 l2 j2 r2 ⟨i, jj, e1, e2, hh⟩ => ?_
    subst e1 e2
    cases r1
    cases r2
    refine ⟨i, jj, rfl, rfl, decide (i ≤ jj), rfl, ?_⟩
    by_cases hle : i ≤ jj
    · rw [if_pos hle] at hh
      rw [if_pos (decide_eq_true hle)]
      refine hh σ H2 _ ((en.le l1).le l2) j2 fun vz z k3 H3 l3 j3 r3 ⟨l, e3, p⟩ => ?_
      subst e3
      cases r3
      exact ⟨jj, l, rfl, rfl, q _ _ k3 H3 ((l1.trans l2).trans l3) j3 (.bl _) p⟩
    · rw [if_neg hle] at hh
      rw [if_neg (by rw [decide_eq_true_eq]; exact hle)]
      exact q _ _ k2 H2 (l1.trans l2) j2 (.bl _) hh
end

/-! ### sorted(a tuple of ints) -/
section
variable {P : Program} {w : World} {A : Around} {E : Value → Shared → Prop} {s : Shared} {a : Addr}
theorem collectT {Q : List Value → Shared → Prop} {ob : Obj} {vals : Array Value} {n : Nat} (at0 : s.heap.get? a = some ob) (cl : ob.cls = .type "tuple") (da : ob.data = .seq vals n) (lim : vals.size ≤ sizeLine)
    (hQ : ∀ h1, (∀ b u, s.heap.get? b = some u → h1.get? b = some u) → s.heap.objs.size ≤ h1.objs.size → Q vals.toList { s with heap := h1 }) : wpAny (model P w) A (collect (.ref a)) Q E s := by
  unfold collect
  refine wpAny_bind (wpAny_runValue (codeAny_builtin F.entry_proto_collect ?_))
  rw [Around.under_plainId F.plain_proto_collect _]
  show wpAny _ A.in1 (do let l ← newList []; again (.builtin "list.__iadd__" ⟨[l, .ref a], []⟩)) _ _ s
  refine wpAny_bind (wpAny_newObj_type (wpAny_pure ⟨plainId_quiet F.plain_list_iadd _, codeAny_builtin F.entry_list_iadd ?_⟩))
  rw [Around.under_plainId F.plain_list_iadd _]
  have new0 : (s.heap.push { cls := .type "list", data := .seq ([] : List Value).toArray }).get? s.heap.objs.size = some { cls := .type "list", data := .seq #[] 0 } := Heap.get?_push_size _ rfl
  have new1 := Heap.get?_update_self (Obj.mapSeq (· ++ vals)) new0 rfl
  have done1 : wpAny (model P w) A (match Value.ref s.heap.objs.size with | Value.ref l => do { match (← load l).data with | Data.seq xs _ => pure xs.toList | _ => unsupported "internal:collect" } | _ => unsupported "internal:collect") Q E
      { s with heap := (s.heap.push { cls := .type "list", data := .seq ([] : List Value).toArray }).update s.heap.objs.size (Obj.mapSeq (· ++ vals)) } := by
    refine wpAny_bind (wpAny_load new1 (wpAny_pure ?_))
    have e : ((#[] : Array Value) ++ vals).toList = vals.toList := by simp
    show Q (#[] ++ vals : Array Value).toList _
    rw [e]
    refine hQ _ (fun b u hb => ?_) (by rw [Heap.size_update, Heap.size_push]; exact Nat.le_succ _)
    exact (Heap.get?_update_other _ _ (Nat.ne_of_gt (Heap.lt_size hb))).trans (Heap.get?_push_of_some _ hb)
  refine wpAny_mono (wpAny_extend_seq (hsz := lim) (A := A) (R := fun r t => r = .ok (.ret (.ref s.heap.objs.size)) ∧ t = { s with heap := (s.heap.push { cls := .type "list", data := .seq ([] : List Value).toArray }).update s.heap.objs.size (Obj.mapSeq (· ++ vals)) })
    (s := { s with heap := s.heap.push { cls := .type "list", data := .seq ([] : List Value).toArray } }) _ a _ 0 (.inr rfl) new0 (Heap.get?_push_of_some _ at0) cl da ⟨rfl, rfl⟩) (fun fin t h => ?_) (fun e t h => absurd h.1 (by simp))
  cases fin with
  | done fl => obtain ⟨e, rfl⟩ := h; cases e; exact done1
  | again c => exact ⟨h.1, codeAny_mono h.2 fun r t2 hr => by rw [hr.1, hr.2]; exact done1⟩
theorem sortedTupAll {its : Array Value} {ns : List Int} {Q : Value → Shared → Prop} (tp : s.heap.IsTuple a its) (hi : IntsAre its.toList ns) (hz : its.size ≤ 4000)
    (hQ : ∀ (t : Shared) (p : Addr) (res : List Value) (c : Nat) (ms : List Int), (∀ b o, s.heap.get? b = some o → t.heap.get? b = some o) → t.gens = s.gens → t.os = s.os → s.heap.objs.size ≤ p →
      t.heap.get? p = some (seqObj "list" res.toArray c) → IntsAre res ms → ms.Perm ns → ms.Pairwise (· ≤ ·) → Q (.ref p) t) :
    wpAny (model P w) A (call (.builtin "sorted") [.ref a]) Q E s := by
  obtain ⟨o, ho, hc, n, hd⟩ := tp
  refine Calls.call_function_entry PyProof.Rows.kind_sorted PyProof.Rows.plain_sorted PyProof.Rows.entry_sorted (PyProof.Rows.args_sorted1 _) ?_
  unfold Builtin.«sorted»
  have lim : its.toList.length ≤ sizeLine := by rw [Array.length_toList, sizeLine_eq]; omega
  refine wpAny_bind (m := checkCount "sorted" 1 1 _) (wpAny_pure (wpAny_bind (collectT (A := A.in1) ho hc hd (by rw [sizeLine_eq]; omega) fun h1 kp szs => ?_)))
  refine wpAny_bind (wpAny_newList ?_ lim)
  have here : (h1.push (seqObj "list" its.toList.toArray 0)).get? h1.objs.size = some (seqObj "list" its.toList.toArray 0) := Heap.get?_push_size _ rfl
  refine wpAny_bind (wpAny_holding (wpAny_call_entry PyProof.Rows.slot_list_sort ⟨_, here, rfl⟩ PyProof.Rows.entry_list_sort (SrtO.list_sort_ord SrtO.swo_int here lim (fun h2 => SrtO.ints_sortable hi h2) fun res r1 r2 => ⟨_, rfl, ?_⟩) (PyProof.Rows.args_list_sort _)))
  obtain ⟨z1, z2, z3⟩ := SrtO.ints_out hi r1 r2
  obtain ⟨c, hcc⟩ := PyProof.Rows.sortedHeap_at (vs := its.toList) (out := res.toArray) here
  refine wpAny_pure ⟨_, rfl, hQ _ h1.objs.size res c (res.map SrtO.iv) (fun b u e => ?_) rfl rfl szs hcc z1 z2 z3⟩
  have old := kp b u e
  have blt := Heap.lt_size old
  show (sortedHeap (h1.push (seqObj "list" its.toList.toArray 0)) h1.objs.size its.toList res.toArray).get? b = _
  rw [PyProof.Rows.sortedHeap_old (Nat.ne_of_lt blt) (by rw [Heap.size_push]; exact Nat.lt_succ_of_lt blt)]
  exact Heap.get?_push_of_some _ old
end
def rSortTI (K : PySem.W.Frag) : List V → Hp → VK → Prop := fun vs H Q => ∃ (a : Addr) (ns : List Int), vs = [V.ref a] ∧ SqT K H a (ns.map V.int) ∧ ns.length ≤ 4000 ∧
  ∀ (ms : List Int) (p : Addr), ms.Perm ns → ms.Pairwise (· ≤ ·) → H p = none → Q (.ref p) (upd H p (.lst (ms.map V.int)))
theorem cr_sortTI {X : Cx} : CallR X (.builtin "sorted") (rSortTI X.K) := by
  intro pins s σ H vs us Q I r h
  obtain ⟨a, ns, rfl, hS, hz, q⟩ := h
  rw [Vals.ref1 r]
  obtain ⟨its, rv, pl, _⟩ := I.tuple hS
  have hlen : its.length = ns.length := by rw [← rv.length, List.length_map]
  refine sortedTupAll (show s.heap.IsTuple a its.toArray from pl) (by simpa using rv.ints) (by rw [List.size_toArray, hlen]; exact hz) fun t p res c ms kp gs os sz at1 hii perm asc => ?_
  have fits : (ms.map V.int).length ≤ sizeLine := by rw [List.length_map, perm.length_eq, sizeLine_eq]; omega
  have fresh : H p = none := I.hok.fresh sz
  have J1 : Inv X pins σ (upd H p (.lst (ms.map V.int))) { s with heap := t.heap, gens := t.gens, drawn := t.drawn, toks := t.toks } :=
    I.call (ch := []) (Un.laid kp sz fresh) (I.hok.laid kp sz ⟨fits, res, c, vals_of_ints hii, at1⟩) (by rw [gs]; exact I.bare) (fun _ z => nomatch z)
  have same : t = { s with heap := t.heap, gens := t.gens, drawn := t.drawn, toks := t.toks } := by
    cases t; cases s; cases os; rfl
  rw [same]
  exact ⟨.ref p, _, J1, rfl, q ms p perm asc fresh⟩
section
variable {F : Fm} {C : Cs} {ρ : Rho} {k : Nat} {Φ : Nat → PyData → Prop} {pos p : Pos} {e : Expr}
theorem srtTK {X : Cx} (fx : Fits C X) : CallR X (.builtin "sorted") (rSortTI C.K) := by rw [← fx.K]; exact cr_sortTI
theorem we_sortedT (hK : F.K = C.K) (hg : C.sc.names.lookup ("sorted" : Str) = some .globalImplicit) (hm : C.mg ("sorted" : Str) = none) (hs : ∀ env : Env, starEach [e] env = (false, eval e env) :: starEach [] env) (h : WPE F C e ρ k fun k1 x => ∃ ns : List Int, x = .tuple (ns.map PyData.int) ∧ ns.length ≤ 4000 ∧ ∀ ms : List Int, ms.Perm ns → ms.Pairwise (· ≤ ·) → Φ k1 (.list (ms.map PyData.int))) : WPE F C (.Call (.Name "sorted" p) [e] [] pos) ρ k Φ :=
  we_callB (id := "sorted") (fun X fx => srtTK fx) hg hm (by decide +kernel) (wa_one hs (h.imp fun k1 x ⟨ns, e, hz, p⟩ => fun H vs Q j r q => by
    subst e
    cases r with
    | cons r1 r2 =>
    cases r2
    cases r1 with
    | @tup a xs _ ha hr => exact ⟨a, ns, rfl, hr.ints ▸ hK ▸ sqt_of ha, hz, fun ms l hp hw hl => q _ _ k1 _ (.new hl) (j.new hl) (rep_newL j hl (RepAll.of_ints ms)) (p ms hp hw)⟩)) (by decide) (by decide) hs
end

section
variable {F : Fm} {C : Cs} {ρ : Rho} {k : Nat} {Ψ : Nat → Bool → Prop} {pos : Pos} {a b : Expr}
/-- a and b, a or b, as tests of known value -/
theorem wt_and2 {p q : Bool} (ha : WPT F C a ρ k fun k1 z => k1 = k ∧ z = p) (hb : p = true → WPT F C b ρ k fun k1 z => k1 = k ∧ z = q) (h : Ψ k (p && q)) : WPT F C (.BoolOp .And [a, b] pos) ρ k Ψ :=
  wt_bool (ww_and (ha.imp fun k1 z ⟨e1, e2⟩ => by
    subst e1 e2
    cases z with
    | false => exact h
    | true => rw [if_pos rfl]; exact ww_and1 ((hb rfl).imp fun k2 z ⟨e3, e4⟩ => by subst e3 e4; exact h)))
theorem wt_or2 {p q : Bool} (ha : WPT F C a ρ k fun k1 z => k1 = k ∧ z = p) (hb : p = false → WPT F C b ρ k fun k1 z => k1 = k ∧ z = q) (h : Ψ k (p || q)) : WPT F C (.BoolOp .Or [a, b] pos) ρ k Ψ :=
  wt_bool (ww_or (ha.imp fun k1 z ⟨e1, e2⟩ => by
    subst e1 e2
    cases z with
    | true => exact h
    | false => rw [if_neg (by decide)]; exact ww_or1 ((hb rfl).imp fun k2 z ⟨e3, e4⟩ => by subst e3 e4; exact h)))
end
end Dl

set_option maxHeartbeats 2000000
namespace Dl
open PySem PySem.Spec PyProof.Rows L2
/-! ### zip of two sequences, each a list (true) or a tuple (false) -/
def Wk (b : Bool) (h : Heap) (it l : Addr) (i : Nat) : Prop := match b with | true => h.IsListIter it l i | false => h.IsTupleIter it l i
def Sk (b : Bool) (h : Heap) (l : Addr) (xs : Array Value) : Prop := match b with | true => h.IsList l xs | false => h.IsTuple l xs
section
variable {b : Bool} {h h' : Heap} {it l c : Addr} {i : Nat} {xs : Array Value}
theorem Wk.far (x : Wk b h it l i) (e : Heap.ExtBut c h h') (ne : it ≠ c) : Wk b h' it l i := by
  cases b with
  | true => exact Heap.IsListIter.extBut x e ne
  | false => exact Heap.IsTupleIter.extBut x e ne
theorem Wk.keep (x : Wk b h it l i) (e : ∀ o, h.get? it = some o → h'.get? it = some o) : Wk b h' it l i := by
  cases b with
  | true => exact Heap.IsListIter.at x e
  | false => exact Heap.IsTupleIter.at x e
theorem Sk.far (x : Sk b h l xs) (e : Heap.ExtBut c h h') (ne : l ≠ c) : Sk b h' l xs := by
  cases b with
  | true => exact Heap.IsList.extBut x e ne
  | false => exact Heap.IsTuple.extBut x e ne
theorem Sk.push (x : Sk b h l xs) (o : Obj) : Sk b (h.push o) l xs := by
  cases b with
  | true => exact Heap.IsList.push x o
  | false => exact Heap.IsTuple.push x o
theorem Sk.lt (x : Sk b h l xs) : l < h.objs.size := by
  cases b with
  | true => obtain ⟨o, e, _⟩ := x; exact Heap.lt_size e
  | false => obtain ⟨o, e, _⟩ := x; exact Heap.lt_size e
theorem Wk.obj (x : Wk b h it l i) : ∃ o, h.get? it = some o ∧ ∀ v, o.data ≠ Data.cell v := by
  cases b with
  | true => obtain ⟨o, e, _, d⟩ := x; exact ⟨o, e, fun v q => by rw [d] at q; cases q⟩
  | false => obtain ⟨o, e, _, d⟩ := x; exact ⟨o, e, fun v q => by rw [d] at q; cases q⟩
end
section
variable {prog : Program} {w : World} {A : Around} {E : Value → Shared → Prop} {s : Shared} {b b1 b2 : Bool}
theorem step_item {it l : Addr} {i : Nat} {xs : Array Value} {x : Value} {Q : Value → Shared → Prop} (wk : Wk b s.heap it l i) (sk : Sk b s.heap l xs) (hx : xs[i]? = some x)
    (q : ∀ h', Wk b h' it l (i + 1) → Heap.SameBut it s.heap h' → Q x { s with heap := h' }) : wpAny (model prog w) A (Builtin.SmallTypes.nextOf (.ref it)) Q E s := by
  cases b with
  | true => exact wpAny_nextOf_list_item wk sk hx q
  | false => exact RZ.nextOf_tuple_item wk sk hx q
theorem step_end {it l : Addr} {i : Nat} {xs : Array Value} {Q : Value → Shared → Prop} (calm : A.handled = none) (wk : Wk b s.heap it l i) (sk : Sk b s.heap l xs) (hx : xs[i]? = none)
    (q : ∀ h' e, Heap.ExtBut it s.heap h' → (∃ o, h'.get? e = some o ∧ o.cls = .type "StopIteration") → E (.ref e) { s with heap := h' }) : wpAny (model prog w) A (Builtin.SmallTypes.nextOf (.ref it)) Q E s := by
  cases b with
  | true => exact wpAny_nextOf_list_end calm wk sk hx q
  | false => exact RZ.nextOf_tuple_end calm wk sk hx q
theorem zk_item {z ti to i1 i2 l1 l2 : Addr} {k1 k2 : Nat} {xs ys : Array Value} {x y u v : Value} {Q : Value → Shared → Prop} (D : ZipApart z ti to i1 i2 l1 l2)
    (pz : IsZip s.heap z ti to .none) (pi : IsPair s.heap ti (.ref i1) (.ref i2)) (po : IsPair s.heap to u v) (w1 : Wk b1 s.heap i1 l1 k1) (w2 : Wk b2 s.heap i2 l2 k2) (s1 : Sk b1 s.heap l1 xs) (s2 : Sk b2 s.heap l2 ys) (hx : xs[k1]? = some x) (hy : ys[k2]? = some y)
    (q : ∀ h', IsZip h' z ti to (rawInt s.heap.objs.size) → IsPair h' to x y → Wk b1 h' i1 l1 (k1 + 1) → Wk b2 h' i2 l2 (k2 + 1) → IsPair h' s.heap.objs.size x y → h'.objs.size = s.heap.objs.size + 1 →
      (∀ c o, c ≠ z → c ≠ to → c ≠ i1 → c ≠ i2 → s.heap.get? c = some o → h'.get? c = some o) → Q (.ref s.heap.objs.size) { s with heap := h' }) :
    wpAny (model prog w) A (Builtin.«zip.__next__» ⟨[.ref z], []⟩) (fun fin t => ∃ r, fin = .done (.ret r) ∧ Q r t) E s := by
  show wpAny _ _ (field (.ref z) 2 >>= _) _ _ _; refine wpAny_bind (wpAny_field pz rfl (x := .bool false) rfl ?_)
  show wpAny _ _ (field (.ref z) 3 >>= _) _ _ _; refine wpAny_bind (wpAny_field pz rfl (x := .ref ti) rfl (wpAny_bind (wpAny_seqItems pi rfl ?_)))
  show wpAny _ _ (Builtin.SmallTypes.ownedTupleIsFree (.ref z) >>= _) _ _ _; refine wpAny_bind ?_; unfold Builtin.SmallTypes.ownedTupleIsFree
  refine wpAny_bind (wpAny_field pz rfl (x := .none) rfl (wpAny_pure ?_)); simp only [if_true]
  refine wpAny_bind (wpAny_rule (wpAny_bind (wpAny_field pz rfl (x := .ref to) rfl (wpAny_bind (wpAny_setField_rec pz (by simp) fun g1 z1 e1 => ?_)))))
  replace z1 : IsZip g1 z ti to .ellipsis := z1
  refine wpAny_bind ?_; simp only [List.zipIdx_cons, List.zipIdx_nil, List.forIn_cons, List.forIn_nil]
  refine wpAny_bind (wpAny_bind (wpAny_onRaise ?_)); show wpAny _ _ (Builtin.SmallTypes.nextOf (.ref i1) >>= _) _ _ _
  refine wpAny_bind (step_item (w1.far e1.extBut D.i1z) (s1.far e1.extBut D.l1z) hx fun g2 w12 e2 => wpAny_pure ?_)
  have po2 : IsPair g2 to u v := e2.extBut _ _ D.TOi1 (e1.extBut _ _ D.TOz po)
  refine wpAny_bind (wpAny_seqItems po2 rfl (wpAny_bind (wpAny_updateSeq_pair po2 fun g3 po3 e3 => wpAny_bind (wpAny_letGo (wpAny_pure ?_)))))
  replace po3 : IsPair g3 to x v := po3
  refine wpAny_bind (wpAny_bind (wpAny_onRaise ?_)); show wpAny _ _ (Builtin.SmallTypes.nextOf (.ref i2) >>= _) _ _ _
  refine wpAny_bind (step_item (((w2.far e1.extBut D.i2z).far e2.extBut D.i12.symm).far e3.extBut D.TOi2.symm) (((s2.far e1.extBut D.l2z).far e2.extBut D.l2i1).far e3.extBut D.l2TO) hy fun g4 w24 e4 => wpAny_pure ?_)
  have po4 : IsPair g4 to x v := e4.extBut _ _ D.TOi2 po3
  refine wpAny_bind (wpAny_seqItems po4 rfl (wpAny_bind (wpAny_updateSeq_pair po4 fun g5 po5 e5 => wpAny_bind (wpAny_letGo (wpAny_pure (wpAny_pure ?_))))))
  replace po5 : IsPair g5 to x y := po5
  refine wpAny_bind (wpAny_seqItems po5 rfl (wpAny_bind (wpAny_newTuple ?_)))
  have size5 : g5.objs.size = s.heap.objs.size := by rw [e5.1, e4.1, e3.1, e2.1, e1.1]
  have z5 : IsZip g5 z ti to .ellipsis := e5.extBut _ _ D.TOz.symm (e4.extBut _ _ D.i2z.symm (e3.extBut _ _ D.TOz.symm (e2.extBut _ _ D.i1z.symm z1)))
  have kp5 : ∀ c o, c ≠ z → c ≠ to → c ≠ i1 → c ≠ i2 → s.heap.get? c = some o → g5.get? c = some o := fun c o n1 n2 n3 n4 g => e5.extBut _ _ n2 (e4.extBut _ _ n4 (e3.extBut _ _ n2 (e2.extBut _ _ n3 (e1.extBut _ _ n1 g))))
  have w15 : Wk b1 g5 i1 l1 (k1 + 1) := ((w12.far e3.extBut D.TOi1.symm).far e4.extBut D.i12).far e5.extBut D.TOi1.symm
  have w25 : Wk b2 g5 i2 l2 (k2 + 1) := w24.far e5.extBut D.TOi2.symm
  have zlt : z < g5.objs.size := Heap.lt_size z5
  show wpAny _ _ (Builtin.SmallTypes.ownedTupleHandOut (.ref z) (.ref g5.objs.size) >>= _) _ _ _; refine wpAny_bind ?_; unfold Builtin.SmallTypes.ownedTupleHandOut
  have z6 : IsZip (g5.push { cls := .type "tuple", data := .seq #[x, y] }) z ti to .ellipsis := Heap.get?_push_of_some _ z5
  refine wpAny_bind (wpAny_setField_rec z6 (by simp) fun g7 z7 e7 => ?_)
  replace z7 : IsZip g7 z ti to (rawInt g5.objs.size) := z7
  refine wpAny_setField_rec z7 (by simp) fun g8 z8 e8 => ?_
  replace z8 : IsZip g8 z ti to (rawInt g5.objs.size) := z8
  have rise : ∀ c o, c ≠ z → g5.get? c = some o → g8.get? c = some o := fun c o n1 g => e8.extBut _ _ n1 (e7.extBut _ _ n1 (Heap.get?_push_of_some _ g))
  have new8 : IsPair g8 g5.objs.size x y := e8.extBut _ _ (Nat.ne_of_gt zlt) (e7.extBut _ _ (Nat.ne_of_gt zlt) (Heap.get?_push_size _ rfl))
  have size8 : g8.objs.size = g5.objs.size + 1 := by rw [e8.1, e7.1, Heap.size_push]
  rw [size5] at z8 new8 size8
  refine wpAny_pure ⟨_, rfl, ?_⟩
  show Q (.ref g5.objs.size) _
  rw [size5]
  exact q g8 z8 (rise _ _ D.TOz po5) (w15.keep fun o g => rise _ o D.i1z g) (w25.keep fun o g => rise _ o D.i2z g) new8 size8 fun c o n1 n2 n3 n4 g => rise c o n1 (kp5 c o n1 n2 n3 n4 g)
theorem zk_end {z ti to i1 i2 l1 l2 : Addr} {k1 k2 : Nat} {xs ys : Array Value} {u v : Value} {Q : PySem.Fin → Shared → Prop} (calm : A.handled = none) (D : ZipApart z ti to i1 i2 l1 l2)
    (pz : IsZip s.heap z ti to .none) (pi : IsPair s.heap ti (.ref i1) (.ref i2)) (po : IsPair s.heap to u v) (w1 : Wk b1 s.heap i1 l1 k1) (w2 : Wk b2 s.heap i2 l2 k2) (s1 : Sk b1 s.heap l1 xs) (s2 : Sk b2 s.heap l2 ys) (over : xs[k1]? = none ∨ ys[k2]? = none)
    (q : ∀ h' e, (∀ c o, c ≠ z → c ≠ to → c ≠ i1 → c ≠ i2 → s.heap.get? c = some o → h'.get? c = some o) → (∃ o, h'.get? e = some o ∧ o.cls = .type "StopIteration") → E (.ref e) { s with heap := h' }) :
    wpAny (model prog w) A (Builtin.«zip.__next__» ⟨[.ref z], []⟩) Q E s := by
  show wpAny _ _ (field (.ref z) 2 >>= _) _ _ _; refine wpAny_bind (wpAny_field pz rfl (x := .bool false) rfl ?_)
  show wpAny _ _ (field (.ref z) 3 >>= _) _ _ _; refine wpAny_bind (wpAny_field pz rfl (x := .ref ti) rfl (wpAny_bind (wpAny_seqItems pi rfl ?_)))
  show wpAny _ _ (Builtin.SmallTypes.ownedTupleIsFree (.ref z) >>= _) _ _ _; refine wpAny_bind ?_; unfold Builtin.SmallTypes.ownedTupleIsFree
  refine wpAny_bind (wpAny_field pz rfl (x := .none) rfl (wpAny_pure ?_)); simp only [if_true]
  refine wpAny_bind (wpAny_rule (wpAny_bind (wpAny_field pz rfl (x := .ref to) rfl (wpAny_bind (wpAny_setField_rec pz (by simp) fun g1 z1 e1 => ?_)))))
  replace z1 : IsZip g1 z ti to .ellipsis := z1
  refine wpAny_bind ?_; simp only [List.zipIdx_cons, List.zipIdx_nil, List.forIn_cons, List.forIn_nil]
  refine wpAny_bind (wpAny_bind (wpAny_onRaise ?_)); show wpAny _ _ (Builtin.SmallTypes.nextOf (.ref i1) >>= _) _ _ _
  cases hx : xs[k1]? with
  | none =>
    refine wpAny_bind (step_end calm (w1.far e1.extBut D.i1z) (s1.far e1.extBut D.l1z) hx fun g2 e e2 ⟨oe, ge, ce⟩ => ?_)
    have z2 : IsZip g2 z ti to .ellipsis := e2 _ _ D.i1z.symm z1
    have nez : e ≠ z := fun t => by subst t; rw [z2] at ge; cases ge; simp at ce
    exact wpAny_setField_rec z2 (by simp) fun g3 _ e3 => q g3 e (fun c o n1 _ n3 _ t => e3.extBut _ _ n1 (e2 _ _ n3 (e1.extBut _ _ n1 t))) ⟨oe, e3.extBut _ _ nez ge, ce⟩
  | some x =>
    have hy : ys[k2]? = none := over.elim (fun t => by rw [hx] at t; cases t) id
    refine wpAny_bind (step_item (w1.far e1.extBut D.i1z) (s1.far e1.extBut D.l1z) hx fun g2 w12 e2 => wpAny_pure ?_)
    have po2 : IsPair g2 to u v := e2.extBut _ _ D.TOi1 (e1.extBut _ _ D.TOz po)
    refine wpAny_bind (wpAny_seqItems po2 rfl (wpAny_bind (wpAny_updateSeq_pair po2 fun g3 po3 e3 => wpAny_bind (wpAny_letGo (wpAny_pure ?_)))))
    refine wpAny_bind (wpAny_bind (wpAny_onRaise ?_)); show wpAny _ _ (Builtin.SmallTypes.nextOf (.ref i2) >>= _) _ _ _
    refine wpAny_bind (step_end calm (((w2.far e1.extBut D.i2z).far e2.extBut D.i12.symm).far e3.extBut D.TOi2.symm) (((s2.far e1.extBut D.l2z).far e2.extBut D.l2i1).far e3.extBut D.l2TO) hy fun g4 e e4 ⟨oe, ge, ce⟩ => ?_)
    have z4 : IsZip g4 z ti to .ellipsis := e4 _ _ D.i2z.symm (e3.extBut _ _ D.TOz.symm (e2.extBut _ _ D.i1z.symm z1))
    have nez : e ≠ z := fun t => by subst t; rw [z4] at ge; cases ge; simp at ce
    exact wpAny_setField_rec z4 (by simp) fun g5 _ e5 => q g5 e (fun c o n1 n2 n3 n4 t => e5.extBut _ _ n1 (e4 _ _ n4 (e3.extBut _ _ n2 (e2.extBut _ _ n3 (e1.extBut _ _ n1 t))))) ⟨oe, e5.extBut _ _ nez ge, ce⟩
theorem zk_next {z ti to i1 i2 l1 l2 : Addr} {k1 k2 : Nat} {xs ys : Array Value} {x y u v : Value} {Q : Option Value → Shared → Prop} (D : ZipApart z ti to i1 i2 l1 l2)
    (pz : IsZip s.heap z ti to .none) (pi : IsPair s.heap ti (.ref i1) (.ref i2)) (po : IsPair s.heap to u v) (w1 : Wk b1 s.heap i1 l1 k1) (w2 : Wk b2 s.heap i2 l2 k2) (s1 : Sk b1 s.heap l1 xs) (s2 : Sk b2 s.heap l2 ys) (hx : xs[k1]? = some x) (hy : ys[k2]? = some y)
    (q : ∀ h', IsZip h' z ti to (rawInt s.heap.objs.size) → IsPair h' to x y → Wk b1 h' i1 l1 (k1 + 1) → Wk b2 h' i2 l2 (k2 + 1) → IsPair h' s.heap.objs.size x y → h'.objs.size = s.heap.objs.size + 1 →
      (∀ c o, c ≠ z → c ≠ to → c ≠ i1 → c ≠ i2 → s.heap.get? c = some o → h'.get? c = some o) → Q (some (.ref s.heap.objs.size)) { s with heap := h' }) : wpAny (model prog w) A (pyNext (.ref z)) Q E s := by
  have ty : s.TypeIs (.ref z) "zip" := ⟨_, pz, rfl⟩
  unfold pyNext
  exact wpAny_bind (wpAny_attempt (wpAny_callSpecial?_slot (name := Str.ofString "__next__") ty F.slot_zip_next (wpAny_call_entry F.slot_zip_next ty F.entry_zip_next
    (zk_item D pz pi po w1 w2 s1 s2 hx hy fun h' a1 a2 a3 a4 a5 a6 a7 => wpAny_pure (q h' a1 a2 a3 a4 a5 a6 a7)) (F.args_zip_next_1 _))))
theorem zk_stop {z ti to i1 i2 l1 l2 : Addr} {k1 k2 : Nat} {xs ys : Array Value} {u v : Value} {Q : Option Value → Shared → Prop} (calm : A.handled = none) (D : ZipApart z ti to i1 i2 l1 l2)
    (pz : IsZip s.heap z ti to .none) (pi : IsPair s.heap ti (.ref i1) (.ref i2)) (po : IsPair s.heap to u v) (w1 : Wk b1 s.heap i1 l1 k1) (w2 : Wk b2 s.heap i2 l2 k2) (s1 : Sk b1 s.heap l1 xs) (s2 : Sk b2 s.heap l2 ys) (over : xs[k1]? = none ∨ ys[k2]? = none)
    (q : ∀ h', (∀ c o, c ≠ z → c ≠ to → c ≠ i1 → c ≠ i2 → s.heap.get? c = some o → h'.get? c = some o) → Q none { s with heap := h' }) : wpAny (model prog w) A (pyNext (.ref z)) Q E s := by
  have ty : s.TypeIs (.ref z) "zip" := ⟨_, pz, rfl⟩
  unfold pyNext
  refine wpAny_bind (wpAny_attempt (wpAny_callSpecial?_slot (name := Str.ofString "__next__") ty F.slot_zip_next (wpAny_call_entry F.slot_zip_next ty F.entry_zip_next
    (zk_end calm D pz pi po w1 w2 s1 s2 over fun h' e kp ⟨o, ge, ce⟩ => wpAny_bind (wpAny_isInstance (T := "StopIteration") (b := true) ⟨o, ge, ce⟩ isSubtype_stop (wpAny_pure (q _ kp)))) (F.args_zip_next_1 _))))
end

/-! ### zip(a list, a tuple) -/
abbrev zg1 (h : Heap) (l1 : Addr) : Heap := h.push { cls := .type "list_iterator", data := .fields #[.ref l1, .int 0 0] }
abbrev zg2 (h : Heap) (l1 l2 : Addr) : Heap := (zg1 h l1).push { cls := .type "tuple_iterator", data := .fields #[.ref l2, .int 0 0] }
abbrev zg3 (h : Heap) (l1 l2 : Addr) : Heap := (zg2 h l1 l2).push { cls := .type "tuple", data := .seq #[.ref h.objs.size, .ref (zg1 h l1).objs.size] }
abbrev zg4 (h : Heap) (l1 l2 : Addr) : Heap := (zg3 h l1 l2).push { cls := .type "tuple", data := .seq #[.none, .none] }
abbrev zg5 (h : Heap) (l1 l2 : Addr) : Heap := (zg4 h l1 l2).push { cls := .type "zip", data := .fields #[.none, .bool false, .bool false, .ref (zg2 h l1 l2).objs.size, .ref (zg3 h l1 l2).objs.size] }
theorem meets_zg (l1 l2 : Addr) (xs ys : Array Value) : Meets (Builtin.«zip.__new__» ⟨[.type "zip", .ref l1, .ref l2], []⟩)
    (fun _ R s => s.heap.IsList l1 xs ∧ s.heap.IsTuple l2 ys ∧ R (.ok (.ret (.ref (zg4 s.heap l1 l2).objs.size))) { s with heap := zg5 s.heap l1 l2 }) :=
  .of_wp fun prog w A R s h => by
    obtain ⟨hp, g, d, tk, os⟩ := s; obtain ⟨q1, q2, q⟩ := h
    have hsub := sub_zip
    have L1 : Heap.IsList (Shared.heap ⟨hp, g, d, tk, os⟩) l1 xs := q1
    have L2 : Heap.IsTuple (Shared.heap ⟨zg1 hp l1, g, d, tk, os⟩) l2 ys := Heap.IsTuple.push q2 _
    wp_walk using wpAny_pyIter_list L1, wpAny_pyIter_tuple L2
    exact ⟨_, rfl, q⟩
section
variable {prog : Program} {w : World} {A : Around} {E : Value → Shared → Prop} {s : Shared}
theorem call_zg {l1 l2 : Addr} {xs ys : Array Value} {Q : Value → Shared → Prop} (q1 : s.heap.IsList l1 xs) (q2 : s.heap.IsTuple l2 ys)
    (q : ∀ h', IsZip h' (s.heap.objs.size + 4) (s.heap.objs.size + 2) (s.heap.objs.size + 3) .none → IsPair h' (s.heap.objs.size + 2) (.ref s.heap.objs.size) (.ref (s.heap.objs.size + 1)) → IsPair h' (s.heap.objs.size + 3) .none .none →
      Wk true h' s.heap.objs.size l1 0 → Wk false h' (s.heap.objs.size + 1) l2 0 → (∀ c o, s.heap.get? c = some o → h'.get? c = some o) → Q (.ref (s.heap.objs.size + 4)) { s with heap := h' }) :
    wpAny (model prog w) A (call (.type "zip") [.ref l1, .ref l2]) Q E s := by
  refine callType_new F.called_zip (by decide) (F.typeCall_zip_2 _ _) (F.newCall_zip_2 _ _) (fun obj => F.args_object_init_3 obj _ _) F.entry_zip_new (meets_zg l1 l2 xs ys) ⟨q1, q2, ?_⟩
  have n1 : (zg1 s.heap l1).objs.size = s.heap.objs.size + 1 := Heap.size_push ..
  have n2 : (zg2 s.heap l1 l2).objs.size = s.heap.objs.size + 2 := by rw [Heap.size_push, n1]
  have n3 : (zg3 s.heap l1 l2).objs.size = s.heap.objs.size + 3 := by rw [Heap.size_push, n2]
  have n4 : (zg4 s.heap l1 l2).objs.size = s.heap.objs.size + 4 := by rw [Heap.size_push, n3]
  have m5 : (zg5 s.heap l1 l2).get? (zg4 s.heap l1 l2).objs.size = some _ := Heap.get?_push_size _ rfl
  have m4 : (zg5 s.heap l1 l2).get? (zg3 s.heap l1 l2).objs.size = some _ := Heap.get?_push_of_some _ (Heap.get?_push_size _ rfl)
  have m3 : (zg5 s.heap l1 l2).get? (zg2 s.heap l1 l2).objs.size = some _ := Heap.get?_push_of_some _ (Heap.get?_push_of_some _ (Heap.get?_push_size _ rfl))
  have m2 : (zg5 s.heap l1 l2).get? (zg1 s.heap l1).objs.size = some _ := Heap.get?_push_of_some _ (Heap.get?_push_of_some _ (Heap.get?_push_of_some _ (Heap.get?_push_size _ rfl)))
  have m1 : (zg5 s.heap l1 l2).get? s.heap.objs.size = some _ := Heap.get?_push_of_some _ (Heap.get?_push_of_some _ (Heap.get?_push_of_some _ (Heap.get?_push_of_some _ (Heap.get?_push_size _ rfl))))
  show _ ∧ _
  rw [n2, n3, n4] at m5
  rw [n1, n2] at m3
  rw [n3] at m4
  rw [n1] at m2
  rw [n4]
  exact ⟨⟨_, m5, rfl⟩, q _ m5 m3 m4 ⟨_, m1, rfl, rfl⟩ ⟨_, m2, rfl, rfl⟩ fun c o g => Heap.get?_push_of_some _ (Heap.get?_push_of_some _ (Heap.get?_push_of_some _ (Heap.get?_push_of_some _ (Heap.get?_push_of_some _ g))))⟩
end
def Itg (K : PySem.W.Frag) (a b : Addr) : It :=
  ⟨fun i H => ∃ (xs ys : List V) (x y : V), SqL K H a xs ∧ SqT K H b ys ∧ xs[i]? = some x ∧ ys[i]? = some y,
    fun i H v H' => ∃ t x y, v = .ref t ∧ H t = none ∧ H' = upd H t (.tup [x, y]) ∧ (∀ xs, SqL K H a xs → xs[i]? = some x) ∧ ∀ ys, SqT K H b ys → ys[i]? = some y,
    fun i H => ∃ xs ys : List V, SqL K H a xs ∧ SqT K H b ys ∧ (xs.length ≤ i ∨ ys.length ≤ i)⟩
theorem turn_zg {P : Program} {w : World} {K : PySem.W.Frag} {elts : List Expr} {kk : Nat} {tpos : Pos} {a b z ti to i1 i2 : Addr} (D : ZipApart z ti to i1 i2 a b) :
    Turn P w K (.Tuple elts kk tpos) (Itg K a b) [z, ti, to, i1, i2] z (fun i h => IsZip h z ti to .none ∧ IsPair h ti (.ref i1) (.ref i2) ∧ (∃ u v, IsPair h to u v) ∧ Wk true h i1 a i ∧ Wk false h i2 b i) where
  mem := by simp
  obj := fun i h st c hc => by
    obtain ⟨pz, pi, ⟨u, v, po⟩, w1, w2⟩ := st
    obtain ⟨o1, g1, d1⟩ := w1.obj
    obtain ⟨o2, g2, d2⟩ := w2.obj
    have cases5 : c = z ∨ c = ti ∨ c = to ∨ c = i1 ∨ c = i2 := by simpa using hc
    rcases cases5 with rfl | rfl | rfl | rfl | rfl
    · exact ⟨_, pz, fun _ q => nomatch q⟩
    · exact ⟨_, pi, fun _ q => nomatch q⟩
    · exact ⟨_, po, fun _ q => nomatch q⟩
    · exact ⟨o1, g1, d1⟩
    · exact ⟨o2, g2, d2⟩
  keep := fun i h h' st k => by
    obtain ⟨pz, pi, ⟨u, v, po⟩, w1, w2⟩ := st
    exact ⟨k z (by simp) _ pz, k ti (by simp) _ pi, ⟨u, v, k to (by simp) _ po⟩, w1.keep fun o q => k i1 (by simp) o q, w2.keep fun o q => k i2 (by simp) o q⟩
  item := by
    intro X hP hw hK hc i pins s σ H E I hf st hg
    subst hP hw hK
    obtain ⟨pz, pi, ⟨u0, v0, po⟩, w1, w2⟩ := st
    obtain ⟨xs, ys, x, y, sqx, sqy, hx, hy⟩ := hg
    obtain ⟨vx, rx, lx, _⟩ := I.list sqx
    obtain ⟨vy, ry, ly, _⟩ := I.tuple sqy
    obtain ⟨ux, hux, rux⟩ := rx.get hx
    obtain ⟨uy, huy, ruy⟩ := ry.get hy
    have zlt : z < s.heap.objs.size := Heap.lt_size pz
    refine zk_next D pz pi po w1 w2 (show Sk true s.heap a vx.toArray from lx.isList) (show Sk false s.heap b vy.toArray from ly) (x := ux) (y := uy) (by simpa using hux) (by simpa using huy) fun h1 z1 o1 w11 w21 new1 _ kp => ?_
    refine ⟨_, rfl, wpAny_letOwnedTupleGo_zip (s := { s with heap := h1 }) z1 fun h2 z2 sb => ?_⟩
    have new2 : h2.get? s.heap.objs.size = some { cls := .type "tuple", data := .seq #[ux, uy] } := (sb.2 _ (Nat.ne_of_gt zlt)).trans new1
    have okn : ObjOk X.prog X.w (upd H s.heap.objs.size (.tup [x, y])) h2 s.heap.objs.size (.tup [x, y]) := ⟨by show 2 ≤ sizeLine; decide, [ux, uy], .cons rux (.cons ruy .nil), ⟨_, new2, rfl, _, rfl⟩⟩
    have V1 : Inv X pins σ (upd H s.heap.objs.size (.tup [x, y])) { s with heap := h2 } := I.turnedNew (t' := s.toks) (ch := [z, ti, to, i1, i2]) (fun c o nb g => (sb.2 c fun q => nb (by simp [q])).trans (kp c o (fun q => nb (by simp [q])) (fun q => nb (by simp [q])) (fun q => nb (by simp [q])) (fun q => nb (by simp [q])) g)) hf (Nat.le_refl _) okn
    refine ⟨.ref s.heap.objs.size, _, V1, rfl, ⟨_, x, y, rfl, I.hok.fresh (Nat.le_refl _), rfl, fun l hl => by rw [I.list_inj hl sqx]; exact hx, fun l hl => by rw [I.tuple_inj hl sqy]; exact hy⟩, ⟨z2, (sb.2 _ D.TIz).trans (kp _ _ D.TIz D.TITO D.TIi1 D.TIi2 pi), ⟨ux, uy, (sb.2 _ D.TOz).trans o1⟩, w11.keep fun o g => (sb.2 _ D.i1z).trans g, w21.keep fun o g => (sb.2 _ D.i2z).trans g⟩, fun c hcm => ?_⟩
    have clt : c < s.heap.objs.size := by
      obtain ⟨o1, g1, _⟩ := w1.obj
      obtain ⟨o2, g2, _⟩ := w2.obj
      have cases5 : c = z ∨ c = ti ∨ c = to ∨ c = i1 ∨ c = i2 := by simpa using hcm
      rcases cases5 with rfl | rfl | rfl | rfl | rfl
      · exact zlt
      · exact Heap.lt_size pi
      · exact Heap.lt_size po
      · exact Heap.lt_size g1
      · exact Heap.lt_size g2
    rw [upd_ne (Nat.ne_of_lt clt)]
    exact (hf c hcm).1
  done := by
    intro X hP hw hK hc i pins s σ H E I hf st hg
    subst hP hw hK
    obtain ⟨pz, pi, ⟨u0, v0, po⟩, w1, w2⟩ := st
    obtain ⟨xs, ys, sqx, sqy, over⟩ := hg
    obtain ⟨vx, rx, lx, _⟩ := I.list sqx
    obtain ⟨vy, ry, ly, _⟩ := I.tuple sqy
    have nx := rx.length
    have ny := ry.length
    have over' : vx.toArray[i]? = none ∨ vy.toArray[i]? = none := over.imp (fun q => by simp; omega) (fun q => by simp; omega)
    exact zk_stop (I.ok.hd hc) D pz pi po w1 w2 (show Sk true s.heap a vx.toArray from lx.isList) (show Sk false s.heap b vy.toArray from ly) over' fun h1 kp => ⟨rfl, I.turnedL (t' := s.toks) (ch := [z, ti, to, i1, i2]) (fun c o nb g => kp c o (fun q => nb (by simp [q])) (fun q => nb (by simp [q])) (fun q => nb (by simp [q])) (fun q => nb (by simp [q])) g) hf⟩
  self := fun A i s Q E st h => wpAny_pyIter_zip st.1 h
def iZg (K : PySem.W.Frag) (ta : TA) : TI := fun σ H R => ta σ H fun vs H1 => ∃ a b xs ys, vs = [.ref a, .ref b] ∧ SqL K H1 a xs ∧ SqT K H1 b ys ∧ R (Itg K a b) H1
theorem pi_zg {X : Cx} {e e2 : Expr} {ta : TA} {p pos tpos : Pos} {elts : List Expr} {kk : Nat} (hg : Gl X "zip") (hm : X.mg "zip" = none) (ha : PA X [e, e2] ta)
    (hs : starEach [e, e2] X.env = (false, eval e X.env) :: starEach [e2] X.env) (hpl : (backTo pos (starEach [e2] X.env)).any (·.1) = false) : PI X (.Tuple elts kk tpos) (.Call (.Name "zip" p) [e, e2] [] pos) (iZg X.K ta) := by
  refine ⟨fun pins s σ H R I h => Call_ (ld_blt I hg hm PyProof.Rows.boot_zip (PyProof.Rows.callWith_type1 (thn (ha.run pos pins s σ H _ I h) fun us s1 ⟨vs, H1, I1, r1, q1⟩ => ?_) hs hpl))⟩
  obtain ⟨a, b, xs, ys, rfl, sqx, sqy, q⟩ := q1
  cases r1 with
  | cons ra rr =>
  cases rr with
  | cons rb rr =>
  cases rr
  cases ra
  cases rb
  obtain ⟨vx, rx, lx, _⟩ := I1.list sqx
  obtain ⟨vy, ry, ly, _⟩ := I1.tuple sqy
  have lta : a < s1.heap.objs.size := (show Sk true s1.heap a vx.toArray from lx.isList).lt
  have ltb : b < s1.heap.objs.size := (show Sk false s1.heap b vy.toArray from ly).lt
  refine call_zg lx.isList ly fun h1 pz pi po w1 w2 kp => wpAny_pyIter_zip pz ?_
  have V2 : Inv X pins σ H1 { s1 with heap := h1 } := I1.kept (t' := s1.toks) kp
  refine ⟨s1.heap.objs.size + 4, [s1.heap.objs.size + 4, s1.heap.objs.size + 2, s1.heap.objs.size + 3, s1.heap.objs.size, s1.heap.objs.size + 1], _, _, H1, rfl, V2, turn_zg (PySem.W.ktu_apart s1.heap.objs.size a b lta ltb), ⟨pz, pi, ⟨_, _, po⟩, w1, w2⟩, fun c hcm => ?_, q⟩
  have ge : s1.heap.objs.size ≤ c := by
    have cases5 : c = s1.heap.objs.size + 4 ∨ c = s1.heap.objs.size + 2 ∨ c = s1.heap.objs.size + 3 ∨ c = s1.heap.objs.size ∨ c = s1.heap.objs.size + 1 := by simpa using hcm
    rcases cases5 with q | q | q | q | q <;> rw [q] <;> first | exact Nat.le_add_right _ _ | exact Nat.le_refl _
  exact I1.fpOk ge (I1.hok.fresh ge)
section
variable {F : Fm} {C : Cs} {ρ : Rho} {k : Nat} {P : DE} {pos p p1 p2 tp : Pos} {a b : Expr} {x1 x2 : Str} {kk : Nat} {body : List Stmt}
/-- for x1, x2 in zip(a list, a tuple) of one length -/
theorem ws_for_zg (i1 i2 : Nat) (t1 : Tgt C i1 x1) (t2 : Tgt C i2 x2) (hK : F.K = C.K) (hg : C.sc.names.lookup ("zip" : Str) = some .globalImplicit) (hm : C.mg ("zip" : Str) = none)
    (hs : ∀ env : Env, starEach [a, b] env = (false, eval a env) :: starEach [b] env) (hs2 : ∀ env : Env, starEach [b] env = (false, eval b env) :: starEach [] env) (hpl : ∀ env : Env, (backTo pos (starEach [b] env)).any (·.1) = false) (hfs : ∀ (env : Env) (v : Value), foldedSetIterable (.Call (.Name "zip" p) [a, b] [] pos) env v = pure v)
    (h : WPE F C a ρ k fun k1 d => WPE F C b ρ k1 fun k2 d' => ∃ (I : Nat → Nat → Rho → Prop) (ds es : List PyData), d = .list ds ∧ d' = .tuple es ∧ ds.length = es.length ∧ I 0 k2 ρ ∧
      (∀ (j : Nat) (y z : PyData) k' ρ', ds[j]? = some y → es[j]? = some z → I j k' ρ' → WPB F C body ((ρ'.set i1 (.d y)).set i2 (.d z)) k' (P.loop (I (j + 1)))) ∧ (∀ k' ρ', I ds.length k' ρ' → P.nx k' ρ')) :
    WPS F C (.For (.Tuple [.Name x1 p1, .Name x2 p2] kk tp) (.Call (.Name "zip" p) [a, b] [] pos) body [] pos) ρ k P :=
  of_ps (t := tFor (iZg C.K (tCons (tE C a) (tCons (tE C b) tNil))) (gTup C.K 2 (gCons (gName i1) (gCons (gName i2) gNil))) (tB C body)) (fun X fx => ps_for (by rw [fx.xe]; exact PassesOwn.never) fx.calm
      (by rw [← fx.K]; exact pi_zg (by show X.env.scope.names.lookup ("zip" : Str) = _; rw [fx.sc]; exact hg) (by rw [fx.mg]; exact hm) (pa_cons (peE fx) (pa_cons (peE fx) pa_nil (hs2 X.env)) (hs X.env)) (hs X.env) (hpl X.env))
      (pgTup (n := 2) fx (pgs_cons (t1.pg fx) (pgs_cons (t2.pg fx) pgs_nil)) (by rfl) (by rfl)) (pbB fx) (hfs X.env)) fun σ H E en j q1 q2 q3 q4 => by
    show tE C a σ H _
    refine h σ H _ en j fun va da k1 H1 l1 j1 ra hh => ?_
    show tE C b σ H1 _
    refine hh σ H1 _ (en.le l1) j1 fun vb db k2 H2 l2 j2 rb hh => ?_
    obtain ⟨I, ds, es, e1, e2, hlen, i0, hstep, hend⟩ := hh
    subst e1 e2
    have ra := ra.le l2.lz
    cases ra with
    | @lst pa xs _ ha hra =>
    cases rb with
    | @tup pb ys _ hb hrb =>
    have l12 := l1.trans l2
    refine ⟨pa, pb, xs, ys, rfl, hK ▸ sql_of ha, hK ▸ sqt_of hb, ?_⟩
    have nx : xs.length = ds.length := hra.length
    have ny : ys.length = es.length := hrb.length
    refine ⟨fun n m σ' H' => m + n = xs.length ∧ ∃ k' ρ', EnvOk F H' σ' ρ' ∧ J F k' H' ∧ Lz F H2 H' ∧ I n k' ρ', ⟨xs.length, by omega, k2, ρ, (en.le l1).le l2, j2, .refl, i0⟩, ?_⟩
    rintro n m σ' H' ⟨hm', k', ρ', en', j', lz, ii⟩
    have sqa : SqL C.K H' pa xs := hK ▸ sql_of (K := F.K) (⟨lz _ _ (Fm.sxA ha.2) ha.1, ha.2⟩ : H' pa = some (.lst xs) ∧ ¬ F.S pa)
    have sqb : SqT C.K H' pb ys := hK ▸ sqt_of (K := F.K) (⟨hb.1.lz hb.2 lz, hb.2⟩ : NT H' pb ys ∧ ¬ F.S pb)
    by_cases over : n = xs.length
    · refine .inl ⟨⟨xs, ys, sqa, sqb, .inl (by omega)⟩, ?_⟩
      exact q1 ρ' σ' k' H' (l12.lz.trans lz) en' j' (hend k' ρ' (by rw [← nx, ← over]; exact ii))
    · have lt1 : n < xs.length := by omega
      have lt2 : n < ys.length := by omega
      refine .inr ⟨⟨xs, ys, xs[n], ys[n], sqa, sqb, List.getElem?_eq_getElem lt1, List.getElem?_eq_getElem lt2⟩, fun σ2 H2' => ∃ k' ρ', EnvOk F H2' σ2 ρ' ∧ J F k' H2' ∧ Lz F H2 H2' ∧ I (n + 1) k' ρ', fun σ2 H2' w => ⟨m - 1, by omega, by omega, w⟩, ?_⟩
      rintro v H3 ⟨t, x, y, rfl, ht, rfl, fx1, fy1⟩
      have hx := fx1 xs sqa
      have hy := fy1 ys sqb
      obtain ⟨dx, hdx, rdx⟩ := hra.got hx
      obtain ⟨dy, hdy, rdy⟩ := hrb.got hy
      have lnew : Le F H' (upd H' t (.tup [x, y])) := .new ht
      have rx2 := (rdx.le lz).le lnew.lz
      have ry2 := (rdy.le lz).le lnew.lz
      refine ⟨t, [x, y], rfl, .inl (.inl upd_same), rfl, x, [y], rfl, y, [], rfl, rfl, ?_⟩
      refine hstep n dx dy k' ρ' hdx hdy ii _ _ _ (((en'.le lnew).set (sv := .d dx) ⟨_, rfl, rx2⟩).set (sv := .d dy) ⟨_, rfl, ry2⟩) (j'.new ht) ?_ q2 ?_ ?_
      · exact fun ρ2 σ2 k2' H2' l2' e2 j2' p => ⟨k2', ρ2, e2, j2', (lz.trans lnew.lz).trans l2', p⟩
      · exact fun ρ2 σ2 k2' H2' l2' e2 j2' p => q1 ρ2 σ2 k2' H2' (l12.lz.trans ((lz.trans lnew.lz).trans l2')) e2 j2' p
      · exact fun ρ2 σ2 k2' H2' l2' e2 j2' p => ⟨k2', ρ2, e2, j2', (lz.trans lnew.lz).trans l2', p⟩
end
end Dl

namespace Dl
open PySem PySem.Spec PyProof.Rows L2
/-! ### isinstance(data, a built-in type) -/
def tyN : PyData → String
  | .none => "NoneType"
  | .bool _ => "bool"
  | .int _ => "int"
  | .str _ => "str"
  | .list _ => "list"
  | .tuple _ => "tuple"
  | .dict _ => "dict"
def isiD (T : String) : PyData → Bool
  | .none => T == "NoneType"
  | .bool _ => T == "bool" || T == "int"
  | .int _ => T == "int"
  | .str _ => T == "str"
  | .list _ => T == "list"
  | .tuple _ => T == "tuple"
  | .dict _ => T == "dict"
theorem kit_int (K : PySem.W.Frag) (d : PyData) : PySem.W.kitOne K (.type (tyN d)) (.type "int") = some (isiD "int" d) := by cases d <;> kernel_rfl
theorem kit_bool (K : PySem.W.Frag) (d : PyData) : PySem.W.kitOne K (.type (tyN d)) (.type "bool") = some (isiD "bool" d) := by cases d <;> kernel_rfl
theorem kit_tuple (K : PySem.W.Frag) (d : PyData) : PySem.W.kitOne K (.type (tyN d)) (.type "tuple") = some (isiD "tuple" d) := by cases d <;> kernel_rfl
theorem kit_str (K : PySem.W.Frag) (d : PyData) : PySem.W.kitOne K (.type (tyN d)) (.type "str") = some (isiD "str" d) := by cases d <;> kernel_rfl
theorem kit_list (K : PySem.W.Frag) (d : PyData) : PySem.W.kitOne K (.type (tyN d)) (.type "list") = some (isiD "list" d) := by cases d <;> kernel_rfl
section
variable {F : Fm} {C : Cs} {ρ : Rho} {k : Nat} {Φ : Nat → PyData → Prop} {pos p p2 : Pos} {e : Expr} {x : Str}
end
section
variable {F : Fm} {C : Cs} {ρ : Rho} {k : Nat} {Ψ : Nat → Bool → Prop} {pos : Pos} {a b : Expr}
theorem wt_isnB (h : WPE F C a ρ k fun k1 x => WPE F C b ρ k1 fun k2 y => ∃ c c', x = .bool c ∧ y = .bool c' ∧ Ψ k2 (!decide (c = c'))) : WPT F C (.Compare a [.IsNot] [b] pos) ρ k Ψ :=
  wt_cmp (fun X _ => op_isnot_bl) (nomark _) (h.imp fun k1 x h1 => h1.imp fun k2 y ⟨c, c', e1, e2, p⟩ => by
    subst e1 e2
    intro H vx vy Q j rx ry q
    cases rx
    cases ry
    exact ⟨c, c', rfl, rfl, q _ _ k2 H .refl j (.bl _) ⟨_, rfl, p⟩⟩)
end
end Dl

set_option maxHeartbeats 2000000
namespace Dl
open PySem PySem.Spec PyProof.Rows L2
/-! ### [.. for a, b in ..] where each turn makes a new pair: enumerate(list), zip(list, tuple) -/
structure PI2 (F : Fm) (Jt : It) (H1 : Hp) (ds : List (PyData × PyData)) : Prop where
  go : ∀ D, H1 D = none → ∀ n d, ds[n]? = some d → ∃ x y, Rp (F.ext D) (upd H1 D (.lst [])) x d.1 ∧ Rp (F.ext D) (upd H1 D (.lst [])) y d.2 ∧ ∀ H', Lz (F.ext D) (upd H1 D (.lst [])) H' → Jt.go n H' ∧ ∀ v H'', Jt.yld n H' v H'' → ∃ T, v = .ref T ∧ H' T = none ∧ H'' = upd H' T (.tup [x, y])
  stop : ∀ D, H1 D = none → ∀ H', Lz (F.ext D) (upd H1 D (.lst [])) H' → Jt.stop ds.length H'
section
variable {F : Fm} {C : Cs} {ρ : Rho} {k : Nat} {Φ : Nat → PyData → Prop}
theorem we_lcG (i i1 : Nat) (hne1 : i ≠ i1) {wi : TI} {K : PySem.W.Frag} (hK : F.K = K) {tt : TT} {te : TE}
    (h : ∀ (σ : L2.St) (H : Hp) (R : It → Hp → Prop), EnvOk F H σ ρ → J F k H → (∀ (Jt : It) (k1 : Nat) (H1 : Hp) (ds : List (PyData × PyData)), Le F H H1 → J F k1 H1 → PI2 F Jt H1 ds →
      (∃ I : Nat → Nat → List PyData → Prop, ds.length ≤ 1000000 ∧ I 0 k1 [] ∧ (∀ D (j : Nat) (d : PyData × PyData) k' acc, ds[j]? = some d → I j k' acc → WT (F.ext D) tt ((ρ.set i (.d d.1)).set i1 (.d d.2)) k' fun k1 b => if b = true then WE (F.ext D) te ((ρ.set i (.d d.1)).set i1 (.d d.2)) k1 fun k2 z => I (j + 1) k2 (acc ++ [z]) else I (j + 1) k1 acc) ∧ (∀ k' acc, I ds.length k' acc → Φ k' (.list acc))) → R Jt H1) → wi σ H R) :
    WE F (tLc wi (gTup K 2 (gCons (gName i) (gCons (gName i1) gNil))) tt te [i, i1]) ρ k Φ := fun σ H Q en j q => by
  show wi σ H _
  refine h σ H _ en j fun Jt k1 H1 ds l1 j1 pi ⟨I, hz, i0, hstep, hend⟩ => fun D hD => ?_
  have en1 := en.le l1
  have hM : ¬ F.M D := fun z => F.gl _ _ j1.g D z hD
  have hS : ¬ F.S D := j1.fresh hD
  have h0 : F.H0 D = none := j1.h0 hM hD
  have hne : ∀ (i : Nat) o xs, ρ[i]? = some (SV.own o xs) → o ≠ D := fun i o xs e => by
    obtain ⟨x, _, s⟩ := en1 i _ e
    obtain ⟨_, _, _, _, vs, h1, _⟩ := s
    exact ne_of_none h1 hD
  refine ⟨fun n m H' => m + n = ds.length ∧ ∃ k' vs acc, acc.length ≤ n ∧ EnvOk (F.ext D) H' σ ρ ∧ J (F.ext D) k' H' ∧ LeD (F.ext D) D (upd H1 D (.lst [])) H' ∧ H' D = some (.lst vs) ∧ RpAll (F.ext D) H' vs acc ∧ I n k' acc,
    ⟨ds.length, by omega, k1, [], [], Nat.le_refl _, en1.ext hD, (j1.new hD).ext (lv_new fun _ z => nomatch z), .refl, upd_same, .nil, i0⟩, ?_⟩
  rintro n m H' ⟨hm', k', vs, acc, hle, en', j', ld, hd, ra, ii⟩
  have lz := ld.lz (F := F.ext D) (.inr rfl)
  by_cases over : n = ds.length
  · subst over
    refine .inl ⟨pi.stop D hD H' lz, ?_⟩
    refine q (.ref D) (.list acc) k' H' ?_ j'.unext (.lst ⟨hd, hS⟩ ra.unext) (hend k' acc ii)
    exact fun b o n e => ld b o n (ne_of_none (l1 b o n e) hD) (by rw [upd_ne (ne_of_none (l1 b o n e) hD)]; exact l1 b o n e)
  · have lt : n < ds.length := by omega
    obtain ⟨x, y, rx, ry, gy⟩ := pi.go D hD n ds[n] (List.getElem?_eq_getElem lt)
    obtain ⟨hgo, hyl⟩ := gy H' lz
    refine .inr ⟨hgo, fun H2' => ∃ k' vs acc, acc.length ≤ n + 1 ∧ EnvOk (F.ext D) H2' σ ρ ∧ J (F.ext D) k' H2' ∧ LeD (F.ext D) D (upd H1 D (.lst [])) H2' ∧ H2' D = some (.lst vs) ∧ RpAll (F.ext D) H2' vs acc ∧ I (n + 1) k' acc, fun H2' w => ⟨m - 1, by omega, by omega, w⟩, ?_⟩
    intro v H'' yy
    obtain ⟨t, rfl, ht, rfl⟩ := hyl v H'' yy
    have lnew : Le (F.ext D) H' (upd H' t (.tup [x, y])) := .new ht
    have rx2 := (rx.le lz).le lnew.lz
    have ry2 := (ry.le lz).le lnew.lz
    have hdt : D ≠ t := ne_of_none hd ht
    refine ⟨t, [x, y], rfl, .inl (.inl upd_same), rfl, x, [y], rfl, y, [], rfl, rfl, ?_⟩
    rw [wipe3 hne1]
    refine ⟨wipe3' hne1 σ, ?_⟩
    refine lc_turn (F := F.ext D) (I := fun k acc => I (n + 1) k acc) hM (.inr rfl) h0 (((en'.le lnew).set (sv := .d ds[n].1) ⟨x, rfl, rx2⟩).set (sv := .d ds[n].2) ⟨y, rfl, ry2⟩) (j'.new ht) (by rw [upd_ne hdt]; exact hd) (ra.le lnew.lz) (Nat.lt_of_le_of_lt (show acc.length ≤ 1000000 by omega) (by decide)) (hstep D n ds[n] k' acc (List.getElem?_eq_getElem lt) ii) fun H2 k2 vs2 acc2 hl2 ld2 hd2 ra2 j2 i2 => ?_
    exact ⟨k2, vs2, acc2, by omega, (en'.le lnew).ld ld2 (.inr rfl) hne, j2, (ld.trans lnew.ld).trans ld2, hd2, ra2, i2⟩
end
section
variable {F : Fm} {C : Cs} {ρ : Rho} {k : Nat} {Φ : Nat → PyData → Prop} {P : DE} {pos spos : Pos} {elt e e2 c : Expr} {scope : Scope} {x x1 : Str} {px px1 p3 pr pr2 : Pos} {kk : Nat}
/-- enumerate as pairs -/
def enD : Nat → List PyData → List (PyData × PyData)
  | _, [] => []
  | n, d :: ds => (.int (n : Int), d) :: enD (n + 1) ds
theorem enD_len : ∀ (n : Nat) (ds : List PyData), (enD n ds).length = ds.length
  | _, [] => rfl
  | n, d :: ds => by show (enD (n + 1) ds).length + 1 = _; rw [enD_len (n + 1) ds]; rfl
theorem enD_get : ∀ (n : Nat) (ds : List PyData) (j : Nat), (enD n ds)[j]? = ds[j]?.map fun d => (.int ((n + j : Nat) : Int), d)
  | _, [], j => by cases j <;> rfl
  | n, d :: ds, 0 => rfl
  | n, d :: ds, j + 1 => by
    show (enD (n + 1) ds)[j]? = _
    rw [enD_get (n + 1) ds j]
    show _ = ds[j]?.map _
    congr 1; funext d; rw [show n + 1 + j = n + (j + 1) by omega]
theorem pi2_enum {Jt : It} {H1 : Hp} {a : Addr} {xs : List V} {ds : List PyData} (ha : H1 a = some (.lst xs) ∧ ¬ F.S a) (hr : RpAll F H1 xs ds) : PI2 F (Ite F.K a) H1 (enD 0 ds) where
  go := fun D hD n d hd => by
    rw [enD_get, Option.map_eq_some_iff] at hd
    obtain ⟨y, hy, rfl⟩ := hd
    have rr : Rp (F.ext D) (upd H1 D (.lst [])) (.ref a) (.list ds) := Rep.ext (.lst ha hr) hD
    cases rr with
    | @lst _ xs' _ ha' hr' =>
    have hn : n < xs'.length := by rw [hr'.length]; exact (List.getElem?_eq_some_iff.mp hy).1
    obtain ⟨y', hy', ry'⟩ := hr'.got (List.getElem?_eq_getElem hn)
    rw [hy] at hy'
    cases hy'
    refine ⟨.int ((0 + n : Nat) : Int), xs'[n], .int _, ry', fun H' lz => ?_⟩
    have sq : SqL F.K H' a xs' := sql_of (S := (F.ext D).S) ⟨lz _ _ (Fm.sxA ha'.2) ha'.1, ha'.2⟩
    refine ⟨⟨xs', xs'[n], sq, List.getElem?_eq_getElem hn⟩, ?_⟩
    rintro v H'' ⟨T, x, rfl, hT, rfl, hx⟩
    have := hx xs' sq
    rw [List.getElem?_eq_getElem hn] at this
    cases this
    exact ⟨T, rfl, hT, by rw [Nat.zero_add]⟩
  stop := fun D hD H' lz => by
    have rr : Rp (F.ext D) (upd H1 D (.lst [])) (.ref a) (.list ds) := Rep.ext (.lst ha hr) hD
    cases rr with
    | @lst _ xs' _ ha' hr' =>
    have sq : SqL F.K H' a xs' := sql_of (S := (F.ext D).S) ⟨lz _ _ (Fm.sxA ha'.2) ha'.1, ha'.2⟩
    exact ⟨xs', sq, by rw [enD_len, hr'.length]; exact Nat.le_refl _⟩
theorem pi2_zg {H1 : Hp} {a b : Addr} {xs ys : List V} {ds es : List PyData} (ha : H1 a = some (.lst xs) ∧ ¬ F.S a) (hr : RpAll F H1 xs ds) (hb : NT H1 b ys ∧ ¬ F.S b) (hs : RpAll F H1 ys es) (hl : ds.length = es.length) : PI2 F (Itg F.K a b) H1 (ds.zip es) where
  go := fun D hD n d hd => by
    obtain ⟨h1, h2⟩ := List.getElem?_zip_eq_some.mp hd
    have rr : Rp (F.ext D) (upd H1 D (.lst [])) (.ref a) (.list ds) := Rep.ext (.lst ha hr) hD
    have ss : Rp (F.ext D) (upd H1 D (.lst [])) (.ref b) (.tuple es) := Rep.ext (.tup hb hs) hD
    cases rr with
    | @lst _ xs' _ ha' hr' =>
    cases ss with
    | @tup _ ys' _ hb' hs' =>
    have hn : n < xs'.length := by rw [hr'.length]; exact (List.getElem?_eq_some_iff.mp h1).1
    have hn2 : n < ys'.length := by rw [hs'.length]; exact (List.getElem?_eq_some_iff.mp h2).1
    obtain ⟨x', hx', rx'⟩ := hr'.got (List.getElem?_eq_getElem hn)
    obtain ⟨y', hy', ry'⟩ := hs'.got (List.getElem?_eq_getElem hn2)
    rw [h1] at hx'
    rw [h2] at hy'
    cases hx'
    cases hy'
    refine ⟨xs'[n], ys'[n], rx', ry', fun H' lz => ?_⟩
    have sq : SqL F.K H' a xs' := sql_of (S := (F.ext D).S) ⟨lz _ _ (Fm.sxA ha'.2) ha'.1, ha'.2⟩
    have st : SqT F.K H' b ys' := sqt_of (S := (F.ext D).S) ⟨hb'.1.lz hb'.2 (lz), hb'.2⟩
    refine ⟨⟨xs', ys', xs'[n], ys'[n], sq, st, List.getElem?_eq_getElem hn, List.getElem?_eq_getElem hn2⟩, ?_⟩
    rintro v H'' ⟨T, x, y, rfl, hT, rfl, hx, hy⟩
    have e1 := hx xs' sq
    have e2 := hy ys' st
    rw [List.getElem?_eq_getElem hn] at e1
    rw [List.getElem?_eq_getElem hn2] at e2
    cases e1
    cases e2
    exact ⟨T, rfl, hT, rfl⟩
  stop := fun D hD H' lz => by
    have rr : Rp (F.ext D) (upd H1 D (.lst [])) (.ref a) (.list ds) := Rep.ext (.lst ha hr) hD
    have ss : Rp (F.ext D) (upd H1 D (.lst [])) (.ref b) (.tuple es) := Rep.ext (.tup hb hs) hD
    cases rr with
    | @lst _ xs' _ ha' hr' =>
    cases ss with
    | @tup _ ys' _ hb' hs' =>
    have sq : SqL F.K H' a xs' := sql_of (S := (F.ext D).S) ⟨lz _ _ (Fm.sxA ha'.2) ha'.1, ha'.2⟩
    have st : SqT F.K H' b ys' := sqt_of (S := (F.ext D).S) ⟨hb'.1.lz hb'.2 (lz), hb'.2⟩
    refine ⟨xs', ys', sq, st, .inl ?_⟩
    rw [List.length_zip, hr'.length]; omega
/-- [elt for x, x1 in enumerate(e)], e a list -/
theorem we_compE (i i1 : Nat) (hne : i ≠ i1) (b : Blk2 C scope i x i1 x1) (hK : F.K = C.K) (hg : C.sc.names.lookup ("enumerate" : Str) = some .globalImplicit) (hm : C.mg ("enumerate" : Str) = none)
    (hse : ∀ env : Env, starEach [e] env = [(false, eval e env)]) (hs : ∀ (env : Env) (v : Value), foldedSetIterable (.Call (.Name "enumerate" pr) [e] [] pr2) env v = pure v) (g : Nat → PyData → PyData)
    (h : WPE F C e ρ k fun k1 d => ∃ ds : List PyData, d = .list ds ∧ ds.length ≤ 1000000 ∧ (∀ D (j : Nat) (y : PyData), ds[j]? = some y → WPE (F.ext D) (C.blk scope) elt ((ρ.set i (.d (.int (j : Int)))).set i1 (.d y)) k1 fun k2 z => k2 = k1 ∧ z = g j y) ∧ Φ k1 (.list (ds.mapIdx g))) :
    WPE F C (.ListComp elt [⟨.Tuple [.Name x px, .Name x1 px1] kk p3, .Call (.Name "enumerate" pr) [e] [] pr2, [], 0⟩] scope pos) ρ k Φ :=
  of_pe (fun X fx => pe_lc (own := [(x, i), (x1, i1)]) (wi := iEnum C.K (tCons (tE C e) tNil)) fx.calm (by rw [fx.N]; exact b.t.hN) (by rw [← fx.K]; exact pi_enum (by show X.env.scope.names.lookup ("enumerate" : Str) = _; rw [fx.sc]; exact hg) (by rw [fx.mg]; exact hm) (pa_cons (peE fx) pa_nil (hse X.env)) (hse X.env)) (by rw [fx.N, fx.sc]; exact b.ok) (fun s H a cl fp => pgTup (n := 2) (fx.blk s H scope a cl fp) (pgs_cons (b.t.pg (fx.blk s H scope a cl fp)) (pgs_cons (b.t1.pg (fx.blk s H scope a cl fp)) pgs_nil)) (by rfl) (by rfl)) (fun s H a cl fp => pts_nil) (fun s H a cl fp => peE (fx.blk s H scope a cl fp)) (hs X.env))
    (we_lcG i i1 hne hK fun σ H R en j q => by
      show tE C e σ H _
      refine h σ H _ en j fun v d k1 H1 l1 j1 r ⟨ds, e, hz, hstep, hend⟩ => ?_
      subst e
      cases r with
      | @lst a xs _ ha hr =>
      refine ⟨a, xs, rfl, hK ▸ sql_of ha, ?_⟩
      rw [← hK]
      refine q _ k1 H1 (enD 0 ds) l1 j1 (pi2_enum (Jt := Ite F.K a) ha hr) ⟨fun n k' acc => k' = k1 ∧ acc = (ds.take n).mapIdx g, by rw [enD_len]; exact hz, ⟨rfl, by simp⟩, ?_, ?_⟩
      · rintro D n d k' acc hd ⟨rfl, rfl⟩
        rw [enD_get, Option.map_eq_some_iff] at hd
        obtain ⟨y, hy, rfl⟩ := hd
        refine wt_yes ?_
        rw [if_pos rfl]
        have := hstep D n y hy
        rw [Nat.zero_add]
        refine this.imp fun k2 z ⟨e1, e2⟩ => ⟨e1, ?_⟩
        have hn : n < ds.length := (List.getElem?_eq_some_iff.mp hy).1
        rw [take_next hy, List.mapIdx_append, List.length_take, Nat.min_eq_left (Nat.le_of_lt hn), e2]
        simp
      · rintro k' acc ⟨rfl, rfl⟩
        rw [enD_len, List.take_length]
        exact hend)
/-- [elt for x, x1 in zip(e, e2)], e a list and e2 a tuple of one length -/
theorem we_compZ (i i1 : Nat) (hne : i ≠ i1) (b : Blk2 C scope i x i1 x1) (hK : F.K = C.K) (hg : C.sc.names.lookup ("zip" : Str) = some .globalImplicit) (hm : C.mg ("zip" : Str) = none)
    (hs0 : ∀ env : Env, starEach [e, e2] env = (false, eval e env) :: starEach [e2] env) (hs2 : ∀ env : Env, starEach [e2] env = (false, eval e2 env) :: starEach [] env) (hpl : ∀ env : Env, (backTo pr2 (starEach [e2] env)).any (·.1) = false) (hs : ∀ (env : Env) (v : Value), foldedSetIterable (.Call (.Name "zip" pr) [e, e2] [] pr2) env v = pure v) (g : PyData → PyData → PyData)
    (h : WPE F C e ρ k fun k1 d => WPE F C e2 ρ k1 fun k2 d' => ∃ ds es : List PyData, d = .list ds ∧ d' = .tuple es ∧ ds.length = es.length ∧ ds.length ≤ 1000000 ∧ (∀ D (j : Nat) (y z : PyData), ds[j]? = some y → es[j]? = some z → WPE (F.ext D) (C.blk scope) elt ((ρ.set i (.d y)).set i1 (.d z)) k2 fun k3 u => k3 = k2 ∧ u = g y z) ∧ Φ k2 (.list (List.zipWith g ds es))) :
    WPE F C (.ListComp elt [⟨.Tuple [.Name x px, .Name x1 px1] kk p3, .Call (.Name "zip" pr) [e, e2] [] pr2, [], 0⟩] scope pos) ρ k Φ :=
  of_pe (fun X fx => pe_lc (own := [(x, i), (x1, i1)]) (wi := iZg C.K (tCons (tE C e) (tCons (tE C e2) tNil))) fx.calm (by rw [fx.N]; exact b.t.hN) (by rw [← fx.K]; exact pi_zg (by show X.env.scope.names.lookup ("zip" : Str) = _; rw [fx.sc]; exact hg) (by rw [fx.mg]; exact hm) (pa_cons (peE fx) (pa_cons (peE fx) pa_nil (hs2 X.env)) (hs0 X.env)) (hs0 X.env) (hpl X.env)) (by rw [fx.N, fx.sc]; exact b.ok) (fun s H a cl fp => pgTup (n := 2) (fx.blk s H scope a cl fp) (pgs_cons (b.t.pg (fx.blk s H scope a cl fp)) (pgs_cons (b.t1.pg (fx.blk s H scope a cl fp)) pgs_nil)) (by rfl) (by rfl)) (fun s H a cl fp => pts_nil) (fun s H a cl fp => peE (fx.blk s H scope a cl fp)) (hs X.env))
    (we_lcG i i1 hne hK fun σ H R en j q => by
      show tE C e σ H _
      refine h σ H _ en j fun v d k1 H1 l1 j1 r hh => ?_
      show tE C e2 σ H1 _
      refine hh σ H1 _ (en.le l1) j1 fun v2 d2 k2 H2 l2 j2 r2 ⟨ds, es, e1, e2, hl, hz, hstep, hend⟩ => ?_
      subst e1 e2
      have r := r.le l2.lz
      cases r with
      | @lst a xs _ ha hr =>
      cases r2 with
      | @tup b ys _ hb hrb =>
      refine ⟨a, b, xs, ys, rfl, hK ▸ sql_of ha, hK ▸ sqt_of hb, ?_⟩
      rw [← hK]
      have hlz : (ds.zip es).length = ds.length := by rw [List.length_zip]; omega
      refine q _ k2 H2 (ds.zip es) (l1.trans l2) j2 (pi2_zg ha hr hb hrb hl) ⟨fun n k' acc => k' = k2 ∧ acc = ((ds.zip es).take n).map fun p => g p.1 p.2, by rw [hlz]; exact hz, ⟨rfl, by simp⟩, ?_, ?_⟩
      · rintro D n d k' acc hd ⟨rfl, rfl⟩
        obtain ⟨h1, h2⟩ := List.getElem?_zip_eq_some.mp hd
        refine wt_yes ?_
        rw [if_pos rfl]
        refine (hstep D n d.1 d.2 h1 h2).imp fun k2 z ⟨e1, e2⟩ => ⟨e1, ?_⟩
        rw [take_next hd, List.map_append, e2]; rfl
      · rintro k' acc ⟨rfl, rfl⟩
        rw [List.take_length]
        rw [List.zip, List.map_zipWith]; exact hend)
end
/-! ### all, any of a list of bools -/
section
variable {F : Fm} {C : Cs} {ρ : Rho} {k : Nat} {Φ : Nat → PyData → Prop} {pos p : Pos} {e : Expr}
theorem RpAll.bls {H : Hp} : ∀ {bs : List Bool} {vs : List V}, RpAll F H vs (bs.map PyData.bool) → vs = bs.map V.bl
  | [], _, h => by cases h; rfl
  | b :: bs, _, h => by
    cases h with
    | cons r1 r2 =>
    cases r1
    rw [RpAll.bls r2]; rfl
theorem allK {X : Cx} (fx : Fits C X) : CallR X (.builtin "all") (rAll C.K) := by rw [← fx.K]; exact cr_all fx.calm
theorem anyK {X : Cx} (fx : Fits C X) : CallR X (.builtin "any") (rAny C.K) := by rw [← fx.K]; exact cr_any fx.calm
theorem we_all (hK : F.K = C.K) (hg : C.sc.names.lookup ("all" : Str) = some .globalImplicit) (hm : C.mg ("all" : Str) = none) (hs : ∀ env : Env, starEach [e] env = (false, eval e env) :: starEach [] env) (h : WPE F C e ρ k fun k1 x => ∃ bs : List Bool, x = .list (bs.map PyData.bool) ∧ Φ k1 (.bool (bs.all id))) : WPE F C (.Call (.Name "all" p) [e] [] pos) ρ k Φ :=
  we_callB (id := "all") (fun X fx => allK fx) hg hm (by decide +kernel) (wa_one hs (h.imp fun k1 x ⟨ns, e, p⟩ => fun H vs Q j r q => by
    subst e
    cases r with
    | cons r1 r2 =>
    cases r2
    cases r1 with
    | @lst a xs _ ha hr => exact ⟨a, ns, rfl, RpAll.bls hr ▸ hK ▸ sql_of ha, q _ _ k1 H .refl j (.bl _) p⟩)) (by decide) (by decide) hs
theorem we_any (hK : F.K = C.K) (hg : C.sc.names.lookup ("any" : Str) = some .globalImplicit) (hm : C.mg ("any" : Str) = none) (hs : ∀ env : Env, starEach [e] env = (false, eval e env) :: starEach [] env) (h : WPE F C e ρ k fun k1 x => ∃ bs : List Bool, x = .list (bs.map PyData.bool) ∧ Φ k1 (.bool (bs.any id))) : WPE F C (.Call (.Name "any" p) [e] [] pos) ρ k Φ :=
  we_callB (id := "any") (fun X fx => anyK fx) hg hm (by decide +kernel) (wa_one hs (h.imp fun k1 x ⟨ns, e, p⟩ => fun H vs Q j r q => by
    subst e
    cases r with
    | cons r1 r2 =>
    cases r2
    cases r1 with
    | @lst a xs _ ha hr => exact ⟨a, ns, rfl, RpAll.bls hr ▸ hK ▸ sql_of ha, q _ _ k1 H .refl j (.bl _) p⟩)) (by decide) (by decide) hs
end
/-! ### xs[e:] of a list -/
section
variable {F : Fm} {C : Cs} {ρ : Rho} {k : Nat} {Φ : Nat → PyData → Prop} {pos p2 : Pos} {a e : Expr}
theorem RpAll.drp {H : Hp} : ∀ {ds : List PyData} {vs : List V} (m : Nat), RpAll F H vs ds → RpAll F H (vs.drop m) (ds.drop m)
  | _, _, 0, h => h
  | _, _, m + 1, h => by
    cases h with
    | nil => exact .nil
    | cons r1 r2 => exact RpAll.drp m r2
theorem we_sliceF (hK : F.K = C.K) (h : WPE F C a ρ k fun k1 x => WPE F C e ρ k1 fun k2 y => ∃ ds, ∃ m : Nat, x = .list ds ∧ y = .int (m : Int) ∧ Φ k2 (.list (ds.drop m))) : WPE F C (.Subscript a (.Slice (some e) none none p2) pos) ρ k Φ :=
  of_pe (fun X fx => pe_slice (slLK fx) (peE fx) (po_some (peE fx)) po_none) fun σ H Q en j q => by
    show tE C a σ H _
    refine h σ H _ en j fun v d k1 H1 l1 j1 r hx => ?_
    show tE C e σ H1 _
    refine hx σ H1 _ (en.le l1) j1 fun vy y k2 H2 l2 j2 r2 ⟨ds, m, e1, e2, p⟩ => ?_
    subst e1 e2
    have r' := r.le l2.lz
    cases r' with
    | @lst a xs _ ha hr =>
    cases r2
    refine ⟨(m : Int), rfl, a, xs, rfl, hK ▸ sql_of ha, fun l hl => ?_⟩
    have ec : cutV xs (some (m : Int)) none = xs.drop m := by
      unfold cutV
      rw [HT.sIx_nat, HT.sIx_none]
      by_cases hm : m ≤ xs.length
      · rw [Nat.min_eq_left hm, List.take_of_length_le (by rw [List.length_drop]; exact Nat.le_refl _)]
      · rw [Nat.min_eq_right (by omega), Nat.sub_self, List.take_zero, List.drop_of_length_le (by omega)]
    rw [ec]
    exact q _ _ k2 _ ((l1.trans l2).trans (.new hl)) (j2.new hl) (rep_newL j2 hl (RpAll.drp m hr)) p
end
end Dl

namespace Dl
open PySem PySem.Spec PyProof.Rows L2
section
variable {F : Fm} {C : Cs} {ρ : Rho} {k : Nat} {Φ : Nat → PyData → Prop} {pos p p1 p2 p3 px : Pos} {x : Str}
/-- sorted(own list of ints) -/
theorem we_sortOwnI (i : Nat) {o : Addr} {ns : List Int} (hK : F.K = C.K) (hN : C.N[i]? = some x) (hv : Vis C.sc x) (hr : ρ[i]? = some (.own o (ns.map PyData.int))) (hg : C.sc.names.lookup ("sorted" : Str) = some .globalImplicit) (hm : C.mg ("sorted" : Str) = none)
    (h : ∀ ms : List Int, ms.Perm ns → ms.Pairwise (· ≤ ·) → Φ k (.list (ms.map PyData.int))) (hd : (x == ("__debug__" : Str)) = false := by decide) (hcd : (x == ("__classdict__" : Str)) = false := by decide) (hse : ∀ env : Env, starEach [.Name x px] env = (false, eval (.Name x px) env) :: starEach [] env := by intro _; rfl) :
    WPE F C (.Call (.Name "sorted" p) [.Name x px] [] pos) ρ k Φ :=
  of_pe (fun X fx => pe_callB (srtK fx) (by show X.env.scope.names.lookup ("sorted" : Str) = _; rw [fx.sc]; exact hg) (by rw [fx.mg]; exact hm) (by decide +kernel) (pa_cons (pe_var (i := i) (by rw [fx.N]; exact hN) (by rw [fx.sc]; exact hv) hd hcd) pa_nil (hse X.env)) (by decide) (by decide) (hse X.env) rfl) fun σ H Q en j q => by
    obtain ⟨hσ, hS, hM, h0, vs, hv', rv⟩ := en.own hr
    refine ⟨_, hσ, o, ns, rfl, rep_vints rv ▸ SqL.of hv', fun ms l hp hw hl => ?_⟩
    exact q _ _ k _ (.new hl) (j.new hl) (rep_newL j hl (RepAll.of_ints ms)) (h ms hp hw)
/-- sorted(set(own list of ints)) -/
theorem we_sortSetOwn (i : Nat) {o : Addr} {ns : List Int} (hK : F.K = C.K) (hN : C.N[i]? = some x) (hv : Vis C.sc x) (hr : ρ[i]? = some (.own o (ns.map PyData.int))) (hg : C.sc.names.lookup ("sorted" : Str) = some .globalImplicit) (hm : C.mg ("sorted" : Str) = none) (hg2 : C.sc.names.lookup ("set" : Str) = some .globalImplicit) (hm2 : C.mg ("set" : Str) = none)
    (hz : ns.length ≤ 1000) (h : ∀ ms : List Int, ms.Pairwise (· < ·) → (∀ i, i ∈ ms ↔ i ∈ ns) → Φ k (.list (ms.map PyData.int))) (hd : (x == ("__debug__" : Str)) = false := by decide) (hcd : (x == ("__classdict__" : Str)) = false := by decide) (hs : ∀ env : Env, starEach [.Name x px] env = (false, eval (.Name x px) env) :: starEach [] env := by intro _; rfl)
    (hs2 : ∀ env : Env, starEach [.Call (.Name "set" p2) [.Name x px] [] p3] env = (false, eval (.Call (.Name "set" p2) [.Name x px] [] p3) env) :: starEach [] env := by intro _; rfl) :
    WPE F C (.Call (.Name "sorted" p1) [.Call (.Name "set" p2) [.Name x px] [] p3] [] pos) ρ k Φ :=
  of_pe (t := tCB (rSortSetA C.w) (tCons (tCB (rSetL C.K C.w) (tCons (tVar i) tNil)) tNil)) (fun X fx => pe_callB (by rw [← fx.w]; exact cr_sortSetA fx.calm) (by show X.env.scope.names.lookup ("sorted" : Str) = _; rw [fx.sc]; exact hg) (by rw [fx.mg]; exact hm) (by decide +kernel)
      (pa_cons (pe_callTy (by rw [← fx.w, ← fx.K]; exact cr_setL fx.calm) (by show X.env.scope.names.lookup ("set" : Str) = _; rw [fx.sc]; exact hg2) (by rw [fx.mg]; exact hm2) (by decide +kernel) (pa_cons (pe_var (i := i) (by rw [fx.N]; exact hN) (by rw [fx.sc]; exact hv) hd hcd) pa_nil (hs X.env)) (by decide) (by decide) (hs X.env) rfl) pa_nil (hs2 X.env)) (by decide) (by decide) (hs2 X.env) rfl) fun σ H Q en j q => by
    obtain ⟨hσ, hS, hM, h0, vs, hv', rv⟩ := en.own hr
    refine ⟨_, hσ, o, ns, rfl, rep_vints rv ▸ SqL.of hv', hz, fun l c hl hc => ?_⟩
    refine ⟨l, _, c, rfl, upd_same, fun ms l2 hpw hmem _ hl2 => ?_⟩
    have j2 := j.new (o := SetO C.w l (fun j => decide (j ∈ ns)) c) hl
    refine q _ _ k _ ((Le.new hl).trans (.new hl2)) (j2.new hl2) (rep_newL j2 hl2 (RepAll.of_ints ms)) (h ms hpw fun i => ?_)
    rw [hmem i, decide_eq_true_eq]
end
section
variable {F : Fm} {C : Cs} {ρ : Rho} {k : Nat} {Φ : Nat → PyData → Prop} {pos : Pos} {a b : Expr}
theorem inV_bools {v : Bool} : ∀ (bs : List Bool), inV (.bl v) (bs.map V.bl) = bs.any (· == v)
  | [] => by simp [inV]
  | x :: bs => by
    have ih := inV_bools (v := v) bs
    unfold inV at ih ⊢
    rw [List.map_cons, List.any_cons, ih, List.any_cons]
    congr 1
/-- a bool in a list of bools -/
theorem we_inB (hK : F.K = C.K) (hm : behindInMarks .In b = false) (h : WPE F C a ρ k fun k1 x => WPE F C b ρ k1 fun k2 y => ∃ (v : Bool) (bs : List Bool), x = .bool v ∧ seqD y = some (bs.map PyData.bool) ∧ Φ k2 (.bool (bs.any (· == v)))) : WPE F C (.Compare a [.In] [b] pos) ρ k Φ :=
  we_cmp (fun X fx => opInK fx) hm (h.imp fun k1 x h1 => h1.imp fun k2 y ⟨v, bs, e1, e2, p⟩ => by
    subst e1
    exact rd_in (neg := false) hK e2 rfl (by rw [List.all_map]; exact List.all_eq_true.mpr fun _ _ => rfl) (fun H vx vs rx rv => by cases rx; rw [RpAll.bls rv]; exact inV_bools bs) p)
end
end Dl

namespace Dl
open PySem PySem.Spec PyProof.Rows L2
section
variable {F : Fm} {C : Cs} {ρ : Rho} {k : Nat} {P : DE} {pos pos' pos2 p p2 px : Pos} {e : Expr} {x : Str} {body : List Stmt}
/-- for x in reversed(range(e)) -/
theorem ws_for_revR (i : Nat) (t : Tgt C i x) (hg : C.sc.names.lookup ("reversed" : Str) = some .globalImplicit) (hm : C.mg ("reversed" : Str) = none) (hg2 : C.sc.names.lookup ("range" : Str) = some .globalImplicit) (hm2 : C.mg ("range" : Str) = none)
    (hse : ∀ env : Env, starEach [e] env = (false, eval e env) :: starEach [] env) (hse2 : ∀ env : Env, starEach [.Call (.Name "range" p2) [e] [] pos2] env = (false, eval (.Call (.Name "range" p2) [e] [] pos2) env) :: starEach [] env)
    (hfs : ∀ (env : Env) (v : Value), foldedSetIterable (.Call (.Name "reversed" p) [.Call (.Name "range" p2) [e] [] pos2] [] pos') env v = pure v)
    (h : WPE F C e ρ k fun k1 d => ∃ (I : Nat → Nat → Rho → Prop) (z : Nat), d = .int (z : Int) ∧ z ≤ 1000000 ∧ I 0 k1 ρ ∧ (∀ (j : Nat) k' ρ', j < z → I j k' ρ' → WPB F C body (ρ'.set i (.d (.int ((z - 1 - j : Nat) : Int)))) k' (P.loop (I (j + 1)))) ∧ (∀ k' ρ', I z k' ρ' → P.nx k' ρ')) :
    WPS F C (.For (.Name x px) (.Call (.Name "reversed" p) [.Call (.Name "range" p2) [e] [] pos2] [] pos') body [] pos) ρ k P :=
  of_ps (t := tFor (iRevR (tRg1 (tE C e))) (gName i) (tB C body)) (fun X fx => ps_for (by rw [fx.xe]; exact PassesOwn.never) fx.calm (pi_revR (by show X.env.scope.names.lookup ("reversed" : Str) = _; rw [fx.sc]; exact hg) (by rw [fx.mg]; exact hm) (prg_1 (by show X.env.scope.names.lookup ("range" : Str) = _; rw [fx.sc]; exact hg2) (by rw [fx.mg]; exact hm2) (peE fx) (hse X.env)) (hse2 X.env)) (t.pg fx) (pbB fx) (hfs X.env)) fun σ H E en j q1 q2 q3 q4 => by
    show tE C e σ H _
    refine h σ H _ en j fun v d k1 H1 l1 j1 r hh => ?_
    obtain ⟨I, z, e, hz, i0, hstep, hend⟩ := hh
    subst e
    cases r
    refine ⟨(z : Int), rfl, ?_⟩
    refine ⟨by decide, by decide, by omega, by omega, ?_⟩
    have ez : (((z : Int)) - 0).toNat = z := by omega
    rw [ez]
    refine ⟨fun n m σ' H' => m + n = z ∧ ∃ k' ρ', EnvOk F H' σ' ρ' ∧ J F k' H' ∧ Lz F H1 H' ∧ I n k' ρ', ⟨z, by omega, k1, ρ, en.le l1, j1, .refl, i0⟩, ?_⟩
    rintro n m σ' H' ⟨hm', k', ρ', en', j', lz, ii⟩
    by_cases over : n = z
    · subst over
      exact .inl ⟨Nat.le_refl _, q1 ρ' σ' k' H' (l1.lz.trans lz) en' j' (hend k' ρ' ii)⟩
    · have lt : n < z := by omega
      refine .inr ⟨lt, fun σ2 H2' => ∃ k' ρ', EnvOk F H2' σ2 ρ' ∧ J F k' H2' ∧ Lz F H1 H2' ∧ I (n + 1) k' ρ', fun σ2 H2' w => ⟨m - 1, by omega, by omega, w⟩, ?_⟩
      rintro v H3 ⟨rfl, rfl⟩
      have ev : (0 : Int) + ((z : Nat) : Int) - 1 + ((n : Nat) : Int) * (-1) = ((z - 1 - n : Nat) : Int) := by omega
      rw [ev]
      refine hstep n k' ρ' lt ii _ _ _ (en'.set (sv := .d (.int ((z - 1 - n : Nat) : Int))) ⟨_, rfl, .int _⟩) j' ?_ q2 ?_ ?_
      · exact fun ρ2 σ2 k2' H2' l2' e2 j2' p => ⟨k2', ρ2, e2, j2', lz.trans l2', p⟩
      · exact fun ρ2 σ2 k2' H2' l2' e2 j2' p => q1 ρ2 σ2 k2' H2' (l1.lz.trans (lz.trans l2')) e2 j2' p
      · exact fun ρ2 σ2 k2' H2' l2' e2 j2' p => ⟨k2', ρ2, e2, j2', lz.trans l2', p⟩
end
end Dl

namespace Dl
open PySem PySem.Spec PyProof.Rows L2
section
variable {F : Fm} {C : Cs} {ρ : Rho} {k : Nat} {P : DE} {pos p2 px : Pos} {es : List Expr} {x : Str} {rest : List Stmt}
/-- x = [..] as an own list for one statement, then data again -/
theorem wb_ownLst1 (i : Nat) {st : Stmt} (t : Tgt C i x) (hi : i < ρ.length) (hs : ∀ env : Env, env.scope = C.sc → swapsWith (.List es p2) (some (.Name x px)) pos.line env = pure false)
    (h : WPA F C es ρ k fun k2 ds => ds.length ≤ 1000000 ∧
      ∀ o, WPS (F.ext o) C st (ρ.set i (.own o ds)) k2 { nx := fun k' ρ' => ∃ ys, ρ'[i]? = some (.own o ys) ∧ (ρ'.set i .un).all plainB = true ∧ WPB F C rest (ρ'.set i (.d (.list ys))) k' P, rt := P.rt, bk := fun _ _ => False, ct := fun _ _ => False }) :
    WPB F C (.Assign [.Name x px] (.List es p2) pos :: st :: rest) ρ k P :=
  of_pb (fun X fx => pss_cons (ps_set (by rw [fx.N]; exact t.hN) (by rw [fx.N]; exact t.hi) (by rw [fx.sc]; exact t.hx) (pe_lst (paA fx)) (hs X.env fx.sc) (by rw [fx.fn, fx.sc]; exact t.hf)) (pss_cons (psS fx) (pbB fx))) fun σ H E en j q1 q2 q3 q4 => by
    refine h σ H _ en j fun xs ds k2 H2 l2 j2 hr ⟨hz, p⟩ => ?_
    refine ⟨by rw [hr.length]; exact Nat.le_trans hz (by decide), fun o no => ?_⟩
    have hM : ¬ F.M o := fun z => F.gl _ _ j2.g o z no
    have hS : ¬ F.S o := j2.fresh no
    have h0 : F.H0 o = none := j2.h0 hM no
    have en2 : EnvOk (F.ext o) (upd H2 o (.lst (xs))) (σ.set i (some (.ref o))) (ρ.set i (.own o ds)) :=
      ((en.le l2).ext no).set (sv := .own o ds) ⟨rfl, .inr rfl, hM, h0, xs, upd_same, hr.ext no⟩
    have lz0 : Lz F H H2 := l2.lz
    have lzo : ∀ H', Lz (F.ext o) (upd H2 o (.lst (xs))) H' → Lz F H H' := fun H' lz b u hb e => by
      have e2 := lz0 b u hb e
      have ne : b ≠ o := ne_of_none e2 no
      exact lz b u (fun z => z.elim (fun y => y.elim (fun q => hb (.inl q)) ne) fun q => hb (.inr q)) (by rw [upd_ne ne]; exact e2)
    refine p o (σ.set i (some (.ref o))) (upd H2 o (.lst (xs))) _ en2 ((j2.new no).ext (lv_new fun _ z => nomatch z)) ?_ ?_ ?_ ?_
    · rintro ρ' σ' k' H' lz en' j' ⟨zs, hown, hpl, hrest⟩
      have hlz := lzo H' lz
      obtain ⟨hσ', _, _, _, vs, hvs, rvs⟩ := en'.own hown
      have en3 : EnvOk F H' σ' (ρ'.set i (.d (.list zs))) := by
        intro m sv em
        by_cases hj : i = m
        · subst hj
          have hl : i < ρ'.length := (List.getElem?_eq_some_iff.mp hown).1
          rw [List.getElem?_set_self hl] at em
          cases em
          exact ⟨_, hσ', _, rfl, .lst ⟨hvs, hS⟩ rvs.unext⟩
        · rw [List.getElem?_set_ne hj] at em
          obtain ⟨y, qy, sy⟩ := en' m sv em
          refine ⟨y, qy, ?_⟩
          cases sv with
          | un => trivial
          | d d => obtain ⟨v, z, r⟩ := sy; exact ⟨v, z, r.unext⟩
          | raw v => exact sy
          | own o' xs' => exact (noOwn_of hpl m o' xs' (Ne.symm hj) em).elim
      exact hrest σ' H' E en3 j'.unext (fun ρ2 σ2 k2 H2 l2 => q1 ρ2 σ2 k2 H2 (hlz.trans l2)) q2 (fun ρ2 σ2 k2 H2 l2 => q3 ρ2 σ2 k2 H2 (hlz.trans l2)) (fun ρ2 σ2 k2 H2 l2 => q4 ρ2 σ2 k2 H2 (hlz.trans l2))
    · exact fun v d k' H' j' r' p => q2 v d k' H' j'.unext r'.unext p
    · exact fun _ _ _ _ _ _ _ z => z.elim
    · exact fun _ _ _ _ _ _ _ z => z.elim
end
section
variable {F : Fm} {C : Cs} {ρ : Rho} {k : Nat} {Φ : Nat → PyData → Prop} {pos : Pos} {elt iter iter1 : Expr} {scope : Scope} {x x1 : Str} {px px1 : Pos} {α β : Type}
/-- [elt for x in a tuple for x1 in a list], as a value -/
theorem we_comp2 (ei : α → PyData) (ej : β → PyData) (bs : α → List β) (g : α → β → PyData) (B : Nat) (i i1 : Nat) (hne : i ≠ i1) (b : Blk2 C scope i x i1 x1) (hK : F.K = C.K)
    (hs : ∀ (env : Env) (v : Value), foldedSetIterable iter env v = pure v) (hs1 : ∀ (env : Env) (v : Value), foldedSetIterable iter1 env v = pure v)
    (h : WPE F C iter ρ k fun k1 d => ∃ as : List α, d = .tuple (as.map ei) ∧ as.length * B ≤ 1000000 ∧ (∀ a ∈ as, (bs a).length ≤ B) ∧
      (∀ D (a : α), a ∈ as → WPE (F.ext D) (C.blk scope) iter1 ((ρ.set i1 .un).set i (.d (ei a))) k1 (fun k2 d2 => k2 = k1 ∧ d2 = .list ((bs a).map ej)) ∧
        ∀ b ∈ bs a, WPE (F.ext D) (C.blk scope) elt (((ρ.set i1 .un).set i (.d (ei a))).set i1 (.d (ej b))) k1 fun k3 y => k3 = k1 ∧ y = g a b) ∧ Φ k1 (.list (as.flatMap fun a => (bs a).map (g a)))) :
    WPE F C (.ListComp elt [⟨.Name x px, iter, [], 0⟩, ⟨.Name x1 px1, iter1, [], 0⟩] scope pos) ρ k Φ :=
  of_pe (t := tLc2 (iTup C.K (tE C iter)) (gName i) tYes (iList (C.blk scope).K (tE (C.blk scope) iter1)) (gName i1) tYes (tE (C.blk scope) elt) [i, i1] [i1]) (fun X fx => pe_lc2 (own := [(x, i), (x1, i1)]) (vs1 := [i1]) fx.calm (by rw [fx.N]; exact b.t.hN) (piT fx) (by rw [fx.N, fx.sc]; exact b.ok) (fun j hj => by simp at hj ⊢; exact .inr hj)
    (fun s H a cl fp => b.t.pg (fx.blk s H scope a cl fp)) (fun s H a cl fp => pts_nil) (fun s H a cl fp => piL (fx.blk s H scope a cl fp)) (fun s H a cl fp => b.t1.pg (fx.blk s H scope a cl fp)) (fun s H a cl fp => pts_nil) (fun s H a cl fp => peE (fx.blk s H scope a cl fp)) (hs X.env) (fun env => hs1 env))
    (we_lc2 ei ej bs g B i i1 hne hK h)
end
end Dl

namespace Dl
open PySem PySem.Spec PyProof.Rows L2
/-! ### expressions that change one own list: left.pop(e), and tuple([left.pop(e) for k in range(z)]) -/
theorem RepAll.erase {K : PySem.W.Frag} {S : Addr → Prop} {H : Hp} (n : Nat) : ∀ {ds : List PyData} {vs : List V}, RepAll K S H vs ds → RepAll K S H (vs.eraseIdx n) (ds.eraseIdx n) := by
  induction n with
  | zero =>
    intro ds vs h
    cases h with
    | nil => exact .nil
    | cons h1 h2 => exact h2
  | succ n ih =>
    intro ds vs h
    cases h with
    | nil => exact .nil
    | cons h1 h2 => exact .cons h1 (ih h2)
theorem seqIx_nat {n len : Nat} (h : n < len) : seqIndex? (n : Int) len = some n := by
  unfold seqIndex?
  have h1 : ¬ ((n : Int) < 0) := by omega
  simp only [h1, if_false]
  rw [if_pos (by simp; omega)]
  simp
def WX (F : Fm) (o : Addr) (t : TE) (ρ : Rho) (k : Nat) (Φ : Nat → List PyData → PyData → Prop) : Prop :=
  ∀ (σ : L2.St) (H : Hp) (Q : VK), EnvOk F H σ ρ → J F k H → (∀ v d k' ys ws H', LeD F o H H' → H' o = some (.lst ws) → RpAll F H' ws ys → J F k' H' → Rp F H' v d → Φ k' ys d → Q v H') → t σ H Q
section
variable {F : Fm} {C : Cs} {ρ : Rho} {k : Nat} {P : DE} {Φ : Nat → PyData → Prop} {Ξ : Nat → List PyData → PyData → Prop} {pos p p0 px py ap cp spos pr pr2 : Pos} {x y : Str} {rest : List Stmt} {e ez : Expr} {o : Addr} {scope : Scope}
theorem EnvOk.ownLd {H H' : Hp} {σ : L2.St} {i : Nat} {xs ys : List PyData} {ws : List V} (en : EnvOk F H σ ρ) (e : ρ[i]? = some (.own o xs)) (hno : (ρ.set i .un).all plainB = true) (l : LeD F o H H') (hw : H' o = some (.lst ws)) (r : RpAll F H' ws ys) : EnvOk F H' σ (ρ.set i (.own o ys)) := by
  obtain ⟨hσ, hS, hM, h0, vs, hv, rv⟩ := en.own e
  intro j sv ej
  by_cases hj : i = j
  · subst hj
    have hl : i < ρ.length := (List.getElem?_eq_some_iff.mp e).1
    rw [List.getElem?_set_self hl] at ej
    cases ej
    exact ⟨_, hσ, rfl, hS, hM, h0, ws, hw, r⟩
  · rw [List.getElem?_set_ne hj] at ej
    obtain ⟨z, q, s⟩ := en j sv ej
    refine ⟨z, q, ?_⟩
    cases sv with
    | un => trivial
    | d d => obtain ⟨v, z, r⟩ := s; exact ⟨v, z, r.le (l.lz hS)⟩
    | raw v => exact s
    | own o' xs' => exact (noOwn_of hno j o' xs' (Ne.symm hj) ej).elim
theorem WX.imp {t : TE} {Ξ' : Nat → List PyData → PyData → Prop} (h : WX F o t ρ k Ξ) (i : ∀ k' ys d, Ξ k' ys d → Ξ' k' ys d) : WX F o t ρ k Ξ' := fun σ H Q en j q => h σ H Q en j fun v d k' ys ws H' l hw r j' rv p => q v d k' ys ws H' l hw r j' rv (i k' ys d p)
/-- x.pop(e), x the own list -/
def tPop (C : Cs) (i : Nat) (e : Expr) : TE := tBM C.K "list" rPopAt (tVar i) (tCons (tE C e) tNil)
theorem pePop (i : Nat) {X : Cx} (fx : Fits C X) (hN : C.N[i]? = some x) (hv : Vis C.sc x) (hse : ∀ env : Env, starEach [e] env = (false, eval e env) :: starEach [] env)
    (hd : (x == ("__debug__" : Str)) = false := by decide) (hcd : (x == ("__classdict__" : Str)) = false := by decide)
    (hbm : ∀ X : Cx, ∀ {to : TE} {t : TA}, PE X (.Name x px) to → PA X [e] t → PE X (.Call (.Attribute (.Name x px) "pop" ap) [e] [] cp) (tBM X.K "list" rPopAt to t) := by exact fun X {to t} h1 h2 => pe_bm PySem.F.plainAttrs_list PySem.F.slot_list_pop PySem.F.type_list_pop mt_popAt h1 h2) :
    PE X (.Call (.Attribute (.Name x px) "pop" ap) [e] [] cp) (tPop C i e) := by
  unfold tPop
  rw [← fx.K]
  exact hbm X (pe_var (by rw [fx.N]; exact hN) (by rw [fx.sc]; exact hv) hd hcd) (pa_cons (peE fx) pa_nil (hse X.env))
theorem wx_pop (i : Nat) {xs : List PyData} (hr : ρ[i]? = some (.own o xs)) (hz : xs.length ≤ 1000000)
    (h : WPE F C e ρ k fun k1 d => ∃ (n : Nat) (y : PyData), d = .int n ∧ xs[n]? = some y ∧ Ξ k1 (xs.eraseIdx n) y) : WX F o (tPop C i e) ρ k Ξ := fun σ H Q en j q => by
  obtain ⟨hσ, hS, hM, h0, vs, hv', rv⟩ := en.own hr
  refine ⟨_, hσ, .inl ⟨rfl, _, SqL.of hv'⟩, ?_⟩
  show tE C e σ H _
  refine h σ H _ en j fun v d k1 H1 l1 j1 r1 ⟨n, y, ed, hy, p⟩ => ?_
  subst ed
  cases r1
  have hv1 : H1 o = some (.lst vs) := l1 o _ (Fm.mxA hM) hv'
  obtain ⟨u, hu, ru⟩ := (rv.le l1.lz).get hy
  have hn : n < vs.length := (List.getElem?_eq_some_iff.mp hu).1
  have hlen := rv.length
  have lz : Lz F H1 (upd H1 o (.lst (vs.eraseIdx n))) := fun b u hb z => by rw [upd_ne (show b ≠ o from fun y => hb (.inl (y ▸ hS)))]; exact z
  refine ⟨o, vs, n, n, u, rfl, rfl, hv1, by omega, by omega, seqIx_nat hn, hu, ?_⟩
  refine q u y k1 _ _ _ (fun b u hb hne z => by rw [upd_ne hne]; exact l1 b u hb z) upd_same (((rv.le l1.lz).erase n).le lz) (j1.own hM h0 (pl_lst (l1 o _ (Fm.mxA hM) hv'))) (ru.le lz) p
/-- [elt for _ in range(z)], elt changes the own list -/
theorem wx_lcR (i il : Nat) {tl : TE} {te : TE} {xs : List PyData} (hne : i ≠ il) (hr : ρ[il]? = some (.own o xs)) (hno : (ρ.set il .un).all plainB = true)
    (h : WE F tl ρ k fun k1 d => ∃ (I : Nat → Nat → List PyData → List PyData → Prop) (z : Int), d = .int z ∧ -(2 ^ 62) ≤ z ∧ z ≤ 1000000 ∧ I 0 k1 xs [] ∧ (∀ D (j : Nat) k' ys acc, j < z.toNat → I j k' ys acc → WX (F.ext D) o te ((ρ.set il (.own o ys)).set i (.d (.int j))) k' fun k2 ys' z => I (j + 1) k2 ys' (acc ++ [z])) ∧ (∀ k' ys acc, I z.toNat k' ys acc → Ξ k' ys (.list acc))) :
    WX F o (tLc (iRng1 (tCons tl tNil)) (gName i) tYes te [i]) ρ k Ξ := fun σ H Q en j q => by
  show tl σ H _
  refine h σ H _ en j fun v d k1 H1 l1 j1 r hh => ?_
  obtain ⟨I, z, e, z1, z2, i0, hstep, hend⟩ := hh
  subst e
  cases r
  refine ⟨z, rfl, z1, by omega, fun D hD => ?_⟩
  have en1 := en.le l1
  have hM : ¬ F.M D := fun z => F.gl _ _ j1.g D z hD
  have hS : ¬ F.S D := j1.fresh hD
  have h0 : F.H0 D = none := j1.h0 hM hD
  obtain ⟨_, hSo, hMo, h0o, vs0, hv0, rv0⟩ := en1.own hr
  have hoD : o ≠ D := ne_of_none hv0 hD
  have en2 : EnvOk (F.ext D) (upd H1 D (.lst [])) σ ρ := en1.ext hD
  have lzo : ∀ H', (∀ b u, ¬ F.Mx b u → b ≠ D → b ≠ o → upd H1 D (.lst []) b = some u → H' b = some u) → Lz (F.ext D) (upd H1 D (.lst [])) H' := fun H' ld b u hb e => ld b u (fun z => hb (z.imp (fun q => .inl (F.ms b q)) id)) (fun z => hb (.inl (.inr z))) (fun z => hb (.inl (.inl (z ▸ hSo)))) e
  have mkEnv : ∀ H' ys ws, (∀ b u, ¬ F.Mx b u → b ≠ D → b ≠ o → upd H1 D (.lst []) b = some u → H' b = some u) → H' o = some (.lst ws) → RpAll (F.ext D) H' ws ys → EnvOk (F.ext D) H' σ (ρ.set il (.own o ys)) := by
    intro H' ys ws ld hw rw'
    intro m sv em
    by_cases hj : il = m
    · subst hj
      have hl : il < ρ.length := (List.getElem?_eq_some_iff.mp hr).1
      rw [List.getElem?_set_self hl] at em
      cases em
      exact ⟨_, (en2.own hr).1, rfl, .inl hSo, hMo, h0o, ws, hw, rw'⟩
    · rw [List.getElem?_set_ne hj] at em
      obtain ⟨y, qy, sy⟩ := en2 m sv em
      refine ⟨y, qy, ?_⟩
      cases sv with
      | un => trivial
      | d d => obtain ⟨v, z, r⟩ := sy; exact ⟨v, z, r.le (lzo H' ld)⟩
      | raw v => exact sy
      | own o' xs' => exact (noOwn_of hno m o' xs' (Ne.symm hj) em).elim
  refine lc_range (lo := 0) (n := z.toNat) (fun n H' => ∃ k' vs acc ys ws, acc.length ≤ n ∧ J (F.ext D) k' H' ∧ (∀ b u, ¬ F.Mx b u → b ≠ D → b ≠ o → upd H1 D (.lst []) b = some u → H' b = some u) ∧ H' D = some (.lst vs) ∧ RpAll (F.ext D) H' vs acc ∧ H' o = some (.lst ws) ∧ RpAll (F.ext D) H' ws ys ∧ I n k' ys acc)
    ⟨k1, [], [], xs, vs0, Nat.le_refl _, (j1.new hD).ext (lv_new fun _ z => nomatch z), fun _ _ _ _ _ e => e, upd_same, .nil, by rw [upd_ne hoD]; exact hv0, rv0.ext hD, i0⟩ ?_ ?_
  · rintro n H' hn ⟨k', vs, acc, ys, ws, hle, j', ld, hd, ra, hw, rw', ii⟩
    rw [Int.zero_add]
    show (wipe ((wipe σ [i]).set i (some (.int n))) [i] = wipe σ [i] ∧ _)
    rw [set_wipe]
    refine ⟨wipe_set σ, ?_⟩
    have en' := mkEnv H' ys ws ld hw rw'
    unfold tYes
    dsimp only
    rw [if_pos rfl]
    refine hstep D n k' ys acc hn ii (σ.set i (some (.int n))) H' _ (en'.set (sv := .d (.int n)) ⟨_, rfl, .int n⟩) j' fun v d k2 ys2 ws2 H4 l4 hw4 rw4 j4 r4 p => ?_
    have hd4 : H4 D = some (.lst vs) := l4 D _ (Fm.mxA hM) (Ne.symm hoD) hd
    have ra4 : RpAll (F.ext D) H4 vs acc := ra.le (l4.lz (F := F.ext D) (.inl hSo))
    have lz : Lz (F.ext D) H4 (upd H4 D (.lst (vs ++ [v]))) := fun b u hb e => by rw [upd_ne (show b ≠ D from fun z => hb (.inl (.inr z)))]; exact e
    refine ⟨vs, hd4, by rw [ra.length]; exact Nat.lt_of_le_of_lt (show acc.length ≤ 1000000 by omega) (by decide), k2, vs ++ [v], acc ++ [d], ys2, ws2, by rw [List.length_append]; show _ + 1 ≤ _; omega, j4.own hM h0 (pl_lst hd4), ?_, upd_same, (ra4.le lz).append (.cons (r4.le lz) .nil), by rw [upd_ne hoD]; exact hw4, rw4.le lz, p⟩
    exact fun b u hb h1 h2 e => by rw [upd_ne h1]; exact l4 b u hb h2 (ld b u hb h1 h2 e)
  · rintro H' ⟨k', vs, acc, ys, ws, hle, j', ld, hd, ra, hw, rw', ii⟩
    refine q (.ref D) (.list acc) k' ys ws H' ?_ hw rw'.unext j'.unext (.lst ⟨hd, hS⟩ ra.unext) (hend k' ys acc ii)
    exact fun b u n1 n2 e => ld b u n1 (ne_of_none (l1 b u n1 e) hD) n2 (by rw [upd_ne (ne_of_none (l1 b u n1 e) hD)]; exact l1 b u n1 e)
def rTup (C : Cs) : List V → Hp → VK → Prop := fun xs H Q => ∃ p ys, xs = [.ref p] ∧ ((SqL C.K H p ys ∧ ∀ l ob, H l = none → ob.dict = none → Q (.ref l) (upd H l (.frz ob (.tup ys)))) ∨ (SqT C.K H p ys ∧ Q (.ref p) H))
theorem wx_tup {t : TE} (hK : F.K = C.K) (h : WX F o t ρ k fun k1 ys d => ∃ ds, d = .list ds ∧ Ξ k1 ys (.tuple ds)) (hr : ∀ H σ, EnvOk F H σ ρ → F.S o) : WX F o (tCB (rTup C) (tCons t tNil)) ρ k Ξ := fun σ H Q en j q => by
  show t σ H _
  refine h σ H _ en j fun v d k1 ys ws H1 l1 hw rw' j1 r ⟨ds, e, p⟩ => ?_
  subst e
  cases r with
  | @lst a xs _ ha hra =>
  refine ⟨a, xs, rfl, .inl ⟨hK ▸ sql_of ha, fun l ob hl hdi => ?_⟩⟩
  exact q _ (.tuple ds) k1 ys ws _ (l1.trans (Le.new hl).ld) (by rw [upd_ne (ne_of_none hw hl)]; exact hw) (rw'.le (Le.new hl).lz) (j1.new hl) (rep_newT j1 hl hdi hra) p
/-- len(x), x the own list -/
theorem we_lenOwn (i : Nat) {xs : List PyData} (hN : C.N[i]? = some x) (hv : Vis C.sc x) (hr : ρ[i]? = some (.own o xs)) (hg : C.sc.names.lookup ("len" : Str) = some .globalImplicit) (hm : C.mg ("len" : Str) = none)
    (h : Φ k (.int xs.length)) (hd : (x == ("__debug__" : Str)) = false := by decide) (hcd : (x == ("__classdict__" : Str)) = false := by decide) (hse : ∀ env : Env, starEach [.Name x px] env = (false, eval (.Name x px) env) :: starEach [] env := by intro _; rfl) : WPE F C (.Call (.Name "len" p) [.Name x px] [] pos) ρ k Φ :=
  of_pe (fun X fx => pe_callB (lenK fx) (by show X.env.scope.names.lookup ("len" : Str) = _; rw [fx.sc]; exact hg) (by rw [fx.mg]; exact hm) PySem.boot_len (pa_cons (pe_var (i := i) (by rw [fx.N]; exact hN) (by rw [fx.sc]; exact hv) hd hcd) pa_nil (hse X.env)) (by decide) (by decide) (hse X.env) rfl) fun σ H Q en j q => by
    obtain ⟨hσ, hS, hM, h0, vs, hv', rv⟩ := en.own hr
    refine ⟨_, hσ, o, vs, rfl, .inl (SqL.of hv'), ?_⟩
    rw [rv.length]
    exact q _ _ k _ .refl j (.int _) h
/-- x = y.pop(e) -/
theorem ws_popSet (i il : Nat) {xs : List PyData} (t : Tgt C i x) (hne : i ≠ il) (hN : C.N[il]? = some y) (hv : Vis C.sc y) (hr : ρ[il]? = some (.own o xs)) (hno : (ρ.set il .un).all plainB = true) (hz : xs.length ≤ 1000000)
    (hse : ∀ env : Env, starEach [e] env = (false, eval e env) :: starEach [] env)
    (hs : ∀ env : Env, env.scope = C.sc → swapsWith (.Call (.Attribute (.Name y py) "pop" ap) [e] [] cp) (some (.Name x px)) pos.line env = pure false)
    (h : WPE F C e ρ k fun k1 d => ∃ (n : Nat) (u : PyData), d = .int n ∧ xs[n]? = some u ∧ P.nx k1 ((ρ.set il (.own o (xs.eraseIdx n))).set i (.d u)))
    (hd : (y == ("__debug__" : Str)) = false := by decide) (hcd : (y == ("__classdict__" : Str)) = false := by decide)
    (hbm : ∀ X : Cx, ∀ {to : TE} {t : TA}, PE X (.Name y py) to → PA X [e] t → PE X (.Call (.Attribute (.Name y py) "pop" ap) [e] [] cp) (tBM X.K "list" rPopAt to t) := by exact fun X {to t} h1 h2 => pe_bm PySem.F.plainAttrs_list PySem.F.slot_list_pop PySem.F.type_list_pop mt_popAt h1 h2) :
    WPS F C (.Assign [.Name x px] (.Call (.Attribute (.Name y py) "pop" ap) [e] [] cp) pos) ρ k P :=
  of_ps (fun X fx => ps_set (by rw [fx.N]; exact t.hN) (by rw [fx.N]; exact t.hi) (by rw [fx.sc]; exact t.hx) (pePop (x := y) il fx hN hv hse hd hcd hbm) (hs X.env fx.sc) (by rw [fx.fn, fx.sc]; exact t.hf)) fun σ H E en j q1 _ _ _ => by
    refine wx_pop (Ξ := fun k1 ys u => P.nx k1 ((ρ.set il (.own o ys)).set i (.d u))) il hr hz (h.imp fun k1 d ⟨n, u, e1, e2, p⟩ => ⟨n, u, e1, e2, p⟩) σ H _ en j fun v d k' ys ws H' l hw r j' rv p => ?_
    have hSo := (en.own hr).2.1
    exact q1 _ (σ.set i (some v)) k' H' (l.lz hSo) ((en.ownLd hr hno l hw r).set (sv := .d d) ⟨v, rfl, rv⟩) j' p
/-- return tuple([x.pop(e) for _ in range(z)]) -/
theorem ws_retPops (i il : Nat) {xs : List PyData} {w : Str} {pw : Pos} (b : Blk C scope i w) (hK : F.K = C.K) (hne : i ≠ il) (hN : (C.blk scope).N[il]? = some x) (hv : Vis (C.blk scope).sc x) (hr : ρ[il]? = some (.own o xs)) (hno : (ρ.set il .un).all plainB = true)
    (hg : C.sc.names.lookup ("tuple" : Str) = some .globalImplicit) (hm : C.mg ("tuple" : Str) = none) (hg2 : C.sc.names.lookup ("range" : Str) = some .globalImplicit) (hm2 : C.mg ("range" : Str) = none)
    (hs1 : ∀ env : Env, starEach [.ListComp (.Call (.Attribute (.Name x px) "pop" ap) [e] [] cp) [⟨.Name w pw, (.Call (.Name "range" pr) [ez] [] pr2), [], 0⟩] scope pos] env = (false, eval (.ListComp (.Call (.Attribute (.Name x px) "pop" ap) [e] [] cp) [⟨.Name w pw, (.Call (.Name "range" pr) [ez] [] pr2), [], 0⟩] scope pos) env) :: starEach [] env)
    (hse : ∀ env : Env, starEach [e] env = (false, eval e env) :: starEach [] env) (hse2 : ∀ env : Env, starEach [ez] env = [(false, eval ez env)])
    (hfs : ∀ (env : Env) (v : Value), foldedSetIterable (.Call (.Name "range" pr) [ez] [] pr2) env v = pure v)
    (h : WPE F C ez ρ k fun k1 d => ∃ (I : Nat → Nat → List PyData → List PyData → Prop) (z : Int), d = .int z ∧ -(2 ^ 62) ≤ z ∧ z ≤ 1000000 ∧ I 0 k1 xs [] ∧
      (∀ D (j : Nat) k' ys acc, j < z.toNat → I j k' ys acc → ys.length ≤ 1000000 ∧ WPE (F.ext D) (C.blk scope) e ((ρ.set il (.own o ys)).set i (.d (.int j))) k' fun k2 d => ∃ (n : Nat) (y : PyData), d = .int n ∧ ys[n]? = some y ∧ I (j + 1) k2 (ys.eraseIdx n) (acc ++ [y])) ∧ (∀ k' ys acc, I z.toNat k' ys acc → P.rt k' (.tuple acc)))
    (hd : (x == ("__debug__" : Str)) = false := by decide) (hcd : (x == ("__classdict__" : Str)) = false := by decide)
    (hbm : ∀ X : Cx, ∀ {to : TE} {t : TA}, PE X (.Name x px) to → PA X [e] t → PE X (.Call (.Attribute (.Name x px) "pop" ap) [e] [] cp) (tBM X.K "list" rPopAt to t) := by exact fun X {to t} h1 h2 => pe_bm PySem.F.plainAttrs_list PySem.F.slot_list_pop PySem.F.type_list_pop mt_popAt h1 h2) :
    WPS F C (.Return (some (.Call (.Name "tuple" p) [.ListComp (.Call (.Attribute (.Name x px) "pop" ap) [e] [] cp) [⟨.Name w pw, (.Call (.Name "range" pr) [ez] [] pr2), [], 0⟩] scope pos] [] p0)) spos) ρ k P :=
  of_ps (fun X fx => ps_ret (pe_callTy (r := rTup C) (tupK fx) (by show X.env.scope.names.lookup ("tuple" : Str) = _; rw [fx.sc]; exact hg) (by rw [fx.mg]; exact hm) (by decide +kernel)
      (pa_cons (pe_lc (own := [(w, i)]) fx.calm (by rw [fx.N]; exact b.t.hN) (pi_range1 (by show X.env.scope.names.lookup ("range" : Str) = _; rw [fx.sc]; exact hg2) (by rw [fx.mg]; exact hm2) (pa_cons (peE fx) pa_nil (hse2 X.env)) (hse2 X.env)) (by rw [fx.N, fx.sc]; exact b.ok) (fun s H a cl fp => b.t.pg (fx.blk s H scope a cl fp)) (fun s H a cl fp => pts_nil) (fun s H a cl fp => pePop il (fx.blk s H scope a cl fp) hN hv hse hd hcd hbm) (hfs X.env)) pa_nil (hs1 X.env)) (by decide) (by decide) (hs1 X.env) rfl)) fun σ H E en j _ q2 _ _ => by
    refine wx_tup (o := o) (Ξ := fun k1 _ d => P.rt k1 d) hK (wx_lcR i il hne hr hno (h.imp fun k1 d ⟨I, z, e1, z1, z2, i0, hst, hen⟩ => ⟨I, z, e1, z1, z2, i0, fun D j k' ys acc hj ii => wx_pop il (by rw [List.getElem?_set_ne hne, List.getElem?_set_self (List.getElem?_eq_some_iff.mp hr).1]) (hst D j k' ys acc hj ii).1 (hst D j k' ys acc hj ii).2, fun k' ys acc ii => ⟨acc, rfl, hen k' ys acc ii⟩⟩)) (fun H σ en => (en.own hr).2.1) σ H _ en j fun v d k' ys ws H' l hw r j' rv p => q2 v d k' H' j' rv p
end
end Dl

namespace Dl
open PySem PySem.Spec PyProof.Rows L2
/-! ### x = an expression that makes a new list, which is the def's own -/
def WN (F : Fm) (t : TE) (ρ : Rho) (k : Nat) (Φ : Nat → List PyData → Prop) : Prop :=
  ∀ (σ : L2.St) (H : Hp) (Q : VK), EnvOk F H σ ρ → J F k H → (∀ o vs ds k' H', Le F H H' → J F k' H' → H' o = none → RpAll F H' vs ds → Φ k' ds → Q (.ref o) (upd H' o (.lst vs))) → t σ H Q
section
variable {F : Fm} {C : Cs} {ρ : Rho} {k : Nat} {P : DE} {Φ : Nat → List PyData → Prop} {pos p p2 px pr pr2 : Pos} {a e : Expr} {x : Str} {rest : List Stmt}
theorem wb_ownNew (i : Nat) {t0 : TE} (ht : ∀ X, Fits C X → PE X e t0) (t : Tgt C i x) (hi : i < ρ.length) (hs : ∀ env : Env, env.scope = C.sc → swapsWith e (some (.Name x px)) pos.line env = pure false)
    (h : WN F t0 ρ k fun k2 ds => ∀ o, WPB (F.ext o) C rest (ρ.set i (.own o ds)) k2 { nx := fun _ _ => False, rt := P.rt, bk := fun _ _ => False, ct := fun _ _ => False }) : WPB F C (.Assign [.Name x px] e pos :: rest) ρ k P :=
  of_pb (fun X fx => pss_cons (ps_set (by rw [fx.N]; exact t.hN) (by rw [fx.N]; exact t.hi) (by rw [fx.sc]; exact t.hx) (ht X fx) (hs X.env fx.sc) (by rw [fx.fn, fx.sc]; exact t.hf)) (pbB fx)) fun σ H E en j q1 q2 q3 q4 => by
    refine h σ H _ en j fun o xs ds k2 H2 l2 j2 no hr p => ?_
    have hM : ¬ F.M o := fun z => F.gl _ _ j2.g o z no
    have h0 : F.H0 o = none := j2.h0 hM no
    have en2 : EnvOk (F.ext o) (upd H2 o (.lst xs)) (σ.set i (some (.ref o))) (ρ.set i (.own o ds)) :=
      ((en.le l2).ext no).set (sv := .own o ds) ⟨rfl, .inr rfl, hM, h0, xs, upd_same, hr.ext no⟩
    refine p o (σ.set i (some (.ref o))) (upd H2 o (.lst xs)) E en2 ((j2.new no).ext (lv_new fun _ z => nomatch z)) ?_ ?_ ?_ ?_
    · exact fun _ _ _ _ _ _ _ z => z.elim
    · exact fun v d k' H' j' r' p => q2 v d k' H' j'.unext r'.unext p
    · exact fun _ _ _ _ _ _ _ z => z.elim
    · exact fun _ _ _ _ _ _ _ z => z.elim
/-- .. for one statement, then data again -/
theorem wb_ownNew1 (i : Nat) {st : Stmt} {t0 : TE} (ht : ∀ X, Fits C X → PE X e t0) (t : Tgt C i x) (hi : i < ρ.length) (hs : ∀ env : Env, env.scope = C.sc → swapsWith e (some (.Name x px)) pos.line env = pure false)
    (h : WN F t0 ρ k fun k2 ds => ∀ o, WPS (F.ext o) C st (ρ.set i (.own o ds)) k2 { nx := fun k' ρ' => ∃ ys, ρ'[i]? = some (.own o ys) ∧ (ρ'.set i .un).all plainB = true ∧ WPB F C rest (ρ'.set i (.d (.list ys))) k' P, rt := P.rt, bk := fun _ _ => False, ct := fun _ _ => False }) :
    WPB F C (.Assign [.Name x px] e pos :: st :: rest) ρ k P :=
  of_pb (fun X fx => pss_cons (ps_set (by rw [fx.N]; exact t.hN) (by rw [fx.N]; exact t.hi) (by rw [fx.sc]; exact t.hx) (ht X fx) (hs X.env fx.sc) (by rw [fx.fn, fx.sc]; exact t.hf)) (pss_cons (psS fx) (pbB fx))) fun σ H E en j q1 q2 q3 q4 => by
    refine h σ H _ en j fun o xs ds k2 H2 l2 j2 no hr p => ?_
    have hM : ¬ F.M o := fun z => F.gl _ _ j2.g o z no
    have hS : ¬ F.S o := j2.fresh no
    have h0 : F.H0 o = none := j2.h0 hM no
    have en2 : EnvOk (F.ext o) (upd H2 o (.lst xs)) (σ.set i (some (.ref o))) (ρ.set i (.own o ds)) :=
      ((en.le l2).ext no).set (sv := .own o ds) ⟨rfl, .inr rfl, hM, h0, xs, upd_same, hr.ext no⟩
    have lzo : ∀ H', Lz (F.ext o) (upd H2 o (.lst xs)) H' → Lz F H H' := fun H' lz b u hb e => by
      have e2 := l2.lz b u hb e
      have ne : b ≠ o := ne_of_none e2 no
      exact lz b u (fun z => z.elim (fun y => y.elim (fun q => hb (.inl q)) ne) fun q => hb (.inr q)) (by rw [upd_ne ne]; exact e2)
    refine p o (σ.set i (some (.ref o))) (upd H2 o (.lst xs)) _ en2 ((j2.new no).ext (lv_new fun _ z => nomatch z)) ?_ ?_ ?_ ?_
    · rintro ρ' σ' k' H' lz en' j' ⟨zs, hown, hpl, hrest⟩
      have hlz := lzo H' lz
      obtain ⟨hσ', _, _, _, vs, hvs, rvs⟩ := en'.own hown
      have en3 : EnvOk F H' σ' (ρ'.set i (.d (.list zs))) := by
        intro m sv em
        by_cases hj : i = m
        · subst hj
          have hl : i < ρ'.length := (List.getElem?_eq_some_iff.mp hown).1
          rw [List.getElem?_set_self hl] at em
          cases em
          exact ⟨_, hσ', _, rfl, .lst ⟨hvs, hS⟩ rvs.unext⟩
        · rw [List.getElem?_set_ne hj] at em
          obtain ⟨y, qy, sy⟩ := en' m sv em
          refine ⟨y, qy, ?_⟩
          cases sv with
          | un => trivial
          | d d => obtain ⟨v, z, r⟩ := sy; exact ⟨v, z, r.unext⟩
          | raw v => exact sy
          | own o' xs' => exact (noOwn_of hpl m o' xs' (Ne.symm hj) em).elim
      exact hrest σ' H' E en3 j'.unext (fun ρ2 σ2 k2 H2 l2 => q1 ρ2 σ2 k2 H2 (hlz.trans l2)) q2 (fun ρ2 σ2 k2 H2 l2 => q3 ρ2 σ2 k2 H2 (hlz.trans l2)) (fun ρ2 σ2 k2 H2 l2 => q4 ρ2 σ2 k2 H2 (hlz.trans l2))
    · exact fun v d k' H' j' r' p => q2 v d k' H' j'.unext r'.unext p
    · exact fun _ _ _ _ _ _ _ z => z.elim
    · exact fun _ _ _ _ _ _ _ z => z.elim
theorem wn_rg {t : TE} (h : WE F t ρ k fun k1 d => ∃ z : Int, d = .int z ∧ (0 ≤ z ∧ z ≤ 16777216) ∧ Φ k1 ((rg z).map PyData.int)) : WN F (tLstRg (tRg1 t)) ρ k Φ := fun σ H Q en j q => by
  show t σ H _
  refine h σ H _ en j fun v d k1 H1 l1 j1 r ⟨z, e, hz, p⟩ => ?_
  subst e
  cases r
  refine ⟨z, rfl, RgOk.of_le (by decide) hz.2 (by decide) hz.1, fun l hl => ?_⟩
  rw [rgV_rg]
  exact q l _ _ k1 H1 l1 j1 hl (RepAll.of_ints _) p
/-- x = list(range(a)) -/
theorem wb_ownRg (i : Nat) (t : Tgt C i x) (hi : i < ρ.length) (hg : C.sc.names.lookup ("list" : Str) = some .globalImplicit) (hm : C.mg ("list" : Str) = none) (hg2 : C.sc.names.lookup ("range" : Str) = some .globalImplicit) (hm2 : C.mg ("range" : Str) = none)
    (hs1 : ∀ env : Env, starEach [a] env = (false, eval a env) :: starEach [] env) (hs2 : ∀ env : Env, starEach [.Call (.Name "range" pr) [a] [] pr2] env = (false, eval (.Call (.Name "range" pr) [a] [] pr2) env) :: starEach [] env)
    (hs : ∀ env : Env, env.scope = C.sc → swapsWith (.Call (.Name "list" p) [.Call (.Name "range" pr) [a] [] pr2] [] p2) (some (.Name x px)) pos.line env = pure false)
    (h : WPE F C a ρ k fun k1 d => ∃ z : Int, d = .int z ∧ (0 ≤ z ∧ z ≤ 16777216) ∧ ∀ o, WPB (F.ext o) C rest (ρ.set i (.own o ((rg z).map PyData.int))) k1 { nx := fun _ _ => False, rt := P.rt, bk := fun _ _ => False, ct := fun _ _ => False }) :
    WPB F C (.Assign [.Name x px] (.Call (.Name "list" p) [.Call (.Name "range" pr) [a] [] pr2] [] p2) pos :: rest) ρ k P :=
  wb_ownNew i (fun X fx => pe_listRg fx.calm (by show X.env.scope.names.lookup ("list" : Str) = _; rw [fx.sc]; exact hg) (by rw [fx.mg]; exact hm) (prg_1 (by show X.env.scope.names.lookup ("range" : Str) = _; rw [fx.sc]; exact hg2) (by rw [fx.mg]; exact hm2) (peE fx) (hs1 X.env)) (hs2 X.env)) t hi hs (wn_rg h)
theorem wb_ownRg1 (i : Nat) {st : Stmt} (t : Tgt C i x) (hi : i < ρ.length) (hg : C.sc.names.lookup ("list" : Str) = some .globalImplicit) (hm : C.mg ("list" : Str) = none) (hg2 : C.sc.names.lookup ("range" : Str) = some .globalImplicit) (hm2 : C.mg ("range" : Str) = none)
    (hs1 : ∀ env : Env, starEach [a] env = (false, eval a env) :: starEach [] env) (hs2 : ∀ env : Env, starEach [.Call (.Name "range" pr) [a] [] pr2] env = (false, eval (.Call (.Name "range" pr) [a] [] pr2) env) :: starEach [] env)
    (hs : ∀ env : Env, env.scope = C.sc → swapsWith (.Call (.Name "list" p) [.Call (.Name "range" pr) [a] [] pr2] [] p2) (some (.Name x px)) pos.line env = pure false)
    (h : WPE F C a ρ k fun k1 d => ∃ z : Int, d = .int z ∧ (0 ≤ z ∧ z ≤ 16777216) ∧ ∀ o, WPS (F.ext o) C st (ρ.set i (.own o ((rg z).map PyData.int))) k1 { nx := fun k' ρ' => ∃ ys, ρ'[i]? = some (.own o ys) ∧ (ρ'.set i .un).all plainB = true ∧ WPB F C rest (ρ'.set i (.d (.list ys))) k' P, rt := P.rt, bk := fun _ _ => False, ct := fun _ _ => False }) :
    WPB F C (.Assign [.Name x px] (.Call (.Name "list" p) [.Call (.Name "range" pr) [a] [] pr2] [] p2) pos :: st :: rest) ρ k P :=
  wb_ownNew1 i (fun X fx => pe_listRg fx.calm (by show X.env.scope.names.lookup ("list" : Str) = _; rw [fx.sc]; exact hg) (by rw [fx.mg]; exact hm) (prg_1 (by show X.env.scope.names.lookup ("range" : Str) = _; rw [fx.sc]; exact hg2) (by rw [fx.mg]; exact hm2) (peE fx) (hs1 X.env)) (hs2 X.env)) t hi hs (wn_rg h)
theorem listK {X : Cx} (fx : Fits C X) : CallR X (.type "list") (fun xs H Q => ∃ p ys, xs = [.ref p] ∧ (SqL C.K H p ys ∨ SqT C.K H p ys) ∧ ∀ l, H l = none → Q (.ref l) (upd H l (.lst ys))) := by rw [← fx.K]; exact call_list_of
/-- x = list(e), e a list or a tuple -/
theorem wb_ownLs (i : Nat) (t : Tgt C i x) (hi : i < ρ.length) (hK : F.K = C.K) (hg : C.sc.names.lookup ("list" : Str) = some .globalImplicit) (hm : C.mg ("list" : Str) = none)
    (hs1 : ∀ env : Env, starEach [a] env = (false, eval a env) :: starEach [] env)
    (hs : ∀ env : Env, env.scope = C.sc → swapsWith (.Call (.Name "list" p) [a] [] p2) (some (.Name x px)) pos.line env = pure false)
    (h : WPE F C a ρ k fun k1 d => ∃ ds, seqD d = some ds ∧ ∀ o, WPB (F.ext o) C rest (ρ.set i (.own o ds)) k1 { nx := fun _ _ => False, rt := P.rt, bk := fun _ _ => False, ct := fun _ _ => False }) :
    WPB F C (.Assign [.Name x px] (.Call (.Name "list" p) [a] [] p2) pos :: rest) ρ k P :=
  wb_ownNew i (fun X fx => pe_callTy (listK fx) (by show X.env.scope.names.lookup ("list" : Str) = _; rw [fx.sc]; exact hg) (by rw [fx.mg]; exact hm) (by decide +kernel) (pa_cons (peE fx) pa_nil (hs1 X.env)) (by decide) (by decide) (hs1 X.env) rfl) t hi hs (fun σ H Q en j q => by
    show tE C a σ H _
    refine h σ H _ en j fun v d k1 H1 l1 j1 r ⟨ds, e, p⟩ => ?_
    cases d with
    | list xs =>
      cases e
      cases r with
      | @lst b ws _ hb hr => exact ⟨b, ws, rfl, .inl (hK ▸ sql_of hb), fun l hl => q l ws _ k1 H1 l1 j1 hl hr p⟩
    | tuple xs =>
      cases e
      cases r with
      | @tup b ws _ hb hr => exact ⟨b, ws, rfl, .inr (hK ▸ sqt_of hb), fun l hl => q l ws _ k1 H1 l1 j1 hl hr p⟩
    | _ => cases e)
end
end Dl

namespace Dl
open PySem PySem.Spec PyProof.Rows L2
/-! ### t.index(i), a tuple of ints -/
theorem flat_intsV (ys : List Int) : (ys.map V.int).all flatV = true := by
  rw [List.all_map]
  exact List.all_eq_true.mpr fun _ _ => rfl
def rTupIx (K : PySem.W.Frag) : V → List V → Hp → VK → Prop := fun x xs H Q => ∃ p, ∃ ys : List Int, ∃ (z : Int) (j : Nat), x = .ref p ∧ xs = [.int z] ∧ SqT K H p (ys.map V.int) ∧ ys[j]? = some z ∧ (∀ m, m < j → ys[m]? ≠ some z) ∧ Q (.int (j : Nat)) H
theorem mt_tup_indexI {X : Cx} : MtR X "tuple.index" (rTupIx X.K) := by
  intro pins s σ H x xs v us Q I rx rs h
  obtain ⟨p, ys, z, j, rfl, rfl, hq, hy, hno, q⟩ := h
  cases rx
  obtain ⟨u, rfl, t, rfl⟩ := vals1 rs
  obtain ⟨its, r, pl, hz⟩ := I.tuple hq
  obtain ⟨⟨cls, dd, dt, sl⟩, ho, hc, n, hd⟩ := pl
  simp only at hc hd
  subst hc
  subst hd
  have hl : its.toArray.size = ys.length := by rw [List.size_toArray, ← r.length, List.length_map]
  have hj : j < its.toArray.size := by rw [hl]; exact (List.getElem?_eq_some_iff.mp hy).1
  have at' : ∀ (m : Nat) (hm : m < its.toArray.size), ∃ y t', ys[m]? = some y ∧ its.toArray[m] = Value.int y t' := fun m hm => by
    have hm' : m < ys.length := by rw [← hl]; exact hm
    obtain ⟨w, hw, t', hw'⟩ := r.get (i := m) (x := .int ys[m]) (by simp [hm'])
    refine ⟨ys[m], t', List.getElem?_eq_getElem hm', ?_⟩
    have e := (List.getElem?_eq_some_iff.mp hw).2
    rw [← hw', ← e]
    simp
  refine call_meets PySem.F.slot_tuple_index ⟨_, ho, rfl⟩ PySem.F.entry_tuple_index (PySem.F.args_tuple_index_2 _ _) (TI.tuple_indexAt p its.toArray n dd sl (.int z t) (eqU (.int z)) j hj ?_ ?_)
    ⟨ho, fun w hw => mem_eqAt (x := .int z) ⟨t, rfl⟩ rfl r (flat_intsV ys) w (by simpa using hw), ⟨.int (j : Nat), H, I.tok _, ⟨_, rfl⟩, q⟩⟩
  · obtain ⟨y, t', h1, h2⟩ := at' j hj
    rw [hy] at h1
    cases h1
    rw [h2]
    show (z == z) = true
    exact beq_self_eq_true z
  · intro m hm hmj
    obtain ⟨y, t', h1, h2⟩ := at' m hm
    rw [h2]
    show (y == z) = false
    exact beq_eq_false_iff_ne.mpr fun e => hno m hmj (e ▸ h1)
/-! ### t[::-1], a tuple -/
section
variable {prog : Program} {w : World} {A : Around} {E : Value → Shared → Prop} {s : Shared}
theorem sliceApplied_back {sl : Addr} {n : Nat} {t : Tok} {Q : Int × Int × Nat → Shared → Prop} (hs : s.heap.IsSliceOf sl .none .none (.int (-1) t)) (h : Q ((n : Int) - 1, -1, n) s) : wpAny (model prog w) A (Builtin.Slice.sliceApplied (.ref sl) (pure (n : Int))) Q E s := by
  obtain ⟨os, hos, hcs, hds⟩ := id hs
  unfold Builtin.Slice.sliceApplied Builtin.Slice.sliceFields
  refine wpAny_bind (wpAny_bind (wpAny_field hos hds (x := .none) rfl (wpAny_bind (wpAny_field hos hds (x := .none) rfl (wpAny_bind (wpAny_field hos hds (x := .int (-1) t) rfl (wpAny_pure ?_)))))))
  refine wpAny_bind (HT.slicePart_ (.int (-1) t) ?_)
  show wpAny _ _ (if ((-1 : Int) == 0) = true then _ else _) _ _ s
  rw [if_neg (by decide)]
  refine wpAny_bind (HT.slicePart_ .none (wpAny_bind (HT.slicePart_ .none (wpAny_bind (wpAny_pure ?_)))))
  show wpAny _ _ (pure ((n : Int) - 1, (-1 : Int), Builtin.Slice.slicePlaces ((n : Int) - 1) (-1) (-1))) _ _ s
  have e : Builtin.Slice.slicePlaces ((n : Int) - 1) (-1) (-1) = n := by
    unfold Builtin.Slice.slicePlaces
    have h1 : ¬ ((-1 : Int) > 0) := by decide
    simp only [h1, if_false, show (- -1 : Int) = 1 by decide, Int.ediv_one]
    split <;> omega
  rw [e]
  exact wpAny_pure h
theorem pick_back (xs : Array Value) : ((List.range xs.size).filterMap fun (m : Nat) => xs[((xs.size : Int) - 1 + (m : Int) * (-1)).toNat]?).toArray = xs.toList.reverse.toArray := by
  have e : (List.range xs.size).filterMap (fun (m : Nat) => xs[((xs.size : Int) - 1 + (m : Int) * (-1)).toNat]?) = ((List.range xs.size).map fun k => xs.size - 1 - k).filterMap (xs[·]?) := by
    rw [List.filterMap_map]
    have e2 : (fun (m : Nat) => xs[((xs.size : Int) - 1 + (m : Int) * (-1)).toNat]?) = (fun x => xs[x]?) ∘ fun k => xs.size - 1 - k := by
      funext m
      show xs[_]? = xs[xs.size - 1 - m]?
      rw [show ((xs.size : Int) - 1 + (m : Int) * (-1)).toNat = xs.size - 1 - m by omega]
    rw [e2]
  rw [e, PySem.W.krv_range, List.filterMap_reverse, PySem.W.krv_all]
theorem getItem_tuple_back {t sl : Addr} {items : Array Value} {tk : Tok} {Q : Value → Shared → Prop} (ht : IsTup s.heap t items) (hs : s.heap.IsSliceOf sl .none .none (.int (-1) tk))
    (h : Q (.ref s.heap.objs.size) { s with heap := s.heap.push { cls := .type "tuple", data := .seq items.toList.reverse.toArray } }) (hsz : items.size ≤ sizeLine) : wpAny (model prog w) A (getItem (.ref t) (.ref sl)) Q E s := by
  have htake : sizeOk (.seq items.toList.reverse.toArray) := by
    show items.toList.reverse.toArray.size ≤ sizeLine
    rw [List.size_toArray, List.length_reverse, Array.length_toList]
    exact hsz
  obtain ⟨os, hos, hcs, hds⟩ := id hs
  have hTs : s.TypeIs (.ref sl) "slice" := ⟨os, hos, hcs⟩
  unfold getItem
  try with_reducible refine wpAny_holding ?_
  first | refine wpAny_bind (wpAny_pure ?_) | skip
  refine wpAny_bind (wpAny_sequenceKey ht.typeIs (by decide) ?_)
  refine wpAny_bind (wpAny_callSpecial?_slot (name := Str.ofString "__getitem__") ht.typeIs PyProof.Rows.slot_tuple_getitem
    (wpAny_call_entry PyProof.Rows.slot_tuple_getitem ht.typeIs entry_tuple_getitem ?_ (args_tuple_getitem _ _)))
  show wpAny _ _ (Builtin.Tuple.tupleItemsOf (.ref t) >>= _) _ _ s
  refine wpAny_bind (tupleItemsOf_ ht ?_)
  refine wpAny_bind (wpAny_typeOf hTs ?_)
  rw [if_pos (by decide)]
  refine wpAny_bind (sliceApplied_back hs ?_)
  have hno : ¬ ((((items.size : Int) - 1) == 0 && (-1 : Int) == 1 && items.size == items.size) = true) := by
    rw [show ((-1 : Int) == 1) = false by decide, Bool.and_false, Bool.false_and]
    decide
  show wpAny _ _ (if (((items.size : Int) - 1) == 0 && (-1 : Int) == 1 && items.size == items.size) = true then _ else _) _ _ s
  rw [if_neg hno, pick_back]
  first
    | exact wpAny_bind (m := Builtin.Tuple.tupleExact _) (wpAny_newObj_type (wpAny_pure ⟨_, rfl, wpAny_pure h⟩) htake)
    | exact wpAny_bind (m := Builtin.Tuple.tupleExact _) (wpAny_newObj_type (wpAny_bind (wpAny_pure (wpAny_pure ⟨_, rfl, wpAny_pure h⟩))) htake)
    | exact wpAny_bind (wpAny_bind (m := Builtin.Tuple.tupleExact _) (wpAny_newObj_type (wpAny_pure (wpAny_pure ⟨_, rfl, wpAny_pure h⟩)) htake))
    | exact wpAny_bind (wpAny_bind (m := Builtin.Tuple.tupleExact _) (wpAny_newObj_type (wpAny_pure ⟨_, rfl, wpAny_pure h⟩) htake))
end
def tRevT (K : PySem.W.Frag) (te : TE) : TE := fun σ H Q => te σ H fun x H1 => ∃ a xs, x = .ref a ∧ SqT K H1 a xs ∧ ∀ p ob, H1 p = none → ob.dict = none → Q (.ref p) (upd H1 p (.frz ob (.tup xs.reverse)))
theorem pe_revT {X : Cx} {e : Expr} {te : TE} {k : Nat} {p1 p2 p3 pos : Pos} (he : PE X e te) : PE X (.Subscript e (.Slice none none (some (.UnaryOp .USub (.Constant (.int 1) k p1) p2)) p3) pos) (tRevT X.K te) := by
  refine ⟨fun pins s σ H Q I h => ?_⟩
  refine Subscript_ (thn (he.run pins s σ H _ I h) fun v s1 ⟨x, H1, I1, r1, q1⟩ => ?_)
  obtain ⟨a, xs, ex, hx, q⟩ := q1
  subst ex
  cases r1
  have hst : PO X (some (.UnaryOp .USub (.Constant (.int 1) k p1) p2)) (tPart (tUn (rU fun i => .int (-i)) (tC (.int 1)))) := po_some (pe_un un_neg pe_int)
  refine wpAny_Slice (thn (po_none.run pins s1 σ H1 (fun o H2 => o = none ∧ H2 = H1) I1 ⟨rfl, rfl⟩) fun vl s2 ⟨l, H2, I2, pl, el, e2⟩ => ?_)
  subst el e2
  refine thn (po_none.run pins s2 σ H2 (fun o H3 => o = none ∧ H3 = H2) I2 ⟨rfl, rfl⟩) fun vu s3 ⟨u, H3, I3, pu, eu, e3⟩ => ?_
  subst eu e3
  refine thn (hst.run pins s3 σ H3 (fun o H4 => o = some (-1) ∧ H4 = H3) I3 ⟨1, rfl, -1, rfl, rfl, rfl⟩) fun vs s4 ⟨o, H4, I4, ps, eo, e4⟩ => ?_
  subst eo e4
  have I5 : Inv X pins σ H4 { s4 with heap := s4.heap.push { cls := .type "slice", data := .fields #[vl, vu, vs] } } := I4.kept (t' := s4.toks) fun b ob q => Heap.get?_push_of_some _ q
  obtain ⟨its, r, ht, hz⟩ := I5.tuple hx
  have hlen := r.length
  cases pl
  cases pu
  cases ps
  show wpAny (model X.prog X.w) X.A (subscriptTail e (.Slice none none (some (.UnaryOp .USub (.Constant (.int 1) k p1) p2)) p3) (.ref a) (.ref s4.heap.objs.size)) (EP X pins σ Q) X.xe _
  refine tail_any (ops := [.ref a, .ref s4.heap.objs.size]) ht.typeIs (PyProof.Rows.slot_tuple_getitem.lookup) ?_ (by with_unfolding_all rfl)
  refine getItem_tuple_back ht (Heap.IsSliceOf.new _ _ _ _) ?_ (by rw [List.size_toArray]; omega)
  refine ⟨.ref _, _, I5.laid (t' := s4.toks) (o := .frz { cls := .type "tuple", data := .seq (its.toArray.toList.reverse.toArray) } (.tup xs.reverse)) (fun b ob q => Heap.get?_push_of_some _ q) (Nat.le_refl _) ?_, rfl, q _ _ (I5.hok.fresh (Nat.le_refl _)) rfl⟩
  exact ⟨Heap.get?_push_size _ rfl, by rw [List.length_reverse]; exact hz, _, r.reverse, _, Heap.get?_push_size _ rfl, rfl, _, rfl⟩
section
variable {F : Fm} {C : Cs} {ρ : Rho} {k : Nat} {Φ : Nat → PyData → Prop} {pos ap cp p1 p2 p3 : Pos} {a e : Expr} {jj : Nat}
theorem we_revT (hK : F.K = C.K) (h : WPE F C a ρ k fun k1 x => ∃ ds, x = .tuple ds ∧ Φ k1 (.tuple ds.reverse)) : WPE F C (.Subscript a (.Slice none none (some (.UnaryOp .USub (.Constant (.int 1) jj p1) p2)) p3) pos) ρ k Φ :=
  of_pe (t := tRevT C.K (tE C a)) (fun X fx => by rw [← fx.K]; exact pe_revT (peE fx)) fun σ H Q en j q => by
    show tE C a σ H _
    refine h σ H _ en j fun v d k1 H1 l1 j1 r ⟨ds, e, p⟩ => ?_
    subst e
    cases r with
    | @tup b xs _ hb hr =>
    have rev : ∀ (ds : List PyData) (vs : List V), RpAll F H1 vs ds → RpAll F H1 vs.reverse ds.reverse := fun ds => by
      induction ds with
      | nil => intro vs h; cases h; exact .nil
      | cons d ds ih =>
        intro vs h
        cases h with
        | cons r1 r2 => rw [List.reverse_cons, List.reverse_cons]; exact (ih _ r2).append (.cons r1 .nil)
    exact ⟨b, xs, rfl, hK ▸ sqt_of hb, fun l ob hl hd => q _ _ k1 _ (l1.trans (.new hl)) (j1.new hl) (rep_newT j1 hl hd (rev _ _ hr)) p⟩
end
end Dl

set_option maxHeartbeats 2000000
namespace Dl
open PySem PySem.Spec PyProof.Rows L2
/-! ### x.index(e), x a tuple of ints that is known to have no dict -/
def tTupIx (K : PySem.W.Frag) (to : TE) (t : TA) : TE := fun σ H Q => to σ H fun x H1 => ∃ p xs, x = .ref p ∧ NT H1 p xs ∧ t σ H1 fun vs H2 => rTupIx K x vs H2 Q
theorem pe_tupIx {X : Cx} {o e : Expr} {to : TE} {t : TA} {apos pos : Pos} {pl : Sem Bool} (ho : PE X o to) (ha : PA X [e] t) (hb : backTo pos (starEach [e] X.env) = (false, eval e X.env) :: backTo pos []) (hany : ((backTo pos (starEach [e] X.env)).any fun x => x.fst) = false)
    (hf : eval (.Call (.Attribute o "index" apos) [e] [] pos) X.env = (do
      let ov ← eval o X.env
      standAt apos.atName
      let (f, first) ← holding [ov] (getMethod ov "index" pl)
      callWith pos f first (backTo pos (starEach [e] X.env)) (backToKw pos (keywordEach [] X.env)))) :
    PE X (.Call (.Attribute o "index" apos) [e] [] pos) (tTupIx X.K to t) := ⟨fun pins s σ H Q I h => by
  refine PySem.W.methodCall_KW (pl := pl) (wpAny_mono (ho.run pins s σ H _ I h) (fun u s1 hs => ?_) (fun _ _ z => z)) hf
  obtain ⟨x, H1, I1, rv, p, xs, ex, ⟨ob, hp, hdict⟩, q⟩ := hs
  subst ex
  obtain rfl : u = .ref p := rv
  obtain ⟨hget, _, its, _, ob', hget', hcls, _⟩ := I1.hok p _ hp
  obtain rfl : ob = ob' := Option.some.inj (hget.symm.trans hget')
  refine PySem.getMethod_builtin (T := "tuple") (id := "tuple.index") ⟨ob, hget, hcls⟩ PySem.F.plainAttrs_tuple PySem.F.slot_tuple_index PySem.F.type_tuple_index (fun a ea => by cases ea; exact ⟨ob, hget, hdict⟩) ?_
  refine PySem.Calls.callWith_builtin hany ?_
  rw [hb]
  refine PySem.Calls.evalArgs_plain ?_
  rw [← hb]
  refine wpAny_mono (ha.run pos pins s1 σ H1 _ I1 q) (fun us s2 ⟨vs, H2, I2, r, q2⟩ => ?_) (fun _ _ z => z)
  exact mt_tup_indexI pins s2 σ H2 (.ref p) vs (.ref p) us Q I2 rfl r q2⟩
section
variable {F : Fm} {C : Cs} {ρ : Rho} {k : Nat} {Φ : Nat → PyData → Prop} {pos ap : Pos} {a e : Expr}
theorem we_tupIx {pl : Env → Sem Bool} (hK : F.K = C.K) (h : WPE F C a ρ k fun k1 x => ∃ ys : List Int, x = .tuple (ys.map PyData.int) ∧ WPE F C e ρ k1 fun k2 y => ∃ (z : Int) (j : Nat), y = .int z ∧ ys[j]? = some z ∧ (∀ m, m < j → ys[m]? ≠ some z) ∧ Φ k2 (.int (j : Int)))
    (hse : ∀ env : Env, starEach [e] env = (false, eval e env) :: starEach [] env := by intro _; rfl) (hb : ∀ env : Env, backTo pos (starEach [e] env) = (false, eval e env) :: backTo pos [] := by intro _; rfl) (hany : ∀ env : Env, ((backTo pos (starEach [e] env)).any fun x => x.fst) = false := by intro _; rfl)
    (hf : ∀ env : Env, eval (.Call (.Attribute a "index" ap) [e] [] pos) env = (do
      let ov ← eval a env
      standAt ap.atName
      let (f, first) ← holding [ov] (getMethod ov "index" (pl env))
      callWith pos f first (backTo pos (starEach [e] env)) (backToKw pos (keywordEach [] env))) := by intro _; rfl) :
    WPE F C (.Call (.Attribute a "index" ap) [e] [] pos) ρ k Φ :=
  of_pe (t := tTupIx C.K (tE C a) (tCons (tE C e) tNil)) (fun X fx => by rw [← fx.K]; exact pe_tupIx (pl := pl X.env) (peE fx) (pa_cons (peE fx) pa_nil (hse X.env)) (hb X.env) (hany X.env) (hf X.env)) fun σ H Q en j q => by
    show tE C a σ H _
    refine h σ H _ en j fun v d k1 H1 l1 j1 r ⟨ys, ed, hx⟩ => ?_
    subst ed
    cases r with
    | @tup b xs ds hbn hr =>
      refine ⟨b, xs, rfl, hbn.1, ?_⟩
      show tE C e σ H1 _
      refine hx σ H1 _ (en.le l1) j1 fun vy y k2 H2 l2 j2 r2 ⟨z, jj, e2, hy, hno, p⟩ => ?_
      subst e2
      cases r2
      have ex : xs = ys.map V.int := hr.ints
      subst ex
      have hn2 := hbn.1.lz hbn.2 l2.lz
      exact ⟨b, ys, z, jj, rfl, rfl, hK ▸ sqt_of ⟨hn2, hbn.2⟩, hy, hno, q _ _ k2 H2 (l1.trans l2) j2 (.int _) p⟩
end
end Dl

namespace Dl
open PySem PySem.Spec PyProof.Rows L2
/-! ### enumerate over a tuple -/
abbrev et1 (h : Heap) (t : Addr) : Heap := h.push { cls := .type "tuple_iterator", data := .fields #[.ref t, .int 0 0] }
abbrev et2 (h : Heap) (t : Addr) : Heap := (et1 h t).push { cls := .type "enumerate", data := .fields #[.none, .bool false, .ref h.objs.size, rawInt 0, .none, .none] }
set_option maxHeartbeats 1000000 in
theorem meets_et (t : Addr) (xs : Array Value) : Meets (Builtin.«enumerate.__new__» ⟨[.type "enumerate", .ref t], []⟩)
    (fun _ R s => s.heap.IsTuple t xs ∧ R (.ok (.ret (.ref (et1 s.heap t).objs.size))) { s with heap := et2 s.heap t }) :=
  .of_wp fun prog w A R s q => by
    obtain ⟨hp, g, d, tk, os⟩ := s; obtain ⟨q1, q⟩ := q
    have hsub := sub_enumerate
    have T1 : Heap.IsTuple (Shared.heap ⟨hp, g, d, tk, os⟩) t xs := q1
    obtain ⟨o, ho, hc, n, hd⟩ := id q1
    obtain ⟨c0, dct, dt, sl⟩ := o
    replace hc : c0 = .type "tuple" := hc
    replace hd : dt = .seq xs n := hd
    subst hc hd
    wp_walk using AutoSeq1.wpAny_loadPart' ho
    refine wpAny_stack_any (fun sk => wpAny_pure ?_)
    split
    · rename_i c _ _ _ _ _
      cases (c == Value.type "enumerate") <;> (wp_walk using AutoSeq1.wpAny_loadPart' ho, wpAny_pyIter_tuple T1) <;> exact ⟨_, rfl, q⟩
    · wp_walk using AutoSeq1.wpAny_loadPart' ho, wpAny_pyIter_tuple T1
      exact ⟨_, rfl, q⟩
section
variable {prog : Program} {w : World} {A : Around} {E : Value → Shared → Prop} {s : Shared}
theorem call_et {t : Addr} {xs : Array Value} {Q : Value → Shared → Prop} (q1 : s.heap.IsTuple t xs)
    (q : IsEnum (et2 s.heap t) (s.heap.objs.size + 1) s.heap.objs.size 0 .none → (et2 s.heap t).IsTupleIter s.heap.objs.size t 0 → (∀ c o, s.heap.get? c = some o → (et2 s.heap t).get? c = some o) → Q (.ref (s.heap.objs.size + 1)) { s with heap := et2 s.heap t }) :
    wpAny (model prog w) A (call (.type "enumerate") [.ref t]) Q E s := by
  refine callType_new F.called_enumerate (by decide) (F.typeCall_enumerate_1 _) (F.newCall_enumerate_1 _) (fun obj => F.args_object_init_2 obj _) F.entry_enumerate_new (meets_et t xs) ⟨q1, ?_⟩
  have n1 : (et1 s.heap t).objs.size = s.heap.objs.size + 1 := Heap.size_push ..
  have m2 : (et2 s.heap t).get? (et1 s.heap t).objs.size = some _ := Heap.get?_push_size _ rfl
  have m1 : (et2 s.heap t).get? s.heap.objs.size = some _ := Heap.get?_push_of_some _ (Heap.get?_push_size _ rfl)
  rw [n1] at m2
  show _ ∧ _
  rw [n1]
  exact ⟨⟨_, m2, rfl⟩, q m2 ⟨_, m1, rfl, rfl⟩ fun c o e => Heap.get?_push_of_some _ (Heap.get?_push_of_some _ e)⟩
end
def Itet (K : PySem.W.Frag) (a : Addr) : It :=
  ⟨fun i H => ∃ (xs : List V) (x : V), SqT K H a xs ∧ xs[i]? = some x, fun i H v H' => ∃ t x, v = .ref t ∧ H t = none ∧ H' = upd H t (.tup [.int (i : Nat), x]) ∧ ∀ xs, SqT K H a xs → xs[i]? = some x, fun i H => ∃ xs : List V, SqT K H a xs ∧ xs.length = i⟩
theorem turn_et {P : Program} {w : World} {K : PySem.W.Frag} {elts : List Expr} {kk : Nat} {tpos : Pos} (a e it : Addr) (hae : a ≠ e) (hai : a ≠ it) (hei : e ≠ it) :
    Turn P w K (.Tuple elts kk tpos) (Itet K a) [e, it] e (fun i h => (∃ old, IsEnum h e it ((i : Nat) : Int) old) ∧ h.IsTupleIter it a i) where
  mem := by simp
  obj := fun i h st c hc => by
    obtain ⟨⟨old, he⟩, ⟨o, ho, _, hd⟩⟩ := st
    have two : c = e ∨ c = it := by simpa using hc
    rcases two with rfl | rfl
    · exact ⟨_, he, fun v q => nomatch q⟩
    · exact ⟨o, ho, fun v q => by rw [hd] at q; cases q⟩
  keep := fun i h h' st k => by
    obtain ⟨⟨old, he⟩, wt⟩ := st
    exact ⟨⟨old, k e (by simp) _ he⟩, wt.at fun o q => k it (by simp) o q⟩
  item := by
    intro X hP hw hK hc i pins s σ H E I hf st hg
    subst hP hw hK
    obtain ⟨⟨old, he⟩, wt⟩ := st
    obtain ⟨xs, x, sq, hx⟩ := hg
    obtain ⟨its, rv, p, _⟩ := I.tuple sq
    obtain ⟨u, hu, ru⟩ := rv.get hx
    have elt : e < s.heap.objs.size := Heap.lt_size he
    have ilt : it < s.heap.objs.size := by obtain ⟨o, q, _⟩ := wt; exact Heap.lt_size q
    have hi : i < its.toArray.size := by
      have := (List.getElem?_eq_some_iff.mp hu).1
      simpa using this
    have D := Draws.tuple (prog := X.prog) (w := X.w) (A := X.A.in1) (I.ok.hd hc) it a hai its.toArray
    refine wpAny_pyNext_enum_itemD D he ⟨wt, p⟩ hi hei (by simp [hei, Ne.symm hae]) fun y h1 tk hy ho st1 hT hsz hk => ?_
    have ey : y = u := by
      have h2 : its.toArray[i]? = some u := by simpa using hu
      exact Option.some.inj (hy.symm.trans h2)
    subst ey
    refine ⟨_, rfl, wpAny_letOwnedTupleGo_enum (s := { s with heap := h1, toks := tk + 1 }) ho fun h2 he2 sb => ?_⟩
    have hT2 : h2.get? s.heap.objs.size = some { cls := .type "tuple", data := .seq #[.int i tk, y] } := (sb.2 _ (Nat.ne_of_gt elt)).trans hT
    have okn : ObjOk X.prog X.w (upd H s.heap.objs.size (.tup [.int (i : Nat), x])) h2 s.heap.objs.size (.tup [.int (i : Nat), x]) :=
      ⟨by show 2 ≤ sizeLine; decide, [.int i tk, y], .cons ⟨_, rfl⟩ (.cons ru .nil), ⟨_, hT2, rfl, _, rfl⟩⟩
    have V1 : Inv X pins σ (upd H s.heap.objs.size (.tup [.int (i : Nat), x])) { s with heap := h2, toks := tk + 1 } :=
      I.turnedNew (ch := [e, it]) (fun c o nb g => (sb.2 c fun q => nb (by simp [q])).trans (hk c o (fun q => nb (by simp [q])) (fun q => nb (by simp [q])) g)) hf (Nat.le_refl _) okn
    refine ⟨.ref s.heap.objs.size, _, V1, rfl, ⟨_, x, rfl, I.hok.fresh (Nat.le_refl _), rfl, fun ys hy => by rw [I.tuple_inj hy sq]; exact hx⟩, ⟨⟨y, ?_⟩, st1.1.at fun o q => (sb.2 it (Ne.symm hei)).trans q⟩, fun c hcm => ?_⟩
    · have eI : ((i + 1 : Nat) : Int) = (i : Int) + 1 := by omega
      rw [eI]; exact he2
    · have clt : c < s.heap.objs.size := by
        have two : c = e ∨ c = it := by simpa using hcm
        rcases two with rfl | rfl <;> assumption
      rw [upd_ne (Nat.ne_of_lt clt)]
      exact (hf c hcm).1
  done := by
    intro X hP hw hK hc i pins s σ H E I hf st hg
    subst hP hw hK
    obtain ⟨⟨old, he⟩, wt⟩ := st
    obtain ⟨xs, sq, hx⟩ := hg
    obtain ⟨its, rv, p, _⟩ := I.tuple sq
    obtain ⟨f0, f1, f2, f3, f4, f5⟩ := hf it (by simp)
    have hl := rv.length
    have ei : i = its.toArray.size := by rw [← hx, hl]; simp
    have D := Draws.tuple (prog := X.prog) (w := X.w) (A := X.A.in1) (I.ok.hd hc) it a hai its.toArray
    exact wpAny_pyNext_enum_endD D he ⟨ei ▸ wt, p⟩ fun h' eb => ⟨rfl, I.turned (t' := s.toks) (fun b o hb q => eb b o hb q) f0 f1 f3 f4 f5⟩
  self := fun A i s Q E st h => let ⟨⟨_, he⟩, _⟩ := st; wpAny_pyIter_enum he h
def iEt (K : PySem.W.Frag) (ta : TA) : TI := fun σ H R => ta σ H fun vs H1 => ∃ a xs, vs = [.ref a] ∧ SqT K H1 a xs ∧ R (Itet K a) H1
theorem pi_et {X : Cx} {e : Expr} {ta : TA} {p pos tpos : Pos} {elts : List Expr} {kk : Nat} (hg : Gl X "enumerate") (hm : X.mg "enumerate" = none) (ha : PA X [e] ta) (hs : starEach [e] X.env = [(false, eval e X.env)]) :
    PI X (.Tuple elts kk tpos) (.Call (.Name "enumerate" p) [e] [] pos) (iEt X.K ta) := by
  refine ⟨fun pins s σ H R I h => Call_ (ld_blt I hg hm boot_enumerate (PyProof.Rows.callWith_type1 (thn (ha.run pos pins s σ H _ I h) fun us s1 ⟨vs, H1, I1, r1, q1⟩ => ?_) hs rfl))⟩
  obtain ⟨a, xs, rfl, sq, q⟩ := q1
  cases r1 with
  | cons ra rr =>
  cases rr
  cases ra
  obtain ⟨vx, rx, lx, _⟩ := I1.tuple sq
  have lta : a < s1.heap.objs.size := by obtain ⟨o, q, _⟩ := lx; exact Heap.lt_size q
  refine call_et lx fun pe wt kp => wpAny_pyIter_enum pe ?_
  have V2 : Inv X pins σ H1 { s1 with heap := et2 s1.heap a } := I1.kept (t' := s1.toks) kp
  refine ⟨s1.heap.objs.size + 1, [s1.heap.objs.size + 1, s1.heap.objs.size], _, _, H1, rfl, V2, turn_et a (s1.heap.objs.size + 1) s1.heap.objs.size (Nat.ne_of_lt (Nat.lt_succ_of_lt lta)) (Nat.ne_of_lt lta) (Nat.succ_ne_self _), ⟨⟨.none, pe⟩, wt⟩, fun c hcm => ?_, q⟩
  have two : c = s1.heap.objs.size + 1 ∨ c = s1.heap.objs.size := by simpa using hcm
  have ge : s1.heap.objs.size ≤ c := by rcases two with z | z <;> rw [z] <;> first | exact Nat.le_add_right _ _ | exact Nat.le_refl _
  exact I1.fpOk ge (I1.hok.fresh ge)
section
variable {F : Fm} {C : Cs} {ρ : Rho} {k : Nat} {P : DE} {pos p p1 p2 tp : Pos} {a : Expr} {x1 x2 : Str} {kk : Nat} {body : List Stmt}
/-- for x1, x2 in enumerate(a tuple) -/
theorem ws_for_et (i1 i2 : Nat) (t1 : Tgt C i1 x1) (t2 : Tgt C i2 x2) (hK : F.K = C.K) (hg : C.sc.names.lookup ("enumerate" : Str) = some .globalImplicit) (hm : C.mg ("enumerate" : Str) = none)
    (hse : ∀ env : Env, starEach [a] env = [(false, eval a env)]) (hfs : ∀ (env : Env) (v : Value), foldedSetIterable (.Call (.Name "enumerate" p) [a] [] pos) env v = pure v)
    (h : WPE F C a ρ k fun k2 d => ∃ (I : Nat → Nat → Rho → Prop) (ds : List PyData), d = .tuple ds ∧ I 0 k2 ρ ∧
      (∀ (j : Nat) (y : PyData) k' ρ', ds[j]? = some y → I j k' ρ' → WPB F C body ((ρ'.set i1 (.d (.int (j : Int)))).set i2 (.d y)) k' (P.loop (I (j + 1)))) ∧ (∀ k' ρ', I ds.length k' ρ' → P.nx k' ρ')) :
    WPS F C (.For (.Tuple [.Name x1 p1, .Name x2 p2] kk tp) (.Call (.Name "enumerate" p) [a] [] pos) body [] pos) ρ k P :=
  of_ps (t := tFor (iEt C.K (tCons (tE C a) tNil)) (gTup C.K 2 (gCons (gName i1) (gCons (gName i2) gNil))) (tB C body)) (fun X fx => ps_for (by rw [fx.xe]; exact PassesOwn.never) fx.calm
      (by rw [← fx.K]; exact pi_et (by show X.env.scope.names.lookup ("enumerate" : Str) = _; rw [fx.sc]; exact hg) (by rw [fx.mg]; exact hm) (pa_cons (peE fx) pa_nil (hse X.env)) (hse X.env))
      (pgTup (n := 2) fx (pgs_cons (t1.pg fx) (pgs_cons (t2.pg fx) pgs_nil)) (by rfl) (by rfl)) (pbB fx) (hfs X.env)) fun σ H E en j q1 q2 q3 q4 => by
    show tE C a σ H _
    refine h σ H _ en j fun va da k2 H2 l2 j2 ra hh => ?_
    obtain ⟨I, ds, e1, i0, hstep, hend⟩ := hh
    subst e1
    cases ra with
    | @tup pa xs _ ha hra =>
    refine ⟨pa, xs, rfl, hK ▸ sqt_of ha, ?_⟩
    have nx : xs.length = ds.length := hra.length
    refine ⟨fun n m σ' H' => m + n = xs.length ∧ ∃ k' ρ', EnvOk F H' σ' ρ' ∧ J F k' H' ∧ Lz F H2 H' ∧ I n k' ρ', ⟨xs.length, by omega, k2, ρ, en.le l2, j2, .refl, i0⟩, ?_⟩
    rintro n m σ' H' ⟨hm', k', ρ', en', j', lz, ii⟩
    have sqa : SqT C.K H' pa xs := hK ▸ sqt_of (K := F.K) (⟨ha.1.lz ha.2 lz, ha.2⟩ : NT H' pa xs ∧ ¬ F.S pa)
    by_cases over : n = xs.length
    · exact .inl ⟨⟨xs, sqa, over.symm⟩, q1 ρ' σ' k' H' (l2.lz.trans lz) en' j' (hend k' ρ' (by rw [← nx, ← over]; exact ii))⟩
    · have lt1 : n < xs.length := by omega
      refine .inr ⟨⟨xs, xs[n], sqa, List.getElem?_eq_getElem lt1⟩, fun σ2 H2' => ∃ k' ρ', EnvOk F H2' σ2 ρ' ∧ J F k' H2' ∧ Lz F H2 H2' ∧ I (n + 1) k' ρ', fun σ2 H2' w => ⟨m - 1, by omega, by omega, w⟩, ?_⟩
      rintro v H3 ⟨t, x, rfl, ht, rfl, fx1⟩
      obtain ⟨dx, hdx, rdx⟩ := hra.got (fx1 xs sqa)
      have lnew : Le F H' (upd H' t (.tup [.int (n : Nat), x])) := .new ht
      have rx2 := (rdx.le lz).le lnew.lz
      refine ⟨t, [.int (n : Nat), x], rfl, .inl (.inl upd_same), rfl, .int (n : Nat), [x], rfl, x, [], rfl, rfl, ?_⟩
      refine hstep n dx k' ρ' hdx ii _ _ _ (((en'.le lnew).set (sv := .d (.int (n : Int))) ⟨_, rfl, .int _⟩).set (sv := .d dx) ⟨_, rfl, rx2⟩) (j'.new ht) ?_ q2 ?_ ?_
      · exact fun ρ2 σ2 k2' H2' l2' e2 j2' p => ⟨k2', ρ2, e2, j2', (lz.trans lnew.lz).trans l2', p⟩
      · exact fun ρ2 σ2 k2' H2' l2' e2 j2' p => q1 ρ2 σ2 k2' H2' (l2.lz.trans ((lz.trans lnew.lz).trans l2')) e2 j2' p
      · exact fun ρ2 σ2 k2' H2' l2' e2 j2' p => ⟨k2', ρ2, e2, j2', (lz.trans lnew.lz).trans l2', p⟩
end
end Dl

namespace Dl
open PySem PySem.Spec PyProof.Rows L2
section
variable {F : Fm} {C : Cs} {ρ : Rho} {k : Nat} {Φ : Nat → PyData → Prop} {pos : Pos} {elt e c : Expr} {scope : Scope} {x x1 : Str} {px px1 p3 pr pr2 : Pos} {kk : Nat}
theorem pi2_et {H1 : Hp} {a : Addr} {xs : List V} {ds : List PyData} (ha : NT H1 a xs ∧ ¬ F.S a) (hr : RpAll F H1 xs ds) : PI2 F (Itet F.K a) H1 (enD 0 ds) where
  go := fun D hD n d hd => by
    rw [enD_get, Option.map_eq_some_iff] at hd
    obtain ⟨y, hy, rfl⟩ := hd
    have rr : Rp (F.ext D) (upd H1 D (.lst [])) (.ref a) (.tuple ds) := Rep.ext (.tup ha hr) hD
    cases rr with
    | @tup _ xs' _ ha' hr' =>
    have hn : n < xs'.length := by rw [hr'.length]; exact (List.getElem?_eq_some_iff.mp hy).1
    obtain ⟨y', hy', ry'⟩ := hr'.got (List.getElem?_eq_getElem hn)
    rw [hy] at hy'
    cases hy'
    refine ⟨.int ((0 + n : Nat) : Int), xs'[n], .int _, ry', fun H' lz => ?_⟩
    have sq : SqT F.K H' a xs' := sqt_of (S := (F.ext D).S) ⟨ha'.1.lz ha'.2 (lz), ha'.2⟩
    refine ⟨⟨xs', xs'[n], sq, List.getElem?_eq_getElem hn⟩, ?_⟩
    rintro v H'' ⟨T, x, rfl, hT, rfl, hx⟩
    have := hx xs' sq
    rw [List.getElem?_eq_getElem hn] at this
    cases this
    exact ⟨T, rfl, hT, by rw [Nat.zero_add]⟩
  stop := fun D hD H' lz => by
    have rr : Rp (F.ext D) (upd H1 D (.lst [])) (.ref a) (.tuple ds) := Rep.ext (.tup ha hr) hD
    cases rr with
    | @tup _ xs' _ ha' hr' =>
    have sq : SqT F.K H' a xs' := sqt_of (S := (F.ext D).S) ⟨ha'.1.lz ha'.2 (lz), ha'.2⟩
    exact ⟨xs', sq, by rw [enD_len, hr'.length]⟩
/-- [elt for x, x1 in enumerate(e) if c], e a tuple -/
theorem we_compEt1 (i i1 : Nat) (hne : i ≠ i1) (b : Blk2 C scope i x i1 x1) (hK : F.K = C.K) (hg : C.sc.names.lookup ("enumerate" : Str) = some .globalImplicit) (hm : C.mg ("enumerate" : Str) = none)
    (hse : ∀ env : Env, starEach [e] env = [(false, eval e env)]) (hs : ∀ (env : Env) (v : Value), foldedSetIterable (.Call (.Name "enumerate" pr) [e] [] pr2) env v = pure v)
    (h : WPE F C e ρ k fun k1 d => ∃ (I : Nat → Nat → List PyData → Prop) (ds : List PyData), d = .tuple ds ∧ ds.length ≤ 1000000 ∧ I 0 k1 [] ∧ (∀ D (j : Nat) (y : PyData) k' acc, ds[j]? = some y → I j k' acc → WPT (F.ext D) (C.blk scope) c ((ρ.set i (.d (.int (j : Int)))).set i1 (.d y)) k' fun k1 z => if z = true then WPE (F.ext D) (C.blk scope) elt ((ρ.set i (.d (.int (j : Int)))).set i1 (.d y)) k1 fun k2 u => I (j + 1) k2 (acc ++ [u]) else I (j + 1) k1 acc) ∧ (∀ k' acc, I ds.length k' acc → Φ k' (.list acc))) :
    WPE F C (.ListComp elt [⟨.Tuple [.Name x px, .Name x1 px1] kk p3, .Call (.Name "enumerate" pr) [e] [] pr2, [c], 0⟩] scope pos) ρ k Φ :=
  of_pe (fun X fx => pe_lc (own := [(x, i), (x1, i1)]) (wi := iEt C.K (tCons (tE C e) tNil)) fx.calm (by rw [fx.N]; exact b.t.hN) (by rw [← fx.K]; exact pi_et (by show X.env.scope.names.lookup ("enumerate" : Str) = _; rw [fx.sc]; exact hg) (by rw [fx.mg]; exact hm) (pa_cons (peE fx) pa_nil (hse X.env)) (hse X.env)) (by rw [fx.N, fx.sc]; exact b.ok) (fun s H a cl fp => pgTup (n := 2) (fx.blk s H scope a cl fp) (pgs_cons (b.t.pg (fx.blk s H scope a cl fp)) (pgs_cons (b.t1.pg (fx.blk s H scope a cl fp)) pgs_nil)) (by rfl) (by rfl)) (fun s H a cl fp => pts_one (ptT (fx.blk s H scope a cl fp))) (fun s H a cl fp => peE (fx.blk s H scope a cl fp)) (hs X.env))
    (we_lcG i i1 hne hK fun σ H R en j q => by
      show tE C e σ H _
      refine h σ H _ en j fun v d k1 H1 l1 j1 r ⟨I, ds, e, hz, i0, hstep, hend⟩ => ?_
      subst e
      cases r with
      | @tup a xs _ ha hr =>
      refine ⟨a, xs, rfl, hK ▸ sqt_of ha, ?_⟩
      rw [← hK]
      refine q _ k1 H1 (enD 0 ds) l1 j1 (pi2_et ha hr) ⟨I, by rw [enD_len]; exact hz, i0, ?_, ?_⟩
      · intro D n d k' acc hd ii
        rw [enD_get, Option.map_eq_some_iff] at hd
        obtain ⟨y, hy, rfl⟩ := hd
        rw [Nat.zero_add]
        exact hstep D n y k' acc hy ii
      · intro k' acc ii
        rw [enD_len] at ii
        exact hend k' acc ii)
end
end Dl

namespace Dl
open PySem PySem.Spec PyProof.Rows L2
/-! ### a comprehension of two clauses, over two tuples -/
section
variable {F : Fm} {C : Cs} {ρ : Rho} {k : Nat} {Φ : Nat → PyData → Prop} {α β : Type} {Cb : Cs} {iter1 elt : Expr} {tl : TE} {K : PySem.W.Frag}
theorem we_lc2T (ei : α → PyData) (ej : β → PyData) (bs : α → List β) (g : α → β → PyData) (B : Nat) (i i1 : Nat) (hne : i ≠ i1) (hK : F.K = K)
    (h : WE F tl ρ k fun k1 d => ∃ as : List α, d = .tuple (as.map ei) ∧ as.length * B ≤ 1000000 ∧ (∀ a ∈ as, (bs a).length ≤ B) ∧
      (∀ D (a : α), a ∈ as → WPE (F.ext D) Cb iter1 ((ρ.set i1 .un).set i (.d (ei a))) k1 (fun k2 d2 => k2 = k1 ∧ d2 = .tuple ((bs a).map ej)) ∧
        ∀ b ∈ bs a, WPE (F.ext D) Cb elt (((ρ.set i1 .un).set i (.d (ei a))).set i1 (.d (ej b))) k1 fun k3 y => k3 = k1 ∧ y = g a b) ∧ Φ k1 (.list (as.flatMap fun a => (bs a).map (g a)))) :
    WE F (tLc2 (iTup K tl) (gName i) tYes (iTup K (tE Cb iter1)) (gName i1) tYes (tE Cb elt) [i, i1] [i1]) ρ k Φ := fun σ H Q en j q => by
  show tl σ H _
  refine h σ H _ en j fun v d k1 H1 l1 j1 r hh => ?_
  obtain ⟨as, e, hz, hB, hin, hfin⟩ := hh
  subst e
  cases r with
  | @tup a xs _ ha hr =>
  refine ⟨a, rfl, ⟨xs, hK ▸ sqt_of ha⟩, fun D hD => ?_⟩
  have en1 := en.le l1
  have hM : ¬ F.M D := fun z => F.gl _ _ j1.g D z hD
  have hS : ¬ F.S D := j1.fresh hD
  have h0 : F.H0 D = none := j1.h0 hM hD
  have hno : ∀ (i : Nat) o xs, ρ[i]? = some (SV.own o xs) → o ≠ D := fun i o xs e => by
    obtain ⟨x, _, s⟩ := en1 i _ e
    obtain ⟨_, _, _, _, vs, h1, _⟩ := s
    exact ne_of_none h1 hD
  have rr : Rp (F.ext D) (upd H1 D (.lst [])) (.ref a) (.tuple (as.map ei)) := Rep.ext (.tup ha hr) hD
  cases rr with
  | @tup _ xs' _ ha' hr' =>
  have hlen : xs'.length = as.length := by rw [hr'.length, List.length_map]
  have bound : ∀ n, n ≤ as.length → ((as.take n).flatMap fun a => (bs a).map (g a)).length ≤ n * B := by
    intro n
    induction n with
    | zero => intro _; simp
    | succ n ih =>
      intro hn
      have hx : as[n]? = some as[n] := List.getElem?_eq_getElem (by omega)
      rw [take_next hx, List.flatMap_append, List.length_append, List.flatMap_singleton, List.length_map]
      have h1 := ih (by omega)
      have h2 := hB as[n] (List.getElem_mem _)
      rw [Nat.succ_mul]; omega
  refine ⟨fun n m H' => m = xs'.length - n ∧ n ≤ xs'.length ∧ ∃ vs, EnvOk (F.ext D) H' σ ρ ∧ J (F.ext D) k1 H' ∧ LeD (F.ext D) D (upd H1 D (.lst [])) H' ∧ H' D = some (.lst vs) ∧ RpAll (F.ext D) H' vs ((as.take n).flatMap fun a => (bs a).map (g a)),
    ⟨xs'.length, by simp, Nat.zero_le _, [], en1.ext hD, (j1.new hD).ext (lv_new fun _ z => nomatch z), .refl, upd_same, .nil⟩, ?_⟩
  rintro n m H' ⟨rfl, hn, vs, en', j', ld, hd, ra⟩
  have sq : SqT K H' a xs' := hK ▸ sqt_of (K := F.K) (H := H') (S := (F.ext D).S) ⟨ha'.1.lz ha'.2 (ld.lz (.inr rfl)), ha'.2⟩
  by_cases hlt : n < xs'.length
  · refine .inr ⟨⟨xs', xs'[n], sq, by simp [hlt]⟩, fun H2 => ∃ vs, EnvOk (F.ext D) H2 σ ρ ∧ J (F.ext D) k1 H2 ∧ LeD (F.ext D) D (upd H1 D (.lst [])) H2 ∧ H2 D = some (.lst vs) ∧ RpAll (F.ext D) H2 vs ((as.take (n + 1)).flatMap fun a => (bs a).map (g a)), fun H2 p => ⟨xs'.length - (n + 1), by omega, rfl, hlt, p⟩, fun x H2 y => ?_⟩
    obtain ⟨e, y⟩ := y
    subst e
    obtain ⟨y0, hy0, ry⟩ := hr'.got (y xs' sq)
    rw [List.getElem?_map] at hy0
    cases hc : as[n]? with
    | none => rw [hc] at hy0; cases hy0
    | some a0 =>
    rw [hc] at hy0
    cases hy0
    obtain ⟨hit, hel⟩ := hin D a0 (List.mem_of_getElem? hc)
    show (wipe ((wipe σ [i, i1]).set i (some x)) [i, i1] = wipe σ [i, i1] ∧ _)
    rw [wipe2 hne]
    refine ⟨wipe2' hne σ, ?_⟩
    dsimp only [tYes]
    rw [if_pos rfl]
    have en2 : EnvOk (F.ext D) H2 ((σ.set i1 none).set i (some x)) ((ρ.set i1 .un).set i (.d (ei a0))) := (en'.set (sv := .un) trivial).set (sv := .d (ei a0)) ⟨x, rfl, ry.le (ld.lz (.inr rfl))⟩
    show tE Cb iter1 _ H2 _
    refine hit _ H2 _ en2 j' fun v1 d1 k3 H3 l3 j3 r3 ⟨ek, ed⟩ => ?_
    subst ek ed
    cases r3 with
    | @tup a1 ys _ ha1 hr1 =>
    refine ⟨a1, rfl, ⟨ys, hK ▸ sqt_of (K := F.K) ha1⟩, ?_⟩
    have hlen1 : ys.length = (bs a0).length := by rw [hr1.length, List.length_map]
    refine ⟨fun m mm H' => mm = ys.length - m ∧ m ≤ ys.length ∧ ∃ vs2, EnvOk (F.ext D) H' ((σ.set i1 none).set i (some x)) ((ρ.set i1 .un).set i (.d (ei a0))) ∧ J (F.ext D) k3 H' ∧ LeD (F.ext D) D H3 H' ∧ H' D = some (.lst vs2) ∧ RpAll (F.ext D) H' vs2 (((as.take n).flatMap fun a => (bs a).map (g a)) ++ ((bs a0).take m).map (g a0)),
      ⟨ys.length, by simp, Nat.zero_le _, vs, en2.le l3, j3, .refl, l3 D _ (Fm.mxA hM) hd, by rw [List.take_zero, List.map_nil, List.append_nil]; exact ra.le l3.lz⟩, ?_⟩
    rintro m mm H5 ⟨rfl, hm, vs2, en5, j5, ld5, hd5, ra5⟩
    have sq1 : SqT K H5 a1 ys := hK ▸ sqt_of (K := F.K) (S := (F.ext D).S) ⟨ha1.1.lz ha1.2 (ld5.lz (.inr rfl)), ha1.2⟩
    by_cases hlt1 : m < ys.length
    · refine .inr ⟨⟨ys, ys[m], sq1, by simp [hlt1]⟩, fun H6 => ∃ vs2, EnvOk (F.ext D) H6 ((σ.set i1 none).set i (some x)) ((ρ.set i1 .un).set i (.d (ei a0))) ∧ J (F.ext D) k3 H6 ∧ LeD (F.ext D) D H3 H6 ∧ H6 D = some (.lst vs2) ∧ RpAll (F.ext D) H6 vs2 (((as.take n).flatMap fun a => (bs a).map (g a)) ++ ((bs a0).take (m + 1)).map (g a0)), fun H6 p => ⟨ys.length - (m + 1), by omega, rfl, hlt1, p⟩, fun z H6 y1 => ?_⟩
      obtain ⟨e1, y1⟩ := y1
      subst e1
      obtain ⟨z0, hz0, rz⟩ := hr1.got (y1 ys sq1)
      rw [List.getElem?_map] at hz0
      cases hc1 : (bs a0)[m]? with
      | none => rw [hc1] at hz0; cases hz0
      | some b0 =>
      rw [hc1] at hz0
      cases hz0
      show (wipe ((wipe ((σ.set i1 none).set i (some x)) [i1]).set i1 (some z)) [i1] = wipe ((σ.set i1 none).set i (some x)) [i1] ∧ _)
      rw [set_wipe]
      refine ⟨wipe_set _, ?_⟩
      dsimp only [tYes]
      rw [if_pos rfl]
      have en6 := en5.set (i := i1) (sv := .d (ej b0)) (x := some z) ⟨z, rfl, rz.le (ld5.lz (.inr rfl))⟩
      show tE Cb elt _ H6 _
      refine hel b0 (List.mem_of_getElem? hc1) _ H6 _ en6 j5 fun v6 d6 k6 H7 l7 j7 r7 ⟨ek6, ed6⟩ => ?_
      subst ek6 ed6
      have hd7 : H7 D = some (.lst vs2) := l7 D _ (Fm.mxA hM) hd5
      have lz7 : Lz (F.ext D) H7 (upd H7 D (.lst (vs2 ++ [v6]))) := fun b o nn e => by rw [upd_ne (show b ≠ D from fun z => nn (.inl (.inr z)))]; exact e
      have hN : n < as.length := (List.getElem?_eq_some_iff.mp hc).1
      refine ⟨vs2, hd7, ?_, vs2 ++ [v6], ?_, j7.own hM h0 (pl_lst hd7), ?_, upd_same, ?_⟩
      · rw [ra5.length, List.length_append, List.length_map]
        have h1 := bound n (by omega)
        have h2 := hB a0 (List.mem_of_getElem? hc)
        have h3 := List.length_take_le m (bs a0)
        have h4 : (n + 1) * B ≤ as.length * B := Nat.mul_le_mul_right B (by omega)
        rw [Nat.succ_mul] at h4
        have h5 : m < (bs a0).length := by omega
        have h6 : ((bs a0).take m).length = m := by rw [List.length_take]; omega
        exact Nat.lt_of_lt_of_le (show _ < 1000001 by omega) (by decide)
      · refine (en5.le l7).ld (D := D) (fun b o _ nb e => by rw [upd_ne nb]; exact e) (.inr rfl) (fun ii o xs e => ?_)
        have : ∃ (ii' : Nat) (xs' : List PyData), ρ[ii']? = some (SV.own o xs') := by
          by_cases hi : i = ii
          · subst hi
            by_cases hl : i < (ρ.set i1 .un).length
            · rw [List.getElem?_set_self hl] at e; cases e
            · rw [List.getElem?_eq_none (by simpa using hl)] at e; cases e
          · rw [List.getElem?_set_ne hi] at e
            by_cases hi1 : i1 = ii
            · subst hi1
              by_cases hl : i1 < ρ.length
              · rw [List.getElem?_set_self hl] at e; cases e
              · rw [List.getElem?_eq_none (by simpa using hl)] at e; cases e
            · rw [List.getElem?_set_ne hi1] at e
              exact ⟨_, _, e⟩
        obtain ⟨ii', xs2, e'⟩ := this
        exact hno _ _ _ e'
      · exact fun b o nn nb e => by rw [upd_ne nb]; exact l7 b o nn (ld5 b o nn nb e)
      · rw [take_next hc1, List.map_append, ← List.append_assoc]
        exact ((ra5.le l7.lz).le lz7).append (.cons (r7.le lz7) .nil)
    · have em : m = ys.length := by omega
      refine .inl ⟨⟨ys, sq1, by omega⟩, vs2, ?_, j5, ld.trans (l3.ld.trans ld5), hd5, ?_⟩
      · exact (en'.le l3).ld ld5 (.inr rfl) hno
      · rw [take_next hc, List.flatMap_append, List.flatMap_singleton]
        rw [em, hlen1, List.take_length] at ra5
        exact ra5
  · have en0 : n = xs'.length := by omega
    refine .inl ⟨⟨xs', sq, by omega⟩, ?_⟩
    rw [en0, hlen, List.take_length] at ra
    refine q (.ref D) _ k1 H' ?_ j'.unext (.lst ⟨hd, hS⟩ ra.unext) hfin
    exact fun b o n e => ld b o n (ne_of_none (l1 b o n e) hD) (by rw [upd_ne (ne_of_none (l1 b o n e) hD)]; exact l1 b o n e)
end
section
variable {F : Fm} {C : Cs} {ρ : Rho} {k : Nat} {Φ : Nat → PyData → Prop} {pos : Pos} {elt iter iter1 : Expr} {scope : Scope} {x x1 : Str} {px px1 : Pos} {α β : Type}
/-- [elt for x in a tuple for x1 in a tuple], as a value -/
theorem we_comp2T (ei : α → PyData) (ej : β → PyData) (bs : α → List β) (g : α → β → PyData) (B : Nat) (i i1 : Nat) (hne : i ≠ i1) (b : Blk2 C scope i x i1 x1) (hK : F.K = C.K)
    (hs : ∀ (env : Env) (v : Value), foldedSetIterable iter env v = pure v) (hs1 : ∀ (env : Env) (v : Value), foldedSetIterable iter1 env v = pure v)
    (h : WPE F C iter ρ k fun k1 d => ∃ as : List α, d = .tuple (as.map ei) ∧ as.length * B ≤ 1000000 ∧ (∀ a ∈ as, (bs a).length ≤ B) ∧
      (∀ D (a : α), a ∈ as → WPE (F.ext D) (C.blk scope) iter1 ((ρ.set i1 .un).set i (.d (ei a))) k1 (fun k2 d2 => k2 = k1 ∧ d2 = .tuple ((bs a).map ej)) ∧
        ∀ b ∈ bs a, WPE (F.ext D) (C.blk scope) elt (((ρ.set i1 .un).set i (.d (ei a))).set i1 (.d (ej b))) k1 fun k3 y => k3 = k1 ∧ y = g a b) ∧ Φ k1 (.list (as.flatMap fun a => (bs a).map (g a)))) :
    WPE F C (.ListComp elt [⟨.Name x px, iter, [], 0⟩, ⟨.Name x1 px1, iter1, [], 0⟩] scope pos) ρ k Φ :=
  of_pe (t := tLc2 (iTup C.K (tE C iter)) (gName i) tYes (iTup (C.blk scope).K (tE (C.blk scope) iter1)) (gName i1) tYes (tE (C.blk scope) elt) [i, i1] [i1]) (fun X fx => pe_lc2 (own := [(x, i), (x1, i1)]) (vs1 := [i1]) fx.calm (by rw [fx.N]; exact b.t.hN) (piT fx) (by rw [fx.N, fx.sc]; exact b.ok) (fun j hj => by simp at hj ⊢; exact .inr hj)
    (fun s H a cl fp => b.t.pg (fx.blk s H scope a cl fp)) (fun s H a cl fp => pts_nil) (fun s H a cl fp => piT (fx.blk s H scope a cl fp)) (fun s H a cl fp => b.t1.pg (fx.blk s H scope a cl fp)) (fun s H a cl fp => pts_nil) (fun s H a cl fp => peE (fx.blk s H scope a cl fp)) (hs X.env) (fun env => hs1 env))
    (we_lc2T ei ej bs g B i i1 hne hK h)
end
section
variable {F : Fm} {C : Cs} {ρ : Rho} {k : Nat} {Φ : Nat → PyData → Prop} {pos p : Pos} {a b : Expr}
/-- min(a, b) of two ints -/
theorem we_min2 (hg : C.sc.names.lookup ("min" : Str) = some .globalImplicit) (hm : C.mg ("min" : Str) = none) (hs1 : ∀ env : Env, starEach [a, b] env = (false, eval a env) :: starEach [b] env) (hs2 : ∀ env : Env, starEach [b] env = (false, eval b env) :: starEach [] env)
    (h : WPE F C a ρ k fun k1 x => WPE F C b ρ k1 fun k2 y => ∃ i j : Int, x = .int i ∧ y = .int j ∧ Φ k2 (.int (if j < i then j else i))) : WPE F C (.Call (.Name "min" p) [a, b] [] pos) ρ k Φ :=
  we_callB (id := "min") (fun X fx => call_min2 fx.calm) hg hm (by decide +kernel) (wa_cons hs1 (h.imp fun k1 x h1 => wa_cons hs2 (h1.imp fun k2 y ⟨i, j, e1, e2, pp⟩ => wa_nil fun H vs Q jj r q => by
    subst e1 e2
    cases r with
    | cons r1 r2 =>
    cases r2 with
    | cons r3 r4 =>
    cases r4
    cases r1
    cases r3
    exact ⟨i, j, rfl, q _ _ k2 H .refl jj (.int _) pp⟩))) (by decide) (by decide) hs1 (fun env => by rw [hs2 env]; rfl)
end
end Dl

set_option maxHeartbeats 8000000
namespace K36
open PySem PySem.Spec PyProof.Rows L2 Dl
def topS (i : Nat) : Stmt := PySem.Challenge.pw_cardboxes_k36_renamed_switches.main.body.getD i (.Pass ⟨0, 0, 0, 0⟩)
local macro_rules | `(tactic| walk_at "vis") => `(tactic| first | exact Or.inl rfl | exact Or.inr (Or.inl rfl) | exact Or.inr (Or.inr rfl))
local macro_rules | `(tactic| walk_at "blk") => `(tactic| exact ⟨blkOk_by (by dsimp only [bodyCs, Cs.blk]; decide +kernel), ⟨by dsimp only [bodyCs, Cs.blk]; decide +kernel, rfl, (by first | exact Or.inl rfl | exact Or.inr rfl), (by first | exact Or.inl rfl | exact Or.inr rfl)⟩⟩)
local macro_rules | `(tactic| walk_at "tgt") => `(tactic| exact ⟨by dsimp only [bodyCs, Cs.blk]; decide +kernel, rfl, (by first | exact Or.inl rfl | exact Or.inr rfl), (by first | exact Or.inl rfl | exact Or.inr rfl)⟩)
local macro_rules | `(tactic| walk_at "name") => `(tactic| first
  | ((with_reducible refine' we_name 0 ?n1 ?n2 ?n3 ?_); (case n1 => rfl); (case n2 => walk_at "vis"); (case n3 => rfl))
  | ((with_reducible refine' we_name 1 ?n1 ?n2 ?n3 ?_); (case n1 => rfl); (case n2 => walk_at "vis"); (case n3 => rfl))
  | ((with_reducible refine' we_name 2 ?n1 ?n2 ?n3 ?_); (case n1 => rfl); (case n2 => walk_at "vis"); (case n3 => rfl))
  | ((with_reducible refine' we_name 3 ?n1 ?n2 ?n3 ?_); (case n1 => rfl); (case n2 => walk_at "vis"); (case n3 => rfl))
  | ((with_reducible refine' we_name 4 ?n1 ?n2 ?n3 ?_); (case n1 => rfl); (case n2 => walk_at "vis"); (case n3 => rfl))
  | ((with_reducible refine' we_name 5 ?n1 ?n2 ?n3 ?_); (case n1 => rfl); (case n2 => walk_at "vis"); (case n3 => rfl))
  | ((with_reducible refine' we_name 6 ?n1 ?n2 ?n3 ?_); (case n1 => rfl); (case n2 => walk_at "vis"); (case n3 => rfl))
  | ((with_reducible refine' we_name 7 ?n1 ?n2 ?n3 ?_); (case n1 => rfl); (case n2 => walk_at "vis"); (case n3 => rfl))
  | ((with_reducible refine' we_name 8 ?n1 ?n2 ?n3 ?_); (case n1 => rfl); (case n2 => walk_at "vis"); (case n3 => rfl))
  | ((with_reducible refine' we_name 9 ?n1 ?n2 ?n3 ?_); (case n1 => rfl); (case n2 => walk_at "vis"); (case n3 => rfl))
  | ((with_reducible refine' we_name 10 ?n1 ?n2 ?n3 ?_); (case n1 => rfl); (case n2 => walk_at "vis"); (case n3 => rfl))
  | ((with_reducible refine' we_name 11 ?n1 ?n2 ?n3 ?_); (case n1 => rfl); (case n2 => walk_at "vis"); (case n3 => rfl))
  | ((with_reducible refine' we_name 12 ?n1 ?n2 ?n3 ?_); (case n1 => rfl); (case n2 => walk_at "vis"); (case n3 => rfl))
  | ((with_reducible refine' we_name 13 ?n1 ?n2 ?n3 ?_); (case n1 => rfl); (case n2 => walk_at "vis"); (case n3 => rfl))
  | ((with_reducible refine' we_name 14 ?n1 ?n2 ?n3 ?_); (case n1 => rfl); (case n2 => walk_at "vis"); (case n3 => rfl))
  | ((with_reducible refine' we_name 15 ?n1 ?n2 ?n3 ?_); (case n1 => rfl); (case n2 => walk_at "vis"); (case n3 => rfl)))
local macro_rules | `(tactic| walk_at "dl") => `(tactic| first
  | walk_at "name"
  | with_reducible refine we_int ?_
  | with_reducible refine we_bl ?_
  | with_reducible refine we_str ?_
  | with_reducible refine we_non ?_
  | with_reducible refine wb_cons ?_
  | with_reducible refine wb_nil ?_
  | with_reducible refine ws_ret ?_
  | with_reducible refine ws_retN ?_
  | with_reducible refine ws_if ?_
  | with_reducible refine wa_nil ?_
  | with_reducible refine we_add ?_
  | with_reducible refine we_sub ?_
  | with_reducible refine we_mul ?_
  | with_reducible refine we_fdiv ?_
  | with_reducible refine we_mod ?_
  | with_reducible refine we_shl ?_
  | with_reducible refine we_shr ?_
  | with_reducible refine we_pow ?_
  | with_reducible refine we_band ?_
  | with_reducible refine we_bor ?_
  | with_reducible refine we_bxor ?_
  | with_reducible refine we_neg ?_
  | with_reducible refine wt_lt ?_
  | with_reducible refine wt_le ?_
  | with_reducible refine wt_gt ?_
  | with_reducible refine wt_ge ?_
  | with_reducible refine we_lt ?_
  | with_reducible refine we_le ?_
  | with_reducible refine we_gt ?_
  | with_reducible refine we_ge ?_
  | with_reducible refine wt_not ?_
  | with_reducible refine wt_bool ?_
  | with_reducible refine ww_and ?_
  | with_reducible refine ww_or ?_
  | with_reducible refine ww_and1 ?_
  | with_reducible refine ww_or1 ?_
  | with_reducible refine we_and ?_
  | with_reducible refine we_or ?_
  | with_reducible refine we_one ?_
  | with_reducible refine we_not ?_
  | with_reducible refine we_tup ?_
  | with_reducible refine we_lst ?_
  | with_reducible refine we_isN ?_
  | with_reducible refine wt_isN ?_
  | ((with_reducible refine wa_cons ?s1 ?_); (case s1 => exact fun _ => rfl))
  | ((with_reducible refine we_len ?c1 ?c2 ?c3 ?c4 ?_); (case c1 => assumption); (case c2 => rfl); (case c3 => assumption); (case c4 => exact fun _ => rfl))
  | ((with_reducible refine we_tuple ?c1 ?c2 ?c3 ?c4 ?_); (case c1 => assumption); (case c2 => rfl); (case c3 => assumption); (case c4 => exact fun _ => rfl))
  | ((with_reducible refine we_list ?c1 ?c2 ?c3 ?c4 ?_); (case c1 => assumption); (case c2 => rfl); (case c3 => assumption); (case c4 => exact fun _ => rfl))
  | ((with_reducible refine we_repr ?c1 ?c2 ?c3 ?c4 ?_); (case c1 => assumption); (case c2 => rfl); (case c3 => assumption); (case c4 => exact fun _ => rfl))
  | ((with_reducible refine we_sum ?c1 ?c2 ?c3 ?c4 ?_); (case c1 => assumption); (case c2 => rfl); (case c3 => assumption); (case c4 => exact fun _ => rfl))
  | ((with_reducible refine we_sorted ?c1 ?c2 ?c3 ?c4 ?_); (case c1 => assumption); (case c2 => rfl); (case c3 => assumption); (case c4 => exact fun _ => rfl))
  | ((with_reducible refine we_min ?c1 ?c2 ?c3 ?c4 ?_); (case c1 => assumption); (case c2 => rfl); (case c3 => assumption); (case c4 => exact fun _ => rfl))
  | ((with_reducible refine we_abs ?c2 ?c3 ?c4 ?_); (case c2 => rfl); (case c3 => assumption); (case c4 => exact fun _ => rfl))
  | ((with_reducible refine we_intB ?c2 ?c3 ?c4 ?_); (case c2 => rfl); (case c3 => assumption); (case c4 => exact fun _ => rfl))
  | ((with_reducible refine' we_callP ?c1 ?c2 ?c3 ?c4 ?_ ?c5 ?c6 ?c7); (case c1 => assumption); (case c2 => exact Nat.le_of_ble_eq_true rfl); (case c3 => assumption); (case c4 => rfl); (case c5 => decide); (case c6 => exact fun _ => rfl); (case c7 => exact fun _ => rfl))
  | ((with_reducible refine' we_callD ?c0 ?c1 ?c2 ?c3 0 ?c4 ?c5 ?c6 ?c7 ?_ ?c8 ?c9 ?c10 ?c11 ?c12); (case c0 => first | assumption | exact IsDk.ext (by assumption) _ | exact IsDk.ext (IsDk.ext (by assumption) _) _); (case c1 => assumption); (case c2 => exact Nat.le_of_ble_eq_true rfl); (case c3 => assumption); (case c4 => rfl); (case c5 => rfl); (case c6 => walk_at "vis"); (case c7 => rfl); (case c8 => decide); (case c9 => decide); (case c10 => decide); (case c11 => exact fun _ => rfl); (case c12 => exact fun _ => rfl))
  | ((with_reducible refine' we_callD ?c0 ?c1 ?c2 ?c3 1 ?c4 ?c5 ?c6 ?c7 ?_ ?c8 ?c9 ?c10 ?c11 ?c12); (case c0 => first | assumption | exact IsDk.ext (by assumption) _ | exact IsDk.ext (IsDk.ext (by assumption) _) _); (case c1 => assumption); (case c2 => exact Nat.le_of_ble_eq_true rfl); (case c3 => assumption); (case c4 => rfl); (case c5 => rfl); (case c6 => walk_at "vis"); (case c7 => rfl); (case c8 => decide); (case c9 => decide); (case c10 => decide); (case c11 => exact fun _ => rfl); (case c12 => exact fun _ => rfl))
  | ((with_reducible refine we_ix ?c1 ?c2 ?_); (case c1 => assumption); (case c2 => exact fun _ _ => rfl)))
local macro_rules | `(tactic| walk_at "dx") => `(tactic| first
  | with_reducible refine tl0 ?_
  | with_reducible refine tl1 ?_
  | with_reducible refine tl2 ?_
  | with_reducible refine tl3 ?_
  | with_reducible refine tl4 ?_
  | with_reducible refine tl5 ?_
  | with_reducible refine tl6 ?_
  | with_reducible refine tl7 ?_
  | with_reducible refine ii2 ?_
  | with_reducible refine ii1 ?_
  | with_reducible refine ss2 ?_
  | with_reducible refine bb1 ?_
  | with_reducible refine sqT ?_
  | with_reducible refine sqL ?_
  | walk_at "dl")
local macro_rules | `(tactic| walk_at "dq") => `(tactic| first
  | walk_at "dx"
  | ((with_reducible refine' we_callQ ?c0 ?c1 ?c2 ?c3 0 ?c4 ?c5 ?c6 ?c7 ?_ ?c8 ?c9 ?c10 ?c11 ?c12); (case c0 => first | assumption | exact IsDq.ext (by assumption) _ | exact IsDq.ext (IsDq.ext (by assumption) _) _); (case c1 => assumption); (case c2 => exact Nat.le_of_ble_eq_true rfl); (case c3 => assumption); (case c4 => rfl); (case c5 => rfl); (case c6 => walk_at "vis"); (case c7 => rfl); (case c8 => decide); (case c9 => decide); (case c10 => decide); (case c11 => exact fun _ => rfl); (case c12 => exact fun _ => rfl))
  | ((with_reducible refine' we_callQ ?c0 ?c1 ?c2 ?c3 1 ?c4 ?c5 ?c6 ?c7 ?_ ?c8 ?c9 ?c10 ?c11 ?c12); (case c0 => first | assumption | exact IsDq.ext (by assumption) _ | exact IsDq.ext (IsDq.ext (by assumption) _) _); (case c1 => assumption); (case c2 => exact Nat.le_of_ble_eq_true rfl); (case c3 => assumption); (case c4 => rfl); (case c5 => rfl); (case c6 => walk_at "vis"); (case c7 => rfl); (case c8 => decide); (case c9 => decide); (case c10 => decide); (case c11 => exact fun _ => rfl); (case c12 => exact fun _ => rfl)))
def parts (n : Int) : List Int := (rg (n + 1)).filter fun i => decide (Builtin.bitAnd i n = i)
def Rparts : Rel := fun ds d => ∃ n : Int, ds = [.int n] ∧ (0 ≤ n ∧ n < 1000) ∧ d = .list ((parts n).map PyData.int)
theorem parts_len {n : Int} (h0 : 0 ≤ n) (h1 : n < 1000) : (parts n).length ≤ 1000 := by
  refine Nat.le_trans (List.length_filter_le _ _) ?_
  rw [rg_length]; omega


def cubeCards (b q : Int) : List Int := (parts q).map fun i => b + i

theorem band_nat (a b : Nat) : Builtin.bitAnd (a : Int) (b : Int) = ((a &&& b : Nat) : Int) := by
  rw [bitAnd_pp (by omega) (by omega), Int.toNat_natCast, Int.toNat_natCast]
def partsN (q : Nat) : List Nat := (List.range (q + 1)).filter fun i => decide (i &&& q = i)
theorem parts_nat (q : Nat) : parts (q : Int) = (partsN q).map fun (i : Nat) => (i : Int) := by
  unfold parts partsN rg
  rw [show ((q : Int) + 1).toNat = q + 1 by omega, List.filter_map]
  congr 1
  apply List.filter_congr
  intro i _
  show decide (Builtin.bitAnd (i : Int) (q : Int) = (i : Int)) = _
  rw [band_nat]
  by_cases h : i &&& q = i
  · rw [decide_eq_true h, decide_eq_true (by omega)]
  · rw [decide_eq_false h, decide_eq_false (by omega)]



theorem one_shl (n : Nat) : (1 : Int) * 2 ^ ((n : Int)).toNat = 2 ^ n := by rw [Int.one_mul, Int.toNat_natCast]
theorem pow_le64 {n : Nat} (h : n ≤ 6) : (2 : Int) ^ n ≤ 64 ∧ (1 : Int) ≤ 2 ^ n := by
  have : n = 0 ∨ n = 1 ∨ n = 2 ∨ n = 3 ∨ n = 4 ∨ n = 5 ∨ n = 6 := by omega
  rcases this with rfl | rfl | rfl | rfl | rfl | rfl | rfl <;> decide
def outside (n : Nat) (s : Int) : List Int := (rg (2 ^ n)).filter fun i => decide (Builtin.bitAnd i s = 0)
theorem find_at {α : Type} {p : α → Bool} : ∀ {xs : List α} {j : Nat} {x : α}, xs[j]? = some x → (∀ y ∈ xs.take j, p y = false) → p x = true → xs.find? p = some x
  | y :: ys, 0, x, e, _, h => by cases e; rw [List.find?_cons, h]
  | y :: ys, j + 1, x, e, ha, h => by
    rw [List.find?_cons, ha y (by simp)]
    exact find_at (j := j) (by simpa using e) (fun z hz => ha z (by rw [List.take_succ_cons]; exact List.mem_cons_of_mem _ hz)) h
  | [], j, x, e, _, _ => by simp at e
def missing (cs : List Int) (b q : Int) : Option Int := (cubeCards b q).find? fun c => !decide (c ∈ cs)
def missD (cs : List Int) (b q : Int) : PyData := match missing cs b q with
  | some c => .int c
  | none => .none
def basesL (n : Nat) (cs : List Int) (s : Int) : List Int := (outside n s).filter fun b => (missing cs b s).isNone
theorem ix0T (x : Int) (r : List Int) : ixD (.tuple ((x :: r).map PyData.int)) (.int 0) = some (.int x) := atI_nat (xs := (x :: r).map PyData.int) (j := 0) rfl
def boxD (n : Nat) (cs : List Int) : PyData := .tuple [.int (n : Int), .tuple (cs.map PyData.int)]
theorem mem_outside {n : Nat} {s i : Int} (h : i ∈ outside n s) : 0 ≤ i ∧ i < 2 ^ n := mem_rg.mp (List.mem_filter.mp h).1
theorem outside_len {n : Nat} (h : n ≤ 6) (s : Int) : (outside n s).length ≤ 64 := by
  refine Nat.le_trans (List.length_filter_le _ _) ?_
  rw [rg_length]
  have := pow_le64 h
  omega

structure IsBox (n : Nat) (cs : List Int) : Prop where
  asc : cs.Pairwise (· < ·)
  rng : ∀ c ∈ cs, 0 ≤ c ∧ c < 2 ^ n
structure GoodC (n : Nat) (cs : List Int) : Prop where
  nd : cs.Nodup
  rng : ∀ c ∈ cs, 0 ≤ c ∧ c < 2 ^ n
theorem GoodC.sorted {n : Nat} {as ms : List Int} (g : GoodC n as) (hp : ms.Perm as) (hw : ms.Pairwise (· ≤ ·)) : IsBox n ms := by
  refine ⟨?_, fun c hc => g.rng c (hp.mem_iff.mp hc)⟩
  have nd : ms.Nodup := hp.symm.nodup g.nd
  exact (hw.and nd).imp fun ⟨h1, h2⟩ => by omega
theorem GoodC.sub {n : Nat} {as : List Int} (h : as.Sublist (rg (2 ^ n))) : GoodC n as := by
  refine ⟨?_, fun c hc => mem_rg.mp (h.subset hc)⟩
  have : (rg (2 ^ n)).Nodup := rg_pairwise.imp fun h => by omega
  exact h.nodup this
theorem box_len {n : Nat} {cs : List Int} (hn : n ≤ 6) (b : IsBox n cs) : cs.length ≤ 64 := by
  have key : ∀ (l : List Int) (lo : Int), l.Pairwise (· < ·) → (∀ c ∈ l, lo ≤ c ∧ c < 64) → lo ≤ 64 → (l.length : Int) ≤ 64 - lo := by
    intro l
    induction l with
    | nil => intro lo _ _ h; simp; omega
    | cons x xs ih =>
      intro lo hp hr hlo
      have hx := hr x List.mem_cons_self
      have := ih (x + 1) (List.pairwise_cons.mp hp).2 (fun c hc => ⟨(List.pairwise_cons.mp hp).1 c hc, (hr c (List.mem_cons_of_mem _ hc)).2⟩) (by omega)
      rw [List.length_cons]; omega
  have hp := pow_le64 hn
  have := key cs 0 b.asc (fun c hc => ⟨(b.rng c hc).1, by have := (b.rng c hc).2; omega⟩) (by omega)
  omega
theorem box_fine {n : Nat} {cs : List Int} (hn : n ≤ 6) (b : IsBox n cs) : Fine 5000 2 (boxD n cs) := by
  have hp := pow_le64 hn
  have h1 : Fine (64 * 33 + 3) 1 (.tuple (cs.map PyData.int)) := fine_ints (fun i hi => by
    have := b.rng i hi
    have h2 : i.natAbs < 64 := by omega
    exact Nat.lt_trans h2 (by decide)) (box_len hn b)
  refine (fine_tuple (n := 64 * 33 + 3) (dp := 1) (L := 2) (fun d hd => ?_) (Nat.le_refl _)).mono (by decide) (by decide)
  rcases List.mem_cons.mp hd with rfl | hd
  · exact (fine_int (by rw [Int.natAbs_natCast]; exact Nat.lt_of_le_of_lt hn (by decide))).mono (by decide) (by decide)
  · have : d = .tuple (cs.map PyData.int) := by simpa using hd
    rw [this]; exact h1
theorem xor_small : ∀ a < 64, ∀ b < 64, (a ||| b) - (a &&& b) = a ^^^ b := by decide +kernel
theorem and_le_or : ∀ a < 64, ∀ b < 64, a &&& b ≤ a ||| b := by decide +kernel
theorem bxor_nat {a b : Nat} (ha : a < 64) (hb : b < 64) : Builtin.bitXor (a : Int) (b : Int) = ((a ^^^ b : Nat) : Int) := by
  unfold Builtin.bitXor
  rw [bitOr_nn (by omega) (by omega), band_nat, Int.toNat_natCast, Int.toNat_natCast, ← xor_small a ha b hb]
  have := and_le_or a ha b hb
  omega
theorem xor_good {n : Nat} {f : Int} (hn : n ≤ 6) (f0 : 0 ≤ f) (f1 : f < 2 ^ n) {as : List Int} (h : as.Sublist (rg (2 ^ n))) : GoodC n (as.map fun c => Builtin.bitXor c f) := by
  have hp := pow_le64 hn
  have h1 : ((2 ^ n : Nat) : Int) = (2 : Int) ^ n := by rw [Int.natCast_pow]; rfl
  have g := GoodC.sub h
  obtain ⟨f, rfl⟩ : ∃ m : Nat, f = (m : Int) := ⟨f.toNat, by omega⟩
  have conv : ∀ c ∈ as, ∃ m : Nat, c = (m : Int) ∧ m < 2 ^ n ∧ Builtin.bitXor c (f : Int) = ((m ^^^ f : Nat) : Int) := fun c hc => by
    have := g.rng c hc
    refine ⟨c.toNat, by omega, by omega, ?_⟩
    rw [← bxor_nat (a := c.toNat) (b := f) (by omega) (by omega), show ((c.toNat : Nat) : Int) = c by omega]
  constructor
  · rw [List.nodup_iff_pairwise_ne, List.pairwise_map]
    refine (List.Pairwise.and_mem.mp (List.nodup_iff_pairwise_ne.mp g.nd)).imp ?_
    rintro a b ⟨ha, hb, hne⟩ e
    obtain ⟨m, rfl, _, e1⟩ := conv a ha
    obtain ⟨m', rfl, _, e2⟩ := conv b hb
    rw [e1, e2] at e
    have e3 : m ^^^ f = m' ^^^ f := by omega
    have : m = m' := by
      have := congrArg (· ^^^ f) e3
      simpa [Nat.xor_assoc] using this
    exact hne (by rw [this])
  · intro c hc
    obtain ⟨a, ha, rfl⟩ := List.mem_map.mp hc
    obtain ⟨m, rfl, hm, e1⟩ := conv a ha
    rw [e1]
    have : m ^^^ f < 2 ^ n := Nat.xor_lt_two_pow hm (by omega)
    omega

def Boxed (d : PyData) : Prop := ∃ (n : Nat) (cs : List Int), n ≤ 6 ∧ IsBox n cs ∧ d = boxD n cs
theorem box0 (n : Nat) : IsBox n [] := ⟨List.Pairwise.nil, fun _ h => by cases h⟩
theorem box00 (n : Nat) : IsBox n [0] := ⟨List.pairwise_singleton _ _, fun c h => by
  have : c = 0 := by simpa using h
  subst this
  exact ⟨by decide, Int.pow_pos (by decide)⟩⟩
theorem boxed_fine {d : PyData} (h : Boxed d) : Fine 5000 2 d := by
  obtain ⟨n, cs, hn, hb, rfl⟩ := h
  exact box_fine hn hb
theorem sub_fine {n : Nat} (hn : n ≤ 6) {as : List Int} (h : as.Sublist (rg (2 ^ n))) : Fine (64 * 33 + 3) 1 (.tuple (as.map PyData.int)) := by
  have hp := pow_le64 hn
  refine fine_ints (fun i hi => ?_) (Nat.le_trans h.length_le (by rw [rg_length]; omega))
  have := mem_rg.mp (h.subset hi)
  have h2 : i.natAbs < 64 := by omega
  exact Nat.lt_trans h2 (by decide)

/-- how many binary digits are 1 -/
def bits (n : Nat) : Nat := if n = 0 then 0 else n % 2 + bits (n / 2)
theorem bits_pos {n : Nat} (h : 0 < n) : bits n = n % 2 + bits (n / 2) := by
  rw [bits, if_neg (by omega)]

theorem uniqA {α : Type} {R : α → α → Prop} (ir : ∀ a, ¬ R a a) (tr : ∀ a b, R a b → ¬ R b a) : ∀ {xs ys : List α}, xs.Pairwise R → ys.Pairwise R → (∀ a, a ∈ xs ↔ a ∈ ys) → xs = ys
  | [], [], _, _, _ => rfl
  | [], y :: ys, _, _, h => by have := (h y).mpr List.mem_cons_self; cases this
  | x :: xs, [], _, _, h => by have := (h x).mp List.mem_cons_self; cases this
  | x :: xs, y :: ys, hx, hy, h => by
    have hx' := List.pairwise_cons.mp hx
    have hy' := List.pairwise_cons.mp hy
    have e : x = y := by
      rcases List.mem_cons.mp ((h x).mp List.mem_cons_self) with e | m1
      · exact e
      rcases List.mem_cons.mp ((h y).mpr List.mem_cons_self) with e | m2
      · exact e.symm
      exact absurd (hx'.1 y m2) (tr _ _ (hy'.1 x m1))
    subst e
    refine congrArg (x :: ·) (uniqA ir tr hx'.2 hy'.2 fun a => ⟨fun m => ?_, fun m => ?_⟩)
    · rcases List.mem_cons.mp ((h a).mp (List.mem_cons_of_mem _ m)) with e | m'
      · exact absurd (e ▸ hx'.1 a m) (ir x)
      · exact m'
    · rcases List.mem_cons.mp ((h a).mpr (List.mem_cons_of_mem _ m)) with e | m'
      · exact absurd (e ▸ hy'.1 a m) (ir x)
      · exact m'
theorem uniqI {xs ys : List Int} (hx : xs.Pairwise (· < ·)) (hy : ys.Pairwise (· < ·)) (h : ∀ a, a ∈ xs ↔ a ∈ ys) : xs = ys := uniqA (R := fun a b : Int => a < b) (fun a h => by omega) (fun a b h1 h2 => by omega) hx hy h
theorem permA : ∀ {xs ys : List Int}, xs.Nodup → ys.Nodup → (∀ a, a ∈ xs ↔ a ∈ ys) → xs.length = ys.length
  | [], ys, _, _, h => by
    cases ys with
    | nil => rfl
    | cons y ys => have := (h y).mpr List.mem_cons_self; cases this
  | x :: xs, ys, hx, hy, h => by
    have hm : x ∈ ys := (h x).mp List.mem_cons_self
    have hx' := List.nodup_cons.mp hx
    have ih := permA hx'.2 (hy.erase x) fun a => by
      rw [hy.mem_erase_iff]
      constructor
      · intro ha
        exact ⟨fun e => hx'.1 (e ▸ ha), (h a).mp (List.mem_cons_of_mem _ ha)⟩
      · rintro ⟨hne, ha⟩
        rcases List.mem_cons.mp ((h a).mpr ha) with e | e
        · exact absurd e hne
        · exact e
    rw [List.length_cons, ih, List.length_erase_of_mem hm]
    have := List.length_pos_of_mem hm
    omega
theorem asc_nodup {xs : List Int} (h : xs.Pairwise (· < ·)) : xs.Nodup := List.nodup_iff_pairwise_ne.mpr (h.imp fun h => by omega)
theorem eqvAll_ints : ∀ xs ys : List Int, PyData.eqvAll (xs.map PyData.int) (ys.map PyData.int) = decide (xs = ys)
  | [], [] => by simp [PyData.eqvAll]
  | [], y :: ys => by simp [PyData.eqvAll]
  | x :: xs, [] => by simp [PyData.eqvAll]
  | x :: xs, y :: ys => by
    have ih := eqvAll_ints xs ys
    simp only [List.map_cons, PyData.eqvAll, PyData.eqv, ih]
    by_cases h1 : x = y <;> by_cases h2 : xs = ys <;> simp [h1, h2]
theorem eqv_intsT (xs ys : List Int) : PyData.eqv (.tuple (xs.map PyData.int)) (.tuple (ys.map PyData.int)) = decide (xs = ys) := by
  simp only [PyData.eqv]; exact eqvAll_ints xs ys
theorem eqv_intsL (xs ys : List Int) : PyData.eqv (.list (xs.map PyData.int)) (.list (ys.map PyData.int)) = decide (xs = ys) := by
  simp only [PyData.eqv]; exact eqvAll_ints xs ys
def hasP (cs : List Int) (s p : Int) : Bool := cs.any fun c => decide (Builtin.bitAnd c s = p)
def patsL (cs : List Int) (s : Int) : List Int := (parts s).filter fun p => hasP cs s p
def shownB (cs : List Int) (s : Int) : Bool := (parts s).all fun p => hasP cs s p
theorem parts_asc (s : Int) : (parts s).Pairwise (· < ·) := rg_pairwise.filter _
theorem band_part {c s : Int} (hc : 0 ≤ c) (hs : 0 ≤ s) : Builtin.bitAnd c s ∈ parts s := by
  obtain ⟨c, rfl⟩ : ∃ m : Nat, c = (m : Int) := ⟨c.toNat, by omega⟩
  obtain ⟨s, rfl⟩ : ∃ m : Nat, s = (m : Int) := ⟨s.toNat, by omega⟩
  have h : c &&& s ≤ s := Nat.and_le_right
  rw [band_nat]
  refine List.mem_filter.mpr ⟨mem_rg.mpr ⟨by omega, by omega⟩, decide_eq_true ?_⟩
  rw [band_nat, Nat.and_assoc, Nat.and_self]
theorem mem_pats {cs : List Int} {s : Int} (hb : ∀ c ∈ cs, 0 ≤ c) (hs : 0 ≤ s) (z : Int) : z ∈ patsL cs s ↔ z ∈ cs.map fun c => Builtin.bitAnd c s := by
  unfold patsL hasP
  rw [List.mem_filter, List.any_eq_true, List.mem_map]
  constructor
  · rintro ⟨_, c, hc, e⟩
    exact ⟨c, hc, of_decide_eq_true e⟩
  · rintro ⟨c, hc, rfl⟩
    exact ⟨band_part (hb c hc) hs, c, hc, decide_eq_true rfl⟩
theorem pats_uniq {cs ms : List Int} {s : Int} (hb : ∀ c ∈ cs, 0 ≤ c) (hs : 0 ≤ s) (hw : ms.Pairwise (· < ·)) (hm : ∀ z, z ∈ ms ↔ z ∈ cs.map fun c => Builtin.bitAnd c s) : ms = patsL cs s :=
  uniqI hw ((parts_asc s).filter _) fun z => (hm z).trans (mem_pats hb hs z).symm
theorem shown_dec (cs : List Int) (s : Int) : decide (patsL cs s = parts s) = shownB cs s := by
  unfold patsL shownB
  rw [Bool.eq_iff_iff, decide_eq_true_eq, List.filter_eq_self, List.all_eq_true]
theorem shown_len (cs : List Int) (s : Int) : decide ((patsL cs s).length = (parts s).length) = shownB cs s := by
  unfold patsL shownB
  rw [Bool.eq_iff_iff, decide_eq_true_eq, List.length_filter_eq_length_iff, List.all_eq_true]
def b6 (s : Nat) : Nat := s % 2 + (s / 2 % 2 + (s / 4 % 2 + (s / 8 % 2 + (s / 16 % 2 + s / 32 % 2))))
theorem bits_all (n : Nat) : bits n = n % 2 + bits (n / 2) := by
  by_cases h : n = 0
  · subst h; rw [bits, if_pos rfl]
  · exact bits_pos (by omega)
theorem bits_b6 {s : Nat} (h : s < 64) : bits s = b6 s := by
  unfold b6
  rw [bits_all s, bits_all (s / 2), bits_all (s / 2 / 2), bits_all (s / 2 / 2 / 2), bits_all (s / 2 / 2 / 2 / 2), bits_all (s / 2 / 2 / 2 / 2 / 2)]
  have e : s / 2 / 2 / 2 / 2 / 2 / 2 = 0 := by omega
  rw [e, bits, if_pos rfl]
  omega
theorem b6_le : ∀ n ≤ 6, ∀ s < 2 ^ n, b6 s ≤ n := by decide +kernel
theorem b6_six (s : Nat) : b6 s ≤ 6 := by unfold b6; omega
theorem parts_b6 : ∀ s < 64, (partsN s).length = 2 ^ b6 s := by decide +kernel
theorem parts_count {s : Nat} (h : s < 64) : (parts (s : Int)).length = 2 ^ bits s := by
  rw [parts_nat, List.length_map, parts_b6 s h, bits_b6 h]
theorem box_ge {n : Nat} {cs : List Int} (b : IsBox n cs) : ∀ c ∈ cs, 0 ≤ c := fun c hc => (b.rng c hc).1

abbrev nDeck : List Str := ["_law_script", "_law_cell"]
theorem scDeck : FnScope nDeck ["_law_script"] (defScope (topS 9)) := ⟨rfl, rfl, rfl, by decide +kernel, rfl, by decide +kernel, by decide +kernel⟩
theorem cutV_ints (ns : List Int) (hl : ns.length ≤ 63) : ∃ ms : List Int, cutV (ns.map V.int) none (some 60) = ms.map V.int ∧ ms.length ≤ 63 := by
  refine ⟨_, by unfold cutV; rw [← List.map_drop, ← List.map_take], ?_⟩
  rw [List.length_take, List.length_drop]
  omega
section
variable {P : Program} {w : World} {K : PySem.W.Frag} {mg : Str → Option Value} {base : Heap}
theorem ok_deck {f : Addr} {fd : FuncData} (Fn : Fun K "_law_deck" "_law_deck" (topS 9) f fd) (ma : mg "abs" = none) : FnG P w K mg base 1 f fd ["_law_script"] (spDeck K) := by
  refine FnG.of_body (k := 0) Fn scDeck (fun vs H Q E h => ?_) (fun cdv A outer s H vs Q hgd hr h => ?_)
  · obtain ⟨sc, ns, rfl, _⟩ := h
    rfl
  obtain ⟨sc, ns, rfl, hS, hlen, q⟩ := h
  refine ⟨_, pss_one (ps_ret (pe_lst (pa_cons
      (pe_lc (own := [("_law_cell", 1)]) (g := gName 1) (tt := tYes) rfl scDeck.nd (pi_list (pe_slice sl_list (pv 0) po_none (po_some pe_int))) (blkOk_by (own := [("_law_cell", 1)]) (N := nDeck) (sc := defScope (topS 9)) (by decide +kernel))
        (fun _ _ _ _ _ => pg_name (i := 1) scDeck.nd rfl (Or.inl rfl)) (fun _ _ _ _ _ => pts_nil) (fun _ _ _ _ _ => pe_callB call_abs (by rfl) ma (by decide +kernel) (pa_cons (pv 1) pa_nil)))
      (pa_cons pe_int pa_nil)))), ?_⟩
  refine ⟨.ref sc, rfl, 60, rfl, sc, _, rfl, hS, fun c0 nc0 => ?_⟩
  obtain ⟨ms, em, hml⟩ := cutV_ints ns hlen
  rw [em]
  have s0 : Same H (upd H c0 (.lst (ms.map V.int))) := fun b o e => by rw [upd_ne (ne_of_none e nc0)]; exact e
  generalize hH0 : upd H c0 (.lst (ms.map V.int)) = H0 at s0 ⊢
  have hc0 : H0 c0 = some (.lst (ms.map V.int)) := by rw [← hH0, upd_same]
  refine ⟨c0, rfl, ⟨_, SqL.of hc0⟩, fun D hD => ?_⟩
  have hDn : H D = none := s0.free hD
  have hDc : c0 ≠ D := ne_of_none hc0 hD
  refine lc_list (xs := ms.map V.int) (fun n H' => ∃ zs : List Int, zs.length = n ∧ (∀ b o, b ≠ D → H0 b = some o → H' b = some o) ∧ H' D = some (.lst (zs.map V.int))) ⟨[], rfl, fun b o nb e => by rw [upd_ne nb]; exact e, upd_same⟩ (fun n H' _ ⟨zs, _, kp, _⟩ => SqL.of (kp c0 _ hDc hc0)) ?_ ?_
  · rintro n v H' hv ⟨zs, hz, kp, hd⟩
    rw [List.getElem?_map] at hv
    cases hm : ms[n]? with
    | none => rw [hm] at hv; cases hv
    | some y =>
    rw [hm] at hv
    cases hv
    have hn : n < ms.length := (List.getElem?_eq_some_iff.mp hm).1
    refine ⟨rfl, .int y, rfl, y, rfl, _, hd, by rw [List.length_map, hz]; exact small1000 (by omega), zs ++ [if y < 0 then -y else y], by rw [List.length_append, hz]; rfl, fun b o nb e => by rw [upd_ne nb]; exact kp b o nb e, ?_⟩
    rw [upd_same, List.map_append]; rfl
  rintro H1 ⟨zs, hz, kp, hd⟩
  rw [List.length_map] at hz
  have s1 : Same H H1 := fun b o e => kp b o (ne_of_none e hDn) (s0 b o e)
  refine ⟨(by show 2 ≤ sizeLine; decide), fun st nst => ?_⟩
  refine q _ st D (fun b o e => by rw [upd_ne (ne_of_none (s1 b o e) nst)]; exact s1 b o e) (s1.free nst) hDn ⟨zs, 0, upd_same, ?_, by omega, by omega, by omega⟩
  rw [upd_ne (ne_of_none hd nst)]; exact hd
end

abbrev nDrw : List Str := ["_law_deck_here", "_law_bound", "_law_place", "_law_cell", "_law_mixed"]
theorem scDrw : FnScope nDrw ["_law_deck_here", "_law_bound"] (defScope (topS 10)) := ⟨rfl, rfl, rfl, by decide +kernel, rfl, by decide +kernel, by decide +kernel⟩
def PreNext : List PyData → Prop := fun ds => ∃ m : Int, ds = [.int m] ∧ 0 < m ∧ m < 1073741824
def RNext : Rel := fun ds d => ∃ m i : Int, ds = [.int m] ∧ d = .int i ∧ 0 ≤ i ∧ i < m
theorem cell_at {cells : List Int} {ix : Int} (h0 : 0 ≤ ix) (h1 : ix ≤ (cells.length : Int)) : ∃ v : Int, atI (cells.map V.int ++ [V.int 0]) ix = some (.int v) ∧ (10 ^ 18 ≤ v → ixN (cells.map V.int).length ix = some ix.toNat) := by
  have hl : ix.toNat < (cells ++ [0]).length := by rw [List.length_append]; show _ < _ + 1; omega
  refine ⟨(cells ++ [0])[ix.toNat], ?_, fun hv => ?_⟩
  · have e : cells.map V.int ++ [V.int 0] = (cells ++ [0]).map V.int := by rw [List.map_append]; rfl
    rw [e]
    have := atI_nat (xs := (cells ++ [0]).map V.int) (j := ix.toNat) (v := .int (cells ++ [0])[ix.toNat]) (by rw [List.getElem?_map, List.getElem?_eq_getElem hl]; rfl)
    rw [show ((ix.toNat : Nat) : Int) = ix by omega] at this
    exact this
  · have hlt : ix < (cells.length : Int) := by
      refine Int.lt_of_not_ge fun hge => ?_
      have e : ix.toNat = cells.length := by omega
      have e2 : (cells ++ [0])[ix.toNat] = 0 := by
        have : (cells ++ [0])[ix.toNat]? = some 0 := by rw [e]; simp
        rw [List.getElem?_eq_getElem hl] at this
        exact Option.some.inj this
      rw [e2] at hv
      exact absurd hv (by decide)
    unfold ixN
    rw [if_pos h0, if_pos (by rw [List.length_map]; exact hlt)]
section
variable {P : Program} {w : World} {K : PySem.W.Frag} {mg : Str → Option Value} {base : Heap}
theorem ok_draw {f : Addr} {fd : FuncData} (Fn : Fun K "_law_draw" "_law_draw" (topS 10) f fd) (ml : mg "len" = none) (mx : mg "max" = none) : FnG P w K mg base 1 f fd ["_law_deck_here", "_law_bound"] (spDrawQ K 1 PreNext RNext) := by
  refine FnG.of_body (k := 0) Fn scDrw (fun vs H Q E h => ?_) (fun cdv A outer s H vs Q hgd hr h => ?_)
  · obtain ⟨S, st, a, vs', ds, k, rfl, _, _, _, rr, ⟨m, rfl, _⟩, _⟩ := h
    rw [List.length_cons, rr.length]; rfl
  obtain ⟨S, st, a, vs', ds, k, rfl, ⟨cells, n, h1, h2, hlen, hn0, hnk⟩, al, hS, rr, ⟨m, rfl, hm0, hm1⟩, q⟩ := h
  cases rr with
  | cons r1 r2 =>
  cases r2
  cases r1
  refine ⟨_, pss_cons (ps_asg (pe_op op_add (pe_ix ix_list (pv 0) pe_int (fun _ _ => rfl)) pe_int) (pg_sub (pv 0) pe_int set_list))
    (pss_cons (ps_set (i := 2) scDrw.nd rfl (.inl rfl) (pe_op op_mod (pe_ix ix_list (pv 0) pe_int (fun _ _ => rfl)) (pe_callB (call_max2 rfl) (by rfl) mx (by decide +kernel) (pa_cons pe_int (pa_cons (pe_callB call_len_seq (by rfl) ml PySem.boot_len (pa_cons (pe_ix ix_list (pv 0) pe_int (fun _ _ => rfl)) pa_nil)) pa_nil)))))
    (pss_cons (ps_set (i := 3) scDrw.nd rfl (.inl rfl) (pe_ix ix_list (pe_op op_cat (pe_ix ix_list (pv 0) pe_int (fun _ _ => rfl)) (pe_lst (pa_cons pe_int pa_nil))) (pv 2) (fun _ _ => rfl)))
    (pss_cons (ps_if (pt_cmpR op_ge (pv 3) (pe_op op_pow pe_int pe_int) (nomark _))
      (pss_cons (ps_asg (pe_op op_fdiv (pv 3) (pv 1)) (pg_sub (pe_ix ix_list (pv 0) pe_int (fun _ _ => rfl)) (pv 2) set_list))
        (pss_one (ps_ret (pe_op op_mod (pv 3) (pv 1))))) pss_nil)
    (pss_cons (ps_set (i := 4) scDrw.nd rfl (.inl rfl) (pe_op op_mod (pe_op op_pow (pe_op op_add (pe_op op_add (pe_op op_mod (pv 3) pe_int) (pe_op op_mul pe_int (pe_ix ix_list (pv 0) pe_int (fun _ _ => rfl)))) pe_int) pe_int) pe_int))
    (pss_one (ps_ret (pe_op op_mod (pe_op op_add (pe_op op_fdiv (pv 4) pe_int) (pe_op op_mul pe_int (pe_ix ix_list (pv 0) pe_int (fun _ _ => rfl)))) (pv 1)))))))), ?_⟩
  -- deck[1] = deck[1] + 1
  refine ⟨.ref st, rfl, st, _, 1, .int n, rfl, rfl, SqL.of h1, rfl, _, _, rfl, rfl, .ref st, rfl, st, _, 1, 1, rfl, rfl, h1, rfl, ?_⟩
  generalize hH0 : upd H st (.lst (List.set [.ref a, .int n] 1 (.int (n + 1)))) = H0
  have hst : st ≠ a := ne_of h1 h2 (fun z => by
    have z' := HO.lst.inj z
    cases cells with
    | nil => cases z'
    | cons c cs => rw [List.map_cons] at z'; injection z' with z1; cases z1)
  have f1 : H0 st = some (.lst [.ref a, .int (n + 1)]) := by rw [← hH0, upd_same]; rfl
  have f2 : H0 a = some (.lst (cells.map V.int)) := by rw [← hH0, upd_ne hst.symm]; exact h2
  have keep0 : ∀ b o, ¬ DqM st a b → H b = some o → H0 b = some o := fun b o nb e => by rw [← hH0, upd_ne (fun z => nb (.inl z))]; exact e
  -- place
  refine ⟨.ref st, rfl, st, _, 1, .int (n + 1), rfl, rfl, SqL.of f1, rfl, .ref st, rfl, st, _, 0, .ref a, rfl, rfl, SqL.of f1, rfl, a, _, rfl, .inl (SqL.of f2), _, _, rfl, ?_⟩
  have hmx : ∃ mx : Int, (if ((cells.map V.int).length : Int) > 1 then ((cells.map V.int).length : Int) else 1) = mx ∧ 0 < mx ∧ mx ≤ (cells.length : Int) + 1 ∧ (mx - 1 ≤ (cells.length : Int)) := by
    refine ⟨_, rfl, ?_⟩
    rw [List.length_map]
    split <;> omega
  obtain ⟨mxv, emx, mx0, mx1, mx2⟩ := hmx
  refine ⟨_, _, rfl, rfl, by rw [emx]; exact mx0, ?_⟩
  dsimp only
  rw [emx]
  have i0 : 0 ≤ (n + 1) % mxv := Int.emod_nonneg _ (by omega)
  have i1 : (n + 1) % mxv < mxv := Int.emod_lt_of_pos _ mx0
  generalize (n + 1) % mxv = ix at i0 i1 ⊢
  obtain ⟨cv, c1, c2⟩ := cell_at (cells := cells) i0 (by omega)
  -- cell
  refine ⟨.ref st, rfl, st, _, 0, .ref a, rfl, rfl, SqL.of f1, rfl, (by show 1 ≤ sizeLine; decide), fun lp nlp => ?_⟩
  refine ⟨a, lp, _, _, rfl, rfl, by rw [upd_ne (ne_of_none f2 nlp)]; exact f2, upd_same, by rw [List.length_map]; exact small1000 (by omega), fun l2 nl2 => ?_⟩
  generalize hH1 : upd H0 lp (.lst [.int 0]) = H1 at nl2 ⊢
  have e1 : H1 st = some (.lst [.ref a, .int (n + 1)]) := by rw [← hH1, upd_ne (ne_of_none f1 nlp)]; exact f1
  have e2 : H1 a = some (.lst (cells.map V.int)) := by rw [← hH1, upd_ne (ne_of_none f2 nlp)]; exact f2
  have keep1 : ∀ b o, ¬ DqM st a b → H b = some o → H1 b = some o := fun b o nb e => by rw [← hH1, upd_ne (ne_of_none (keep0 b o nb e) nlp)]; exact keep0 b o nb e
  refine ⟨.int ix, rfl, l2, _, ix, _, rfl, rfl, SqL.of upd_same, c1, ?_⟩
  generalize hH2 : upd H1 l2 (.lst (cells.map V.int ++ [V.int 0])) = H2
  have g1 : H2 st = some (.lst [.ref a, .int (n + 1)]) := by rw [← hH2, upd_ne (ne_of_none e1 nl2)]; exact e1
  have g2 : H2 a = some (.lst (cells.map V.int)) := by rw [← hH2, upd_ne (ne_of_none e2 nl2)]; exact e2
  have keep2 : ∀ b o, ¬ DqM st a b → H b = some o → H2 b = some o := fun b o nb e => by rw [← hH2, upd_ne (ne_of_none (keep1 b o nb e) nl2)]; exact keep1 b o nb e
  have GG : DqG st a k H2 := ⟨cells, n + 1, g1, g2, hlen, by omega, by omega⟩
  have fin : ((cv % 2147483563 + 104729 * (n + 1) + 7).natAbs < 2 ^ 64) := by
    have := Int.emod_nonneg cv (b := 2147483563) (by decide)
    have := Int.emod_lt_of_pos cv (b := 2147483563) (by decide)
    omega
  -- if cell >= 10 ** 18
  refine ⟨.int cv, rfl, _, _, rfl, rfl, ⟨by decide, by decide, by decide⟩, _, _, rfl, rfl, _, rfl, ite2 (fun hbig => ?_) (fun _ => ?_)⟩
  · have c2 := c2 (of_decide_eq_true hbig)
    refine ⟨.int cv, rfl, .int m, rfl, _, _, rfl, rfl, ⟨hm0, hm1⟩, .ref st, rfl, st, _, 0, .ref a, rfl, rfl, SqL.of g1, rfl, .int ix, rfl, a, _, ix, _, rfl, rfl, g2, c2, ?_⟩
    refine ⟨.int cv, rfl, .int m, rfl, _, _, rfl, rfl, hm0, ?_⟩
    refine q _ (.int (cv % m)) _ (fun b o nb e => ?_) ?_ (.int _) ⟨m, _, rfl, rfl, Int.emod_nonneg _ (by omega), Int.emod_lt_of_pos _ hm0⟩
    · rw [upd_ne (fun z => nb (.inr z))]; exact keep2 b o nb e
    · have hset : (cells.map V.int).set ix.toNat (.int (cv / m)) = (cells.set ix.toNat (cv / m)).map V.int := by rw [List.map_set]
      rw [hset]
      exact ⟨cells.set ix.toNat (cv / m), n + 1, by rw [upd_ne hst]; exact g1, upd_same, by rw [List.length_set]; exact hlen, by omega, by omega⟩
  · refine ⟨.int cv, rfl, _, _, rfl, rfl, (by dsimp only; decide), .ref st, rfl, st, _, 1, .int (n + 1), rfl, rfl, SqL.of g1, rfl, _, _, rfl, rfl, .inl ⟨by decide, by decide⟩, _, _, rfl, rfl, _, _, rfl, rfl, _, _, rfl, rfl, ⟨by decide, by decide, fin⟩, _, _, rfl, rfl, (by dsimp only; decide), ?_⟩
    refine ⟨.int _, rfl, _, _, rfl, rfl, ⟨by decide, by decide⟩, .ref st, rfl, st, _, 1, .int (n + 1), rfl, rfl, SqL.of g1, rfl, _, _, rfl, rfl, .inl ⟨by decide, by decide⟩, _, _, rfl, rfl, .int m, rfl, _, _, rfl, rfl, hm0, ?_⟩
    exact q _ (.int _) _ keep2 GG (.int _) ⟨m, _, rfl, rfl, Int.emod_nonneg _ (by omega), Int.emod_lt_of_pos _ hm0⟩
end

abbrev nClo : List Str := ["_law_deck_here", "_law_n", "_law_tops", "_law_k", "_law_card", "_law_top"]
theorem scClo : FnScope nClo ["_law_deck_here", "_law_n"] (defScope (topS 13)) := ⟨rfl, rfl, rfl, by decide +kernel, rfl, by decide +kernel, by decide +kernel⟩
def PreN : List PyData → Prop := fun ds => ∃ n : Nat, ds = [.int (n : Int)] ∧ n ≤ 6
def RCards : Rel := fun ds d => ∃ (n : Nat) (as : List Int), ds = [.int (n : Int)] ∧ as.Sublist (rg (2 ^ n)) ∧ d = .list (as.map PyData.int)
section
variable {P : Program} {w : World} {K : PySem.W.Frag} {mg : Str → Option Value} {base : Heap}
theorem ok_clo {f : Addr} {fd : FuncData} (Fn : Fun K "_law_closed" "_law_closed" (topS 13) f fd) (mr : mg "range" = none) (gn : DFnQ P w K mg base 1 "_law_draw" 1 PreNext RNext) : FnG P w K mg base 2 f fd ["_law_deck_here", "_law_n"] (spDrawQ K 5 PreN RCards) := by
  refine draw_okQ (k := 1) Fn scClo (fun ds ⟨m, e, _⟩ => by rw [e]; rfl) (fun F s a ds kk dk hK ⟨n, e, hn⟩ => ?_)
  subst e
  have hp := pow_le64 hn
  refine wb_cons (ws_set 2 (by walk_at "tgt") (fun env h => by cases env; cases h; rfl) (we_compR0 3 (by walk_at "blk") rfl mr (fun _ => rfl) (fun _ _ => rfl) ?_))
  repeat walk_at "dq"
  refine ⟨⟨_, rfl, by decide, by decide⟩, kk + 4, rfl, ?_⟩
  rintro d ⟨m', z, e1, rfl, z0, z1⟩
  cases e1
  repeat walk_at "dq"
  refine ⟨fun j k acc => k + j = kk + 4 ∧ ∃ as : List Int, acc = as.map PyData.int ∧ as.length = j, 1 + z, rfl, by omega, by omega, ⟨rfl, [], rfl, rfl⟩, ?_, ?_⟩
  · rintro D j k acc hj ⟨hk, as, rfl, hal⟩
    have hKD : (F.ext D).K = K := hK
    obtain ⟨k2, rfl⟩ : ∃ k2, k = k2 + 1 := ⟨k - 1, by omega⟩
    repeat walk_at "dq"
    refine ⟨⟨by omega, by omega, by decide⟩, ?_⟩
    rw [one_shl]
    repeat walk_at "dq"
    refine ⟨⟨_, rfl, by omega, by omega⟩, k2, rfl, ?_⟩
    rintro d ⟨m', v, e1, rfl, v0, v1⟩
    cases e1
    exact ⟨by omega, as ++ [v], by rw [List.map_append]; rfl, by rw [List.length_append, hal]; rfl⟩
  rintro k acc ⟨hk, tops, rfl, htl⟩
  refine wb_cons (ws_ret (we_fR (fun c => !((tops.filter fun o => decide (Builtin.bitOr c o = o)).map PyData.int).isEmpty) PyData.int 4 (by walk_at "blk") rfl mr (fun _ => rfl) (fun _ _ => rfl) ?_))
  repeat walk_at "dq"
  refine ⟨⟨by omega, by omega, by decide⟩, ?_⟩
  rw [one_shl]
  refine ⟨_, rfl, by omega, by omega, fun D c c0 c1 => ?_, by omega, n, _, rfl, List.filter_sublist, rfl⟩
  have hKD : (F.ext D).K = K := hK
  refine wt_ne hKD (we_fL (fun o => decide (Builtin.bitOr c o = o)) PyData.int PyData.int 5 (by walk_at "blk") hKD (fun _ _ => rfl) ?_)
  repeat walk_at "dq"
  refine ⟨tops, rfl, by omega, fun D2 o ho => ?_, ?_⟩
  · refine wt_eqI ?_
    repeat walk_at "dq"
    refine ⟨rfl, rfl, fun _ => ?_⟩
    repeat walk_at "dq"
    exact ⟨rfl, rfl⟩
  repeat walk_at "dq"
  refine ⟨shaped_intsL _, shaped_intsL [], rfl, ?_, fun _ => ?_⟩
  · exact congrArg (!·) (eqv_nilL _)
  · repeat walk_at "dq"
    exact ⟨rfl, rfl⟩
end

abbrev nCds : List Str := ["_law_deck_here", "_law_n", "_law_way", "_law_every", "_law_chance", "_law_most", "_law_card", "_law_switch", "_law_other"]
theorem scCds : FnScope nCds ["_law_deck_here", "_law_n"] (defScope (topS 14)) := ⟨rfl, rfl, rfl, by decide +kernel, rfl, by decide +kernel, by decide +kernel⟩
section
variable {P : Program} {w : World} {K : PySem.W.Frag} {mg : Str → Option Value} {base : Heap}
theorem ok_cds {f : Addr} {fd : FuncData} (Fn : Fun K "_law_cards" "_law_cards" (topS 14) f fd) (mr : mg "range" = none) (ml : mg "list" = none) (ms : mg "sum" = none) (gn : DFnQ P w K mg base 1 "_law_draw" 1 PreNext RNext) (gc : DFnQ P w K mg base 2 "_law_closed" 5 PreN RCards) : FnG P w K mg base 3 f fd ["_law_deck_here", "_law_n"] (spDrawQ K 65 PreN RCards) := by
  refine draw_okQ (k := 2) Fn scCds (fun ds ⟨m, e, _⟩ => by rw [e]; rfl) (fun F s a ds kk dk hK ⟨n, e, hn⟩ => ?_)
  subst e
  have hp := pow_le64 hn
  have hrl : (rg ((2 : Int) ^ n)).length ≤ 64 := by rw [rg_length]; omega
  -- way
  refine wb_cons (ws_set 2 (by walk_at "tgt") (fun _ _ => rfl) ?_)
  repeat walk_at "dq"
  refine ⟨⟨_, rfl, by decide, by decide⟩, kk + 64, rfl, ?_⟩
  rintro d ⟨m', wy, e1, rfl, w0, w1⟩
  cases e1
  -- every
  refine wb_cons (ws_set 3 (by walk_at "tgt") (fun _ _ => rfl) (we_listRg rfl ml rfl mr (fun _ => rfl) (fun _ => rfl) ?_))
  repeat walk_at "dq"
  refine ⟨⟨by omega, by omega, by decide⟩, ?_⟩
  rw [one_shl]
  refine ⟨_, rfl, ⟨by omega, by omega⟩, ?_⟩
  refine wb_cons (ws_if (wt_lt ?_))
  repeat walk_at "dq"
  refine iteD (fun hw3 => ?_) (fun hw3 => ?_)
  · -- way < 3
    refine wb_cons (ws_set 4 (by walk_at "tgt") (fun _ _ => rfl) ?_)
    repeat walk_at "dq"
    obtain ⟨ch, hix⟩ : ∃ ch : Int, ixD (.list [.int 4, .int 7, .int 1]) (.int wy) = some (.int ch) := by
      have : wy = 0 ∨ wy = 1 ∨ wy = 2 := by omega
      rcases this with rfl | rfl | rfl
      · exact ⟨4, rfl⟩
      · exact ⟨7, rfl⟩
      · exact ⟨1, rfl⟩
    refine ⟨_, hix, ?_⟩
    refine wb_cons (ws_ret (we_compL1 6 (by walk_at "blk") hK (fun _ _ => rfl) ?_))
    repeat walk_at "dq"
    refine ⟨fun j k acc => k + j = kk + 64 ∧ ∃ as : List Int, acc = as.map PyData.int ∧ as.Sublist ((rg ((2 : Int) ^ n)).take j), _, rfl, by rw [List.length_map]; omega, ⟨rfl, [], rfl, by simp⟩, ?_, ?_⟩
    · rintro D j y k acc hy ⟨hk', as, rfl, hsub⟩
      rw [List.getElem?_map, Option.map_eq_some_iff] at hy
      obtain ⟨c, hc, rfl⟩ := hy
      have hj : j < 64 := Nat.lt_of_lt_of_le (List.getElem?_eq_some_iff.mp hc).1 hrl
      have tn := take_next hc
      have hKD : (F.ext D).K = K := hK
      obtain ⟨k2, rfl⟩ : ∃ k2, k = k2 + 1 := ⟨k - 1, by omega⟩
      refine wt_lt ?_
      repeat walk_at "dq"
      refine ⟨⟨_, rfl, by omega, by omega⟩, k2, rfl, ?_⟩
      rintro d ⟨m', v, e1, rfl, v0, v1⟩
      repeat walk_at "dq"
      refine iteD (fun _ => ?_) (fun _ => ?_)
      · repeat walk_at "dq"
        exact ⟨by omega, as ++ [c], by rw [List.map_append]; rfl, by rw [tn]; exact hsub.append (List.Sublist.refl _)⟩
      · exact ⟨by omega, as, rfl, by rw [tn]; exact hsub.trans (List.sublist_append_left _ _)⟩
    · rintro k acc ⟨hk', as, rfl, hsub⟩
      rw [List.length_map] at hk' hsub
      rw [List.take_length] at hsub
      exact ⟨by omega, n, as, rfl, hsub, rfl⟩
  refine wb_nil (wb_cons (ws_if (wt_eqI ?_)))
  repeat walk_at "dq"
  refine iteD (fun _ => ?_) (fun _ => ?_)
  · -- way 3
    refine wb_cons (ws_ret ?_)
    repeat walk_at "dq"
    refine ⟨⟨n, rfl, hn⟩, kk + 59, rfl, ?_⟩
    rintro d ⟨n', as, e1, hs, rfl⟩
    have : n' = n := by
      have := List.cons.inj e1
      have := PyData.int.inj this.1
      omega
    subst this
    exact ⟨by omega, n', as, rfl, hs, rfl⟩
  refine wb_nil (wb_cons (ws_if (wt_eqI ?_)))
  repeat walk_at "dq"
  refine iteD (fun _ => ?_) (fun _ => ?_)
  · -- way 4
    refine wb_cons (ws_set 5 (by walk_at "tgt") (fun _ _ => rfl) ?_)
    repeat walk_at "dq"
    refine ⟨⟨_, rfl, by omega, by omega⟩, kk + 63, rfl, ?_⟩
    rintro d ⟨m', mo, e1, rfl, o0, o1⟩
    cases e1
    refine wb_cons (ws_ret (we_fL (fun c => decide (((rg (n : Int)).map fun i => Builtin.bitAnd (c / 2 ^ i.toNat) 1).sum ≤ mo)) PyData.int PyData.int 6 (by walk_at "blk") hK (fun _ _ => rfl) ?_))
    repeat walk_at "dq"
    refine ⟨_, rfl, by omega, fun D c hc => ?_, by omega, n, _, rfl, List.filter_sublist, rfl⟩
    have hKD : (F.ext D).K = K := hK
    have hc' := mem_rg.mp hc
    refine wt_le (we_sum hKD rfl ms (fun _ => rfl) (we_mR (fun i => .int (Builtin.bitAnd (c / 2 ^ i.toNat) 1)) 7 (by walk_at "blk") rfl mr (fun _ => rfl) (fun _ _ => rfl) ?_))
    repeat walk_at "dq"
    refine ⟨by omega, by omega, fun D2 i i0 i1 => ?_, ?_⟩
    · repeat walk_at "dq"
      refine ⟨i0, ?_⟩
      repeat walk_at "dq"
      exact ⟨rfl, rfl⟩
    refine ⟨(rg (n : Int)).map fun i => Builtin.bitAnd (c / 2 ^ i.toNat) 1, by rw [List.map_map]; rfl, ?_⟩
    repeat walk_at "dq"
    refine ⟨rfl, rfl, fun _ => ?_⟩
    repeat walk_at "dq"
    exact ⟨rfl, rfl⟩
  refine wb_nil (wb_cons (ws_if (wt_eqI ?_)))
  repeat walk_at "dq"
  refine iteD (fun _ => ?_) (fun _ => ?_)
  · -- way 5
    refine wb_cons (ws_set 6 (by walk_at "tgt") (fun _ _ => rfl) ?_)
    repeat walk_at "dq"
    refine ⟨⟨by omega, by omega, by decide⟩, ?_⟩
    rw [one_shl]
    repeat walk_at "dq"
    refine ⟨⟨_, rfl, by omega, by omega⟩, kk + 63, rfl, ?_⟩
    rintro d ⟨m', cd, e1, rfl, o0, o1⟩
    cases e1
    refine wb_cons (ws_ret (we_fL (fun c => !decide (c ∈ [cd, 2 ^ n - 1 - cd])) PyData.int PyData.int 8 (by walk_at "blk") hK (fun _ _ => rfl) ?_))
    repeat walk_at "dq"
    refine ⟨_, rfl, by omega, fun D c hc => ?_, by omega, n, _, rfl, List.filter_sublist, rfl⟩
    have hKD : (F.ext D).K = K := hK
    refine wt_niI hKD rfl ?_
    repeat walk_at "dq"
    refine ⟨⟨by omega, by omega, by decide⟩, ?_⟩
    rw [one_shl]
    repeat walk_at "dq"
    refine ⟨c, [cd, 2 ^ n - 1 - cd], rfl, rfl, rfl, rfl, fun _ => ?_⟩
    repeat walk_at "dq"
    exact ⟨rfl, rfl⟩
  -- the rest
  refine wb_nil (wb_cons (ws_ret (we_ix hK (fun _ _ => rfl) (we_lst (wa_cons (fun _ => rfl) ?_)))))
  repeat walk_at "name"
  refine wa_cons (fun _ => rfl) (we_lst (wa_nil ⟨by decide, wa_cons (fun _ => rfl) (we_sliceTo (m := 1) hK ?_)⟩))
  repeat walk_at "name"
  refine ⟨_, rfl, wa_nil ⟨by show 3 ≤ sizeLine; decide, ?_⟩⟩
  repeat walk_at "dq"
  refine ⟨⟨_, rfl, by decide, by decide⟩, kk + 63, rfl, ?_⟩
  rintro d ⟨m', z, e1, rfl, z0, z1⟩
  cases e1
  have : z = 0 ∨ z = 1 ∨ z = 2 := by omega
  rcases this with rfl | rfl | rfl
  · exact ⟨_, rfl, by omega, n, rg (2 ^ n), rfl, List.Sublist.refl _, rfl⟩
  · exact ⟨_, rfl, by omega, n, [], rfl, List.nil_sublist _, rfl⟩
  · exact ⟨_, rfl, by omega, n, (rg (2 ^ n)).take 1, rfl, List.take_sublist _ _, by rw [List.map_take]⟩
end

abbrev nBx6 : List Str := ["_law_deck_here", "_law_least", "_law_most", "_law_n", "_law_mask", "_law_card"]
theorem scBx6 : FnScope nBx6 ["_law_deck_here", "_law_least", "_law_most"] (defScope (topS 15)) := ⟨rfl, rfl, rfl, by decide +kernel, rfl, by decide +kernel, by decide +kernel⟩
def PreBox60 : List PyData → Prop := fun ds => ∃ l m : Nat, ds = [.int (l : Int), .int (m : Int)] ∧ l ≤ m ∧ m ≤ 6
def RBox60 : Rel := fun ds d => ∃ (l m n : Nat) (cs : List Int), ds = [.int (l : Int), .int (m : Int)] ∧ l ≤ n ∧ n ≤ m ∧ IsBox n cs ∧ d = boxD n cs
section
variable {P : Program} {w : World} {K : PySem.W.Frag} {mg : Str → Option Value} {base : Heap}
theorem ok_box60 {f : Addr} {fd : FuncData} (Fn : Fun K "_law_box" "_law_box" (topS 15) f fd) (mt : mg "tuple" = none) (ms : mg "sorted" = none) (gn : DFnQ P w K mg base 1 "_law_draw" 1 PreNext RNext) (gc : DFnQ P w K mg base 3 "_law_cards" 65 PreN RCards) : FnG P w K mg base 4 f fd ["_law_deck_here", "_law_least", "_law_most"] (spDrawQ K 68 PreBox60 RBox60) := by
  refine draw_okQ (k := 3) Fn scBx6 (fun ds ⟨l, m, e, _⟩ => by rw [e]; rfl) (fun F s a ds kk dk hK ⟨l, m, e, hlm, hm⟩ => ?_)
  subst e
  -- n
  refine wb_cons (ws_set 3 (by walk_at "tgt") (fun _ _ => rfl) ?_)
  repeat walk_at "dq"
  refine ⟨⟨_, rfl, by omega, by omega⟩, kk + 67, rfl, ?_⟩
  rintro d ⟨m', z, e1, rfl, z0, z1⟩
  cases e1
  repeat walk_at "dq"
  obtain ⟨n, hn⟩ : ∃ n : Nat, (l : Int) + z = (n : Int) := ⟨((l : Int) + z).toNat, by omega⟩
  rw [hn]
  have hln : l ≤ n := by omega
  have hnm : n ≤ m := by omega
  have hn6 : n ≤ 6 := by omega
  have hp := pow_le64 hn6
  -- mask
  refine ws_set 4 (by walk_at "tgt") (fun _ _ => rfl) ?_
  repeat walk_at "dq"
  refine ⟨⟨by omega, by omega, by decide⟩, ?_⟩
  rw [one_shl]
  repeat walk_at "dq"
  refine ⟨⟨_, rfl, by omega, by omega⟩, kk + 66, rfl, ?_⟩
  rintro d ⟨m', fl, e1, rfl, f0, f1⟩
  cases e1
  repeat walk_at "dq"
  refine ⟨⟨_, rfl, by decide, by decide⟩, kk + 65, rfl, ?_⟩
  rintro d ⟨m', o, e1, rfl, o0, o1⟩
  cases e1
  repeat walk_at "dq"
  refine ⟨.inl ⟨by omega, by omega⟩, ?_⟩
  have hmk : 0 ≤ fl * o ∧ fl * o < 2 ^ n := by
    have : o = 0 ∨ o = 1 := by omega
    rcases this with rfl | rfl <;> omega
  generalize fl * o = mk at hmk ⊢
  refine wb_cons (ws_ret (we_tup (wa_cons (fun _ => rfl) ?_)))
  repeat walk_at "name"
  refine wa_cons (fun _ => rfl) (we_tuple hK rfl mt (fun _ => rfl) (we_sorted hK rfl ms (fun _ => rfl) (we_mL PyData.int (fun c : Int => .int (Builtin.bitXor c mk)) 5 (by walk_at "blk") hK (fun _ _ => rfl) ?_)))
  repeat walk_at "dq"
  refine ⟨⟨n, rfl, hn6⟩, kk, rfl, ?_⟩
  rintro d ⟨n', as, e1, hs, rfl⟩
  have : n' = n := by
    have := PyData.int.inj (List.cons.inj e1).1
    omega
  subst this
  refine ⟨as, rfl, Nat.le_trans hs.length_le (by rw [rg_length]; omega), fun D c hc => ?_, ?_⟩
  · repeat walk_at "dq"
    exact ⟨rfl, rfl⟩
  refine ⟨as.map fun c : Int => Builtin.bitXor c mk, by rw [List.map_map]; rfl, fun ms' hperm hw => ?_⟩
  repeat walk_at "dq"
  exact ⟨Nat.le_refl _, l, m, n', ms', rfl, hln, hnm, (xor_good hn6 hmk.1 hmk.2 hs).sorted hperm hw, rfl⟩
end


/-- the set image of a list of cards, as a box of m switches -/
def imgL (m : Nat) (g : Int → Int) (cs : List Int) : List Int := (rg (2 ^ m)).filter fun z => cs.any fun c => decide (g c = z)
theorem img_box (m : Nat) (g : Int → Int) (cs : List Int) : IsBox m (imgL m g cs) := ⟨rg_pairwise.filter _, fun c hc => mem_rg.mp (List.mem_filter.mp hc).1⟩
theorem mem_img {m : Nat} {g : Int → Int} {cs : List Int} (hr : ∀ c ∈ cs, 0 ≤ g c ∧ g c < 2 ^ m) (z : Int) : z ∈ imgL m g cs ↔ ∃ c ∈ cs, g c = z := by
  unfold imgL
  rw [List.mem_filter, List.any_eq_true, mem_rg]
  constructor
  · rintro ⟨_, c, hc, e⟩
    exact ⟨c, hc, of_decide_eq_true e⟩
  · rintro ⟨c, hc, rfl⟩
    exact ⟨hr c hc, c, hc, decide_eq_true rfl⟩
theorem img_uniq {m : Nat} {g : Int → Int} {cs ms : List Int} (hr : ∀ c ∈ cs, 0 ≤ g c ∧ g c < 2 ^ m) (hw : ms.Pairwise (· < ·)) (hm : ∀ z, z ∈ ms ↔ z ∈ cs.map g) : ms = imgL m g cs :=
  uniqI hw (img_box m g cs).asc fun z => by rw [hm, mem_img hr, List.mem_map]
theorem img_perm {m : Nat} {g : Int → Int} {cs ms : List Int} (hg : GoodC m (cs.map g)) (hp : ms.Perm (cs.map g)) (hw : ms.Pairwise (· ≤ ·)) : ms = imgL m g cs :=
  img_uniq (fun c hc => hg.rng _ (List.mem_map_of_mem hc)) (hg.sorted hp hw).asc fun z => hp.mem_iff
theorem img_congr {m : Nat} {g h : Int → Int} {cs : List Int} (e : ∀ c ∈ cs, g c = h c) : imgL m g cs = imgL m h cs := by
  unfold imgL
  refine List.filter_congr fun z _ => ?_
  rw [Bool.eq_iff_iff, List.any_eq_true, List.any_eq_true]
  constructor
  · rintro ⟨c, hc, q⟩; exact ⟨c, hc, by rw [← e c hc]; exact q⟩
  · rintro ⟨c, hc, q⟩; exact ⟨c, hc, by rw [e c hc]; exact q⟩
theorem img_img {m l : Nat} {g h : Int → Int} {cs : List Int} (hh : ∀ c ∈ cs, 0 ≤ h c ∧ h c < 2 ^ l) (hg : ∀ c ∈ cs, 0 ≤ g (h c) ∧ g (h c) < 2 ^ m) : imgL m g (imgL l h cs) = imgL m (fun c => g (h c)) cs := by
  refine uniqI (img_box _ _ _).asc (img_box _ _ _).asc fun z => ?_
  rw [mem_img, mem_img hg]
  · constructor
    · rintro ⟨c, hc, rfl⟩
      obtain ⟨b, hb, rfl⟩ := (mem_img hh c).mp hc
      exact ⟨b, hb, rfl⟩
    · rintro ⟨c, hc, rfl⟩
      exact ⟨h c, (mem_img hh _).mpr ⟨c, hc, rfl⟩, rfl⟩
  · intro c hc
    obtain ⟨b, hb, rfl⟩ := (mem_img hh c).mp hc
    exact hg b hb
theorem img_id {n : Nat} {cs : List Int} (hb : IsBox n cs) : imgL n (fun c => c) cs = cs :=
  uniqI (img_box _ _ _).asc hb.asc fun z => by rw [mem_img hb.rng]; exact ⟨fun ⟨c, hc, e⟩ => e ▸ hc, fun h => ⟨z, h, rfl⟩⟩
theorem box_sub {n : Nat} {cs : List Int} (hb : IsBox n cs) : cs.Sublist (rg (2 ^ n)) := by
  have : (rg (2 ^ n)).filter (fun c => decide (c ∈ cs)) = cs :=
    uniqI (rg_pairwise.filter _) hb.asc fun a => by
      rw [List.mem_filter, decide_eq_true_eq, mem_rg]
      exact ⟨fun h => h.2, fun h => ⟨hb.rng a h, h⟩⟩
  exact this ▸ List.filter_sublist
theorem shaped_box (n : Nat) (cs : List Int) : SeqAt.shaped (boxD n cs) = true := by
  obtain ⟨h1, h2⟩ := lay_ints cs
  simp [boxD, SeqAt.shaped, PyData.canLay0, PyData.canLayAll0, PyData.depth, PyData.depthAll, h1, h2]
theorem eqv_box (n m : Nat) (cs ds : List Int) : PyData.eqv (boxD n cs) (boxD m ds) = decide (n = m ∧ cs = ds) := by
  have := eqvAll_ints cs ds
  simp only [boxD, PyData.eqv, PyData.eqvAll, this]
  by_cases h1 : n = m <;> by_cases h2 : cs = ds <;> simp [h1, h2] <;> omega
theorem eqv_box_refl (n : Nat) (cs : List Int) : PyData.eqv (boxD n cs) (boxD n cs) = true := by rw [eqv_box]; simp
theorem iteNq {x y : PyData} {A B : Prop} (h : PyData.eqv x y = true) (q : B) : if (!PyData.eqv x y) = true then A else B := by rw [h, if_neg (by decide)]; exact q
theorem eqv_reflT {xs ys : List Int} (h : xs = ys) : PyData.eqv (.tuple (xs.map PyData.int)) (.tuple (ys.map PyData.int)) = true := by rw [eqv_intsT, decide_eq_true h]
theorem eqv_reflL {xs ys : List Int} (h : xs = ys) : PyData.eqv (.list (xs.map PyData.int)) (.list (ys.map PyData.int)) = true := by rw [eqv_intsL, decide_eq_true h]
theorem eqv_reflB {n m : Nat} {xs ys : List Int} (h1 : n = m) (h : xs = ys) : PyData.eqv (boxD n xs) (boxD m ys) = true := by rw [eqv_box, decide_eq_true ⟨h1, h⟩]

theorem xor_rng {n : Nat} (hn : n ≤ 6) {c f : Int} (hc : 0 ≤ c ∧ c < 2 ^ n) (hf : 0 ≤ f ∧ f < 2 ^ n) : 0 ≤ Builtin.bitXor c f ∧ Builtin.bitXor c f < 2 ^ n := by
  have hp := pow_le64 hn
  have h1 : ((2 ^ n : Nat) : Int) = (2 : Int) ^ n := by rw [Int.natCast_pow]; rfl
  obtain ⟨c, rfl⟩ : ∃ m : Nat, c = (m : Int) := ⟨c.toNat, by omega⟩
  obtain ⟨f, rfl⟩ : ∃ m : Nat, f = (m : Int) := ⟨f.toNat, by omega⟩
  rw [bxor_nat (by omega) (by omega)]
  have : c ^^^ f < 2 ^ n := Nat.xor_lt_two_pow (by omega) (by omega)
  omega
theorem xor_ll {n : Nat} (hn : n ≤ 6) {c f g : Int} (hc : 0 ≤ c ∧ c < 2 ^ n) (hf : 0 ≤ f ∧ f < 2 ^ n) (hg : 0 ≤ g ∧ g < 2 ^ n) : Builtin.bitXor (Builtin.bitXor c f) g = Builtin.bitXor c (Builtin.bitXor f g) := by
  have hp := pow_le64 hn
  have h1 : ((2 ^ n : Nat) : Int) = (2 : Int) ^ n := by rw [Int.natCast_pow]; rfl
  obtain ⟨c, rfl⟩ : ∃ m : Nat, c = (m : Int) := ⟨c.toNat, by omega⟩
  obtain ⟨f, rfl⟩ : ∃ m : Nat, f = (m : Int) := ⟨f.toNat, by omega⟩
  obtain ⟨g, rfl⟩ : ∃ m : Nat, g = (m : Int) := ⟨g.toNat, by omega⟩
  have a1 : c ^^^ f < 2 ^ n := Nat.xor_lt_two_pow (by omega) (by omega)
  have a2 : f ^^^ g < 2 ^ n := Nat.xor_lt_two_pow (by omega) (by omega)
  rw [bxor_nat (a := c) (b := f) (by omega) (by omega), bxor_nat (a := f) (b := g) (by omega) (by omega), bxor_nat (by omega) (by omega), bxor_nat (by omega) (by omega), Nat.xor_assoc]
theorem xor_xx {n : Nat} (hn : n ≤ 6) {c f : Int} (hc : 0 ≤ c ∧ c < 2 ^ n) (hf : 0 ≤ f ∧ f < 2 ^ n) : Builtin.bitXor (Builtin.bitXor c f) f = c := by
  have hp := pow_le64 hn
  have h1 : ((2 ^ n : Nat) : Int) = (2 : Int) ^ n := by rw [Int.natCast_pow]; rfl
  obtain ⟨c, rfl⟩ : ∃ m : Nat, c = (m : Int) := ⟨c.toNat, by omega⟩
  obtain ⟨f, rfl⟩ : ∃ m : Nat, f = (m : Int) := ⟨f.toNat, by omega⟩
  have a1 : c ^^^ f < 2 ^ n := Nat.xor_lt_two_pow (by omega) (by omega)
  rw [bxor_nat (a := c) (b := f) (by omega) (by omega), bxor_nat (by omega) (by omega), Nat.xor_assoc, Nat.xor_self, Nat.xor_zero]
theorem xor_and {n : Nat} (hn : n ≤ 6) {c f t : Int} (hc : 0 ≤ c ∧ c < 2 ^ n) (hf : 0 ≤ f ∧ f < 2 ^ n) (ht : 0 ≤ t ∧ t < 2 ^ n) : Builtin.bitAnd (Builtin.bitXor c f) t = Builtin.bitXor (Builtin.bitAnd c t) (Builtin.bitAnd f t) := by
  have hp := pow_le64 hn
  have h1 : ((2 ^ n : Nat) : Int) = (2 : Int) ^ n := by rw [Int.natCast_pow]; rfl
  obtain ⟨c, rfl⟩ : ∃ m : Nat, c = (m : Int) := ⟨c.toNat, by omega⟩
  obtain ⟨f, rfl⟩ : ∃ m : Nat, f = (m : Int) := ⟨f.toNat, by omega⟩
  obtain ⟨t, rfl⟩ : ∃ m : Nat, t = (m : Int) := ⟨t.toNat, by omega⟩
  have a1 : c &&& t ≤ c := Nat.and_le_left
  have a2 : f &&& t ≤ f := Nat.and_le_left
  rw [bxor_nat (by omega) (by omega), band_nat, band_nat, band_nat, bxor_nat (by omega) (by omega), Nat.and_xor_distrib_right]
theorem and_rng {n : Nat} {c t : Int} (hc : 0 ≤ c ∧ c < 2 ^ n) (ht : 0 ≤ t) : 0 ≤ Builtin.bitAnd c t ∧ Builtin.bitAnd c t < 2 ^ n := by
  obtain ⟨c, rfl⟩ : ∃ m : Nat, c = (m : Int) := ⟨c.toNat, by omega⟩
  obtain ⟨t, rfl⟩ : ∃ m : Nat, t = (m : Int) := ⟨t.toNat, by omega⟩
  have a1 : c &&& t ≤ c := Nat.and_le_left
  rw [band_nat]; omega
def flipL (n : Nat) (cs : List Int) (f : Int) : List Int := imgL n (fun c => Builtin.bitXor c f) cs
theorem flip_box (n : Nat) (cs : List Int) (f : Int) : IsBox n (flipL n cs f) := img_box _ _ _
theorem flip_rng {n : Nat} {cs : List Int} {f : Int} (hn : n ≤ 6) (hb : IsBox n cs) (hf : 0 ≤ f ∧ f < 2 ^ n) : ∀ c ∈ cs, 0 ≤ Builtin.bitXor c f ∧ Builtin.bitXor c f < 2 ^ n := fun c hc => xor_rng hn (hb.rng c hc) hf
theorem flip_flip {n : Nat} {cs : List Int} {f g : Int} (hn : n ≤ 6) (hb : IsBox n cs) (hf : 0 ≤ f ∧ f < 2 ^ n) (hg : 0 ≤ g ∧ g < 2 ^ n) : flipL n (flipL n cs f) g = flipL n cs (Builtin.bitXor f g) := by
  unfold flipL
  rw [img_img (g := fun c => Builtin.bitXor c g) (h := fun c => Builtin.bitXor c f) (flip_rng hn hb hf) (fun c hc => xor_rng hn (xor_rng hn (hb.rng c hc) hf) hg)]
  exact img_congr fun c hc => xor_ll hn (hb.rng c hc) hf hg
theorem flip_back {n : Nat} {cs : List Int} {f : Int} (hn : n ≤ 6) (hb : IsBox n cs) (hf : 0 ≤ f ∧ f < 2 ^ n) : flipL n (flipL n cs f) f = cs := by
  unfold flipL
  rw [img_img (g := fun c => Builtin.bitXor c f) (h := fun c => Builtin.bitXor c f) (flip_rng hn hb hf) (fun c hc => xor_rng hn (xor_rng hn (hb.rng c hc) hf) hf), img_congr (h := fun c => c) fun c hc => xor_xx hn (hb.rng c hc) hf]
  exact img_id hb
theorem mem_flip {n : Nat} {cs : List Int} {f : Int} (hn : n ≤ 6) (hb : IsBox n cs) (hf : 0 ≤ f ∧ f < 2 ^ n) (z : Int) : z ∈ flipL n cs f ↔ ∃ c ∈ cs, Builtin.bitXor c f = z := mem_img (flip_rng hn hb hf) z
theorem flip_pats {n : Nat} {cs : List Int} {f t : Int} (hn : n ≤ 6) (hb : IsBox n cs) (hf : 0 ≤ f ∧ f < 2 ^ n) (ht : 0 ≤ t ∧ t < 2 ^ n) (z : Int) : z ∈ patsL (flipL n cs f) t ↔ z ∈ (patsL cs t).map fun p => Builtin.bitXor p (Builtin.bitAnd f t) := by
  rw [mem_pats (box_ge (flip_box n cs f)) ht.1, List.mem_map, List.mem_map]
  constructor
  · rintro ⟨c, hc, rfl⟩
    obtain ⟨b, hb', rfl⟩ := (mem_flip hn hb hf c).mp hc
    exact ⟨Builtin.bitAnd b t, (mem_pats (box_ge hb) ht.1 _).mpr (List.mem_map_of_mem hb'), (xor_and hn (hb.rng b hb') hf ht).symm⟩
  · rintro ⟨p, hp, rfl⟩
    obtain ⟨b, hb', rfl⟩ := List.mem_map.mp ((mem_pats (box_ge hb) ht.1 p).mp hp)
    exact ⟨_, (mem_flip hn hb hf _).mpr ⟨b, hb', rfl⟩, xor_and hn (hb.rng b hb') hf ht⟩
theorem pats_rng {n : Nat} {cs : List Int} {t : Int} (hb : IsBox n cs) (ht : 0 ≤ t ∧ t < 2 ^ n) : IsBox n (patsL cs t) := by
  refine ⟨(parts_asc t).filter _, fun z hz => ?_⟩
  obtain ⟨b, hb', rfl⟩ := List.mem_map.mp ((mem_pats (box_ge hb) ht.1 z).mp hz)
  exact and_rng (hb.rng b hb') ht.1
theorem flip_good {n : Nat} {cs : List Int} {f t : Int} (hn : n ≤ 6) (hb : IsBox n cs) (hf : 0 ≤ f ∧ f < 2 ^ n) (ht : 0 ≤ t ∧ t < 2 ^ n) : GoodC n ((patsL cs t).map fun p => Builtin.bitXor p (Builtin.bitAnd f t)) := by
  have h := and_rng hf ht.1
  exact xor_good hn h.1 h.2 (box_sub (pats_rng hb ht))
theorem flip_shown {n : Nat} {cs : List Int} {f t : Int} (hn : n ≤ 6) (hb : IsBox n cs) (hf : 0 ≤ f ∧ f < 2 ^ n) (ht : 0 ≤ t ∧ t < 2 ^ n) : shownB (flipL n cs f) t = shownB cs t := by
  rw [← shown_len, ← shown_len]
  have := permA (asc_nodup (pats_rng (flip_box n cs f) ht).asc) (flip_good hn hb hf ht).nd (flip_pats hn hb hf ht)
  rw [this, List.length_map]
theorem flip_due {n : Nat} {cs ms : List Int} {f t : Int} (hn : n ≤ 6) (hb : IsBox n cs) (hf : 0 ≤ f ∧ f < 2 ^ n) (ht : 0 ≤ t ∧ t < 2 ^ n) (hp : ms.Perm ((patsL cs t).map fun p => Builtin.bitXor p (Builtin.bitAnd f t))) (hw : ms.Pairwise (· ≤ ·)) : patsL (flipL n cs f) t = ms :=
  uniqI (pats_rng (flip_box n cs f) ht).asc ((flip_good hn hb hf ht).sorted hp hw).asc fun z => (flip_pats hn hb hf ht z).trans hp.mem_iff.symm

def bitB (s k : Int) : Bool := decide (Builtin.bitAnd (s / 2 ^ k.toNat) 1 = 1)
def woI (c k : Int) : Int := c / 2 ^ (k + 1).toNat * 2 ^ k.toNat + Builtin.bitAnd c (1 * 2 ^ k.toNat - 1)
def bitN (c k : Nat) : Bool := decide (c / 2 ^ k % 2 = 1)
def woN (c k : Nat) : Nat := c / 2 ^ (k + 1) * 2 ^ k + c % 2 ^ k
def widN (m k : Nat) : Nat := m % 2 ^ k + m / 2 ^ k * 2 * 2 ^ k
theorem cast2 (k : Nat) : (2 : Int) ^ k = ((2 ^ k : Nat) : Int) := by rw [Int.natCast_pow]; rfl
theorem band1 (c : Nat) : Builtin.bitAnd (c : Int) 1 = ((c % 2 : Nat) : Int) := by
  have := band_nat c 1
  rw [Nat.and_one_is_mod] at this
  exact this
theorem bit_nat (c k : Nat) : bitB (c : Int) (k : Int) = bitN c k := by
  unfold bitB bitN
  rw [Int.toNat_natCast, cast2, ← Int.natCast_ediv, band1]
  exact decide_eq_decide.mpr (by omega)
theorem wo_nat (c k : Nat) : woI (c : Int) (k : Int) = ((woN c k : Nat) : Int) := by
  unfold woI woN
  have h1 : (((k : Nat) : Int) + 1).toNat = k + 1 := by omega
  have hp := Nat.two_pow_pos k
  have h2 : (1 : Int) * ((2 ^ k : Nat) : Int) - 1 = ((2 ^ k - 1 : Nat) : Int) := by omega
  rw [h1, Int.toNat_natCast, cast2, cast2, h2, band_nat, Nat.and_two_pow_sub_one_eq_mod, ← Int.natCast_ediv, ← Int.natCast_mul, ← Int.natCast_add]
theorem wo_rngN : ∀ n ≤ 6, ∀ k < n, ∀ c < 2 ^ n, woN c k < 2 ^ (n - 1) := by decide +kernel
theorem wo_mono : ∀ k < 6, ∀ b < 64, ∀ a < b, bitN a k = bitN b k → woN a k < woN b k := by decide +kernel
theorem wo_wid : ∀ k < 6, ∀ c < 64, widN (woN c k) k + (if bitN c k then 2 ^ k else 0) = c := by decide +kernel
theorem wid_wo : ∀ k < 6, ∀ m < 32, woN (widN m k) k = m ∧ woN (widN m k + 2 ^ k) k = m ∧ bitN (widN m k) k = false ∧ bitN (widN m k + 2 ^ k) k = true := by decide +kernel
theorem wid_rngN : ∀ n ≤ 6, ∀ k < n, ∀ m < 2 ^ (n - 1), widN m k + 2 ^ k < 2 ^ n := by decide +kernel
theorem wo_comm : ∀ k < 6, ∀ j < k, ∀ c < 64, woN (woN c k) j = woN (woN c j) (k - 1) := by decide +kernel
theorem pow_pred {n : Nat} (hn : 0 < n) : (((n : Nat) : Int) - 1) = ((n - 1 : Nat) : Int) := by omega
theorem to_nat {n : Nat} {c : Int} (hc : 0 ≤ c ∧ c < 2 ^ n) : ∃ m : Nat, c = (m : Int) ∧ m < 2 ^ n := by
  rw [cast2] at hc
  exact ⟨c.toNat, by omega, by omega⟩
theorem lt64 {n m : Nat} (hn : n ≤ 6) (h : m < 2 ^ n) : m < 64 := Nat.lt_of_lt_of_le h (Nat.pow_le_pow_right (by decide) hn)
theorem wo_rng {n k : Nat} (hn : n ≤ 6) (hk : k < n) {c : Int} (hc : 0 ≤ c ∧ c < 2 ^ n) : 0 ≤ woI c k ∧ woI c k < 2 ^ (n - 1) := by
  obtain ⟨m, rfl, hm⟩ := to_nat hc
  rw [wo_nat, cast2]
  have := wo_rngN n hn k hk m hm
  omega
def dropL (n : Nat) (cs : List Int) (k : Nat) : List Int := imgL (n - 1) (fun c => woI c k) cs
def holdL (n : Nat) (cs : List Int) (k : Nat) (on : Bool) : List Int := imgL (n - 1) (fun c => woI c k) (cs.filter fun c => bitB c k == on)
def edgeL (n : Nat) (cs : List Int) (k : Nat) : List Int := (holdL n cs k false).filter fun c => decide (c ∈ holdL n cs k true)
theorem drop_box (n : Nat) (cs : List Int) (k : Nat) : IsBox (n - 1) (dropL n cs k) := img_box _ _ _
theorem hold_box (n : Nat) (cs : List Int) (k : Nat) (on : Bool) : IsBox (n - 1) (holdL n cs k on) := img_box _ _ _
theorem filter_box {n : Nat} {cs : List Int} (hb : IsBox n cs) (p : Int → Bool) : IsBox n (cs.filter p) := ⟨hb.asc.filter _, fun c hc => hb.rng c (List.mem_filter.mp hc).1⟩
theorem edge_isbox (n : Nat) (cs : List Int) (k : Nat) : IsBox (n - 1) (edgeL n cs k) := filter_box (hold_box _ _ _ _) _
theorem wo_rngL {n k : Nat} {cs : List Int} (hn : n ≤ 6) (hk : k < n) (hb : IsBox n cs) : ∀ c ∈ cs, 0 ≤ woI c k ∧ woI c k < 2 ^ (n - 1) := fun c hc => wo_rng hn hk (hb.rng c hc)
theorem hold_map {n k : Nat} {cs : List Int} {on : Bool} (hn : n ≤ 6) (hk : k < n) (hb : IsBox n cs) : (cs.filter fun c => bitB c k == on).map (fun c => woI c k) = holdL n cs k on := by
  have hf := filter_box hb fun c => bitB c k == on
  refine img_uniq (wo_rngL hn hk hf) ?_ fun z => Iff.rfl
  rw [List.pairwise_map]
  refine (List.Pairwise.and_mem.mp hf.asc).imp ?_
  rintro a b ⟨ha, hb', hlt⟩
  obtain ⟨a', rfl, ha1⟩ := to_nat (hf.rng a ha)
  obtain ⟨b', rfl, hb1⟩ := to_nat (hf.rng b hb')
  have e1 : bitN a' k = on := by have := (List.mem_filter.mp ha).2; rw [bit_nat] at this; exact eq_of_beq this
  have e2 : bitN b' k = on := by have := (List.mem_filter.mp hb').2; rw [bit_nat] at this; exact eq_of_beq this
  rw [wo_nat, wo_nat]
  have := wo_mono k (by omega) b' (lt64 hn hb1) a' (by omega) (by rw [e1, e2])
  omega
theorem drop_drop {n k j : Nat} {cs : List Int} (hn : n ≤ 6) (hk : k < n) (hj : j < k) (hb : IsBox n cs) : dropL (n - 1) (dropL n cs k) j = dropL (n - 1) (dropL n cs j) (k - 1) := by
  unfold dropL
  rw [img_img (g := fun c => woI c j) (h := fun c => woI c k) (wo_rngL hn hk hb) (fun c hc => wo_rng (by omega) (by omega) (wo_rng hn hk (hb.rng c hc))), img_img (g := fun c => woI c (k - 1 : Nat)) (h := fun c => woI c j) (wo_rngL hn (by omega) hb) (fun c hc => wo_rng (by omega) (by omega) (wo_rng hn (by omega) (hb.rng c hc)))]
  refine img_congr fun c hc => ?_
  obtain ⟨m, rfl, hm⟩ := to_nat (hb.rng c hc)
  rw [wo_nat, wo_nat, wo_nat, wo_nat, wo_comm k (by omega) j hj m (lt64 hn hm)]
theorem mem_drop {n k : Nat} {cs : List Int} (hn : n ≤ 6) (hk : k < n) (hb : IsBox n cs) (z : Int) : z ∈ dropL n cs k ↔ ∃ c ∈ cs, woI c k = z := mem_img (wo_rngL hn hk hb) z
theorem mem_hold {n k : Nat} {cs : List Int} {on : Bool} (hn : n ≤ 6) (hk : k < n) (hb : IsBox n cs) (z : Int) : z ∈ holdL n cs k on ↔ ∃ c ∈ cs, bitB c k = on ∧ woI c k = z := by
  unfold holdL
  rw [mem_img (wo_rngL hn hk (filter_box hb _))]
  constructor
  · rintro ⟨c, hc, e⟩
    have := List.mem_filter.mp hc
    exact ⟨c, this.1, eq_of_beq this.2, e⟩
  · rintro ⟨c, hc, e1, e2⟩
    exact ⟨c, List.mem_filter.mpr ⟨hc, by rw [e1]; exact beq_self_eq_true _⟩, e2⟩

def digL (n : Nat) (c : Int) : List Int := (rg (n : Int)).map fun i => Builtin.bitAnd (c / 2 ^ i.toNat) 1
def numL (xs : List Int) : Int := (xs.mapIdx fun i x => x * 2 ^ i).sum
def digN (n c : Nat) : List Nat := (List.range n).map fun i => c / 2 ^ i % 2
def numN : List Nat → Nat
  | [] => 0
  | x :: xs => x + 2 * numN xs
theorem dig_nat (n c : Nat) : digL n (c : Int) = (digN n c).map fun (i : Nat) => (i : Int) := by
  unfold digL digN rg
  rw [Int.toNat_natCast, List.map_map, List.map_map]
  refine List.map_congr_left fun i _ => ?_
  show Builtin.bitAnd ((c : Int) / 2 ^ ((i : Int)).toNat) 1 = _
  rw [Int.toNat_natCast, cast2, ← Int.natCast_ediv, band1]; rfl
theorem numG : ∀ (xs : List Nat) (m : Nat), ((xs.map fun (i : Nat) => (i : Int)).mapIdx fun i x => x * 2 ^ (i + m)).sum = ((2 ^ m * numN xs : Nat) : Int)
  | [], m => by simp [numN]
  | x :: xs, m => by
    rw [List.map_cons, List.mapIdx_cons, List.sum_cons]
    have e : (fun (i : Nat) (y : Int) => y * 2 ^ (i + 1 + m)) = fun i y => y * 2 ^ (i + (m + 1)) := by
      funext i y
      rw [show i + 1 + m = i + (m + 1) by omega]
    rw [e, numG xs (m + 1), Nat.zero_add, cast2]
    show _ = ((2 ^ m * (x + 2 * numN xs) : Nat) : Int)
    rw [Nat.mul_add, ← Nat.mul_assoc, ← Nat.pow_succ, Int.natCast_add, Nat.mul_comm (2 ^ m) x, Int.natCast_mul, Int.natCast_mul]
theorem num_nat (xs : List Nat) : numL (xs.map fun (i : Nat) => (i : Int)) = ((numN xs : Nat) : Int) := by
  have := numG xs 0
  rw [Nat.pow_zero, Nat.one_mul] at this
  exact this
theorem dig_len (n : Nat) (c : Int) : (digL n c).length = n := by unfold digL; rw [List.length_map, rg_length]; omega
theorem dig_bit (n : Nat) (c : Nat) : ∀ x ∈ digL n (c : Int), x = 0 ∨ x = 1 := by
  intro x hx
  rw [dig_nat, List.mem_map] at hx
  obtain ⟨i, hi, rfl⟩ := hx
  unfold digN at hi
  obtain ⟨j, _, rfl⟩ := List.mem_map.mp hi
  show ((c / 2 ^ j % 2 : Nat) : Int) = 0 ∨ _
  omega
theorem wo_dig : ∀ n ≤ 6, ∀ k < n, ∀ c < 2 ^ n, numN ((digN n c).take k ++ (digN n c).drop (k + 1)) = woN c k := by decide +kernel
theorem wo_due {n k : Nat} (hn : n ≤ 6) (hk : k < n) {c : Int} (hc : 0 ≤ c ∧ c < 2 ^ n) : numL ((digL n c).take k ++ (digL n c).drop (k + 1)) = woI c k := by
  obtain ⟨m, rfl, hm⟩ := to_nat hc
  rw [dig_nat, ← List.map_take, ← List.map_drop, ← List.map_append, num_nat, wo_dig n hn k hk m hm, wo_nat]

theorem ins_dig : ∀ n < 6, ∀ k ≤ n, ∀ m < 2 ^ n, numN ((digN n m).take k ++ 0 :: (digN n m).drop k) = widN m k ∧ numN ((digN n m).take k ++ 1 :: (digN n m).drop k) = widN m k + 2 ^ k := by decide +kernel
theorem cd_bit {k : Nat} {c m : Nat} (hk : k < 6) (hc : c < 64) (e : woN c k = m) : c = widN m k + (if bitN c k then 2 ^ k else 0) := by
  rw [← e, wo_wid k hk c hc]
theorem mem_holdN {n k : Nat} {cs : List Int} {on : Bool} (hn : n ≤ 6) (hk : k < n) (hb : IsBox n cs) {m : Nat} (hm : m < 2 ^ (n - 1)) : (m : Int) ∈ holdL n cs k on ↔ ((widN m k + (if on then 2 ^ k else 0) : Nat) : Int) ∈ cs := by
  have hm32 : m < 32 := Nat.lt_of_lt_of_le hm (by have : n - 1 ≤ 5 := by omega
                                                  exact Nat.pow_le_pow_right (n := 2) (by decide) this)
  rw [mem_hold hn hk hb]
  constructor
  · rintro ⟨c, hc, e1, e2⟩
    obtain ⟨c, rfl, hcl⟩ := to_nat (hb.rng c hc)
    rw [bit_nat] at e1
    rw [wo_nat] at e2
    have e3 := cd_bit (k := k) (m := m) (by omega) (lt64 hn hcl) (by omega)
    rw [e1] at e3
    rw [← e3]; exact hc
  · intro h
    obtain ⟨w1, w2, w3, w4⟩ := wid_wo k (by omega) m hm32
    refine ⟨_, h, ?_, ?_⟩
    · rw [bit_nat]; cases on <;> simp only [Bool.false_eq_true, if_true, if_false, Nat.add_zero] <;> assumption
    · rw [wo_nat]; cases on <;> simp only [Bool.false_eq_true, if_true, if_false, Nat.add_zero] <;> omega
theorem mem_edge {n k : Nat} {cs : List Int} (hn : n ≤ 6) (hk : k < n) (hb : IsBox n cs) {m : Nat} (hm : m < 2 ^ (n - 1)) : (m : Int) ∈ edgeL n cs k ↔ ((widN m k : Nat) : Int) ∈ cs ∧ ((widN m k + 2 ^ k : Nat) : Int) ∈ cs := by
  unfold edgeL
  rw [List.mem_filter, decide_eq_true_eq, mem_holdN hn hk hb hm, mem_holdN hn hk hb hm]
  simp
theorem mem_dropN {n k : Nat} {cs : List Int} (hn : n ≤ 6) (hk : k < n) (hb : IsBox n cs) {m : Nat} (hm : m < 2 ^ (n - 1)) : (m : Int) ∈ dropL n cs k ↔ ((widN m k : Nat) : Int) ∈ cs ∨ ((widN m k + 2 ^ k : Nat) : Int) ∈ cs := by
  have h1 := mem_holdN (on := false) hn hk hb hm
  have h2 := mem_holdN (on := true) hn hk hb hm
  simp only [Bool.false_eq_true, if_true, if_false, Nat.add_zero] at h1 h2
  rw [← h1, ← h2, mem_hold hn hk hb, mem_hold hn hk hb, mem_drop hn hk hb]
  constructor
  · rintro ⟨c, hc, e⟩
    cases hbt : bitB c k with
    | false => exact .inl ⟨c, hc, hbt, e⟩
    | true => exact .inr ⟨c, hc, hbt, e⟩
  · rintro (⟨c, hc, _, e⟩ | ⟨c, hc, _, e⟩) <;> exact ⟨c, hc, e⟩
theorem box_ext {n : Nat} {as bs : List Int} (ha : IsBox n as) (hb : IsBox n bs) (h : ∀ m : Nat, m < 2 ^ n → ((m : Int) ∈ as ↔ (m : Int) ∈ bs)) : as = bs := by
  refine uniqI ha.asc hb.asc fun z => ?_
  constructor
  · intro hz
    obtain ⟨m, rfl, hm⟩ := to_nat (ha.rng z hz)
    exact (h m hm).mp hz
  · intro hz
    obtain ⟨m, rfl, hm⟩ := to_nat (hb.rng z hz)
    exact (h m hm).mpr hz
theorem wid_rng1 {n k m : Nat} (hn : n ≤ 6) (hk : k < n) (hm : m < 2 ^ (n - 1)) : widN m k < 2 ^ n ∧ widN m k + 2 ^ k < 2 ^ n := by
  have := wid_rngN n hn k hk m hm
  have := Nat.two_pow_pos k
  omega
theorem wid_comm : ∀ k < 6, ∀ j < k, ∀ m < 16, widN (widN m j) k = widN (widN m (k - 1)) j ∧ widN (widN m j + 2 ^ j) k = widN (widN m (k - 1)) j + 2 ^ j ∧ widN (widN m j) k + 2 ^ k = widN (widN m (k - 1) + 2 ^ (k - 1)) j ∧ widN (widN m j + 2 ^ j) k + 2 ^ k = widN (widN m (k - 1) + 2 ^ (k - 1)) j + 2 ^ j := by decide +kernel
theorem edge_edge {n k j : Nat} {cs : List Int} (hn : n ≤ 6) (hk : k < n) (hj : j < k) (hb : IsBox n cs) : edgeL (n - 1) (edgeL n cs k) j = edgeL (n - 1) (edgeL n cs j) (k - 1) := by
  refine box_ext (edge_isbox _ _ _) (edge_isbox _ _ _) fun m hm => ?_
  have hm16 : m < 16 := Nat.lt_of_lt_of_le hm (by have : n - 1 - 1 ≤ 4 := by omega
                                                  exact Nat.pow_le_pow_right (n := 2) (by decide) this)
  obtain ⟨c1, c2, c3, c4⟩ := wid_comm k (by omega) j hj m hm16
  have r1 := wid_rng1 (n := n - 1) (k := j) (m := m) (by omega) (by omega) hm
  have r2 := wid_rng1 (n := n - 1) (k := k - 1) (m := m) (by omega) (by omega) hm
  rw [mem_edge (by omega) (by omega) (edge_isbox _ _ _) hm, mem_edge (by omega) (by omega) (edge_isbox _ _ _) hm, mem_edge hn hk hb r1.1, mem_edge hn hk hb r1.2, mem_edge hn (by omega) hb r2.1, mem_edge hn (by omega) hb r2.2, c3, c4, c1, c2]
  constructor
  · rintro ⟨⟨a, b⟩, c, d⟩; exact ⟨⟨a, c⟩, b, d⟩
  · rintro ⟨⟨a, b⟩, c, d⟩; exact ⟨⟨a, c⟩, b, d⟩
theorem edge_full {n k : Nat} (hn : n ≤ 6) (hk : k < n) : edgeL n (rg (2 ^ n)) k = rg (2 ^ (n - 1)) := by
  have hf : ∀ n, IsBox n (rg (2 ^ n)) := fun n => ⟨rg_pairwise, fun _ h => mem_rg.mp h⟩
  refine box_ext (edge_isbox _ _ _) (hf _) fun m hm => ?_
  have r1 := wid_rng1 hn hk hm
  have := Nat.two_pow_pos k
  rw [mem_edge hn hk (hf n) hm, mem_rg, mem_rg, mem_rg, cast2, cast2]
  constructor
  · intro _; omega
  · intro _; omega
theorem xor_bit : ∀ k < 6, ∀ c < 64, (c ^^^ 2 ^ k) = widN (woN c k) k + (if bitN c k then 0 else 2 ^ k) := by decide +kernel
theorem edge_two {n k : Nat} {c : Nat} {ts : List Int} (hn : n ≤ 6) (hk : k < n) (hc : c < 2 ^ n) (hb : IsBox n ts) (ht : ∀ z : Int, z ∈ ts ↔ z = (c : Int) ∨ z = ((c ^^^ 2 ^ k : Nat) : Int)) : (edgeL n ts k).length = 1 := by
  have hc64 := lt64 hn hc
  have hw := wo_rngN n hn k hk c hc
  have e1 := wo_wid k (by omega) c hc64
  have e2 := xor_bit k (by omega) c hc64
  have hp := Nat.two_pow_pos k
  have : edgeL n ts k = [((woN c k : Nat) : Int)] := by
    refine box_ext (n := n - 1) (edge_isbox _ _ _) ⟨List.pairwise_singleton _ _, fun z hz => ?_⟩ fun m hm => ?_
    · have : z = ((woN c k : Nat) : Int) := by simpa using hz
      rw [this, cast2]; omega
    rw [mem_edge hn hk hb hm, ht, ht, List.mem_singleton]
    have hm32 : m < 32 := Nat.lt_of_lt_of_le hm (by have : n - 1 ≤ 5 := by omega
                                                    exact Nat.pow_le_pow_right (n := 2) (by decide) this)
    obtain ⟨w1, w2, w3, w4⟩ := wid_wo k (by omega) m hm32
    constructor
    · rintro ⟨h1 | h1, _⟩
      · have : widN m k = c := by omega
        rw [this] at w1; omega
      · have h2 : widN m k = c ^^^ 2 ^ k := by omega
        have h3 : woN (c ^^^ 2 ^ k) k = woN c k := by
          have hw32 : woN c k < 32 := Nat.lt_of_lt_of_le hw (by have : n - 1 ≤ 5 := by omega
                                                                exact Nat.pow_le_pow_right (n := 2) (by decide) this)
          obtain ⟨v1, v2, v3, v4⟩ := wid_wo k (by omega) (woN c k) hw32
          rw [e2]; split <;> assumption
        rw [h2, h3] at w1; omega
    · intro h1
      have h2 : m = woN c k := by omega
      subst h2
      cases hbt : bitN c k with
      | false =>
        rw [hbt] at e1 e2
        simp only [Bool.false_eq_true, if_false, Nat.add_zero] at e1 e2
        rw [← e2, e1]; exact ⟨.inl rfl, .inr rfl⟩
      | true =>
        rw [hbt] at e1 e2
        simp only [if_true, Nat.add_zero] at e1 e2
        rw [e1, ← e2]; exact ⟨.inr rfl, .inl rfl⟩
  rw [this]; rfl

def partL (w n : Nat) (cs : List Int) (k : Nat) (on : Bool) : List Int :=
  match w with
  | 0 => holdL n cs k on
  | 1 => dropL n cs k
  | _ => edgeL n cs k
def partP (w : Nat) (on : Bool) (a b : Prop) : Prop :=
  match w with
  | 0 => if on = true then b else a
  | 1 => a ∨ b
  | _ => a ∧ b
theorem part_isbox (w n : Nat) (cs : List Int) (k : Nat) (on : Bool) : IsBox (n - 1) (partL w n cs k on) := by
  match w with
  | 0 => exact hold_box _ _ _ _
  | 1 => exact drop_box _ _ _
  | _ + 2 => exact edge_isbox _ _ _
theorem mem_part {w n k : Nat} {cs : List Int} {on : Bool} (hn : n ≤ 6) (hk : k < n) (hb : IsBox n cs) {m : Nat} (hm : m < 2 ^ (n - 1)) : (m : Int) ∈ partL w n cs k on ↔ partP w on (((widN m k : Nat) : Int) ∈ cs) (((widN m k + 2 ^ k : Nat) : Int) ∈ cs) := by
  match w with
  | 0 =>
    refine (mem_holdN hn hk hb hm).trans ?_
    cases on <;> exact Iff.rfl
  | 1 => exact mem_dropN hn hk hb hm
  | _ + 2 => exact mem_edge hn hk hb hm
theorem partP_iff {w : Nat} {on : Bool} {a b a' b' : Prop} (ha : a ↔ a') (hb : b ↔ b') : partP w on a b ↔ partP w on a' b' := by
  rw [propext ha, propext hb]
def okPair (w v : Nat) : Bool := w == 0 || v == 0 || (w == 1 && v == 1) || (w == 2 && v == 2)
theorem partP_comm {w v : Nat} {on also : Bool} {a b c d : Prop} (hw : w < 3) (hv : v < 3) (h : okPair w v = true) : partP w on (partP v also a b) (partP v also c d) ↔ partP v also (partP w on a c) (partP w on b d) := by
  have : w = 0 ∨ w = 1 ∨ w = 2 := by omega
  have : v = 0 ∨ v = 1 ∨ v = 2 := by omega
  rcases ‹w = 0 ∨ _› with rfl | rfl | rfl <;> rcases ‹v = 0 ∨ _› with rfl | rfl | rfl <;> first | (exact absurd h (by decide)) | exact or_or_or_comm | exact and_and_and_comm | (cases on <;> cases also <;> simp only [partP, Bool.false_eq_true, if_true, if_false])
theorem part_part {w v n k j : Nat} {on also : Bool} {cs : List Int} (hw : w < 3) (hv : v < 3) (h : okPair w v = true) (hn : n ≤ 6) (hk : k < n) (hj : j < k) (hb : IsBox n cs) : partL w (n - 1) (partL v n cs k also) j on = partL v (n - 1) (partL w n cs j on) (k - 1) also := by
  refine box_ext (part_isbox _ _ _ _ _) (part_isbox _ _ _ _ _) fun m hm => ?_
  have hm16 : m < 16 := Nat.lt_of_lt_of_le hm (by have : n - 1 - 1 ≤ 4 := by omega
                                                  exact Nat.pow_le_pow_right (n := 2) (by decide) this)
  obtain ⟨c1, c2, c3, c4⟩ := wid_comm k (by omega) j hj m hm16
  have r1 := wid_rng1 (n := n - 1) (k := j) (m := m) (by omega) (by omega) hm
  have r2 := wid_rng1 (n := n - 1) (k := k - 1) (m := m) (by omega) (by omega) hm
  refine (mem_part (by omega) (by omega) (part_isbox _ _ _ _ _) hm).trans ?_
  refine (partP_iff (mem_part hn hk hb r1.1) (mem_part hn hk hb r1.2)).trans ?_
  refine Iff.trans ?_ (mem_part (by omega) (by omega) (part_isbox _ _ _ _ _) hm).symm
  refine Iff.trans ?_ (partP_iff (mem_part hn (by omega) hb r2.1) (mem_part hn (by omega) hb r2.2)).symm
  rw [c3, c4, c1, c2]
  exact partP_comm hw hv h

def renN : List Nat → Nat → Nat
  | [], _ => 0
  | o :: os, c => (if bitN c o then 1 else 0) + 2 * renN os c
theorem ren_snoc : ∀ (os : List Nat) (o c : Nat), renN (os ++ [o]) c = renN os c + (if bitN c o then 2 ^ os.length else 0)
  | [], o, c => by
    show (if bitN c o then 1 else 0) + 2 * 0 = 0 + (if bitN c o then 2 ^ 0 else 0)
    split <;> rfl
  | q :: os, o, c => by
    show (if bitN c q then 1 else 0) + 2 * renN (os ++ [o]) c = (if bitN c q then 1 else 0) + 2 * renN os c + (if bitN c o then 2 ^ (os.length + 1) else 0)
    rw [ren_snoc os o c, Nat.pow_succ]
    split <;> split <;> omega
theorem ren_lt : ∀ (os : List Nat) (c : Nat), renN os c < 2 ^ os.length
  | [], c => by show 0 < 2 ^ 0; decide
  | o :: os, c => by
    have := ren_lt os c
    show (if bitN c o then 1 else 0) + 2 * renN os c < 2 ^ (os.length + 1)
    rw [Nat.pow_succ]
    split <;> omega
theorem bit_half (b x k : Nat) (hb : b < 2) : bitN (b + 2 * x) (k + 1) = bitN x k := by
  unfold bitN
  rw [Nat.pow_succ, Nat.mul_comm (2 ^ k) 2, ← Nat.div_div_eq_div_mul, show (b + 2 * x) / 2 = x by omega]
theorem ren_bit : ∀ (os : List Nat) (c k o : Nat), os[k]? = some o → bitN (renN os c) k = bitN c o
  | [], c, k, o, h => by simp at h
  | q :: os, c, 0, o, h => by
    cases h
    show decide (((if bitN c q then 1 else 0) + 2 * renN os c) / 2 ^ 0 % 2 = 1) = bitN c q
    rw [Nat.pow_zero, Nat.div_one]
    cases bitN c q
    · exact decide_eq_false (by show ¬ (0 + 2 * renN os c) % 2 = 1; omega)
    · exact decide_eq_true (by show (1 + 2 * renN os c) % 2 = 1; omega)
  | q :: os, c, k + 1, o, h => by
    show bitN ((if bitN c q then 1 else 0) + 2 * renN os c) (k + 1) = _
    rw [bit_half _ _ _ (by split <;> omega)]
    exact ren_bit os c k o (by simpa using h)
theorem bits_eq {n a b : Nat} (ha : a < 2 ^ n) (hb : b < 2 ^ n) (h : ∀ k < n, bitN a k = bitN b k) : a = b := by
  have tb : ∀ x k : Nat, x.testBit k = bitN x k := fun x k => by
    unfold bitN
    rw [Nat.testBit_eq_decide_div_mod_eq]
  apply Nat.eq_of_testBit_eq
  intro k
  rcases Nat.lt_or_ge k n with hk | hk
  · rw [tb, tb, h k hk]
  · rw [Nat.testBit_lt_two_pow (Nat.lt_of_lt_of_le ha (Nat.pow_le_pow_right (by decide) hk)), Nat.testBit_lt_two_pow (Nat.lt_of_lt_of_le hb (Nat.pow_le_pow_right (by decide) hk))]
theorem ren_bits : ∀ (os : List Nat) (c : Nat), bits (renN os c) = (os.filter fun o => bitN c o).length
  | [], c => by show bits 0 = 0; rw [bits]; rfl
  | o :: os, c => by
    have ih := ren_bits os c
    have hb : ∀ b x : Nat, b < 2 → bits (b + 2 * x) = b + bits x := fun b x hb' => by
      rcases Nat.eq_zero_or_pos (b + 2 * x) with h | h
      · have e1 : b = 0 := by omega
        have e2 : x = 0 := by omega
        subst e1 e2
        simp
      · rw [bits_pos h, show (b + 2 * x) % 2 = b by omega, show (b + 2 * x) / 2 = x by omega]
    show bits ((if bitN c o then 1 else 0) + 2 * renN os c) = _
    rw [hb _ _ (by split <;> omega), ih, List.filter_cons]
    cases bitN c o
    · simp
    · simp; omega
theorem ren_id {n c : Nat} (hc : c < 2 ^ n) : renN (List.range n) c = c := by
  have h := ren_lt (List.range n) c
  rw [List.length_range] at h
  exact bits_eq h hc fun k hk => ren_bit _ c k k (List.getElem?_range hk)
section
variable {n : Nat} {os : List Nat}
theorem ren_inj (hp : os.Perm (List.range n)) {a b : Nat} (ha : a < 2 ^ n) (hb : b < 2 ^ n) (e : renN os a = renN os b) : a = b := by
  refine bits_eq ha hb fun k hk => ?_
  obtain ⟨i, hi⟩ := List.getElem?_of_mem (hp.mem_iff.mpr (List.mem_range.mpr hk))
  rw [← ren_bit os a i k hi, ← ren_bit os b i k hi, e]
theorem ren_size (hp : os.Perm (List.range n)) {s : Nat} (hs : s < 2 ^ n) : bits (renN os s) = bits s := by
  rw [ren_bits, (hp.filter _).length_eq, ← ren_bits, ren_id hs]
def renI (os : List Nat) (c : Int) : Int := ((renN os c.toNat : Nat) : Int)
theorem ren_nat (os : List Nat) (c : Nat) : renI os (c : Int) = ((renN os c : Nat) : Int) := by unfold renI; rw [Int.toNat_natCast]
theorem renI_rng (hp : os.Perm (List.range n)) (c : Int) : 0 ≤ renI os c ∧ renI os c < 2 ^ n := by
  have := ren_lt os c.toNat
  rw [hp.length_eq, List.length_range] at this
  unfold renI
  rw [cast2]; omega
theorem ren_good (hp : os.Perm (List.range n)) {cs : List Int} (hb : IsBox n cs) : GoodC n (cs.map (renI os)) := by
  refine ⟨?_, fun z hz => ?_⟩
  · unfold List.Nodup
    rw [List.pairwise_map]
    refine (List.Pairwise.and_mem.mp hb.asc).imp ?_
    rintro x y ⟨hx, hy, hlt⟩ e
    obtain ⟨x, rfl, hx'⟩ := to_nat (hb.rng x hx)
    obtain ⟨y, rfl, hy'⟩ := to_nat (hb.rng y hy)
    rw [ren_nat, ren_nat] at e
    have := ren_inj hp hx' hy' (by omega)
    omega
  · obtain ⟨c, _, rfl⟩ := List.mem_map.mp hz
    exact renI_rng hp c
def renmL (n : Nat) (cs : List Int) (os : List Nat) : List Int := imgL n (renI os) cs
theorem mem_renm (hp : os.Perm (List.range n)) {cs : List Int} (z : Int) : z ∈ renmL n cs os ↔ ∃ c ∈ cs, renI os c = z := mem_img (fun c _ => renI_rng hp c) z
theorem renm_len (hp : os.Perm (List.range n)) {cs : List Int} (hb : IsBox n cs) : (renmL n cs os).length = cs.length := by
  have := permA (asc_nodup (img_box n (renI os) cs).asc) (ren_good hp hb).nd fun z => by rw [List.mem_map]; exact mem_renm hp z
  show (imgL n (renI os) cs).length = _
  rw [this, List.length_map]
end

theorem flip_hold2 {n k : Nat} {cs : List Int} {on : Bool} (hn : n ≤ 6) (hk : k < n) (hb : IsBox n cs) : holdL n (flipL n cs (2 ^ k)) k on = holdL n cs k (!on) ∧ dropL n (flipL n cs (2 ^ k)) k = dropL n cs k := by
  have h2 : 2 ^ k < 2 ^ n := Nat.pow_lt_pow_right (by decide) hk
  have xh : ∀ k < 6, ∀ c < 64, woN (c ^^^ 2 ^ k) k = woN c k ∧ bitN (c ^^^ 2 ^ k) k = !bitN c k := by decide +kernel
  have hr : 0 ≤ (2 : Int) ^ k ∧ (2 : Int) ^ k < 2 ^ n := by
    have := Nat.two_pow_pos k
    rw [cast2, cast2]; omega
  have key : ∀ c ∈ cs, bitB (Builtin.bitXor c (2 ^ k)) k = !bitB c k ∧ woI (Builtin.bitXor c (2 ^ k)) k = woI c k := fun c hc => by
    obtain ⟨m, rfl, hm⟩ := to_nat (hb.rng c hc)
    obtain ⟨a, b⟩ := xh k (by omega) m (lt64 hn hm)
    rw [cast2, bxor_nat (lt64 hn hm) (lt64 hn h2), bit_nat, bit_nat, wo_nat, wo_nat, a, b]
    exact ⟨rfl, rfl⟩
  refine ⟨uniqI (hold_box _ _ _ _).asc (hold_box _ _ _ _).asc fun z => ?_, uniqI (drop_box _ _ _).asc (drop_box _ _ _).asc fun z => ?_⟩
  · rw [mem_hold hn hk (flip_box _ _ _), mem_hold hn hk hb]
    constructor
    · rintro ⟨c, hc, e1, e2⟩
      obtain ⟨b, hb', rfl⟩ := (mem_flip hn hb hr c).mp hc
      obtain ⟨k1, k2⟩ := key b hb'
      rw [k1] at e1
      rw [k2] at e2
      exact ⟨b, hb', by rw [← e1, Bool.not_not], e2⟩
    · rintro ⟨c, hc, e1, e2⟩
      obtain ⟨k1, k2⟩ := key c hc
      exact ⟨_, (mem_flip hn hb hr _).mpr ⟨c, hc, rfl⟩, by rw [k1, e1, Bool.not_not], by rw [k2, e2]⟩
  · rw [mem_drop hn hk (flip_box _ _ _), mem_drop hn hk hb]
    constructor
    · rintro ⟨c, hc, e2⟩
      obtain ⟨b, hb', rfl⟩ := (mem_flip hn hb hr c).mp hc
      exact ⟨b, hb', by rw [← e2, (key b hb').2]⟩
    · rintro ⟨c, hc, e2⟩
      exact ⟨_, (mem_flip hn hb hr _).mpr ⟨c, hc, rfl⟩, by rw [(key c hc).2, e2]⟩
def downN (o x : Nat) : Nat := x - (if o < x then 1 else 0)
def leftN (os : List Nat) (k o : Nat) : List Nat := (os.eraseIdx k).map (downN o)
theorem down_rng : ∀ n ≤ 6, ∀ o < n, ((List.range n).erase o).map (downN o) = List.range (n - 1) := by decide +kernel
theorem left_perm {n k o : Nat} {os : List Nat} (hn : n ≤ 6) (hp : os.Perm (List.range n)) (ho : os[k]? = some o) : (leftN os k o).Perm (List.range (n - 1)) := by
  obtain ⟨hk, e⟩ := List.getElem?_eq_some_iff.mp ho
  have h0 : (o :: os.eraseIdx k).Perm os := by
    have e2 : os = os.take k ++ o :: os.drop (k + 1) := by
      rw [← e, List.getElem_cons_drop, List.take_append_drop]
    rw [List.eraseIdx_eq_take_drop_succ]
    conv => rhs; rw [e2]
    exact List.perm_middle.symm
  have h1 := h0.trans hp
  have h2 := h1.erase o
  rw [List.erase_cons_head] at h2
  have hon : o < n := List.mem_range.mp (hp.mem_iff.mp (List.mem_of_getElem? ho))
  have h3 := h2.map (downN o)
  rw [down_rng n hn o hon] at h3
  exact h3
theorem wo_bits : ∀ k < 6, ∀ x < 64, ∀ i < 6, bitN (woN x k) i = bitN x (if i < k then i else i + 1) := by decide +kernel
theorem down_bit : ∀ o < 6, ∀ p < 6, p ≠ o → (if downN o p < o then downN o p else downN o p + 1) = p ∧ downN o p < 6 := by decide +kernel
theorem wo_ren {n k o c : Nat} {os : List Nat} (hn : n ≤ 6) (hp : os.Perm (List.range n)) (ho : os[k]? = some o) (hc : c < 2 ^ n) : woN (renN os c) k = renN (leftN os k o) (woN c o) := by
  have hlen : os.length = n := by rw [hp.length_eq, List.length_range]
  have hk : k < n := by have := (List.getElem?_eq_some_iff.mp ho).1; omega
  have hon : o < n := List.mem_range.mp (hp.mem_iff.mp (List.mem_of_getElem? ho))
  have hr : renN os c < 2 ^ n := by have := ren_lt os c; rw [hlen] at this; exact this
  have hpl := left_perm hn hp ho
  have hll : (leftN os k o).length = n - 1 := by rw [hpl.length_eq, List.length_range]
  have hr2 : renN (leftN os k o) (woN c o) < 2 ^ (n - 1) := by have := ren_lt (leftN os k o) (woN c o); rw [hll] at this; exact this
  have hnd : os.Nodup := hp.nodup_iff.mpr List.nodup_range
  refine bits_eq (wo_rngN n hn k hk _ hr) hr2 fun i hi => ?_
  rw [wo_bits k (by omega) _ (lt64 hn hr) i (by omega)]
  have hj : (if i < k then i else i + 1) < n := by split <;> omega
  obtain ⟨p, hpp⟩ : ∃ p, os[if i < k then i else i + 1]? = some p := ⟨_, List.getElem?_eq_getElem (by omega)⟩
  have hpn : p < n := List.mem_range.mp (hp.mem_iff.mp (List.mem_of_getElem? hpp))
  have hpo : p ≠ o := by
    intro e
    subst e
    have := (List.getElem?_inj (hlen ▸ hj) hnd).mp (hpp.trans ho.symm)
    split at this <;> omega
  have hl : (leftN os k o)[i]? = some (downN o p) := by
    unfold leftN
    rw [List.getElem?_map, List.getElem?_eraseIdx]
    have : (if i < k then os[i]? else os[i + 1]?) = os[if i < k then i else i + 1]? := by split <;> rfl
    rw [this, hpp]; rfl
  obtain ⟨d1, d2⟩ := down_bit o (by omega) p (by omega) hpo
  rw [ren_bit os c _ p hpp, ren_bit _ _ i _ hl, wo_bits o (by omega) c (lt64 hn hc) _ d2, d1]
theorem part_ren {w n k o : Nat} {os : List Nat} {cs : List Int} {on : Bool} (hn : n ≤ 6) (hp : os.Perm (List.range n)) (ho : os[k]? = some o) (hb : IsBox n cs) : partL w n (renmL n cs os) k on = renmL (n - 1) (partL w n cs o on) (leftN os k o) := by
  have hlen : os.length = n := by rw [hp.length_eq, List.length_range]
  have hk : k < n := by have := (List.getElem?_eq_some_iff.mp ho).1; omega
  have hon : o < n := List.mem_range.mp (hp.mem_iff.mp (List.mem_of_getElem? ho))
  have hpl := left_perm hn hp ho
  have hrb : IsBox n (renmL n cs os) := img_box _ _ _
  have key : ∀ c ∈ cs, bitB (renI os c) k = bitB c o ∧ woI (renI os c) k = renI (leftN os k o) (woI c o) := fun c hc => by
    obtain ⟨m, rfl, hm⟩ := to_nat (hb.rng c hc)
    rw [ren_nat, bit_nat, bit_nat, wo_nat, wo_nat, ren_nat, ren_bit os m k o ho, wo_ren hn hp ho hm]
    exact ⟨rfl, rfl⟩
  have hH : ∀ on z, z ∈ holdL n (renmL n cs os) k on ↔ ∃ c ∈ holdL n cs o on, renI (leftN os k o) c = z := fun on z => by
    rw [mem_hold hn hk hrb]
    constructor
    · rintro ⟨c, hc, e1, e2⟩
      obtain ⟨b, hb', rfl⟩ := (mem_renm hp c).mp hc
      obtain ⟨k1, k2⟩ := key b hb'
      exact ⟨woI b o, (mem_hold hn hon hb _).mpr ⟨b, hb', by rw [← k1, e1], rfl⟩, by rw [← k2, e2]⟩
    · rintro ⟨c, hc, rfl⟩
      obtain ⟨b, hb', e1, rfl⟩ := (mem_hold hn hon hb _).mp hc
      obtain ⟨k1, k2⟩ := key b hb'
      exact ⟨_, (mem_renm hp _).mpr ⟨b, hb', rfl⟩, by rw [k1, e1], k2⟩
  refine uniqI (part_isbox _ _ _ _ _).asc (img_box _ _ _).asc fun z => ?_
  rw [mem_renm hpl]
  match w with
  | 0 => exact hH on z
  | 1 =>
    show z ∈ dropL n _ k ↔ ∃ c ∈ dropL n cs o, _
    rw [mem_drop hn hk hrb]
    constructor
    · rintro ⟨c, hc, e2⟩
      obtain ⟨b, hb', rfl⟩ := (mem_renm hp c).mp hc
      exact ⟨woI b o, (mem_drop hn hon hb _).mpr ⟨b, hb', rfl⟩, by rw [← (key b hb').2, e2]⟩
    · rintro ⟨c, hc, rfl⟩
      obtain ⟨b, hb', rfl⟩ := (mem_drop hn hon hb _).mp hc
      exact ⟨_, (mem_renm hp _).mpr ⟨b, hb', rfl⟩, (key b hb').2⟩
  | _ + 2 =>
    show z ∈ edgeL n _ k ↔ ∃ c ∈ edgeL n cs o, _
    unfold edgeL
    rw [List.mem_filter, decide_eq_true_eq, hH, hH]
    constructor
    · rintro ⟨⟨a, ha, ea⟩, b, hb', eb⟩
      obtain ⟨a', rfl, ha'⟩ := to_nat ((hold_box n cs o false).rng a ha)
      obtain ⟨b', rfl, hb''⟩ := to_nat ((hold_box n cs o true).rng b hb')
      have hab : a' = b' := ren_inj hpl ha' hb'' (by rw [ren_nat] at ea eb; omega)
      subst hab
      exact ⟨_, List.mem_filter.mpr ⟨ha, decide_eq_true hb'⟩, ea⟩
    · rintro ⟨c, hc, e⟩
      obtain ⟨h1, h2⟩ := List.mem_filter.mp hc
      exact ⟨⟨c, h1, e⟩, c, of_decide_eq_true h2, e⟩


abbrev nHsw : List Str := ["switches", "switch"]
theorem scHsw : FnScope nHsw ["switches", "switch"] (defScope (topS 1)) := ⟨rfl, rfl, rfl, by decide +kernel, rfl, by decide +kernel, by decide +kernel⟩
def Rhsw : Rel := fun ds d => ∃ s k : Int, ds = [.int s, .int k] ∧ 0 ≤ k ∧ d = .bool (bitB s k)
section
variable {P : Program} {w : World} {K : PySem.W.Frag} {mg : Str → Option Value} {base : Heap}
theorem ok_hsw {f : Addr} {fd : FuncData} (Fn : Fun K "has_switch" "has_switch" (topS 1) f fd) : FnG P w K mg base 1 f fd ["switches", "switch"] (spPure K Rhsw) := by
  refine pure_ok (k := 0) Fn scHsw (fun ds d ⟨s, k, e, _⟩ => by rw [e]; rfl) (fun F ds d hK ⟨s, k, e, hk, ed⟩ => ?_)
  subst e ed
  refine wb_cons (ws_ret (we_eqI ?_))
  repeat walk_at "dx"
  refine ⟨hk, ?_⟩
  repeat walk_at "dx"
  rfl
end

abbrev nWos : List Str := ["card", "switch", "above", "below"]
theorem scWos : FnScope nWos ["card", "switch"] (defScope (topS 6)) := ⟨rfl, rfl, rfl, by decide +kernel, rfl, by decide +kernel, by decide +kernel⟩
def Rwos : Rel := fun ds d => ∃ c k : Int, ds = [.int c, .int k] ∧ (0 ≤ c ∧ c < 1000) ∧ (0 ≤ k ∧ k < 1000) ∧ d = .int (woI c k)
section
variable {P : Program} {w : World} {K : PySem.W.Frag} {mg : Str → Option Value} {base : Heap}
theorem ok_wos {f : Addr} {fd : FuncData} (Fn : Fun K "without_switch" "without_switch" (topS 6) f fd) : FnG P w K mg base 1 f fd ["card", "switch"] (spPure K Rwos) := by
  refine pure_ok (k := 0) Fn scWos (fun ds d ⟨c, k, e, _⟩ => by rw [e]; rfl) (fun F ds d hK ⟨c, k, e, hc, hk, ed⟩ => ?_)
  subst e ed
  refine wb_cons (ws_set 2 (by walk_at "tgt") (fun _ _ => rfl) ?_)
  repeat walk_at "dx"
  refine ⟨by omega, ?_⟩
  refine wb_cons (ws_set 3 (by walk_at "tgt") (fun _ _ => rfl) ?_)
  repeat walk_at "dx"
  refine ⟨⟨by omega, by omega, by decide⟩, ?_⟩
  repeat walk_at "dx"
  refine ⟨⟨by omega, by omega, ?_⟩, ?_⟩
  · have h0 : 0 ≤ c / 2 ^ (k + 1).toNat := Int.ediv_nonneg hc.1 (Int.le_of_lt (Int.pow_pos (by decide)))
    have h1 : c / 2 ^ (k + 1).toNat ≤ c := Int.ediv_le_self _ hc.1
    omega
  repeat walk_at "dx"
  rfl
end

abbrev nDsw : List Str := ["box", "switch", "n", "cards", "card"]
theorem scDsw : FnScope nDsw ["box", "switch"] (defScope (topS 7)) := ⟨rfl, rfl, rfl, by decide +kernel, rfl, by decide +kernel, by decide +kernel⟩
def Rdrop : Rel := fun ds d => ∃ (n : Nat) (cs : List Int) (k : Nat), ds = [boxD n cs, .int (k : Int)] ∧ n ≤ 6 ∧ IsBox n cs ∧ k < n ∧ d = boxD (n - 1) (dropL n cs k)
section
variable {P : Program} {w : World} {K : PySem.W.Frag} {mg : Str → Option Value} {base : Heap}
theorem ok_drop {f : Addr} {fd : FuncData} (Fn : Fun K "drop_switch" "drop_switch" (topS 7) f fd) (mt : mg "tuple" = none) (ms : mg "sorted" = none) (gw : PFn P w K mg base 1 "without_switch" Rwos) : FnG P w K mg base 2 f fd ["box", "switch"] (spPure K Rdrop) := by
  refine pure_ok (k := 1) Fn scDsw (fun ds d ⟨n, cs, k, e, _⟩ => by rw [e]; rfl) (fun F ds d hK ⟨n, cs, k, e, hn, hb, hk, ed⟩ => ?_)
  subst e ed
  have hl := box_len hn hb
  have hp := pow_le64 hn
  refine wb_cons (ws_asg2s 2 3 (by decide) (by walk_at "tgt") (by walk_at "tgt") hK (fun env h => by cases env; cases h; rfl) (fun env h => by cases env; cases h; rfl) ?_)
  repeat walk_at "dx"
  refine ⟨.int (n : Int), .tuple (cs.map PyData.int), rfl, ?_⟩
  refine wb_cons (ws_ret (we_tup (wa_cons (fun _ => rfl) (we_sub ?_))))
  walk_at "name"
  refine we_int ⟨_, _, rfl, rfl, ?_⟩
  refine wa_cons (fun _ => rfl) (we_tuple hK rfl mt (fun _ => rfl) (we_sortSc PyData.int (fun c => woI c k) 4 (by walk_at "blk") hK rfl ms (fun _ _ => rfl) (fun _ => rfl) ?_))
  repeat walk_at "dx"
  refine ⟨cs, rfl, by omega, fun D c hc => ?_, fun ms' hw hm => ⟨_, rfl, ?_⟩⟩
  · have hKD : (F.ext D).K = K := hK
    have hcr := hb.rng c hc
    repeat walk_at "dx"
    refine ⟨_, ⟨c, k, rfl, ⟨by omega, by omega⟩, ⟨by omega, by omega⟩, rfl⟩, rfl, rfl⟩
  · repeat walk_at "dx"
    show PyData.tuple [.int ((n : Int) - 1), .tuple _] = boxD (n - 1) _
    rw [pow_pred (by omega), img_uniq (wo_rngL hn hk hb) hw hm]; rfl
end

abbrev nRnc : List Str := ["card", "order", "k", "old"]
theorem scRnc : FnScope nRnc ["card", "order"] (defScope (topS 4)) := ⟨rfl, rfl, rfl, by decide +kernel, rfl, by decide +kernel, by decide +kernel⟩
def natsD (os : List Nat) : PyData := .tuple (os.map fun (o : Nat) => PyData.int (o : Int))
def Rrnc : Rel := fun ds d => ∃ (c : Nat) (os : List Nat), ds = [.int (c : Int), natsD os] ∧ os.length ≤ 6 ∧ d = .int ((renN os c : Nat) : Int)
section
variable {P : Program} {w : World} {K : PySem.W.Frag} {mg : Str → Option Value} {base : Heap}
theorem ok_rnc {f : Addr} {fd : FuncData} (Fn : Fun K "renamed_card" "renamed_card" (topS 4) f fd) (mu : mg "sum" = none) (me : mg "enumerate" = none) (gh : PFn P w K mg base 1 "has_switch" Rhsw) : FnG P w K mg base 2 f fd ["card", "order"] (spPure K Rrnc) := by
  refine pure_ok (k := 1) Fn scRnc (fun ds d ⟨c, os, e, _⟩ => by rw [e]; rfl) (fun F ds d hK ⟨c, os, e, hl, ed⟩ => ?_)
  subst e ed
  refine wb_cons (ws_ret (we_sum hK rfl mu (fun _ => rfl) (we_compEt1 2 3 (by decide) ⟨blkOk_by (by dsimp only [bodyCs, Cs.blk]; decide +kernel), by walk_at "tgt", by walk_at "tgt"⟩ hK rfl me (fun _ => rfl) (fun _ _ => rfl) ?_)))
  walk_at "name"
  refine ⟨fun j k' acc => ∃ xs : List Int, acc = xs.map PyData.int ∧ xs.sum = ((renN (os.take j) c : Nat) : Int), _, rfl, by rw [List.length_map]; omega, ⟨[], rfl, rfl⟩, ?_, ?_⟩
  · rintro D j y k' acc hy ⟨xs, rfl, hs⟩
    have hKD : (F.ext D).K = K := hK
    rw [List.getElem?_map, Option.map_eq_some_iff] at hy
    obtain ⟨o, ho, rfl⟩ := hy
    have hjl := (List.getElem?_eq_some_iff.mp ho).1
    have et : renN (os.take (j + 1)) c = renN (os.take j) c + (if bitN c o then 2 ^ j else 0) := by
      rw [take_next ho, ren_snoc, List.length_take, Nat.min_eq_left (Nat.le_of_lt hjl)]
    refine wt_val (fun _ _ => rfl) ?_
    repeat walk_at "dx"
    refine ⟨_, ⟨(c : Int), (o : Int), rfl, by omega, rfl⟩, _, rfl, ?_⟩
    rw [bit_nat]
    cases hbt : bitN c o with
    | false =>
      show if false = true then _ else _
      rw [if_neg (by decide)]
      exact ⟨xs, rfl, by rw [hs, et, hbt]; rfl⟩
    | true =>
      show if true = true then _ else _
      rw [if_pos rfl]
      repeat walk_at "dx"
      refine ⟨⟨by omega, by omega, by decide⟩, ?_⟩
      refine ⟨xs ++ [2 ^ j], by rw [one_shl, List.map_append]; rfl, ?_⟩
      rw [List.sum_append, hs, et, hbt]
      show _ + (2 ^ j + 0) = ((_ + 2 ^ j : Nat) : Int)
      rw [cast2, Int.natCast_add]; omega
  · rintro k' acc ⟨xs, rfl, hs⟩
    rw [List.length_map, List.take_length] at hs
    refine ⟨xs, rfl, ?_⟩
    rw [hs]
end

abbrev nRns : List Str := ["box", "order", "n", "cards", "card"]
theorem scRns : FnScope nRns ["box", "order"] (defScope (topS 3)) := ⟨rfl, rfl, rfl, by decide +kernel, rfl, by decide +kernel, by decide +kernel⟩
def Rrns : Rel := fun ds d => ∃ (n : Nat) (cs : List Int) (os : List Nat), ds = [boxD n cs, natsD os] ∧ n ≤ 6 ∧ IsBox n cs ∧ os.Perm (List.range n) ∧ d = boxD n (renmL n cs os)
section
variable {P : Program} {w : World} {K : PySem.W.Frag} {mg : Str → Option Value} {base : Heap}
theorem ok_rns {f : Addr} {fd : FuncData} (Fn : Fun K "rename_switches" "rename_switches" (topS 3) f fd) (mt : mg "tuple" = none) (ms : mg "sorted" = none) (gr : PFn P w K mg base 2 "renamed_card" Rrnc) : FnG P w K mg base 3 f fd ["box", "order"] (spPure K Rrns) := by
  refine pure_ok (k := 2) Fn scRns (fun ds d ⟨n, cs, os, e, _⟩ => by rw [e]; rfl) (fun F ds d hK ⟨n, cs, os, e, hn, hb, hp, ed⟩ => ?_)
  subst e ed
  have hl := box_len hn hb
  refine wb_cons (ws_asg2s 2 3 (by decide) (by walk_at "tgt") (by walk_at "tgt") hK (fun env h => by cases env; cases h; rfl) (fun env h => by cases env; cases h; rfl) ?_)
  walk_at "name"
  refine ⟨.int (n : Int), .tuple (cs.map PyData.int), rfl, ?_⟩
  refine wb_cons (ws_ret (we_tup (wa_cons (fun _ => rfl) ?_)))
  walk_at "name"
  refine wa_cons (fun _ => rfl) (we_tuple hK rfl mt (fun _ => rfl) (we_sorted hK rfl ms (fun _ => rfl) (we_mT PyData.int (fun c => .int (renI os c)) 4 (by walk_at "blk") hK (fun _ _ => rfl) ?_)))
  walk_at "name"
  refine ⟨cs, rfl, by omega, fun D c hc => ?_, ?_⟩
  · have hKD : (F.ext D).K = K := hK
    obtain ⟨c, rfl, hcl⟩ := to_nat (hb.rng c hc)
    repeat walk_at "dx"
    refine ⟨_, ⟨c, os, rfl, by rw [hp.length_eq, List.length_range]; exact hn, rfl⟩, rfl, ?_⟩
    rw [ren_nat]
  refine ⟨cs.map (renI os), by rw [List.map_map]; rfl, fun ms' hpm hw => ⟨_, rfl, wa_nil ⟨by show 2 ≤ _; decide, ?_⟩⟩⟩
  show PyData.tuple [.int (n : Int), .tuple _] = boxD n _
  rw [img_perm (ren_good hp hb) hpm hw]
  rfl
end

abbrev nDig : List Str := ["_law_n", "_law_card", "_law_switch"]
theorem scDig : FnScope nDig ["_law_n", "_law_card"] (defScope (topS 11)) := ⟨rfl, rfl, rfl, by decide +kernel, rfl, by decide +kernel, by decide +kernel⟩
def Rdig : Rel := fun ds d => ∃ (n : Nat) (c : Int), ds = [.int (n : Int), .int c] ∧ n ≤ 12 ∧ d = .list ((digL n c).map PyData.int)
section
variable {P : Program} {w : World} {K : PySem.W.Frag} {mg : Str → Option Value} {base : Heap}
theorem ok_dig {f : Addr} {fd : FuncData} (Fn : Fun K "_law_digits" "_law_digits" (topS 11) f fd) (mr : mg "range" = none) : FnG P w K mg base 1 f fd ["_law_n", "_law_card"] (spPure K Rdig) := by
  refine pure_ok (k := 0) Fn scDig (fun ds d ⟨n, c, e, _⟩ => by rw [e]; rfl) (fun F ds d hK ⟨n, c, e, hn, ed⟩ => ?_)
  subst e ed
  refine wb_cons (ws_ret (we_mR (fun i => .int (Builtin.bitAnd (c / 2 ^ i.toNat) 1)) 2 (by walk_at "blk") rfl mr (fun _ => rfl) (fun _ _ => rfl) ?_))
  repeat walk_at "dx"
  refine ⟨by omega, by omega, fun D i i0 i1 => ?_, ?_⟩
  · repeat walk_at "dx"
    refine ⟨i0, ?_⟩
    repeat walk_at "dx"
    exact ⟨rfl, rfl⟩
  · unfold digL
    rw [List.map_map]; rfl
end

abbrev nNmb : List Str := ["_law_digits_here", "_law_switch", "_law_digit"]
theorem scNmb : FnScope nNmb ["_law_digits_here"] (defScope (topS 12)) := ⟨rfl, rfl, rfl, by decide +kernel, rfl, by decide +kernel, by decide +kernel⟩
def Rnmb : Rel := fun ds d => ∃ xs : List Int, ds = [.list (xs.map PyData.int)] ∧ xs.length ≤ 100 ∧ (∀ x ∈ xs, x = 0 ∨ x = 1) ∧ d = .int (numL xs)
def shlD (j : Nat) : PyData → PyData
  | .int x => .int (x * 2 ^ j)
  | d => d
theorem shl_map (xs : List Int) : (xs.map PyData.int).mapIdx shlD = (xs.mapIdx fun i x => x * 2 ^ i).map PyData.int := by
  refine List.ext_getElem? fun i => ?_
  rw [List.getElem?_mapIdx, List.getElem?_map, List.getElem?_map, List.getElem?_mapIdx]
  cases xs[i]? <;> rfl
section
variable {P : Program} {w : World} {K : PySem.W.Frag} {mg : Str → Option Value} {base : Heap}
theorem ok_nmb {f : Addr} {fd : FuncData} (Fn : Fun K "_law_number" "_law_number" (topS 12) f fd) (ms : mg "sum" = none) (me : mg "enumerate" = none) : FnG P w K mg base 1 f fd ["_law_digits_here"] (spPure K Rnmb) := by
  refine pure_ok (k := 0) Fn scNmb (fun ds d ⟨xs, e, _⟩ => by rw [e]; rfl) (fun F ds d hK ⟨xs, e, hl, hb, ed⟩ => ?_)
  subst e ed
  refine wb_cons (ws_ret (we_sum hK rfl ms (fun _ => rfl) (we_compE 1 2 (by decide) ⟨blkOk_by (by dsimp only [bodyCs, Cs.blk]; decide +kernel), by walk_at "tgt", by walk_at "tgt"⟩ hK rfl me (fun _ => rfl) (fun _ _ => rfl) shlD ?_)))
  repeat walk_at "dx"
  refine ⟨_, rfl, by rw [List.length_map]; omega, fun D j y hy => ?_, ?_⟩
  · rw [List.getElem?_map, Option.map_eq_some_iff] at hy
    obtain ⟨x, hx, rfl⟩ := hy
    have hj : j < xs.length := (List.getElem?_eq_some_iff.mp hx).1
    have hxb := hb x (List.mem_of_getElem? hx)
    repeat walk_at "dx"
    refine ⟨⟨by omega, by omega, by omega⟩, rfl, ?_⟩
    show PyData.int _ = PyData.int _
    rw [Int.toNat_natCast]
  · exact ⟨_, by rw [shl_map], rfl⟩
end

theorem num_ren (n c : Nat) : ∀ os : List Nat, numN (os.map fun o => c / 2 ^ o % 2) = renN os c
  | [] => rfl
  | o :: os => by
    show c / 2 ^ o % 2 + 2 * numN (os.map fun o => c / 2 ^ o % 2) = (if bitN c o then 1 else 0) + 2 * renN os c
    rw [num_ren n c os]
    congr 1
    unfold bitN
    by_cases h : c / 2 ^ o % 2 = 1
    · rw [h]; rfl
    · rw [if_neg (by rw [decide_eq_true_eq]; exact h)]; omega
def dgI (c o : Nat) : Int := ((c / 2 ^ o % 2 : Nat) : Int)
theorem num_renI (n c : Nat) (os : List Nat) : numL (os.map (dgI c)) = ((renN os c : Nat) : Int) := by
  have e : os.map (dgI c) = (os.map fun o => c / 2 ^ o % 2).map fun (i : Nat) => (i : Int) := by rw [List.map_map]; rfl
  rw [e, num_nat, num_ren n]
theorem dig_at {n c o : Nat} (ho : o < n) : (digL n (c : Int))[o]? = some (dgI c o) := by
  rw [dig_nat, List.getElem?_map]
  unfold digN
  rw [List.getElem?_map, List.getElem?_range ho]
  rfl
theorem perm_lt {n : Nat} {os : List Nat} (hp : os.Perm (List.range n)) : ∀ o ∈ os, o < n := fun o ho => List.mem_range.mp (hp.mem_iff.mp ho)
theorem perm_len {n : Nat} {os : List Nat} (hp : os.Perm (List.range n)) : os.length = n := by rw [hp.length_eq, List.length_range]
/-- the place of each switch in an order -/
def invL (n : Nat) (os : List Nat) : List Nat := (List.range n).map fun k => os.idxOf k
theorem idx_at {n : Nat} {os : List Nat} (hp : os.Perm (List.range n)) {k : Nat} (hk : k < n) : os[os.idxOf k]? = some k := by
  have hm : k ∈ os := hp.mem_iff.mpr (List.mem_range.mpr hk)
  have hl : os.idxOf k < os.length := List.idxOf_lt_length_iff.mpr hm
  rw [List.getElem?_eq_getElem hl, List.getElem_idxOf hl]
theorem inv_perm {n : Nat} {os : List Nat} (hp : os.Perm (List.range n)) : (invL n os).Perm (List.range n) := by
  have hnd : (invL n os).Nodup := by
    unfold invL List.Nodup
    rw [List.pairwise_map]
    refine (List.Pairwise.and_mem.mp List.nodup_range).imp ?_
    rintro a b ⟨ha, hb, hne⟩ e
    have h1 := idx_at hp (List.mem_range.mp ha)
    have h2 := idx_at hp (List.mem_range.mp hb)
    rw [e, h2] at h1
    exact hne (Option.some.inj h1).symm
  refine (List.perm_ext_iff_of_nodup hnd List.nodup_range).mpr fun z => ?_
  have hsub : ∀ z, z ∈ invL n os → z ∈ List.range n := fun z hz => by
    obtain ⟨k, hk, rfl⟩ := List.mem_map.mp hz
    have := (List.getElem?_eq_some_iff.mp (idx_at hp (List.mem_range.mp hk))).1
    rw [perm_len hp] at this
    exact List.mem_range.mpr this
  refine ⟨hsub z, fun hz => ?_⟩
  have hz := List.mem_range.mp hz
  have hl : z < os.length := by rw [perm_len hp]; exact hz
  refine List.mem_map.mpr ⟨os[z], List.mem_range.mpr (perm_lt hp _ (List.getElem_mem hl)), ?_⟩
  have h1 := idx_at hp (perm_lt hp _ (List.getElem_mem hl))
  have hnd2 : os.Nodup := hp.nodup_iff.mpr List.nodup_range
  exact (List.getElem?_inj (List.getElem?_eq_some_iff.mp h1).1 hnd2).mp (h1.trans (List.getElem?_eq_getElem hl).symm)
theorem ren_inv {n c : Nat} {os : List Nat} (hp : os.Perm (List.range n)) (hc : c < 2 ^ n) : renN (invL n os) (renN os c) = c := by
  have h := ren_lt (invL n os) (renN os c)
  rw [perm_len (inv_perm hp)] at h
  refine bits_eq h hc fun k hk => ?_
  have e : (invL n os)[k]? = some (os.idxOf k) := by
    unfold invL
    rw [List.getElem?_map, List.getElem?_range hk]; rfl
  rw [ren_bit _ _ k _ e, ren_bit os c _ k (idx_at hp hk)]
/-- one order behind another -/
def bothL (os vs : List Nat) : List Nat := vs.map fun v => os.getD v 0
theorem both_perm {n : Nat} {os vs : List Nat} (hp : os.Perm (List.range n)) (hv : vs.Perm (List.range n)) : (bothL os vs).Perm (List.range n) := by
  have h1 : (bothL os vs).Perm ((List.range n).map fun v => os.getD v 0) := hv.map _
  have e : (List.range n).map (fun v => os.getD v 0) = os := by
    refine List.ext_getElem? fun i => ?_
    rw [List.getElem?_map]
    by_cases hi : i < n
    · rw [List.getElem?_range hi]
      have hl : i < os.length := by rw [perm_len hp]; exact hi
      show some (os.getD i 0) = _
      rw [List.getD_eq_getElem?_getD, List.getElem?_eq_getElem hl]; rfl
    · rw [List.getElem?_eq_none (by rw [List.length_range]; omega), List.getElem?_eq_none (by rw [perm_len hp]; omega)]; rfl
  rw [e] at h1
  exact h1.trans hp
theorem ren_both {n c : Nat} {os vs : List Nat} (hp : os.Perm (List.range n)) (hv : vs.Perm (List.range n)) : renN vs (renN os c) = renN (bothL os vs) c := by
  have h1 := ren_lt vs (renN os c)
  have h2 := ren_lt (bothL os vs) c
  rw [perm_len hv] at h1
  rw [perm_len (both_perm hp hv)] at h2
  refine bits_eq h1 h2 fun k hk => ?_
  have hl : k < vs.length := by rw [perm_len hv]; exact hk
  have ev : vs[k]? = some vs[k] := List.getElem?_eq_getElem hl
  have hvn := perm_lt hv _ (List.getElem_mem hl)
  have hlo : vs[k] < os.length := by rw [perm_len hp]; exact hvn
  have eo : os[vs[k]]? = some os[vs[k]] := List.getElem?_eq_getElem hlo
  have eb : (bothL os vs)[k]? = some os[vs[k]] := by
    unfold bothL
    rw [List.getElem?_map, ev]
    show some (os.getD vs[k] 0) = _
    rw [List.getD_eq_getElem?_getD, eo]; rfl
  rw [ren_bit vs _ k _ ev, ren_bit os c _ _ eo, ren_bit _ c k _ eb]
theorem renm_inv {n : Nat} {cs : List Int} {os : List Nat} (hb : IsBox n cs) (hp : os.Perm (List.range n)) : renmL n (renmL n cs os) (invL n os) = cs := by
  unfold renmL
  rw [img_img (g := renI (invL n os)) (h := renI os) (fun c _ => renI_rng hp c) (fun c _ => renI_rng (inv_perm hp) _)]
  refine (img_congr (h := fun c => c) fun c hc => ?_).trans (img_id hb)
  obtain ⟨m, rfl, hm⟩ := to_nat (hb.rng c hc)
  rw [ren_nat, ren_nat, ren_inv hp hm]
theorem renm_both {n : Nat} {cs : List Int} {os vs : List Nat} (hb : IsBox n cs) (hp : os.Perm (List.range n)) (hv : vs.Perm (List.range n)) : renmL n (renmL n cs os) vs = renmL n cs (bothL os vs) := by
  unfold renmL
  rw [img_img (g := renI vs) (h := renI os) (fun c _ => renI_rng hp c) (fun c _ => renI_rng hv _)]
  refine img_congr fun c hc => ?_
  obtain ⟨m, rfl, hm⟩ := to_nat (hb.rng c hc)
  rw [ren_nat, ren_nat, ren_nat, ren_both hp hv]
/-- the rest of an order without the switch o -/
def restL (os : List Nat) (o : Nat) : List Nat := (os.filter fun x => decide (x ≠ o)).map (downN o)
theorem filt_era : ∀ {os : List Nat} {k o : Nat}, os.Nodup → os[k]? = some o → os.filter (fun x => decide (x ≠ o)) = os.eraseIdx k
  | [], k, o, _, h => by simp at h
  | z :: zs, 0, o, hn, h => by
    cases h
    have hz := (List.nodup_cons.mp hn).1
    rw [List.filter_cons_of_neg (by simp), List.eraseIdx_cons_zero]
    refine List.filter_eq_self.mpr fun x hx => decide_eq_true fun e => hz (e ▸ hx)
  | z :: zs, k + 1, o, hn, h => by
    have h' : zs[k]? = some o := by simpa using h
    have hz := (List.nodup_cons.mp hn).1
    have hne : z ≠ o := fun e => hz (e ▸ List.mem_of_getElem? h')
    rw [List.filter_cons_of_pos (by exact decide_eq_true hne), List.eraseIdx_cons_succ, filt_era (List.nodup_cons.mp hn).2 h']
theorem rest_left {n k o : Nat} {os : List Nat} (hp : os.Perm (List.range n)) (ho : os[k]? = some o) : restL os o = leftN os k o := by
  unfold restL leftN
  rw [filt_era (hp.nodup_iff.mpr List.nodup_range) ho]

abbrev nOrd : List Str := ["_law_deck_here", "_law_n", "_law_left", "_law_k"]
theorem scOrd : FnScope nOrd ["_law_deck_here", "_law_n"] (defScope (topS 16)) := ⟨rfl, rfl, rfl, by decide +kernel, rfl, by decide +kernel, by decide +kernel⟩
def ROrd : Rel := fun ds d => ∃ (n : Nat) (os : List Nat), ds = [.int (n : Int)] ∧ os.Perm (List.range n) ∧ d = natsD os
theorem era_map (ys : List Int) (n : Nat) : (ys.map PyData.int).eraseIdx n = (ys.eraseIdx n).map PyData.int := by
  induction ys generalizing n with
  | nil => rfl
  | cons y ys ih =>
    cases n with
    | zero => rfl
    | succ n => simp only [List.map_cons, List.eraseIdx_cons_succ, ih]
theorem era_perm : ∀ {ys : List Int} {n : Nat} {y : Int}, ys[n]? = some y → (y :: ys.eraseIdx n).Perm ys
  | [], n, y, h => by simp at h
  | z :: zs, 0, y, h => by cases h; exact .refl _
  | z :: zs, n + 1, y, h => by
    rw [List.eraseIdx_cons_succ]
    exact (List.Perm.swap z y _).trans ((era_perm (ys := zs) (n := n) (y := y) (by simpa using h)).cons z)
theorem nats_of {n : Nat} {acc : List Int} (h : acc.Perm (rg (n : Int))) : ∃ os : List Nat, os.Perm (List.range n) ∧ PyData.tuple (acc.map PyData.int) = natsD os := by
  refine ⟨acc.map Int.toNat, ?_, ?_⟩
  · have h2 := h.map Int.toNat
    have e : (rg (n : Int)).map Int.toNat = List.range n := by
      unfold rg
      rw [Int.toNat_natCast, List.map_map]
      have : (Int.toNat ∘ fun (i : Nat) => (i : Int)) = id := by funext i; exact Int.toNat_natCast i
      rw [this, List.map_id]
    rw [e] at h2
    exact h2
  · unfold natsD
    rw [List.map_map]
    congr 1
    refine List.map_congr_left fun c hc => ?_
    have := (mem_rg.mp (h.mem_iff.mp hc)).1
    show PyData.int c = PyData.int ((c.toNat : Nat) : Int)
    rw [show ((c.toNat : Nat) : Int) = c by omega]
section
variable {P : Program} {w : World} {K : PySem.W.Frag} {mg : Str → Option Value} {base : Heap}
theorem ok_ord {f : Addr} {fd : FuncData} (Fn : Fun K "_law_order" "_law_order" (topS 16) f fd) (mr : mg "range" = none) (mt : mg "tuple" = none) (ml : mg "len" = none) (mL : mg "list" = none) (gn : DFnQ P w K mg base 1 "_law_draw" 1 PreNext RNext) : FnG P w K mg base 2 f fd ["_law_deck_here", "_law_n"] (spDrawQ K 6 PreN ROrd) := by
  refine draw_okQ (k := 1) Fn scOrd (fun ds ⟨m, e, _⟩ => by rw [e]; rfl) (fun F s a ds kk dk hK ⟨n, e, hn⟩ => ?_)
  subst e
  refine wb_ownRg 2 (by walk_at "tgt") (by show 2 < 4; decide) rfl mL rfl mr (fun _ => rfl) (fun _ => rfl) (fun env h => by cases env; cases h; rfl) ?_
  walk_at "name"
  refine ⟨_, rfl, ⟨by omega, by omega⟩, fun o => ?_⟩
  have hKo : (F.ext o).K = K := hK
  have dko : IsDq (F.ext o) s a := dk.ext o
  refine wb_cons (ws_retPops 3 2 (by walk_at "blk") hKo (by decide) rfl (by walk_at "vis") rfl rfl rfl mt rfl mr (fun _ => rfl) (fun _ => rfl) (fun _ => rfl) (fun _ _ => rfl) ?_)
  walk_at "name"
  refine ⟨fun j k us acc => k + j = kk + 6 ∧ ∃ us' acc' : List Int, us = us'.map PyData.int ∧ acc = acc'.map PyData.int ∧ us'.length + j = n ∧ (acc' ++ us').Perm (rg (n : Int)), _, rfl, by omega, by omega, ⟨rfl, rg (n : Int), [], rfl, rfl, by rw [rg_length]; omega, .refl _⟩, ?_, ?_⟩
  · rintro D j k us acc hj ⟨hk, us, acc, rfl, rfl, hlu, hperm⟩
    have hj : j < n := by omega
    refine ⟨by rw [List.length_map]; omega, ?_⟩
    have hKD : ((F.ext o).ext D).K = K := hK
    obtain ⟨k2, rfl⟩ : ∃ k2, k = k2 + 1 := ⟨k - 1, by omega⟩
    walk_at "dq"
    refine wa_cons (fun _ => rfl) (we_lenOwn 2 rfl (by walk_at "vis") rfl rfl ml ?_)
    rw [List.length_map]
    repeat walk_at "dq"
    refine ⟨⟨_, rfl, by omega, by omega⟩, k2, rfl, ?_⟩
    rintro d ⟨m', v, e1, rfl, v0, v1⟩
    cases e1
    obtain ⟨v, rfl⟩ : ∃ v' : Nat, v = (v' : Int) := ⟨v.toNat, by omega⟩
    have hv : v < us.length := by omega
    have hu : us[v]? = some us[v] := List.getElem?_eq_getElem hv
    have hle := (era_perm hu).length_eq
    rw [List.length_cons] at hle
    refine ⟨v, .int us[v], rfl, by rw [List.getElem?_map, hu]; rfl, by omega, us.eraseIdx v, acc ++ [us[v]], era_map _ _, by rw [List.map_append]; rfl, by omega, ?_⟩
    rw [List.append_assoc]
    exact ((era_perm hu).append_left acc).trans hperm
  · rintro k us acc ⟨hk, us, acc, rfl, rfl, hlu, hperm⟩
    have hu0 : us = [] := List.length_eq_zero_iff.mp (by omega)
    subst hu0
    rw [List.append_nil] at hperm
    obtain ⟨os, hos, e⟩ := nats_of hperm
    exact ⟨by omega, n, os, rfl, hos, e⟩
end

abbrev nD36 : List Str := ["_law_box_here", "_law_order_here", "_law_n", "_law_cards_here", "_law_kept", "_law_card", "_law_digits_here", "_law_old"]
theorem scD36 : FnScope nD36 ["_law_box_here", "_law_order_here"] (defScope (topS 17)) := ⟨rfl, rfl, rfl, by decide +kernel, rfl, by decide +kernel, by decide +kernel⟩
section
variable {P : Program} {w : World} {K : PySem.W.Frag} {mg : Str → Option Value} {base : Heap}
theorem ok_due36 {f : Addr} {fd : FuncData} (Fn : Fun K "_law_due" "_law_due" (topS 17) f fd) (mt : mg "tuple" = none) (ms : mg "sorted" = none) (gd : PFn P w K mg base 1 "_law_digits" Rdig) (gn : PFn P w K mg base 1 "_law_number" Rnmb) : FnG P w K mg base 2 f fd ["_law_box_here", "_law_order_here"] (spPure K Rrns) := by
  refine pure_ok (k := 1) Fn scD36 (fun ds d ⟨n, cs, os, e, _⟩ => by rw [e]; rfl) (fun F ds d hK ⟨n, cs, os, e, hn, hb, hp, ed⟩ => ?_)
  subst e ed
  have hl := box_len hn hb
  have hol := perm_len hp
  refine wb_cons (ws_asg2s 2 3 (by decide) (by walk_at "tgt") (by walk_at "tgt") hK (fun env h => by cases env; cases h; rfl) (fun env h => by cases env; cases h; rfl) ?_)
  walk_at "name"
  refine ⟨.int (n : Int), .tuple (cs.map PyData.int), rfl, ?_⟩
  refine wb_own 4 (by walk_at "tgt") (by show 4 < 8; decide) (fun _ _ => rfl) (fun o => ?_)
  have hKo : (F.ext o).K = K := hK
  refine wb_cons (ws_for_tup 5 (by walk_at "tgt") hKo (fun _ _ => rfl) ?_)
  walk_at "name"
  refine ⟨fun j k' ρ => ∃ x5 x6 x7, plainB x5 = true ∧ plainB x6 = true ∧ plainB x7 = true ∧ ρ = [.d (boxD n cs), .d (natsD os), .d (.int (n : Int)), .d (.tuple (cs.map PyData.int)), .own o (((cs.take j).map (renI os)).map PyData.int), x5, x6, x7], _, rfl, ⟨.un, .un, .un, rfl, rfl, rfl, rfl⟩, ?_, ?_⟩
  · rintro j y k' ρ hy ⟨x5, x6, x7, h5, h6, h7, rfl⟩
    rw [List.getElem?_map, Option.map_eq_some_iff] at hy
    obtain ⟨c, hc, rfl⟩ := hy
    have hcm := List.mem_of_getElem? hc
    obtain ⟨c, rfl, hcl⟩ := to_nat (hb.rng c hcm)
    refine wb_cons (ws_set 6 (by walk_at "tgt") (fun _ _ => rfl) ?_)
    repeat walk_at "dx"
    refine ⟨_, ⟨n, (c : Int), rfl, by omega, rfl⟩, ?_⟩
    refine wb_cons (ws_append 4 rfl (by walk_at "vis") rfl (by show (plainB (SV.d (PyData.int (c : Int))) && _) = true; show (true && (true && (plainB x7 && true))) = true; rw [h7]; rfl) (by rw [List.length_map, List.length_map, List.length_take]; omega) (fun _ => rfl) ?_ (fun _ => rfl))
    refine we_callP gn (by show 1 ≤ 1; decide) hKo rfl (wa_cons (fun _ => rfl) (we_mT (fun (o : Nat) => PyData.int (o : Int)) (fun o => PyData.int (dgI c o)) 7 (by walk_at "blk") hKo (fun _ _ => rfl) ?_))
    walk_at "name"
    refine ⟨os, rfl, by omega, fun D v hv => ?_, ?_⟩
    · have hKD : ((F.ext o).ext D).K = K := hK
      repeat walk_at "dx"
      exact ⟨_, atI_nat (xs := (digL n (c : Int)).map PyData.int) (j := v) (by rw [List.getElem?_map, dig_at (perm_lt hp v hv)]; rfl), rfl, rfl⟩
    refine wa_nil ⟨_, ⟨os.map (dgI c), by rw [List.map_map]; rfl, by rw [List.length_map]; omega, fun x hx => ?_, rfl⟩, ?_⟩
    · obtain ⟨v, _, rfl⟩ := List.mem_map.mp hx
      unfold dgI
      omega
    refine wb_nil ⟨.d (.int (c : Int)), .d (.list ((digL n (c : Int)).map PyData.int)), x7, rfl, rfl, h7, ?_⟩
    rw [num_renI n, ← ren_nat, take_next hc, List.map_append, List.map_append]
    rfl
  · rintro k' ρ ⟨x5, x6, x7, h5, h6, h7, rfl⟩
    rw [List.length_map, List.take_length]
    refine wb_cons (ws_ret (we_tup (wa_cons (fun _ => rfl) ?_)))
    walk_at "name"
    refine wa_cons (fun _ => rfl) (we_tuple hKo rfl mt (fun _ => rfl) (we_sortOwnI 4 hKo rfl (by walk_at "vis") rfl rfl ms (fun ms' hpm hw => ⟨_, rfl, wa_nil ⟨by show 2 ≤ _; decide, ?_⟩⟩)))
    show PyData.tuple [.int (n : Int), .tuple _] = boxD n _
    rw [img_perm (ren_good hp hb) hpm hw]
    rfl
end

abbrev nR36 : List Str := ["_law_box_here", "_law_order_here", "_law_other", "_law_n", "_law_renamed", "_law_inverse", "_law_k", "_law_both", "_law_switch", "_law_rest", "_law_old"]
theorem scR36 : FnScope nR36 ["_law_box_here", "_law_order_here", "_law_other"] (defScope (topS 18)) := ⟨rfl, rfl, rfl, by decide +kernel, rfl, by decide +kernel, by decide +kernel⟩
def Rri36 : Rel := fun ds d => ∃ (n : Nat) (cs : List Int) (os vs : List Nat), ds = [boxD n cs, natsD os, natsD vs] ∧ n ≤ 6 ∧ IsBox n cs ∧ os.Perm (List.range n) ∧ vs.Perm (List.range n) ∧ d = .bool true
theorem ix_nats36 {os : List Nat} {k o : Nat} (h : os[k]? = some o) : ixD (natsD os) (.int (k : Int)) = some (.int (o : Int)) :=
  atI_nat (xs := os.map fun (o : Nat) => PyData.int (o : Int)) (j := k) (by rw [List.getElem?_map, h]; rfl)
theorem shaped_nats (os : List Nat) : SeqAt.shaped (natsD os) = true := by
  have := shaped_intsT (os.map fun (o : Nat) => (o : Int))
  rw [List.map_map] at this
  exact this
theorem inv_data {n : Nat} (os : List Nat) : PyData.tuple ((rg (n : Int)).map fun i => PyData.int ((os.idxOf i.toNat : Nat) : Int)) = natsD (invL n os) := by
  unfold natsD invL rg
  rw [Int.toNat_natCast, List.map_map, List.map_map]
  rfl
theorem rest_data {os : List Nat} {o : Nat} : PyData.tuple ((os.filter fun x => decide (x ≠ o)).map fun (x : Nat) => PyData.int (((downN o x : Nat)) : Int)) = natsD (restL os o) := by
  unfold natsD restL
  rw [List.map_map]
  rfl
theorem nats_int (os : List Nat) : natsD os = .tuple ((os.map fun (o : Nat) => (o : Int)).map PyData.int) := by
  unfold natsD
  rw [List.map_map]
  rfl
theorem idx_first {os : List Nat} {k m : Nat} (hm : m < os.idxOf k) : os[m]? ≠ some k := fun e => by
  obtain ⟨hl, e⟩ := List.getElem?_eq_some_iff.mp e
  have := List.not_of_lt_findIdx (p := fun x => x == k) (xs := os) (i := m) hm
  rw [e, beq_self_eq_true k] at this
  cases this
theorem down_cast {o x : Nat} : (x : Int) - (if decide ((o : Int) < (x : Int)) = true then 1 else 0) = ((downN o x : Nat) : Int) := by
  unfold downN
  by_cases h : o < x
  · rw [if_pos (decide_eq_true (by omega)), if_pos h]; omega
  · rw [if_neg (by rw [decide_eq_true_eq]; omega), if_neg h]; omega
section
variable {P : Program} {w : World} {K : PySem.W.Frag} {mg : Str → Option Value} {base : Heap}
theorem ok_ri36 {f : Addr} {fd : FuncData} (Fn : Fun K "_law_right" "_law_right" (topS 18) f fd) (mt : mg "tuple" = none) (mr : mg "range" = none) (mp : mg "repr" = none) (mi : mg "int" = none) (gr : PFn P w K mg base 3 "rename_switches" Rrns) (gu : PFn P w K mg base 2 "_law_due" Rrns) (go : PFn P w K mg base 2 "drop_switch" Rdrop) : FnG P w K mg base 4 f fd ["_law_box_here", "_law_order_here", "_law_other"] (spPure K Rri36) := by
  refine pure_ok (k := 3) Fn scR36 (fun ds d ⟨n, cs, os, vs, e, _⟩ => by rw [e]; rfl) (fun F ds d hK ⟨n, cs, os, vs, e, hn, hb, hp, hv, ed⟩ => ?_)
  subst e ed
  have hol := perm_len hp
  have hvl := perm_len hv
  have hrb : IsBox n (renmL n cs os) := img_box _ _ _
  have hfr : Fine 1000000 50 (boxD n (renmL n cs os)) := (box_fine hn hrb).mono (by decide) (by decide)
  refine wb_cons (ws_set 3 (by walk_at "tgt") (fun env h => by cases env; cases h; rfl) ?_)
  repeat walk_at "dx"
  refine ⟨.int (n : Int), rfl, ?_⟩
  refine wb_cons (ws_set 4 (by walk_at "tgt") (fun env h => by cases env; cases h; rfl) ?_)
  repeat walk_at "dx"
  refine ⟨_, ⟨n, cs, os, rfl, hn, hb, hp, rfl⟩, ?_⟩
  refine wb_cons (ws_if (wt_neT ?_))
  repeat walk_at "dx"
  refine ⟨hfr.ok, ?_⟩
  repeat walk_at "dx"
  refine ⟨_, ⟨n, cs, os, rfl, hn, hb, hp, rfl⟩, ?_⟩
  repeat walk_at "dx"
  refine ⟨hfr.ok, ?_⟩
  repeat walk_at "dx"
  generalize (boxD n (renmL n cs os)).shown = A
  refine iteNe rfl ?_
  refine wb_nil ?_
  refine wb_cons (ws_set 5 (by walk_at "tgt") (fun env h => by cases env; cases h; rfl) (we_tuple hK rfl mt (fun _ => rfl) (we_mR (fun i => .int ((os.idxOf i.toNat : Nat) : Int)) 6 (by walk_at "blk") rfl mr (fun _ => rfl) (fun _ _ => rfl) ?_)))
  walk_at "name"
  refine ⟨(n : Int), rfl, by omega, by omega, fun D i i0 i1 => ?_, _, rfl, ?_⟩
  · have hKD : (F.ext D).K = K := hK
    obtain ⟨i, rfl⟩ : ∃ i' : Nat, i = (i' : Int) := ⟨i.toNat, by omega⟩
    refine we_tupIx hKD ?_
    walk_at "name"
    refine ⟨_, nats_int os, ?_⟩
    walk_at "name"
    refine ⟨_, os.idxOf i, rfl, by rw [List.getElem?_map, idx_at hp (by omega)]; rfl, fun m hm e => ?_, rfl, by rw [Int.toNat_natCast]⟩
    rw [List.getElem?_map, Option.map_eq_some_iff] at e
    obtain ⟨x, hx, ex⟩ := e
    have : x = i := by omega
    subst this
    exact idx_first hm hx
  rw [inv_data]
  refine wb_cons (ws_if (wt_ne hK ?_))
  repeat walk_at "dx"
  refine ⟨_, ⟨n, _, invL n os, rfl, hn, hrb, inv_perm hp, rfl⟩, ?_⟩
  walk_at "name"
  refine ⟨shaped_box _ _, shaped_box _ _, ?_⟩
  refine iteNq (eqv_reflB rfl (renm_inv hb hp)) ?_
  refine wb_nil ?_
  refine wb_cons (ws_set 7 (by walk_at "tgt") (fun env h => by cases env; cases h; rfl) (we_tuple hK rfl mt (fun _ => rfl) (we_mT (fun (o : Nat) => PyData.int (o : Int)) (fun o => PyData.int ((os.getD o 0 : Nat) : Int)) 6 (by walk_at "blk") hK (fun _ _ => rfl) ?_)))
  walk_at "name"
  refine ⟨vs, rfl, by omega, fun D v hvm => ?_, _, rfl, ?_⟩
  · have hKD : (F.ext D).K = K := hK
    repeat walk_at "dx"
    have hlo : v < os.length := by rw [hol]; exact perm_lt hv v hvm
    exact ⟨_, ix_nats36 (k := v) (List.getElem?_eq_getElem hlo), rfl, by rw [List.getD_eq_getElem?_getD, List.getElem?_eq_getElem hlo]; rfl⟩
  have eb : PyData.tuple (vs.map fun o => PyData.int ((os.getD o 0 : Nat) : Int)) = natsD (bothL os vs) := by
    unfold natsD bothL
    rw [List.map_map]
    rfl
  rw [eb]
  refine wb_cons (ws_if (wt_ne hK ?_))
  repeat walk_at "dx"
  refine ⟨_, ⟨n, _, vs, rfl, hn, hrb, hv, rfl⟩, ?_⟩
  repeat walk_at "dx"
  refine ⟨_, ⟨n, _, bothL os vs, rfl, hn, hb, both_perm hp hv, rfl⟩, shaped_box _ _, shaped_box _ _, ?_⟩
  refine iteNq (eqv_reflB rfl (renm_both hb hp hv)) ?_
  refine wb_nil ?_
  refine wb_cons (ws_for_range 8 (by walk_at "tgt") rfl mr (fun _ => rfl) (fun _ _ => rfl) ?_)
  walk_at "name"
  refine ⟨fun _ k' ρ => ∃ x6 x8 x9 x10, ρ = [.d (boxD n cs), .d (natsD os), .d (natsD vs), .d (.int (n : Int)), .d (boxD n (renmL n cs os)), .d (natsD (invL n os)), x6, .d (natsD (bothL os vs)), x8, x9, x10], _, rfl, by omega, by omega, ⟨.un, .un, .un, .un, rfl⟩, ?_, ?_⟩
  · rintro i k' ρ hi ⟨x6, x8, x9, x10, rfl⟩
    have hi' : i < n := by omega
    have hlo : i < os.length := by omega
    have hoi : os[i]? = some os[i] := List.getElem?_eq_getElem hlo
    have hon : os[i] < n := perm_lt hp _ (List.getElem_mem hlo)
    generalize os[i] = o at hoi hon
    refine wb_cons (ws_fT (fun x => decide (x ≠ o)) (fun (x : Nat) => PyData.int (x : Int)) (fun x => PyData.int ((downN o x : Nat) : Int)) 10 9 (by walk_at "blk") (by walk_at "tgt") rfl rfl rfl (by decide +kernel) hK (fun _ _ => rfl) ?_)
    walk_at "name"
    refine ⟨os, rfl, by omega, fun D x hx => ?_, ?_⟩
    · have hKD : (F.ext D).K = K := hK
      refine wt_neI ?_
      repeat walk_at "dx"
      refine ⟨_, ix_nats36 hoi, _, _, rfl, rfl, rfl, ?_, fun _ => ?_⟩
      · show (!decide ((x : Int) = (o : Int))) = decide (x ≠ o)
        by_cases h : x = o
        · rw [decide_eq_true (show (x : Int) = (o : Int) by omega), decide_eq_false (by omega)]; rfl
        · rw [decide_eq_false (show ¬ (x : Int) = (o : Int) by omega), decide_eq_true h]; rfl
      · refine we_sub ?_
        walk_at "name"
        refine we_intB rfl mi (fun _ => rfl) (we_gt ?_)
        repeat walk_at "dx"
        refine ⟨_, ix_nats36 hoi, _, _, rfl, rfl, _, rfl, _, _, rfl, rfl, rfl, ?_⟩
        rw [down_cast]
    have hrl := rest_left hp hoi
    have hlp : (restL os o).Perm (List.range (n - 1)) := by rw [hrl]; exact left_perm hn hp hoi
    refine wb_cons (ws_if (wt_ne hK ?_))
    repeat walk_at "dx"
    refine ⟨_, ⟨n, _, i, rfl, hn, hrb, hi', rfl⟩, ?_⟩
    repeat walk_at "dx"
    refine ⟨_, ix_nats36 hoi, ?_⟩
    repeat walk_at "dx"
    refine ⟨_, ⟨n, _, o, rfl, hn, hb, hon, rfl⟩, ?_⟩
    repeat walk_at "dx"
    rw [rest_data]
    refine ⟨_, ⟨n - 1, _, restL os o, rfl, by omega, drop_box n cs o, hlp, rfl⟩, shaped_box _ _, shaped_box _ _, ?_⟩
    have ed : dropL n (renmL n cs os) i = renmL (n - 1) (dropL n cs o) (restL os o) := by
      rw [hrl]
      exact part_ren (w := 1) (on := true) hn hp hoi hb
    refine iteNq (eqv_reflB rfl ed) ?_
    exact wb_nil (wb_nil ⟨_, _, _, _, rfl⟩)
  · rintro k' ρ ⟨x6, x8, x9, x10, rfl⟩
    repeat walk_at "dx"
    rfl
end

abbrev nLaw : List Str := ["_law_script", "_law_deck_here", "_law_turn", "_law_box_here", "_law_shown", "_law_same", "_law_orders", "_law_order_here"]
theorem scLaw : FnScope nLaw ["_law_script"] (defScope (topS 19)) := ⟨rfl, rfl, rfl, by decide +kernel, rfl, by decide +kernel, by decide +kernel⟩
theorem same_data (n : Nat) : PyData.tuple ((rg (n : Int)).map PyData.int) = natsD (List.range n) := by
  unfold natsD rg
  rw [Int.toNat_natCast, List.map_map]
  rfl
theorem back_data (os : List Nat) : PyData.tuple (os.map fun (o : Nat) => PyData.int (o : Int)).reverse = natsD os.reverse := by
  unfold natsD
  rw [List.map_reverse]
section
variable {P : Program} {w : World} {K : PySem.W.Frag} {mg : Str → Option Value} {base : Heap}
theorem ok_law {f : Addr} {fd : FuncData} (Fn : Fun K "law" "law" (topS 19) f fd) (mr : mg "range" = none) (mp : mg "repr" = none) (mt : mg "tuple" = none) (ml : mg "list" = none)
    (gd : ∃ (fa : Addr) (fdd : FuncData), FnG P w K mg base 1 fa fdd ["_law_script"] (spDeck K) ∧ mg "_law_deck" = some (.ref fa) ∧ PySem.W.keepIn K (.ref fa) = true ∧ L2.Binds K fdd ["_law_script"] [])
    (gx : DFnQ P w K mg base 4 "_law_box" 68 PreBox60 RBox60) (go : DFnQ P w K mg base 2 "_law_order" 6 PreN ROrd) (g1 : PFn P w K mg base 4 "_law_right" Rri36) :
    FnG P w K mg base 5 f fd ["_law_script"] (spLaw K) := by
  refine lawQ_ok (k := 4) Fn scLaw rfl gd (by decide) rfl rfl (.inl rfl) (.inl rfl) rfl (fun _ => rfl) (fun F s a dk hK => ?_)
  refine wb_cons (ws_for_range 2 (by walk_at "tgt") rfl mr (fun _ => rfl) (fun _ _ => rfl) (we_int ?_))
  refine ⟨fun j k ρ => 900000 ≤ k + 100 * j ∧ ∃ x2 x3 x4 x5 x6 x7, ρ = [.un, .raw (.ref s), x2, x3, x4, x5, x6, x7], 5, rfl, by decide, by decide, ⟨by decide, _, _, _, _, _, _, rfl⟩, ?_, ?_⟩
  · rintro j k ρ hj ⟨hk, x2, x3, x4, x5, x6, x7, rfl⟩
    have hj6 : j < 5 := hj
    obtain ⟨k2, rfl⟩ : ∃ k2, k = k2 + 18 + 6 + 68 := ⟨k - 92, by omega⟩
    refine wb_cons (ws_set 3 (by walk_at "tgt") (fun _ _ => rfl) ?_)
    repeat walk_at "dq"
    refine ⟨⟨0, 6, rfl, by decide, by decide⟩, k2 + 18 + 6, rfl, ?_⟩
    rintro d ⟨l', m', n, cs, e1, hln, hnm, hx, rfl⟩
    have e2 := List.cons.inj e1
    have e4 := PyData.int.inj (List.cons.inj e2.2).1
    have hn : n ≤ 6 := by omega
    clear e1 e2 e4 hln hnm
    have hfb : Fine 1000000 50 (boxD n cs) := (box_fine hn hx).mono (by decide) (by decide)
    refine wb_cons (ws_set 4 (by walk_at "tgt") (fun _ _ => rfl) ?_)
    repeat walk_at "dq"
    refine ⟨hfb.ok, ?_⟩
    refine wb_cons (ws_set 5 (by walk_at "tgt") (fun _ _ => rfl) (we_tuple hK rfl mt (fun _ => rfl) (we_listRg rfl ml rfl mr (fun _ => rfl) (fun _ => rfl) ?_)))
    repeat walk_at "dq"
    refine ⟨.int (n : Int), rfl, _, rfl, ⟨by omega, by omega⟩, _, rfl, ?_⟩
    rw [same_data]
    refine wb_cons (ws_set 6 (by walk_at "tgt") (fun env h => by cases env; cases h; rfl) ?_)
    repeat walk_at "dq"
    refine ⟨.int (n : Int), rfl, ?_⟩
    repeat walk_at "dq"
    refine ⟨⟨n, rfl, hn⟩, k2 + 18, rfl, ?_⟩
    rintro d ⟨n', os, e1, hos, rfl⟩
    have : n' = n := by
      have := PyData.int.inj (List.cons.inj e1).1
      omega
    subst this
    refine wa_cons (fun _ => rfl) ?_
    walk_at "name"
    refine wa_cons (fun _ => rfl) (we_revT hK ?_)
    walk_at "name"
    refine ⟨_, rfl, wa_nil ⟨by show 3 ≤ _; decide, ?_⟩⟩
    rw [back_data]
    have hall : ∀ ps ∈ [os, List.range n', (List.range n').reverse], ps.Perm (List.range n') := fun ps hps => by
      rcases List.mem_cons.mp hps with rfl | hps
      · exact hos
      rcases List.mem_cons.mp hps with rfl | hps
      · exact .refl _
      · rw [List.mem_singleton.mp hps]; exact List.reverse_perm _
    have hlen : [os, List.range n', (List.range n').reverse].length = 3 := rfl
    have edata : [natsD os, natsD (List.range n'), natsD (List.range n').reverse] = [os, List.range n', (List.range n').reverse].map natsD := rfl
    rw [edata]
    generalize [os, List.range n', (List.range n').reverse] = pss at hall hlen
    refine wb_cons (ws_for_list 7 (by walk_at "tgt") hK (fun _ _ => rfl) ?_)
    walk_at "name"
    refine ⟨fun i k ρ => k + 6 * i = k2 + 18 ∧ ∃ x7, ρ = [.un, .raw (.ref s), .d (.int (j : Int)), .d (boxD n' cs), .d (.str (boxD n' cs).shown), .d (natsD (List.range n')), .d (.list (pss.map natsD)), x7], _, rfl, ⟨by omega, _, rfl⟩, ?_, ?_⟩
    · rintro i y k ρ hy ⟨hk', x7, rfl⟩
      rw [List.getElem?_map, Option.map_eq_some_iff] at hy
      obtain ⟨ps, hps, rfl⟩ := hy
      have hpp := hall ps (List.mem_of_getElem? hps)
      have hi := (List.getElem?_eq_some_iff.mp hps).1
      obtain ⟨k3, rfl⟩ : ∃ k3, k = k3 + 6 := ⟨k - 6, by omega⟩
      refine wb_cons (ws_if (wt_bool (ww_or (wt_not (wt_val (fun _ _ => rfl) ?_)))))
      repeat walk_at "dq"
      refine ⟨.int (n' : Int), rfl, ?_⟩
      repeat walk_at "dq"
      refine ⟨⟨n', rfl, hn⟩, k3, rfl, ?_⟩
      rintro d ⟨n2, vs, e1, hvs, rfl⟩
      have : n2 = n' := by
        have := PyData.int.inj (List.cons.inj e1).1
        omega
      subst this
      repeat walk_at "dq"
      refine ⟨_, ⟨n2, cs, ps, vs, rfl, hn, hx, hpp, hvs, rfl⟩, _, rfl, ?_⟩
      show if (!true) = true then _ else _
      rw [if_neg (by decide)]
      refine ww_or1 (wt_neT ?_)
      repeat walk_at "dq"
      refine ⟨hfb.ok, ?_⟩
      repeat walk_at "dq"
      generalize (boxD n2 cs).shown = A
      refine iteNe rfl ?_
      exact wb_nil (wb_nil ⟨by omega, _, rfl⟩)
    · rintro k ρ ⟨hk', x7, rfl⟩
      exact wb_nil ⟨by rw [List.length_map, hlen] at hk'; omega, _, _, _, _, _, _, rfl⟩
  · rintro k ρ ⟨hk, x2, x3, x4, x5, x6, x7, rfl⟩
    repeat walk_at "dq"
    rfl
end



/-! ### what the top has written; the end -/
theorem all_mk {P : Program} {w : World} {K : PySem.W.Frag} {h : Heap} {mg : Str → Option Value} {fa f0 f1 f2 f3 f4 f5 f6 f7 f8 f9 f10 f11 f12 f13 f14 f15 : Addr} (X : K.In h) (G : h.Ns mainGlobals mg) (hfa : mg "law" = some (.ref fa))
    {od0 an0 od1 an1 od2 an2 od3 an3 od4 an4 od5 an5 od6 an6 od7 an7 od8 an8 od9 an9 od10 an10 od11 an11 od12 an12 od13 an13 od14 an14 od15 an15 : Option Addr} {sl0 sl1 sl2 sl3 sl4 sl5 sl6 sl7 sl8 sl9 sl10 sl11 sl12 sl13 sl14 sl15 : Array (Option Value)} {oc0 kV0 dc0 pm0 cd0 ct0 oc1 kV1 dc1 pm1 cd1 ct1 oc2 kV2 dc2 pm2 cd2 ct2 oc3 kV3 dc3 pm3 cd3 ct3 oc4 kV4 dc4 pm4 cd4 ct4 oc5 kV5 dc5 pm5 cd5 ct5 oc6 kV6 dc6 pm6 cd6 ct6 oc7 kV7 dc7 pm7 cd7 ct7 oc8 kV8 dc8 pm8 cd8 ct8 oc9 kV9 dc9 pm9 cd9 ct9 oc10 kV10 dc10 pm10 cd10 ct10 oc11 kV11 dc11 pm11 cd11 ct11 oc12 kV12 dc12 pm12 cd12 ct12 oc13 kV13 dc13 pm13 cd13 ct13 oc14 kV14 dc14 pm14 cd14 ct14 oc15 kV15 dc15 pm15 cd15 ct15 : Value}
    (a0 : PySem.W.nsIn K mainGlobals "has_switch" = some (some (.ref f0))) (l0 : K.lookup f0 = some ⟨oc0, od0, .func (PySem.W.fnOf "has_switch" "has_switch" (defArgs (topS 1)) (defBody (topS 1)) (defScope (topS 1)) .none kV0 dc0 pm0 an0 cd0 ct0), sl0⟩) (c0 : PySem.W.codeIn K cd0 "has_switch" = true) (k0 : PySem.W.keepIn K (.ref f0) = true)
    (a1 : PySem.W.nsIn K mainGlobals "rename_switches" = some (some (.ref f1))) (l1 : K.lookup f1 = some ⟨oc1, od1, .func (PySem.W.fnOf "rename_switches" "rename_switches" (defArgs (topS 3)) (defBody (topS 3)) (defScope (topS 3)) .none kV1 dc1 pm1 an1 cd1 ct1), sl1⟩) (c1 : PySem.W.codeIn K cd1 "rename_switches" = true) (k1 : PySem.W.keepIn K (.ref f1) = true)
    (a2 : PySem.W.nsIn K mainGlobals "renamed_card" = some (some (.ref f2))) (l2 : K.lookup f2 = some ⟨oc2, od2, .func (PySem.W.fnOf "renamed_card" "renamed_card" (defArgs (topS 4)) (defBody (topS 4)) (defScope (topS 4)) .none kV2 dc2 pm2 an2 cd2 ct2), sl2⟩) (c2 : PySem.W.codeIn K cd2 "renamed_card" = true) (k2 : PySem.W.keepIn K (.ref f2) = true)
    (a3 : PySem.W.nsIn K mainGlobals "without_switch" = some (some (.ref f3))) (l3 : K.lookup f3 = some ⟨oc3, od3, .func (PySem.W.fnOf "without_switch" "without_switch" (defArgs (topS 6)) (defBody (topS 6)) (defScope (topS 6)) .none kV3 dc3 pm3 an3 cd3 ct3), sl3⟩) (c3 : PySem.W.codeIn K cd3 "without_switch" = true) (k3 : PySem.W.keepIn K (.ref f3) = true)
    (a4 : PySem.W.nsIn K mainGlobals "drop_switch" = some (some (.ref f4))) (l4 : K.lookup f4 = some ⟨oc4, od4, .func (PySem.W.fnOf "drop_switch" "drop_switch" (defArgs (topS 7)) (defBody (topS 7)) (defScope (topS 7)) .none kV4 dc4 pm4 an4 cd4 ct4), sl4⟩) (c4 : PySem.W.codeIn K cd4 "drop_switch" = true) (k4 : PySem.W.keepIn K (.ref f4) = true)
    (a5 : PySem.W.nsIn K mainGlobals "_law_deck" = some (some (.ref f5))) (l5 : K.lookup f5 = some ⟨oc5, od5, .func (PySem.W.fnOf "_law_deck" "_law_deck" (defArgs (topS 9)) (defBody (topS 9)) (defScope (topS 9)) .none kV5 dc5 pm5 an5 cd5 ct5), sl5⟩) (c5 : PySem.W.codeIn K cd5 "_law_deck" = true) (k5 : PySem.W.keepIn K (.ref f5) = true)
    (a6 : PySem.W.nsIn K mainGlobals "_law_draw" = some (some (.ref f6))) (l6 : K.lookup f6 = some ⟨oc6, od6, .func (PySem.W.fnOf "_law_draw" "_law_draw" (defArgs (topS 10)) (defBody (topS 10)) (defScope (topS 10)) .none kV6 dc6 pm6 an6 cd6 ct6), sl6⟩) (c6 : PySem.W.codeIn K cd6 "_law_draw" = true) (k6 : PySem.W.keepIn K (.ref f6) = true)
    (a7 : PySem.W.nsIn K mainGlobals "_law_digits" = some (some (.ref f7))) (l7 : K.lookup f7 = some ⟨oc7, od7, .func (PySem.W.fnOf "_law_digits" "_law_digits" (defArgs (topS 11)) (defBody (topS 11)) (defScope (topS 11)) .none kV7 dc7 pm7 an7 cd7 ct7), sl7⟩) (c7 : PySem.W.codeIn K cd7 "_law_digits" = true) (k7 : PySem.W.keepIn K (.ref f7) = true)
    (a8 : PySem.W.nsIn K mainGlobals "_law_number" = some (some (.ref f8))) (l8 : K.lookup f8 = some ⟨oc8, od8, .func (PySem.W.fnOf "_law_number" "_law_number" (defArgs (topS 12)) (defBody (topS 12)) (defScope (topS 12)) .none kV8 dc8 pm8 an8 cd8 ct8), sl8⟩) (c8 : PySem.W.codeIn K cd8 "_law_number" = true) (k8 : PySem.W.keepIn K (.ref f8) = true)
    (a9 : PySem.W.nsIn K mainGlobals "_law_closed" = some (some (.ref f9))) (l9 : K.lookup f9 = some ⟨oc9, od9, .func (PySem.W.fnOf "_law_closed" "_law_closed" (defArgs (topS 13)) (defBody (topS 13)) (defScope (topS 13)) .none kV9 dc9 pm9 an9 cd9 ct9), sl9⟩) (c9 : PySem.W.codeIn K cd9 "_law_closed" = true) (k9 : PySem.W.keepIn K (.ref f9) = true)
    (a10 : PySem.W.nsIn K mainGlobals "_law_cards" = some (some (.ref f10))) (l10 : K.lookup f10 = some ⟨oc10, od10, .func (PySem.W.fnOf "_law_cards" "_law_cards" (defArgs (topS 14)) (defBody (topS 14)) (defScope (topS 14)) .none kV10 dc10 pm10 an10 cd10 ct10), sl10⟩) (c10 : PySem.W.codeIn K cd10 "_law_cards" = true) (k10 : PySem.W.keepIn K (.ref f10) = true)
    (a11 : PySem.W.nsIn K mainGlobals "_law_box" = some (some (.ref f11))) (l11 : K.lookup f11 = some ⟨oc11, od11, .func (PySem.W.fnOf "_law_box" "_law_box" (defArgs (topS 15)) (defBody (topS 15)) (defScope (topS 15)) .none kV11 dc11 pm11 an11 cd11 ct11), sl11⟩) (c11 : PySem.W.codeIn K cd11 "_law_box" = true) (k11 : PySem.W.keepIn K (.ref f11) = true)
    (a12 : PySem.W.nsIn K mainGlobals "_law_order" = some (some (.ref f12))) (l12 : K.lookup f12 = some ⟨oc12, od12, .func (PySem.W.fnOf "_law_order" "_law_order" (defArgs (topS 16)) (defBody (topS 16)) (defScope (topS 16)) .none kV12 dc12 pm12 an12 cd12 ct12), sl12⟩) (c12 : PySem.W.codeIn K cd12 "_law_order" = true) (k12 : PySem.W.keepIn K (.ref f12) = true)
    (a13 : PySem.W.nsIn K mainGlobals "_law_due" = some (some (.ref f13))) (l13 : K.lookup f13 = some ⟨oc13, od13, .func (PySem.W.fnOf "_law_due" "_law_due" (defArgs (topS 17)) (defBody (topS 17)) (defScope (topS 17)) .none kV13 dc13 pm13 an13 cd13 ct13), sl13⟩) (c13 : PySem.W.codeIn K cd13 "_law_due" = true) (k13 : PySem.W.keepIn K (.ref f13) = true)
    (a14 : PySem.W.nsIn K mainGlobals "_law_right" = some (some (.ref f14))) (l14 : K.lookup f14 = some ⟨oc14, od14, .func (PySem.W.fnOf "_law_right" "_law_right" (defArgs (topS 18)) (defBody (topS 18)) (defScope (topS 18)) .none kV14 dc14 pm14 an14 cd14 ct14), sl14⟩) (c14 : PySem.W.codeIn K cd14 "_law_right" = true) (k14 : PySem.W.keepIn K (.ref f14) = true)
    (a15 : PySem.W.nsIn K mainGlobals "law" = some (some (.ref f15))) (l15 : K.lookup f15 = some ⟨oc15, od15, .func (PySem.W.fnOf "law" "law" (defArgs (topS 19)) (defBody (topS 19)) (defScope (topS 19)) .none kV15 dc15 pm15 an15 cd15 ct15), sl15⟩) (c15 : PySem.W.codeIn K cd15 "law" = true) (k15 : PySem.W.keepIn K (.ref f15) = true)
    (z0 : PySem.W.nsIn K mainGlobals "range" = some none)
    (z1 : PySem.W.nsIn K mainGlobals "tuple" = some none)
    (z2 : PySem.W.nsIn K mainGlobals "len" = some none)
    (z3 : PySem.W.nsIn K mainGlobals "repr" = some none)
    (z4 : PySem.W.nsIn K mainGlobals "abs" = some none)
    (z5 : PySem.W.nsIn K mainGlobals "list" = some none)
    (z6 : PySem.W.nsIn K mainGlobals "sorted" = some none)
    (z7 : PySem.W.nsIn K mainGlobals "set" = some none)
    (z8 : PySem.W.nsIn K mainGlobals "sum" = some none)
    (z9 : PySem.W.nsIn K mainGlobals "max" = some none)
    (z10 : PySem.W.nsIn K mainGlobals "enumerate" = some none)
    (z11 : PySem.W.nsIn K mainGlobals "int" = some none)
    : ∃ fd : FuncData, (∀ (s : Shared) (v : Value), BindsTo s fd ⟨[v], []⟩ [("_law_script", v)]) ∧ ∀ base : Heap, K.In base → base.Ns mainGlobals mg → FnG P w K mg base 5 fa fd ["_law_script"] (spLaw K) := by
  have e := hfa.symm.trans (PySem.W.mg_of X G a15)
  cases e
  have F0 := fun_mk (st := topS 1) l0 c0 k0
  have m0 := PySem.W.mg_of X G a0
  have b0 := F0.binds (ps := ["switches", "switch"]) fun _ _ _ _ _ _ us hl => match us, hl with | [_, _], _ => rfl
  have F1 := fun_mk (st := topS 3) l1 c1 k1
  have m1 := PySem.W.mg_of X G a1
  have b1 := F1.binds (ps := ["box", "order"]) fun _ _ _ _ _ _ us hl => match us, hl with | [_, _], _ => rfl
  have F2 := fun_mk (st := topS 4) l2 c2 k2
  have m2 := PySem.W.mg_of X G a2
  have b2 := F2.binds (ps := ["card", "order"]) fun _ _ _ _ _ _ us hl => match us, hl with | [_, _], _ => rfl
  have F3 := fun_mk (st := topS 6) l3 c3 k3
  have m3 := PySem.W.mg_of X G a3
  have b3 := F3.binds (ps := ["card", "switch"]) fun _ _ _ _ _ _ us hl => match us, hl with | [_, _], _ => rfl
  have F4 := fun_mk (st := topS 7) l4 c4 k4
  have m4 := PySem.W.mg_of X G a4
  have b4 := F4.binds (ps := ["box", "switch"]) fun _ _ _ _ _ _ us hl => match us, hl with | [_, _], _ => rfl
  have F5 := fun_mk (st := topS 9) l5 c5 k5
  have m5 := PySem.W.mg_of X G a5
  have b5 := F5.binds (ps := ["_law_script"]) fun _ _ _ _ _ _ us hl => match us, hl with | [_], _ => rfl
  have F6 := fun_mk (st := topS 10) l6 c6 k6
  have m6 := PySem.W.mg_of X G a6
  have b6 := F6.binds (ps := ["_law_deck_here", "_law_bound"]) fun _ _ _ _ _ _ us hl => match us, hl with | [_, _], _ => rfl
  have F7 := fun_mk (st := topS 11) l7 c7 k7
  have m7 := PySem.W.mg_of X G a7
  have b7 := F7.binds (ps := ["_law_n", "_law_card"]) fun _ _ _ _ _ _ us hl => match us, hl with | [_, _], _ => rfl
  have F8 := fun_mk (st := topS 12) l8 c8 k8
  have m8 := PySem.W.mg_of X G a8
  have b8 := F8.binds (ps := ["_law_digits_here"]) fun _ _ _ _ _ _ us hl => match us, hl with | [_], _ => rfl
  have F9 := fun_mk (st := topS 13) l9 c9 k9
  have m9 := PySem.W.mg_of X G a9
  have b9 := F9.binds (ps := ["_law_deck_here", "_law_n"]) fun _ _ _ _ _ _ us hl => match us, hl with | [_, _], _ => rfl
  have F10 := fun_mk (st := topS 14) l10 c10 k10
  have m10 := PySem.W.mg_of X G a10
  have b10 := F10.binds (ps := ["_law_deck_here", "_law_n"]) fun _ _ _ _ _ _ us hl => match us, hl with | [_, _], _ => rfl
  have F11 := fun_mk (st := topS 15) l11 c11 k11
  have m11 := PySem.W.mg_of X G a11
  have b11 := F11.binds (ps := ["_law_deck_here", "_law_least", "_law_most"]) fun _ _ _ _ _ _ us hl => match us, hl with | [_, _, _], _ => rfl
  have F12 := fun_mk (st := topS 16) l12 c12 k12
  have m12 := PySem.W.mg_of X G a12
  have b12 := F12.binds (ps := ["_law_deck_here", "_law_n"]) fun _ _ _ _ _ _ us hl => match us, hl with | [_, _], _ => rfl
  have F13 := fun_mk (st := topS 17) l13 c13 k13
  have m13 := PySem.W.mg_of X G a13
  have b13 := F13.binds (ps := ["_law_box_here", "_law_order_here"]) fun _ _ _ _ _ _ us hl => match us, hl with | [_, _], _ => rfl
  have F14 := fun_mk (st := topS 18) l14 c14 k14
  have m14 := PySem.W.mg_of X G a14
  have b14 := F14.binds (ps := ["_law_box_here", "_law_order_here", "_law_other"]) fun _ _ _ _ _ _ us hl => match us, hl with | [_, _, _], _ => rfl
  have F15 := fun_mk (st := topS 19) l15 c15 k15
  have m15 := PySem.W.mg_of X G a15
  have n_range := PySem.W.mg_none_of X G z0
  have n_tuple := PySem.W.mg_none_of X G z1
  have n_len := PySem.W.mg_none_of X G z2
  have n_repr := PySem.W.mg_none_of X G z3
  have n_abs := PySem.W.mg_none_of X G z4
  have n_list := PySem.W.mg_none_of X G z5
  have n_sorted := PySem.W.mg_none_of X G z6
  have n_set := PySem.W.mg_none_of X G z7
  have n_sum := PySem.W.mg_none_of X G z8
  have n_max := PySem.W.mg_none_of X G z9
  have n_enumerate := PySem.W.mg_none_of X G z10
  have n_int := PySem.W.mg_none_of X G z11
  refine ⟨PySem.W.fnOf "law" "law" (defArgs (topS 19)) (defBody (topS 19)) (defScope (topS 19)) .none kV15 dc15 pm15 an15 cd15 ct15, fun s v => .of_eq rfl, fun base _ _ => ?_⟩
  have g__law_draw60 : DFnQ P w K mg base 1 "_law_draw" 1 PreNext RNext := ⟨_, _, _, ok_draw F6 n_len n_max, m6, k6, b6⟩
  have g__law_closed60 : DFnQ P w K mg base 2 "_law_closed" 5 PreN RCards := ⟨_, _, _, ok_clo F9 n_range g__law_draw60, m9, k9, b9⟩
  have g__law_cards60 : DFnQ P w K mg base 3 "_law_cards" 65 PreN RCards := ⟨_, _, _, ok_cds F10 n_range n_list n_sum g__law_draw60 g__law_closed60, m10, k10, b10⟩
  have g__law_box60 : DFnQ P w K mg base 4 "_law_box" 68 PreBox60 RBox60 := ⟨_, _, _, ok_box60 F11 n_tuple n_sorted g__law_draw60 g__law_cards60, m11, k11, b11⟩
  have g_has_switch : PFn P w K mg base 1 "has_switch" Rhsw := ⟨_, _, _, ok_hsw F0 , m0, k0, b0⟩
  have g_without_switch : PFn P w K mg base 1 "without_switch" Rwos := ⟨_, _, _, ok_wos F3 , m3, k3, b3⟩
  have g_drop_switch : PFn P w K mg base 2 "drop_switch" Rdrop := ⟨_, _, _, ok_drop F4 n_tuple n_sorted g_without_switch, m4, k4, b4⟩
  have g_renamed_card : PFn P w K mg base 2 "renamed_card" Rrnc := ⟨_, _, _, ok_rnc F2 n_sum n_enumerate g_has_switch, m2, k2, b2⟩
  have g_rename_switches : PFn P w K mg base 3 "rename_switches" Rrns := ⟨_, _, _, ok_rns F1 n_tuple n_sorted g_renamed_card, m1, k1, b1⟩
  have g__law_digits : PFn P w K mg base 1 "_law_digits" Rdig := ⟨_, _, _, ok_dig F7 n_range, m7, k7, b7⟩
  have g__law_number : PFn P w K mg base 1 "_law_number" Rnmb := ⟨_, _, _, ok_nmb F8 n_sum n_enumerate, m8, k8, b8⟩
  have g__law_order41 : DFnQ P w K mg base 2 "_law_order" 6 PreN ROrd := ⟨_, _, _, ok_ord F12 n_range n_tuple n_len n_list g__law_draw60, m12, k12, b12⟩
  have g__law_due36 : PFn P w K mg base 2 "_law_due" Rrns := ⟨_, _, _, ok_due36 F13 n_tuple n_sorted g__law_digits g__law_number, m13, k13, b13⟩
  have g__law_right36 : PFn P w K mg base 4 "_law_right" Rri36 := ⟨_, _, _, ok_ri36 F14 n_tuple n_range n_repr n_int g_rename_switches g__law_due36 g_drop_switch, m14, k14, b14⟩
  exact ok_law F15 n_range n_repr n_tuple n_list ⟨_, _, ok_deck F5 n_abs, m5, k5, b5⟩ g__law_box60 g__law_order41 g__law_right36
end K36
open PySem PySem.W PyProof.Rows
set_option maxHeartbeats 0 in
theorem PySem.Challenge.cw_cardboxes_k36_renamed_switches_holds : PySem.Challenge.rw_cardboxes_k36_renamed_switches.Holds := by
  w_on; o_law; k_head; (case hw => w_witness2)
  k_fill
  refine Dl.walk_end (l := PySem.Challenge.rw_cardboxes_k36_renamed_switches) (n := 63) (k := 5) (x := "_law_script") (sp := Dl.spLaw) rfl (by decide) rfl ⟨rfl, by decide, by decide⟩ (fun w h Y => PySem.W.kIn_of Y) ?F (fun _ _ a ns hl _ hS => ⟨a, ns, rfl, hS, hl, fun _ => rfl⟩)
  case F =>
    intro w mg fa h KX G hmg
    refine' K36.all_mk KX G hmg ?a0 ?l0 ?c0 ?k0 ?a1 ?l1 ?c1 ?k1 ?a2 ?l2 ?c2 ?k2 ?a3 ?l3 ?c3 ?k3 ?a4 ?l4 ?c4 ?k4 ?a5 ?l5 ?c5 ?k5 ?a6 ?l6 ?c6 ?k6 ?a7 ?l7 ?c7 ?k7 ?a8 ?l8 ?c8 ?k8 ?a9 ?l9 ?c9 ?k9 ?a10 ?l10 ?c10 ?k10 ?a11 ?l11 ?c11 ?k11 ?a12 ?l12 ?c12 ?k12 ?a13 ?l13 ?c13 ?k13 ?a14 ?l14 ?c14 ?k14 ?a15 ?l15 ?c15 ?k15 ?z0 ?z1 ?z2 ?z3 ?z4 ?z5 ?z6 ?z7 ?z8 ?z9 ?z10 ?z11 
    (case a0 => k_is); (case l0 => k_is); (case c0 => k_is); (case k0 => k_is)
    (case a1 => k_is); (case l1 => k_is); (case c1 => k_is); (case k1 => k_is)
    (case a2 => k_is); (case l2 => k_is); (case c2 => k_is); (case k2 => k_is)
    (case a3 => k_is); (case l3 => k_is); (case c3 => k_is); (case k3 => k_is)
    (case a4 => k_is); (case l4 => k_is); (case c4 => k_is); (case k4 => k_is)
    (case a5 => k_is); (case l5 => k_is); (case c5 => k_is); (case k5 => k_is)
    (case a6 => k_is); (case l6 => k_is); (case c6 => k_is); (case k6 => k_is)
    (case a7 => k_is); (case l7 => k_is); (case c7 => k_is); (case k7 => k_is)
    (case a8 => k_is); (case l8 => k_is); (case c8 => k_is); (case k8 => k_is)
    (case a9 => k_is); (case l9 => k_is); (case c9 => k_is); (case k9 => k_is)
    (case a10 => k_is); (case l10 => k_is); (case c10 => k_is); (case k10 => k_is)
    (case a11 => k_is); (case l11 => k_is); (case c11 => k_is); (case k11 => k_is)
    (case a12 => k_is); (case l12 => k_is); (case c12 => k_is); (case k12 => k_is)
    (case a13 => k_is); (case l13 => k_is); (case c13 => k_is); (case k13 => k_is)
    (case a14 => k_is); (case l14 => k_is); (case c14 => k_is); (case k14 => k_is)
    (case a15 => k_is); (case l15 => k_is); (case c15 => k_is); (case k15 => k_is)
    (case z0 => k_is); (case z1 => k_is); (case z2 => k_is); (case z3 => k_is); (case z4 => k_is); (case z5 => k_is); (case z6 => k_is); (case z7 => k_is); (case z8 => k_is); (case z9 => k_is); (case z10 => k_is); (case z11 => k_is)

