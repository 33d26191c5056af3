import PyProof.Rows.All
import Wide.All
import OpenK.AllK
import Wide.FinOn
import HandS.ForMost
import HandS.Conv
import HandS.Strs
import HandS.SortInts
import HandS.Wide
import HandS.WideBits
import HandS.IsInst
import HandS.Style
import HandS.NoneIn
import HandS.SetFor
import HandS.SetBool
import HandS.SortKw
import KE.DataMinMax
import HandS.TupAny
import PyProof.TupleOfSeq
import PyProof.ReprRoads
import PyProof.ReprLen
import PyProof.ExcBaseAll.LookupError
import HandS.Zip
import HandS.TupLe
import HandS.RevRange
import KE.GoesMore
import HandS.Dict
import HandS.Sort
import KE.KDictList
import KE.KRevSl
import PyProof.EqKinds
import PyProof.NeKinds
import PyProof.FactsAll.dict_1
import HandS.Star
import HandS.FStr
import HandS.Defaults
import HandS.ClsMeth
import HandS.TupMul
import KE.KTupSum
import HandS.Exc
import HandS.ExcInit
import HandS.ExcField
import HandS.ExcIs
import HandS.TryMany
import HandS.ExcOwn
import HandS.HotCalls
import KE.KExcIs
import KE.KExcLine
import HandS.Lambda
import HandS.SortRule
import KE.GoesEnumKw
import PyProof.Rows.StrRev
import HandS.ReplaceLit
import PyProof.StrCalls6
import KE.SortKeyHeap
import KE.SortData
import HandS.ReplaceList
import HandS.EndBits
import KE.KNest
import KE.KUnpackStar
import PySem.Challenge.RW_cardboxes_k63_whole_texts_there_and_back
set_option Elab.async false
set_option linter.all false
set_option maxRecDepth 100000
set_option maxHeartbeats 4000000
namespace Dl
open PySem PySem.Spec PyProof.Rows L2

/-! ### lists that only their owner knows: described by what is true of the object; data are never such -/
def extL (s : Addr) (as : List Addr) : HO := .ext fun h => as.length ≤ sizeLine ∧ ∃ n : Nat, h.get? s = some { cls := .type "list", data := .seq (as.map Value.ref).toArray n }
def IsX (o : HO) : Prop := ∃ s as, as.length ≤ sizeLine ∧ o = extL s as
theorem nx_lst {xs : List V} : ¬ IsX (.lst xs) := fun ⟨_, _, _, e⟩ => by unfold extL at e; cases e
theorem nx_tup {xs : List V} : ¬ IsX (.tup xs) := fun ⟨_, _, _, e⟩ => by unfold extL at e; cases e
theorem nx_set {w : World} {D : Addr} {S : Int → Bool} {c : Nat} : ¬ IsX (SetO w D S c) := fun ⟨s, as, hl, e⟩ => by
  unfold SetO extL at e
  have e2 := HO.ext.inj e
  let ob : Obj := { cls := .type "list", data := .seq (as.map Value.ref).toArray 0 }
  let h : Heap := ⟨(List.replicate (s + 1) ob).toArray, {}⟩
  have hs : h.get? s = some ob := by
    unfold Heap.get?
    have : h.objs[s]? = some ob := by
      show (List.replicate (s + 1) ob).toArray[s]? = some ob
      simp
    rw [this]
  have hr : SetR w h D S c := by
    have := congrFun e2 h
    rw [this]
    exact ⟨hl, 0, hs⟩
  obtain ⟨o, es, ep, t, ho, _, hd, _⟩ := hr
  have : o = ob := by
    unfold Heap.get? at ho
    cases q : h.objs[D]? with
    | none => rw [q] at ho; cases ho
    | some u =>
      have hu : u = ob := by
        have q' : (List.replicate (s + 1) ob).toArray[D]? = some u := q
        rw [List.getElem?_toArray] at q'
        exact List.eq_of_mem_replicate (List.mem_of_getElem? q')
      subst hu
      rw [q] at ho
      exact (Option.some.inj ho).symm
  rw [this] at hd
  cases hd
theorem nx_dK {xs : List (Key × V)} : ¬ IsX (.dK xs) := fun ⟨_, _, _, e⟩ => by unfold extL at e; cases e
/-- what stays where it stands: tuples, the objects of codes -/
def IsK (o : HO) : Prop := (∃ xs, o = .tup xs) ∨ ∃ c q, o = LamX.CodeO c q
theorem nk_lst {xs : List V} : ¬ IsK (.lst xs) := fun z => z.elim (fun ⟨_, q⟩ => nomatch q) fun ⟨_, _, q⟩ => by unfold LamX.CodeO at q; cases q
/-! ### data in the heap, away from the addresses S -/
def kP : Key → PyData
  | .inl i => .int i
  | .inr x => .str x
mutual
inductive Rep (K : PySem.W.Frag) (S : Addr → Prop) (H : Hp) : V → PyData → Prop
  | non : Rep K S H .non .none
  | bl (b : Bool) : Rep K S H (.bl b) (.bool b)
  | int (i : Int) : Rep K S H (.int i) (.int i)
  | str (x : Str) : Rep K S H (.str x) (.str x)
  | lst {a : Addr} {xs : List V} {ds : List PyData} : H a = some (.lst xs) ∧ ¬ S a → RepAll K S H xs ds → Rep K S H (.ref a) (.list ds)
  | tup {a : Addr} {xs : List V} {ds : List PyData} : H a = some (.tup xs) ∧ ¬ S a → RepAll K S H xs ds → Rep K S H (.ref a) (.tuple ds)
  | dct {a : Addr} {kvs : List (Key × V)} {es : List (PyData × PyData)} : H a = some (.dK kvs) ∧ ¬ S a → RepKV K S H kvs es → Rep K S H (.ref a) (.dict es)
inductive RepAll (K : PySem.W.Frag) (S : Addr → Prop) (H : Hp) : List V → List PyData → Prop
  | nil : RepAll K S H [] []
  | cons {v : V} {vs : List V} {d : PyData} {ds : List PyData} : Rep K S H v d → RepAll K S H vs ds → RepAll K S H (v :: vs) (d :: ds)
inductive RepKV (K : PySem.W.Frag) (S : Addr → Prop) (H : Hp) : List (Key × V) → List (PyData × PyData) → Prop
  | nil : RepKV K S H [] []
  | cons {k : Key} {v : V} {kvs : List (Key × V)} {d : PyData} {es : List (PyData × PyData)} : Rep K S H v d → RepKV K S H kvs es → RepKV K S H ((k, v) :: kvs) ((kP k, d) :: es)
end
section
variable {K : PySem.W.Frag} {S S' : Addr → Prop} {H H' : Hp}
theorem sql_of {a : Addr} {xs : List V} (h : H a = some (.lst xs) ∧ ¬ S a) : SqL K H a xs := .inl (.inl h.1)
theorem sqt_of {a : Addr} {xs : List V} (h : H a = some (.tup xs) ∧ ¬ S a) : SqT K H a xs := .inl (.inl h.1)
mutual
theorem Rep.keepX (e : ∀ b o, ¬ S b → ¬ IsX o → H b = some o → H' b = some o) (hs : ∀ b, H b ≠ none → S' b → S b) : ∀ (d : PyData) (v : V), Rep K S H v d → Rep K S' H' v d
  | .none, _, h => by cases h; exact .non
  | .bool b, _, h => by cases h; exact .bl b
  | .int i, _, h => by cases h; exact .int i
  | .str x, _, h => by cases h; exact .str x
  | .list ds, _, h => by
    cases h with
    | lst h1 h3 => exact .lst ⟨e _ _ h1.2 nx_lst h1.1, fun y => h1.2 (hs _ (by rw [h1.1]; exact fun z => nomatch z) y)⟩ (RepAll.keepX e hs ds _ h3)
  | .tuple ds, _, h => by
    cases h with
    | tup h1 h3 => exact .tup ⟨e _ _ h1.2 nx_tup h1.1, fun y => h1.2 (hs _ (by rw [h1.1]; exact fun z => nomatch z) y)⟩ (RepAll.keepX e hs ds _ h3)
  | .dict es, _, h => by
    cases h with
    | dct h1 h3 => exact .dct ⟨e _ _ h1.2 nx_dK h1.1, fun y => h1.2 (hs _ (by rw [h1.1]; exact fun z => nomatch z) y)⟩ (RepKV.keepX e hs es _ h3)
theorem RepAll.keepX (e : ∀ b o, ¬ S b → ¬ IsX o → H b = some o → H' b = some o) (hs : ∀ b, H b ≠ none → S' b → S b) : ∀ (ds : List PyData) (vs : List V), RepAll K S H vs ds → RepAll K S' H' vs ds
  | [], _, h => by cases h; exact .nil
  | d :: ds, _, h => by
    cases h with
    | cons h1 h2 => exact .cons (Rep.keepX e hs d _ h1) (RepAll.keepX e hs ds _ h2)
theorem RepKV.keepX (e : ∀ b o, ¬ S b → ¬ IsX o → H b = some o → H' b = some o) (hs : ∀ b, H b ≠ none → S' b → S b) : ∀ (es : List (PyData × PyData)) (vs : List (Key × V)), RepKV K S H vs es → RepKV K S' H' vs es
  | [], _, h => by cases h; exact .nil
  | (p, d) :: es, _, h => by
    cases h with
    | cons h1 h2 => exact .cons (Rep.keepX e hs d _ h1) (RepKV.keepX e hs es _ h2)
end
theorem Rep.keep (e : ∀ b o, ¬ S b → H b = some o → H' b = some o) (hs : ∀ b, H b ≠ none → S' b → S b) (d : PyData) (v : V) (r : Rep K S H v d) : Rep K S' H' v d := Rep.keepX (fun b o n _ q => e b o n q) hs d v r
theorem RepAll.keep (e : ∀ b o, ¬ S b → H b = some o → H' b = some o) (hs : ∀ b, H b ≠ none → S' b → S b) (d : List PyData) (v : List V) (r : RepAll K S H v d) : RepAll K S' H' v d := RepAll.keepX (fun b o n _ q => e b o n q) hs d v r
mutual
theorem Rep.dp : ∀ (d : PyData) (v : V), Rep K S H v d → d.hasDict = false → Dp K H v d
  | .none, _, h, _ => by cases h; exact .non
  | .bool b, _, h, _ => by cases h; exact .bl b
  | .int i, _, h, _ => by cases h; exact .int i
  | .str x, _, h, _ => by cases h; exact .str x
  | .list ds, _, h, n => by
    cases h with
    | lst h1 h3 => exact .lst (sql_of h1) (RepAll.dp ds _ h3 (by simpa only [PyData.hasDict] using n))
  | .tuple ds, _, h, n => by
    cases h with
    | tup h1 h3 => exact .tup (sqt_of h1) (RepAll.dp ds _ h3 (by simpa only [PyData.hasDict] using n))
  | .dict _, _, h, n => by simp [PyData.hasDict] at n
theorem RepAll.dp : ∀ (ds : List PyData) (vs : List V), RepAll K S H vs ds → PyData.hasDictAll ds = false → DpAll K H vs ds
  | [], _, h, _ => by cases h; exact .nil
  | d :: ds, _, h, n => by
    rw [PyData.hasDictAll, Bool.or_eq_false_iff] at n
    cases h with
    | cons h1 h2 => exact .cons (Rep.dp d _ h1 n.1) (RepAll.dp ds _ h2 n.2)
end
mutual
theorem nodict_of : ∀ d : PyData, d.canLay0 = true → d.hasDict = false
  | .none, _ => by simp only [PyData.hasDict]
  | .bool _, _ => by simp only [PyData.hasDict]
  | .int _, _ => by simp only [PyData.hasDict]
  | .str _, _ => by simp only [PyData.hasDict]
  | .list ds, h => by rw [PyData.hasDict]; exact nodictAll_of ds (by simpa only [PyData.canLay0] using h)
  | .tuple ds, h => by rw [PyData.hasDict]; exact nodictAll_of ds (by simpa only [PyData.canLay0] using h)
  | .dict _, h => by simp [PyData.canLay0] at h
theorem nodictAll_of : ∀ ds : List PyData, PyData.canLayAll0 ds = true → PyData.hasDictAll ds = false
  | [], _ => by simp only [PyData.hasDictAll]
  | d :: ds, h => by
    rw [PyData.canLayAll0, Bool.and_eq_true] at h
    rw [PyData.hasDictAll, nodict_of d h.1, nodictAll_of ds h.2]; rfl
end
theorem nodict_sh {d : PyData} (h : SeqAt.shaped d = true) : d.hasDict = false := nodict_of d (Bool.and_eq_true_iff.mp h).1
theorem RepAll.length : ∀ {ds : List PyData} {vs : List V}, RepAll K S H vs ds → vs.length = ds.length
  | [], _, h => by cases h; rfl
  | d :: ds, _, h => by
    cases h with
    | cons h1 h2 => rw [List.length_cons, List.length_cons, RepAll.length h2]
theorem RepAll.get : ∀ {ds : List PyData} {vs : List V} {i : Nat} {d : PyData}, RepAll K S H vs ds → ds[i]? = some d → ∃ v, vs[i]? = some v ∧ Rep K S H v d
  | _ :: _, _, 0, _, h, e => by
    cases h with
    | cons h1 h2 => cases e; exact ⟨_, rfl, h1⟩
  | _ :: ds, _, i + 1, d, h, e => by
    cases h with
    | cons h1 h2 =>
      obtain ⟨v, q, r⟩ := RepAll.get (i := i) (d := d) h2 (by simpa using e)
      exact ⟨v, by simpa using q, r⟩
  | [], _, i, _, _, e => by simp at e
theorem RepAll.got : ∀ {ds : List PyData} {vs : List V} {i : Nat} {v : V}, RepAll K S H vs ds → vs[i]? = some v → ∃ d, ds[i]? = some d ∧ Rep K S H v d
  | _ :: _, _, 0, _, h, e => by
    cases h with
    | cons h1 h2 => cases e; exact ⟨_, rfl, h1⟩
  | _ :: ds, _, i + 1, d, h, e => by
    cases h with
    | cons h1 h2 =>
      obtain ⟨v, q, r⟩ := RepAll.got (i := i) h2 (by simpa using e)
      exact ⟨v, by simpa using q, r⟩
  | [], _, i, _, h, e => by cases h; simp at e
theorem RepAll.append : ∀ {ds es : List PyData} {vs ws : List V}, RepAll K S H vs ds → RepAll K S H ws es → RepAll K S H (vs ++ ws) (ds ++ es)
  | [], _, _, _, h, h' => by cases h; exact h'
  | d :: ds, _, _, _, h, h' => by
    cases h with
    | cons h1 h2 => exact .cons h1 (RepAll.append h2 h')
theorem RepAll.take (n : Nat) : ∀ {ds : List PyData} {vs : List V}, RepAll K S H vs ds → RepAll K S H (vs.take n) (ds.take n) := by
  induction n with
  | zero => intro _ _ _; simp; exact .nil
  | succ n ih =>
    intro ds vs h
    cases h with
    | nil => exact .nil
    | cons h1 h2 => exact .cons h1 (ih h2)
theorem RepAll.drop (n : Nat) : ∀ {ds : List PyData} {vs : List V}, RepAll K S H vs ds → RepAll K S H (vs.drop n) (ds.drop n) := by
  induction n with
  | zero => intro _ _ h; exact h
  | succ n ih =>
    intro ds vs h
    cases h with
    | nil => exact .nil
    | cons h1 h2 => exact ih h2
theorem RepAll.ints : ∀ {ns : List Int} {vs : List V}, RepAll K S H vs (ns.map PyData.int) → vs = ns.map V.int
  | [], _, h => by cases h; rfl
  | n :: ns, _, h => by
    cases h with
    | cons h1 h2 => cases h1; rw [RepAll.ints h2]; rfl
theorem RepAll.of_ints : ∀ (ns : List Int), RepAll K S H (ns.map V.int) (ns.map PyData.int)
  | [] => .nil
  | n :: ns => .cons (.int n) (RepAll.of_ints ns)
end
end Dl

namespace Dl
open PySem PySem.Spec PyProof.Rows L2

/-- what stands, and is no tuple -/
def Lv (H : Hp) (b : Addr) : Prop := ∃ o, H b = some o ∧ ∀ xs, o ≠ .tup xs
theorem Lv.ne {H : Hp} {b : Addr} (h : Lv H b) : H b ≠ none := by obtain ⟨o, e, _⟩ := h; rw [e]; exact fun z => nomatch z
theorem lv_lst {H : Hp} {b : Addr} {xs : List V} (h : H b = some (.lst xs)) : Lv H b := ⟨_, h, fun _ z => nomatch z⟩
theorem Lv.keep {H H' : Hp} {b : Addr} (h : Lv H b) (k : ∀ o, H b = some o → H' b = some o) : Lv H' b := by obtain ⟨o, e, n⟩ := h; exact ⟨o, k o e, n⟩

/-! ### the frame of a run: K the written part; S what data avoid; M what calls may change; H0 the heap at the entry; G what is known of M, with k draws left -/
structure Fm where
  K : PySem.W.Frag
  S : Addr → Prop
  M : Addr → Prop
  H0 : Hp
  G : Nat → Hp → Prop
  ms : ∀ b, M b → S b
  gm : ∀ k H H', G k H → (∀ b, M b → H' b = H b) → (∀ b o, (IsX o ∨ IsK o) → H b = some o → H' b = some o) → G k H'
  gl : ∀ k H, G k H → ∀ b, M b → H b ≠ none
  X : HO → Prop := fun _ => False
  xi : ∀ o, X o → IsX o := by exact fun _ h => h.elim
  xa : ∀ k H, G k H → ∀ b o, ¬ M b → X o → H0 b = some o → ∃ o', IsX o' ∧ H b = some o' := by exact fun _ _ _ _ _ _ h => h.elim
def Fm.Mx (F : Fm) (b : Addr) (o : HO) : Prop := F.M b ∨ F.X o
def Fm.Sx (F : Fm) (b : Addr) (o : HO) : Prop := F.S b ∨ F.X o
theorem Fm.mx {F : Fm} {b : Addr} {o : HO} (h : ¬ F.M b) (x : ¬ IsX o) : ¬ F.Mx b o := fun z => z.elim h fun y => x (F.xi _ y)
theorem Fm.sxA {F : Fm} {b : Addr} {o : HO} (h : ¬ F.S b) (x : ¬ IsX o := by first | exact nx_lst | exact nx_tup | exact nx_dK | exact nx_set) : ¬ F.Sx b o := fun z => z.elim h fun y => x (F.xi _ y)
theorem Fm.mxA {F : Fm} {b : Addr} {o : HO} (h : ¬ F.M b) (x : ¬ IsX o := by first | exact nx_lst | exact nx_tup | exact nx_dK | exact nx_set) : ¬ F.Mx b o := fun z => z.elim h fun y => x (F.xi _ y)
theorem lv_new {H : Hp} {p : Addr} {o : HO} (h : ∀ xs, o ≠ .tup xs) : Lv (upd H p o) p := ⟨o, upd_same, h⟩
theorem Fm.mxL {F : Fm} {b : Addr} {xs : List V} (h : ¬ F.M b) : ¬ F.Mx b (.lst xs) := Fm.mx h nx_lst
structure J (F : Fm) (k : Nat) (H : Hp) : Prop where
  g : F.G k H
  le : ∀ b o, ¬ F.Mx b o → F.H0 b = some o → H b = some o
  al : ∀ b, F.S b → Lv H b
def Le (F : Fm) (H H' : Hp) : Prop := ∀ b o, ¬ F.Mx b o → H b = some o → H' b = some o
def Lz (F : Fm) (H H' : Hp) : Prop := ∀ b o, ¬ F.Sx b o → H b = some o → H' b = some o
abbrev Rp (F : Fm) (H : Hp) (v : V) (d : PyData) : Prop := Rep F.K F.S H v d
abbrev RpAll (F : Fm) (H : Hp) (vs : List V) (ds : List PyData) : Prop := RepAll F.K F.S H vs ds
section
variable {F : Fm} {H H1 H2 : Hp} {k : Nat}
theorem Le.refl : Le F H H := fun _ _ _ h => h
theorem Le.trans (a : Le F H H1) (b : Le F H1 H2) : Le F H H2 := fun x o n h => b x o n (a x o n h)
theorem Lz.refl : Lz F H H := fun _ _ _ h => h
theorem Lz.trans (a : Lz F H H1) (b : Lz F H1 H2) : Lz F H H2 := fun x o n h => b x o n (a x o n h)
theorem Le.lz (a : Le F H H1) : Lz F H H1 := fun b o n h => a b o (fun z => n (z.imp (F.ms b) id)) h
theorem Le.new {p : Addr} {o : HO} (hp : H p = none) : Le F H (upd H p o) := fun b u _ e => by
  rw [upd_ne (ne_of_none e hp)]; exact e
theorem Rep.le {v : V} {d : PyData} (r : Rp F H v d) (a : Lz F H H1) : Rp F H1 v d := Rep.keepX (fun b o n hp e => a b o (fun z => z.elim n fun y => hp (F.xi _ y)) e) (fun _ _ z => z) d v r
theorem RepAll.le {v : List V} {d : List PyData} (r : RpAll F H v d) (a : Lz F H H1) : RpAll F H1 v d := RepAll.keepX (fun b o n hp e => a b o (fun z => z.elim n fun y => hp (F.xi _ y)) e) (fun _ _ z => z) d v r
theorem J.new {p : Addr} {o : HO} (j : J F k H) (hp : H p = none) : J F k (upd H p o) where
  g := F.gm k H _ j.g (fun b hb => upd_ne fun e => F.gl k H j.g b hb (e ▸ hp)) fun b u _ e => by rw [upd_ne (ne_of_none e hp)]; exact e
  le := fun b u hb e => by
    have q := j.le b u hb e
    rw [upd_ne (ne_of_none q hp)]; exact q
  al := fun b hb => (j.al b hb).keep fun u e => by rw [upd_ne (ne_of_none e hp)]; exact e
theorem J.h0 {p : Addr} (j : J F k H) (hm : ¬ F.M p) (hp : H p = none) : F.H0 p = none := by
  cases e : F.H0 p with
  | none => rfl
  | some u =>
    by_cases x : F.X u
    · obtain ⟨o', _, q⟩ := F.xa k H j.g p u hm x e
      rw [hp] at q; cases q
    · rw [j.le p u (fun z => z.elim hm x) e] at hp; cases hp
theorem J.fresh {p : Addr} (j : J F k H) (hp : H p = none) : ¬ F.S p := fun z => (j.al p z).ne hp
/-- what is neither a tuple nor known to its owner alone -/
def Pl (H : Hp) (p : Addr) : Prop := ∀ u, H p = some u → ¬ (IsX u ∨ IsK u)
theorem pl_lst {H : Hp} {p : Addr} {xs : List V} (h : H p = some (.lst xs)) : Pl H p := fun u e => by
  rw [h] at e; cases e; exact fun z => z.elim nx_lst nk_lst
theorem J.own {p : Addr} {o : HO} (j : J F k H) (hm : ¬ F.M p) (h0 : F.H0 p = none) (hp : Pl H p) (ho : ∀ xs, o ≠ .tup xs := by exact fun _ z => nomatch z) : J F k (upd H p o) where
  g := F.gm k H _ j.g (fun b hb => upd_ne fun e => hm (e ▸ hb)) fun b u hu e => by
    rw [upd_ne (show b ≠ p from fun z => hp u (z ▸ e) hu)]; exact e
  le := fun b u hb e => by
    rw [upd_ne (ne_of_none e h0)]; exact j.le b u hb e
  al := fun b hb => by
    by_cases e : b = p
    · rw [e]; exact ⟨o, upd_same, ho⟩
    · exact (j.al b hb).keep fun u q => by rw [upd_ne e]; exact q
theorem rep_newL {p : Addr} {vs : List V} {ds : List PyData} (j : J F k H) (hp : H p = none) (r : RpAll F H vs ds) : Rp F (upd H p (.lst vs)) (.ref p) (.list ds) :=
  .lst ⟨upd_same, j.fresh hp⟩ (r.le (Le.new hp).lz)
theorem rep_newT {p : Addr} {vs : List V} {ds : List PyData} (j : J F k H) (hp : H p = none) (r : RpAll F H vs ds) : Rp F (upd H p (.tup vs)) (.ref p) (.tuple ds) :=
  .tup ⟨upd_same, j.fresh hp⟩ (r.le (Le.new hp).lz)
end

/-! ### slots -/
inductive SV where
  | un
  | d (x : PyData)
  | raw (v : V)
  | own (o : Addr) (xs : List PyData)
def SlotOk (F : Fm) (H : Hp) : SV → Option V → Prop
  | .un, _ => True
  | .d d, x => ∃ v, x = some v ∧ Rp F H v d
  | .raw v, x => x = some v
  | .own o xs, x => x = some (.ref o) ∧ F.S o ∧ ¬ F.M o ∧ F.H0 o = none ∧ ∃ vs, H o = some (.lst vs) ∧ RpAll F H vs xs
abbrev Rho := List SV
def EnvOk (F : Fm) (H : Hp) (σ : L2.St) (ρ : Rho) : Prop := ∀ (i : Nat) (sv : SV), ρ[i]? = some sv → ∃ x, σ[i]? = some x ∧ SlotOk F H sv x
section
variable {F : Fm} {H H1 H2 : Hp} {k : Nat} {σ : L2.St} {ρ : Rho}
theorem SlotOk.le {sv : SV} {x : Option V} (h : SlotOk F H sv x) (a : Le F H H1) : SlotOk F H1 sv x := by
  cases sv with
  | un => trivial
  | d d => obtain ⟨v, e, r⟩ := h; exact ⟨v, e, r.le a.lz⟩
  | raw v => exact h
  | own o xs =>
    obtain ⟨e, s, m, z, vs, h1, r⟩ := h
    exact ⟨e, s, m, z, vs, a o _ (Fm.mxL m) h1, r.le a.lz⟩
theorem EnvOk.le (h : EnvOk F H σ ρ) (a : Le F H H1) : EnvOk F H1 σ ρ := fun i sv e => by
  obtain ⟨x, q, r⟩ := h i sv e
  exact ⟨x, q, r.le a⟩
theorem EnvOk.set {i : Nat} {sv : SV} {x : Option V} (h : EnvOk F H σ ρ) (s : SlotOk F H sv x) : EnvOk F H (σ.set i x) (ρ.set i sv) := fun j tv e => by
  by_cases hj : i = j
  · subst hj
    by_cases hl : i < ρ.length
    · rw [List.getElem?_set_self hl] at e
      cases e
      obtain ⟨y, q, _⟩ := h i _ (List.getElem?_eq_getElem hl)
      obtain ⟨hl', _⟩ := List.getElem?_eq_some_iff.mp q
      exact ⟨x, List.getElem?_set_self hl', s⟩
    · rw [List.getElem?_eq_none (by simpa using hl)] at e; cases e
  · rw [List.getElem?_set_ne hj] at e
    obtain ⟨y, q, r⟩ := h j tv e
    exact ⟨y, by rw [List.getElem?_set_ne hj]; exact q, r⟩
theorem EnvOk.d {i : Nat} {d : PyData} (h : EnvOk F H σ ρ) (e : ρ[i]? = some (.d d)) : ∃ v, σ[i]? = some (some v) ∧ Rp F H v d := by
  obtain ⟨x, q, v, rfl, r⟩ := h i _ e
  exact ⟨v, q, r⟩
theorem EnvOk.raw {i : Nat} {v : V} (h : EnvOk F H σ ρ) (e : ρ[i]? = some (.raw v)) : σ[i]? = some (some v) := by
  obtain ⟨x, q, r⟩ := h i _ e
  rw [q, show x = some v from r]
end

/-! ### runs of readings on data -/
def WE (F : Fm) (t : TE) (ρ : Rho) (k : Nat) (Φ : Nat → PyData → Prop) : Prop :=
  ∀ (σ : L2.St) (H : Hp) (Q : VK), EnvOk F H σ ρ → J F k H → (∀ v d k' H', Le F H H' → J F k' H' → Rp F H' v d → Φ k' d → Q v H') → t σ H Q
def WA (F : Fm) (t : TA) (ρ : Rho) (k : Nat) (Φ : Nat → List PyData → Prop) : Prop :=
  ∀ (σ : L2.St) (H : Hp) (Q : List V → Hp → Prop), EnvOk F H σ ρ → J F k H → (∀ vs ds k' H', Le F H H' → J F k' H' → RpAll F H' vs ds → Φ k' ds → Q vs H') → t σ H Q
def WT (F : Fm) (t : TT) (ρ : Rho) (k : Nat) (Φ : Nat → Bool → Prop) : Prop :=
  ∀ (σ : L2.St) (H : Hp) (Q : Bool → Hp → Prop), EnvOk F H σ ρ → J F k H → (∀ b k' H', Le F H H' → J F k' H' → Φ k' b → Q b H') → t σ H Q
structure DE where
  nx : Nat → Rho → Prop
  rt : Nat → PyData → Prop
  bk : Nat → Rho → Prop
  ct : Nat → Rho → Prop
def WS (F : Fm) (t : TS) (ρ : Rho) (k : Nat) (P : DE) : Prop :=
  ∀ (σ : L2.St) (H : Hp) (E : Ends), EnvOk F H σ ρ → J F k H →
    (∀ ρ' σ' k' H', Lz F H H' → EnvOk F H' σ' ρ' → J F k' H' → P.nx k' ρ' → E.nx σ' H') →
    (∀ v d k' H', J F k' H' → Rp F H' v d → P.rt k' d → E.rt v H') →
    (∀ ρ' σ' k' H', Lz F H H' → EnvOk F H' σ' ρ' → J F k' H' → P.bk k' ρ' → E.bk σ' H') →
    (∀ ρ' σ' k' H', Lz F H H' → EnvOk F H' σ' ρ' → J F k' H' → P.ct k' ρ' → E.ct σ' H') → t E σ H
/-- an operation on two data; on a list of data -/
def RD (F : Fm) (r : R2) (x y : PyData) (k : Nat) (Φ : Nat → PyData → Prop) : Prop :=
  ∀ (H : Hp) (vx vy : V) (Q : VK), J F k H → Rp F H vx x → Rp F H vy y → (∀ v d k' H', Le F H H' → J F k' H' → Rp F H' v d → Φ k' d → Q v H') → r vx vy H Q
def RA (F : Fm) (r : List V → Hp → VK → Prop) (ds : List PyData) (k : Nat) (Φ : Nat → PyData → Prop) : Prop :=
  ∀ (H : Hp) (vs : List V) (Q : VK), J F k H → RpAll F H vs ds → (∀ v d k' H', Le F H H' → J F k' H' → Rp F H' v d → Φ k' d → Q v H') → r vs H Q

/-! ### where the text stands -/
structure Cs where
  P : Program
  w : World
  K : PySem.W.Frag
  mg : Str → Option Value
  base : Heap
  N : List Str
  sc : Scope
  fn : Str → Bool
  lvl : Nat
structure Fits (C : Cs) (X : Cx) : Prop where
  P : X.prog = C.P
  w : X.w = C.w
  K : X.K = C.K
  mg : X.mg = C.mg
  base : X.base = C.base
  N : X.N = C.N
  sc : X.env.scope = C.sc
  fn : X.fn = C.fn
  calm : X.calm = true
  room : Room C.lvl X.A
  xe : X.xe = fun _ _ => False
  gd : X.A.guards = some []
abbrev Cs.blk (C : Cs) (scope : Scope) : Cs := { C with sc := relS scope C.sc, fn := fun x => scope.names.lookup x == some .cell }
theorem Fits.blk {C : Cs} {X : Cx} (f : Fits C X) (s : Shared) (H : Hp) (scope : Scope) (a : Addr) (cl : List (Str × Addr)) (fp : List Addr) : Fits (C.blk scope) (X.blk s H scope (compEnvC scope cl a X.env) fp) :=
  ⟨f.P, f.w, f.K, f.mg, f.base, f.N, by show relS scope X.env.scope = _; rw [f.sc], rfl, f.calm, f.room, rfl, f.gd⟩

/-- the widest readings -/
def tE (C : Cs) (e : Expr) : TE := fun σ H Q => ∀ X, Fits C X → ∀ pins s, Inv X pins σ H s → wpAny (model X.prog X.w) X.A (eval e X.env) (EP X pins σ Q) X.xe s
def tT (C : Cs) (e : Expr) : TT := fun σ H Q => ∀ X, Fits C X → ∀ pins s, Inv X pins σ H s → wpAny (model X.prog X.w) X.A (isTrue e X.env (eval e X.env)) (TP X pins σ Q) X.xe s
def tW (C : Cs) (e : Expr) : TT := fun σ H Q => ∀ X, Fits C X → ∀ (whole : Sem Value) pins s, Inv X pins σ H s → wpAny (model X.prog X.w) X.A (isTrue e X.env whole) (TP X pins σ Q) X.xe s
def tA (C : Cs) (es : List Expr) : TA := fun σ H Q => ∀ X, Fits C X → ∀ (pos : Pos) pins s, Inv X pins σ H s → wpAny (model X.prog X.w) X.A (spliced (backTo pos (starEach es X.env))) (AP X pins σ Q) X.xe s
def tS (C : Cs) (st : Stmt) : TS := fun D σ H => ∀ X, Fits C X → ∀ pins s, Inv X pins σ H s → wpAny (model X.prog X.w) X.A (exec st X.env) (SP X pins D) X.xe s
def tB (C : Cs) (st : List Stmt) : TS := fun D σ H => ∀ X, Fits C X → ∀ pins s, Inv X pins σ H s → wpAny (model X.prog X.w) X.A (execs st X.env) (SP X pins D) X.xe s
section
variable {C : Cs} {X : Cx}
theorem peE (f : Fits C X) {e : Expr} : PE X e (tE C e) := ⟨fun pins s σ H Q I h => h X f pins s I⟩
theorem ptT (f : Fits C X) {e : Expr} : PT X e (tT C e) := ⟨fun pins s σ H Q I h => h X f pins s I⟩
theorem pwW (f : Fits C X) {e : Expr} : PW X e (tW C e) := ⟨fun wh pins s σ H Q I h => h X f wh pins s I⟩
theorem paA (f : Fits C X) {es : List Expr} : PA X es (tA C es) := ⟨fun pos pins s σ H Q I h => h X f pos pins s I⟩
theorem psS (f : Fits C X) {st : Stmt} : PS X st (tS C st) := ⟨fun pins s σ H D I h => h X f pins s I⟩
theorem pbB (f : Fits C X) {st : List Stmt} : PSs X st (tB C st) := ⟨fun pins s σ H D I h => h X f pins s I⟩
end
abbrev WPE (F : Fm) (C : Cs) (e : Expr) (ρ : Rho) (k : Nat) (Φ : Nat → PyData → Prop) : Prop := WE F (tE C e) ρ k Φ
abbrev WPT (F : Fm) (C : Cs) (e : Expr) (ρ : Rho) (k : Nat) (Φ : Nat → Bool → Prop) : Prop := WT F (tT C e) ρ k Φ
abbrev WPW (F : Fm) (C : Cs) (e : Expr) (ρ : Rho) (k : Nat) (Φ : Nat → Bool → Prop) : Prop := WT F (tW C e) ρ k Φ
abbrev WPA (F : Fm) (C : Cs) (es : List Expr) (ρ : Rho) (k : Nat) (Φ : Nat → List PyData → Prop) : Prop := WA F (tA C es) ρ k Φ
abbrev WPS (F : Fm) (C : Cs) (st : Stmt) (ρ : Rho) (k : Nat) (P : DE) : Prop := WS F (tS C st) ρ k P
abbrev WPB (F : Fm) (C : Cs) (st : List Stmt) (ρ : Rho) (k : Nat) (P : DE) : Prop := WS F (tB C st) ρ k P

section
variable {F : Fm} {C : Cs} {ρ : Rho} {k : Nat} {Φ Φ' : Nat → PyData → Prop} {Ψ Ψ' : Nat → Bool → Prop} {e a b : Expr} {es : List Expr} {pos : Pos} {P : DE}
theorem of_pe {t : TE} (h : ∀ X, Fits C X → PE X e t) (hw : WE F t ρ k Φ) : WPE F C e ρ k Φ := fun σ H Q en j q X fx pins s I => (h X fx).run pins s σ H Q I (hw σ H Q en j q)
theorem of_pt {t : TT} (h : ∀ X, Fits C X → PT X e t) (hw : WT F t ρ k Ψ) : WPT F C e ρ k Ψ := fun σ H Q en j q X fx pins s I => (h X fx).run pins s σ H Q I (hw σ H Q en j q)
theorem of_pw {t : TT} (h : ∀ X, Fits C X → PW X e t) (hw : WT F t ρ k Ψ) : WPW F C e ρ k Ψ := fun σ H Q en j q X fx wh pins s I => (h X fx).run wh pins s σ H Q I (hw σ H Q en j q)
theorem of_pa {t : TA} {Φ : Nat → List PyData → Prop} (h : ∀ X, Fits C X → PA X es t) (hw : WA F t ρ k Φ) : WPA F C es ρ k Φ := fun σ H Q en j q X fx pos pins s I => (h X fx).run pos pins s σ H Q I (hw σ H Q en j q)
theorem of_ps {t : TS} {st : Stmt} (h : ∀ X, Fits C X → PS X st t) (hw : WS F t ρ k P) : WPS F C st ρ k P := fun σ H E en j q1 q2 q3 q4 X fx pins s I => (h X fx).run pins s σ H E I (hw σ H E en j q1 q2 q3 q4)
theorem of_pb {t : TS} {st : List Stmt} (h : ∀ X, Fits C X → PSs X st t) (hw : WS F t ρ k P) : WPB F C st ρ k P := fun σ H E en j q1 q2 q3 q4 X fx pins s I => (h X fx).run pins s σ H E I (hw σ H E en j q1 q2 q3 q4)
theorem WE.imp {t : TE} (h : WE F t ρ k Φ) (i : ∀ k' d, Φ k' d → Φ' k' d) : WE F t ρ k Φ' := fun σ H Q en j q => h σ H Q en j fun v d k' H' l j' r p => q v d k' H' l j' r (i k' d p)
theorem WT.imp {t : TT} (h : WT F t ρ k Ψ) (i : ∀ k' d, Ψ k' d → Ψ' k' d) : WT F t ρ k Ψ' := fun σ H Q en j q => h σ H Q en j fun b k' H' l j' p => q b k' H' l j' (i k' b p)

/-! ### names and constants -/
theorem we_name (i : Nat) {x : Str} {d : PyData} (hN : C.N[i]? = some x) (hv : Vis C.sc x) (hr : ρ[i]? = some (.d d)) (h : Φ k d) (hd : (x == ("__debug__" : Str)) = false := by decide) (hcd : (x == ("__classdict__" : Str)) = false := by decide) : WPE F C (.Name x pos) ρ k Φ :=
  of_pe (t := tVar i) (fun X fx => pe_var (by rw [fx.N]; exact hN) (by rw [fx.sc]; exact hv) hd hcd) fun σ H Q en j q => by
    obtain ⟨v, e, r⟩ := en.d hr
    exact ⟨v, e, q v d k H .refl j r h⟩
theorem we_int {i : Int} {jj : Nat} (h : Φ k (.int i)) : WPE F C (.Constant (.int i) jj pos) ρ k Φ := of_pe (fun X _ => pe_int) fun σ H Q en j q => q _ _ k H .refl j (.int i) h
theorem we_bl {i : Bool} {jj : Nat} (h : Φ k (.bool i)) : WPE F C (.Constant (.bool i) jj pos) ρ k Φ := of_pe (fun X _ => pe_bl) fun σ H Q en j q => q _ _ k H .refl j (.bl i) h
theorem we_str {i : Str} {jj : Nat} (h : Φ k (.str i)) : WPE F C (.Constant (.str i) jj pos) ρ k Φ := of_pe (fun X _ => pe_str) fun σ H Q en j q => q _ _ k H .refl j (.str i) h
theorem we_non {jj : Nat} (h : Φ k .none) : WPE F C (.Constant .none jj pos) ρ k Φ := of_pe (fun X _ => pe_non) fun σ H Q en j q => q _ _ k H .refl j .non h
theorem we_gint {x : Str} {n : Int} {t : Tok} (hg : C.sc.names.lookup x = some .globalImplicit) (hm : C.mg x = some (.int n t)) (h : Φ k (.int n)) (hd : (x == ("__debug__" : Str)) = false := by decide) : WPE F C (.Name x pos) ρ k Φ :=
  of_pe (fun X fx => pe_glob (v := .int n) (u := .int n t) (by show X.env.scope.names.lookup x = _; rw [fx.sc]; exact hg) (by rw [fx.mg]; exact hm) ⟨t, rfl⟩ hd) fun σ H Q en j q => q _ _ k H .refl j (.int n) h

/-! ### operations -/
theorem we_op {r : R2} {ta tb : TE} (h : WE F ta ρ k fun k1 x => WE F tb ρ k1 fun k2 y => RD F r x y k2 Φ) : WE F (tOp r ta tb) ρ k Φ := fun σ H Q en j q =>
  h σ H _ en j fun vx x k1 H1 l1 j1 r1 hx => hx σ H1 _ (en.le l1) j1 fun vy y k2 H2 l2 j2 r2 hy => hy H2 vx vy Q j2 (r1.le l2.lz) r2 fun v d k' H' l' j' r' p => q v d k' H' ((l1.trans l2).trans l') j' r' p
theorem we_bin {op : Operator} {r : R2} (ho : ∀ X, Fits C X → OpR X (binaryOp op) r) (h : WPE F C a ρ k fun k1 x => WPE F C b ρ k1 fun k2 y => RD F r x y k2 Φ) : WPE F C (.BinOp a op b pos) ρ k Φ :=
  of_pe (fun X fx => pe_op (ho X fx) (peE fx) (peE fx)) (we_op h)
theorem we_cmp {op : CmpOp} {r : R2} (ho : ∀ X, Fits C X → OpR X (compareOp op) r) (hm : behindInMarks op b = false) (h : WPE F C a ρ k fun k1 x => WPE F C b ρ k1 fun k2 y => RD F r x y k2 Φ) : WPE F C (.Compare a [op] [b] pos) ρ k Φ :=
  of_pe (fun X fx => pe_cmpR (ho X fx) (peE fx) (peE fx) hm) (we_op h)
theorem wt_test {t : TE} (h : WE F t ρ k fun k1 d => ∃ b, d = .bool b ∧ Ψ k1 b) : WT F (tTest t) ρ k Ψ := fun σ H Q en j q => h σ H _ en j fun v d k' H' l j' r ⟨b, e, p⟩ => by
  subst e; cases r; exact ⟨b, rfl, q b k' H' l j' p⟩
theorem wt_cmp {op : CmpOp} {r : R2} (ho : ∀ X, Fits C X → OpR X (compareOp op) r) (hm : behindInMarks op b = false) (h : WPE F C a ρ k fun k1 x => WPE F C b ρ k1 fun k2 y => RD F r x y k2 fun k3 d => ∃ b, d = .bool b ∧ Ψ k3 b) : WPT F C (.Compare a [op] [b] pos) ρ k Ψ :=
  of_pt (fun X fx => pt_cmpR (ho X fx) (peE fx) (peE fx) hm) (wt_test (we_op h))
/-- an expression whose value is a bool, as a test -/
theorem wt_val (he : ∀ (env : Env) (whole : Sem Value), isTrue e env whole = (do let v ← whole; standAt e.pos; holding [v] (truthy v))) (h : WPE F C e ρ k fun k1 d => ∃ b, d = .bool b ∧ Ψ k1 b) : WPT F C e ρ k Ψ :=
  of_pt (fun X fx => pt_val (peE fx) (he X.env)) fun σ H Q en j q => h σ H _ en j fun v d k' H' l j' r ⟨b, e, p⟩ => by
    subst e; cases r; exact ⟨b, rfl, q b k' H' l j' p⟩
theorem wt_not (h : WPT F C a ρ k fun k1 b => Ψ k1 (!b)) : WPT F C (.UnaryOp .Not a pos) ρ k Ψ :=
  of_pt (fun X fx => pt_not (ptT fx)) fun σ H Q en j q => h σ H _ en j fun b k' H' l j' p => q (!b) k' H' l j' p
/-- and, or as tests -/
theorem ww_and {rest : List Expr} (h : WPT F C a ρ k fun k1 c => if c = true then WPW F C (.BoolOp .And (b :: rest) pos) ρ k1 Ψ else Ψ k1 false) : WPW F C (.BoolOp .And (a :: b :: rest) pos) ρ k Ψ :=
  of_pw (fun X fx => pw_and (ptT fx) (pwW fx)) fun σ H Q en j q => h σ H _ en j fun c k1 H1 l1 j1 p => by
    cases c with
    | true => exact p σ H1 Q (en.le l1) j1 fun b k' H' l j' p' => q b k' H' (l1.trans l) j' p'
    | false => exact q false k1 H1 l1 j1 p
theorem ww_or {rest : List Expr} (h : WPT F C a ρ k fun k1 c => if c = true then Ψ k1 true else WPW F C (.BoolOp .Or (b :: rest) pos) ρ k1 Ψ) : WPW F C (.BoolOp .Or (a :: b :: rest) pos) ρ k Ψ :=
  of_pw (fun X fx => pw_or (ptT fx) (pwW fx)) fun σ H Q en j q => h σ H _ en j fun c k1 H1 l1 j1 p => by
    cases c with
    | false => exact p σ H1 Q (en.le l1) j1 fun b k' H' l j' p' => q b k' H' (l1.trans l) j' p'
    | true => exact q true k1 H1 l1 j1 p
theorem ww_and1 (h : WPT F C a ρ k Ψ) : WPW F C (.BoolOp .And [a] pos) ρ k Ψ := of_pw (fun X fx => pw_and1 (ptT fx)) h
theorem ww_or1 (h : WPT F C a ρ k Ψ) : WPW F C (.BoolOp .Or [a] pos) ρ k Ψ := of_pw (fun X fx => pw_or1 (ptT fx)) h
theorem wt_bool {op : BoolOp} {es : List Expr} (h : WPW F C (.BoolOp op es pos) ρ k Ψ) : WPT F C (.BoolOp op es pos) ρ k Ψ := of_pt (fun X fx => (pwW fx).pt) h
/-- .. as values -/
theorem we_and {rest : List Expr} (h : WPE F C a ρ k fun k1 d => ∃ c, d = .bool c ∧ if c = true then WPE F C (.BoolOp .And (b :: rest) pos) ρ k1 Φ else Φ k1 (.bool false)) : WPE F C (.BoolOp .And (a :: b :: rest) pos) ρ k Φ :=
  of_pe (fun X fx => pe_and (peE fx) (peE fx)) fun σ H Q en j q => h σ H _ en j fun v d k1 H1 l1 j1 r ⟨c, e, p⟩ => by
    subst e; cases r
    refine ⟨c, rfl, ?_⟩
    cases c with
    | true => exact p σ H1 Q (en.le l1) j1 fun v d k' H' l j' r' p' => q v d k' H' (l1.trans l) j' r' p'
    | false => exact q _ _ k1 H1 l1 j1 (.bl false) p
theorem we_one {op : BoolOp} (h : WPE F C a ρ k Φ) : WPE F C (.BoolOp op [a] pos) ρ k Φ := of_pe (fun X fx => pe_one (peE fx)) h
theorem we_ifExp {c : Expr} (h : WPT F C c ρ k fun k1 z => if z = true then WPE F C a ρ k1 Φ else WPE F C b ρ k1 Φ) : WPE F C (.IfExp c a b pos) ρ k Φ :=
  of_pe (fun X fx => pe_ifExp (ptT fx) (peE fx) (peE fx)) fun σ H Q en j q => h σ H _ en j fun c k1 H1 l1 j1 p => by
    cases c with
    | true => exact p σ H1 Q (en.le l1) j1 fun v d k' H' l j' r' p' => q v d k' H' (l1.trans l) j' r' p'
    | false => exact p σ H1 Q (en.le l1) j1 fun v d k' H' l j' r' p' => q v d k' H' (l1.trans l) j' r' p'
/-- arguments -/
theorem wa_nil {Φ : Nat → List PyData → Prop} (h : Φ k []) : WPA F C [] ρ k Φ := of_pa (fun X fx => pa_nil) fun σ H Q en j q => q [] [] k H .refl j .nil h
theorem wa_cons {Φ : Nat → List PyData → Prop} (hs : ∀ env : Env, starEach (e :: es) env = (false, eval e env) :: starEach es env) (h : WPE F C e ρ k fun k1 x => WPA F C es ρ k1 fun k2 xs => Φ k2 (x :: xs)) : WPA F C (e :: es) ρ k Φ :=
  of_pa (fun X fx => pa_cons (peE fx) (paA fx) (hs X.env)) fun σ H Q en j q => h σ H _ en j fun vx x k1 H1 l1 j1 r1 hx => hx σ H1 _ (en.le l1) j1 fun vs xs k2 H2 l2 j2 r2 hy =>
    q (vx :: vs) (x :: xs) k2 H2 (l1.trans l2) j2 (.cons (r1.le l2.lz) r2) hy
theorem we_tup {x1} (h : WPA F C es ρ k fun k1 ds => ds.length ≤ sizeLine ∧ Φ k1 (.tuple ds)) : WPE F C (.Tuple es x1 pos) ρ k Φ :=
  of_pe (fun X fx => pe_tup (paA fx)) fun σ H Q en j q => h σ H _ en j fun vs ds k1 H1 l1 j1 r1 ⟨hz, p⟩ => ⟨by rw [r1.length]; exact hz, fun p0 hp => q _ (.tuple ds) k1 _ (l1.trans (.new hp)) (j1.new hp) (rep_newT j1 hp r1) p⟩
theorem we_lst (h : WPA F C es ρ k fun k1 ds => ds.length ≤ sizeLine ∧ Φ k1 (.list ds)) : WPE F C (.List es pos) ρ k Φ :=
  of_pe (fun X fx => pe_lst (paA fx)) fun σ H Q en j q => h σ H _ en j fun vs ds k1 H1 l1 j1 r1 ⟨hz, p⟩ => ⟨by rw [r1.length]; exact hz, fun p0 hp => q _ (.list ds) k1 _ (l1.trans (.new hp)) (j1.new hp) (rep_newL j1 hp r1) p⟩
/-- a call of a built-in by its name -/
theorem we_cb {r : List V → Hp → VK → Prop} {ta : TA} (h : WA F ta ρ k fun k1 ds => RA F r ds k1 Φ) : WE F (tCB r ta) ρ k Φ := fun σ H Q en j q =>
  h σ H _ en j fun vs ds k1 H1 l1 j1 r1 p => p H1 vs Q j1 r1 fun v d k' H' l' j' r' p' => q v d k' H' (l1.trans l') j' r' p'
theorem we_callB {r : List V → Hp → VK → Prop} {x : Str} {id : String} {p : Pos} (hc : ∀ X, Fits C X → CallR X (.builtin id) r) (hg : C.sc.names.lookup x = some .globalImplicit) (hm : C.mg x = none) (hv : bootBuiltins x = some (.builtin id))
    (h : WPA F C (e :: es) ρ k fun k1 ds => RA F r ds k1 Φ) (hn : x ≠ "__name__" := by decide) (hdb : (x == ("__debug__" : Str)) = false := by decide) (hss : ∀ env : Env, starEach (e :: es) env = (false, eval e env) :: starEach es env := by intro _; rfl) (hpl : ∀ env : Env, ((backTo pos (starEach es env)).any fun x => x.fst) = false := by intro _; rfl) : WPE F C (.Call (.Name x p) (e :: es) [] pos) ρ k Φ :=
  of_pe (fun X fx => pe_callB (hc X fx) (by show X.env.scope.names.lookup x = _; rw [fx.sc]; exact hg) (by rw [fx.mg]; exact hm) hv (paA fx) hn hdb (hss X.env) (hpl X.env)) (we_cb h)
theorem we_callTy {r : List V → Hp → VK → Prop} {x : Str} {T : String} {p : Pos} (hc : ∀ X, Fits C X → CallR X (.type T) r) (hg : C.sc.names.lookup x = some .globalImplicit) (hm : C.mg x = none) (hv : bootBuiltins x = some (.type T))
    (h : WPA F C (e :: es) ρ k fun k1 ds => RA F r ds k1 Φ) (hn : x ≠ "__name__" := by decide) (hdb : (x == ("__debug__" : Str)) = false := by decide) (hss : ∀ env : Env, starEach (e :: es) env = (false, eval e env) :: starEach es env := by intro _; rfl) (hpl : ∀ env : Env, ((backTo pos (starEach es env)).any fun x => x.fst) = false := by intro _; rfl) : WPE F C (.Call (.Name x p) (e :: es) [] pos) ρ k Φ :=
  of_pe (fun X fx => pe_callTy (hc X fx) (by show X.env.scope.names.lookup x = _; rw [fx.sc]; exact hg) (by rw [fx.mg]; exact hm) hv (paA fx) hn hdb (hss X.env) (hpl X.env)) (we_cb h)
end
end Dl

namespace Dl
open PySem PySem.Spec PyProof.Rows L2

/-! ### statements -/
abbrev DE.seq (P : DE) (n : Nat → Rho → Prop) : DE := ⟨n, P.rt, P.bk, P.ct⟩
abbrev DE.loop (P : DE) (n : Nat → Rho → Prop) : DE := ⟨n, P.rt, P.nx, n⟩
section
variable {F : Fm} {C : Cs} {ρ : Rho} {k : Nat} {Φ Φ' : Nat → PyData → Prop} {Ψ Ψ' : Nat → Bool → Prop} {e a b : Expr} {es : List Expr} {pos : Pos} {P : DE}
theorem WS.imp {t : TS} {P' : DE} (h : WS F t ρ k P) (h1 : ∀ k ρ, P.nx k ρ → P'.nx k ρ) (h2 : ∀ k d, P.rt k d → P'.rt k d) (h3 : ∀ k ρ, P.bk k ρ → P'.bk k ρ) (h4 : ∀ k ρ, P.ct k ρ → P'.ct k ρ) : WS F t ρ k P' :=
  fun σ H E en j q1 q2 q3 q4 => h σ H E en j (fun ρ' σ' k' H' l e j' p => q1 ρ' σ' k' H' l e j' (h1 _ _ p)) (fun v d k' H' j' r p => q2 v d k' H' j' r (h2 _ _ p)) (fun ρ' σ' k' H' l e j' p => q3 ρ' σ' k' H' l e j' (h3 _ _ p)) (fun ρ' σ' k' H' l e j' p => q4 ρ' σ' k' H' l e j' (h4 _ _ p))
theorem wb_nil (h : P.nx k ρ) : WPB F C [] ρ k P := of_pb (fun X fx => pss_nil) fun σ H E en j q1 _ _ _ => q1 ρ σ k H .refl en j h
theorem wb_cons {st : Stmt} {rest : List Stmt} (h : WPS F C st ρ k (P.seq fun k1 ρ1 => WPB F C rest ρ1 k1 P)) : WPB F C (st :: rest) ρ k P :=
  of_pb (fun X fx => pss_cons (psS fx) (pbB fx)) fun σ H E en j q1 q2 q3 q4 =>
    h σ H { E with nx := tB C rest E } en j (fun ρ' σ' k' H' l en' j' p => p σ' H' E en' j' (fun ρ2 σ2 k2 H2 l2 => q1 ρ2 σ2 k2 H2 (l.trans l2)) q2 (fun ρ2 σ2 k2 H2 l2 => q3 ρ2 σ2 k2 H2 (l.trans l2)) (fun ρ2 σ2 k2 H2 l2 => q4 ρ2 σ2 k2 H2 (l.trans l2))) q2 q3 q4
theorem ws_ret (h : WPE F C e ρ k P.rt) : WPS F C (.Return (some e) pos) ρ k P := of_ps (fun X fx => ps_ret (peE fx)) fun σ H E en j _ q2 _ _ => h σ H _ en j fun v d k' H' _ j' r p => q2 v d k' H' j' r p
theorem ws_if {c : Expr} {s1 s2 : List Stmt} (h : WPT F C c ρ k fun k1 z => if z = true then WPB F C s1 ρ k1 P else WPB F C s2 ρ k1 P) : WPS F C (.If c s1 s2 pos) ρ k P :=
  of_ps (fun X fx => ps_if (ptT fx) (pbB fx) (pbB fx)) fun σ H E en j q1 q2 q3 q4 => h σ H _ en j fun z k1 H1 l1 j1 p => by
    have l := l1.lz
    cases z with
    | true => exact p σ H1 E (en.le l1) j1 (fun ρ2 σ2 k2 H2 l2 => q1 ρ2 σ2 k2 H2 (l.trans l2)) q2 (fun ρ2 σ2 k2 H2 l2 => q3 ρ2 σ2 k2 H2 (l.trans l2)) (fun ρ2 σ2 k2 H2 l2 => q4 ρ2 σ2 k2 H2 (l.trans l2))
    | false => exact p σ H1 E (en.le l1) j1 (fun ρ2 σ2 k2 H2 l2 => q1 ρ2 σ2 k2 H2 (l.trans l2)) q2 (fun ρ2 σ2 k2 H2 l2 => q3 ρ2 σ2 k2 H2 (l.trans l2)) (fun ρ2 σ2 k2 H2 l2 => q4 ρ2 σ2 k2 H2 (l.trans l2))
theorem ws_asgName {t : TE} (i : Nat) (h : WE F t ρ k fun k1 d => P.nx k1 (ρ.set i (.d d))) : WS F (tAsg t (gName i)) ρ k P := fun σ H E en j q1 _ _ _ =>
  h σ H _ en j fun v d k1 H1 l1 j1 r p => q1 _ (σ.set i (some v)) k1 H1 l1.lz ((en.le l1).set (sv := .d d) ⟨v, rfl, r⟩) j1 p
/-- what a target wants: no name twice, its place, its kind -/
structure Tgt (C : Cs) (i : Nat) (x : Str) : Prop where
  hN : C.N.Nodup
  hi : C.N[i]? = some x
  hx : Loc C.sc x
  hf : C.fn x = true ∨ C.sc.names.lookup x = some .local
theorem Tgt.pg {i : Nat} {x : Str} (t : Tgt C i x) {X : Cx} (fx : Fits C X) : PG X (.Name x pos) (gName i) :=
  pg_name (by rw [fx.N]; exact t.hN) (by rw [fx.N]; exact t.hi) (by rw [fx.sc]; exact t.hx) (by rw [fx.fn, fx.sc]; exact t.hf)
theorem ws_set (i : Nat) {x : Str} {pos' : Pos} (t : Tgt C i x) (hs : ∀ env : Env, env.scope = C.sc → swapsWith e (some (.Name x pos')) pos.line env = pure false) (h : WPE F C e ρ k fun k1 d => P.nx k1 (ρ.set i (.d d))) : WPS F C (.Assign [.Name x pos'] e pos) ρ k P :=
  of_ps (fun X fx => ps_set (by rw [fx.N]; exact t.hN) (by rw [fx.N]; exact t.hi) (by rw [fx.sc]; exact t.hx) (peE fx) (hs X.env fx.sc) (by rw [fx.fn, fx.sc]; exact t.hf)) (ws_asgName i h)
/-- a, b = a tuple -/
theorem pgTup {es : List Expr} {kk : Nat} {t : TGs} {n : Nat} {X : Cx} (fx : Fits C X) (h : PGs X es t) (hn : (assignEach es X.env).length = n) (hst : (assignEach es X.env).findIdx? (·.1) = none) : PG X (.Tuple es kk pos) (gTup C.K n t) := by
  rw [← fx.K]; exact pg_tup fx.calm h hn hst
theorem piL {X : Cx} (fx : Fits C X) {tg l : Expr} : PI X tg l (iList C.K (tE C l)) := by
  rw [← fx.K]; exact pi_list (peE fx)
theorem piT {X : Cx} (fx : Fits C X) {tg l : Expr} : PI X tg l (iTup C.K (tE C l)) := by
  rw [← fx.K]; exact pi_tup (peE fx)
theorem ws_asg2 (i1 i2 : Nat) {x1 x2 : Str} {p1 p2 p3 : Pos} {kk : Nat} (hne : i1 ≠ i2) (t1 : Tgt C i1 x1) (t2 : Tgt C i2 x2) (hK : F.K = C.K)
    (hs : ∀ env : Env, swapsWithSole [.Tuple [.Name x1 p1, .Name x2 p2] kk p3] e pos.line env = pure false) (hw : ∀ env : Env, swappedStores [.Tuple [.Name x1 p1, .Name x2 p2] kk p3] e env = pure none)
    (h : WPE F C e ρ k fun k1 d => ∃ d1 d2, d = .tuple [d1, d2] ∧ P.nx k1 ((ρ.set i1 (.d d1)).set i2 (.d d2))) : WPS F C (.Assign [.Tuple [.Name x1 p1, .Name x2 p2] kk p3] e pos) ρ k P :=
  of_ps (fun X fx => ps_asg (peE fx) (pgTup (n := 2) fx (pgs_cons (t1.pg fx) (pgs_cons (t2.pg fx) pgs_nil)) (by rfl) (by rfl)) (hs X.env) (hw X.env)) fun σ H E en j q1 _ _ _ =>
    h σ H _ en j fun v d k1 H1 l1 j1 r ⟨d1, d2, e, p⟩ => by
      subst e
      cases r with
      | tup ha hr =>
        cases hr with
        | cons r1 hr =>
          cases hr with
          | cons r2 hr =>
            cases hr
            exact ⟨_, _, rfl, hK ▸ sqt_of ha, rfl, _, _, rfl, _, _, rfl, rfl, q1 _ _ k1 H1 l1.lz (((en.le l1).set (sv := .d d1) ⟨_, rfl, r1⟩).set (sv := .d d2) ⟨_, rfl, r2⟩) j1 p⟩
/-! ### for, while -/
theorem ws_for_list (i : Nat) {x : Str} {px : Pos} {iter : Expr} {body : List Stmt} (t : Tgt C i x) (hK : F.K = C.K) (hfs : ∀ (env : Env) (v : Value), foldedSetIterable iter env v = pure v)
    (h : WPE F C iter ρ k fun k1 d => ∃ (I : Nat → Nat → Rho → Prop) (ds : List PyData), d = .list ds ∧ I 0 k1 ρ ∧ (∀ (j : Nat) (y : PyData) k' ρ', ds[j]? = some y → I j k' ρ' → WPB F C body (ρ'.set i (.d y)) k' (P.loop (I (j + 1)))) ∧ (∀ k' ρ', I ds.length k' ρ' → P.nx k' ρ')) :
    WPS F C (.For (.Name x px) iter body [] pos) ρ k P :=
  of_ps (fun X fx => ps_for (by rw [fx.xe]; exact PassesOwn.never) fx.calm (piL fx) (t.pg fx) (pbB fx) (hfs X.env)) fun σ H E en j q1 q2 q3 q4 => by
    show tE C iter σ H _
    refine h σ H _ en j fun v d k1 H1 l1 j1 r hh => ?_
    obtain ⟨I, ds, e, i0, hstep, hend⟩ := hh
    subst e
    cases r with
    | @lst a xs _ ha hr =>
    refine ⟨a, rfl, ⟨xs, hK ▸ sql_of ha⟩, ?_⟩
    have hlen : xs.length = ds.length := hr.length
    have rr : Rp F H1 (.ref a) (.list ds) := .lst ha hr
    refine for_list (xs := xs) (fun n σ' H' => ∃ k' ρ', EnvOk F H' σ' ρ' ∧ J F k' H' ∧ Lz F H1 H' ∧ I n k' ρ') ⟨k1, ρ, en.le l1, j1, .refl, i0⟩ ?_ ?_ ?_
    · rintro n σ' H' _ ⟨k', ρ', _, _, lz, _⟩
      have := sql_of (K := F.K) (⟨lz _ _ (Fm.sxA ha.2) ha.1, ha.2⟩ : H' a = some (.lst xs) ∧ ¬ F.S a)
      exact hK ▸ this
    · rintro n v σ' H' hv ⟨k', ρ', en', j', lz, ii⟩
      obtain ⟨y, hy, ry⟩ := hr.got hv
      refine hstep n y k' ρ' hy ii (σ'.set i (some v)) H' _ (en'.set (sv := .d y) ⟨v, rfl, ry.le lz⟩) j' ?_ q2 ?_ ?_
      · exact fun ρ2 σ2 k2 H2 l2 e2 j2 p => ⟨k2, ρ2, e2, j2, lz.trans l2, p⟩
      · exact fun ρ2 σ2 k2 H2 l2 e2 j2 p => q1 ρ2 σ2 k2 H2 (l1.lz.trans (lz.trans l2)) e2 j2 p
      · exact fun ρ2 σ2 k2 H2 l2 e2 j2 p => ⟨k2, ρ2, e2, j2, lz.trans l2, p⟩
    · rintro σ' H' ⟨k', ρ', en', j', lz, ii⟩
      exact q1 ρ' σ' k' H' (l1.lz.trans lz) en' j' (hend k' ρ' (hlen ▸ ii))
theorem ws_for_range (i : Nat) {x : Str} {px p : Pos} {pos' : Pos} {body : List Stmt} (t : Tgt C i x) (hg : C.sc.names.lookup ("range" : Str) = some .globalImplicit) (hm : C.mg ("range" : Str) = none)
    (hse : ∀ env : Env, starEach [e] env = [(false, eval e env)]) (hfs : ∀ (env : Env) (v : Value), foldedSetIterable (.Call (.Name "range" p) [e] [] pos') env v = pure v)
    (h : WPE F C e ρ k fun k1 d => ∃ (I : Nat → Nat → Rho → Prop) (z : Int), d = .int z ∧ -(2 ^ 62) ≤ z ∧ z < 2 ^ 62 ∧ I 0 k1 ρ ∧ (∀ (j : Nat) k' ρ', j < z.toNat → I j k' ρ' → WPB F C body (ρ'.set i (.d (.int j))) k' (P.loop (I (j + 1)))) ∧ (∀ k' ρ', I z.toNat k' ρ' → P.nx k' ρ')) :
    WPS F C (.For (.Name x px) (.Call (.Name "range" p) [e] [] pos') body [] pos) ρ k P :=
  of_ps (fun X fx => ps_for (by rw [fx.xe]; exact PassesOwn.never) fx.calm (pi_range1 (by show X.env.scope.names.lookup ("range" : Str) = _; rw [fx.sc]; exact hg) (by rw [fx.mg]; exact hm) (pa_cons (peE fx) pa_nil (hse X.env)) (hse X.env)) (t.pg fx) (pbB fx) (hfs X.env)) fun σ H E en j q1 q2 q3 q4 => by
    show tE C e σ H _
    refine h σ H _ en j fun v d k1 H1 l1 j1 r hh => ?_
    obtain ⟨I, z, e, z1, z2, i0, hstep, hend⟩ := hh
    subst e
    cases r
    refine ⟨z, rfl, z1, z2, ?_⟩
    refine for_range (lo := 0) (n := z.toNat) (fun n σ' H' => ∃ k' ρ', EnvOk F H' σ' ρ' ∧ J F k' H' ∧ Lz F H1 H' ∧ I n k' ρ') ⟨k1, ρ, en.le l1, j1, .refl, i0⟩ ?_ ?_
    · rintro n σ' H' hn ⟨k', ρ', en', j', lz, ii⟩
      rw [Int.zero_add]
      refine hstep n k' ρ' hn ii (σ'.set i (some (.int n))) H' _ (en'.set (sv := .d (.int n)) ⟨_, rfl, .int n⟩) j' ?_ q2 ?_ ?_
      · exact fun ρ2 σ2 k2 H2 l2 e2 j2 p => ⟨k2, ρ2, e2, j2, lz.trans l2, p⟩
      · exact fun ρ2 σ2 k2 H2 l2 e2 j2 p => q1 ρ2 σ2 k2 H2 (l1.lz.trans (lz.trans l2)) e2 j2 p
      · exact fun ρ2 σ2 k2 H2 l2 e2 j2 p => ⟨k2, ρ2, e2, j2, lz.trans l2, p⟩
    · rintro σ' H' ⟨k', ρ', en', j', lz, ii⟩
      exact q1 ρ' σ' k' H' (l1.lz.trans lz) en' j' (hend k' ρ' ii)
/-- a while, by a word over the slots with a number that falls -/
theorem ws_while (I : Nat → Nat → Rho → Prop) {c : Expr} {body : List Stmt} (m0 : Nat) (h0 : I m0 k ρ)
    (hstep : ∀ m k' ρ', I m k' ρ' → WPT F C c ρ' k' fun k1 z => if z = true then WPB F C body ρ' k1 (P.loop fun k2 ρ2 => ∃ m2, m2 < m ∧ I m2 k2 ρ2) else P.nx k1 ρ') :
    WPS F C (.While c body [] pos) ρ k P :=
  of_ps (fun X fx => ps_while (by rw [fx.xe]; exact PassesOwn.never) (ptT fx) (pbB fx)) fun σ H E en j q1 q2 q3 q4 => by
    refine ⟨fun m σ' H' => ∃ k' ρ', EnvOk F H' σ' ρ' ∧ J F k' H' ∧ Lz F H H' ∧ I m k' ρ', ⟨m0, k, ρ, en, j, .refl, h0⟩, ?_⟩
    rintro m σ' H' ⟨k', ρ', en', j', lz, ii⟩
    refine hstep m k' ρ' ii σ' H' _ en' j' fun z k1 H1 l1 j1 p => ?_
    cases z with
    | true =>
      refine ⟨fun σ2 H2 => ∃ m2, m2 < m ∧ ∃ k2 ρ2, EnvOk F H2 σ2 ρ2 ∧ J F k2 H2 ∧ Lz F H H2 ∧ I m2 k2 ρ2, fun σ2 H2 ⟨m2, hm, w⟩ => ⟨m2, hm, w⟩, ?_⟩
      refine p σ' H1 _ (en'.le l1) j1 ?_ q2 ?_ ?_
      · exact fun ρ2 σ2 k2 H2 l2 e2 j2 ⟨m2, hm, p⟩ => ⟨m2, hm, k2, ρ2, e2, j2, lz.trans (l1.lz.trans l2), p⟩
      · exact fun ρ2 σ2 k2 H2 l2 e2 j2 p => q1 ρ2 σ2 k2 H2 (lz.trans (l1.lz.trans l2)) e2 j2 p
      · exact fun ρ2 σ2 k2 H2 l2 e2 j2 ⟨m2, hm, p⟩ => ⟨m2, hm, k2, ρ2, e2, j2, lz.trans (l1.lz.trans l2), p⟩
    | false => exact q1 ρ' σ' k1 H1 (lz.trans l1.lz) (en'.le l1) j1 p
end

/-! ### comprehensions -/
def Fm.ext (F : Fm) (D : Addr) : Fm := { F with S := fun b => F.S b ∨ b = D, ms := fun b h => .inl (F.ms b h) }
section
variable {F : Fm} {C : Cs} {ρ : Rho} {k : Nat} {H H1 : Hp} {D : Addr} {σ : L2.St}
theorem J.ext (j : J F k H) (h : Lv H D) : J (F.ext D) k H := ⟨j.g, j.le, fun b hb => hb.elim (j.al b) fun e => e ▸ h⟩
theorem J.unext (j : J (F.ext D) k H) : J F k H := ⟨j.g, j.le, fun b hb => j.al b (.inl hb)⟩
theorem Rep.unext {v : V} {d : PyData} (r : Rp (F.ext D) H v d) : Rp F H v d := Rep.keep (S := (F.ext D).S) (S' := F.S) (fun _ _ _ e => e) (fun b _ z => .inl z) d v r
theorem RepAll.unext {v : List V} {d : List PyData} (r : RpAll (F.ext D) H v d) : RpAll F H v d := RepAll.keep (S := (F.ext D).S) (S' := F.S) (fun _ _ _ e => e) (fun b _ z => .inl z) d v r
theorem Rep.ext {o : HO} {v : V} {d : PyData} (r : Rp F H v d) (h : H D = none) : Rp (F.ext D) (upd H D o) v d :=
  Rep.keep (S := F.S) (S' := (F.ext D).S) (fun b u _ e => by rw [upd_ne (ne_of_none e h)]; exact e) (fun b hb z => z.elim id fun e => absurd (e ▸ h) hb) d v r
theorem RepAll.ext {o : HO} {v : List V} {d : List PyData} (r : RpAll F H v d) (h : H D = none) : RpAll (F.ext D) (upd H D o) v d :=
  RepAll.keep (S := F.S) (S' := (F.ext D).S) (fun b u _ e => by rw [upd_ne (ne_of_none e h)]; exact e) (fun b hb z => z.elim id fun e => absurd (e ▸ h) hb) d v r
theorem EnvOk.ext {o : HO} (en : EnvOk F H σ ρ) (h : H D = none) : EnvOk (F.ext D) (upd H D o) σ ρ := fun i sv e => by
  obtain ⟨x, q, r⟩ := en i sv e
  refine ⟨x, q, ?_⟩
  cases sv with
  | un => trivial
  | d d => obtain ⟨v, e, r⟩ := r; exact ⟨v, e, r.ext h⟩
  | raw v => exact r
  | own o xs =>
    obtain ⟨e, s, m, z, vs, h1, r⟩ := r
    exact ⟨e, .inl s, m, z, vs, by rw [upd_ne (ne_of_none h1 h)]; exact h1, r.ext h⟩
/-- the new list at D changes: the rest is as it was -/
theorem EnvOk.at {o : HO} (en : EnvOk (F.ext D) H σ ρ) (hne : ∀ (i : Nat) o xs, ρ[i]? = some (SV.own o xs) → o ≠ D) : EnvOk (F.ext D) (upd H D o) σ ρ := fun i sv e => by
  obtain ⟨x, q, r⟩ := en i sv e
  have lz : ∀ b u, ¬ (F.ext D).S b → H b = some u → (upd H D o) b = some u := fun b u hb e => by rw [upd_ne fun z => hb (.inr z)]; exact e
  refine ⟨x, q, ?_⟩
  cases sv with
  | un => trivial
  | d d => obtain ⟨v, e, r⟩ := r; exact ⟨v, e, Rep.keep lz (fun _ _ z => z) _ _ r⟩
  | raw v => exact r
  | own o' xs =>
    obtain ⟨e, s, m, z, vs, h1, r⟩ := r
    exact ⟨e, s, m, z, vs, by rw [upd_ne (hne _ _ _ ‹_›)]; exact h1, RepAll.keep lz (fun _ _ z => z) _ _ r⟩
end
end Dl

namespace Dl
open PySem PySem.Spec PyProof.Rows L2
section
variable {F : Fm} {C : Cs} {ρ : Rho} {k : Nat} {H H1 : Hp} {D : Addr} {σ : L2.St} {Φ : Nat → PyData → Prop}
def LeD (F : Fm) (D : Addr) (H H' : Hp) : Prop := ∀ b o, ¬ F.Mx b o → b ≠ D → H b = some o → H' b = some o
theorem LeD.refl : LeD F D H H := fun _ _ _ _ e => e
theorem LeD.trans {H2 : Hp} (a : LeD F D H H1) (b : LeD F D H1 H2) : LeD F D H H2 := fun x o n m e => b x o n m (a x o n m e)
theorem Le.ld (a : Le F H H1) : LeD F D H H1 := fun b o n _ e => a b o n e
theorem LeD.lz (a : LeD F D H H1) (hs : F.S D) : Lz F H H1 := fun b o n e => a b o (fun z => n (z.imp (F.ms b) id)) (fun z => n (.inl (z ▸ hs))) e
theorem EnvOk.ld (en : EnvOk F H σ ρ) (a : LeD F D H H1) (hs : F.S D) (hne : ∀ (i : Nat) o xs, ρ[i]? = some (SV.own o xs) → o ≠ D) : EnvOk F H1 σ ρ := fun i sv e => by
  obtain ⟨x, q, r⟩ := en i sv e
  refine ⟨x, q, ?_⟩
  cases sv with
  | un => trivial
  | d d => obtain ⟨v, e, r⟩ := r; exact ⟨v, e, r.le (a.lz hs)⟩
  | raw v => exact r
  | own o' xs =>
    obtain ⟨e', s, m, z, vs, h1, r⟩ := r
    exact ⟨e', s, m, z, vs, a o' _ (Fm.mxA m) (hne _ _ _ e) h1, r.le (a.lz hs)⟩
theorem lc_turn {tt : TT} {te : TE} {ρ2 : Rho} {σ2 : L2.St} {vs : List V} {acc : List PyData} {I : Nat → List PyData → Prop} {Nx : Hp → Prop} (hM : ¬ F.M D) (hS : F.S D) (h0 : F.H0 D = none)
    (en : EnvOk F H σ2 ρ2) (j : J F k H) (hd : H D = some (.lst vs)) (ra : RpAll F H vs acc) (hz : acc.length < sizeLine)
    (body : WT F tt ρ2 k fun k1 b => if b = true then WE F te ρ2 k1 fun k2 y => I k2 (acc ++ [y]) else I k1 acc)
    (nx : ∀ H' k' vs' acc', acc'.length ≤ acc.length + 1 → LeD F D H H' → H' D = some (.lst vs') → RpAll F H' vs' acc' → J F k' H' → I k' acc' → Nx H') :
    tt σ2 H fun b H3 => if b = true then te σ2 H3 fun y H4 => ∃ acc, H4 D = some (.lst acc) ∧ acc.length < sizeLine ∧ Nx (upd H4 D (.lst (acc ++ [y]))) else Nx H3 := by
  refine body σ2 H _ en j fun b k1 H3 l3 j3 p => ?_
  cases b with
  | false => exact nx H3 k1 vs acc (Nat.le_succ _) l3.ld (l3 D _ (Fm.mxA hM) hd) (ra.le l3.lz) j3 p
  | true =>
    refine p σ2 H3 _ (en.le l3) j3 fun v y k2 H4 l4 j4 r4 q => ?_
    have hd4 : H4 D = some (.lst vs) := l4 D _ (Fm.mxA hM) (l3 D _ (Fm.mxA hM) hd)
    refine ⟨vs, hd4, by rw [ra.length]; exact hz, nx _ k2 _ _ (by rw [List.length_append]; exact Nat.le_refl _) ?_ upd_same ?_ (j4.own hM h0 (pl_lst hd4)) q⟩
    · exact fun b o n m e => by rw [upd_ne m]; exact l4 b o n (l3 b o n e)
    · have lz : Lz F H4 (upd H4 D (.lst (vs ++ [v]))) := fun b o n e => by rw [upd_ne (show b ≠ D from fun z => n (.inl (by rw [z]; exact hS)))]; exact e
      exact (((ra.le l3.lz).le l4.lz).le lz).append (.cons (r4.le lz) .nil)
theorem set_wipe {i : Nat} {x : V} (σ : L2.St) : (wipe σ [i]).set i (some x) = σ.set i (some x) := by
  show (σ.set i none).set i (some x) = _
  rw [List.set_set]
theorem wipe_set {i : Nat} {x : V} (σ : L2.St) : wipe (σ.set i (some x)) [i] = wipe σ [i] := by
  show (σ.set i (some x)).set i none = σ.set i none
  rw [List.set_set]
theorem we_lcL (i : Nat) {tl : TE} {K : PySem.W.Frag} (hK : F.K = K) {tt : TT} {te : TE}
    (h : WE F tl ρ k fun k1 d => ∃ (I : Nat → Nat → List PyData → Prop) (ds : List PyData), d = .list ds ∧ ds.length ≤ 1000000 ∧ I 0 k1 [] ∧ (∀ D (j : Nat) (y : PyData) k' acc, ds[j]? = some y → I j k' acc → WT (F.ext D) tt (ρ.set i (.d y)) k' fun k1 b => if b = true then WE (F.ext D) te (ρ.set i (.d y)) k1 fun k2 z => I (j + 1) k2 (acc ++ [z]) else I (j + 1) k1 acc) ∧ (∀ k' acc, I ds.length k' acc → Φ k' (.list acc))) : WE F (tLc (iList K tl) (gName i) tt te [i]) ρ k Φ := fun σ H Q en j q => by
  show tl σ H _
  refine h σ H _ en j fun v d k1 H1 l1 j1 r hh => ?_
  obtain ⟨I, ds, e, hz, i0, hstep, hend⟩ := hh
  subst e
  cases r with
  | @lst a xs _ ha hr =>
  refine ⟨a, rfl, ⟨xs, hK ▸ sql_of ha⟩, fun D hD => ?_⟩
  have hlen : xs.length = ds.length := hr.length
  have en1 := en.le l1
  have hM : ¬ F.M D := fun z => F.gl _ _ j1.g D z hD
  have hS : ¬ F.S D := j1.fresh hD
  have h0 : F.H0 D = none := j1.h0 hM hD
  have hne : ∀ (i : Nat) o xs, ρ[i]? = some (SV.own o xs) → o ≠ D := fun i o xs e => by
    obtain ⟨x, _, s⟩ := en1 i _ e
    obtain ⟨_, _, _, _, vs, h1, _⟩ := s
    exact ne_of_none h1 hD
  have rr : Rp (F.ext D) (upd H1 D (.lst [])) (.ref a) (.list ds) := Rep.ext (.lst ha hr) hD
  cases rr with
  | @lst _ xs' _ ha' hr' =>
  have exs : True := trivial
  refine lc_list (xs := xs') (fun n H' => ∃ k' vs acc, acc.length ≤ n ∧ EnvOk (F.ext D) H' σ ρ ∧ J (F.ext D) k' H' ∧ LeD (F.ext D) D (upd H1 D (.lst [])) H' ∧ H' D = some (.lst vs) ∧ RpAll (F.ext D) H' vs acc ∧ I n k' acc)
    ⟨k1, [], [], Nat.le_refl _, en1.ext hD, (j1.new hD).ext (lv_new fun _ z => nomatch z), .refl, upd_same, .nil, i0⟩ ?_ ?_ ?_
  · rintro n H' _ ⟨k', vs, acc, _, _, _, ld, _⟩
    have := sql_of (K := F.K) (H := H') (S := (F.ext D).S) ⟨ld.lz (.inr rfl) _ _ (Fm.sxA ha'.2) ha'.1, ha'.2⟩
    exact hK ▸ this
  · rintro n v H' hv ⟨k', vs, acc, hle, en', j', ld, hd, ra, ii⟩
    obtain ⟨y, hy, ry⟩ := hr'.got hv
    show (wipe ((wipe σ [i]).set i (some v)) [i] = wipe σ [i] ∧ _)
    rw [set_wipe]
    refine ⟨wipe_set σ, ?_⟩
    have hn : n < ds.length := (List.getElem?_eq_some_iff.mp hy).1
    refine lc_turn (F := F.ext D) (I := fun k acc => I (n + 1) k acc) hM (.inr rfl) h0 (en'.set (sv := .d y) ⟨v, rfl, ry.le (ld.lz (.inr rfl))⟩) j' hd ra (Nat.lt_of_le_of_lt (show acc.length ≤ 1000000 by omega) (by decide)) (hstep D n y k' acc hy ii) fun H2 k2 vs2 acc2 hl2 ld2 hd2 ra2 j2 i2 => ?_
    exact ⟨k2, vs2, acc2, by omega, en'.ld ld2 (.inr rfl) hne, j2, ld.trans ld2, hd2, ra2, i2⟩
  · rintro H' ⟨k', vs, acc, hle, en', j', ld, hd, ra, ii⟩
    refine q (.ref D) (.list acc) k' H' ?_ j'.unext (.lst ⟨hd, hS⟩ ra.unext) (hend k' acc (by rw [← hr'.length]; exact ii))
    exact fun b o n e => ld b o n (ne_of_none (l1 b o n e) hD) (by rw [upd_ne (ne_of_none (l1 b o n e) hD)]; exact l1 b o n e)
theorem we_lcT (i : Nat) {tl : TE} {K : PySem.W.Frag} (hK : F.K = K) {tt : TT} {te : TE}
    (h : WE F tl ρ k fun k1 d => ∃ (I : Nat → Nat → List PyData → Prop) (ds : List PyData), d = .tuple ds ∧ ds.length ≤ 1000000 ∧ I 0 k1 [] ∧ (∀ D (j : Nat) (y : PyData) k' acc, ds[j]? = some y → I j k' acc → WT (F.ext D) tt (ρ.set i (.d y)) k' fun k1 b => if b = true then WE (F.ext D) te (ρ.set i (.d y)) k1 fun k2 z => I (j + 1) k2 (acc ++ [z]) else I (j + 1) k1 acc) ∧ (∀ k' acc, I ds.length k' acc → Φ k' (.list acc))) : WE F (tLc (iTup K tl) (gName i) tt te [i]) ρ k Φ := fun σ H Q en j q => by
  show tl σ H _
  refine h σ H _ en j fun v d k1 H1 l1 j1 r hh => ?_
  obtain ⟨I, ds, e, hz, i0, hstep, hend⟩ := hh
  subst e
  cases r with
  | @tup a xs _ ha hr =>
  refine ⟨a, rfl, ⟨xs, hK ▸ sqt_of ha⟩, fun D hD => ?_⟩
  have hlen : xs.length = ds.length := hr.length
  have en1 := en.le l1
  have hM : ¬ F.M D := fun z => F.gl _ _ j1.g D z hD
  have hS : ¬ F.S D := j1.fresh hD
  have h0 : F.H0 D = none := j1.h0 hM hD
  have hne : ∀ (i : Nat) o xs, ρ[i]? = some (SV.own o xs) → o ≠ D := fun i o xs e => by
    obtain ⟨x, _, s⟩ := en1 i _ e
    obtain ⟨_, _, _, _, vs, h1, _⟩ := s
    exact ne_of_none h1 hD
  have rr : Rp (F.ext D) (upd H1 D (.lst [])) (.ref a) (.tuple ds) := Rep.ext (.tup ha hr) hD
  cases rr with
  | @tup _ xs' _ ha' hr' =>
  have exs : True := trivial
  refine lc_tup (xs := xs') (fun n H' => ∃ k' vs acc, acc.length ≤ n ∧ EnvOk (F.ext D) H' σ ρ ∧ J (F.ext D) k' H' ∧ LeD (F.ext D) D (upd H1 D (.lst [])) H' ∧ H' D = some (.lst vs) ∧ RpAll (F.ext D) H' vs acc ∧ I n k' acc)
    ⟨k1, [], [], Nat.le_refl _, en1.ext hD, (j1.new hD).ext (lv_new fun _ z => nomatch z), .refl, upd_same, .nil, i0⟩ ?_ ?_ ?_
  · rintro n H' _ ⟨k', vs, acc, _, _, _, ld, _⟩
    have := sqt_of (K := F.K) (H := H') (S := (F.ext D).S) ⟨ld.lz (.inr rfl) _ _ (Fm.sxA ha'.2) ha'.1, ha'.2⟩
    exact hK ▸ this
  · rintro n v H' hv ⟨k', vs, acc, hle, en', j', ld, hd, ra, ii⟩
    obtain ⟨y, hy, ry⟩ := hr'.got hv
    show (wipe ((wipe σ [i]).set i (some v)) [i] = wipe σ [i] ∧ _)
    rw [set_wipe]
    refine ⟨wipe_set σ, ?_⟩
    have hn : n < ds.length := (List.getElem?_eq_some_iff.mp hy).1
    refine lc_turn (F := F.ext D) (I := fun k acc => I (n + 1) k acc) hM (.inr rfl) h0 (en'.set (sv := .d y) ⟨v, rfl, ry.le (ld.lz (.inr rfl))⟩) j' hd ra (Nat.lt_of_le_of_lt (show acc.length ≤ 1000000 by omega) (by decide)) (hstep D n y k' acc hy ii) fun H2 k2 vs2 acc2 hl2 ld2 hd2 ra2 j2 i2 => ?_
    exact ⟨k2, vs2, acc2, by omega, en'.ld ld2 (.inr rfl) hne, j2, ld.trans ld2, hd2, ra2, i2⟩
  · rintro H' ⟨k', vs, acc, hle, en', j', ld, hd, ra, ii⟩
    refine q (.ref D) (.list acc) k' H' ?_ j'.unext (.lst ⟨hd, hS⟩ ra.unext) (hend k' acc (by rw [← hr'.length]; exact ii))
    exact fun b o n e => ld b o n (ne_of_none (l1 b o n e) hD) (by rw [upd_ne (ne_of_none (l1 b o n e) hD)]; exact l1 b o n e)
theorem we_lcR (i : Nat) {tl : TE} {tt : TT} {te : TE}
    (h : WE F tl ρ k fun k1 d => ∃ (I : Nat → Nat → List PyData → Prop) (z : Int), d = .int z ∧ -(2 ^ 62) ≤ z ∧ z ≤ 1000000 ∧ I 0 k1 [] ∧ (∀ D (j : Nat) k' acc, j < z.toNat → I j k' acc → WT (F.ext D) tt (ρ.set i (.d (.int j))) k' fun k1 b => if b = true then WE (F.ext D) te (ρ.set i (.d (.int j))) k1 fun k2 z => I (j + 1) k2 (acc ++ [z]) else I (j + 1) k1 acc) ∧ (∀ k' acc, I z.toNat k' acc → Φ k' (.list acc))) : WE F (tLc (iRng1 (tCons tl tNil)) (gName i) tt te [i]) ρ k Φ := fun σ H Q en j q => by
  show tl σ H _
  refine h σ H _ en j fun v d k1 H1 l1 j1 r hh => ?_
  obtain ⟨I, z, e, z1, z2, i0, hstep, hend⟩ := hh
  subst e
  cases r
  refine ⟨z, rfl, z1, by omega, fun D hD => ?_⟩
  have en1 := en.le l1
  have hM : ¬ F.M D := fun z => F.gl _ _ j1.g D z hD
  have hS : ¬ F.S D := j1.fresh hD
  have h0 : F.H0 D = none := j1.h0 hM hD
  have hne : ∀ (i : Nat) o xs, ρ[i]? = some (SV.own o xs) → o ≠ D := fun i o xs e => by
    obtain ⟨x, _, s⟩ := en1 i _ e
    obtain ⟨_, _, _, _, vs, h1, _⟩ := s
    exact ne_of_none h1 hD
  refine lc_range (lo := 0) (n := z.toNat) (fun n H' => ∃ k' vs acc, acc.length ≤ n ∧ EnvOk (F.ext D) H' σ ρ ∧ J (F.ext D) k' H' ∧ LeD (F.ext D) D (upd H1 D (.lst [])) H' ∧ H' D = some (.lst vs) ∧ RpAll (F.ext D) H' vs acc ∧ I n k' acc)
    ⟨k1, [], [], Nat.le_refl _, en1.ext hD, (j1.new hD).ext (lv_new fun _ z => nomatch z), .refl, upd_same, .nil, i0⟩ ?_ ?_
  · rintro n H' hn ⟨k', vs, acc, hle, en', j', ld, hd, ra, ii⟩
    rw [Int.zero_add]
    show (wipe ((wipe σ [i]).set i (some (.int n))) [i] = wipe σ [i] ∧ _)
    rw [set_wipe]
    refine ⟨wipe_set σ, ?_⟩
    refine lc_turn (F := F.ext D) (I := fun k acc => I (n + 1) k acc) hM (.inr rfl) h0 (en'.set (sv := .d (.int n)) ⟨_, rfl, .int n⟩) j' hd ra (Nat.lt_of_le_of_lt (show acc.length ≤ 1000000 by omega) (by decide)) (hstep D n k' acc hn ii) fun H2 k2 vs2 acc2 hl2 ld2 hd2 ra2 j2 i2 => ?_
    exact ⟨k2, vs2, acc2, by omega, en'.ld ld2 (.inr rfl) hne, j2, ld.trans ld2, hd2, ra2, i2⟩
  · rintro H' ⟨k', vs, acc, hle, en', j', ld, hd, ra, ii⟩
    refine q (.ref D) (.list acc) k' H' ?_ j'.unext (.lst ⟨hd, hS⟩ ra.unext) (hend k' acc ii)
    exact fun b o n e => ld b o n (ne_of_none (l1 b o n e) hD) (by rw [upd_ne (ne_of_none (l1 b o n e) hD)]; exact l1 b o n e)

theorem wt_yes {Ψ : Nat → Bool → Prop} (h : Ψ k true) : WT F tYes ρ k Ψ := fun σ H Q en j q => q true k H .refl j h
end
/-! comprehensions as expressions, as values given to a name -/
section
variable {F : Fm} {C : Cs} {ρ : Rho} {k : Nat} {Φ : Nat → PyData → Prop} {P : DE} {pos spos : Pos} {elt iter : Expr} {scope : Scope} {i : Nat} {x : Str} {px : Pos}
/-- what a comprehension's block wants: its own name at the place i -/
structure Blk (C : Cs) (scope : Scope) (i : Nat) (x : Str) : Prop where
  ok : BlkOk C.N C.sc scope [(x, i)]
  t : Tgt (C.blk scope) i x
theorem pe_lcX {X : Cx} (fx : Fits C X) (b : Blk C scope i x) {ifs : List Expr} {wi : TI} {tt : TT} (hi : PI X (.Name x px) iter wi) (ht : ∀ X', Fits (C.blk scope) X' → PTs X' ifs tt) (hs : ∀ (env : Env) (v : Value), foldedSetIterable iter env v = pure v) :
    PE X (.ListComp elt [⟨.Name x px, iter, ifs, 0⟩] scope pos) (tLc wi (gName i) tt (tE (C.blk scope) elt) [i]) :=
  pe_lc (own := [(x, i)]) fx.calm (by rw [fx.N]; exact b.t.hN) hi (by rw [fx.N, fx.sc]; exact b.ok) (fun s H a cl fp => b.t.pg (fx.blk s H scope a cl fp)) (fun s H a cl fp => ht _ (fx.blk s H scope a cl fp)) (fun s H a cl fp => peE (fx.blk s H scope a cl fp)) (hs X.env)
theorem ps_lcX {X : Cx} {y : Str} {py : Pos} {iy : Nat} (fx : Fits C X) (b : Blk C scope i x) (ty : Tgt C iy y) (hyl : C.sc.names.lookup y = some .local) (hk : C.sc.kind = .function) (hl : (py.line == pos.line) = true) (ha : (scope.names.any fun (n, k) => n == y && (k == .local || k == .cell)) = false)
    {ifs : List Expr} {wi : TI} {tt : TT} (hi : PI X (.Name x px) iter wi) (ht : ∀ X', Fits (C.blk scope) X' → PTs X' ifs tt) (hs : ∀ (env : Env) (v : Value), foldedSetIterable iter env v = pure v) :
    PS X (.Assign [.Name y py] (.ListComp elt [⟨.Name x px, iter, ifs, 0⟩] scope pos) spos) (tAsg (tLc wi (gName i) tt (tE (C.blk scope) elt) [i]) (gName iy)) :=
  ps_setLc (own := [(x, i)]) fx.calm (by rw [fx.N]; exact b.t.hN) (by rw [fx.N]; exact ty.hi) (by rw [fx.sc]; exact hyl) (sw_true (by rw [fx.sc]; exact hk) (by rw [fx.sc]; exact hyl) hl ha) hi (by rw [fx.N, fx.sc]; exact b.ok) (fun s H a cl fp => b.t.pg (fx.blk s H scope a cl fp)) (fun s H a cl fp => ht _ (fx.blk s H scope a cl fp)) (fun s H a cl fp => peE (fx.blk s H scope a cl fp)) (hs X.env)
theorem we_compL0 (i : Nat) {x : Str} {px : Pos} (b : Blk C scope i x) (hK : F.K = C.K) (hfs : ∀ (env : Env) (v : Value), foldedSetIterable iter env v = pure v)
    (h : WPE F C iter ρ k fun k1 d => ∃ (I : Nat → Nat → List PyData → Prop) (ds : List PyData), d = .list ds ∧ ds.length ≤ 1000000 ∧ I 0 k1 [] ∧ (∀ D (j : Nat) (y : PyData) k' acc, ds[j]? = some y → I j k' acc → WPE (F.ext D) (C.blk scope) elt (ρ.set i (.d y)) k' fun k2 z => I (j + 1) k2 (acc ++ [z])) ∧ (∀ k' acc, I ds.length k' acc → Φ k' (.list acc))) : WPE F C (.ListComp elt [⟨.Name x px, iter, [], 0⟩] scope pos) ρ k Φ :=
  of_pe (fun X fx => pe_lcX fx b (piL fx) (fun _ _ => pts_nil) hfs) (we_lcL i hK (h.imp fun k1 d ⟨I, ds, e, hz, i0, hs, he⟩ => ⟨I, ds, e, hz, i0, fun D j y k' acc hy ii => wt_yes (by rw [if_pos rfl]; exact hs D j y k' acc hy ii), he⟩))
theorem ws_compL0 (i iy : Nat) {x y : Str} {px py : Pos} (b : Blk C scope i x) (ty : Tgt C iy y) (hyl : C.sc.names.lookup y = some .local) (hk : C.sc.kind = .function) (hl : (py.line == pos.line) = true) (ha : (scope.names.any fun (n, k) => n == y && (k == .local || k == .cell)) = false) (hK : F.K = C.K) (hfs : ∀ (env : Env) (v : Value), foldedSetIterable iter env v = pure v)
    (h : WPE F C iter ρ k fun k1 d => ∃ (I : Nat → Nat → List PyData → Prop) (ds : List PyData), d = .list ds ∧ ds.length ≤ 1000000 ∧ I 0 k1 [] ∧ (∀ D (j : Nat) (y : PyData) k' acc, ds[j]? = some y → I j k' acc → WPE (F.ext D) (C.blk scope) elt (ρ.set i (.d y)) k' fun k2 z => I (j + 1) k2 (acc ++ [z])) ∧ (∀ k' acc, I ds.length k' acc → P.nx k' (ρ.set iy (.d (.list acc))))) : WPS F C (.Assign [.Name y py] (.ListComp elt [⟨.Name x px, iter, [], 0⟩] scope pos) spos) ρ k P :=
  of_ps (fun X fx => ps_lcX fx b ty hyl hk hl ha (piL fx) (fun _ _ => pts_nil) hfs) (ws_asgName iy (we_lcL i hK (h.imp fun k1 d ⟨I, ds, e, hz, i0, hs, he⟩ => ⟨I, ds, e, hz, i0, fun D j y k' acc hy ii => wt_yes (by rw [if_pos rfl]; exact hs D j y k' acc hy ii), he⟩)))
theorem we_compL1 (i : Nat) {x : Str} {px : Pos} {c : Expr} (b : Blk C scope i x) (hK : F.K = C.K) (hfs : ∀ (env : Env) (v : Value), foldedSetIterable iter env v = pure v)
    (h : WPE F C iter ρ k fun k1 d => ∃ (I : Nat → Nat → List PyData → Prop) (ds : List PyData), d = .list ds ∧ ds.length ≤ 1000000 ∧ I 0 k1 [] ∧ (∀ D (j : Nat) (y : PyData) k' acc, ds[j]? = some y → I j k' acc → WPT (F.ext D) (C.blk scope) c (ρ.set i (.d y)) k' fun k1 b => if b = true then WPE (F.ext D) (C.blk scope) elt (ρ.set i (.d y)) k1 fun k2 z => I (j + 1) k2 (acc ++ [z]) else I (j + 1) k1 acc) ∧ (∀ k' acc, I ds.length k' acc → Φ k' (.list acc))) : WPE F C (.ListComp elt [⟨.Name x px, iter, [c], 0⟩] scope pos) ρ k Φ :=
  of_pe (fun X fx => pe_lcX fx b (piL fx) (fun X' fx' => pts_one (ptT fx')) hfs) (we_lcL i hK h)
theorem ws_compL1 (i iy : Nat) {x y : Str} {px py : Pos} {c : Expr} (b : Blk C scope i x) (ty : Tgt C iy y) (hyl : C.sc.names.lookup y = some .local) (hk : C.sc.kind = .function) (hl : (py.line == pos.line) = true) (ha : (scope.names.any fun (n, k) => n == y && (k == .local || k == .cell)) = false) (hK : F.K = C.K) (hfs : ∀ (env : Env) (v : Value), foldedSetIterable iter env v = pure v)
    (h : WPE F C iter ρ k fun k1 d => ∃ (I : Nat → Nat → List PyData → Prop) (ds : List PyData), d = .list ds ∧ ds.length ≤ 1000000 ∧ I 0 k1 [] ∧ (∀ D (j : Nat) (y : PyData) k' acc, ds[j]? = some y → I j k' acc → WPT (F.ext D) (C.blk scope) c (ρ.set i (.d y)) k' fun k1 b => if b = true then WPE (F.ext D) (C.blk scope) elt (ρ.set i (.d y)) k1 fun k2 z => I (j + 1) k2 (acc ++ [z]) else I (j + 1) k1 acc) ∧ (∀ k' acc, I ds.length k' acc → P.nx k' (ρ.set iy (.d (.list acc))))) : WPS F C (.Assign [.Name y py] (.ListComp elt [⟨.Name x px, iter, [c], 0⟩] scope pos) spos) ρ k P :=
  of_ps (fun X fx => ps_lcX fx b ty hyl hk hl ha (piL fx) (fun X' fx' => pts_one (ptT fx')) hfs) (ws_asgName iy (we_lcL i hK h))
theorem we_compT0 (i : Nat) {x : Str} {px : Pos} (b : Blk C scope i x) (hK : F.K = C.K) (hfs : ∀ (env : Env) (v : Value), foldedSetIterable iter env v = pure v)
    (h : WPE F C iter ρ k fun k1 d => ∃ (I : Nat → Nat → List PyData → Prop) (ds : List PyData), d = .tuple ds ∧ ds.length ≤ 1000000 ∧ I 0 k1 [] ∧ (∀ D (j : Nat) (y : PyData) k' acc, ds[j]? = some y → I j k' acc → WPE (F.ext D) (C.blk scope) elt (ρ.set i (.d y)) k' fun k2 z => I (j + 1) k2 (acc ++ [z])) ∧ (∀ k' acc, I ds.length k' acc → Φ k' (.list acc))) : WPE F C (.ListComp elt [⟨.Name x px, iter, [], 0⟩] scope pos) ρ k Φ :=
  of_pe (fun X fx => pe_lcX fx b (piT fx) (fun _ _ => pts_nil) hfs) (we_lcT i hK (h.imp fun k1 d ⟨I, ds, e, hz, i0, hs, he⟩ => ⟨I, ds, e, hz, i0, fun D j y k' acc hy ii => wt_yes (by rw [if_pos rfl]; exact hs D j y k' acc hy ii), he⟩))
theorem we_compR0 (i : Nat) {x : Str} {px : Pos} (b : Blk C scope i x) {e : Expr} {pr pr2 : Pos} (hg : C.sc.names.lookup ("range" : Str) = some .globalImplicit) (hm : C.mg ("range" : Str) = none) (hse : ∀ env : Env, starEach [e] env = [(false, eval e env)]) (hfs : ∀ (env : Env) (v : Value), foldedSetIterable (.Call (.Name "range" pr) [e] [] pr2) env v = pure v)
    (h : WPE F C e ρ k fun k1 d => ∃ (I : Nat → Nat → List PyData → Prop) (z : Int), d = .int z ∧ -(2 ^ 62) ≤ z ∧ z ≤ 1000000 ∧ I 0 k1 [] ∧ (∀ D (j : Nat) k' acc, j < z.toNat → I j k' acc → WPE (F.ext D) (C.blk scope) elt (ρ.set i (.d (.int j))) k' fun k2 z => I (j + 1) k2 (acc ++ [z])) ∧ (∀ k' acc, I z.toNat k' acc → Φ k' (.list acc))) : WPE F C (.ListComp elt [⟨.Name x px, (.Call (.Name "range" pr) [e] [] pr2), [], 0⟩] scope pos) ρ k Φ :=
  of_pe (fun X fx => pe_lcX fx b (pi_range1 (by show X.env.scope.names.lookup ("range" : Str) = _; rw [fx.sc]; exact hg) (by rw [fx.mg]; exact hm) (pa_cons (peE fx) pa_nil (hse X.env)) (hse X.env)) (fun _ _ => pts_nil) hfs) (we_lcR i (h.imp fun k1 d ⟨I, z, e, z1, z2, i0, hs, he⟩ => ⟨I, z, e, z1, z2, i0, fun D j k' acc hj ii => wt_yes (by rw [if_pos rfl]; exact hs D j k' acc hj ii), he⟩))
theorem we_compR1 (i : Nat) {x : Str} {px : Pos} {c : Expr} (b : Blk C scope i x) {e : Expr} {pr pr2 : Pos} (hg : C.sc.names.lookup ("range" : Str) = some .globalImplicit) (hm : C.mg ("range" : Str) = none) (hse : ∀ env : Env, starEach [e] env = [(false, eval e env)]) (hfs : ∀ (env : Env) (v : Value), foldedSetIterable (.Call (.Name "range" pr) [e] [] pr2) env v = pure v)
    (h : WPE F C e ρ k fun k1 d => ∃ (I : Nat → Nat → List PyData → Prop) (z : Int), d = .int z ∧ -(2 ^ 62) ≤ z ∧ z ≤ 1000000 ∧ I 0 k1 [] ∧ (∀ D (j : Nat) k' acc, j < z.toNat → I j k' acc → WPT (F.ext D) (C.blk scope) c (ρ.set i (.d (.int j))) k' fun k1 b => if b = true then WPE (F.ext D) (C.blk scope) elt (ρ.set i (.d (.int j))) k1 fun k2 z => I (j + 1) k2 (acc ++ [z]) else I (j + 1) k1 acc) ∧ (∀ k' acc, I z.toNat k' acc → Φ k' (.list acc))) : WPE F C (.ListComp elt [⟨.Name x px, (.Call (.Name "range" pr) [e] [] pr2), [c], 0⟩] scope pos) ρ k Φ :=
  of_pe (fun X fx => pe_lcX fx b (pi_range1 (by show X.env.scope.names.lookup ("range" : Str) = _; rw [fx.sc]; exact hg) (by rw [fx.mg]; exact hm) (pa_cons (peE fx) pa_nil (hse X.env)) (hse X.env)) (fun X' fx' => pts_one (ptT fx')) hfs) (we_lcR i h)
end
end Dl

namespace Dl
open PySem PySem.Spec PyProof.Rows L2

/-! ### defs whose promise holds where no repr is under way -/
structure FnG (P : Program) (w : World) (K : PySem.W.Frag) (mg : Str → Option Value) (base : Heap) (k : Nat) (f : Addr) (fd : FuncData) (ps : List Str) (sp : Sp) : Prop where
  len : ∀ vs H Q E, sp vs H Q E → vs.length = ps.length
  run : ∀ (A : Around) (outer : List Env) (s : Shared) (H : Hp) (args : Args) (us : List Value) (vs : List V) (Q : VK), A.guards = some [] → Room k A → Env0 P w K mg base A outer s H → BindsTo s fd args (ps.zip us) → Vals vs us → sp vs H Q E0 →
    codeAny (model P w) A (.call (.ref f) args) (CR CX0 outer P w H s Q E0) s
section
variable {P : Program} {w : World} {K : PySem.W.Frag} {mg : Str → Option Value} {base : Heap}
theorem FnG.of_body {x qual : Str} {st : Stmt} {f : Addr} {fd : FuncData} {N ps : List Str} {k : Nat} {sp : Sp} (Fn : Fun K x qual st f fd) (Sc : FnScope N ps (defScope st)) (len : ∀ vs H Q E, sp vs H Q E → vs.length = ps.length)
    (body : ∀ (cdv : Value) (A : Around) (outer : List Env) (s : Shared) (H : Hp) (vs : List V) (Q : VK), A.guards = some [] → Room k (A.deeper (envOfC qual (defScope st) s.heap.objs.size f cdv)) → sp vs H Q E0 →
      ∃ t, PSs (cxOf CX0 P w K mg base N qual (defScope st) f cdv A outer s H E0).nox (defBody st) t ∧ t { nx := fun _ H' => Q .non H', rt := Q } (L2.start N vs) H) :
    FnG P w K mg base (k + 1) f fd ps sp := by
  obtain ⟨oc, od, kV, doc, pm, an, cdv, ct, osl, efd, look, hcode⟩ := Fn.ex
  subst efd
  constructor
  · exact len
  intro A outer s H args us vs Q hgd room env hbind rel hsp
  have hlen := len vs H Q E0 hsp
  have inK : K.In s.heap := env.mod.kin.keeps fun b o z => (env.bs b o z).1
  have nolim : s.heap.NoLimit := env.mod.nolimit.keeps fun b o z => (env.bs b o z).1
  refine codeAny_call_function room.depth (inK f _ look) rfl Sc.co Sc.gen rfl (PySem.W.codeRec_of inK hcode) (hbind _ _ _ _ ?_)
  have kinds : ∀ y ∈ ps.zip us, (defScope st).names.lookup y.1 = some .local ∨ ((defScope st).names.lookup y.1 = some .cell ∧ ((cellsFrom (s.heap.objs.size + 1) (defScope st).names []).lookup y.1).isSome = true) := by
    rintro ⟨n, v⟩ hy
    have hn : n ∈ ps := (List.of_mem_zip hy).1
    cases Sc.par n hn with
    | inl q => left; exact q
    | inr q => right; exact ⟨q, PySem.W.cellsFrom_some _ _ _ (Or.inl q)⟩
  apply wpAny_newFunctionEnv_cells Sc.kind kinds
  intro env' he s1 ic
  subst he
  refine ⟨nolim.keeps ic.toInCall.keep, codeAny_func ?_⟩
  obtain ⟨t, ht, hq⟩ := body cdv A outer s H vs Q hgd (room.deeper _) hsp
  have inv : Inv (cxOf CX0 P w K mg base N qual (defScope st) f cdv A outer s H E0) [] (L2.start N vs) H s1 := inv_start Sc room.hd env hlen rel ic
  refine wpAny_mono (ht.nox.run [] s1 _ H _ inv hq) ?_ (fun e s' z => z)
  intro fl s' hfl
  cases fl with
  | ret u => exact let ⟨v, _, H', j, rv, q⟩ := hfl; ⟨v, H', j.os, j.bare, j.base, j.hok, rv, q⟩
  | next => exact let ⟨_, H', j, q⟩ := hfl; ⟨V.non, H', j.os, j.bare, j.base, j.hok, rfl, q⟩
  | brk => exact let ⟨_, _, _, q⟩ := hfl; False.elim q
  | cont => exact let ⟨_, _, _, q⟩ := hfl; False.elim q
theorem FnG.mono {j k : Nat} {f : Addr} {fd : FuncData} {ps : List Str} {sp : Sp} (G : FnG P w K mg base j f fd ps sp) (h : j ≤ k) : FnG P w K mg base k f fd ps sp :=
  ⟨G.len, fun A outer s H args us vs Q g room => G.run A outer s H args us vs Q g (room.mono h)⟩
end
section
variable {X : Cx} {x : Str} {p pos : Pos} {e : Expr} {es : List Expr} {t : TA} {k : Nat} {f : Addr} {fd : FuncData} {ps : List Str} {sp : Sp}
theorem FnG.call_run {pins : List (Addr × Obj)} {σ : L2.St} {H : Hp} {s : Shared} {Q : VK} {us : List Value} {vs : List V} (G : FnG X.prog X.w X.K X.mg X.base k f fd ps sp) (gd : X.A.guards = some []) (room : Room k X.A) (hb : L2.Binds X.K fd ps [])
    (I : Inv X pins σ H s) (r : Vals vs us) (h : sp vs H Q E0) : wpAny (model X.prog X.w) X.A (call (.ref f) us) (EP X pins σ Q) X.xe s := by
  have hl : us.length = ps.length := r.length.symm.trans (G.len vs H Q E0 h)
  have bind := hb s us I.kIn (by rw [List.append_nil]; exact hl)
  rw [List.append_nil] at bind
  refine wpAny_call (codeAny_mono (G.run X.A X.stack s H ⟨us, []⟩ us vs Q gd room I.env0 bind r h) ?_)
  intro res s' hr
  match res, hr with
  | .ok (.ret u), hr => exact I.after hr
  | .ok .next, hr => exact False.elim hr
  | .ok .brk, hr => exact False.elim hr
  | .ok .cont, hr => exact False.elim hr
  | .error _, hr => exact False.elim hr
theorem FnG.pe (G : FnG X.prog X.w X.K X.mg X.base k f fd ps sp) (gd : X.A.guards = some []) (room : Room k X.A) (hb : L2.Binds X.K fd ps []) (hg : Gl X x) (hm : X.mg x = some (.ref f)) (kp : PySem.W.keepIn X.K (.ref f) = true)
    (ha : PA X (e :: es) t) (hdb : (x == ("__debug__" : Str)) = false) (hss : starEach (e :: es) X.env = (false, eval e X.env) :: starEach es X.env) (hpl : ((backTo pos (starEach es X.env)).any fun z => z.fst) = false) :
    PE X (.Call (.Name x p) (e :: es) [] pos) (fun σ H Q => t σ H fun vs H1 => sp vs H1 Q E0) := by
  constructor
  intro pins s σ H Q I h
  refine wpAny_Call_Name_kw (ld_glob I hg hm ?_ hdb)
  refine PySem.W.callWith_K (h₀ := X.base) I.ok.mod.kin kp (wpAny_mono (ha.run pos pins s σ H _ I h) ?_ fun _ _ z => z) hss hpl
  rintro us s1 ⟨vs, H1, I1, rv, q⟩
  exact ⟨I1.kIn, G.call_run gd room hb I1 rv q⟩
end
/-! ### the law's end -/
theorem law_end {P : Program} {w : World} {K : PySem.W.Frag} {mg mb : Str → Option Value} {k : Nat} {fa a : Addr} {fd : FuncData} {x : Str} {sp : Sp} {s1 : Shared} {vs : List Value} {ns : List Int}
    (inK : K.In s1.heap) (hns : s1.heap.Ns mainGlobals mg) (hbl : s1.heap.Ns builtinsNs mb) (hboot : ∀ x : Str, x ≠ "__name__" → mb x = bootBuiltins x) (nolim : s1.heap.NoLimit) (nogen : s1.gens = #[])
    (ha : s1.heap.get? a = some { cls := .type "list", data := .seq vs.toArray }) (hint : IntsAre vs ns) (hlen : ns.length ≤ sizeLine) (room : Room k callerA)
    (G : ∀ base : Heap, K.In base → base.Ns mainGlobals mg → FnG P w K mg base k fa fd [x] sp) (hbind : ∀ (s : Shared) (u : Value), BindsTo s fd ⟨[u], []⟩ [(x, u)])
    (hsp : ∀ H : Hp, (∀ b, H b = none ∨ ∃ o xs, H b = some (.frz o (.lst xs))) → SqL K H a (ns.map V.int) → sp [.ref a] H (fun v _ => v = .bl true) E0) :
    codeAny (model P w) callerA (.call (.ref fa) ⟨[.ref a], []⟩) (fun r s' => r = .ok (.ret (.bool true)) ∧ OldK s1.heap s'.heap ∧ s'.os = s1.os ∧ AllBare s'.gens) s1 := by
  -- the abstract heap: the script alone, where it is none of the module's own
  let H : Hp := fun b => if b = a ∧ K.lookup a = none then some (.frz { cls := .type "list", data := .seq vs.toArray } (.lst (ns.map V.int))) else none
  have Hcase : ∀ b, H b = none ∨ (b = a ∧ K.lookup a = none ∧ H b = some (.frz { cls := .type "list", data := .seq vs.toArray } (.lst (ns.map V.int)))) := by
    intro b
    by_cases c : b = a ∧ K.lookup a = none
    · exact Or.inr ⟨c.1, c.2, if_pos c⟩
    · exact Or.inl (if_neg c)
  have only : ∀ b, H b = none ∨ ∃ o xs, H b = some (.frz o (.lst xs)) := fun b => (Hcase b).imp id fun z => ⟨_, _, z.2.2⟩
  have rel : Vals (ns.map V.int) vs := vals_ints hint
  have hsq : SqL K H a (ns.map V.int) := by
    cases c : K.lookup a with
    | none => exact Or.inl (Or.inr ⟨_, if_pos ⟨rfl, c⟩⟩)
    | some o =>
      have z := inK a o c
      rw [ha] at z
      cases z
      exact Or.inr ⟨_, vs.toArray, _, c, rfl, rfl, rfl, (by rw [List.size_toArray, ← rel.length, List.length_map]; exact hlen), (by simpa using rel)⟩
  have hok : HOk P w H s1.heap := by
    intro b u z
    rcases Hcase b with q | ⟨e, _, q⟩
    · rw [q] at z; cases z
    · rw [q] at z
      cases z
      subst e
      exact ⟨ha, by rw [List.length_map]; exact hlen, vs, _, rel, ha⟩
  -- what is not the script stands in the base
  have keepB : ∀ {b : Addr} {o : Obj}, s1.heap.get? b = some o → H b = none → (hidT s1.heap H).get? b = some o := fun z n => hidT_get z n
  have nsB : ∀ {b : Addr} {m : Str → Option Value}, s1.heap.Ns b m → (hidT s1.heap H).Ns b m := by
    rintro b m ⟨o, es, ep, z, d, r⟩
    refine ⟨o, es, ep, keepB z ?_, d, r⟩
    rcases Hcase b with q | ⟨e, _, _⟩
    · exact q
    · rw [e, ha] at z
      cases z
      have d' : Data.seq vs.toArray _ = Data.dict es ep := d
      cases d'
  have inB : K.In (hidT s1.heap H) := by
    intro b o z
    refine keepB (inK b o z) ?_
    rcases Hcase b with q | ⟨e, c, _⟩
    · exact q
    · rw [e, c] at z; cases z
  have mod : Mod K mg (hidT s1.heap H) := ⟨inB, nsB hns, ⟨mb, nsB hbl, hboot⟩, let ⟨m, z1, z2⟩ := nolim; ⟨m, nsB z1, z2⟩⟩
  have env : Env0 P w K mg (hidT s1.heap H) callerA [] s1 H := by
    refine ⟨rfl, mod, fun b o z => of_hidT z, Nat.le_of_eq (hidT_size _ _), trivial, ?_, hok, .of_eq nogen⟩
    intro b z
    have z' : b ∈ ([] : List Addr) := z
    cases z'
  refine codeAny_mono ((G _ inB (nsB hns)).run callerA [] s1 H ⟨[.ref a], []⟩ [.ref a] [.ref a] _ rfl room env (hbind s1 (.ref a)) (.cons rfl .nil) (hsp H only hsq)) ?_
  intro res s' hr
  match res, hr with
  | .ok (.ret u), hr =>
    obtain ⟨v, H', os, bare, un, hok', rv, q⟩ := hr
    have q' : v = .bl true := q
    subst q'
    obtain rfl : u = Value.bool true := rv
    refine ⟨rfl, OldK.of_keep ?_, os, bare⟩
    intro b o z
    rcases Hcase b with c | ⟨e, _, c⟩
    · exact un.keep b o z c (fun y => by have y' : b ∈ ([] : List Addr) := y; cases y') (fun y => by cases y)
    · have c2 := un.frzs b _ _ c
      obtain ⟨e1, _⟩ := hok b _ c
      obtain ⟨e2, _⟩ := hok' b _ c2
      rw [z] at e1
      cases e1
      exact e2
  | .ok .next, hr => exact False.elim hr
  | .ok .brk, hr => exact False.elim hr
  | .ok .cont, hr => exact False.elim hr
  | .error _, hr => exact False.elim hr
theorem walk_end {l : PySem.W.OpenLaw} {n k : Nat} {q : Program} {loose : List Str} {XP : (Str → Option Value) → Heap → Prop} {YP : World → Heap → Prop} {d : DefRec} {K : Params → PySem.W.Frag} {sp : PySem.W.Frag → Sp} {x : Str}
    (hmost : l.most = some n) (hsmall : n ≤ sizeLine) (nodef : d.params.defaults = []) (room : Room k callerA) (hY : ∀ (w : World) (h : Heap), YP w h → (K w.params).In h)
    (G : ∀ (w : World) (mg : Str → Option Value) (fa : Addr) (h : Heap), (K w.params).In h → h.Ns mainGlobals mg → mg d.name = some (.ref fa) →
      ∃ fd : FuncData, (∀ (s : Shared) (u : Value), BindsTo s fd ⟨[u], []⟩ [(x, u)]) ∧ ∀ base : Heap, (K w.params).In base → base.Ns mainGlobals mg → FnG l.prog w (K w.params) mg base k fa fd [x] (sp (K w.params)))
    (hsp : ∀ (K : PySem.W.Frag) (H : Hp) (a : Addr) (ns : List Int), ns.length ≤ n → (∀ b, H b = none ∨ ∃ o xs, H b = some (.frz o (.lst xs))) → SqL K H a (ns.map V.int) → sp K [.ref a] H (fun v _ => v = .bl true) E0) :
    PySem.W.WalkO q loose XP YP l.row.toRowW d [] (fun f vs => PySem.call f vs) := by
  apply Att.attach_call hmost nodef
  intro w s0 s1 mg mb fa o pm cd doc a vs ns Gr Y _ _ _ hmg hobj hint hlen hgen
  obtain ⟨fd, hb, hG⟩ := G w mg fa _ (hY w _ Y) Gr.T.g hmg
  exact law_end (hY w _ Y) Gr.T.g Gr.T.b Gr.T.builtins Gr.T.nolimit hgen hobj hint (Nat.le_trans hlen hsmall) room hG hb fun H hO hS => hsp _ H a ns hlen hO hS
end Dl

namespace Dl
open PySem PySem.Spec PyProof.Rows L2

/-! ### defs that only read: the promise R, arguments to result -/
abbrev Rel := List PyData → PyData → Prop
def spPure (K : PySem.W.Frag) (R : Rel) : Sp := fun vs H Q _ => ∃ (S : Addr → Prop) (ds : List PyData) (d : PyData), (∀ b, S b → Lv H b) ∧ RepAll K S H vs ds ∧ R ds d ∧ ∀ v H', Same H H' → Rep K S H' v d → Q v H'
structure PFn (P : Program) (w : World) (K : PySem.W.Frag) (mg : Str → Option Value) (base : Heap) (lvl : Nat) (x : Str) (R : Rel) : Prop where
  ex : ∃ (fa : Addr) (fd : FuncData) (ps : List Str), FnG P w K mg base lvl fa fd ps (spPure K R) ∧ mg x = some (.ref fa) ∧ PySem.W.keepIn K (.ref fa) = true ∧ L2.Binds K fd ps []
def pureFm (K : PySem.W.Frag) (S : Addr → Prop) (H : Hp) : Fm := { K := K, S := S, M := fun _ => False, H0 := H, G := fun _ _ => True, ms := fun _ h => h.elim, gm := fun _ _ _ _ _ _ => trivial, gl := fun _ _ _ _ h => h.elim }
def bodyCs (P : Program) (w : World) (K : PySem.W.Frag) (mg : Str → Option Value) (base : Heap) (N : List Str) (sc : Scope) (lvl : Nat) : Cs := ⟨P, w, K, mg, base, N, sc, fun _ => true, lvl⟩
theorem fits_body {CX : CXT} {P : Program} {w : World} {K : PySem.W.Frag} {mg : Str → Option Value} {base : Heap} {N : List Str} {qual : Str} {sc : Scope} {f : Addr} {cd : Value} {A : Around} {outer : List Env} {s : Shared} {H : Hp} {E : XK} {k : Nat} (hgd : A.guards = some []) (hr : Room k (A.deeper (envOfC qual sc s.heap.objs.size f cd))) :
    Fits (bodyCs P w K mg base N sc k) (cxOf CX P w K mg base N qual sc f cd A outer s H E).nox := ⟨rfl, rfl, rfl, rfl, rfl, rfl, rfl, rfl, rfl, hr, rfl, hgd⟩
def startR (N : List Str) (ds : List PyData) : Rho := ds.map .d ++ List.replicate (N.length - ds.length) .un
theorem env_start {F : Fm} {H : Hp} {N : List Str} {vs : List V} {ds : List PyData} (r : RpAll F H vs ds) : EnvOk F H (start N vs) (startR N ds) := fun i sv e => by
  have hl := r.length
  unfold L2.start
  by_cases hi : i < ds.length
  · have e1 : (startR N ds)[i]? = some (.d ds[i]) := by
      unfold startR
      rw [List.getElem?_append_left (by simpa using hi), List.getElem?_map, List.getElem?_eq_getElem hi]; rfl
    rw [e1] at e
    cases e
    obtain ⟨v, hv, rv⟩ := r.get (List.getElem?_eq_getElem hi)
    refine ⟨some v, ?_, v, rfl, rv⟩
    rw [List.getElem?_append_left (by simpa [hl] using hi), List.getElem?_map, hv]; rfl
  · unfold startR at e
    rw [List.getElem?_append_right (by simpa using hi)] at e
    rw [List.getElem?_append_right (by simp; omega)]
    simp only [List.length_map] at e ⊢
    rw [List.getElem?_replicate] at e ⊢
    rw [hl]
    by_cases hj : i - ds.length < N.length - ds.length
    · rw [if_pos hj] at e ⊢
      cases e
      exact ⟨none, rfl, trivial⟩
    · rw [if_neg hj] at e; cases e
section
variable {P : Program} {w : World} {K : PySem.W.Frag} {mg : Str → Option Value} {base : Heap}
/-- a def that only reads keeps its promise -/
theorem pure_ok {x qual : Str} {st : Stmt} {f : Addr} {fd : FuncData} {N ps : List Str} {k : Nat} {R : Rel} (Fn : Fun K x qual st f fd) (Sc : FnScope N ps (defScope st)) (len : ∀ ds d, R ds d → ds.length = ps.length)
    (body : ∀ (F : Fm) (ds : List PyData) (d : PyData), F.K = K → R ds d → WPB F (bodyCs P w K mg base N (defScope st) k) (defBody st) (startR N ds) 0 { nx := fun _ _ => d = .none, rt := fun _ d' => d' = d, bk := fun _ _ => False, ct := fun _ _ => False }) :
    FnG P w K mg base (k + 1) f fd ps (spPure K R) := by
  refine FnG.of_body Fn Sc (fun vs H Q E h => ?_) (fun cdv A outer s H vs Q hgd hr h => ?_)
  · obtain ⟨S, ds, d, _, r, hR, _⟩ := h
    rw [RepAll.length r, len ds d hR]
  · obtain ⟨S, ds, d, al, r, hR, q⟩ := h
    refine ⟨_, pbB (fits_body hgd hr), ?_⟩
    refine body (pureFm K S H) ds d rfl hR (start N vs) H _ (env_start (F := pureFm K S H) r) ⟨trivial, fun b o _ e => e, al⟩ ?_ ?_ ?_ ?_
    · exact fun ρ' σ' k' H' _ _ j' e => q _ H' (fun b o h => j'.le b o (fun z => z.elim id id) h) (by rw [e]; exact .non)
    · exact fun v d' k' H' j' r' e => q v H' (fun b o h => j'.le b o (fun z => z.elim id id) h) (e ▸ r')
    · exact fun _ _ _ _ _ _ _ z => z.elim
    · exact fun _ _ _ _ _ _ _ z => z.elim
end
section
variable {F : Fm} {C : Cs} {ρ : Rho} {k : Nat} {Φ Φ' : Nat → PyData → Prop} {Ψ Ψ' : Nat → Bool → Prop} {e a b : Expr} {es : List Expr} {pos : Pos} {P : DE}
theorem pe_callF {x : Str} {p : Pos} {j : Nat} {fa : Addr} {fd : FuncData} {ps : List Str} {sp : Sp} {t : TA} {X : Cx} (fx : Fits C X) (G : FnG C.P C.w C.K C.mg C.base j fa fd ps sp) (hl : j ≤ C.lvl) (hg : C.sc.names.lookup x = some .globalImplicit) (hm : C.mg x = some (.ref fa)) (kp : PySem.W.keepIn C.K (.ref fa) = true) (hb : L2.Binds C.K fd ps [])
    (ha : PA X (e :: es) t) (hdb : (x == ("__debug__" : Str)) = false) (hss : ∀ env : Env, starEach (e :: es) env = (false, eval e env) :: starEach es env) (hpl : ∀ env : Env, ((backTo pos (starEach es env)).any fun x => x.fst) = false) : PE X (.Call (.Name x p) (e :: es) [] pos) (fun σ H Q => t σ H fun vs H1 => sp vs H1 Q E0) :=
  FnG.pe (by rw [fx.P, fx.w, fx.K, fx.mg, fx.base]; exact G) fx.gd (fx.room.mono hl) (by rw [fx.K]; exact hb) (by show X.env.scope.names.lookup x = _; rw [fx.sc]; exact hg) (by rw [fx.mg]; exact hm) (by rw [fx.K]; exact kp) ha hdb (hss X.env) (hpl X.env)
/-- a call of a def that only reads -/
theorem we_callP {x : Str} {R : Rel} {p : Pos} {j : Nat} (hF : PFn C.P C.w C.K C.mg C.base j x R) (hl : j ≤ C.lvl) (hK : F.K = C.K) (hg : C.sc.names.lookup x = some .globalImplicit)
    (h : WPA F C (e :: es) ρ k fun k1 ds => ∃ d, R ds d ∧ Φ k1 d) (hdb : (x == ("__debug__" : Str)) = false := by decide) (hss : ∀ env : Env, starEach (e :: es) env = (false, eval e env) :: starEach es env := by intro _; rfl) (hpl : ∀ env : Env, ((backTo pos (starEach es env)).any fun x => x.fst) = false := by intro _; rfl) :
    WPE F C (.Call (.Name x p) (e :: es) [] pos) ρ k Φ := by
  obtain ⟨fa, fd, ps, G, hm, kp, hb⟩ := hF.ex
  refine of_pe (fun X fx => pe_callF fx G hl hg hm kp hb (paA fx) hdb hss hpl) fun σ H Q en jj q => ?_
  refine h σ H _ en jj fun vs ds k1 H1 l1 j1 r1 ⟨d, hR, p⟩ => ?_
  refine ⟨F.S, ds, d, j1.al, hK ▸ r1, hR, fun v H' sm rv => ?_⟩
  have le : Le F H1 H' := fun b o _ e => sm b o e
  refine q v d k1 H' (l1.trans le) ⟨F.gm _ _ _ j1.g (fun b hb => ?_) (fun b o _ e => sm b o e), fun b o n e => sm b o (j1.le b o n e), fun b hb => (j1.al b hb).keep fun o e => sm b o e⟩ (by show Rep F.K F.S H' v d; rw [hK]; exact rv) p
  cases e : H1 b with
  | none => exact absurd e (F.gl _ _ j1.g b hb)
  | some o => exact sm b o e

/-! ### operations on data -/
theorem rd_II {g : Int → Int → Int} {i j : Int} (h : Φ k (.int (g i j))) : RD F (rI0 fun i j => .int (g i j)) (.int i) (.int j) k Φ := fun H vx vy Q jj rx ry q => by
  cases rx; cases ry; exact ⟨i, j, rfl, rfl, q _ _ k H .refl jj (.int _) h⟩
theorem rd_IB {g : Int → Int → Bool} {i j : Int} (h : Φ k (.bool (g i j))) : RD F (rI0 fun i j => .bl (g i j)) (.int i) (.int j) k Φ := fun H vx vy Q jj rx ry q => by
  cases rx; cases ry; exact ⟨i, j, rfl, rfl, q _ _ k H .refl jj (.bl _) h⟩
theorem rd_IC {c : Int → Int → Prop} {g : Int → Int → Int} {i j : Int} (hc : c i j) (h : Φ k (.int (g i j))) : RD F (rI c fun i j => .int (g i j)) (.int i) (.int j) k Φ := fun H vx vy Q jj rx ry q => by
  cases rx; cases ry; exact ⟨i, j, rfl, rfl, hc, q _ _ k H .refl jj (.int _) h⟩
theorem we_add (h : WPE F C a ρ k fun k1 x => WPE F C b ρ k1 fun k2 y => ∃ i j, x = .int i ∧ y = .int j ∧ Φ k2 (.int (i + j))) : WPE F C (.BinOp a .Add b pos) ρ k Φ :=
  we_bin (fun X _ => op_add) (h.imp fun k1 x h1 => h1.imp fun k2 y ⟨i, j, e1, e2, p⟩ => by subst e1 e2; exact rd_II p)
theorem we_sub (h : WPE F C a ρ k fun k1 x => WPE F C b ρ k1 fun k2 y => ∃ i j, x = .int i ∧ y = .int j ∧ Φ k2 (.int (i - j))) : WPE F C (.BinOp a .Sub b pos) ρ k Φ :=
  we_bin (fun X _ => op_sub) (h.imp fun k1 x h1 => h1.imp fun k2 y ⟨i, j, e1, e2, p⟩ => by subst e1 e2; exact rd_II p)
theorem we_fdiv (h : WPE F C a ρ k fun k1 x => WPE F C b ρ k1 fun k2 y => ∃ i j, x = .int i ∧ y = .int j ∧ (0 < j ∧ j < 1073741824) ∧ Φ k2 (.int (i / j))) : WPE F C (.BinOp a .FloorDiv b pos) ρ k Φ :=
  we_bin (fun X _ => op_fdiv) (h.imp fun k1 x h1 => h1.imp fun k2 y ⟨i, j, e1, e2, c, p⟩ => by subst e1 e2; exact rd_IC (c := CDiv) c p)
theorem we_mod (h : WPE F C a ρ k fun k1 x => WPE F C b ρ k1 fun k2 y => ∃ i j, x = .int i ∧ y = .int j ∧ 0 < j ∧ Φ k2 (.int (i % j))) : WPE F C (.BinOp a .Mod b pos) ρ k Φ :=
  we_bin (fun X _ => op_mod) (h.imp fun k1 x h1 => h1.imp fun k2 y ⟨i, j, e1, e2, c, p⟩ => by subst e1 e2; exact rd_IC c p)
theorem we_shl (h : WPE F C a ρ k fun k1 x => WPE F C b ρ k1 fun k2 y => ∃ i j, x = .int i ∧ y = .int j ∧ (0 ≤ j ∧ j ≤ 1000000 ∧ i.natAbs < 2 ^ 64) ∧ Φ k2 (.int (i * 2 ^ j.toNat))) : WPE F C (.BinOp a .LShift b pos) ρ k Φ :=
  we_bin (fun X _ => op_shl) (h.imp fun k1 x h1 => h1.imp fun k2 y ⟨i, j, e1, e2, c, p⟩ => by subst e1 e2; exact rd_IC (c := CPow) c p)
theorem we_shr (h : WPE F C a ρ k fun k1 x => WPE F C b ρ k1 fun k2 y => ∃ i j, x = .int i ∧ y = .int j ∧ 0 ≤ j ∧ Φ k2 (.int (i / 2 ^ j.toNat))) : WPE F C (.BinOp a .RShift b pos) ρ k Φ :=
  we_bin (fun X _ => op_shr) (h.imp fun k1 x h1 => h1.imp fun k2 y ⟨i, j, e1, e2, c, p⟩ => by subst e1 e2; exact rd_IC c p)
theorem we_band (h : WPE F C a ρ k fun k1 x => WPE F C b ρ k1 fun k2 y => ∃ i j, x = .int i ∧ y = .int j ∧ Φ k2 (.int (Builtin.bitAnd i j))) : WPE F C (.BinOp a .BitAnd b pos) ρ k Φ :=
  we_bin (fun X _ => op_and) (h.imp fun k1 x h1 => h1.imp fun k2 y ⟨i, j, e1, e2, p⟩ => by subst e1 e2; exact rd_II p)
theorem we_bxor (h : WPE F C a ρ k fun k1 x => WPE F C b ρ k1 fun k2 y => ∃ i j, x = .int i ∧ y = .int j ∧ Φ k2 (.int (Builtin.bitXor i j))) : WPE F C (.BinOp a .BitXor b pos) ρ k Φ :=
  we_bin (fun X _ => op_xor) (h.imp fun k1 x h1 => h1.imp fun k2 y ⟨i, j, e1, e2, p⟩ => by subst e1 e2; exact rd_II p)
theorem we_neg (h : WPE F C a ρ k fun k1 x => ∃ i, x = .int i ∧ Φ k1 (.int (-i))) : WPE F C (.UnaryOp .USub a pos) ρ k Φ :=
  of_pe (fun X fx => pe_un un_neg (peE fx)) fun σ H Q en j q => h σ H _ en j fun v d k1 H1 l1 j1 r ⟨i, e, p⟩ => by
    subst e; cases r; exact ⟨i, rfl, q _ _ k1 H1 l1 j1 (.int _) p⟩
/-- comparisons of ints, as values and as tests -/
abbrev I2 (F : Fm) (C : Cs) (a b : Expr) (ρ : Rho) (k : Nat) (Θ : Nat → Int → Int → Prop) : Prop := WPE F C a ρ k fun k1 x => WPE F C b ρ k1 fun k2 y => ∃ i j, x = .int i ∧ y = .int j ∧ Θ k2 i j
theorem wt_lt (h : I2 F C a b ρ k fun k i j => Ψ k (decide (i < j))) : WPT F C (.Compare a [.Lt] [b] pos) ρ k Ψ := wt_cmp (fun X _ => op_lt) (nomark _) (h.imp fun k1 x h1 => h1.imp fun k2 y ⟨i, j, e1, e2, p⟩ => by subst e1 e2; exact rd_IB (g := fun i j => decide (i < j)) ⟨_, rfl, p⟩)
theorem wt_le (h : I2 F C a b ρ k fun k i j => Ψ k (decide (i ≤ j))) : WPT F C (.Compare a [.LtE] [b] pos) ρ k Ψ := wt_cmp (fun X _ => op_le) (nomark _) (h.imp fun k1 x h1 => h1.imp fun k2 y ⟨i, j, e1, e2, p⟩ => by subst e1 e2; exact rd_IB (g := fun i j => decide (i ≤ j)) ⟨_, rfl, p⟩)
theorem wt_gt (h : I2 F C a b ρ k fun k i j => Ψ k (decide (j < i))) : WPT F C (.Compare a [.Gt] [b] pos) ρ k Ψ := wt_cmp (fun X _ => op_gt) (nomark _) (h.imp fun k1 x h1 => h1.imp fun k2 y ⟨i, j, e1, e2, p⟩ => by subst e1 e2; exact rd_IB (g := fun i j => decide (j < i)) ⟨_, rfl, p⟩)
/-- == and != of any data -/
theorem opEqK {X : Cx} (fx : Fits C X) : OpR X (compareOp .Eq) (rEqD C.K) := by rw [← fx.K]; exact op_eqD fx.room.units
theorem opNeK {X : Cx} (fx : Fits C X) : OpR X (compareOp .NotEq) (rNeD C.K) := by rw [← fx.K]; exact op_neD fx.room.units
theorem rd_eq {x y : PyData} (hK : F.K = C.K) (sx : SeqAt.shaped x = true) (sy : SeqAt.shaped y = true) (h : Φ k (.bool (PyData.eqv x y))) : RD F (rEqD C.K) x y k Φ := fun H vx vy Q j rx ry q =>
  ⟨x, y, hK ▸ Rep.dp x vx rx (nodict_sh sx), hK ▸ Rep.dp y vy ry (nodict_sh sy), sx, sy, q _ _ k H .refl j (.bl _) h⟩
theorem rd_nE {x y : PyData} (hK : F.K = C.K) (sx : SeqAt.shaped x = true) (sy : SeqAt.shaped y = true) (h : Φ k (.bool (!PyData.eqv x y))) : RD F (rNeD C.K) x y k Φ := fun H vx vy Q j rx ry q =>
  ⟨x, y, hK ▸ Rep.dp x vx rx (nodict_sh sx), hK ▸ Rep.dp y vy ry (nodict_sh sy), sx, sy, q _ _ k H .refl j (.bl _) h⟩
abbrev D2 (F : Fm) (C : Cs) (a b : Expr) (ρ : Rho) (k : Nat) (Θ : Nat → PyData → PyData → Prop) : Prop := WPE F C a ρ k fun k1 x => WPE F C b ρ k1 fun k2 y => SeqAt.shaped x = true ∧ SeqAt.shaped y = true ∧ Θ k2 x y
theorem we_eq (hK : F.K = C.K) (h : D2 F C a b ρ k fun k x y => Φ k (.bool (PyData.eqv x y))) : WPE F C (.Compare a [.Eq] [b] pos) ρ k Φ := we_cmp (fun X fx => opEqK fx) (nomark _) (h.imp fun k1 x h1 => h1.imp fun k2 y ⟨s1, s2, p⟩ => rd_eq hK s1 s2 p)
theorem wt_ne (hK : F.K = C.K) (h : D2 F C a b ρ k fun k x y => Ψ k (!PyData.eqv x y)) : WPT F C (.Compare a [.NotEq] [b] pos) ρ k Ψ := wt_cmp (fun X fx => opNeK fx) (nomark _) (h.imp fun k1 x h1 => h1.imp fun k2 y ⟨s1, s2, p⟩ => rd_nE hK s1 s2 ⟨_, rfl, p⟩)
/-- == of ints, of texts -/
theorem rd_eqS {x y : PyData} {c : Bool} (hx : ∀ H vx vy, Rp F H vx x → Rp F H vy y → scal vx vy = true ∧ decide (vx = vy) = c) (h : Φ k (.bool c)) : RD F rEq x y k Φ := fun H vx vy Q j rx ry q => by
  obtain ⟨h1, h2⟩ := hx H vx vy rx ry
  exact ⟨h1, by rw [h2]; exact q _ _ k H .refl j (.bl _) h⟩
theorem rd_neS {x y : PyData} {c : Bool} (hx : ∀ H vx vy, Rp F H vx x → Rp F H vy y → scal vx vy = true ∧ decide (vx = vy) = c) (h : Φ k (.bool (!c))) : RD F rNe x y k Φ := fun H vx vy Q j rx ry q => by
  obtain ⟨h1, h2⟩ := hx H vx vy rx ry
  exact ⟨h1, by rw [h2]; exact q _ _ k H .refl j (.bl _) h⟩
theorem scal_int {i j : Int} {H : Hp} {vx vy : V} (rx : Rp F H vx (.int i)) (ry : Rp F H vy (.int j)) : scal vx vy = true ∧ decide (vx = vy) = decide (i = j) := by
  cases rx; cases ry; exact ⟨rfl, by simp⟩
theorem scal_str {i j : Str} {H : Hp} {vx vy : V} (rx : Rp F H vx (.str i)) (ry : Rp F H vy (.str j)) : scal vx vy = true ∧ decide (vx = vy) = decide (i = j) := by
  cases rx; cases ry; exact ⟨rfl, by simp⟩
theorem wt_eqI (h : I2 F C a b ρ k fun k i j => Ψ k (decide (i = j))) : WPT F C (.Compare a [.Eq] [b] pos) ρ k Ψ := wt_cmp (fun X _ => op_eq) (nomark _) (h.imp fun k1 x h1 => h1.imp fun k2 y ⟨i, j, e1, e2, p⟩ => by subst e1 e2; exact rd_eqS (fun _ _ _ => scal_int) ⟨_, rfl, p⟩)
theorem wt_neI (h : I2 F C a b ρ k fun k i j => Ψ k (!decide (i = j))) : WPT F C (.Compare a [.NotEq] [b] pos) ρ k Ψ := wt_cmp (fun X _ => op_ne) (nomark _) (h.imp fun k1 x h1 => h1.imp fun k2 y ⟨i, j, e1, e2, p⟩ => by subst e1 e2; exact rd_neS (fun _ _ _ => scal_int) ⟨_, rfl, p⟩)
theorem we_eqI (h : I2 F C a b ρ k fun k i j => Φ k (.bool (decide (i = j)))) : WPE F C (.Compare a [.Eq] [b] pos) ρ k Φ := we_cmp (fun X _ => op_eq) (nomark _) (h.imp fun k1 x h1 => h1.imp fun k2 y ⟨i, j, e1, e2, p⟩ => by subst e1 e2; exact rd_eqS (fun _ _ _ => scal_int) p)
abbrev T2 (F : Fm) (C : Cs) (a b : Expr) (ρ : Rho) (k : Nat) (Θ : Nat → Str → Str → Prop) : Prop := WPE F C a ρ k fun k1 x => WPE F C b ρ k1 fun k2 y => ∃ i j, x = .str i ∧ y = .str j ∧ Θ k2 i j
theorem wt_eqT (h : T2 F C a b ρ k fun k i j => Ψ k (decide (i = j))) : WPT F C (.Compare a [.Eq] [b] pos) ρ k Ψ := wt_cmp (fun X _ => op_eq) (nomark _) (h.imp fun k1 x h1 => h1.imp fun k2 y ⟨i, j, e1, e2, p⟩ => by subst e1 e2; exact rd_eqS (fun _ _ _ => scal_str) ⟨_, rfl, p⟩)
theorem wt_neT (h : T2 F C a b ρ k fun k i j => Ψ k (!decide (i = j))) : WPT F C (.Compare a [.NotEq] [b] pos) ρ k Ψ := wt_cmp (fun X _ => op_ne) (nomark _) (h.imp fun k1 x h1 => h1.imp fun k2 y ⟨i, j, e1, e2, p⟩ => by subst e1 e2; exact rd_neS (fun _ _ _ => scal_str) ⟨_, rfl, p⟩)
theorem we_eqT (h : T2 F C a b ρ k fun k i j => Φ k (.bool (decide (i = j)))) : WPE F C (.Compare a [.Eq] [b] pos) ρ k Φ := we_cmp (fun X _ => op_eq) (nomark _) (h.imp fun k1 x h1 => h1.imp fun k2 y ⟨i, j, e1, e2, p⟩ => by subst e1 e2; exact rd_eqS (fun _ _ _ => scal_str) p)
end
end Dl

namespace Dl
open PySem PySem.Spec PyProof.Rows L2
section
variable {F : Fm} {C : Cs} {ρ : Rho} {k : Nat} {Φ Φ' : Nat → PyData → Prop} {Ψ Ψ' : Nat → Bool → Prop} {e a b : Expr} {es : List Expr} {pos : Pos} {P : DE}
/-! ### subscripts -/
theorem atI_some {α β : Type} {xs : List α} {ys : List β} (hl : xs.length = ys.length) {i : Int} {y : β} (h : atI ys i = some y) : ∃ j : Nat, ys[j]? = some y ∧ ∀ x, xs[j]? = some x → atI xs i = some x := by
  unfold atI at h ⊢
  rw [hl]
  cases e : ixN ys.length i with
  | none => rw [e] at h; cases h
  | some j => rw [e] at h; exact ⟨j, h, fun x hx => hx⟩
theorem ixK {X : Cx} (fx : Fits C X) : IxR X (rIx C.K) := by rw [← fx.K]; exact ix_seq
def ixD : PyData → PyData → Option PyData
  | .list ds, .int i => atI ds i
  | .tuple ds, .int i => atI ds i
  | _, _ => none
theorem we_ix (hK : F.K = C.K) (hs : PlainIx b) (h : WPE F C a ρ k fun k1 x => WPE F C b ρ k1 fun k2 y => ∃ d, ixD x y = some d ∧ Φ k2 d) : WPE F C (.Subscript a b pos) ρ k Φ :=
  of_pe (fun X fx => pe_ix (ixK fx) (peE fx) (peE fx) hs) (we_op (h.imp fun k1 x h1 => h1.imp fun k2 y ⟨d, e, p⟩ => fun H vx vy Q j rx ry q => by
    cases x with
    | list ds =>
      cases y with
      | int i =>
        cases rx with
        | @lst a xs _ ha hr =>
        cases ry
        obtain ⟨n, hn, hx⟩ := atI_some hr.length e
        obtain ⟨v, hv, rv⟩ := hr.get hn
        exact .inl ⟨a, xs, i, v, rfl, rfl, hK ▸ sql_of ha, hx v hv, q v d k2 H .refl j rv p⟩
      | _ => cases e
    | tuple ds =>
      cases y with
      | int i =>
        cases rx with
        | @tup a xs _ ha hr =>
        cases ry
        obtain ⟨n, hn, hx⟩ := atI_some hr.length e
        obtain ⟨v, hv, rv⟩ := hr.get hn
        exact .inr (.inl ⟨a, xs, i, v, rfl, rfl, hK ▸ sqt_of ha, hx v hv, q v d k2 H .refl j rv p⟩)
      | _ => cases e
    | _ => cases e))
/-! ### in, not in: flat things in a list or tuple of flat things -/
def flatD : PyData → Bool
  | .none | .bool _ | .int _ | .str _ => true
  | _ => false
theorem flat_rep {H : Hp} {v : V} {d : PyData} (r : Rp F H v d) (h : flatD d = true) : flatV v = true := by
  cases r <;> first | rfl | cases h
theorem flat_all {H : Hp} : ∀ {ds : List PyData} {vs : List V}, RpAll F H vs ds → ds.all flatD = true → vs.all flatV = true
  | [], _, r, _ => by cases r; rfl
  | d :: ds, _, r, h => by
    cases r with
    | cons r1 r2 =>
      rw [List.all_cons, Bool.and_eq_true] at h ⊢
      exact ⟨flat_rep r1 h.1, flat_all r2 h.2⟩
def seqD : PyData → Option (List PyData)
  | .list ds => some ds
  | .tuple ds => some ds
  | _ => none
theorem opInK {X : Cx} (fx : Fits C X) : OpR X (compareOp .In) (rIn C.K false) := by rw [← fx.K]; exact op_in_seq
theorem rd_in {neg : Bool} {x y : PyData} {ds : List PyData} {c : Bool} (hK : F.K = C.K) (hy : seqD y = some ds) (fx : flatD x = true) (fy : ds.all flatD = true) (hc : ∀ H vx vs, Rp F H vx x → RpAll F H vs ds → inV vx vs = c) (h : Φ k (.bool (if neg then !c else c))) : RD F (rIn C.K neg) x y k Φ := fun H vx vy Q j rx ry q => by
  cases ry with
  | @lst a xs _ ha hr => cases hy; exact ⟨a, xs, rfl, .inl (hK ▸ sql_of ha), flat_rep rx fx, flat_all hr fy, by rw [hc H vx xs rx hr]; exact q _ _ k H .refl j (.bl _) h⟩
  | @tup a xs _ ha hr => cases hy; exact ⟨a, xs, rfl, .inr (hK ▸ sqt_of ha), flat_rep rx fx, flat_all hr fy, by rw [hc H vx xs rx hr]; exact q _ _ k H .refl j (.bl _) h⟩
  | _ => cases hy
abbrev N2 (F : Fm) (C : Cs) (a b : Expr) (ρ : Rho) (k : Nat) (Θ : Nat → Int → List Int → Prop) : Prop := WPE F C a ρ k fun k1 x => WPE F C b ρ k1 fun k2 y => ∃ i ns, x = .int i ∧ seqD y = some (ns.map PyData.int) ∧ Θ k2 i ns
def isNone : PyData → Bool
  | .none => true
  | _ => false
theorem dec_non {H : Hp} {v : V} {d : PyData} (r : Rp F H v d) : decide (v = .non) = isNone d := by
  cases r <;> rfl
theorem we_isN {jj : Nat} {p' : Pos} (h : WPE F C a ρ k fun k1 x => Φ k1 (.bool (isNone x))) : WPE F C (.Compare a [.Is] [.Constant .none jj p'] pos) ρ k Φ :=
  of_pe (fun X fx => pe_cmp (pc_isN (peE fx)) rfl) fun σ H Q en j q => h σ H _ en j fun v d k1 H1 l1 j1 r p => by
    show Q (.bl (decide (v = .non))) H1
    rw [dec_non r]; exact q _ _ k1 H1 l1 j1 (.bl _) p
theorem wt_isN {jj : Nat} {p' : Pos} (h : WPE F C a ρ k fun k1 x => Ψ k1 (isNone x)) : WPT F C (.Compare a [.Is] [.Constant .none jj p'] pos) ρ k Ψ :=
  of_pt (fun X fx => pt_cmp (pc_isN (peE fx)) rfl) fun σ H Q en j q => h σ H _ en j fun v d k1 H1 l1 j1 r p => by
    refine ⟨isNone d, ?_, q _ k1 H1 l1 j1 p⟩
    rw [dec_non r]
/-! ### built-ins -/
theorem lenK {X : Cx} (fx : Fits C X) : CallR X (.builtin "len") (fun xs H Q => ∃ p ys, xs = [.ref p] ∧ (SqL C.K H p ys ∨ SqT C.K H p ys) ∧ Q (.int ys.length) H) := by rw [← fx.K]; exact call_len_seq
theorem tupK {X : Cx} (fx : Fits C X) : CallR X (.type "tuple") (fun xs H Q => ∃ p ys, xs = [.ref p] ∧ ((SqL C.K H p ys ∧ ∀ l, H l = none → Q (.ref l) (upd H l (.tup ys))) ∨ (SqT C.K H p ys ∧ Q (.ref p) H))) := by rw [← fx.K]; exact call_tuple_of
theorem sumK {X : Cx} (fx : Fits C X) : CallR X (.builtin "sum") (rSum C.K) := by rw [← fx.K]; exact cr_sum fx.calm
theorem srtK {X : Cx} (fx : Fits C X) : CallR X (.builtin "sorted") (rSortedI C.K) := by rw [← fx.K]; exact cr_sortedI
abbrev A1 (F : Fm) (C : Cs) (e : Expr) (ρ : Rho) (k : Nat) (Θ : Nat → PyData → Prop) : Prop := WPE F C e ρ k Θ
theorem wa_one {Θ : Nat → List PyData → Prop} (hs : ∀ env : Env, starEach [e] env = (false, eval e env) :: starEach [] env) (h : WPE F C e ρ k fun k1 x => Θ k1 [x]) : WPA F C [e] ρ k Θ := wa_cons hs (h.imp fun k1 x p => wa_nil p)
variable {p : Pos}
section
variable (hK : F.K = C.K)
include hK
theorem we_len (hg : C.sc.names.lookup ("len" : Str) = some .globalImplicit) (hm : C.mg ("len" : Str) = none) (hs : ∀ env : Env, starEach [e] env = (false, eval e env) :: starEach [] env) (h : WPE F C e ρ k fun k1 x => ∃ ds, seqD x = some ds ∧ Φ k1 (.int ds.length)) : WPE F C (.Call (.Name "len" p) [e] [] pos) ρ k Φ :=
  we_callB (fun X fx => lenK fx) hg hm boot_len (wa_one hs (h.imp fun k1 x ⟨ds, e, p⟩ => fun H vs Q j r q => by
    cases r with
    | cons r1 r2 =>
    cases r2
    cases r1 with
    | @lst a xs _ ha hr => cases e; exact ⟨a, xs, rfl, .inl (hK ▸ sql_of ha), by rw [hr.length]; exact q _ _ k1 H .refl j (.int _) p⟩
    | @tup a xs _ ha hr => cases e; exact ⟨a, xs, rfl, .inr (hK ▸ sqt_of ha), by rw [hr.length]; exact q _ _ k1 H .refl j (.int _) p⟩
    | _ => cases e)) (by decide) (by decide) hs
theorem we_tuple (hg : C.sc.names.lookup ("tuple" : Str) = some .globalImplicit) (hm : C.mg ("tuple" : Str) = none) (hs : ∀ env : Env, starEach [e] env = (false, eval e env) :: starEach [] env) (h : WPE F C e ρ k fun k1 x => ∃ ds, seqD x = some ds ∧ Φ k1 (.tuple ds)) : WPE F C (.Call (.Name "tuple" p) [e] [] pos) ρ k Φ :=
  we_callTy (T := "tuple") (fun X fx => tupK fx) hg hm (by decide +kernel) (wa_one hs (h.imp fun k1 x ⟨ds, e, p⟩ => fun H vs Q j r q => by
    cases r with
    | cons r1 r2 =>
    cases r2
    cases r1 with
    | @lst a xs _ ha hr => cases e; exact ⟨a, xs, rfl, .inl ⟨hK ▸ sql_of ha, fun l hl => q _ _ k1 _ (.new hl) (j.new hl) (rep_newT j hl hr) p⟩⟩
    | @tup a xs _ ha hr => cases e; exact ⟨a, xs, rfl, .inr ⟨hK ▸ sqt_of ha, q _ _ k1 H .refl j (.tup ha hr) p⟩⟩
    | _ => cases e)) (by decide) (by decide) hs
theorem we_sum (hg : C.sc.names.lookup ("sum" : Str) = some .globalImplicit) (hm : C.mg ("sum" : Str) = none) (hs : ∀ env : Env, starEach [e] env = (false, eval e env) :: starEach [] env) (h : WPE F C e ρ k fun k1 x => ∃ ns : List Int, x = .list (ns.map PyData.int) ∧ Φ k1 (.int ns.sum)) : WPE F C (.Call (.Name "sum" p) [e] [] pos) ρ k Φ :=
  we_callB (id := "sum") (fun X fx => sumK fx) hg hm (by decide +kernel) (wa_one hs (h.imp fun k1 x ⟨ns, e, p⟩ => fun H vs Q j r q => by
    subst e
    cases r with
    | cons r1 r2 =>
    cases r2
    cases r1 with
    | @lst a xs _ ha hr => exact ⟨a, ns, rfl, hr.ints ▸ hK ▸ sql_of ha, q _ _ k1 H .refl j (.int _) p⟩)) (by decide) (by decide) hs
theorem we_sorted (hg : C.sc.names.lookup ("sorted" : Str) = some .globalImplicit) (hm : C.mg ("sorted" : Str) = none) (hs : ∀ env : Env, starEach [e] env = (false, eval e env) :: starEach [] env) (h : WPE F C e ρ k fun k1 x => ∃ ns : List Int, x = .list (ns.map PyData.int) ∧ ∀ ms : List Int, ms.Perm ns → ms.Pairwise (· ≤ ·) → Φ k1 (.list (ms.map PyData.int))) : WPE F C (.Call (.Name "sorted" p) [e] [] pos) ρ k Φ :=
  we_callB (id := "sorted") (fun X fx => srtK fx) hg hm (by decide +kernel) (wa_one hs (h.imp fun k1 x ⟨ns, e, p⟩ => fun H vs Q j r q => by
    subst e
    cases r with
    | cons r1 r2 =>
    cases r2
    cases r1 with
    | @lst a xs _ ha hr => exact ⟨a, ns, rfl, hr.ints ▸ hK ▸ sql_of ha, fun ms l hp hw hl => q _ _ k1 _ (.new hl) (j.new hl) (rep_newL j hl (RepAll.of_ints ms)) (p ms hp hw)⟩)) (by decide) (by decide) hs
end
theorem we_intB (hg : C.sc.names.lookup ("int" : Str) = some .globalImplicit) (hm : C.mg ("int" : Str) = none) (hs : ∀ env : Env, starEach [e] env = (false, eval e env) :: starEach [] env) (h : WPE F C e ρ k fun k1 x => ∃ c : Bool, x = .bool c ∧ Φ k1 (.int (if c then 1 else 0))) : WPE F C (.Call (.Name "int" p) [e] [] pos) ρ k Φ :=
  we_callTy (T := "int") (fun X fx => call_int1) hg hm (by decide +kernel) (wa_one hs (h.imp fun k1 x ⟨i, e, p⟩ => fun H vs Q j r q => by
    subst e
    cases r with
    | cons r1 r2 =>
    cases r2
    cases r1
    exact .inr ⟨i, rfl, q _ _ k1 H .refl j (.int _) p⟩)) (by decide) (by decide) hs
end
end Dl

namespace Dl
open PySem PySem.Spec PyProof.Rows L2
theorem iteD {c A B : Prop} [Decidable c] (h1 : c → A) (h2 : ¬ c → B) : if decide c = true then A else B := by
  by_cases h : c
  · rw [decide_eq_true h, if_pos rfl]; exact h1 h
  · rw [decide_eq_false h, if_neg Bool.false_ne_true]; exact h2 h
theorem iteNe {α : Type} [DecidableEq α] {x y : α} {A B : Prop} (e : x = y) (h : B) : if (!decide (x = y)) = true then A else B := by
  rw [decide_eq_true e, if_neg (by decide)]; exact h
/-- 0, 1, .. below z -/
def rg (z : Int) : List Int := (List.range z.toNat).map fun (j : Nat) => (j : Int)
theorem mem_rg {z i : Int} : i ∈ rg z ↔ 0 ≤ i ∧ i < z := by
  unfold rg
  rw [List.mem_map]
  constructor
  · rintro ⟨j, hj, rfl⟩
    have := List.mem_range.mp hj
    omega
  · rintro ⟨h0, h1⟩
    exact ⟨i.toNat, List.mem_range.mpr (by omega), by omega⟩
theorem rg_length {z : Int} : (rg z).length = z.toNat := by unfold rg; simp
theorem rg_succ (j : Nat) : rg ((j : Int) + 1) = rg (j : Int) ++ [(j : Int)] := by
  unfold rg
  rw [show ((j : Int) + 1).toNat = j + 1 by omega, show (j : Int).toNat = j by omega, List.range_succ, List.map_append]; rfl
theorem rg_pairwise {z : Int} : (rg z).Pairwise (· < ·) := by
  unfold rg
  rw [List.pairwise_map]
  exact List.pairwise_lt_range.imp fun h => by omega
theorem take_next {α : Type} {xs : List α} {j : Nat} {x : α} (h : xs[j]? = some x) : xs.take (j + 1) = xs.take j ++ [x] := by
  rw [List.take_add_one, h]; rfl
section
variable {F : Fm} {C : Cs} {ρ : Rho} {k : Nat} {Φ : Nat → PyData → Prop} {P : DE} {pos spos : Pos} {elt iter : Expr} {scope : Scope} {α : Type}
theorem we_mL (ei : α → PyData) (g : α → PyData) (i : Nat) {x : Str} {px : Pos} (b : Blk C scope i x) (hK : F.K = C.K) (hfs : ∀ (env : Env) (v : Value), foldedSetIterable iter env v = pure v)
    (h : WPE F C iter ρ k fun k1 d => ∃ as : List α, d = .list (as.map ei) ∧ as.length ≤ 1000000 ∧ (∀ D (j : α), j ∈ as → WPE (F.ext D) (C.blk scope) elt (ρ.set i (.d (ei j))) k1 fun k3 y => k3 = k1 ∧ y = g j) ∧ Φ k1 (.list ((as).map g))) : WPE F C (.ListComp elt [⟨.Name x px, iter, [], 0⟩] scope pos) ρ k Φ := by
  refine we_compL0 i b hK hfs (h.imp fun k1 d hh => ?_)
  obtain ⟨as, e, hz, hb, hf⟩ := hh
  refine ⟨fun j k2 acc => k2 = k1 ∧ acc = (as.take j).map g, as.map ei, e, by rw [List.length_map]; exact hz, ⟨rfl, by simp⟩, ?_, ?_⟩
  · rintro D j y k2 acc hy ⟨rfl, rfl⟩
    rw [List.getElem?_map] at hy
    cases ha' : as[j]? with
    | none => rw [ha'] at hy; cases hy
    | some a' =>
    rw [ha'] at hy
    cases hy
    have tn := take_next ha'
    refine (hb D _ (List.mem_of_getElem? ha')).imp fun k4 y' ⟨e1, e2⟩ => ⟨e1, ?_⟩
    rw [tn, e2, List.map_append]; rfl
  · rintro k2 acc ⟨rfl, rfl⟩
    rw [List.length_map, List.take_length]; exact hf
theorem ws_mL (ei : α → PyData) (g : α → PyData) (i iy : Nat) {x y : Str} {px py : Pos} (b : Blk C scope i x) (ty : Tgt C iy y) (hyl : C.sc.names.lookup y = some .local) (hk : C.sc.kind = .function) (hl : (py.line == pos.line) = true) (ha : (scope.names.any fun (n, k) => n == y && (k == .local || k == .cell)) = false) (hK : F.K = C.K) (hfs : ∀ (env : Env) (v : Value), foldedSetIterable iter env v = pure v)
    (h : WPE F C iter ρ k fun k1 d => ∃ as : List α, d = .list (as.map ei) ∧ as.length ≤ 1000000 ∧ (∀ D (j : α), j ∈ as → WPE (F.ext D) (C.blk scope) elt (ρ.set i (.d (ei j))) k1 fun k3 y => k3 = k1 ∧ y = g j) ∧ P.nx k1 (ρ.set iy (.d (.list ((as).map g))))) : WPS F C (.Assign [.Name y py] (.ListComp elt [⟨.Name x px, iter, [], 0⟩] scope pos) spos) ρ k P := by
  refine ws_compL0 i iy b ty hyl hk hl ha hK hfs (h.imp fun k1 d hh => ?_)
  obtain ⟨as, e, hz, hb, hf⟩ := hh
  refine ⟨fun j k2 acc => k2 = k1 ∧ acc = (as.take j).map g, as.map ei, e, by rw [List.length_map]; exact hz, ⟨rfl, by simp⟩, ?_, ?_⟩
  · rintro D j y k2 acc hy ⟨rfl, rfl⟩
    rw [List.getElem?_map] at hy
    cases ha' : as[j]? with
    | none => rw [ha'] at hy; cases hy
    | some a' =>
    rw [ha'] at hy
    cases hy
    have tn := take_next ha'
    refine (hb D _ (List.mem_of_getElem? ha')).imp fun k4 y' ⟨e1, e2⟩ => ⟨e1, ?_⟩
    rw [tn, e2, List.map_append]; rfl
  · rintro k2 acc ⟨rfl, rfl⟩
    rw [List.length_map, List.take_length]; exact hf
theorem we_fL (p : α → Bool) (ei : α → PyData) (g : α → PyData) (i : Nat) {x : Str} {px : Pos} {c : Expr} (b : Blk C scope i x) (hK : F.K = C.K) (hfs : ∀ (env : Env) (v : Value), foldedSetIterable iter env v = pure v)
    (h : WPE F C iter ρ k fun k1 d => ∃ as : List α, d = .list (as.map ei) ∧ as.length ≤ 1000000 ∧ (∀ D (j : α), j ∈ as → WPT (F.ext D) (C.blk scope) c (ρ.set i (.d (ei j))) k1 fun k2 b => k2 = k1 ∧ b = p j ∧ (b = true → WPE (F.ext D) (C.blk scope) elt (ρ.set i (.d (ei j))) k1 fun k3 y => k3 = k1 ∧ y = g j)) ∧ Φ k1 (.list (((as).filter p).map g))) : WPE F C (.ListComp elt [⟨.Name x px, iter, [c], 0⟩] scope pos) ρ k Φ := by
  refine we_compL1 i b hK hfs (h.imp fun k1 d hh => ?_)
  obtain ⟨as, e, hz, hb, hf⟩ := hh
  refine ⟨fun j k2 acc => k2 = k1 ∧ acc = ((as.take j).filter p).map g, as.map ei, e, by rw [List.length_map]; exact hz, ⟨rfl, by simp⟩, ?_, ?_⟩
  · rintro D j y k2 acc hy ⟨rfl, rfl⟩
    rw [List.getElem?_map] at hy
    cases ha' : as[j]? with
    | none => rw [ha'] at hy; cases hy
    | some a' =>
    rw [ha'] at hy
    cases hy
    have tn := take_next ha'
    refine (hb D _ (List.mem_of_getElem? ha')).imp fun k3 c' hc => ?_
    obtain ⟨rfl, ec, hel⟩ := hc
    cases c' with
    | true =>
      rw [if_pos rfl]
      refine (hel rfl).imp fun k4 y' ⟨e1, e2⟩ => ⟨e1, ?_⟩
      rw [tn, List.filter_append, List.map_append, e2, List.filter_cons, if_pos ec.symm]; rfl
    | false =>
      rw [if_neg Bool.false_ne_true]
      refine ⟨rfl, ?_⟩
      rw [tn, List.filter_append, List.map_append, List.filter_cons, if_neg (by rw [← ec]; exact Bool.false_ne_true)]; simp
  · rintro k2 acc ⟨rfl, rfl⟩
    rw [List.length_map, List.take_length]; exact hf
theorem ws_fL (p : α → Bool) (ei : α → PyData) (g : α → PyData) (i iy : Nat) {x y : Str} {px py : Pos} {c : Expr} (b : Blk C scope i x) (ty : Tgt C iy y) (hyl : C.sc.names.lookup y = some .local) (hk : C.sc.kind = .function) (hl : (py.line == pos.line) = true) (ha : (scope.names.any fun (n, k) => n == y && (k == .local || k == .cell)) = false) (hK : F.K = C.K) (hfs : ∀ (env : Env) (v : Value), foldedSetIterable iter env v = pure v)
    (h : WPE F C iter ρ k fun k1 d => ∃ as : List α, d = .list (as.map ei) ∧ as.length ≤ 1000000 ∧ (∀ D (j : α), j ∈ as → WPT (F.ext D) (C.blk scope) c (ρ.set i (.d (ei j))) k1 fun k2 b => k2 = k1 ∧ b = p j ∧ (b = true → WPE (F.ext D) (C.blk scope) elt (ρ.set i (.d (ei j))) k1 fun k3 y => k3 = k1 ∧ y = g j)) ∧ P.nx k1 (ρ.set iy (.d (.list (((as).filter p).map g))))) : WPS F C (.Assign [.Name y py] (.ListComp elt [⟨.Name x px, iter, [c], 0⟩] scope pos) spos) ρ k P := by
  refine ws_compL1 i iy b ty hyl hk hl ha hK hfs (h.imp fun k1 d hh => ?_)
  obtain ⟨as, e, hz, hb, hf⟩ := hh
  refine ⟨fun j k2 acc => k2 = k1 ∧ acc = ((as.take j).filter p).map g, as.map ei, e, by rw [List.length_map]; exact hz, ⟨rfl, by simp⟩, ?_, ?_⟩
  · rintro D j y k2 acc hy ⟨rfl, rfl⟩
    rw [List.getElem?_map] at hy
    cases ha' : as[j]? with
    | none => rw [ha'] at hy; cases hy
    | some a' =>
    rw [ha'] at hy
    cases hy
    have tn := take_next ha'
    refine (hb D _ (List.mem_of_getElem? ha')).imp fun k3 c' hc => ?_
    obtain ⟨rfl, ec, hel⟩ := hc
    cases c' with
    | true =>
      rw [if_pos rfl]
      refine (hel rfl).imp fun k4 y' ⟨e1, e2⟩ => ⟨e1, ?_⟩
      rw [tn, List.filter_append, List.map_append, e2, List.filter_cons, if_pos ec.symm]; rfl
    | false =>
      rw [if_neg Bool.false_ne_true]
      refine ⟨rfl, ?_⟩
      rw [tn, List.filter_append, List.map_append, List.filter_cons, if_neg (by rw [← ec]; exact Bool.false_ne_true)]; simp
  · rintro k2 acc ⟨rfl, rfl⟩
    rw [List.length_map, List.take_length]; exact hf
theorem we_mT (ei : α → PyData) (g : α → PyData) (i : Nat) {x : Str} {px : Pos} (b : Blk C scope i x) (hK : F.K = C.K) (hfs : ∀ (env : Env) (v : Value), foldedSetIterable iter env v = pure v)
    (h : WPE F C iter ρ k fun k1 d => ∃ as : List α, d = .tuple (as.map ei) ∧ as.length ≤ 1000000 ∧ (∀ D (j : α), j ∈ as → WPE (F.ext D) (C.blk scope) elt (ρ.set i (.d (ei j))) k1 fun k3 y => k3 = k1 ∧ y = g j) ∧ Φ k1 (.list ((as).map g))) : WPE F C (.ListComp elt [⟨.Name x px, iter, [], 0⟩] scope pos) ρ k Φ := by
  refine we_compT0 i b hK hfs (h.imp fun k1 d hh => ?_)
  obtain ⟨as, e, hz, hb, hf⟩ := hh
  refine ⟨fun j k2 acc => k2 = k1 ∧ acc = (as.take j).map g, as.map ei, e, by rw [List.length_map]; exact hz, ⟨rfl, by simp⟩, ?_, ?_⟩
  · rintro D j y k2 acc hy ⟨rfl, rfl⟩
    rw [List.getElem?_map] at hy
    cases ha' : as[j]? with
    | none => rw [ha'] at hy; cases hy
    | some a' =>
    rw [ha'] at hy
    cases hy
    have tn := take_next ha'
    refine (hb D _ (List.mem_of_getElem? ha')).imp fun k4 y' ⟨e1, e2⟩ => ⟨e1, ?_⟩
    rw [tn, e2, List.map_append]; rfl
  · rintro k2 acc ⟨rfl, rfl⟩
    rw [List.length_map, List.take_length]; exact hf
theorem we_mR (g : Int → PyData) (i : Nat) {x : Str} {px : Pos} (b : Blk C scope i x) {e : Expr} {pr pr2 : Pos} (hg : C.sc.names.lookup ("range" : Str) = some .globalImplicit) (hm : C.mg ("range" : Str) = none) (hse : ∀ env : Env, starEach [e] env = [(false, eval e env)]) (hfs : ∀ (env : Env) (v : Value), foldedSetIterable (.Call (.Name "range" pr) [e] [] pr2) env v = pure v)
    (h : WPE F C e ρ k fun k1 d => ∃ z : Int, d = .int z ∧ -(2 ^ 62) ≤ z ∧ z ≤ 1000000 ∧ (∀ D (j : Int), 0 ≤ j → j < z → WPE (F.ext D) (C.blk scope) elt (ρ.set i (.d (.int j))) k1 fun k3 y => k3 = k1 ∧ y = g j) ∧ Φ k1 (.list ((rg z).map g))) : WPE F C (.ListComp elt [⟨.Name x px, (.Call (.Name "range" pr) [e] [] pr2), [], 0⟩] scope pos) ρ k Φ := by
  refine we_compR0 i b hg hm hse hfs (h.imp fun k1 d hh => ?_)
  obtain ⟨z, e, z1, z2, hb, hf⟩ := hh
  refine ⟨fun j k2 acc => k2 = k1 ∧ acc = (rg (j : Int)).map g, z, e, z1, z2, ⟨rfl, rfl⟩, ?_, ?_⟩
  · rintro D j k2 acc hj ⟨rfl, rfl⟩
    have tn : rg ((j + 1 : Nat) : Int) = rg (j : Int) ++ [(j : Int)] := by rw [show ((j + 1 : Nat) : Int) = (j : Int) + 1 by omega, rg_succ]
    refine (hb D _ (by omega) (by omega)).imp fun k4 y' ⟨e1, e2⟩ => ⟨e1, ?_⟩
    rw [tn, e2, List.map_append]; rfl
  · rintro k2 acc ⟨rfl, rfl⟩
    have ez : rg ((z.toNat : Nat) : Int) = rg z := by unfold rg; congr 2
    rw [ez]; exact hf
theorem we_fR (p : Int → Bool) (g : Int → PyData) (i : Nat) {x : Str} {px : Pos} {c : Expr} (b : Blk C scope i x) {e : Expr} {pr pr2 : Pos} (hg : C.sc.names.lookup ("range" : Str) = some .globalImplicit) (hm : C.mg ("range" : Str) = none) (hse : ∀ env : Env, starEach [e] env = [(false, eval e env)]) (hfs : ∀ (env : Env) (v : Value), foldedSetIterable (.Call (.Name "range" pr) [e] [] pr2) env v = pure v)
    (h : WPE F C e ρ k fun k1 d => ∃ z : Int, d = .int z ∧ -(2 ^ 62) ≤ z ∧ z ≤ 1000000 ∧ (∀ D (j : Int), 0 ≤ j → j < z → WPT (F.ext D) (C.blk scope) c (ρ.set i (.d (.int j))) k1 fun k2 b => k2 = k1 ∧ b = p j ∧ (b = true → WPE (F.ext D) (C.blk scope) elt (ρ.set i (.d (.int j))) k1 fun k3 y => k3 = k1 ∧ y = g j)) ∧ Φ k1 (.list (((rg z).filter p).map g))) : WPE F C (.ListComp elt [⟨.Name x px, (.Call (.Name "range" pr) [e] [] pr2), [c], 0⟩] scope pos) ρ k Φ := by
  refine we_compR1 i b hg hm hse hfs (h.imp fun k1 d hh => ?_)
  obtain ⟨z, e, z1, z2, hb, hf⟩ := hh
  refine ⟨fun j k2 acc => k2 = k1 ∧ acc = ((rg (j : Int)).filter p).map g, z, e, z1, z2, ⟨rfl, rfl⟩, ?_, ?_⟩
  · rintro D j k2 acc hj ⟨rfl, rfl⟩
    have tn : rg ((j + 1 : Nat) : Int) = rg (j : Int) ++ [(j : Int)] := by rw [show ((j + 1 : Nat) : Int) = (j : Int) + 1 by omega, rg_succ]
    refine (hb D _ (by omega) (by omega)).imp fun k3 c' hc => ?_
    obtain ⟨rfl, ec, hel⟩ := hc
    cases c' with
    | true =>
      rw [if_pos rfl]
      refine (hel rfl).imp fun k4 y' ⟨e1, e2⟩ => ⟨e1, ?_⟩
      rw [tn, List.filter_append, List.map_append, e2, List.filter_cons, if_pos ec.symm]; rfl
    | false =>
      rw [if_neg Bool.false_ne_true]
      refine ⟨rfl, ?_⟩
      rw [tn, List.filter_append, List.map_append, List.filter_cons, if_neg (by rw [← ec]; exact Bool.false_ne_true)]; simp
  · rintro k2 acc ⟨rfl, rfl⟩
    have ez : rg ((z.toNat : Nat) : Int) = rg z := by unfold rg; congr 2
    rw [ez]; exact hf
end
end Dl

namespace Dl
open PySem PySem.Spec PyProof.Rows L2
/-! ### the laws' draws: a list [cells, count, rests] -/
def DkM (st a r : Addr) (b : Addr) : Prop := b = st ∨ b = a ∨ b = r
def DkG (st a r : Addr) (k : Nat) (H : Hp) : Prop := ∃ (cells rests : List Int) (n : Int), H st = some (.lst [.ref a, .int n, .ref r]) ∧ H a = some (.lst (cells.map V.int)) ∧ H r = some (.lst (rests.map V.int)) ∧
  cells.length = rests.length ∧ 0 < cells.length ∧ 0 ≤ n ∧ n + k ≤ 1000000
theorem DkG.weak {st a r : Addr} {k k' : Nat} {H : Hp} (h : DkG st a r k H) (hk : k' ≤ k) : DkG st a r k' H := by
  obtain ⟨c, rs, n, h1, h2, h3, h4, h5, h6, h7⟩ := h
  exact ⟨c, rs, n, h1, h2, h3, h4, h5, h6, by omega⟩
theorem DkG.at {st a r : Addr} {k : Nat} {H H' : Hp} (h : DkG st a r k H) (e : ∀ b, DkM st a r b → H' b = H b) : DkG st a r k H' := by
  obtain ⟨c, rs, n, h1, h2, h3, h4⟩ := h
  exact ⟨c, rs, n, (e st (.inl rfl)).trans h1, (e a (.inr (.inl rfl))).trans h2, (e r (.inr (.inr rfl))).trans h3, h4⟩
theorem DkG.live {st a r : Addr} {k : Nat} {H : Hp} (h : DkG st a r k H) (b : Addr) (hb : DkM st a r b) : H b ≠ none := by
  obtain ⟨c, rs, n, h1, h2, h3, h4⟩ := h
  rcases hb with rfl | rfl | rfl
  · rw [h1]; exact fun z => nomatch z
  · rw [h2]; exact fun z => nomatch z
  · rw [h3]; exact fun z => nomatch z
theorem DkG.lv {st a r : Addr} {k : Nat} {H : Hp} (h : DkG st a r k H) (b : Addr) (hb : DkM st a r b) : Lv H b := by
  obtain ⟨c, rs, n, h1, h2, h3, h4⟩ := h
  rcases hb with rfl | rfl | rfl
  · exact lv_lst h1
  · exact lv_lst h2
  · exact lv_lst h3
def dkFm (K : PySem.W.Frag) (S : Addr → Prop) (H : Hp) (st a r : Addr) : Fm where
  K := K
  S := fun b => S b ∨ DkM st a r b
  M := DkM st a r
  H0 := H
  G := DkG st a r
  ms := fun b h => .inr h
  gm := fun k H H' g e _ => g.at e
  gl := fun k H g b hb => g.live b hb
/-- the frame knows the draws -/
structure IsDk (F : Fm) (st a r : Addr) : Prop where
  M : F.M = DkM st a r
  G : F.G = DkG st a r
theorem IsDk.ext {F : Fm} {st a r : Addr} (h : IsDk F st a r) (D : Addr) : IsDk (F.ext D) st a r := ⟨h.M, h.G⟩
/-- a def that draws: at most `cost` draws; Pre of its data, R what it may hand back -/
def spDraw (K : PySem.W.Frag) (cost : Nat) (Pre : List PyData → Prop) (R : Rel) : Sp := fun vs H Q _ => ∃ (S : Addr → Prop) (st a r : Addr) (vs' : List V) (ds : List PyData) (k : Nat), vs = .ref st :: vs' ∧ DkG st a r (k + cost) H ∧ (∀ b, S b → Lv H b) ∧ (∀ b, DkM st a r b → S b) ∧ RepAll K S H vs' ds ∧ Pre ds ∧
  ∀ v d H', (∀ b o, ¬ DkM st a r b → H b = some o → H' b = some o) → DkG st a r k H' → Rep K S H' v d → R ds d → Q v H'
structure DFn (P : Program) (w : World) (K : PySem.W.Frag) (mg : Str → Option Value) (base : Heap) (lvl : Nat) (x : Str) (cost : Nat) (Pre : List PyData → Prop) (R : Rel) : Prop where
  ex : ∃ (fa : Addr) (fd : FuncData) (ps : List Str), FnG P w K mg base lvl fa fd ps (spDraw K cost Pre R) ∧ mg x = some (.ref fa) ∧ PySem.W.keepIn K (.ref fa) = true ∧ L2.Binds K fd ps []
section
variable {P : Program} {w : World} {K : PySem.W.Frag} {mg : Str → Option Value} {base : Heap}
theorem env_raw {F : Fm} {H : Hp} {N : List Str} {v : V} {vs : List V} {ds : List PyData} (r : RpAll F H vs ds) : EnvOk F H (L2.start N (v :: vs)) (.raw v :: (ds.map SV.d ++ List.replicate (N.length - (ds.length + 1)) SV.un)) := fun i sv e => by
  have hl := r.length
  unfold L2.start
  cases i with
  | zero => cases e; exact ⟨some v, rfl, rfl⟩
  | succ i =>
    have e' : (ds.map SV.d ++ List.replicate (N.length - (ds.length + 1)) SV.un)[i]? = some sv := e
    show ∃ x, ((vs.map some) ++ List.replicate (N.length - (vs.length + 1)) none)[i]? = some x ∧ SlotOk F H sv x
    by_cases hi : i < ds.length
    · rw [List.getElem?_append_left (by simpa using hi), List.getElem?_map, List.getElem?_eq_getElem hi] at e'
      cases e'
      obtain ⟨u, hu, ru⟩ := r.get (List.getElem?_eq_getElem hi)
      refine ⟨some u, ?_, u, rfl, ru⟩
      rw [List.getElem?_append_left (by simpa [hl] using hi), List.getElem?_map, hu]; rfl
    · rw [List.getElem?_append_right (by simpa using hi)] at e'
      rw [List.getElem?_append_right (by simp; omega)]
      simp only [List.length_map] at e' ⊢
      rw [List.getElem?_replicate] at e' ⊢
      rw [hl]
      by_cases hj : i - ds.length < N.length - (ds.length + 1)
      · rw [if_pos hj] at e' ⊢
        cases e'
        exact ⟨none, rfl, trivial⟩
      · rw [if_neg hj] at e'; cases e'
def drawFm (K : PySem.W.Frag) (S : Addr → Prop) (H : Hp) (st a r : Addr) (hS : ∀ b, DkM st a r b → S b) : Fm where
  K := K
  S := S
  M := DkM st a r
  H0 := H
  G := DkG st a r
  ms := hS
  gm := fun k H H' g e _ => g.at e
  gl := fun k H g b hb => g.live b hb
end
section
variable {F : Fm} {C : Cs} {ρ : Rho} {k : Nat} {Φ : Nat → PyData → Prop} {es : List Expr} {pos p py : Pos} {x y : Str}
end
end Dl

namespace Dl
open PySem PySem.Spec PyProof.Rows L2
/-! ### data whose repr is within the line -/
structure Fine (n dp : Nat) (d : PyData) : Prop where
  sh : d.showable = true
  nd : d.hasDict = false
  dp : d.depth ≤ dp
  sz : d.shown.length ≤ n
theorem Fine.ok {n dp : Nat} {d : PyData} (h : Fine n dp d) (hn : n ≤ 16000000 := by decide) (hd : dp ≤ 60 := by decide) : d.showable = true ∧ d.hasDict = false ∧ d.depth ≤ 60 ∧ d.shown.length ≤ sizeLine :=
  ⟨h.sh, h.nd, Nat.le_trans h.dp hd, Nat.le_trans h.sz (Nat.le_trans hn (by decide))⟩
theorem Fine.mono {n n' dp dp' : Nat} {d : PyData} (h : Fine n dp d) (hn : n ≤ n') (hd : dp ≤ dp') : Fine n' dp' d := ⟨h.sh, h.nd, Nat.le_trans h.dp hd, Nat.le_trans h.sz hn⟩
theorem fine_int {i : Int} (h : i.natAbs < 10 ^ 30) : Fine 31 0 (.int i) := by
  refine ⟨?_, by simp only [PyData.hasDict], by simp only [PyData.depth]; exact Nat.le_refl _, ?_⟩
  · simp only [PyData.showable, decide_eq_true_eq]
    by_cases h0 : i.natAbs = 0
    · rw [h0]; decide
    · exact (Nat.log2_lt h0).mpr (Nat.lt_trans h (by decide +kernel))
  · simp only [PyData.shown]
    rw [PySem.ofString_length]
    exact int_text_length_le10 (by decide) h
section
variable {n dp : Nat}
theorem fine_all : ∀ {ds : List PyData}, (∀ d ∈ ds, Fine n dp d) → PyData.showableAll ds = true ∧ PyData.hasDictAll ds = false ∧ PyData.depthAll ds ≤ dp ∧ ((PyData.shownAll ds).map (·.length)).sum ≤ ds.length * n ∧ (PyData.shownAll ds).length = ds.length
  | [], _ => by simp [PyData.showableAll, PyData.hasDictAll, PyData.depthAll, PyData.shownAll]
  | d :: ds, h => by
    obtain ⟨h1, h2, h3, h4, h5⟩ := fine_all (ds := ds) fun d hd => h d (List.mem_cons_of_mem _ hd)
    have f := h d List.mem_cons_self
    have := f.dp
    have := f.sz
    refine ⟨by simp only [PyData.showableAll, f.sh, h1, Bool.and_self], by simp only [PyData.hasDictAll, f.nd, h2, Bool.or_self], by simp only [PyData.depthAll]; omega, ?_, by simp only [PyData.shownAll, List.length_cons, h5]⟩
    simp only [PyData.shownAll, List.map_cons, List.sum_cons, List.length_cons, Nat.succ_mul]
    omega
theorem fine_tuple {ds : List PyData} {L : Nat} (h : ∀ d ∈ ds, Fine n dp d) (hl : ds.length ≤ L) : Fine (L * (n + 2) + 3) (dp + 1) (.tuple ds) := by
  obtain ⟨h1, h2, h3, h4, h5⟩ := fine_all h
  refine ⟨by simp only [PyData.showable, h1], by simp only [PyData.hasDict, h2], by simp only [PyData.depth]; omega, ?_⟩
  simp only [PyData.shown]
  refine Nat.le_trans (tupleText_len_le _) ?_
  rw [h5, Nat.mul_add]
  have : ds.length * n ≤ L * n := Nat.mul_le_mul_right n hl
  omega
end
theorem fine_ints {ns : List Int} {L : Nat} (h : ∀ i ∈ ns, i.natAbs < 10 ^ 30) (hl : ns.length ≤ L) : Fine (L * 33 + 3) 1 (.tuple (ns.map PyData.int)) :=
  fine_tuple (n := 31) (dp := 0) (fun d hd => by obtain ⟨i, hi, rfl⟩ := List.mem_map.mp hd; exact fine_int (h i hi)) (by rw [List.length_map]; exact hl)
/-! ### the law's own end, where its first statement makes the draws -/
def spDraws (K : PySem.W.Frag) : Sp := fun vs H Q _ => ∃ (sc : Addr) (ns : List Int), vs = [.ref sc] ∧ SqL K H sc (ns.map V.int) ∧ ns.length ≤ 63 ∧
  ∀ H' st a r, Same H H' → H st = none → H a = none → H r = none → DkG st a r 900000 H' → Q (.ref st) H'
def spLaw (K : PySem.W.Frag) : Sp := fun vs H Q _ => ∃ (sc : Addr) (ns : List Int), vs = [.ref sc] ∧ SqL K H sc (ns.map V.int) ∧ ns.length ≤ 63 ∧ ∀ H', Q (.bl true) H'
section
variable {P : Program} {w : World} {K : PySem.W.Frag} {mg : Str → Option Value} {base : Heap}
end
end Dl

namespace Dl
open PySem PySem.Spec PyProof.Rows L2
/-! ### a list of the def's own, that grows -/
def plainB : SV → Bool
  | .own _ _ => false
  | _ => true
theorem noOwn_of {ρ : Rho} {i : Nat} (h : (ρ.set i .un).all plainB = true) (j : Nat) (o : Addr) (xs : List PyData) (hj : j ≠ i) (e : ρ[j]? = some (.own o xs)) : False := by
  have e' : (ρ.set i .un)[j]? = some (.own o xs) := by rw [List.getElem?_set_ne (Ne.symm hj)]; exact e
  have := List.all_eq_true.mp h _ (List.mem_of_getElem? e')
  cases this
section
variable {F : Fm} {C : Cs} {ρ : Rho} {k : Nat} {P : DE} {Φ : Nat → PyData → Prop} {pos p px p2 ap cp : Pos} {x : Str} {rest : List Stmt} {e : Expr}
theorem EnvOk.own {H : Hp} {σ : L2.St} {i : Nat} {o : Addr} {xs : List PyData} (en : EnvOk F H σ ρ) (e : ρ[i]? = some (.own o xs)) : σ[i]? = some (some (.ref o)) ∧ F.S o ∧ ¬ F.M o ∧ F.H0 o = none ∧ ∃ vs, H o = some (.lst vs) ∧ RpAll F H vs xs := by
  obtain ⟨y, q, h1, h2⟩ := en i _ e
  exact ⟨by rw [q, h1], h2⟩
/-- the own list becomes another one -/
theorem EnvOk.ownSet {H : Hp} {σ : L2.St} {i : Nat} {o : Addr} {xs ys : List PyData} {ws : List V} (en : EnvOk F H σ ρ) (e : ρ[i]? = some (.own o xs)) (hno : (ρ.set i .un).all plainB = true) (r : RpAll F H ws ys) : EnvOk F (upd H o (.lst ws)) σ (ρ.set i (.own o ys)) := by
  obtain ⟨hσ, hS, hM, h0, vs, hv, rv⟩ := en.own e
  have lz : ∀ b u, ¬ F.S b → H b = some u → (upd H o (.lst ws)) b = some u := fun b u hb z => by rw [upd_ne (show b ≠ o from fun y => hb (y ▸ hS))]; exact z
  intro j sv ej
  by_cases hj : i = j
  · subst hj
    have hl : i < ρ.length := (List.getElem?_eq_some_iff.mp e).1
    rw [List.getElem?_set_self hl] at ej
    cases ej
    exact ⟨_, hσ, rfl, hS, hM, h0, ws, upd_same, RepAll.keep lz (fun _ _ z => z) _ _ r⟩
  · rw [List.getElem?_set_ne hj] at ej
    obtain ⟨y, q, s⟩ := en j sv ej
    refine ⟨y, q, ?_⟩
    cases sv with
    | un => trivial
    | d d => obtain ⟨v, z, r⟩ := s; exact ⟨v, z, Rep.keep lz (fun _ _ z => z) _ _ r⟩
    | raw v => exact s
    | own o' xs' => exact (noOwn_of hno j o' xs' (Ne.symm hj) ej).elim
theorem ws_append (i : Nat) {o : Addr} {xs : List PyData} (hN : C.N[i]? = some x) (hv : Vis C.sc x) (hr : ρ[i]? = some (.own o xs)) (hno : (ρ.set i .un).all plainB = true) (hz : xs.length ≤ 1000000)
    (hse : ∀ env : Env, starEach [e] env = (false, eval e env) :: starEach [] env) (h : WPE F C e ρ k fun k1 d => P.nx k1 (ρ.set i (.own o (xs ++ [d]))))
    (hsw : ∀ env : Env, swapsWith (.Call (.Attribute (.Name x px) "append" ap) [e] [] cp) none pos.line env = pure false) (hd : (x == ("__debug__" : Str)) = false := by decide) (hcd : (x == ("__classdict__" : Str)) = false := by decide)
    (hbm : ∀ X : Cx, ∀ {to : TE} {t : TA}, PE X (.Name x px) to → PA X [e] t → PE X (.Call (.Attribute (.Name x px) "append" ap) [e] [] cp) (tBM X.K "list" rAppend to t) := by exact fun X {to t} h1 h2 => pe_bm PySem.F.plainAttrs_list PySem.F.slot_list_append PySem.F.type_list_append mt_append h1 h2) :
    WPS F C (.Expr (.Call (.Attribute (.Name x px) "append" ap) [e] [] cp) pos) ρ k P :=
  of_ps (t := tDrop (tBM C.K "list" rAppend (tVar i) (tCons (tE C e) tNil))) (fun X fx => ps_expr (by rw [← fx.K]; exact hbm X (pe_var (by rw [fx.N]; exact hN) (by rw [fx.sc]; exact hv) hd hcd) (pa_cons (peE fx) pa_nil (hse X.env))) (hsw X.env)) fun σ H E en j q1 q2 q3 q4 => by
    obtain ⟨hσ, hS, hM, h0, vs, hv', rv⟩ := en.own hr
    refine ⟨_, hσ, .inl ⟨rfl, _, SqL.of hv'⟩, ?_⟩
    show tE C e σ H _
    refine h σ H _ en j fun v d k1 H1 l1 j1 r1 p => ?_
    have hv1 : H1 o = some (.lst vs) := l1 o _ (Fm.mxA hM) hv'
    refine ⟨o, vs, v, rfl, rfl, hv1, ?_, ?_⟩
    · rw [rv.length]; exact Nat.lt_of_le_of_lt hz (by decide)
    · refine q1 _ σ k1 _ ?_ ((en.le l1).ownSet hr hno ((rv.le l1.lz).append (.cons r1 .nil))) (j1.own hM h0 (pl_lst (l1 o _ (Fm.mxA hM) hv'))) p
      exact fun b u hb z => by rw [upd_ne (show b ≠ o from fun y => hb (.inl (y ▸ hS)))]; exact l1.lz b u hb z
/-- tuple(x), x the own list -/
theorem we_tupOwn (i : Nat) {o : Addr} {xs : List PyData} (hK : F.K = C.K) (hN : C.N[i]? = some x) (hv : Vis C.sc x) (hr : ρ[i]? = some (.own o xs)) (hg : C.sc.names.lookup ("tuple" : Str) = some .globalImplicit) (hm : C.mg ("tuple" : Str) = none)
    (h : Φ k (.tuple xs)) (hd : (x == ("__debug__" : Str)) = false := by decide) (hcd : (x == ("__classdict__" : Str)) = false := by decide) (hse : ∀ env : Env, starEach [.Name x px] env = (false, eval (.Name x px) env) :: starEach [] env := by intro _; rfl) : WPE F C (.Call (.Name "tuple" p) [.Name x px] [] pos) ρ k Φ :=
  of_pe (fun X fx => pe_callTy (tupK fx) (by show X.env.scope.names.lookup ("tuple" : Str) = _; rw [fx.sc]; exact hg) (by rw [fx.mg]; exact hm) (by decide +kernel) (pa_cons (pe_var (i := i) (by rw [fx.N]; exact hN) (by rw [fx.sc]; exact hv) hd hcd) pa_nil (hse X.env)) (by decide) (by decide) (hse X.env) rfl) fun σ H Q en j q => by
    obtain ⟨hσ, hS, hM, h0, vs, hv', rv⟩ := en.own hr
    refine ⟨_, hσ, o, vs, rfl, .inl ⟨SqL.of hv', fun l hl => ?_⟩⟩
    exact q _ (.tuple xs) k _ (.new hl) (j.new hl) (rep_newT j hl rv) h
/-- eqv with an empty list or tuple -/
theorem eqv_nilL (ds : List PyData) : PyData.eqv (.list ds) (.list []) = ds.isEmpty := by cases ds <;> simp [PyData.eqv, PyData.eqvAll]
theorem lay_ints : ∀ ns : List Int, PyData.canLayAll0 (ns.map PyData.int) = true ∧ PyData.depthAll (ns.map PyData.int) = 0
  | [] => ⟨by simp [PyData.canLayAll0], by simp [PyData.depthAll]⟩
  | n :: ns => by
    obtain ⟨h1, h2⟩ := lay_ints ns
    exact ⟨by simp [PyData.canLayAll0, PyData.canLay0, h1], by simp [PyData.depthAll, PyData.depth, h2]⟩
theorem shaped_intsL (ns : List Int) : SeqAt.shaped (.list (ns.map PyData.int)) = true := by
  obtain ⟨h1, h2⟩ := lay_ints ns
  simp [SeqAt.shaped, PyData.canLay0, PyData.depth, h1, h2]
end
end Dl

namespace Dl
open PySem PySem.Spec PyProof.Rows L2
section
variable {F : Fm} {C : Cs} {ρ : Rho} {k : Nat} {P : DE} {Φ : Nat → PyData → Prop} {Ψ : Nat → Bool → Prop} {pos p p1 p2 p3 p4 pr pr2 : Pos} {x : Str} {rest : List Stmt} {e a b : Expr}
theorem rgV_rg (z : Int) : rgV 0 z = (rg z).map V.int := by
  unfold rgV rg
  rw [List.map_map, Int.sub_zero]
  apply List.map_congr_left
  intro i _
  show V.int (0 + (i : Int)) = V.int (i : Int)
  rw [Int.zero_add]
/-- list(range(z)), tuple(range(z)) -/
theorem we_listRg (hg : C.sc.names.lookup ("list" : Str) = some .globalImplicit) (hm : C.mg ("list" : Str) = none) (hg2 : C.sc.names.lookup ("range" : Str) = some .globalImplicit) (hm2 : C.mg ("range" : Str) = none)
    (hs : ∀ env : Env, starEach [a] env = (false, eval a env) :: starEach [] env) (hs2 : ∀ env : Env, starEach [.Call (.Name "range" pr) [a] [] pr2] env = (false, eval (.Call (.Name "range" pr) [a] [] pr2) env) :: starEach [] env)
    (h : WPE F C a ρ k fun k1 d => ∃ z : Int, d = .int z ∧ (0 ≤ z ∧ z ≤ 16777216) ∧ Φ k1 (.list ((rg z).map PyData.int))) : WPE F C (.Call (.Name "list" p) [.Call (.Name "range" pr) [a] [] pr2] [] pos) ρ k Φ :=
  of_pe (fun X fx => pe_listRg fx.calm (by show X.env.scope.names.lookup ("list" : Str) = _; rw [fx.sc]; exact hg) (by rw [fx.mg]; exact hm) (prg_1 (by show X.env.scope.names.lookup ("range" : Str) = _; rw [fx.sc]; exact hg2) (by rw [fx.mg]; exact hm2) (peE fx) (hs X.env)) (hs2 X.env)) fun σ H Q en j q => by
    show tE C a σ H _
    refine h σ H _ en j fun v d k1 H1 l1 j1 r ⟨z, e, hz, p⟩ => ?_
    subst e
    cases r
    refine ⟨z, rfl, RgOk.of_le (by decide) hz.2 (by decide) hz.1, fun l hl => ?_⟩
    rw [rgV_rg]
    exact q _ _ k1 _ (l1.trans (.new hl)) (j1.new hl) (rep_newL j1 hl (RepAll.of_ints _)) p
theorem we_tupRg (hg : C.sc.names.lookup ("tuple" : Str) = some .globalImplicit) (hm : C.mg ("tuple" : Str) = none) (hg2 : C.sc.names.lookup ("range" : Str) = some .globalImplicit) (hm2 : C.mg ("range" : Str) = none)
    (hs : ∀ env : Env, starEach [a] env = (false, eval a env) :: starEach [] env) (hs2 : ∀ env : Env, starEach [.Call (.Name "range" pr) [a] [] pr2] env = (false, eval (.Call (.Name "range" pr) [a] [] pr2) env) :: starEach [] env)
    (h : WPE F C a ρ k fun k1 d => ∃ z : Int, d = .int z ∧ (0 ≤ z ∧ z ≤ 16777216) ∧ Φ k1 (.tuple ((rg z).map PyData.int))) : WPE F C (.Call (.Name "tuple" p) [.Call (.Name "range" pr) [a] [] pr2] [] pos) ρ k Φ :=
  of_pe (fun X fx => pe_tupRg fx.calm (by show X.env.scope.names.lookup ("tuple" : Str) = _; rw [fx.sc]; exact hg) (by rw [fx.mg]; exact hm) (prg_1 (by show X.env.scope.names.lookup ("range" : Str) = _; rw [fx.sc]; exact hg2) (by rw [fx.mg]; exact hm2) (peE fx) (hs X.env)) (hs2 X.env)) fun σ H Q en j q => by
    show tE C a σ H _
    refine h σ H _ en j fun v d k1 H1 l1 j1 r ⟨z, e, hz, p⟩ => ?_
    subst e
    cases r
    refine ⟨z, rfl, RgOk.of_le (by decide) hz.2 (by decide) hz.1, fun l hl => ?_⟩
    rw [rgV_rg]
    exact q _ _ k1 _ (l1.trans (.new hl)) (j1.new hl) (rep_newT j1 hl (RepAll.of_ints _)) p
/-- a, b = a tuple, the scope known -/
theorem ws_asg2s (i1 i2 : Nat) {x1 x2 : Str} {kk : Nat} (hne : i1 ≠ i2) (t1 : Tgt C i1 x1) (t2 : Tgt C i2 x2) (hK : F.K = C.K)
    (hs : ∀ env : Env, env.scope = C.sc → swapsWithSole [.Tuple [.Name x1 p1, .Name x2 p2] kk p3] e pos.line env = pure false) (hw : ∀ env : Env, env.scope = C.sc → swappedStores [.Tuple [.Name x1 p1, .Name x2 p2] kk p3] e env = pure none)
    (h : WPE F C e ρ k fun k1 d => ∃ d1 d2, d = .tuple [d1, d2] ∧ P.nx k1 ((ρ.set i1 (.d d1)).set i2 (.d d2))) : WPS F C (.Assign [.Tuple [.Name x1 p1, .Name x2 p2] kk p3] e pos) ρ k P :=
  of_ps (fun X fx => ps_asg (peE fx) (pgTup (n := 2) fx (pgs_cons (t1.pg fx) (pgs_cons (t2.pg fx) pgs_nil)) (by rfl) (by rfl)) (hs X.env fx.sc) (hw X.env fx.sc)) fun σ H E en j q1 _ _ _ =>
    h σ H _ en j fun v d k1 H1 l1 j1 r ⟨d1, d2, e, p⟩ => by
      subst e
      cases r with
      | tup ha hr =>
        cases hr with
        | cons r1 hr =>
          cases hr with
          | cons r2 hr =>
            cases hr
            exact ⟨_, _, rfl, hK ▸ sqt_of ha, rfl, _, _, rfl, _, _, rfl, rfl, q1 _ _ k1 H1 l1.lz (((en.le l1).set (sv := .d d1) ⟨_, rfl, r1⟩).set (sv := .d d2) ⟨_, rfl, r2⟩) j1 p⟩
/-- a part of the state's slots is forgotten -/
def Forget : Rho → Rho → Prop
  | [], [] => True
  | x :: xs, y :: ys => (y = .un ∨ y = x) ∧ Forget xs ys
  | _, _ => False
theorem Forget.env : ∀ {H : Hp} {σ : L2.St} {ρ ρ' : Rho}, EnvOk F H σ ρ → Forget ρ ρ' → EnvOk F H σ ρ' := by
  intro H σ ρ ρ' en fo i sv e
  have key : ∀ (ρ ρ' : Rho), Forget ρ ρ' → ∀ (i : Nat) sv, ρ'[i]? = some sv → ∃ sv', ρ[i]? = some sv' ∧ (sv = .un ∨ sv = sv') := by
    intro ρ
    induction ρ with
    | nil => intro ρ' f i sv e; cases ρ' with
      | nil => simp at e
      | cons y ys => cases f
    | cons x xs ih => intro ρ' f i sv e; cases ρ' with
      | nil => cases f
      | cons y ys =>
        cases i with
        | zero => cases e; exact ⟨x, rfl, f.1⟩
        | succ i => exact ih ys f.2 i sv e
  obtain ⟨sv', e', h⟩ := key ρ ρ' fo i sv e
  obtain ⟨x, q, s⟩ := en i sv' e'
  rcases h with rfl | rfl
  · exact ⟨x, q, trivial⟩
  · exact ⟨x, q, s⟩
end
end Dl
namespace Dl
open PySem PySem.Spec PyProof.Rows L2
section
variable {F : Fm} {C : Cs} {ρ : Rho} {k : Nat} {P : DE} {st : Stmt} {rest : List Stmt}
end
end Dl
namespace Dl
open PySem PySem.Spec PyProof.Rows L2
section
variable {F : Fm} {C : Cs} {ρ : Rho} {k : Nat} {Φ : Nat → PyData → Prop} {pos p2 : Pos} {a b e : Expr}
/-- xs + ys, lists -/
theorem we_cat (h : WPE F C a ρ k fun k1 x => WPE F C b ρ k1 fun k2 y => ∃ ds es, x = .list ds ∧ y = .list es ∧ ds.length + es.length ≤ 1000000 ∧ Φ k2 (.list (ds ++ es))) : WPE F C (.BinOp a .Add b pos) ρ k Φ :=
  we_bin (fun X _ => op_cat) (h.imp fun k1 x h1 => h1.imp fun k2 y ⟨ds, es, e1, e2, hz, p⟩ => by
    subst e1 e2
    intro H vx vy Q j rx ry q
    cases rx with
    | @lst a xs _ ha hr =>
    cases ry with
    | @lst b ys _ hb hs =>
    refine ⟨a, b, xs, ys, rfl, rfl, ha.1, hb.1, ?_, fun l hl => q _ _ k2 _ (.new hl) (j.new hl) (rep_newL j hl (hr.append hs)) p⟩
    rw [hr.length, hs.length]; exact Nat.le_trans hz (by decide))
theorem slLK {X : Cx} (fx : Fits C X) : SlR X (rSlL C.K) := by rw [← fx.K]; exact sl_list
end
end Dl
namespace Dl
open PySem PySem.Spec PyProof.Rows L2
section
variable {F : Fm} {C : Cs} {ρ : Rho} {k : Nat} {Φ : Nat → PyData → Prop} {pos p2 : Pos} {a b e : Expr}
end
end Dl

namespace Dl
open PySem PySem.Spec PyProof.Rows L2
/-! ### set(xs), xs a list of ints -/
abbrev nso (w : World) : Obj := ⟨.type "set", none, .set #[] 0 (.fresh 0 0 (!w.params.followText "set-order")), #[]⟩
abbrev GotSet (w : World) (s : Shared) (ns : List Int) (r : Value) (s2 : Shared) : Prop :=
  r = .none ∧ ∃ h' tk c, s2 = { s with heap := h', toks := tk } ∧ SetR w h' s.heap.objs.size (fun j => decide (j ∈ ns)) c ∧ c ≤ ns.length ∧ ∀ b o, s.heap.get? b = some o → h'.get? b = some o
section
variable {P : Program} {w : World} {A : Around} {E : Value → Shared → Prop} {s : Shared}
set_option maxHeartbeats 3200000 in
end
/-- .. over the layer -/
def rSetL (K : PySem.W.Frag) (w : World) : List V → Hp → VK → Prop := fun vs H Q => ∃ (a : Addr) (ns : List Int), vs = [.ref a] ∧ SqL K H a (ns.map V.int) ∧ ns.length ≤ 1000 ∧
  ∀ p c, H p = none → c ≤ ns.length → Q (.ref p) (upd H p (SetO w p (fun j => decide (j ∈ ns)) c))
section
variable {F : Fm} {C : Cs} {ρ : Rho} {k : Nat} {Φ : Nat → PyData → Prop} {pos p1 p2 p3 : Pos} {e : Expr}
end
end Dl

namespace Dl
open PySem PySem.Spec PyProof.Rows L2
/-! ### a comprehension of two clauses: over a tuple, then over a list made for each item -/
theorem wipe2 {i i1 : Nat} {x : V} (hne : i ≠ i1) (σ : L2.St) : (wipe σ [i, i1]).set i (some x) = (σ.set i1 none).set i (some x) := by
  show ((σ.set i1 none).set i none).set i (some x) = _
  rw [List.set_set]
theorem wipe2' {i i1 : Nat} {x : V} (hne : i ≠ i1) (σ : L2.St) : wipe ((σ.set i1 none).set i (some x)) [i, i1] = wipe σ [i, i1] := by
  show (((σ.set i1 none).set i (some x)).set i1 none).set i none = (σ.set i1 none).set i none
  rw [List.set_comm _ _ hne, List.set_set, List.set_set]
section
variable {F : Fm} {C : Cs} {ρ : Rho} {k : Nat} {Φ : Nat → PyData → Prop} {α β : Type} {Cb : Cs} {iter1 elt : Expr} {tl : TE} {K : PySem.W.Frag}
end
end Dl
namespace Dl
open PySem PySem.Spec PyProof.Rows L2
section
variable {F : Fm} {C : Cs} {ρ : Rho} {k : Nat} {P : DE} {Φ : Nat → PyData → Prop} {pos p px p2 ap cp : Pos} {x : Str} {e : Expr}
end
end Dl

namespace Dl
open PySem PySem.Spec PyProof.Rows L2
/-! ### sorted(x), x the own list of pairs of ints -/
def prD (p : Int × Int) : PyData := .tuple [.int p.1, .int p.2]
def pairAt (H : Hp) : V → Int × Int
  | .ref t => match H t with
    | some (.tup [.int a, .int b]) => (a, b)
    | _ => (0, 0)
  | _ => (0, 0)
section
variable {F : Fm} {C : Cs} {ρ : Rho} {k : Nat} {Φ : Nat → PyData → Prop} {pos p px : Pos} {x : Str}
end
end Dl

namespace Dl
open PySem PySem.Spec PyProof.Rows L2
/-! ### the comprehension of two clauses, given to a name -/
structure Blk2 (C : Cs) (scope : Scope) (i : Nat) (x : Str) (i1 : Nat) (x1 : Str) : Prop where
  ok : BlkOk C.N C.sc scope [(x, i), (x1, i1)]
  t : Tgt (C.blk scope) i x
  t1 : Tgt (C.blk scope) i1 x1
section
variable {F : Fm} {C : Cs} {ρ : Rho} {k : Nat} {Φ : Nat → PyData → Prop} {P : DE} {pos spos : Pos} {elt iter iter1 : Expr} {scope : Scope} {x x1 y : Str} {px px1 py : Pos} {α β : Type}
end
end Dl

namespace Dl
open PySem PySem.Spec PyProof.Rows L2
section
variable {F : Fm} {C : Cs} {ρ : Rho} {k : Nat} {Φ : Nat → PyData → Prop} {P : DE} {pos apos px p2 ap cp : Pos} {o e : Expr} {x : Str} {rest : List Stmt}
/-! ### i.bit_length() -/
/-! ### x = [c] * e, the def's own list -/
end
end Dl
namespace Dl
open PySem PySem.Spec PyProof.Rows L2
section
variable {F : Fm} {C : Cs} {ρ : Rho} {k : Nat} {Φ : Nat → PyData → Prop} {P : DE} {pos apos px px2 p2 ap cp spos : Pos} {o e ie : Expr} {x : Str} {rest : List Stmt}
/-! ### x[i], x the own list -/
theorem ixlK {X : Cx} (fx : Fits C X) : IxR X (rIxL C.K) := by rw [← fx.K]; exact ix_list
/-! ### x[i] = v, x the own list -/
/-! ### x.count(i), a list of ints -/
end
end Dl
namespace Dl
open PySem PySem.Spec PyProof.Rows L2
/-! ### [.. for a, b in a tuple of pairs] -/
theorem wipe3 {i i1 : Nat} {a b : V} (hne : i ≠ i1) (σ : L2.St) : ((wipe σ [i, i1]).set i (some a)).set i1 (some b) = (σ.set i (some a)).set i1 (some b) := by
  show (((σ.set i1 none).set i none).set i (some a)).set i1 (some b) = _
  rw [List.set_set, List.set_comm _ _ (Ne.symm hne), List.set_set]
theorem wipe3' {i i1 : Nat} {a b : V} (hne : i ≠ i1) (σ : L2.St) : wipe ((σ.set i (some a)).set i1 (some b)) [i, i1] = wipe σ [i, i1] := by
  show ((((σ.set i (some a)).set i1 (some b)).set i1 none).set i none) = (σ.set i1 none).set i none
  rw [List.set_set, List.set_comm _ _ hne, List.set_set]
section
variable {F : Fm} {C : Cs} {ρ : Rho} {k : Nat} {Φ : Nat → PyData → Prop} {P : DE} {pos spos : Pos} {elt iter : Expr} {scope : Scope} {x x1 y : Str} {px px1 py p3 : Pos} {kk : Nat} {α : Type}
end
end Dl

namespace Dl
open PySem PySem.Spec PyProof.Rows L2
/-! ### sorted(a set of hii), any number of members -/
section
variable {P : Program} {w : World} {A : Around} {E : Value → Shared → Prop} {s : Shared} {a : Addr}
end
def rSortSetA (w : World) : List V → Hp → VK → Prop := fun vs H Q => ∃ (a : Addr) (S : Int → Bool) (n : Nat), vs = [V.ref a] ∧ H a = some (SetO w a S n) ∧
  ∀ (ms : List Int) (p : Addr), ms.Pairwise (· < ·) → (∀ i : Int, i ∈ ms ↔ S i = true) → ms.length = n → H p = none → Q (.ref p) (upd H p (.lst (ms.map V.int)))
/-! ### {elt for x in iter if ..}, elt an int -/
section
variable {X : Cx}
def tSci (w : World) (wi : TI) (g : TG) (tt : TT) (te : TE) (vs : List Nat) : TE := fun σ H Q => wi σ H fun J H1 => ∀ D, H1 D = none →
  ∃ W : Nat → Nat → Hp → Prop, (∃ m, W 0 m (upd H1 D (SetO w D (fun _ => false) 0))) ∧ ∀ i m H, W i m H → (J.stop i H ∧ Q (.ref D) H) ∨
    (J.go i H ∧ ∃ Nx : Hp → Prop, (∀ H', Nx H' → ∃ m', m' < m ∧ W (i + 1) m' H') ∧ ∀ x H', J.yld i H x H' → g x (wipe σ vs) H' fun σ2 H2 => wipe σ2 vs = wipe σ vs ∧ tt σ2 H2 fun b H3 =>
      if b = true then te σ2 H3 fun y H4 => ∃ (c : Int) (S : Int → Bool) (n : Nat), y = .int c ∧ H4 D = some (SetO w D S n) ∧ n + 1 < scanBound ∧ Nx (upd H4 D (SetO w D (fun j => S j || decide (j = c)) (if S c = true then n else n + 1))) else Nx H3)
set_option maxHeartbeats 4000000 in
end

/-! ### .. over data -/
section
variable {F : Fm} {C : Cs} {ρ : Rho} {k : Nat} {Φ : Nat → PyData → Prop} {pos p1 p2 p3 px : Pos} {elt iter e : Expr} {scope : Scope} {x : Str} {α : Type}
end

/-! ### len(set(xs)) -/
def rLenSetO (w : World) : List V → Hp → VK → Prop := fun vs H Q => ∃ (a : Addr) (S : Int → Bool) (n : Nat), vs = [V.ref a] ∧ H a = some (SetO w a S n) ∧ ∀ ks : List Int, ks.Nodup → (∀ z, z ∈ ks ↔ S z = true) → ks.length = n → Q (.int (n : Nat)) H
section
variable {F : Fm} {C : Cs} {ρ : Rho} {k : Nat} {Φ : Nat → PyData → Prop} {pos p1 p2 p3 px : Pos} {e : Expr}
end
/-! ### small steps that a walk takes by itself -/
section
variable {a b c d e f g h : PyData} {p : Prop}
theorem tl0 (h : p) : ([] : List PyData).length ≤ sizeLine ∧ p := ⟨Nat.zero_le _, h⟩
theorem tl1 (h : p) : [a].length ≤ sizeLine ∧ p := ⟨by show 1 ≤ sizeLine; decide, h⟩
theorem tl2 (h : p) : [a, b].length ≤ sizeLine ∧ p := ⟨by show 2 ≤ sizeLine; decide, h⟩
theorem tl3 (h : p) : [a, b, c].length ≤ sizeLine ∧ p := ⟨by show 3 ≤ sizeLine; decide, h⟩
theorem ii2 {i j : Int} {Θ : Int → Int → Prop} (h : Θ i j) : ∃ x y, PyData.int i = .int x ∧ PyData.int j = .int y ∧ Θ x y := ⟨i, j, rfl, rfl, h⟩
theorem ss2 {i j : Str} {Θ : Str → Str → Prop} (h : Θ i j) : ∃ x y, PyData.str i = .str x ∧ PyData.str j = .str y ∧ Θ x y := ⟨i, j, rfl, rfl, h⟩
theorem bb1 {i : Bool} {Θ : Bool → Prop} (h : Θ i) : ∃ x, PyData.bool i = .bool x ∧ Θ x := ⟨i, rfl, h⟩
theorem sqT {ds : List PyData} {Θ : List PyData → Prop} (h : Θ ds) : ∃ xs, seqD (.tuple ds) = some xs ∧ Θ xs := ⟨ds, rfl, h⟩
theorem sqL {ds : List PyData} {Θ : List PyData → Prop} (h : Θ ds) : ∃ xs, seqD (.list ds) = some xs ∧ Θ xs := ⟨ds, rfl, h⟩
end
end Dl

namespace Dl
open PySem PySem.Spec PyProof.Rows L2
/-! ### max(xs, default=None), max(xs), ints -/
def rMaxDef (K : PySem.W.Frag) : List V → List V → Hp → VK → Prop := fun vs zs H Q => ∃ (a : Addr) (ns : List Int), vs = [V.ref a] ∧ zs = [V.non] ∧ SqL K H a (ns.map V.int) ∧ (ns = [] → Q .non H) ∧ ∀ m, m ∈ ns → (∀ y, y ∈ ns → y ≤ m) → Q (.int m) H
section
variable {F : Fm} {C : Cs} {ρ : Rho} {k : Nat} {Φ : Nat → PyData → Prop} {pos p1 p2 p3 px kp : Pos} {e : Expr} {jj : Nat} {P : DE} {x : Str} {rest : List Stmt}
end

section
variable {F : Fm} {C : Cs} {ρ : Rho} {k : Nat} {P : DE} {pos p2 px : Pos} {a b : Expr} {x : Str} {rest : List Stmt}
end
end Dl

namespace Dl
open PySem PySem.Spec PyProof.Rows L2
section
variable {F : Fm} {C : Cs} {ρ : Rho} {k : Nat} {Φ : Nat → PyData → Prop}
/-! ### comprehensions over range(a, b) -/
end
section
variable {F : Fm} {C : Cs} {ρ : Rho} {k : Nat} {Φ : Nat → PyData → Prop} {P : DE} {pos spos pr pr2 p2 : Pos} {elt a b e : Expr} {scope : Scope}
/-- xs * n, lists -/
theorem we_repL (h : WPE F C a ρ k fun k1 x => WPE F C b ρ k1 fun k2 y => ∃ ds n, x = .list ds ∧ y = .int n ∧ (-1000 ≤ n ∧ n ≤ 1000) ∧ ds.length ≤ 1000 ∧ Φ k2 (.list (List.replicate n.toNat ds).flatten)) : WPE F C (.BinOp a .Mult b pos) ρ k Φ :=
  we_bin (fun X _ => op_rep) (h.imp fun k1 x h1 => h1.imp fun k2 y ⟨ds, n, e1, e2, hz, hl, p⟩ => by
    subst e1 e2
    intro H vx vy Q j rx ry q
    cases rx with
    | @lst pa xs _ ha hr =>
    cases ry
    refine ⟨pa, n, xs, rfl, rfl, ha.1, by omega, by omega, ?_, fun l hl => q _ _ k2 _ (.new hl) (j.new hl) (rep_newL j hl ?_) p⟩
    · rw [hr.length]
      exact Nat.le_trans (Nat.mul_le_mul hl (show n.toNat ≤ 1000 by omega)) (by decide)
    · have : ∀ m : Nat, RpAll F H (List.replicate m xs).flatten (List.replicate m ds).flatten := by
        intro m
        induction m with
        | zero => exact .nil
        | succ m ih =>
          rw [List.replicate_succ, List.replicate_succ, List.flatten_cons, List.flatten_cons]
          exact hr.append ih
      exact this _)
/-- xs[:e], a list, the bound any int expression -/
theorem we_sliceE (hK : F.K = C.K) (h : WPE F C a ρ k fun k1 x => WPE F C e ρ k1 fun k2 y => ∃ ds, ∃ m : Nat, x = .list ds ∧ y = .int (m : Int) ∧ Φ k2 (.list (ds.take m))) : WPE F C (.Subscript a (.Slice none (some e) none p2) pos) ρ k Φ :=
  of_pe (fun X fx => pe_slice (slLK fx) (peE fx) po_none (po_some (peE fx))) fun σ H Q en j q => by
    show tE C a σ H _
    refine h σ H _ en j fun v d k1 H1 l1 j1 r hx => ?_
    show tE C e σ H1 _
    refine hx σ H1 _ (en.le l1) j1 fun vy y k2 H2 l2 j2 r2 ⟨ds, m, e1, e2, p⟩ => ?_
    subst e1 e2
    have r' := r.le l2.lz
    cases r' with
    | @lst a xs _ ha hr =>
    cases r2
    refine ⟨(m : Int), rfl, a, xs, rfl, hK ▸ sql_of ha, fun l hl => ?_⟩
    have ec : cutV xs none (some (m : Int)) = xs.take m := by
      unfold cutV
      rw [HT.sIx_nat, HT.sIx_none, List.drop_zero, Nat.sub_zero, List.take_eq_take_iff]
      omega
    rw [ec]
    exact q _ _ k2 _ ((l1.trans l2).trans (.new hl)) (j2.new hl) (rep_newL j2 hl (hr.take m)) p
end
end Dl

namespace Dl
open PySem PySem.Spec PyProof.Rows L2
/-! ### the laws' draws: a list [cells, count, rests] -/
def DqM (st a : Addr) (b : Addr) : Prop := b = st ∨ b = a
def DqG (st a : Addr) (k : Nat) (H : Hp) : Prop := ∃ (cells : List Int) (n : Int), H st = some (.lst [.ref a, .int n]) ∧ H a = some (.lst (cells.map V.int)) ∧ cells.length ≤ 63 ∧ 0 ≤ n ∧ n + k ≤ 1000000
theorem DqG.weak {st a : Addr} {k k' : Nat} {H : Hp} (h : DqG st a k H) (hk : k' ≤ k) : DqG st a k' H := by
  obtain ⟨c, n, h1, h2, h3, h4, h5⟩ := h
  exact ⟨c, n, h1, h2, h3, h4, by omega⟩
theorem DqG.at {st a : Addr} {k : Nat} {H H' : Hp} (h : DqG st a k H) (e : ∀ b, DqM st a b → H' b = H b) : DqG st a k H' := by
  obtain ⟨c, n, h1, h2, h3⟩ := h
  exact ⟨c, n, (e st (.inl rfl)).trans h1, (e a (.inr rfl)).trans h2, h3⟩
theorem DqG.live {st a : Addr} {k : Nat} {H : Hp} (h : DqG st a k H) (b : Addr) (hb : DqM st a b) : H b ≠ none := by
  obtain ⟨c, n, h1, h2, h3⟩ := h
  rcases hb with rfl | rfl
  · rw [h1]; exact fun z => nomatch z
  · rw [h2]; exact fun z => nomatch z
theorem DqG.lv {st a : Addr} {k : Nat} {H : Hp} (h : DqG st a k H) (b : Addr) (hb : DqM st a b) : Lv H b := by
  obtain ⟨c, n, h1, h2, h3⟩ := h
  rcases hb with rfl | rfl
  · exact lv_lst h1
  · exact lv_lst h2
def dqFm (K : PySem.W.Frag) (S : Addr → Prop) (H : Hp) (st a : Addr) : Fm where
  K := K
  S := fun b => S b ∨ DqM st a b
  M := DqM st a
  H0 := H
  G := DqG st a
  ms := fun b h => .inr h
  gm := fun k H H' g e _ => g.at e
  gl := fun k H g b hb => g.live b hb
/-- the frame knows the draws -/
structure IsDq (F : Fm) (st a : Addr) : Prop where
  M : F.M = DqM st a
  G : F.G = DqG st a
theorem IsDq.ext {F : Fm} {st a : Addr} (h : IsDq F st a) (D : Addr) : IsDq (F.ext D) st a := ⟨h.M, h.G⟩
/-- a def that draws: at most `cost` draws; Pre of its data, R what it may hand back -/
def spDrawQ (K : PySem.W.Frag) (cost : Nat) (Pre : List PyData → Prop) (R : Rel) : Sp := fun vs H Q _ => ∃ (S : Addr → Prop) (st a : Addr) (vs' : List V) (ds : List PyData) (k : Nat), vs = .ref st :: vs' ∧ DqG st a (k + cost) H ∧ (∀ b, S b → Lv H b) ∧ (∀ b, DqM st a b → S b) ∧ RepAll K S H vs' ds ∧ Pre ds ∧
  ∀ v d H', (∀ b o, ¬ DqM st a b → H b = some o → H' b = some o) → DqG st a k H' → Rep K S H' v d → R ds d → Q v H'
structure DFnQ (P : Program) (w : World) (K : PySem.W.Frag) (mg : Str → Option Value) (base : Heap) (lvl : Nat) (x : Str) (cost : Nat) (Pre : List PyData → Prop) (R : Rel) : Prop where
  ex : ∃ (fa : Addr) (fd : FuncData) (ps : List Str), FnG P w K mg base lvl fa fd ps (spDrawQ K cost Pre R) ∧ mg x = some (.ref fa) ∧ PySem.W.keepIn K (.ref fa) = true ∧ L2.Binds K fd ps []
section
variable {P : Program} {w : World} {K : PySem.W.Frag} {mg : Str → Option Value} {base : Heap}
def drawFmQ (K : PySem.W.Frag) (S : Addr → Prop) (H : Hp) (st a : Addr) (hS : ∀ b, DqM st a b → S b) : Fm where
  K := K
  S := S
  M := DqM st a
  H0 := H
  G := DqG st a
  ms := hS
  gm := fun k H H' g e _ => g.at e
  gl := fun k H g b hb => g.live b hb
theorem draw_okQ {x qual : Str} {st : Stmt} {f : Addr} {fd : FuncData} {N ps : List Str} {k cost : Nat} {Pre : List PyData → Prop} {R : Rel} (Fn : Fun K x qual st f fd) (Sc : FnScope N ps (defScope st)) (len : ∀ ds, Pre ds → ds.length + 1 = ps.length)
    (body : ∀ (F : Fm) (s a : Addr) (ds : List PyData) (kk : Nat), IsDq F s a → F.K = K → Pre ds → WPB F (bodyCs P w K mg base N (defScope st) k) (defBody st) (.raw (.ref s) :: (ds.map SV.d ++ List.replicate (N.length - (ds.length + 1)) SV.un)) (kk + cost) { nx := fun k' _ => kk ≤ k' ∧ R ds .none, rt := fun k' d => kk ≤ k' ∧ R ds d, bk := fun _ _ => False, ct := fun _ _ => False }) :
    FnG P w K mg base (k + 1) f fd ps (spDrawQ K cost Pre R) := by
  refine FnG.of_body Fn Sc (fun vs H Q E h => ?_) (fun cdv A outer s H vs Q hgd hr h => ?_)
  · obtain ⟨S, st, a, vs', ds, k, rfl, _, _, _, rr, hp, _⟩ := h
    rw [List.length_cons, rr.length, len ds hp]
  · obtain ⟨S, st, a, vs', ds, kk, rfl, g, al, hS, rr, hp, q⟩ := h
    refine ⟨_, pbB (fits_body hgd hr), ?_⟩
    refine body (drawFmQ K S H st a hS) st a ds kk ⟨rfl, rfl⟩ rfl hp (L2.start N (.ref st :: vs')) H _ (env_raw (F := drawFmQ K S H st a hS) rr) ⟨g, fun b o _ e => e, al⟩ ?_ ?_ ?_ ?_
    · exact fun ρ' σ' k' H' _ _ j' e => q _ .none H' (fun b o n h => j'.le b o (fun z => z.elim n id) h) (DqG.weak j'.g e.1) .non e.2
    · exact fun v d' k' H' j' r' e => q v d' H' (fun b o n h => j'.le b o (fun z => z.elim n id) h) (DqG.weak j'.g e.1) r' e.2
    · exact fun _ _ _ _ _ _ _ z => z.elim
    · exact fun _ _ _ _ _ _ _ z => z.elim
end
section
variable {F : Fm} {C : Cs} {ρ : Rho} {k : Nat} {Φ : Nat → PyData → Prop} {es : List Expr} {pos p py : Pos} {x y : Str}
/-- a call of a def that draws, the state by its name -/
theorem we_callQ {s a : Addr} (dk : IsDq F s a) {j cost : Nat} {Pre : List PyData → Prop} {R : Rel} (hF : DFnQ C.P C.w C.K C.mg C.base j x cost Pre R) (hl : j ≤ C.lvl) (hK : F.K = C.K) (i : Nat) (hg : C.sc.names.lookup x = some .globalImplicit) (hN : C.N[i]? = some y) (hv : Vis C.sc y) (hr : ρ[i]? = some (.raw (.ref s)))
    (h : WPA F C es ρ k fun k1 ds => Pre ds ∧ ∃ k2, k1 = k2 + cost ∧ ∀ d, R ds d → Φ k2 d) (hdb : (x == ("__debug__" : Str)) = false := by decide) (hd : (y == ("__debug__" : Str)) = false := by decide) (hcd : (y == ("__classdict__" : Str)) = false := by decide)
    (hss : ∀ env : Env, starEach (.Name y py :: es) env = (false, eval (.Name y py) env) :: starEach es env := by intro _; rfl) (hpl : ∀ env : Env, ((backTo pos (starEach es env)).any fun x => x.fst) = false := by intro _; rfl) :
    WPE F C (.Call (.Name x p) (.Name y py :: es) [] pos) ρ k Φ := by
  obtain ⟨fa, fd, ps, G, hm, kp, hb⟩ := hF.ex
  refine of_pe (fun X fx => pe_callF fx G hl hg hm kp hb (pa_cons (pe_var (i := i) (by rw [fx.N]; exact hN) (by rw [fx.sc]; exact hv) hd hcd) (paA fx) (hss X.env)) hdb hss hpl) fun σ H Q en jj q => ?_
  refine ⟨_, en.raw hr, ?_⟩
  refine h σ H _ en jj fun vs ds k1 H1 l1 j1 r1 ⟨hp, k2, e, hf⟩ => ?_
  subst e
  refine ⟨F.S, s, a, vs, ds, k2, rfl, dk.G ▸ j1.g, j1.al, fun b hb => F.ms b (dk.M ▸ hb), hK ▸ r1, hp, fun v d H' keep g rv hR => ?_⟩
  have le : Le F H1 H' := fun b o n e => keep b o (fun z => n (.inl (by rw [dk.M]; exact z))) e
  refine q v d k2 H' (l1.trans le) ⟨by rw [dk.G]; exact g, fun b o n e => le b o n (j1.le b o n e), fun b hb => ?_⟩ (by show Rep F.K F.S H' v d; rw [hK]; exact rv) (hf d hR)
  by_cases hM : DqM s a b
  · exact g.lv b hM
  · exact (j1.al b hb).keep fun o e => keep b o hM e
end
/-! ### the law whose first statement makes the deck -/
def spDeck (K : PySem.W.Frag) : Sp := fun vs H Q _ => ∃ (sc : Addr) (ns : List Int), vs = [.ref sc] ∧ SqL K H sc (ns.map V.int) ∧ ns.length ≤ 63 ∧
  ∀ H' st a, Same H H' → H st = none → H a = none → DqG st a 900000 H' → Q (.ref st) H'
section
variable {P : Program} {w : World} {K : PySem.W.Frag} {mg : Str → Option Value} {base : Heap}
end
end Dl

namespace Sb
/-! ### sets of switches as numbers; boxes as tests on numbers below 2 ^ n; all by the last switch -/
def cnt : Nat → (Nat → Bool) → Nat
  | 0, p => if p 0 = true then 1 else 0
  | n + 1, p => cnt n p + cnt n fun i => p (i + 2 ^ n)
def up (n : Nat) (A : Nat → Bool) : Nat → Bool := fun c => A (c + 2 ^ n)
def oj (n : Nat) (A : Nat → Bool) : Nat → Bool := fun c => A c || A (c + 2 ^ n)
def aj (n : Nat) (A : Nat → Bool) : Nat → Bool := fun c => A c && A (c + 2 ^ n)
def sh : Nat → (Nat → Bool) → Nat → Bool
  | 0, A, _ => A 0
  | n + 1, A, s => if s < 2 ^ n then sh n (oj n A) s else sh n A (s - 2 ^ n) && sh n (up n A) (s - 2 ^ n)
def so : Nat → (Nat → Bool) → Nat → Bool
  | 0, A, _ => A 0
  | n + 1, A, s => if s < 2 ^ n then so n A s || so n (up n A) s else so n (aj n A) (s - 2 ^ n)
def smooth (n : Nat) (A : Nat → Bool) : Prop := ∀ s < 2 ^ n, sh n A s = so n A s
end Sb

namespace Sb
def Shown (n : Nat) (A : Nat → Bool) (s : Nat) : Prop := ∀ p, p &&& s = p → ∃ c, c < 2 ^ n ∧ A c = true ∧ c &&& s = p
def Solid (n : Nat) (A : Nat → Bool) (s : Nat) : Prop := ∃ b, b < 2 ^ n ∧ b &&& s = 0 ∧ ∀ p, p &&& s = p → A (b + p) = true
end Sb

namespace Dl
open PySem PySem.Spec PyProof.Rows L2
section
variable {F : Fm} {C : Cs} {ρ : Rho} {k : Nat} {P : DE} {Φ : Nat → PyData → Prop} {Ψ : Nat → Bool → Prop} {pos p p1 p2 p3 p4 p5 : Pos} {e a b c : Expr}
end
/-! ### sorted(set(a tuple)) -/
def rSetT (K : PySem.W.Frag) (w : World) : List V → Hp → VK → Prop := fun vs H Q => ∃ (a : Addr) (ns : List Int), vs = [.ref a] ∧ SqT K H a (ns.map V.int) ∧ ns.length ≤ 1000 ∧
  ∀ p c, H p = none → c ≤ ns.length → Q (.ref p) (upd H p (SetO w p (fun j => decide (j ∈ ns)) c))
section
variable {F : Fm} {C : Cs} {ρ : Rho} {k : Nat} {Φ : Nat → PyData → Prop} {pos p1 p2 p3 : Pos} {e : Expr}
end
end Dl

namespace Dl
open PySem PySem.Spec PyProof.Rows L2
section
variable {F : Fm} {C : Cs} {ρ : Rho} {k : Nat} {P : DE} {Φ : Nat → PyData → Prop} {Ψ : Nat → Bool → Prop} {pos p1 p2 : Pos} {a b c : Expr}
end

/-! ### sorted(a tuple of ints) -/
section
variable {P : Program} {w : World} {A : Around} {E : Value → Shared → Prop} {s : Shared} {a : Addr}
end
def rSortTI (K : PySem.W.Frag) : List V → Hp → VK → Prop := fun vs H Q => ∃ (a : Addr) (ns : List Int), vs = [V.ref a] ∧ SqT K H a (ns.map V.int) ∧ ns.length ≤ 4000 ∧
  ∀ (ms : List Int) (p : Addr), ms.Perm ns → ms.Pairwise (· ≤ ·) → H p = none → Q (.ref p) (upd H p (.lst (ms.map V.int)))
section
variable {F : Fm} {C : Cs} {ρ : Rho} {k : Nat} {Φ : Nat → PyData → Prop} {pos p : Pos} {e : Expr}
end

section
variable {F : Fm} {C : Cs} {ρ : Rho} {k : Nat} {Ψ : Nat → Bool → Prop} {pos : Pos} {a b : Expr}
/-- a and b, a or b, as tests of known value -/
theorem wt_and2 {p q : Bool} (ha : WPT F C a ρ k fun k1 z => k1 = k ∧ z = p) (hb : p = true → WPT F C b ρ k fun k1 z => k1 = k ∧ z = q) (h : Ψ k (p && q)) : WPT F C (.BoolOp .And [a, b] pos) ρ k Ψ :=
  wt_bool (ww_and (ha.imp fun k1 z ⟨e1, e2⟩ => by
    subst e1 e2
    cases z with
    | false => exact h
    | true => rw [if_pos rfl]; exact ww_and1 ((hb rfl).imp fun k2 z ⟨e3, e4⟩ => by subst e3 e4; exact h)))
theorem wt_or2 {p q : Bool} (ha : WPT F C a ρ k fun k1 z => k1 = k ∧ z = p) (hb : p = false → WPT F C b ρ k fun k1 z => k1 = k ∧ z = q) (h : Ψ k (p || q)) : WPT F C (.BoolOp .Or [a, b] pos) ρ k Ψ :=
  wt_bool (ww_or (ha.imp fun k1 z ⟨e1, e2⟩ => by
    subst e1 e2
    cases z with
    | true => exact h
    | false => rw [if_neg (by decide)]; exact ww_or1 ((hb rfl).imp fun k2 z ⟨e3, e4⟩ => by subst e3 e4; exact h)))
end
end Dl

set_option maxHeartbeats 2000000
namespace Dl
open PySem PySem.Spec PyProof.Rows L2
/-! ### zip of two sequences, each a list (true) or a tuple (false) -/
def Wk (b : Bool) (h : Heap) (it l : Addr) (i : Nat) : Prop := match b with | true => h.IsListIter it l i | false => h.IsTupleIter it l i
def Sk (b : Bool) (h : Heap) (l : Addr) (xs : Array Value) : Prop := match b with | true => h.IsList l xs | false => h.IsTuple l xs
section
variable {b : Bool} {h h' : Heap} {it l c : Addr} {i : Nat} {xs : Array Value}
theorem Wk.keep (x : Wk b h it l i) (e : ∀ o, h.get? it = some o → h'.get? it = some o) : Wk b h' it l i := by
  cases b with
  | true => exact Heap.IsListIter.at x e
  | false => exact Heap.IsTupleIter.at x e
theorem Sk.push (x : Sk b h l xs) (o : Obj) : Sk b (h.push o) l xs := by
  cases b with
  | true => exact Heap.IsList.push x o
  | false => exact Heap.IsTuple.push x o
theorem Sk.lt (x : Sk b h l xs) : l < h.objs.size := by
  cases b with
  | true => obtain ⟨o, e, _⟩ := x; exact Heap.lt_size e
  | false => obtain ⟨o, e, _⟩ := x; exact Heap.lt_size e
theorem Wk.obj (x : Wk b h it l i) : ∃ o, h.get? it = some o ∧ ∀ v, o.data ≠ Data.cell v := by
  cases b with
  | true => obtain ⟨o, e, _, d⟩ := x; exact ⟨o, e, fun v q => by rw [d] at q; cases q⟩
  | false => obtain ⟨o, e, _, d⟩ := x; exact ⟨o, e, fun v q => by rw [d] at q; cases q⟩
end
section
variable {prog : Program} {w : World} {A : Around} {E : Value → Shared → Prop} {s : Shared} {b b1 b2 : Bool}
end

/-! ### zip(a list, a tuple) -/
abbrev zg1 (h : Heap) (l1 : Addr) : Heap := h.push { cls := .type "list_iterator", data := .fields #[.ref l1, .int 0 0] }
abbrev zg2 (h : Heap) (l1 l2 : Addr) : Heap := (zg1 h l1).push { cls := .type "tuple_iterator", data := .fields #[.ref l2, .int 0 0] }
abbrev zg3 (h : Heap) (l1 l2 : Addr) : Heap := (zg2 h l1 l2).push { cls := .type "tuple", data := .seq #[.ref h.objs.size, .ref (zg1 h l1).objs.size] }
abbrev zg4 (h : Heap) (l1 l2 : Addr) : Heap := (zg3 h l1 l2).push { cls := .type "tuple", data := .seq #[.none, .none] }
abbrev zg5 (h : Heap) (l1 l2 : Addr) : Heap := (zg4 h l1 l2).push { cls := .type "zip", data := .fields #[.none, .bool false, .bool false, .ref (zg2 h l1 l2).objs.size, .ref (zg3 h l1 l2).objs.size] }
section
variable {prog : Program} {w : World} {A : Around} {E : Value → Shared → Prop} {s : Shared}
end
def Itg (K : PySem.W.Frag) (a b : Addr) : It :=
  ⟨fun i H => ∃ (xs ys : List V) (x y : V), SqL K H a xs ∧ SqT K H b ys ∧ xs[i]? = some x ∧ ys[i]? = some y,
    fun i H v H' => ∃ t x y, v = .ref t ∧ H t = none ∧ H' = upd H t (.tup [x, y]) ∧ (∀ xs, SqL K H a xs → xs[i]? = some x) ∧ ∀ ys, SqT K H b ys → ys[i]? = some y,
    fun i H => ∃ xs ys : List V, SqL K H a xs ∧ SqT K H b ys ∧ (xs.length ≤ i ∨ ys.length ≤ i)⟩
def iZg (K : PySem.W.Frag) (ta : TA) : TI := fun σ H R => ta σ H fun vs H1 => ∃ a b xs ys, vs = [.ref a, .ref b] ∧ SqL K H1 a xs ∧ SqT K H1 b ys ∧ R (Itg K a b) H1
section
variable {F : Fm} {C : Cs} {ρ : Rho} {k : Nat} {P : DE} {pos p p1 p2 tp : Pos} {a b : Expr} {x1 x2 : Str} {kk : Nat} {body : List Stmt}
end
end Dl

namespace Dl
open PySem PySem.Spec PyProof.Rows L2
/-! ### isinstance(data, a built-in type) -/
def tyN : PyData → String
  | .none => "NoneType"
  | .bool _ => "bool"
  | .int _ => "int"
  | .str _ => "str"
  | .list _ => "list"
  | .tuple _ => "tuple"
  | .dict _ => "dict"
def isiD (T : String) : PyData → Bool
  | .none => T == "NoneType"
  | .bool _ => T == "bool" || T == "int"
  | .int _ => T == "int"
  | .str _ => T == "str"
  | .list _ => T == "list"
  | .tuple _ => T == "tuple"
  | .dict _ => T == "dict"
theorem kit_int (K : PySem.W.Frag) (d : PyData) : PySem.W.kitOne K (.type (tyN d)) (.type "int") = some (isiD "int" d) := by cases d <;> kernel_rfl
theorem kit_bool (K : PySem.W.Frag) (d : PyData) : PySem.W.kitOne K (.type (tyN d)) (.type "bool") = some (isiD "bool" d) := by cases d <;> kernel_rfl
theorem kit_tuple (K : PySem.W.Frag) (d : PyData) : PySem.W.kitOne K (.type (tyN d)) (.type "tuple") = some (isiD "tuple" d) := by cases d <;> kernel_rfl
theorem kit_str (K : PySem.W.Frag) (d : PyData) : PySem.W.kitOne K (.type (tyN d)) (.type "str") = some (isiD "str" d) := by cases d <;> kernel_rfl
theorem ty_rep {F : Fm} {H : Hp} {v : V} {d : PyData} (r : Rp F H v d) : TyX F.K H v (.type (tyN d)) := by
  cases r with
  | non => exact .base .non
  | bl b => exact .base (.bl b)
  | int i => exact .base (.int i)
  | str x => exact .base (.str x)
  | lst h _ => exact .base (.lst h.1)
  | tup h _ => exact .base (.tup h.1)
  | dct h _ => exact .base (.dK h.1)
section
variable {F : Fm} {C : Cs} {ρ : Rho} {k : Nat} {Φ : Nat → PyData → Prop} {pos p p2 : Pos} {e : Expr} {x : Str}
theorem we_isi (T : String) (kit : ∀ (K : PySem.W.Frag) (d : PyData), PySem.W.kitOne K (.type (tyN d)) (.type T) = some (isiD T d)) (hK : F.K = C.K) (hg : C.sc.names.lookup ("isinstance" : Str) = some .globalImplicit) (hm : C.mg ("isinstance" : Str) = none) (hg2 : C.sc.names.lookup x = some .globalImplicit) (hm2 : C.mg x = none) (hx : bootBuiltins x = some (.type T)) (hxn : x ≠ "__name__") (hxd : (x == ("__debug__" : Str)) = false)
    (hs : ∀ env : Env, starEach [e, .Name x p2] env = (false, eval e env) :: starEach [.Name x p2] env)
    (h : WPE F C e ρ k fun k1 d => Φ k1 (.bool (isiD T d))) : WPE F C (.Call (.Name "isinstance" p) [e, .Name x p2] [] pos) ρ k Φ :=
  of_pe (t := tCB (rIsi C.K) (tCons (tE C e) (tCons (tC (.ty T)) tNil))) (fun X fx => pe_callB (by rw [← fx.K]; exact call_isi) (by show X.env.scope.names.lookup ("isinstance" : Str) = _; rw [fx.sc]; exact hg) (by rw [fx.mg]; exact hm) (by decide +kernel)
      (pa_cons (peE fx) (pa_cons (pe_bltn (v := .ty T) (by show X.env.scope.names.lookup x = _; rw [fx.sc]; exact hg2) (by rw [fx.mg]; exact hm2) hx rfl hxn hxd) pa_nil) (hs X.env)) (by decide) (by decide) (hs X.env) rfl) fun σ H Q en j q => by
    show tE C e σ H _
    refine h σ H _ en j fun v d k1 H1 l1 j1 r hp => ?_
    refine ⟨v, .ty T, _, _, isiD T d, rfl, .ty T, hK ▸ ty_rep r, kit _ d, q _ _ k1 H1 l1 j1 (.bl _) hp⟩
end
section
variable {F : Fm} {C : Cs} {ρ : Rho} {k : Nat} {Ψ : Nat → Bool → Prop} {pos : Pos} {a b : Expr}
end
end Dl

set_option maxHeartbeats 2000000
namespace Dl
open PySem PySem.Spec PyProof.Rows L2
/-! ### [.. for a, b in ..] where each turn makes a new pair: enumerate(list), zip(list, tuple) -/
structure PI2 (F : Fm) (Jt : It) (H1 : Hp) (ds : List (PyData × PyData)) : Prop where
  go : ∀ D, H1 D = none → ∀ n d, ds[n]? = some d → ∃ x y, Rp (F.ext D) (upd H1 D (.lst [])) x d.1 ∧ Rp (F.ext D) (upd H1 D (.lst [])) y d.2 ∧ ∀ H', Lz (F.ext D) (upd H1 D (.lst [])) H' → Jt.go n H' ∧ ∀ v H'', Jt.yld n H' v H'' → ∃ T, v = .ref T ∧ H' T = none ∧ H'' = upd H' T (.tup [x, y])
  stop : ∀ D, H1 D = none → ∀ H', Lz (F.ext D) (upd H1 D (.lst [])) H' → Jt.stop ds.length H'
section
variable {F : Fm} {C : Cs} {ρ : Rho} {k : Nat} {Φ : Nat → PyData → Prop}
theorem we_lcG (i i1 : Nat) (hne1 : i ≠ i1) {wi : TI} {K : PySem.W.Frag} (hK : F.K = K) {tt : TT} {te : TE}
    (h : ∀ (σ : L2.St) (H : Hp) (R : It → Hp → Prop), EnvOk F H σ ρ → J F k H → (∀ (Jt : It) (k1 : Nat) (H1 : Hp) (ds : List (PyData × PyData)), Le F H H1 → J F k1 H1 → PI2 F Jt H1 ds →
      (∃ I : Nat → Nat → List PyData → Prop, ds.length ≤ 1000000 ∧ I 0 k1 [] ∧ (∀ D (j : Nat) (d : PyData × PyData) k' acc, ds[j]? = some d → I j k' acc → WT (F.ext D) tt ((ρ.set i (.d d.1)).set i1 (.d d.2)) k' fun k1 b => if b = true then WE (F.ext D) te ((ρ.set i (.d d.1)).set i1 (.d d.2)) k1 fun k2 z => I (j + 1) k2 (acc ++ [z]) else I (j + 1) k1 acc) ∧ (∀ k' acc, I ds.length k' acc → Φ k' (.list acc))) → R Jt H1) → wi σ H R) :
    WE F (tLc wi (gTup K 2 (gCons (gName i) (gCons (gName i1) gNil))) tt te [i, i1]) ρ k Φ := fun σ H Q en j q => by
  show wi σ H _
  refine h σ H _ en j fun Jt k1 H1 ds l1 j1 pi ⟨I, hz, i0, hstep, hend⟩ => fun D hD => ?_
  have en1 := en.le l1
  have hM : ¬ F.M D := fun z => F.gl _ _ j1.g D z hD
  have hS : ¬ F.S D := j1.fresh hD
  have h0 : F.H0 D = none := j1.h0 hM hD
  have hne : ∀ (i : Nat) o xs, ρ[i]? = some (SV.own o xs) → o ≠ D := fun i o xs e => by
    obtain ⟨x, _, s⟩ := en1 i _ e
    obtain ⟨_, _, _, _, vs, h1, _⟩ := s
    exact ne_of_none h1 hD
  refine ⟨fun n m H' => m + n = ds.length ∧ ∃ k' vs acc, acc.length ≤ n ∧ EnvOk (F.ext D) H' σ ρ ∧ J (F.ext D) k' H' ∧ LeD (F.ext D) D (upd H1 D (.lst [])) H' ∧ H' D = some (.lst vs) ∧ RpAll (F.ext D) H' vs acc ∧ I n k' acc,
    ⟨ds.length, by omega, k1, [], [], Nat.le_refl _, en1.ext hD, (j1.new hD).ext (lv_new fun _ z => nomatch z), .refl, upd_same, .nil, i0⟩, ?_⟩
  rintro n m H' ⟨hm', k', vs, acc, hle, en', j', ld, hd, ra, ii⟩
  have lz := ld.lz (F := F.ext D) (.inr rfl)
  by_cases over : n = ds.length
  · subst over
    refine .inl ⟨pi.stop D hD H' lz, ?_⟩
    refine q (.ref D) (.list acc) k' H' ?_ j'.unext (.lst ⟨hd, hS⟩ ra.unext) (hend k' acc ii)
    exact fun b o n e => ld b o n (ne_of_none (l1 b o n e) hD) (by rw [upd_ne (ne_of_none (l1 b o n e) hD)]; exact l1 b o n e)
  · have lt : n < ds.length := by omega
    obtain ⟨x, y, rx, ry, gy⟩ := pi.go D hD n ds[n] (List.getElem?_eq_getElem lt)
    obtain ⟨hgo, hyl⟩ := gy H' lz
    refine .inr ⟨hgo, fun H2' => ∃ k' vs acc, acc.length ≤ n + 1 ∧ EnvOk (F.ext D) H2' σ ρ ∧ J (F.ext D) k' H2' ∧ LeD (F.ext D) D (upd H1 D (.lst [])) H2' ∧ H2' D = some (.lst vs) ∧ RpAll (F.ext D) H2' vs acc ∧ I (n + 1) k' acc, fun H2' w => ⟨m - 1, by omega, by omega, w⟩, ?_⟩
    intro v H'' yy
    obtain ⟨t, rfl, ht, rfl⟩ := hyl v H'' yy
    have lnew : Le (F.ext D) H' (upd H' t (.tup [x, y])) := .new ht
    have rx2 := (rx.le lz).le lnew.lz
    have ry2 := (ry.le lz).le lnew.lz
    have hdt : D ≠ t := ne_of_none hd ht
    refine ⟨t, [x, y], rfl, .inl (.inl upd_same), rfl, x, [y], rfl, y, [], rfl, rfl, ?_⟩
    rw [wipe3 hne1]
    refine ⟨wipe3' hne1 σ, ?_⟩
    refine lc_turn (F := F.ext D) (I := fun k acc => I (n + 1) k acc) hM (.inr rfl) h0 (((en'.le lnew).set (sv := .d ds[n].1) ⟨x, rfl, rx2⟩).set (sv := .d ds[n].2) ⟨y, rfl, ry2⟩) (j'.new ht) (by rw [upd_ne hdt]; exact hd) (ra.le lnew.lz) (Nat.lt_of_le_of_lt (show acc.length ≤ 1000000 by omega) (by decide)) (hstep D n ds[n] k' acc (List.getElem?_eq_getElem lt) ii) fun H2 k2 vs2 acc2 hl2 ld2 hd2 ra2 j2 i2 => ?_
    exact ⟨k2, vs2, acc2, by omega, (en'.le lnew).ld ld2 (.inr rfl) hne, j2, (ld.trans lnew.ld).trans ld2, hd2, ra2, i2⟩
end
section
variable {F : Fm} {C : Cs} {ρ : Rho} {k : Nat} {Φ : Nat → PyData → Prop} {P : DE} {pos spos : Pos} {elt e e2 c : Expr} {scope : Scope} {x x1 : Str} {px px1 p3 pr pr2 : Pos} {kk : Nat}
/-- enumerate as pairs -/
def enD : Nat → List PyData → List (PyData × PyData)
  | _, [] => []
  | n, d :: ds => (.int (n : Int), d) :: enD (n + 1) ds
theorem enD_len : ∀ (n : Nat) (ds : List PyData), (enD n ds).length = ds.length
  | _, [] => rfl
  | n, d :: ds => by show (enD (n + 1) ds).length + 1 = _; rw [enD_len (n + 1) ds]; rfl
theorem enD_get : ∀ (n : Nat) (ds : List PyData) (j : Nat), (enD n ds)[j]? = ds[j]?.map fun d => (.int ((n + j : Nat) : Int), d)
  | _, [], j => by cases j <;> rfl
  | n, d :: ds, 0 => rfl
  | n, d :: ds, j + 1 => by
    show (enD (n + 1) ds)[j]? = _
    rw [enD_get (n + 1) ds j]
    show _ = ds[j]?.map _
    congr 1; funext d; rw [show n + 1 + j = n + (j + 1) by omega]
end
/-! ### all, any of a list of bools -/
section
variable {F : Fm} {C : Cs} {ρ : Rho} {k : Nat} {Φ : Nat → PyData → Prop} {pos p : Pos} {e : Expr}
end
/-! ### xs[e:] of a list -/
section
variable {F : Fm} {C : Cs} {ρ : Rho} {k : Nat} {Φ : Nat → PyData → Prop} {pos p2 : Pos} {a e : Expr}
theorem RpAll.drp {H : Hp} : ∀ {ds : List PyData} {vs : List V} (m : Nat), RpAll F H vs ds → RpAll F H (vs.drop m) (ds.drop m)
  | _, _, 0, h => h
  | _, _, m + 1, h => by
    cases h with
    | nil => exact .nil
    | cons r1 r2 => exact RpAll.drp m r2
theorem we_sliceF (hK : F.K = C.K) (h : WPE F C a ρ k fun k1 x => WPE F C e ρ k1 fun k2 y => ∃ ds, ∃ m : Nat, x = .list ds ∧ y = .int (m : Int) ∧ Φ k2 (.list (ds.drop m))) : WPE F C (.Subscript a (.Slice (some e) none none p2) pos) ρ k Φ :=
  of_pe (fun X fx => pe_slice (slLK fx) (peE fx) (po_some (peE fx)) po_none) fun σ H Q en j q => by
    show tE C a σ H _
    refine h σ H _ en j fun v d k1 H1 l1 j1 r hx => ?_
    show tE C e σ H1 _
    refine hx σ H1 _ (en.le l1) j1 fun vy y k2 H2 l2 j2 r2 ⟨ds, m, e1, e2, p⟩ => ?_
    subst e1 e2
    have r' := r.le l2.lz
    cases r' with
    | @lst a xs _ ha hr =>
    cases r2
    refine ⟨(m : Int), rfl, a, xs, rfl, hK ▸ sql_of ha, fun l hl => ?_⟩
    have ec : cutV xs (some (m : Int)) none = xs.drop m := by
      unfold cutV
      rw [HT.sIx_nat, HT.sIx_none]
      by_cases hm : m ≤ xs.length
      · rw [Nat.min_eq_left hm, List.take_of_length_le (by rw [List.length_drop]; exact Nat.le_refl _)]
      · rw [Nat.min_eq_right (by omega), Nat.sub_self, List.take_zero, List.drop_of_length_le (by omega)]
    rw [ec]
    exact q _ _ k2 _ ((l1.trans l2).trans (.new hl)) (j2.new hl) (rep_newL j2 hl (RpAll.drp m hr)) p
end
end Dl

namespace Dl
open PySem PySem.Spec PyProof.Rows L2
section
variable {F : Fm} {C : Cs} {ρ : Rho} {k : Nat} {Φ : Nat → PyData → Prop} {pos p p1 p2 p3 px : Pos} {x : Str}
end
section
variable {F : Fm} {C : Cs} {ρ : Rho} {k : Nat} {Φ : Nat → PyData → Prop} {pos : Pos} {a b : Expr}
end
end Dl

namespace Dl
open PySem PySem.Spec PyProof.Rows L2
section
variable {F : Fm} {C : Cs} {ρ : Rho} {k : Nat} {P : DE} {pos pos' pos2 p p2 px : Pos} {e : Expr} {x : Str} {body : List Stmt}
end
end Dl

namespace Dl
open PySem PySem.Spec PyProof.Rows L2
section
variable {F : Fm} {C : Cs} {ρ : Rho} {k : Nat} {P : DE} {pos p2 px : Pos} {es : List Expr} {x : Str} {rest : List Stmt}
/-- x = [..] as an own list for one statement, then data again -/
theorem wb_ownLst1 (i : Nat) {st : Stmt} (t : Tgt C i x) (hi : i < ρ.length) (hs : ∀ env : Env, env.scope = C.sc → swapsWith (.List es p2) (some (.Name x px)) pos.line env = pure false)
    (h : WPA F C es ρ k fun k2 ds => ds.length ≤ 1000000 ∧
      ∀ o, WPS (F.ext o) C st (ρ.set i (.own o ds)) k2 { nx := fun k' ρ' => ∃ ys, ρ'[i]? = some (.own o ys) ∧ (ρ'.set i .un).all plainB = true ∧ WPB F C rest (ρ'.set i (.d (.list ys))) k' P, rt := P.rt, bk := fun _ _ => False, ct := fun _ _ => False }) :
    WPB F C (.Assign [.Name x px] (.List es p2) pos :: st :: rest) ρ k P :=
  of_pb (fun X fx => pss_cons (ps_set (by rw [fx.N]; exact t.hN) (by rw [fx.N]; exact t.hi) (by rw [fx.sc]; exact t.hx) (pe_lst (paA fx)) (hs X.env fx.sc) (by rw [fx.fn, fx.sc]; exact t.hf)) (pss_cons (psS fx) (pbB fx))) fun σ H E en j q1 q2 q3 q4 => by
    refine h σ H _ en j fun xs ds k2 H2 l2 j2 hr ⟨hz, p⟩ => ?_
    refine ⟨by rw [hr.length]; exact Nat.le_trans hz (by decide), fun o no => ?_⟩
    have hM : ¬ F.M o := fun z => F.gl _ _ j2.g o z no
    have hS : ¬ F.S o := j2.fresh no
    have h0 : F.H0 o = none := j2.h0 hM no
    have en2 : EnvOk (F.ext o) (upd H2 o (.lst (xs))) (σ.set i (some (.ref o))) (ρ.set i (.own o ds)) :=
      ((en.le l2).ext no).set (sv := .own o ds) ⟨rfl, .inr rfl, hM, h0, xs, upd_same, hr.ext no⟩
    have lz0 : Lz F H H2 := l2.lz
    have lzo : ∀ H', Lz (F.ext o) (upd H2 o (.lst (xs))) H' → Lz F H H' := fun H' lz b u hb e => by
      have e2 := lz0 b u hb e
      have ne : b ≠ o := ne_of_none e2 no
      exact lz b u (fun z => z.elim (fun y => y.elim (fun q => hb (.inl q)) ne) fun q => hb (.inr q)) (by rw [upd_ne ne]; exact e2)
    refine p o (σ.set i (some (.ref o))) (upd H2 o (.lst (xs))) _ en2 ((j2.new no).ext (lv_new fun _ z => nomatch z)) ?_ ?_ ?_ ?_
    · rintro ρ' σ' k' H' lz en' j' ⟨zs, hown, hpl, hrest⟩
      have hlz := lzo H' lz
      obtain ⟨hσ', _, _, _, vs, hvs, rvs⟩ := en'.own hown
      have en3 : EnvOk F H' σ' (ρ'.set i (.d (.list zs))) := by
        intro m sv em
        by_cases hj : i = m
        · subst hj
          have hl : i < ρ'.length := (List.getElem?_eq_some_iff.mp hown).1
          rw [List.getElem?_set_self hl] at em
          cases em
          exact ⟨_, hσ', _, rfl, .lst ⟨hvs, hS⟩ rvs.unext⟩
        · rw [List.getElem?_set_ne hj] at em
          obtain ⟨y, qy, sy⟩ := en' m sv em
          refine ⟨y, qy, ?_⟩
          cases sv with
          | un => trivial
          | d d => obtain ⟨v, z, r⟩ := sy; exact ⟨v, z, r.unext⟩
          | raw v => exact sy
          | own o' xs' => exact (noOwn_of hpl m o' xs' (Ne.symm hj) em).elim
      exact hrest σ' H' E en3 j'.unext (fun ρ2 σ2 k2 H2 l2 => q1 ρ2 σ2 k2 H2 (hlz.trans l2)) q2 (fun ρ2 σ2 k2 H2 l2 => q3 ρ2 σ2 k2 H2 (hlz.trans l2)) (fun ρ2 σ2 k2 H2 l2 => q4 ρ2 σ2 k2 H2 (hlz.trans l2))
    · exact fun v d k' H' j' r' p => q2 v d k' H' j'.unext r'.unext p
    · exact fun _ _ _ _ _ _ _ z => z.elim
    · exact fun _ _ _ _ _ _ _ z => z.elim
end
section
variable {F : Fm} {C : Cs} {ρ : Rho} {k : Nat} {Φ : Nat → PyData → Prop} {pos : Pos} {elt iter iter1 : Expr} {scope : Scope} {x x1 : Str} {px px1 : Pos} {α β : Type}
end
end Dl

namespace Dl
open PySem PySem.Spec PyProof.Rows L2
/-! ### enumerate over a tuple -/
abbrev et1 (h : Heap) (t : Addr) : Heap := h.push { cls := .type "tuple_iterator", data := .fields #[.ref t, .int 0 0] }
abbrev et2 (h : Heap) (t : Addr) : Heap := (et1 h t).push { cls := .type "enumerate", data := .fields #[.none, .bool false, .ref h.objs.size, rawInt 0, .none, .none] }
set_option maxHeartbeats 1000000 in
theorem meets_et (t : Addr) (xs : Array Value) : Meets (Builtin.«enumerate.__new__» ⟨[.type "enumerate", .ref t], []⟩)
    (fun _ R s => s.heap.IsTuple t xs ∧ R (.ok (.ret (.ref (et1 s.heap t).objs.size))) { s with heap := et2 s.heap t }) :=
  .of_wp fun prog w A R s q => by
    obtain ⟨hp, g, d, tk, os⟩ := s; obtain ⟨q1, q⟩ := q
    have hsub := sub_enumerate
    have T1 : Heap.IsTuple (Shared.heap ⟨hp, g, d, tk, os⟩) t xs := q1
    obtain ⟨o, ho, hc, n, hd⟩ := id q1
    obtain ⟨c0, dct, dt, sl⟩ := o
    replace hc : c0 = .type "tuple" := hc
    replace hd : dt = .seq xs n := hd
    subst hc hd
    wp_walk using AutoSeq1.wpAny_loadPart' ho
    refine wpAny_stack_any (fun sk => wpAny_pure ?_)
    split
    · rename_i c _ _ _ _ _
      cases (c == Value.type "enumerate") <;> (wp_walk using AutoSeq1.wpAny_loadPart' ho, wpAny_pyIter_tuple T1) <;> exact ⟨_, rfl, q⟩
    · wp_walk using AutoSeq1.wpAny_loadPart' ho, wpAny_pyIter_tuple T1
      exact ⟨_, rfl, q⟩
section
variable {prog : Program} {w : World} {A : Around} {E : Value → Shared → Prop} {s : Shared}
theorem call_et {t : Addr} {xs : Array Value} {Q : Value → Shared → Prop} (q1 : s.heap.IsTuple t xs)
    (q : IsEnum (et2 s.heap t) (s.heap.objs.size + 1) s.heap.objs.size 0 .none → (et2 s.heap t).IsTupleIter s.heap.objs.size t 0 → (∀ c o, s.heap.get? c = some o → (et2 s.heap t).get? c = some o) → Q (.ref (s.heap.objs.size + 1)) { s with heap := et2 s.heap t }) :
    wpAny (model prog w) A (call (.type "enumerate") [.ref t]) Q E s := by
  refine callType_new F.called_enumerate (by decide) (F.typeCall_enumerate_1 _) (F.newCall_enumerate_1 _) (fun obj => F.args_object_init_2 obj _) F.entry_enumerate_new (meets_et t xs) ⟨q1, ?_⟩
  have n1 : (et1 s.heap t).objs.size = s.heap.objs.size + 1 := Heap.size_push ..
  have m2 : (et2 s.heap t).get? (et1 s.heap t).objs.size = some _ := Heap.get?_push_size _ rfl
  have m1 : (et2 s.heap t).get? s.heap.objs.size = some _ := Heap.get?_push_of_some _ (Heap.get?_push_size _ rfl)
  rw [n1] at m2
  show _ ∧ _
  rw [n1]
  exact ⟨⟨_, m2, rfl⟩, q m2 ⟨_, m1, rfl, rfl⟩ fun c o e => Heap.get?_push_of_some _ (Heap.get?_push_of_some _ e)⟩
end
def Itet (K : PySem.W.Frag) (a : Addr) : It :=
  ⟨fun i H => ∃ (xs : List V) (x : V), SqT K H a xs ∧ xs[i]? = some x, fun i H v H' => ∃ t x, v = .ref t ∧ H t = none ∧ H' = upd H t (.tup [.int (i : Nat), x]) ∧ ∀ xs, SqT K H a xs → xs[i]? = some x, fun i H => ∃ xs : List V, SqT K H a xs ∧ xs.length = i⟩
theorem turn_et {P : Program} {w : World} {K : PySem.W.Frag} {elts : List Expr} {kk : Nat} {tpos : Pos} (a e it : Addr) (hae : a ≠ e) (hai : a ≠ it) (hei : e ≠ it) :
    Turn P w K (.Tuple elts kk tpos) (Itet K a) [e, it] e (fun i h => (∃ old, IsEnum h e it ((i : Nat) : Int) old) ∧ h.IsTupleIter it a i) where
  mem := by simp
  obj := fun i h st c hc => by
    obtain ⟨⟨old, he⟩, ⟨o, ho, _, hd⟩⟩ := st
    have two : c = e ∨ c = it := by simpa using hc
    rcases two with rfl | rfl
    · exact ⟨_, he, fun v q => nomatch q⟩
    · exact ⟨o, ho, fun v q => by rw [hd] at q; cases q⟩
  keep := fun i h h' st k => by
    obtain ⟨⟨old, he⟩, wt⟩ := st
    exact ⟨⟨old, k e (by simp) _ he⟩, wt.at fun o q => k it (by simp) o q⟩
  item := by
    intro X hP hw hK hc i pins s σ H E I hf st hg
    subst hP hw hK
    obtain ⟨⟨old, he⟩, wt⟩ := st
    obtain ⟨xs, x, sq, hx⟩ := hg
    obtain ⟨its, rv, p, _⟩ := I.tuple sq
    obtain ⟨u, hu, ru⟩ := rv.get hx
    have elt : e < s.heap.objs.size := Heap.lt_size he
    have ilt : it < s.heap.objs.size := by obtain ⟨o, q, _⟩ := wt; exact Heap.lt_size q
    have hi : i < its.toArray.size := by
      have := (List.getElem?_eq_some_iff.mp hu).1
      simpa using this
    have D := Draws.tuple (prog := X.prog) (w := X.w) (A := X.A.in1) (I.ok.hd hc) it a hai its.toArray
    refine wpAny_pyNext_enum_itemD D he ⟨wt, p⟩ hi hei (by simp [hei, Ne.symm hae]) fun y h1 tk hy ho st1 hT hsz hk => ?_
    have ey : y = u := by
      have h2 : its.toArray[i]? = some u := by simpa using hu
      exact Option.some.inj (hy.symm.trans h2)
    subst ey
    refine ⟨_, rfl, wpAny_letOwnedTupleGo_enum (s := { s with heap := h1, toks := tk + 1 }) ho fun h2 he2 sb => ?_⟩
    have hT2 : h2.get? s.heap.objs.size = some { cls := .type "tuple", data := .seq #[.int i tk, y] } := (sb.2 _ (Nat.ne_of_gt elt)).trans hT
    have okn : ObjOk X.prog X.w (upd H s.heap.objs.size (.tup [.int (i : Nat), x])) h2 s.heap.objs.size (.tup [.int (i : Nat), x]) :=
      ⟨by show 2 ≤ sizeLine; decide, [.int i tk, y], .cons ⟨_, rfl⟩ (.cons ru .nil), ⟨_, hT2, rfl, _, rfl⟩⟩
    have V1 : Inv X pins σ (upd H s.heap.objs.size (.tup [.int (i : Nat), x])) { s with heap := h2, toks := tk + 1 } :=
      I.turnedNew (ch := [e, it]) (fun c o nb g => (sb.2 c fun q => nb (by simp [q])).trans (hk c o (fun q => nb (by simp [q])) (fun q => nb (by simp [q])) g)) hf (Nat.le_refl _) okn
    refine ⟨.ref s.heap.objs.size, _, V1, rfl, ⟨_, x, rfl, I.hok.fresh (Nat.le_refl _), rfl, fun ys hy => by rw [I.tuple_inj hy sq]; exact hx⟩, ⟨⟨y, ?_⟩, st1.1.at fun o q => (sb.2 it (Ne.symm hei)).trans q⟩, fun c hcm => ?_⟩
    · have eI : ((i + 1 : Nat) : Int) = (i : Int) + 1 := by omega
      rw [eI]; exact he2
    · have clt : c < s.heap.objs.size := by
        have two : c = e ∨ c = it := by simpa using hcm
        rcases two with rfl | rfl <;> assumption
      rw [upd_ne (Nat.ne_of_lt clt)]
      exact (hf c hcm).1
  done := by
    intro X hP hw hK hc i pins s σ H E I hf st hg
    subst hP hw hK
    obtain ⟨⟨old, he⟩, wt⟩ := st
    obtain ⟨xs, sq, hx⟩ := hg
    obtain ⟨its, rv, p, _⟩ := I.tuple sq
    obtain ⟨f0, f1, f2, f3, f4, f5⟩ := hf it (by simp)
    have hl := rv.length
    have ei : i = its.toArray.size := by rw [← hx, hl]; simp
    have D := Draws.tuple (prog := X.prog) (w := X.w) (A := X.A.in1) (I.ok.hd hc) it a hai its.toArray
    exact wpAny_pyNext_enum_endD D he ⟨ei ▸ wt, p⟩ fun h' eb => ⟨rfl, I.turned (t' := s.toks) (fun b o hb q => eb b o hb q) f0 f1 f3 f4 f5⟩
  self := fun A i s Q E st h => let ⟨⟨_, he⟩, _⟩ := st; wpAny_pyIter_enum he h
def iEt (K : PySem.W.Frag) (ta : TA) : TI := fun σ H R => ta σ H fun vs H1 => ∃ a xs, vs = [.ref a] ∧ SqT K H1 a xs ∧ R (Itet K a) H1
theorem pi_et {X : Cx} {e : Expr} {ta : TA} {p pos tpos : Pos} {elts : List Expr} {kk : Nat} (hg : Gl X "enumerate") (hm : X.mg "enumerate" = none) (ha : PA X [e] ta) (hs : starEach [e] X.env = [(false, eval e X.env)]) :
    PI X (.Tuple elts kk tpos) (.Call (.Name "enumerate" p) [e] [] pos) (iEt X.K ta) := by
  refine ⟨fun pins s σ H R I h => Call_ (ld_blt I hg hm boot_enumerate (PyProof.Rows.callWith_type1 (thn (ha.run pos pins s σ H _ I h) fun us s1 ⟨vs, H1, I1, r1, q1⟩ => ?_) hs rfl))⟩
  obtain ⟨a, xs, rfl, sq, q⟩ := q1
  cases r1 with
  | cons ra rr =>
  cases rr
  cases ra
  obtain ⟨vx, rx, lx, _⟩ := I1.tuple sq
  have lta : a < s1.heap.objs.size := by obtain ⟨o, q, _⟩ := lx; exact Heap.lt_size q
  refine call_et lx fun pe wt kp => wpAny_pyIter_enum pe ?_
  have V2 : Inv X pins σ H1 { s1 with heap := et2 s1.heap a } := I1.kept (t' := s1.toks) kp
  refine ⟨s1.heap.objs.size + 1, [s1.heap.objs.size + 1, s1.heap.objs.size], _, _, H1, rfl, V2, turn_et a (s1.heap.objs.size + 1) s1.heap.objs.size (Nat.ne_of_lt (Nat.lt_succ_of_lt lta)) (Nat.ne_of_lt lta) (Nat.succ_ne_self _), ⟨⟨.none, pe⟩, wt⟩, fun c hcm => ?_, q⟩
  have two : c = s1.heap.objs.size + 1 ∨ c = s1.heap.objs.size := by simpa using hcm
  have ge : s1.heap.objs.size ≤ c := by rcases two with z | z <;> rw [z] <;> first | exact Nat.le_add_right _ _ | exact Nat.le_refl _
  exact I1.fpOk ge (I1.hok.fresh ge)
section
variable {F : Fm} {C : Cs} {ρ : Rho} {k : Nat} {P : DE} {pos p p1 p2 tp : Pos} {a : Expr} {x1 x2 : Str} {kk : Nat} {body : List Stmt}
end
end Dl

namespace Dl
open PySem PySem.Spec PyProof.Rows L2
/-! ### numbers for what is known of decks -/
def prN (a b : Nat) : Nat := 2 ^ a * (2 * b + 1)
theorem prN_inj : ∀ {a b c d : Nat}, prN a b = prN c d → a = c ∧ b = d
  | 0, b, 0, d, h => by unfold prN at h; omega
  | 0, b, c + 1, d, h => by
    unfold prN at h
    rw [Nat.pow_succ, Nat.mul_comm (2 ^ c) 2, Nat.mul_assoc] at h
    omega
  | a + 1, b, 0, d, h => by
    unfold prN at h
    rw [Nat.pow_succ, Nat.mul_comm (2 ^ a) 2, Nat.mul_assoc] at h
    omega
  | a + 1, b, c + 1, d, h => by
    unfold prN at h
    rw [Nat.pow_succ, Nat.pow_succ, Nat.mul_comm (2 ^ a) 2, Nat.mul_comm (2 ^ c) 2, Nat.mul_assoc, Nat.mul_assoc] at h
    have h2 : prN a b = prN c d := by unfold prN; omega
    obtain ⟨e1, e2⟩ := prN_inj h2
    exact ⟨by omega, e2⟩
theorem prN_pos (a b : Nat) : prN a b ≠ 0 := by
  unfold prN
  have := Nat.two_pow_pos a
  intro h
  rcases Nat.mul_eq_zero.mp h with h | h <;> omega
class Enc (α : Type) where
  enc : α → Nat
  inj : ∀ a b, enc a = enc b → a = b
instance : Enc Nat := ⟨id, fun _ _ h => h⟩
def encI : Int → Nat
  | .ofNat n => 2 * n
  | .negSucc n => 2 * n + 1
instance : Enc Int := ⟨encI, fun a b h => by
  cases a with
  | ofNat n => cases b with
    | ofNat m => simp only [encI] at h; rw [show n = m by omega]
    | negSucc m => simp only [encI] at h; omega
  | negSucc n => cases b with
    | ofNat m => simp only [encI] at h; omega
    | negSucc m => simp only [encI] at h; rw [show n = m by omega]⟩
instance {α β : Type} [Enc α] [Enc β] : Enc (α × β) := ⟨fun p => prN (Enc.enc p.1) (Enc.enc p.2), fun a b h => by
  obtain ⟨h1, h2⟩ := prN_inj h
  exact Prod.ext (Enc.inj _ _ h1) (Enc.inj _ _ h2)⟩
def encL {α : Type} [Enc α] : List α → Nat
  | [] => 0
  | x :: xs => prN (Enc.enc x) (encL xs)
theorem encL_inj {α : Type} [Enc α] : ∀ a b : List α, encL a = encL b → a = b
  | [], [], _ => rfl
  | [], y :: ys, h => absurd h.symm (prN_pos _ _)
  | x :: xs, [], h => absurd h (prN_pos _ _)
  | x :: xs, y :: ys, h => by
    obtain ⟨h1, h2⟩ := prN_inj h
    rw [Enc.inj _ _ h1, encL_inj xs ys h2]
instance {α : Type} [Enc α] : Enc (List α) := ⟨encL, encL_inj⟩
/-- boxes and edits of a deck -/
abbrev Pg := List (Nat × List Int) × List (Nat × Int)
def kk (c : Nat) (g : Pg) : Nat := Enc.enc (c, g)
/-! ### the lists of a deck, redescribed -/
section
variable {X : Cx} {pins : List (Addr × Obj)} {σ : L2.St} {H : Hp} {s : Shared} {p : Addr} {as : List Addr}
/-- the list at p is a plain one while e runs -/
def tOpen (t : TE) : TE := fun σ H Q => ∃ (p : Addr) (as : List Addr), H p = some (extL p as) ∧ t σ (upd H p (.lst (as.map V.ref))) fun v H' => ∃ as', H' p = some (.lst (as'.map V.ref)) ∧ Q v (upd H' p (extL p as'))
end
end Dl

namespace Dl
open PySem PySem.Spec PyProof.Rows L2
/-! ### data of tuples alone -/
def NT (H : Hp) (b : Addr) : Prop := ∀ xs, H b ≠ some (.tup xs)
abbrev TR (K : PySem.W.Frag) (H : Hp) (v : V) (d : PyData) : Prop := Rep K (NT H) H v d
abbrev TRs (K : PySem.W.Frag) (H : Hp) (vs : List V) (ds : List PyData) : Prop := RepAll K (NT H) H vs ds
section
variable {K : PySem.W.Frag} {H H' : Hp} {S : Addr → Prop}
theorem nt_of {b : Addr} (n : ¬ NT H b) : ∃ xs, H b = some (.tup xs) := Classical.byContradiction fun z => n fun xs hx => z ⟨xs, hx⟩
theorem TR.keep {v : V} {d : PyData} (r : TR K H v d) (e : ∀ b xs, H b = some (.tup xs) → H' b = some (.tup xs)) : TR K H' v d :=
  Rep.keepX (S := NT H) (S' := NT H') (fun b o n _ q => by obtain ⟨xs, hx⟩ := nt_of n; rw [q] at hx; cases hx; exact e b xs q) (fun b hb hn xs hx => hn xs (e b xs hx)) d v r
theorem TRs.keep {v : List V} {d : List PyData} (r : TRs K H v d) (e : ∀ b xs, H b = some (.tup xs) → H' b = some (.tup xs)) : TRs K H' v d :=
  RepAll.keepX (S := NT H) (S' := NT H') (fun b o n _ q => by obtain ⟨xs, hx⟩ := nt_of n; rw [q] at hx; cases hx; exact e b xs q) (fun b hb hn xs hx => hn xs (e b xs hx)) d v r
def boxP (p : Nat × List Int) : PyData := .tuple [.int (p.1 : Int), .tuple (p.2.map PyData.int)]
def wordS : Nat → Str
  | 0 => "add"
  | 1 => "remove"
  | 2 => "flip"
  | _ => "press"
def edP (e : Nat × Int) : PyData := .tuple [.str (wordS e.1), .int e.2]
end
/-! ### a deck in the heap -/
structure PiG (K : PySem.W.Frag) (C a dx s t : Addr) (g : Pg) (H : Hp) : Prop where
  ia : H a = some (.ins C dx [("states", .ref s), ("done", .ref t)])
  id : H dx = some (.own a)
  ne : s ≠ t
  ss : ∃ as, H s = some (extL s as) ∧ TRs K H (as.map V.ref) (g.1.map boxP)
  tt : ∃ bs, H t = some (extL t bs) ∧ TRs K H (bs.map V.ref) (g.2.map edP)
  ls : g.1.length ≤ 1000
  lt : g.2.length ≤ 1000
theorem isX_ext {s : Addr} {as : List Addr} (h : as.length ≤ sizeLine) : IsX (extL s as) := ⟨s, as, h, rfl⟩
section
variable {K : PySem.W.Frag} {C a dx s t : Addr} {g : Pg} {H H' : Hp}
theorem big1000 {n : Nat} (h : n ≤ 1000) : n ≤ sizeLine := Nat.le_trans h (by decide)
theorem PiG.xs (d : PiG K C a dx s t g H) : ∃ as, H s = some (extL s as) ∧ TRs K H (as.map V.ref) (g.1.map boxP) ∧ IsX (extL s as) ∧ as.length = g.1.length := by
  obtain ⟨as, h1, h2⟩ := d.ss
  have e := h2.length
  rw [List.length_map, List.length_map] at e
  exact ⟨as, h1, h2, isX_ext (by rw [e]; exact big1000 d.ls), e⟩
theorem PiG.xt (d : PiG K C a dx s t g H) : ∃ as, H t = some (extL t as) ∧ TRs K H (as.map V.ref) (g.2.map edP) ∧ IsX (extL t as) ∧ as.length = g.2.length := by
  obtain ⟨as, h1, h2⟩ := d.tt
  have e := h2.length
  rw [List.length_map, List.length_map] at e
  exact ⟨as, h1, h2, isX_ext (by rw [e]; exact big1000 d.lt), e⟩
theorem PiG.at (d : PiG K C a dx s t g H) (h1 : H' a = H a) (h2 : H' dx = H dx) (h3 : ∀ b o, (IsX o ∨ IsK o) → H b = some o → H' b = some o) : PiG K C a dx s t g H' := by
  obtain ⟨as, e1, e2, e3, _⟩ := d.xs
  obtain ⟨bs, f1, f2, f3, _⟩ := d.xt
  exact ⟨h1.trans d.ia, h2.trans d.id, d.ne, ⟨as, h3 s _ (.inl e3) e1, e2.keep fun b xs q => h3 b _ (.inr (.inl ⟨xs, rfl⟩)) q⟩, ⟨bs, h3 t _ (.inl f3) f1, f2.keep fun b xs q => h3 b _ (.inr (.inl ⟨xs, rfl⟩)) q⟩, d.ls, d.lt⟩
end
/-- the frame of a def that edits the deck at a -/
def piFm (K : PySem.W.Frag) (S : Addr → Prop) (H0 : Hp) (C a dx s0 t0 : Addr) (hS : ∀ b, b = a ∨ b = dx → S b) : Fm where
  K := K
  S := S
  M := fun b => b = a ∨ b = dx
  H0 := H0
  G := fun k H => ∃ g s t, k = Enc.enc g ∧ PiG K C a dx s t g H ∧ (s = s0 ∨ ∀ o, H0 s = some o → ¬ IsX o) ∧ (t = t0 ∨ ∀ o, H0 t = some o → ¬ IsX o) ∧ (∀ y o, y ≠ s0 → y ≠ t0 → IsX o → H0 y = some o → H y = some o) ∧ (∀ y o, IsX o → H0 y = some o → ∃ o', IsX o' ∧ H y = some o')
  ms := hS
  gm := fun k H H' ⟨g, s, t, e, d, h1, h2, h3, h4⟩ hm hx => ⟨g, s, t, e, d.at (hm a (.inl rfl)) (hm dx (.inr rfl)) hx, h1, h2, fun y o n1 n2 x q => hx y o (.inl x) (h3 y o n1 n2 x q), fun y o x q => by
    obtain ⟨o', x', q'⟩ := h4 y o x q
    exact ⟨o', x', hx y o' (.inl x') q'⟩⟩
  gl := fun k H ⟨g, s, t, e, d, _⟩ b hb => by
    rcases hb with rfl | rfl
    · rw [d.ia]; exact fun z => nomatch z
    · rw [d.id]; exact fun z => nomatch z
  X := IsX
  xi := fun _ h => h
  xa := fun k H ⟨g, s, t, e, d, _, _, _, h4⟩ b o _ x q => h4 b o x q
/-- the frame knows the deck at a: mk tells k by what is known of the deck -/
structure HasPi (F : Fm) (C a dx : Addr) (mk : Pg → Nat) : Prop where
  X : F.X = IsX
  ma : F.M a
  md : F.M dx
  get : ∀ g H, F.G (mk g) H → ∃ s t, PiG F.K C a dx s t g H
  put : ∀ g g' H H' s t s' t', F.G (mk g) H → PiG F.K C a dx s t g H → (∀ b o, b ≠ a → b ≠ dx → b ≠ s → b ≠ t → H b = some o → H' b = some o) → (∀ y o, IsX o → H y = some o → ∃ o', IsX o' ∧ H' y = some o') → PiG F.K C a dx s' t' g' H' → (s' = s ∨ H s' = none) → (t' = t ∨ H t' = none) → F.G (mk g') H'
theorem HasPi.ext {F : Fm} {C a dx : Addr} {mk : Pg → Nat} (h : HasPi F C a dx mk) (D : Addr) : HasPi (F.ext D) C a dx mk := ⟨h.X, h.ma, h.md, h.get, h.put⟩
theorem PiG.uniq {K : PySem.W.Frag} {C a dx s t s' t' : Addr} {g g' : Pg} {H : Hp} (d : PiG K C a dx s t g H) (d' : PiG K C a dx s' t' g' H) : s = s' ∧ t = t' := by
  have e := d.ia.symm.trans d'.ia
  injection e with e
  injection e with _ _ e
  injection e with e1 e2
  injection e2 with e2 _
  injection e1 with _ e1
  injection e2 with _ e2
  injection e1 with e1
  injection e2 with e2
  exact ⟨e1, e2⟩
/-! ### defs that edit a deck -/
def spPi (K : PySem.W.Frag) (C : Addr) (Pre : Pg → List PyData → Prop) (R : Pg → List PyData → Pg → PyData → Prop) : Sp := fun vs H Q _ => ∃ (S : Addr → Prop) (a dx s t : Addr) (vs' : List V) (ds : List PyData) (g : Pg), vs = .ref a :: vs' ∧ PiG K C a dx s t g H ∧ (∀ b, S b → Lv H b) ∧ S a ∧ S dx ∧ RepAll K S H vs' ds ∧ Pre g ds ∧
  ∀ v d g' s' t' H', (∀ b o, b ≠ a → b ≠ dx → b ≠ s → b ≠ t → H b = some o → H' b = some o) → (∀ y o, IsX o → H y = some o → ∃ o', IsX o' ∧ H' y = some o') → PiG K C a dx s' t' g' H' → (s' = s ∨ H s' = none) → (t' = t ∨ H t' = none) → Rep K S H' v d → R g ds g' d → Q v H'
section
variable {P : Program} {w : World} {K : PySem.W.Frag} {mg : Str → Option Value} {base : Heap} {C : Addr}
end
end Dl

namespace Dl
open PySem PySem.Spec PyProof.Rows L2
section
variable {X : Cx} {x m : Str} {p pos apos : Pos} {o e : Expr} {es : List Expr} {t : TA} {ta : TE} {k : Nat} {f C : Addr} {fd : FuncData} {ps : List Str} {sp : Sp} {dvs : List V} {ds : List Value}
end
/-- a method that edits decks of the class at C -/
structure PiM (P : Program) (w : World) (K : PySem.W.Frag) (mg : Str → Option Value) (base : Heap) (C : Addr) (lvl : Nat) (m : Str) (dvs : List V) (Pre : Pg → List PyData → Prop) (R : Pg → List PyData → Pg → PyData → Prop) : Prop where
  cl : Cls K C
  ex : ∃ (fa : Addr) (fd : FuncData) (ps : List Str) (ds : List Value), FnG P w K mg base lvl fa fd ps (spPi K C Pre R) ∧ Meth K C m fa ∧ L2.Binds K fd ps ds ∧ Vals dvs ds
/-- a def that edits decks of the class at C -/
structure PiF (P : Program) (w : World) (K : PySem.W.Frag) (mg : Str → Option Value) (base : Heap) (C : Addr) (lvl : Nat) (x : Str) (Pre : Pg → List PyData → Prop) (R : Pg → List PyData → Pg → PyData → Prop) : Prop where
  ex : ∃ (fa : Addr) (fd : FuncData) (ps : List Str), FnG P w K mg base lvl fa fd ps (spPi K C Pre R) ∧ mg x = some (.ref fa) ∧ PySem.W.keepIn K (.ref fa) = true ∧ L2.Binds K fd ps []
section
variable {F : Fm} {C : Cs} {Cl a dx : Addr} {mk : Pg → Nat} {g : Pg} {ρ : Rho} {Φ : Nat → PyData → Prop} {e : Expr} {es : List Expr} {pos p py apos : Pos} {x y m : Str} {Pre : Pg → List PyData → Prop} {R : Pg → List PyData → Pg → PyData → Prop} {j : Nat} {P : DE}
end
end Dl

namespace Dl
open PySem PySem.Spec PyProof.Rows L2
/-! ### reading and writing a deck's lists -/
section
variable {X : Cx}
def rIxX : R2 := fun x y H Q => ∃ p as i v, x = .ref p ∧ y = .int i ∧ H p = some (extL p as) ∧ atI (as.map V.ref) i = some v ∧ Q v H
def rLenX : List V → Hp → VK → Prop := fun xs H Q => ∃ p as, xs = [.ref p] ∧ H p = some (extL p as) ∧ Q (.int as.length) H
def rTupX : List V → Hp → VK → Prop := fun xs H Q => ∃ p as, xs = [.ref p] ∧ H p = some (extL p as) ∧ ∀ l, H l = none → Q (.ref l) (upd H l (.tup (as.map V.ref)))
def rSlX : V → Option Int → Option Int → Hp → VK → Prop := fun x lo hi H Q => ∃ p as, x = .ref p ∧ H p = some (extL p as) ∧ ∀ l, H l = none → Q (.ref l) (upd H l (.lst (cutV (as.map V.ref) lo hi)))
def rAppX : V → List V → Hp → VK → Prop := fun x vs H Q => ∃ l as y, x = .ref l ∧ vs = [.ref y] ∧ H l = some (extL l as) ∧ as.length < sizeLine ∧ Q .non (upd H l (extL l (as ++ [y])))
end
end Dl

namespace Dl
open PySem PySem.Spec PyProof.Rows L2
/-! ### readings that only lay new objects -/
def WNo (F : Fm) (t : TE) (ρ : Rho) (k : Nat) (Φ : PyData → Prop) : Prop :=
  ∀ (σ : L2.St) (H : Hp) (Q : VK), EnvOk F H σ ρ → J F k H → (∀ v d H', Same H H' → J F k H' → Rp F H' v d → Φ d → Q v H') → t σ H Q
section
variable {F : Fm} {C : Cs} {ρ : Rho} {k : Nat} {Φ : PyData → Prop} {e a b : Expr} {pos p p2 : Pos} {x : Str}
end
section
variable {F : Fm} {C : Cs} {Cl a dx : Addr} {mk : Pg → Nat} {g : Pg} {ρ : Rho} {k : Nat} {Φ : Nat → PyData → Prop} {e b : Expr} {es : List Expr} {pos p py apos fpos cp : Pos} {x y m : Str} {Pre : Pg → List PyData → Prop} {R : Pg → List PyData → Pg → PyData → Prop} {j : Nat} {P : DE}
/-- the class of decks, for its fields -/
structure PiC (K : PySem.W.Frag) (Cl : Addr) : Prop where
  cl : Cls K Cl
  ns : NoAttr K Cl "states"
  nd : NoAttr K Cl "done"
end
end Dl

namespace Dl
open PySem PySem.Spec PyProof.Rows L2
section
variable {F : Fm} {C : Cs} {Cl a dx : Addr} {mk : Pg → Nat} {g g' : Pg} {ρ : Rho} {k : Nat} {Φ : Nat → PyData → Prop} {e b : Expr} {es : List Expr} {pos p py apos fpos cp : Pos} {x y m : Str} {Pre : Pg → List PyData → Prop} {R : Pg → List PyData → Pg → PyData → Prop} {j : Nat} {P : DE}
/-! ### append to a deck's list -/
def tBMX (r : V → List V → Hp → VK → Prop) (to : TE) (t : TA) : TE := fun σ H Q => to σ H fun x H1 => (∃ p as, x = .ref p ∧ H1 p = some (extL p as)) ∧ t σ H1 fun xs H2 => r x xs H2 Q
/-! ### calls of methods and defs with arguments -/
end
end Dl

namespace Dl
open PySem PySem.Spec PyProof.Rows L2
/-! ### len and str of an instance by its own defs -/
section
variable {X : Cx} {k : Nat} {f C a dx : Addr} {fd : FuncData} {ps : List Str} {sp : Sp} {H : Hp} {σ : L2.St} {pins : List (Addr × Obj)} {s : Shared} {fs : List (Str × V)} {A : Around} {name : Str}
end
end Dl

namespace Dl
open PySem PySem.Spec PyProof.Rows L2
/-! ### draws beside other things -/
structure HasDq (F : Fm) (st q : Addr) (mk : Nat → Nat) : Prop where
  ms : ∀ b, DqM st q b → F.M b
  get : ∀ n H, F.G (mk n) H → DqG st q n H
  put : ∀ n n' H H', F.G (mk n) H → DqG st q n' H' → (∀ b o, ¬ DqM st q b → H b = some o → H' b = some o) → F.G (mk n') H'
theorem HasDq.ext {F : Fm} {st q : Addr} {mk : Nat → Nat} (h : HasDq F st q mk) (D : Addr) : HasDq (F.ext D) st q mk := ⟨h.ms, h.get, h.put⟩
theorem IsDq.has {F : Fm} {st q : Addr} (h : IsDq F st q) : HasDq F st q id where
  ms := fun b hb => by rw [h.M]; exact hb
  get := fun n H g => by rw [h.G] at g; exact g
  put := fun n n' H H' _ d _ => by rw [h.G]; exact d
/-- the heap without the two lists -/
def hid (H : Hp) (s t : Addr) : Hp := fun b => if b = s ∨ b = t then none else H b
theorem hid_some {H : Hp} {s t b : Addr} {o : HO} (h : hid H s t b = some o) : b ≠ s ∧ b ≠ t ∧ H b = some o := by
  unfold hid at h
  by_cases c : b = s ∨ b = t
  · rw [if_pos c] at h; cases h
  · rw [if_neg c] at h; exact ⟨fun z => c (.inl z), fun z => c (.inr z), h⟩
theorem hid_of {H : Hp} {s t b : Addr} (h1 : b ≠ s) (h2 : b ≠ t) : hid H s t b = H b := by
  unfold hid; rw [if_neg (fun z => z.elim h1 h2)]
theorem hid_live {H : Hp} {s t b : Addr} (h : hid H s t b ≠ none) : b ≠ s ∧ b ≠ t ∧ H b ≠ none := by
  cases e : hid H s t b with
  | none => exact absurd e h
  | some o =>
    obtain ⟨h1, h2, h3⟩ := hid_some e
    exact ⟨h1, h2, by rw [h3]; exact fun z => nomatch z⟩
/-- the frame with a deck more -/
def Fm.deck (F : Fm) (C a dx : Addr) : Fm where
  K := F.K
  S := fun b => F.S b ∨ b = a ∨ b = dx
  M := fun b => F.M b ∨ b = a ∨ b = dx
  H0 := F.H0
  G := fun k H => ∃ c g s t, k = kk c g ∧ F.G c (hid H s t) ∧ PiG F.K C a dx s t g H ∧ (∀ y o, ¬ F.M y → IsX o → F.H0 y = some o → ∃ o', IsX o' ∧ H y = some o')
  ms := fun b h => h.imp (F.ms b) id
  gm := fun k H H' ⟨c, g, s, t, e, hF, d, h4⟩ hm hx => by
    refine ⟨c, g, s, t, e, F.gm c _ _ hF (fun b hb => ?_) (fun b o ho q => ?_), d.at (hm a (.inr (.inl rfl))) (hm dx (.inr (.inr rfl))) hx, fun y o nm x q => ?_⟩
    · unfold hid; rw [hm b (.inl hb)]
    · obtain ⟨h1, h2, h3⟩ := hid_some q
      rw [hid_of h1 h2]; exact hx b o ho h3
    · obtain ⟨o', x', q'⟩ := h4 y o nm x q
      exact ⟨o', x', hx y o' (.inl x') q'⟩
  gl := fun k H ⟨c, g, s, t, e, hF, d, _⟩ b hb => by
    rcases hb with hb | rfl | rfl
    · exact (hid_live (F.gl c _ hF b hb)).2.2
    · rw [d.ia]; exact fun z => nomatch z
    · rw [d.id]; exact fun z => nomatch z
  X := IsX
  xi := fun _ h => h
  xa := fun k H ⟨c, g, s, t, e, hF, d, h4⟩ b o nm x q => h4 b o (fun z => nm (.inl z)) x q
section
variable {F : Fm} {C a dx : Addr}
end
section
variable {F : Fm} {C : Cs} {ρ : Rho} {k : Nat} {Φ : Nat → PyData → Prop} {es : List Expr} {pos p py : Pos} {x y : Str}
/-- a call of a def that draws, in any frame that knows the draws -/
theorem we_callQ2 {s a : Addr} {j cost : Nat} {Pre : List PyData → Prop} {R : Rel} (hF : DFnQ C.P C.w C.K C.mg C.base j x cost Pre R) (hl : j ≤ C.lvl) (hK : F.K = C.K) (i : Nat) (hg : C.sc.names.lookup x = some .globalImplicit) (hN : C.N[i]? = some y) (hv : Vis C.sc y) (hr : ρ[i]? = some (.raw (.ref s)))
    (h : WPA F C es ρ k fun k1 ds => Pre ds ∧ ∃ mk n, HasDq F s a mk ∧ k1 = mk (n + cost) ∧ ∀ d, R ds d → Φ (mk n) d) (hdb : (x == ("__debug__" : Str)) = false := by decide) (hd : (y == ("__debug__" : Str)) = false := by decide) (hcd : (y == ("__classdict__" : Str)) = false := by decide)
    (hss : ∀ env : Env, starEach (.Name y py :: es) env = (false, eval (.Name y py) env) :: starEach es env := by intro _; rfl) (hpl : ∀ env : Env, ((backTo pos (starEach es env)).any fun x => x.fst) = false := by intro _; rfl) :
    WPE F C (.Call (.Name x p) (.Name y py :: es) [] pos) ρ k Φ := by
  obtain ⟨fa, fd, ps, G, hm, kp, hb⟩ := hF.ex
  refine of_pe (fun X fx => pe_callF fx G hl hg hm kp hb (pa_cons (pe_var (i := i) (by rw [fx.N]; exact hN) (by rw [fx.sc]; exact hv) hd hcd) (paA fx) (hss X.env)) hdb hss hpl) fun σ H Q en jj q => ?_
  refine ⟨_, en.raw hr, ?_⟩
  refine h σ H _ en jj fun vs ds k1 H1 l1 j1 r1 ⟨hp, mk, n, dk, e, hf⟩ => ?_
  subst e
  refine ⟨F.S, s, a, vs, ds, n, rfl, dk.get _ _ j1.g, j1.al, fun b hb => F.ms b (dk.ms b hb), hK ▸ r1, hp, fun v d H' keep g rv hR => ?_⟩
  have le : Le F H1 H' := fun b o n e => keep b o (fun z => n (.inl (dk.ms b z))) e
  refine q v d (mk n) H' (l1.trans le) ⟨dk.put _ _ _ _ j1.g g keep, fun b o n e => le b o n (j1.le b o n e), fun b hb => ?_⟩ (by show Rep F.K F.S H' v d; rw [hK]; exact rv) (hf d hR)
  by_cases hM : DqM s a b
  · exact g.lv b hM
  · exact (j1.al b hb).keep fun o e => keep b o hM e
end
end Dl

namespace Dl
open PySem PySem.Spec PyProof.Rows L2
section
variable {X : Cx} {x : Str} {p pos : Pos} {e : Expr} {es : List Expr} {t : TA} {k : Nat} {f C : Addr} {fd : FuncData} {ps : List Str} {sp : Sp}
end
/-- what __init__ promises of a box that is one -/
def spInit (K : PySem.W.Frag) (C : Addr) (Ok : Nat × List Int → Prop) : Sp := fun vs H Q _ => ∃ (S : Addr → Prop) (a dx : Addr) (v : V) (d : Nat × List Int), vs = [.ref a, v] ∧ H a = some (.ins C dx []) ∧ H dx = some (.own a) ∧ (∀ b, S b → Lv H b) ∧ Rep K S H v (boxP d) ∧ Ok d ∧
  ∀ s t H', (∀ b o, b ≠ a → H b = some o → H' b = some o) → H s = none → H t = none → PiG K C a dx s t ([d], []) H' → Q .non H'
end Dl

namespace Dl
open PySem PySem.Spec PyProof.Rows L2
section
variable {F : Fm} {C : Cs} {Cl f : Addr} {fd : FuncData} {ps : List Str} {ρ : Rho} {k j : Nat} {P : DE} {e : Expr} {rest : List Stmt} {x xc : Str} {px p cp pos : Pos} {Ok : Nat × List Int → Prop}
end
end Dl

namespace Dl
open PySem PySem.Spec PyProof.Rows L2
/-! ### an own list, lent as data while an expression runs -/
section
variable {K : PySem.W.Frag} {S : Addr → Prop} {H : Hp}
end
def Fm.less (F : Fm) (o : Addr) (h : ¬ F.M o) : Fm := { F with S := fun b => F.S b ∧ b ≠ o, ms := fun b hb => ⟨F.ms b hb, fun z => h (z ▸ hb)⟩ }
section
variable {F : Fm} {C : Cs} {ρ : Rho} {k : Nat} {Φ : Nat → PyData → Prop} {Ψ : Nat → Bool → Prop} {e : Expr} {o : Addr} {xs : List PyData} {H : Hp} {σ : L2.St}
theorem HasPi.less {Cl a dx : Addr} {mk : Pg → Nat} (h : HasPi F Cl a dx mk) (hM : ¬ F.M o) : HasPi (F.less o hM) Cl a dx mk := ⟨h.X, h.ma, h.md, h.get, h.put⟩
theorem HasDq.less {st q : Addr} {mk : Nat → Nat} (h : HasDq F st q mk) (hM : ¬ F.M o) : HasDq (F.less o hM) st q mk := ⟨h.ms, h.get, h.put⟩
end
end Dl

namespace Dl
open PySem PySem.Spec PyProof.Rows L2
section
variable {F : Fm} {C : Cs} {Cl a dx : Addr} {mk : Pg → Nat} {g : Pg} {ρ : Rho} {Φ : Nat → PyData → Prop} {pos p py : Pos} {y : Str} {Pre : Pg → List PyData → Prop} {R : Pg → List PyData → Pg → PyData → Prop} {j : Nat}
end
end Dl

namespace Dl
open PySem PySem.Spec PyProof.Rows L2
/-! ### expressions that change one own list: left.pop(e), and tuple([left.pop(e) for k in range(z)]) -/
def WX (F : Fm) (o : Addr) (t : TE) (ρ : Rho) (k : Nat) (Φ : Nat → List PyData → PyData → Prop) : Prop :=
  ∀ (σ : L2.St) (H : Hp) (Q : VK), EnvOk F H σ ρ → J F k H → (∀ v d k' ys ws H', LeD F o H H' → H' o = some (.lst ws) → RpAll F H' ws ys → J F k' H' → Rp F H' v d → Φ k' ys d → Q v H') → t σ H Q
section
variable {F : Fm} {C : Cs} {ρ : Rho} {k : Nat} {P : DE} {Φ : Nat → PyData → Prop} {Ξ : Nat → List PyData → PyData → Prop} {pos p p0 px py ap cp spos pr pr2 : Pos} {x y : Str} {rest : List Stmt} {e ez : Expr} {o : Addr} {scope : Scope}
theorem WX.imp {t : TE} {Ξ' : Nat → List PyData → PyData → Prop} (h : WX F o t ρ k Ξ) (i : ∀ k' ys d, Ξ k' ys d → Ξ' k' ys d) : WX F o t ρ k Ξ' := fun σ H Q en j q => h σ H Q en j fun v d k' ys ws H' l hw r j' rv p => q v d k' ys ws H' l hw r j' rv (i k' ys d p)
/-- x.pop(e), x the own list -/
def tPop (C : Cs) (i : Nat) (e : Expr) : TE := tBM C.K "list" rPopAt (tVar i) (tCons (tE C e) tNil)
def rTup (C : Cs) : List V → Hp → VK → Prop := fun xs H Q => ∃ p ys, xs = [.ref p] ∧ ((SqL C.K H p ys ∧ ∀ l, H l = none → Q (.ref l) (upd H l (.tup ys))) ∨ (SqT C.K H p ys ∧ Q (.ref p) H))
/-- len(x), x the own list -/
theorem we_lenOwn (i : Nat) {xs : List PyData} (hN : C.N[i]? = some x) (hv : Vis C.sc x) (hr : ρ[i]? = some (.own o xs)) (hg : C.sc.names.lookup ("len" : Str) = some .globalImplicit) (hm : C.mg ("len" : Str) = none)
    (h : Φ k (.int xs.length)) (hd : (x == ("__debug__" : Str)) = false := by decide) (hcd : (x == ("__classdict__" : Str)) = false := by decide) (hse : ∀ env : Env, starEach [.Name x px] env = (false, eval (.Name x px) env) :: starEach [] env := by intro _; rfl) : WPE F C (.Call (.Name "len" p) [.Name x px] [] pos) ρ k Φ :=
  of_pe (fun X fx => pe_callB (lenK fx) (by show X.env.scope.names.lookup ("len" : Str) = _; rw [fx.sc]; exact hg) (by rw [fx.mg]; exact hm) PySem.boot_len (pa_cons (pe_var (i := i) (by rw [fx.N]; exact hN) (by rw [fx.sc]; exact hv) hd hcd) pa_nil (hse X.env)) (by decide) (by decide) (hse X.env) rfl) fun σ H Q en j q => by
    obtain ⟨hσ, hS, hM, h0, vs, hv', rv⟩ := en.own hr
    refine ⟨_, hσ, o, vs, rfl, .inl (SqL.of hv'), ?_⟩
    rw [rv.length]
    exact q _ _ k _ .refl j (.int _) h
end
end Dl

namespace Dl
open PySem PySem.Spec PyProof.Rows L2
/-! ### x = an expression that makes a new list, which is the def's own -/
def WN (F : Fm) (t : TE) (ρ : Rho) (k : Nat) (Φ : Nat → List PyData → Prop) : Prop :=
  ∀ (σ : L2.St) (H : Hp) (Q : VK), EnvOk F H σ ρ → J F k H → (∀ o vs ds k' H', Le F H H' → J F k' H' → H' o = none → RpAll F H' vs ds → Φ k' ds → Q (.ref o) (upd H' o (.lst vs))) → t σ H Q
section
variable {F : Fm} {C : Cs} {ρ : Rho} {k : Nat} {P : DE} {Φ : Nat → List PyData → Prop} {pos p p2 px pr pr2 : Pos} {a e : Expr} {x : Str} {rest : List Stmt}
end
end Dl

namespace Dl
open PySem PySem.Spec PyProof.Rows L2
/-! ### a comprehension of two clauses, over two tuples -/
section
variable {F : Fm} {C : Cs} {ρ : Rho} {k : Nat} {Φ : Nat → PyData → Prop} {α β : Type} {Cb : Cs} {iter1 elt : Expr} {tl : TE} {K : PySem.W.Frag}
theorem we_lc2T (ei : α → PyData) (ej : β → PyData) (bs : α → List β) (g : α → β → PyData) (B : Nat) (i i1 : Nat) (hne : i ≠ i1) (hK : F.K = K)
    (h : WE F tl ρ k fun k1 d => ∃ as : List α, d = .tuple (as.map ei) ∧ as.length * B ≤ 1000000 ∧ (∀ a ∈ as, (bs a).length ≤ B) ∧
      (∀ D (a : α), a ∈ as → WPE (F.ext D) Cb iter1 ((ρ.set i1 .un).set i (.d (ei a))) k1 (fun k2 d2 => k2 = k1 ∧ d2 = .tuple ((bs a).map ej)) ∧
        ∀ b ∈ bs a, WPE (F.ext D) Cb elt (((ρ.set i1 .un).set i (.d (ei a))).set i1 (.d (ej b))) k1 fun k3 y => k3 = k1 ∧ y = g a b) ∧ Φ k1 (.list (as.flatMap fun a => (bs a).map (g a)))) :
    WE F (tLc2 (iTup K tl) (gName i) tYes (iTup K (tE Cb iter1)) (gName i1) tYes (tE Cb elt) [i, i1] [i1]) ρ k Φ := fun σ H Q en j q => by
  show tl σ H _
  refine h σ H _ en j fun v d k1 H1 l1 j1 r hh => ?_
  obtain ⟨as, e, hz, hB, hin, hfin⟩ := hh
  subst e
  cases r with
  | @tup a xs _ ha hr =>
  refine ⟨a, rfl, ⟨xs, hK ▸ sqt_of ha⟩, fun D hD => ?_⟩
  have en1 := en.le l1
  have hM : ¬ F.M D := fun z => F.gl _ _ j1.g D z hD
  have hS : ¬ F.S D := j1.fresh hD
  have h0 : F.H0 D = none := j1.h0 hM hD
  have hno : ∀ (i : Nat) o xs, ρ[i]? = some (SV.own o xs) → o ≠ D := fun i o xs e => by
    obtain ⟨x, _, s⟩ := en1 i _ e
    obtain ⟨_, _, _, _, vs, h1, _⟩ := s
    exact ne_of_none h1 hD
  have rr : Rp (F.ext D) (upd H1 D (.lst [])) (.ref a) (.tuple (as.map ei)) := Rep.ext (.tup ha hr) hD
  cases rr with
  | @tup _ xs' _ ha' hr' =>
  have hlen : xs'.length = as.length := by rw [hr'.length, List.length_map]
  have bound : ∀ n, n ≤ as.length → ((as.take n).flatMap fun a => (bs a).map (g a)).length ≤ n * B := by
    intro n
    induction n with
    | zero => intro _; simp
    | succ n ih =>
      intro hn
      have hx : as[n]? = some as[n] := List.getElem?_eq_getElem (by omega)
      rw [take_next hx, List.flatMap_append, List.length_append, List.flatMap_singleton, List.length_map]
      have h1 := ih (by omega)
      have h2 := hB as[n] (List.getElem_mem _)
      rw [Nat.succ_mul]; omega
  refine ⟨fun n m H' => m = xs'.length - n ∧ n ≤ xs'.length ∧ ∃ vs, EnvOk (F.ext D) H' σ ρ ∧ J (F.ext D) k1 H' ∧ LeD (F.ext D) D (upd H1 D (.lst [])) H' ∧ H' D = some (.lst vs) ∧ RpAll (F.ext D) H' vs ((as.take n).flatMap fun a => (bs a).map (g a)),
    ⟨xs'.length, by simp, Nat.zero_le _, [], en1.ext hD, (j1.new hD).ext (lv_new fun _ z => nomatch z), .refl, upd_same, .nil⟩, ?_⟩
  rintro n m H' ⟨rfl, hn, vs, en', j', ld, hd, ra⟩
  have sq : SqT K H' a xs' := hK ▸ sqt_of (K := F.K) (H := H') (S := (F.ext D).S) ⟨ld.lz (.inr rfl) _ _ (Fm.sxA ha'.2) ha'.1, ha'.2⟩
  by_cases hlt : n < xs'.length
  · refine .inr ⟨⟨xs', xs'[n], sq, by simp [hlt]⟩, fun H2 => ∃ vs, EnvOk (F.ext D) H2 σ ρ ∧ J (F.ext D) k1 H2 ∧ LeD (F.ext D) D (upd H1 D (.lst [])) H2 ∧ H2 D = some (.lst vs) ∧ RpAll (F.ext D) H2 vs ((as.take (n + 1)).flatMap fun a => (bs a).map (g a)), fun H2 p => ⟨xs'.length - (n + 1), by omega, rfl, hlt, p⟩, fun x H2 y => ?_⟩
    obtain ⟨e, y⟩ := y
    subst e
    obtain ⟨y0, hy0, ry⟩ := hr'.got (y xs' sq)
    rw [List.getElem?_map] at hy0
    cases hc : as[n]? with
    | none => rw [hc] at hy0; cases hy0
    | some a0 =>
    rw [hc] at hy0
    cases hy0
    obtain ⟨hit, hel⟩ := hin D a0 (List.mem_of_getElem? hc)
    show (wipe ((wipe σ [i, i1]).set i (some x)) [i, i1] = wipe σ [i, i1] ∧ _)
    rw [wipe2 hne]
    refine ⟨wipe2' hne σ, ?_⟩
    dsimp only [tYes]
    rw [if_pos rfl]
    have en2 : EnvOk (F.ext D) H2 ((σ.set i1 none).set i (some x)) ((ρ.set i1 .un).set i (.d (ei a0))) := (en'.set (sv := .un) trivial).set (sv := .d (ei a0)) ⟨x, rfl, ry.le (ld.lz (.inr rfl))⟩
    show tE Cb iter1 _ H2 _
    refine hit _ H2 _ en2 j' fun v1 d1 k3 H3 l3 j3 r3 ⟨ek, ed⟩ => ?_
    subst ek ed
    cases r3 with
    | @tup a1 ys _ ha1 hr1 =>
    refine ⟨a1, rfl, ⟨ys, hK ▸ sqt_of (K := F.K) ha1⟩, ?_⟩
    have hlen1 : ys.length = (bs a0).length := by rw [hr1.length, List.length_map]
    refine ⟨fun m mm H' => mm = ys.length - m ∧ m ≤ ys.length ∧ ∃ vs2, EnvOk (F.ext D) H' ((σ.set i1 none).set i (some x)) ((ρ.set i1 .un).set i (.d (ei a0))) ∧ J (F.ext D) k3 H' ∧ LeD (F.ext D) D H3 H' ∧ H' D = some (.lst vs2) ∧ RpAll (F.ext D) H' vs2 (((as.take n).flatMap fun a => (bs a).map (g a)) ++ ((bs a0).take m).map (g a0)),
      ⟨ys.length, by simp, Nat.zero_le _, vs, en2.le l3, j3, .refl, l3 D _ (Fm.mxA hM) hd, by rw [List.take_zero, List.map_nil, List.append_nil]; exact ra.le l3.lz⟩, ?_⟩
    rintro m mm H5 ⟨rfl, hm, vs2, en5, j5, ld5, hd5, ra5⟩
    have sq1 : SqT K H5 a1 ys := hK ▸ sqt_of (K := F.K) (S := (F.ext D).S) ⟨ld5.lz (.inr rfl) _ _ (Fm.sxA ha1.2) ha1.1, ha1.2⟩
    by_cases hlt1 : m < ys.length
    · refine .inr ⟨⟨ys, ys[m], sq1, by simp [hlt1]⟩, fun H6 => ∃ vs2, EnvOk (F.ext D) H6 ((σ.set i1 none).set i (some x)) ((ρ.set i1 .un).set i (.d (ei a0))) ∧ J (F.ext D) k3 H6 ∧ LeD (F.ext D) D H3 H6 ∧ H6 D = some (.lst vs2) ∧ RpAll (F.ext D) H6 vs2 (((as.take n).flatMap fun a => (bs a).map (g a)) ++ ((bs a0).take (m + 1)).map (g a0)), fun H6 p => ⟨ys.length - (m + 1), by omega, rfl, hlt1, p⟩, fun z H6 y1 => ?_⟩
      obtain ⟨e1, y1⟩ := y1
      subst e1
      obtain ⟨z0, hz0, rz⟩ := hr1.got (y1 ys sq1)
      rw [List.getElem?_map] at hz0
      cases hc1 : (bs a0)[m]? with
      | none => rw [hc1] at hz0; cases hz0
      | some b0 =>
      rw [hc1] at hz0
      cases hz0
      show (wipe ((wipe ((σ.set i1 none).set i (some x)) [i1]).set i1 (some z)) [i1] = wipe ((σ.set i1 none).set i (some x)) [i1] ∧ _)
      rw [set_wipe]
      refine ⟨wipe_set _, ?_⟩
      dsimp only [tYes]
      rw [if_pos rfl]
      have en6 := en5.set (i := i1) (sv := .d (ej b0)) (x := some z) ⟨z, rfl, rz.le (ld5.lz (.inr rfl))⟩
      show tE Cb elt _ H6 _
      refine hel b0 (List.mem_of_getElem? hc1) _ H6 _ en6 j5 fun v6 d6 k6 H7 l7 j7 r7 ⟨ek6, ed6⟩ => ?_
      subst ek6 ed6
      have hd7 : H7 D = some (.lst vs2) := l7 D _ (Fm.mxA hM) hd5
      have lz7 : Lz (F.ext D) H7 (upd H7 D (.lst (vs2 ++ [v6]))) := fun b o nn e => by rw [upd_ne (show b ≠ D from fun z => nn (.inl (.inr z)))]; exact e
      have hN : n < as.length := (List.getElem?_eq_some_iff.mp hc).1
      refine ⟨vs2, hd7, ?_, vs2 ++ [v6], ?_, j7.own hM h0 (pl_lst hd7), ?_, upd_same, ?_⟩
      · rw [ra5.length, List.length_append, List.length_map]
        have h1 := bound n (by omega)
        have h2 := hB a0 (List.mem_of_getElem? hc)
        have h3 := List.length_take_le m (bs a0)
        have h4 : (n + 1) * B ≤ as.length * B := Nat.mul_le_mul_right B (by omega)
        rw [Nat.succ_mul] at h4
        have h5 : m < (bs a0).length := by omega
        have h6 : ((bs a0).take m).length = m := by rw [List.length_take]; omega
        exact Nat.lt_of_lt_of_le (show _ < 1000001 by omega) (by decide)
      · refine (en5.le l7).ld (D := D) (fun b o _ nb e => by rw [upd_ne nb]; exact e) (.inr rfl) (fun ii o xs e => ?_)
        have : ∃ (ii' : Nat) (xs' : List PyData), ρ[ii']? = some (SV.own o xs') := by
          by_cases hi : i = ii
          · subst hi
            by_cases hl : i < (ρ.set i1 .un).length
            · rw [List.getElem?_set_self hl] at e; cases e
            · rw [List.getElem?_eq_none (by simpa using hl)] at e; cases e
          · rw [List.getElem?_set_ne hi] at e
            by_cases hi1 : i1 = ii
            · subst hi1
              by_cases hl : i1 < ρ.length
              · rw [List.getElem?_set_self hl] at e; cases e
              · rw [List.getElem?_eq_none (by simpa using hl)] at e; cases e
            · rw [List.getElem?_set_ne hi1] at e
              exact ⟨_, _, e⟩
        obtain ⟨ii', xs2, e'⟩ := this
        exact hno _ _ _ e'
      · exact fun b o nn nb e => by rw [upd_ne nb]; exact l7 b o nn (ld5 b o nn nb e)
      · rw [take_next hc1, List.map_append, ← List.append_assoc]
        exact ((ra5.le l7.lz).le lz7).append (.cons (r7.le lz7) .nil)
    · have em : m = ys.length := by omega
      refine .inl ⟨⟨ys, sq1, by omega⟩, vs2, ?_, j5, ld.trans (l3.ld.trans ld5), hd5, ?_⟩
      · exact (en'.le l3).ld ld5 (.inr rfl) hno
      · rw [take_next hc, List.flatMap_append, List.flatMap_singleton]
        rw [em, hlen1, List.take_length] at ra5
        exact ra5
  · have en0 : n = xs'.length := by omega
    refine .inl ⟨⟨xs', sq, by omega⟩, ?_⟩
    rw [en0, hlen, List.take_length] at ra
    refine q (.ref D) _ k1 H' ?_ j'.unext (.lst ⟨hd, hS⟩ ra.unext) hfin
    exact fun b o n e => ld b o n (ne_of_none (l1 b o n e) hD) (by rw [upd_ne (ne_of_none (l1 b o n e) hD)]; exact l1 b o n e)
end
section
variable {F : Fm} {C : Cs} {ρ : Rho} {k : Nat} {Φ : Nat → PyData → Prop} {pos : Pos} {elt iter iter1 : Expr} {scope : Scope} {x x1 : Str} {px px1 : Pos} {α β : Type}
/-- [elt for x in a tuple for x1 in a tuple], as a value -/
theorem we_comp2T (ei : α → PyData) (ej : β → PyData) (bs : α → List β) (g : α → β → PyData) (B : Nat) (i i1 : Nat) (hne : i ≠ i1) (b : Blk2 C scope i x i1 x1) (hK : F.K = C.K)
    (hs : ∀ (env : Env) (v : Value), foldedSetIterable iter env v = pure v) (hs1 : ∀ (env : Env) (v : Value), foldedSetIterable iter1 env v = pure v)
    (h : WPE F C iter ρ k fun k1 d => ∃ as : List α, d = .tuple (as.map ei) ∧ as.length * B ≤ 1000000 ∧ (∀ a ∈ as, (bs a).length ≤ B) ∧
      (∀ D (a : α), a ∈ as → WPE (F.ext D) (C.blk scope) iter1 ((ρ.set i1 .un).set i (.d (ei a))) k1 (fun k2 d2 => k2 = k1 ∧ d2 = .tuple ((bs a).map ej)) ∧
        ∀ b ∈ bs a, WPE (F.ext D) (C.blk scope) elt (((ρ.set i1 .un).set i (.d (ei a))).set i1 (.d (ej b))) k1 fun k3 y => k3 = k1 ∧ y = g a b) ∧ Φ k1 (.list (as.flatMap fun a => (bs a).map (g a)))) :
    WPE F C (.ListComp elt [⟨.Name x px, iter, [], 0⟩, ⟨.Name x1 px1, iter1, [], 0⟩] scope pos) ρ k Φ :=
  of_pe (t := tLc2 (iTup C.K (tE C iter)) (gName i) tYes (iTup (C.blk scope).K (tE (C.blk scope) iter1)) (gName i1) tYes (tE (C.blk scope) elt) [i, i1] [i1]) (fun X fx => pe_lc2 (own := [(x, i), (x1, i1)]) (vs1 := [i1]) fx.calm (by rw [fx.N]; exact b.t.hN) (piT fx) (by rw [fx.N, fx.sc]; exact b.ok) (fun j hj => by simp at hj ⊢; exact .inr hj)
    (fun s H a cl fp => b.t.pg (fx.blk s H scope a cl fp)) (fun s H a cl fp => pts_nil) (fun s H a cl fp => piT (fx.blk s H scope a cl fp)) (fun s H a cl fp => b.t1.pg (fx.blk s H scope a cl fp)) (fun s H a cl fp => pts_nil) (fun s H a cl fp => peE (fx.blk s H scope a cl fp)) (hs X.env) (fun env => hs1 env))
    (we_lc2T ei ej bs g B i i1 hne hK h)
end
section
variable {F : Fm} {C : Cs} {ρ : Rho} {k : Nat} {Φ : Nat → PyData → Prop} {pos p : Pos} {a b : Expr}
end
end Dl

namespace Dl
open PySem PySem.Spec PyProof.Rows L2
/-! ### list(d.values()), a dict of the def's own -/
/-- list(o.values()) -/
def tListVals (td : TE) : TE := fun σ H Q => td σ H fun x H1 => ∃ a kvs, x = V.ref a ∧ H1 a = some (.dK kvs) ∧ ∀ p, H1 p = none → Q (.ref p) (upd H1 p (.lst (kvs.map (·.2))))
/-! ### a dict that counts: d = {}; for c in a tuple: b = e; d[b] = d.get(b, 0) + 1 -/
structure CK (bs : List Int) (kvs : List (Key × V)) : Prop where
  val : ∀ b : Int, valV kvs (Sum.inl b) = if b ∈ bs then some (V.int (bs.count b)) else none
  mem : ∀ p ∈ kvs, ∃ b ∈ bs, p = (Sum.inl b, V.int (bs.count b))
  len : kvs.length ≤ bs.length
theorem CK.nil : CK [] [] := ⟨fun b => rfl, fun _ h => (nomatch h), Nat.le_refl _⟩
theorem CK.put {bs : List Int} {kvs : List (Key × V)} (c : CK bs kvs) (b : Int) : CK (bs ++ [b]) (putK kvs (Sum.inl b) (V.int (((bs.count b : Nat) : Int) + 1))) := by
  have hc : ∀ b', ((bs ++ [b]).count b' : Nat) = bs.count b' + if b = b' then 1 else 0 := fun b' => by
    rw [List.count_append, List.count_singleton]
    by_cases h : b = b' <;> simp [h]
  have hself : V.int (((bs.count b : Nat) : Int) + 1) = V.int (((bs ++ [b]).count b : Nat) : Int) := by rw [hc, if_pos rfl]; rfl
  refine ⟨fun b' => ?_, fun p hp => ?_, ?_⟩
  · rw [valV_put, c.val]
    by_cases h : b' = b
    · subst h
      rw [if_pos rfl, if_pos (by simp), hself]
    · rw [if_neg (fun e => h (Sum.inl.inj e)), hc, if_neg (show ¬ b = b' from fun e => h e.symm), Nat.add_zero]
      by_cases hm : b' ∈ bs
      · rw [if_pos hm, if_pos (by simp [hm])]
      · rw [if_neg hm, if_neg (by simp [hm, h])]
  · have old : ∀ q ∈ kvs, ¬ q.1 = Sum.inl b → ∃ b1 ∈ bs ++ [b], q = (Sum.inl b1, V.int ((bs ++ [b]).count b1)) := fun q hq hne => by
      obtain ⟨b1, h1, rfl⟩ := c.mem q hq
      have : ¬ b = b1 := fun e => hne (by rw [e])
      exact ⟨b1, by simp [h1], by rw [hc, if_neg this, Nat.add_zero]⟩
    unfold putK at hp
    split at hp
    · obtain ⟨q, hq, rfl⟩ := List.mem_map.mp hp
      by_cases hk : q.1 = Sum.inl b
      · rw [if_pos hk, hk]
        exact ⟨b, by simp, by rw [hself]⟩
      · rw [if_neg hk]
        exact old q hq hk
    · next hn =>
      rcases List.mem_append.mp hp with hp | hp
      · refine old p hp fun e => hn ?_
        rw [List.any_eq_true]
        exact ⟨p, hp, decide_eq_true e⟩
      · rw [List.mem_singleton.mp hp]
        exact ⟨b, by simp, by rw [hself]⟩
  · have := length_putK kvs (Sum.inl b) (V.int (((bs.count b : Nat) : Int) + 1))
    have := c.len
    rw [List.length_append, List.length_singleton]
    omega
/-- the values of such a dict -/
def cntI (kvs : List (Key × V)) : List Int := kvs.map fun p => match p.2 with
  | .int i => i
  | _ => 0
theorem CK.some {bs : List Int} {kvs : List (Key × V)} (c : CK bs kvs) {i : Int} (h : i ∈ cntI kvs) : ∃ b ∈ bs, i = (bs.count b : Nat) := by
  obtain ⟨p, hp, rfl⟩ := List.mem_map.mp h
  obtain ⟨b, hb, rfl⟩ := c.mem p hp
  exact ⟨b, hb, rfl⟩
theorem CK.all {bs : List Int} {kvs : List (Key × V)} (c : CK bs kvs) {b : Int} (h : b ∈ bs) : ((bs.count b : Nat) : Int) ∈ cntI kvs := by
  have hv := c.val b
  rw [if_pos h] at hv
  unfold valV at hv
  rw [Option.map_eq_some_iff] at hv
  obtain ⟨p, hp, e⟩ := hv
  refine List.mem_map.mpr ⟨p, List.mem_of_find?_eq_some hp, ?_⟩
  rw [e]
def Fm.dic (F : Fm) (o : Addr) (kvs : List (Key × V)) : Fm := { F.ext o with
  H0 := upd F.H0 o (.dK kvs)
  xa := fun k H g b u hm hu e => by
    by_cases hb : b = o
    · rw [hb, upd_same] at e; cases e; exact absurd (F.xi _ hu) nx_dK
    · rw [upd_ne hb] at e; exact F.xa k H g b u hm hu e }
section
variable {F : Fm} {C : Cs} {ρ : Rho} {k : Nat} {P : DE} {Φ : Nat → PyData → Prop} {x xc xb : Str} {px dp pc pb p3 p4 p5 p6 p7 p8 p9 p10 p11 p12 s1 s2 s3 s4 : Pos} {j1 j2 : Nat} {iter eb : Expr} {rest : List Stmt}
end
end Dl

namespace Dl
open PySem PySem.Spec PyProof.Rows L2
/-! ### xs[e:] of a tuple -/
section
variable {F : Fm} {C : Cs} {ρ : Rho} {k : Nat} {Φ : Nat → PyData → Prop} {pos p2 : Pos} {a e : Expr}
end
end Dl

namespace Dl
open PySem PySem.Spec PyProof.Rows L2
/-! ### zip of two tuples -/
section
variable {F : Fm} {C : Cs} {ρ : Rho} {k : Nat} {Φ : Nat → PyData → Prop} {P : DE} {pos spos : Pos} {elt e e2 c : Expr} {scope : Scope} {x x1 : Str} {px px1 p3 pr pr2 : Pos} {kk : Nat}
theorem pi2_zt {H1 : Hp} {a b : Addr} {xs ys : List V} {ds es : List PyData} (ha : H1 a = some (.tup xs) ∧ ¬ F.S a) (hr : RpAll F H1 xs ds) (hb : H1 b = some (.tup ys) ∧ ¬ F.S b) (hs : RpAll F H1 ys es) (hl : ds.length = es.length) : PI2 F (RZ.ItzT F.K a b) H1 (ds.zip es) where
  go := fun D hD n d hd => by
    obtain ⟨h1, h2⟩ := List.getElem?_zip_eq_some.mp hd
    have rr : Rp (F.ext D) (upd H1 D (.lst [])) (.ref a) (.tuple ds) := Rep.ext (.tup ha hr) hD
    have ss : Rp (F.ext D) (upd H1 D (.lst [])) (.ref b) (.tuple es) := Rep.ext (.tup hb hs) hD
    cases rr with
    | @tup _ xs' _ ha' hr' =>
    cases ss with
    | @tup _ ys' _ hb' hs' =>
    have hn : n < xs'.length := by rw [hr'.length]; exact (List.getElem?_eq_some_iff.mp h1).1
    have hn2 : n < ys'.length := by rw [hs'.length]; exact (List.getElem?_eq_some_iff.mp h2).1
    obtain ⟨x', hx', rx'⟩ := hr'.got (List.getElem?_eq_getElem hn)
    obtain ⟨y', hy', ry'⟩ := hs'.got (List.getElem?_eq_getElem hn2)
    rw [h1] at hx'
    rw [h2] at hy'
    cases hx'
    cases hy'
    refine ⟨xs'[n], ys'[n], rx', ry', fun H' lz => ?_⟩
    have sq : SqT F.K H' a xs' := sqt_of (S := (F.ext D).S) ⟨lz _ _ (Fm.sxA ha'.2) ha'.1, ha'.2⟩
    have st : SqT F.K H' b ys' := sqt_of (S := (F.ext D).S) ⟨lz _ _ (Fm.sxA hb'.2) hb'.1, hb'.2⟩
    refine ⟨⟨xs', ys', xs'[n], ys'[n], sq, st, List.getElem?_eq_getElem hn, List.getElem?_eq_getElem hn2⟩, ?_⟩
    rintro v H'' ⟨T, x, y, rfl, hT, rfl, hx, hy⟩
    have e1 := hx xs' sq
    have e2 := hy ys' st
    rw [List.getElem?_eq_getElem hn] at e1
    rw [List.getElem?_eq_getElem hn2] at e2
    cases e1
    cases e2
    exact ⟨T, rfl, hT, rfl⟩
  stop := fun D hD H' lz => by
    have rr : Rp (F.ext D) (upd H1 D (.lst [])) (.ref a) (.tuple ds) := Rep.ext (.tup ha hr) hD
    have ss : Rp (F.ext D) (upd H1 D (.lst [])) (.ref b) (.tuple es) := Rep.ext (.tup hb hs) hD
    cases rr with
    | @tup _ xs' _ ha' hr' =>
    cases ss with
    | @tup _ ys' _ hb' hs' =>
    have sq : SqT F.K H' a xs' := sqt_of (S := (F.ext D).S) ⟨lz _ _ (Fm.sxA ha'.2) ha'.1, ha'.2⟩
    have st : SqT F.K H' b ys' := sqt_of (S := (F.ext D).S) ⟨lz _ _ (Fm.sxA hb'.2) hb'.1, hb'.2⟩
    refine ⟨xs', ys', sq, st, .inl ?_⟩
    rw [List.length_zip, hr'.length]; omega
end
end Dl

namespace Dl
open PySem PySem.Spec PyProof.Rows L2
/-! ### x, y, z = (list(range(a)), e2, e3), the first an own list; the own list against [] -/
section
variable {F : Fm} {C : Cs} {ρ : Rho} {k : Nat} {P : DE} {Φ : Nat → PyData → Prop} {Ψ : Nat → Bool → Prop} {pos p pl p1 p2 p3 p4 pt pr pr2 px pq : Pos} {a e2 e3 : Expr} {x x1 x2 x3 : Str} {kk kt : Nat} {rest : List Stmt} {o : Addr}
end
end Dl

namespace Dl
open PySem PySem.Spec PyProof.Rows L2
/-! ### t.index(i), a tuple of ints -/
def rTupIx (K : PySem.W.Frag) : V → List V → Hp → VK → Prop := fun x xs H Q => ∃ p, ∃ ys : List Int, ∃ (z : Int) (j : Nat), x = .ref p ∧ xs = [.int z] ∧ SqT K H p (ys.map V.int) ∧ ys[j]? = some z ∧ (∀ m, m < j → ys[m]? ≠ some z) ∧ Q (.int (j : Nat)) H
/-! ### t[::-1], a tuple -/
section
variable {prog : Program} {w : World} {A : Around} {E : Value → Shared → Prop} {s : Shared}
theorem sliceApplied_back {sl : Addr} {n : Nat} {t : Tok} {Q : Int × Int × Nat → Shared → Prop} (hs : s.heap.IsSliceOf sl .none .none (.int (-1) t)) (h : Q ((n : Int) - 1, -1, n) s) : wpAny (model prog w) A (Builtin.Slice.sliceApplied (.ref sl) (pure (n : Int))) Q E s := by
  obtain ⟨os, hos, hcs, hds⟩ := id hs
  unfold Builtin.Slice.sliceApplied Builtin.Slice.sliceFields
  refine wpAny_bind (wpAny_bind (wpAny_field hos hds (x := .none) rfl (wpAny_bind (wpAny_field hos hds (x := .none) rfl (wpAny_bind (wpAny_field hos hds (x := .int (-1) t) rfl (wpAny_pure ?_)))))))
  refine wpAny_bind (HT.slicePart_ (.int (-1) t) ?_)
  show wpAny _ _ (if ((-1 : Int) == 0) = true then _ else _) _ _ s
  rw [if_neg (by decide)]
  refine wpAny_bind (HT.slicePart_ .none (wpAny_bind (HT.slicePart_ .none (wpAny_bind (wpAny_pure ?_)))))
  show wpAny _ _ (pure ((n : Int) - 1, (-1 : Int), Builtin.Slice.slicePlaces ((n : Int) - 1) (-1) (-1))) _ _ s
  have e : Builtin.Slice.slicePlaces ((n : Int) - 1) (-1) (-1) = n := by
    unfold Builtin.Slice.slicePlaces
    have h1 : ¬ ((-1 : Int) > 0) := by decide
    simp only [h1, if_false, show (- -1 : Int) = 1 by decide, Int.ediv_one]
    split <;> omega
  rw [e]
  exact wpAny_pure h
theorem pick_back (xs : Array Value) : ((List.range xs.size).filterMap fun (m : Nat) => xs[((xs.size : Int) - 1 + (m : Int) * (-1)).toNat]?).toArray = xs.toList.reverse.toArray := by
  have e : (List.range xs.size).filterMap (fun (m : Nat) => xs[((xs.size : Int) - 1 + (m : Int) * (-1)).toNat]?) = ((List.range xs.size).map fun k => xs.size - 1 - k).filterMap (xs[·]?) := by
    rw [List.filterMap_map]
    have e2 : (fun (m : Nat) => xs[((xs.size : Int) - 1 + (m : Int) * (-1)).toNat]?) = (fun x => xs[x]?) ∘ fun k => xs.size - 1 - k := by
      funext m
      show xs[_]? = xs[xs.size - 1 - m]?
      rw [show ((xs.size : Int) - 1 + (m : Int) * (-1)).toNat = xs.size - 1 - m by omega]
    rw [e2]
  rw [e, PySem.W.krv_range, List.filterMap_reverse, PySem.W.krv_all]
theorem getItem_tuple_back {t sl : Addr} {items : Array Value} {tk : Tok} {Q : Value → Shared → Prop} (ht : IsTup s.heap t items) (hs : s.heap.IsSliceOf sl .none .none (.int (-1) tk))
    (h : Q (.ref s.heap.objs.size) { s with heap := s.heap.push { cls := .type "tuple", data := .seq items.toList.reverse.toArray } }) (hsz : items.size ≤ sizeLine) : wpAny (model prog w) A (getItem (.ref t) (.ref sl)) Q E s := by
  have htake : sizeOk (.seq items.toList.reverse.toArray) := by
    show items.toList.reverse.toArray.size ≤ sizeLine
    rw [List.size_toArray, List.length_reverse, Array.length_toList]
    exact hsz
  obtain ⟨os, hos, hcs, hds⟩ := id hs
  have hTs : s.TypeIs (.ref sl) "slice" := ⟨os, hos, hcs⟩
  unfold getItem
  try with_reducible refine wpAny_holding ?_
  first | refine wpAny_bind (wpAny_pure ?_) | skip
  refine wpAny_bind (wpAny_sequenceKey ht.typeIs (by decide) ?_)
  refine wpAny_bind (wpAny_callSpecial?_slot (name := Str.ofString "__getitem__") ht.typeIs PyProof.Rows.slot_tuple_getitem
    (wpAny_call_entry PyProof.Rows.slot_tuple_getitem ht.typeIs entry_tuple_getitem ?_ (args_tuple_getitem _ _)))
  show wpAny _ _ (Builtin.Tuple.tupleItemsOf (.ref t) >>= _) _ _ s
  refine wpAny_bind (tupleItemsOf_ ht ?_)
  refine wpAny_bind (wpAny_typeOf hTs ?_)
  rw [if_pos (by decide)]
  refine wpAny_bind (sliceApplied_back hs ?_)
  have hno : ¬ ((((items.size : Int) - 1) == 0 && (-1 : Int) == 1 && items.size == items.size) = true) := by
    rw [show ((-1 : Int) == 1) = false by decide, Bool.and_false, Bool.false_and]
    decide
  show wpAny _ _ (if (((items.size : Int) - 1) == 0 && (-1 : Int) == 1 && items.size == items.size) = true then _ else _) _ _ s
  rw [if_neg hno, pick_back]
  first
    | exact wpAny_bind (m := Builtin.Tuple.tupleExact _) (wpAny_newObj_type (wpAny_pure ⟨_, rfl, wpAny_pure h⟩) htake)
    | exact wpAny_bind (m := Builtin.Tuple.tupleExact _) (wpAny_newObj_type (wpAny_bind (wpAny_pure (wpAny_pure ⟨_, rfl, wpAny_pure h⟩))) htake)
    | exact wpAny_bind (wpAny_bind (m := Builtin.Tuple.tupleExact _) (wpAny_newObj_type (wpAny_pure (wpAny_pure ⟨_, rfl, wpAny_pure h⟩)) htake))
    | exact wpAny_bind (wpAny_bind (m := Builtin.Tuple.tupleExact _) (wpAny_newObj_type (wpAny_pure ⟨_, rfl, wpAny_pure h⟩) htake))
end
def tRevT (K : PySem.W.Frag) (te : TE) : TE := fun σ H Q => te σ H fun x H1 => ∃ a xs, x = .ref a ∧ SqT K H1 a xs ∧ ∀ p, H1 p = none → Q (.ref p) (upd H1 p (.tup xs.reverse))
theorem pe_revT {X : Cx} {e : Expr} {te : TE} {k : Nat} {p1 p2 p3 pos : Pos} (he : PE X e te) : PE X (.Subscript e (.Slice none none (some (.UnaryOp .USub (.Constant (.int 1) k p1) p2)) p3) pos) (tRevT X.K te) := by
  refine ⟨fun pins s σ H Q I h => ?_⟩
  refine Subscript_ (thn (he.run pins s σ H _ I h) fun v s1 ⟨x, H1, I1, r1, q1⟩ => ?_)
  obtain ⟨a, xs, ex, hx, q⟩ := q1
  subst ex
  cases r1
  have hst : PO X (some (.UnaryOp .USub (.Constant (.int 1) k p1) p2)) (tPart (tUn (rU fun i => .int (-i)) (tC (.int 1)))) := po_some (pe_un un_neg pe_int)
  refine wpAny_Slice (thn (po_none.run pins s1 σ H1 (fun o H2 => o = none ∧ H2 = H1) I1 ⟨rfl, rfl⟩) fun vl s2 ⟨l, H2, I2, pl, el, e2⟩ => ?_)
  subst el e2
  refine thn (po_none.run pins s2 σ H2 (fun o H3 => o = none ∧ H3 = H2) I2 ⟨rfl, rfl⟩) fun vu s3 ⟨u, H3, I3, pu, eu, e3⟩ => ?_
  subst eu e3
  refine thn (hst.run pins s3 σ H3 (fun o H4 => o = some (-1) ∧ H4 = H3) I3 ⟨1, rfl, -1, rfl, rfl, rfl⟩) fun vs s4 ⟨o, H4, I4, ps, eo, e4⟩ => ?_
  subst eo e4
  have I5 : Inv X pins σ H4 { s4 with heap := s4.heap.push { cls := .type "slice", data := .fields #[vl, vu, vs] } } := I4.kept (t' := s4.toks) fun b ob q => Heap.get?_push_of_some _ q
  obtain ⟨its, r, ht, hz⟩ := I5.tuple hx
  have hlen := r.length
  cases pl
  cases pu
  cases ps
  show wpAny (model X.prog X.w) X.A (subscriptTail e (.Slice none none (some (.UnaryOp .USub (.Constant (.int 1) k p1) p2)) p3) (.ref a) (.ref s4.heap.objs.size)) (EP X pins σ Q) X.xe _
  refine tail_any (ops := [.ref a, .ref s4.heap.objs.size]) ht.typeIs (PyProof.Rows.slot_tuple_getitem.lookup) ?_ (by with_unfolding_all rfl)
  refine getItem_tuple_back ht (Heap.IsSliceOf.new _ _ _ _) ?_ (by rw [List.size_toArray]; omega)
  refine ⟨.ref _, _, I5.laid (t' := s4.toks) (o := .tup xs.reverse) (fun b ob q => Heap.get?_push_of_some _ q) (Nat.le_refl _) ?_, rfl, q _ (I5.hok.fresh (Nat.le_refl _))⟩
  exact ⟨by rw [List.length_reverse]; exact hz, _, r.reverse, _, Heap.get?_push_size _ rfl, rfl, _, rfl⟩
section
variable {F : Fm} {C : Cs} {ρ : Rho} {k : Nat} {Φ : Nat → PyData → Prop} {pos ap cp p1 p2 p3 : Pos} {a e : Expr} {jj : Nat}
theorem we_revT (hK : F.K = C.K) (h : WPE F C a ρ k fun k1 x => ∃ ds, x = .tuple ds ∧ Φ k1 (.tuple ds.reverse)) : WPE F C (.Subscript a (.Slice none none (some (.UnaryOp .USub (.Constant (.int 1) jj p1) p2)) p3) pos) ρ k Φ :=
  of_pe (t := tRevT C.K (tE C a)) (fun X fx => by rw [← fx.K]; exact pe_revT (peE fx)) fun σ H Q en j q => by
    show tE C a σ H _
    refine h σ H _ en j fun v d k1 H1 l1 j1 r ⟨ds, e, p⟩ => ?_
    subst e
    cases r with
    | @tup b xs _ hb hr =>
    have rev : ∀ (ds : List PyData) (vs : List V), RpAll F H1 vs ds → RpAll F H1 vs.reverse ds.reverse := fun ds => by
      induction ds with
      | nil => intro vs h; cases h; exact .nil
      | cons d ds ih =>
        intro vs h
        cases h with
        | cons r1 r2 => rw [List.reverse_cons, List.reverse_cons]; exact (ih _ r2).append (.cons r1 .nil)
    exact ⟨b, xs, rfl, hK ▸ sqt_of hb, fun l hl => q _ _ k1 _ (l1.trans (.new hl)) (j1.new hl) (rep_newT j1 hl (rev _ _ hr)) p⟩
end
end Dl

namespace Dl
open PySem PySem.Spec PyProof.Rows L2
/-! ### data of any kind in the heap, dicts too -/
section
variable {X : Cx} {pins : List (Addr × Obj)} {σ : L2.St} {H : Hp} {s : Shared}
end
/-! ### repr of data of any kind: where the texts come from -/
section
variable {X : Cx} {pins : List (Addr × Obj)} {σ : L2.St} {H : Hp} {s : Shared} {K : PySem.W.Frag} {S : Addr → Prop}
/-- the text of one datum, and the objects that it looks at -/
def TxOk (X : Cx) (h : Heap) (u : Value) (n : Nat) (t : Str) : Prop := ∃ bs, ReadAtMost h n bs ∧ ReprK X.prog X.w bs h n u t
def TxAll (X : Cx) (h : Heap) (us : List Value) (n : Nat) (ts : List Str) : Prop := ∃ bs, ReadAtMost h n bs ∧ ReprAllK X.prog X.w bs h n us ts
end
section
variable {F : Fm} {C : Cs} {ρ : Rho} {k : Nat} {Φ : Nat → PyData → Prop} {Ψ : Nat → Bool → Prop} {e a b c : Expr} {pos p p1 p2 : Pos} {x : Str}
end
section
variable {F : Fm} {C : Cs} {ρ : Rho} {k : Nat} {Φ : Nat → PyData → Prop} {pos p2 : Pos} {a e : Expr}
end
/-! ### data whose repr is within the line, dicts too -/
structure FineA (n dp : Nat) (d : PyData) : Prop where
  sh : d.showable = true
  dp : d.depth ≤ dp
  sz : d.shown.length ≤ n
theorem FineA.ok {n dp : Nat} {d : PyData} (h : FineA n dp d) (hn : n ≤ 16000000 := by decide) (hd : dp ≤ 60 := by decide) : d.showable = true ∧ d.depth ≤ 60 ∧ d.shown.length ≤ sizeLine :=
  ⟨h.sh, Nat.le_trans h.dp hd, Nat.le_trans h.sz (Nat.le_trans hn (by decide))⟩
theorem FineA.mono {n n' dp dp' : Nat} {d : PyData} (h : FineA n dp d) (hn : n ≤ n' := by decide) (hd : dp ≤ dp' := by decide) : FineA n' dp' d := ⟨h.sh, Nat.le_trans h.dp hd, Nat.le_trans h.sz hn⟩
theorem Fine.a {n dp : Nat} {d : PyData} (h : Fine n dp d) : FineA n dp d := ⟨h.sh, h.dp, h.sz⟩
section
variable {n dp : Nat}
end
end Dl

namespace Dl
open PySem PySem.Spec PyProof.Rows L2
/-! ### the frame of a law with decks -/
def drawFmX (K : PySem.W.Frag) (S : Addr → Prop) (H : Hp) (st a : Addr) (hS : ∀ b, DqM st a b → S b) : Fm where
  K := K
  S := S
  M := DqM st a
  H0 := H
  G := fun k H' => DqG st a k H' ∧ ∀ b o, ¬ DqM st a b → IsX o → H b = some o → ∃ o', IsX o' ∧ H' b = some o'
  ms := hS
  gm := fun k H' H2 g e hx => ⟨g.1.at e, fun b o nb x q => by
    obtain ⟨o', x', q'⟩ := g.2 b o nb x q
    exact ⟨o', x', hx b o' (.inl x') q'⟩⟩
  gl := fun k H g b hb => g.1.live b hb
  X := IsX
  xi := fun _ h => h
  xa := fun k H' g b o nb x q => g.2 b o nb x q
section
variable {P : Program} {w : World} {K : PySem.W.Frag} {mg : Str → Option Value} {base : Heap}
end
/-! ### *xs in a display; f-strings -/
section
variable {F : Fm} {C : Cs} {ρ : Rho} {k : Nat} {Φ : Nat → PyData → Prop} {Ψ : Nat → Bool → Prop} {e a : Expr} {es : List Expr} {pos p : Pos}
def WJ (F : Fm) (C : Cs) (es : List Expr) (ρ : Rho) (k : Nat) (acc : Str) (Θ : Nat → Str → Prop) : Prop :=
  ∃ ts, (∀ X, Fits C X → PJ X es ts) ∧ ∀ (σ : L2.St) (H : Hp) (Q : Str → Hp → Prop), EnvOk F H σ ρ → J F k H → (∀ out k' H', Le F H H' → J F k' H' → Θ k' out → Q out H') → tJs ts acc σ H Q
theorem wj_int {acc : Str} {Θ : Nat → Str → Prop} {ts : List TE} (hts : ∀ X, Fits C X → PJ X es ts) (h : WPE F C e ρ k fun k1 d => ∃ i : Int, d = .int i ∧ i.natAbs < 10 ^ 30 ∧ (acc ++ (toString i : String)).length ≤ 100000 ∧ ∀ (σ : L2.St) (H : Hp) (Q : Str → Hp → Prop), EnvOk F H σ ρ → J F k1 H → (∀ out k' H', Le F H H' → J F k' H' → Θ k' out → Q out H') → tJs ts (acc ++ (toString i : String)) σ H Q) : WJ F C (.FormattedValue e (-1) none pos :: es) ρ k acc Θ :=
  ⟨_, fun X fx => .cons (pe_fmt (peE fx)) (hts X fx), fun σ H Q en j q => by
    show tE C e σ H _
    refine h σ H _ en j fun v d k1 H1 l1 j1 r1 ⟨i, ed, hi, hz, hh⟩ => ?_
    subst ed
    cases r1
    refine .inr ⟨i, rfl, ?_, ?_⟩
    · by_cases h0 : i.natAbs = 0
      · rw [h0]; decide
      · exact (Nat.log2_lt h0).mpr (Nat.lt_trans hi (by decide +kernel))
    · refine ⟨_, rfl, Nat.le_trans hz (by decide), ?_⟩
      exact hh σ H1 Q (en.le l1) j1 fun out k' H' l' j' p => q out k' H' (l1.trans l') j' p⟩
def jt (C : Cs) : Expr → TE
  | .Constant (.str x) _ _ => tC (.str x)
  | .FormattedValue e _ _ _ => tFmt (tE C e)
  | _ => fun _ _ _ => False
def isJ : Expr → Bool
  | .Constant (.str _) _ _ => true
  | .FormattedValue _ c none _ => decide (c = -1)
  | _ => false
theorem pj_of {X : Cx} (fx : Fits C X) : ∀ es : List Expr, es.all isJ = true → PJ X es (es.map (jt C))
  | [], _ => .nil
  | e :: es, h => by
    rw [List.all_cons, Bool.and_eq_true] at h
    refine .cons ?_ (pj_of fx es h.2)
    have h1 := h.1
    unfold isJ at h1
    split at h1
    · exact pe_str
    · have e1 := of_decide_eq_true h1
      subst e1
      exact pe_fmt (peE fx)
    · cases h1
def WKJ (F : Fm) (C : Cs) (es : List Expr) (ρ : Rho) (k : Nat) (acc : Str) (Θ : Nat → Str → Prop) : Prop :=
  ∀ (σ : L2.St) (H : Hp) (Q : Str → Hp → Prop), EnvOk F H σ ρ → J F k H → (∀ out k' H', Le F H H' → J F k' H' → Θ k' out → Q out H') → tJs (es.map (jt C)) acc σ H Q
theorem wkj_nil {acc : Str} {Θ : Nat → Str → Prop} (h : Θ k acc) : WKJ F C [] ρ k acc Θ := fun σ H Q en j q => q acc k H .refl j h
theorem wkj_str {acc x : Str} {jj : Nat} {Θ : Nat → Str → Prop} (hz : (acc ++ x).length ≤ 100000) (h : WKJ F C es ρ k (acc ++ x) Θ) : WKJ F C (.Constant (.str x) jj pos :: es) ρ k acc Θ :=
  fun σ H Q en j q => ⟨x, rfl, Nat.le_trans hz (by decide), h σ H Q en j q⟩
theorem wkj_int {acc : Str} {Θ : Nat → Str → Prop} (h : WPE F C e ρ k fun k1 d => ∃ i : Int, d = .int i ∧ i.natAbs < 10 ^ 30 ∧ (acc ++ (toString i : String)).length ≤ 100000 ∧ WKJ F C es ρ k1 (acc ++ (toString i : String)) Θ) : WKJ F C (.FormattedValue e (-1) none pos :: es) ρ k acc Θ :=
  fun σ H Q en j q => by
    show tE C e σ H _
    refine h σ H _ en j fun v d k1 H1 l1 j1 r1 ⟨i, ed, hi, hz, hh⟩ => ?_
    subst ed
    cases r1
    refine .inr ⟨i, rfl, ?_, ?_⟩
    · by_cases h0 : i.natAbs = 0
      · rw [h0]; decide
      · exact (Nat.log2_lt h0).mpr (Nat.lt_trans hi (by decide +kernel))
    · refine ⟨_, rfl, Nat.le_trans hz (by decide), ?_⟩
      exact hh σ H1 Q (en.le l1) j1 fun out k' H' l' j' p => q out k' H' (l1.trans l') j' p
theorem we_joinedK {v1 v2 : Expr} {rest : List Expr} (ok : (v1 :: v2 :: rest).all isJ = true) (h : WKJ F C (v1 :: v2 :: rest) ρ k Str.empty fun k' out => Φ k' (.str out)) : WPE F C (.JoinedStr (v1 :: v2 :: rest) pos) ρ k Φ :=
  of_pe (fun X fx => pe_joined (pj_of fx _ ok)) fun σ H Q en j q => h σ H _ en j fun out k' H' l j' p => q _ _ k' H' l j' (.str _) p
end
end Dl

namespace Dl
open PySem PySem.Spec PyProof.Rows L2
/-! ### __init__ of a deck -/
def initFm (K : PySem.W.Frag) (S : Addr → Prop) (H0 : Hp) (C a dx : Addr) (d : Nat × List Int) : Fm where
  K := K
  S := fun b => S b ∨ b = a ∨ b = dx
  M := fun b => b = a ∨ b = dx
  H0 := H0
  G := fun k H => (k = 0 ∧ H a = some (.ins C dx []) ∧ H dx = some (.own a)) ∨ (k = 1 ∧ ∃ s t, PiG K C a dx s t ([d], []) H ∧ H0 s = none ∧ H0 t = none)
  ms := fun b h => .inr h
  gm := fun k H H' g hm hx => by
    rcases g with ⟨e, h1, h2⟩ | ⟨e, s, t, h, hs, ht⟩
    · exact .inl ⟨e, (hm a (.inl rfl)).trans h1, (hm dx (.inr rfl)).trans h2⟩
    · exact .inr ⟨e, s, t, h.at (hm a (.inl rfl)) (hm dx (.inr rfl)) hx, hs, ht⟩
  gl := fun k H g b hb => by
    rcases g with ⟨e, h1, h2⟩ | ⟨e, s, t, h, hs, ht⟩
    · rcases hb with rfl | rfl
      · rw [h1]; exact fun z => nomatch z
      · rw [h2]; exact fun z => nomatch z
    · rcases hb with rfl | rfl
      · rw [h.ia]; exact fun z => nomatch z
      · rw [h.id]; exact fun z => nomatch z
structure IsInit (F : Fm) (C a dx : Addr) (d : Nat × List Int) : Prop where
  ex : ∃ S H0, F = initFm F.K S H0 C a dx d
section
variable {P : Program} {w : World} {K : PySem.W.Frag} {mg : Str → Option Value} {base : Heap} {C : Addr}
end
section
variable {X : Cx}
end
section
variable {F : Fm} {C : Cs} {Cl a dx : Addr} {ρ : Rho} {P : DE} {y z : Str} {p1 p2 p3 p4 p5 p6 p7 p8 p9 : Pos} {d : Nat × List Int}
end
end Dl

namespace Dl
open PySem PySem.Spec PyProof.Rows L2
theorem RpStrs {F : Fm} {H : Hp} : ∀ {bs : List Str} {vs : List V}, RpAll F H vs (bs.map PyData.str) → vs = bs.map V.str
  | [], _, h => by cases h; rfl
  | b :: bs, _, h => by
    cases h with
    | cons h1 h2 => cases h1; rw [RpStrs h2]; rfl
section
variable {F : Fm} {C : Cs} {Cl a dx : Addr} {mk : Pg → Nat} {g : Pg} {ρ : Rho} {k : Nat} {Φ : Nat → PyData → Prop} {e : Expr} {pos p py apos p1 : Pos} {x y m : Str} {Pre : Pg → List PyData → Prop} {R : Pg → List PyData → Pg → PyData → Prop} {j : Nat}
/-- sep.join(texts), sep written -/
theorem we_joinS {sep : Str} {jj : Nat} (hbase : ∀ env : Env, attributeBase (.Constant (.str sep) jj p1) "join" env (eval (.Constant (.str sep) jj p1) env) = eval (.Constant (.str sep) jj p1) env) (hline : (apos.endLine == pos.line) = true) (hs : ∀ env : Env, starEach [e] env = [(false, eval e env)]) (hK : F.K = C.K)
    (h : WPE F C e ρ k fun k1 d => ∃ ys : List Str, seqD d = some (ys.map PyData.str) ∧ (ys.map (·.length)).sum + ys.length * sep.length ≤ 16777216 ∧ Φ k1 (.str (Txt.join sep ys))) : WPE F C (.Call (.Attribute (.Constant (.str sep) jj p1) "join" apos) [e] [] pos) ρ k Φ :=
  of_pe (t := tM1 (fun x xs H Q => ∃ a p, ∃ ys : List Str, x = .str a ∧ xs = [.ref p] ∧ (SqL C.K H p (ys.map V.str) ∨ SqT C.K H p (ys.map V.str)) ∧ (ys.map (·.length)).sum + ys.length * a.length ≤ 16777216 ∧ Q (.str (Txt.join a ys)) H) (tC (.str sep)) (tE C e)) (fun X fx => by rw [← fx.K]; exact pe_join pe_str (peE fx) (hs X.env) (hbase X.env) hline) fun σ H Q en j q => by
    refine ⟨⟨sep, rfl⟩, ?_⟩
    show tE C e σ H _
    refine h σ H _ en j fun v d k1 H1 l1 j1 r1 ⟨ys, hd, hz, hp⟩ => ?_
    cases r1 with
    | @lst b xs _ hb hr =>
      cases hd
      exact ⟨sep, b, ys, rfl, rfl, .inl (RpStrs hr ▸ hK ▸ sql_of hb), hz, q _ _ k1 H1 l1 j1 (.str _) hp⟩
    | @tup b xs _ hb hr =>
      cases hd
      exact ⟨sep, b, ys, rfl, rfl, .inr (RpStrs hr ▸ hK ▸ sqt_of hb), hz, q _ _ k1 H1 l1 j1 (.str _) hp⟩
    | _ => cases hd
/-- str(a number) -/
theorem we_strI (hg : C.sc.names.lookup ("str" : Str) = some .globalImplicit) (hm : C.mg ("str" : Str) = none) (hs : ∀ env : Env, starEach [e] env = (false, eval e env) :: starEach [] env) (h : WPE F C e ρ k fun k1 d => ∃ i : Int, d = .int i ∧ i.natAbs < 10 ^ 30 ∧ Φ k1 (.str (toString i : String))) : WPE F C (.Call (.Name "str" p) [e] [] pos) ρ k Φ :=
  we_callTy (T := "str") (fun X fx => call_str_int) hg hm (by decide +kernel) (wa_one hs (h.imp fun k1 x ⟨i, e, hi, p⟩ => fun H vs Q j r q => by
    subst e
    cases r with
    | cons r1 r2 =>
    cases r2
    cases r1
    refine ⟨i, rfl, ?_, q _ _ k1 H .refl j (.str _) p⟩
    by_cases h0 : i.natAbs = 0
    · rw [h0]; decide
    · exact (Nat.log2_lt h0).mpr (Nat.lt_trans hi (by decide +kernel)))) (by decide) (by decide) hs
end
theorem repAll_at {K : PySem.W.Frag} {S : Addr → Prop} {H : Hp} {vs : List V} {ds : List PyData} {i : Int} {d : PyData} (r : RepAll K S H vs ds) (h : atI ds i = some d) : ∃ v, atI vs i = some v ∧ Rep K S H v d := by
  have hl := r.length
  unfold atI at h ⊢
  rw [hl]
  cases e : ixN ds.length i with
  | none => rw [e] at h; cases h
  | some n => rw [e] at h; exact r.get h
section
variable {F : Fm} {C : Cs} {ρ : Rho} {k : Nat} {Φ : Nat → PyData → Prop} {ie : Expr} {pos px : Pos} {x : Str}
/-- x[i], x the own list, i any number in bounds -/
theorem we_ixOwnZ (i : Nat) {ow : Addr} {xs : List PyData} (hK : F.K = C.K) (hN : C.N[i]? = some x) (hv : Vis C.sc x) (hr : ρ[i]? = some (.own ow xs)) (hs : PlainIx ie)
    (h : WPE F C ie ρ k fun k1 d => ∃ (j : Int) (z : PyData), d = .int j ∧ atI xs j = some z ∧ Φ k1 z) (hd : (x == ("__debug__" : Str)) = false := by decide) (hcd : (x == ("__classdict__" : Str)) = false := by decide) :
    WPE F C (.Subscript (.Name x px) ie pos) ρ k Φ :=
  of_pe (fun X fx => pe_ix (ixlK fx) (pe_var (i := i) (by rw [fx.N]; exact hN) (by rw [fx.sc]; exact hv) hd hcd) (peE fx) hs) fun σ H Q en j q => by
    obtain ⟨hσ, hS, hM, h0, vs, hv', rv⟩ := en.own hr
    refine ⟨_, hσ, ?_⟩
    show tE C ie σ H _
    refine h σ H _ en j fun v d k1 H1 l1 j1 r ⟨jj, z, ed, ha, p⟩ => ?_
    subst ed
    cases r
    obtain ⟨v, hat, ry⟩ := repAll_at rv ha
    exact ⟨ow, vs, _, v, rfl, rfl, SqL.of (l1 ow _ (Fm.mxA hM) hv'), hat, q _ _ k1 H1 l1 j1 (ry.le l1.lz) p⟩
end
end Dl

namespace Dl
open PySem PySem.Spec PyProof.Rows L2
/-! ### texts -/
section
variable {F : Fm} {C : Cs} {ρ : Rho} {k : Nat} {Φ : Nat → PyData → Prop} {a b e : Expr} {es : List Expr} {pos : Pos}
/-- {e} of a text in an f-string -/
theorem wkj_txt {acc : Str} {Θ : Nat → Str → Prop} (h : WPE F C e ρ k fun k1 d => ∃ x : Str, d = .str x ∧ x.length ≤ 100000 ∧ (acc ++ x).length ≤ 100000 ∧ WKJ F C es ρ k1 (acc ++ x) Θ) : WKJ F C (.FormattedValue e (-1) none pos :: es) ρ k acc Θ :=
  fun σ H Q en j q => by
    show tE C e σ H _
    refine h σ H _ en j fun v d k1 H1 l1 j1 r1 ⟨x, ed, hx, hz, hh⟩ => ?_
    subst ed
    cases r1
    refine .inl ⟨x, rfl, Nat.le_trans hx (by decide), ⟨_, rfl, Nat.le_trans hz (by decide), ?_⟩⟩
    exact hh σ H1 Q (en.le l1) j1 fun out k' H' l' j' p => q out k' H' (l1.trans l') j' p
/-- x + y of texts -/
theorem we_addS (h : WPE F C a ρ k fun k1 x => WPE F C b ρ k1 fun k2 y => ∃ i j : Str, x = .str i ∧ y = .str j ∧ i.length + j.length ≤ 1000000 ∧ Φ k2 (.str (i ++ j))) : WPE F C (.BinOp a .Add b pos) ρ k Φ :=
  we_bin (fun X _ => op_add_str) (h.imp fun k1 x h1 => h1.imp fun k2 y ⟨i, j, e1, e2, hz, p⟩ => by
    subst e1 e2
    intro H vx vy Q jj rx ry q
    cases rx
    cases ry
    exact ⟨i, j, rfl, rfl, Nat.le_trans hz (by decide), q _ _ k2 H .refl jj (.str _) p⟩)
end
section
variable {F : Fm} {C : Cs} {ρ : Rho} {k : Nat} {P : DE} {x1 x2 : Str} {kk : Nat} {p p1 p2 tp pos : Pos} {a : Expr} {body : List Stmt}
end
end Dl

namespace Dl
open PySem PySem.Spec PyProof.Rows L2
/-! ### y = tuple(sorted(x + (left.pop(e),))): values over an expression that changes an own list -/
section
variable {F : Fm} {C : Cs} {ρ : Rho} {k : Nat} {P : DE} {Ξ : Nat → List PyData → PyData → Prop} {o : Addr} {te : TE}
end
section
variable {F : Fm} {C : Cs} {ρ : Rho} {k : Nat} {P : DE} {Φ : Nat → PyData → Prop}
end
section
variable {F : Fm} {C : Cs} {ρ : Rho} {k : Nat} {P : DE} {pos px py pz ap cp pc pt p1 p2 p3 p4 p5 : Pos} {x y z : Str} {e : Expr} {o : Addr} {kt : Nat}
end
section
variable {F : Fm} {C : Cs} {ρ : Rho} {k : Nat} {P : DE} {pos p pl p1 p2 p4 pt pr pr2 : Pos} {a e2 : Expr} {x1 x2 : Str} {kk kt : Nat} {rest : List Stmt}
end
section
variable {F : Fm} {C : Cs} {ρ : Rho} {k : Nat} {P : DE} {pos p2 px : Pos} {es : List Expr} {x : Str} {rest : List Stmt}
end
end Dl

namespace Dl
open PySem PySem.Spec PyProof.Rows L2
section
variable {F : Fm} {C : Cs} {ρ : Rho} {k : Nat} {P : DE} {pos p pl p1 p2 p4 pt : Pos} {e1 : Expr} {x1 x2 : Str} {kk kt : Nat} {rest : List Stmt}
end
end Dl

namespace Dl
open PySem PySem.Spec PyProof.Rows L2
section
variable {X : Cx} {x m q : Str} {p pos apos kpos : Pos} {o e : Expr} {ta te : TE} {k : Nat} {f C : Addr} {fd : FuncData} {ps : List Str} {sp : Sp}
def tMethK (C : Addr) (m : Str) (sp : Sp) (ta te : TE) : TE := fun σ H Q => ta σ H fun x H1 => ∃ a dx fs, x = .ref a ∧ H1 a = some (.ins C dx fs) ∧ fs.lookup m = none ∧
  te σ H1 fun z H2 => [z].length = 1 ∧ sp [x, z] H2 Q E0
end
/-- a method of decks whose one keyword-only parameter is given -/
structure PiK (P : Program) (w : World) (K : PySem.W.Frag) (mg : Str → Option Value) (base : Heap) (C : Addr) (lvl : Nat) (m q : Str) (Pre : Pg → List PyData → Prop) (R : Pg → List PyData → Pg → PyData → Prop) : Prop where
  cl : Cls K C
  ex : ∃ (fa : Addr) (fd : FuncData) (ps : List Str), FnG P w K mg base lvl fa fd ps (spPi K C Pre R) ∧ Meth K C m fa ∧ KBn K fd ps 1 [q] (fun a b => a ++ b) (fun a b => a ++ b)
section
variable {F : Fm} {C : Cs} {Cl a dx : Addr} {mk : Pg → Nat} {g : Pg} {ρ : Rho} {k : Nat} {Φ : Nat → PyData → Prop} {e : Expr} {pos py apos kpos : Pos} {y m q : Str} {Pre : Pg → List PyData → Prop} {R : Pg → List PyData → Pg → PyData → Prop} {j : Nat}
end
end Dl

namespace Dl
open PySem PySem.Spec PyProof.Rows L2
/-! ### a deck's lists cut -/
section
variable {X : Cx}
end
section
variable {F : Fm} {C : Cs} {Cl a dx : Addr} {mk : Pg → Nat} {g : Pg} {ρ : Rho} {e : Expr} {pos p1 p2 p3 p4 p5 p6 : Pos} {y : Str} {P : DE}
end
end Dl

namespace Dl
open PySem PySem.Spec PyProof.Rows L2
section
variable {F : Fm} {C : Cs} {ρ : Rho} {k : Nat} {Φ : Nat → PyData → Prop} {pos p p2 : Pos} {pos' : Pos} {a b c e : Expr} {P : DE}
end
end Dl

namespace Dl
open PySem PySem.Spec PyProof.Rows L2
/-! ### t[m::2], a tuple -/
def ev2 {α : Type} : List α → List α
  | [] => []
  | [a] => [a]
  | a :: _ :: r => a :: ev2 r
/-- where the slice begins -/
def loN : Option Int → Nat
  | none => 0
  | some i => i.toNat
section
variable {prog : Program} {w : World} {A : Around} {E : Value → Shared → Prop} {s : Shared}
end
def tTwoT (K : PySem.W.Frag) (te : TE) (tl : TO) : TE := fun σ H Q => te σ H fun x H1 => tl σ H1 fun lo H2 => (∀ i, lo = some i → 0 ≤ i) ∧ ∃ a xs, x = .ref a ∧ SqT K H2 a xs ∧ ∀ p, H2 p = none → Q (.ref p) (upd H2 p (.tup (ev2 (xs.drop (loN lo)))))
section
variable {F : Fm} {C : Cs} {ρ : Rho} {k : Nat} {Φ : Nat → PyData → Prop} {pos p1 p3 : Pos} {a e : Expr} {jj : Nat}
end
end Dl

namespace Dl
open PySem PySem.Spec PyProof.Rows L2
/-! ### any datum == a text -/
def isS (w : Str) : PyData → Bool
  | .str x => x == w
  | _ => false
def rEqS (K : PySem.W.Frag) : R2 := fun x y H Q => ∃ (S : Addr → Prop) (d : PyData) (w : Str), Rep K S H x d ∧ y = .str w ∧ Q (.bl (isS w d)) H
section
variable {F : Fm} {C : Cs} {ρ : Rho} {k : Nat} {Φ : Nat → PyData → Prop} {Ψ : Nat → Bool → Prop} {a b : Expr} {pos : Pos}
theorem RpAll.strs {H : Hp} : ∀ {bs : List Str} {vs : List V}, RpAll F H vs (bs.map PyData.str) → vs = bs.map V.str
  | [], _, h => by cases h; rfl
  | b :: bs, _, h => by
    cases h with
    | cons h1 h2 => cases h1; rw [RpAll.strs h2]; rfl
theorem inV_strs {v : Str} : ∀ (bs : List Str), inV (.str v) (bs.map V.str) = bs.any (· == v)
  | [] => by simp [inV]
  | x :: bs => by
    have ih := inV_strs (v := v) bs
    unfold inV at ih ⊢
    rw [List.map_cons, List.any_cons, ih, List.any_cons]
    congr 1
/-- a text in a list or tuple of texts -/
theorem rd_inTx {neg : Bool} {v : Str} {y : PyData} {bs : List Str} (hK : F.K = C.K) (hy : seqD y = some (bs.map PyData.str)) (h : Φ k (.bool (if neg then !bs.any (· == v) else bs.any (· == v)))) : RD F (rIn C.K neg) (.str v) y k Φ :=
  rd_in hK hy rfl (by rw [List.all_map]; exact List.all_eq_true.mpr fun _ _ => rfl) (fun H vx vs rx rv => by cases rx; rw [RpAll.strs rv]; exact inV_strs bs) h
end
/-! ### a list of any data != [] -/
def rNeNil (K : PySem.W.Frag) : R2 := fun x y H Q => ∃ (S S' : Addr → Prop) (ds : List PyData), Rep K S H x (.list ds) ∧ Rep K S' H y (.list []) ∧ Q (.bl (!ds.isEmpty)) H
section
variable {F : Fm} {C : Cs} {ρ : Rho} {k : Nat} {Ψ : Nat → Bool → Prop} {a : Expr} {pos pq : Pos}
end
end Dl

namespace Dl
open PySem PySem.Spec PyProof.Rows L2
section
variable {F : Fm} {C : Cs} {ρ : Rho} {k : Nat} {P : DE} {Φ : Nat → PyData → Prop} {pos p p2 px py ap cp spos : Pos} {x y : Str} {rest : List Stmt} {e : Expr} {es : List Expr} {o : Addr}
theorem RepAll.dropLast {K : PySem.W.Frag} {S : Addr → Prop} {H : Hp} : ∀ {ds : List PyData} {vs : List V}, RepAll K S H vs ds → RepAll K S H vs.dropLast ds.dropLast := by
  intro ds vs r
  have := r.take (vs.length - 1)
  rw [← List.dropLast_eq_take, r.length, ← List.dropLast_eq_take] at this
  exact this
/-- x in y, texts -/
theorem wt_inTx (hK : F.K = C.K) {a b : Expr} {Ψ : Nat → Bool → Prop} (hm : behindInMarks .In b = false) (h : WPE F C a ρ k fun k1 x => WPE F C b ρ k1 fun k2 y => ∃ (v : Str) (bs : List Str), x = .str v ∧ seqD y = some (bs.map PyData.str) ∧ Ψ k2 (bs.any (· == v))) : WPT F C (.Compare a [.In] [b] pos) ρ k Ψ :=
  wt_cmp (fun X fx => opInK fx) hm (h.imp fun k1 x h1 => h1.imp fun k2 y ⟨v, bs, e1, e2, p⟩ => by subst e1; exact rd_inTx (neg := false) hK e2 ⟨_, rfl, p⟩)
end
end Dl

namespace Dl
open PySem PySem.Spec PyProof.Rows L2
/-! ### texts: split, index -/
theorem rp_strs {K : PySem.W.Frag} {S : Addr → Prop} {H : Hp} : ∀ ys : List Str, RepAll K S H (ys.map V.str) (ys.map PyData.str)
  | [] => .nil
  | y :: ys => .cons (.str y) (rp_strs ys)
theorem rep_vtxt {K : PySem.W.Frag} {S : Addr → Prop} {H : Hp} : ∀ {ns : List Str} {vs : List V}, RepAll K S H vs (ns.map PyData.str) → vs = ns.map V.str
  | [], _, r => by cases r; rfl
  | n :: ns, _, r => by
    cases r with
    | cons r1 r2 =>
      cases r1
      rw [rep_vtxt r2]; rfl
section
variable {F : Fm} {C : Cs} {ρ : Rho} {k : Nat} {Φ : Nat → PyData → Prop} {o e : Expr} {pos apos ap cp : Pos}
/-- x.split(y) -/
theorem we_split (hbase : ∀ env : Env, attributeBase o "split" env (eval o env) = eval o env) (hline : (apos.endLine == pos.line) = true) (hs : ∀ env : Env, starEach [e] env = [(false, eval e env)])
    (h : WPE F C o ρ k fun k1 d => ∃ a : Str, d = .str a ∧ WPE F C e ρ k1 fun k2 d2 => ∃ b : Str, d2 = .str b ∧ (b.length == 0) = false ∧ a.length ≤ 1000000 ∧ Φ k2 (.list ((Txt.split a b).map PyData.str))) : WPE F C (.Call (.Attribute o "split" apos) [e] [] pos) ρ k Φ :=
  of_pe (t := tM1 (fun x xs H Q => ∃ a b, x = .str a ∧ xs = [.str b] ∧ (b.length == 0) = false ∧ a.length + 2 ≤ sizeLine ∧ rNewStrs (Txt.split a b) H Q) (tE C o) (tE C e)) (fun X fx => pe_split (peE fx) (peE fx) (hs X.env) (hbase X.env) hline) fun σ H Q en j q => by
    show tE C o σ H _
    refine h σ H _ en j fun v d k1 H1 l1 j1 r1 ⟨a, ed, h2⟩ => ?_
    subst ed
    cases r1
    refine ⟨⟨a, rfl⟩, ?_⟩
    show tE C e σ H1 _
    refine h2 σ H1 _ (en.le l1) j1 fun v2 d2 k2 H2 l2 j2 r2 ⟨b, eb, hb, hz, p⟩ => ?_
    subst eb
    cases r2
    exact ⟨a, b, rfl, rfl, hb, Nat.le_trans (Nat.add_le_add_right hz 2) (by decide), fun p0 hp => q _ _ k2 _ ((l1.trans l2).trans (.new hp)) (j2.new hp) (rep_newL j2 hp (rp_strs _)) p⟩
/-- x.index(y), a list of texts and one of them -/
theorem we_indexT (hK : F.K = C.K) (hse : ∀ env : Env, starEach [e] env = (false, eval e env) :: starEach [] env)
    (h : WPE F C o ρ k fun k1 d => ∃ ts : List Str, d = .list (ts.map PyData.str) ∧ WPE F C e ρ k1 fun k2 d2 => ∃ (w : Str) (j : Nat), d2 = .str w ∧ ts[j]? = some w ∧ (∀ m < j, ts[m]? ≠ some w) ∧ Φ k2 (.int (j : Nat)))
    (hbm : ∀ X : Cx, ∀ {to : TE} {t : TA}, PE X o to → PA X [e] t → PE X (.Call (.Attribute o "index" ap) [e] [] cp) (tBM X.K "list" (rIndex X.K) to t)) :
    WPE F C (.Call (.Attribute o "index" ap) [e] [] cp) ρ k Φ :=
  of_pe (t := tBM C.K "list" (rIndex C.K) (tE C o) (tCons (tE C e) tNil)) (fun X fx => by rw [← fx.K]; exact hbm X (peE fx) (pa_cons (peE fx) pa_nil (hse X.env))) fun σ H Q en j q => by
    show tE C o σ H _
    refine h σ H _ en j fun v d k1 H1 l1 j1 r1 ⟨ts, ed, h2⟩ => ?_
    subst ed
    cases r1 with
    | @lst a vs _ ha hr =>
    obtain rfl := rep_vtxt hr
    have sq : ∀ H', Lz F H1 H' → SqL C.K H' a (ts.map V.str) := fun H' lz => hK ▸ sql_of (K := F.K) (S := F.S) ⟨lz _ _ (Fm.sxA ha.2) ha.1, ha.2⟩
    refine ⟨.inl ⟨rfl, _, sq H1 .refl⟩, ?_⟩
    show tE C e σ H1 _
    refine h2 σ H1 _ (en.le l1) j1 fun v2 d2 k2 H2 l2 j2 r2 ⟨w, i, ew, hi, hm, p⟩ => ?_
    subst ew
    cases r2
    refine ⟨a, ts.map V.str, .str w, i, .str w, rfl, rfl, sq H2 l2.lz, rfl, List.all_eq_true.mpr fun v hv => ?_, by rw [List.getElem?_map, hi]; rfl, ?_⟩
    · obtain ⟨t, _, rfl⟩ := List.mem_map.mp hv
      rfl
    refine ⟨by show (w == w) = true; exact beq_self_eq_true w, fun m z hmi hz => ?_, q _ _ k2 H2 (l1.trans l2) j2 (.int _) p⟩
    rw [List.getElem?_map, Option.map_eq_some_iff] at hz
    obtain ⟨t, ht, rfl⟩ := hz
    show (t == w) = false
    exact beq_eq_false_iff_ne.mpr fun z => hm m hmi (z ▸ ht)
end
/-- the first place of a text -/
def placeD (w : Str) (ts : List Str) : Option Nat := ts.findIdx? (· == w)
theorem place_some {w : Str} {ts : List Str} {j : Nat} (h : placeD w ts = some j) : ts[j]? = some w ∧ ∀ m < j, ts[m]? ≠ some w := by
  unfold placeD at h
  rw [List.findIdx?_eq_some_iff_getElem] at h
  obtain ⟨hj, h1, h2⟩ := h
  refine ⟨by rw [List.getElem?_eq_getElem hj]; exact congrArg some (by simpa using h1), fun m hm hz => ?_⟩
  obtain ⟨hl, e⟩ := List.getElem?_eq_some_iff.mp hz
  have := h2 m hm
  rw [e] at this
  exact this (beq_self_eq_true w)
theorem place_any (w : Str) (ts : List Str) : (ts.any (· == w)) = (placeD w ts).isSome := by
  unfold placeD
  rw [List.findIdx?_isSome]
end Dl

namespace Dl
open PySem PySem.Spec PyProof.Rows L2

/-! ### exceptions: what is known of one that flies: its class, its field -/
abbrev Xf := Option (Str × PyData)
def XOk (K : PySem.W.Frag) (S : Addr → Prop) (H : Hp) (d : Option Addr) : Xf → Prop
  | none => d = none
  | some (f, p) => ∃ (dx : Addr) (v : V), d = some dx ∧ ¬ S dx ∧ H dx = some (.xd [(f, v)]) ∧ Rep K S H v p
theorem nx_xd {fs : List (Str × V)} : ¬ IsX (.xd fs) := fun ⟨_, _, _, e⟩ => by unfold extL at e; cases e
theorem XOk.lz {F : Fm} {H H' : Hp} {d : Option Addr} {x : Xf} (h : XOk F.K F.S H d x) (l : Lz F H H') : XOk F.K F.S H' d x := by
  cases x with
  | none => exact h
  | some y =>
    obtain ⟨f, p⟩ := y
    obtain ⟨dx, v, e, ns, hd, r⟩ := h
    exact ⟨dx, v, e, ns, l dx _ (Fm.sxA ns nx_xd) hd, Rep.le (F := F) r l⟩
/-- the outcome of a def -/
inductive Out where
  | ok (d : PyData)
  | ex (c : Addr) (x : Xf)
/-- defs whose promise holds where no repr is under way, and that may raise -/
structure FnE (P : Program) (w : World) (K : PySem.W.Frag) (mg : Str → Option Value) (base : Heap) (k : Nat) (f : Addr) (fd : FuncData) (ps : List Str) (sp : Sp) : Prop where
  len : ∀ vs H Q E, sp vs H Q E → vs.length = ps.length
  run : ∀ (A : Around) (outer : List Env) (s : Shared) (H : Hp) (args : Args) (us : List Value) (vs : List V) (Q : VK) (E : XK), A.guards = some [] → Room k A → Env0 P w K mg base A outer s H → BindsTo s fd args (ps.zip us) → Vals vs us → sp vs H Q E →
    codeAny (model P w) A (.call (.ref f) args) (CR (L2.CX P w) outer P w H s Q E) s
section
variable {P : Program} {w : World} {K : PySem.W.Frag} {mg : Str → Option Value} {base : Heap}
theorem FnE.of_body {x qual : Str} {st : Stmt} {f : Addr} {fd : FuncData} {N ps : List Str} {k : Nat} {sp : Sp} (Fn : Fun K x qual st f fd) (Sc : FnScope N ps (defScope st)) (len : ∀ vs H Q E, sp vs H Q E → vs.length = ps.length)
    (body : ∀ (cdv : Value) (A : Around) (outer : List Env) (s : Shared) (H : Hp) (vs : List V) (Q : VK) (E : XK), A.guards = some [] → Room k (A.deeper (envOfC qual (defScope st) s.heap.objs.size f cdv)) → sp vs H Q E →
      ∃ t, PSs (cxOf (L2.CX P w) P w K mg base N qual (defScope st) f cdv A outer s H E) (defBody st) t ∧ t { nx := fun _ H' => Q .non H', rt := Q } (L2.start N vs) H) :
    FnE P w K mg base (k + 1) f fd ps sp := by
  obtain ⟨oc, od, kV, doc, pm, an, cdv, ct, osl, efd, look, hcode⟩ := Fn.ex
  subst efd
  constructor
  · exact len
  intro A outer s H args us vs Q E hgd room env hbind rel hsp
  have hlen := len vs H Q E hsp
  have inK : K.In s.heap := env.mod.kin.keeps fun b o z => (env.bs b o z).1
  have nolim : s.heap.NoLimit := env.mod.nolimit.keeps fun b o z => (env.bs b o z).1
  refine codeAny_call_function room.depth (inK f _ look) rfl Sc.co Sc.gen rfl (PySem.W.codeRec_of inK hcode) (hbind _ _ _ _ ?_)
  have kinds : ∀ y ∈ ps.zip us, (defScope st).names.lookup y.1 = some .local ∨ ((defScope st).names.lookup y.1 = some .cell ∧ ((cellsFrom (s.heap.objs.size + 1) (defScope st).names []).lookup y.1).isSome = true) := by
    rintro ⟨n, v⟩ hy
    have hn : n ∈ ps := (List.of_mem_zip hy).1
    cases Sc.par n hn with
    | inl q => left; exact q
    | inr q => right; exact ⟨q, PySem.W.cellsFrom_some _ _ _ (Or.inl q)⟩
  apply wpAny_newFunctionEnv_cells Sc.kind kinds
  intro env' he s1 ic
  subst he
  refine ⟨nolim.keeps ic.toInCall.keep, codeAny_func ?_⟩
  obtain ⟨t, ht, hq⟩ := body cdv A outer s H vs Q E hgd (room.deeper _) hsp
  have inv : Inv (cxOf (L2.CX P w) P w K mg base N qual (defScope st) f cdv A outer s H E) [] (L2.start N vs) H s1 := inv_start Sc room.hd env hlen rel ic
  refine wpAny_mono (ht.run [] s1 _ H _ inv hq) ?_ (fun e s' z => z)
  intro fl s' hfl
  cases fl with
  | ret u => exact let ⟨v, _, H', j, rv, q⟩ := hfl; ⟨v, H', j.os, j.bare, j.base, j.hok, rv, q⟩
  | next => exact let ⟨_, H', j, q⟩ := hfl; ⟨V.non, H', j.os, j.bare, j.base, j.hok, rfl, q⟩
  | brk => exact let ⟨_, _, _, q⟩ := hfl; False.elim q
  | cont => exact let ⟨_, _, _, q⟩ := hfl; False.elim q
theorem FnE.mono {j k : Nat} {f : Addr} {fd : FuncData} {ps : List Str} {sp : Sp} (G : FnE P w K mg base j f fd ps sp) (h : j ≤ k) : FnE P w K mg base k f fd ps sp :=
  ⟨G.len, fun A outer s H args us vs Q E g room => G.run A outer s H args us vs Q E g (room.mono h)⟩
end
section
variable {X : Cx} {x : Str} {p pos : Pos} {e : Expr} {es : List Expr} {t : TA} {k : Nat} {f : Addr} {fd : FuncData} {ps : List Str} {sp : Sp} {W : L2.WX}
theorem FnE.call_run {pins : List (Addr × Obj)} {σ : L2.St} {H : Hp} {s : Shared} {Q : VK} {us : List Value} {vs : List V} (G : FnE X.prog X.w X.K X.mg X.base k f fd ps sp) (gd : X.A.guards = some []) (room : Room k X.A) (hb : L2.Binds X.K fd ps []) (tk : L2.Takes X W)
    (I : Inv X pins σ H s) (r : Vals vs us) (h : sp vs H Q (fun cls d H' => W cls d σ H')) : wpAny (model X.prog X.w) X.A (call (.ref f) us) (EP X pins σ Q) X.xe s := by
  have hl : us.length = ps.length := r.length.symm.trans (G.len vs H Q _ h)
  have bind := hb s us I.kIn (by rw [List.append_nil]; exact hl)
  rw [List.append_nil] at bind
  refine wpAny_call (codeAny_mono (G.run X.A X.stack s H ⟨us, []⟩ us vs Q _ gd room I.env0 bind r h) ?_)
  intro res s' hr
  match res, hr with
  | .ok (.ret u), hr => exact I.after hr
  | .ok .next, hr => exact False.elim hr
  | .ok .brk, hr => exact False.elim hr
  | .ok .cont, hr => exact False.elim hr
  | .error e, hr => exact L2.passAt tk σ pins H s e s' I hr
theorem FnE.pe (G : FnE X.prog X.w X.K X.mg X.base k f fd ps sp) (gd : X.A.guards = some []) (room : Room k X.A) (hb : L2.Binds X.K fd ps []) (tk : L2.Takes X W) (hg : Gl X x) (hm : X.mg x = some (.ref f)) (kp : PySem.W.keepIn X.K (.ref f) = true)
    (ha : PA X (e :: es) t) (hdb : (x == ("__debug__" : Str)) = false) (hss : starEach (e :: es) X.env = (false, eval e X.env) :: starEach es X.env) (hpl : ((backTo pos (starEach es X.env)).any fun z => z.fst) = false) :
    PE X (.Call (.Name x p) (e :: es) [] pos) (fun σ H Q => t σ H fun vs H1 => sp vs H1 Q (fun cls d H' => W cls d σ H')) := by
  constructor
  intro pins s σ H Q I h
  refine wpAny_Call_Name_kw (ld_glob I hg hm ?_ hdb)
  refine PySem.W.callWith_K (h₀ := X.base) I.ok.mod.kin kp (wpAny_mono (ha.run pos pins s σ H _ I h) ?_ fun _ _ z => z) hss hpl
  rintro us s1 ⟨vs, H1, I1, rv, q⟩
  exact ⟨I1.kIn, G.call_run gd room hb tk I1 rv q⟩
theorem pa_nox {es : List Expr} (h : PA X.nox es t) : PA X es t := ⟨fun pos pins s σ H Q I hw =>
  wpAny_mono (h.run pos pins s σ H Q (I.wish _) hw) (fun _ _ ⟨v, H', I', r, q⟩ => ⟨v, H', I'.unwish, r, q⟩) fun _ _ z => False.elim z⟩
theorem ps_nox {st : Stmt} {t : TS} (h : PS X.nox st t) : PS X st t := ⟨fun pins s σ H D I hw =>
  wpAny_mono (h.run pins s σ H D (I.wish _) hw) (fun _ _ q => q.unwish) fun _ _ z => False.elim z⟩
end

/-! ### contexts that exceptions may leave -/
structure FitsX (C : Cs) (W : L2.WX) (X : Cx) : Prop where
  fit : Fits C X.nox
  tk : L2.Takes X W
  po : PassesOwn (model X.prog X.w) X.A X.env X.xe
  st : X.stack = X.env :: X.outer
  fr : X.env.frame = some X.env.locals
def tEX (C : Cs) (W : L2.WX) (e : Expr) : TE := fun σ H Q => ∀ X, FitsX C W X → ∀ pins s, Inv X pins σ H s → wpAny (model X.prog X.w) X.A (eval e X.env) (EP X pins σ Q) X.xe s
def tSX (C : Cs) (W : L2.WX) (st : Stmt) : TS := fun D σ H => ∀ X, FitsX C W X → ∀ pins s, Inv X pins σ H s → wpAny (model X.prog X.w) X.A (exec st X.env) (SP X pins D) X.xe s
def tBX (C : Cs) (W : L2.WX) (st : List Stmt) : TS := fun D σ H => ∀ X, FitsX C W X → ∀ pins s, Inv X pins σ H s → wpAny (model X.prog X.w) X.A (execs st X.env) (SP X pins D) X.xe s
section
variable {C : Cs} {X : Cx} {W : L2.WX}
theorem peEX (f : FitsX C W X) {e : Expr} : PE X e (tEX C W e) := ⟨fun pins s σ H Q I h => h X f pins s I⟩
theorem psSX (f : FitsX C W X) {st : Stmt} : PS X st (tSX C W st) := ⟨fun pins s σ H D I h => h X f pins s I⟩
theorem pbBX (f : FitsX C W X) {st : List Stmt} : PSs X st (tBX C W st) := ⟨fun pins s σ H D I h => h X f pins s I⟩
end
/-- what the context wishes of exceptions -/
def WxS (F : Fm) (H : Hp) (W : L2.WX) (Ξ : Nat → Rho → Addr → Xf → Prop) : Prop := ∀ ρ' σ' k' H' c d x, Lz F H H' → EnvOk F H' σ' ρ' → J F k' H' → XOk F.K F.S H' d x → Ξ k' ρ' c x → W (.ref c) d σ' H'
def WSX (F : Fm) (t : L2.WX → TS) (ρ : Rho) (k : Nat) (P : DE) (Ξ : Nat → Rho → Addr → Xf → Prop) : Prop :=
  ∀ (σ : L2.St) (H : Hp) (E : Ends) (W : L2.WX), EnvOk F H σ ρ → J F k H →
    (∀ ρ' σ' k' H', Lz F H H' → EnvOk F H' σ' ρ' → J F k' H' → P.nx k' ρ' → E.nx σ' H') →
    (∀ v d k' H', J F k' H' → Rp F H' v d → P.rt k' d → E.rt v H') →
    (∀ ρ' σ' k' H', Lz F H H' → EnvOk F H' σ' ρ' → J F k' H' → P.bk k' ρ' → E.bk σ' H') →
    (∀ ρ' σ' k' H', Lz F H H' → EnvOk F H' σ' ρ' → J F k' H' → P.ct k' ρ' → E.ct σ' H') → WxS F H W Ξ → t W E σ H
def WEX (F : Fm) (t : L2.WX → TE) (ρ : Rho) (k : Nat) (Φ : Nat → PyData → Prop) (Ξ : Nat → Rho → Addr → Xf → Prop) : Prop :=
  ∀ (σ : L2.St) (H : Hp) (Q : VK) (W : L2.WX), EnvOk F H σ ρ → J F k H → (∀ v d k' H', Le F H H' → J F k' H' → Rp F H' v d → Φ k' d → Q v H') → WxS F H W Ξ → t W σ H Q
abbrev WPEX (F : Fm) (C : Cs) (e : Expr) (ρ : Rho) (k : Nat) (Φ : Nat → PyData → Prop) (Ξ : Nat → Rho → Addr → Xf → Prop) : Prop := WEX F (fun W => tEX C W e) ρ k Φ Ξ
abbrev WPSX (F : Fm) (C : Cs) (st : Stmt) (ρ : Rho) (k : Nat) (P : DE) (Ξ : Nat → Rho → Addr → Xf → Prop) : Prop := WSX F (fun W => tSX C W st) ρ k P Ξ
abbrev WPBX (F : Fm) (C : Cs) (st : List Stmt) (ρ : Rho) (k : Nat) (P : DE) (Ξ : Nat → Rho → Addr → Xf → Prop) : Prop := WSX F (fun W => tBX C W st) ρ k P Ξ
section
variable {F : Fm} {C : Cs} {ρ : Rho} {k : Nat} {Φ : Nat → PyData → Prop} {Ψ : Nat → Bool → Prop} {Ξ : Nat → Rho → Addr → Xf → Prop} {e a b c : Expr} {es : List Expr} {pos p : Pos} {P : DE} {x : Str}
theorem WxS.lz {H H1 : Hp} {W : L2.WX} (h : WxS F H W Ξ) (l : Lz F H H1) : WxS F H1 W Ξ := fun ρ' σ' k' H' c d x l2 => h ρ' σ' k' H' c d x (l.trans l2)
theorem of_psX {st : Stmt} {t : L2.WX → TS} (h : ∀ X W, FitsX C W X → PS X st (t W)) (hw : WSX F t ρ k P Ξ) : WPSX F C st ρ k P Ξ := fun σ H E W en j q1 q2 q3 q4 hx X fx pins s I => (h X W fx).run pins s σ H E I (hw σ H E W en j q1 q2 q3 q4 hx)
theorem of_peX {e : Expr} {t : L2.WX → TE} (h : ∀ X W, FitsX C W X → PE X e (t W)) (hw : WEX F t ρ k Φ Ξ) : WPEX F C e ρ k Φ Ξ := fun σ H Q W en j q hx X fx pins s I => (h X W fx).run pins s σ H Q I (hw σ H Q W en j q hx)
/-- what raises nothing -/
theorem wsx_of {st : Stmt} (h : WPS F C st ρ k P) : WPSX F C st ρ k P Ξ := of_psX (t := fun _ => tS C st) (fun X W fx => ps_nox (psS fx.fit)) fun σ H E W en j q1 q2 q3 q4 _ => h σ H E en j q1 q2 q3 q4
theorem wbx_nil (h : P.nx k ρ) : WPBX F C [] ρ k P Ξ := fun σ H E W en j q1 _ _ _ _ X fx pins s I => (pss_nil (X := X)).run pins s σ H E I (q1 ρ σ k H .refl en j h)
theorem wbx_cons {st : Stmt} {rest : List Stmt} (h : WPSX F C st ρ k (P.seq fun k1 ρ1 => WPBX F C rest ρ1 k1 P Ξ) Ξ) : WPBX F C (st :: rest) ρ k P Ξ := fun σ H E W en j q1 q2 q3 q4 hx X fx pins s I =>
  (pss_cons (psSX fx) (pbBX fx)).run pins s σ H E I (h σ H { E with nx := tBX C W rest E } W en j
    (fun ρ' σ' k' H' l en' j' p => p σ' H' E W en' j' (fun ρ2 σ2 k2 H2 l2 => q1 ρ2 σ2 k2 H2 (l.trans l2)) q2 (fun ρ2 σ2 k2 H2 l2 => q3 ρ2 σ2 k2 H2 (l.trans l2)) (fun ρ2 σ2 k2 H2 l2 => q4 ρ2 σ2 k2 H2 (l.trans l2)) (hx.lz l)) q2 q3 q4 hx)
theorem wsx_if {s1 s2 : List Stmt} (h : WPT F C c ρ k fun k1 z => if z = true then WPBX F C s1 ρ k1 P Ξ else WPBX F C s2 ρ k1 P Ξ) : WPSX F C (.If c s1 s2 pos) ρ k P Ξ :=
  of_psX (t := fun W => tIfS (tT C c) (tBX C W s1) (tBX C W s2)) (fun X W fx => ps_if (PT.nox (X := X) (ptT fx.fit)) (pbBX fx) (pbBX fx)) fun σ H E W en j q1 q2 q3 q4 hx => h σ H _ en j fun z k1 H1 l1 j1 p => by
    have l := l1.lz
    cases z with
    | true => exact p σ H1 E W (en.le l1) j1 (fun ρ2 σ2 k2 H2 l2 => q1 ρ2 σ2 k2 H2 (l.trans l2)) q2 (fun ρ2 σ2 k2 H2 l2 => q3 ρ2 σ2 k2 H2 (l.trans l2)) (fun ρ2 σ2 k2 H2 l2 => q4 ρ2 σ2 k2 H2 (l.trans l2)) (hx.lz l)
    | false => exact p σ H1 E W (en.le l1) j1 (fun ρ2 σ2 k2 H2 l2 => q1 ρ2 σ2 k2 H2 (l.trans l2)) q2 (fun ρ2 σ2 k2 H2 l2 => q3 ρ2 σ2 k2 H2 (l.trans l2)) (fun ρ2 σ2 k2 H2 l2 => q4 ρ2 σ2 k2 H2 (l.trans l2)) (hx.lz l)
theorem wsx_ret (h : WPEX F C e ρ k P.rt Ξ) : WPSX F C (.Return (some e) pos) ρ k P Ξ :=
  of_psX (t := fun W => tRet (tEX C W e)) (fun X W fx => ps_ret (peEX fx)) fun σ H E W en j _ q2 _ _ hx => h σ H _ W en j (fun v d k' H' _ j' r p => q2 v d k' H' j' r p) hx
end

/-! ### defs that only read and may raise -/
abbrev RelE := List PyData → Out → Prop
def spPureE (K : PySem.W.Frag) (R : RelE) : Sp := fun vs H Q E => ∃ (S : Addr → Prop) (ds : List PyData) (o : Out), (∀ b, S b → Lv H b) ∧ RepAll K S H vs ds ∧ R ds o ∧
  match o with
  | .ok d => ∀ v H', Same H H' → Rep K S H' v d → Q v H'
  | .ex c x => ∀ d H', Same H H' → XOk K S H' d x → E (.ref c) d H'
structure PFE (P : Program) (w : World) (K : PySem.W.Frag) (mg : Str → Option Value) (base : Heap) (lvl : Nat) (x : Str) (R : RelE) : Prop where
  ex : ∃ (fa : Addr) (fd : FuncData) (ps : List Str), FnE P w K mg base lvl fa fd ps (spPureE K R) ∧ mg x = some (.ref fa) ∧ PySem.W.keepIn K (.ref fa) = true ∧ L2.Binds K fd ps []
section
variable {P : Program} {w : World} {K : PySem.W.Frag} {mg : Str → Option Value} {base : Heap}
theorem fitsX_body {N : List Str} {qual : Str} {sc : Scope} {f : Addr} {cd : Value} {A : Around} {outer : List Env} {s : Shared} {H : Hp} {E : XK} {k : Nat} (hgd : A.guards = some []) (hr : Room k (A.deeper (envOfC qual sc s.heap.objs.size f cd))) :
    FitsX (bodyCs P w K mg base N sc k) (fun cls d _ H' => E cls d H') (cxOf (L2.CX P w) P w K mg base N qual sc f cd A outer s H E) where
  fit := fits_body hgd hr
  tk := takes_of rfl rfl rfl rfl
  po := passes_of rfl
  st := rfl
  fr := rfl
/-- outcomes of a body -/
theorem pureE_ok {x qual : Str} {st : Stmt} {f : Addr} {fd : FuncData} {N ps : List Str} {k : Nat} {R : RelE} (Fn : Fun K x qual st f fd) (Sc : FnScope N ps (defScope st)) (len : ∀ ds o, R ds o → ds.length = ps.length)
    (body : ∀ (F : Fm) (ds : List PyData) (o : Out), F.K = K → R ds o → WPBX F (bodyCs P w K mg base N (defScope st) k) (defBody st) (startR N ds) 0 { nx := fun _ _ => o = .ok .none, rt := fun _ d' => o = .ok d', bk := fun _ _ => False, ct := fun _ _ => False } (fun _ _ c y => o = .ex c y)) :
    FnE P w K mg base (k + 1) f fd ps (spPureE K R) := by
  refine FnE.of_body Fn Sc (fun vs H Q E h => ?_) (fun cdv A outer s H vs Q E hgd hr h => ?_)
  · obtain ⟨S, ds, o, _, r, hR, _⟩ := h
    rw [RepAll.length r, len ds o hR]
  · obtain ⟨S, ds, o, al, r, hR, q⟩ := h
    refine ⟨_, pbBX (fitsX_body hgd hr), ?_⟩
    refine body (pureFm K S H) ds o rfl hR (start N vs) H _ _ (env_start (F := pureFm K S H) r) ⟨trivial, fun b o _ e => e, al⟩ ?_ ?_ ?_ ?_ ?_
    · exact fun ρ' σ' k' H' _ _ j' e => by
        subst e
        exact q _ H' (fun b o h => j'.le b o (fun z => z.elim id id) h) .non
    · exact fun v d' k' H' j' r' e => by
        subst e
        exact q v H' (fun b o h => j'.le b o (fun z => z.elim id id) h) r'
    · exact fun _ _ _ _ _ _ _ z => z.elim
    · exact fun _ _ _ _ _ _ _ z => z.elim
    · exact fun ρ' σ' k' H' c d y _ _ j' xo e => by
        subst e
        exact q d H' (fun b o h => j'.le b o (fun z => z.elim id id) h) xo
end
section
variable {F : Fm} {C : Cs} {ρ : Rho} {k : Nat} {Φ : Nat → PyData → Prop} {Ξ : Nat → Rho → Addr → Xf → Prop} {e a b : Expr} {es : List Expr} {pos p : Pos} {P : DE} {x : Str}
/-- a call of a def that only reads and may raise -/
theorem wex_callP {R : RelE} {j : Nat} (hF : PFE C.P C.w C.K C.mg C.base j x R) (hl : j ≤ C.lvl) (hK : F.K = C.K) (hg : C.sc.names.lookup x = some .globalImplicit)
    (h : WPA F C (e :: es) ρ k fun k1 ds => ∃ o, R ds o ∧ (∀ d, o = .ok d → Φ k1 d) ∧ ∀ c y, o = .ex c y → Ξ k1 ρ c y) (hdb : (x == ("__debug__" : Str)) = false := by decide) (hss : ∀ env : Env, starEach (e :: es) env = (false, eval e env) :: starEach es env := by intro _; rfl) (hpl : ∀ env : Env, ((backTo pos (starEach es env)).any fun x => x.fst) = false := by intro _; rfl) :
    WPEX F C (.Call (.Name x p) (e :: es) [] pos) ρ k Φ Ξ := by
  obtain ⟨fa, fd, ps, G, hm, kp, hb⟩ := hF.ex
  refine of_peX (t := fun W σ H Q => tA C (e :: es) σ H fun vs H1 => spPureE C.K R vs H1 Q (fun cls d H' => W cls d σ H')) (fun X W fx => ?_) fun σ H Q W en jj q hx => ?_
  · have f := fx.fit
    exact FnE.pe (X := X) (by rw [show X.prog = C.P from f.P, show X.w = C.w from f.w, show X.K = C.K from f.K, show X.mg = C.mg from f.mg, show X.base = C.base from f.base]; exact G) f.gd (f.room.mono hl) (by rw [show X.K = C.K from f.K]; exact hb) fx.tk (by show X.env.scope.names.lookup x = _; rw [show X.env.scope = C.sc from f.sc]; exact hg) (by rw [show X.mg = C.mg from f.mg]; exact hm) (by rw [show X.K = C.K from f.K]; exact kp) (pa_nox (paA f)) hdb (hss X.env) (hpl X.env)
  refine h σ H _ en jj fun vs ds k1 H1 l1 j1 r1 ⟨o, hR, p1, p2⟩ => ?_
  refine ⟨F.S, ds, o, j1.al, hK ▸ r1, hR, ?_⟩
  have jn : ∀ H', Same H1 H' → J F k1 H' := fun H' sm => ⟨F.gm _ _ _ j1.g (fun b hb => by
    cases e : H1 b with
    | none => exact absurd e (F.gl _ _ j1.g b hb)
    | some o => exact sm b o e) (fun b o _ e => sm b o e), fun b o n e => sm b o (j1.le b o n e), fun b hb => (j1.al b hb).keep fun o e => sm b o e⟩
  cases o with
  | ok d =>
    intro v H' sm rv
    have le : Le F H1 H' := fun b o _ e => sm b o e
    exact q v d k1 H' (l1.trans le) (jn H' sm) (by show Rep F.K F.S H' v d; rw [hK]; exact rv) (p1 d rfl)
  | ex c y =>
    intro d H' sm xo
    have le : Le F H1 H' := fun b o _ e => sm b o e
    exact hx ρ σ k1 H' c d y (l1.trans le).lz (en.le (l1.trans le)) (jn H' sm) (by rw [hK]; exact xo) (p2 c y rfl)
end

/-! ### exception classes with one field -/
def spXI (K : PySem.W.Frag) (C : Addr) (f : Str) : Sp := fun vs H Q _ => ∃ (a : Addr) (v : V), vs = [.ref a, v] ∧ H a = some (exo a C none) ∧ ∀ dx, H dx = none → dx ≠ a → Q .non (upd (upd H dx (exd dx [(f, v)])) a (exo a C (some dx)))
structure XCl (P : Program) (w : World) (K : PySem.W.Frag) (mg : Str → Option Value) (base : Heap) (x : Str) (C : Addr) (f : Str) : Prop where
  T : OexC K C
  mx : mg x = some (.ref C)
  ex : ∃ (fI : Addr) (fd : FuncData) (ps : List Str), PySem.W.findIn K (.ref C) "__init__" = some (some (.ref fI)) ∧ PySem.W.typeIn K (.ref fI) = some (.type "function") ∧ FnOk P w K mg base CX0 1 fI fd ps (spXI K C f) ∧ L2.Binds K fd ps []
section
variable {F : Fm} {C : Cs} {ρ : Rho} {k : Nat} {Φ : Nat → PyData → Prop} {Ξ : Nat → Rho → Addr → Xf → Prop} {e a b : Expr} {es : List Expr} {pos p pos' : Pos} {P : DE} {x f : Str} {Cl : Addr}
/-- raise X(e) -/
theorem wsx_raise1 (hX : XCl C.P C.w C.K C.mg C.base x Cl f) (hl : 2 ≤ C.lvl) (hg : C.sc.names.lookup x = some .globalImplicit) (h : WPA F C [e] ρ k fun k1 ds => ∃ d, ds = [d] ∧ Ξ k1 ρ Cl (some (f, d)))
    (hdb : (x == ("__debug__" : Str)) = false := by decide) (hss : ∀ env : Env, starEach [e] env = (false, eval e env) :: starEach [] env := by intro _; rfl) :
    WPSX F C (.Raise (some (.Call (.Name x p) [e] [] pos')) none pos) ρ k P Ξ := by
  obtain ⟨fI, fd, ps, iC, tI, G, hb⟩ := hX.ex
  refine of_psX (t := fun W _ σ H => tMkO Cl (spXI C.K Cl f) [] (tA C [e]) σ H fun cls d H' => W cls d σ H') (fun X W fx => ?_) fun σ H E W en jj q1 q2 q3 q4 hx => ?_
  · have z := fx.fit
    refine ps_raise (X := X) z.calm fx.tk ?_
    exact pmk_oex (X := X) (CX := CX0) (by rw [show X.K = C.K from z.K]; exact hX.T) (by rw [show X.K = C.K from z.K]; exact iC) (by rw [show X.K = C.K from z.K]; exact tI) (by rw [show X.prog = C.P from z.P, show X.w = C.w from z.w, show X.K = C.K from z.K, show X.mg = C.mg from z.mg, show X.base = C.base from z.base]; exact G) (z.room.mono hl) (by rw [show X.K = C.K from z.K]; exact hb) .nil pass0 (by show X.env.scope.names.lookup x = _; rw [show X.env.scope = C.sc from z.sc]; exact hg) (by rw [show X.mg = C.mg from z.mg]; exact hX.mx) (pa_nox (paA z)) hdb (hss X.env) rfl
  refine h σ H _ en jj fun vs ds k1 H1 l1 j1 r1 ⟨d, ed, px⟩ => ?_
  subst ed
  cases r1 with
  | cons r1 r2 =>
  cases r2
  rename_i v
  refine ⟨by show 1 ≤ 1000; decide, fun a na => ⟨a, v, rfl, upd_same, fun dx ndx ne => ?_⟩⟩
  have hdx : H1 dx = none := by rw [upd_ne ne] at ndx; exact ndx
  refine ⟨rfl, dx, [(f, v)], upd_same, by rw [upd_ne ne, upd_same], hdx, ?_⟩
  have eH : upd (del (upd (upd (upd H1 a (exo a Cl none)) dx (exd dx [(f, v)])) a (exo a Cl (some dx))) a) dx (.xd [(f, v)]) = upd H1 dx (.xd [(f, v)]) := by
    funext b
    by_cases h1 : b = dx
    · rw [h1, upd_same, upd_same]
    · rw [upd_ne h1, upd_ne h1]
      by_cases h2 : b = a
      · rw [h2, del_same, na]
      · rw [del_ne h2, upd_ne h2, upd_ne h1, upd_ne h2]
  rw [eH]
  have le : Le F H1 (upd H1 dx (.xd [(f, v)])) := .new hdx
  exact hx ρ σ k1 _ Cl (some dx) (some (f, d)) (l1.trans le).lz (en.le (l1.trans le)) (j1.new hdx) ⟨dx, v, rfl, j1.fresh hdx, upd_same, r1.le le.lz⟩ px
end
end Dl

set_option maxHeartbeats 2000000
namespace Dl
open PySem PySem.Spec PyProof.Rows L2
/-! ### the frame of an except suite: all data of the moment stand -/
open Classical in
noncomputable def Fm.susH (F : Fm) (H : Hp) : Hp := fun b => match H b with
  | some o => if F.S b ∨ F.X o then F.H0 b else some o
  | none => F.H0 b
section
variable {F : Fm} {H H1 : Hp} {k : Nat} {b : Addr} {o : HO} {σ : L2.St} {ρ : Rho}
theorem susH_case (h : F.susH H b = some o) : F.H0 b = some o ∨ (H b = some o ∧ ¬ F.S b ∧ ¬ F.X o) := by
  unfold Fm.susH at h
  split at h
  · rename_i u hu
    split at h
    · exact .inl h
    · rename_i hn
      cases h
      exact .inr ⟨hu, fun z => hn (.inl z), fun z => hn (.inr z)⟩
  · exact .inl h
theorem susH_data (h : H b = some o) (s : ¬ F.S b) (x : ¬ F.X o) : F.susH H b = some o := by
  unfold Fm.susH
  rw [h]
  exact if_neg (fun z => z.elim s x)
theorem susH_own (h : F.S b) (hn : F.H0 b = none) : F.susH H b = none := by
  unfold Fm.susH
  split
  · rw [if_pos (.inl h)]; exact hn
  · exact hn
noncomputable def Fm.sus (F : Fm) (H : Hp) : Fm where
  K := F.K
  S := F.S
  M := F.M
  H0 := F.susH H
  G := F.G
  ms := F.ms
  gm := F.gm
  gl := F.gl
  X := F.X
  xi := F.xi
  xa := fun k H2 g b o hm hx e => by
    rcases susH_case e with h | ⟨_, _, h⟩
    · exact F.xa k H2 g b o hm hx h
    · exact absurd hx h
theorem J.sus (j : J F k H) : J (F.sus H) k H := ⟨j.g, fun b o n e => by
  rcases susH_case e with h | ⟨h, _, _⟩
  · exact j.le b o n h
  · exact h, j.al⟩
theorem J.unsus {k1 : Nat} (j : J F k H) (j1 : J (F.sus H) k1 H1) : J F k1 H1 := ⟨j1.g, fun b o n e => by
  have hb := j.le b o n e
  by_cases hx : F.S b ∨ F.X o
  · refine j1.le b o n ?_
    show F.susH H b = some o
    unfold Fm.susH
    rw [hb]
    exact (if_pos hx).trans e
  · exact j1.le b o n (susH_data hb (fun z => hx (.inl z)) fun z => hx (.inr z)), j1.al⟩
theorem EnvOk.sus (en : EnvOk F H1 σ ρ) : EnvOk (F.sus H) H1 σ ρ := fun i sv e => by
  obtain ⟨x, q, r⟩ := en i sv e
  refine ⟨x, q, ?_⟩
  cases sv with
  | un => trivial
  | d d => exact r
  | raw v => exact r
  | own o xs =>
    obtain ⟨e, s, m, z, vs, h1, r⟩ := r
    exact ⟨e, s, m, susH_own s z, vs, h1, r⟩
/-- ghost: own lists are away from what stood -/
theorem EnvOk.unsus (hn : ∀ b, F.S b → F.susH H b = none → F.H0 b = none) (en : EnvOk (F.sus H) H1 σ ρ) : EnvOk F H1 σ ρ := fun i sv e => by
  obtain ⟨x, q, r⟩ := en i sv e
  refine ⟨x, q, ?_⟩
  cases sv with
  | un => trivial
  | d d => exact r
  | raw v => exact r
  | own o xs =>
    obtain ⟨e, s, m, z, vs, h1, r⟩ := r
    exact ⟨e, s, m, hn o s z, vs, h1, r⟩
theorem susH_none (b : Addr) (hs : F.S b) (h : F.susH H b = none) : F.H0 b = none := by
  unfold Fm.susH at h
  split at h
  · rw [if_pos (.inl hs)] at h; exact h
  · exact h
end
/-- the frame knows the exception -/
def HasX (F : Fm) (d : Option Addr) (x : Xf) : Prop := ∀ k H, J F k H → XOk F.K F.S H d x
theorem hasX_sus {F : Fm} {H : Hp} {d : Option Addr} {x : Xf} (h : XOk F.K F.S H d x) : HasX (F.sus H) d x := fun k H1 j => by
  have st : ∀ b o, ¬ F.S b → ¬ IsX o → H b = some o → H1 b = some o := fun b o n hx e =>
    j.le b o (fun z => z.elim (fun m => n (F.ms b m)) fun y => hx (F.xi _ y)) (susH_data e n fun y => hx (F.xi _ y))
  cases x with
  | none => exact h
  | some y =>
    obtain ⟨f, p⟩ := y
    obtain ⟨dx, v, e, ns, hd, r⟩ := h
    exact ⟨dx, v, e, ns, st dx _ ns nx_xd hd, Rep.keepX (fun b o n hp q => st b o n hp q) (fun _ _ z => z) p v r⟩

/-! ### except suites -/
structure FitsH (C : Cs) (a : Addr) (cls : Value) (d : Option Addr) (X : Cx) : Prop where
  P : X.prog = C.P
  w : X.w = C.w
  K : X.K = C.K
  mg : X.mg = C.mg
  base : X.base = C.base
  N : X.N = C.N
  sc : X.env.scope = C.sc
  fn : X.fn = C.fn
  room : L2H.RoomH C.lvl X.A
  gd : X.A.guards = some []
  xe : X.xe = fun _ _ => False
  exc : ∃ (X0 : Cx) (oe : Obj) (pn : List (Addr × Obj)), X = X0.suite a ((a, oe) :: pn) ∧ Zc cls d oe ∧ ∃ vs, oe.data = .fields vs
/-- a suite: where it stands, the exception, its class, its dict -/
structure Hc where
  C : Cs
  a : Addr
  cls : Addr
  d : Option Addr
abbrev FH (h : Hc) (X : Cx) : Prop := FitsH h.C h.a (.ref h.cls) h.d X
def tEH (h : Hc) (e : Expr) : TE := fun σ H Q => ∀ X, FH h X → ∀ pins s, Inv X pins σ H s → wpAny (model X.prog X.w) X.A (eval e X.env) (EP X pins σ Q) X.xe s
def tTH (h : Hc) (e : Expr) : TT := fun σ H Q => ∀ X, FH h X → ∀ pins s, Inv X pins σ H s → wpAny (model X.prog X.w) X.A (isTrue e X.env (eval e X.env)) (TP X pins σ Q) X.xe s
def tWH (h : Hc) (e : Expr) : TT := fun σ H Q => ∀ X, FH h X → ∀ (whole : Sem Value) pins s, Inv X pins σ H s → wpAny (model X.prog X.w) X.A (isTrue e X.env whole) (TP X pins σ Q) X.xe s
def tAH (h : Hc) (es : List Expr) : TA := fun σ H Q => ∀ X, FH h X → ∀ (pos : Pos) pins s, Inv X pins σ H s → wpAny (model X.prog X.w) X.A (spliced (backTo pos (starEach es X.env))) (AP X pins σ Q) X.xe s
def tSH (h : Hc) (st : Stmt) : TS := fun D σ H => ∀ X, FH h X → ∀ pins s, Inv X pins σ H s → wpAny (model X.prog X.w) X.A (exec st X.env) (SP X pins D) X.xe s
def tBH (h : Hc) (st : List Stmt) : TS := fun D σ H => ∀ X, FH h X → ∀ pins s, Inv X pins σ H s → wpAny (model X.prog X.w) X.A (execs st X.env) (SP X pins D) X.xe s
abbrev HPE (F : Fm) (h : Hc) (e : Expr) (ρ : Rho) (k : Nat) (Φ : Nat → PyData → Prop) : Prop := WE F (tEH h e) ρ k Φ
abbrev HPT (F : Fm) (h : Hc) (e : Expr) (ρ : Rho) (k : Nat) (Φ : Nat → Bool → Prop) : Prop := WT F (tTH h e) ρ k Φ
abbrev HPW (F : Fm) (h : Hc) (e : Expr) (ρ : Rho) (k : Nat) (Φ : Nat → Bool → Prop) : Prop := WT F (tWH h e) ρ k Φ
abbrev HPA (F : Fm) (h : Hc) (es : List Expr) (ρ : Rho) (k : Nat) (Φ : Nat → List PyData → Prop) : Prop := WA F (tAH h es) ρ k Φ
abbrev HPS (F : Fm) (h : Hc) (st : Stmt) (ρ : Rho) (k : Nat) (P : DE) : Prop := WS F (tSH h st) ρ k P
abbrev HPB (F : Fm) (h : Hc) (st : List Stmt) (ρ : Rho) (k : Nat) (P : DE) : Prop := WS F (tBH h st) ρ k P
section
variable {X : Cx} {h : Hc}
theorem peH (f : FH h X) {e : Expr} : PE X e (tEH h e) := ⟨fun pins s σ H Q I z => z X f pins s I⟩
theorem psH (f : FH h X) {st : Stmt} : PS X st (tSH h st) := ⟨fun pins s σ H D I z => z X f pins s I⟩
theorem pbH (f : FH h X) {st : List Stmt} : PSs X st (tBH h st) := ⟨fun pins s σ H D I z => z X f pins s I⟩
end
section
variable {F : Fm} {h : Hc} {ρ : Rho} {k : Nat} {Φ Φ' : Nat → PyData → Prop} {Ψ Ψ' : Nat → Bool → Prop} {e a b c : Expr} {es : List Expr} {pos p p2 : Pos} {P : DE} {x y : Str}
theorem ho_pe {t : TE} (hp : ∀ X, FH h X → PE X e t) (hw : WE F t ρ k Φ) : HPE F h e ρ k Φ := fun σ H Q en j q X fx pins s I => (hp X fx).run pins s σ H Q I (hw σ H Q en j q)
theorem ho_ps {t : TS} {st : Stmt} (hp : ∀ X, FH h X → PS X st t) (hw : WS F t ρ k P) : HPS F h st ρ k P := fun σ H E en j q1 q2 q3 q4 X fx pins s I => (hp X fx).run pins s σ H E I (hw σ H E en j q1 q2 q3 q4)
theorem ho_pb {t : TS} {st : List Stmt} (hp : ∀ X, FH h X → PSs X st t) (hw : WS F t ρ k P) : HPB F h st ρ k P := fun σ H E en j q1 q2 q3 q4 X fx pins s I => (hp X fx).run pins s σ H E I (hw σ H E en j q1 q2 q3 q4)
theorem he_bl {i : Bool} {jj : Nat} (hΦ : Φ k (.bool i)) : HPE F h (.Constant (.bool i) jj pos) ρ k Φ := ho_pe (fun X _ => pe_bl) fun σ H Q en j q => q _ _ k H .refl j (.bl i) hΦ
theorem hb_cons {st : Stmt} {rest : List Stmt} (hh : HPS F h st ρ k (P.seq fun k1 ρ1 => HPB F h rest ρ1 k1 P)) : HPB F h (st :: rest) ρ k P :=
  ho_pb (fun X fx => pss_cons (psH fx) (pbH fx)) fun σ H E en j q1 q2 q3 q4 =>
    hh σ H { E with nx := tBH h rest E } en j (fun ρ' σ' k' H' l en' j' p => p σ' H' E en' j' (fun ρ2 σ2 k2 H2 l2 => q1 ρ2 σ2 k2 H2 (l.trans l2)) q2 (fun ρ2 σ2 k2 H2 l2 => q3 ρ2 σ2 k2 H2 (l.trans l2)) (fun ρ2 σ2 k2 H2 l2 => q4 ρ2 σ2 k2 H2 (l.trans l2))) q2 q3 q4
theorem hs_ret (hh : HPE F h e ρ k P.rt) : HPS F h (.Return (some e) pos) ρ k P := ho_ps (fun X fx => ps_ret (peH fx)) fun σ H E en j _ q2 _ _ => hh σ H _ en j fun v d k' H' _ j' r p => q2 v d k' H' j' r p
/-- isinstance(e, T) of the exception in hand; e its slot -/
def rIsX (K : PySem.W.Frag) (D a : Addr) : List V → Hp → VK → Prop := fun xs H Q => ∃ (c : V) (b : Bool), xs = [.ref a, c] ∧
  ((∃ cv, ClsV c cv ∧ PySem.W.kitOne K (.ref D) cv = some b) ∨ (∃ tp cs ws, c = .ref tp ∧ H tp = some (.tup cs) ∧ Paired ClsV cs ws ∧ PySem.W.kitAny K (.ref D) ws = some b)) ∧ Q (.bl b) H
def XdOk (d : Option Addr) (H : Hp) : Prop := ∀ dx, d = some dx → ∃ fs : List (Str × V), H dx = some (.xd fs)
end
end Dl

namespace Dl
open PySem PySem.Spec PyProof.Rows L2
/-! ### try: body, except X as n: suite -/
section
variable {F : Fm} {C : Cs} {ρ : Rho} {k : Nat} {Φ : Nat → PyData → Prop} {Ξ Ξ2 : Nat → Rho → Addr → Xf → Prop} {e : Expr} {pos p np pos' : Pos} {P : DE} {x n : Str} {body suite : List Stmt} {b₀ : Stmt} {cv : Value}
abbrev DE.out (P : DE) (i : Nat) : DE := ⟨fun k r => P.nx k (r.set i .un), P.rt, fun k r => P.bk k (r.set i .un), fun k r => P.ct k (r.set i .un)⟩
end

section
variable {F : Fm} {C : Cs} {ρ : Rho} {k : Nat} {Ξ : Nat → Rho → Addr → Xf → Prop} {P : DE}
theorem WSX.nx {t : L2.WX → TS} {P' : Nat → Rho → Prop} (h : WSX F t ρ k P Ξ) (h1 : ∀ k ρ, P.nx k ρ → P' k ρ) : WSX F t ρ k (P.seq P') Ξ :=
  fun σ H E W en j q1 q2 q3 q4 hx => h σ H E W en j (fun ρ' σ' k' H' l e j' p => q1 ρ' σ' k' H' l e j' (h1 _ _ p)) q2 q3 q4 hx
end

/-! ### a def that raises nothing, called as ever -/
section
variable {P : Program} {w : World} {K : PySem.W.Frag} {mg : Str → Option Value} {base : Heap}
theorem FnE.toG {k : Nat} {f : Addr} {fd : FuncData} {ps : List Str} {sp sp' : Sp} (G : FnE P w K mg base k f fd ps sp) (h : ∀ vs H Q, sp' vs H Q E0 → sp vs H Q E0) (hl : ∀ vs H Q E, sp' vs H Q E → vs.length = ps.length) : FnG P w K mg base k f fd ps sp' where
  len := hl
  run := fun A outer s H args us vs Q gd room e0 hb r hsp => by
    refine codeAny_mono (G.run A outer s H args us vs Q E0 gd room e0 hb r (h vs H Q hsp)) ?_
    intro res s' hr
    match res, hr with
    | .ok (.ret u), hr => exact hr
    | .ok .next, hr => exact False.elim hr
    | .ok .brk, hr => exact False.elim hr
    | .ok .cont, hr => exact False.elim hr
    | .error e, hr =>
      obtain ⟨_, _, _, _, _, _, _, _, _, _, _, _, z⟩ := hr
      exact z.elim
theorem FnE.toP {k : Nat} {f : Addr} {fd : FuncData} {ps : List Str} {R : RelE} {R' : Rel} (G : FnE P w K mg base k f fd ps (spPureE K R)) (h : ∀ ds d, R' ds d → R ds (.ok d)) (len : ∀ ds d, R' ds d → ds.length = ps.length) : FnG P w K mg base k f fd ps (spPure K R') :=
  G.toG (fun vs H Q ⟨S, ds, d, al, r, hR, q⟩ => ⟨S, ds, .ok d, al, r, h ds d hR, q⟩) fun vs H Q E ⟨S, ds, d, _, r, hR, _⟩ => by rw [RepAll.length r, len ds d hR]
end

/-! ### isinstance(e, ..) in a suite -/
/-- x is the name of a class -/
inductive CN (C : Cs) : Expr → V → Value → Prop
  | own {x : Str} {p : Pos} {D : Addr} (hg : C.sc.names.lookup x = some .globalImplicit) (hm : C.mg x = some (.ref D)) (hd : (x == ("__debug__" : Str)) = false) : CN C (.Name x p) (.ref D) (.ref D)
  | blt {x : Str} {p : Pos} {T : String} (hg : C.sc.names.lookup x = some .globalImplicit) (hm : C.mg x = none) (hv : bootBuiltins x = some (.type T)) (hn : x ≠ "__name__") (hd : (x == ("__debug__" : Str)) = false) : CN C (.Name x p) (.ty T) (.type T)
inductive CNs (C : Cs) : List Expr → List V → List Value → Prop
  | nil : CNs C [] [] []
  | cons {e : Expr} {es : List Expr} {c : V} {cs : List V} {v : Value} {vs : List Value} : CN C e c v → CNs C es cs vs → CNs C (e :: es) (c :: cs) (v :: vs)
theorem CN.cls {C : Cs} {e : Expr} {c : V} {v : Value} (h : CN C e c v) : ClsV c v := by
  cases h with
  | own => exact .own _
  | blt => exact .ty _
theorem CNs.cls {C : Cs} {es : List Expr} {cs : List V} {vs : List Value} (h : CNs C es cs vs) : Paired ClsV cs vs := by
  induction h with
  | nil => exact .nil
  | cons h _ ih => exact .cons h.cls ih
section
variable {X : Cx} {h : Hc}
theorem CN.pe {e : Expr} {c : V} {v : Value} (k : CN h.C e c v) (fx : FH h X) : PE X e (tC c) := by
  cases k with
  | own hg hm hd => exact pe_glob (v := .ref _) (u := .ref _) (by show X.env.scope.names.lookup _ = _; rw [fx.sc]; exact hg) (by rw [fx.mg]; exact hm) rfl hd
  | blt hg hm hv hn hd => exact pe_bltn (v := .ty _) (u := .type _) (by show X.env.scope.names.lookup _ = _; rw [fx.sc]; exact hg) (by rw [fx.mg]; exact hm) hv rfl hn hd
def tCs (cs : List V) : TA := fun σ H Q => Q cs H
end
section
variable {F : Fm} {h : Hc} {ρ : Rho} {k : Nat} {Φ : Nat → PyData → Prop} {Ψ : Nat → Bool → Prop} {e e2 : Expr} {es : List Expr} {pos p py pt : Pos} {y : Str} {kk : Nat} {b : Bool}
end
end Dl

namespace Dl
open PySem PySem.Spec PyProof.Rows L2
/-! ### the classes of errors, their __init__ -/
theorem excTail_VE : ∀ l : List Value, PySem.W.excTail PySem.HandSPX.veTail l = PySem.HandSPX.refsVE l
  | [] => rfl
  | .ref c :: r => by
    show PySem.W.excTail PySem.HandSPX.veTail r = PySem.HandSPX.refsVE r
    exact excTail_VE r
  | .none :: _ => rfl
  | .ellipsis :: _ => rfl
  | .notImplemented :: _ => rfl
  | .bool _ :: _ => rfl
  | .int _ _ :: _ => rfl
  | .float _ _ :: _ => rfl
  | .str _ _ :: _ => rfl
  | .bytes _ _ :: _ => rfl
  | .type _ :: _ => rfl
  | .builtin _ :: _ => rfl
theorem oexI_cls {K : PySem.W.Frag} {C : Addr} (q : PySem.W.excInitIn K C [.type "ValueError", .type "Exception", .type "BaseException", .type "object"] "ValueError.__new__" = true) (hdct : PySem.W.hasDictIn K C = true) : ∃ nm q N bs bm sn sub ab col dd k0 k1 k2 k3 k5, K.lookup C = some (excClassObj nm q C N bs bm true sn sub ab col dd k0 k1 k2 k3 k5 "ValueError.__new__") ∧ PySem.HandSPX.refsVE bm = true := by
  unfold PySem.W.excInitIn at q
  split at q
  · rename_i dd cd sl ho
    split at q
    · rename_i C' bm k0 k1 k2 k3 n k5 hm hs
      simp only [Bool.and_eq_true, beq_iff_eq, Bool.not_eq_true'] at q
      obtain ⟨⟨⟨rfl, rfl⟩, hdel⟩, ht⟩ := q
      obtain ⟨cd', hc, hd⟩ := PySem.W.any_some hdct
      have hc2 : PySem.W.clsIn K C' = some cd := by unfold PySem.W.clsIn; rw [ho]
      rw [hc2] at hc
      cases hc
      obtain ⟨nm, bs, mro, ns, qn, hd', sn, sub, ab, col, del⟩ := cd
      dsimp only at hm hdel hd
      subst hm hdel hd
      have hsl : sl = #[k0, k1, k2, k3, some (.builtin "ValueError.__new__"), k5] := by
        obtain ⟨l⟩ := sl
        simp only at hs
        rw [hs]
      subst hsl
      exact ⟨nm, qn, ns, bs, bm, sn, sub, ab, col, dd, k0, k1, k2, k3, k5, ho, (excTail_VE bm).symm.trans ht⟩
    · cases q
  · cases q
section
variable {P : Program} {w : World} {K : PySem.W.Frag} {mg : Str → Option Value} {base : Heap} {C : Addr}
theorem xinit_ok {qual fld : Str} {st : Stmt} {f : Addr} {fd : FuncData} {p1 p2 p3 p4 : Pos} (Fn : Fun K "__init__" qual st f fd) (Sc : FnScope ["self", fld] ["self", fld] (defScope st)) (hb : defBody st = [.Assign [.Attribute (.Name "self" p1) fld p2] (.Name fld p3) p4])
    (T : OexC K C) (no : PySem.W.findIn K (.ref C) fld = some none) (hs : Vis (defScope st) "self") (hv : Vis (defScope st) fld) (hsw : ∀ env : Env, swapsWith (.Name fld p3) (some (.Attribute (.Name "self" p1) fld p2)) p4.line env = pure false)
    (hd : (fld == ("__debug__" : Str)) = false := by decide) (hcd : (fld == ("__classdict__" : Str)) = false := by decide) : FnOk P w K mg base CX0 1 f fd ["self", fld] (spXI K C fld) := by
  refine Fun.ok Fn Sc (fun vs H Q E h => ?_) (fun cdv A outer s H vs Q E hr h => ?_)
  · obtain ⟨a, v, e, _⟩ := h
    rw [e]; rfl
  · obtain ⟨a, v, e, ha, q⟩ := h
    subst e
    refine ⟨_, by rw [hb]; exact pss_one (ps_ost (pe_var (i := 0) rfl hs (by decide) (by decide)) (pe_var (i := 1) rfl hv hd hcd) (hsw _)), ?_⟩
    refine ⟨v, rfl, .ref a, rfl, a, C, rfl, T, no, .inl ⟨ha, fun dx n ne => q dx n ne⟩⟩
end
end Dl

namespace Dl
open PySem PySem.Spec PyProof.Rows L2
/-! ### methods and defs of decks that may raise -/
theorem HasPi.sus {F : Fm} {Cl a dx : Addr} {mk : Pg → Nat} {H : Hp} (h : HasPi F Cl a dx mk) : HasPi (F.sus H) Cl a dx mk := ⟨h.X, h.ma, h.md, h.get, h.put⟩
section
variable {X : Cx} {x m : Str} {p pos apos : Pos} {o e : Expr} {es : List Expr} {t : TA} {ta : TE} {k : Nat} {f C : Addr} {fd : FuncData} {ps : List Str} {sp : Sp} {dvs : List V} {ds : List Value} {W : L2.WX}
def tMethE (C : Addr) (m : Str) (sp : Sp) (dvs : List V) (W : L2.WX) (ta : TE) (t : TA) : TE := fun σ H Q => ta σ H fun x H1 => ∃ a dx fs, x = .ref a ∧ H1 a = some (.ins C dx fs) ∧ fs.lookup m = none ∧ t σ H1 fun vs H2 => sp (.ref a :: (vs ++ dvs)) H2 Q (fun cls d H' => W cls d σ H')
end
abbrev RelPE := Pg → List PyData → Pg → Out → Prop
/-- as spPi, with what is left where an exception leaves -/
def spPiE (K : PySem.W.Frag) (C : Addr) (Pre : Pg → List PyData → Prop) (R : RelPE) : Sp := fun vs H Q E => ∃ (S : Addr → Prop) (a dx s t : Addr) (vs' : List V) (ds : List PyData) (g : Pg), vs = .ref a :: vs' ∧ PiG K C a dx s t g H ∧ (∀ b, S b → Lv H b) ∧ S a ∧ S dx ∧ RepAll K S H vs' ds ∧ Pre g ds ∧
  ∀ g' s' t' H', (∀ b o, b ≠ a → b ≠ dx → b ≠ s → b ≠ t → H b = some o → H' b = some o) → (∀ y o, IsX o → H y = some o → ∃ o', IsX o' ∧ H' y = some o') → PiG K C a dx s' t' g' H' → (s' = s ∨ H s' = none) → (t' = t ∨ H t' = none) →
    (∀ v d, Rep K S H' v d → R g ds g' (.ok d) → Q v H') ∧ ∀ dd c y, XOk K S H' dd y → R g ds g' (.ex c y) → E (.ref c) dd H'
section
variable {P : Program} {w : World} {K : PySem.W.Frag} {mg : Str → Option Value} {base : Heap} {C : Addr}
end
structure PiME (P : Program) (w : World) (K : PySem.W.Frag) (mg : Str → Option Value) (base : Heap) (C : Addr) (lvl : Nat) (m : Str) (dvs : List V) (Pre : Pg → List PyData → Prop) (R : RelPE) : Prop where
  cl : Cls K C
  ex : ∃ (fa : Addr) (fd : FuncData) (ps : List Str) (ds : List Value), FnE P w K mg base lvl fa fd ps (spPiE K C Pre R) ∧ Meth K C m fa ∧ L2.Binds K fd ps ds ∧ Vals dvs ds
structure PiFE (P : Program) (w : World) (K : PySem.W.Frag) (mg : Str → Option Value) (base : Heap) (C : Addr) (lvl : Nat) (x : Str) (Pre : Pg → List PyData → Prop) (R : RelPE) : Prop where
  ex : ∃ (fa : Addr) (fd : FuncData) (ps : List Str), FnE P w K mg base lvl fa fd ps (spPiE K C Pre R) ∧ mg x = some (.ref fa) ∧ PySem.W.keepIn K (.ref fa) = true ∧ L2.Binds K fd ps []
section
variable {F : Fm} {C : Cs} {Cl a dx : Addr} {mk : Pg → Nat} {g : Pg} {ρ : Rho} {Φ : Nat → PyData → Prop} {Ξ : Nat → Rho → Addr → Xf → Prop} {e : Expr} {es : List Expr} {pos p py apos pos' : Pos} {x y m : Str} {Pre : Pg → List PyData → Prop} {R : RelPE} {j k : Nat} {P : DE}
theorem FitsX.eqs {W : L2.WX} {X : Cx} (fx : FitsX C W X) : X.prog = C.P ∧ X.w = C.w ∧ X.K = C.K ∧ X.mg = C.mg ∧ X.base = C.base ∧ X.N = C.N ∧ X.env.scope = C.sc := ⟨fx.fit.P, fx.fit.w, fx.fit.K, fx.fit.mg, fx.fit.base, fx.fit.N, fx.fit.sc⟩
end
section
variable {P : Program} {w : World} {K : PySem.W.Frag} {mg : Str → Option Value} {base : Heap} {C : Addr}
end
/-! ### classes of errors without fields -/
section
variable {X : Cx} {C : Addr} {bmB : List Value} {B newId initId : String} {x : Str} {p pos : Pos}
end
structure XCl0 (K : PySem.W.Frag) (mg : Str → Option Value) (x : Str) (C : Addr) : Prop where
  q : PySem.W.excIn K C [.type "ValueError", .type "Exception", .type "BaseException", .type "object"] "ValueError.__new__" = true
  mx : mg x = some (.ref C)
  kC : PySem.W.keepIn K (.ref C) = true
  exC : PySem.W.subIn K (.ref C) (.type "BaseException") = some true
  tyC : PySem.W.typeIn K (.ref C) = some (.type "type")
section
variable {F : Fm} {C : Cs} {ρ : Rho} {k : Nat} {Ξ : Nat → Rho → Addr → Xf → Prop} {pos p pos' : Pos} {P : DE} {x : Str} {Cl : Addr}
end
end Dl

set_option maxHeartbeats 2000000
namespace Dl
open PySem PySem.Spec PyProof.Rows L2
/-! ### errors of any built-in base, with one field (LookupError too) -/
/-- a built-in base: what the library has of it -/
structure XBase (B newId initId : String) (mro : List Value) : Prop where
  fb : ExcBaseFacts B newId initId mro
  sf : StoreFacts B mro "object.__setattr__" "object"
/-- a class over such a base, as the text has it -/
structure OexG (K : PySem.W.Frag) (C : Addr) (mro : List Value) (newId : String) : Prop where
  q : PySem.W.excInitIn K C mro newId = true
  ov : PySem.W.excOver K C mro = true
  dc : PySem.W.hasDictIn K C = true
  sa : PySem.W.findIn K (.ref C) "__setattr__" = some (some (.builtin "object.__setattr__"))
  exC : PySem.W.subIn K (.ref C) (.type "BaseException") = some true
  tyC : PySem.W.typeIn K (.ref C) = some (.type "type")
  kC : PySem.W.keepIn K (.ref C) = true
section
variable {X : Cx} {pins : List (Addr × Obj)} {σ : L2.St} {H : Hp} {s : Shared} {a C : Addr} {f : Str} {y : V} {u : Value} {Q : Unit → Shared → Prop} {E : Value → Shared → Prop} {A : Around} {B newId initId : String} {mro : List Value}
open Builtin Builtin.ObjectAttr PySem.HandSPX in
end
/-- self.f = e, the first field -/
def tPutG (K : PySem.W.Frag) (mro : List Value) (newId : String) (f : Str) (to te : TE) : TS := fun D σ H => te σ H fun y H1 => to σ H1 fun x H2 => ∃ a C : Addr, x = .ref a ∧ OexG K C mro newId ∧ PySem.W.findIn K (.ref C) f = some none ∧
  H2 a = some (exo a C none) ∧ ∀ dx, H2 dx = none → dx ≠ a → D.nx σ (upd (upd H2 dx (exd dx [(f, y)])) a (exo a C (some dx)))
section
variable {X : Cx} {o e : Expr} {es : List Expr} {to te : TE} {ta : TA} {f : Str} {p p' pos : Pos} {B newId initId : String} {mro : List Value}
end
structure XClG (P : Program) (w : World) (K : PySem.W.Frag) (mg : Str → Option Value) (base : Heap) (x : Str) (C : Addr) (f : Str) : Prop where
  mx : mg x = some (.ref C)
  ex : ∃ (B newId initId : String) (mro : List Value) (fI : Addr) (fd : FuncData) (ps : List Str), XBase B newId initId mro ∧ OexG K C mro newId ∧ PySem.W.findIn K (.ref C) "__init__" = some (some (.ref fI)) ∧ PySem.W.typeIn K (.ref fI) = some (.type "function") ∧ FnOk P w K mg base CX0 1 fI fd ps (spXI K C f) ∧ L2.Binds K fd ps []
section
variable {P : Program} {w : World} {K : PySem.W.Frag} {mg : Str → Option Value} {base : Heap} {C : Addr} {B newId initId : String} {mro : List Value}
end
section
variable {F : Fm} {C : Cs} {ρ : Rho} {k : Nat} {Ξ : Nat → Rho → Addr → Xf → Prop} {e : Expr} {pos p pos' : Pos} {P : DE} {x f : Str} {Cl : Addr}
end
end Dl

set_option maxHeartbeats 2000000
namespace Dl
open PySem PySem.Spec PyProof.Rows L2
section
end
section
variable {F : Fm} {h : Hc} {ρ : Rho} {k : Nat} {Φ : Nat → PyData → Prop} {e : Expr} {pos p : Pos}
end
section
variable {X : Cx} {x m q : Str} {p pos apos kpos : Pos} {o e : Expr} {ta te : TE} {k : Nat} {f C : Addr} {fd : FuncData} {ps : List Str} {sp : Sp} {W : L2.WX}
def tMethEK (C : Addr) (m : Str) (sp : Sp) (W : L2.WX) (ta te : TE) : TE := fun σ H Q => ta σ H fun x H1 => ∃ a dx fs, x = .ref a ∧ H1 a = some (.ins C dx fs) ∧ fs.lookup m = none ∧
  te σ H1 fun z H2 => [z].length = 1 ∧ sp [x, z] H2 Q (fun cls d H' => W cls d σ H')
end
/-- a method of decks whose one keyword-only parameter is given, may raise -/
structure PiKE (P : Program) (w : World) (K : PySem.W.Frag) (mg : Str → Option Value) (base : Heap) (C : Addr) (lvl : Nat) (m q : Str) (Pre : Pg → List PyData → Prop) (R : RelPE) : Prop where
  cl : Cls K C
  ex : ∃ (fa : Addr) (fd : FuncData) (ps : List Str), FnE P w K mg base lvl fa fd ps (spPiE K C Pre R) ∧ Meth K C m fa ∧ KBn K fd ps 1 [q] (fun a b => a ++ b) (fun a b => a ++ b)
section
variable {F : Fm} {C : Cs} {Cl a dx : Addr} {mk : Pg → Nat} {g : Pg} {ρ : Rho} {k : Nat} {Φ : Nat → PyData → Prop} {Ξ : Nat → Rho → Addr → Xf → Prop} {e : Expr} {pos p py apos kpos : Pos} {x y m q : Str} {Pre : Pg → List PyData → Prop} {R : RelPE} {j : Nat} {P : DE}
/-- f(e) of a def that only reads, where e may raise -/
theorem wex_callP1 {R : Rel} (hF : PFn C.P C.w C.K C.mg C.base j x R) (hl : j ≤ C.lvl) (hK : F.K = C.K) (hg : C.sc.names.lookup x = some .globalImplicit)
    (h : WPEX F C e ρ k (fun k1 d0 => ∃ d, R [d0] d ∧ Φ k1 d) Ξ) (hdb : (x == ("__debug__" : Str)) = false := by decide) (hss : ∀ env : Env, starEach [e] env = (false, eval e env) :: starEach [] env := by intro _; rfl) (hpl : ∀ env : Env, ((backTo pos (starEach [] env)).any fun x => x.fst) = false := by intro _; rfl) :
    WPEX F C (.Call (.Name x p) [e] [] pos) ρ k Φ Ξ := by
  obtain ⟨fa, fd, ps, G, hm, kp, hb⟩ := hF.ex
  refine of_peX (t := fun W σ H Q => tCons (tEX C W e) tNil σ H fun vs H1 => spPure C.K R vs H1 Q E0) (fun X W fx => ?_) fun σ H Q W en jj q hx => ?_
  · obtain ⟨e1, e2, e3, e4, e5, e6, e7⟩ := fx.eqs
    exact FnG.pe (X := X) (by rw [e1, e2, e3, e4, e5]; exact G) fx.fit.gd (fx.fit.room.mono hl) (by rw [e3]; exact hb) (by show X.env.scope.names.lookup x = _; rw [e7]; exact hg) (by rw [e4]; exact hm) (by rw [e3]; exact kp) (pa_cons (peEX fx) pa_nil (hss X.env)) hdb (hss X.env) (hpl X.env)
  refine h σ H _ W en jj (fun v d0 k1 H1 l1 j1 r1 ⟨d, hR, px⟩ => ?_) hx
  refine ⟨F.S, [d0], d, j1.al, hK ▸ .cons r1 .nil, hR, fun v' H' sm rv => ?_⟩
  have le : Le F H1 H' := fun b o _ e => sm b o e
  refine q v' d k1 H' (l1.trans le) ⟨F.gm _ _ _ j1.g (fun b hb => ?_) (fun b o _ e => sm b o e), fun b o n e => sm b o (j1.le b o n e), fun b hb => (j1.al b hb).keep fun o e => sm b o e⟩ (by show Rep F.K F.S H' v' d; rw [hK]; exact rv) px
  cases e : H1 b with
  | none => exact absurd e (F.gl _ _ j1.g b hb)
  | some o => exact sm b o e
end
end Dl

/-! ### a call of a built-in class with one keyword -/
namespace PyProof.Rows
open PySem PySem.Calls
section
variable {M : Model} {A : Around} {E : Value → Shared → Prop} {s : Shared} {env : Env}
theorem callWith_typeK {pos : Pos} {T : String} {args : List (Bool × Sem Value)} {kws : List (Option Str × Sem Value)} {Q : Value → Shared → Prop} (hplain : args.any (·.1) = false) (hkw : kws.any (·.1.isNone) = false)
    (h : wpAny M A (evalArgs (.type T) true args kws) (fun a s₁ => wpAny M A (call (.type T) a.pos a.kw) Q E s₁) E s) :
    wpAny M A (callWith pos (.type T) [] args kws) Q E s := by
  unfold callWith
  refine wpAny_bind (wpAny_holding (wpAny_mono h (fun a s₁ h₁ => wpAny_bind (wpAny_standAt ?_)) fun _ _ x => x))
  simp only [hplain, hkw, Bool.or_false]
  refine wpAny_bind (wpAny_pure ?_)
  exact wpAny_bind (wpAny_mono h₁ (fun r s₂ hr => wpAny_bind (wpAny_holding (wpAny_point (wpAny_pure hr)))) fun _ _ x => x)
theorem callWith_typeK1 {pos : Pos} {T : String} {e : Expr} {rest : List Expr} {kws : List Keyword} {Q : Value → Shared → Prop}
    (h : wpAny M A (spliced (backTo pos (starEach (e :: rest) env))) (fun vs s₁ => wpAny M A (evalAll ((backToKw pos (keywordEach kws env)).map (·.2)))
      (fun kvs s₂ => wpAny M A (call (.type T) vs (((backToKw pos (keywordEach kws env)).filterMap (·.1)).zip kvs)) Q E s₂) E s₁) E s)
    (he : starEach (e :: rest) env = (false, eval e env) :: starEach rest env)
    (hplain : (backTo pos (starEach (e :: rest) env)).any (·.1) = false)
    (hall : (backToKw pos (keywordEach kws env)).all (·.1.isSome) = true)
    (hkw : (backToKw pos (keywordEach kws env)).any (·.1.isNone) = false) :
    wpAny M A (callWith pos (.type T) [] (backTo pos (starEach (e :: rest) env)) (backToKw pos (keywordEach kws env))) Q E s := by
  refine callWith_typeK hplain hkw ?_
  exact evalArgs_kw2 hall h he
end
end PyProof.Rows
namespace Dl
open PySem PySem.Spec PyProof.Rows L2
/-! ### for i, x in enumerate(list, start=1), the body may raise -/
def Ite1 (K : PySem.W.Frag) (a : Addr) : It :=
  ⟨fun i H => ∃ (xs : List V) (x : V), SqL K H a xs ∧ xs[i]? = some x, fun i H v H' => ∃ T x, v = .ref T ∧ H T = none ∧ H' = upd H T (.tup [.int ((1 : Int) + (i : Nat)), x]) ∧ ∀ xs, SqL K H a xs → xs[i]? = some x, fun i H => ∃ xs : List V, SqL K H a xs ∧ xs.length = i⟩
theorem turn_enum1 {P : Program} {w : World} {K : PySem.W.Frag} {elts : List Expr} {kk : Nat} {tpos : Pos} (a e it : Addr) :
    Turn P w K (.Tuple elts kk tpos) (Ite1 K a) [e, it] e (fun i h => (∃ old, IsEnum h e it ((1 : Int) + (i : Nat)) old) ∧ h.IsListIter it a i ∧ e ≠ it ∧ it ≠ a ∧ e ≠ a) where
  mem := by simp
  obj := fun i h st b hb => by
    obtain ⟨⟨old, he⟩, ⟨o, ho, hc, hd⟩, _⟩ := st
    have e' : b = e ∨ b = it := by simpa using hb
    rcases e' with z | z
    · rw [z]; exact ⟨_, he, fun v q => nomatch q⟩
    · rw [z]; exact ⟨o, ho, fun v q => by rw [hd] at q; cases q⟩
  keep := fun i h h' st k => let ⟨⟨old, he⟩, hi, hne⟩ := st; ⟨⟨old, k e (by simp) _ he⟩, hi.at fun o q => k it (by simp) o q, hne⟩
  item := by
    intro X hP hw hK hc i pins s σ H E I hf st hg
    subst hP hw hK
    obtain ⟨⟨old, he⟩, hit, hne, hita, hea⟩ := st
    obtain ⟨xs, x, hq, hx⟩ := hg
    obtain ⟨its, rv, p, hz⟩ := I.list hq
    obtain ⟨u, hu, ru⟩ := rv.get hx
    have hel : e < s.heap.objs.size := Heap.lt_size he
    have hil : it < s.heap.objs.size := by obtain ⟨_, q, _⟩ := hit; exact Heap.lt_size q
    have D := Draws.list (prog := X.prog) (w := X.w) (A := X.A.in1) (I.ok.hd hc) it a hita.symm its.toArray
    refine wpAny_pyNext_enum_itemC D he ⟨hit, p.isList⟩ (by rw [List.size_toArray]; exact (List.getElem?_eq_some_iff.mp hu).1) hne (fun z => (by simpa using z : e = it ∨ e = a).elim hne hea) fun u' h' tk hP ho hit' hT hsz hk => ?_
    have hu' : u' = u := by
      have : its[i]? = some u' := by simpa using hP
      rw [hu] at this
      exact (Option.some.inj this).symm
    subst hu'
    refine ⟨_, rfl, wpAny_letOwnedTupleGo_enum (s := { s with heap := h', toks := tk + 1 }) ho fun h'' he' sb => ?_⟩
    have hT2 : h''.get? s.heap.objs.size = some { cls := .type "tuple", data := .seq #[.int ((1 : Int) + (i : Nat)) tk, u'] } := (sb.2 _ (Nat.ne_of_gt hel)).trans hT
    have new : ObjOk X.prog X.w (upd H s.heap.objs.size (.tup [.int ((1 : Int) + (i : Nat)), x])) h'' s.heap.objs.size (.tup [.int ((1 : Int) + (i : Nat)), x]) :=
      ⟨by show 2 ≤ sizeLine; decide, [.int ((1 : Int) + (i : Nat)) tk, u'], .cons ⟨_, rfl⟩ (.cons ru .nil), ⟨_, hT2, rfl, _, rfl⟩⟩
    have I1 : Inv X pins σ (upd H s.heap.objs.size (.tup [.int ((1 : Int) + (i : Nat)), x])) { s with heap := h'', toks := tk + 1 } :=
      I.turnedNew (t' := tk + 1) (ch := [e, it]) (fun b ob hb q => (sb.2 b (fun z => hb (by simp [z]))).trans (hk b ob (fun z => hb (by simp [z])) (fun z => hb (by simp [z])) q)) hf (Nat.le_refl _) new
    refine ⟨.ref s.heap.objs.size, _, I1, rfl, ⟨_, x, rfl, I.hok.fresh (Nat.le_refl _), rfl, fun ys hy => by rw [I.list_inj hy hq]; exact hx⟩, ⟨⟨u', ?_⟩, hit'.1.at fun o q => (sb.2 it (Ne.symm hne)).trans q, hne, hita, hea⟩, fun b hb => ?_⟩
    · have e1 : (1 : Int) + ((i + 1 : Nat) : Int) = (1 : Int) + (i : Nat) + 1 := by omega
      rw [e1]; exact he'
    · have hb' : b < s.heap.objs.size := by
        have e' : b = e ∨ b = it := by simpa using hb
        rcases e' with z | z
        · rw [z]; exact hel
        · rw [z]; exact hil
      rw [upd_ne (Nat.ne_of_lt hb')]
      exact (hf b hb).1
  done := by
    intro X hP hw hK hc i pins s σ H E I hf st hg
    subst hP hw hK
    obtain ⟨⟨old, he⟩, hit, hne, hita, hea⟩ := st
    obtain ⟨xs, hq, hx⟩ := hg
    obtain ⟨its, rv, p, hz⟩ := I.list hq
    obtain ⟨f0, f1, f2, f3, f4, f5⟩ := hf it (by simp)
    have hl := rv.length
    have D := Draws.list (prog := X.prog) (w := X.w) (A := X.A.in1) (I.ok.hd hc) it a hita.symm its.toArray
    have hi : i = its.toArray.size := by
      rw [List.size_toArray, ← hl, hx]
    subst hi
    refine wpAny_pyNext_enum_endD D he ⟨hit, p.isList⟩ fun h' eb => ?_
    exact ⟨rfl, I.turned (t' := s.toks) (fun b o hb q => eb b o (by simp [hb]) q) f0 f1 f3 f4 f5⟩
  self := fun A i s Q E st h => let ⟨⟨_, he⟩, _⟩ := st; wpAny_pyIter_enum he h
def iEnum1 (K : PySem.W.Frag) (ta : TA) : TI := fun σ H R => ta σ H fun vs H1 => ∃ a xs, vs = [.ref a] ∧ SqL K H1 a xs ∧ R (Ite1 K a) H1
theorem pi_enum1 {X : Cx} {e : Expr} {ta : TA} {p p2 p3 pos tpos : Pos} {elts : List Expr} {kk jj : Nat} (hg : Gl X "enumerate") (hm : X.mg "enumerate" = none) (ha : PA X [e] ta) (hs : starEach [e] X.env = [(false, eval e X.env)]) :
    PI X (.Tuple elts kk tpos) (.Call (.Name "enumerate" p) [e] [⟨some "start", .Constant (.int 1) jj p2, p3⟩] pos) (iEnum1 X.K ta) := by
  refine ⟨fun pins s σ H R I h => ?_⟩
  refine wpAny_Call_Name_kw (ld_blt I hg hm boot_enumerate ?_)
  refine PyProof.Rows.callWith_typeK1 (thn (ha.run pos pins s σ H _ I h) fun us s1 ⟨vs, H1, I1, r1, q1⟩ => ?_) hs (by rw [hs]; rfl) rfl rfl
  obtain ⟨a, xs, ex, hq, q⟩ := q1
  subst ex
  cases r1 with
  | cons r rr =>
    cases rr
    cases r
    refine PyProof.Rows.kwAll_cons (thn ((pe_int (X := X) (i := 1)).run pins s1 σ H1 (fun x H' => x = .int 1 ∧ H' = H1) I1 ⟨rfl, rfl⟩) fun v s2 ⟨x, H2, I2, r2, e1, e2⟩ => PyProof.Rows.kwAll_nil ?_)
    subst e1 e2
    obtain ⟨t, rfl⟩ := r2
    obtain ⟨its, rv, p', hz⟩ := I2.list hq
    refine enum_begins_start (begins_list a its.toArray) p'.isList (by decide) (by decide) fun h' he hit hsz hk => wpAny_pyIter_enum he ?_
    have I3 : Inv X pins σ H2 { s2 with heap := h' } := I2.kept (t' := s2.toks) hk
    have la : a < s2.heap.objs.size := p'.lt
    refine ⟨s2.heap.objs.size + 1, [s2.heap.objs.size + 1, s2.heap.objs.size], _, _, H2, rfl, I3, turn_enum1 a (s2.heap.objs.size + 1) s2.heap.objs.size, ⟨⟨.none, he⟩, ⟨_, hit, rfl, rfl⟩, Nat.succ_ne_self _, Nat.ne_of_gt la, Nat.ne_of_gt (Nat.lt_succ_of_lt la)⟩, fun b hb => ?_, q⟩
    have e' : b = s2.heap.objs.size + 1 ∨ b = s2.heap.objs.size := by simpa using hb
    have hle : s2.heap.objs.size ≤ b := by
      rcases e' with z | z
      · rw [z]; exact Nat.le_add_right _ _
      · rw [z]; exact Nat.le_refl _
    exact I2.fpOk hle (I2.hok.fresh hle)
end Dl

namespace Dl
open PySem PySem.Spec PyProof.Rows L2
/-! ### loops whose bodies may raise; an own list in a def that may raise -/
theorem Tgt.pgX {C : Cs} {i : Nat} {x : Str} (t : Tgt C i x) {pos : Pos} {W : L2.WX} {X : Cx} (fx : FitsX C W X) : PG X (.Name x pos) (gName i) :=
  pg_name (by have := fx.fit.N; rw [show X.N = C.N from this]; exact t.hN) (by have := fx.fit.N; rw [show X.N = C.N from this]; exact t.hi) (by have := fx.fit.sc; rw [show X.env.scope = C.sc from this]; exact t.hx) (by have h1 := fx.fit.fn; have h2 := fx.fit.sc; rw [show X.fn = C.fn from h1, show X.env.scope = C.sc from h2]; exact t.hf)
theorem pgTupX {C : Cs} {W : L2.WX} {pos : Pos} {es : List Expr} {kk : Nat} {t : TGs} {n : Nat} {X : Cx} (fx : FitsX C W X) (h : PGs X es t) (hn : (assignEach es X.env).length = n) (hst : (assignEach es X.env).findIdx? (·.1) = none) : PG X (.Tuple es kk pos) (gTup C.K n t) := by
  have e : X.K = C.K := fx.fit.K
  rw [← e]; exact pg_tup (show X.calm = true from fx.fit.calm) h hn hst
section
variable {F : Fm} {C : Cs} {ρ : Rho} {k : Nat} {Φ : Nat → PyData → Prop} {Ξ : Nat → Rho → Addr → Xf → Prop} {e a b : Expr} {es : List Expr} {pos p p1 p2 p3 p4 tp px : Pos} {P : DE} {x x1 x2 : Str} {body rest : List Stmt} {kk jj : Nat}
/-- for i, x in enumerate(list, start=1) -/
theorem wsx_for_en1 (i1 i2 : Nat) (t1 : Tgt C i1 x1) (t2 : Tgt C i2 x2) (hK : F.K = C.K) (hg : C.sc.names.lookup ("enumerate" : Str) = some .globalImplicit) (hm : C.mg ("enumerate" : Str) = none)
    (hse : ∀ env : Env, starEach [a] env = [(false, eval a env)]) (hfs : ∀ (env : Env) (v : Value), foldedSetIterable (.Call (.Name "enumerate" p) [a] [⟨some "start", .Constant (.int 1) jj p3, p4⟩] pos) env v = pure v)
    (h : WPE F C a ρ k fun k2 d => ∃ (I : Nat → Nat → Rho → Prop) (ds : List PyData), d = .list ds ∧ I 0 k2 ρ ∧
      (∀ (j : Nat) (y : PyData) k' ρ', ds[j]? = some y → I j k' ρ' → WPBX F C body ((ρ'.set i1 (.d (.int ((1 : Int) + (j : Nat))))).set i2 (.d y)) k' (P.loop (I (j + 1))) Ξ) ∧ (∀ k' ρ', I ds.length k' ρ' → P.nx k' ρ')) :
    WPSX F C (.For (.Tuple [.Name x1 p1, .Name x2 p2] kk tp) (.Call (.Name "enumerate" p) [a] [⟨some "start", .Constant (.int 1) jj p3, p4⟩] pos) body [] px) ρ k P Ξ :=
  of_psX (t := fun W => tFor (iEnum1 C.K (tCons (tE C a) tNil)) (gTup C.K 2 (gCons (gName i1) (gCons (gName i2) gNil))) (tBX C W body)) (fun X W fx => ps_for fx.po (show X.calm = true from fx.fit.calm)
      (by have e : X.K = C.K := fx.fit.K
          rw [← e]
          exact pi_enum1 (X := X) (by show X.env.scope.names.lookup ("enumerate" : Str) = _; have := fx.fit.sc; rw [show X.env.scope = C.sc from this]; exact hg) (by have := fx.fit.mg; rw [show X.mg = C.mg from this]; exact hm) (pa_nox (X := X) (pa_cons (peE fx.fit) pa_nil (hse _))) (hse X.env))
      (pgTupX (n := 2) fx (pgs_cons (t1.pgX fx) (pgs_cons (t2.pgX fx) pgs_nil)) (by rfl) (by rfl)) (pbBX fx) (hfs X.env)) fun σ H E W en j q1 q2 q3 q4 hx => by
    show tE C a σ H _
    refine h σ H _ en j fun va da k2 H2 l2 j2 ra hh => ?_
    obtain ⟨I, ds, e1, i0, hstep, hend⟩ := hh
    subst e1
    cases ra with
    | @lst pa xs _ ha hra =>
    refine ⟨pa, xs, rfl, hK ▸ sql_of ha, ?_⟩
    have nx : xs.length = ds.length := hra.length
    refine ⟨fun n m σ' H' => m + n = xs.length ∧ ∃ k' ρ', EnvOk F H' σ' ρ' ∧ J F k' H' ∧ Lz F H2 H' ∧ I n k' ρ', ⟨xs.length, by omega, k2, ρ, en.le l2, j2, .refl, i0⟩, ?_⟩
    rintro n m σ' H' ⟨hm', k', ρ', en', j', lz, ii⟩
    have sqa : SqL C.K H' pa xs := hK ▸ sql_of (K := F.K) (⟨lz _ _ (Fm.sxA ha.2) ha.1, ha.2⟩ : H' pa = some (.lst xs) ∧ ¬ F.S pa)
    by_cases over : n = xs.length
    · exact .inl ⟨⟨xs, sqa, over.symm⟩, q1 ρ' σ' k' H' (l2.lz.trans lz) en' j' (hend k' ρ' (by rw [← nx, ← over]; exact ii))⟩
    · have lt1 : n < xs.length := by omega
      refine .inr ⟨⟨xs, xs[n], sqa, List.getElem?_eq_getElem lt1⟩, fun σ2 H2' => ∃ k' ρ', EnvOk F H2' σ2 ρ' ∧ J F k' H2' ∧ Lz F H2 H2' ∧ I (n + 1) k' ρ', fun σ2 H2' w => ⟨m - 1, by omega, by omega, w⟩, ?_⟩
      rintro v H3 ⟨t, x, rfl, ht, rfl, fx1⟩
      obtain ⟨dx, hdx, rdx⟩ := hra.got (fx1 xs sqa)
      have lnew : Le F H' (upd H' t (.tup [.int ((1 : Int) + (n : Nat)), x])) := .new ht
      have rx2 := (rdx.le lz).le lnew.lz
      refine ⟨t, [.int ((1 : Int) + (n : Nat)), x], rfl, .inl (.inl upd_same), rfl, .int ((1 : Int) + (n : Nat)), [x], rfl, x, [], rfl, rfl, ?_⟩
      refine hstep n dx k' ρ' hdx ii _ _ _ W (((en'.le lnew).set (sv := .d (.int ((1 : Int) + (n : Nat)))) ⟨_, rfl, .int _⟩).set (sv := .d dx) ⟨_, rfl, rx2⟩) (j'.new ht) ?_ q2 ?_ ?_ ?_
      · exact fun ρ2 σ2 k2' H2' l2' e2 j2' p => ⟨k2', ρ2, e2, j2', (lz.trans lnew.lz).trans l2', p⟩
      · exact fun ρ2 σ2 k2' H2' l2' e2 j2' p => q1 ρ2 σ2 k2' H2' (l2.lz.trans ((lz.trans lnew.lz).trans l2')) e2 j2' p
      · exact fun ρ2 σ2 k2' H2' l2' e2 j2' p => ⟨k2', ρ2, e2, j2', (lz.trans lnew.lz).trans l2', p⟩
      · exact hx.lz (l2.lz.trans (lz.trans lnew.lz))
theorem XOk.unext {K : PySem.W.Frag} {S : Addr → Prop} {o : Addr} {H : Hp} {d : Option Addr} {y : Xf} (h : XOk K (fun b => S b ∨ b = o) H d y) : XOk K S H d y := by
  cases y with
  | none => exact h
  | some q =>
    obtain ⟨f, v⟩ := q
    obtain ⟨dx, w, e, ns, hd, r⟩ := h
    exact ⟨dx, w, e, fun z => ns (.inl z), hd, Rep.keep (fun _ _ _ q => q) (fun _ _ z => .inl z) _ _ r⟩
/-- x = [], an own list for all the rest; the rest returns or raises -/
theorem wbx_own {Ξ0 : Nat → Addr → Xf → Prop} (i : Nat) (t : Tgt C i x) (hi : i < ρ.length) (hs : ∀ env : Env, env.scope = C.sc → swapsWith (.List [] p2) (some (.Name x px)) pos.line env = pure false)
    (h : ∀ o, WPBX (F.ext o) C rest (ρ.set i (.own o [])) k { nx := fun _ _ => False, rt := P.rt, bk := fun _ _ => False, ct := fun _ _ => False } (fun k _ c y => Ξ0 k c y)) : WPBX F C (.Assign [.Name x px] (.List [] p2) pos :: rest) ρ k P (fun k _ c y => Ξ0 k c y) := fun σ H E W en j q1 q2 q3 q4 hx X fx pins s I =>
  (pss_cons (ps_set (X := X) (by have := fx.fit.N; rw [show X.N = C.N from this]; exact t.hN) (by have := fx.fit.N; rw [show X.N = C.N from this]; exact t.hi) (by have := fx.fit.sc; rw [show X.env.scope = C.sc from this]; exact t.hx) (pe_lst pa_nil) (hs X.env fx.fit.sc) (by have h1 := fx.fit.fn; have h2 := fx.fit.sc; rw [show X.fn = C.fn from h1, show X.env.scope = C.sc from h2]; exact t.hf)) (pbBX fx)).run pins s σ H E I (by
    refine ⟨Nat.zero_le _, fun o no => ?_⟩
    have hM : ¬ F.M o := fun z => F.gl _ _ j.g o z no
    have h0 : F.H0 o = none := j.h0 hM no
    have en2 : EnvOk (F.ext o) (upd H o (.lst [])) (σ.set i (some (.ref o))) (ρ.set i (.own o [])) :=
      (en.ext no).set (sv := .own o []) ⟨rfl, .inr rfl, hM, h0, [], upd_same, .nil⟩
    refine h o (σ.set i (some (.ref o))) (upd H o (.lst [])) E W en2 ((j.new no).ext (lv_new fun _ z => nomatch z)) ?_ ?_ ?_ ?_ ?_
    · exact fun _ _ _ _ _ _ _ z => z.elim
    · exact fun v d k' H' j' r' p => q2 v d k' H' j'.unext r'.unext p
    · exact fun _ _ _ _ _ _ _ z => z.elim
    · exact fun _ _ _ _ _ _ _ z => z.elim
    · intro ρ' σ' k' H' c d y l en' j' xo px
      refine hx [] σ' k' H' c d y (fun b u nb e => ?_) (fun i sv z => by simp at z) j'.unext xo.unext px
      have hb : b ≠ o := fun z => by rw [z, no] at e; cases e
      exact l b u (fun z => z.elim (fun z => z.elim (fun z => nb (.inl z)) hb) fun z => nb (.inr z)) (by rw [upd_ne hb]; exact e))
/-- (a, b), b may raise -/
theorem wex_tup2 (h : WPE F C a ρ k fun k1 d1 => WPEX F C b ρ k1 (fun k2 d2 => Φ k2 (.tuple [d1, d2])) Ξ) (hs1 : ∀ env : Env, starEach [a, b] env = (false, eval a env) :: starEach [b] env := by intro _; rfl) (hs2 : ∀ env : Env, starEach [b] env = (false, eval b env) :: starEach [] env := by intro _; rfl) : WPEX F C (.Tuple [a, b] kk pos) ρ k Φ Ξ :=
  of_peX (t := fun W => tTup (tCons (tE C a) (tCons (tEX C W b) tNil))) (fun X W fx => pe_tup (pa_cons (PE.nox (X := X) (peE fx.fit)) (pa_cons (peEX fx) pa_nil (hs2 X.env)) (hs1 X.env))) fun σ H Q W en jj q hx => by
    show tE C a σ H _
    refine h σ H _ en jj fun v1 d1 k1 H1 l1 j1 r1 h2 => ?_
    show tEX C W b σ H1 _
    refine h2 σ H1 _ W (en.le l1) j1 (fun v2 d2 k2 H2 l2 j2 r2 px => ⟨by show 2 ≤ sizeLine; decide, fun p0 hp => q _ (.tuple [d1, d2]) k2 _ ((l1.trans l2).trans (.new hp)) (j2.new hp) (rep_newT j2 hp (.cons (r1.le l2.lz) (.cons r2 .nil))) px⟩) (hx.lz l1.lz)
end
end Dl

namespace Dl
open PySem PySem.Spec PyProof.Rows L2
/-! ### texts: slices, text * int, int(text); dict([..]) with texts as keys -/
section
variable {F : Fm} {C : Cs} {ρ : Rho} {k : Nat} {Φ : Nat → PyData → Prop} {a b e e1 e2 : Expr} {pos p p2 ap cp : Pos}
theorem cut_to (z : Str) (m : Nat) : cutS z none (some (m : Int)) = ⟨(z.cps.toList.take m).toArray⟩ := by
  unfold cutS
  rw [HT.sIx_nat, HT.sIx_none, List.drop_zero, Nat.sub_zero]
  have e : z.cps.toList.take (min m z.length) = z.cps.toList.take m := by
    rw [List.take_eq_take_iff]
    have : z.length = z.cps.toList.length := by simp [Str.length]
    omega
  rw [e]
theorem cut_from (z : Str) (m : Nat) : cutS z (some (m : Int)) none = ⟨(z.cps.toList.drop m).toArray⟩ := by
  unfold cutS
  rw [HT.sIx_nat, HT.sIx_none]
  have hl : z.length = z.cps.toList.length := by simp [Str.length]
  congr 2
  by_cases h : m ≤ z.length
  · rw [Nat.min_eq_left h, List.take_of_length_le (by rw [List.length_drop]; omega)]
  · rw [Nat.min_eq_right (by omega), Nat.sub_self, List.take_zero, List.drop_eq_nil_of_le (by omega)]
/-- x[:e] of a text -/
theorem we_cutTo (h : WPE F C a ρ k fun k1 x => WPE F C e ρ k1 fun k2 y => ∃ (z : Str) (m : Nat), x = .str z ∧ y = .int (m : Int) ∧ z.length ≤ 1000000 ∧ Φ k2 (.str ⟨(z.cps.toList.take m).toArray⟩)) : WPE F C (.Subscript a (.Slice none (some e) none p2) pos) ρ k Φ :=
  of_pe (fun X fx => pe_slice sl_str (peE fx) po_none (po_some (peE fx))) fun σ H Q en j q => by
    show tE C a σ H _
    refine h σ H _ en j fun v d k1 H1 l1 j1 r hx => ?_
    show tE C e σ H1 _
    refine hx σ H1 _ (en.le l1) j1 fun vy y k2 H2 l2 j2 r2 ⟨z, m, e1, e2, hz, p⟩ => ?_
    subst e1 e2
    cases r
    cases r2
    refine ⟨(m : Int), rfl, z, rfl, Nat.le_trans hz (by decide), ?_⟩
    rw [cut_to]
    exact q _ _ k2 H2 (l1.trans l2) j2 (.str _) p
/-- x[e:] of a text -/
theorem we_cutFrom (h : WPE F C a ρ k fun k1 x => WPE F C e ρ k1 fun k2 y => ∃ (z : Str) (m : Nat), x = .str z ∧ y = .int (m : Int) ∧ z.length ≤ 1000000 ∧ Φ k2 (.str ⟨(z.cps.toList.drop m).toArray⟩)) : WPE F C (.Subscript a (.Slice (some e) none none p2) pos) ρ k Φ :=
  of_pe (fun X fx => pe_slice sl_str (peE fx) (po_some (peE fx)) po_none) fun σ H Q en j q => by
    show tE C a σ H _
    refine h σ H _ en j fun v d k1 H1 l1 j1 r hx => ?_
    show tE C e σ H1 _
    refine hx σ H1 _ (en.le l1) j1 fun vy y k2 H2 l2 j2 r2 ⟨z, m, e1, e2, hz, p⟩ => ?_
    subst e1 e2
    cases r
    cases r2
    refine ⟨(m : Int), rfl, z, rfl, Nat.le_trans hz (by decide), ?_⟩
    rw [cut_from]
    exact q _ _ k2 H2 (l1.trans l2) j2 (.str _) p
/-- xs[e:e2] of a list -/
theorem we_sliceLN (hK : F.K = C.K) (h : WPE F C a ρ k fun k1 x => WPE F C e ρ k1 fun k2 y => ∃ m : Nat, y = .int (m : Int) ∧ WPE F C e2 ρ k2 fun k3 z => ∃ ds, ∃ m' : Nat, x = .list ds ∧ z = .int (m' : Int) ∧ Φ k3 (.list ((ds.drop m).take (m' - m)))) : WPE F C (.Subscript a (.Slice (some e) (some e2) none p2) pos) ρ k Φ :=
  of_pe (fun X fx => pe_slice (slLK fx) (peE fx) (po_some (peE fx)) (po_some (peE fx))) fun σ H Q en j q => by
    show tE C a σ H _
    refine h σ H _ en j fun v d k1 H1 l1 j1 r hx => ?_
    show tE C e σ H1 _
    refine hx σ H1 _ (en.le l1) j1 fun vy y k2 H2 l2 j2 r2 ⟨m, ey, hy⟩ => ?_
    subst ey
    cases r2
    refine ⟨(m : Int), rfl, ?_⟩
    show tE C e2 σ H2 _
    refine hy σ H2 _ ((en.le l1).le l2) j2 fun vz z k3 H3 l3 j3 r3 ⟨ds, m', e1, e3, p⟩ => ?_
    subst e1 e3
    have r' := (r.le l2.lz).le l3.lz
    cases r' with
    | @lst a xs _ ha hr =>
    cases r3
    refine ⟨(m' : Int), rfl, a, xs, rfl, hK ▸ sql_of ha, fun l hl => ?_⟩
    have ec : cutV xs (some (m : Int)) (some (m' : Int)) = (xs.drop m).take (m' - m) := by
      unfold cutV
      rw [HT.sIx_nat, HT.sIx_nat]
      by_cases hm : m ≤ xs.length
      · rw [Nat.min_eq_left hm, List.take_eq_take_iff, List.length_drop]
        omega
      · rw [List.drop_eq_nil_of_le (by omega), List.drop_eq_nil_of_le (by omega), List.take_nil, List.take_nil]
    rw [ec]
    exact q _ _ k3 _ (((l1.trans l2).trans l3).trans (.new hl)) (j3.new hl) (rep_newL j3 hl (RepAll.take _ (RepAll.drop _ hr))) p
/-- x * e of a text, e is 0 or 1 -/
def rMulS : R2 := fun x y H Q => ∃ (z : Str) (n : Int), x = .str z ∧ y = .int n ∧ (n = 0 ∨ n = 1) ∧ Q (.str (if n = 1 then z else Str.empty)) H
theorem op_mulS {X : Cx} : OpR X (binaryOp .Mult) rMulS := by
  intro pins s σ H x y v u Q I rx ry h
  obtain ⟨z, n, rfl, rfl, hn, q⟩ := h
  obtain ⟨t, rfl⟩ := rx
  obtain ⟨t2, rfl⟩ := ry
  rcases hn with rfl | rfl
  · refine PySem.P.mul_str_none (by decide) (by decide) ?_
    rw [if_neg (by decide)] at q
    exact ⟨.str Str.empty, H, I.tok _, ⟨_, rfl⟩, q⟩
  · refine PySem.P.mul_str (by decide) (fun _ h => by cases h) (fun _ h => by cases h) ?_
    rw [if_neg (by decide), if_pos (show ((1 : Int) == 1 || z.length == 0) = true from rfl)]
    rw [if_pos rfl] at q
    exact ⟨.str z, H, I, ⟨_, rfl⟩, q⟩
theorem we_mulS (h : WPE F C a ρ k fun k1 x => WPE F C b ρ k1 fun k2 y => ∃ (z : Str) (n : Int), x = .str z ∧ y = .int n ∧ (n = 0 ∨ n = 1) ∧ Φ k2 (.str (if n = 1 then z else Str.empty))) : WPE F C (.BinOp a .Mult b pos) ρ k Φ :=
  we_bin (fun X _ => op_mulS) (h.imp fun k1 x h1 => h1.imp fun k2 y ⟨z, n, e1, e2, hn, p⟩ => by
    subst e1 e2
    intro H vx vy Q jj rx ry q
    cases rx
    cases ry
    exact ⟨z, n, rfl, rfl, hn, q _ _ k2 H .refl jj (.str _) p⟩)
/-- len(text) -/
theorem we_lenS (hg : C.sc.names.lookup ("len" : Str) = some .globalImplicit) (hm : C.mg ("len" : Str) = none) (hs : ∀ env : Env, starEach [e] env = (false, eval e env) :: starEach [] env) (h : WPE F C e ρ k fun k1 d => ∃ z : Str, d = .str z ∧ z.length ≤ 1000000 ∧ Φ k1 (.int z.length)) : WPE F C (.Call (.Name "len" p) [e] [] pos) ρ k Φ :=
  we_callB (fun X fx => call_len_str) hg hm boot_len (wa_one hs (h.imp fun k1 x ⟨z, e, hz, pΦ⟩ => fun H vs Q j r q => by
    subst e
    cases r with
    | cons r1 r2 =>
    cases r2
    cases r1
    exact ⟨z, rfl, Nat.le_trans hz (by decide), q _ _ k1 H .refl j (.int _) pΦ⟩)) (by decide) (by decide) hs
/-! ### a dict with texts as keys, ints as values -/
def dtD (ps : List (Str × Int)) : PyData := .dict (ps.map fun p => (.str p.1, .int p.2))
def valT (ps : List (Str × Int)) (w : Str) : Option Int := (ps.find? fun p => p.1 == w).map (·.2)
abbrev kvT (p : Str × Int) : Key × V := (.inr p.1, .int p.2)
abbrev txI (p : Str × Int) : PyData := .tuple [.str p.1, .int p.2]
end
end Dl

namespace Dl
open PySem PySem.Spec PyProof.Rows L2
section
variable {F : Fm} {C : Cs} {ρ : Rho} {k : Nat} {Φ : Nat → PyData → Prop} {pos p1 p2 p3 : Pos} {a : Expr} {jj : Nat}
/-- xs[::-1] of a list -/
theorem we_revL (hK : F.K = C.K) (h : WPE F C a ρ k fun k1 x => ∃ ds, x = .list ds ∧ Φ k1 (.list ds.reverse)) : WPE F C (.Subscript a (.Slice none none (some (.UnaryOp .USub (.Constant (.int 1) jj p1) p2)) p3) pos) ρ k Φ :=
  of_pe (t := tRevL C.K (tE C a)) (fun X fx => by rw [← fx.K]; exact pe_revL (peE fx)) fun σ H Q en j q => by
    show tE C a σ H _
    refine h σ H _ en j fun v d k1 H1 l1 j1 r ⟨ds, e, p⟩ => ?_
    subst e
    cases r with
    | @lst b xs _ hb hr =>
    have rev : ∀ (ds : List PyData) (vs : List V), RpAll F H1 vs ds → RpAll F H1 vs.reverse ds.reverse := fun ds => by
      induction ds with
      | nil => intro vs h; cases h; exact .nil
      | cons d ds ih =>
        intro vs h
        cases h with
        | cons r1 r2 => rw [List.reverse_cons, List.reverse_cons]; exact (ih _ r2).append (.cons r1 .nil)
    exact ⟨b, xs, rfl, hK ▸ sql_of hb, fun l hl => q _ _ k1 _ (l1.trans (.new hl)) (j1.new hl) (rep_newL j1 hl (rev _ _ hr)) p⟩
end
end Dl

namespace Dl
open PySem PySem.Spec PyProof.Rows L2
def revS (z : Str) : Str := ⟨z.cps.toList.reverse.toArray⟩
def tRevS (te : TE) : TE := fun σ H Q => te σ H fun v H1 => ∃ z : Str, v = .str z ∧ z.length ≤ sizeLine ∧ Q (.str (revS z)) H1
theorem fm_map {α β : Type} (f : α → Option β) (g : α → β) : ∀ l : List α, (∀ a ∈ l, f a = some (g a)) → l.filterMap f = l.map g
  | [], _ => rfl
  | a :: l, h => by rw [List.filterMap_cons_some (h a List.mem_cons_self), fm_map f g l fun b hb => h b (List.mem_cons_of_mem _ hb)]; rfl
theorem rev_picked (z : Str) : (⟨((Builtin.Str.strSliceIndices none none (-1) z.length).filterMap (z.cps[·]?)).toArray⟩ : Str) = revS z := by
  unfold revS
  congr 2
  rw [picked_rev, List.filterMap_map]
  apply List.ext_getElem?
  intro i
  have hl : z.cps.toList.length = z.length := Array.length_toList
  have e : (List.range z.length).filterMap ((z.cps[·]?) ∘ fun k => z.length - 1 - k) = (List.range z.length).map fun k => z.cps.getD (z.length - 1 - k) 0 := by
    refine fm_map _ _ _ fun k hk => ?_
    have hk := List.mem_range.mp hk
    have hlt : z.length - 1 - k < z.cps.size := by show _ < z.length; omega
    show z.cps[z.length - 1 - k]? = some (z.cps.getD (z.length - 1 - k) 0)
    rw [Array.getD_eq_getD_getElem?, Array.getElem?_eq_getElem hlt]; rfl
  rw [e]
  by_cases hi : i < z.length
  · rw [List.getElem?_map, List.getElem?_range hi, List.getElem?_reverse (by rw [hl]; exact hi), hl]
    have hlt : z.length - 1 - i < z.cps.size := by show _ < z.length; omega
    rw [Array.getElem?_toList, Option.map_some, Array.getD_eq_getD_getElem?, Array.getElem?_eq_getElem hlt]; rfl
  · rw [List.getElem?_eq_none (by rw [List.length_map, List.length_range]; omega), List.getElem?_eq_none (by rw [List.length_reverse, hl]; omega)]
section
variable {X : Cx} {e : Expr} {te : TE} {k : Nat} {p1 p2 p3 pos : Pos}
theorem pe_revS (he : PE X e te) : PE X (.Subscript e (.Slice none none (some (.UnaryOp .USub (.Constant (.int 1) k p1) p2)) p3) pos) (tRevS te) := by
  refine ⟨fun pins s σ H Q I h => ?_⟩
  refine Subscript_ (thn (he.run pins s σ H _ I h) fun v s1 ⟨x, H1, I1, r1, q1⟩ => ?_)
  obtain ⟨z, ex, hz, q⟩ := q1
  subst ex
  obtain ⟨t, rfl⟩ := r1
  have hst : PO X (some (.UnaryOp .USub (.Constant (.int 1) k p1) p2)) (tPart (tUn (rU fun i => .int (-i)) (tC (.int 1)))) := po_some (pe_un un_neg pe_int)
  refine wpAny_Slice (thn (po_none.run pins s1 σ H1 (fun o H2 => o = none ∧ H2 = H1) I1 ⟨rfl, rfl⟩) fun vl s2 ⟨l, H2, I2, pl, el, e2⟩ => ?_)
  subst el e2
  refine thn (po_none.run pins s2 σ H2 (fun o H3 => o = none ∧ H3 = H2) I2 ⟨rfl, rfl⟩) fun vu s3 ⟨u, H3, I3, pu, eu, e3⟩ => ?_
  subst eu e3
  refine thn (hst.run pins s3 σ H3 (fun o H4 => o = some (-1) ∧ H4 = H3) I3 ⟨1, rfl, -1, rfl, rfl, rfl⟩) fun vs s4 ⟨o, H4, I4, ps, eo, e4⟩ => ?_
  subst eo e4
  have I5 : Inv X pins σ H4 { s4 with heap := s4.heap.push { cls := .type "slice", data := .fields #[vl, vu, vs] } } := I4.kept (t' := s4.toks) fun b ob q => Heap.get?_push_of_some _ q
  show wpAny (model X.prog X.w) X.A (subscriptTail e (.Slice none none (some (.UnaryOp .USub (.Constant (.int 1) k p1) p2)) p3) (.str z t) (.ref s4.heap.objs.size)) (EP X pins σ Q) X.xe { s4 with heap := s4.heap.push { cls := .type "slice", data := .fields #[vl, vu, vs] } }
  refine tail_any (ops := [.str z t, .ref s4.heap.objs.size]) (typeIs_str _ _ _) (F.slot_str_getitem.lookup) ?_ (by with_unfolding_all rfl)
  obtain ⟨l, rfl, hl⟩ := IsPart.raw pl
  obtain ⟨u, rfl, hu⟩ := IsPart.raw pu
  obtain ⟨st, rfl, hs⟩ := IsPart.raw ps
  refine wpAny_getItem_str_slice (l := l) (u := u) (st := st) ⟨_, Heap.get?_push_size _ rfl, rfl, rfl⟩ (by rw [hs]; rfl) ?_
  have em : sliceMade z t l u st = Made.str (revS z) := by
    unfold sliceMade slicePicked
    rw [hl, hu, hs]
    rw [if_neg (by show ¬ (((-1 : Int) == 1) && _) = true; rw [show ((-1 : Int) == 1) = false from rfl, Bool.false_and]; decide)]
    exact congrArg Made.str (rev_picked z)
  rw [em]
  have hlen : (revS z).length = z.length := by
    show z.cps.toList.reverse.toArray.size = _
    rw [List.size_toArray, List.length_reverse]; exact Array.length_toList
  exact ⟨by rw [hlen]; exact hz, .str _, H4, I5.tok _, ⟨_, rfl⟩, q⟩
end
section
variable {F : Fm} {C : Cs} {ρ : Rho} {k : Nat} {Φ : Nat → PyData → Prop} {pos p1 p2 p3 : Pos} {a : Expr} {jj : Nat}
/-- x[::-1] of a text -/
theorem we_revS (h : WPE F C a ρ k fun k1 x => ∃ z : Str, x = .str z ∧ z.length ≤ 1000000 ∧ Φ k1 (.str (revS z))) : WPE F C (.Subscript a (.Slice none none (some (.UnaryOp .USub (.Constant (.int 1) jj p1) p2)) p3) pos) ρ k Φ :=
  of_pe (t := tRevS (tE C a)) (fun X fx => pe_revS (peE fx)) fun σ H Q en j q => by
    show tE C a σ H _
    refine h σ H _ en j fun v d k1 H1 l1 j1 r ⟨z, e, hz, p⟩ => ?_
    subst e
    cases r
    exact ⟨z, rfl, Nat.le_trans hz (by decide), q _ _ k1 H1 l1 j1 (.str _) p⟩
end
end Dl

namespace Dl
open PySem PySem.Spec PyProof.Rows L2
/-! ### two decks -/
section
variable {K : PySem.W.Frag} {C a dx s t y z : Addr} {g : Pg} {H : Hp}
theorem PiG.unhid (d : PiG K C a dx s t g (hid H y z)) : PiG K C a dx s t g H := ⟨(hid_some d.ia).2.2, (hid_some d.id).2.2, d.ne, by
    obtain ⟨as, h1, h2⟩ := d.ss
    exact ⟨as, (hid_some h1).2.2, h2.keep fun b xs q => (hid_some q).2.2⟩, by
    obtain ⟨as, h1, h2⟩ := d.tt
    exact ⟨as, (hid_some h1).2.2, h2.keep fun b xs q => (hid_some q).2.2⟩, d.ls, d.lt⟩
end
/-! ### making a deck, as a step from one frame into the next -/
structure Into (F : Fm) (H : Hp) (Cl a dx : Addr) (k1 : Nat) (d : Nat × List Int) (H' : Hp) : Prop where
  j : J (F.deck Cl a dx) (kk k1 ([d], [])) H'
  en : ∀ (σ : L2.St) (ρ : Rho), EnvOk F H σ ρ → EnvOk (F.deck Cl a dx) H' σ ρ
  lz : ∀ H2, Lz (F.deck Cl a dx) H' H2 → Lz F H H2
  back : ∀ c g H2, J (F.deck Cl a dx) (kk c g) H2 → J F c H2
section
variable {F : Fm} {C : Cs} {Cl f : Addr} {ρ : Rho} {k : Nat} {Φ : Nat → PyData → Prop} {P : DE} {e e2 : Expr} {pos p cp px : Pos} {xc : Str} {j : Nat} {fd : FuncData} {ps : List Str} {Ok : Nat × List Int → Prop}
end
section
variable {F : Fm} {C : Cs} {Cl Cl2 f f2 : Addr} {ρ : Rho} {k : Nat} {P : DE} {e e2 : Expr} {pos p p' cp cp2 p1 p2 p3 p4 : Pos} {kx kt : Nat} {xc xc2 x1 x2 : Str} {j j2 : Nat} {fd fd2 : FuncData} {ps ps2 : List Str} {Ok Ok2 : Nat × List Int → Prop} {rest : List Stmt}
end
/-! ### == of decks, by their own def -/
/-- a class of decks, for isinstance -/
structure PiI (K : PySem.W.Frag) (Cl : Addr) : Prop where
  cl : Cls K Cl
  ha : PySem.W.findIn K (.ref Cl) "__class__" = some (some (.builtin "object.__class__"))
  hn : PySem.W.specialIn K (.builtin "object.__class__") "__get__" = some (some (.builtin "getset_descriptor.__get__"))
  tk : PySem.W.takesIn K (.builtin "object.__class__") = some true
  hm : PySem.W.mroIn K Cl (.type "object") = some true
def spEqD (K : PySem.W.Frag) (C1 C2 : Addr) (Pre : Pg → Pg → Prop) (R : Pg → Pg → Bool → Prop) : Sp := fun vs H Q _ => ∃ (a dx s t : Addr) (g : Pg) (b dy s' t' : Addr) (g' : Pg), vs = [.ref a, .ref b] ∧ PiG K C1 a dx s t g H ∧ PiG K C2 b dy s' t' g' H ∧ Pre g g' ∧ ∀ c H', Same H H' → R g g' c → Q (.bl c) H'
section
variable {F : Fm} {C : Cs} {Cl a dx : Addr} {g : Pg} {ρ : Rho} {k : Nat} {Φ : Nat → PyData → Prop} {e b : Expr} {pos p py apos pc1 : Pos} {x y : Str}
end
section
variable {P : Program} {w : World} {K : PySem.W.Frag} {mg : Str → Option Value} {base : Heap} {C1 C2 : Addr}
end
section
variable {X : Cx} {k : Nat} {f C1 C2 : Addr} {fd : FuncData} {ps : List Str} {Pre : Pg → Pg → Prop} {R : Pg → Pg → Bool → Prop}
def rEqDk (K : PySem.W.Frag) (C1 C2 : Addr) (Pre : Pg → Pg → Prop) (R : Pg → Pg → Bool → Prop) : R2 := fun x y H Q => ∃ a b, x = .ref a ∧ y = .ref b ∧ (∃ dx fs, H a = some (.ins C1 dx fs)) ∧ (∃ dy gs, H b = some (.ins C2 dy gs)) ∧ spEqD K C1 C2 Pre R [.ref a, .ref b] H (fun v H' => Q v H') E0
end
/-- the own == of decks of two classes -/
structure PiE (P : Program) (w : World) (K : PySem.W.Frag) (mg : Str → Option Value) (base : Heap) (C1 C2 : Addr) (lvl : Nat) (Pre : Pg → Pg → Prop) (R : Pg → Pg → Bool → Prop) : Prop where
  ex : ∃ (fa : Addr) (fd : FuncData) (ps : List Str), FnG P w K mg base lvl fa fd ps (spEqD K C1 C2 Pre R) ∧ PySem.W.findIn K (.ref C1) "__eq__" = some (some (.ref fa)) ∧ PySem.W.isFn K (.ref fa) = true ∧ L2.Binds K fd ps []
  nf : PySem.W.notFirst K C1 (.ref C2) = true
section
variable {F : Fm} {C : Cs} {C1 C2 a dx b dy : Addr} {mk mk2 : Pg → Nat} {g g2 : Pg} {ρ : Rho} {k j : Nat} {Φ : Nat → PyData → Prop} {Ψ : Nat → Bool → Prop} {pos p1 p2 : Pos} {y1 y2 : Str} {Pre : Pg → Pg → Prop} {R : Pg → Pg → Bool → Prop}
end
end Dl

namespace Dl
open PySem PySem.Spec PyProof.Rows L2
section
variable {F : Fm} {C : Cs} {ρ : Rho} {k : Nat} {P : DE} {Φ : Nat → PyData → Prop} {Ψ : Nat → Bool → Prop} {pos p p1 p2 p3 p4 p5 tp : Pos} {a b e : Expr} {body : List Stmt} {h₀ : ExceptHandler} {hs : List ExceptHandler} {x x1 x2 x3 : Str} {kk k2 : Nat}
/-- a global name whose value is a written tuple of texts -/
structure KTx (K : PySem.W.Frag) (mg : Str → Option Value) (x : Str) (bs : List Str) : Prop where
  ex : ∃ (T : Addr) (o : Obj) (its : Array Value) (n : Nat), mg x = some (.ref T) ∧ K.lookup T = some o ∧ o.cls = .type "tuple" ∧ o.data = .seq its n ∧ its.size ≤ sizeLine ∧ Vals (bs.map V.str) its.toList
end
section
variable {F : Fm} {C : Cs} {C1 C2 a dx b dy : Addr} {mk mk2 : Pg → Nat} {g g2 : Pg} {ρ : Rho} {k j : Nat} {Ψ : Nat → Bool → Prop} {pos p1 p2 : Pos} {y1 y2 : Str} {Pre : Pg → Pg → Prop} {R : Pg → Pg → Bool → Prop}
end
end Dl

namespace Dl
open PySem PySem.Spec PyProof.Rows L2
/-! ### a def of a class called through the class -/
/-- what the text must say for Class.m(..), m a def of it at f -/
structure ClF (K : PySem.W.Frag) (D : Addr) (m : Str) (f : Addr) : Prop where
  rd : PySem.W.readsIn K D (.type "type") = true
  ga : PySem.W.specialIn K (.ref D) "__getattribute__" = some (some (.builtin "type.__getattribute__"))
  at_ : PySem.W.findCls K (.ref D) (.type "type") m = some (.val (.ref f))
  kp : PySem.W.keepIn K (.ref f) = true
def tClF (D : Addr) (sp : Sp) (ta : TE) (t : TA) : TE := fun σ H Q => ta σ H fun x H1 => x = .ref D ∧ t σ H1 fun vs H2 => sp (vs ++ []) H2 Q E0
section
variable {X : Cx} {x m : Str} {p pos apos : Pos} {o e : Expr} {es : List Expr} {t : TA} {ta : TE} {k : Nat} {f D : Addr} {fd : FuncData} {ps : List Str} {sp : Sp}
end
section
variable {F : Fm} {C : Cs} {Cl D a dx f : Addr} {ρ : Rho} {P : DE} {x y z m : Str} {p p1 p2 p3 apos pos cp : Pos} {d : Nat × List Int} {j : Nat} {fd : FuncData} {ps : List Str} {Ok : Nat × List Int → Prop}
end
end Dl

namespace Dl
open PySem PySem.Spec PyProof.Rows L2
/-! ### counting over a list -/
section
variable {F : Fm} {C : Cs} {ρ : Rho} {k : Nat} {P : DE} {Φ : Nat → PyData → Prop} {x xc xb : Str} {px dp pc pb p3 p4 p5 p6 p7 p8 p9 p10 p11 p12 s1 s2 s3 s4 : Pos} {j1 j2 : Nat} {iter eb : Expr} {rest : List Stmt}
end
end Dl

namespace Dl
open PySem PySem.Spec PyProof.Rows L2
section
variable {F : Fm} {C : Cs} {ρ : Rho} {k : Nat} {Φ : Nat → PyData → Prop} {a b : Expr} {pos : Pos}
end
end Dl

namespace Dl
open PySem PySem.Spec PyProof.Rows L2
section
variable {F : Fm} {C : Cs} {ρ : Rho} {k : Nat} {P : DE} {pos p pl pl2 p1 p2 p4 pt : Pos} {e : Expr} {x1 x2 : Str} {kk kt : Nat} {rest : List Stmt}
end
end Dl

namespace Dl
open PySem PySem.Spec PyProof.Rows L2
/-! ### two own lists side by side -/
def NoW (ρ : Rho) (i : Nat) (o : Addr) : Prop := ∀ (j : Nat) (o' : Addr) (xs : List PyData), j ≠ i → ρ[j]? = some (.own o' xs) → o' ≠ o
section
variable {F : Fm} {C : Cs} {ρ : Rho} {k : Nat} {P : DE} {Φ : Nat → PyData → Prop} {Ψ : Nat → Bool → Prop} {pos p px p2 ap cp py pl pl2 p1 p4 pt : Pos} {x y x1 x2 : Str} {rest : List Stmt} {e : Expr} {o : Addr} {kk kt : Nat}
end
end Dl

set_option maxHeartbeats 2000000
namespace Dl
open PySem PySem.Spec PyProof.Rows L2
/-! ### tokens: behind a written text there is one at least -/
section
variable {α β : Type}
def TokUp (t : Sem α) : Prop := ∀ (M : Model) (Γ : PySem.Ctx) (Q : α → Pos → Shared → Prop) (E : Value → Pos → Shared → Prop) (p : Pos) (s : Shared), Sem.wp M Γ t Q E p s → Sem.wp M Γ t (fun a p' s' => 1 ≤ s'.toks ∧ Q a p' s') E p s
theorem wp_tk {M : Model} {Γ : PySem.Ctx} {t : Sem α} {Q : α → Pos → Shared → Prop} {E : Value → Pos → Shared → Prop} {p : Pos} {s : Shared} (h : 1 ≤ s.toks) (hw : Sem.wp M Γ t Q E p s) : Sem.wp M Γ t (fun a p' s' => 1 ≤ s'.toks ∧ Q a p' s') E p s :=
  Sem.wp_mono _ _ t (fun _ _ _ z => z) (fun _ _ _ z => z.2) _ _ (Sem.wp_toks M Γ 1 t Q E p s h hw)
theorem TokUp.fresh {k : Tok → Sem α} : TokUp (Sem.fresh k) := fun M Γ Q E p s h => by
  have h : Sem.wp M Γ (k s.toks) Q E p { s with toks := s.toks + 1 } := h
  exact wp_tk (t := k s.toks) (s := { s with toks := s.toks + 1 }) (Nat.le_add_left _ _) h
theorem TokUp.bindL {m : Sem α} {f : α → Sem β} (h : TokUp m) : TokUp (m.bind f) := fun M Γ Q E p s hw => by
  rw [Sem.wp_bind] at hw ⊢
  exact Sem.wp_mono _ _ m (fun a p' s' ⟨h1, h2⟩ => wp_tk h1 h2) (fun _ _ _ z => z) _ _ (h M Γ _ E p s hw)
theorem TokUp.bindR {m : Sem α} {f : α → Sem β} (h : ∀ a, TokUp (f a)) : TokUp (m.bind f) := fun M Γ Q E p s hw => by
  rw [Sem.wp_bind] at hw ⊢
  exact Sem.wp_mono _ _ m (fun a p' s' h2 => h a M Γ Q E p' s' h2) (fun _ _ _ z => z) _ _ hw
theorem TokUp.at {q : Pos} {k : Unit → Sem α} (h : TokUp (k ())) : TokUp (Sem.at q k) := fun M Γ Q E p s hw => h M Γ Q E q s hw
theorem TokUp.holding {vs : List Value} {m : Sem α} (h : TokUp m) : TokUp (holding vs m) := fun M Γ Q E p s hw => by
  rw [Sem.wp_holding] at hw ⊢
  exact h M Γ Q E p s hw
end
section
variable {env : Env} {a b e : Expr} {es : List Expr} {op : Operator} {p q : Pos} {x c : Str} {j : Nat}
theorem TokUp.str : TokUp (eval (.Constant (.str c) j p) env) := by
  rw [show eval (.Constant (.str c) j p) env = Sem.fresh fun t => Sem.pure (.str c t) from rfl]
  exact .fresh
theorem TokUp.lst (hse : starEach (e :: es) env = (false, eval e env) :: starEach es env) (h : TokUp (eval e env)) : TokUp (eval (.List (e :: es) p) env) := by
  rw [eval, hse]
  refine TokUp.bindR fun _ => TokUp.bindL ?_
  show TokUp (spliced ((false, eval e env) :: backTo p (starEach es env)))
  rw [spliced]
  exact TokUp.bindL h
end
theorem wpAny_up {α : Type} {M : Model} {A : Around} {t : Sem α} {Q : α → Shared → Prop} {E : Value → Shared → Prop} {s : Shared} (h : TokUp t) (hw : wpAny M A t Q E s) : wpAny M A t (fun a s' => 1 ≤ s'.toks ∧ Q a s') E s := fun Γ p hΓ => h M Γ _ _ p s (hw Γ p hΓ)
/-! ### replace of a written text, once -/
def repl1 (x y z : Str) : Str := if ((Builtin.Str.occurrences x y 0 x.length (x.length + 1)).isEmpty || y.length == 0 && z.length == 0) = true then x else Builtin.Str.glued z (Builtin.Str.partsBetween x (Builtin.Str.occurrences x y 0 x.length (x.length + 1)) y.length)
def tRep1 (to : TE) (y z : Str) : TE := fun σ H Q => to σ H fun v H1 => ∃ x : Str, v = .str x ∧ Builtin.Str.occurrences x y 0 x.length 1 = Builtin.Str.occurrences x y 0 x.length (x.length + 1) ∧ Builtin.Str.tooLong (x.length + (Builtin.Str.occurrences x y 0 x.length (x.length + 1)).length * z.length) = false ∧ (repl1 x y z).length ≤ sizeLine ∧ Q (.str (repl1 x y z)) H1
section
variable {X : Cx} {o e : Expr} {to : TE} {t : TA} {y z : Str} {j0 j1 j2 : Nat} {c0 c1 c2 apos pos : Pos}
end
end Dl

set_option maxHeartbeats 2000000
namespace Dl
open PySem PySem.Spec PyProof.Rows L2
section
variable {X : Cx} {o e : Expr} {to : TE} {t : TA} {apos pos : Pos}
end
/-! ### judgements where there is a token -/
def tET (C : Cs) (e : Expr) : TE := fun σ H Q => ∀ X, Fits C X → ∀ pins s, 1 ≤ s.toks → Inv X pins σ H s → wpAny (model X.prog X.w) X.A (eval e X.env) (EP X pins σ Q) X.xe s
def tST (C : Cs) (st : Stmt) : TS := fun D σ H => ∀ X, Fits C X → ∀ pins s, 1 ≤ s.toks → Inv X pins σ H s → wpAny (model X.prog X.w) X.A (exec st X.env) (SP X pins D) X.xe s
def tBT (C : Cs) (st : List Stmt) : TS := fun D σ H => ∀ X, Fits C X → ∀ pins s, 1 ≤ s.toks → Inv X pins σ H s → wpAny (model X.prog X.w) X.A (execs st X.env) (SP X pins D) X.xe s
abbrev WPET (F : Fm) (C : Cs) (e : Expr) (ρ : Rho) (k : Nat) (Φ : Nat → PyData → Prop) : Prop := WE F (tET C e) ρ k Φ
abbrev WPST (F : Fm) (C : Cs) (st : Stmt) (ρ : Rho) (k : Nat) (P : DE) : Prop := WS F (tST C st) ρ k P
abbrev WPBT (F : Fm) (C : Cs) (st : List Stmt) (ρ : Rho) (k : Nat) (P : DE) : Prop := WS F (tBT C st) ρ k P
section
variable {F : Fm} {C : Cs} {ρ : Rho} {k : Nat} {P : DE} {Φ : Nat → PyData → Prop} {e a b : Expr} {pos p px p2 ap cp : Pos} {x : Str} {st : Stmt} {rest : List Stmt} {o : Addr}
theorem petE {X : Cx} (f : Fits C X) : PET X e (tET C e) := fun pins s σ H Q ht I h => h X f pins s ht I
theorem of_pet {t : TE} (h : ∀ X, Fits C X → PET X e t) (hw : WE F t ρ k Φ) : WPET F C e ρ k Φ := fun σ H Q en j q X fx pins s ht I => h X fx pins s σ H Q ht I (hw σ H Q en j q)
theorem wet_of (h : WPE F C e ρ k Φ) : WPET F C e ρ k Φ := fun σ H Q en j q X fx pins s _ I => h σ H Q en j q X fx pins s I
end
end Dl

set_option maxHeartbeats 2000000
namespace Dl
open PySem PySem.Spec PyProof.Rows L2
/-! ### a lambda that hands back its text from behind -/
/-- lambda w: w[::-1] -/
structure LamR (params : Arguments) (body : Expr) (sc : Scope) (w : Str) : Prop where
  bdy : ∃ p0 p1 p2 p3 p4 k, body = .Subscript (.Name w p0) (.Slice none none (some (.UnaryOp .USub (.Constant (.int 1) k p1) p2)) p3) p4
  kind : sc.kind = .function
  co : sc.isCoroutine = false
  gen : sc.isGenerator = false
  own : sc.names.lookup w = some .local
  cell : ∀ y ∈ sc.names, y.2 ≠ .cell
  free : ∀ y ∈ sc.names, y.2 ≠ .free
  dbg : (w == ("__debug__" : Str)) = false
  bind : ∀ (q : Str) (cl : List (Str × Addr)) (pm cv ctv v : Value), bindArgs (PySem.W.kla_fn "<lambda>" q params body sc cl pm cv ctv) ⟨[v], []⟩ = pure [(w, v)]
  defs : ∀ env : Env, defaultsOf params env = ([], [])
section
variable {prog : Program} {w : World} {A : Around} {s : Shared}
theorem lam_body {E : Value → Shared → Prop} {env : Env} {x : Str} {t : Tok} {wn : Str} {p0 p1 p2 p3 p4 : Pos} {k : Nat} {m : Str → Option Value} (hk : env.scope.kind = .function) (hl : env.kindOf wn = some .local) (hn : s.heap.Ns env.locals m) (hm : m wn = some (.str x t)) (hd : (wn == ("__debug__" : Str)) = false) (hz : x.length ≤ sizeLine) :
    wpAny (model prog w) A (eval (.Subscript (.Name wn p0) (.Slice none none (some (.UnaryOp .USub (.Constant (.int 1) k p1) p2)) p3) p4) env) (PySem.W.KeyPure (.str (revS x)) s) E s := by
  refine Subscript_ (wpAny_Name (wpAny_loadName_local hk hl hn hm ?_) hd)
  refine wpAny_Slice ?_
  rw [evalPart_none]
  refine wpAny_pure (wpAny_pure ?_)
  rw [evalPart_some]
  refine UnaryOp_ (wpAny_Constant_int (neg_int ?_))
  refine tail_any (ops := [.str x t, .ref s.heap.objs.size]) (typeIs_str _ _ _) (F.slot_str_getitem.lookup) ?_ (by with_unfolding_all rfl)
  refine wpAny_getItem_str_slice (l := none) (u := none) (st := some (-1, _)) ⟨_, Heap.get?_push_size _ rfl, rfl, rfl⟩ rfl ?_
  have em : ∀ tk : Tok, sliceMade x t none none (some (-1, tk)) = Made.str (revS x) := fun tk => by
    unfold sliceMade slicePicked
    rw [if_neg (by show ¬ (((-1 : Int) == 1) && _) = true; rw [show ((-1 : Int) == 1) = false from rfl, Bool.false_and]; decide)]
    exact congrArg Made.str (rev_picked x)
  rw [em]
  have hlen : (revS x).length = x.length := by
    show x.cps.toList.reverse.toArray.size = _
    rw [List.size_toArray, List.length_reverse]; exact Array.length_toList
  exact ⟨by rw [hlen]; exact hz, _, _, rfl, fun b o e => Heap.get?_push_of_some _ e, .str _ _⟩
theorem keyPure_from {k : PyData} {s s1 s2 : Shared} {v : Value} (h : PySem.W.KeyPure k s1 v s2) (e : ∃ h1 tk, s1 = { s with heap := h1, toks := tk } ∧ ∀ b o, s.heap.get? b = some o → h1.get? b = some o) : PySem.W.KeyPure k s v s2 := by
  obtain ⟨h1, tk, e1, k1⟩ := e
  obtain ⟨h2, tk2, e2, k2, r⟩ := h
  subst e1
  exact ⟨h2, tk2, e2, fun b o q => k2 b o (k1 b o q), r⟩
theorem lam_turn {E : Value → Shared → Prop} {f c' : Addr} {q : Str} {params : Arguments} {body : Expr} {sc : Scope} {pm ctv : Value} {x wn : Str} {t : Tok} (L : LamR params body sc wn) (hroom : A.depth < recursionLimit) (hf : s.heap.get? f = some (PySem.W.kla_obj "<lambda>" q params body sc (cloFrom [] sc.names []) pm c' ctv)) (hc : s.heap.CodeRec (.ref c') q) (hlim : s.heap.NoLimit) (hz : x.length ≤ sizeLine) :
    wpAny (model prog w) A (call (.ref f) [.str x t]) (PySem.W.KeyPure (.str (revS x)) s) E s := by
  obtain ⟨p0, p1, p2, p3, p4, k, eb⟩ := L.bdy
  subst eb
  refine wpAny_call ?_
  have rc : codeAny (model prog w) A (.call (.ref f) ⟨[.str x t], []⟩) (fun r s' => ∃ v, r = .ok (.ret v) ∧ PySem.W.KeyPure (.str (revS x)) s v s') s := by
    refine PySem.W.kla_callFunE hroom hf rfl L.co L.gen rfl hc ?_
    rw [L.bind]
    refine wpAny_pure (wpAny_newFunctionEnv L.cell (fun y hy => ?_) (fun h1 hns hsb => ⟨hlim.fresh _ hsb, ?_⟩) L.kind)
    · rw [List.mem_singleton] at hy
      subst hy
      exact L.own
    have kp : ∀ b o, s.heap.get? b = some o → h1.get? b = some o := fun b o e => hsb.extBut b o (Nat.ne_of_lt (Heap.lt_size e)) (Heap.get?_push_of_some _ e)
    refine PySem.W.kla_codeExpr (wpAny_mono (lam_body (x := x) (t := t) (m := fun y => ([(wn, Value.str x t)] : List (Str × Value)).reverse.lookup y) L.kind (show sc.names.lookup wn = some .local from L.own) hns ?_ L.dbg hz) (fun v s' hk => ?_) fun _ _ z => z)
    · show List.lookup wn [(wn, Value.str x t)] = _
      rw [List.lookup_cons, beq_self_eq_true]
    · exact ⟨v, rfl, keyPure_from hk ⟨h1, _, rfl, kp⟩⟩
  refine codeAny_mono rc fun r s' ⟨v, e, hk⟩ => ?_
  subst e
  exact hk
end
/-! ### the lambda is made: nothing but its table changes -/
/-- all stays but what stands at P -/
def ButP (P : Addr) (H H' : Hp) : Prop := ∀ b o, b ≠ P → H b = some o → H' b = some o
theorem cloFrom_nofree (cells : List (Str × Addr)) : ∀ (names : List (Str × NameKind)) (acc : List (Str × Addr)), (∀ y ∈ names, y.2 ≠ .free) → cloFrom cells names acc = acc
  | [], _, _ => rfl
  | (n, k) :: r, acc, h => by
    unfold cloFrom
    rw [if_neg (by
      have := h (n, k) List.mem_cons_self
      simpa using this)]
    exact cloFrom_nofree cells r acc fun y hy => h y (List.mem_cons_of_mem _ hy)
theorem lam_make3 {X : Cx} {pins : List (Addr × Obj)} {σ : L2.St} {H : Hp} {s : Shared} {c P : Addr} {params : Arguments} {body : Expr} {sc : Scope} {pos : Pos} {E : Value → Shared → Prop} {Q : Value → Shared → Prop} (I : Inv X pins σ H s) (TB : LamX.TabB X.base X.mg c P) (hcode : X.env.code = .ref c)
    (hT : LamX.TabS H P (X.env.qual ++ "<lambda>")) (hdef : defaultsOf params X.env = ([], [])) (nofree : ∀ y ∈ sc.names, y.2 ≠ .free)
    (h : ∀ (f c' : Addr) (pm ctv : Value) (G : Hp) (s' : Shared), Inv X pins σ G s' → ButP P H G → LamX.TabS G P (X.env.qual ++ "<lambda>") → s'.heap.get? f = some (PySem.W.kla_obj "<lambda>" (X.env.qual ++ "<lambda>") params body sc [] pm c' ctv) → G c' = some (LamX.CodeO c' (X.env.qual ++ "<lambda>")) → Q (.ref f) s') :
    wpAny (model X.prog X.w) X.A (eval (.Lambda params body sc pos) X.env) Q E s := by
  obtain ⟨ps, atP, trip, codes⟩ := hT
  have clo : closureFor sc X.env = pure [] := by
    rw [closure_ok fun y hy e => absurd e (nofree y hy), cloFrom_nofree _ _ _ nofree]
  have objP : s.heap.get? P = some { cls := .none, data := .fields ps } := I.hok P _ atP
  have blt : s.heap.BuiltinsAt X.mg P := TB.bm.keeps I.bk
  have glb : s.heap.Ns mainGlobals X.mg := I.mod.glob.keeps I.bk
  refine PySem.W.kla_eval hdef ?_
  cases hc : codeAmong pos ps.toList with
  | some cv =>
    obtain ⟨c', rfl, hco⟩ := codes pos cv hc
    refine PySem.W.kla_makeFunctionHit (mg := X.mg) (c := c) (P := P) (ps := ps) clo I.ok.glob glb hcode (TB.code.keeps I.bk) objP trip hc blt fun ctv g tk grow _ => ?_
    have J : Inv X pins σ H { s with heap := g.push (PySem.W.kla_obj "<lambda>" (X.env.qual ++ "<lambda>") params body sc [] ((X.mg "__name__").getD .none) c' ctv), toks := tk } := I.kept fun b o e => Heap.get?_push_of_some _ (grow b o e)
    exact h _ c' _ ctv H _ J (fun _ _ _ e => e) ⟨ps, atP, trip, codes⟩ (Heap.get?_push_size _ rfl) hco
  | none =>
    refine PySem.W.kla_makeFunction (mg := X.mg) (c := c) (P := P) (ps := ps) clo I.ok.glob glb hcode (TB.code.keeps I.bk) objP trip hc TB.gP blt fun c' ctv g tk grow above below rc tab => ?_
    obtain ⟨c2, oc, vs, t, ec, hoc, hd, hv⟩ := rc
    cases ec
    have newc : H c' = none := I.hok.fresh above
    have J := LamX.inv_table (t' := tk) (more := #[rawInt pos.line, rawInt pos.col, .ref c']) (h' := g.push (PySem.W.kla_obj "<lambda>" (X.env.qual ++ "<lambda>") params body sc [] ((X.mg "__name__").getD .none) c' ctv)) I atP
      (fun b o hb e => Heap.get?_push_of_some _ (grow b o hb e)) (Heap.get?_push_of_some _ tab) above ⟨oc, vs, t, Heap.get?_push_of_some _ hoc, hd, hv⟩
    have but : ButP P H (upd (upd H P (.tbl (ps ++ #[rawInt pos.line, rawInt pos.col, .ref c']))) c' (LamX.CodeO c' (X.env.qual ++ "<lambda>"))) := fun b o nb e => by
      rw [upd_ne (ne_of_none e newc), upd_ne nb]
      exact e
    refine h _ c' _ ctv _ _ J but ⟨_, by rw [upd_ne (ne_of_none atP newc), upd_same], ?_, fun p' cv hcv => ?_⟩ (Heap.get?_push_size _ rfl) upd_same
    · rw [Array.toList_append]
      exact PySem.TriplesOk_snoc _ _ _ _ trip
    · rw [Array.toList_append] at hcv
      rcases LamX.among_app _ trip hcv with z | z
      · obtain ⟨c0, e1, e2⟩ := codes p' cv z
        refine ⟨c0, e1, but _ _ (fun y => ?_) e2⟩
        rw [y, atP] at e2
        exact LamX.codeO_ne ps (Option.some.inj e2).symm
      · exact ⟨c', z, upd_same⟩
/-! ### sorted(xs, key=lambda w: w[::-1]) -/
def keySort (xs : List Str) : List Str := xs.mergeSort (PySem.W.dataLe false fun z => PyData.str (revS z))
def tSL (K : PySem.W.Frag) (P : Addr) (q : Str) (ta : TA) : TE := fun σ H Q => ta σ H fun vs H1 => ∃ a, ∃ xs : List Str, vs = [.ref a] ∧ SqL K H1 a (xs.map V.str) ∧ (∀ z ∈ xs, z.length ≤ sizeLine) ∧ LamX.TabS H1 P q ∧
  ∀ H2, ButP P H1 H2 → LamX.TabS H2 P q → ∀ l, H2 l = none → Q (.ref l) (upd H2 l (.lst ((keySort xs).map V.str)))
theorem sql_but {K : PySem.W.Frag} {H H' : Hp} {a P : Addr} {q : Str} {xs : List V} (h : SqL K H a xs) (t : LamX.TabS H P q) (e : ButP P H H') : SqL K H' a xs := by
  obtain ⟨ps, atP, _⟩ := t
  rcases h with (h | ⟨o, h⟩) | h
  · exact .inl (.inl (e _ _ (fun z => by rw [z, atP] at h; cases h) h))
  · exact .inl (.inr ⟨o, e _ _ (fun z => by rw [z, atP] at h; cases h) h⟩)
  · exact .inr h
theorem strs_each : ∀ {xs : List Str} {us : List Value}, Vals (xs.map V.str) us → PySem.W.EachIs (fun (v : Value) (x : Str) => ∃ t, v = .str x t) us xs
  | [], [], .nil => .nil
  | _ :: _, _ :: _, .cons r rs => .cons r (strs_each rs)
theorem each_strs : ∀ {xs : List Str} {us : List Value}, PySem.W.EachIs (fun (v : Value) (x : Str) => ∃ t, v = .str x t) us xs → Vals (xs.map V.str) us
  | _, _, .nil => .nil
  | _, _, .cons r rs => .cons r (each_strs rs)
section
variable {X : Cx} {e : Expr} {te : TE} {c P : Addr} {wn : Str} {params : Arguments} {body : Expr} {sc : Scope} {p pos lpos kp : Pos}
theorem pe_sortLam {ta : TA} (L : LamR params body sc wn) (hu : X.A.units + 60 < cLine) (hdep : X.A.depth < recursionLimit) (hg : Gl X ("sorted" : Str)) (hm : X.mg ("sorted" : Str) = none) (TB : LamX.TabB X.base X.mg c P) (hcode : X.env.code = .ref c) (he : PA X [e] ta)
    (hse : ∀ env : Env, starEach [e] env = (false, eval e env) :: starEach [] env := by intro _; rfl) :
    PE X (.Call (.Name "sorted" p) [e] [⟨some "key", .Lambda params body sc lpos, kp⟩] pos) (tSL X.K P (X.env.qual ++ "<lambda>") ta) := ⟨fun pins s σ H Q I h => by
  refine wpAny_Call_Name_kw (ld_blt I hg hm (u := .builtin "sorted") (by decide +kernel) ?_ (by decide) (by decide))
  refine PyProof.Rows.callWith_kw (thn (he.run pos pins s σ H _ I h) fun us s1 hs => ?_) (by rw [hse]; rfl) (by rw [hse]; rfl) rfl rfl
  obtain ⟨vs, H1, I1, rv, a, xs, evs, hsq, hlen, hT, q⟩ := hs
  subst evs
  obtain ⟨u, rfl, ru⟩ := vals1 rv
  obtain rfl : u = Value.ref a := ru
  refine PyProof.Rows.kws_cons ?_
  refine lam_make3 I1 TB hcode hT (L.defs X.env) L.free fun f c' pm ctv H2 s2 I2 eN hT2' hf hco => ?_
  refine PyProof.Rows.kws_nil ?_
  have hsq2 := sql_but hsq hT eN
  obtain ⟨its, rl, pl, hz⟩ := I2.list hsq2
  obtain ⟨⟨oc, vs', tk', ho, hd, hv⟩, _, _⟩ := I2.hok c' _ hco
  have hlz : xs.length ≤ sizeLine := by rw [← List.length_map (f := V.str)]; exact hz
  show wpAny _ _ (call (.builtin "sorted") [.ref a] [(Str.ofString "key", .ref f)]) _ _ s2
  refine PySem.W.sorted_key_data (β := Str) (R := fun (v : Value) (x : Str) => ∃ t, v = .str x t) (bs := xs) (b := false) (fun z => PyData.str (revS z)) pl.isList (strs_each rl) (PySem.W.AllAlike.of fun _ _ => rfl) (PySem.W.Sortable.others fun _ => ⟨fun z => (nomatch z), fun _ z => (nomatch z)⟩) hlz (fun z _ => ?_) (ksk_s1 _ _) (fun _ => ksk_l1 _ _) (fun _ => ksk_t1 _ _) (fun v x hR hx hh tk kp => ?_) fun out co h' tk kp hnone hD _ eo => ?_
  · show X.A.units + 2 + 0 < cLine
    omega
  · obtain ⟨t, rfl⟩ := hR
    exact lam_turn L hdep (by rw [cloFrom_nofree _ _ _ L.free]; exact kp _ _ hf) ⟨c', oc, vs', tk', rfl, kp _ _ ho, hd, hv⟩ (I2.nolimit.keeps kp) (hlen x hx)
  · have hn : H2 (s2.heap.objs.size + 1) = none := I2.hok.fresh (Nat.le_succ _)
    have rel := each_strs eo
    refine ⟨.ref (s2.heap.objs.size + 1), _, I2.laid (t' := tk) (o := .lst ((keySort xs).map V.str)) kp (Nat.le_succ _) ⟨by rw [List.length_map]; unfold keySort; rw [List.length_mergeSort]; exact hlz, out, co, rel, hD⟩, rfl, q H2 eN hT2' _ hn⟩⟩
end
end Dl

set_option maxHeartbeats 2000000
namespace Dl
open PySem PySem.Spec PyProof.Rows L2
section
variable {F : Fm} {C : Cs} {ρ : Rho} {k : Nat} {P : DE} {Φ : Nat → PyData → Prop} {a : Expr} {pos : Pos} {st : Stmt} {e : Expr}
/-- x.replace(y, z), y and z written, where there is a token -/
theorem wet_repl {y z : Str} {j0 j1 : Nat} {c0 c1 apos : Pos} (hyz : (y == z) = false)
    (h : WPET F C a ρ k fun k1 d => ∃ t : Str, d = .str t ∧ t.length + (t.length + 1) * z.length ≤ 16777216 ∧ Φ k1 (.str (Txt.replace t y z)))
    (hst : ∀ env : Env, starEach [.Constant (.str y) j0 c0, .Constant (.str z) j1 c1] env = [(false, eval (.Constant (.str y) j0 c0) env), (false, eval (.Constant (.str z) j1 c1) env)] := by intro _; rfl)
    (hbase : ∀ env : Env, attributeBase a "replace" env (eval a env) = eval a env := by intro _; rfl) (hline : (apos.endLine == pos.line) = true := by rfl) :
    WPET F C (.Call (.Attribute a "replace" apos) [.Constant (.str y) j0 c0, .Constant (.str z) j1 c1] [] pos) ρ k Φ :=
  of_pet (t := CwR.tReplC (tET C a) y z) (fun X fx => CwR.pet_replT (petE fx) hyz (hst X.env) (hbase X.env) hline) fun σ H Q en j q => by
    show tET C a σ H _
    refine h σ H _ en j fun v d k1 H1 l1 j1 r1 ⟨t, e1, hz, pp⟩ => ?_
    subst e1
    cases r1
    exact ⟨t, rfl, hz, q _ _ k1 H1 l1 j1 (.str _) pp⟩
end
end Dl

set_option maxHeartbeats 2000000
namespace Dl
open PySem PySem.Spec PyProof.Rows L2
/-! ### [elt for x in iter] where there is a token -/
theorem thnT {α : Type} {M : Model} {A : Around} {t : Sem α} {Q Q' : α → Shared → Prop} {E : Value → Shared → Prop} {s : Shared} (ht : 1 ≤ s.toks) (h : wpAny M A t Q E s) (i : ∀ a s', 1 ≤ s'.toks → Q a s' → Q' a s') : wpAny M A t Q' E s :=
  wpAny_mono (wpAny_toks_of ht h) (fun a s' z => i a s' z.1 z.2) fun _ _ z => z.2
theorem thnX {α : Type} {M : Model} {A : Around} {t : Sem α} {Q Q' : α → Shared → Prop} {E : Value → Shared → Prop} {s : Shared} (ht : 1 ≤ s.toks) (h : wpAny M A t Q (fun _ _ => False) s) (i : ∀ a s', 1 ≤ s'.toks → Q a s' → Q' a s') : wpAny M A t Q' E s :=
  wpAny_mono (wpAny_toks_of ht h) (fun a s' z => i a s' z.1 z.2) fun _ _ z => z.2.elim
section
variable {X : Cx} {pins : List (Addr × Obj)} {s : Shared} {σ : L2.St} {H : Hp} {Q : VK} {elt tg iter : Expr} {scope : Scope} {own : List (Str × Nat)} {pos pos' : Pos} {wi : TI} {g : TG} {te : TE} {use : Option (Value → Sem Unit)} {Qf : Value → Shared → Prop}
/-- a turn of the block, where there is a token -/
structure TurnT (X : Cx) (scope : Scope) (tg elt : Expr) (g : TG) (te : TE) : Prop where
  tgt : ∀ (s : Shared) (H : Hp) (C : Addr) (cl : List (Str × Addr)) (fp : List Addr), PG (X.blk s H scope (compEnvC scope cl C X.env) fp) tg g
  elt : ∀ (s : Shared) (H : Hp) (C : Addr) (cl : List (Str × Addr)) (fp : List Addr), PET (X.blk s H scope (compEnvC scope cl C X.env) fp) elt te
theorem lcT_core (calm : X.calm = true) (nd : X.N.Nodup) (I : Inv X pins σ H s) (tk : 1 ≤ s.toks) (hi : PI X tg iter wi) (ok : BlkOk X.N X.env.scope scope own) (T0 : TurnT X scope tg elt g te) (hs : ∀ x, foldedSetIterable iter X.env x = pure x)
    (h : tLc wi g tYes te (own.map (·.2)) σ H Q)
    (after : ∀ D C s' m H', Inv X pins σ H' s' → Q (.ref D) H' → s'.heap.Ns C m → FpOk X pins H' C → compPost (model X.prog X.w) X.A X.xe use Qf (.ref D) C (.ok .next) s') :
    wpAny (model X.prog X.w) X.A (comprehension (.ListComp elt [⟨tg, iter, [], 0⟩] scope pos) scope X.env pos' (newList []) false (eval iter X.env) use) Qf X.xe s := by
  have caught : ∀ y ∈ scope.names, y.2 = .free → ∃ c, X.env.cells.lookup y.1 = some c := by
    intro y hy e
    cases ok.free y hy e with
    | inl k => exact I.ok.has _ (.inl k)
    | inr k => exact I.ok.has _ (.inr k)
  refine wpAny_comprehension_free (use := use) rfl hs (closure_ok caught) ok.kind (fun y hy e => by rw [ok.uniq y hy, e]) (thnT tk (hi.run pins s σ H _ I h) fun xv sa ta hx => thnT ta hx fun itv sb tb hb => ?_)
  obtain ⟨it, fp, tn, J, Hb, rfl, Ib, W0, stb, fpb, q⟩ := hb
  refine wpAny_newObj_type (newEnv_comp ?_) (by show 0 ≤ sizeLine; decide)
  have freshD : Hb sb.heap.objs.size = none := Ib.hok.fresh (Nat.le_refl _)
  obtain ⟨W, ⟨m0, w0⟩, turn⟩ := q sb.heap.objs.size freshD
  generalize hD : sb.heap.objs.size = D at freshD w0 turn
  generalize hsc : ({ sb with heap := sb.heap.push { cls := .type "list", data := .seq ([] : List Value).toArray } } : Shared) = sc
  have tc : 1 ≤ sc.toks := by rw [← hsc]; exact tb
  have hpc : sc.heap = sb.heap.push { cls := .type "list", data := .seq ([] : List Value).toArray } := by rw [← hsc]
  have Ic : Inv X pins σ (upd Hb D (.lst [])) sc := by
    rw [← hsc]
    exact Ib.laid (t' := sb.toks) (fun b o e => Heap.get?_push_of_some _ e) (Nat.le_of_eq hD) ⟨Nat.zero_le _, [], 0, .nil, by rw [← hD]; exact Heap.get?_push_size _ rfl⟩
  have fpc : ∀ b ∈ fp, FpOk X pins (upd Hb D (.lst [])) b ∧ b < sc.heap.objs.size := by
    intro b hb
    obtain ⟨o, e, _⟩ := W0.obj _ _ stb b hb
    have lt := Heap.lt_size e
    have ne : b ≠ D := by rw [← hD]; exact Nat.ne_of_lt lt
    exact ⟨⟨by rw [upd_ne ne]; exact (fpb b hb).1, (fpb b hb).2⟩, by rw [hpc, Heap.size_push]; exact Nat.lt_succ_of_lt lt⟩
  have stc : tn 0 sc.heap := W0.keep _ _ _ stb fun b _ o e => by rw [hpc]; exact Heap.get?_push_of_some _ e
  have Id := block_start Ic ok nd fpc
  have pg := T0.tgt sc (upd Hb D (.lst [])) sc.heap.objs.size (cellsFrom (sc.heap.objs.size + 1) scope.names (cloFrom X.env.cells scope.names [])) fp
  have pe := T0.elt sc (upd Hb D (.lst [])) sc.heap.objs.size (cellsFrom (sc.heap.objs.size + 1) scope.names (cloFrom X.env.cells scope.names [])) fp
  show codeAny _ _ (.compStart (.ListComp elt [⟨tg, iter, [], 0⟩] scope pos) 0 (.ref it) (.ref D) (compEnvC scope (cellsFrom (sc.heap.objs.size + 1) scope.names (cloFrom X.env.cells scope.names [])) sc.heap.objs.size X.env)) (compPost (model X.prog X.w) X.A X.xe use Qf (.ref D) sc.heap.objs.size) { sc with heap := pushCells (sc.heap.push { cls := .type "dict", data := .dict #[] }) scope.names }
  have none_c : ∀ b ∈ fp, (upd Hb D (.lst [])) b = none := fun b hb => (fpc b hb).1.1
  generalize hce : compEnvC scope (cellsFrom (sc.heap.objs.size + 1) scope.names (cloFrom X.env.cells scope.names [])) sc.heap.objs.size X.env = ce at Id pg pe ⊢
  have locs : ce.locals = sc.heap.objs.size := by rw [← hce]; rfl
  generalize hHc : upd Hb D (.lst []) = Hc at Ic Id pg pe w0 none_c fpc
  generalize hsd : ({ sc with heap := pushCells (sc.heap.push { cls := .type "dict", data := .dict #[] }) scope.names } : Shared) = sd at Id ⊢
  have td : 1 ≤ sd.toks := by rw [← hsd]; exact tc
  have std : tn 0 sd.heap := W0.keep _ _ _ stc fun b _ o e => by rw [← hsd]; exact pushCells_keeps _ _ _ _ (Heap.get?_push_of_some _ e)
  have still : ∀ {σ1 : L2.St} {H1 : Hp} {s1 : Shared}, Inv (X.blk sc Hc scope ce fp) [] σ1 H1 s1 → (∀ b ∈ fp, H1 b = none) → ∀ b ∈ fp, FpOk (X.blk sc Hc scope ce fp) [] H1 b := by
    intro σ1 H1 s1 I1 hn b hb
    refine ⟨hn b hb, (I1.ok.exf b hb).1, I1.ok.exfs b hb, .inl hb, fun x c e => (I1.ok.exf b hb).2 x c e, fun p hp => ?_⟩
    have hp' : p ∈ ([] : List (Addr × Obj)) ++ [] := hp
    rw [List.append_nil] at hp'
    cases hp'
  have loop : codeAny (model X.prog X.w) X.A (.compLoop (.ListComp elt [⟨tg, iter, [], 0⟩] scope pos) 0 (.ref it) (.ref D) ce) (compPost (model X.prog X.w) X.A X.xe use Qf (.ref D) sc.heap.objs.size) sd := by
    refine compLoop_any (fun n s1 => 1 ≤ s1.toks ∧ ∃ i H1, Inv (X.blk sc Hc scope ce fp) [] (wipe σ (own.map (·.2))) H1 s1 ∧ tn i s1.heap ∧ (∀ b ∈ fp, H1 b = none) ∧ W i n H1) ?_ m0 ⟨td, 0, Hc, Id, std, none_c, w0⟩
    rintro n s1 ⟨t1, i, H1, I1, st1, n1, w1⟩
    rcases turn i n H1 w1 with ⟨stop, qq⟩ | ⟨go, Nx, hNx, step⟩
    · refine thnX t1 (W0.done (X.blk sc Hc scope ce fp) rfl rfl rfl calm i [] s1 _ H1 (fun _ _ => False) I1 (still I1 n1) st1 stop) fun r s2 t2 hr2 => ?_
      obtain ⟨rfl, I2⟩ := hr2
      have I3 : Inv X pins σ H1 s2 := Ic.call' (ch := fp) I2.os I2.base I2.hok I2.bare fun b hb => ⟨(fpc b hb).1.2.2.2.1, (fpc b hb).1.2.1, (fpc b hb).1.2.2.2.2.1, (fpc b hb).1.2.2.2.2.2⟩
      have free1 : H1 sc.heap.objs.size = none := by rw [← locs]; exact I2.free
      obtain ⟨m, ns, _⟩ := I2.loc
      exact after D sc.heap.objs.size s2 m H1 I3 qq (by rw [← locs]; exact ns) (Ic.fpOk (Nat.le_refl _) free1)
    · refine thnX t1 (W0.item (X.blk sc Hc scope ce fp) rfl rfl rfl calm i [] s1 _ H1 (fun _ _ => False) I1 (still I1 n1) st1 go) fun r s2 t2 hr2 => ?_
      obtain ⟨u, rfl, h2⟩ := hr2
      refine thnX t2 h2 fun _ s3 t3 hr3 => ?_
      obtain ⟨x, H3, I3, r3, y3, st3, n3⟩ := hr3
      refine thnX t3 (pg.run _ s3 _ H3 x u _ (I3.pinned (still I3 n3) (W0.obj _ _ st3)) r3 (step x H3 y3)) fun _ s4 t4 hr4 => ?_
      obtain ⟨σ4, H4, I4, hw4, q4⟩ := hr4
      refine thnX t4 ((pts_nil (X := X.blk sc Hc scope ce fp)).run _ s4 σ4 H4 _ I4 q4) fun b s5 t5 hr5 => ?_
      obtain ⟨H5, I5, q5⟩ := hr5
      have fin : ∀ {s6 : Shared} {H6 : Hp}, 1 ≤ s6.toks → Inv (X.blk sc Hc scope ce fp) ([] ++ pinsAt fp s3.heap) σ4 H6 s6 → Nx H6 → ∃ m, m < n ∧ 1 ≤ s6.toks ∧ ∃ i H1, Inv (X.blk sc Hc scope ce fp) [] (wipe σ (own.map (·.2))) H1 s6 ∧ tn i s6.heap ∧ (∀ b ∈ fp, H1 b = none) ∧ W i m H1 := by
        intro s6 H6 t6 I6 nx
        obtain ⟨m', hm, w'⟩ := hNx H6 nx
        have held : ∀ b ∈ fp, ∀ o, s3.heap.get? b = some o → s6.heap.get? b = some o ∧ H6 b = none := by
          intro b hb o e
          have z := I6.pin (b, o) (List.mem_append_right _ (List.mem_append_right _ (mem_pinsAt hb e)))
          exact ⟨z.1, z.2.1⟩
        have hl : (wipe σ (own.map (·.2))).length = σ4.length := by rw [← hw4, wipe_length]
        refine ⟨m', hm, t6, i + 1, H6, (I6.unpinned (pins := [])).weak hl (fun j v e => ?_), W0.keep _ _ _ st3 fun b hb o e => (held b hb o e).1, fun b hb => ?_, w'⟩
        · rw [← hw4] at e
          exact (wipe_some e).1
        · obtain ⟨o, e, _⟩ := W0.obj _ _ st3 b hb
          exact (held b hb o e).2
      cases b with
      | false =>
        simp only [Bool.false_eq_true, if_false] at q5 ⊢
        exact fin t5 I5 q5
      | true =>
        simp only [if_true] at q5 ⊢
        refine thnX t5 (pe _ s5 σ4 H5 _ t5 I5 q5) fun z s6 t6 hr6 => ?_
        obtain ⟨yv, H6, I6, r6, acc, hD6, hz6, nx⟩ := hr6
        exact thnX t6 (app_ok (X := X.blk sc Hc scope ce fp) (Q := fun _ s7 => Inv (X.blk sc Hc scope ce fp) ([] ++ pinsAt fp s3.heap) σ4 (upd H6 D (.lst (acc ++ [yv]))) s7) I6 hD6 hz6 r6 fun s7 I7 => I7) fun _ s7 t7 I7 => fin t7 I7 nx
  exact codeAny_compStart_list loop (W0.self X.A 0 _ _ _ std loop)
/-- y = [..], y a local, on one line -/
theorem pst_setLcT {i : Nat} {y : Str} {py spos : Pos} (calm : X.calm = true) (nd : X.N.Nodup) (hy : X.N[i]? = some y) (hyl : X.env.scope.names.lookup y = some .local) (hsw : swapsWith (.ListComp elt [⟨tg, iter, [], 0⟩] scope pos) (some (.Name y py)) spos.line X.env = pure true)
    (hi : PI X tg iter wi) (ok : BlkOk X.N X.env.scope scope own) (T0 : TurnT X scope tg elt g te) (hs : ∀ x, foldedSetIterable iter X.env x = pure x) :
    PST X (.Assign [.Name y py] (.ListComp elt [⟨tg, iter, [], 0⟩] scope pos) spos) (tAsg (tLc wi g tYes te (own.map (·.2))) (gName i)) := by
  intro pins s σ H D tk I h
  rw [exec_Assign_Name_used _ _ _ _ hsw]
  refine wpAny_bind (wpAny_standAt (wpAny_bind ?_))
  show wpAny _ X.A (do let _ ← comprehension (.ListComp elt [⟨tg, iter, [], 0⟩] scope pos) scope X.env (firstIterPos [⟨tg, iter, [], 0⟩] pos) (newList []) false (eval iter X.env) (some (assign (.Name y py) X.env))) _ _ s
  have h' : tLc wi g tYes te (own.map (·.2)) σ H (fun x H1 => gName i x σ H1 D.nx) := h
  refine wpAny_bind (thn (lcT_core (Qf := fun _ s' => SP X pins D .next s') calm nd I tk hi ok T0 hs h' fun L C s1 m H1 I1 q ns f => ?_) fun _ s' hq => wpAny_pure (wpAny_pure hq))
  obtain ⟨g0, g1, g2, g3, g4, g5⟩ := f
  refine wpAny_assign_Name (store_ok2 (v := V.ref L) I1 nd hy (.inl hyl) rfl (fun s2 I2 ⟨a, sb, ha⟩ => ?_) (.inr hyl))
  have ne : C ≠ a := by
    cases ha with
    | inl z => rw [z]; exact g1
    | inr z => exact fun e => g4 y a z e.symm
  exact ⟨m, ns.sameBut sb ne, fun g sg => ⟨_, H1, I2.turned (t' := s2.toks) (fun b o hb e => (sg.2 b hb).trans e) g0 g1 g3 g4 g5, q⟩⟩
end
end Dl

namespace Dl
open PySem PySem.Spec PyProof.Rows L2
/-! ### set(xs), xs a list of texts that differ -/
abbrev GotTxt (P : Program) (w : World) (s : Shared) (ts : List Str) (r : Value) (s2 : Shared) : Prop :=
  r = .none ∧ ∃ h' tk, s2 = { s with heap := h', toks := tk } ∧ h'.SetOf (strKind P w) s.heap.objs.size (fun j => decide (j ∈ ts)) ts.length ∧ ∀ b o, s.heap.get? b = some o → h'.get? b = some o
theorem rep_vstrs {K : PySem.W.Frag} {S : Addr → Prop} {H : Hp} : ∀ {ns : List Str} {vs : List V}, RepAll K S H vs (ns.map PyData.str) → vs = ns.map V.str
  | [], _, r => by cases r; rfl
  | n :: ns, _, r => by
    cases r with
    | cons r1 r2 =>
      cases r1
      rw [rep_vstrs r2]; rfl
section
variable {P : Program} {w : World} {A : Around} {E : Value → Shared → Prop} {s : Shared}
set_option maxHeartbeats 3200000 in
end
/-- the set at a -/
def SetT (P : Program) (w : World) (a : Addr) (ts : List Str) : HO := .ext fun h => h.SetOf (strKind P w) a (fun j => decide (j ∈ ts)) ts.length
def rSetX (K : PySem.W.Frag) (P : Program) (w : World) : List V → Hp → VK → Prop := fun vs H Q => ∃ (a : Addr) (ts : List Str), vs = [.ref a] ∧ SqL K H a (ts.map V.str) ∧ ts.length ≤ 1000 ∧ ts.Nodup ∧
  ∀ p, H p = none → Q (.ref p) (upd H p (SetT P w p ts))
def rLenSetX (P : Program) (w : World) : List V → Hp → VK → Prop := fun vs H Q => ∃ (a : Addr) (ts : List Str), vs = [V.ref a] ∧ H a = some (SetT P w a ts) ∧ Q (.int (ts.length : Nat)) H
section
variable {F : Fm} {C : Cs} {ρ : Rho} {k : Nat} {Φ : Nat → PyData → Prop} {pos p1 p2 p3 px : Pos} {e : Expr}
end
end Dl

set_option maxHeartbeats 2000000
namespace Dl
open PySem PySem.Spec PyProof.Rows L2
/-! ### blocks of a def whose code is known, with n tokens at least -/
def tSZ (C : Cs) (cd : Value) (q : Str) (n : Nat) (st : Stmt) : TS := fun D σ H => ∀ X, Fits C X → X.env.code = cd → X.env.qual = q → ∀ pins s, n ≤ s.toks → Inv X pins σ H s → wpAny (model X.prog X.w) X.A (exec st X.env) (SP X pins D) X.xe s
def tBZ (C : Cs) (cd : Value) (q : Str) (n : Nat) (st : List Stmt) : TS := fun D σ H => ∀ X, Fits C X → X.env.code = cd → X.env.qual = q → ∀ pins s, n ≤ s.toks → Inv X pins σ H s → wpAny (model X.prog X.w) X.A (execs st X.env) (SP X pins D) X.xe s
abbrev WPSZ (F : Fm) (C : Cs) (cd : Value) (q : Str) (n : Nat) (st : Stmt) (ρ : Rho) (k : Nat) (P : DE) : Prop := WS F (tSZ C cd q n st) ρ k P
abbrev WPBZ (F : Fm) (C : Cs) (cd : Value) (q : Str) (n : Nat) (st : List Stmt) (ρ : Rho) (k : Nat) (P : DE) : Prop := WS F (tBZ C cd q n st) ρ k P
section
variable {F : Fm} {C : Cs} {ρ : Rho} {k n : Nat} {P : DE} {cd : Value} {q : Str} {st : Stmt} {rest : List Stmt}
theorem wsz_of (h : WPS F C st ρ k P) : WPSZ F C cd q n st ρ k P := fun σ H E en j q1 q2 q3 q4 X fx _ _ pins s _ I => h σ H E en j q1 q2 q3 q4 X fx pins s I
theorem wsz_ofT (h : WPST F C st ρ k P) : WPSZ F C cd q 1 st ρ k P := fun σ H E en j q1 q2 q3 q4 X fx _ _ pins s ht I => h σ H E en j q1 q2 q3 q4 X fx pins s ht I
/-- n' tokens behind the statement -/
theorem wbz_step {n' : Nat} (up : ∀ (X : Cx) (s : Shared) (Q : Flow → Shared → Prop), Fits C X → n ≤ s.toks → wpAny (model X.prog X.w) X.A (exec st X.env) Q X.xe s → wpAny (model X.prog X.w) X.A (exec st X.env) (fun f s' => n' ≤ s'.toks ∧ Q f s') X.xe s)
    (h : WPSZ F C cd q n st ρ k (P.seq fun k1 ρ1 => WPBZ F C cd q n' rest ρ1 k1 P)) : WPBZ F C cd q n (st :: rest) ρ k P := fun σ H E en j q1 q2 q3 q4 X fx hc hq pins s ht I => by
  have h1 := h σ H { E with nx := tBZ C cd q n' rest E } en j (fun ρ' σ' k' H' l en' j' p => p σ' H' E en' j' (fun ρ2 σ2 k2 H2 l2 => q1 ρ2 σ2 k2 H2 (l.trans l2)) q2 (fun ρ2 σ2 k2 H2 l2 => q3 ρ2 σ2 k2 H2 (l.trans l2)) (fun ρ2 σ2 k2 H2 l2 => q4 ρ2 σ2 k2 H2 (l.trans l2))) q2 q3 q4 X fx hc hq pins s ht I
  rw [execs]
  refine wpAny_bind (wpAny_mono (up X s _ fx ht h1) (fun fl s' hs => ?_) fun _ _ z => z)
  obtain ⟨ht', hs⟩ := hs
  cases fl with
  | next => obtain ⟨σ', H', I', hn⟩ := hs; exact hn X fx hc hq pins s' ht' I'
  | brk => exact wpAny_pure hs
  | cont => exact wpAny_pure hs
  | ret u => exact wpAny_pure hs
theorem wbz_consZ (h : WPSZ F C cd q n st ρ k (P.seq fun k1 ρ1 => WPBZ F C cd q n rest ρ1 k1 P)) : WPBZ F C cd q n (st :: rest) ρ k P :=
  wbz_step (fun X s Q fx ht hw => wpAny_mono (wpAny_toks_of ht hw) (fun _ _ z => z) fun _ _ z => z.2) h
theorem wbz_cons (h : WPS F C st ρ k (P.seq fun k1 ρ1 => WPBZ F C cd q n rest ρ1 k1 P)) : WPBZ F C cd q n (st :: rest) ρ k P := wbz_consZ (wsz_of h)
/-- behind a statement that makes a token -/
theorem wbz_up (up : ∀ env : Env, TokUp (exec st env)) (h : WPS F C st ρ k (P.seq fun k1 ρ1 => WPBZ F C cd q 1 rest ρ1 k1 P)) : WPBZ F C cd q 0 (st :: rest) ρ k P :=
  wbz_step (fun X s Q fx _ hw => wpAny_up (up X.env) hw) (wsz_of h)
end
/-! ### frames that know a table of codes -/
structure HasTb (F : Fm) (P : Addr) (q : Str) : Prop where
  M : F.M P
  get : ∀ k H, F.G k H → LamX.TabS H P q
  put : ∀ k H H', F.G k H → ButP P H H' → LamX.TabS H' P q → F.G k H'
theorem HasTb.ext {F : Fm} {P : Addr} {q : Str} (h : HasTb F P q) (D : Addr) : HasTb (F.ext D) P q := ⟨h.M, h.get, h.put⟩
theorem tab_lv {H : Hp} {P : Addr} {q : Str} (t : LamX.TabS H P q) : Lv H P := by
  obtain ⟨ps, e, _⟩ := t
  exact ⟨_, e, fun _ z => nomatch z⟩
theorem tab_at {H H' : Hp} {P : Addr} {q : Str} (t : LamX.TabS H P q) (e : H' P = H P) (x : ∀ b o, IsK o → H b = some o → H' b = some o) : LamX.TabS H' P q := by
  obtain ⟨ps, h1, h2, h3⟩ := t
  refine ⟨ps, e.trans h1, h2, fun pos cv hc => ?_⟩
  obtain ⟨c, e1, e2⟩ := h3 pos cv hc
  exact ⟨c, e1, x _ _ (.inr ⟨_, _, rfl⟩) e2⟩
theorem HasTb.move {F : Fm} {P : Addr} {q : Str} {k : Nat} {H H' : Hp} (tb : HasTb F P q) (j : J F k H) (bt : ButP P H H') (t : LamX.TabS H' P q) : Le F H H' ∧ J F k H' := by
  have le : Le F H H' := fun b o n e => bt b o (fun z => n (.inl (z ▸ tb.M))) e
  refine ⟨le, tb.put k H H' j.g bt t, fun b o n e => le b o n (j.le b o n e), fun b hb => ?_⟩
  by_cases e : b = P
  · rw [e]; exact tab_lv t
  · exact (j.al b hb).keep fun o => bt b o e
section
variable {F : Fm} {C : Cs} {ρ : Rho} {k n : Nat} {Φ : Nat → PyData → Prop} {P : Addr} {q : Str} {ta : TA}
theorem we_sortLam (tb : HasTb F P q) (hK : F.K = C.K) (h : WA F ta ρ k fun k1 ds => ∃ xs : List Str, ds = [.list (xs.map PyData.str)] ∧ (∀ z ∈ xs, z.length ≤ 1000000) ∧ Φ k1 (.list ((keySort xs).map PyData.str))) : WE F (tSL C.K P q ta) ρ k Φ := fun σ H Q en j qq => by
  show ta σ H _
  refine h σ H _ en j fun vs ds k1 H1 l1 j1 r1 ⟨xs, e, hz, p⟩ => ?_
  subst e
  cases r1 with
  | cons r2 r3 =>
  cases r3
  cases r2 with
  | @lst a ws _ ha hr =>
  obtain rfl := rep_vstrs hr
  refine ⟨a, xs, rfl, hK ▸ sql_of ha, fun z hm => Nat.le_trans (hz z hm) (by decide), tb.get _ _ j1.g, fun H2 bt t l hl => ?_⟩
  obtain ⟨l2, j2⟩ := tb.move j1 bt t
  exact qq _ _ k1 _ ((l1.trans l2).trans (.new hl)) (j2.new hl) (rep_newL j2 hl (rp_strs _)) p
end
section
variable {F : Fm} {C : Cs} {ρ : Rho} {k : Nat} {P : DE} {T : Addr} {q : Str} {c : Addr} {x y wn : Str} {e elt iter : Expr} {params : Arguments} {body : Expr} {sc scope : Scope} {p px py pos lpos kp spos : Pos}
/-- x = sorted(e, key=lambda w: w[::-1]) -/
theorem wsz_sortLam (i : Nat) {n : Nat} (tb : HasTb F T (q ++ "<lambda>")) (hK : F.K = C.K) (t : Tgt C i x) (L : LamR params body sc wn) (TB : LamX.TabB C.base C.mg c T) (hg : C.sc.names.lookup ("sorted" : Str) = some .globalImplicit) (hm : C.mg ("sorted" : Str) = none)
    (hsw : ∀ env : Env, env.scope = C.sc → swapsWith (.Call (.Name "sorted" p) [e] [⟨some "key", .Lambda params body sc lpos, kp⟩] pos) (some (.Name x px)) spos.line env = pure false)
    (h : WPA F C [e] ρ k fun k1 ds => ∃ xs : List Str, ds = [.list (xs.map PyData.str)] ∧ (∀ z ∈ xs, z.length ≤ 1000000) ∧ P.nx k1 (ρ.set i (.d (.list ((keySort xs).map PyData.str)))))
    (hse : ∀ env : Env, starEach [e] env = (false, eval e env) :: starEach [] env := by intro _; rfl) :
    WPSZ F C (.ref c) q n (.Assign [.Name x px] (.Call (.Name "sorted" p) [e] [⟨some "key", .Lambda params body sc lpos, kp⟩] pos) spos) ρ k P := fun σ H E en j q1 q2 q3 q4 X fx hc hq pins s _ I => by
  have pe : PE X (.Call (.Name "sorted" p) [e] [⟨some "key", .Lambda params body sc lpos, kp⟩] pos) (tSL C.K T (q ++ "<lambda>") (tA C [e])) := by
    rw [← fx.K, ← hq]
    exact pe_sortLam L (by have := fx.room.units; omega) fx.room.depth (by show X.env.scope.names.lookup ("sorted" : Str) = _; rw [fx.sc]; exact hg) (by rw [fx.mg]; exact hm) (by rw [fx.base, fx.mg]; exact TB) hc (paA fx) hse
  have ps := ps_set (X := X) (i := i) (pos := spos) (pos' := px) (by rw [fx.N]; exact t.hN) (by rw [fx.N]; exact t.hi) (by rw [fx.sc]; exact t.hx) pe (hsw X.env fx.sc) (by rw [fx.fn, fx.sc]; exact t.hf)
  exact ps.run pins s σ H E I (ws_asgName (F := F) (P := P) i (we_sortLam tb hK h) σ H E en j q1 q2 q3 q4)
/-- y = [elt for x in a list], where there is a token -/
theorem wst_compL (i iy : Nat) (b : Blk C scope i x) (ty : Tgt C iy y) (hyl : C.sc.names.lookup y = some .local) (hk : C.sc.kind = .function) (hl : (py.line == pos.line) = true) (ha : (scope.names.any fun (n, k) => n == y && (k == .local || k == .cell)) = false) (hK : F.K = C.K) (hfs : ∀ (env : Env) (v : Value), foldedSetIterable iter env v = pure v)
    (h : WPE F C iter ρ k fun k1 d => ∃ (I : Nat → Nat → List PyData → Prop) (ds : List PyData), d = .list ds ∧ ds.length ≤ 1000000 ∧ I 0 k1 [] ∧ (∀ D (j : Nat) (z : PyData) k' acc, ds[j]? = some z → I j k' acc → WPET (F.ext D) (C.blk scope) elt (ρ.set i (.d z)) k' fun k2 u => I (j + 1) k2 (acc ++ [u])) ∧ (∀ k' acc, I ds.length k' acc → P.nx k' (ρ.set iy (.d (.list acc))))) :
    WPST F C (.Assign [.Name y py] (.ListComp elt [⟨.Name x px, iter, [], 0⟩] scope pos) spos) ρ k P := fun σ H E en j q1 q2 q3 q4 X fx pins s ht I => by
  have ps : PST X (.Assign [.Name y py] (.ListComp elt [⟨.Name x px, iter, [], 0⟩] scope pos) spos) (tAsg (tLc (iList C.K (tE C iter)) (gName i) tYes (tET (C.blk scope) elt) [i]) (gName iy)) :=
    pst_setLcT (own := [(x, i)]) fx.calm (by rw [fx.N]; exact b.t.hN) (by rw [fx.N]; exact ty.hi) (by rw [fx.sc]; exact hyl) (sw_true (by rw [fx.sc]; exact hk) (by rw [fx.sc]; exact hyl) hl ha) (piL fx) (by rw [fx.N, fx.sc]; exact b.ok)
      ⟨fun s H a cl fp => b.t.pg (fx.blk s H scope a cl fp), fun s H a cl fp => petE (fx.blk s H scope a cl fp)⟩ (hfs X.env)
  exact ps pins s σ H E ht I (ws_asgName (F := F) (P := P) iy (we_lcL i hK (h.imp fun k1 d ⟨I, ds, e, hz, i0, hs, he⟩ => ⟨I, ds, e, hz, i0, fun D j y k' acc hy ii => wt_yes (by rw [if_pos rfl]; exact hs D j y k' acc hy ii), he⟩)) σ H E en j q1 q2 q3 q4)
end
/-! ### defs that make a lambda -/
def spTab (T : Addr) (q : Str) (K : PySem.W.Frag) (R : Rel) : Sp := fun vs H Q _ => ∃ (S : Addr → Prop) (ds : List PyData) (d : PyData), (∀ b, S b → Lv H b) ∧ S T ∧ RepAll K S H vs ds ∧ R ds d ∧ LamX.TabS H T q ∧ ∀ v H', ButP T H H' → LamX.TabS H' T q → Rep K S H' v d → Q v H'
structure TFn (P : Program) (w : World) (K : PySem.W.Frag) (mg : Str → Option Value) (base : Heap) (T : Addr) (q : Str) (lvl : Nat) (x : Str) (R : Rel) : Prop where
  ex : ∃ (fa : Addr) (fd : FuncData) (ps : List Str), FnG P w K mg base lvl fa fd ps (spTab T q K R) ∧ mg x = some (.ref fa) ∧ PySem.W.keepIn K (.ref fa) = true ∧ L2.Binds K fd ps []
def tabFm (K : PySem.W.Frag) (S : Addr → Prop) (H : Hp) (T : Addr) (q : Str) (hS : S T) : Fm where
  K := K
  S := S
  M := fun b => b = T
  H0 := H
  G := fun _ H' => LamX.TabS H' T q
  ms := fun b h => h ▸ hS
  gm := fun k H H' t hm hx => tab_at t (hm T rfl) fun b o x => hx b o (.inr x)
  gl := fun k H t b hb => by rw [hb]; exact (tab_lv t).ne
theorem tabFm_has {K : PySem.W.Frag} {S : Addr → Prop} {H : Hp} {T : Addr} {q : Str} {hS : S T} : HasTb (tabFm K S H T q hS) T q := ⟨rfl, fun _ _ t => t, fun _ _ _ _ _ t => t⟩
section
variable {P : Program} {w : World} {K : PySem.W.Frag} {mg : Str → Option Value} {base : Heap}
/-- a def by its body, its code known -/
theorem FnG.of_bodyC {x qual : Str} {st : Stmt} {f : Addr} {fd : FuncData} {N ps : List Str} {k : Nat} {sp : Sp} (Fn : Fun K x qual st f fd) (Sc : FnScope N ps (defScope st)) (len : ∀ vs H Q E, sp vs H Q E → vs.length = ps.length)
    (body : ∀ (A : Around) (outer : List Env) (s : Shared) (H : Hp) (vs : List V) (Q : VK), A.guards = some [] → Room k (A.deeper (envOfC qual (defScope st) s.heap.objs.size f fd.code)) → sp vs H Q E0 →
      ∃ t, PSs (cxOf CX0 P w K mg base N qual (defScope st) f fd.code A outer s H E0).nox (defBody st) t ∧ t { nx := fun _ H' => Q .non H', rt := Q } (L2.start N vs) H) :
    FnG P w K mg base (k + 1) f fd ps sp := by
  obtain ⟨oc, od, kV, doc, pm, an, cdv, ct, osl, efd, look, hcode⟩ := Fn.ex
  subst efd
  refine ⟨len, fun A outer s H args us vs Q hgd room env hbind rel hsp => ?_⟩
  have inK : K.In s.heap := env.mod.kin.keeps fun b o z => (env.bs b o z).1
  have nolim : s.heap.NoLimit := env.mod.nolimit.keeps fun b o z => (env.bs b o z).1
  refine codeAny_call_function room.depth (inK f _ look) rfl Sc.co Sc.gen rfl (PySem.W.codeRec_of inK hcode) (hbind _ _ _ _ ?_)
  refine wpAny_newFunctionEnv_cells Sc.kind (fun y hy => ?_) fun env' he s1 ic => ?_
  · obtain ⟨m, u⟩ := y
    exact (Sc.par m (List.of_mem_zip hy).1).imp id fun z => ⟨z, PySem.W.cellsFrom_some _ _ _ (Or.inl z)⟩
  subst he
  refine ⟨nolim.keeps ic.toInCall.keep, codeAny_func ?_⟩
  obtain ⟨t, ht, hq⟩ := body A outer s H vs Q hgd (room.deeper _) hsp
  have inv : Inv (cxOf CX0 P w K mg base N qual (defScope st) f cdv A outer s H E0) [] (L2.start N vs) H s1 := inv_start Sc room.hd env (len vs H Q E0 hsp) rel ic
  refine wpAny_mono (ht.nox.run [] s1 _ H _ inv hq) (fun fl s' hfl => ?_) fun e s' z => z
  cases fl with
  | ret u => obtain ⟨v, _, H', j, rv, q⟩ := hfl; exact ⟨v, H', j.os, j.bare, j.base, j.hok, rv, q⟩
  | next => obtain ⟨_, H', j, q⟩ := hfl; exact ⟨V.non, H', j.os, j.bare, j.base, j.hok, rfl, q⟩
  | brk => obtain ⟨_, _, _, q⟩ := hfl; exact q.elim
  | cont => obtain ⟨_, _, _, q⟩ := hfl; exact q.elim
theorem tab_ok {x qual : Str} {st : Stmt} {f : Addr} {fd : FuncData} {N ps : List Str} {k : Nat} {R : Rel} {T c : Addr} {q : Str} (Fn : Fun K x qual st f fd) (Sc : FnScope N ps (defScope st)) (hcd : fd.code = .ref c) (len : ∀ ds d, R ds d → ds.length = ps.length)
    (body : ∀ (F : Fm) (ds : List PyData) (d : PyData), F.K = K → HasTb F T q → R ds d → WPBZ F (bodyCs P w K mg base N (defScope st) k) (.ref c) (qual ++ ".<locals>.") 0 (defBody st) (startR N ds) 0 { nx := fun _ _ => d = .none, rt := fun _ d' => d' = d, bk := fun _ _ => False, ct := fun _ _ => False }) :
    FnG P w K mg base (k + 1) f fd ps (spTab T q K R) := by
  refine FnG.of_bodyC Fn Sc (fun vs H Q E h => ?_) (fun A outer s H vs Q hgd hr h => ?_)
  · obtain ⟨S, ds, d, _, _, r, hR, _⟩ := h
    rw [RepAll.length r, len ds d hR]
  · obtain ⟨S, ds, d, al, hS, r, hR, tS, qq⟩ := h
    have fx := fits_body (CX := CX0) (P := P) (w := w) (K := K) (mg := mg) (base := base) (N := N) (outer := outer) (s := s) (H := H) (E := E0) hgd hr
    refine ⟨fun D σ H' => ∀ pins s', Inv _ pins σ H' s' → _, ⟨fun pins s' σ H' D I h' => h' pins s' I⟩, fun pins s' I => ?_⟩
    refine body (tabFm K S H T q hS) ds d rfl tabFm_has hR (start N vs) H _ (env_start (F := tabFm K S H T q hS) r) ⟨tS, fun b o _ e => e, al⟩ ?_ ?_ ?_ ?_ _ fx hcd rfl pins s' (Nat.zero_le _) I
    · exact fun ρ' σ' k' H' _ _ j' e => qq _ H' (fun b o n h => j'.le b o (fun z => z.elim n id) h) j'.g (by rw [e]; exact .non)
    · exact fun v d' k' H' j' r' e => qq v H' (fun b o n h => j'.le b o (fun z => z.elim n id) h) j'.g (e ▸ r')
    · exact fun _ _ _ _ _ _ _ z => z.elim
    · exact fun _ _ _ _ _ _ _ z => z.elim
end
section
variable {F : Fm} {C : Cs} {ρ : Rho} {k : Nat} {Φ : Nat → PyData → Prop} {e : Expr} {es : List Expr} {pos : Pos} {T : Addr} {q : Str}
/-- a call of such a def -/
theorem we_callTab (tb : HasTb F T q) {x : Str} {R : Rel} {p : Pos} {j : Nat} (hF : TFn C.P C.w C.K C.mg C.base T q j x R) (hl : j ≤ C.lvl) (hK : F.K = C.K) (hg : C.sc.names.lookup x = some .globalImplicit)
    (h : WPA F C (e :: es) ρ k fun k1 ds => ∃ d, R ds d ∧ Φ k1 d) (hdb : (x == ("__debug__" : Str)) = false := by decide) (hss : ∀ env : Env, starEach (e :: es) env = (false, eval e env) :: starEach es env := by intro _; rfl) (hpl : ∀ env : Env, ((backTo pos (starEach es env)).any fun x => x.fst) = false := by intro _; rfl) :
    WPE F C (.Call (.Name x p) (e :: es) [] pos) ρ k Φ := by
  obtain ⟨fa, fd, ps, G, hm, kp, hb⟩ := hF.ex
  refine of_pe (fun X fx => pe_callF fx G hl hg hm kp hb (paA fx) hdb hss hpl) fun σ H Q en jj qq => ?_
  refine h σ H _ en jj fun vs ds k1 H1 l1 j1 r1 ⟨d, hR, p⟩ => ?_
  refine ⟨F.S, ds, d, j1.al, F.ms T tb.M, hK ▸ r1, hR, tb.get _ _ j1.g, fun v H' bt t rv => ?_⟩
  obtain ⟨l2, j2⟩ := tb.move j1 bt t
  exact qq v d k1 H' (l1.trans l2) j2 (by show Rep F.K F.S H' v d; rw [hK]; exact rv) p
end
/-! ### the law's own frame -/
def drawFmT (K : PySem.W.Frag) (S : Addr → Prop) (H : Hp) (st a T : Addr) (q : Str) (hS : ∀ b, DqM st a b ∨ b = T → S b) : Fm where
  K := K
  S := S
  M := fun b => DqM st a b ∨ b = T
  H0 := H
  G := fun k H' => DqG st a k H' ∧ LamX.TabS H' T q
  ms := hS
  gm := fun k H H' g e hx => ⟨g.1.at fun b hb => e b (.inl hb), tab_at g.2 (e T (.inr rfl)) fun b o x => hx b o (.inr x)⟩
  gl := fun k H g b hb => hb.elim (g.1.live b) fun z => by rw [z]; exact (tab_lv g.2).ne
theorem dqT_ne {st a T : Addr} {k : Nat} {H : Hp} {q : Str} (g : DqG st a k H) (t : LamX.TabS H T q) : ¬ DqM st a T := fun z => by
  obtain ⟨cells, n, h1, h2, _⟩ := g
  obtain ⟨ps, e, _⟩ := t
  rcases z with z | z
  · rw [z, h1] at e; cases e
  · rw [z, h2] at e; cases e
theorem drawFmT_has {K : PySem.W.Frag} {S : Addr → Prop} {H : Hp} {st a T : Addr} {q : Str} {hS : ∀ b, DqM st a b ∨ b = T → S b} : HasDq (drawFmT K S H st a T q hS) st a id where
  ms := fun b hb => .inl hb
  get := fun n H g => g.1
  put := fun n n' H1 H2 g d keep => by
    obtain ⟨ps, e, h2, h3⟩ := id g.2
    refine ⟨d, ps, keep T _ (dqT_ne g.1 g.2) e, h2, fun pos cv hc => ?_⟩
    obtain ⟨c, e1, e2⟩ := h3 pos cv hc
    refine ⟨c, e1, keep c _ (fun z => ?_) e2⟩
    obtain ⟨cells, n, f1, f2, _⟩ := id g.1
    rcases z with z | z
    · rw [z, f1] at e2
      unfold LamX.CodeO at e2
      cases e2
    · rw [z, f2] at e2
      unfold LamX.CodeO at e2
      cases e2
theorem drawFmT_tab {K : PySem.W.Frag} {S : Addr → Prop} {H : Hp} {st a T : Addr} {q : Str} {hS : ∀ b, DqM st a b ∨ b = T → S b} : HasTb (drawFmT K S H st a T q hS) T q where
  M := .inr rfl
  get := fun n H g => g.2
  put := fun k H1 H2 g bt t => by
    have hn := dqT_ne g.1 g.2
    obtain ⟨cells, n, f1, f2, f3⟩ := id g.1
    exact ⟨⟨cells, n, bt _ _ (fun z => hn (.inl z.symm)) f1, bt _ _ (fun z => hn (.inr z.symm)) f2, f3⟩, t⟩
def spLawT (T : Addr) (q : Str) (K : PySem.W.Frag) : Sp := fun vs H Q _ => ∃ (sc : Addr) (ns : List Int), vs = [.ref sc] ∧ SqL K H sc (ns.map V.int) ∧ ns.length ≤ 63 ∧ LamX.TabS H T q ∧ ∀ H', Q (.bl true) H'
section
variable {P : Program} {w : World} {K : PySem.W.Frag} {mg : Str → Option Value} {base : Heap}
theorem lawQT_ok {T : Addr} {q : Str} {qual : Str} {st : Stmt} {f : Addr} {fd : FuncData} {N : List Str} {k j : Nat} {xs xd xt : Str} {p1 p2 p3 p4 p5 : Pos} {rest : List Stmt} (Fn : Fun K "law" qual st f fd) (Sc : FnScope N [xs] (defScope st)) (hbody : defBody st = .Assign [.Name xt p1] (.Call (.Name xd p2) [.Name xs p3] [] p4) p5 :: rest)
    (gd : ∃ (fa : Addr) (fdd : FuncData), FnG P w K mg base j fa fdd [xs] (spDeck K) ∧ mg xd = some (.ref fa) ∧ PySem.W.keepIn K (.ref fa) = true ∧ L2.Binds K fdd [xs] []) (hj : j ≤ k)
    (h0 : N[0]? = some xs) (h1 : N[1]? = some xt) (vs : Vis (defScope st) xs) (lt : Loc (defScope st) xt) (gl : (defScope st).names.lookup xd = some .globalImplicit)
    (hsw : ∀ env : Env, swapsWith (.Call (.Name xd p2) [.Name xs p3] [] p4) (some (.Name xt p1)) p5.line env = pure false)
    (body : ∀ (F : Fm) (s a : Addr), HasDq F s a id → HasTb F T q → F.K = K → WPB F (bodyCs P w K mg base N (defScope st) k) rest (.un :: .raw (.ref s) :: List.replicate (N.length - 2) SV.un) 900000 { nx := fun _ _ => False, rt := fun _ d => d = .bool true, bk := fun _ _ => False, ct := fun _ _ => False })
    (hdb : (xd == ("__debug__" : Str)) = false := by decide) (hdb2 : (xs == ("__debug__" : Str)) = false := by decide) (hcd : (xs == ("__classdict__" : Str)) = false := by decide) : FnG P w K mg base (k + 1) f fd [xs] (spLawT T q K) := by
  obtain ⟨fa, fdd, G, hm, kp, hb⟩ := gd
  refine FnG.of_body Fn Sc (fun vs H Q E h => ?_) (fun cdv A outer s H vs Q hgd hr h => ?_)
  · obtain ⟨sc, ns, rfl, _⟩ := h
    rfl
  obtain ⟨sc, ns, rfl, hS, hlen, tS, qq⟩ := h
  have fx := fits_body (CX := CX0) (P := P) (w := w) (K := K) (mg := mg) (base := base) (N := N) (outer := outer) (s := s) (H := H) (E := E0) hgd hr
  rw [hbody]
  have hN0 : 2 ≤ N.length := by
    have := (List.getElem?_eq_some_iff.mp h1).1
    omega
  refine ⟨_, pss_cons (ps_set (i := 1) Sc.nd h1 lt (FnG.pe G hgd (hr.mono hj) hb gl hm kp (pa_cons (pe_var (i := 0) h0 vs hdb2 hcd) pa_nil) hdb rfl rfl) (hsw _) (.inl rfl)) (pbB fx), ?_⟩
  have est : L2.start N [.ref sc] = some (.ref sc) :: none :: List.replicate (N.length - 2) none := by
    unfold L2.start
    show some (V.ref sc) :: List.replicate (N.length - 1) none = _
    rw [show N.length - 1 = (N.length - 2) + 1 by omega]; rfl
  rw [est]
  refine ⟨.ref sc, rfl, sc, ns, rfl, hS, hlen, fun H' st a sm hst ha g => ?_⟩
  have tS' : LamX.TabS H' T q := tS.ext sm
  refine body (drawFmT K (fun b => DqM st a b ∨ b = T) H' st a T q (fun b hb => hb)) st a drawFmT_has drawFmT_tab rfl (some (.ref sc) :: some (.ref st) :: List.replicate (N.length - 2) none) H' _ (fun i sv e => ?_) ⟨⟨g, tS'⟩, fun b o _ e => e, fun b hb => hb.elim (g.lv b) fun z => by rw [z]; exact tab_lv tS'⟩ ?_ ?_ ?_ ?_
  · match i, e with
    | 0, e => cases e; exact ⟨_, rfl, trivial⟩
    | 1, e => cases e; exact ⟨_, rfl, rfl⟩
    | i + 2, e =>
      have e' : (List.replicate (N.length - 2) SV.un)[i]? = some sv := e
      rw [List.getElem?_replicate] at e'
      by_cases hi : i < N.length - 2
      · rw [if_pos hi] at e'
        cases e'
        exact ⟨none, by show (List.replicate (N.length - 2) none)[i]? = _; rw [List.getElem?_replicate, if_pos hi], trivial⟩
      · rw [if_neg hi] at e'; cases e'
  · exact fun _ _ _ _ _ _ _ z => z.elim
  · exact fun v d k' H2 _ rv e => by subst e; cases rv; exact qq H2
  · exact fun _ _ _ _ _ _ _ z => z.elim
  · exact fun _ _ _ _ _ _ _ z => z.elim
end
end Dl

set_option maxHeartbeats 2000000
namespace Dl
open PySem PySem.Spec PyProof.Rows L2
/-! ### the end of a law one def of which makes lambdas: T its table, c its code -/
structure TabF (K : PySem.W.Frag) (h : Heap) (c T : Addr) : Prop where
  at_ : h.get? T = some { cls := .none, data := .fields #[] }
  out : K.lookup T = none
  code : PySem.W.CodeHd h c T
theorem law_endT {P : Program} {w : World} {K : PySem.W.Frag} {mg mb : Str → Option Value} {k : Nat} {fa a c T : Addr} {fd : FuncData} {x : Str} {sp : Sp} {s1 : Shared} {vs : List Value} {ns : List Int}
    (inK : K.In s1.heap) (hns : s1.heap.Ns mainGlobals mg) (hbl : s1.heap.Ns builtinsNs mb) (hboot : ∀ x : Str, x ≠ "__name__" → mb x = bootBuiltins x) (nolim : s1.heap.NoLimit) (nogen : s1.gens = #[]) (tab : TabF K s1.heap c T)
    (bmain : ∃ (bm : Addr) (ob : Obj), mg "__builtins__" = some (.ref bm) ∧ bm ≠ builtinsNs ∧ s1.heap.get? bm = some ob ∧ ob.cls = .type "module" ∧ ob.dict = some builtinsNs ∧ ob.data = .plain)
    (ha : s1.heap.get? a = some { cls := .type "list", data := .seq vs.toArray }) (hint : IntsAre vs ns) (hlen : ns.length ≤ sizeLine) (room : Room k callerA)
    (G : ∀ base : Heap, K.In base → base.Ns mainGlobals mg → LamX.TabB base mg c T → FnG P w K mg base k fa fd [x] sp) (hbind : ∀ (s : Shared) (u : Value), BindsTo s fd ⟨[u], []⟩ [(x, u)])
    (hsp : ∀ H : Hp, H T = some (.tbl #[]) → SqL K H a (ns.map V.int) → sp [.ref a] H (fun v _ => v = .bl true) E0) :
    codeAny (model P w) callerA (.call (.ref fa) ⟨[.ref a], []⟩) (fun r s' => r = .ok (.ret (.bool true)) ∧ OldK s1.heap s'.heap ∧ s'.os = s1.os ∧ AllBare s'.gens) s1 := by
  have aT : a ≠ T := fun z => by
    have q := tab.at_
    rw [← z, ha] at q
    cases q
  -- the abstract heap: the script, where it is none of the module's own, and the table
  let H : Hp := fun b => if b = a ∧ K.lookup a = none then some (.frz { cls := .type "list", data := .seq vs.toArray } (.lst (ns.map V.int))) else if b = T then some (.tbl #[]) else none
  have HT : H T = some (.tbl #[]) := by
    show (if T = a ∧ K.lookup a = none then _ else if T = T then _ else _) = _
    rw [if_neg fun z => aT z.1.symm, if_pos rfl]
  have Hcase : ∀ b, H b = none ∨ (b = a ∧ K.lookup a = none ∧ H b = some (.frz { cls := .type "list", data := .seq vs.toArray } (.lst (ns.map V.int)))) ∨ b = T := by
    intro b
    by_cases e : b = a ∧ K.lookup a = none
    · exact .inr (.inl ⟨e.1, e.2, if_pos e⟩)
    · by_cases e2 : b = T
      · exact .inr (.inr e2)
      · left
        show (if b = a ∧ K.lookup a = none then _ else if b = T then _ else none) = none
        rw [if_neg e, if_neg e2]
  have rel : Vals (ns.map V.int) vs := vals_ints hint
  have hsq : SqL K H a (ns.map V.int) := by
    cases e : K.lookup a with
    | none => exact Or.inl (Or.inr ⟨_, if_pos ⟨rfl, e⟩⟩)
    | some o =>
      have z := inK a o e
      rw [ha] at z
      cases z
      exact Or.inr ⟨_, vs.toArray, _, e, rfl, rfl, rfl, (by rw [List.size_toArray, ← rel.length, List.length_map]; exact hlen), (by simpa using rel)⟩
  have hok : HOk P w H s1.heap := by
    intro b u z
    rcases Hcase b with q | ⟨e, _, q⟩ | e
    · rw [q] at z; cases z
    · rw [q] at z
      cases z
      subst e
      exact ⟨ha, by rw [List.length_map]; exact hlen, vs, _, rel, ha⟩
    · subst e
      rw [HT] at z
      cases z
      exact tab.at_
  have keepB : ∀ {b : Addr} {o : Obj}, s1.heap.get? b = some o → H b = none → (hidT s1.heap H).get? b = some o := fun z n => hidT_get z n
  -- what is neither a list nor an empty table is not tracked
  have loose : ∀ {b : Addr} {o : Obj}, s1.heap.get? b = some o → (∀ xs n, o.data ≠ .seq xs n) → o.data ≠ .fields #[] → H b = none := by
    intro b o z n1 n2
    rcases Hcase b with q | ⟨e, _, _⟩ | e
    · exact q
    · rw [e, ha] at z
      cases z
      exact absurd rfl (n1 _ _)
    · rw [e, tab.at_] at z
      cases z
      exact absurd rfl n2
  have nsB : ∀ {b : Addr} {m : Str → Option Value}, s1.heap.Ns b m → (hidT s1.heap H).Ns b m := by
    rintro b m ⟨o, es, ep, z, d, r⟩
    exact ⟨o, es, ep, keepB z (loose z (fun xs n y => by rw [d] at y; cases y) fun y => by rw [d] at y; cases y), d, r⟩
  have inB : K.In (hidT s1.heap H) := by
    intro b o z
    refine keepB (inK b o z) ?_
    rcases Hcase b with q | ⟨e, c, _⟩ | e
    · exact q
    · rw [e, c] at z; cases z
    · rw [e, tab.out] at z; cases z
  have mod : Mod K mg (hidT s1.heap H) := ⟨inB, nsB hns, ⟨mb, nsB hbl, hboot⟩, let ⟨m, z1, z2⟩ := nolim; ⟨m, nsB z1, z2⟩⟩
  have tb : LamX.TabB (hidT s1.heap H) mg c T := by
    have gT : mainGlobals ≠ T := fun z => by
      obtain ⟨o, es, ep, e, d, _⟩ := hns
      rw [z, tab.at_] at e
      cases e
      cases d
    obtain ⟨bm, ob, b1, b2, b3, b4, b5, b6⟩ := bmain
    refine ⟨?_, ⟨bm, ob, b1, b2, fun z => ?_, fun z => ?_, keepB b3 (loose b3 (fun xs n y => by rw [b6] at y; cases y) fun y => by rw [b6] at y; cases y), b4, b5, b6⟩, gT⟩
    · obtain ⟨o, us, file, tf, flags, tg, inF, text, tt, e1, r1, r2, r3, r⟩ := tab.code
      refine ⟨o, us, file, tf, flags, tg, inF, text, tt, keepB e1 (loose e1 (fun xs n y => by rw [r2] at y; cases y) fun y => ?_), r1, r2, r3, r⟩
      rw [r2] at y
      cases y
      simp at r3
    · obtain ⟨o, es, ep, e, d, _⟩ := hns
      rw [z, e] at b3
      cases b3
      rw [d] at b6
      cases b6
    · rw [z, tab.at_] at b3
      cases b3
      cases b6
  have env : Env0 P w K mg (hidT s1.heap H) callerA [] s1 H := by
    refine ⟨rfl, mod, fun b o z => of_hidT z, Nat.le_of_eq (hidT_size _ _), trivial, ?_, hok, .of_eq nogen⟩
    intro b z
    have z' : b ∈ ([] : List Addr) := z
    cases z'
  refine codeAny_mono ((G _ inB (nsB hns) tb).run callerA [] s1 H ⟨[.ref a], []⟩ [.ref a] [.ref a] _ rfl room env (hbind s1 (.ref a)) (.cons rfl .nil) (hsp H HT hsq)) ?_
  intro res s' hr
  match res, hr with
  | .ok (.ret u), hr =>
    obtain ⟨v, H', os, bare, un, hok', rv, q⟩ := hr
    have q' : v = .bl true := q
    subst q'
    obtain rfl : u = Value.bool true := rv
    obtain ⟨more, grown⟩ := un.tbls T #[] HT
    have grown' : s'.heap.get? T = some { cls := .none, data := .fields (#[] ++ more) } := hok' T _ grown
    have held : ∀ b o, b ≠ T → s1.heap.get? b = some o → s'.heap.get? b = some o := by
      intro b o nb z
      rcases Hcase b with e | ⟨e, _, e2⟩ | e
      · exact un.keep b o z e (fun y => by have y' : b ∈ ([] : List Addr) := y; cases y') (fun y => by cases y)
      · have e3 := un.frzs b _ _ e2
        obtain ⟨q1, _⟩ := hok b _ e2
        obtain ⟨q2, _⟩ := hok' b _ e3
        rw [z] at q1
        cases q1
        exact q2
      · exact absurd e nb
    refine ⟨rfl, ⟨fun b o z => ?_, fun b o z => ?_⟩, os, bare⟩
    · by_cases nb : b = T
      · subst nb
        rw [tab.at_] at z
        cases z
        exact .inr (.inl ⟨(tab.code.tab tab.at_).isCodeTable, rfl, #[], more, rfl, grown'⟩)
      · exact .inl (held b o nb z)
    · by_cases nb : b = T
      · subst nb
        exact ⟨_, grown'⟩
      · exact ⟨o, held b o nb z⟩
  | .ok .next, hr => exact False.elim hr
  | .ok .brk, hr => exact False.elim hr
  | .ok .cont, hr => exact False.elim hr
  | .error _, hr => exact False.elim hr
theorem walk_endT {l : PySem.W.OpenLaw} {n k : Nat} {q : Program} {loose : List Str} {XP : (Str → Option Value) → Heap → Prop} {YP : World → Heap → Prop} {d e : DefRec} {K : Params → PySem.W.Frag} {sp : Addr → PySem.W.Frag → Sp} {x y : Str}
    (hmost : l.most = some n) (hsmall : n ≤ sizeLine) (nodef : d.params.defaults = []) (room : Room k callerA) (hY : ∀ (w : World) (h : Heap), YP w h → (K w.params).In h) (hrec : (recsOf q).find? (fun e => e.name == y) = some e)
    (G : ∀ (w : World) (mg : Str → Option Value) (fa : Addr) (h : Heap), (K w.params).In h → h.Ns mainGlobals mg → mg d.name = some (.ref fa) →
      ∃ (c T : Addr) (fd : FuncData), PySem.W.tabIn (K w.params) y = some (c, T) ∧ (K w.params).lookup T = none ∧ (∀ (s : Shared) (u : Value), BindsTo s fd ⟨[u], []⟩ [(x, u)]) ∧ ∀ base : Heap, (K w.params).In base → base.Ns mainGlobals mg → LamX.TabB base mg c T → FnG l.prog w (K w.params) mg base k fa fd [x] (sp T (K w.params)))
    (hsp : ∀ (T : Addr) (K : PySem.W.Frag) (H : Hp) (a : Addr) (ns : List Int), ns.length ≤ n → H T = some (.tbl #[]) → SqL K H a (ns.map V.int) → sp T K [.ref a] H (fun v _ => v = .bl true) E0) :
    PySem.W.WalkO q loose XP YP l.row.toRowW d [] (fun f vs => PySem.call f vs) := by
  apply Att.attach_call hmost nodef
  intro w s0 s1 mg mb fa o pm cd doc a vs ns Gr Y _ _ _ hmg hobj hint hlen hgen
  obtain ⟨c, T, fd, ht, hout, hb, hG⟩ := G w mg fa _ (hY w _ Y) Gr.T.g hmg
  obtain ⟨hc, hT⟩ := PySem.W.tab_of Gr.T (hY w _ Y) hrec ht
  exact law_endT (hY w _ Y) Gr.T.g Gr.T.b Gr.T.builtins Gr.T.nolimit hgen ⟨hT, hout, hc⟩ Gr.T.bmain hobj hint (Nat.le_trans hlen hsmall) room hG hb fun H hH hS => hsp _ _ H a ns hlen hH hS
end Dl

set_option maxHeartbeats 2000000
namespace Dl
open PySem PySem.Spec PyProof.Rows L2
theorem TokUp.int {i : Int} {j : Nat} {p : Pos} {env : Env} : TokUp (eval (.Constant (.int i) j p) env) := by
  rw [show eval (.Constant (.int i) j p) env = Sem.fresh fun t => Sem.pure (.int i t) from rfl]
  exact .fresh
/-- if x == 0 .. makes a token -/
theorem TokUp.ifEq {a : Expr} {i : Int} {j : Nat} {p r pos : Pos} {body orelse : List Stmt} {env : Env} : TokUp (exec (.If (.Compare a [.Eq] [.Constant (.int i) j p] r) body orelse pos) env) := by
  rw [exec_If, isTrue_Compare1]
  refine TokUp.bindR fun _ => ?_
  refine TokUp.bindL ?_
  refine TokUp.bindR fun _ => ?_
  refine TokUp.bindL (TokUp.holding ?_)
  show TokUp (eval (.Constant (.int i) j p) env)
  exact TokUp.int
section
variable {X : Cx} {x : Str} {p pos : Pos} {k : Nat} {f : Addr} {fd : FuncData} {sp : Sp}
theorem FnG.pe0 (G : FnG X.prog X.w X.K X.mg X.base k f fd [] sp) (gd : X.A.guards = some []) (room : Room k X.A) (hb : L2.Binds X.K fd [] []) (hg : Gl X x) (hm : X.mg x = some (.ref f)) (kp : PySem.W.keepIn X.K (.ref f) = true) (hdb : (x == ("__debug__" : Str)) = false) :
    PE X (.Call (.Name x p) [] [] pos) (fun σ H Q => sp [] H Q E0) := ⟨fun pins s σ H Q I h => by
  refine wpAny_Call_Name_kw (ld_glob I hg hm ?_ hdb)
  exact PySem.W.callWith_K0 I.kIn kp (G.call_run gd room hb I .nil h)⟩
end
section
variable {F : Fm} {C : Cs} {ρ : Rho} {k : Nat} {Φ : Nat → PyData → Prop} {pos : Pos}
/-- f(), a def that only reads -/
theorem we_callP0 {x : Str} {R : Rel} {p : Pos} {j : Nat} {fa : Addr} {fd : FuncData} (G : FnG C.P C.w C.K C.mg C.base j fa fd [] (spPure C.K R)) (hm : C.mg x = some (.ref fa)) (kp : PySem.W.keepIn C.K (.ref fa) = true) (hb : L2.Binds C.K fd [] []) (hl : j ≤ C.lvl) (hK : F.K = C.K) (hg : C.sc.names.lookup x = some .globalImplicit)
    {d : PyData} (hR : R [] d) (h : Φ k d) (hdb : (x == ("__debug__" : Str)) = false := by decide) : WPE F C (.Call (.Name x p) [] [] pos) ρ k Φ := by
  refine of_pe (fun X fx => FnG.pe0 (by rw [fx.P, fx.w, fx.K, fx.mg, fx.base]; exact G) fx.gd (fx.room.mono hl) (by rw [fx.K]; exact hb) (by show X.env.scope.names.lookup x = _; rw [fx.sc]; exact hg) (by rw [fx.mg]; exact hm) (by rw [fx.K]; exact kp) hdb) fun σ H Q en jj q => ?_
  refine ⟨F.S, [], d, jj.al, .nil, hR, fun v H' sm rv => ?_⟩
  have le : Le F H H' := fun b o _ e => sm b o e
  refine q v d k H' le ⟨F.gm _ _ _ jj.g (fun b hb => ?_) (fun b o _ e => sm b o e), fun b o n e => sm b o (jj.le b o n e), fun b hb => (jj.al b hb).keep fun o e => sm b o e⟩ (by show Rep F.K F.S H' v d; rw [hK]; exact rv) h
  cases e : H b with
  | none => exact absurd e (F.gl _ _ jj.g b hb)
  | some o => exact sm b o e
end
end Dl

namespace Dl
open PySem PySem.Spec PyProof.Rows L2
section
variable {F : Fm} {C : Cs} {ρ : Rho} {k : Nat} {Φ : Nat → PyData → Prop} {pos : Pos} {elt e c : Expr} {scope : Scope} {x x1 : Str} {px px1 p3 pr pr2 : Pos} {kk : Nat}
theorem pi2_et {H1 : Hp} {a : Addr} {xs : List V} {ds : List PyData} (ha : H1 a = some (.tup xs) ∧ ¬ F.S a) (hr : RpAll F H1 xs ds) : PI2 F (Itet F.K a) H1 (enD 0 ds) where
  go := fun D hD n d hd => by
    rw [enD_get, Option.map_eq_some_iff] at hd
    obtain ⟨y, hy, rfl⟩ := hd
    have rr : Rp (F.ext D) (upd H1 D (.lst [])) (.ref a) (.tuple ds) := Rep.ext (.tup ha hr) hD
    cases rr with
    | @tup _ xs' _ ha' hr' =>
    have hn : n < xs'.length := by rw [hr'.length]; exact (List.getElem?_eq_some_iff.mp hy).1
    obtain ⟨y', hy', ry'⟩ := hr'.got (List.getElem?_eq_getElem hn)
    rw [hy] at hy'
    cases hy'
    refine ⟨.int ((0 + n : Nat) : Int), xs'[n], .int _, ry', fun H' lz => ?_⟩
    have sq : SqT F.K H' a xs' := sqt_of (S := (F.ext D).S) ⟨lz _ _ (Fm.sxA ha'.2) ha'.1, ha'.2⟩
    refine ⟨⟨xs', xs'[n], sq, List.getElem?_eq_getElem hn⟩, ?_⟩
    rintro v H'' ⟨T, x, rfl, hT, rfl, hx⟩
    have := hx xs' sq
    rw [List.getElem?_eq_getElem hn] at this
    cases this
    exact ⟨T, rfl, hT, by rw [Nat.zero_add]⟩
  stop := fun D hD H' lz => by
    have rr : Rp (F.ext D) (upd H1 D (.lst [])) (.ref a) (.tuple ds) := Rep.ext (.tup ha hr) hD
    cases rr with
    | @tup _ xs' _ ha' hr' =>
    have sq : SqT F.K H' a xs' := sqt_of (S := (F.ext D).S) ⟨lz _ _ (Fm.sxA ha'.2) ha'.1, ha'.2⟩
    exact ⟨xs', sq, by rw [enD_len, hr'.length]⟩
/-- [elt for x, x1 in enumerate(e) if c], e a tuple -/
theorem we_compEt1 (i i1 : Nat) (hne : i ≠ i1) (b : Blk2 C scope i x i1 x1) (hK : F.K = C.K) (hg : C.sc.names.lookup ("enumerate" : Str) = some .globalImplicit) (hm : C.mg ("enumerate" : Str) = none)
    (hse : ∀ env : Env, starEach [e] env = [(false, eval e env)]) (hs : ∀ (env : Env) (v : Value), foldedSetIterable (.Call (.Name "enumerate" pr) [e] [] pr2) env v = pure v)
    (h : WPE F C e ρ k fun k1 d => ∃ (I : Nat → Nat → List PyData → Prop) (ds : List PyData), d = .tuple ds ∧ ds.length ≤ 1000000 ∧ I 0 k1 [] ∧ (∀ D (j : Nat) (y : PyData) k' acc, ds[j]? = some y → I j k' acc → WPT (F.ext D) (C.blk scope) c ((ρ.set i (.d (.int (j : Int)))).set i1 (.d y)) k' fun k1 z => if z = true then WPE (F.ext D) (C.blk scope) elt ((ρ.set i (.d (.int (j : Int)))).set i1 (.d y)) k1 fun k2 u => I (j + 1) k2 (acc ++ [u]) else I (j + 1) k1 acc) ∧ (∀ k' acc, I ds.length k' acc → Φ k' (.list acc))) :
    WPE F C (.ListComp elt [⟨.Tuple [.Name x px, .Name x1 px1] kk p3, .Call (.Name "enumerate" pr) [e] [] pr2, [c], 0⟩] scope pos) ρ k Φ :=
  of_pe (fun X fx => pe_lc (own := [(x, i), (x1, i1)]) (wi := iEt C.K (tCons (tE C e) tNil)) fx.calm (by rw [fx.N]; exact b.t.hN) (by rw [← fx.K]; exact pi_et (by show X.env.scope.names.lookup ("enumerate" : Str) = _; rw [fx.sc]; exact hg) (by rw [fx.mg]; exact hm) (pa_cons (peE fx) pa_nil (hse X.env)) (hse X.env)) (by rw [fx.N, fx.sc]; exact b.ok) (fun s H a cl fp => pgTup (n := 2) (fx.blk s H scope a cl fp) (pgs_cons (b.t.pg (fx.blk s H scope a cl fp)) (pgs_cons (b.t1.pg (fx.blk s H scope a cl fp)) pgs_nil)) (by rfl) (by rfl)) (fun s H a cl fp => pts_one (ptT (fx.blk s H scope a cl fp))) (fun s H a cl fp => peE (fx.blk s H scope a cl fp)) (hs X.env))
    (we_lcG i i1 hne hK fun σ H R en j q => by
      show tE C e σ H _
      refine h σ H _ en j fun v d k1 H1 l1 j1 r ⟨I, ds, e, hz, i0, hstep, hend⟩ => ?_
      subst e
      cases r with
      | @tup a xs _ ha hr =>
      refine ⟨a, xs, rfl, hK ▸ sqt_of ha, ?_⟩
      rw [← hK]
      refine q _ k1 H1 (enD 0 ds) l1 j1 (pi2_et ha hr) ⟨I, by rw [enD_len]; exact hz, i0, ?_, ?_⟩
      · intro D n d k' acc hd ii
        rw [enD_get, Option.map_eq_some_iff] at hd
        obtain ⟨y, hy, rfl⟩ := hd
        rw [Nat.zero_add]
        exact hstep D n y k' acc hy ii
      · intro k' acc ii
        rw [enD_len] at ii
        exact hend k' acc ii)
end
end Dl

set_option maxHeartbeats 2000000
namespace Dl
open PySem PySem.Spec PyProof.Rows L2
/-! ### try with several clauses, each with a name -/
structure Hd where
  x : Str
  n : Str
  np : Pos
  pos' : Pos
  cv : Value
  i : Nat
  b₀ : Stmt
  suite : List Stmt
abbrev Hd.ex (h : Hd) : ExceptHandler := .ExceptHandler (some (.Name h.x h.np)) (some h.n) (h.b₀ :: h.suite) h.pos'
abbrev SuT := Addr → Value → Option Addr → TS
abbrev outE (i : Nat) (D : Ends) : Ends := ⟨fun s h => D.nx (s.set i none) h, D.rt, fun s h => D.bk (s.set i none) h, fun s h => D.ct (s.set i none) h⟩
def wAll (K : PySem.W.Frag) (W : L2.WX) (D : Ends) : List (Hd × SuT) → L2.WX
  | [] => W
  | p :: r => fun cls d s h => ∃ b, PySem.W.exmOne K cls p.1.cv = some b ∧ (b = true → ∀ a, h a = none → p.2 a cls d (outE p.1.i D) (s.set p.1.i (some (.ref a))) h) ∧ (b = false → wAll K W D r cls d s h)
structure HdX (X : Cx) (p : Hd × SuT) : Prop where
  i : X.N[p.1.i]? = some p.1.n
  l : X.env.kindOf p.1.n = some .local
  c : Names X p.1.x p.1.cv
  s : ∀ (a : Addr) (oe : Obj) (cls : Value) (d : Option Addr) (pn : List (Addr × Obj)), Zc cls d oe → (∃ vs, oe.data = .fields vs) → PSs (X.suite a ((a, oe) :: pn)) (p.1.b₀ :: p.1.suite) (p.2 a cls d)
section
variable {X : Cx} {body : List Stmt} {pos : Pos} {tb : L2.WX → TS} {W : L2.WX}
end
section
variable {F : Fm} {C : Cs} {ρ : Rho} {k : Nat} {Ξ Ξ2 : Nat → Rho → Addr → Xf → Prop} {pos : Pos} {P : DE} {body : List Stmt}
structure HdC (C : Cs) (h : Hd) : Prop where
  t : Tgt C h.i h.n
  l : C.sc.names.lookup h.n = some .local
  g : C.sc.names.lookup h.x = some .globalImplicit
  m : C.mg h.x = some h.cv ∨ (C.mg h.x = none ∧ bootBuiltins h.x = some h.cv ∧ h.x ≠ "__name__")
  d : (h.x == ("__debug__" : Str)) = false
def AllW (F : Fm) (C : Cs) (P : DE) (Ξ2 : Nat → Rho → Addr → Xf → Prop) : List Hd → Nat → Rho → Addr → Xf → Prop
  | [], k, ρ, c, y => Ξ2 k ρ c y
  | h :: r, k, ρ, c, y => (PySem.W.exmOne C.K (.ref c) h.cv = some true ∧ ∀ H a d, HasX (F.sus H) d y → HPB (F.sus H) ⟨C, a, c, d⟩ (h.b₀ :: h.suite) (ρ.set h.i (.raw (.ref a))) k (P.out h.i)) ∨ (PySem.W.exmOne C.K (.ref c) h.cv = some false ∧ AllW F C P Ξ2 r k ρ c y)
abbrev suT (C : Cs) (h : Hd) : SuT := fun a cls d => match cls with | .ref c => tBH ⟨C, a, c, d⟩ (h.b₀ :: h.suite) | _ => fun _ _ _ => False
end
end Dl

namespace Dl
open PySem PySem.Spec PyProof.Rows L2
/-! ### try with several clauses that give no name to the exception -/
structure Hn where
  x : Str
  np : Pos
  pos' : Pos
  cv : Value
  b₀ : Stmt
  suite : List Stmt
abbrev Hn.ex (h : Hn) : ExceptHandler := .ExceptHandler (some (.Name h.x h.np)) none (h.b₀ :: h.suite) h.pos'
section
variable {F : Fm} {C : Cs} {ρ : Rho} {k : Nat} {Ξ Ξ2 : Nat → Rho → Addr → Xf → Prop} {pos : Pos} {P : DE} {body : List Stmt}
structure HnC (C : Cs) (h : Hn) : Prop where
  g : C.sc.names.lookup h.x = some .globalImplicit
  m : C.mg h.x = some h.cv ∨ (C.mg h.x = none ∧ bootBuiltins h.x = some h.cv ∧ h.x ≠ "__name__")
  d : (h.x == ("__debug__" : Str)) = false
def AllN (F : Fm) (C : Cs) (P : DE) (Ξ2 : Nat → Rho → Addr → Xf → Prop) : List Hn → Nat → Rho → Addr → Xf → Prop
  | [], k, ρ, c, y => Ξ2 k ρ c y
  | h :: r, k, ρ, c, y => (PySem.W.exmOne C.K (.ref c) h.cv = some true ∧ ∀ H a d, HasX (F.sus H) d y → HPB (F.sus H) ⟨C, a, c, d⟩ (h.b₀ :: h.suite) ρ k P) ∨ (PySem.W.exmOne C.K (.ref c) h.cv = some false ∧ AllN F C P Ξ2 r k ρ c y)
abbrev suN (C : Cs) (h : Hn) : SuT := fun a cls d => match cls with | .ref c => tBH ⟨C, a, c, d⟩ (h.b₀ :: h.suite) | _ => fun _ _ _ => False
theorem hds_ok {X : Cx} {W : L2.WX} (fx : FitsX C W X) : ∀ hds : List Hn, (∀ h ∈ hds, HnC C h) → HdsOk X (hds.map Hn.ex) (hds.map fun h => (h.cv, suN C h))
  | [], _ => .nil
  | h :: r, hc => by
    have z := fx.fit
    have q := hc h List.mem_cons_self
    refine HdsOk.cons ⟨by show X.env.scope.names.lookup h.x = _; rw [show X.env.scope = C.sc from z.sc]; exact q.g, q.d, by rw [show X.mg = C.mg from z.mg]; exact q.m⟩ (fun a oe cls d pn hz hf => ?_) (hds_ok fx r fun h' hh => hc h' (List.mem_cons_of_mem _ hh))
    cases cls with
    | ref c => exact pbH (X := X.suite a ((a, oe) :: pn)) (h := ⟨C, a, c, d⟩) ⟨z.P, z.w, z.K, z.mg, z.base, z.N, z.sc, z.fn, ⟨z.room.dp, z.room.un⟩, z.gd, rfl, X, oe, pn, rfl, hz, hf⟩
    | _ => exact ⟨fun _ _ _ _ _ _ z => z.elim⟩
theorem wsx_try_n (h0 : Hn) (hds : List Hn) (hc : ∀ h ∈ h0 :: hds, HnC C h) (hb : WPBX F C body ρ k P Ξ) (hs : ∀ k' ρ' c y, Ξ k' ρ' c y → AllN F C P Ξ2 (h0 :: hds) k' ρ' c y) :
    WPSX F C (.Try body (h0.ex :: hds.map Hn.ex) [] [] pos) ρ k P Ξ2 := by
  refine of_psX (t := fun W D σ H => tBX C (wMany C.K W D ((h0 :: hds).map fun h : Hn => (h.cv, suN C h))) body D σ H) (fun X W fx => ?_) fun σ H E W en j q1 q2 q3 q4 hx => ?_
  · have z := fx.fit
    have eK : X.K = C.K := z.K
    have := ps_try_many (X := X) (body := body) (pos := pos) (h₀ := h0.ex) (hds := hds.map Hn.ex) (l := (h0 :: hds).map fun h : Hn => (h.cv, suN C h)) (tb := fun W => tBX C W body) (Wout := W) fx.st fx.fr fx.tk
      (fun V pn xe tk' po' => pbBX (X := X.tr pn xe) ⟨⟨z.P, z.w, z.K, z.mg, z.base, z.N, z.sc, z.fn, z.calm, z.room, rfl, z.gd⟩, tk', po', fx.st, fx.fr⟩)
      (hds_ok fx (h0 :: hds) hc)
    rw [eK] at this
    exact this
  · refine hb σ H E _ en j q1 q2 q3 q4 ?_
    intro ρ' σ' k' H' c d y l en' j' xo pΞ
    have key := hs k' ρ' c y pΞ
    clear hs hc
    generalize h0 :: hds = hds at key ⊢
    induction hds with
    | nil => exact hx ρ' σ' k' H' c d y l en' j' xo key
    | cons h r ih =>
      rcases key with ⟨h1, h2⟩ | ⟨h1, h2⟩
      · refine ⟨true, h1, fun _ a na => ?_, (fun z => by cases z)⟩
        have hx' : HasX (F.sus H') d y := hasX_sus xo
        refine h2 H' a d hx' _ H' _ en'.sus j'.sus ?_ ?_ ?_ ?_
        · exact fun ρ2 σ2 k2 H2 l2 e2 j2 p => q1 ρ2 σ2 k2 H2 (l.trans l2) (e2.unsus susH_none) (j'.unsus j2) p
        · exact fun v d k2 H2 j2 r p => q2 v d k2 H2 (j'.unsus j2) r p
        · exact fun ρ2 σ2 k2 H2 l2 e2 j2 p => q3 ρ2 σ2 k2 H2 (l.trans l2) (e2.unsus susH_none) (j'.unsus j2) p
        · exact fun ρ2 σ2 k2 H2 l2 e2 j2 p => q4 ρ2 σ2 k2 H2 (l.trans l2) (e2.unsus susH_none) (j'.unsus j2) p
      · exact ⟨false, h1, (fun z => by cases z), fun _ => ih h2⟩
end
section
variable {F : Fm} {C : Cs} {ρ : Rho} {k : Nat} {Φ : Nat → PyData → Prop} {Ξ : Nat → Rho → Addr → Xf → Prop} {a b : Expr} {pos : Pos}
end
end Dl

set_option maxHeartbeats 2000000
namespace Dl
open PySem PySem.Spec PyProof.Rows L2
section
variable {F : Fm} {C : Cs} {ρ : Rho} {k : Nat} {P : DE} {Φ : Nat → PyData → Prop} {Ξ : Nat → Rho → Addr → Xf → Prop} {a b : Expr} {pos : Pos}
/-- a == b of texts, a may raise -/
theorem wex_eqT (h : WPEX F C a ρ k (fun k1 x => WPE F C b ρ k1 fun k2 y => ∃ i j : Str, x = .str i ∧ y = .str j ∧ Φ k2 (.bool (decide (i = j)))) Ξ) (hm : behindInMarks .Eq b = false := by rfl) : WPEX F C (.Compare a [.Eq] [b] pos) ρ k Φ Ξ :=
  of_peX (t := fun W => tOp rEq (tEX C W a) (tE C b)) (fun X W fx => pe_cmpR op_eq (peEX fx) (PE.nox (X := X) (peE fx.fit)) hm) fun σ H Q W en j q hx => by
    show tEX C W a σ H _
    refine h σ H _ W en j (fun v d k1 H1 l1 j1 r1 px => ?_) hx
    show tE C b σ H1 _
    refine px σ H1 _ (en.le l1) j1 fun vy y k2 H2 l2 j2 r2 ⟨i, jj, e1, e2, p⟩ => ?_
    subst e1 e2
    cases r1
    cases r2
    obtain ⟨s1, s2⟩ := scal_str (F := F) (i := i) (j := jj) (H := H2) (.str i) (.str jj)
    refine ⟨s1, ?_⟩
    rw [s2]
    exact q _ _ k2 H2 (l1.trans l2) j2 (.bl _) p
end
end Dl

namespace Dl
open PySem PySem.Spec PyProof.Rows L2
/-! ### an instance whose one field, deck, is a deck: a shell -/
structure ShO (CS a b db : Addr) (H : Hp) : Prop where
  ib : H b = some (.ins CS db [("deck", .ref a)])
  id : H db = some (.own b)
/-- the class of shells -/
structure ShC (K : PySem.W.Frag) (CS : Addr) : Prop where
  cl : Cls K CS
  nd : NoAttr K CS "deck"
/-- the frame with a shell more -/
def Fm.shl (F : Fm) (CS a b db : Addr) : Fm where
  K := F.K
  S := fun z => F.S z ∨ z = b ∨ z = db
  M := fun z => F.M z ∨ z = b ∨ z = db
  H0 := F.H0
  G := fun k H => F.G k H ∧ ShO CS a b db H
  ms := fun z h => h.imp (F.ms z) id
  gm := fun k H H' ⟨g, s⟩ hm hx => ⟨F.gm k H H' g (fun z hz => hm z (.inl hz)) hx, ⟨(hm b (.inr (.inl rfl))).trans s.ib, (hm db (.inr (.inr rfl))).trans s.id⟩⟩
  gl := fun k H ⟨g, s⟩ z hz => by
    rcases hz with hz | rfl | rfl
    · exact F.gl k H g z hz
    · rw [s.ib]; exact fun z => nomatch z
    · rw [s.id]; exact fun z => nomatch z
  X := F.X
  xi := F.xi
  xa := fun k H ⟨g, _⟩ z u nm x q => F.xa k H g z u (fun y => nm (.inl y)) x q
/-- the frame knows the shell at b, its deck is at a -/
structure HasSh (F : Fm) (CS a b : Addr) : Prop where
  ex : ∃ db, F.M b ∧ F.M db ∧ ∀ k H, F.G k H → ShO CS a b db H
theorem HasSh.ext {F : Fm} {CS a b : Addr} (h : HasSh F CS a b) (D : Addr) : HasSh (F.ext D) CS a b := ⟨h.ex⟩
theorem HasSh.shl {F : Fm} {CS a b CS2 a2 b2 db2 : Addr} (h : HasSh F CS a b) : HasSh (F.shl CS2 a2 b2 db2) CS a b := by
  obtain ⟨db, m1, m2, g⟩ := h.ex
  exact ⟨db, .inl m1, .inl m2, fun k H z => g k H z.1⟩
theorem ShO.unhid {CS a b db s t : Addr} {H : Hp} (h : ShO CS a b db (hid H s t)) : ShO CS a b db H := ⟨(hid_some h.ib).2.2, (hid_some h.id).2.2⟩
theorem HasSh.deck {F : Fm} {CS a b C2 a2 dx2 : Addr} (h : HasSh F CS a b) : HasSh (F.deck C2 a2 dx2) CS a b := by
  obtain ⟨db, m1, m2, g⟩ := h.ex
  exact ⟨db, .inl m1, .inl m2, fun k H ⟨c, g1, s, t, e, hF, _⟩ => (g c _ hF).unhid⟩
section
variable {K : PySem.W.Frag} {C CS a b db dx s t a2 : Addr} {g : Pg} {H H' : Hp}
theorem sh_ne (d : PiG K C a dx s t g H) (h : ShO CS a2 b db H) : b ≠ a ∧ b ≠ dx ∧ b ≠ s ∧ b ≠ t ∧ db ≠ a ∧ db ≠ dx ∧ db ≠ s ∧ db ≠ t := by
  obtain ⟨as, x1, _⟩ := d.ss
  obtain ⟨bs, y1, _⟩ := d.tt
  have nb : b ≠ a := fun z => by
    have e := h.ib
    rw [z, d.ia] at e
    injection e with e
    injection e with _ _ e
    injection e with _ e
    cases e
  refine ⟨nb, fun z => ?_, fun z => ?_, fun z => ?_, fun z => ?_, fun z => ?_, fun z => ?_, fun z => ?_⟩
  · have e := h.ib; rw [z, d.id] at e; cases e
  · have e := h.ib; rw [z, x1] at e; unfold extL at e; cases e
  · have e := h.ib; rw [z, y1] at e; unfold extL at e; cases e
  · have e := h.id; rw [z, d.ia] at e; cases e
  · have e := h.id
    rw [z, d.id] at e
    exact nb (HO.own.inj (Option.some.inj e)).symm
  · have e := h.id; rw [z, x1] at e; unfold extL at e; cases e
  · have e := h.id; rw [z, y1] at e; unfold extL at e; cases e
end
/-- a deck of the frame, the shell beside -/
theorem HasPi.shl {F : Fm} {C a dx CS a2 b db : Addr} {mk : Pg → Nat} (h : HasPi F C a dx mk) : HasPi (F.shl CS a2 b db) C a dx mk where
  X := h.X
  ma := .inl h.ma
  md := .inl h.md
  get := fun g H g1 => h.get g H g1.1
  put := fun g g' H H' s t s' t' g1 d keep e1 d' hs ht => by
    obtain ⟨n1, n2, n3, n4, m1, m2, m3, m4⟩ := sh_ne d g1.2
    exact ⟨h.put g g' H H' s t s' t' g1.1 d keep e1 d' hs ht, ⟨keep b _ n1 n2 n3 n4 g1.2.ib, keep db _ m1 m2 m3 m4 g1.2.id⟩⟩
theorem HasDq.shl {F : Fm} {st q CS a2 b db : Addr} {mk : Nat → Nat} (h : HasDq F st q mk) : HasDq (F.shl CS a2 b db) st q mk where
  ms := fun z hz => .inl (h.ms z hz)
  get := fun n H g1 => h.get n H g1.1
  put := fun n n' H H' g1 d keep => by
    obtain ⟨cells, m, h1, h2, h3⟩ := h.get n H g1.1
    have ndq : ∀ b o, H b = some o → (∀ xs, o ≠ .lst xs) → ¬ DqM st q b := fun b o e n z => by
      rcases z with rfl | rfl
      · rw [h1] at e; cases e; exact n _ rfl
      · rw [h2] at e; cases e; exact n _ rfl
    exact ⟨h.put n n' H H' g1.1 d keep, ⟨keep b _ (ndq b _ g1.2.ib fun _ z => nomatch z) g1.2.ib, keep db _ (ndq db _ g1.2.id fun _ z => nomatch z) g1.2.id⟩⟩
end Dl

namespace Dl
open PySem PySem.Spec PyProof.Rows L2
/-! ### making a shell, as a step from one frame into the next -/
structure IntoS (F : Fm) (H : Hp) (CS a b db : Addr) (k : Nat) (H' : Hp) : Prop where
  j : J (F.shl CS a b db) k H'
  en : ∀ (σ : L2.St) (ρ : Rho), EnvOk F H σ ρ → EnvOk (F.shl CS a b db) H' σ ρ
  lz : ∀ H2, Lz (F.shl CS a b db) H' H2 → Lz F H H2
  back : ∀ c H2, J (F.shl CS a b db) c H2 → J F c H2
def spShI (K : PySem.W.Frag) (CS : Addr) : Sp := fun vs H Q _ => ∃ a b db, vs = [.ref b, .ref a] ∧ H b = some (.ins CS db []) ∧ Q .non (upd H b (.ins CS db [("deck", .ref a)]))
section
variable {F : Fm} {C : Cs} {CS a f : Addr} {ρ : Rho} {k : Nat} {P : DE} {pos p cp px py : Pos} {xc x y : Str} {j : Nat} {fd : FuncData} {ps : List Str} {rest : List Stmt}
end
/-! ### __init__ of a shell -/
section
variable {P : Program} {w : World} {K : PySem.W.Frag} {mg : Str → Option Value} {base : Heap} {CS : Addr}
end
end Dl

namespace Dl
open PySem PySem.Spec PyProof.Rows L2
/-! ### methods of shells -/
def spSh (K : PySem.W.Frag) (C CS : Addr) (Pre : Pg → List PyData → Prop) (R : Pg → List PyData → Pg → PyData → Prop) : Sp := fun vs H Q _ => ∃ (S : Addr → Prop) (a dx b db s t : Addr) (vs' : List V) (ds : List PyData) (g : Pg), vs = .ref b :: vs' ∧ ShO CS a b db H ∧ PiG K C a dx s t g H ∧ (∀ b, S b → Lv H b) ∧ S a ∧ S dx ∧ S b ∧ S db ∧ RepAll K S H vs' ds ∧ Pre g ds ∧
  ∀ v d g' s' t' H', (∀ b o, b ≠ a → b ≠ dx → b ≠ s → b ≠ t → H b = some o → H' b = some o) → (∀ y o, IsX o → H y = some o → ∃ o', IsX o' ∧ H' y = some o') → PiG K C a dx s' t' g' H' → (s' = s ∨ H s' = none) → (t' = t ∨ H t' = none) → Rep K S H' v d → R g ds g' d → Q v H'
section
variable {P : Program} {w : World} {K : PySem.W.Frag} {mg : Str → Option Value} {base : Heap} {C CS : Addr}
end
/-- a method of shells of the class CS, their decks of the class C -/
structure ShM (P : Program) (w : World) (K : PySem.W.Frag) (mg : Str → Option Value) (base : Heap) (C CS : Addr) (lvl : Nat) (m : Str) (Pre : Pg → List PyData → Prop) (R : Pg → List PyData → Pg → PyData → Prop) : Prop where
  cl : Cls K CS
  ex : ∃ (fa : Addr) (fd : FuncData) (ps : List Str), FnG P w K mg base lvl fa fd ps (spSh K C CS Pre R) ∧ Meth K CS m fa ∧ L2.Binds K fd ps []
section
variable {F : Fm} {C : Cs} {Cl CS a dx b : Addr} {mk : Pg → Nat} {g : Pg} {ρ : Rho} {Φ : Nat → PyData → Prop} {e : Expr} {es : List Expr} {pos p py apos : Pos} {x y m : Str} {Pre : Pg → List PyData → Prop} {R : Pg → List PyData → Pg → PyData → Prop} {j : Nat} {P : DE}
end
end Dl

/-! ### x, *y = a list -/
namespace L2
open PySem PySem.Spec PySem.W PyProof.Rows
section
variable {X : Cx} {e1 e2 : Expr} {kk : Nat} {pos sp : Pos} {t : TGs}
def gStar1 (K : PySem.W.Frag) (t : TGs) : TG := fun v σ H Q => ∃ a x xs, v = .ref a ∧ SqL K H a (x :: xs) ∧ ∀ D, H D = none → t [x, .ref D] σ (upd H D (.lst xs)) Q
end
end L2
namespace Dl
open PySem PySem.Spec PyProof.Rows L2
section
variable {F : Fm} {C : Cs} {ρ : Rho} {k : Nat} {P : DE} {pos p1 p2 p3 p4 sp : Pos} {e : Expr} {x1 x2 : Str} {kk : Nat}
end
end Dl

namespace Dl
open PySem PySem.Spec PyProof.Rows L2
section
variable {F : Fm} {C : Cs} {ρ : Rho} {k : Nat} {P : DE} {Φ : Nat → PyData → Prop} {pos p1 p2 p4 pl pl2 pt : Pos} {a b e : Expr} {rest : List Stmt} {x1 x2 : Str} {kk kt : Nat}
end
end Dl

namespace Dl
open PySem PySem.Spec PyProof.Rows L2
section
variable {F : Fm} {C : Cs} {ρ : Rho} {k : Nat} {Φ : Nat → PyData → Prop} {a b e : Expr} {pos p2 p3 apos : Pos} {jj : Nat}
end
end Dl

namespace Dl
open PySem PySem.Spec PyProof.Rows L2
/-! ### new decks and new shells inside expressions -/
structure Into2 (F : Fm) (H : Hp) (Cl a dx : Addr) (k1 : Nat) (d : Nat × List Int) (H' : Hp) : Prop extends Into F H Cl a dx k1 d H' where
  le : ∀ H2, Le (F.deck Cl a dx) H' H2 → Le F H H2
structure IntoS2 (F : Fm) (H : Hp) (CS a b db : Addr) (k : Nat) (H' : Hp) : Prop extends IntoS F H CS a b db k H' where
  le : ∀ H2, Le (F.shl CS a b db) H' H2 → Le F H H2
section
variable {F : Fm} {C : Cs} {Cl f : Addr} {ρ : Rho} {k : Nat} {Φ : Nat → PyData → Prop} {P : DE} {e e2 : Expr} {pos p cp px : Pos} {xc : Str} {j : Nat} {fd : FuncData} {ps : List Str} {Ok : Nat × List Int → Prop}
end
section
variable {F : Fm} {C : Cs} {CS a f : Addr} {ρ : Rho} {k : Nat} {P : DE} {pos p cp px py : Pos} {xc x y : Str} {j : Nat} {fd : FuncData} {ps : List Str} {rest : List Stmt}
end
section
variable {F : Fm} {C : Cs} {Cl CS f f2 : Addr} {ρ : Rho} {k : Nat} {Φ : Nat → PyData → Prop} {P : DE} {e : Expr} {es : List Expr} {pos p p2 cp cp2 px py : Pos} {xc xs x xf : Str} {j j2 lv : Nat} {fd fd2 : FuncData} {ps ps2 : List Str} {Ok : Nat × List Int → Prop} {rest : List Stmt} {Pre : Pg → List PyData → Prop} {R : Pg → List PyData → Pg → PyData → Prop}
end
/-! ### defs that have a shell -/
structure ShF (P : Program) (w : World) (K : PySem.W.Frag) (mg : Str → Option Value) (base : Heap) (C CS : Addr) (lvl : Nat) (x : Str) (Pre : Pg → List PyData → Prop) (R : Pg → List PyData → Pg → PyData → Prop) : Prop where
  ex : ∃ (fa : Addr) (fd : FuncData) (ps : List Str), FnG P w K mg base lvl fa fd ps (spSh K C CS Pre R) ∧ mg x = some (.ref fa) ∧ PySem.W.keepIn K (.ref fa) = true ∧ L2.Binds K fd ps []
section
variable {F : Fm} {C : Cs} {Cl CS a dx b : Addr} {mk : Pg → Nat} {g : Pg} {ρ : Rho} {Φ : Nat → PyData → Prop} {e : Expr} {es : List Expr} {pos p p1 p2 cp cp2 py apos : Pos} {x y xc xs : Str} {Pre : Pg → List PyData → Prop} {R : Pg → List PyData → Pg → PyData → Prop} {j j1 j2 k : Nat} {f1 f2 : Addr} {fd1 fd2 : FuncData} {ps1 ps2 : List Str} {Ok : Nat × List Int → Prop}
end
/-! ### what raises nothing, as what may raise -/
section
variable {P : Program} {w : World} {K : PySem.W.Frag} {mg : Str → Option Value} {base : Heap} {C : Addr}
def okR (R : Pg → List PyData → Pg → PyData → Prop) : RelPE := fun g ds g' o => ∃ d, o = .ok d ∧ R g ds g' d
end
end Dl

namespace Dl
open PySem PySem.Spec PyProof.Rows L2
/-! ### defs that make decks of their own: frames with X = IsX -/
def pureFmX (K : PySem.W.Frag) (S : Addr → Prop) (H : Hp) : Fm where
  K := K
  S := S
  M := fun _ => False
  H0 := H
  G := fun _ H' => ∀ b o, IsX o → H b = some o → H' b = some o
  ms := fun _ h => h.elim
  gm := fun _ _ _ g _ hx b o x q => hx b o (.inl x) (g b o x q)
  gl := fun _ _ _ _ h => h.elim
  X := IsX
  xi := fun _ h => h
  xa := fun _ _ g b o _ x q => ⟨o, x, g b o x q⟩
def drawFmY (K : PySem.W.Frag) (S : Addr → Prop) (H : Hp) (st a : Addr) (hS : ∀ b, DqM st a b → S b) : Fm where
  K := K
  S := S
  M := DqM st a
  H0 := H
  G := fun k H' => DqG st a k H' ∧ ∀ b o, ¬ DqM st a b → IsX o → H b = some o → H' b = some o
  ms := hS
  gm := fun k H' H2 g e hx => ⟨g.1.at e, fun b o nb x q => hx b o (.inl x) (g.2 b o nb x q)⟩
  gl := fun k H g b hb => g.1.live b hb
  X := IsX
  xi := fun _ h => h
  xa := fun k H' g b o nb x q => ⟨o, x, g.2 b o nb x q⟩
section
variable {P : Program} {w : World} {K : PySem.W.Frag} {mg : Str → Option Value} {base : Heap}
end
/-! ### Shell(y).m(e, ..), y a deck -/
section
variable {F : Fm} {C : Cs} {Cl CS a dx f2 : Addr} {mk : Pg → Nat} {g : Pg} {ρ : Rho} {Φ : Nat → PyData → Prop} {e : Expr} {es : List Expr} {pos p2 cp2 py apos : Pos} {y xs m : Str} {Pre : Pg → List PyData → Prop} {R : Pg → List PyData → Pg → PyData → Prop} {j j2 : Nat} {fd2 : FuncData} {ps2 : List Str}
end
/-! ### list(range(a, b)) -/
section
variable {F : Fm} {C : Cs} {ρ : Rho} {k : Nat} {Φ : Nat → PyData → Prop} {a b : Expr} {pos p pr pr2 : Pos}
end
end Dl

namespace Dl
open PySem PySem.Spec PyProof.Rows L2
/-! ### two shells: a loop over them, one of them by its place -/
section
variable {F : Fm} {C : Cs} {ρ : Rho} {k : Nat} {P : DE} {pos p1 p2 tp px : Pos} {x y1 y2 : Str} {kk : Nat} {body : List Stmt}
end
section
variable {F : Fm} {C : Cs} {Cl CS a dx b1 b2 : Addr} {mk : Pg → Nat} {g : Pg} {ρ : Rho} {Φ : Nat → PyData → Prop} {e ix : Expr} {es : List Expr} {pos p1 p2 lp sp apos : Pos} {y1 y2 m : Str} {Pre : Pg → List PyData → Prop} {R : Pg → List PyData → Pg → PyData → Prop} {j : Nat}
end
end Dl

namespace Dl
open PySem PySem.Spec PyProof.Rows L2
/-! ### t[::2], t[1::2], a tuple of one to six -/
def evs {α : Type} : List α → List α
  | [] => []
  | [a] => [a]
  | a :: _ :: r => a :: evs r
def ods {α : Type} : List α → List α
  | [] => []
  | [_] => []
  | _ :: b :: r => b :: ods r
section
variable {prog : Program} {w : World} {A : Around} {E : Value → Shared → Prop} {s : Shared}
end
def tStp (K : PySem.W.Frag) (te : TE) (g : List V → List V) : TE := fun σ H Q => te σ H fun x H1 => ∃ a xs, x = .ref a ∧ SqT K H1 a xs ∧ (1 ≤ xs.length ∧ xs.length ≤ 6) ∧ ∀ p, H1 p = none → Q (.ref p) (upd H1 p (.tup (g xs)))
section
variable {F : Fm} {C : Cs} {ρ : Rho} {k : Nat} {Φ : Nat → PyData → Prop} {pos p p0 p1 p2 p3 : Pos} {a e : Expr} {jj j0 : Nat}
end
end Dl

namespace Dl
open PySem PySem.Spec PyProof.Rows L2
/-! ### sum of a tuple of ints -/
section
variable {F : Fm} {C : Cs} {ρ : Rho} {k : Nat} {Φ : Nat → PyData → Prop} {e : Expr} {pos p : Pos}
end
/-! ### x = [.. for v in range(e)] as an own list -/
def WN2 (F : Fm) (t : TE) (ρ : Rho) (k : Nat) (Φ : Nat → List PyData → Prop) : Prop :=
  ∀ (σ : L2.St) (H : Hp) (Q : VK), EnvOk F H σ ρ → J F k H → (∀ o vs ds k' H', EnvOk (F.ext o) H' σ ρ → J (F.ext o) k' H' → ¬ F.M o → ¬ F.S o → F.H0 o = none → H' o = some (.lst vs) → RpAll (F.ext o) H' vs ds → (∀ H2, Lz (F.ext o) H' H2 → Lz F H H2) → Φ k' ds → Q (.ref o) H') → t σ H Q
section
variable {F : Fm} {ρ : Rho} {k : Nat} {Φ : Nat → List PyData → Prop}
end
section
variable {F : Fm} {C : Cs} {ρ : Rho} {k : Nat} {P : DE} {pos spos : Pos} {elt : Expr} {scope : Scope} {rest : List Stmt}
end
end Dl

namespace Dl
open PySem PySem.Spec PyProof.Rows L2
section
variable {F : Fm} {C : Cs} {ρ : Rho} {k : Nat} {P : DE} {e : Expr} {x a b : Str} {p1 p2 p3 p4 p5 p6 p7 spos : Pos} {kk : Nat}
end
end Dl

namespace Dl
open PySem PySem.Spec PyProof.Rows L2
/-! ### [elt for x, y in zip(tuple, tuple) if c] -/
section
variable {F : Fm} {C : Cs} {ρ : Rho} {k : Nat} {Φ : Nat → PyData → Prop} {P : DE} {pos spos : Pos} {elt e e2 c : Expr} {scope : Scope} {x x1 : Str} {px px1 p3 pr pr2 : Pos} {kk : Nat}
theorem we_compZT1 (i i1 : Nat) (hne : i ≠ i1) (b : Blk2 C scope i x i1 x1) (hK : F.K = C.K) (hg : C.sc.names.lookup ("zip" : Str) = some .globalImplicit) (hm : C.mg ("zip" : Str) = none)
    (hs0 : ∀ env : Env, starEach [e, e2] env = (false, eval e env) :: starEach [e2] env) (hs2 : ∀ env : Env, starEach [e2] env = (false, eval e2 env) :: starEach [] env) (hpl : ∀ env : Env, (backTo pr2 (starEach [e2] env)).any (·.1) = false) (hs : ∀ (env : Env) (v : Value), foldedSetIterable (.Call (.Name "zip" pr) [e, e2] [] pr2) env v = pure v)
    (h : WPE F C e ρ k fun k1 d => WPE F C e2 ρ k1 fun k2 d' => ∃ (I : Nat → Nat → List PyData → Prop) (ds es : List PyData), d = .tuple ds ∧ d' = .tuple es ∧ ds.length = es.length ∧ ds.length ≤ 1000000 ∧ I 0 k2 [] ∧ (∀ D (j : Nat) (y z : PyData) k' acc, ds[j]? = some y → es[j]? = some z → I j k' acc → WPT (F.ext D) (C.blk scope) c ((ρ.set i (.d y)).set i1 (.d z)) k' fun k1 b => if b = true then WPE (F.ext D) (C.blk scope) elt ((ρ.set i (.d y)).set i1 (.d z)) k1 fun k2 u => I (j + 1) k2 (acc ++ [u]) else I (j + 1) k1 acc) ∧ (∀ k' acc, I ds.length k' acc → Φ k' (.list acc))) :
    WPE F C (.ListComp elt [⟨.Tuple [.Name x px, .Name x1 px1] kk p3, .Call (.Name "zip" pr) [e, e2] [] pr2, [c], 0⟩] scope pos) ρ k Φ :=
  of_pe (fun X fx => pe_lc (own := [(x, i), (x1, i1)]) (wi := RZ.iZipA C.K (tCons (tE C e) (tCons (tE C e2) tNil))) fx.calm (by rw [fx.N]; exact b.t.hN) (by rw [← fx.K]; exact RZ.pi_zipA (by show X.env.scope.names.lookup ("zip" : Str) = _; rw [fx.sc]; exact hg) (by rw [fx.mg]; exact hm) (pa_cons (peE fx) (pa_cons (peE fx) pa_nil (hs2 X.env)) (hs0 X.env)) (hs0 X.env) (hpl X.env)) (by rw [fx.N, fx.sc]; exact b.ok) (fun s H a cl fp => pgTup (n := 2) (fx.blk s H scope a cl fp) (pgs_cons (b.t.pg (fx.blk s H scope a cl fp)) (pgs_cons (b.t1.pg (fx.blk s H scope a cl fp)) pgs_nil)) (by rfl) (by rfl)) (fun s H a cl fp => pts_one (ptT (fx.blk s H scope a cl fp))) (fun s H a cl fp => peE (fx.blk s H scope a cl fp)) (hs X.env))
    (we_lcG i i1 hne hK fun σ H R en j q => by
      show tE C e σ H _
      refine h σ H _ en j fun v d k1 H1 l1 j1 r hh => ?_
      show tE C e2 σ H1 _
      refine hh σ H1 _ (en.le l1) j1 fun v2 d2 k2 H2 l2 j2 r2 ⟨I, ds, es, e1, e2, hl, hz, i0, hstep, hend⟩ => ?_
      subst e1 e2
      have r := r.le l2.lz
      cases r with
      | @tup a xs _ ha hr =>
      cases r2 with
      | @tup b ys _ hb hrb =>
      refine ⟨a, b, xs, ys, rfl, .inr ⟨hK ▸ sqt_of ha, hK ▸ sqt_of hb, ?_⟩⟩
      rw [← hK]
      have hlz : (ds.zip es).length = ds.length := by rw [List.length_zip]; omega
      refine q _ k2 H2 (ds.zip es) (l1.trans l2) j2 (pi2_zt ha hr hb hrb hl) ⟨I, by rw [hlz]; exact hz, i0, ?_, ?_⟩
      · intro D n d k' acc hd ii
        obtain ⟨h1, h2⟩ := List.getElem?_zip_eq_some.mp hd
        exact hstep D n d.1 d.2 k' acc h1 h2 ii
      · intro k' acc ii
        rw [hlz] at ii
        exact hend k' acc ii)
end
end Dl

namespace Dl
open PySem PySem.Spec PyProof.Rows L2
section
variable {F : Fm} {C : Cs} {ρ : Rho} {k : Nat} {P : DE} {pos p1 p2 tp : Pos} {iter : Expr} {x1 x2 : Str} {kk : Nat} {body : List Stmt}
end
end Dl

set_option maxHeartbeats 8000000
namespace K63
open PySem PySem.Spec PyProof.Rows L2 Dl
def topS (i : Nat) : Stmt := PySem.Challenge.pw_cardboxes_k63_whole_texts_there_and_back.main.body.getD i (.Pass ⟨0, 0, 0, 0⟩)
local macro_rules | `(tactic| walk_at "vis") => `(tactic| first | exact Or.inl rfl | exact Or.inr (Or.inl rfl) | exact Or.inr (Or.inr rfl))
local macro_rules | `(tactic| walk_at "blk") => `(tactic| exact ⟨blkOk_by (by dsimp only [bodyCs, Cs.blk]; decide +kernel), ⟨by dsimp only [bodyCs, Cs.blk]; decide +kernel, rfl, (by first | exact Or.inl rfl | exact Or.inr rfl), (by first | exact Or.inl rfl | exact Or.inr rfl)⟩⟩)
local macro_rules | `(tactic| walk_at "tgt") => `(tactic| exact ⟨by dsimp only [bodyCs, Cs.blk]; decide +kernel, rfl, (by first | exact Or.inl rfl | exact Or.inr rfl), (by first | exact Or.inl rfl | exact Or.inr rfl)⟩)
local macro_rules | `(tactic| walk_at "name") => `(tactic| first
  | ((with_reducible refine' we_name 0 ?n1 ?n2 ?n3 ?_); (case n1 => rfl); (case n2 => walk_at "vis"); (case n3 => rfl))
  | ((with_reducible refine' we_name 1 ?n1 ?n2 ?n3 ?_); (case n1 => rfl); (case n2 => walk_at "vis"); (case n3 => rfl))
  | ((with_reducible refine' we_name 2 ?n1 ?n2 ?n3 ?_); (case n1 => rfl); (case n2 => walk_at "vis"); (case n3 => rfl))
  | ((with_reducible refine' we_name 3 ?n1 ?n2 ?n3 ?_); (case n1 => rfl); (case n2 => walk_at "vis"); (case n3 => rfl))
  | ((with_reducible refine' we_name 4 ?n1 ?n2 ?n3 ?_); (case n1 => rfl); (case n2 => walk_at "vis"); (case n3 => rfl))
  | ((with_reducible refine' we_name 5 ?n1 ?n2 ?n3 ?_); (case n1 => rfl); (case n2 => walk_at "vis"); (case n3 => rfl))
  | ((with_reducible refine' we_name 6 ?n1 ?n2 ?n3 ?_); (case n1 => rfl); (case n2 => walk_at "vis"); (case n3 => rfl))
  | ((with_reducible refine' we_name 7 ?n1 ?n2 ?n3 ?_); (case n1 => rfl); (case n2 => walk_at "vis"); (case n3 => rfl))
  | ((with_reducible refine' we_name 8 ?n1 ?n2 ?n3 ?_); (case n1 => rfl); (case n2 => walk_at "vis"); (case n3 => rfl))
  | ((with_reducible refine' we_name 9 ?n1 ?n2 ?n3 ?_); (case n1 => rfl); (case n2 => walk_at "vis"); (case n3 => rfl))
  | ((with_reducible refine' we_name 10 ?n1 ?n2 ?n3 ?_); (case n1 => rfl); (case n2 => walk_at "vis"); (case n3 => rfl))
  | ((with_reducible refine' we_name 11 ?n1 ?n2 ?n3 ?_); (case n1 => rfl); (case n2 => walk_at "vis"); (case n3 => rfl))
  | ((with_reducible refine' we_name 12 ?n1 ?n2 ?n3 ?_); (case n1 => rfl); (case n2 => walk_at "vis"); (case n3 => rfl))
  | ((with_reducible refine' we_name 13 ?n1 ?n2 ?n3 ?_); (case n1 => rfl); (case n2 => walk_at "vis"); (case n3 => rfl))
  | ((with_reducible refine' we_name 14 ?n1 ?n2 ?n3 ?_); (case n1 => rfl); (case n2 => walk_at "vis"); (case n3 => rfl))
  | ((with_reducible refine' we_name 15 ?n1 ?n2 ?n3 ?_); (case n1 => rfl); (case n2 => walk_at "vis"); (case n3 => rfl)))
local macro_rules | `(tactic| walk_at "dl") => `(tactic| first
  | walk_at "name"
  | with_reducible refine we_int ?_
  | with_reducible refine we_bl ?_
  | with_reducible refine we_str ?_
  | with_reducible refine we_non ?_
  | with_reducible refine wb_cons ?_
  | with_reducible refine wb_nil ?_
  | with_reducible refine ws_ret ?_
  | with_reducible refine ws_retN ?_
  | with_reducible refine ws_if ?_
  | with_reducible refine wa_nil ?_
  | with_reducible refine we_add ?_
  | with_reducible refine we_sub ?_
  | with_reducible refine we_mul ?_
  | with_reducible refine we_fdiv ?_
  | with_reducible refine we_mod ?_
  | with_reducible refine we_shl ?_
  | with_reducible refine we_shr ?_
  | with_reducible refine we_pow ?_
  | with_reducible refine we_band ?_
  | with_reducible refine we_bor ?_
  | with_reducible refine we_bxor ?_
  | with_reducible refine we_neg ?_
  | with_reducible refine wt_lt ?_
  | with_reducible refine wt_le ?_
  | with_reducible refine wt_gt ?_
  | with_reducible refine wt_ge ?_
  | with_reducible refine we_lt ?_
  | with_reducible refine we_le ?_
  | with_reducible refine we_gt ?_
  | with_reducible refine we_ge ?_
  | with_reducible refine wt_not ?_
  | with_reducible refine wt_bool ?_
  | with_reducible refine ww_and ?_
  | with_reducible refine ww_or ?_
  | with_reducible refine ww_and1 ?_
  | with_reducible refine ww_or1 ?_
  | with_reducible refine we_and ?_
  | with_reducible refine we_or ?_
  | with_reducible refine we_one ?_
  | with_reducible refine we_not ?_
  | with_reducible refine we_tup ?_
  | with_reducible refine we_lst ?_
  | with_reducible refine we_isN ?_
  | with_reducible refine wt_isN ?_
  | ((with_reducible refine wa_cons ?s1 ?_); (case s1 => exact fun _ => rfl))
  | ((with_reducible refine we_len ?c1 ?c2 ?c3 ?c4 ?_); (case c1 => assumption); (case c2 => rfl); (case c3 => assumption); (case c4 => exact fun _ => rfl))
  | ((with_reducible refine we_tuple ?c1 ?c2 ?c3 ?c4 ?_); (case c1 => assumption); (case c2 => rfl); (case c3 => assumption); (case c4 => exact fun _ => rfl))
  | ((with_reducible refine we_list ?c1 ?c2 ?c3 ?c4 ?_); (case c1 => assumption); (case c2 => rfl); (case c3 => assumption); (case c4 => exact fun _ => rfl))
  | ((with_reducible refine we_repr ?c1 ?c2 ?c3 ?c4 ?_); (case c1 => assumption); (case c2 => rfl); (case c3 => assumption); (case c4 => exact fun _ => rfl))
  | ((with_reducible refine we_sum ?c1 ?c2 ?c3 ?c4 ?_); (case c1 => assumption); (case c2 => rfl); (case c3 => assumption); (case c4 => exact fun _ => rfl))
  | ((with_reducible refine we_sorted ?c1 ?c2 ?c3 ?c4 ?_); (case c1 => assumption); (case c2 => rfl); (case c3 => assumption); (case c4 => exact fun _ => rfl))
  | ((with_reducible refine we_min ?c1 ?c2 ?c3 ?c4 ?_); (case c1 => assumption); (case c2 => rfl); (case c3 => assumption); (case c4 => exact fun _ => rfl))
  | ((with_reducible refine we_abs ?c2 ?c3 ?c4 ?_); (case c2 => rfl); (case c3 => assumption); (case c4 => exact fun _ => rfl))
  | ((with_reducible refine we_intB ?c2 ?c3 ?c4 ?_); (case c2 => rfl); (case c3 => assumption); (case c4 => exact fun _ => rfl))
  | ((with_reducible refine' we_callP ?c1 ?c2 ?c3 ?c4 ?_ ?c5 ?c6 ?c7); (case c1 => assumption); (case c2 => exact Nat.le_of_ble_eq_true rfl); (case c3 => assumption); (case c4 => rfl); (case c5 => decide); (case c6 => exact fun _ => rfl); (case c7 => exact fun _ => rfl))
  | ((with_reducible refine' we_callD ?c0 ?c1 ?c2 ?c3 0 ?c4 ?c5 ?c6 ?c7 ?_ ?c8 ?c9 ?c10 ?c11 ?c12); (case c0 => first | assumption | exact IsDk.ext (by assumption) _ | exact IsDk.ext (IsDk.ext (by assumption) _) _); (case c1 => assumption); (case c2 => exact Nat.le_of_ble_eq_true rfl); (case c3 => assumption); (case c4 => rfl); (case c5 => rfl); (case c6 => walk_at "vis"); (case c7 => rfl); (case c8 => decide); (case c9 => decide); (case c10 => decide); (case c11 => exact fun _ => rfl); (case c12 => exact fun _ => rfl))
  | ((with_reducible refine' we_callD ?c0 ?c1 ?c2 ?c3 1 ?c4 ?c5 ?c6 ?c7 ?_ ?c8 ?c9 ?c10 ?c11 ?c12); (case c0 => first | assumption | exact IsDk.ext (by assumption) _ | exact IsDk.ext (IsDk.ext (by assumption) _) _); (case c1 => assumption); (case c2 => exact Nat.le_of_ble_eq_true rfl); (case c3 => assumption); (case c4 => rfl); (case c5 => rfl); (case c6 => walk_at "vis"); (case c7 => rfl); (case c8 => decide); (case c9 => decide); (case c10 => decide); (case c11 => exact fun _ => rfl); (case c12 => exact fun _ => rfl))
  | ((with_reducible refine we_ix ?c1 ?c2 ?_); (case c1 => assumption); (case c2 => exact fun _ _ => rfl)))
local macro_rules | `(tactic| walk_at "dx") => `(tactic| first
  | with_reducible refine tl0 ?_
  | with_reducible refine tl1 ?_
  | with_reducible refine tl2 ?_
  | with_reducible refine tl3 ?_
  | with_reducible refine tl4 ?_
  | with_reducible refine tl5 ?_
  | with_reducible refine tl6 ?_
  | with_reducible refine tl7 ?_
  | with_reducible refine ii2 ?_
  | with_reducible refine ii1 ?_
  | with_reducible refine ss2 ?_
  | with_reducible refine bb1 ?_
  | with_reducible refine sqT ?_
  | with_reducible refine sqL ?_
  | walk_at "dl")
local macro_rules | `(tactic| walk_at "dq") => `(tactic| first
  | walk_at "dx"
  | ((with_reducible refine' we_callQ ?c0 ?c1 ?c2 ?c3 0 ?c4 ?c5 ?c6 ?c7 ?_ ?c8 ?c9 ?c10 ?c11 ?c12); (case c0 => first | assumption | exact IsDq.ext (by assumption) _ | exact IsDq.ext (IsDq.ext (by assumption) _) _); (case c1 => assumption); (case c2 => exact Nat.le_of_ble_eq_true rfl); (case c3 => assumption); (case c4 => rfl); (case c5 => rfl); (case c6 => walk_at "vis"); (case c7 => rfl); (case c8 => decide); (case c9 => decide); (case c10 => decide); (case c11 => exact fun _ => rfl); (case c12 => exact fun _ => rfl))
  | ((with_reducible refine' we_callQ ?c0 ?c1 ?c2 ?c3 1 ?c4 ?c5 ?c6 ?c7 ?_ ?c8 ?c9 ?c10 ?c11 ?c12); (case c0 => first | assumption | exact IsDq.ext (by assumption) _ | exact IsDq.ext (IsDq.ext (by assumption) _) _); (case c1 => assumption); (case c2 => exact Nat.le_of_ble_eq_true rfl); (case c3 => assumption); (case c4 => rfl); (case c5 => rfl); (case c6 => walk_at "vis"); (case c7 => rfl); (case c8 => decide); (case c9 => decide); (case c10 => decide); (case c11 => exact fun _ => rfl); (case c12 => exact fun _ => rfl)))
def parts (n : Int) : List Int := (rg (n + 1)).filter fun i => decide (Builtin.bitAnd i n = i)
def Rparts : Rel := fun ds d => ∃ n : Int, ds = [.int n] ∧ (0 ≤ n ∧ n < 1000) ∧ d = .list ((parts n).map PyData.int)
def cubeCards (b q : Int) : List Int := (parts q).map fun i => b + i

theorem band_nat (a b : Nat) : Builtin.bitAnd (a : Int) (b : Int) = ((a &&& b : Nat) : Int) := by
  rw [bitAnd_pp (by omega) (by omega), Int.toNat_natCast, Int.toNat_natCast]
def partsN (q : Nat) : List Nat := (List.range (q + 1)).filter fun i => decide (i &&& q = i)
theorem one_shl (n : Nat) : (1 : Int) * 2 ^ ((n : Int)).toNat = 2 ^ n := by rw [Int.one_mul, Int.toNat_natCast]
theorem pow_le64 {n : Nat} (h : n ≤ 6) : (2 : Int) ^ n ≤ 64 ∧ (1 : Int) ≤ 2 ^ n := by
  have : n = 0 ∨ n = 1 ∨ n = 2 ∨ n = 3 ∨ n = 4 ∨ n = 5 ∨ n = 6 := by omega
  rcases this with rfl | rfl | rfl | rfl | rfl | rfl | rfl <;> decide
def outside (n : Nat) (s : Int) : List Int := (rg (2 ^ n)).filter fun i => decide (Builtin.bitAnd i s = 0)
def missing (cs : List Int) (b q : Int) : Option Int := (cubeCards b q).find? fun c => !decide (c ∈ cs)
def missD (cs : List Int) (b q : Int) : PyData := match missing cs b q with
  | some c => .int c
  | none => .none
def basesL (n : Nat) (cs : List Int) (s : Int) : List Int := (outside n s).filter fun b => (missing cs b s).isNone
def boxD (n : Nat) (cs : List Int) : PyData := .tuple [.int (n : Int), .tuple (cs.map PyData.int)]
structure IsBox (n : Nat) (cs : List Int) : Prop where
  asc : cs.Pairwise (· < ·)
  rng : ∀ c ∈ cs, 0 ≤ c ∧ c < 2 ^ n
structure GoodC (n : Nat) (cs : List Int) : Prop where
  nd : cs.Nodup
  rng : ∀ c ∈ cs, 0 ≤ c ∧ c < 2 ^ n
theorem GoodC.sorted {n : Nat} {as ms : List Int} (g : GoodC n as) (hp : ms.Perm as) (hw : ms.Pairwise (· ≤ ·)) : IsBox n ms := by
  refine ⟨?_, fun c hc => g.rng c (hp.mem_iff.mp hc)⟩
  have nd : ms.Nodup := hp.symm.nodup g.nd
  exact (hw.and nd).imp fun ⟨h1, h2⟩ => by omega
theorem GoodC.sub {n : Nat} {as : List Int} (h : as.Sublist (rg (2 ^ n))) : GoodC n as := by
  refine ⟨?_, fun c hc => mem_rg.mp (h.subset hc)⟩
  have : (rg (2 ^ n)).Nodup := rg_pairwise.imp fun h => by omega
  exact h.nodup this
theorem box_len {n : Nat} {cs : List Int} (hn : n ≤ 6) (b : IsBox n cs) : cs.length ≤ 64 := by
  have key : ∀ (l : List Int) (lo : Int), l.Pairwise (· < ·) → (∀ c ∈ l, lo ≤ c ∧ c < 64) → lo ≤ 64 → (l.length : Int) ≤ 64 - lo := by
    intro l
    induction l with
    | nil => intro lo _ _ h; simp; omega
    | cons x xs ih =>
      intro lo hp hr hlo
      have hx := hr x List.mem_cons_self
      have := ih (x + 1) (List.pairwise_cons.mp hp).2 (fun c hc => ⟨(List.pairwise_cons.mp hp).1 c hc, (hr c (List.mem_cons_of_mem _ hc)).2⟩) (by omega)
      rw [List.length_cons]; omega
  have hp := pow_le64 hn
  have := key cs 0 b.asc (fun c hc => ⟨(b.rng c hc).1, by have := (b.rng c hc).2; omega⟩) (by omega)
  omega
theorem xor_small : ∀ a < 64, ∀ b < 64, (a ||| b) - (a &&& b) = a ^^^ b := by decide +kernel
theorem and_le_or : ∀ a < 64, ∀ b < 64, a &&& b ≤ a ||| b := by decide +kernel
theorem bxor_nat {a b : Nat} (ha : a < 64) (hb : b < 64) : Builtin.bitXor (a : Int) (b : Int) = ((a ^^^ b : Nat) : Int) := by
  unfold Builtin.bitXor
  rw [bitOr_nn (by omega) (by omega), band_nat, Int.toNat_natCast, Int.toNat_natCast, ← xor_small a ha b hb]
  have := and_le_or a ha b hb
  omega
theorem xor_good {n : Nat} {f : Int} (hn : n ≤ 6) (f0 : 0 ≤ f) (f1 : f < 2 ^ n) {as : List Int} (h : as.Sublist (rg (2 ^ n))) : GoodC n (as.map fun c => Builtin.bitXor c f) := by
  have hp := pow_le64 hn
  have h1 : ((2 ^ n : Nat) : Int) = (2 : Int) ^ n := by rw [Int.natCast_pow]; rfl
  have g := GoodC.sub h
  obtain ⟨f, rfl⟩ : ∃ m : Nat, f = (m : Int) := ⟨f.toNat, by omega⟩
  have conv : ∀ c ∈ as, ∃ m : Nat, c = (m : Int) ∧ m < 2 ^ n ∧ Builtin.bitXor c (f : Int) = ((m ^^^ f : Nat) : Int) := fun c hc => by
    have := g.rng c hc
    refine ⟨c.toNat, by omega, by omega, ?_⟩
    rw [← bxor_nat (a := c.toNat) (b := f) (by omega) (by omega), show ((c.toNat : Nat) : Int) = c by omega]
  constructor
  · rw [List.nodup_iff_pairwise_ne, List.pairwise_map]
    refine (List.Pairwise.and_mem.mp (List.nodup_iff_pairwise_ne.mp g.nd)).imp ?_
    rintro a b ⟨ha, hb, hne⟩ e
    obtain ⟨m, rfl, _, e1⟩ := conv a ha
    obtain ⟨m', rfl, _, e2⟩ := conv b hb
    rw [e1, e2] at e
    have e3 : m ^^^ f = m' ^^^ f := by omega
    have : m = m' := by
      have := congrArg (· ^^^ f) e3
      simpa [Nat.xor_assoc] using this
    exact hne (by rw [this])
  · intro c hc
    obtain ⟨a, ha, rfl⟩ := List.mem_map.mp hc
    obtain ⟨m, rfl, hm, e1⟩ := conv a ha
    rw [e1]
    have : m ^^^ f < 2 ^ n := Nat.xor_lt_two_pow hm (by omega)
    omega

def Boxed (d : PyData) : Prop := ∃ (n : Nat) (cs : List Int), n ≤ 6 ∧ IsBox n cs ∧ d = boxD n cs
theorem box0 (n : Nat) : IsBox n [] := ⟨List.Pairwise.nil, fun _ h => by cases h⟩
theorem sub_fine {n : Nat} (hn : n ≤ 6) {as : List Int} (h : as.Sublist (rg (2 ^ n))) : Fine (64 * 33 + 3) 1 (.tuple (as.map PyData.int)) := by
  have hp := pow_le64 hn
  refine fine_ints (fun i hi => ?_) (Nat.le_trans h.length_le (by rw [rg_length]; omega))
  have := mem_rg.mp (h.subset hi)
  have h2 : i.natAbs < 64 := by omega
  exact Nat.lt_trans h2 (by decide)

/-- how many binary digits are 1 -/
def bits (n : Nat) : Nat := if n = 0 then 0 else n % 2 + bits (n / 2)
theorem bits_pos {n : Nat} (h : 0 < n) : bits n = n % 2 + bits (n / 2) := by
  rw [bits, if_neg (by omega)]

theorem uniqA {α : Type} {R : α → α → Prop} (ir : ∀ a, ¬ R a a) (tr : ∀ a b, R a b → ¬ R b a) : ∀ {xs ys : List α}, xs.Pairwise R → ys.Pairwise R → (∀ a, a ∈ xs ↔ a ∈ ys) → xs = ys
  | [], [], _, _, _ => rfl
  | [], y :: ys, _, _, h => by have := (h y).mpr List.mem_cons_self; cases this
  | x :: xs, [], _, _, h => by have := (h x).mp List.mem_cons_self; cases this
  | x :: xs, y :: ys, hx, hy, h => by
    have hx' := List.pairwise_cons.mp hx
    have hy' := List.pairwise_cons.mp hy
    have e : x = y := by
      rcases List.mem_cons.mp ((h x).mp List.mem_cons_self) with e | m1
      · exact e
      rcases List.mem_cons.mp ((h y).mpr List.mem_cons_self) with e | m2
      · exact e.symm
      exact absurd (hx'.1 y m2) (tr _ _ (hy'.1 x m1))
    subst e
    refine congrArg (x :: ·) (uniqA ir tr hx'.2 hy'.2 fun a => ⟨fun m => ?_, fun m => ?_⟩)
    · rcases List.mem_cons.mp ((h a).mp (List.mem_cons_of_mem _ m)) with e | m'
      · exact absurd (e ▸ hx'.1 a m) (ir x)
      · exact m'
    · rcases List.mem_cons.mp ((h a).mpr (List.mem_cons_of_mem _ m)) with e | m'
      · exact absurd (e ▸ hy'.1 a m) (ir x)
      · exact m'
theorem uniqI {xs ys : List Int} (hx : xs.Pairwise (· < ·)) (hy : ys.Pairwise (· < ·)) (h : ∀ a, a ∈ xs ↔ a ∈ ys) : xs = ys := uniqA (R := fun a b : Int => a < b) (fun a h => by omega) (fun a b h1 h2 => by omega) hx hy h
theorem asc_nodup {xs : List Int} (h : xs.Pairwise (· < ·)) : xs.Nodup := List.nodup_iff_pairwise_ne.mpr (h.imp fun h => by omega)
def hasP (cs : List Int) (s p : Int) : Bool := cs.any fun c => decide (Builtin.bitAnd c s = p)
def patsL (cs : List Int) (s : Int) : List Int := (parts s).filter fun p => hasP cs s p
def shownB (cs : List Int) (s : Int) : Bool := (parts s).all fun p => hasP cs s p
def b6 (s : Nat) : Nat := s % 2 + (s / 2 % 2 + (s / 4 % 2 + (s / 8 % 2 + (s / 16 % 2 + s / 32 % 2))))
abbrev nDeck : List Str := ["_law_script", "_law_cell"]
theorem scDeck : FnScope nDeck ["_law_script"] (defScope (topS 22)) := ⟨rfl, rfl, rfl, by decide +kernel, rfl, by decide +kernel, by decide +kernel⟩
theorem cutV_ints (ns : List Int) (lo hi : Option Int) : ∃ ms : List Int, cutV (ns.map V.int) lo hi = ms.map V.int ∧ (lo = none → hi = some 63 → ns.length ≤ 63 → ms.length = ns.length) := by
  refine ⟨_, by unfold cutV; rw [← List.map_drop, ← List.map_take], ?_⟩
  rintro rfl rfl h
  rw [List.length_take, List.length_drop, List.length_map]
  rw [show HT.sIx ns.length ns.length (some 63) = min 63 ns.length from HT.sIx_nat ns.length ns.length 63, HT.sIx_none]
  omega
section
variable {P : Program} {w : World} {K : PySem.W.Frag} {mg : Str → Option Value} {base : Heap}
theorem ok_deck {f : Addr} {fd : FuncData} (Fn : Fun K "_law_deck" "_law_deck" (topS 22) f fd) (ma : mg "abs" = none) : FnG P w K mg base 1 f fd ["_law_script"] (spDeck K) := by
  refine FnG.of_body (k := 0) Fn scDeck (fun vs H Q E h => ?_) (fun cdv A outer s H vs Q hgd hr h => ?_)
  · obtain ⟨sc, ns, rfl, _⟩ := h
    rfl
  obtain ⟨sc, ns, rfl, hS, hlen, q⟩ := h
  refine ⟨_, pss_one (ps_ret (pe_lst (pa_cons
      (pe_lc (own := [("_law_cell", 1)]) (g := gName 1) (tt := tYes) rfl scDeck.nd (pi_list (pe_slice sl_list (pv 0) po_none (po_some pe_int))) (blkOk_by (own := [("_law_cell", 1)]) (N := nDeck) (sc := defScope (topS 22)) (by decide +kernel))
        (fun _ _ _ _ _ => pg_name (i := 1) scDeck.nd rfl (Or.inl rfl)) (fun _ _ _ _ _ => pts_nil) (fun _ _ _ _ _ => pe_callB call_abs (by rfl) ma (by decide +kernel) (pa_cons (pv 1) pa_nil)))
      (pa_cons pe_int pa_nil)))), ?_⟩
  refine ⟨.ref sc, rfl, 63, rfl, sc, _, rfl, hS, fun c0 nc0 => ?_⟩
  obtain ⟨ms, em, hml⟩ := cutV_ints ns none (some 63)
  rw [em]
  have hml := hml rfl rfl hlen
  have s0 : Same H (upd H c0 (.lst (ms.map V.int))) := fun b o e => by rw [upd_ne (ne_of_none e nc0)]; exact e
  generalize hH0 : upd H c0 (.lst (ms.map V.int)) = H0 at s0 ⊢
  have hc0 : H0 c0 = some (.lst (ms.map V.int)) := by rw [← hH0, upd_same]
  refine ⟨c0, rfl, ⟨_, SqL.of hc0⟩, fun D hD => ?_⟩
  have hDn : H D = none := s0.free hD
  have hDc : c0 ≠ D := ne_of_none hc0 hD
  refine lc_list (xs := ms.map V.int) (fun n H' => ∃ zs : List Int, zs.length = n ∧ (∀ b o, b ≠ D → H0 b = some o → H' b = some o) ∧ H' D = some (.lst (zs.map V.int))) ⟨[], rfl, fun b o nb e => by rw [upd_ne nb]; exact e, upd_same⟩ (fun n H' _ ⟨zs, _, kp, _⟩ => SqL.of (kp c0 _ hDc hc0)) ?_ ?_
  · rintro n v H' hv ⟨zs, hz, kp, hd⟩
    rw [List.getElem?_map] at hv
    cases hm : ms[n]? with
    | none => rw [hm] at hv; cases hv
    | some y =>
    rw [hm] at hv
    cases hv
    have hn : n < ms.length := (List.getElem?_eq_some_iff.mp hm).1
    refine ⟨rfl, .int y, rfl, y, rfl, _, hd, by rw [List.length_map, hz]; exact small1000 (by omega), zs ++ [if y < 0 then -y else y], by rw [List.length_append, hz]; rfl, fun b o nb e => by rw [upd_ne nb]; exact kp b o nb e, ?_⟩
    rw [upd_same, List.map_append]; rfl
  rintro H1 ⟨zs, hz, kp, hd⟩
  rw [List.length_map, hml] at hz
  have s1 : Same H H1 := fun b o e => kp b o (ne_of_none e hDn) (s0 b o e)
  refine ⟨(by show 2 ≤ sizeLine; decide), fun st nst => ?_⟩
  refine q _ st D (fun b o e => by rw [upd_ne (ne_of_none (s1 b o e) nst)]; exact s1 b o e) (s1.free nst) hDn ⟨zs, 0, upd_same, ?_, by omega, by omega, by omega⟩
  rw [upd_ne (ne_of_none hd nst)]; exact hd
end

abbrev nDrw : List Str := ["_law_deck_here", "_law_many", "_law_cell", "_law_place"]
theorem scDrw : FnScope nDrw ["_law_deck_here", "_law_many"] (defScope (topS 23)) := ⟨rfl, rfl, rfl, by decide +kernel, rfl, by decide +kernel, by decide +kernel⟩
def PreNext : List PyData → Prop := fun ds => ∃ m : Int, ds = [.int m] ∧ 0 < m ∧ m < 1073741824
def RNext : Rel := fun ds d => ∃ m i : Int, ds = [.int m] ∧ d = .int i ∧ 0 ≤ i ∧ i < m
theorem ints_at {ns : List Int} {i : Int} (h0 : 0 ≤ i) (h1 : i < (ns.length : Int)) : ∃ v : Int, atI (ns.map V.int) i = some (.int v) ∧ ixN (ns.map V.int).length i = some i.toNat := by
  have hl : i.toNat < ns.length := by omega
  refine ⟨ns[i.toNat], ?_, ?_⟩
  · have := atI_nat (xs := ns.map V.int) (j := i.toNat) (v := .int ns[i.toNat]) (by rw [List.getElem?_map, List.getElem?_eq_getElem hl]; rfl)
    rw [show ((i.toNat : Nat) : Int) = i by omega] at this
    exact this
  · unfold ixN
    rw [if_pos h0, if_pos (by rw [List.length_map]; exact h1)]
section
variable {P : Program} {w : World} {K : PySem.W.Frag} {mg : Str → Option Value} {base : Heap}
theorem ok_draw83 {f : Addr} {fd : FuncData} (Fn : Fun K "_law_draw" "_law_draw" (topS 23) f fd) (ml : mg "len" = none) : FnG P w K mg base 1 f fd ["_law_deck_here", "_law_many"] (spDrawQ K 1 PreNext RNext) := by
  refine FnG.of_body (k := 0) Fn scDrw (fun vs H Q E h => ?_) (fun cdv A outer s H vs Q hgd hr h => ?_)
  · obtain ⟨S, st, a, vs', ds, k, rfl, _, _, _, rr, ⟨m, rfl, _⟩, _⟩ := h
    rw [List.length_cons, rr.length]; rfl
  obtain ⟨S, st, a, vs', ds, k, rfl, ⟨cells, n, h1, h2, hlen, hn0, hnk⟩, al, hS, rr, ⟨m, rfl, hm0, hm1⟩, q⟩ := h
  cases rr with
  | cons r1 r2 =>
  cases r2
  cases r1
  refine ⟨_, pss_cons (ps_asg (pe_op op_add (pe_ix ix_list (pv 0) pe_int (fun _ _ => rfl)) pe_int) (pg_sub (pv 0) pe_int set_list))
    (pss_cons (ps_set (i := 2) scDrw.nd rfl (.inl rfl) pe_int) (pss_cons (ps_set (i := 3) scDrw.nd rfl (.inl rfl) (pe_un un_neg pe_int))
    (pss_cons (ps_if (pt_cmpR op_gt (pe_callB call_len_seq (by rfl) ml PySem.boot_len (pa_cons (pe_ix ix_list (pv 0) pe_int (fun _ _ => rfl)) pa_nil)) pe_int (nomark _))
      (pss_cons (ps_set (i := 3) scDrw.nd rfl (.inl rfl) (pe_op op_mod (pe_ix ix_list (pv 0) pe_int (fun _ _ => rfl)) (pe_callB call_len_seq (by rfl) ml PySem.boot_len (pa_cons (pe_ix ix_list (pv 0) pe_int (fun _ _ => rfl)) pa_nil))))
        (pss_one (ps_set (i := 2) scDrw.nd rfl (.inl rfl) (pe_ix ix_list (pe_ix ix_list (pv 0) pe_int (fun _ _ => rfl)) (pv 3) (fun _ _ => rfl))))) pss_nil)
    (pss_cons (ps_if (pt_cmpR op_ge (pv 2) (pe_op op_pow pe_int pe_int) (nomark _))
      (pss_cons (ps_asg (pe_op op_fdiv (pv 2) (pv 1)) (pg_sub (pe_ix ix_list (pv 0) pe_int (fun _ _ => rfl)) (pv 3) set_list))
        (pss_one (ps_ret (pe_op op_mod (pv 2) (pv 1))))) pss_nil)
    (pss_one (ps_ret (pe_op op_mod (pe_op op_mod (pe_op op_pow (pe_op op_add (pe_op op_add (pe_op op_mod (pv 2) pe_int) (pe_op op_mul pe_int (pe_ix ix_list (pv 0) pe_int (fun _ _ => rfl)))) pe_int) pe_int) pe_int) (pv 1)))))))), ?_⟩
  -- deck[1] = deck[1] + 1
  refine ⟨.ref st, rfl, st, _, 1, .int n, rfl, rfl, SqL.of h1, rfl, _, _, rfl, rfl, .ref st, rfl, st, _, 1, 1, rfl, rfl, h1, rfl, ?_⟩
  generalize hH0 : upd H st (.lst (List.set [.ref a, .int n] 1 (.int (n + 1)))) = H0
  have hst : st ≠ a := ne_of h1 h2 (fun z => by
    have z' := HO.lst.inj z
    cases cells with
    | nil => cases z'
    | cons c cs => rw [List.map_cons] at z'; injection z' with z1; cases z1)
  have f1 : H0 st = some (.lst [.ref a, .int (n + 1)]) := by rw [← hH0, upd_same]; rfl
  have f2 : H0 a = some (.lst (cells.map V.int)) := by rw [← hH0, upd_ne hst.symm]; exact h2
  have keep0 : ∀ b o, ¬ DqM st a b → H b = some o → H0 b = some o := fun b o nb e => by rw [← hH0, upd_ne (fun z => nb (.inl z))]; exact e
  refine ⟨_, rfl, ?_⟩
  have g1 := f1
  have g2 := f2
  have keep1 := keep0
  have GG : DqG st a k H0 := ⟨cells, n + 1, g1, g2, hlen, by omega, by omega⟩
  have fin : ∀ cv : Int, ((cv % 2147483587 + 7919 * (n + 1) + 1).natAbs < 2 ^ 64) := by
    intro cv
    have := Int.emod_nonneg cv (b := 2147483587) (by decide)
    have := Int.emod_lt_of_pos cv (b := 2147483587) (by decide)
    omega
  -- if len(deck[0]) > 0
  refine ⟨.ref st, rfl, st, _, 0, .ref a, rfl, rfl, SqL.of g1, rfl, a, _, rfl, .inl (SqL.of g2), _, _, rfl, rfl, _, rfl, ite2 (fun hpos => ?_) (fun _ => ?_)⟩
  · have hlc : (0 : Int) < ((cells.map V.int).length : Int) := of_decide_eq_true hpos
    refine ⟨.ref st, rfl, st, _, 1, .int (n + 1), rfl, rfl, SqL.of g1, rfl, .ref st, rfl, st, _, 0, .ref a, rfl, rfl, SqL.of g1, rfl, a, _, rfl, .inl (SqL.of g2), _, _, rfl, rfl, hlc, ?_⟩
    have i0 : 0 ≤ (n + 1) % ((cells.map V.int).length : Int) := Int.emod_nonneg _ (by omega)
    have i1 : (n + 1) % ((cells.map V.int).length : Int) < (cells.length : Int) := by rw [List.length_map] at hlc ⊢; exact Int.emod_lt_of_pos _ hlc
    dsimp only
    generalize (n + 1) % ((cells.map V.int).length : Int) = ix at i0 i1 ⊢
    obtain ⟨cv, c1, c2⟩ := ints_at i0 i1
    refine ⟨.ref st, rfl, st, _, 0, .ref a, rfl, rfl, SqL.of g1, rfl, .int ix, rfl, a, _, ix, _, rfl, rfl, SqL.of g2, c1, ?_⟩
    -- if cell >= 10 ** 18
    refine ⟨.int cv, rfl, _, _, rfl, rfl, ⟨by decide, by decide, by decide⟩, _, _, rfl, rfl, _, rfl, ite2 (fun _ => ?_) (fun _ => ?_)⟩
    · refine ⟨.int cv, rfl, .int m, rfl, _, _, rfl, rfl, ⟨hm0, hm1⟩, .ref st, rfl, st, _, 0, .ref a, rfl, rfl, SqL.of g1, rfl, .int ix, rfl, a, _, ix, _, rfl, rfl, g2, c2, ?_⟩
      refine ⟨.int cv, rfl, .int m, rfl, _, _, rfl, rfl, hm0, ?_⟩
      refine q _ (.int (cv % m)) _ (fun b o nb e => ?_) ?_ (.int _) ⟨m, _, rfl, rfl, Int.emod_nonneg _ (by omega), Int.emod_lt_of_pos _ hm0⟩
      · rw [upd_ne (fun z => nb (.inr z))]; exact keep1 b o nb e
      · have hset : (cells.map V.int).set ix.toNat (.int (cv / m)) = (cells.set ix.toNat (cv / m)).map V.int := by rw [List.map_set]
        rw [hset]
        exact ⟨cells.set ix.toNat (cv / m), n + 1, by rw [upd_ne hst]; exact g1, upd_same, by rw [List.length_set]; exact hlen, by omega, by omega⟩
    · refine ⟨.int cv, rfl, _, _, rfl, rfl, (by dsimp only; decide), .ref st, rfl, st, _, 1, .int (n + 1), rfl, rfl, SqL.of g1, rfl, _, _, rfl, rfl, .inl ⟨by decide, by decide⟩, _, _, rfl, rfl, _, _, rfl, rfl, _, _, rfl, rfl, ⟨by decide, by decide, fin cv⟩, _, _, rfl, rfl, (by dsimp only; decide), .int m, rfl, _, _, rfl, rfl, hm0, ?_⟩
      exact q _ (.int _) _ keep1 GG (.int _) ⟨m, _, rfl, rfl, Int.emod_nonneg _ (by omega), Int.emod_lt_of_pos _ hm0⟩
  · refine ⟨.int 0, rfl, _, _, rfl, rfl, ⟨by decide, by decide, by decide⟩, _, _, rfl, rfl, _, rfl, ite2 (fun z => ?_) (fun _ => ?_)⟩
    · exact absurd z (by decide)
    · refine ⟨.int 0, rfl, _, _, rfl, rfl, (by dsimp only; decide), .ref st, rfl, st, _, 1, .int (n + 1), rfl, rfl, SqL.of g1, rfl, _, _, rfl, rfl, .inl ⟨by decide, by decide⟩, _, _, rfl, rfl, _, _, rfl, rfl, _, _, rfl, rfl, ⟨by decide, by decide, fin 0⟩, _, _, rfl, rfl, (by dsimp only; decide), .int m, rfl, _, _, rfl, rfl, hm0, ?_⟩
      exact q _ (.int _) _ keep1 GG (.int _) ⟨m, _, rfl, rfl, Int.emod_nonneg _ (by omega), Int.emod_lt_of_pos _ hm0⟩
end


abbrev nClo : List Str := ["_law_deck_here", "_law_n", "_law_tops", "_law_k", "_law_card", "_law_top"]
theorem scClo : FnScope nClo ["_law_deck_here", "_law_n"] (defScope (topS 25)) := ⟨rfl, rfl, rfl, by decide +kernel, rfl, by decide +kernel, by decide +kernel⟩
def PreN : List PyData → Prop := fun ds => ∃ n : Nat, ds = [.int (n : Int)] ∧ n ≤ 6
def RCards : Rel := fun ds d => ∃ (n : Nat) (as : List Int), ds = [.int (n : Int)] ∧ as.Sublist (rg (2 ^ n)) ∧ d = .list (as.map PyData.int)
section
variable {P : Program} {w : World} {K : PySem.W.Frag} {mg : Str → Option Value} {base : Heap}
theorem ok_clo83 {f : Addr} {fd : FuncData} (Fn : Fun K "_law_closed" "_law_closed" (topS 25) f fd) (mr : mg "range" = none) (gn : DFnQ P w K mg base 1 "_law_draw" 1 PreNext RNext) : FnG P w K mg base 2 f fd ["_law_deck_here", "_law_n"] (spDrawQ K 5 PreN RCards) := by
  refine draw_okQ (k := 1) Fn scClo (fun ds ⟨m, e, _⟩ => by rw [e]; rfl) (fun F s a ds kk dk hK ⟨n, e, hn⟩ => ?_)
  subst e
  have hp := pow_le64 hn
  refine wb_cons (ws_set 2 (by walk_at "tgt") (fun env h => by cases env; cases h; rfl) (we_compR0 3 (by walk_at "blk") rfl mr (fun _ => rfl) (fun _ _ => rfl) ?_))
  repeat walk_at "dq"
  refine ⟨⟨_, rfl, by decide, by decide⟩, kk + 4, rfl, ?_⟩
  rintro d ⟨m', z, e1, rfl, z0, z1⟩
  cases e1
  repeat walk_at "dq"
  refine ⟨fun j k acc => k + j = kk + 4 ∧ ∃ as : List Int, acc = as.map PyData.int ∧ as.length = j, z, rfl, by omega, by omega, ⟨rfl, [], rfl, rfl⟩, ?_, ?_⟩
  · rintro D j k acc hj ⟨hk, as, rfl, hal⟩
    have hKD : (F.ext D).K = K := hK
    obtain ⟨k2, rfl⟩ : ∃ k2, k = k2 + 1 := ⟨k - 1, by omega⟩
    repeat walk_at "dq"
    refine ⟨⟨by omega, by omega, by decide⟩, ?_⟩
    rw [one_shl]
    repeat walk_at "dq"
    refine ⟨⟨_, rfl, by omega, by omega⟩, k2, rfl, ?_⟩
    rintro d ⟨m', v, e1, rfl, v0, v1⟩
    cases e1
    exact ⟨by omega, as ++ [v], by rw [List.map_append]; rfl, by rw [List.length_append, hal]; rfl⟩
  rintro k acc ⟨hk, tops, rfl, htl⟩
  refine wb_cons (ws_ret (we_fR (fun c => !((tops.filter fun o => decide (Builtin.bitAnd c o = c)).map PyData.int).isEmpty) PyData.int 4 (by walk_at "blk") rfl mr (fun _ => rfl) (fun _ _ => rfl) ?_))
  repeat walk_at "dq"
  refine ⟨⟨by omega, by omega, by decide⟩, ?_⟩
  rw [one_shl]
  refine ⟨_, rfl, by omega, by omega, fun D c c0 c1 => ?_, by omega, n, _, rfl, List.filter_sublist, rfl⟩
  have hKD : (F.ext D).K = K := hK
  refine wt_ne hKD (we_fL (fun o => decide (Builtin.bitAnd c o = c)) PyData.int PyData.int 5 (by walk_at "blk") hKD (fun _ _ => rfl) ?_)
  repeat walk_at "dq"
  refine ⟨tops, rfl, by omega, fun D2 o ho => ?_, ?_⟩
  · refine wt_eqI ?_
    repeat walk_at "dq"
    refine ⟨rfl, rfl, fun _ => ?_⟩
    repeat walk_at "dq"
    exact ⟨rfl, rfl⟩
  repeat walk_at "dq"
  refine ⟨shaped_intsL _, shaped_intsL [], rfl, ?_, fun _ => ?_⟩
  · exact congrArg (!·) (eqv_nilL _)
  · repeat walk_at "dq"
    exact ⟨rfl, rfl⟩
end

abbrev nSz47 : List Str := ["_law_number", "_law_found"]
theorem scSz47 : FnScope nSz47 ["_law_number"] (defScope (topS 27)) := ⟨rfl, rfl, rfl, by decide +kernel, rfl, by decide +kernel, by decide +kernel⟩
def Rsize : Rel := fun ds d => ∃ n : Nat, ds = [.int n] ∧ d = .int (bits n : Nat)
section
variable {P : Program} {w : World} {K : PySem.W.Frag} {mg : Str → Option Value} {base : Heap}
theorem ok_size {f : Addr} {fd : FuncData} (Fn : Fun K "_law_size" "_law_size" (topS 27) f fd) : FnG P w K mg base 1 f fd ["_law_number"] (spPure K Rsize) := by
  refine pure_ok (k := 0) Fn scSz47 (fun ds d ⟨n, e, _⟩ => by rw [e]; rfl) (fun F ds d hK ⟨n, e, ed⟩ => ?_)
  subst e ed
  refine wb_cons (ws_set 1 (by walk_at "tgt") (fun _ _ => rfl) (we_int ?_))
  refine wb_cons (ws_while (fun m k ρ => ∃ c : Nat, ρ = [.d (.int (m : Nat)), .d (.int (c : Nat))] ∧ c + bits m = bits n) n ⟨0, rfl, by simp⟩ ?_)
  rintro m k ρ ⟨c, rfl, hc⟩
  repeat walk_at "dl"
  refine ⟨_, _, rfl, rfl, iteD (fun hm => ?_) (fun hm => ?_)⟩
  · have hm' : 0 < m := by omega
    refine wb_cons (ws_set 1 (by walk_at "tgt") (fun _ _ => rfl) ?_)
    repeat walk_at "dl"
    refine ⟨_, _, rfl, rfl, by decide, ?_⟩
    refine ⟨_, _, rfl, rfl, ?_⟩
    refine wb_cons (ws_set 0 (by walk_at "tgt") (fun _ _ => rfl) ?_)
    repeat walk_at "dl"
    refine ⟨_, _, rfl, rfl, ⟨by decide, by decide⟩, ?_⟩
    refine wb_nil ⟨m / 2, by omega, c + m % 2, ?_, ?_⟩
    · have e1 : ((m : Nat) : Int) / 2 = ((m / 2 : Nat) : Int) := by omega
      have e2 : ((c : Nat) : Int) + ((m : Nat) : Int) % 2 = ((c + m % 2 : Nat) : Int) := by omega
      rw [← e1, ← e2]; rfl
    · rw [bits_pos hm'] at hc; omega
  · have hm' : m = 0 := by omega
    subst hm'
    repeat walk_at "dl"
    have : bits 0 = 0 := by rw [bits]; rfl
    rw [this] at hc
    show PyData.int _ = PyData.int _
    rw [← hc]; rfl
end


abbrev nCd83 : List Str := ["_law_deck_here", "_law_n", "_law_way", "_law_some", "_law_turned", "_law_share", "_law_card", "_law_most", "_law_kept"]
theorem scCd83 : FnScope nCd83 ["_law_deck_here", "_law_n"] (defScope (topS 26)) := ⟨rfl, rfl, rfl, by decide +kernel, rfl, by decide +kernel, by decide +kernel⟩
def RCd83 : Rel := fun ds d => ∃ (n : Nat) (cs : List Int), ds = [.int (n : Int)] ∧ IsBox n cs ∧ d = .list (cs.map PyData.int)
theorem sub_bx {n : Nat} {as : List Int} (h : as.Sublist (rg (2 ^ n))) : IsBox n as := ⟨rg_pairwise.sublist h, fun c hc => mem_rg.mp (h.subset hc)⟩
theorem pick3 (z : Int) (h0 : 0 ≤ z) (h1 : z < 3) : ∃ v : Int, ixD (.list [.int 4, .int 7, .int 1]) (.int z) = some (.int v) := by
  have : z = 0 ∨ z = 1 ∨ z = 2 := by omega
  rcases this with rfl | rfl | rfl
  · exact ⟨4, rfl⟩
  · exact ⟨7, rfl⟩
  · exact ⟨1, rfl⟩
section
variable {P : Program} {w : World} {K : PySem.W.Frag} {mg : Str → Option Value} {base : Heap}
theorem ok_cd83 {f : Addr} {fd : FuncData} (Fn : Fun K "_law_cards" "_law_cards" (topS 26) f fd) (mr : mg "range" = none) (mL : mg "list" = none) (ms : mg "sorted" = none) (gn : DFnQ P w K mg base 1 "_law_draw" 1 PreNext RNext) (gc : DFnQ P w K mg base 2 "_law_closed" 5 PreN RCards) (gz : PFn P w K mg base 1 "_law_size" Rsize) : FnG P w K mg base 3 f fd ["_law_deck_here", "_law_n"] (spDrawQ K 66 PreN RCd83) := by
  refine draw_okQ (k := 2) Fn scCd83 (fun ds ⟨m, e, _⟩ => by rw [e]; rfl) (fun F s a ds kk dk hK ⟨n, e, hn⟩ => ?_)
  subst e
  have hp := pow_le64 hn
  have hrl : (rg ((2 : Int) ^ n)).length ≤ 64 := by rw [rg_length]; omega
  refine wb_cons (ws_set 2 (by walk_at "tgt") (fun env h => by cases env; cases h; rfl) ?_)
  repeat walk_at "dq"
  refine ⟨⟨_, rfl, by decide, by decide⟩, kk + 65, rfl, ?_⟩
  rintro d ⟨m', wy, e1, rfl, w0, w1⟩
  cases e1
  refine wb_cons (ws_set 3 (by walk_at "tgt") (fun env h => by cases env; cases h; rfl) (we_listRg rfl mL rfl mr (fun _ => rfl) (fun _ => rfl) ?_))
  repeat walk_at "dq"
  refine ⟨⟨by omega, by omega, by decide⟩, ?_⟩
  rw [one_shl]
  refine ⟨_, rfl, ⟨by omega, by omega⟩, ?_⟩
  refine wb_cons (ws_set 4 (by walk_at "tgt") (fun env h => by cases env; cases h; rfl) ?_)
  repeat walk_at "dq"
  refine ⟨⟨by omega, by omega, by decide⟩, ?_⟩
  rw [one_shl]
  repeat walk_at "dq"
  refine ⟨⟨_, rfl, by omega, by omega⟩, kk + 64, rfl, ?_⟩
  rintro d ⟨m', fl, e1, rfl, f0, f1⟩
  cases e1
  refine wb_cons (ws_if (wt_lt ?_))
  repeat walk_at "dq"
  refine iteD (fun hw3 => ?_) (fun hw3 => ?_)
  · refine wb_cons (ws_set 5 (by walk_at "tgt") (fun env h => by cases env; cases h; rfl) ?_)
    repeat walk_at "dq"
    obtain ⟨ch, hix⟩ := pick3 wy w0 (by omega)
    refine ⟨_, hix, ?_⟩
    refine wb_cons (ws_ret (we_compL1 6 (by walk_at "blk") hK (fun _ _ => rfl) ?_))
    repeat walk_at "dq"
    refine ⟨fun j k acc => k + j = kk + 64 ∧ ∃ as : List Int, acc = as.map PyData.int ∧ as.Sublist ((rg ((2 : Int) ^ n)).take j), _, rfl, by rw [List.length_map]; omega, ⟨rfl, [], rfl, by simp⟩, ?_, ?_⟩
    · rintro D j y k acc hy ⟨hk', as, rfl, hsub⟩
      rw [List.getElem?_map, Option.map_eq_some_iff] at hy
      obtain ⟨c, hc, rfl⟩ := hy
      have hj : j < 64 := Nat.lt_of_lt_of_le (List.getElem?_eq_some_iff.mp hc).1 hrl
      have tn := take_next hc
      have hKD : (F.ext D).K = K := hK
      obtain ⟨k2, rfl⟩ : ∃ k2, k = k2 + 1 := ⟨k - 1, by omega⟩
      refine wt_lt ?_
      repeat walk_at "dq"
      refine ⟨⟨_, rfl, by omega, by omega⟩, k2, rfl, ?_⟩
      rintro d ⟨m', v, e1, rfl, v0, v1⟩
      repeat walk_at "dq"
      refine iteD (fun _ => ?_) (fun _ => ?_)
      · repeat walk_at "dq"
        exact ⟨by omega, as ++ [c], by rw [List.map_append]; rfl, by rw [tn]; exact hsub.append (List.Sublist.refl _)⟩
      · exact ⟨by omega, as, rfl, by rw [tn]; exact hsub.trans (List.sublist_append_left _ _)⟩
    · rintro k acc ⟨hk', as, rfl, hsub⟩
      rw [List.length_map] at hk' hsub
      rw [List.take_length] at hsub
      exact ⟨by omega, n, as, rfl, sub_bx hsub, rfl⟩
  refine wb_nil (wb_cons (ws_if (wt_eqI ?_)))
  repeat walk_at "dq"
  refine iteD (fun _ => ?_) (fun _ => ?_)
  · refine wb_cons (ws_ret (we_sorted hK rfl ms (fun _ => rfl) (we_mL PyData.int (fun c : Int => .int (Builtin.bitXor c fl)) 6 (by walk_at "blk") hK (fun _ _ => rfl) ?_)))
    repeat walk_at "dq"
    refine ⟨⟨n, rfl, hn⟩, kk + 59, rfl, ?_⟩
    rintro d ⟨n', as, e1, hs, rfl⟩
    have : n' = n := by
      have := PyData.int.inj (List.cons.inj e1).1
      omega
    subst this
    have hal := Nat.le_trans hs.length_le hrl
    refine ⟨as, rfl, by omega, fun D c hc => ?_, ?_⟩
    · repeat walk_at "dq"
      exact ⟨rfl, rfl⟩
    exact ⟨as.map fun c : Int => Builtin.bitXor c fl, by rw [List.map_map]; rfl, fun ms' hperm hw => ⟨by omega, n', ms', rfl, (xor_good hn f0 f1 hs).sorted hperm hw, rfl⟩⟩
  refine wb_nil (wb_cons (ws_if (wt_eqI ?_)))
  repeat walk_at "dq"
  refine iteD (fun _ => ?_) (fun _ => ?_)
  · refine wb_cons (ws_set 7 (by walk_at "tgt") (fun env h => by cases env; cases h; rfl) ?_)
    repeat walk_at "dq"
    refine ⟨⟨_, rfl, by omega, by omega⟩, kk + 63, rfl, ?_⟩
    rintro d ⟨m', mo, e1, rfl, o0, o1⟩
    cases e1
    refine wb_cons (ws_ret (we_sorted hK rfl ms (fun _ => rfl) (we_fL (fun c => decide (((bits c.toNat : Nat) : Int) ≤ mo)) PyData.int (fun c : Int => .int (Builtin.bitXor c fl)) 6 (by walk_at "blk") hK (fun _ _ => rfl) ?_)))
    walk_at "name"
    refine ⟨rg ((2 : Int) ^ n), rfl, by omega, fun D c hc => ?_, ?_⟩
    · have hKD : (F.ext D).K = K := hK
      have hcr := mem_rg.mp hc
      refine wt_le ?_
      repeat walk_at "dq"
      refine ⟨_, ⟨c.toNat, by rw [show ((c.toNat : Nat) : Int) = c by omega], rfl⟩, ?_⟩
      repeat walk_at "dq"
      refine ⟨rfl, rfl, fun _ => ?_⟩
      repeat walk_at "dq"
      exact ⟨rfl, rfl⟩
    exact ⟨((rg ((2 : Int) ^ n)).filter fun c => decide (((bits c.toNat : Nat) : Int) ≤ mo)).map fun c : Int => Builtin.bitXor c fl, by rw [List.map_map]; rfl, fun ms' hperm hw => ⟨by omega, n, ms', rfl, (xor_good hn f0 f1 List.filter_sublist).sorted hperm hw, rfl⟩⟩
  refine wb_nil (wb_cons (ws_if (wt_eqI ?_)))
  repeat walk_at "dq"
  refine iteD (fun _ => ?_) (fun _ => ?_)
  · refine wb_cons (ws_set 8 (by walk_at "tgt") (fun env h => by cases env; cases h; rfl) ?_)
    repeat walk_at "dq"
    refine ⟨⟨by omega, by omega, by decide⟩, ?_⟩
    rw [one_shl]
    repeat walk_at "dq"
    refine ⟨⟨_, rfl, by omega, by omega⟩, kk + 63, rfl, ?_⟩
    rintro d ⟨m', kp, e1, rfl, o0, o1⟩
    cases e1
    refine wb_cons (ws_ret (we_fL (fun c => decide (Builtin.bitAnd c kp = Builtin.bitAnd fl kp)) PyData.int PyData.int 6 (by walk_at "blk") hK (fun _ _ => rfl) ?_))
    walk_at "name"
    refine ⟨rg ((2 : Int) ^ n), rfl, by omega, fun D c hc => ?_, by omega, n, _, rfl, sub_bx List.filter_sublist, rfl⟩
    refine wt_eqI ?_
    repeat walk_at "dq"
    refine ⟨rfl, rfl, fun _ => ?_⟩
    repeat walk_at "dq"
    exact ⟨rfl, rfl⟩
  refine wb_nil (wb_cons (ws_ret (we_fL (fun c => !decide (c = fl) && !decide (c = 2 ^ n - 1 - fl)) PyData.int PyData.int 6 (by walk_at "blk") hK (fun _ _ => rfl) ?_)))
  walk_at "name"
  refine ⟨rg ((2 : Int) ^ n), rfl, by omega, fun D c hc => ?_, by omega, n, _, rfl, sub_bx List.filter_sublist, rfl⟩
  refine wt_and2 (p := !decide (c = fl)) (q := !decide (c = 2 ^ n - 1 - fl)) (wt_neI ?_) (fun _ => wt_neI ?_) ?_
  · repeat walk_at "dq"
    exact ⟨rfl, rfl⟩
  · repeat walk_at "dq"
    refine ⟨⟨by omega, by omega, by decide⟩, ?_⟩
    rw [one_shl]
    repeat walk_at "dq"
    exact ⟨rfl, rfl⟩
  refine ⟨rfl, rfl, fun _ => ?_⟩
  repeat walk_at "dq"
  exact ⟨rfl, rfl⟩
end


abbrev nBx : List Str := ["_law_deck_here", "_law_most", "_law_n"]
theorem scBx : FnScope nBx ["_law_deck_here", "_law_most"] (defScope (topS 28)) := ⟨rfl, rfl, rfl, by decide +kernel, rfl, by decide +kernel, by decide +kernel⟩
def PreMo : List PyData → Prop := fun ds => ∃ m : Nat, ds = [.int (m : Int)] ∧ m ≤ 6
def RBx : Rel := fun ds d => ∃ (m n : Nat) (cs : List Int), ds = [.int (m : Int)] ∧ n ≤ m ∧ m ≤ 6 ∧ IsBox n cs ∧ d = boxD n cs
theorem RBx.one {m : Nat} {d : PyData} (h : RBx [.int (m : Int)] d) : ∃ (n : Nat) (cs : List Int), n ≤ m ∧ m ≤ 6 ∧ IsBox n cs ∧ d = boxD n cs := by
  obtain ⟨m', n, cs, e, h1, h2, h3, h4⟩ := h
  have : m' = m := by
    have := PyData.int.inj (List.cons.inj e).1
    omega
  subst this
  exact ⟨n, cs, h1, h2, h3, h4⟩
section
variable {P : Program} {w : World} {K : PySem.W.Frag} {mg : Str → Option Value} {base : Heap}
theorem ok_bx {f : Addr} {fd : FuncData} (Fn : Fun K "_law_box" "_law_box" (topS 28) f fd) (mt : mg "tuple" = none) (gn : DFnQ P w K mg base 1 "_law_draw" 1 PreNext RNext) (gc : DFnQ P w K mg base 3 "_law_cards" 66 PreN RCd83) : FnG P w K mg base 4 f fd ["_law_deck_here", "_law_most"] (spDrawQ K 67 PreMo RBx) := by
  refine draw_okQ (k := 3) Fn scBx (fun ds ⟨m, e, _⟩ => by rw [e]; rfl) (fun F s a ds kk dk hK ⟨m, e, hm⟩ => ?_)
  subst e
  refine wb_cons (ws_set 2 (by walk_at "tgt") (fun env h => by cases env; cases h; rfl) ?_)
  repeat walk_at "dq"
  refine ⟨⟨_, rfl, by omega, by omega⟩, kk + 66, rfl, ?_⟩
  rintro d ⟨m', v, e1, rfl, v0, v1⟩
  cases e1
  obtain ⟨n, rfl⟩ : ∃ n : Nat, v = (n : Int) := ⟨v.toNat, by omega⟩
  refine wb_cons (ws_ret (we_tup (wa_cons (fun _ => rfl) ?_)))
  walk_at "name"
  refine wa_cons (fun _ => rfl) (we_tuple hK rfl mt (fun _ => rfl) ?_)
  repeat walk_at "dq"
  refine ⟨⟨n, rfl, by omega⟩, kk, rfl, ?_⟩
  rintro d ⟨n', cs, e1, hb, rfl⟩
  have : n' = n := by
    have := PyData.int.inj (List.cons.inj e1).1
    omega
  subst this
  exact ⟨_, rfl, wa_nil ⟨by show 2 ≤ _; decide, by omega, m, n', cs, rfl, by omega, hm, hb, rfl⟩⟩
end

/-- the set image of a list of cards, as a box of m switches -/
def imgL (m : Nat) (g : Int → Int) (cs : List Int) : List Int := (rg (2 ^ m)).filter fun z => cs.any fun c => decide (g c = z)
theorem img_box (m : Nat) (g : Int → Int) (cs : List Int) : IsBox m (imgL m g cs) := ⟨rg_pairwise.filter _, fun c hc => mem_rg.mp (List.mem_filter.mp hc).1⟩
theorem mem_img {m : Nat} {g : Int → Int} {cs : List Int} (hr : ∀ c ∈ cs, 0 ≤ g c ∧ g c < 2 ^ m) (z : Int) : z ∈ imgL m g cs ↔ ∃ c ∈ cs, g c = z := by
  unfold imgL
  rw [List.mem_filter, List.any_eq_true, mem_rg]
  constructor
  · rintro ⟨_, c, hc, e⟩
    exact ⟨c, hc, of_decide_eq_true e⟩
  · rintro ⟨c, hc, rfl⟩
    exact ⟨hr c hc, c, hc, decide_eq_true rfl⟩
theorem img_uniq {m : Nat} {g : Int → Int} {cs ms : List Int} (hr : ∀ c ∈ cs, 0 ≤ g c ∧ g c < 2 ^ m) (hw : ms.Pairwise (· < ·)) (hm : ∀ z, z ∈ ms ↔ z ∈ cs.map g) : ms = imgL m g cs :=
  uniqI hw (img_box m g cs).asc fun z => by rw [hm, mem_img hr, List.mem_map]
theorem img_perm {m : Nat} {g : Int → Int} {cs ms : List Int} (hg : GoodC m (cs.map g)) (hp : ms.Perm (cs.map g)) (hw : ms.Pairwise (· ≤ ·)) : ms = imgL m g cs :=
  img_uniq (fun c hc => hg.rng _ (List.mem_map_of_mem hc)) (hg.sorted hp hw).asc fun z => hp.mem_iff
theorem box_sub {n : Nat} {cs : List Int} (hb : IsBox n cs) : cs.Sublist (rg (2 ^ n)) := by
  have : (rg (2 ^ n)).filter (fun c => decide (c ∈ cs)) = cs :=
    uniqI (rg_pairwise.filter _) hb.asc fun a => by
      rw [List.mem_filter, decide_eq_true_eq, mem_rg]
      exact ⟨fun h => h.2, fun h => ⟨hb.rng a h, h⟩⟩
  exact this ▸ List.filter_sublist
def bitB (s k : Int) : Bool := decide (Builtin.bitAnd (s / 2 ^ k.toNat) 1 = 1)
def woI (c k : Int) : Int := c / 2 ^ (k + 1).toNat * 2 ^ k.toNat + Builtin.bitAnd c (1 * 2 ^ k.toNat - 1)
def bitN (c k : Nat) : Bool := decide (c / 2 ^ k % 2 = 1)
def woN (c k : Nat) : Nat := c / 2 ^ (k + 1) * 2 ^ k + c % 2 ^ k
def widN (m k : Nat) : Nat := m % 2 ^ k + m / 2 ^ k * 2 * 2 ^ k
theorem cast2 (k : Nat) : (2 : Int) ^ k = ((2 ^ k : Nat) : Int) := by rw [Int.natCast_pow]; rfl
theorem band1 (c : Nat) : Builtin.bitAnd (c : Int) 1 = ((c % 2 : Nat) : Int) := by
  have := band_nat c 1
  rw [Nat.and_one_is_mod] at this
  exact this
theorem bit_nat (c k : Nat) : bitB (c : Int) (k : Int) = bitN c k := by
  unfold bitB bitN
  rw [Int.toNat_natCast, cast2, ← Int.natCast_ediv, band1]
  exact decide_eq_decide.mpr (by omega)
theorem to_nat {n : Nat} {c : Int} (hc : 0 ≤ c ∧ c < 2 ^ n) : ∃ m : Nat, c = (m : Int) ∧ m < 2 ^ n := by
  rw [cast2] at hc
  exact ⟨c.toNat, by omega, by omega⟩
theorem lt64 {n m : Nat} (hn : n ≤ 6) (h : m < 2 ^ n) : m < 64 := Nat.lt_of_lt_of_le h (Nat.pow_le_pow_right (by decide) hn)
def dropL (n : Nat) (cs : List Int) (k : Nat) : List Int := imgL (n - 1) (fun c => woI c k) cs
def holdL (n : Nat) (cs : List Int) (k : Nat) (on : Bool) : List Int := imgL (n - 1) (fun c => woI c k) (cs.filter fun c => bitB c k == on)
def edgeL (n : Nat) (cs : List Int) (k : Nat) : List Int := (holdL n cs k false).filter fun c => decide (c ∈ holdL n cs k true)
def digL (n : Nat) (c : Int) : List Int := (rg (n : Int)).map fun i => Builtin.bitAnd (c / 2 ^ i.toNat) 1
def numL (xs : List Int) : Int := (xs.mapIdx fun i x => x * 2 ^ i).sum
def digN (n c : Nat) : List Nat := (List.range n).map fun i => c / 2 ^ i % 2
def numN : List Nat → Nat
  | [] => 0
  | x :: xs => x + 2 * numN xs
theorem xor_rng {n : Nat} (hn : n ≤ 6) {c f : Int} (hc : 0 ≤ c ∧ c < 2 ^ n) (hf : 0 ≤ f ∧ f < 2 ^ n) : 0 ≤ Builtin.bitXor c f ∧ Builtin.bitXor c f < 2 ^ n := by
  have hp := pow_le64 hn
  have h1 : ((2 ^ n : Nat) : Int) = (2 : Int) ^ n := by rw [Int.natCast_pow]; rfl
  obtain ⟨c, rfl⟩ : ∃ m : Nat, c = (m : Int) := ⟨c.toNat, by omega⟩
  obtain ⟨f, rfl⟩ : ∃ m : Nat, f = (m : Int) := ⟨f.toNat, by omega⟩
  rw [bxor_nat (by omega) (by omega)]
  have : c ^^^ f < 2 ^ n := Nat.xor_lt_two_pow (by omega) (by omega)
  omega
def flipL (n : Nat) (cs : List Int) (f : Int) : List Int := imgL n (fun c => Builtin.bitXor c f) cs
theorem flip_box (n : Nat) (cs : List Int) (f : Int) : IsBox n (flipL n cs f) := img_box _ _ _
theorem flip_rng {n : Nat} {cs : List Int} {f : Int} (hn : n ≤ 6) (hb : IsBox n cs) (hf : 0 ≤ f ∧ f < 2 ^ n) : ∀ c ∈ cs, 0 ≤ Builtin.bitXor c f ∧ Builtin.bitXor c f < 2 ^ n := fun c hc => xor_rng hn (hb.rng c hc) hf
theorem mem_flip {n : Nat} {cs : List Int} {f : Int} (hn : n ≤ 6) (hb : IsBox n cs) (hf : 0 ≤ f ∧ f < 2 ^ n) (z : Int) : z ∈ flipL n cs f ↔ ∃ c ∈ cs, Builtin.bitXor c f = z := mem_img (flip_rng hn hb hf) z
def Ld (m : Nat) (d : PyData) : Prop := d.canLay0 = true ∧ d.depth ≤ m
theorem Ld.mono {m m' : Nat} {d : PyData} (h : Ld m d) (hm : m ≤ m') : Ld m' d := ⟨h.1, Nat.le_trans h.2 hm⟩
theorem Ld.shaped {m : Nat} {d : PyData} (h : Ld m d) (hm : m ≤ 64) : SeqAt.shaped d = true := by
  unfold SeqAt.shaped
  rw [h.1, decide_eq_true (Nat.le_trans h.2 hm)]; rfl
theorem lay_all {m : Nat} : ∀ {ds : List PyData}, (∀ d ∈ ds, Ld m d) → PyData.canLayAll0 ds = true ∧ PyData.depthAll ds ≤ m
  | [], _ => ⟨by simp [PyData.canLayAll0], by simp [PyData.depthAll]⟩
  | d :: ds, h => by
    obtain ⟨h1, h2⟩ := lay_all (ds := ds) fun x hx => h x (List.mem_cons_of_mem _ hx)
    obtain ⟨h3, h4⟩ := h d List.mem_cons_self
    exact ⟨by simp [PyData.canLayAll0, h1, h3], by simp only [PyData.depthAll]; omega⟩
theorem Ld.list {m : Nat} {ds : List PyData} (h : ∀ d ∈ ds, Ld m d) : Ld (m + 1) (.list ds) := by
  obtain ⟨h1, h2⟩ := lay_all h
  exact ⟨by simp only [PyData.canLay0, h1], by simp only [PyData.depth]; omega⟩
theorem Ld.tuple {m : Nat} {ds : List PyData} (h : ∀ d ∈ ds, Ld m d) : Ld (m + 1) (.tuple ds) := by
  obtain ⟨h1, h2⟩ := lay_all h
  exact ⟨by simp only [PyData.canLay0, h1], by simp only [PyData.depth]; omega⟩
theorem Ld.int (i : Int) : Ld 0 (.int i) := ⟨rfl, Nat.le_refl _⟩
theorem Ld.bool (i : Bool) : Ld 0 (.bool i) := ⟨rfl, Nat.le_refl _⟩
theorem Ld.ints (xs : List Int) : Ld 1 (.list (xs.map PyData.int)) := .list fun d hd => by
  obtain ⟨i, _, rfl⟩ := List.mem_map.mp hd
  exact .int i
theorem Ld.intsT (xs : List Int) : Ld 1 (.tuple (xs.map PyData.int)) := .tuple fun d hd => by
  obtain ⟨i, _, rfl⟩ := List.mem_map.mp hd
  exact .int i
theorem Ld.box (n : Nat) (cs : List Int) : Ld 2 (boxD n cs) := .tuple fun d hd => by
  rcases List.mem_cons.mp hd with rfl | hd
  · exact (Ld.int _).mono (by decide)
  · rw [List.mem_singleton.mp hd]; exact .intsT cs
def mS (i j : Nat) : Stmt := match topS i with
  | .ClassDef _ _ _ body _ _ _ _ _ _ _ => body.getD j (.Pass ⟨0, 0, 0, 0⟩)
  | s => s

abbrev nHsw : List Str := ["switches", "switch"]
theorem scHsw : FnScope nHsw ["switches", "switch"] (defScope (topS 2)) := ⟨rfl, rfl, rfl, by decide +kernel, rfl, by decide +kernel, by decide +kernel⟩
def Rhsw : Rel := fun ds d => ∃ s k : Int, ds = [.int s, .int k] ∧ 0 ≤ k ∧ d = .bool (bitB s k)
section
variable {P : Program} {w : World} {K : PySem.W.Frag} {mg : Str → Option Value} {base : Heap}
theorem ok_hsw {f : Addr} {fd : FuncData} (Fn : Fun K "has_switch" "has_switch" (topS 2) f fd) : FnG P w K mg base 1 f fd ["switches", "switch"] (spPure K Rhsw) := by
  refine pure_ok (k := 0) Fn scHsw (fun ds d ⟨s, k, e, _⟩ => by rw [e]; rfl) (fun F ds d hK ⟨s, k, e, hk, ed⟩ => ?_)
  subst e ed
  refine wb_cons (ws_ret (we_eqI ?_))
  repeat walk_at "dx"
  refine ⟨hk, ?_⟩
  repeat walk_at "dx"
  rfl
end

/-! ### texts of cards and boxes -/
open TL
def dgT (b : Bool) : Str := if b = true then "1" else "0"
def tx (n c : Nat) : Str := if n = 0 then "-" else Txt.join "" ((List.range n).map fun k => dgT (bitN c k))
def cardsT (n : Nat) (cs : List Int) : Str := if cs = [] then "none" else Txt.join " " (cs.map fun c => tx n c.toNat)
def boxT (n : Nat) (cs : List Int) : Str := (Str.empty ++ ((toString (n : Int) : String) : Str) ++ ": ") ++ cardsT n cs
def txW (n : Nat) : Nat := if n = 0 then 1 else n
theorem tx_facts : ∀ n ≤ 6, ∀ c < 2 ^ n, (tl (tx n c)).length = txW n ∧ (tl (tx n c)).head? ≠ some 110 ∧ PyData.strOk (tx n c) = true ∧ (tx n c).length ≤ 6 := by decide +kernel
theorem tx_nodup : ∀ n ≤ 6, ((List.range (2 ^ n)).map (tx n)).Nodup := by decide +kernel
theorem tx_inj {n a b : Nat} (hn : n ≤ 6) (ha : a < 2 ^ n) (hb : b < 2 ^ n) (h : tx n a = tx n b) : a = b := by
  have nd := tx_nodup n hn
  have la : a < ((List.range (2 ^ n)).map (tx n)).length := by simpa using ha
  have lb : b < ((List.range (2 ^ n)).map (tx n)).length := by simpa using hb
  refine (List.getElem_inj nd (i := a) (j := b) (h₀ := la) (h₁ := lb)).mp ?_
  simp only [List.getElem_map, List.getElem_range]
  exact h
theorem tl_cards {n : Nat} {cs : List Int} (h : cs ≠ []) : tl (cardsT n cs) = joinL [32] (cs.map fun c => tl (tx n c.toNat)) := by
  unfold cardsT
  rw [if_neg h, join_eq, tl_join, List.map_map]
  rfl
theorem itP {p : Bool} {A B : Prop} (h : p = true) (x : A) : if p = true then A else B := by rw [if_pos h]; exact x
theorem itN {p : Bool} {A B : Prop} (h : p = false) (x : B) : if p = true then A else B := by rw [if_neg (by rw [h]; decide)]; exact x

open TL
abbrev nCt : List Str := ["n", "card", "switch"]
theorem scCt : FnScope nCt ["n", "card"] (defScope (topS 8)) := ⟨rfl, rfl, rfl, by decide +kernel, rfl, by decide +kernel, by decide +kernel⟩
def RctP : Rel := fun ds d => ∃ (n : Nat) (c : Int), ds = [.int (n : Int), .int c] ∧ n ≤ 6 ∧ (0 ≤ c ∧ c < 2 ^ n) ∧ d = .str (tx n c.toNat)
theorem dg_sum (n c : Nat) (hn : n ≤ 6) : (((List.range n).map fun k => dgT (bitN c k)).map (·.length)).sum ≤ 6 := by
  have h : ∀ m : Nat, (((List.range m).map fun k => dgT (bitN c k)).map (·.length)).sum = m := by
    intro m
    induction m with
    | zero => rfl
    | succ m ih =>
      rw [List.range_succ, List.map_append, List.map_append, List.sum_append, ih]
      have : (dgT (bitN c m)).length = 1 := by cases bitN c m <;> decide +kernel
      show m + ((dgT (bitN c m)).length + 0) = m + 1
      rw [this]
  rw [h]; exact hn
theorem dg_list {n : Nat} {c : Nat} : ((rg (n : Int)).map fun k => PyData.str (dgT (bitB (c : Int) k))) = ((List.range n).map fun k => dgT (bitN c k)).map PyData.str := by
  rw [List.map_map]
  unfold rg
  rw [Int.toNat_natCast, List.map_map]
  refine List.map_congr_left fun k _ => ?_
  show PyData.str (dgT (bitB (c : Int) ((k : Nat) : Int))) = PyData.str (dgT (bitN c k))
  rw [bit_nat]
section
variable {P : Program} {w : World} {K : PySem.W.Frag} {mg : Str → Option Value} {base : Heap}
theorem ok_ct {f : Addr} {fd : FuncData} (Fn : Fun K "card_text" "card_text" (topS 8) f fd) (mr : mg "range" = none) (gh : PFn P w K mg base 1 "has_switch" Rhsw) : FnG P w K mg base 2 f fd ["n", "card"] (spPure K RctP) := by
  refine pure_ok (k := 1) Fn scCt (fun ds d ⟨_, _, e, _⟩ => by rw [e]; rfl) (fun F ds d hK ⟨n, c, e, hn, hc, ed⟩ => ?_)
  subst e ed
  obtain ⟨c, rfl⟩ : ∃ m : Nat, c = (m : Int) := ⟨c.toNat, by omega⟩
  rw [Int.toNat_natCast]
  refine wb_cons (ws_if (wt_eqI ?_))
  walk_at "name"
  refine we_int ⟨_, _, rfl, rfl, ?_⟩
  by_cases h0 : n = 0
  · subst h0
    exact itP rfl (wb_cons (ws_ret (we_str rfl)))
  · refine itN (decide_eq_false (by omega)) (wb_nil (wb_cons (ws_ret (we_joinS (fun _ => rfl) rfl (fun _ => rfl) hK (we_mR (fun k => PyData.str (dgT (bitB (c : Int) k))) 2 (by walk_at "blk") rfl mr (fun _ => rfl) (fun _ _ => rfl) ?_)))))
    walk_at "name"
    refine ⟨_, rfl, by omega, by omega, fun D k k0 k1 => ?_, ?_⟩
    · have hKD : (F.ext D).K = K := hK
      refine we_ifExp (wt_val (fun _ _ => rfl) (we_callP gh (by show 1 ≤ 1; decide) hKD rfl (wa_cons (fun _ => rfl) ?_)))
      walk_at "name"
      refine wa_cons (fun _ => rfl) ?_
      walk_at "name"
      refine wa_nil ⟨_, ⟨_, _, rfl, k0, rfl⟩, _, rfl, ?_⟩
      cases bitB (c : Int) k with
      | true => exact itP rfl (we_str ⟨rfl, rfl⟩)
      | false => exact itN rfl (we_str ⟨rfl, rfl⟩)
    refine ⟨(List.range n).map fun k => dgT (bitN c k), ?_, ?_, ?_⟩
    · rw [dg_list]; rfl
    · have := dg_sum n c hn
      rw [show ((Str.ofString "").length) = 0 from rfl, Nat.mul_zero]
      omega
    · show PyData.str _ = PyData.str (tx n c)
      unfold tx
      rw [if_neg h0]
end

open TL
/-! ### texts read: what a text of a box says -/
def txs (n : Nat) : List Str := (List.range (2 ^ n)).map (tx n)
def hdT (m : Nat) : Str := Str.empty ++ ((toString ((m : Nat) : Int) : String) : Str) ++ ":"
def hds : List Str := (List.range 7).map hdT
def optI (o : Option Nat) : PyData := match o with | none => .none | some j => .int (j : Int)
inductive PrT where
  | bad (i : Option Nat)
  | box (n : Nat) (cs : List Int)
def PrT.dat : PrT → PyData
  | .bad i => .tuple [.str "BadText", optI i]
  | .box n cs => boxD n cs
def PrT.out (T : Addr) : PrT → Out
  | .bad i => .ex T (some ("index", optI i))
  | .box n cs => .ok (boxD n cs)
/-- the cards read from the words, the first of them has the number i -/
def prcL (n : Nat) : List Str → Nat → List Int → Nat ⊕ List Int
  | [], _, acc => .inr acc
  | w :: ws, i, acc => match placeD w (txs n) with
    | none => .inl i
    | some c => if acc ≠ [] ∧ (c : Int) ≤ acc.getLastD 0 then .inl i else prcL n ws (i + 1) (acc ++ [(c : Int)])
def pcs (n : Nat) (ws : List Str) : Nat ⊕ List Int := if ws.head? = some ("none" : Str) then (if 1 < ws.length then .inl 2 else .inr []) else prcL n ws 1 []
def outS (T : Addr) : Nat ⊕ List Int → Out
  | .inl i => .ex T (some ("index", .int (i : Int)))
  | .inr cs => .ok (.tuple (cs.map PyData.int))
def prcT (n : Nat) (ws : List Str) : PrT := match pcs n ws with | .inl i => .bad (some i) | .inr cs => .box n cs
def prsT (t : Str) : PrT :=
  match placeD ((Txt.split t " ").headD Str.empty) hds with
  | none => .bad (some 0)
  | some n => if (Txt.split t " ").length = 1 then .bad (some 1) else prcT n (Txt.split t " ").tail
def prsD : PyData → PrT
  | .str t => prsT t
  | _ => .bad none
theorem txs_len (n : Nat) : (txs n).length = 2 ^ n := by unfold txs; rw [List.length_map, List.length_range]
theorem txs_rg (n : Nat) : (rg (2 ^ n)).map (fun c : Int => PyData.str (tx n c.toNat)) = (txs n).map PyData.str := by
  have e2 : ((2 : Int) ^ n).toNat = 2 ^ n := by
    have : ((2 ^ n : Nat) : Int) = (2 : Int) ^ n := by rw [Int.natCast_pow]; rfl
    rw [← this, Int.toNat_natCast]
  unfold rg txs
  rw [e2, List.map_map, List.map_map]
  refine List.map_congr_left fun k _ => ?_
  show PyData.str (tx n ((k : Nat) : Int).toNat) = PyData.str (tx n k)
  rw [Int.toNat_natCast]
theorem place_lt {w : Str} {ts : List Str} {j : Nat} (h : placeD w ts = some j) : j < ts.length := (List.getElem?_eq_some_iff.mp (place_some h).1).1
/-! the words of a text -/
theorem sp_tl : tl (" " : Str) = [32] := by decide +kernel
theorem words_tl (t : Str) : (Txt.split t " ").map tl = spl [32] 0 [] (tl t) := by
  rw [split_spl t " " (by rw [sp_tl]; exact List.cons_ne_nil _ _) (kind_ok (by decide +kernel)), sp_tl]
theorem spl_ne : ∀ (l acc : List Nat), spl [32] 0 acc l ≠ []
  | [], acc => by rw [spl_nil]; exact List.cons_ne_nil _ _
  | c :: r, acc => by
    cases h : pre [32] (c :: r) with
    | true => rw [spl_hit h]; exact List.cons_ne_nil _ _
    | false => rw [spl_miss h]; exact spl_ne r _
theorem spl_sub : ∀ (l acc : List Nat), ∀ w ∈ spl [32] 0 acc l, ∀ c ∈ w, c ∈ acc ∨ c ∈ l
  | [], acc, w, hw, c, hc => by
    rw [spl_nil, List.mem_singleton] at hw
    subst hw
    exact .inl hc
  | x :: r, acc, w, hw, c, hc => by
    cases h : pre [32] (x :: r) with
    | true =>
      rw [spl_hit h] at hw
      rcases List.mem_cons.mp hw with rfl | hw
      · exact .inl hc
      · rcases spl_sub r [] w hw c hc with z | z
        · exact nomatch z
        · exact .inr (List.mem_cons_of_mem _ z)
    | false =>
      rw [spl_miss h] at hw
      rcases spl_sub r _ w hw c hc with z | z
      · rcases List.mem_append.mp z with z | z
        · exact .inl z
        · rw [List.mem_singleton.mp z]; exact .inr List.mem_cons_self
      · exact .inr (List.mem_cons_of_mem _ z)
/-- all words' lengths, and how many words -/
theorem spl_sum : ∀ (l acc : List Nat), ((spl [32] 0 acc l).map (·.length)).sum + (spl [32] 0 acc l).length = acc.length + l.length + 1
  | [], acc => by rw [spl_nil]; simp
  | x :: r, acc => by
    cases h : pre [32] (x :: r) with
    | true =>
      have ih := spl_sum r []
      rw [spl_hit h, show ([32] : List Nat).length - 1 = 0 from rfl]
      simp only [List.map_cons, List.sum_cons, List.length_cons, List.length_nil] at ih ⊢
      omega
    | false =>
      have ih := spl_sum r (acc ++ [x])
      rw [spl_miss h]
      simp only [List.length_append, List.length_cons, List.length_nil] at ih ⊢
      omega
/-- plain texts: every sign below 128 -/
def AS (t : Str) : Prop := ∀ c ∈ tl t, c < 128
instance (t : Str) : Decidable (AS t) := by unfold AS; infer_instance
theorem AS.ok {t : Str} (h : AS t) : PyData.strOk t = true := by
  unfold PyData.strOk
  rw [← Array.all_toList, List.all_eq_true]
  intro c hc
  have := h c hc
  exact decide_eq_true (by omega)
theorem AS.app {a b : Str} (ha : AS a) (hb : AS b) : AS (a ++ b) := fun c hc => by
  rw [tl_append] at hc
  exact (List.mem_append.mp hc).elim (ha c) (hb c)
theorem AS.word {t w : Str} (h : AS t) (hw : w ∈ Txt.split t " ") : AS w := fun c hc => by
  have : tl w ∈ spl [32] 0 [] (tl t) := words_tl t ▸ List.mem_map.mpr ⟨w, hw, rfl⟩
  rcases spl_sub _ _ _ this c hc with z | z
  · exact nomatch z
  · exact h c z
theorem words_ne (t : Str) : Txt.split t " " ≠ [] := fun z => by
  have := words_tl t
  rw [z] at this
  exact spl_ne _ _ this.symm
theorem words_sum (t : Str) : ((Txt.split t " ").map (·.length)).sum + (Txt.split t " ").length = t.length + 1 := by
  have h := spl_sum (tl t) []
  rw [← words_tl, List.map_map, List.length_map] at h
  have e : (Txt.split t " ").map (List.length ∘ tl) = (Txt.split t " ").map (·.length) := List.map_congr_left fun x _ => (len_tl x).symm
  rw [e, ← len_tl] at h
  simpa using h
theorem words_len (t : Str) : (Txt.split t " ").length ≤ t.length + 1 := by have := words_sum t; omega
theorem prcL_nil {n i : Nat} {acc : List Int} : prcL n [] i acc = .inr acc := rfl
theorem prcL_none {n i : Nat} {acc : List Int} {w : Str} {ws : List Str} (h : placeD w (txs n) = none) : prcL n (w :: ws) i acc = .inl i := by
  show (match placeD w (txs n) with | none => Sum.inl i | some c => if acc ≠ [] ∧ (c : Int) ≤ acc.getLastD 0 then .inl i else prcL n ws (i + 1) (acc ++ [(c : Int)])) = _
  rw [h]
theorem prcL_some {n i c : Nat} {acc : List Int} {w : Str} {ws : List Str} (h : placeD w (txs n) = some c) : prcL n (w :: ws) i acc = if acc ≠ [] ∧ (c : Int) ≤ acc.getLastD 0 then .inl i else prcL n ws (i + 1) (acc ++ [(c : Int)]) := by
  show (match placeD w (txs n) with | none => Sum.inl i | some c => if acc ≠ [] ∧ (c : Int) ≤ acc.getLastD 0 then .inl i else prcL n ws (i + 1) (acc ++ [(c : Int)])) = _
  rw [h]
theorem atI_lastI {xs : List Int} (h : xs ≠ []) : atI (xs.map PyData.int) (-1) = some (.int (xs.getLastD 0)) := by
  obtain ⟨ys, y, rfl⟩ : ∃ ys y, xs = ys ++ [y] := ⟨xs.dropLast, xs.getLast h, (List.dropLast_concat_getLast h).symm⟩
  rw [List.map_append, List.getLastD_concat]
  exact L2.atI_last (ys.map PyData.int) (.int y)

abbrev nPof : List Str := ["word", "words"]
theorem scPof : FnScope nPof ["word", "words"] (defScope (topS 11)) := ⟨rfl, rfl, rfl, by decide +kernel, rfl, by decide +kernel, by decide +kernel⟩
def Rpof : Rel := fun ds d => ∃ (w : Str) (ts : List Str), ds = [.str w, .list (ts.map PyData.str)] ∧ d = optI (placeD w ts)
section
variable {P : Program} {w : World} {K : PySem.W.Frag} {mg : Str → Option Value} {base : Heap}
theorem ok_pof {f : Addr} {fd : FuncData} (Fn : Fun K "place_of" "place_of" (topS 11) f fd) : FnG P w K mg base 1 f fd ["word", "words"] (spPure K Rpof) := by
  refine pure_ok (k := 0) Fn scPof (fun ds d ⟨_, _, e, _⟩ => by rw [e]; rfl) (fun F ds d hK ⟨x, ts, e, ed⟩ => ?_)
  subst e ed
  refine wb_cons (ws_ret (we_ifExp (wt_inTx hK rfl ?_)))
  walk_at "name"
  walk_at "name"
  refine ⟨x, ts, rfl, rfl, ?_⟩
  rw [place_any]
  cases h : placeD x ts with
  | none => exact itN rfl (we_non rfl)
  | some j =>
    obtain ⟨h1, h2⟩ := place_some h
    refine itP rfl (we_indexT hK (fun _ => rfl) ?_ (fun X {to t} h1 h2 => pe_bm PySem.F.plainAttrs_list PySem.F.slot_list_index PySem.F.type_list_index mt_index h1 h2))
    walk_at "name"
    refine ⟨ts, rfl, ?_⟩
    walk_at "name"
    exact ⟨x, j, rfl, h1, h2, rfl⟩
end

abbrev nRcd : List Str := ["n", "word", "card"]
theorem scRcd : FnScope nRcd ["n", "word"] (defScope (topS 12)) := ⟨rfl, rfl, rfl, by decide +kernel, rfl, by decide +kernel, by decide +kernel⟩
def Rrcd : Rel := fun ds d => ∃ (n : Nat) (w : Str), ds = [.int (n : Int), .str w] ∧ n ≤ 6 ∧ d = optI (placeD w (txs n))
section
variable {P : Program} {w : World} {K : PySem.W.Frag} {mg : Str → Option Value} {base : Heap}
theorem ok_rcd {f : Addr} {fd : FuncData} (Fn : Fun K "read_card" "read_card" (topS 12) f fd) (mr : mg "range" = none) (gc : PFn P w K mg base 2 "card_text" RctP) (gp : PFn P w K mg base 1 "place_of" Rpof) : FnG P w K mg base 3 f fd ["n", "word"] (spPure K Rrcd) := by
  refine pure_ok (k := 2) Fn scRcd (fun ds d ⟨_, _, e, _⟩ => by rw [e]; rfl) (fun F ds d hK ⟨n, x, e, hn, ed⟩ => ?_)
  subst e ed
  have hp := pow_le64 hn
  refine wb_cons (ws_ret (we_callP gp (by show 1 ≤ 2; decide) hK rfl (wa_cons (fun _ => rfl) ?_)))
  walk_at "name"
  refine wa_cons (fun _ => rfl) (we_mR (fun c => PyData.str (tx n c.toNat)) 2 (by walk_at "blk") rfl mr (fun _ => rfl) (fun _ _ => rfl) (we_shl (we_int ?_)))
  walk_at "name"
  refine ⟨1, (n : Int), rfl, rfl, ⟨by omega, by omega⟩, ?_⟩
  rw [Int.toNat_natCast, Int.one_mul]
  refine ⟨_, rfl, by omega, by omega, fun D c c0 c1 => ?_, ?_⟩
  · have hKD : (F.ext D).K = K := hK
    refine we_callP gc (by show 2 ≤ 2; decide) hKD rfl (wa_cons (fun _ => rfl) ?_)
    walk_at "name"
    refine wa_cons (fun _ => rfl) ?_
    walk_at "name"
    exact wa_nil ⟨_, ⟨n, c, rfl, hn, ⟨c0, c1⟩, rfl⟩, rfl, rfl⟩
  rw [txs_rg]
  exact wa_nil ⟨_, ⟨x, txs n, rfl, rfl⟩, rfl⟩
end

abbrev nPcs : List Str := ["n", "words", "cards", "index", "word", "card"]
theorem scPcs : FnScope nPcs ["n", "words"] (defScope (topS 14)) := ⟨rfl, rfl, rfl, by decide +kernel, rfl, by decide +kernel, by decide +kernel⟩
def RpcsE (T : Addr) : RelE := fun ds o => ∃ (n : Nat) (ws : List Str), ds = [.int (n : Int), .list (ws.map PyData.str)] ∧ n ≤ 6 ∧ ws ≠ [] ∧ ws.length ≤ 1000000 ∧ o = outS T (pcs n ws)
abbrev rPcs (n : Nat) (ws : List Str) (o : Addr) (acc : List Int) (x3 x4 x5 : SV) : Rho := [.d (.int (n : Int)), .d (.list (ws.map PyData.str)), .own o (acc.map PyData.int), x3, x4, x5]
section
variable {P : Program} {w : World} {K : PySem.W.Frag} {mg : Str → Option Value} {base : Heap} {T : Addr}
theorem ok_pcsE {f : Addr} {fd : FuncData} (Fn : Fun K "parse_cards" "parse_cards" (topS 14) f fd) (ml : mg "len" = none) (mt : mg "tuple" = none) (mn : mg "enumerate" = none) (hX : XCl P w K mg base "BadText" T "index") (gr : PFn P w K mg base 3 "read_card" Rrcd) : FnE P w K mg base 4 f fd ["n", "words"] (spPureE K (RpcsE T)) := by
  refine pureE_ok (k := 3) Fn scPcs (fun ds o ⟨_, _, e, _⟩ => by rw [e]; rfl) (fun F ds out hK ⟨n, ws, e, hn, hne, hwl, ed⟩ => ?_)
  subst e
  obtain ⟨w0, ws0, rfl⟩ : ∃ a b, ws = a :: b := by
    cases ws with
    | nil => exact absurd rfl hne
    | cons a b => exact ⟨a, b, rfl⟩
  refine wbx_cons (wsx_if (wt_eqT (we_ix hK (fun _ _ => rfl) ?_)))
  walk_at "name"
  refine we_int ⟨.str w0, atI_nat (j := 0) (xs := PyData.str w0 :: ws0.map PyData.str) rfl, we_str ⟨_, _, rfl, rfl, ?_⟩⟩
  by_cases h0 : w0 = "none"
  · have ep : pcs n (w0 :: ws0) = if 1 < (w0 :: ws0).length then .inl 2 else .inr [] := if_pos (by rw [h0]; rfl)
    rw [ep] at ed
    refine itP (decide_eq_true h0) (wbx_cons (wsx_if (wt_gt (we_len hK rfl ml (fun _ => rfl) ?_))))
    walk_at "name"
    refine ⟨_, rfl, we_int ⟨_, _, rfl, rfl, ?_⟩⟩
    rw [List.length_map]
    by_cases h1 : 1 < (w0 :: ws0).length
    · rw [if_pos h1] at ed
      refine itP (decide_eq_true (by omega)) (wbx_cons (wsx_raise1 hX (by show 2 ≤ 3; decide) rfl (wa_cons (fun _ => rfl) (we_int (wa_nil ⟨_, rfl, ?_⟩)))))
      exact ed
    · rw [if_neg h1] at ed
      exact itN (decide_eq_false (by omega)) (wbx_nil (wbx_cons (wsx_of (ws_ret (we_tup (wa_nil ⟨by show 0 ≤ _; decide, ed⟩))))))
  · have ep : pcs n (w0 :: ws0) = prcL n (w0 :: ws0) 1 [] := if_neg (by simpa using h0)
    rw [ep] at ed
    clear ep
    generalize hws : w0 :: ws0 = ws at *
    refine itN (decide_eq_false h0) (wbx_nil (wbx_own 2 (by walk_at "tgt") (by show 2 < 6; decide) (fun env h => by cases env; cases h; rfl) fun o => ?_))
    have hKo : (F.ext o).K = K := hK
    refine wbx_cons (wsx_for_en1 3 4 (by walk_at "tgt") (by walk_at "tgt") hKo rfl mn (fun _ => rfl) (fun _ _ => rfl) ?_)
    walk_at "name"
    refine ⟨fun j k ρ => ∃ (acc : List Int) (x3 x4 x5 : SV), (plainB x3 = true ∧ plainB x4 = true ∧ plainB x5 = true) ∧ acc.length ≤ j ∧ j ≤ ws.length ∧ out = outS T (prcL n (ws.drop j) (j + 1) acc) ∧ ρ = rPcs n ws o acc x3 x4 x5, _, rfl, ⟨[], .un, .un, .un, ⟨rfl, rfl, rfl⟩, Nat.zero_le _, Nat.zero_le _, by rw [List.drop_zero]; exact ed, rfl⟩, ?_, ?_⟩
    · rintro j y k ρ hy ⟨acc, x3, x4, x5, ⟨p3, p4, p5⟩, hacc, hj, eo, rfl⟩
      rw [List.getElem?_map, Option.map_eq_some_iff] at hy
      obtain ⟨x, hx, rfl⟩ := hy
      have hjl := (List.getElem?_eq_some_iff.mp hx).1
      have edr : ws.drop j = x :: ws.drop (j + 1) := by
        rw [List.drop_eq_getElem_cons hjl]
        congr 1
        exact (List.getElem?_eq_some_iff.mp hx).2
      rw [edr] at eo
      have ei : PyData.int ((1 : Int) + (j : Nat)) = .int ((j + 1 : Nat) : Int) := by congr 1; omega
      refine wbx_cons (wsx_of (ws_set 5 (by walk_at "tgt") (fun env h => by cases env; cases h; rfl) (we_callP gr (by show 3 ≤ 3; decide) hKo rfl (wa_cons (fun _ => rfl) ?_))))
      walk_at "name"
      refine wa_cons (fun _ => rfl) ?_
      walk_at "name"
      refine wa_nil ⟨_, ⟨n, x, rfl, hn, rfl⟩, ?_⟩
      refine wbx_cons (wsx_if (wt_or2 (p := (placeD x (txs n)).isNone) (q := decide (acc ≠ [] ∧ (((placeD x (txs n)).getD 0 : Nat) : Int) ≤ acc.getLastD 0)) (wt_isN ?_) (fun hp => ?_) ?_))
      · walk_at "name"
        refine ⟨rfl, ?_⟩
        cases placeD x (txs n) <;> rfl
      · cases hc : placeD x (txs n) with
        | none => rw [hc] at hp; cases hp
        | some c =>
        refine wt_and2 (p := decide (acc ≠ [])) (q := decide ((c : Int) ≤ acc.getLastD 0)) (wt_gt (we_lenOwn 2 rfl (by walk_at "vis") rfl rfl ml (we_int ⟨_, _, rfl, rfl, rfl, ?_⟩))) (fun ha => wt_le ?_) ⟨rfl, ?_⟩
        · rw [List.length_map]
          refine decide_eq_decide.mpr ⟨fun z e => ?_, fun z => ?_⟩
          · rw [e] at z; exact absurd z (by decide)
          · have : acc.length ≠ 0 := fun e => z (List.length_eq_zero_iff.mp e)
            omega
        · have ha : acc ≠ [] := of_decide_eq_true ha
          walk_at "name"
          refine we_ixOwnZ 2 hKo rfl (by walk_at "vis") rfl (fun _ _ => rfl) (we_neg (we_int ⟨1, rfl, -1, _, rfl, atI_lastI ha, _, _, rfl, rfl, rfl, rfl⟩))
        · rw [← Bool.decide_and]
          rfl
      cases hc : placeD x (txs n) with
      | none =>
        rw [prcL_none hc] at eo
        refine itP rfl (wbx_cons (wsx_raise1 hX (by show 2 ≤ 3; decide) rfl (wa_cons (fun _ => rfl) ?_)))
        walk_at "name"
        exact wa_nil ⟨_, rfl, by rw [ei]; exact eo⟩
      | some c =>
        rw [prcL_some hc] at eo
        show if (false || decide (acc ≠ [] ∧ (c : Int) ≤ acc.getLastD 0)) = true then _ else _
        by_cases hl : acc ≠ [] ∧ (c : Int) ≤ acc.getLastD 0
        · rw [if_pos hl] at eo
          refine itP (by rw [decide_eq_true hl]; rfl) (wbx_cons (wsx_raise1 hX (by show 2 ≤ 3; decide) rfl (wa_cons (fun _ => rfl) ?_)))
          walk_at "name"
          exact wa_nil ⟨_, rfl, by rw [ei]; exact eo⟩
        · rw [if_neg hl] at eo
          refine itN (by rw [decide_eq_false hl]; rfl) (wbx_nil (wbx_cons (wsx_of (ws_append 2 rfl (by walk_at "vis") rfl (by simp [plainB, p3, p4, p5]) (by rw [List.length_map]; omega) (fun _ => rfl) ?_ (fun _ => rfl)))))
          walk_at "name"
          refine wbx_nil ⟨acc ++ [(c : Int)], .d (.int ((1 : Int) + (j : Nat))), .d (.str x), .d (.int (c : Int)), ⟨rfl, rfl, rfl⟩, by rw [List.length_append]; show acc.length + 1 ≤ j + 1; omega, hjl, eo, ?_⟩
          unfold rPcs
          rw [List.map_append]
          rfl
    · rintro k ρ ⟨acc, x3, x4, x5, ⟨p3, p4, p5⟩, hacc, hj, eo, rfl⟩
      rw [List.length_map, List.drop_length] at eo
      refine wbx_cons (wsx_of (ws_ret (we_tupOwn 2 hKo rfl (by walk_at "vis") rfl rfl mt eo)))
end

abbrev nPbx : List Str := ["text", "words", "n", "many"]
theorem scPbx : FnScope nPbx ["text"] (defScope (topS 13)) := ⟨rfl, rfl, rfl, by decide +kernel, rfl, by decide +kernel, by decide +kernel⟩
def RpbxE (T : Addr) : RelE := fun ds o => ∃ d : PyData, ds = [d] ∧ (∀ t, d = .str t → t.length ≤ 900000) ∧ o = (prsD d).out T
theorem prsD_no {d : PyData} (h : isiD "str" d = false) : prsD d = .bad none := by
  cases d <;> first | rfl | cases h
theorem hd_rg : (rg (7 : Int)).map (fun m => PyData.str (Str.empty ++ ((toString m : String) : Str) ++ ":")) = hds.map PyData.str := rfl
section
variable {P : Program} {w : World} {K : PySem.W.Frag} {mg : Str → Option Value} {base : Heap} {T : Addr} {tk : Tok}
theorem ok_pbxE {f : Addr} {fd : FuncData} (Fn : Fun K "parse_box" "parse_box" (topS 13) f fd) (mi : mg "isinstance" = none) (ms : mg "str" = none) (mr : mg "range" = none) (ml : mg "len" = none) (vm : mg "MAX_SWITCHES" = some (.int 6 tk)) (hX : XCl P w K mg base "BadText" T "index") (gp : PFn P w K mg base 1 "place_of" Rpof) (gc : PFE P w K mg base 4 "parse_cards" (RpcsE T)) : FnE P w K mg base 5 f fd ["text"] (spPureE K (RpbxE T)) := by
  refine pureE_ok (k := 4) Fn scPbx (fun ds o ⟨_, e, _⟩ => by rw [e]; rfl) (fun F ds out hK ⟨d, e, hz, ed⟩ => ?_)
  subst e
  refine wbx_cons (wsx_if (wt_not (wt_val (fun _ _ => rfl) (we_isi "str" kit_str hK rfl mi rfl ms rfl (by decide) rfl (fun _ => rfl) ?_))))
  walk_at "name"
  refine ⟨_, rfl, ?_⟩
  by_cases hs : isiD "str" d = false
  · rw [prsD_no hs] at ed
    exact itP (by rw [hs]; rfl) (wbx_cons (wsx_raise1 hX (by show 2 ≤ 4; decide) rfl (wa_cons (fun _ => rfl) (we_non (wa_nil ⟨_, rfl, ed⟩)))))
  have hs : isiD "str" d = true := by simpa using hs
  obtain ⟨t, rfl⟩ : ∃ t, d = .str t := by cases d <;> first | exact ⟨_, rfl⟩ | cases hs
  have hz := hz t rfl
  have ed : out = (prsT t).out T := ed
  have hne := words_ne t
  have hwl := words_len t
  have epr : prsT t = match placeD ((Txt.split t " ").headD Str.empty) hds with | none => .bad (some 0) | some n => if (Txt.split t " ").length = 1 then .bad (some 1) else prcT n (Txt.split t " ").tail := rfl
  rw [epr] at ed
  clear epr
  refine itN (by rw [hs]; rfl) (wbx_nil (wbx_cons (wsx_of (ws_set 1 (by walk_at "tgt") (fun env h => by cases env; cases h; rfl) (we_split (fun _ => rfl) rfl (fun _ => rfl) ?_)))))
  walk_at "name"
  refine ⟨t, rfl, we_str ⟨_, rfl, rfl, by omega, ?_⟩⟩
  generalize Txt.split t " " = ws at *
  obtain ⟨w0, ws0, rfl⟩ : ∃ a b, ws = a :: b := by
    cases ws with
    | nil => exact absurd rfl hne
    | cons a b => exact ⟨a, b, rfl⟩
  refine wbx_cons (wsx_of (ws_set 2 (by walk_at "tgt") (fun env h => by cases env; cases h; rfl) (we_callP gp (by show 1 ≤ 4; decide) hK rfl (wa_cons (fun _ => rfl) (we_ix hK (fun _ _ => rfl) ?_)))))
  walk_at "name"
  refine we_int ⟨.str w0, atI_nat (j := 0) (xs := PyData.str w0 :: ws0.map PyData.str) rfl, ?_⟩
  refine wa_cons (fun _ => rfl) (we_mR (fun m => PyData.str (Str.empty ++ ((toString m : String) : Str) ++ ":")) 3 (by walk_at "blk") rfl mr (fun _ => rfl) (fun _ _ => rfl) (we_add (we_gint rfl vm (we_int ⟨_, _, rfl, rfl, ?_⟩))))
  refine ⟨7, rfl, by decide, by decide, fun D m m0 m1 => ?_, ?_⟩
  · refine we_joinedK rfl (wkj_int ?_)
    walk_at "name"
    have hm : ∀ m : Nat, m ≤ 6 → (Str.empty ++ ((toString (m : Int) : String) : Str)).length ≤ 10 ∧ (Str.empty ++ ((toString (m : Int) : String) : Str) ++ ":").length ≤ 10 := by decide +kernel
    obtain ⟨m, rfl⟩ : ∃ i : Nat, m = (i : Int) := ⟨m.toNat, by omega⟩
    obtain ⟨h1, h2⟩ := hm m (by omega)
    refine ⟨(m : Int), rfl, by omega, Nat.le_trans h1 (by decide), ?_⟩
    refine wkj_str (Nat.le_trans h2 (by decide)) ?_
    exact wkj_nil ⟨rfl, rfl⟩
  rw [hd_rg]
  refine wa_nil ⟨_, ⟨w0, hds, rfl, rfl⟩, ?_⟩
  refine wbx_cons (wsx_if (wt_isN ?_))
  walk_at "name"
  have ed : out = (match placeD w0 hds with | none => PrT.bad (some 0) | some n => if (w0 :: ws0).length = 1 then .bad (some 1) else prcT n ws0).out T := ed
  cases hp : placeD w0 hds with
  | none =>
    rw [hp] at ed
    exact itP rfl (wbx_cons (wsx_raise1 hX (by show 2 ≤ 4; decide) rfl (wa_cons (fun _ => rfl) (we_int (wa_nil ⟨_, rfl, ed⟩)))))
  | some n =>
    rw [hp] at ed
    have hn : n ≤ 6 := by
      have := place_lt hp
      have h7 : hds.length = 7 := rfl
      omega
    refine itN rfl (wbx_nil (wbx_cons (wsx_if (wt_eqI (we_len hK rfl ml (fun _ => rfl) ?_)))))
    walk_at "name"
    refine ⟨_, rfl, we_int ⟨_, _, rfl, rfl, ?_⟩⟩
    rw [List.length_map]
    by_cases h1 : (w0 :: ws0).length = 1
    · have ed : out = (if (w0 :: ws0).length = 1 then PrT.bad (some 1) else prcT n ws0).out T := ed
      rw [if_pos h1] at ed
      exact itP (decide_eq_true (by rw [h1]; rfl)) (wbx_cons (wsx_raise1 hX (by show 2 ≤ 4; decide) rfl (wa_cons (fun _ => rfl) (we_int (wa_nil ⟨_, rfl, ed⟩)))))
    · have ed : out = (if (w0 :: ws0).length = 1 then PrT.bad (some 1) else prcT n ws0).out T := ed
      rw [if_neg h1] at ed
      have h2 : ws0 ≠ [] := fun z => h1 (by rw [z]; rfl)
      refine itN (decide_eq_false fun z => h1 (by omega)) (wbx_nil (wbx_cons (wsx_ret (wex_tup2 ?_))))
      walk_at "name"
      refine wex_callP gc (by show 4 ≤ 4; decide) hK rfl (wa_cons (fun _ => rfl) ?_)
      walk_at "name"
      refine wa_cons (fun _ => rfl) (we_sliceF hK ?_)
      walk_at "name"
      refine we_int ⟨PyData.str w0 :: ws0.map PyData.str, 1, rfl, rfl, wa_nil ⟨_, ⟨n, ws0, rfl, hn, h2, ?_, rfl⟩, ?_, ?_⟩⟩
      · have : (w0 :: ws0).length = ws0.length + 1 := rfl
        omega
      · intro d hd
        unfold prcT at ed
        cases hq : pcs n ws0 with
        | inl i => rw [hq] at hd; cases hd
        | inr cs => rw [hq] at ed hd; cases hd; exact ed
      · intro c y hd
        unfold prcT at ed
        cases hq : pcs n ws0 with
        | inl i => rw [hq] at ed hd; cases hd; exact ed
        | inr cs => rw [hq] at hd; cases hd
end


open TL
/-! what parse_box takes is the text of what it answers -/
theorem spl_back : ∀ (l acc : List Nat), joinL [32] (spl [32] 0 acc l) = acc ++ l
  | [], acc => by rw [spl_nil, List.append_nil]; rfl
  | c :: r, acc => by
    cases h : pre [32] (c :: r) with
    | true =>
      rw [spl_hit h]
      have hc : c = 32 := by
        have h : ([c] == [32]) = true := h
        have := eq_of_beq h
        injection this
      subst hc
      have ih := spl_back r []
      show joinL [32] (acc :: spl [32] 0 [] r) = _
      cases e : spl [32] 0 [] r with
      | nil => exact absurd e (spl_ne r [])
      | cons p q =>
        rw [e] at ih
        show acc ++ ([32] ++ joinL [32] (p :: q)) = _
        rw [ih]; rfl
    | false => rw [spl_miss h, spl_back r (acc ++ [c]), List.append_assoc]; rfl
theorem words_back (t : Str) : joinL [32] ((Txt.split t " ").map tl) = tl t := by
  rw [words_tl, spl_back]; rfl
theorem last_ge {acc : List Int} (h : acc.Pairwise (· < ·)) : ∀ a ∈ acc, a ≤ acc.getLastD 0 := by
  intro a ha
  rcases List.eq_nil_or_concat acc with rfl | ⟨i, l, rfl⟩
  · cases ha
  · rw [List.concat_eq_append] at h ha ⊢
    rw [List.getLastD_concat]
    rcases List.mem_append.mp ha with ha | ha
    · exact Int.le_of_lt ((List.pairwise_append.mp h).2.2 a ha l (List.mem_singleton.mpr rfl))
    · rw [List.mem_singleton.mp ha]; exact Int.le_refl _
theorem place_tx {n c : Nat} {w : Str} (h : placeD w (txs n) = some c) : c < 2 ^ n ∧ w = tx n c := by
  have h1 := place_lt h
  rw [txs_len] at h1
  have h2 := (place_some h).1
  unfold txs at h2
  rw [List.getElem?_map, List.getElem?_range h1] at h2
  exact ⟨h1, (Option.some.inj h2).symm⟩
theorem prcL_ok {n : Nat} {cs : List Int} : ∀ (ws : List Str) (i : Nat) (acc : List Int), prcL n ws i acc = .inr cs → IsBox n acc → IsBox n cs ∧ ∃ new : List Int, cs = acc ++ new ∧ ws = new.map fun c => tx n c.toNat
  | [], i, acc, h, hb => by
    rw [prcL_nil] at h
    cases h
    exact ⟨hb, [], (List.append_nil _).symm, rfl⟩
  | w :: ws, i, acc, h, hb => by
    cases e : placeD w (txs n) with
    | none => rw [prcL_none e] at h; cases h
    | some c =>
      rw [prcL_some e] at h
      obtain ⟨hc, hw⟩ := place_tx e
      by_cases hl : acc ≠ [] ∧ (c : Int) ≤ acc.getLastD 0
      · rw [if_pos hl] at h; cases h
      · rw [if_neg hl] at h
        have e2 : ((2 ^ n : Nat) : Int) = (2 : Int) ^ n := by rw [Int.natCast_pow]; rfl
        have hb2 : IsBox n (acc ++ [(c : Int)]) := ⟨List.pairwise_append.mpr ⟨hb.1, List.pairwise_singleton _ _, fun a ha b hbm => by
          rw [List.mem_singleton.mp hbm]
          have h1 := last_ge hb.1 a ha
          have h2 : ¬ (c : Int) ≤ acc.getLastD 0 := fun z => hl ⟨List.ne_nil_of_mem ha, z⟩
          omega⟩, fun x hx => by
          rcases List.mem_append.mp hx with hx | hx
          · exact hb.rng x hx
          · rw [List.mem_singleton.mp hx]; exact ⟨by omega, by omega⟩⟩
        obtain ⟨r1, new, r2, r3⟩ := prcL_ok ws (i + 1) _ h hb2
        refine ⟨r1, (c : Int) :: new, by rw [r2, List.append_assoc]; rfl, ?_⟩
        rw [hw, r3]
        show tx n c :: _ = tx n ((c : Nat) : Int).toNat :: _
        rw [Int.toNat_natCast]
theorem pcs_ok {n : Nat} {ws : List Str} {cs : List Int} (hne : ws ≠ []) (h : pcs n ws = .inr cs) : IsBox n cs ∧ tl (cardsT n cs) = joinL [32] (ws.map tl) := by
  unfold pcs at h
  by_cases h0 : ws.head? = some ("none" : Str)
  · rw [if_pos h0] at h
    by_cases h1 : 1 < ws.length
    · rw [if_pos h1] at h; cases h
    · rw [if_neg h1] at h
      cases h
      match ws, h0, h1 with
      | [w], h0, _ =>
        have : w = "none" := Option.some.inj h0
        subst this
        exact ⟨box0 n, rfl⟩
      | _ :: _ :: _, _, h1 => exact absurd (by show 1 < _ + 1 + 1; omega) h1
      | [], h0, _ => cases h0
  · rw [if_neg h0] at h
    obtain ⟨r1, new, r2, r3⟩ := prcL_ok ws 1 [] h (box0 n)
    have r2 : cs = new := r2
    subst r2
    refine ⟨r1, ?_⟩
    have hc : cs ≠ [] := fun z => hne (by rw [r3, z]; rfl)
    unfold cardsT
    rw [if_neg hc, join_eq, tl_join, sp_tl, ← r3]
theorem prsT_back {t : Str} {n : Nat} {cs : List Int} (h : prsT t = .box n cs) : n ≤ 6 ∧ IsBox n cs ∧ boxT n cs = t := by
  unfold prsT at h
  cases e : placeD ((Txt.split t " ").headD Str.empty) hds with
  | none => rw [e] at h; cases h
  | some m =>
    rw [e] at h
    have h : (if (Txt.split t " ").length = 1 then PrT.bad (some 1) else prcT m (Txt.split t " ").tail) = .box n cs := h
    by_cases h1 : (Txt.split t " ").length = 1
    · rw [if_pos h1] at h; cases h
    · rw [if_neg h1] at h
      have hm := place_lt e
      have hm : m < 7 := hm
      have hh := (place_some e).1
      unfold hds at hh
      rw [List.getElem?_map, List.getElem?_range hm] at hh
      have hh : hdT m = (Txt.split t " ").headD Str.empty := Option.some.inj hh
      have hb := words_back t
      cases ew : Txt.split t " " with
      | nil => exact absurd ew (words_ne t)
      | cons w ws =>
        rw [ew] at hb hh h h1
        have hh : hdT m = w := hh
        have hne : ws ≠ [] := fun z => h1 (by rw [z]; rfl)
        have h : prcT m ws = .box n cs := h
        unfold prcT at h
        cases ep : pcs m ws with
        | inl i => rw [ep] at h; cases h
        | inr ds =>
          rw [ep] at h
          have h : PrT.box m ds = .box n cs := h
          cases h
          obtain ⟨r1, r2⟩ := pcs_ok hne ep
          refine ⟨by omega, r1, ext_tl ?_⟩
          rw [← hb, ← hh]
          cases ws with
          | nil => exact absurd rfl hne
          | cons v vs =>
            show _ = tl (hdT n) ++ ([32] ++ joinL [32] ((v :: vs).map tl))
            rw [← r2]
            unfold boxT hdT
            have ec : tl (": " : Str) = tl (":" : Str) ++ [32] := by decide +kernel
            simp only [tl_append, ec, List.append_assoc]


abbrev nCst : List Str := ["n", "cards", "card"]
theorem scCst : FnScope nCst ["n", "cards"] (defScope (topS 9)) := ⟨rfl, rfl, rfl, by decide +kernel, rfl, by decide +kernel, by decide +kernel⟩
def RcstP : Rel := fun ds d => ∃ (n : Nat) (cs : List Int), ds = [.int (n : Int), .tuple (cs.map PyData.int)] ∧ n ≤ 6 ∧ IsBox n cs ∧ d = .str (cardsT n cs)
theorem tx_sum {n : Nat} {cs : List Int} (hn : n ≤ 6) (hb : IsBox n cs) : ((cs.map fun c => tx n c.toNat).map (·.length)).sum + (cs.map fun c => tx n c.toNat).length * (Str.ofString " ").length ≤ 1000 := by
  have hl := box_len hn hb
  have h : ∀ xs : List Int, (∀ c ∈ xs, 0 ≤ c ∧ c < 2 ^ n) → ((xs.map fun c => tx n c.toNat).map (·.length)).sum ≤ 6 * xs.length := by
    intro xs
    induction xs with
    | nil => intro _; exact Nat.le_refl _
    | cons x xs ih =>
      intro hx
      have h1 := hx x List.mem_cons_self
      have e2 : ((2 ^ n : Nat) : Int) = (2 : Int) ^ n := by rw [Int.natCast_pow]; rfl
      have h2 := (tx_facts n hn x.toNat (by omega)).2.2.2
      have h3 := ih fun c hc => hx c (List.mem_cons_of_mem _ hc)
      show (tx n x.toNat).length + ((xs.map fun c => tx n c.toNat).map (·.length)).sum ≤ 6 * (xs.length + 1)
      omega
  have h1 := h cs hb.rng
  have e1 : (Str.ofString " ").length = 1 := rfl
  rw [e1, List.length_map]
  omega
section
variable {P : Program} {w : World} {K : PySem.W.Frag} {mg : Str → Option Value} {base : Heap}
theorem ok_cst {f : Addr} {fd : FuncData} (Fn : Fun K "cards_text" "cards_text" (topS 9) f fd) (ml : mg "len" = none) (gc : PFn P w K mg base 2 "card_text" RctP) : FnG P w K mg base 3 f fd ["n", "cards"] (spPure K RcstP) := by
  refine pure_ok (k := 2) Fn scCst (fun ds d ⟨_, _, e, _⟩ => by rw [e]; rfl) (fun F ds d hK ⟨n, cs, e, hn, hb, ed⟩ => ?_)
  subst e ed
  have hl := box_len hn hb
  refine wb_cons (ws_if (wt_eqI (we_len hK rfl ml (fun _ => rfl) ?_)))
  walk_at "name"
  refine ⟨_, rfl, we_int ⟨_, _, rfl, rfl, ?_⟩⟩
  rw [List.length_map]
  by_cases h0 : cs = []
  · subst h0
    exact itP rfl (wb_cons (ws_ret (we_str rfl)))
  · have hpos : cs.length ≠ 0 := fun z => h0 (List.length_eq_zero_iff.mp z)
    refine itN (decide_eq_false (by omega)) (wb_nil (wb_cons (ws_ret (we_joinS (fun _ => rfl) rfl (fun _ => rfl) hK (we_mT PyData.int (fun c => PyData.str (tx n c.toNat)) 2 (by walk_at "blk") hK (fun _ _ => rfl) ?_)))))
    walk_at "name"
    refine ⟨cs, rfl, by omega, fun D c hc => ?_, ?_⟩
    · have hKD : (F.ext D).K = K := hK
      refine we_callP gc (by show 2 ≤ 2; decide) hKD rfl (wa_cons (fun _ => rfl) ?_)
      walk_at "name"
      refine wa_cons (fun _ => rfl) ?_
      walk_at "name"
      exact wa_nil ⟨_, ⟨n, c, rfl, hn, hb.rng c hc, rfl⟩, rfl, rfl⟩
    have hz := tx_sum hn hb
    have e1 : cs.map (fun c => PyData.str (tx n c.toNat)) = (cs.map fun c => tx n c.toNat).map PyData.str := by rw [List.map_map]; rfl
    have e2 : cardsT n cs = Txt.join " " (cs.map fun c => tx n c.toNat) := if_neg h0
    rw [e1, e2]
    generalize (cs.map fun c => tx n c.toNat) = ys at hz ⊢
    exact ⟨ys, rfl, Nat.le_trans hz (by decide), rfl⟩
end

abbrev nBt : List Str := ["box", "n", "cards"]
theorem scBt : FnScope nBt ["box"] (defScope (topS 10)) := ⟨rfl, rfl, rfl, by decide +kernel, rfl, by decide +kernel, by decide +kernel⟩
def RbtP : Rel := fun ds d => ∃ (n : Nat) (cs : List Int), ds = [boxD n cs] ∧ n ≤ 6 ∧ IsBox n cs ∧ d = .str (boxT n cs)
theorem sep_len (sep : Str) : ∀ xs : List Str, (Str.join sep xs).length ≤ (xs.map (·.length)).sum + xs.length * sep.length
  | [] => by
    show Str.empty.length ≤ 0 + 0 * sep.length
    rw [Nat.zero_mul]
    exact Nat.le_refl _
  | [x] => by show x.length ≤ (x.length + 0) + 1 * sep.length; omega
  | x :: y :: r => by
    have ih := sep_len sep (y :: r)
    show (x ++ sep ++ Str.join sep (y :: r)).length ≤ (x.length + ((y :: r).map (·.length)).sum) + ((y :: r).length + 1) * sep.length
    rw [Nat.add_mul, Nat.one_mul]
    have e : (x ++ sep ++ Str.join sep (y :: r)).length = x.length + sep.length + (Str.join sep (y :: r)).length := by
      rw [Str.length_append, Str.length_append]
    omega
theorem cards_len {n : Nat} {cs : List Int} (hn : n ≤ 6) (hb : IsBox n cs) : (cardsT n cs).length ≤ 1000 := by
  unfold cardsT
  split
  · decide +kernel
  · rw [join_eq]
    exact Nat.le_trans (sep_len _ _) (tx_sum hn hb)
theorem head_len : ∀ n : Nat, n ≤ 6 → (Str.empty ++ ((toString (n : Int) : String) : Str)).length ≤ 10 ∧ (Str.empty ++ ((toString (n : Int) : String) : Str) ++ ": ").length ≤ 10 := by decide +kernel
section
variable {P : Program} {w : World} {K : PySem.W.Frag} {mg : Str → Option Value} {base : Heap}
theorem ok_bt {f : Addr} {fd : FuncData} (Fn : Fun K "box_text" "box_text" (topS 10) f fd) (gc : PFn P w K mg base 3 "cards_text" RcstP) : FnG P w K mg base 4 f fd ["box"] (spPure K RbtP) := by
  refine pure_ok (k := 3) Fn scBt (fun ds d ⟨_, _, e, _⟩ => by rw [e]; rfl) (fun F ds d hK ⟨n, cs, e, hn, hb, ed⟩ => ?_)
  subst e ed
  obtain ⟨h1, h2⟩ := head_len n hn
  have h3 := cards_len hn hb
  refine wb_cons (ws_asg2 1 2 (by decide) (by walk_at "tgt") (by walk_at "tgt") hK (fun _ => rfl) (fun _ => rfl) ?_)
  walk_at "name"
  refine ⟨.int (n : Int), .tuple (cs.map PyData.int), rfl, ?_⟩
  refine wb_cons (ws_ret (we_joinedK rfl (wkj_int ?_)))
  walk_at "name"
  refine ⟨(n : Int), rfl, by omega, Nat.le_trans h1 (by decide), ?_⟩
  refine wkj_str (Nat.le_trans h2 (by decide)) ?_
  refine wkj_txt (we_callP gc (by show 3 ≤ 3; decide) hK rfl (wa_cons (fun _ => rfl) ?_))
  walk_at "name"
  refine wa_cons (fun _ => rfl) ?_
  walk_at "name"
  refine wa_nil ⟨.str (cardsT n cs), ⟨n, cs, rfl, hn, hb, rfl⟩, cardsT n cs, rfl, Nat.le_trans h3 (by decide), ?_, ?_⟩
  · rw [Str.length_append]
    exact Nat.le_trans (Nat.add_le_add h2 h3) (by decide)
  · exact wkj_nil rfl
end


abbrev nAcc : List Str := ["_law_text"]
theorem scAcc : FnScope nAcc ["_law_text"] (defScope (topS 33)) := ⟨rfl, rfl, rfl, by decide +kernel, rfl, by decide +kernel, by decide +kernel⟩
def Racc : Rel := fun ds d => ∃ t : Str, ds = [.str t] ∧ t.length ≤ 900000 ∧ d = .bool true
section
variable {P : Program} {w : World} {K : PySem.W.Frag} {mg : Str → Option Value} {base : Heap} {T : Addr}
theorem ok_acc {f : Addr} {fd : FuncData} (Fn : Fun K "_law_accepted_right" "_law_accepted_right" (topS 33) f fd) (mT : mg "BadText" = some (.ref T)) (exm : PySem.W.exmOne K (.ref T) (.ref T) = some true) (gp : PFE P w K mg base 5 "parse_box" (RpbxE T)) (gb : PFn P w K mg base 4 "box_text" RbtP) : FnG P w K mg base 6 f fd ["_law_text"] (spPure K Racc) := by
  refine FnE.toP (R := fun ds o => ∃ d, Racc ds d ∧ o = .ok d) ?_ (fun ds d h => ⟨d, h, rfl⟩) (fun ds d ⟨_, e, _⟩ => by rw [e]; rfl)
  refine pureE_ok (k := 5) Fn scAcc (fun ds o ⟨d, ⟨_, e, _⟩, _⟩ => by rw [e]; rfl) (fun F ds out hK ⟨d0, ⟨t, e, hz, ed⟩, eo⟩ => ?_)
  subst e eo ed
  refine wbx_cons ?_
  refine wsx_try_n (Ξ := fun k' ρ' c y => c = T) ⟨"BadText", _, _, .ref T, _, _⟩ [] (fun h hh => ?_) ?_ ?_
  · rw [List.mem_singleton.mp hh]
    exact ⟨rfl, .inl mT, (by show (("BadText" : Str) == ("__debug__" : Str)) = false; decide)⟩
  · refine wbx_cons (wsx_ret (wex_eqT (wex_callP1 gb (by show 4 ≤ 5; decide) hK rfl (wex_callP gp (by show 5 ≤ 5; decide) hK rfl (wa_cons (fun _ => rfl) ?_)))))
    walk_at "name"
    refine wa_nil ⟨_, ⟨.str t, rfl, fun u e => by cases e; exact hz, rfl⟩, fun v hv => ?_, fun c y hy => ?_⟩
    · have hv : (prsT t).out T = .ok v := hv
      cases hq : prsT t with
      | bad i => rw [hq] at hv; cases hv
      | box n cs =>
        rw [hq] at hv
        cases hv
        obtain ⟨h1, h2, h3⟩ := prsT_back hq
        refine ⟨_, ⟨n, cs, rfl, h1, h2, rfl⟩, ?_⟩
        walk_at "name"
        exact ⟨_, _, rfl, rfl, congrArg (fun b => Out.ok (PyData.bool b)) (decide_eq_true h3).symm⟩
    · have hy : (prsT t).out T = .ex c y := hy
      cases hq : prsT t with
      | bad i => rw [hq] at hy; cases hy; rfl
      | box n cs => rw [hq] at hy; cases hy
  · rintro k' ρ' c y rfl
    exact .inl ⟨exm, fun H a dd hx => hb_cons (hs_ret (he_bl rfl))⟩
end

open TL
abbrev nJn : List Str := ["_law_n", "_law_words"]
theorem scJn : FnScope nJn ["_law_n", "_law_words"] (defScope (topS 31)) := ⟨rfl, rfl, rfl, by decide +kernel, rfl, by decide +kernel, by decide +kernel⟩
def jnT (n : Nat) (ws : List Str) : Str := (((toString (n : Int) : String) : Str) ++ ": ") ++ Txt.join " " (ws ++ if ws = [] then [("none" : Str)] else [])
theorem Ld.strs {ws : List Str} (h : ∀ w ∈ ws, PyData.strOk w = true) : Ld 1 (.list (ws.map PyData.str)) := .list fun d hd => by
  obtain ⟨i, hi, rfl⟩ := List.mem_map.mp hd
  exact ⟨by simp [PyData.canLay0, h i hi], by simp [PyData.depth]⟩
def Rjn : Rel := fun ds d => ∃ (n : Nat) (ws : List Str), ds = [.int (n : Int), .list (ws.map PyData.str)] ∧ n ≤ 7 ∧ (∀ w ∈ ws, PyData.strOk w = true) ∧ ws.length ≤ 200 ∧ (ws.map (·.length)).sum ≤ 5000 ∧ d = .str (jnT n ws)
theorem num_len : ∀ n : Nat, n ≤ 7 → (((toString (n : Int) : String) : Str)).length ≤ 10 := by decide +kernel
section
variable {P : Program} {w : World} {K : PySem.W.Frag} {mg : Str → Option Value} {base : Heap}
theorem ok_jn {f : Addr} {fd : FuncData} (Fn : Fun K "_law_joined" "_law_joined" (topS 31) f fd) (ms : mg "str" = none) (mi : mg "int" = none) : FnG P w K mg base 1 f fd ["_law_n", "_law_words"] (spPure K Rjn) := by
  refine pure_ok (k := 0) Fn scJn (fun ds d ⟨_, _, e, _⟩ => by rw [e]; rfl) (fun F ds d hK ⟨n, ws, e, hn, hok, hl, hs, ed⟩ => ?_)
  subst e ed
  have hd := num_len n hn
  refine wb_cons (ws_ret (we_addS (we_addS (we_strI rfl ms (fun _ => rfl) ?_))))
  walk_at "name"
  refine ⟨_, rfl, by omega, we_str ⟨_, _, rfl, rfl, ?_, ?_⟩⟩
  · show _ + (": " : Str).length ≤ _
    rw [show (": " : Str).length = 2 from rfl]
    omega
  refine we_joinS (fun _ => rfl) rfl (fun _ => rfl) hK (we_cat ?_)
  walk_at "name"
  refine we_repL (we_lst (wa_cons (fun _ => rfl) (we_str (wa_nil ⟨by show 1 ≤ _; decide, we_intB rfl mi (fun _ => rfl) (we_eq hK ?_)⟩))))
  walk_at "name"
  refine we_lst (wa_nil ⟨Nat.zero_le _, (Ld.strs hok).shaped (by decide), (Ld.strs (ws := []) (fun _ h => nomatch h)).shaped (by decide), ?_⟩)
  dsimp only
  rw [eqv_nilL]
  have ej : ∀ xs : List Str, (Str.join " " xs).length ≤ (xs.map (·.length)).sum + xs.length * (Str.ofString " ").length := sep_len " "
  have e1 : (Str.ofString " ").length = 1 := rfl
  refine ⟨_, rfl, _, _, rfl, rfl, by split <;> decide, by show 1 ≤ 1000; decide, _, _, rfl, rfl, ?_, ?_⟩
  · rw [List.length_map]
    have : (List.replicate ((if ((ws.map PyData.str).isEmpty = true) then 1 else 0 : Int)).toNat [PyData.str "none"]).flatten.length ≤ 1 := by split <;> decide
    omega
  · have ex : ws.map PyData.str ++ (List.replicate ((if ((ws.map PyData.str).isEmpty = true) then 1 else 0 : Int)).toNat [PyData.str "none"]).flatten = (ws ++ if ws = [] then [("none" : Str)] else []).map PyData.str := by
      cases ws with
      | nil => rfl
      | cons x xs => rw [if_neg (List.cons_ne_nil x xs), List.append_nil]; exact List.append_nil _
    have hsum : ((ws ++ if ws = [] then (["none"] : List Str) else []).map (·.length)).sum + (ws ++ if ws = [] then (["none"] : List Str) else []).length * (Str.ofString " ").length ≤ 6000 := by
      rw [e1]
      cases ws with
      | nil => decide +kernel
      | cons x xs =>
        rw [if_neg (List.cons_ne_nil _ _), List.append_nil]
        omega
    have hjl := ej (ws ++ if ws = [] then [("none" : Str)] else [])
    refine ⟨(ws ++ if ws = [] then [("none" : Str)] else []), congrArg some ex, Nat.le_trans hsum (by decide), _, _, rfl, rfl, ?_, rfl⟩
    rw [join_eq, Str.length_append, show (": " : Str).length = 2 from rfl]
    omega
end


open TL
/-- words that are plain, and how long all of them are -/
structure WLT (B : Nat) (zs : List Str) : Prop where
  as : ∀ z ∈ zs, AS z
  sum : (zs.map (·.length)).sum + zs.length ≤ B
theorem WLT.app {A B : Nat} {xs ys : List Str} (h1 : WLT A xs) (h2 : WLT B ys) : WLT (A + B) (xs ++ ys) :=
  ⟨fun z hz => (List.mem_append.mp hz).elim (h1.as z) (h2.as z), by
    rw [List.map_append, List.sum_append, List.length_append]
    have := h1.sum
    have := h2.sum
    omega⟩
theorem sum_take (zs : List Str) (m : Nat) : ((zs.take m).map (·.length)).sum + ((zs.drop m).map (·.length)).sum = (zs.map (·.length)).sum := by
  rw [← List.sum_append, ← List.map_append, List.take_append_drop]
theorem WLT.take {B : Nat} {zs : List Str} (h : WLT B zs) (m : Nat) : WLT B (zs.take m) :=
  ⟨fun z hz => h.as z (List.mem_of_mem_take hz), by
    have h1 := sum_take zs m
    have h2 := h.sum
    have h3 : (zs.take m).length ≤ zs.length := by rw [List.length_take]; omega
    omega⟩
theorem WLT.drop {B : Nat} {zs : List Str} (h : WLT B zs) (m : Nat) : WLT B (zs.drop m) :=
  ⟨fun z hz => h.as z (List.mem_of_mem_drop hz), by
    have h1 := sum_take zs m
    have h2 := h.sum
    have h3 : (zs.drop m).length ≤ zs.length := by rw [List.length_drop]; omega
    omega⟩
theorem WLT.rev {B : Nat} {zs : List Str} (h : WLT B zs) : WLT B zs.reverse :=
  ⟨fun z hz => h.as z (List.mem_reverse.mp hz), by
    have e : ((zs.reverse).map (·.length)).sum = (zs.map (·.length)).sum := by rw [List.map_reverse, List.sum_reverse]
    rw [e, List.length_reverse]
    exact h.sum⟩
theorem wl_words {t : Str} (h : AS t) : WLT (t.length + 1) (Txt.split t " ") := ⟨fun z hz => h.word hz, Nat.le_of_eq (words_sum t)⟩
theorem mem_joinL {S : List Nat} : ∀ {ws : List (List Nat)} {c : Nat}, c ∈ joinL S ws → c ∈ S ∨ ∃ w ∈ ws, c ∈ w
  | [], c, h => by
    have h : c ∈ ([] : List Nat) := h
    exact nomatch h
  | [w], c, h => .inr ⟨w, List.mem_cons_self, h⟩
  | w :: v :: r, c, h => by
    have h : c ∈ w ++ (S ++ joinL S (v :: r)) := h
    rcases List.mem_append.mp h with h | h
    · exact .inr ⟨w, List.mem_cons_self, h⟩
    rcases List.mem_append.mp h with h | h
    · exact .inl h
    · exact (mem_joinL h).imp id fun ⟨x, hx, hc⟩ => ⟨x, List.mem_cons_of_mem _ hx, hc⟩
theorem WLT.join {B : Nat} {zs : List Str} (h : WLT B zs) : AS (Txt.join " " zs) ∧ (Txt.join " " zs).length ≤ B ∧ (zs.map (·.length)).sum + zs.length * (" " : Str).length ≤ B := by
  have e1 : (" " : Str).length = 1 := rfl
  have h2 : (zs.map (·.length)).sum + zs.length * (" " : Str).length ≤ B := by rw [e1, Nat.mul_one]; exact h.sum
  refine ⟨fun c hc => ?_, ?_, h2⟩
  · rw [join_eq, tl_join] at hc
    rcases mem_joinL hc with z | ⟨w, hw, hcw⟩
    · rw [sp_tl] at z
      rw [List.mem_singleton.mp z]; decide
    · obtain ⟨x, hx, rfl⟩ := List.mem_map.mp hw
      exact h.as x hx c hcw
  · rw [join_eq]
    exact Nat.le_trans (sep_len _ _) h2
theorem AS.part {t : Str} (h : AS t) {l : List Nat} (hl : ∀ c ∈ l, c ∈ t.cps.toList) : AS ⟨l.toArray⟩ := fun c hc => h c (hl c (by simpa using hc))
abbrev nBen : List Str := ["_law_deck_here", "_law_text", "_law_words", "_law_at", "_law_way", "_law_place", "_law_sign"]
theorem scBen : FnScope nBen ["_law_deck_here", "_law_text"] (defScope (topS 29)) := ⟨rfl, rfl, rfl, by decide +kernel, rfl, by decide +kernel, by decide +kernel⟩
def PreBn : List PyData → Prop := fun ds => ∃ t : Str, ds = [.str t] ∧ AS t ∧ t.length ≤ 9000
def RBen : Rel := fun ds d => ∃ t u : Str, ds = [.str t] ∧ d = .str u ∧ AS u ∧ u.length ≤ 3 * t.length + 10
def sgT : List Str := ["0", "1", "2", "-", " ", ":", "6", "x", "\n", "none"]
theorem sg_ok : ∀ x ∈ sgT, AS x ∧ x.length ≤ 4 := by decide +kernel
section
variable {P : Program} {w : World} {K : PySem.W.Frag} {mg : Str → Option Value} {base : Heap}
theorem ok_ben {f : Addr} {fd : FuncData} (Fn : Fun K "_law_bent" "_law_bent" (topS 29) f fd) (ml : mg "len" = none) (gn : DFnQ P w K mg base 1 "_law_draw" 1 PreNext RNext) : FnG P w K mg base 2 f fd ["_law_deck_here", "_law_text"] (spDrawQ K 6 PreBn RBen) := by
  refine draw_okQ (k := 1) Fn scBen (fun ds ⟨t, e, _⟩ => by rw [e]; rfl) (fun F s a ds kk dk hK ⟨t, e, has, hz⟩ => ?_)
  subst e
  have hw := wl_words has
  have hne := words_ne t
  have hwl := words_len t
  refine wb_cons (ws_set 2 (by walk_at "tgt") (fun env h => by cases env; cases h; rfl) (we_split (fun _ => rfl) rfl (fun _ => rfl) ?_))
  walk_at "name"
  refine ⟨t, rfl, we_str ⟨_, rfl, rfl, by omega, ?_⟩⟩
  generalize Txt.split t " " = ws at *
  have hl0 : ws.length ≠ 0 := fun z => hne (List.length_eq_zero_iff.mp z)
  have mw : (ws.map PyData.str).length = ws.length := List.length_map _
  refine wb_cons (ws_set 3 (by walk_at "tgt") (fun env h => by cases env; cases h; rfl) (we_callQ dk gn (by show 1 ≤ 1; decide) hK 0 rfl rfl (by walk_at "vis") rfl (wa_cons (fun _ => rfl) (we_len hK rfl ml (fun _ => rfl) ?_))))
  walk_at "name"
  refine ⟨_, rfl, wa_nil ⟨⟨_, rfl, by omega, by omega⟩, kk + 5, rfl, ?_⟩⟩
  rintro d ⟨m', u, e1, rfl, u0, u1⟩
  cases e1
  obtain ⟨u, rfl⟩ : ∃ z : Nat, u = (z : Int) := ⟨u.toNat, by omega⟩
  refine wb_cons (ws_set 4 (by walk_at "tgt") (fun env h => by cases env; cases h; rfl) (we_callQ dk gn (by show 1 ≤ 1; decide) hK 0 rfl rfl (by walk_at "vis") rfl (wa_cons (fun _ => rfl) (we_int (wa_nil ⟨⟨_, rfl, by decide, by decide⟩, kk + 4, rfl, ?_⟩)))))
  rintro d ⟨m', v, e1, rfl, v0, v1⟩
  cases e1
  have fin : ∀ {k' : Nat} {x : Str}, kk ≤ k' → AS x → x.length ≤ 3 * t.length + 10 → kk ≤ k' ∧ RBen [.str t] (.str x) := fun hk ha hl => ⟨hk, t, _, rfl, rfl, ha, hl⟩
  have jn : ∀ {zs : List Str} {B : Nat}, WLT B zs → B ≤ 3 * t.length + 3 → ∃ ys : List Str, seqD (.list (zs.map PyData.str)) = some (ys.map PyData.str) ∧ (ys.map (·.length)).sum + ys.length * (" " : Str).length ≤ 16777216 ∧ (kk ≤ kk + 4 ∧ RBen [.str t] (.str (Txt.join " " ys))) := fun hz2 hB => by
    obtain ⟨j1, j2, j3⟩ := hz2.join
    exact ⟨_, rfl, by omega, fin (by omega) j1 (by omega)⟩
  refine wb_cons (ws_if (wt_eqI ?_))
  walk_at "name"
  refine we_int ⟨_, _, rfl, rfl, ?_⟩
  by_cases hv0 : v = 0
  · refine itP (decide_eq_true hv0) (wb_cons (ws_ret (we_joinS (fun _ => rfl) rfl (fun _ => rfl) hK (we_cat (we_cat (we_sliceE hK ?_))))))
    walk_at "name"
    walk_at "name"
    refine ⟨_, u, rfl, rfl, we_sliceLN hK ?_⟩
    walk_at "name"
    walk_at "name"
    refine ⟨u, rfl, we_add ?_⟩
    walk_at "name"
    refine we_int ⟨_, _, rfl, rfl, _, u + 1, rfl, rfl, ?_⟩
    rw [← List.map_take, ← List.map_drop, ← List.map_take]
    refine ⟨_, _, rfl, rfl, by simp only [List.length_map, List.length_take, List.length_drop]; omega, ?_⟩
    rw [← List.map_append]
    refine we_sliceF hK ?_
    walk_at "name"
    walk_at "name"
    refine ⟨_, u, rfl, rfl, _, _, rfl, rfl, ?_⟩
    rw [← List.map_drop, ← List.map_append]
    refine ⟨by simp only [List.length_map, List.length_take, List.length_drop, List.length_append]; omega, ?_⟩
    exact jn (((hw.take u).app ((hw.drop u).take _)).app (hw.drop u)) (by omega)
  refine itN (decide_eq_false hv0) (wb_nil (wb_cons (ws_if (wt_eqI ?_))))
  walk_at "name"
  refine we_int ⟨_, _, rfl, rfl, ?_⟩
  by_cases hv1 : v = 1
  · refine itP (decide_eq_true hv1) (wb_cons (ws_ret (we_joinS (fun _ => rfl) rfl (fun _ => rfl) hK (we_cat (we_sliceE hK ?_)))))
    walk_at "name"
    refine we_int ⟨_, 1, rfl, rfl, we_revL hK (we_sliceF hK ?_)⟩
    walk_at "name"
    refine we_int ⟨_, 1, rfl, rfl, _, rfl, _, _, rfl, rfl, ?_⟩
    rw [← List.map_take, ← List.map_drop, ← List.map_reverse, ← List.map_append]
    refine ⟨by simp only [List.length_map, List.length_take, List.length_drop, List.length_reverse]; omega, ?_⟩
    exact jn ((hw.take 1).app (hw.drop 1).rev) (by omega)
  refine itN (decide_eq_false hv1) (wb_nil (wb_cons (ws_if (wt_eqI ?_))))
  walk_at "name"
  refine we_int ⟨_, _, rfl, rfl, ?_⟩
  by_cases hv2 : v = 2
  · refine itP (decide_eq_true hv2) (wb_cons (ws_ret (we_joinS (fun _ => rfl) rfl (fun _ => rfl) hK (we_cat (we_sliceE hK ?_)))))
    walk_at "name"
    walk_at "name"
    refine ⟨_, u, rfl, rfl, we_sliceF hK ?_⟩
    walk_at "name"
    refine we_add ?_
    walk_at "name"
    refine we_int ⟨_, _, rfl, rfl, _, u + 1, rfl, rfl, _, _, rfl, rfl, ?_⟩
    rw [← List.map_take, ← List.map_drop, ← List.map_append]
    refine ⟨by simp only [List.length_map, List.length_take, List.length_drop]; omega, ?_⟩
    exact jn ((hw.take u).app (hw.drop (u + 1))) (by omega)
  refine itN (decide_eq_false hv2) (wb_nil (wb_cons (ws_set 5 (by walk_at "tgt") (fun env h => by cases env; cases h; rfl) (we_callQ dk gn (by show 1 ≤ 1; decide) hK 0 rfl rfl (by walk_at "vis") rfl (wa_cons (fun _ => rfl) (we_add (we_lenS rfl ml (fun _ => rfl) ?_)))))))
  walk_at "name"
  refine ⟨t, rfl, by omega, we_int ⟨_, _, rfl, rfl, wa_nil ⟨⟨_, rfl, by omega, by omega⟩, kk + 3, rfl, ?_⟩⟩⟩
  rintro d ⟨m', a, e1, rfl, a0, a1⟩
  cases e1
  obtain ⟨a, rfl⟩ : ∃ z : Nat, a = (z : Int) := ⟨a.toNat, by omega⟩
  refine wb_cons (ws_set 6 (by walk_at "tgt") (fun env h => by cases env; cases h; rfl) (we_ix hK (fun _ _ => rfl) (we_lst ?_)))
  iterate 10 refine wa_cons (fun _ => rfl) (we_str ?_)
  refine wa_nil ⟨by show 10 ≤ _; decide, we_callQ dk gn (by show 1 ≤ 1; decide) hK 0 rfl rfl (by walk_at "vis") rfl (wa_cons (fun _ => rfl) (we_int (wa_nil ⟨⟨_, rfl, by decide, by decide⟩, kk + 2, rfl, ?_⟩)))⟩
  rintro d ⟨m', b, e1, rfl, b0, b1⟩
  cases e1
  obtain ⟨b, rfl⟩ : ∃ z : Nat, b = (z : Int) := ⟨b.toNat, by omega⟩
  have hb : b < sgT.length := by show b < 10; omega
  obtain ⟨sg, hsg⟩ : ∃ x, sgT[b]? = some x := ⟨_, List.getElem?_eq_getElem hb⟩
  obtain ⟨ag, lg⟩ := sg_ok sg (List.mem_of_getElem? hsg)
  refine ⟨.str sg, atI_nat (j := b) (xs := sgT.map PyData.str) (by rw [List.getElem?_map, hsg]; rfl), ?_⟩
  have htl : t.cps.toList.length = t.length := by simp [Str.length]
  refine wb_cons (ws_ret (we_addS (we_addS (we_cutTo ?_))))
  walk_at "name"
  walk_at "name"
  refine ⟨t, a, rfl, rfl, by omega, we_mulS ?_⟩
  walk_at "name"
  refine we_callQ dk gn (by show 1 ≤ 1; decide) hK 0 rfl rfl (by walk_at "vis") rfl (wa_cons (fun _ => rfl) (we_int (wa_nil ⟨⟨_, rfl, by decide, by decide⟩, kk + 1, rfl, ?_⟩)))
  rintro d ⟨m', c, e1, rfl, c0, c1⟩
  cases e1
  have c01 : c = 0 ∨ c = 1 := by omega
  obtain ⟨gs, hgs, ags, lgs⟩ : ∃ gs : Str, (if c = 1 then sg else Str.empty) = gs ∧ AS gs ∧ gs.length ≤ 4 := by
    rcases c01 with rfl | rfl
    · exact ⟨Str.empty, rfl, by decide +kernel, by decide +kernel⟩
    · exact ⟨sg, rfl, ag, lg⟩
  refine ⟨sg, c, rfl, rfl, c01, ?_⟩
  rw [hgs]
  have l1 : (⟨(t.cps.toList.take a).toArray⟩ : Str).length ≤ t.length := by
    show (t.cps.toList.take a).toArray.size ≤ _
    rw [List.size_toArray, List.length_take]
    omega
  refine ⟨_, _, rfl, rfl, by omega, we_cutFrom ?_⟩
  walk_at "name"
  refine we_add ?_
  walk_at "name"
  refine we_callQ dk gn (by show 1 ≤ 1; decide) hK 0 rfl rfl (by walk_at "vis") rfl (wa_cons (fun _ => rfl) (we_int (wa_nil ⟨⟨_, rfl, by decide, by decide⟩, kk, rfl, ?_⟩)))
  rintro d ⟨m', g, e1, rfl, g0, g1⟩
  cases e1
  obtain ⟨g, rfl⟩ : ∃ z : Nat, g = (z : Int) := ⟨g.toNat, by omega⟩
  refine ⟨_, _, rfl, rfl, t, a + g, rfl, by rw [Int.natCast_add], by omega, ?_⟩
  have l2 : (⟨(t.cps.toList.drop (a + g)).toArray⟩ : Str).length ≤ t.length := by
    show (t.cps.toList.drop (a + g)).toArray.size ≤ _
    rw [List.size_toArray, List.length_drop]
    omega
  have l3 := Str.length_append (⟨(t.cps.toList.take a).toArray⟩ : Str) gs
  refine ⟨_, _, rfl, rfl, by omega, fin (Nat.le_refl _) (((has.part fun c hc => List.mem_of_mem_take hc).app ags).app (has.part fun c hc => List.mem_of_mem_drop hc)) ?_⟩
  rw [Str.length_append]
  omega
end

def renN : List Nat → Nat → Nat
  | [], _ => 0
  | o :: os, c => (if bitN c o then 1 else 0) + 2 * renN os c
theorem ren_snoc : ∀ (os : List Nat) (o c : Nat), renN (os ++ [o]) c = renN os c + (if bitN c o then 2 ^ os.length else 0)
  | [], o, c => by
    show (if bitN c o then 1 else 0) + 2 * 0 = 0 + (if bitN c o then 2 ^ 0 else 0)
    split <;> rfl
  | q :: os, o, c => by
    show (if bitN c q then 1 else 0) + 2 * renN (os ++ [o]) c = (if bitN c q then 1 else 0) + 2 * renN os c + (if bitN c o then 2 ^ (os.length + 1) else 0)
    rw [ren_snoc os o c, Nat.pow_succ]
    split <;> split <;> omega
theorem ren_lt : ∀ (os : List Nat) (c : Nat), renN os c < 2 ^ os.length
  | [], c => by show 0 < 2 ^ 0; decide
  | o :: os, c => by
    have := ren_lt os c
    show (if bitN c o then 1 else 0) + 2 * renN os c < 2 ^ (os.length + 1)
    rw [Nat.pow_succ]
    split <;> omega
theorem bit_half (b x k : Nat) (hb : b < 2) : bitN (b + 2 * x) (k + 1) = bitN x k := by
  unfold bitN
  rw [Nat.pow_succ, Nat.mul_comm (2 ^ k) 2, ← Nat.div_div_eq_div_mul, show (b + 2 * x) / 2 = x by omega]
theorem ren_bit : ∀ (os : List Nat) (c k o : Nat), os[k]? = some o → bitN (renN os c) k = bitN c o
  | [], c, k, o, h => by simp at h
  | q :: os, c, 0, o, h => by
    cases h
    show decide (((if bitN c q then 1 else 0) + 2 * renN os c) / 2 ^ 0 % 2 = 1) = bitN c q
    rw [Nat.pow_zero, Nat.div_one]
    cases bitN c q
    · exact decide_eq_false (by show ¬ (0 + 2 * renN os c) % 2 = 1; omega)
    · exact decide_eq_true (by show (1 + 2 * renN os c) % 2 = 1; omega)
  | q :: os, c, k + 1, o, h => by
    show bitN ((if bitN c q then 1 else 0) + 2 * renN os c) (k + 1) = _
    rw [bit_half _ _ _ (by split <;> omega)]
    exact ren_bit os c k o (by simpa using h)
theorem bits_eq {n a b : Nat} (ha : a < 2 ^ n) (hb : b < 2 ^ n) (h : ∀ k < n, bitN a k = bitN b k) : a = b := by
  have tb : ∀ x k : Nat, x.testBit k = bitN x k := fun x k => by
    unfold bitN
    rw [Nat.testBit_eq_decide_div_mod_eq]
  apply Nat.eq_of_testBit_eq
  intro k
  rcases Nat.lt_or_ge k n with hk | hk
  · rw [tb, tb, h k hk]
  · rw [Nat.testBit_lt_two_pow (Nat.lt_of_lt_of_le ha (Nat.pow_le_pow_right (by decide) hk)), Nat.testBit_lt_two_pow (Nat.lt_of_lt_of_le hb (Nat.pow_le_pow_right (by decide) hk))]
section
variable {n : Nat} {os : List Nat}
theorem ren_inj (hp : os.Perm (List.range n)) {a b : Nat} (ha : a < 2 ^ n) (hb : b < 2 ^ n) (e : renN os a = renN os b) : a = b := by
  refine bits_eq ha hb fun k hk => ?_
  obtain ⟨i, hi⟩ := List.getElem?_of_mem (hp.mem_iff.mpr (List.mem_range.mpr hk))
  rw [← ren_bit os a i k hi, ← ren_bit os b i k hi, e]
def renI (os : List Nat) (c : Int) : Int := ((renN os c.toNat : Nat) : Int)
theorem ren_nat (os : List Nat) (c : Nat) : renI os (c : Int) = ((renN os c : Nat) : Int) := by unfold renI; rw [Int.toNat_natCast]
theorem renI_rng (hp : os.Perm (List.range n)) (c : Int) : 0 ≤ renI os c ∧ renI os c < 2 ^ n := by
  have := ren_lt os c.toNat
  rw [hp.length_eq, List.length_range] at this
  unfold renI
  rw [cast2]; omega
theorem ren_good (hp : os.Perm (List.range n)) {cs : List Int} (hb : IsBox n cs) : GoodC n (cs.map (renI os)) := by
  refine ⟨?_, fun z hz => ?_⟩
  · unfold List.Nodup
    rw [List.pairwise_map]
    refine (List.Pairwise.and_mem.mp hb.asc).imp ?_
    rintro x y ⟨hx, hy, hlt⟩ e
    obtain ⟨x, rfl, hx'⟩ := to_nat (hb.rng x hx)
    obtain ⟨y, rfl, hy'⟩ := to_nat (hb.rng y hy)
    rw [ren_nat, ren_nat] at e
    have := ren_inj hp hx' hy' (by omega)
    omega
  · obtain ⟨c, _, rfl⟩ := List.mem_map.mp hz
    exact renI_rng hp c
def renmL (n : Nat) (cs : List Int) (os : List Nat) : List Int := imgL n (renI os) cs
theorem mem_renm (hp : os.Perm (List.range n)) {cs : List Int} (z : Int) : z ∈ renmL n cs os ↔ ∃ c ∈ cs, renI os c = z := mem_img (fun c _ => renI_rng hp c) z
end

open TL
/-! the signs of a card's text -/
def dl (n c : Nat) : List Nat := if n = 0 then [45] else (List.range n).map fun k => if bitN c k then 49 else 48
theorem joinL_none : ∀ ws : List (List Nat), joinL [] ws = ws.flatten
  | [] => rfl
  | [w] => by show w = [w].flatten; simp
  | w :: v :: ws => by
    show w ++ ([] ++ joinL [] (v :: ws)) = _
    rw [joinL_none (v :: ws)]; rfl
theorem tl_none : tl ("" : Str) = [] := by decide +kernel
theorem tl_dash : tl ("-" : Str) = [45] := by decide +kernel
theorem tl_zero : tl ("0" : Str) = [48] := by decide +kernel
theorem tl_one : tl ("1" : Str) = [49] := by decide +kernel
theorem tl_tx (n c : Nat) : tl (tx n c) = dl n c := by
  unfold tx dl
  by_cases h : n = 0
  · rw [if_pos h, if_pos h, tl_dash]
  · rw [if_neg h, if_neg h, join_eq, tl_join, tl_none, joinL_none, List.map_map]
    have e : ((List.range n).map (tl ∘ fun k => dgT (bitN c k))) = (List.range n).map fun k => [if bitN c k then 49 else 48] := by
      refine List.map_congr_left fun k _ => ?_
      show tl (dgT (bitN c k)) = _
      unfold dgT
      cases bitN c k
      · exact tl_zero
      · exact tl_one
    rw [e, ← List.flatMap_def]
    rw [List.map_eq_flatMap]
theorem dl_no32 : ∀ n ≤ 6, ∀ c < 2 ^ n, 32 ∉ dl n c ∧ dl n c ≠ [110, 111, 110, 101] := by decide +kernel
theorem dl_rev : ∀ n ≤ 6, 1 ≤ n → ∀ c < 2 ^ n, (dl n c).reverse = dl n (renN (List.range n).reverse c) := by decide +kernel
theorem dl_mono : ∀ n ≤ 6, ∀ a < 2 ^ n, ∀ b < a, 1 ≤ n → decide ((dl n b).reverse ≤ (dl n a).reverse) = true := by decide +kernel
theorem dl_flip : ∀ n ≤ 6, 1 ≤ n → ∀ c < 2 ^ n, (((dl n c).map fun x => if x = 48 then 120 else x).map fun x => if x = 49 then 48 else x).map (fun x => if x = 120 then 49 else x) = dl n (2 ^ n - 1 - c) := by decide +kernel
theorem dl_more : ∀ n < 6, 1 ≤ n → ∀ c < 2 ^ n, dl (n + 1) c = dl n c ++ [48] ∧ dl (n + 1) (c + 2 ^ n) = dl n c ++ [49] := by decide +kernel
/-! words -/
def txL (n : Nat) (cs : List Int) : List Str := cs.map fun c => tx n c.toNat
def wdsT (n : Nat) (cs : List Int) : List Str := if cs = [] then [("none" : Str)] else txL n cs
theorem wds_ne (n : Nat) (cs : List Int) : wdsT n cs ≠ [] := by
  unfold wdsT txL
  by_cases h : cs = []
  · rw [if_pos h]; simp
  · rw [if_neg h]; simpa using h
theorem box_words {n : Nat} (hn : n ≤ 6) (cs : List Int) : boxT n cs = Txt.join " " (hdT n :: wdsT n cs) := by
  refine ext_tl ?_
  rw [join_eq, tl_join, sp_tl]
  obtain ⟨v, vs, e⟩ : ∃ v vs, wdsT n cs = v :: vs := by
    cases e : wdsT n cs with
    | nil => exact absurd e (wds_ne n cs)
    | cons v vs => exact ⟨v, vs, rfl⟩
  have e2 : tl (cardsT n cs) = joinL [32] ((wdsT n cs).map tl) := by
    unfold wdsT
    by_cases h : cs = []
    · rw [if_pos h, h]; rfl
    · rw [if_neg h, tl_cards h]
      unfold txL
      rw [List.map_map]; rfl
  rw [List.map_cons, e, List.map_cons]
  show _ = tl (hdT n) ++ ([32] ++ joinL [32] ((v :: vs).map tl))
  rw [← e, ← e2]
  unfold boxT hdT
  have ec : tl (": " : Str) = tl (":" : Str) ++ [32] := by decide +kernel
  simp only [tl_append, ec, List.append_assoc]
theorem hd_no32 : ∀ n ≤ 6, 32 ∉ tl (hdT n) := by decide +kernel
theorem none_tl : tl ("none" : Str) = [110, 111, 110, 101] := by decide +kernel
theorem rng63 {n : Nat} {cs : List Int} (hb : IsBox n cs) {c : Int} (hc : c ∈ cs) : c.toNat < 2 ^ n ∧ ((c.toNat : Nat) : Int) = c := by
  have := hb.rng c hc
  have e2 : ((2 ^ n : Nat) : Int) = (2 : Int) ^ n := by rw [Int.natCast_pow]; rfl
  constructor <;> omega
theorem wds_no32 {n : Nat} (hn : n ≤ 6) {cs : List Int} (hb : IsBox n cs) : ∀ w ∈ wdsT n cs, 32 ∉ tl w := fun w hw => by
  unfold wdsT at hw
  by_cases h : cs = []
  · rw [if_pos h, List.mem_singleton] at hw
    rw [hw, none_tl]; decide
  · rw [if_neg h] at hw
    obtain ⟨c, hc, rfl⟩ := List.mem_map.mp hw
    rw [tl_tx]
    exact (dl_no32 n hn _ (rng63 hb hc).1).1
theorem split_box {n : Nat} (hn : n ≤ 6) {cs : List Int} (hb : IsBox n cs) : Txt.split (boxT n cs) " " = hdT n :: wdsT n cs := by
  rw [box_words hn]
  exact split_join (s := 32) (S := []) sp_tl (by decide +kernel) (by simp) fun p hp => by
    rcases List.mem_cons.mp hp with rfl | hp
    · exact hd_no32 n hn
    · exact wds_no32 hn hb p hp
theorem tx_none {n : Nat} (hn : n ≤ 6) {c : Nat} (hc : c < 2 ^ n) : tx n c ≠ "none" := fun z => by
  have := congrArg tl z
  rw [tl_tx, none_tl] at this
  exact (dl_no32 n hn c hc).2 this
theorem wds_filter {n : Nat} (hn : n ≤ 6) {cs : List Int} (hb : IsBox n cs) : (wdsT n cs).filter (fun w => !decide (w = ("none" : Str))) = txL n cs := by
  unfold wdsT
  by_cases h : cs = []
  · rw [if_pos h, h]; rfl
  · rw [if_neg h]
    refine List.filter_eq_self.mpr fun w hw => ?_
    obtain ⟨c, hc, rfl⟩ := List.mem_map.mp hw
    rw [decide_eq_false (tx_none hn (rng63 hb hc).1)]
    rfl
theorem jn_box {n : Nat} (hn : n ≤ 7) (cs : List Int) : jnT n (txL n cs) = (((toString (n : Int) : String) : Str) ++ ": ") ++ cardsT n cs := by
  unfold jnT cardsT txL
  congr 1
  by_cases h : cs = []
  · rw [if_pos h, if_pos (by rw [h]; rfl), h]
    rfl
  · rw [if_neg h, if_neg (by simpa using h), List.append_nil]
theorem empty_app (x : Str) : Str.empty ++ x = x := ext_tl (by rw [tl_append]; rfl)
theorem box_jn {n : Nat} (hn : n ≤ 7) (cs : List Int) : boxT n cs = jnT n (txL n cs) := by
  rw [jn_box hn]
  unfold boxT
  rw [empty_app]
/-! parse_box of the text of a box -/
theorem place_tx1 {n : Nat} (hn : n ≤ 6) {c : Nat} (hc : c < 2 ^ n) : placeD (tx n c) (txs n) = some c := by
  have hl : c < (txs n).length := by rw [txs_len]; exact hc
  have he : (txs n)[c]? = some (tx n c) := by
    unfold txs
    rw [List.getElem?_map, List.getElem?_range hc]; rfl
  cases h : placeD (tx n c) (txs n) with
  | none =>
    have hany := place_any (tx n c) (txs n)
    rw [h] at hany
    have : (txs n).any (· == tx n c) = true := List.any_eq_true.mpr ⟨_, List.mem_of_getElem? he, by simp⟩
    rw [this] at hany
    cases hany
  | some j =>
    have hj := (place_some h).1
    have hjl := place_lt h
    rw [txs_len] at hjl
    unfold txs at hj
    rw [List.getElem?_map, List.getElem?_range hjl] at hj
    rw [tx_inj hn hjl hc (Option.some.inj hj)]
theorem prcL_cs {n : Nat} (hn : n ≤ 6) : ∀ (cs : List Int) (i : Nat) (acc : List Int), IsBox n (acc ++ cs) → prcL n (txL n cs) i acc = .inr (acc ++ cs)
  | [], i, acc, _ => by rw [List.append_nil]; rfl
  | c :: cs, i, acc, hb => by
    obtain ⟨h1, h2⟩ := rng63 hb (c := c) (List.mem_append_right _ List.mem_cons_self)
    show prcL n (tx n c.toNat :: txL n cs) i acc = _
    rw [prcL_some (place_tx1 hn h1), h2, if_neg, prcL_cs hn cs (i + 1) (acc ++ [c]) (by rw [List.append_assoc]; exact hb), List.append_assoc]
    · rfl
    · rintro ⟨hne, hle⟩
      have ha := (List.pairwise_append.mp hb.asc).2.2
      rcases List.eq_nil_or_concat acc with e | ⟨l, x, e⟩
      · exact hne e
      · rw [List.concat_eq_append] at e
        subst e
        rw [List.getLastD_concat] at hle
        have := ha x (List.mem_append_right _ (List.mem_singleton.mpr rfl)) c List.mem_cons_self
        omega
theorem hd_place : ∀ n ≤ 6, placeD (hdT n) hds = some n := by decide +kernel
theorem prs_boxT {n : Nat} (hn : n ≤ 6) {cs : List Int} (hb : IsBox n cs) : prsT (boxT n cs) = .box n cs := by
  unfold prsT
  rw [split_box hn hb]
  show (match placeD (hdT n) hds with | none => _ | some m => _) = _
  rw [hd_place n hn]
  have h1 : ¬ (hdT n :: wdsT n cs).length = 1 := by
    rw [List.length_cons]
    have : (wdsT n cs).length ≠ 0 := fun z => wds_ne n cs (List.eq_nil_of_length_eq_zero z)
    omega
  show (if (hdT n :: wdsT n cs).length = 1 then PrT.bad (some 1) else prcT n (hdT n :: wdsT n cs).tail) = _
  rw [if_neg h1]
  show prcT n (wdsT n cs) = _
  unfold prcT pcs wdsT
  by_cases h : cs = []
  · rw [if_pos h, h]; rfl
  · rw [if_neg h]
    have h0 : ¬ (txL n cs).head? = some ("none" : Str) := by
      cases cs with
      | nil => exact absurd rfl h
      | cons c cs =>
        intro z
        have z : some (tx n c.toNat) = some ("none" : Str) := z
        exact tx_none hn (rng63 hb (c := c) List.mem_cons_self).1 (Option.some.inj z)
    rw [if_neg h0, prcL_cs hn cs 1 [] hb]
    rfl

def prodL (n : Nat) (cs os : List Int) : List Int := os.flatMap fun o => cs.map fun c => c + o * 2 ^ n
theorem mem_prod {n : Nat} {cs os : List Int} {z : Int} : z ∈ prodL n cs os ↔ ∃ o ∈ os, ∃ c ∈ cs, c + o * 2 ^ n = z := by
  unfold prodL
  rw [List.mem_flatMap]
  constructor
  · rintro ⟨o, ho, h⟩
    obtain ⟨c, hc, e⟩ := List.mem_map.mp h
    exact ⟨o, ho, c, hc, e⟩
  · rintro ⟨o, ho, c, hc, e⟩
    exact ⟨o, ho, List.mem_map.mpr ⟨c, hc, e⟩⟩
theorem pow_posI (n : Nat) : (0 : Int) < 2 ^ n := Int.pow_pos (by decide)
theorem prod_box {n m : Nat} {cs os : List Int} (ha : IsBox n cs) (hb : IsBox m os) : IsBox (n + m) (prodL n cs os) := by
  have hp := pow_posI n
  have key : ∀ a b : Int, a < b → a * 2 ^ n + 2 ^ n ≤ b * 2 ^ n := fun a b h => by
    have := Int.mul_le_mul_of_nonneg_right (show a + 1 ≤ b by omega) (Int.le_of_lt hp)
    rw [Int.add_mul, Int.one_mul] at this
    exact this
  constructor
  · unfold prodL
    rw [List.pairwise_flatMap]
    constructor
    · intro o _
      rw [List.pairwise_map]
      exact ha.asc.imp fun h => by omega
    · refine hb.asc.imp fun {a b} h x hx y hy => ?_
      obtain ⟨c, hc, rfl⟩ := List.mem_map.mp hx
      obtain ⟨d, hd, rfl⟩ := List.mem_map.mp hy
      have h1 := ha.rng c hc
      have h2 := ha.rng d hd
      have h3 := key a b h
      omega
  · intro z hz
    obtain ⟨o, ho, c, hc, rfl⟩ := mem_prod.mp hz
    have h1 := ha.rng c hc
    have h2 := hb.rng o ho
    have h3 := key o (2 ^ m) h2.2
    have h4 : 0 ≤ o * 2 ^ n := Int.mul_nonneg h2.1 (Int.le_of_lt hp)
    rw [Int.pow_add, Int.mul_comm (2 ^ n)]
    omega
def topL (cs os : List Int) (on : Bool) : List Int := if decide ((if on = true then 1 else 0 : Int) ∈ os) = true then cs else []
theorem b0 : IsBox 1 [0] := ⟨by decide, by decide⟩
theorem b1 : IsBox 1 [1] := ⟨by decide, by decide⟩
/-! reversed words, sorted by what they were -/
theorem tl_revS (z : Str) : tl (revS z) = (tl z).reverse := rfl
def revO (n : Nat) : List Nat := (List.range n).reverse
theorem revO_perm (n : Nat) : (revO n).Perm (List.range n) := List.reverse_perm _
theorem rev_tx {n c : Nat} (hn : n ≤ 6) (h1 : 1 ≤ n) (hc : c < 2 ^ n) : revS (tx n c) = tx n (renN (revO n) c) :=
  ext_tl (by rw [tl_revS, tl_tx, tl_tx, dl_rev n hn h1 c hc]; rfl)
def leS (a b : Str) : Bool := decide ((revS a).cps.toList ≤ (revS b).cps.toList)
theorem keySort_eq (xs : List Str) : keySort xs = xs.mergeSort leS := by
  unfold keySort
  rw [PySem.W.dataLe_str]
  rfl
theorem leS_trans (a b c : Str) (h1 : leS a b = true) (h2 : leS b c = true) : leS a c = true := decide_eq_true (Std.le_trans (of_decide_eq_true h1) (of_decide_eq_true h2))
theorem leS_total (a b : Str) : (leS a b || leS b a) = true := by
  rw [Bool.or_eq_true]
  exact (Std.le_total (a := (revS a).cps.toList) (b := (revS b).cps.toList)).imp (fun z => decide_eq_true z) fun z => decide_eq_true z
theorem leS_anti (a b : Str) (h1 : leS a b = true) (h2 : leS b a = true) : a = b := by
  have e : (revS a).cps.toList = (revS b).cps.toList := Std.le_antisymm (of_decide_eq_true h1) (of_decide_eq_true h2)
  have e2 : (tl a).reverse = (tl b).reverse := e
  exact ext_tl (List.reverse_inj.mp e2)
theorem turned_words {n : Nat} (hn : n ≤ 6) (h1 : 1 ≤ n) {cs : List Int} (hb : IsBox n cs) : keySort ((txL n cs).map revS) = txL n (renmL n cs (revO n)) := by
  have hp := revO_perm n
  have hes : IsBox n (renmL n cs (revO n)) := img_box _ _ _
  have hperm : (renmL n cs (revO n)).Perm (cs.map (renI (revO n))) := by
    refine (List.perm_ext_iff_of_nodup (asc_nodup hes.asc) (ren_good hp hb).nd).mpr fun z => ?_
    rw [mem_renm hp, List.mem_map]
  have e1 : (txL n cs).map revS = (cs.map (renI (revO n))).map fun c => tx n c.toNat := by
    unfold txL
    rw [List.map_map, List.map_map]
    refine List.map_congr_left fun c hc => ?_
    obtain ⟨h2, h3⟩ := rng63 hb hc
    show revS (tx n c.toNat) = tx n (renI (revO n) c).toNat
    rw [rev_tx hn h1 h2]
    unfold renI
    rw [Int.toNat_natCast]
  rw [keySort_eq, e1]
  refine List.Perm.eq_of_pairwise (le := fun a b => leS a b = true) (fun a b _ _ => leS_anti a b) (List.pairwise_mergeSort leS_trans leS_total _) ?_ ((List.mergeSort_perm _ _).trans ((hperm.map _).symm))
  show List.Pairwise _ ((renmL n cs (revO n)).map fun c => tx n c.toNat)
  rw [List.pairwise_map]
  refine (List.Pairwise.and_mem.mp hes.asc).imp ?_
  rintro a b ⟨ha, hb2, hlt⟩
  obtain ⟨a1, a2⟩ := rng63 hes ha
  obtain ⟨b1, b2⟩ := rng63 hes hb2
  have hm := dl_mono n hn b.toNat b1 a.toNat (by omega) h1
  show decide ((tl (revS (tx n a.toNat))) ≤ (tl (revS (tx n b.toNat)))) = true
  rw [tl_revS, tl_revS, tl_tx, tl_tx]
  exact hm
/-! exchanged digits -/
theorem repl_one (a b : Nat) : ∀ l : List Nat, StrLaws.replL [a] [b] l = l.map fun x => if x = a then b else x
  | [] => StrLaws.replL_nil
  | c :: r => by
    by_cases h : c = a
    · subst h
      rw [StrLaws.replL_hit (by simp) (by rfl), List.map_cons, if_pos rfl]
      show [b] ++ StrLaws.replL [c] [b] r = _
      rw [repl_one c b r]
      rfl
    · rw [StrLaws.replL_miss (by simpa using h), List.map_cons, if_neg h, repl_one a b r]
def chT (t : Str) : Str := Txt.replace (Txt.replace (Txt.replace t "0" "x") "1" "0") "x" "1"
theorem tl_x : tl ("x" : Str) = [120] := by decide +kernel
theorem tl_repl {x y z : Str} {a b : Nat} (hy : tl y = [a]) (hz : tl z = [b]) : tl (Txt.replace x y z) = (tl x).map fun c => if c = a then b else c := by
  have hl : 1 ≤ y.length := by rw [len_tl, hy]; exact Nat.le_refl 1
  have := StrLaws.replace_list (x := x) (z := z) hl
  show (Txt.replace x y z).cps.toList = _
  rw [this]
  show StrLaws.replL (tl y) (tl z) (tl x) = _
  rw [hy, hz, repl_one]
theorem ch_tx {n c : Nat} (hn : n ≤ 6) (h1 : 1 ≤ n) (hc : c < 2 ^ n) : chT (tx n c) = tx n (2 ^ n - 1 - c) := by
  refine ext_tl ?_
  unfold chT
  rw [tl_repl tl_x tl_one, tl_repl tl_one tl_zero, tl_repl tl_zero tl_x, tl_tx, tl_tx]
  exact dl_flip n hn h1 c hc
theorem xor_all : ∀ n ≤ 6, ∀ c < 2 ^ n, c ^^^ (2 ^ n - 1) = 2 ^ n - 1 - c := by decide +kernel
theorem flip_all {n : Nat} (hn : n ≤ 6) {cs : List Int} (hb : IsBox n cs) : flipL n cs (2 ^ n - 1) = cs.reverse.map fun c => 2 ^ n - 1 - c := by
  have hpos := Nat.two_pow_pos n
  have hf : 0 ≤ (2 : Int) ^ n - 1 ∧ (2 : Int) ^ n - 1 < 2 ^ n := by rw [cast2]; omega
  refine uniqI (flip_box _ _ _).asc ?_ fun z => ?_
  · rw [List.pairwise_map, List.pairwise_reverse]
    exact hb.asc.imp fun {a b} h => by omega
  · rw [mem_flip hn hb hf, List.mem_map]
    have key : ∀ c ∈ cs, Builtin.bitXor c (2 ^ n - 1) = 2 ^ n - 1 - c := fun c hc => by
      obtain ⟨m, rfl, hm⟩ := to_nat (hb.rng c hc)
      have e : (2 : Int) ^ n - 1 = ((2 ^ n - 1 : Nat) : Int) := by rw [cast2]; omega
      rw [e, bxor_nat (lt64 hn hm) (lt64 hn (by omega)), xor_all n hn m hm]
      omega
    constructor
    · rintro ⟨c, hc, rfl⟩
      exact ⟨c, List.mem_reverse.mpr hc, (key c hc).symm⟩
    · rintro ⟨c, hc, rfl⟩
      have hc := List.mem_reverse.mp hc
      exact ⟨c, hc, key c hc⟩
theorem flip_words {n : Nat} (hn : n ≤ 6) (h1 : 1 ≤ n) {cs : List Int} (hb : IsBox n cs) : (txL n cs).reverse.map chT = txL n (flipL n cs (2 ^ n - 1)) := by
  rw [flip_all hn hb]
  unfold txL
  rw [← List.map_reverse, List.map_map, List.map_map]
  refine List.map_congr_left fun c hc => ?_
  obtain ⟨h2, h3⟩ := rng63 hb (List.mem_reverse.mp hc)
  show chT (tx n c.toNat) = tx n (2 ^ n - 1 - c).toNat
  rw [ch_tx hn h1 h2]
  congr 1
  rw [cast2]
  omega
/-! one more digit -/
theorem more_words {n : Nat} (hn : n < 6) (h1 : 1 ≤ n) {cs : List Int} (hb : IsBox n cs) : (txL n cs).map (· ++ ("0" : Str)) = txL (n + 1) (prodL n cs [0]) ∧ (txL n cs).map (· ++ ("1" : Str)) = txL (n + 1) (prodL n cs [1]) := by
  have e0 : prodL n cs [0] = cs := by
    unfold prodL
    rw [List.flatMap_cons, List.flatMap_nil, List.append_nil]
    refine (List.map_congr_left fun c _ => ?_).trans (List.map_id cs)
    show c + 0 * 2 ^ n = c
    omega
  have e1 : prodL n cs [1] = cs.map fun c => c + 2 ^ n := by
    unfold prodL
    rw [List.flatMap_cons, List.flatMap_nil, List.append_nil]
    exact List.map_congr_left fun c _ => by rw [Int.one_mul]
  rw [e0, e1]
  unfold txL
  rw [List.map_map, List.map_map, List.map_map]
  refine ⟨List.map_congr_left fun c hc => ?_, List.map_congr_left fun c hc => ?_⟩
  · obtain ⟨h2, h3⟩ := rng63 hb hc
    show tx n c.toNat ++ ("0" : Str) = tx (n + 1) c.toNat
    refine ext_tl ?_
    rw [tl_append, tl_tx, tl_tx, tl_zero, (dl_more n hn h1 _ h2).1]
  · obtain ⟨h2, h3⟩ := rng63 hb hc
    show tx n c.toNat ++ ("1" : Str) = tx (n + 1) (c + 2 ^ n).toNat
    refine ext_tl ?_
    have e : (c + 2 ^ n).toNat = c.toNat + 2 ^ n := by rw [cast2]; omega
    rw [tl_append, tl_tx, tl_tx, tl_one, e, (dl_more n hn h1 _ h2).2]


abbrev nSml : List Str := ["_law_found", "_law_n", "_law_number", "_law_card"]
theorem scSml : FnScope nSml [] (defScope (topS 30)) := ⟨rfl, rfl, rfl, by decide +kernel, rfl, by decide +kernel, by decide +kernel⟩
def smP (n m : Nat) : List Int := (rg (2 ^ n)).filter fun c => decide (Builtin.bitAnd ((m : Int) / 2 ^ c.toNat) 1 = 1)
def smR (n j : Nat) : List (Nat × List Int) := (List.range j).map fun m => (n, smP n m)
def smA (n : Nat) : List (Nat × List Int) := (List.range n).flatMap fun i => smR i (2 ^ 2 ^ i)
def bxP (p : Nat × List Int) : PyData := boxD p.1 p.2
theorem smR_len (n j : Nat) : (smR n j).length = j := by unfold smR; rw [List.length_map, List.length_range]
theorem smR_snoc (n j : Nat) : smR n (j + 1) = smR n j ++ [(n, smP n j)] := by unfold smR; rw [List.range_succ, List.map_append]; rfl
theorem smA_snoc (n : Nat) : smA (n + 1) = smA n ++ smR n (2 ^ 2 ^ n) := by unfold smA; rw [List.range_succ, List.flatMap_append, List.flatMap_singleton]
theorem smA_len : ∀ n ≤ 3, (smA n).length ≤ 100 := by decide +kernel
theorem smP_box (n m : Nat) : IsBox n (smP n m) := ⟨rg_pairwise.filter _, fun c hc => mem_rg.mp (List.mem_filter.mp hc).1⟩
theorem smA_ok : ∀ p ∈ smA 3, p.1 ≤ 6 ∧ IsBox p.1 p.2 := fun p hp => by
  obtain ⟨i, hi, hp⟩ := List.mem_flatMap.mp hp
  obtain ⟨m, _, rfl⟩ := List.mem_map.mp hp
  have := List.mem_range.mp hi
  exact ⟨by show i ≤ 6; omega, smP_box i m⟩
theorem pw_small : ∀ n < 3, ((2 : Int) ^ n).toNat = 2 ^ n ∧ (2 : Int) ^ n ≤ 4 ∧ (2 : Int) ^ (2 ^ n) ≤ 16 ∧ 0 ≤ (2 : Int) ^ n ∧ 0 ≤ (2 : Int) ^ (2 ^ n) ∧ ((2 : Int) ^ (2 ^ n)).toNat = 2 ^ 2 ^ n := by decide +kernel
def Rsml : Rel := fun ds d => ds = [] ∧ d = .list ((smA 3).map bxP)
section
variable {P : Program} {w : World} {K : PySem.W.Frag} {mg : Str → Option Value} {base : Heap}
theorem ok_sml {f : Addr} {fd : FuncData} (Fn : Fun K "_law_small" "_law_small" (topS 30) f fd) (mr : mg "range" = none) (mt : mg "tuple" = none) : FnG P w K mg base 1 f fd [] (spPure K Rsml) := by
  refine pure_ok (k := 0) Fn scSml (fun ds d ⟨e, _⟩ => by rw [e]; rfl) (fun F ds d hK ⟨e, ed⟩ => ?_)
  subst e ed
  refine wb_ownLst1 0 (by walk_at "tgt") (by show 0 < 4; decide) (fun env h => by cases env; cases h; rfl) (wa_nil ⟨by decide, fun o => ?_⟩)
  have hKo : (F.ext o).K = K := hK
  refine ws_for_range 1 (by walk_at "tgt") rfl mr (fun _ => rfl) (fun _ _ => rfl) (we_int ?_)
  refine ⟨fun j k' ρ => ∃ x1 x2 x3, plainB x1 = true ∧ plainB x2 = true ∧ plainB x3 = true ∧ ρ = [.own o ((smA j).map bxP), x1, x2, x3], 3, rfl, by decide, by decide, ⟨.un, .un, .un, rfl, rfl, rfl, rfl⟩, ?_, ?_⟩
  · rintro j k' ρ hj ⟨x1, x2, x3, h1, h2, h3, rfl⟩
    have hj3 : j < 3 := hj
    obtain ⟨p1, p2, p3, p4, p5, p6⟩ := pw_small j hj3
    have hAl := smA_len j (by omega)
    refine wb_cons (ws_for_range 2 (by walk_at "tgt") rfl mr (fun _ => rfl) (fun _ _ => rfl) ?_)
    repeat walk_at "dx"
    refine ⟨⟨by omega, by omega, by decide⟩, ?_⟩
    rw [one_shl]
    refine ⟨_, _, rfl, rfl, ⟨by omega, by omega, by decide⟩, ?_⟩
    rw [p1, Int.one_mul]
    refine ⟨fun m k2 ρ => ∃ x2 x3, plainB x2 = true ∧ plainB x3 = true ∧ ρ = [.own o ((smA j ++ smR j m).map bxP), .d (.int (j : Int)), x2, x3], _, rfl, by omega, by omega, ⟨x2, x3, h2, h3, ?_⟩, ?_, ?_⟩
    · show _ = [SV.own o ((smA j ++ []).map bxP), _, _, _]
      rw [List.append_nil]; rfl
    · rintro m k2 ρ hm ⟨x2, x3, h2, h3, rfl⟩
      have hm' : m < 16 := by omega
      refine wb_cons (ws_append 0 rfl (by walk_at "vis") rfl (by show (true && (plainB (SV.d (PyData.int (m : Int))) && (plainB x3 && true))) = true; rw [h3]; rfl) (by rw [List.length_map, List.length_append, smR_len]; omega) (fun _ => rfl) ?_ (fun _ => rfl))
      refine we_tup (wa_cons (fun _ => rfl) ?_)
      walk_at "name"
      refine wa_cons (fun _ => rfl) (we_tuple hKo rfl mt (fun _ => rfl) (we_fR (fun c => decide (Builtin.bitAnd ((m : Int) / 2 ^ c.toNat) 1 = 1)) PyData.int 3 (by walk_at "blk") rfl mr (fun _ => rfl) (fun _ _ => rfl) ?_))
      repeat walk_at "dx"
      refine ⟨⟨by omega, by omega, by decide⟩, ?_⟩
      rw [one_shl]
      refine ⟨_, rfl, by omega, by omega, fun D c c0 c1 => ?_, ?_⟩
      · have hKD : ((F.ext o).ext D).K = K := hKo
        refine wt_eqI ?_
        repeat walk_at "dx"
        refine ⟨c0, ?_⟩
        repeat walk_at "dx"
        refine ⟨rfl, rfl, fun _ => ?_⟩
        repeat walk_at "dx"
        exact ⟨rfl, rfl⟩
      refine ⟨_, rfl, wa_nil ⟨by show 2 ≤ _; decide, ?_⟩⟩
      refine wb_nil ⟨.d (.int (m : Int)), x3, rfl, h3, ?_⟩
      rw [smR_snoc, ← List.append_assoc, List.map_append (l₁ := smA j ++ smR j m)]
      rfl
    · rintro k2 ρ ⟨x2, x3, h2, h3, rfl⟩
      rw [p6, ← smA_snoc]
      exact wb_nil ⟨.d (.int (j : Int)), x2, x3, rfl, h2, h3, rfl⟩
  · rintro k' ρ ⟨x1, x2, x3, h1, h2, h3, rfl⟩
    refine ⟨_, rfl, ?_, ?_⟩
    · show (true && (plainB x1 && (plainB x2 && (plainB x3 && true)))) = true
      rw [h1, h2, h3]; rfl
    · repeat walk_at "dx"
      rfl
end


abbrev nRnc : List Str := ["card", "order", "k", "old"]
theorem scRnc : FnScope nRnc ["card", "order"] (defScope (topS 18)) := ⟨rfl, rfl, rfl, by decide +kernel, rfl, by decide +kernel, by decide +kernel⟩
def natsD (os : List Nat) : PyData := .tuple (os.map fun (o : Nat) => PyData.int (o : Int))
def Rrnc : Rel := fun ds d => ∃ (c : Nat) (os : List Nat), ds = [.int (c : Int), natsD os] ∧ os.length ≤ 6 ∧ d = .int ((renN os c : Nat) : Int)
section
variable {P : Program} {w : World} {K : PySem.W.Frag} {mg : Str → Option Value} {base : Heap}
theorem ok_rnc {f : Addr} {fd : FuncData} (Fn : Fun K "renamed_card" "renamed_card" (topS 18) f fd) (mu : mg "sum" = none) (me : mg "enumerate" = none) (gh : PFn P w K mg base 1 "has_switch" Rhsw) : FnG P w K mg base 2 f fd ["card", "order"] (spPure K Rrnc) := by
  refine pure_ok (k := 1) Fn scRnc (fun ds d ⟨c, os, e, _⟩ => by rw [e]; rfl) (fun F ds d hK ⟨c, os, e, hl, ed⟩ => ?_)
  subst e ed
  refine wb_cons (ws_ret (we_sum hK rfl mu (fun _ => rfl) (we_compEt1 2 3 (by decide) ⟨blkOk_by (by dsimp only [bodyCs, Cs.blk]; decide +kernel), by walk_at "tgt", by walk_at "tgt"⟩ hK rfl me (fun _ => rfl) (fun _ _ => rfl) ?_)))
  walk_at "name"
  refine ⟨fun j k' acc => ∃ xs : List Int, acc = xs.map PyData.int ∧ xs.sum = ((renN (os.take j) c : Nat) : Int), _, rfl, by rw [List.length_map]; omega, ⟨[], rfl, rfl⟩, ?_, ?_⟩
  · rintro D j y k' acc hy ⟨xs, rfl, hs⟩
    have hKD : (F.ext D).K = K := hK
    rw [List.getElem?_map, Option.map_eq_some_iff] at hy
    obtain ⟨o, ho, rfl⟩ := hy
    have hjl := (List.getElem?_eq_some_iff.mp ho).1
    have et : renN (os.take (j + 1)) c = renN (os.take j) c + (if bitN c o then 2 ^ j else 0) := by
      rw [take_next ho, ren_snoc, List.length_take, Nat.min_eq_left (Nat.le_of_lt hjl)]
    refine wt_val (fun _ _ => rfl) ?_
    repeat walk_at "dx"
    refine ⟨_, ⟨(c : Int), (o : Int), rfl, by omega, rfl⟩, _, rfl, ?_⟩
    rw [bit_nat]
    cases hbt : bitN c o with
    | false =>
      show if false = true then _ else _
      rw [if_neg (by decide)]
      exact ⟨xs, rfl, by rw [hs, et, hbt]; rfl⟩
    | true =>
      show if true = true then _ else _
      rw [if_pos rfl]
      repeat walk_at "dx"
      refine ⟨⟨by omega, by omega, by decide⟩, ?_⟩
      refine ⟨xs ++ [2 ^ j], by rw [one_shl, List.map_append]; rfl, ?_⟩
      rw [List.sum_append, hs, et, hbt]
      show _ + (2 ^ j + 0) = ((_ + 2 ^ j : Nat) : Int)
      rw [cast2, Int.natCast_add]; omega
  · rintro k' acc ⟨xs, rfl, hs⟩
    rw [List.length_map, List.take_length] at hs
    refine ⟨xs, rfl, ?_⟩
    rw [hs]
end

abbrev nRns : List Str := ["box", "order", "n", "cards", "card"]
theorem scRns : FnScope nRns ["box", "order"] (defScope (topS 17)) := ⟨rfl, rfl, rfl, by decide +kernel, rfl, by decide +kernel, by decide +kernel⟩
def Rrns : Rel := fun ds d => ∃ (n : Nat) (cs : List Int) (os : List Nat), ds = [boxD n cs, natsD os] ∧ n ≤ 6 ∧ IsBox n cs ∧ os.Perm (List.range n) ∧ d = boxD n (renmL n cs os)
section
variable {P : Program} {w : World} {K : PySem.W.Frag} {mg : Str → Option Value} {base : Heap}
theorem ok_rns {f : Addr} {fd : FuncData} (Fn : Fun K "rename_switches" "rename_switches" (topS 17) f fd) (mt : mg "tuple" = none) (ms : mg "sorted" = none) (gr : PFn P w K mg base 2 "renamed_card" Rrnc) : FnG P w K mg base 3 f fd ["box", "order"] (spPure K Rrns) := by
  refine pure_ok (k := 2) Fn scRns (fun ds d ⟨n, cs, os, e, _⟩ => by rw [e]; rfl) (fun F ds d hK ⟨n, cs, os, e, hn, hb, hp, ed⟩ => ?_)
  subst e ed
  have hl := box_len hn hb
  refine wb_cons (ws_asg2s 2 3 (by decide) (by walk_at "tgt") (by walk_at "tgt") hK (fun env h => by cases env; cases h; rfl) (fun env h => by cases env; cases h; rfl) ?_)
  walk_at "name"
  refine ⟨.int (n : Int), .tuple (cs.map PyData.int), rfl, ?_⟩
  refine wb_cons (ws_ret (we_tup (wa_cons (fun _ => rfl) ?_)))
  walk_at "name"
  refine wa_cons (fun _ => rfl) (we_tuple hK rfl mt (fun _ => rfl) (we_sorted hK rfl ms (fun _ => rfl) (we_mT PyData.int (fun c => .int (renI os c)) 4 (by walk_at "blk") hK (fun _ _ => rfl) ?_)))
  walk_at "name"
  refine ⟨cs, rfl, by omega, fun D c hc => ?_, ?_⟩
  · have hKD : (F.ext D).K = K := hK
    obtain ⟨c, rfl, hcl⟩ := to_nat (hb.rng c hc)
    repeat walk_at "dx"
    refine ⟨_, ⟨c, os, rfl, by rw [hp.length_eq, List.length_range]; exact hn, rfl⟩, rfl, ?_⟩
    rw [ren_nat]
  refine ⟨cs.map (renI os), by rw [List.map_map]; rfl, fun ms' hpm hw => ⟨_, rfl, wa_nil ⟨by show 2 ≤ _; decide, ?_⟩⟩⟩
  show PyData.tuple [.int (n : Int), .tuple _] = boxD n _
  rw [img_perm (ren_good hp hb) hpm hw]
  rfl
end

abbrev nFlp : List Str := ["box", "switches", "n", "cards", "card"]
theorem scFlp : FnScope nFlp ["box", "switches"] (defScope (topS 16)) := ⟨rfl, rfl, rfl, by decide +kernel, rfl, by decide +kernel, by decide +kernel⟩
def Rflip : Rel := fun ds d => ∃ (n : Nat) (cs : List Int) (s : Int), ds = [boxD n cs, .int s] ∧ n ≤ 6 ∧ IsBox n cs ∧ (0 ≤ s ∧ s < 2 ^ n) ∧ d = boxD n (flipL n cs s)
section
variable {P : Program} {w : World} {K : PySem.W.Frag} {mg : Str → Option Value} {base : Heap}
theorem ok_flip {f : Addr} {fd : FuncData} (Fn : Fun K "flip_switches" "flip_switches" (topS 16) f fd) (mt : mg "tuple" = none) (ms : mg "sorted" = none) : FnG P w K mg base 1 f fd ["box", "switches"] (spPure K Rflip) := by
  refine pure_ok (k := 0) Fn scFlp (fun ds d ⟨n, cs, s, e, _⟩ => by rw [e]; rfl) (fun F ds d hK ⟨n, cs, s, e, hn, hb, hs, ed⟩ => ?_)
  subst e ed
  have hl := box_len hn hb
  refine wb_cons (ws_asg2s 2 3 (by decide) (by walk_at "tgt") (by walk_at "tgt") hK (fun env h => by cases env; cases h; rfl) (fun env h => by cases env; cases h; rfl) ?_)
  repeat walk_at "dx"
  refine ⟨.int (n : Int), .tuple (cs.map PyData.int), rfl, ?_⟩
  refine wb_cons (ws_ret (we_tup (wa_cons (fun _ => rfl) ?_)))
  repeat walk_at "name"
  refine wa_cons (fun _ => rfl) (we_tuple hK rfl mt (fun _ => rfl) (we_sorted hK rfl ms (fun _ => rfl) (we_mT PyData.int (fun c : Int => .int (Builtin.bitXor c s)) 4 (by walk_at "blk") hK (fun _ _ => rfl) ?_)))
  repeat walk_at "dx"
  refine ⟨cs, rfl, by omega, fun D c hc => ?_, ?_⟩
  · repeat walk_at "dx"
    exact ⟨rfl, rfl⟩
  refine ⟨cs.map fun c => Builtin.bitXor c s, by rw [List.map_map]; rfl, fun ms' hperm hw => ?_⟩
  repeat walk_at "dx"
  show boxD n ms' = boxD n _
  rw [img_perm (xor_good hn hs.1 hs.2 (box_sub hb)) hperm hw]; rfl
end

abbrev nPrd : List Str := ["first", "second", "n", "cards", "more", "others", "other", "card"]
theorem scPrd : FnScope nPrd ["first", "second"] (defScope (topS 20)) := ⟨rfl, rfl, rfl, by decide +kernel, rfl, by decide +kernel, by decide +kernel⟩
def Rprd : Rel := fun ds d => ∃ (n m : Nat) (cs os : List Int), ds = [boxD n cs, boxD m os] ∧ n + m ≤ 6 ∧ IsBox n cs ∧ IsBox m os ∧ d = boxD (n + m) (prodL n cs os)
section
variable {P : Program} {w : World} {K : PySem.W.Frag} {mg : Str → Option Value} {base : Heap}
theorem ok_prd {f : Addr} {fd : FuncData} {tk : Tok} (Fn : Fun K "product_box" "product_box" (topS 20) f fd) (mt : mg "tuple" = none) (vm : mg "MAX_SWITCHES" = some (.int 6 tk)) : FnG P w K mg base 1 f fd ["first", "second"] (spPure K Rprd) := by
  refine pure_ok (k := 0) Fn scPrd (fun ds d ⟨n, m, cs, os, e, _⟩ => by rw [e]; rfl) (fun F ds d hK ⟨n, m, cs, os, e, hn, hb, ho, ed⟩ => ?_)
  subst e ed
  have hl := box_len (by omega) hb
  have hl2 := box_len (by omega) ho
  refine wb_cons (ws_asg2s 2 3 (by decide) (by walk_at "tgt") (by walk_at "tgt") hK (fun env h => by cases env; cases h; rfl) (fun env h => by cases env; cases h; rfl) ?_)
  repeat walk_at "dx"
  refine ⟨.int (n : Int), .tuple (cs.map PyData.int), rfl, ?_⟩
  refine wb_cons (ws_asg2s 4 5 (by decide) (by walk_at "tgt") (by walk_at "tgt") hK (fun env h => by cases env; cases h; rfl) (fun env h => by cases env; cases h; rfl) ?_)
  repeat walk_at "dx"
  refine ⟨.int (m : Int), .tuple (os.map PyData.int), rfl, ?_⟩
  refine wb_cons (ws_if (wt_gt (we_add ?_)))
  walk_at "name"
  walk_at "name"
  refine ⟨_, _, rfl, rfl, we_gint rfl vm ⟨_, _, rfl, rfl, ?_⟩⟩
  show if decide ((6 : Int) < (n : Int) + (m : Int)) = true then _ else _
  rw [decide_eq_false (by omega), if_neg (by decide)]
  refine wb_nil (wb_cons (ws_ret (we_tup (wa_cons (fun _ => rfl) (we_add ?_)))))
  walk_at "name"
  walk_at "name"
  refine ⟨_, _, rfl, rfl, ?_⟩
  refine wa_cons (fun _ => rfl) (we_tuple hK rfl mt (fun _ => rfl) (we_comp2T PyData.int PyData.int (fun _ => cs) (fun o c => .int (c + o * 2 ^ n)) 64 6 7 (by decide) ⟨blkOk_by (by dsimp only [bodyCs, Cs.blk]; decide +kernel), by walk_at "tgt", by walk_at "tgt"⟩ hK (fun _ _ => rfl) (fun _ _ => rfl) ?_))
  repeat walk_at "dx"
  refine ⟨os, rfl, by omega, fun _ _ => hl, fun D o hom => ⟨?_, fun c hc => ?_⟩, ?_⟩
  · repeat walk_at "dx"
    exact ⟨rfl, rfl⟩
  · have h1 := hb.rng c hc
    have h2 := ho.rng o hom
    have h3 := pow_le64 (n := m) (by omega)
    repeat walk_at "dx"
    refine ⟨⟨by omega, by omega, by omega⟩, ?_⟩
    repeat walk_at "dx"
    exact ⟨rfl, rfl⟩
  refine ⟨_, rfl, ?_⟩
  repeat walk_at "dx"
  show PyData.tuple [.int ((n : Int) + (m : Int)), .tuple _] = boxD (n + m) _
  unfold boxD prodL
  rw [List.map_flatMap, Int.natCast_add]
  simp only [List.map_map]
  rfl
end

abbrev nAfx : List Str := ["box", "on"]
theorem scAfx : FnScope nAfx ["box", "on"] (defScope (topS 19)) := ⟨rfl, rfl, rfl, by decide +kernel, rfl, by decide +kernel, by decide +kernel⟩
def Rafx : Rel := fun ds d => ∃ (n : Nat) (cs : List Int) (on : Bool) (o : Int), ds = [boxD n cs, .bool on] ∧ n ≤ 5 ∧ IsBox n cs ∧ o = (if on = true then 1 else 0) ∧ d = boxD (n + 1) (prodL n cs [o])
section
variable {P : Program} {w : World} {K : PySem.W.Frag} {mg : Str → Option Value} {base : Heap}
theorem ok_afx {f : Addr} {fd : FuncData} (Fn : Fun K "add_fixed" "add_fixed" (topS 19) f fd) (gp : PFn P w K mg base 1 "product_box" Rprd) : FnG P w K mg base 2 f fd ["box", "on"] (spPure K Rafx) := by
  refine pure_ok (k := 1) Fn scAfx (fun ds d ⟨n, cs, on, o, e, _⟩ => by rw [e]; rfl) (fun F ds d hK ⟨n, cs, on, o, e, hn, hb, eo, ed⟩ => ?_)
  subst e ed
  refine wb_cons (ws_ret ?_)
  repeat walk_at "dx"
  refine we_ifExp (wt_val (fun _ _ => rfl) ?_)
  walk_at "name"
  refine ⟨_, rfl, ?_⟩
  cases on
  · subst eo
    show if false = true then _ else _
    rw [if_neg (by decide)]
    repeat walk_at "dx"
    exact ⟨_, ⟨n, 1, cs, [0], rfl, by omega, hb, b0, rfl⟩, rfl⟩
  · subst eo
    show if true = true then _ else _
    rw [if_pos rfl]
    repeat walk_at "dx"
    exact ⟨_, ⟨n, 1, cs, [1], rfl, by omega, hb, b1, rfl⟩, rfl⟩
end

abbrev nSmT : List Str := ["_law_found", "_law_due", "_law_one", "_law_other"]
theorem scSmT : FnScope nSmT ["_law_found", "_law_due"] (defScope (topS 24)) := ⟨rfl, rfl, rfl, by decide +kernel, rfl, by decide +kernel, by decide +kernel⟩
def NsT : Nat → PyData → Prop
  | 0, _ => False
  | L + 1, x => (∃ i : Int, x = .int i) ∨ x = .none ∨ (∃ t : Str, x = .str t) ∨ ∃ xs : List PyData, x = .tuple xs ∧ xs.length ≤ 1000 ∧ ∀ y ∈ xs, NsT L y
def RsmT (L : Nat) : Rel := fun ds d => ∃ x : PyData, ds = [x, x] ∧ NsT L x ∧ d = .bool true
theorem nsT_int (L : Nat) (i : Int) : NsT (L + 1) (.int i) := .inl ⟨i, rfl⟩
theorem nsT_ints (L : Nat) {xs : List Int} (h : xs.length ≤ 1000) : NsT (L + 2) (.tuple (xs.map PyData.int)) :=
  .inr (.inr (.inr ⟨_, rfl, by rw [List.length_map]; exact h, fun y hy => by obtain ⟨i, _, rfl⟩ := List.mem_map.mp hy; exact nsT_int L i⟩))
theorem nsT_box (L : Nat) {n : Nat} {cs : List Int} (hn : n ≤ 6) (hb : IsBox n cs) : NsT (L + 3) (boxD n cs) :=
  .inr (.inr (.inr ⟨_, rfl, by show 2 ≤ 1000; decide, fun y hy => by
    have hl := box_len hn hb
    rcases List.mem_cons.mp hy with rfl | hy
    · exact nsT_int (L + 1) _
    · rw [List.mem_singleton.mp hy]; exact nsT_ints L (by omega)⟩))
section
variable {P : Program} {w : World} {K : PySem.W.Frag} {mg : Str → Option Value} {base : Heap}
theorem ok_smT0 {f : Addr} {fd : FuncData} (Fn : Fun K "_law_same" "_law_same" (topS 24) f fd) : FnG P w K mg base 1 f fd ["_law_found", "_law_due"] (spPure K (RsmT 0)) :=
  pure_ok (k := 0) Fn scSmT (fun ds d ⟨x, e, _⟩ => by rw [e]; rfl) (fun F ds d hK ⟨x, e, hx, ed⟩ => hx.elim)
theorem ok_smT (L : Nat) {f : Addr} {fd : FuncData} (Fn : Fun K "_law_same" "_law_same" (topS 24) f fd) (mi : mg "isinstance" = none) (mt : mg "tuple" = none) (ml : mg "len" = none) (mz : mg "zip" = none) (ms : mg "str" = none) (mn : mg "int" = none) (mb : mg "bool" = none) (g : PFn P w K mg base (L + 1) "_law_same" (RsmT L)) : FnG P w K mg base (L + 2) f fd ["_law_found", "_law_due"] (spPure K (RsmT (L + 1))) := by
  refine pure_ok (k := L + 1) Fn scSmT (fun ds d ⟨x, e, _⟩ => by rw [e]; rfl) (fun F ds d hK ⟨x, e, hx, ed⟩ => ?_)
  subst e ed
  refine wb_cons (ws_if (wt_val (fun _ _ => rfl) (we_isi "tuple" kit_tuple hK rfl mi rfl mt rfl (by decide) rfl (fun _ => rfl) ?_)))
  repeat walk_at "dx"
  rcases hx with ⟨i, rfl⟩ | rfl | ⟨t, rfl⟩ | ⟨xs, rfl, hl, hxs⟩
  · show if false = true then _ else _
    rw [if_neg (by decide)]
    refine wb_nil (wb_cons (ws_if (wt_isN ?_)))
    repeat walk_at "dx"
    show if false = true then _ else _
    rw [if_neg (by decide)]
    refine wb_nil (wb_cons (ws_if (wt_val (fun _ _ => rfl) (we_isi "str" kit_str hK rfl mi rfl ms rfl (by decide) rfl (fun _ => rfl) ?_))))
    repeat walk_at "dx"
    show if false = true then _ else _
    rw [if_neg (by decide)]
    refine wb_nil (wb_cons (ws_ret (we_and (we_isi "int" kit_int hK rfl mi rfl mn rfl (by decide) rfl (fun _ => rfl) ?_))))
    repeat walk_at "dx"
    show if true = true then _ else _
    rw [if_pos rfl]
    refine we_and (we_eq hK (we_isi "bool" kit_bool hK rfl mi rfl mb rfl (by decide) rfl (fun _ => rfl) ?_))
    repeat walk_at "dx"
    refine we_isi "bool" kit_bool hK rfl mi rfl mb rfl (by decide) rfl (fun _ => rfl) ?_
    repeat walk_at "dx"
    refine ⟨rfl, rfl, true, rfl, ?_⟩
    rw [if_pos rfl]
    refine we_one (we_eqI ?_)
    repeat walk_at "dx"
    show PyData.bool (decide (i = i)) = _
    rw [decide_eq_true rfl]
  · refine itN rfl (wb_nil (wb_cons (ws_if (wt_isN ?_))))
    repeat walk_at "dx"
    refine itP rfl (wb_cons (ws_ret (we_isN ?_)))
    repeat walk_at "dx"
    rfl
  · refine itN rfl (wb_nil (wb_cons (ws_if (wt_isN ?_))))
    repeat walk_at "dx"
    refine itN rfl (wb_nil (wb_cons (ws_if (wt_val (fun _ _ => rfl) (we_isi "str" kit_str hK rfl mi rfl ms rfl (by decide) rfl (fun _ => rfl) ?_)))))
    repeat walk_at "dx"
    refine itP rfl (wb_cons (ws_ret (we_and (we_isi "str" kit_str hK rfl mi rfl ms rfl (by decide) rfl (fun _ => rfl) ?_))))
    repeat walk_at "dx"
    refine itP rfl (we_one (we_eqT ?_))
    repeat walk_at "dx"
    refine congrArg PyData.bool (decide_eq_true rfl)
  · show if true = true then _ else _
    rw [if_pos rfl]
    refine wb_cons (ws_if (wt_bool (ww_or (wt_not (wt_val (fun _ _ => rfl) (we_isi "tuple" kit_tuple hK rfl mi rfl mt rfl (by decide) rfl (fun _ => rfl) ?_))))))
    repeat walk_at "dx"
    show if false = true then _ else _
    rw [if_neg (by decide)]
    refine ww_or1 (wt_neI ?_)
    repeat walk_at "dx"
    show if (!decide (((xs.length : Nat) : Int) = ((xs.length : Nat) : Int))) = true then _ else _
    rw [decide_eq_true rfl, if_neg (by decide)]
    refine wb_nil (wb_cons (ws_ret (we_eq hK (we_compZT1 2 3 (by decide) ⟨blkOk_by (by dsimp only [bodyCs, Cs.blk]; decide +kernel), by walk_at "tgt", by walk_at "tgt"⟩ hK rfl mz (fun _ => rfl) (fun _ => rfl) (fun _ => rfl) (fun _ _ => rfl) ?_))))
    walk_at "name"
    walk_at "name"
    refine ⟨fun j k' acc => acc = [], xs, xs, rfl, rfl, rfl, by omega, rfl, ?_, ?_⟩
    · rintro D j y z k' acc hy hz rfl
      have : y = z := Option.some.inj (hy.symm.trans hz)
      subst this
      have hKD : (F.ext D).K = K := hK
      refine wt_not (wt_val (fun _ _ => rfl) (we_callP g (Nat.le_refl _) hKD rfl ?_ (by decide) (fun _ => rfl) (fun _ => rfl)))
      repeat walk_at "dx"
      refine ⟨_, ⟨y, rfl, hxs y (List.mem_of_getElem? hy), rfl⟩, true, rfl, ?_⟩
      show if false = true then _ else _
      rw [if_neg (by decide)]
    · rintro k' acc rfl
      repeat walk_at "dx"
      exact ⟨rfl, rfl, rfl⟩
end




open TL
abbrev nWr : List Str := ["_law_box_here", "_law_n", "_law_cards_here", "_law_text", "_law_words", "_law_word", "_law_turned", "_law_flipped", "_law_more", "_law_on", "_law_one"]
theorem scWr : FnScope nWr ["_law_box_here"] (defScope (topS 32)) := ⟨rfl, rfl, rfl, by decide +kernel, rfl, by decide +kernel, by decide +kernel⟩
def Rwr : Rel := fun ds d => ∃ (n : Nat) (cs : List Int), ds = [boxD n cs] ∧ n ≤ 6 ∧ IsBox n cs ∧ d = .bool true
def Rpb63 : Rel := fun ds d => ∃ (n : Nat) (cs : List Int), ds = [.str (boxT n cs)] ∧ n ≤ 6 ∧ IsBox n cs ∧ d = boxD n cs
abbrev qWr : Str := ("_law_words_right" : Str) ++ ".<locals>." ++ "<lambda>"
theorem txL_len (n : Nat) (cs : List Int) : (txL n cs).length = cs.length := by unfold txL; rw [List.length_map]
theorem txL_one {n : Nat} (hn : n ≤ 6) {cs : List Int} (hb : IsBox n cs) : ∀ w ∈ txL n cs, w.length ≤ 6 ∧ PyData.strOk w = true := fun w hw => by
  obtain ⟨c, hc, rfl⟩ := List.mem_map.mp hw
  have := tx_facts n hn _ (rng63 hb hc).1
  exact ⟨this.2.2.2, this.2.2.1⟩
theorem sum_le6 : ∀ {ws : List Str}, (∀ w ∈ ws, w.length ≤ 7) → (ws.map (·.length)).sum ≤ 7 * ws.length
  | [], _ => Nat.zero_le _
  | w :: ws, h => by
    have h1 := h w List.mem_cons_self
    have h2 := sum_le6 fun v hv => h v (List.mem_cons_of_mem _ hv)
    rw [List.map_cons, List.sum_cons, List.length_cons]
    omega
theorem boxT_len63 {n : Nat} {cs : List Int} (hn : n ≤ 6) (hb : IsBox n cs) : (boxT n cs).length ≤ 2000 := by
  have h1 := cards_len hn hb
  have h2 := (head_len n hn).2
  unfold boxT
  rw [Str.length_append]
  omega
theorem wds_len {n : Nat} {cs : List Int} (hn : n ≤ 6) (hb : IsBox n cs) : (wdsT n cs).length ≤ 64 := by
  have hl := box_len hn hb
  unfold wdsT
  split
  · decide
  · rw [txL_len]; exact hl
theorem as_tx {n : Nat} (hn : n ≤ 6) {c : Int} (h : 0 ≤ c ∧ c < 2 ^ n) : AS (tx n c.toNat) := by
  have : ∀ n ≤ 6, ∀ c < 2 ^ n, AS (tx n c) := by decide +kernel
  have e2 : ((2 ^ n : Nat) : Int) = (2 : Int) ^ n := by rw [Int.natCast_pow]; rfl
  exact this n hn _ (by omega)
theorem as_join {ys : List Str} (h : ∀ y ∈ ys, AS y) : AS (Txt.join " " ys) := fun c hc => by
  rw [join_eq, tl_join] at hc
  rcases mem_joinL hc with z | ⟨w, hw, hcw⟩
  · rw [sp_tl] at z
    rw [List.mem_singleton.mp z]; decide
  · obtain ⟨x, hx, rfl⟩ := List.mem_map.mp hw
    exact h x hx c hcw
theorem as_box {n : Nat} {cs : List Int} (hn : n ≤ 6) (hb : IsBox n cs) : AS (boxT n cs) := by
  unfold boxT
  refine AS.app ?_ ?_
  · have : ∀ n ≤ 6, AS (Str.empty ++ ((toString ((n : Nat) : Int) : String) : Str) ++ ": ") := by decide +kernel
    exact this n hn
  · unfold cardsT
    split
    · decide +kernel
    · exact as_join fun y hy => by
        obtain ⟨c, hc, rfl⟩ := List.mem_map.mp hy
        exact as_tx hn (hb.rng c hc)
theorem eqv_strs63 : ∀ xs : List Str, PyData.eqvAll (xs.map PyData.str) (xs.map PyData.str) = true
  | [] => by simp [PyData.eqvAll]
  | x :: xs => by
    rw [List.map_cons, PyData.eqvAll, eqv_strs63 xs, Bool.and_true]
    simp [PyData.eqv]
section
variable {P : Program} {w : World} {K : PySem.W.Frag} {mg : Str → Option Value} {base : Heap} {T c BT : Addr}
theorem jn_pre {n : Nat} {cs : List Int} (hn : n ≤ 6) (hb : IsBox n cs) : Rjn [.int (n : Int), .list ((txL n cs).map PyData.str)] (.str (boxT n cs)) := by
  have hl := box_len hn hb
  have ho := txL_one hn hb
  refine ⟨n, txL n cs, rfl, by omega, fun w hw => (ho w hw).2, by rw [txL_len]; omega, ?_, by rw [box_jn (by omega)]⟩
  have := sum_le6 (ws := txL n cs) fun w hw => Nat.le_succ_of_le (ho w hw).1
  rw [txL_len] at this
  omega
theorem pb_of {j : Nat} (g : PFE P w K mg base j "parse_box" (RpbxE BT)) : PFn P w K mg base j "parse_box" Rpb63 := by
  obtain ⟨fa, fd, ps, G, h1, h2, h3⟩ := g.ex
  have key : ∀ ds d, Rpb63 ds d → RpbxE BT ds (.ok d) := fun ds d ⟨n, cs, e, hn, hb, ed⟩ => by
    subst e ed
    refine ⟨_, rfl, fun t e => by cases e; exact Nat.le_trans (boxT_len63 hn hb) (by decide), ?_⟩
    show Out.ok (boxD n cs) = (prsT (boxT n cs)).out BT
    rw [prs_boxT hn hb]; rfl
  refine ⟨fa, fd, ps, G.toP key (fun ds d hR => ?_), h1, h2, h3⟩
  obtain ⟨n, cs, e, _⟩ := id hR
  subst e
  exact G.len [.str (boxT n cs)] (fun _ => none) (fun _ _ => True) (fun _ _ _ => True) ⟨fun _ => False, [.str (boxT n cs)], .ok d, fun _ z => z.elim, .cons (.str _) .nil, key _ _ hR, fun _ _ _ _ => trivial⟩
theorem ok_wr {f : Addr} {fd : FuncData} (Fn : Fun K "_law_words_right" "_law_words_right" (topS 32) f fd) (hcd : fd.code = .ref c) (TB : LamX.TabB base mg c T) (ml : mg "len" = none) (mt : mg "tuple" = none) (mr : mg "range" = none) (ms : mg "sorted" = none) (gb : PFn P w K mg base 4 "box_text" RbtP) (gp : PFE P w K mg base 5 "parse_box" (RpbxE BT)) (gm : PFn P w K mg base 4 "_law_same" (RsmT 3)) (gr : PFn P w K mg base 3 "rename_switches" Rrns) (gj : PFn P w K mg base 1 "_law_joined" Rjn) (gf : PFn P w K mg base 1 "flip_switches" Rflip) (ga : PFn P w K mg base 2 "add_fixed" Rafx) : FnG P w K mg base 6 f fd ["_law_box_here"] (spTab T qWr K Rwr) := by
  refine tab_ok (k := 5) Fn scWr hcd (fun ds d ⟨n, cs, e, _⟩ => by rw [e]; rfl) (fun F ds d hK tb ⟨n, cs, e, hn, hb, ed⟩ => ?_)
  subst e ed
  have hl := box_len hn hb
  have htl := boxT_len63 hn hb
  have gp' := pb_of gp
  refine wbz_cons (ws_asg2s 1 2 (by decide) (by walk_at "tgt") (by walk_at "tgt") hK (fun env h => by cases env; cases h; rfl) (fun env h => by cases env; cases h; rfl) ?_)
  walk_at "name"
  refine ⟨.int (n : Int), .tuple (cs.map PyData.int), rfl, ?_⟩
  refine wbz_cons (ws_set 3 (by walk_at "tgt") (fun env h => by cases env; cases h; rfl) ?_)
  repeat walk_at "dx"
  refine ⟨_, ⟨n, cs, rfl, hn, hb, rfl⟩, ?_⟩
  refine wbz_cons (ws_fL (fun w => !decide (w = ("none" : Str))) PyData.str PyData.str 5 4 (by walk_at "blk") (by walk_at "tgt") rfl rfl rfl (by decide +kernel) hK (fun _ _ => rfl) (we_sliceF hK (we_split (fun _ => rfl) rfl (fun _ => rfl) ?_)))
  walk_at "name"
  refine ⟨_, rfl, we_str ⟨_, rfl, rfl, Nat.le_trans htl (by decide), ?_⟩⟩
  rw [split_box hn hb]
  refine we_int ⟨_, 1, rfl, rfl, wdsT n cs, rfl, Nat.le_trans (wds_len hn hb) (by decide), fun D w hw => ?_, ?_⟩
  · have hKD : (F.ext D).K = K := hK
    refine wt_neT ?_
    repeat walk_at "dx"
    refine ⟨rfl, rfl, fun _ => ?_⟩
    repeat walk_at "dx"
    exact ⟨rfl, rfl⟩
  rw [wds_filter hn hb]
  refine wbz_cons (ws_if (wt_bool (ww_or (wt_neI ?_))))
  repeat walk_at "dx"
  refine iteNe (by rw [List.length_map, List.length_map, txL_len]) ?_
  refine ww_or1 (wt_not (wt_val (fun _ _ => rfl) ?_))
  repeat walk_at "dx"
  refine ⟨_, ⟨n, cs, rfl, hn, hb, rfl⟩, ?_⟩
  repeat walk_at "dx"
  refine ⟨_, ⟨_, rfl, nsT_box 0 hn hb, rfl⟩, _, rfl, ?_⟩
  show if (!true) = true then _ else _
  rw [if_neg (by decide)]
  refine wb_nil ?_
  refine wbz_up (fun env => TokUp.ifEq) (ws_if (wt_eqI ?_))
  repeat walk_at "dx"
  show if decide ((n : Int) = 0) = true then _ else _
  by_cases h0 : n = 0
  · rw [if_pos (decide_eq_true (by omega))]
    repeat walk_at "dx"
    rfl
  rw [if_neg (by rw [decide_eq_true_eq]; omega)]
  have hn1 : 1 ≤ n := by omega
  refine wb_nil ?_
  have hws := txL_one hn hb
  have hrn : IsBox n (renmL n cs (revO n)) := img_box _ _ _
  refine wbz_consZ (wsz_sortLam 6 tb hK (by walk_at "tgt") ⟨⟨_, _, _, _, _, _, rfl⟩, rfl, rfl, rfl, rfl, by decide +kernel, by decide +kernel, by decide, fun _ _ _ _ _ _ => rfl, fun _ => rfl⟩ TB rfl ms (fun env h => by cases env; cases h; rfl) (wa_cons (fun _ => rfl) (we_mL PyData.str (fun w => .str (revS w)) 5 (by walk_at "blk") hK (fun _ _ => rfl) ?_)))
  walk_at "name"
  refine ⟨txL n cs, rfl, by rw [txL_len]; omega, fun D w hw => ?_, wa_nil ⟨(txL n cs).map revS, by rw [List.map_map]; rfl, fun z hz => ?_, ?_⟩⟩
  · refine we_revS ?_
    walk_at "name"
    exact ⟨w, rfl, Nat.le_trans (hws w hw).1 (by decide), rfl, rfl⟩
  · obtain ⟨w, hw, rfl⟩ := List.mem_map.mp hz
    have : (revS w).length = w.length := by rw [TL.len_tl, TL.len_tl, tl_revS, List.length_reverse]
    rw [this]
    exact Nat.le_trans (hws w hw).1 (by decide)
  rw [turned_words hn hn1 hb]
  refine wbz_cons (ws_if (wt_neT ?_))
  refine we_callP gb (by show 4 ≤ 5; decide) hK rfl (wa_cons (fun _ => rfl) (we_callP gr (by show 3 ≤ 5; decide) hK rfl (wa_cons (fun _ => rfl) ?_)))
  walk_at "name"
  refine wa_cons (fun _ => rfl) (we_revT hK (we_tupRg rfl mt rfl mr (fun _ => rfl) (fun _ => rfl) ?_))
  walk_at "name"
  have eo : PyData.tuple ((rg (n : Int)).map PyData.int).reverse = natsD (revO n) := by
    unfold natsD revO rg
    rw [Int.toNat_natCast, List.map_map, ← List.map_reverse]
    rfl
  refine ⟨_, rfl, ⟨by omega, by omega⟩, _, rfl, wa_nil ⟨_, ⟨n, cs, revO n, by rw [eo], hn, hb, revO_perm n, rfl⟩, wa_nil ⟨_, ⟨n, _, rfl, hn, hrn, rfl⟩, ?_⟩⟩⟩
  refine we_callP gj (by show 1 ≤ 5; decide) hK rfl (wa_cons (fun _ => rfl) ?_)
  walk_at "name"
  refine wa_cons (fun _ => rfl) ?_
  walk_at "name"
  refine wa_nil ⟨_, jn_pre hn hrn, _, _, rfl, rfl, ?_⟩
  generalize boxT n (renmL n cs (revO n)) = A
  refine iteNe rfl ?_
  refine wb_nil ?_
  have hff : IsBox n (flipL n cs (2 ^ n - 1)) := flip_box _ _ _
  refine wbz_consZ (wsz_ofT (wst_compL 5 7 (by walk_at "blk") (by walk_at "tgt") rfl rfl rfl (by decide +kernel) hK (fun _ _ => rfl) (we_revL hK ?_)))
  walk_at "name"
  refine ⟨_, rfl, fun j _ acc => acc = (((txL n cs).reverse.take j).map fun w => PyData.str (chT w)), _, rfl, by rw [List.length_reverse, List.length_map, txL_len]; omega, rfl, ?_, ?_⟩
  · rintro D j z k' acc hz rfl
    have hKD : (F.ext D).K = K := hK
    rw [← List.map_reverse, List.getElem?_map, Option.map_eq_some_iff] at hz
    obtain ⟨w, hw, rfl⟩ := hz
    have hwl : w.length ≤ 6 := (hws w (List.mem_reverse.mp (List.mem_of_getElem? hw))).1
    have l1 := TK.replace_len w "0" "x"
    have l2 := TK.replace_len (Txt.replace w "0" "x") "1" "0"
    have e1 : (("x" : Str)).length = 1 := rfl
    have e2 : (("0" : Str)).length = 1 := rfl
    have e3 : (("1" : Str)).length = 1 := rfl
    rw [e1] at l1
    rw [e2] at l2
    refine wet_repl (by decide +kernel) (wet_repl (by decide +kernel) (wet_repl (by decide +kernel) (wet_of ?_)))
    walk_at "name"
    refine ⟨w, rfl, by rw [e1]; omega, _, rfl, by rw [e2]; omega, _, rfl, by rw [e3]; omega, ?_⟩
    show _ = ((txL n cs).reverse.take (j + 1)).map fun w => PyData.str (chT w)
    rw [take_next hw, List.map_append]
    rfl
  · rintro k' acc rfl
    have ef : (((txL n cs).reverse.take ((txL n cs).map PyData.str).reverse.length).map fun w => PyData.str (chT w)) = (txL n (flipL n cs (2 ^ n - 1))).map PyData.str := by
      rw [List.length_reverse, List.length_map, ← List.length_reverse (as := txL n cs), List.take_length, ← flip_words hn hn1 hb, List.map_map]
      rfl
    rw [ef]
    refine wbz_cons (ws_if (wt_neT ?_))
    repeat walk_at "dx"
    refine ⟨⟨by omega, by omega, by decide⟩, ?_⟩
    rw [one_shl]
    repeat walk_at "dx"
    have hpos := Nat.two_pow_pos n
    refine ⟨_, ⟨n, cs, 2 ^ n - 1, rfl, hn, hb, by rw [cast2]; omega, rfl⟩, wa_nil ⟨_, ⟨n, _, rfl, hn, hff, rfl⟩, ?_⟩⟩
    refine we_callP gj (by show 1 ≤ 5; decide) hK rfl (wa_cons (fun _ => rfl) ?_)
    walk_at "name"
    refine wa_cons (fun _ => rfl) ?_
    walk_at "name"
    refine wa_nil ⟨_, jn_pre hn hff, _, _, rfl, rfl, ?_⟩
    generalize boxT n (flipL n cs (2 ^ n - 1)) = A2
    refine iteNe rfl ?_
    refine wb_nil ?_
    refine wbz_cons (ws_if (wt_eqI ?_))
    repeat walk_at "dx"
    show if decide ((n : Int) = 6) = true then _ else _
    by_cases h6 : n = 6
    · rw [if_pos (decide_eq_true (by omega))]
      repeat walk_at "dx"
      rfl
    rw [if_neg (by rw [decide_eq_true_eq]; omega)]
    refine wb_nil ?_
    have h5 : n < 6 := by omega
    obtain ⟨m0, m1⟩ := more_words h5 hn1 hb
    refine wbz_cons (ws_set 8 (by walk_at "tgt") (fun env h => by cases env; cases h; rfl) (we_lst (wa_cons (fun _ => rfl) (we_mL PyData.str (fun w => .str (w ++ ("0" : Str))) 5 (by walk_at "blk") hK (fun _ _ => rfl) ?_))))
    walk_at "name"
    refine ⟨txL n cs, rfl, by rw [txL_len]; omega, fun D w hw => ?_, ?_⟩
    · refine we_addS ?_
      walk_at "name"
      refine we_str ⟨w, _, rfl, rfl, ?_, rfl, rfl⟩
      have := (hws w hw).1
      have e2 : (("0" : Str)).length = 1 := rfl
      rw [e2]; omega
    refine wa_cons (fun _ => rfl) (we_mL PyData.str (fun w => .str (w ++ ("1" : Str))) 5 (by walk_at "blk") hK (fun _ _ => rfl) ?_)
    walk_at "name"
    refine ⟨txL n cs, rfl, by rw [txL_len]; omega, fun D w hw => ?_, ?_⟩
    · refine we_addS ?_
      walk_at "name"
      refine we_str ⟨w, _, rfl, rfl, ?_, rfl, rfl⟩
      have := (hws w hw).1
      have e2 : (("1" : Str)).length = 1 := rfl
      rw [e2]; omega
    refine wa_nil ⟨by show 2 ≤ _; decide, ?_⟩
    have em : ([.list ((txL n cs).map fun w => PyData.str (w ++ ("0" : Str))), .list ((txL n cs).map fun w => PyData.str (w ++ ("1" : Str)))] : List PyData) = [false, true].map fun on => PyData.list ((txL (n + 1) (prodL n cs [if on = true then 1 else 0])).map PyData.str) := by
      show _ = [PyData.list ((txL (n + 1) (prodL n cs [0])).map PyData.str), PyData.list ((txL (n + 1) (prodL n cs [1])).map PyData.str)]
      rw [← m0, ← m1, List.map_map, List.map_map]
      rfl
    rw [em]
    have hpb : ∀ on : Bool, IsBox (n + 1) (prodL n cs [if on = true then 1 else 0]) := fun on => by
      cases on
      · exact prod_box (m := 1) hb b0
      · exact prod_box (m := 1) hb b1
    refine wbz_cons (ws_ret (we_eq hK (we_mT (fun b : Bool => PyData.bool b) (fun on => .str (boxT (n + 1) (prodL n cs [if on = true then 1 else 0]))) 9 (by walk_at "blk") hK (fun _ _ => rfl) ?_)))
    refine we_tup (wa_cons (fun _ => rfl) (we_bl (wa_cons (fun _ => rfl) (we_bl (wa_nil ⟨by show 2 ≤ _; decide, [false, true], rfl, by decide, fun D on _ => ?_, ?_⟩)))))
    · have hKD : (F.ext D).K = K := hK
      refine we_callP gb (by show 4 ≤ 5; decide) hKD rfl (wa_cons (fun _ => rfl) (we_callP ga (by show 2 ≤ 5; decide) hKD rfl (wa_cons (fun _ => rfl) ?_)))
      walk_at "name"
      refine wa_cons (fun _ => rfl) ?_
      walk_at "name"
      exact wa_nil ⟨_, ⟨n, cs, on, _, rfl, by omega, hb, rfl, rfl⟩, wa_nil ⟨_, ⟨n + 1, _, rfl, by omega, hpb on, rfl⟩, rfl, rfl⟩⟩
    refine we_mL (fun on : Bool => PyData.list ((txL (n + 1) (prodL n cs [if on = true then 1 else 0])).map PyData.str)) (fun on => .str (boxT (n + 1) (prodL n cs [if on = true then 1 else 0]))) 10 (by walk_at "blk") hK (fun _ _ => rfl) ?_
    walk_at "name"
    refine ⟨[false, true], rfl, by decide, fun D on _ => ?_, ?_⟩
    · have hKD : (F.ext D).K = K := hK
      refine we_callP gj (by show 1 ≤ 5; decide) hKD rfl (wa_cons (fun _ => rfl) ?_)
      repeat walk_at "dx"
      exact ⟨_, jn_pre (n := n + 1) (by omega) (hpb on), rfl, rfl⟩
    have hL : Ld 1 (.list ([false, true].map fun on => PyData.str (boxT (n + 1) (prodL n cs [if on = true then 1 else 0])))) := by
      have := Ld.strs (ws := [false, true].map fun on => boxT (n + 1) (prodL n cs [if on = true then 1 else 0])) fun w hw => by
        obtain ⟨on, _, rfl⟩ := List.mem_map.mp hw
        exact (as_box (by omega) (hpb on)).ok
      rw [List.map_map] at this
      exact this
    refine ⟨hL.shaped (by decide), hL.shaped (by decide), ?_⟩
    show PyData.bool _ = PyData.bool true
    congr 1
    have := eqv_strs63 ([false, true].map fun on => boxT (n + 1) (prodL n cs [if on = true then 1 else 0]))
    rw [List.map_map] at this
    show PyData.eqv (.list _) (.list _) = true
    rw [PyData.eqv]
    exact this
end


abbrev nLaw : List Str := ["_law_script", "_law_deck_here", "_law_boxes", "_law_k", "_law_box_here", "_law_text"]
theorem scLaw : FnScope nLaw ["_law_script"] (defScope (topS 34)) := ⟨rfl, rfl, rfl, by decide +kernel, rfl, by decide +kernel, by decide +kernel⟩
def Ok63 (p : Nat × List Int) : Prop := p.1 ≤ 6 ∧ IsBox p.1 p.2
section
variable {P : Program} {w : World} {K : PySem.W.Frag} {mg : Str → Option Value} {base : Heap} {T : Addr}
theorem ok_law {f fs : Addr} {fd fds : FuncData} (Fn : Fun K "law" "law" (topS 34) f fd) (mr : mg "range" = none) (ml : mg "len" = none)
    (gd : ∃ (fa : Addr) (fdd : FuncData), FnG P w K mg base 1 fa fdd ["_law_script"] (spDeck K) ∧ mg "_law_deck" = some (.ref fa) ∧ PySem.W.keepIn K (.ref fa) = true ∧ L2.Binds K fdd ["_law_script"] [])
    (gs : FnG P w K mg base 1 fs fds [] (spPure K Rsml)) (hms : mg "_law_small" = some (.ref fs)) (kps : PySem.W.keepIn K (.ref fs) = true) (hbs : L2.Binds K fds [] [])
    (gn : DFnQ P w K mg base 1 "_law_draw" 1 PreNext RNext) (gx : DFnQ P w K mg base 4 "_law_box" 67 PreMo RBx) (gw : TFn P w K mg base T qWr 6 "_law_words_right" Rwr) (gb : PFn P w K mg base 4 "box_text" RbtP) (ga : PFn P w K mg base 6 "_law_accepted_right" Racc) (ge : DFnQ P w K mg base 2 "_law_bent" 6 PreBn RBen) :
    FnG P w K mg base 7 f fd ["_law_script"] (spLawT T qWr K) := by
  refine lawQT_ok (k := 6) Fn scLaw rfl gd (by decide) rfl rfl (.inl rfl) (.inr rfl) rfl (fun _ => rfl) (fun F s a dk tb hK => ?_)
  refine wb_cons (ws_set 2 (by walk_at "tgt") (fun env h => by cases env; cases h; rfl) (we_cat ?_))
  refine we_callP0 gs hms kps hbs (by show 1 ≤ 6; decide) hK rfl ⟨rfl, rfl⟩ ?_
  refine we_compR0 3 (by walk_at "blk") rfl mr (fun _ => rfl) (fun _ _ => rfl) (we_int ?_)
  refine ⟨fun i k acc => k + 67 * i = 900000 ∧ ∃ ps : List (Nat × List Int), acc = ps.map bxP ∧ (∀ p ∈ ps, Ok63 p) ∧ ps.length = i, 5, rfl, by decide, by decide, ⟨rfl, [], rfl, (fun _ h => nomatch h), rfl⟩, ?_, ?_⟩
  · rintro D i k acc hi ⟨hk, ps, rfl, hps, hpl⟩
    have hi5 : i < 5 := hi
    have hKD : (F.ext D).K = K := hK
    obtain ⟨k2, rfl⟩ : ∃ k2, k = k2 + 67 := ⟨k - 67, by omega⟩
    refine we_callQ2 gx (by show 4 ≤ 6; decide) hKD 1 rfl rfl (by walk_at "vis") rfl (wa_cons (fun _ => rfl) (we_int (wa_nil ⟨⟨6, rfl, by decide⟩, id, k2, dk.ext D, rfl, ?_⟩)))
    intro d hd
    obtain ⟨n, cs, hn, _, hx, rfl⟩ := RBx.one (m := 6) hd
    refine ⟨by show k2 + 67 * (i + 1) = 900000; omega, ps ++ [(n, cs)], by rw [List.map_append]; rfl, fun p hp => ?_, by rw [List.length_append, hpl]; rfl⟩
    rcases List.mem_append.mp hp with h | h
    · exact hps p h
    · rw [List.mem_singleton.mp h]; exact ⟨hn, hx⟩
  rintro k acc ⟨hk, ps, rfl, hps, hpl⟩
  have hk : k + 67 * 5 = 900000 := hk
  have hpl : ps.length = 5 := hpl
  have hsl := smA_len 3 (by decide)
  refine ⟨_, _, rfl, rfl, by rw [List.length_map, List.length_map, hpl]; omega, ?_⟩
  rw [← List.map_append]
  have hall : ∀ p ∈ smA 3 ++ ps, Ok63 p := fun p hp => by
    rcases List.mem_append.mp hp with h | h
    · exact smA_ok p h
    · exact hps p h
  have hlen : (smA 3 ++ ps).length ≤ 105 ∧ 1 ≤ (smA 3 ++ ps).length := by
    rw [List.length_append, hpl]
    omega
  generalize smA 3 ++ ps = bs at hall hlen
  refine wb_cons (ws_for_list 4 (by walk_at "tgt") hK (fun _ _ => rfl) ?_)
  walk_at "name"
  refine ⟨fun _ k' ρ => k' = k ∧ ∃ x3 x4 x5, ρ = [.un, .raw (.ref s), .d (.list (bs.map bxP)), x3, x4, x5], _, rfl, ⟨rfl, _, _, _, rfl⟩, ?_, ?_⟩
  · rintro i y k' ρ hy ⟨rfl, x3, x4, x5, rfl⟩
    rw [List.getElem?_map, Option.map_eq_some_iff] at hy
    obtain ⟨p, hp, rfl⟩ := hy
    obtain ⟨h1, h2⟩ := hall p (List.mem_of_getElem? hp)
    refine wb_cons (ws_if (wt_not (wt_val (fun _ _ => rfl) (we_callTab tb gw (by show 6 ≤ 6; decide) hK rfl (wa_cons (fun _ => rfl) ?_)))))
    walk_at "name"
    refine wa_nil ⟨_, ⟨p.1, p.2, rfl, h1, h2, rfl⟩, _, rfl, ?_⟩
    show if (!true) = true then _ else _
    rw [if_neg (by decide)]
    exact wb_nil (wb_nil ⟨rfl, _, _, _, rfl⟩)
  rintro k' ρ ⟨rfl, x3, x4, x5, rfl⟩
  refine wb_cons (ws_for_range 3 (by walk_at "tgt") rfl mr (fun _ => rfl) (fun _ _ => rfl) (we_int ?_))
  refine ⟨fun j k ρ => 890000 ≤ k + 7 * j ∧ ∃ x3 x4 x5, ρ = [.un, .raw (.ref s), .d (.list (bs.map bxP)), x3, x4, x5], 30, rfl, by decide, by decide, ⟨by omega, _, _, _, rfl⟩, ?_, ?_⟩
  · rintro j k ρ hj ⟨hk2, x3, x4, x5, rfl⟩
    have hj30 : j < 30 := hj
    obtain ⟨k2, rfl⟩ : ∃ k2, k = k2 + 6 + 1 := ⟨k - 7, by omega⟩
    refine wb_cons (ws_set 5 (by walk_at "tgt") (fun env h => by cases env; cases h; rfl) ?_)
    refine we_callP gb (by show 4 ≤ 6; decide) hK rfl (wa_cons (fun _ => rfl) (we_ix hK (fun _ _ => rfl) ?_))
    walk_at "name"
    refine we_callQ2 (a := a) gn (by show 1 ≤ 6; decide) hK 1 rfl rfl (by walk_at "vis") rfl (wa_cons (fun _ => rfl) (we_len hK rfl ml (fun _ => rfl) ?_))
    walk_at "name"
    refine ⟨_, rfl, wa_nil ⟨⟨_, rfl, by rw [List.length_map]; omega, by rw [List.length_map]; omega⟩, id, k2 + 6, dk, rfl, ?_⟩⟩
    rintro d ⟨m', z, e1, rfl, z0, z1⟩
    cases e1
    obtain ⟨z, rfl⟩ : ∃ z' : Nat, z = (z' : Int) := ⟨z.toNat, by omega⟩
    have hz : z < bs.length := by rw [List.length_map] at z1; omega
    have eb : bs[z]? = some bs[z] := List.getElem?_eq_getElem hz
    obtain ⟨h1, h2⟩ := hall _ (List.getElem_mem hz)
    generalize bs[z] = p at eb h1 h2
    refine ⟨bxP p, atI_nat (xs := bs.map bxP) (j := z) (by rw [List.getElem?_map, eb]; rfl), wa_nil ⟨_, ⟨p.1, p.2, rfl, h1, h2, rfl⟩, ?_⟩⟩
    have hta := as_box h1 h2
    have htl := boxT_len63 h1 h2
    refine wb_cons (ws_if (wt_bool (ww_or (wt_not (wt_val (fun _ _ => rfl) (we_callP ga (by show 6 ≤ 6; decide) hK rfl (wa_cons (fun _ => rfl) ?_)))))))
    refine we_callQ2 (a := a) ge (by show 2 ≤ 6; decide) hK 1 rfl rfl (by walk_at "vis") rfl (wa_cons (fun _ => rfl) ?_)
    walk_at "name"
    refine wa_nil ⟨⟨_, rfl, hta, by omega⟩, id, k2, dk, rfl, ?_⟩
    rintro d ⟨t, u, e1, rfl, hua, hul⟩
    have et : boxT p.1 p.2 = t := by cases e1; rfl
    rw [← et] at hul
    refine wa_nil ⟨_, ⟨u, rfl, by omega, rfl⟩, _, rfl, ?_⟩
    show if (!true) = true then _ else _
    rw [if_neg (by decide)]
    refine ww_or1 (wt_not (wt_val (fun _ _ => rfl) (we_callP ga (by show 6 ≤ 6; decide) hK rfl (wa_cons (fun _ => rfl) ?_))))
    walk_at "name"
    refine wa_nil ⟨_, ⟨_, rfl, by omega, rfl⟩, _, rfl, ?_⟩
    show if (!true) = true then _ else _
    rw [if_neg (by decide)]
    exact wb_nil (wb_nil ⟨by show 890000 ≤ k2 + 7 * (j + 1); omega, _, _, _, rfl⟩)
  · rintro k ρ ⟨hk2, x3, x4, x5, rfl⟩
    exact wb_cons (ws_ret (we_bl rfl))
end



/-! ### what the top has written; the end -/
theorem all_mk {P : Program} {w : World} {K : PySem.W.Frag} {h : Heap} {mg : Str → Option Value} {fa f0 f1 f2 f3 f4 f5 f6 f7 f8 f9 f10 f11 f12 f13 f14 f15 f16 f17 f18 f19 f20 f21 f22 f23 f24 f25 : Addr} (X : K.In h) (G : h.Ns mainGlobals mg) (hfa : mg "law" = some (.ref fa))
    {od0 an0 od1 an1 od2 an2 od3 an3 od4 an4 od5 an5 od6 an6 od7 an7 od8 an8 od9 an9 od10 an10 od11 an11 od12 an12 od13 an13 od14 an14 od15 an15 od16 an16 od17 an17 od18 an18 od19 an19 od20 an20 od21 an21 od22 an22 od23 an23 od24 an24 od25 an25 : Option Addr} {sl0 sl1 sl2 sl3 sl4 sl5 sl6 sl7 sl8 sl9 sl10 sl11 sl12 sl13 sl14 sl15 sl16 sl17 sl18 sl19 sl20 sl21 sl22 sl23 sl24 sl25 : Array (Option Value)} {oc0 kV0 dc0 pm0 cd0 ct0 oc1 kV1 dc1 pm1 cd1 ct1 oc2 kV2 dc2 pm2 cd2 ct2 oc3 kV3 dc3 pm3 cd3 ct3 oc4 kV4 dc4 pm4 cd4 ct4 oc5 kV5 dc5 pm5 cd5 ct5 oc6 kV6 dc6 pm6 cd6 ct6 oc7 kV7 dc7 pm7 cd7 ct7 oc8 kV8 dc8 pm8 cd8 ct8 oc9 kV9 dc9 pm9 cd9 ct9 oc10 kV10 dc10 pm10 cd10 ct10 oc11 kV11 dc11 pm11 cd11 ct11 oc12 kV12 dc12 pm12 cd12 ct12 oc13 kV13 dc13 pm13 cd13 ct13 oc14 kV14 dc14 pm14 cd14 ct14 oc15 kV15 dc15 pm15 cd15 ct15 oc16 kV16 dc16 pm16 cd16 ct16 oc17 kV17 dc17 pm17 cd17 ct17 oc18 kV18 dc18 pm18 cd18 ct18 oc19 kV19 dc19 pm19 cd19 ct19 oc20 kV20 dc20 pm20 cd20 ct20 oc21 kV21 dc21 pm21 cd21 ct21 oc22 kV22 dc22 pm22 cd22 ct22 oc23 kV23 dc23 pm23 cd23 ct23 oc24 kV24 dc24 pm24 cd24 ct24 oc25 kV25 dc25 pm25 cd25 ct25 : Value}
    (a0 : PySem.W.nsIn K mainGlobals "has_switch" = some (some (.ref f0))) (l0 : K.lookup f0 = some ⟨oc0, od0, .func (PySem.W.fnOf "has_switch" "has_switch" (defArgs (topS 2)) (defBody (topS 2)) (defScope (topS 2)) .none kV0 dc0 pm0 an0 cd0 ct0), sl0⟩) (c0 : PySem.W.codeIn K cd0 "has_switch" = true) (k0 : PySem.W.keepIn K (.ref f0) = true)
    (a1 : PySem.W.nsIn K mainGlobals "card_text" = some (some (.ref f1))) (l1 : K.lookup f1 = some ⟨oc1, od1, .func (PySem.W.fnOf "card_text" "card_text" (defArgs (topS 8)) (defBody (topS 8)) (defScope (topS 8)) .none kV1 dc1 pm1 an1 cd1 ct1), sl1⟩) (c1 : PySem.W.codeIn K cd1 "card_text" = true) (k1 : PySem.W.keepIn K (.ref f1) = true)
    (a2 : PySem.W.nsIn K mainGlobals "cards_text" = some (some (.ref f2))) (l2 : K.lookup f2 = some ⟨oc2, od2, .func (PySem.W.fnOf "cards_text" "cards_text" (defArgs (topS 9)) (defBody (topS 9)) (defScope (topS 9)) .none kV2 dc2 pm2 an2 cd2 ct2), sl2⟩) (c2 : PySem.W.codeIn K cd2 "cards_text" = true) (k2 : PySem.W.keepIn K (.ref f2) = true)
    (a3 : PySem.W.nsIn K mainGlobals "box_text" = some (some (.ref f3))) (l3 : K.lookup f3 = some ⟨oc3, od3, .func (PySem.W.fnOf "box_text" "box_text" (defArgs (topS 10)) (defBody (topS 10)) (defScope (topS 10)) .none kV3 dc3 pm3 an3 cd3 ct3), sl3⟩) (c3 : PySem.W.codeIn K cd3 "box_text" = true) (k3 : PySem.W.keepIn K (.ref f3) = true)
    (a4 : PySem.W.nsIn K mainGlobals "place_of" = some (some (.ref f4))) (l4 : K.lookup f4 = some ⟨oc4, od4, .func (PySem.W.fnOf "place_of" "place_of" (defArgs (topS 11)) (defBody (topS 11)) (defScope (topS 11)) .none kV4 dc4 pm4 an4 cd4 ct4), sl4⟩) (c4 : PySem.W.codeIn K cd4 "place_of" = true) (k4 : PySem.W.keepIn K (.ref f4) = true)
    (a5 : PySem.W.nsIn K mainGlobals "read_card" = some (some (.ref f5))) (l5 : K.lookup f5 = some ⟨oc5, od5, .func (PySem.W.fnOf "read_card" "read_card" (defArgs (topS 12)) (defBody (topS 12)) (defScope (topS 12)) .none kV5 dc5 pm5 an5 cd5 ct5), sl5⟩) (c5 : PySem.W.codeIn K cd5 "read_card" = true) (k5 : PySem.W.keepIn K (.ref f5) = true)
    (a6 : PySem.W.nsIn K mainGlobals "parse_box" = some (some (.ref f6))) (l6 : K.lookup f6 = some ⟨oc6, od6, .func (PySem.W.fnOf "parse_box" "parse_box" (defArgs (topS 13)) (defBody (topS 13)) (defScope (topS 13)) .none kV6 dc6 pm6 an6 cd6 ct6), sl6⟩) (c6 : PySem.W.codeIn K cd6 "parse_box" = true) (k6 : PySem.W.keepIn K (.ref f6) = true)
    (a7 : PySem.W.nsIn K mainGlobals "parse_cards" = some (some (.ref f7))) (l7 : K.lookup f7 = some ⟨oc7, od7, .func (PySem.W.fnOf "parse_cards" "parse_cards" (defArgs (topS 14)) (defBody (topS 14)) (defScope (topS 14)) .none kV7 dc7 pm7 an7 cd7 ct7), sl7⟩) (c7 : PySem.W.codeIn K cd7 "parse_cards" = true) (k7 : PySem.W.keepIn K (.ref f7) = true)
    (a8 : PySem.W.nsIn K mainGlobals "flip_switches" = some (some (.ref f8))) (l8 : K.lookup f8 = some ⟨oc8, od8, .func (PySem.W.fnOf "flip_switches" "flip_switches" (defArgs (topS 16)) (defBody (topS 16)) (defScope (topS 16)) .none kV8 dc8 pm8 an8 cd8 ct8), sl8⟩) (c8 : PySem.W.codeIn K cd8 "flip_switches" = true) (k8 : PySem.W.keepIn K (.ref f8) = true)
    (a9 : PySem.W.nsIn K mainGlobals "rename_switches" = some (some (.ref f9))) (l9 : K.lookup f9 = some ⟨oc9, od9, .func (PySem.W.fnOf "rename_switches" "rename_switches" (defArgs (topS 17)) (defBody (topS 17)) (defScope (topS 17)) .none kV9 dc9 pm9 an9 cd9 ct9), sl9⟩) (c9 : PySem.W.codeIn K cd9 "rename_switches" = true) (k9 : PySem.W.keepIn K (.ref f9) = true)
    (a10 : PySem.W.nsIn K mainGlobals "renamed_card" = some (some (.ref f10))) (l10 : K.lookup f10 = some ⟨oc10, od10, .func (PySem.W.fnOf "renamed_card" "renamed_card" (defArgs (topS 18)) (defBody (topS 18)) (defScope (topS 18)) .none kV10 dc10 pm10 an10 cd10 ct10), sl10⟩) (c10 : PySem.W.codeIn K cd10 "renamed_card" = true) (k10 : PySem.W.keepIn K (.ref f10) = true)
    (a11 : PySem.W.nsIn K mainGlobals "add_fixed" = some (some (.ref f11))) (l11 : K.lookup f11 = some ⟨oc11, od11, .func (PySem.W.fnOf "add_fixed" "add_fixed" (defArgs (topS 19)) (defBody (topS 19)) (defScope (topS 19)) .none kV11 dc11 pm11 an11 cd11 ct11), sl11⟩) (c11 : PySem.W.codeIn K cd11 "add_fixed" = true) (k11 : PySem.W.keepIn K (.ref f11) = true)
    (a12 : PySem.W.nsIn K mainGlobals "product_box" = some (some (.ref f12))) (l12 : K.lookup f12 = some ⟨oc12, od12, .func (PySem.W.fnOf "product_box" "product_box" (defArgs (topS 20)) (defBody (topS 20)) (defScope (topS 20)) .none kV12 dc12 pm12 an12 cd12 ct12), sl12⟩) (c12 : PySem.W.codeIn K cd12 "product_box" = true) (k12 : PySem.W.keepIn K (.ref f12) = true)
    (a13 : PySem.W.nsIn K mainGlobals "_law_deck" = some (some (.ref f13))) (l13 : K.lookup f13 = some ⟨oc13, od13, .func (PySem.W.fnOf "_law_deck" "_law_deck" (defArgs (topS 22)) (defBody (topS 22)) (defScope (topS 22)) .none kV13 dc13 pm13 an13 cd13 ct13), sl13⟩) (c13 : PySem.W.codeIn K cd13 "_law_deck" = true) (k13 : PySem.W.keepIn K (.ref f13) = true)
    (a14 : PySem.W.nsIn K mainGlobals "_law_draw" = some (some (.ref f14))) (l14 : K.lookup f14 = some ⟨oc14, od14, .func (PySem.W.fnOf "_law_draw" "_law_draw" (defArgs (topS 23)) (defBody (topS 23)) (defScope (topS 23)) .none kV14 dc14 pm14 an14 cd14 ct14), sl14⟩) (c14 : PySem.W.codeIn K cd14 "_law_draw" = true) (k14 : PySem.W.keepIn K (.ref f14) = true)
    (a15 : PySem.W.nsIn K mainGlobals "_law_same" = some (some (.ref f15))) (l15 : K.lookup f15 = some ⟨oc15, od15, .func (PySem.W.fnOf "_law_same" "_law_same" (defArgs (topS 24)) (defBody (topS 24)) (defScope (topS 24)) .none kV15 dc15 pm15 an15 cd15 ct15), sl15⟩) (c15 : PySem.W.codeIn K cd15 "_law_same" = true) (k15 : PySem.W.keepIn K (.ref f15) = true)
    (a16 : PySem.W.nsIn K mainGlobals "_law_closed" = some (some (.ref f16))) (l16 : K.lookup f16 = some ⟨oc16, od16, .func (PySem.W.fnOf "_law_closed" "_law_closed" (defArgs (topS 25)) (defBody (topS 25)) (defScope (topS 25)) .none kV16 dc16 pm16 an16 cd16 ct16), sl16⟩) (c16 : PySem.W.codeIn K cd16 "_law_closed" = true) (k16 : PySem.W.keepIn K (.ref f16) = true)
    (a17 : PySem.W.nsIn K mainGlobals "_law_cards" = some (some (.ref f17))) (l17 : K.lookup f17 = some ⟨oc17, od17, .func (PySem.W.fnOf "_law_cards" "_law_cards" (defArgs (topS 26)) (defBody (topS 26)) (defScope (topS 26)) .none kV17 dc17 pm17 an17 cd17 ct17), sl17⟩) (c17 : PySem.W.codeIn K cd17 "_law_cards" = true) (k17 : PySem.W.keepIn K (.ref f17) = true)
    (a18 : PySem.W.nsIn K mainGlobals "_law_size" = some (some (.ref f18))) (l18 : K.lookup f18 = some ⟨oc18, od18, .func (PySem.W.fnOf "_law_size" "_law_size" (defArgs (topS 27)) (defBody (topS 27)) (defScope (topS 27)) .none kV18 dc18 pm18 an18 cd18 ct18), sl18⟩) (c18 : PySem.W.codeIn K cd18 "_law_size" = true) (k18 : PySem.W.keepIn K (.ref f18) = true)
    (a19 : PySem.W.nsIn K mainGlobals "_law_box" = some (some (.ref f19))) (l19 : K.lookup f19 = some ⟨oc19, od19, .func (PySem.W.fnOf "_law_box" "_law_box" (defArgs (topS 28)) (defBody (topS 28)) (defScope (topS 28)) .none kV19 dc19 pm19 an19 cd19 ct19), sl19⟩) (c19 : PySem.W.codeIn K cd19 "_law_box" = true) (k19 : PySem.W.keepIn K (.ref f19) = true)
    (a20 : PySem.W.nsIn K mainGlobals "_law_bent" = some (some (.ref f20))) (l20 : K.lookup f20 = some ⟨oc20, od20, .func (PySem.W.fnOf "_law_bent" "_law_bent" (defArgs (topS 29)) (defBody (topS 29)) (defScope (topS 29)) .none kV20 dc20 pm20 an20 cd20 ct20), sl20⟩) (c20 : PySem.W.codeIn K cd20 "_law_bent" = true) (k20 : PySem.W.keepIn K (.ref f20) = true)
    (a21 : PySem.W.nsIn K mainGlobals "_law_small" = some (some (.ref f21))) (l21 : K.lookup f21 = some ⟨oc21, od21, .func (PySem.W.fnOf "_law_small" "_law_small" (defArgs (topS 30)) (defBody (topS 30)) (defScope (topS 30)) .none kV21 dc21 pm21 an21 cd21 ct21), sl21⟩) (c21 : PySem.W.codeIn K cd21 "_law_small" = true) (k21 : PySem.W.keepIn K (.ref f21) = true)
    (a22 : PySem.W.nsIn K mainGlobals "_law_joined" = some (some (.ref f22))) (l22 : K.lookup f22 = some ⟨oc22, od22, .func (PySem.W.fnOf "_law_joined" "_law_joined" (defArgs (topS 31)) (defBody (topS 31)) (defScope (topS 31)) .none kV22 dc22 pm22 an22 cd22 ct22), sl22⟩) (c22 : PySem.W.codeIn K cd22 "_law_joined" = true) (k22 : PySem.W.keepIn K (.ref f22) = true)
    (a23 : PySem.W.nsIn K mainGlobals "_law_words_right" = some (some (.ref f23))) (l23 : K.lookup f23 = some ⟨oc23, od23, .func (PySem.W.fnOf "_law_words_right" "_law_words_right" (defArgs (topS 32)) (defBody (topS 32)) (defScope (topS 32)) .none kV23 dc23 pm23 an23 cd23 ct23), sl23⟩) (c23 : PySem.W.codeIn K cd23 "_law_words_right" = true) (k23 : PySem.W.keepIn K (.ref f23) = true)
    (a24 : PySem.W.nsIn K mainGlobals "_law_accepted_right" = some (some (.ref f24))) (l24 : K.lookup f24 = some ⟨oc24, od24, .func (PySem.W.fnOf "_law_accepted_right" "_law_accepted_right" (defArgs (topS 33)) (defBody (topS 33)) (defScope (topS 33)) .none kV24 dc24 pm24 an24 cd24 ct24), sl24⟩) (c24 : PySem.W.codeIn K cd24 "_law_accepted_right" = true) (k24 : PySem.W.keepIn K (.ref f24) = true)
    (a25 : PySem.W.nsIn K mainGlobals "law" = some (some (.ref f25))) (l25 : K.lookup f25 = some ⟨oc25, od25, .func (PySem.W.fnOf "law" "law" (defArgs (topS 34)) (defBody (topS 34)) (defScope (topS 34)) .none kV25 dc25 pm25 an25 cd25 ct25), sl25⟩) (c25 : PySem.W.codeIn K cd25 "law" = true) (k25 : PySem.W.keepIn K (.ref f25) = true)
    (z0 : PySem.W.nsIn K mainGlobals "range" = some none)
    (z1 : PySem.W.nsIn K mainGlobals "tuple" = some none)
    (z2 : PySem.W.nsIn K mainGlobals "len" = some none)
    (z3 : PySem.W.nsIn K mainGlobals "abs" = some none)
    (z4 : PySem.W.nsIn K mainGlobals "int" = some none)
    (z5 : PySem.W.nsIn K mainGlobals "list" = some none)
    (z6 : PySem.W.nsIn K mainGlobals "sorted" = some none)
    (z7 : PySem.W.nsIn K mainGlobals "isinstance" = some none)
    (z8 : PySem.W.nsIn K mainGlobals "str" = some none)
    (z9 : PySem.W.nsIn K mainGlobals "enumerate" = some none)
    (z10 : PySem.W.nsIn K mainGlobals "zip" = some none)
    (z11 : PySem.W.nsIn K mainGlobals "bool" = some none)
    (z12 : PySem.W.nsIn K mainGlobals "sum" = some none)
    {tk0 : Tok} (y0 : PySem.W.nsIn K mainGlobals "MAX_SWITCHES" = some (some (.int 6 tk0)))
    {EC0 : Addr} {fX0 : Addr} {odX0 anX0 : Option Addr} {slX0 : Array (Option Value)} {ocX0 kVX0 dcX0 pmX0 cdX0 ctX0 : Value}
    (xhn : PySem.W.specialIn K (.builtin "object.__class__") "__get__" = some (some (.builtin "getset_descriptor.__get__")))
    (xtk : PySem.W.takesIn K (.builtin "object.__class__") = some true)
    (xa0 : PySem.W.nsIn K mainGlobals "BadText" = some (some (.ref EC0)))
    (xt0 : PySem.W.typeIn K (.ref EC0) = some (.type "type"))
    (xic0 : PySem.W.isClsIn K EC0 = true)
    (xb0 : PySem.W.subIn K (.ref EC0) (.type "BaseException") = some true)
    (xd0 : PySem.W.hasDictIn K EC0 = true)
    (xk0 : PySem.W.keepIn K (.ref EC0) = true)
    (xg0 : PySem.W.findIn K (.ref EC0) "__getattribute__" = some (some (.builtin "BaseException.__getattribute__")))
    (xgg0 : PySem.W.findIn K (.ref EC0) "__getattr__" = some none)
    (xcl0 : PySem.W.findIn K (.ref EC0) "__class__" = some (some (.builtin "object.__class__")))
    (xm0 : PySem.W.mroIn K EC0 (.type "object") = some true)
    (xss0 : PySem.W.subIn K (.ref EC0) (.ref EC0) = some true)
    (xo0 : PySem.W.excInitIn K EC0 [.type "ValueError", .type "Exception", .type "BaseException", .type "object"] "ValueError.__new__" = true)
    (xs0 : PySem.W.findIn K (.ref EC0) "__setattr__" = some (some (.builtin "object.__setattr__")))
    (xn0 : PySem.W.findIn K (.ref EC0) "index" = some none)
    (xi0 : PySem.W.findIn K (.ref EC0) "__init__" = some (some (.ref fX0)))
    (xti0 : PySem.W.typeIn K (.ref fX0) = some (.type "function"))
    (xl0 : K.lookup fX0 = some ⟨ocX0, odX0, .func (PySem.W.fnOf "__init__" "BadText.__init__" (defArgs (mS 6 0)) (defBody (mS 6 0)) (defScope (mS 6 0)) .none kVX0 dcX0 pmX0 anX0 cdX0 ctX0), slX0⟩)
    (xc0 : PySem.W.codeIn K cdX0 "BadText.__init__" = true)
    (xki0 : PySem.W.keepIn K (.ref fX0) = true)
    (xsub0_0 : PySem.W.subIn K (.ref EC0) (.ref EC0) = some true)
    {c T : Addr} (xtab : PySem.W.tabIn K "_law_words_right" = some (c, T)) (xout : K.lookup T = none) (xcd : cd23 = .ref c)
    : ∃ (c T : Addr) (fd : FuncData), PySem.W.tabIn K "_law_words_right" = some (c, T) ∧ K.lookup T = none ∧ (∀ (s : Shared) (v : Value), BindsTo s fd ⟨[v], []⟩ [("_law_script", v)]) ∧ ∀ base : Heap, K.In base → base.Ns mainGlobals mg → LamX.TabB base mg c T → FnG P w K mg base 7 fa fd ["_law_script"] (spLawT T qWr K) := by
  have e := hfa.symm.trans (PySem.W.mg_of X G a25)
  cases e
  have F0 := fun_mk (st := topS 2) l0 c0 k0
  have m0 := PySem.W.mg_of X G a0
  have b0 := F0.binds (ps := ["switches", "switch"]) fun _ _ _ _ _ _ us hl => match us, hl with | [_, _], _ => rfl
  have F1 := fun_mk (st := topS 8) l1 c1 k1
  have m1 := PySem.W.mg_of X G a1
  have b1 := F1.binds (ps := ["n", "card"]) fun _ _ _ _ _ _ us hl => match us, hl with | [_, _], _ => rfl
  have F2 := fun_mk (st := topS 9) l2 c2 k2
  have m2 := PySem.W.mg_of X G a2
  have b2 := F2.binds (ps := ["n", "cards"]) fun _ _ _ _ _ _ us hl => match us, hl with | [_, _], _ => rfl
  have F3 := fun_mk (st := topS 10) l3 c3 k3
  have m3 := PySem.W.mg_of X G a3
  have b3 := F3.binds (ps := ["box"]) fun _ _ _ _ _ _ us hl => match us, hl with | [_], _ => rfl
  have F4 := fun_mk (st := topS 11) l4 c4 k4
  have m4 := PySem.W.mg_of X G a4
  have b4 := F4.binds (ps := ["word", "words"]) fun _ _ _ _ _ _ us hl => match us, hl with | [_, _], _ => rfl
  have F5 := fun_mk (st := topS 12) l5 c5 k5
  have m5 := PySem.W.mg_of X G a5
  have b5 := F5.binds (ps := ["n", "word"]) fun _ _ _ _ _ _ us hl => match us, hl with | [_, _], _ => rfl
  have F6 := fun_mk (st := topS 13) l6 c6 k6
  have m6 := PySem.W.mg_of X G a6
  have b6 := F6.binds (ps := ["text"]) fun _ _ _ _ _ _ us hl => match us, hl with | [_], _ => rfl
  have F7 := fun_mk (st := topS 14) l7 c7 k7
  have m7 := PySem.W.mg_of X G a7
  have b7 := F7.binds (ps := ["n", "words"]) fun _ _ _ _ _ _ us hl => match us, hl with | [_, _], _ => rfl
  have F8 := fun_mk (st := topS 16) l8 c8 k8
  have m8 := PySem.W.mg_of X G a8
  have b8 := F8.binds (ps := ["box", "switches"]) fun _ _ _ _ _ _ us hl => match us, hl with | [_, _], _ => rfl
  have F9 := fun_mk (st := topS 17) l9 c9 k9
  have m9 := PySem.W.mg_of X G a9
  have b9 := F9.binds (ps := ["box", "order"]) fun _ _ _ _ _ _ us hl => match us, hl with | [_, _], _ => rfl
  have F10 := fun_mk (st := topS 18) l10 c10 k10
  have m10 := PySem.W.mg_of X G a10
  have b10 := F10.binds (ps := ["card", "order"]) fun _ _ _ _ _ _ us hl => match us, hl with | [_, _], _ => rfl
  have F11 := fun_mk (st := topS 19) l11 c11 k11
  have m11 := PySem.W.mg_of X G a11
  have b11 := F11.binds (ps := ["box", "on"]) fun _ _ _ _ _ _ us hl => match us, hl with | [_, _], _ => rfl
  have F12 := fun_mk (st := topS 20) l12 c12 k12
  have m12 := PySem.W.mg_of X G a12
  have b12 := F12.binds (ps := ["first", "second"]) fun _ _ _ _ _ _ us hl => match us, hl with | [_, _], _ => rfl
  have F13 := fun_mk (st := topS 22) l13 c13 k13
  have m13 := PySem.W.mg_of X G a13
  have b13 := F13.binds (ps := ["_law_script"]) fun _ _ _ _ _ _ us hl => match us, hl with | [_], _ => rfl
  have F14 := fun_mk (st := topS 23) l14 c14 k14
  have m14 := PySem.W.mg_of X G a14
  have b14 := F14.binds (ps := ["_law_deck_here", "_law_many"]) fun _ _ _ _ _ _ us hl => match us, hl with | [_, _], _ => rfl
  have F15 := fun_mk (st := topS 24) l15 c15 k15
  have m15 := PySem.W.mg_of X G a15
  have b15 := F15.binds (ps := ["_law_found", "_law_due"]) fun _ _ _ _ _ _ us hl => match us, hl with | [_, _], _ => rfl
  have F16 := fun_mk (st := topS 25) l16 c16 k16
  have m16 := PySem.W.mg_of X G a16
  have b16 := F16.binds (ps := ["_law_deck_here", "_law_n"]) fun _ _ _ _ _ _ us hl => match us, hl with | [_, _], _ => rfl
  have F17 := fun_mk (st := topS 26) l17 c17 k17
  have m17 := PySem.W.mg_of X G a17
  have b17 := F17.binds (ps := ["_law_deck_here", "_law_n"]) fun _ _ _ _ _ _ us hl => match us, hl with | [_, _], _ => rfl
  have F18 := fun_mk (st := topS 27) l18 c18 k18
  have m18 := PySem.W.mg_of X G a18
  have b18 := F18.binds (ps := ["_law_number"]) fun _ _ _ _ _ _ us hl => match us, hl with | [_], _ => rfl
  have F19 := fun_mk (st := topS 28) l19 c19 k19
  have m19 := PySem.W.mg_of X G a19
  have b19 := F19.binds (ps := ["_law_deck_here", "_law_most"]) fun _ _ _ _ _ _ us hl => match us, hl with | [_, _], _ => rfl
  have F20 := fun_mk (st := topS 29) l20 c20 k20
  have m20 := PySem.W.mg_of X G a20
  have b20 := F20.binds (ps := ["_law_deck_here", "_law_text"]) fun _ _ _ _ _ _ us hl => match us, hl with | [_, _], _ => rfl
  have F21 := fun_mk (st := topS 30) l21 c21 k21
  have m21 := PySem.W.mg_of X G a21
  have b21 := F21.binds (ps := []) fun _ _ _ _ _ _ us hl => match us, hl with | [], _ => rfl
  have F22 := fun_mk (st := topS 31) l22 c22 k22
  have m22 := PySem.W.mg_of X G a22
  have b22 := F22.binds (ps := ["_law_n", "_law_words"]) fun _ _ _ _ _ _ us hl => match us, hl with | [_, _], _ => rfl
  have F23 := fun_mk (st := topS 32) l23 c23 k23
  have m23 := PySem.W.mg_of X G a23
  have b23 := F23.binds (ps := ["_law_box_here"]) fun _ _ _ _ _ _ us hl => match us, hl with | [_], _ => rfl
  have F24 := fun_mk (st := topS 33) l24 c24 k24
  have m24 := PySem.W.mg_of X G a24
  have b24 := F24.binds (ps := ["_law_text"]) fun _ _ _ _ _ _ us hl => match us, hl with | [_], _ => rfl
  have F25 := fun_mk (st := topS 34) l25 c25 k25
  have m25 := PySem.W.mg_of X G a25
  have n_range := PySem.W.mg_none_of X G z0
  have n_tuple := PySem.W.mg_none_of X G z1
  have n_len := PySem.W.mg_none_of X G z2
  have n_abs := PySem.W.mg_none_of X G z3
  have n_int := PySem.W.mg_none_of X G z4
  have n_list := PySem.W.mg_none_of X G z5
  have n_sorted := PySem.W.mg_none_of X G z6
  have n_isinstance := PySem.W.mg_none_of X G z7
  have n_str := PySem.W.mg_none_of X G z8
  have n_enumerate := PySem.W.mg_none_of X G z9
  have n_zip := PySem.W.mg_none_of X G z10
  have n_bool := PySem.W.mg_none_of X G z11
  have n_sum := PySem.W.mg_none_of X G z12
  have v_MAX_SWITCHES := PySem.W.mg_of X G y0
  have mE0 := PySem.W.mg_of X G xa0
  have ex0 : ExcC K EC0 := ⟨xg0, xgg0, xb0, xd0, xcl0, xhn, xtk, xm0⟩
  have T0 : OexC K EC0 := ⟨oexI_cls xo0 xd0, xs0, xb0, xt0, xk0⟩
  have xf0 : XfC K EC0 := ⟨xg0, xgg0, xb0, xd0⟩
  have FX0 := fun_mk (st := (mS 6 0)) xl0 xc0 xki0
  have bX0 := FX0.binds (ps := ["self", "index"]) fun _ _ _ _ _ _ us hl => match us, hl with | [_, _], _ => rfl
  have X0 : ∀ base : Heap, XCl P w K mg base "BadText" EC0 "index" := fun base => ⟨T0, mE0, _, _, _, xi0, xti0, xinit_ok FX0 ⟨rfl, rfl, rfl, by decide +kernel, rfl, by decide +kernel, by decide +kernel⟩ rfl T0 xn0 (.inl rfl) (.inl rfl) (fun _ => rfl), bX0⟩
  have exm0_0 : PySem.W.exmOne K (.ref EC0) (.ref EC0) = some true := PySem.W.exm_ref xb0 xd0 xt0 xsub0_0
  refine ⟨c, T, PySem.W.fnOf "law" "law" (defArgs (topS 34)) (defBody (topS 34)) (defScope (topS 34)) .none kV25 dc25 pm25 an25 cd25 ct25, xtab, xout, fun s v => .of_eq rfl, fun base _ _ tb => ?_⟩
  have g__law_draw83 : DFnQ P w K mg base 1 "_law_draw" 1 PreNext RNext := ⟨_, _, _, ok_draw83 F14 n_len, m14, k14, b14⟩
  have g__law_closed83 : DFnQ P w K mg base 2 "_law_closed" 5 PreN RCards := ⟨_, _, _, ok_clo83 F16 n_range g__law_draw83, m16, k16, b16⟩
  have g__law_size83 : PFn P w K mg base 1 "_law_size" Rsize := ⟨_, _, _, ok_size F18 , m18, k18, b18⟩
  have g__law_cards83 : DFnQ P w K mg base 3 "_law_cards" 66 PreN RCd83 := ⟨_, _, _, ok_cd83 F17 n_range n_list n_sorted g__law_draw83 g__law_closed83 g__law_size83, m17, k17, b17⟩
  have g__law_boxM : DFnQ P w K mg base 4 "_law_box" 67 PreMo RBx := ⟨_, _, _, ok_bx F19 n_tuple g__law_draw83 g__law_cards83, m19, k19, b19⟩
  have g_has_switch : PFn P w K mg base 1 "has_switch" Rhsw := ⟨_, _, _, ok_hsw F0 , m0, k0, b0⟩
  have g_card_text : PFn P w K mg base 2 "card_text" RctP := ⟨_, _, _, ok_ct F1 n_range g_has_switch, m1, k1, b1⟩
  have g_place_of : PFn P w K mg base 1 "place_of" Rpof := ⟨_, _, _, ok_pof F4 , m4, k4, b4⟩
  have g_read_card : PFn P w K mg base 3 "read_card" Rrcd := ⟨_, _, _, ok_rcd F5 n_range g_card_text g_place_of, m5, k5, b5⟩
  have g_cards_text : PFn P w K mg base 3 "cards_text" RcstP := ⟨_, _, _, ok_cst F2 n_len g_card_text, m2, k2, b2⟩
  have g_box_text : PFn P w K mg base 4 "box_text" RbtP := ⟨_, _, _, ok_bt F3 g_cards_text, m3, k3, b3⟩
  have g__law_joined63 : PFn P w K mg base 1 "_law_joined" Rjn := ⟨_, _, _, ok_jn F22 n_str n_int, m22, k22, b22⟩
  have g__law_bent63 : DFnQ P w K mg base 2 "_law_bent" 6 PreBn RBen := ⟨_, _, _, ok_ben F20 n_len g__law_draw83, m20, k20, b20⟩
  have g_renamed_card : PFn P w K mg base 2 "renamed_card" Rrnc := ⟨_, _, _, ok_rnc F10 n_sum n_enumerate g_has_switch, m10, k10, b10⟩
  have g_rename_switches : PFn P w K mg base 3 "rename_switches" Rrns := ⟨_, _, _, ok_rns F9 n_tuple n_sorted g_renamed_card, m9, k9, b9⟩
  have g_flip_switches : PFn P w K mg base 1 "flip_switches" Rflip := ⟨_, _, _, ok_flip F8 n_tuple n_sorted, m8, k8, b8⟩
  have g_product_box : PFn P w K mg base 1 "product_box" Rprd := ⟨_, _, _, ok_prd F12 n_tuple v_MAX_SWITCHES, m12, k12, b12⟩
  have g_add_fixed : PFn P w K mg base 2 "add_fixed" Rafx := ⟨_, _, _, ok_afx F11 g_product_box, m11, k11, b11⟩
  have g__law_same57 : PFn P w K mg base 1 "_law_same" (RsmT 0) := ⟨_, _, _, ok_smT0 F15 , m15, k15, b15⟩
  have g__law_same57_1 : PFn P w K mg base 2 "_law_same" (RsmT 1) := ⟨_, _, _, ok_smT 0 F15 n_isinstance n_tuple n_len n_zip n_str n_int n_bool g__law_same57, m15, k15, b15⟩
  have g__law_same57_2 : PFn P w K mg base 3 "_law_same" (RsmT 2) := ⟨_, _, _, ok_smT 1 F15 n_isinstance n_tuple n_len n_zip n_str n_int n_bool g__law_same57_1, m15, k15, b15⟩
  have g__law_same57_3 : PFn P w K mg base 4 "_law_same" (RsmT 3) := ⟨_, _, _, ok_smT 2 F15 n_isinstance n_tuple n_len n_zip n_str n_int n_bool g__law_same57_2, m15, k15, b15⟩
  have e_pc : PFE P w K mg base 4 "parse_cards" (RpcsE EC0) := ⟨_, _, _, ok_pcsE F7 n_len n_tuple n_enumerate (X0 base) g_read_card, m7, k7, b7⟩
  have e_pb : PFE P w K mg base 5 "parse_box" (RpbxE EC0) := ⟨_, _, _, ok_pbxE F6 n_isinstance n_str n_range n_len v_MAX_SWITCHES (X0 base) g_place_of e_pc, m6, k6, b6⟩
  have g_acc : PFn P w K mg base 6 "_law_accepted_right" Racc := ⟨_, _, _, ok_acc F24 mE0 exm0_0 e_pb g_box_text, m24, k24, b24⟩
  have g_sml := ok_sml (P := P) (w := w) (mg := mg) (base := base) F21 n_range n_tuple
  have g_sm1 := m21
  have g_sm2 := k21
  have g_sm3 := b21
  have g_wr : TFn P w K mg base T qWr 6 "_law_words_right" Rwr := ⟨_, _, _, ok_wr F23 xcd tb n_len n_tuple n_range n_sorted g_box_text e_pb g__law_same57_3 g_rename_switches g__law_joined63 g_flip_switches g_add_fixed, m23, k23, b23⟩
  exact ok_law F25 n_range n_len ⟨_, _, ok_deck F13 n_abs, m13, k13, b13⟩ g_sml g_sm1 g_sm2 g_sm3 g__law_draw83 g__law_boxM g_wr g_box_text g_acc g__law_bent63
end K63
open PySem PySem.W PyProof.Rows
set_option maxHeartbeats 0 in
theorem PySem.Challenge.cw_cardboxes_k63_whole_texts_there_and_back_holds : PySem.Challenge.rw_cardboxes_k63_whole_texts_there_and_back.Holds := by
  w_on; o_law; k_head; (case hw => w_witness2)
  k_fill
  refine Dl.walk_endT (y := "_law_words_right") (l := PySem.Challenge.rw_cardboxes_k63_whole_texts_there_and_back) (n := 63) (k := 7) (x := "_law_script") (sp := fun T K => Dl.spLawT T K63.qWr K) rfl (by decide) rfl ⟨rfl, by decide, by decide⟩ (fun w h Y => PySem.W.km_in_of Y) rfl ?F (fun _ _ _ a ns hl hT hS => ⟨a, ns, rfl, hS, hl, .nil hT, fun _ => rfl⟩)
  case F =>
    intro w mg fa h KX G hmg
    refine' K63.all_mk (T := 202) KX G hmg ?a0 ?l0 ?c0 ?k0 ?a1 ?l1 ?c1 ?k1 ?a2 ?l2 ?c2 ?k2 ?a3 ?l3 ?c3 ?k3 ?a4 ?l4 ?c4 ?k4 ?a5 ?l5 ?c5 ?k5 ?a6 ?l6 ?c6 ?k6 ?a7 ?l7 ?c7 ?k7 ?a8 ?l8 ?c8 ?k8 ?a9 ?l9 ?c9 ?k9 ?a10 ?l10 ?c10 ?k10 ?a11 ?l11 ?c11 ?k11 ?a12 ?l12 ?c12 ?k12 ?a13 ?l13 ?c13 ?k13 ?a14 ?l14 ?c14 ?k14 ?a15 ?l15 ?c15 ?k15 ?a16 ?l16 ?c16 ?k16 ?a17 ?l17 ?c17 ?k17 ?a18 ?l18 ?c18 ?k18 ?a19 ?l19 ?c19 ?k19 ?a20 ?l20 ?c20 ?k20 ?a21 ?l21 ?c21 ?k21 ?a22 ?l22 ?c22 ?k22 ?a23 ?l23 ?c23 ?k23 ?a24 ?l24 ?c24 ?k24 ?a25 ?l25 ?c25 ?k25 ?z0 ?z1 ?z2 ?z3 ?z4 ?z5 ?z6 ?z7 ?z8 ?z9 ?z10 ?z11 ?z12 ?y0 ?xhn ?xtk ?xa0 ?xt0 ?xic0 ?xb0 ?xd0 ?xk0 ?xg0 ?xgg0 ?xcl0 ?xm0 ?xss0 ?xo0 ?xs0 ?xn0 ?xi0 ?xti0 ?xl0 ?xc0 ?xki0 ?xsub0_0 ?xtab ?xout ?xcd
    (case a0 => k_is); (case l0 => k_is); (case c0 => k_is); (case k0 => k_is)
    (case a1 => k_is); (case l1 => k_is); (case c1 => k_is); (case k1 => k_is)
    (case a2 => k_is); (case l2 => k_is); (case c2 => k_is); (case k2 => k_is)
    (case a3 => k_is); (case l3 => k_is); (case c3 => k_is); (case k3 => k_is)
    (case a4 => k_is); (case l4 => k_is); (case c4 => k_is); (case k4 => k_is)
    (case a5 => k_is); (case l5 => k_is); (case c5 => k_is); (case k5 => k_is)
    (case a6 => k_is); (case l6 => k_is); (case c6 => k_is); (case k6 => k_is)
    (case a7 => k_is); (case l7 => k_is); (case c7 => k_is); (case k7 => k_is)
    (case a8 => k_is); (case l8 => k_is); (case c8 => k_is); (case k8 => k_is)
    (case a9 => k_is); (case l9 => k_is); (case c9 => k_is); (case k9 => k_is)
    (case a10 => k_is); (case l10 => k_is); (case c10 => k_is); (case k10 => k_is)
    (case a11 => k_is); (case l11 => k_is); (case c11 => k_is); (case k11 => k_is)
    (case a12 => k_is); (case l12 => k_is); (case c12 => k_is); (case k12 => k_is)
    (case a13 => k_is); (case l13 => k_is); (case c13 => k_is); (case k13 => k_is)
    (case a14 => k_is); (case l14 => k_is); (case c14 => k_is); (case k14 => k_is)
    (case a15 => k_is); (case l15 => k_is); (case c15 => k_is); (case k15 => k_is)
    (case a16 => k_is); (case l16 => k_is); (case c16 => k_is); (case k16 => k_is)
    (case a17 => k_is); (case l17 => k_is); (case c17 => k_is); (case k17 => k_is)
    (case a18 => k_is); (case l18 => k_is); (case c18 => k_is); (case k18 => k_is)
    (case a19 => k_is); (case l19 => k_is); (case c19 => k_is); (case k19 => k_is)
    (case a20 => k_is); (case l20 => k_is); (case c20 => k_is); (case k20 => k_is)
    (case a21 => k_is); (case l21 => k_is); (case c21 => k_is); (case k21 => k_is)
    (case a22 => k_is); (case l22 => k_is); (case c22 => k_is); (case k22 => k_is)
    (case a23 => k_is); (case l23 => k_is); (case c23 => k_is); (case k23 => k_is)
    (case a24 => k_is); (case l24 => k_is); (case c24 => k_is); (case k24 => k_is)
    (case a25 => k_is); (case l25 => k_is); (case c25 => k_is); (case k25 => k_is)
    (case z0 => k_is); (case z1 => k_is); (case z2 => k_is); (case z3 => k_is); (case z4 => k_is); (case z5 => k_is); (case z6 => k_is); (case z7 => k_is); (case z8 => k_is); (case z9 => k_is); (case z10 => k_is); (case z11 => k_is); (case z12 => k_is)
    (case y0 => k_is)
    (case xhn => k_is)
    (case xtk => k_is)
    (case xa0 => k_is)
    (case xt0 => k_is)
    (case xic0 => k_is)
    (case xb0 => k_is)
    (case xd0 => k_is)
    (case xk0 => k_is)
    (case xg0 => k_is)
    (case xgg0 => k_is)
    (case xcl0 => k_is)
    (case xm0 => k_is)
    (case xss0 => k_is)
    (case xo0 => kx_is)
    (case xs0 => k_is)
    (case xn0 => k_is)
    (case xi0 => k_is)
    (case xti0 => k_is)
    (case xl0 => k_is)
    (case xc0 => k_is)
    (case xki0 => k_is)
    (case xsub0_0 => k_is)
    (case xcd => rfl)
    (case xtab => kernel_rfl)
    (case xout => kernel_rfl)

