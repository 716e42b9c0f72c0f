import PyProof.Rows.All
import Wide.All
import OpenK.AllK
import Wide.FinOn
import HandS.ForMost
import HandS.Evl
import HandS.Deep
import HandS.TupAny
import HandS.IsInst
import HandS.Style
import HandS.Wide
import HandS.RaiseMore
import HandS.MakeKw
import KE.GoesEnum
import HandS.Zip
import HandS.SetFor
import HandS.SetKeys
import HandS.TupLe
import HandS.OwnEq
import HandS.SetBool
import HandS.DictComp
import HandS.SortRule
import PyProof.Rows.SortKeyStr
import PyProof.Rows.StrMul
import HandS.Conv
import HandS.Dict
import HandS.Rev
import KE.GoesMore
import HandS.ListItems
import KE.KDictList
import KE.KDictDisplayH
import PyProof.StrLawsRepr
import PySem.Challenge.RW_pacehouse_k13_open_stands
set_option Elab.async false
set_option linter.all false
set_option maxRecDepth 100000
set_option maxHeartbeats 4000000
/-! DL1: data trees over the hand layer's heap, a store of things that change, and what holds between both. -/
namespace DL
open PySem L2

/-- a value as a tree; loc: a thing of the store, which may change -/
inductive D where
  | non | bl (b : Bool) | int (i : Int) | str (x : Str)
  | tup (ds : List D) | lst (ds : List D) | scr (ds : List D) | dic (ks : List Key) (ds : List D) | ins (C : Addr) (fs : List Str) (ds : List D)
  | loc (n : Nat) | ty (n : String) | cls (C : Addr)
/-- a thing of the store -/
inductive O where
  | lst (ds : List D) | dic (ks : List Key) (ds : List D) | dct (ks : List (List Key)) (ds : List D) | ins (C : Addr) (fs : List Str) (ds : List D) | dead | lk (ks : List (List Key)) (ds : List D)
abbrev Sto := List O
abbrev Env := List (Option D)

mutual
inductive Is (K : PySem.W.Frag) (F : Hp) (f : List Addr) : V → D → Prop
  | non : Is K F f .non .non
  | bl (b : Bool) : Is K F f (.bl b) (.bl b)
  | int (i : Int) : Is K F f (.int i) (.int i)
  | str (x : Str) : Is K F f (.str x) (.str x)
  | tup {a : Addr} {vs : List V} {ds : List D} : F a = some (.tup vs) → IsAll K F f vs ds → Is K F f (.ref a) (.tup ds)
  | lst {a : Addr} {vs : List V} {ds : List D} : F a = some (.lst vs) → IsAll K F f vs ds → Is K F f (.ref a) (.lst ds)
  | scr {a : Addr} {vs : List V} {ds : List D} : SqL K F a vs → IsAll K F f vs ds → Is K F f (.ref a) (.scr ds)
  | dic {a : Addr} {kvs : List (Key × V)} {ks : List Key} {ds : List D} : F a = some (.dK kvs) → kvs.map (·.1) = ks → IsAll K F f (kvs.map (·.2)) ds → Is K F f (.ref a) (.dic ks ds)
  | ins {a C dx : Addr} {kvs : List (Str × V)} {ks : List Str} {ds : List D} : F a = some (.ins C dx kvs) → kvs.map (·.1) = ks → IsAll K F f (kvs.map (·.2)) ds → Is K F f (.ref a) (.ins C ks ds)
  | loc {a : Addr} {n : Nat} : f[n]? = some a → Is K F f (.ref a) (.loc n)
  | ty (n : String) : Is K F f (.ty n) (.ty n)
  | cls (C : Addr) : Is K F f (.ref C) (.cls C)
inductive IsAll (K : PySem.W.Frag) (F : Hp) (f : List Addr) : List V → List D → Prop
  | nil : IsAll K F f [] []
  | cons {v : V} {d : D} {vs : List V} {ds : List D} : Is K F f v d → IsAll K F f vs ds → IsAll K F f (v :: vs) (d :: ds)
end

abbrev Ex := Evl.Ex
/-- the frozen heap grows, the store's places grow -/
structure Ext (F : Hp) (f : List Addr) (F' : Hp) (f' : List Addr) : Prop where
  ex : Ex F F'
  pre : f <+: f'
theorem Ext.refl (F : Hp) (f : List Addr) : Ext F f F f := ⟨Evl.Ex.refl F, List.prefix_rfl⟩
theorem Ext.trans {F F1 F2 : Hp} {f f1 f2 : List Addr} (a : Ext F f F1 f1) (b : Ext F1 f1 F2 f2) : Ext F f F2 f2 := ⟨a.ex.trans b.ex, a.pre.trans b.pre⟩
theorem pre_get {α : Type} {l l' : List α} {n : Nat} {a : α} (h : l <+: l') (e : l[n]? = some a) : l'[n]? = some a := by
  obtain ⟨t, rfl⟩ := h
  rw [List.getElem?_append_left (List.getElem?_eq_some_iff.mp e).1]
  exact e
section
variable {K : PySem.W.Frag} {F F' : Hp} {f f' : List Addr}
mutual
theorem Is.mono (x : Ext F f F' f') : ∀ {v : V} {d : D}, Is K F f v d → Is K F' f' v d
  | _, _, .non => .non
  | _, _, .bl b => .bl b
  | _, _, .int i => .int i
  | _, _, .str s => .str s
  | _, _, .tup h a => .tup (x.ex _ _ h) (IsAll.mono x a)
  | _, _, .lst h a => .lst (x.ex _ _ h) (IsAll.mono x a)
  | _, _, .scr h a => .scr (Evl.ex_l x.ex h) (IsAll.mono x a)
  | _, _, .dic h e a => .dic (x.ex _ _ h) e (IsAll.mono x a)
  | _, _, .ins h e a => .ins (x.ex _ _ h) e (IsAll.mono x a)
  | _, _, .loc h => .loc (pre_get x.pre h)
  | _, _, .ty n => .ty n
  | _, _, .cls C => .cls C
theorem IsAll.mono (x : Ext F f F' f') : ∀ {vs : List V} {ds : List D}, IsAll K F f vs ds → IsAll K F' f' vs ds
  | _, _, .nil => .nil
  | _, _, .cons h t => .cons (Is.mono x h) (IsAll.mono x t)
end
theorem IsAll.length : ∀ {vs : List V} {ds : List D}, IsAll K F f vs ds → vs.length = ds.length
  | _, _, .nil => rfl
  | _, _, .cons _ t => congrArg (· + 1) (IsAll.length t)
theorem IsAll.get : ∀ {vs : List V} {ds : List D} {i : Nat} {d : D}, IsAll K F f vs ds → ds[i]? = some d → ∃ v, vs[i]? = some v ∧ Is K F f v d
  | _, _, 0, d, .cons h t, e => by simp at e; subst e; exact ⟨_, rfl, h⟩
  | _, _, i + 1, d, .cons h t, e => by
    obtain ⟨v, h1, h2⟩ := IsAll.get (i := i) t (by simpa using e)
    exact ⟨v, by simpa using h1, h2⟩
  | _, _, i, d, .nil, e => by simp at e
theorem IsAll.append : ∀ {vs ws : List V} {ds es : List D}, IsAll K F f vs ds → IsAll K F f ws es → IsAll K F f (vs ++ ws) (ds ++ es)
  | _, _, _, _, .nil, s => s
  | _, _, _, _, .cons h t, s => .cons h (IsAll.append t s)
theorem IsAll.set {v : V} {d : D} (r : Is K F f v d) : ∀ {vs : List V} {ds : List D} (i : Nat), IsAll K F f vs ds → IsAll K F f (vs.set i v) (ds.set i d)
  | _, _, _, .nil => .nil
  | _, _, 0, .cons _ t => .cons r t
  | _, _, i + 1, .cons q t => .cons q (IsAll.set r i t)
theorem IsAll.take : ∀ {vs : List V} {ds : List D} (n : Nat), IsAll K F f vs ds → IsAll K F f (vs.take n) (ds.take n)
  | _, _, 0, _ => .nil
  | _, _, _ + 1, .nil => .nil
  | _, _, n + 1, .cons r t => .cons r (IsAll.take n t)
theorem IsAll.drop : ∀ {vs : List V} {ds : List D} (n : Nat), IsAll K F f vs ds → IsAll K F f (vs.drop n) (ds.drop n)
  | _, _, 0, r => r
  | _, _, _ + 1, .nil => .nil
  | _, _, n + 1, .cons _ t => IsAll.drop n t
theorem IsAll.dropLast : ∀ {vs : List V} {ds : List D}, IsAll K F f vs ds → IsAll K F f vs.dropLast ds.dropLast := fun {vs ds} h => by
  rw [List.dropLast_eq_take, List.dropLast_eq_take, h.length]
  exact h.take _
theorem IsAll.reverse : ∀ {vs : List V} {ds : List D}, IsAll K F f vs ds → IsAll K F f vs.reverse ds.reverse
  | _, _, .nil => .nil
  | _, _, .cons h t => by
    rw [List.reverse_cons, List.reverse_cons]
    exact (IsAll.reverse t).append (.cons h .nil)
end

/-! ### trees without places of the store from n on -/
mutual
def D.low (n : Nat) : D → Bool
  | .loc m => decide (m < n)
  | .tup ds => lowAll n ds
  | .lst ds => lowAll n ds
  | .scr ds => lowAll n ds
  | .dic _ ds => lowAll n ds
  | .ins _ _ ds => lowAll n ds
  | _ => true
def lowAll (n : Nat) : List D → Bool
  | [] => true
  | d :: ds => d.low n && lowAll n ds
end
def O.low (n : Nat) : O → Bool
  | .lst ds => lowAll n ds
  | .dic _ ds => lowAll n ds
  | .dct _ ds => lowAll n ds
  | .ins _ _ ds => lowAll n ds
  | .dead => true
  | .lk _ ds => lowAll n ds
/-- not frozen, not locked -/
def O.live : O → Bool
  | .dead => false
  | .lk _ _ => false
  | _ => true
def O.isLk : O → Bool
  | .lk _ _ => true
  | _ => false
section
variable {K : PySem.W.Frag} {F : Hp} {f f' : List Addr}
mutual
theorem Is.cut (h : f <+: f') : ∀ {v : V} {d : D}, d.low f.length = true → Is K F f' v d → Is K F f v d
  | _, _, _, .non => .non
  | _, _, _, .bl b => .bl b
  | _, _, _, .int i => .int i
  | _, _, _, .str s => .str s
  | _, _, b, .tup s a => .tup s (IsAll.cut h (by simpa only [D.low] using b) a)
  | _, _, b, .lst s a => .lst s (IsAll.cut h (by simpa only [D.low] using b) a)
  | _, _, b, .scr s a => .scr s (IsAll.cut h (by simpa only [D.low] using b) a)
  | _, _, b, .dic s e a => .dic s e (IsAll.cut h (by simpa only [D.low] using b) a)
  | _, _, b, .ins s e a => .ins s e (IsAll.cut h (by simpa only [D.low] using b) a)
  | _, _, b, .loc e => .loc (by
      obtain ⟨t, rfl⟩ := h
      simp only [D.low, decide_eq_true_eq] at b
      rw [List.getElem?_append_left b] at e
      exact e)
  | _, _, _, .ty n => .ty n
  | _, _, _, .cls C => .cls C
theorem IsAll.cut (h : f <+: f') : ∀ {vs : List V} {ds : List D}, lowAll f.length ds = true → IsAll K F f' vs ds → IsAll K F f vs ds
  | _, _, _, .nil => .nil
  | _, _, b, .cons s t => by
    simp only [lowAll, Bool.and_eq_true] at b
    exact .cons (Is.cut h b.1 s) (IsAll.cut h b.2 t)
end
end

/-! ### the store -/
def ObjIs (K : PySem.W.Frag) (F : Hp) (f : List Addr) (o : Option HO) : O → Prop
  | .lst ds => ∃ vs, o = some (.lst vs) ∧ IsAll K F f vs ds
  | .dic ks ds => ∃ kvs, o = some (.dK kvs) ∧ kvs.map (·.1) = ks ∧ IsAll K F f (kvs.map (·.2)) ds
  | .dct ks ds => ∃ kvs, o = some (.dT kvs) ∧ kvs.map (·.1) = ks ∧ IsAll K F f (kvs.map (·.2)) ds
  | .ins C ks ds => ∃ dx kvs, o = some (.ins C dx kvs) ∧ kvs.map (·.1) = ks ∧ IsAll K F f (kvs.map (·.2)) ds
  | .dead => True
  | .lk _ _ => True
theorem ObjIs.mono {K : PySem.W.Frag} {F F' : Hp} {f f' : List Addr} (x : Ext F f F' f') {o : Option HO} : ∀ {u : O}, ObjIs K F f o u → ObjIs K F' f' o u
  | .lst _, ⟨vs, e, h⟩ => ⟨vs, e, h.mono x⟩
  | .dic _ _, ⟨kvs, e, k, h⟩ => ⟨kvs, e, k, h.mono x⟩
  | .dct _ _, ⟨kvs, e, k, h⟩ => ⟨kvs, e, k, h.mono x⟩
  | .ins _ _ _, ⟨dx, kvs, e, k, h⟩ => ⟨dx, kvs, e, k, h.mono x⟩
  | .dead, _ => trivial
  | .lk _ _, _ => trivial
theorem ObjIs.cut {K : PySem.W.Frag} {F : Hp} {f f' : List Addr} (x : f <+: f') {o : Option HO} : ∀ {u : O}, u.low f.length = true → ObjIs K F f' o u → ObjIs K F f o u
  | .lst _, b, ⟨vs, e, h⟩ => ⟨vs, e, h.cut x b⟩
  | .dic _ _, b, ⟨kvs, e, k, h⟩ => ⟨kvs, e, k, h.cut x b⟩
  | .dct _ _, b, ⟨kvs, e, k, h⟩ => ⟨kvs, e, k, h.cut x b⟩
  | .ins _ _ _, b, ⟨dx, kvs, e, k, h⟩ => ⟨dx, kvs, e, k, h.cut x b⟩
  | .dead, _, _ => trivial
  | .lk _ _, _, _ => trivial
structure Held (K : PySem.W.Frag) (F : Hp) (f : List Addr) (S : Sto) (H : Hp) : Prop where
  ex : Ex F H
  len : f.length = S.length
  nd : f.Nodup
  fr : ∀ (n : Nat) (a : Addr) (o : O), f[n]? = some a → S[n]? = some o → o.live = true → F a = none
  so : ∀ a ∈ f, ∃ o, H a = some o
  ob : ∀ (n : Nat) (a : Addr) (o : O), f[n]? = some a → S[n]? = some o → ObjIs K F f (H a) o
  lk : ∀ (n : Nat) (a : Addr) (ks : List (List Key)) (ds : List D), f[n]? = some a → S[n]? = some (.lk ks ds) → ∃ od kvs, F a = some (.frz od (.dT kvs)) ∧ kvs.map (·.1) = ks ∧ IsAll K F f (kvs.map (·.2)) ds
section
variable {K : PySem.W.Frag} {F F' H H' : Hp} {f f' : List Addr} {S S' : Sto}
/-- nothing that is told changes -/
theorem Held.up (h : Held K F f S H) (e : Ex H H') : Held K F f S H' := by
  refine ⟨h.ex.trans e, h.len, h.nd, h.fr, fun a ha => ?_, fun n a o h1 h2 => ?_, h.lk⟩
  · obtain ⟨o, q⟩ := h.so a ha
    exact ⟨o, e _ _ q⟩
  · have q := h.ob n a o h1 h2
    cases o with
    | lst ds => obtain ⟨vs, e1, r⟩ := q; exact ⟨vs, e _ _ e1, r⟩
    | dic ks ds => obtain ⟨vs, e1, r⟩ := q; exact ⟨vs, e _ _ e1, r⟩
    | dct ks ds => obtain ⟨vs, e1, r⟩ := q; exact ⟨vs, e _ _ e1, r⟩
    | ins C ks ds => obtain ⟨dx, vs, e1, r⟩ := q; exact ⟨dx, vs, e _ _ e1, r⟩
    | dead => trivial
    | lk ks ds => trivial
/-- a new frozen thing at p -/
theorem Held.put (h : Held K F f S H) {p : Addr} {o : HO} (hp : H p = none) : Held K (upd F p o) f S (upd H p o) ∧ Ext F f (upd F p o) f := by
  have fp : F p = none := Evl.fresh_back h.ex hp
  have x : Ext F f (upd F p o) f := ⟨Evl.Ex.new fp, List.prefix_rfl⟩
  refine ⟨⟨fun a u e => ?_, h.len, h.nd, fun n a u h1 h2 nd => ?_, fun a ha => ?_, fun n a u h1 h2 => ?_, fun n a ks ds h1 h2 => let ⟨od, kvs, e1, e2, r⟩ := h.lk n a ks ds h1 h2; ⟨od, kvs, x.ex _ _ e1, e2, r.mono x⟩⟩, x⟩
  · by_cases ha : a = p
    · subst ha
      rw [upd_same] at e ⊢
      exact e
    · rw [upd_ne ha] at e ⊢
      exact h.ex _ _ e
  · obtain ⟨u', q⟩ := h.so a (List.mem_of_getElem? h1)
    rw [upd_ne (ne_of_none q hp)]
    exact h.fr n a u h1 h2 nd
  · obtain ⟨u', q⟩ := h.so a ha
    rw [upd_ne (ne_of_none q hp)]
    exact ⟨u', q⟩
  · obtain ⟨u', q⟩ := h.so a (List.mem_of_getElem? h1)
    rw [upd_ne (ne_of_none q hp)]
    exact (h.ob n a u h1 h2).mono x
/-- a new thing of the store at p -/
theorem Held.alloc (h : Held K F f S H) {p : Addr} {u : HO} {o : O} (hp : H p = none) (ho : ObjIs K F (f ++ [p]) (some u) o) (hl : o.isLk = false := by rfl) : Held K F (f ++ [p]) (S ++ [o]) (upd H p u) ∧ Ext F f F (f ++ [p]) := by
  have x : Ext F f F (f ++ [p]) := ⟨Evl.Ex.refl F, List.prefix_append _ _⟩
  have hpf : p ∉ f := fun z => by obtain ⟨o', q⟩ := h.so p z; rw [hp] at q; cases q
  refine ⟨⟨fun a v e => ?_, by simp [h.len], ?_, fun n a v h1 h2 nd => ?_, fun a ha => ?_, fun n a v h1 h2 => ?_, fun n a ks ds h1 h2 => ?_⟩, x⟩
  · rw [upd_ne (ne_of_none (h.ex _ _ e) hp)]
    exact h.ex _ _ e
  · exact List.nodup_append.mpr ⟨h.nd, by simp, fun a ha b hb e => by
      have : b = p := by simpa using hb
      exact hpf (by rw [← this, ← e]; exact ha)⟩
  · by_cases hn : n < f.length
    · rw [List.getElem?_append_left hn] at h1
      rw [List.getElem?_append_left (by rw [← h.len]; exact hn)] at h2
      exact h.fr n a v h1 h2 nd
    · rw [List.getElem?_append_right (by omega)] at h1
      have e0 : n - f.length = 0 := by
        have := (List.getElem?_eq_some_iff.mp h1).1
        simp at this
        omega
      rw [e0] at h1
      have : a = p := by simpa using h1.symm
      rw [this]
      exact Evl.fresh_back h.ex hp
  · rcases List.mem_append.mp ha with z | z
    · obtain ⟨u', q⟩ := h.so a z
      rw [upd_ne (ne_of_none q hp)]
      exact ⟨u', q⟩
    · have : a = p := by simpa using z
      rw [this, upd_same]
      exact ⟨u, rfl⟩
  · by_cases hn : n < f.length
    · rw [List.getElem?_append_left hn] at h1
      rw [List.getElem?_append_left (by rw [← h.len]; exact hn)] at h2
      obtain ⟨u', q⟩ := h.so a (List.mem_of_getElem? h1)
      rw [upd_ne (ne_of_none q hp)]
      exact (h.ob n a v h1 h2).mono x
    · rw [List.getElem?_append_right (by omega)] at h1
      rw [List.getElem?_append_right (by rw [← h.len]; omega)] at h2
      have e0 : n - f.length = 0 := by
        have := (List.getElem?_eq_some_iff.mp h1).1
        simp at this
        omega
      have e1 : n - S.length = 0 := by rw [← h.len]; exact e0
      rw [e0] at h1
      rw [e1] at h2
      have e2 : a = p := by simpa using h1.symm
      have e3 : o = v := by simpa using h2
      rw [e2, ← e3, upd_same]
      exact ho
  · by_cases hn : n < f.length
    · rw [List.getElem?_append_left hn] at h1
      rw [List.getElem?_append_left (by rw [← h.len]; exact hn)] at h2
      obtain ⟨od, kvs, e1, e2, r⟩ := h.lk n a ks ds h1 h2
      exact ⟨od, kvs, e1, e2, r.mono x⟩
    · rw [List.getElem?_append_right (by omega)] at h1
      rw [List.getElem?_append_right (by rw [← h.len]; omega)] at h2
      have e0 : n - f.length = 0 := by
        have := (List.getElem?_eq_some_iff.mp h1).1
        simp at this
        omega
      have e1 : n - S.length = 0 := by rw [← h.len]; exact e0
      rw [e1] at h2
      have e3 : o = .lk ks ds := by simpa using h2
      rw [e3] at hl
      cases hl
/-- a thing of the store is changed -/
theorem Held.write (h : Held K F f S H) {n : Nat} {a : Addr} {u : HO} {o o' : O} (ha : f[n]? = some a) (hs : S[n]? = some o) (hd : o.live = true) (ho : ObjIs K F f (some u) o') (hl : o'.isLk = false := by rfl) : Held K F f (S.set n o') (upd H a u) := by
  have fa := h.fr n a o ha hs hd
  have hn : n < S.length := (List.getElem?_eq_some_iff.mp hs).1
  have ne : ∀ m b, f[m]? = some b → m ≠ n → b ≠ a := fun m b h1 hm e => hm (by
    subst e
    obtain ⟨l1, e1⟩ := List.getElem?_eq_some_iff.mp h1
    obtain ⟨l2, e2⟩ := List.getElem?_eq_some_iff.mp ha
    exact (List.getElem_inj h.nd).mp (e1.trans e2.symm))
  refine ⟨fun b v e => ?_, by simp [h.len], h.nd, fun m b v h1 h2 nd => ?_, fun b hb => ?_, fun m b v h1 h2 => ?_, fun m b ks ds h1 h2 => ?_⟩
  · rw [upd_ne (ne_of_none e fa)]
    exact h.ex _ _ e
  · by_cases hm : m = n
    · subst hm
      rw [ha] at h1
      cases h1
      exact fa
    · rw [List.getElem?_set_ne (Ne.symm hm)] at h2
      exact h.fr m b v h1 h2 nd
  · by_cases e : b = a
    · subst e
      rw [upd_same]
      exact ⟨u, rfl⟩
    · rw [upd_ne e]
      exact h.so b hb
  · by_cases hm : m = n
    · subst hm
      rw [ha] at h1
      cases h1
      rw [List.getElem?_set_self hn] at h2
      cases h2
      rw [upd_same]
      exact ho
    · rw [List.getElem?_set_ne (Ne.symm hm)] at h2
      rw [upd_ne (ne m b h1 hm)]
      exact h.ob m b v h1 h2
  · by_cases hm : m = n
    · subst hm
      rw [List.getElem?_set_self hn] at h2
      have e3 := Option.some.inj h2
      rw [e3] at hl
      cases hl
    · rw [List.getElem?_set_ne (Ne.symm hm)] at h2
      exact h.lk m b ks ds h1 h2
/-- a thing of the store is frozen -/
theorem Held.freeze (h : Held K F f S H) {n : Nat} {a : Addr} {u : HO} {o : O} (ha : f[n]? = some a) (hs : S[n]? = some o) (hd : o.live = true) (hu : H a = some u) :
    Held K (upd F a u) f (S.set n .dead) H ∧ Ext F f (upd F a u) f := by
  have fa := h.fr n a o ha hs hd
  have hn : n < S.length := (List.getElem?_eq_some_iff.mp hs).1
  have x : Ext F f (upd F a u) f := ⟨Evl.Ex.new fa, List.prefix_rfl⟩
  have ne : ∀ m b, f[m]? = some b → m ≠ n → b ≠ a := fun m b h1 hm e => hm (by
    subst e
    obtain ⟨l1, e1⟩ := List.getElem?_eq_some_iff.mp h1
    obtain ⟨l2, e2⟩ := List.getElem?_eq_some_iff.mp ha
    exact (List.getElem_inj h.nd).mp (e1.trans e2.symm))
  refine ⟨⟨fun b v e => ?_, by simp [h.len], h.nd, fun m b v h1 h2 nd => ?_, h.so, fun m b v h1 h2 => ?_, fun m b ks ds h1 h2 => ?_⟩, x⟩
  · by_cases hb : b = a
    · subst hb
      rw [upd_same] at e
      cases e
      exact hu
    · rw [upd_ne hb] at e
      exact h.ex _ _ e
  · by_cases hm : m = n
    · subst hm
      rw [List.getElem?_set_self hn] at h2
      cases h2
      cases nd
    · rw [List.getElem?_set_ne (Ne.symm hm)] at h2
      rw [upd_ne (ne m b h1 hm)]
      exact h.fr m b v h1 h2 nd
  · by_cases hm : m = n
    · subst hm
      rw [List.getElem?_set_self hn] at h2
      cases h2
      trivial
    · rw [List.getElem?_set_ne (Ne.symm hm)] at h2
      exact (h.ob m b v h1 h2).mono x
  · by_cases hm : m = n
    · subst hm
      rw [List.getElem?_set_self hn] at h2
      cases h2
    · rw [List.getElem?_set_ne (Ne.symm hm)] at h2
      obtain ⟨od, kvs, e1, e2, r⟩ := h.lk m b ks ds h1 h2
      exact ⟨od, kvs, x.ex _ _ e1, e2, r.mono x⟩
/-- the store's new things are forgotten -/
theorem Held.cut (h : Held K F f' S' H) (hp : f <+: f') (hb : ∀ o ∈ S'.take f.length, o.low f.length = true) : Held K F f (S'.take f.length) H := by
  have hl : f.length ≤ f'.length := hp.length_le
  refine ⟨h.ex, by rw [List.length_take, ← h.len]; omega, h.nd.sublist hp.sublist, fun n a o h1 h2 nd => ?_, fun a ha => h.so a (hp.subset ha), fun n a o h1 h2 => ?_, fun n a ks ds h1 h2 => ?_⟩
  · have hn : n < f.length := (List.getElem?_eq_some_iff.mp h1).1
    rw [List.getElem?_take_of_lt hn] at h2
    exact h.fr n a o (pre_get hp h1) h2 nd
  · have hm : o ∈ S'.take f.length := List.mem_of_getElem? h2
    have hn : n < f.length := (List.getElem?_eq_some_iff.mp h1).1
    rw [List.getElem?_take_of_lt hn] at h2
    exact (h.ob n a o (pre_get hp h1) h2).cut hp (hb o hm)
  · have hm : .lk ks ds ∈ S'.take f.length := List.mem_of_getElem? h2
    have hn : n < f.length := (List.getElem?_eq_some_iff.mp h1).1
    rw [List.getElem?_take_of_lt hn] at h2
    obtain ⟨od, kvs, e1, e2, r⟩ := h.lk n a ks ds (pre_get hp h1) h2
    exact ⟨od, kvs, e1, e2, r.cut hp (hb _ hm)⟩
end
end DL
/-! DL2: what expressions are worth as trees. -/
namespace DL
open PySem L2

abbrev ME := Env → Sto → Option (D × Sto)
abbrev MT := Env → Sto → Option (Bool × Sto)
abbrev MA := Env → Sto → Option (List D × Sto)

structure At (K : PySem.W.Frag) (F : Hp) (f : List Addr) (S : Sto) (H : Hp) (σ : L2.St) (E : Env) : Prop where
  held : Held K F f S H
  len : σ.length = E.length
  env : ∀ (i : Nat) (d : D), E[i]? = some (some d) → ∃ v, σ[i]? = some (some v) ∧ Is K F f v d
section
variable {K : PySem.W.Frag} {F F' H H' : Hp} {f f' : List Addr} {S S' : Sto} {σ : L2.St} {E : Env}
theorem At.up (a : At K F f S H σ E) (x : Ext F f F' f') (h : Held K F' f' S' H') : At K F' f' S' H' σ E :=
  ⟨h, a.len, fun i d e => let ⟨v, h1, h2⟩ := a.env i d e; ⟨v, h1, h2.mono x⟩⟩
theorem At.set (a : At K F f S H σ E) {i : Nat} {v : V} {d : D} (r : Is K F f v d) : At K F f S H (σ.set i (some v)) (E.set i (some d)) := by
  refine ⟨a.held, by simp [a.len], fun j e h => ?_⟩
  by_cases hj : i = j
  · subst hj
    have hl : i < E.length := by
      have := (List.getElem?_eq_some_iff.mp h).1
      simpa using this
    rw [List.getElem?_set_self hl] at h
    cases h
    exact ⟨v, List.getElem?_set_self (by rw [a.len]; exact hl), r⟩
  · rw [List.getElem?_set_ne hj] at h
    rw [List.getElem?_set_ne hj]
    exact a.env j e h
end

/-- what is wanted of a value and a heap behind -/
def Wants (K : PySem.W.Frag) (F : Hp) (f : List Addr) (S' : Sto) (d : D) (Q : VK) : Prop :=
  ∀ v H' F' f', Ext F f F' f' → Held K F' f' S' H' → Is K F' f' v d → Q v H'
theorem Wants.ext {K : PySem.W.Frag} {F F1 : Hp} {f f1 : List Addr} {S' : Sto} {d : D} {Q : VK} (h : Wants K F f S' d Q) (x : Ext F f F1 f1) : Wants K F1 f1 S' d Q :=
  fun v H' F' f' y hh hi => h v H' F' f' (x.trans y) hh hi
theorem Wants.now {K : PySem.W.Frag} {F H : Hp} {f : List Addr} {S : Sto} {d : D} {v : V} {Q : VK} (h : Wants K F f S d Q) (hh : Held K F f S H) (hi : Is K F f v d) : Q v H := h v H F f (Ext.refl F f) hh hi
def SE (K : PySem.W.Frag) (t : TE) (m : ME) : Prop :=
  ∀ F f S H σ E d S', At K F f S H σ E → m E S = some (d, S') → ∀ Q : VK, Wants K F f S' d Q → t σ H Q
def ST (K : PySem.W.Frag) (t : TT) (m : MT) : Prop :=
  ∀ F f S H σ E b S', At K F f S H σ E → m E S = some (b, S') → ∀ Q : Bool → Hp → Prop, (∀ H' F' f', Ext F f F' f' → Held K F' f' S' H' → Q b H') → t σ H Q
def SA (K : PySem.W.Frag) (t : TA) (m : MA) : Prop :=
  ∀ F f S H σ E ds S', At K F f S H σ E → m E S = some (ds, S') → ∀ Q : List V → Hp → Prop, (∀ vs H' F' f', Ext F f F' f' → Held K F' f' S' H' → IsAll K F' f' vs ds → Q vs H') → t σ H Q
structure DE (X : Cx) (e : Expr) (t : TE) (m : ME) : Prop where
  pe : PE X e t
  se : SE X.K t m
structure DT (X : Cx) (e : Expr) (t : TT) (m : MT) : Prop where
  pe : PT X e t
  se : ST X.K t m
structure DW (X : Cx) (e : Expr) (t : TT) (m : MT) : Prop where
  pe : PW X e t
  se : ST X.K t m
structure DA (X : Cx) (es : List Expr) (t : TA) (m : MA) : Prop where
  pe : PA X es t
  se : SA X.K t m

/-! ### names, constants -/
def mVar (i : Nat) : ME := fun E S => (E.getD i none).map fun d => (d, S)
def mC (d : D) : ME := fun _ S => some (d, S)
theorem getD_some {E : Env} {i : Nat} {d : D} (h : E.getD i none = some d) : E[i]? = some (some d) := by
  rw [List.getD_eq_getElem?_getD] at h
  cases e : E[i]? with
  | none => rw [e] at h; cases h
  | some x => rw [e] at h; exact congrArg some h
section
variable {X : Cx} {K : PySem.W.Frag} {pos : Pos}
theorem se_var (i : Nat) : SE K (tVar i) (mVar i) := by
  intro F f S H σ E d S' a h Q q
  unfold mVar at h
  cases e : E.getD i none with
  | none => rw [e] at h; cases h
  | some d' =>
    rw [e] at h
    cases h
    obtain ⟨v, h1, h2⟩ := a.env i d (getD_some e)
    exact ⟨v, h1, q.now a.held h2⟩
theorem se_c {v : V} {d : D} (h : ∀ F f, Is K F f v d) : SE K (tC v) (mC d) := by
  intro F f S H σ E d' S' a e Q q
  cases e
  exact q.now a.held (h F f)
theorem dv (i : Nat) {x : Str} (hN : X.N[i]? = some x := by rfl) (hv : Vis X.env.scope x := by first | exact Or.inl rfl | exact Or.inr (Or.inl rfl) | exact Or.inr (Or.inr rfl)) (hd : (x == ("__debug__" : Str)) = false := by decide)
    (hcd : (x == ("__classdict__" : Str)) = false := by decide) : DE X (.Name x pos) (tVar i) (mVar i) := ⟨pe_var hN hv hd hcd, se_var i⟩
theorem d_int {i j} : DE X (.Constant (.int i) j pos) (tC (.int i)) (mC (.int i)) := ⟨pe_int, se_c fun _ _ => .int i⟩
theorem d_bl {b j} : DE X (.Constant (.bool b) j pos) (tC (.bl b)) (mC (.bl b)) := ⟨pe_bl, se_c fun _ _ => .bl b⟩
theorem d_non {j} : DE X (.Constant .none j pos) (tC .non) (mC .non) := ⟨pe_non, se_c fun _ _ => .non⟩
theorem d_str {x j} : DE X (.Constant (.str x) j pos) (tC (.str x)) (mC (.str x)) := ⟨pe_str, se_c fun _ _ => .str x⟩
end

/-! ### two-place operations on values -/
abbrev MO := D → D → Sto → Option (D × Sto)
def RO (K : PySem.W.Frag) (r : R2) (g : MO) : Prop :=
  ∀ F f S H x y dx dy d S', Held K F f S H → Is K F f x dx → Is K F f y dy → g dx dy S = some (d, S') → ∀ Q : VK, Wants K F f S' d Q → r x y H Q
def mOp (g : MO) (ma mb : ME) : ME := fun E S => (ma E S).bind fun p => (mb E p.2).bind fun q => g p.1 q.1 q.2
theorem mOp_some {g : MO} {ma mb : ME} {E : Env} {S S' : Sto} {d : D} (h : mOp g ma mb E S = some (d, S')) : ∃ x S1 y S2, ma E S = some (x, S1) ∧ mb E S1 = some (y, S2) ∧ g x y S2 = some (d, S') := by
  unfold mOp at h
  cases e : ma E S with
  | none => rw [e] at h; cases h
  | some p =>
    rw [e] at h
    cases e2 : mb E p.2 with
    | none => simp only [Option.bind_some, e2] at h; cases h
    | some q =>
      simp only [Option.bind_some, e2] at h
      exact ⟨p.1, p.2, q.1, q.2, rfl, e2, h⟩
section
variable {X : Cx} {K : PySem.W.Frag} {pos : Pos} {ta tb tc : TE} {ma mb mc : ME} {r r' : R2} {g g' : MO} {a b c : Expr}
theorem se_op (hr : RO K r g) (ha : SE K ta ma) (hb : SE K tb mb) : SE K (tOp r ta tb) (mOp g ma mb) := by
  intro F f S H σ E d S' A h Q q
  obtain ⟨x, S1, y, S2, e1, e2, e3⟩ := mOp_some h
  refine ha F f S H σ E x S1 A e1 _ fun v H1 F1 f1 x1 h1 i1 => ?_
  refine hb F1 f1 S1 H1 σ E y S2 (A.up x1 h1) e2 _ fun w H2 F2 f2 x2 h2 i2 => ?_
  exact hr F2 f2 S2 H2 v w x y d S' h2 (i1.mono x2) i2 e3 Q (q.ext (x1.trans x2))
theorem d_op {op : Operator} (ho : OpR X (binaryOp op) r) (hr : RO X.K r g) (ha : DE X a ta ma) (hb : DE X b tb mb) : DE X (.BinOp a op b pos) (tOp r ta tb) (mOp g ma mb) := ⟨pe_op ho ha.pe hb.pe, se_op hr ha.se hb.se⟩
theorem d_cmp {op : CmpOp} (ho : OpR X (compareOp op) r) (hr : RO X.K r g) (ha : DE X a ta ma) (hb : DE X b tb mb) (hm : behindInMarks op b = false := by first | exact nomark _ | with_unfolding_all rfl) : DE X (.Compare a [op] [b] pos) (tOp r ta tb) (mOp g ma mb) :=
  ⟨pe_cmpR ho ha.pe hb.pe hm, se_op hr ha.se hb.se⟩
/-- a value that is a bool, as a test -/
def mTest (m : ME) : MT := fun E S => (m E S).bind fun p => match p.1 with | .bl b => some (b, p.2) | _ => none
theorem mTest_some {m : ME} {E : Env} {S S' : Sto} {b : Bool} (h : mTest m E S = some (b, S')) : m E S = some (.bl b, S') := by
  unfold mTest at h
  cases e : m E S with
  | none => rw [e] at h; cases h
  | some p =>
    obtain ⟨d, S1⟩ := p
    rw [e] at h
    cases d <;> simp only [Option.bind_some] at h <;> cases h
    rfl
theorem is_bl {F : Hp} {f : List Addr} {v : V} {b : Bool} (h : Is K F f v (.bl b)) : v = .bl b := by cases h; rfl
theorem st_test {t : TE} {m : ME} (h : SE K t m) : ST K (tTest t) (mTest m) := by
  intro F f S H σ E b S' A e Q q
  refine h F f S H σ E _ S' A (mTest_some e) _ fun v H' F' f' x hh hi => ?_
  exact ⟨b, is_bl hi, q H' F' f' x hh⟩
theorem st_B {t : TE} {m : ME} (h : SE K t m) : ST K (tB t) (mTest m) := by
  intro F f S H σ E b S' A e Q q
  refine h F f S H σ E _ S' A (mTest_some e) _ fun v H' F' f' x hh hi => ?_
  exact ⟨b, is_bl hi, q H' F' f' x hh⟩
theorem t_cmp {op : CmpOp} (ho : OpR X (compareOp op) r) (hr : RO X.K r g) (ha : DE X a ta ma) (hb : DE X b tb mb) (hm : behindInMarks op b = false := by first | exact nomark _ | with_unfolding_all rfl) : DT X (.Compare a [op] [b] pos) (tTest (tOp r ta tb)) (mTest (mOp g ma mb)) :=
  ⟨pt_cmpR ho ha.pe hb.pe hm, st_test (se_op hr ha.se hb.se)⟩
theorem t_val {e : Expr} {t : TE} {m : ME} (h : DE X e t m) (he : ∀ whole, isTrue e X.env whole = (do let v ← whole; standAt e.pos; holding [v] (truthy v)) := by intro _; rfl) : DT X e (tB t) (mTest m) := ⟨pt_val h.pe he, st_B h.se⟩
/-- a op1 b op2 c -/
def mChain (g g' : MO) (ma mb mc : ME) : ME := fun E S => (ma E S).bind fun p => (mb E p.2).bind fun q => (g p.1 q.1 q.2).bind fun z => match z.1 with
  | .bl true => (mc E z.2).bind fun u => g' q.1 u.1 u.2
  | .bl false => some (.bl false, z.2)
  | _ => none
theorem se_chain (hr : RO K r g) (hr' : RO K r' g') (ha : SE K ta ma) (hb : SE K tb mb) (hc : SE K tc mc) : SE K (tChain r r' ta tb tc) (mChain g g' ma mb mc) := by
  intro F f S H σ E d S' A h Q q
  unfold mChain at h
  cases e1 : ma E S with
  | none => rw [e1] at h; cases h
  | some p =>
    obtain ⟨x, S1⟩ := p
    simp only [e1, Option.bind_some] at h
    cases e2 : mb E S1 with
    | none => rw [e2] at h; cases h
    | some p2 =>
      obtain ⟨y, S2⟩ := p2
      simp only [e2, Option.bind_some] at h
      cases e3 : g x y S2 with
      | none => rw [e3] at h; cases h
      | some p3 =>
        obtain ⟨z, S3⟩ := p3
        simp only [e3, Option.bind_some] at h
        refine ha F f S H σ E x S1 A e1 _ fun v H1 F1 f1 x1 h1 i1 => ?_
        refine hb F1 f1 S1 H1 σ E y S2 (A.up x1 h1) e2 _ fun w H2 F2 f2 x2 h2 i2 => ?_
        refine hr F2 f2 S2 H2 v w x y z S3 h2 (i1.mono x2) i2 e3 _ fun u H3 F3 f3 x3 h3 i3 => ?_
        have x13 := (x1.trans x2).trans x3
        cases z <;> try (cases h; done)
        rename_i k
        refine ⟨k, is_bl i3, ?_⟩
        cases k with
        | true =>
          rw [if_pos rfl]
          simp only at h
          cases e4 : mc E S3 with
          | none => rw [e4] at h; cases h
          | some p4 =>
            obtain ⟨o, S4⟩ := p4
            simp only [e4, Option.bind_some] at h
            refine hc F3 f3 S3 H3 σ E o S4 (A.up x13 h3) e4 _ fun w' H4 F4 f4 x4 h4 i4 => ?_
            exact hr' F4 f4 S4 H4 w w' y o d S' h4 (i2.mono (x3.trans x4)) i4 h Q (q.ext (x13.trans x4))
        | false =>
          rw [if_neg Bool.false_ne_true]
          simp only [Option.some.injEq, Prod.mk.injEq] at h
          obtain ⟨rfl, rfl⟩ := h
          exact q _ _ _ _ x13 h3 (.bl false)
theorem d_chain {op op' : CmpOp} (ho : OpR X (compareOp op) r) (hr : RO X.K r g) (ho' : OpR X (compareOp op') r') (hr' : RO X.K r' g') (ha : DE X a ta ma) (hb : DE X b tb mb) (hc : DE X c tc mc)
    (hm : lastMarks [op, op'] [b, c] = false := by with_unfolding_all rfl) : DE X (.Compare a [op, op'] [b, c] pos) (tChain r r' ta tb tc) (mChain g g' ma mb mc) := ⟨pe_chain ho ho' ha.pe hb.pe hc.pe hm, se_chain hr hr' ha.se hb.se hc.se⟩
theorem t_chain {op op' : CmpOp} (ho : OpR X (compareOp op) r) (hr : RO X.K r g) (ho' : OpR X (compareOp op') r') (hr' : RO X.K r' g') (ha : DE X a ta ma) (hb : DE X b tb mb) (hc : DE X c tc mc)
    (hm : lastMarks [op, op'] [b, c] = false := by with_unfolding_all rfl) : DT X (.Compare a [op, op'] [b, c] pos) (tTest (tChain r r' ta tb tc)) (mTest (mChain g g' ma mb mc)) := ⟨pt_chain ho ho' ha.pe hb.pe hc.pe hm, st_test (se_chain hr hr' ha.se hb.se hc.se)⟩
end

/-! ### and, or, not -/
def mAnd (t u : MT) : MT := fun E S => (t E S).bind fun p => if p.1 = true then u E p.2 else some (false, p.2)
def mOr (t u : MT) : MT := fun E S => (t E S).bind fun p => if p.1 = true then some (true, p.2) else u E p.2
def mNot (t : MT) : MT := fun E S => (t E S).map fun p => (!p.1, p.2)
def mAndV (a b : ME) : ME := fun E S => (mTest a E S).bind fun p => if p.1 = true then b E p.2 else some (.bl false, p.2)
def mOrV (a b : ME) : ME := fun E S => (mTest a E S).bind fun p => if p.1 = true then some (.bl true, p.2) else b E p.2
def mNotV (a : ME) : ME := fun E S => (mTest a E S).map fun p => (.bl (!p.1), p.2)
def mIf (t : MT) (a b : ME) : ME := fun E S => (t E S).bind fun p => if p.1 = true then a E p.2 else b E p.2
theorem bind_some' {α β : Type} {o : Option α} {k : α → Option β} {b : β} (h : o.bind k = some b) : ∃ a, o = some a ∧ k a = some b := by
  cases o with
  | none => cases h
  | some a => exact ⟨a, rfl, h⟩
theorem map_some' {α β : Type} {o : Option α} {k : α → β} {b : β} (h : o.map k = some b) : ∃ a, o = some a ∧ k a = b := by
  cases o with
  | none => cases h
  | some a => exact ⟨a, rfl, Option.some.inj h⟩
section
variable {X : Cx} {K : PySem.W.Frag} {pos : Pos} {ta tb : TE} {ma mb : ME} {t u : TT} {mt mu : MT} {a b c : Expr} {rest : List Expr}
theorem st_and (h1 : ST K t mt) (h2 : ST K u mu) : ST K (tAnd t u) (mAnd mt mu) := by
  intro F f S H σ E d S' A h Q q
  obtain ⟨⟨k, S1⟩, e1, h⟩ := bind_some' h
  refine h1 F f S H σ E k S1 A e1 _ fun H1 F1 f1 x1 hh1 => ?_
  cases k with
  | true => exact h2 F1 f1 S1 H1 σ E d S' (A.up x1 hh1) h Q fun H' F' f' x hh => q H' F' f' (x1.trans x) hh
  | false =>
    cases h
    exact q H1 F1 f1 x1 hh1
theorem st_or (h1 : ST K t mt) (h2 : ST K u mu) : ST K (tOr t u) (mOr mt mu) := by
  intro F f S H σ E d S' A h Q q
  obtain ⟨⟨k, S1⟩, e1, h⟩ := bind_some' h
  refine h1 F f S H σ E k S1 A e1 _ fun H1 F1 f1 x1 hh1 => ?_
  cases k with
  | false => exact h2 F1 f1 S1 H1 σ E d S' (A.up x1 hh1) h Q fun H' F' f' x hh => q H' F' f' (x1.trans x) hh
  | true =>
    cases h
    exact q H1 F1 f1 x1 hh1
theorem st_not (h1 : ST K t mt) : ST K (tNot t) (mNot mt) := by
  intro F f S H σ E d S' A h Q q
  obtain ⟨⟨k, S1⟩, e1, h⟩ := map_some' h
  cases h
  exact h1 F f S H σ E k S1 A e1 _ fun H1 F1 f1 x1 hh1 => q H1 F1 f1 x1 hh1
theorem se_andV (h1 : SE K ta ma) (h2 : SE K tb mb) : SE K (tAndV ta tb) (mAndV ma mb) := by
  intro F f S H σ E d S' A h Q q
  obtain ⟨⟨k, S1⟩, e1, h⟩ := bind_some' h
  refine h1 F f S H σ E _ S1 A (mTest_some e1) _ fun v H1 F1 f1 x1 hh1 i1 => ⟨k, is_bl i1, ?_⟩
  cases k with
  | true => exact h2 F1 f1 S1 H1 σ E d S' (A.up x1 hh1) h Q (q.ext x1)
  | false =>
    cases h
    exact q _ H1 F1 f1 x1 hh1 (.bl false)
theorem se_orV (h1 : SE K ta ma) (h2 : SE K tb mb) : SE K (tOrV ta tb) (mOrV ma mb) := by
  intro F f S H σ E d S' A h Q q
  obtain ⟨⟨k, S1⟩, e1, h⟩ := bind_some' h
  refine h1 F f S H σ E _ S1 A (mTest_some e1) _ fun v H1 F1 f1 x1 hh1 i1 => ⟨k, is_bl i1, ?_⟩
  cases k with
  | false => exact h2 F1 f1 S1 H1 σ E d S' (A.up x1 hh1) h Q (q.ext x1)
  | true =>
    cases h
    exact q _ H1 F1 f1 x1 hh1 (.bl true)
theorem se_notV (h1 : SE K ta ma) : SE K (tNotV ta) (mNotV ma) := by
  intro F f S H σ E d S' A h Q q
  obtain ⟨⟨k, S1⟩, e1, h⟩ := map_some' h
  cases h
  exact h1 F f S H σ E _ S1 A (mTest_some e1) _ fun v H1 F1 f1 x1 hh1 i1 => ⟨k, is_bl i1, q _ H1 F1 f1 x1 hh1 (.bl (!k))⟩
theorem se_if (h : ST K t mt) (h1 : SE K ta ma) (h2 : SE K tb mb) : SE K (tIf t ta tb) (mIf mt ma mb) := by
  intro F f S H σ E d S' A h' Q q
  obtain ⟨⟨k, S1⟩, e1, h'⟩ := bind_some' h'
  refine h F f S H σ E k S1 A e1 _ fun H1 F1 f1 x1 hh1 => ?_
  cases k with
  | true => exact h1 F1 f1 S1 H1 σ E d S' (A.up x1 hh1) h' Q (q.ext x1)
  | false => exact h2 F1 f1 S1 H1 σ E d S' (A.up x1 hh1) h' Q (q.ext x1)
theorem w_and1 (h : DT X a t mt) : DW X (.BoolOp .And [a] pos) t mt := ⟨pw_and1 h.pe, h.se⟩
theorem w_or1 (h : DT X a t mt) : DW X (.BoolOp .Or [a] pos) t mt := ⟨pw_or1 h.pe, h.se⟩
theorem w_and (h : DT X a t mt) (h2 : DW X (.BoolOp .And (b :: rest) pos) u mu) : DW X (.BoolOp .And (a :: b :: rest) pos) (tAnd t u) (mAnd mt mu) := ⟨pw_and h.pe h2.pe, st_and h.se h2.se⟩
theorem w_or (h : DT X a t mt) (h2 : DW X (.BoolOp .Or (b :: rest) pos) u mu) : DW X (.BoolOp .Or (a :: b :: rest) pos) (tOr t u) (mOr mt mu) := ⟨pw_or h.pe h2.pe, st_or h.se h2.se⟩
theorem t_w (h : DW X a t mt) : DT X a t mt := ⟨h.pe.pt, h.se⟩
theorem t_not (h : DT X a t mt) : DT X (.UnaryOp .Not a pos) (tNot t) (mNot mt) := ⟨pt_not h.pe, st_not h.se⟩
theorem d_one {op} (h : DE X a ta ma) : DE X (.BoolOp op [a] pos) ta ma := ⟨pe_one h.pe, h.se⟩
theorem d_and (h : DE X a ta ma) (h2 : DE X (.BoolOp .And (b :: rest) pos) tb mb) : DE X (.BoolOp .And (a :: b :: rest) pos) (tAndV ta tb) (mAndV ma mb) := ⟨pe_and h.pe h2.pe, se_andV h.se h2.se⟩
theorem d_or (h : DE X a ta ma) (h2 : DE X (.BoolOp .Or (b :: rest) pos) tb mb) : DE X (.BoolOp .Or (a :: b :: rest) pos) (tOrV ta tb) (mOrV ma mb) := ⟨pe_or h.pe h2.pe, se_orV h.se h2.se⟩
theorem d_not (h : DE X a ta ma) : DE X (.UnaryOp .Not a pos) (tNotV ta) (mNotV ma) := ⟨pe_not h.pe, se_notV h.se⟩
theorem d_if (hc : DT X c t mt) (ha : DE X a ta ma) (hb : DE X b tb mb) : DE X (.IfExp c a b pos) (tIf t ta tb) (mIf mt ma mb) := ⟨pe_ifExp hc.pe ha.pe hb.pe, se_if hc.se ha.se hb.se⟩
end

/-! ### argument lists, displays -/
def mNil : MA := fun _ S => some ([], S)
def mCons (m : ME) (r : MA) : MA := fun E S => (m E S).bind fun p => (r E p.2).map fun q => (p.1 :: q.1, q.2)
def mTup (r : MA) : ME := fun E S => (r E S).bind fun p => if p.1.length ≤ sizeLine then some (.tup p.1, p.2) else none
def mLst (r : MA) : ME := fun E S => (r E S).bind fun p => if p.1.length ≤ sizeLine then some (.lst p.1, p.2) else none
/-- a list that is to change -/
def mLstM (r : MA) : ME := fun E S => (r E S).bind fun p => if p.1.length ≤ sizeLine then some (.loc p.2.length, p.2 ++ [.lst p.1]) else none
section
variable {X : Cx} {K : PySem.W.Frag} {pos : Pos} {ta : TE} {ma : ME} {t : TA} {m : MA} {e : Expr} {es : List Expr}
theorem sa_nil : SA K tNil mNil := by
  intro F f S H σ E ds S' A h Q q
  cases h
  exact q [] H F f (Ext.refl F f) A.held .nil
theorem sa_cons (h1 : SE K ta ma) (h2 : SA K t m) : SA K (tCons ta t) (mCons ma m) := by
  intro F f S H σ E ds S' A h Q q
  obtain ⟨⟨d, S1⟩, e1, h⟩ := bind_some' h
  obtain ⟨⟨r, S2⟩, e2, h⟩ := map_some' h
  cases h
  refine h1 F f S H σ E d S1 A e1 _ fun v H1 F1 f1 x1 hh1 i1 => ?_
  exact h2 F1 f1 S1 H1 σ E r S2 (A.up x1 hh1) e2 _ fun vs H2 F2 f2 x2 hh2 i2 => q _ H2 F2 f2 (x1.trans x2) hh2 (.cons (i1.mono x2) i2)
theorem se_tup (h1 : SA K t m) : SE K (tTup t) (mTup m) := by
  intro F f S H σ E d S' A h Q q
  obtain ⟨⟨r, S1⟩, e1, h⟩ := bind_some' h
  by_cases hz : r.length ≤ sizeLine
  · simp only [hz, if_true] at h
    cases h
    refine h1 F f S H σ E r _ A e1 _ fun vs H1 F1 f1 x1 hh1 i1 => ⟨by rw [i1.length]; exact hz, fun p hp => ?_⟩
    obtain ⟨hh2, x2⟩ := hh1.put (o := .tup vs) hp
    exact q _ _ _ _ (x1.trans x2) hh2 (.tup upd_same (i1.mono x2))
  · simp only [hz, if_false] at h
    cases h
theorem se_lst (h1 : SA K t m) : SE K (tLst t) (mLst m) := by
  intro F f S H σ E d S' A h Q q
  obtain ⟨⟨r, S1⟩, e1, h⟩ := bind_some' h
  by_cases hz : r.length ≤ sizeLine
  · simp only [hz, if_true] at h
    cases h
    refine h1 F f S H σ E r _ A e1 _ fun vs H1 F1 f1 x1 hh1 i1 => ⟨by rw [i1.length]; exact hz, fun p hp => ?_⟩
    obtain ⟨hh2, x2⟩ := hh1.put (o := .lst vs) hp
    exact q _ _ _ _ (x1.trans x2) hh2 (.lst upd_same (i1.mono x2))
  · simp only [hz, if_false] at h
    cases h
theorem se_lstM (h1 : SA K t m) : SE K (tLst t) (mLstM m) := by
  intro F f S H σ E d S' A h Q q
  obtain ⟨⟨r, S1⟩, e1, h⟩ := bind_some' h
  by_cases hz : r.length ≤ sizeLine
  · simp only [hz, if_true] at h
    cases h
    refine h1 F f S H σ E r _ A e1 _ fun vs H1 F1 f1 x1 hh1 i1 => ⟨by rw [i1.length]; exact hz, fun p hp => ?_⟩
    obtain ⟨hh2, x2⟩ := hh1.alloc (u := .lst vs) (o := .lst r) hp ⟨vs, rfl, i1.mono ⟨Evl.Ex.refl _, List.prefix_append _ _⟩⟩
    refine q _ _ _ _ (x1.trans x2) hh2 (.loc ?_)
    rw [← hh1.len]
    simp
  · simp only [hz, if_false] at h
    cases h
theorem a_nil : DA X [] tNil mNil := ⟨pa_nil, sa_nil⟩
theorem a_cons (h : DE X e ta ma) (hr : DA X es t m) (hs : starEach (e :: es) X.env = (false, eval e X.env) :: starEach es X.env := by rfl) : DA X (e :: es) (tCons ta t) (mCons ma m) := ⟨pa_cons h.pe hr.pe hs, sa_cons h.se hr.se⟩
theorem d_tup {x1} (h : DA X es t m) : DE X (.Tuple es x1 pos) (tTup t) (mTup m) := ⟨pe_tup h.pe, se_tup h.se⟩
theorem d_lst (h : DA X es t m) : DE X (.List es pos) (tLst t) (mLst m) := ⟨pe_lst h.pe, se_lst h.se⟩
theorem d_lstM (h : DA X es t m) : DE X (.List es pos) (tLst t) (mLstM m) := ⟨pe_lst h.pe, se_lstM h.se⟩
end

/-! ### freezing what an expression gives -/
def frz (d : D) (S : Sto) : D × Sto := match d with
  | .loc n => match S[n]? with
    | some (.lst ds) => (.lst ds, S.set n .dead)
    | some (.dic ks ds) => (.dic ks ds, S.set n .dead)
    | some (.ins C ks ds) => (.ins C ks ds, S.set n .dead)
    | _ => (d, S)
  | _ => (d, S)
theorem frz_ok {K : PySem.W.Frag} {F H : Hp} {f : List Addr} {S : Sto} {d : D} {v : V} (h : Held K F f S H) (i : Is K F f v d) : ∃ F', Ext F f F' f ∧ Held K F' f (frz d S).2 H ∧ Is K F' f v (frz d S).1 := by
  have triv : ∃ F', Ext F f F' f ∧ Held K F' f S H ∧ Is K F' f v d := ⟨F, Ext.refl F f, h, i⟩
  cases i with
  | loc e =>
    rename_i a n
    cases es : S[n]? with
    | none => simp only [frz, es]; exact triv
    | some o =>
      have ob := h.ob n a o e es
      cases o with
      | dead => simp only [frz, es]; exact triv
      | dct ks ds => simp only [frz, es]; exact triv
      | lk ks ds => simp only [frz, es]; exact triv
      | lst ds =>
        obtain ⟨vs, e1, r⟩ := ob
        obtain ⟨hh, x⟩ := h.freeze e es (by first | rfl | (intro z; cases z)) e1
        refine ⟨_, x, by simp only [frz, es]; exact hh, ?_⟩
        simp only [frz, es]
        exact .lst upd_same (r.mono x)
      | dic ks ds =>
        obtain ⟨kvs, e1, k, r⟩ := ob
        obtain ⟨hh, x⟩ := h.freeze e es (by first | rfl | (intro z; cases z)) e1
        refine ⟨_, x, by simp only [frz, es]; exact hh, ?_⟩
        simp only [frz, es]
        exact .dic upd_same k (r.mono x)
      | ins C ks ds =>
        obtain ⟨dx, kvs, e1, k, r⟩ := ob
        obtain ⟨hh, x⟩ := h.freeze e es (by first | rfl | (intro z; cases z)) e1
        refine ⟨_, x, by simp only [frz, es]; exact hh, ?_⟩
        simp only [frz, es]
        exact .ins upd_same k (r.mono x)
  | _ => exact triv
def mFrz (m : ME) : ME := fun E S => (m E S).map fun p => frz p.1 p.2
theorem se_frz {K : PySem.W.Frag} {t : TE} {m : ME} (h : SE K t m) : SE K t (mFrz m) := by
  intro F f S H σ E d S' A e Q q
  obtain ⟨⟨d1, S1⟩, e1, e⟩ := map_some' e
  refine h F f S H σ E d1 S1 A e1 Q fun v H1 F1 f1 x1 hh1 i1 => ?_
  obtain ⟨F2, x2, hh2, i2⟩ := frz_ok hh1 i1
  rw [e] at hh2 i2
  exact q v H1 F2 f1 (x1.trans x2) hh2 i2
theorem d_frz {X : Cx} {e : Expr} {t : TE} {m : ME} (h : DE X e t m) : DE X e t (mFrz m) := ⟨h.pe, se_frz h.se⟩
end DL
/-! DL3: statements, loops, defs. -/
namespace DL
open PySem L2 PyProof.Rows

inductive Out where
  | nx | rt (d : D) | bk | ct
abbrev MS := Env → Sto → Option (Out × Env × Sto)
abbrev MG := D → Env → Sto → Option (Env × Sto)
def After (K : PySem.W.Frag) (F : Hp) (f : List Addr) (S' : Sto) (E' : Env) (Q : L2.St → Hp → Prop) : Prop :=
  ∀ σ' H' F' f', Ext F f F' f' → At K F' f' S' H' σ' E' → Q σ' H'
theorem After.ext {K : PySem.W.Frag} {F F1 : Hp} {f f1 : List Addr} {S' : Sto} {E' : Env} {Q : L2.St → Hp → Prop} (h : After K F f S' E' Q) (x : Ext F f F1 f1) : After K F1 f1 S' E' Q :=
  fun σ' H' F' f' y a => h σ' H' F' f' (x.trans y) a
theorem After.now {K : PySem.W.Frag} {F H : Hp} {f : List Addr} {S : Sto} {E : Env} {σ : L2.St} {Q : L2.St → Hp → Prop} (h : After K F f S E Q) (a : At K F f S H σ E) : Q σ H := h σ H F f (Ext.refl F f) a
def Meets (K : PySem.W.Frag) (F : Hp) (f : List Addr) (D : Ends) (o : Out) (E' : Env) (S' : Sto) : Prop := match o with
  | .nx => After K F f S' E' D.nx
  | .rt d => Wants K F f S' d D.rt
  | .bk => After K F f S' E' D.bk
  | .ct => After K F f S' E' D.ct
theorem Meets.ext {K : PySem.W.Frag} {F F1 : Hp} {f f1 : List Addr} {D : Ends} {o : Out} {E' : Env} {S' : Sto} (h : Meets K F f D o E' S') (x : Ext F f F1 f1) : Meets K F1 f1 D o E' S' := by
  cases o with
  | nx => exact After.ext h x
  | rt d => exact Wants.ext h x
  | bk => exact After.ext h x
  | ct => exact After.ext h x
def SS (K : PySem.W.Frag) (t : TS) (m : MS) : Prop :=
  ∀ F f S H σ E o E' S', At K F f S H σ E → m E S = some (o, E', S') → ∀ D : Ends, Meets K F f D o E' S' → t D σ H
def SG (K : PySem.W.Frag) (g : TG) (mg : MG) : Prop :=
  ∀ F f S H σ E v d E' S', At K F f S H σ E → Is K F f v d → mg d E S = some (E', S') → ∀ Q : L2.St → Hp → Prop, After K F f S' E' Q → g v σ H Q
def SGs (K : PySem.W.Frag) (g : TGs) (mg : List D → Env → Sto → Option (Env × Sto)) : Prop :=
  ∀ F f S H σ E vs ds E' S', At K F f S H σ E → IsAll K F f vs ds → mg ds E S = some (E', S') → ∀ Q : L2.St → Hp → Prop, After K F f S' E' Q → g vs σ H Q
structure DS (X : Cx) (s : Stmt) (t : TS) (m : MS) : Prop where
  ps : PS X s t
  ss : SS X.K t m
structure DB (X : Cx) (s : List Stmt) (t : TS) (m : MS) : Prop where
  ps : PSs X s t
  ss : SS X.K t m
structure DG (X : Cx) (e : Expr) (g : TG) (m : MG) : Prop where
  pg : PG X e g
  sg : SG X.K g m
structure DGs (X : Cx) (es : List Expr) (g : TGs) (m : List D → Env → Sto → Option (Env × Sto)) : Prop where
  pg : PGs X es g
  sg : SGs X.K g m

/-! ### small statements -/
def mNext : MS := fun E S => some (.nx, E, S)
def mSeq (m n : MS) : MS := fun E S => (m E S).bind fun p => match p.1 with | .nx => n p.2.1 p.2.2 | _ => some p
def mRet (m : ME) : MS := fun E S => (m E S).map fun p => (.rt p.1, E, p.2)
def mRetN : MS := fun E S => some (.rt .non, E, S)
def mDrop (m : ME) : MS := fun E S => (m E S).map fun p => (.nx, E, p.2)
def mIfS (c : MT) (m n : MS) : MS := fun E S => (c E S).bind fun p => if p.1 = true then m E p.2 else n E p.2
def mNever : MS := fun _ _ => none
def mBrk : MS := fun E S => some (.bk, E, S)
def mCnt : MS := fun E S => some (.ct, E, S)
def mgName (i : Nat) : MG := fun d E S => some (E.set i (some d), S)
def mgNil : List D → Env → Sto → Option (Env × Sto) := fun ds E S => match ds with | [] => some (E, S) | _ => none
def mgCons (m : MG) (r : List D → Env → Sto → Option (Env × Sto)) : List D → Env → Sto → Option (Env × Sto) := fun ds E S => match ds with
  | d :: ds => (m d E S).bind fun p => r ds p.1 p.2
  | [] => none
def mgTup (n : Nat) (r : List D → Env → Sto → Option (Env × Sto)) : MG := fun d E S => match d with
  | .tup ds => if ds.length = n then r ds E S else none
  | _ => none
def mAsg (m : ME) (g : MG) : MS := fun E S => (m E S).bind fun p => (g p.1 E p.2).map fun q => (.nx, q.1, q.2)
section
variable {X : Cx} {K : PySem.W.Frag} {pos : Pos} {t u : TS} {m n : MS} {te : TE} {me : ME} {c : Expr} {tc : TT} {mc : MT} {st : Stmt} {sts : List Stmt} {e : Expr} {g : TG} {mg : MG} {gs : TGs} {mgs : List D → Env → Sto → Option (Env × Sto)}
theorem ss_next : SS K tNext mNext := by
  intro F f S H σ E o E' S' A h D q
  cases h
  exact After.now q A
theorem ss_seq (h1 : SS K t m) (h2 : SS K u n) : SS K (tSeq t u) (mSeq m n) := by
  intro F f S H σ E o E' S' A h D q
  obtain ⟨⟨o1, E1, S1⟩, e1, h⟩ := bind_some' h
  refine h1 F f S H σ E o1 E1 S1 A e1 _ ?_
  cases o1 with
  | nx => exact fun σ' H' F' f' x A' => h2 F' f' S1 H' σ' E1 o E' S' A' h D (q.ext x)
  | rt d => cases h; exact q
  | bk => cases h; exact q
  | ct => cases h; exact q
theorem ss_ret (h : SE K te me) : SS K (tRet te) (mRet me) := by
  intro F f S H σ E o E' S' A e D q
  obtain ⟨⟨d, S1⟩, e1, e⟩ := map_some' e
  cases e
  exact h F f S H σ E d _ A e1 _ q
theorem ss_retN : SS K tRetN mRetN := by
  intro F f S H σ E o E' S' A e D q
  cases e
  exact Wants.now q A.held .non
theorem ss_drop (h : SE K te me) : SS K (tDrop te) (mDrop me) := by
  intro F f S H σ E o E' S' A e D q
  obtain ⟨⟨d, S1⟩, e1, e⟩ := map_some' e
  cases e
  exact h F f S H σ E d _ A e1 _ fun v H1 F1 f1 x hh _ => q σ H1 F1 f1 x (A.up x hh)
theorem ss_if (hc : ST K tc mc) (h1 : SS K t m) (h2 : SS K u n) : SS K (tIfS tc t u) (mIfS mc m n) := by
  intro F f S H σ E o E' S' A h D q
  obtain ⟨⟨k, S1⟩, e1, h⟩ := bind_some' h
  refine hc F f S H σ E k S1 A e1 _ fun H1 F1 f1 x hh => ?_
  cases k with
  | true => exact h1 F1 f1 S1 H1 σ E o E' S' (A.up x hh) h D (q.ext x)
  | false => exact h2 F1 f1 S1 H1 σ E o E' S' (A.up x hh) h D (q.ext x)
theorem ss_never : SS K tNever mNever := by
  intro F f S H σ E o E' S' A h D q
  cases h
theorem ss_brk : SS K tBreak mBrk := by
  intro F f S H σ E o E' S' A h D q
  cases h
  exact After.now q A
theorem ss_cnt : SS K tCont mCnt := by
  intro F f S H σ E o E' S' A h D q
  cases h
  exact After.now q A
theorem sg_name (i : Nat) : SG K (gName i) (mgName i) := by
  intro F f S H σ E v d E' S' A r h Q q
  cases h
  exact q.now (A.set r)
theorem sgs_nil : SGs K gNil mgNil := by
  intro F f S H σ E vs ds E' S' A r h Q q
  cases r with
  | nil => cases h; exact ⟨rfl, q.now A⟩
  | cons _ _ => cases h
theorem sgs_cons (h1 : SG K g mg) (h2 : SGs K gs mgs) : SGs K (gCons g gs) (mgCons mg mgs) := by
  intro F f S H σ E vs ds E' S' A r h Q q
  cases r with
  | nil => cases h
  | cons r1 rr =>
    obtain ⟨⟨E1, S1⟩, e1, h⟩ := bind_some' h
    refine ⟨_, _, rfl, h1 F f S H σ E _ _ E1 S1 A r1 e1 _ fun σ' H' F' f' x A' => ?_⟩
    exact h2 F' f' S1 H' σ' E1 _ _ E' S' A' (rr.mono x) h Q (q.ext x)
theorem sg_tup {k : Nat} (h : SGs K gs mgs) : SG K (gTup K k gs) (mgTup k mgs) := by
  intro F f S H σ E v d E' S' A r e Q q
  cases r with
  | tup sq rr =>
    rename_i a vs ds
    simp only [mgTup] at e
    by_cases hk : ds.length = k
    · simp only [hk, if_true] at e
      exact ⟨a, vs, rfl, Evl.ex_t A.held.ex (SqT.of sq), by rw [rr.length, hk], h F f S H σ E _ _ E' S' A rr e Q q⟩
    · simp only [hk, if_false] at e
      cases e
  | _ => cases e
theorem ss_asg (h1 : SE K te me) (h2 : SG K g mg) : SS K (tAsg te g) (mAsg me mg) := by
  intro F f S H σ E o E' S' A h D q
  obtain ⟨⟨d, S1⟩, e1, h⟩ := bind_some' h
  obtain ⟨⟨E2, S2⟩, e2, h⟩ := map_some' h
  cases h
  exact h1 F f S H σ E d S1 A e1 _ fun v H1 F1 f1 x hh i => h2 F1 f1 S1 H1 σ E v d _ _ (A.up x hh) i e2 _ (After.ext q x)
theorem b_nil : DB X [] tNext mNext := ⟨pss_nil, ss_next⟩
theorem b_cons (h1 : DS X st t m) (h2 : DB X sts u n) : DB X (st :: sts) (tSeq t u) (mSeq m n) := ⟨pss_cons h1.ps h2.ps, ss_seq h1.ss h2.ss⟩
theorem b_one (h1 : DS X st t m) : DB X [st] t m := ⟨pss_one h1.ps, h1.ss⟩
theorem b_never : DB X sts tNever mNever := ⟨pss_never, ss_never⟩
theorem s_never : DS X st tNever mNever := ⟨ps_never, ss_never⟩
theorem s_pass : DS X (.Pass pos) tNext mNext := ⟨ps_pass, ss_next⟩
theorem s_brk : DS X (.Break pos) tBreak mBrk := ⟨ps_break, ss_brk⟩
theorem s_cnt : DS X (.Continue pos) tCont mCnt := ⟨ps_continue, ss_cnt⟩
theorem s_ret (h : DE X e te me) : DS X (.Return (some e) pos) (tRet te) (mRet me) := ⟨ps_ret h.pe, ss_ret h.se⟩
theorem s_retN : DS X (.Return none pos) tRetN mRetN := ⟨ps_retN, ss_retN⟩
theorem s_drop (h : DE X e te me) (hs : swapsWith e none pos.line X.env = pure false := by rfl) : DS X (.Expr e pos) (tDrop te) (mDrop me) := ⟨ps_expr h.pe hs, ss_drop h.se⟩
theorem s_if {a b : List Stmt} (hc : DT X c tc mc) (ha : DB X a t m) (hb : DB X b u n) : DS X (.If c a b pos) (tIfS tc t u) (mIfS mc m n) := ⟨ps_if hc.pe ha.ps hb.ps, ss_if hc.se ha.ss hb.ss⟩
end
/-! ### loops -/
def forL (g : MG) (b : MS) : List D → MS
  | [], E, S => some (.nx, E, S)
  | d :: r, E, S => (g d E S).bind fun p => (b p.1 p.2).bind fun q => match q.1 with
    | .nx => forL g b r q.2.1 q.2.2
    | .ct => forL g b r q.2.1 q.2.2
    | .bk => some (.nx, q.2.1, q.2.2)
    | .rt d => some (.rt d, q.2.1, q.2.2)
/-- what J hands out, from here on, are these trees -/
structure Items (K : PySem.W.Frag) (J : It) (F : Hp) (f : List Addr) (ds : List D) : Prop where
  stop : ∀ F2 f2 S2 H2, Ext F f F2 f2 → Held K F2 f2 S2 H2 → J.stop ds.length H2
  go : ∀ i d F2 f2 S2 H2, ds[i]? = some d → Ext F f F2 f2 → Held K F2 f2 S2 H2 → J.go i H2
  yld : ∀ i d F2 f2 S2 H2 x H3, ds[i]? = some d → Ext F f F2 f2 → Held K F2 f2 S2 H2 → J.yld i H2 x H3 → ∃ F3, Ext F2 f2 F3 f2 ∧ Held K F3 f2 S2 H3 ∧ Is K F3 f2 x d
theorem Items.mono {K : PySem.W.Frag} {J : It} {F F1 : Hp} {f f1 : List Addr} {ds : List D} (h : Items K J F f ds) (x : Ext F f F1 f1) : Items K J F1 f1 ds :=
  ⟨fun F2 f2 S2 H2 y => h.stop F2 f2 S2 H2 (x.trans y), fun i d F2 f2 S2 H2 e y => h.go i d F2 f2 S2 H2 e (x.trans y), fun i d F2 f2 S2 H2 v H3 e y => h.yld i d F2 f2 S2 H2 v H3 e (x.trans y)⟩
def SI (K : PySem.W.Frag) (wi : TI) (m : MA) : Prop :=
  ∀ F f S H σ E ds S', At K F f S H σ E → m E S = some (ds, S') → ∀ R : It → Hp → Prop, (∀ J H' F' f', Ext F f F' f' → Held K F' f' S' H' → Items K J F' f' ds → R J H') → wi σ H R
structure DI (X : Cx) (tg iter : Expr) (wi : TI) (m : MA) : Prop where
  pi : PI X tg iter wi
  si : SI X.K wi m
def mFor (mi : MA) (g : MG) (b : MS) : MS := fun E S => (mi E S).bind fun p => forL g b p.1 E p.2
def whileN (c : MT) (b : MS) : Nat → MS
  | 0, _, _ => none
  | n + 1, E, S => (c E S).bind fun p => if p.1 = true then (b E p.2).bind fun q => match q.1 with
      | .nx => whileN c b n q.2.1 q.2.2
      | .ct => whileN c b n q.2.1 q.2.2
      | .bk => some (.nx, q.2.1, q.2.2)
      | .rt d => some (.rt d, q.2.1, q.2.2)
    else some (.nx, E, p.2)
section
variable {X : Cx} {K : PySem.W.Frag} {pos : Pos} {wi : TI} {mi : MA} {g : TG} {mg : MG} {tb : TS} {mb : MS} {tc : TT} {mc : MT}
theorem ss_for (hi : SI K wi mi) (hg : SG K g mg) (hb : SS K tb mb) : SS K (tFor wi g tb) (mFor mi mg mb) := by
  intro F f S H σ E o E' S' A h D q
  obtain ⟨⟨ds, S1⟩, e1, h⟩ := bind_some' h
  refine hi F f S H σ E ds S1 A e1 _ fun J H1 F1 f1 x1 h1 it => ?_
  refine ⟨fun i m σ' H' => m = ds.length - i ∧ i ≤ ds.length ∧ ∃ F' f' S2 E2, Ext F1 f1 F' f' ∧ At K F' f' S2 H' σ' E2 ∧ forL mg mb (ds.drop i) E2 S2 = some (o, E', S'),
    ⟨ds.length, by simp, Nat.zero_le _, F1, f1, S1, E, Ext.refl _ _, A.up x1 h1, by simpa using h⟩, ?_⟩
  rintro i m σ2 H2 ⟨rfl, hil, F2, f2, S2, E2, x2, A2, h2⟩
  rcases Nat.lt_or_ge i ds.length with hlt | hge
  · have ed : ds[i]? = some ds[i] := List.getElem?_eq_getElem hlt
    rw [List.drop_eq_getElem_cons hlt] at h2
    simp only [forL] at h2
    obtain ⟨⟨E3, S3⟩, e3, h2⟩ := bind_some' h2
    obtain ⟨⟨o4, E4, S4⟩, e4, h2⟩ := bind_some' h2
    refine .inr ⟨it.go i _ F2 f2 S2 H2 ed x2 A2.held, fun σ5 H5 => ∃ F5 f5 S5 E5, Ext F1 f1 F5 f5 ∧ At K F5 f5 S5 H5 σ5 E5 ∧ forL mg mb (ds.drop (i + 1)) E5 S5 = some (o, E', S'),
      fun σ' H' ⟨F5, f5, S5, E5, y5, A5, h5⟩ => ⟨ds.length - (i + 1), by omega, rfl, hlt, F5, f5, S5, E5, y5, A5, h5⟩, fun v H3 y => ?_⟩
    obtain ⟨F3, x3, hh3, i3⟩ := it.yld i _ F2 f2 S2 H2 v H3 ed x2 A2.held y
    refine hg F3 f2 S2 H3 σ2 E2 v _ E3 S3 (A2.up x3 hh3) i3 e3 _ fun σ4 H4 F4 f4 x4 A4 => ?_
    refine hb F4 f4 S3 H4 σ4 E3 o4 E4 S4 A4 e4 _ ?_
    have x14 := (x2.trans x3).trans x4
    cases o4 with
    | nx => exact fun σ5 H5 F5 f5 x5 A5 => ⟨F5, f5, S4, E4, x14.trans x5, A5, h2⟩
    | ct => exact fun σ5 H5 F5 f5 x5 A5 => ⟨F5, f5, S4, E4, x14.trans x5, A5, h2⟩
    | bk =>
      cases h2
      exact After.ext q (x1.trans x14)
    | rt d =>
      cases h2
      exact Wants.ext q (x1.trans x14)
  · have e : i = ds.length := by omega
    subst e
    rw [List.drop_length] at h2
    simp only [forL] at h2
    cases h2
    exact .inl ⟨it.stop F2 f2 _ H2 x2 A2.held, q σ2 H2 F2 f2 (x1.trans x2) A2⟩
theorem s_for {tg iter : Expr} {body : List Stmt} (hp : PassesOwn (model X.prog X.w) X.A X.env X.xe) (hc : X.calm = true) (hi : DI X tg iter wi mi) (hg : DG X tg g mg) (hb : DB X body tb mb)
    (hs : ∀ x, foldedSetIterable iter X.env x = pure x := by intro _; rfl) : DS X (.For tg iter body [] pos) (tFor wi g tb) (mFor mi mg mb) := ⟨ps_for hp hc hi.pi hg.pg hb.ps hs, ss_for hi.si hg.sg hb.ss⟩
theorem ss_while (N : Nat) (hc : ST K tc mc) (hb : SS K tb mb) : SS K (tWhile tc tb) (whileN mc mb N) := by
  intro F f S H σ E o E' S' A h D q
  refine ⟨fun m σ' H' => ∃ F' f' S2 E2, Ext F f F' f' ∧ At K F' f' S2 H' σ' E2 ∧ whileN mc mb m E2 S2 = some (o, E', S'), ⟨N, F, f, S, E, Ext.refl _ _, A, h⟩, ?_⟩
  rintro m σ2 H2 ⟨F2, f2, S2, E2, x2, A2, h2⟩
  cases m with
  | zero => cases h2
  | succ m =>
    simp only [whileN] at h2
    obtain ⟨⟨k, S3⟩, e3, h2⟩ := bind_some' h2
    refine hc F2 f2 S2 H2 σ2 E2 k S3 A2 e3 _ fun H3 F3 f3 x3 hh3 => ?_
    cases k with
    | true =>
      simp only [if_true] at h2
      rw [if_pos rfl]
      obtain ⟨⟨o4, E4, S4⟩, e4, h2⟩ := bind_some' h2
      refine ⟨fun σ5 H5 => ∃ F5 f5 S5 E5, Ext F f F5 f5 ∧ At K F5 f5 S5 H5 σ5 E5 ∧ whileN mc mb m E5 S5 = some (o, E', S'), fun σ' H' w => ⟨m, Nat.lt_succ_self m, w⟩, ?_⟩
      refine hb F3 f3 S3 H3 σ2 E2 o4 E4 S4 (A2.up x3 hh3) e4 _ ?_
      have x13 := x2.trans x3
      cases o4 with
      | nx => exact fun σ5 H5 F5 f5 x5 A5 => ⟨F5, f5, S4, E4, x13.trans x5, A5, h2⟩
      | ct => exact fun σ5 H5 F5 f5 x5 A5 => ⟨F5, f5, S4, E4, x13.trans x5, A5, h2⟩
      | bk =>
        cases h2
        exact After.ext q x13
      | rt d =>
        cases h2
        exact Wants.ext q x13
    | false =>
      simp only [Bool.false_eq_true, if_false] at h2
      cases h2
      rw [if_neg Bool.false_ne_true]
      exact q σ2 H3 F3 f3 (x2.trans x3) (A2.up x3 hh3)
theorem s_while {c : Expr} {body : List Stmt} (N : Nat) (hp : PassesOwn (model X.prog X.w) X.A X.env X.xe) (hc : DT X c tc mc) (hb : DB X body tb mb) : DS X (.While c body [] pos) (tWhile tc tb) (whileN mc mb N) := ⟨ps_while hp hc.pe hb.ps, ss_while N hc.se hb.ss⟩
end

end DL
/-! DLG: defs called where no repr is under way, by functions of trees. -/
namespace DL
open PySem L2 PyProof.Rows
/-! ### defs -/
abbrev MF := List D → Sto → Option (D × Sto)
def spD (K : PySem.W.Frag) (n : Nat) (G : MF) : Sp := fun vs H Q _ => ∃ F f S ds d S', Held K F f S H ∧ IsAll K F f vs ds ∧ ds.length = n ∧ G ds S = some (d, S') ∧ Wants K F f S' d Q
/-- what was made within a def and is not handed on is forgotten -/
def trim (n : Nat) (d : D) (S : Sto) : D × Sto := if d.low n = true ∧ (S.take n).all (fun o => o.low n) = true then (d, S.take n) else (d, S)
def runB (m : MS) (E : Env) (S : Sto) : Option (D × Sto) := (m E S).bind fun p => match p.1 with
  | .rt d => some (trim S.length d p.2.2)
  | .nx => some (trim S.length .non p.2.2)
  | _ => none
/-- a def of k parameters and n slots in all -/
def fnM (n : Nat) (m : MS) : MF := fun ds S => runB m (ds.map some ++ List.replicate (n - ds.length) none) S
theorem wants_cut {K : PySem.W.Frag} {F : Hp} {f : List Addr} {S S' : Sto} {H : Hp} {d : D} {Q : VK} (hl : f.length = S.length) (h : Wants K F f (trim S.length d S').2 (trim S.length d S').1 Q) : Wants K F f S' d Q := by
  intro v H' F' f' x hh i
  unfold trim at h
  by_cases c : d.low S.length = true ∧ (S'.take S.length).all (fun o => o.low S.length) = true
  · rw [if_pos c] at h
    rw [← hl] at c h
    exact h v H' F' f ⟨x.ex, List.prefix_rfl⟩ (hh.cut x.pre (fun o ho => by simpa using List.all_eq_true.mp c.2 o ho)) (i.cut x.pre c.1)
  · rw [if_neg c] at h
    exact h v H' F' f' x hh i
theorem start_at {K : PySem.W.Frag} {F : Hp} {f : List Addr} {S : Sto} {H : Hp} {N : List Str} {vs : List V} {ds : List D} (h : Held K F f S H) (r : IsAll K F f vs ds) : At K F f S H (L2.start N vs) (ds.map some ++ List.replicate (N.length - ds.length) none) := by
  have hl := r.length
  refine ⟨h, ?_, fun i d e => ?_⟩
  · unfold L2.start
    simp [hl]
  · unfold L2.start
    have hi : i < ds.length := by
      rcases Nat.lt_or_ge i ds.length with z | z
      · exact z
      · rw [List.getElem?_append_right (by simpa using z), List.getElem?_replicate] at e
        split at e <;> cases e
    rw [List.getElem?_append_left (by simpa using hi), List.getElem?_map] at e
    obtain ⟨d', e1, e2⟩ := map_some' e
    cases e2
    obtain ⟨v, h1, h2⟩ := r.get e1
    exact ⟨v, by rw [List.getElem?_append_left (by simpa [hl] using hi), List.getElem?_map, h1]; rfl, h2⟩

/-- a def keeps its promise wherever nothing is being shown -/
structure FnG (P : Program) (w : World) (K : PySem.W.Frag) (mg : Str → Option Value) (base : Heap) (k : Nat) (f : Addr) (fd : FuncData) (ps : List Str) (n : Nat) (G : MF) : Prop where
  ar : ps.length = n
  go : ∀ (A : Around) (fr : List PySem.Env) (s : Shared) (H : Hp) (args : Args) (us : List Value) (vs : List V) (Q : VK), Room k A → A.guards = some [] → Env0 P w K mg base A fr s H → BindsTo s fd args (ps.zip us) → Vals vs us →
    spD K n G vs H Q E0 → codeAny (model P w) A (.call (.ref f) args) (CR CX0 fr P w H s Q E0) s
theorem FnG.up {P : Program} {w : World} {K : PySem.W.Frag} {mg : Str → Option Value} {base : Heap} {j k : Nat} {f : Addr} {fd : FuncData} {ps : List Str} {n : Nat} {G : MF} (h : FnG P w K mg base j f fd ps n G) (l : j ≤ k) : FnG P w K mg base k f fd ps n G :=
  ⟨h.ar, fun A fr s H args us vs Q r => h.go A fr s H args us vs Q (r.mono l)⟩
/-- less is promised: by a function that gives no more -/
theorem FnG.imp {P : Program} {w : World} {K : PySem.W.Frag} {mg : Str → Option Value} {base : Heap} {k : Nat} {f : Addr} {fd : FuncData} {ps : List Str} {n : Nat} {G G' : MF} (h : FnG P w K mg base k f fd ps n G) (l : ∀ ds S r, G' ds S = some r → G ds S = some r) : FnG P w K mg base k f fd ps n G' :=
  ⟨h.ar, fun A fr s H args us vs Q r g e b v ⟨F, f, S, ds, d, S', hh, rr, hl, eq, q⟩ => h.go A fr s H args us vs Q r g e b v ⟨F, f, S, ds, d, S', hh, rr, hl, l _ _ _ eq, q⟩⟩
/-- THE DEF: from its body -/
theorem fn_ok {P : Program} {w : World} {K : PySem.W.Frag} {mg : Str → Option Value} {base : Heap} {x qual : Str} {st : Stmt} {f : Addr} {fd : FuncData} {N ps : List Str} {k : Nat} {m : MS} (Fn : Fun K x qual st f fd) (Sc : FnScope N ps (defScope st))
    (hb : ∀ (cdv : Value) (A : Around) (fr : List PySem.Env) (s : Shared) (H : Hp), Room k (A.deeper (envOfC qual (defScope st) s.heap.objs.size f cdv)) → (A.deeper (envOfC qual (defScope st) s.heap.objs.size f cdv)).guards = some [] →
      ∃ t, DB (cxOf CX0 P w K mg base N qual (defScope st) f cdv A fr s H E0).nox (defBody st) t m) : FnG P w K mg base (k + 1) f fd ps ps.length (fnM N.length m) := by
  obtain ⟨oc, od, kv, doc, pm, an, cdv, ct, osl, hfd, lk, hcd⟩ := Fn.ex
  subst hfd
  refine ⟨rfl, fun A fr s H args us vs Q room hgd e0 hbind hv hsp => ?_⟩
  obtain ⟨t, dt⟩ := hb cdv A fr s H (room.deeper _) hgd
  obtain ⟨F, ff, S, ds, d, S', held, isa, hlen, hrun, want⟩ := hsp
  have nv : vs.length = ps.length := isa.length.trans hlen
  have inK : K.In s.heap := e0.mod.kin.keeps fun b o q => (e0.bs b o q).1
  have noLim : s.heap.NoLimit := e0.mod.nolimit.keeps fun b o q => (e0.bs b o q).1
  have kinds : ∀ y ∈ ps.zip us, (defScope st).names.lookup y.1 = some .local ∨ ((defScope st).names.lookup y.1 = some .cell ∧ ((cellsFrom (s.heap.objs.size + 1) (defScope st).names []).lookup y.1).isSome = true) := by
    intro y hy
    obtain ⟨nm, val⟩ := y
    have hmem := (List.of_mem_zip hy).1
    rcases Sc.par nm hmem with z | z
    · exact Or.inl z
    · exact Or.inr ⟨z, PySem.W.cellsFrom_some _ _ _ (Or.inl z)⟩
  -- the body's wish, by the tree of the result
  have wish : t { nx := fun _ H' => Q .non H', rt := Q } (L2.start N vs) H := by
    unfold fnM runB at hrun
    obtain ⟨⟨o, E1, S1⟩, e1, hrun⟩ := bind_some' hrun
    refine dt.ss F ff S H _ _ o E1 S1 (start_at held isa) e1 _ ?_
    cases o with
    | rt d1 =>
      have e2 : trim S.length d1 S1 = (d, S') := Option.some.inj hrun
      exact wants_cut (S := S) (H := H) held.len (by rw [e2]; exact want)
    | nx =>
      have e2 : trim S.length .non S1 = (d, S') := Option.some.inj hrun
      have q2 : Wants K F ff S1 .non Q := wants_cut (S := S) (H := H) held.len (by rw [e2]; exact want)
      exact fun σ' H' F' f2 y A' => q2 .non H' F' f2 y A'.held .non
    | bk => cases hrun
    | ct => cases hrun
  refine codeAny_call_function room.depth (inK _ _ lk) rfl Sc.co Sc.gen rfl (PySem.W.codeRec_of inK hcd) (hbind _ _ _ _ ?_)
  refine wpAny_newFunctionEnv_cells Sc.kind kinds fun en hen s1 laid => ?_
  subst hen
  refine ⟨noLim.keeps laid.toInCall.keep, codeAny_func ?_⟩
  have inv0 := inv_start (CX := CX0) (E := E0) Sc room.hd e0 nv hv laid
  refine wpAny_mono (dt.ps.nox.run [] s1 (L2.start N vs) H _ inv0 wish) (fun fl s' post => ?_) fun e s' post => post
  cases fl with
  | next =>
    obtain ⟨σ', H', J, q⟩ := post
    exact ⟨V.non, H', J.os, J.bare, J.base, J.hok, rfl, q⟩
  | ret u =>
    obtain ⟨v, σ', H', J, rv, q⟩ := post
    exact ⟨v, H', J.os, J.bare, J.base, J.hok, rv, q⟩
  | brk =>
    obtain ⟨_, _, _, no⟩ := post
    exact no.elim
  | cont =>
    obtain ⟨_, _, _, no⟩ := post
    exact no.elim

/-! ### calls -/
def mCall (n : Nat) (G : MF) (m : MA) : ME := fun E S => (m E S).bind fun p => if p.1.length = n then G p.1 p.2 else none
/-- a reading: the function's tree, where the values are such -/
def rFn (K : PySem.W.Frag) (n : Nat) (G : MF) : List V → Hp → VK → Prop := fun vs H Q => spD K n G vs H Q E0
/-- how keywords are put among the positional values: pick has, for each parameter, the place in «positional ++ keywords» -/
def arrange {α : Type} (pick : List Nat) (xs : List α) : List α := pick.filterMap fun i => xs[i]?
section
variable {X : Cx} {K : PySem.W.Frag} {pos p apos : Pos} {t tk : TA} {m mk : MA} {n k : Nat} {G : MF} {f C : Addr} {fd : FuncData} {ps ks : List Str} {x nm : Str} {e o : Expr} {es : List Expr} {kws : List Keyword} {to : TE} {mo : ME}
theorem g_run {pins : List (Addr × Obj)} {σ : L2.St} {H : Hp} {s : Shared} {Q : VK} {args : Args} {us : List Value} {vs : List V} (Fn : FnG X.prog X.w X.K X.mg X.base k f fd ps n G) (hr : Room k X.A) (hgd : X.A.guards = some []) (I : Inv X pins σ H s)
    (hb : BindsTo s fd args (ps.zip us)) (rv : Vals vs us) (h : rFn X.K n G vs H Q) : codeAny (model X.prog X.w) X.A (.call (.ref f) args) (fun r s' => match r with
      | .ok (.ret u) => EP X pins σ Q u s'
      | _ => False) s := by
  refine codeAny_mono (Fn.go X.A X.stack s H args us vs Q hr hgd I.env0 hb rv h) fun r s' post => ?_
  cases r with
  | error z => exact post.elim
  | ok fl => cases fl <;> first | exact I.after post | exact post.elim
theorem g_call {pins : List (Addr × Obj)} {σ : L2.St} {H : Hp} {s : Shared} {Q : VK} {ws : List (Str × Value)} {us0 us : List Value} {vs : List V} (Fn : FnG X.prog X.w X.K X.mg X.base k f fd ps n G) (hr : Room k X.A) (hgd : X.A.guards = some []) (I : Inv X pins σ H s)
    (hb : BindsTo s fd ⟨us0, ws⟩ (ps.zip us)) (rv : Vals vs us) (h : rFn X.K n G vs H Q) : wpAny (model X.prog X.w) X.A (call (.ref f) us0 ws) (EP X pins σ Q) X.xe s := by
  refine wpAny_call (codeAny_mono (g_run (pins := pins) (σ := σ) Fn hr hgd I hb rv h) fun r s' post => ?_)
  cases r with
  | error z => exact post.elim
  | ok fl => cases fl <;> first | exact post | exact post.elim
theorem se_call (h : SA K t m) : SE K (tCB (rFn K n G) t) (mCall n G m) := by
  intro F f S H σ E d S' A e Q q
  obtain ⟨⟨ds, S1⟩, e1, e⟩ := bind_some' e
  by_cases hn : ds.length = n
  · simp only [hn, if_true] at e
    exact h F f S H σ E ds S1 A e1 _ fun vs H1 F1 f1 x1 h1 i1 => ⟨F1, f1, S1, ds, d, S', h1, i1, hn, e, q.ext x1⟩
  · simp only [hn, if_false] at e
    cases e
theorem rFn_len {vs : List V} {H : Hp} {Q : VK} (h : rFn K n G vs H Q) : vs.length = n := by
  obtain ⟨F, f, S, ds, d, S', _, r, hl, _⟩ := h
  rw [r.length, hl]
theorem d_call (Fn : FnG X.prog X.w X.K X.mg X.base k f fd ps n G) (hr : Room k X.A) (hgd : X.A.guards = some []) (hg : Gl X x) (hm : X.mg x = some (.ref f)) (hk : PySem.W.keepIn X.K (.ref f) = true) (hb : Binds X.K fd ps [])
    (ha : DA X (e :: es) t m) (hdb : (x == ("__debug__" : Str)) = false := by decide) (he : starEach (e :: es) X.env = (false, eval e X.env) :: starEach es X.env := by rfl) (hpl : (backTo pos (starEach es X.env)).any (·.1) = false := by rfl) :
    DE X (.Call (.Name x p) (e :: es) [] pos) (tCB (rFn X.K n G) t) (mCall n G m) := by
  refine ⟨⟨fun pins s σ H Q I h => ?_⟩, se_call ha.se⟩
  refine wpAny_Call_Name_kw (ld_glob I hg hm ?_ hdb)
  refine PySem.W.callWith_K (h₀ := X.base) I.ok.mod.kin hk ?_ he hpl
  refine thn (ha.pe.run pos pins s σ H _ I h) fun us s1 post => ?_
  obtain ⟨vs, H1, I1, rv, q⟩ := post
  have hl : (us ++ []).length = ps.length := by rw [List.append_nil, ← rv.length, rFn_len q, Fn.ar]
  have hbb := hb s1 us I1.kIn hl
  rw [List.append_nil] at hbb
  exact ⟨I1.kIn, g_call Fn hr hgd I1 hbb rv q⟩
theorem d_call0 (Fn : FnG X.prog X.w X.K X.mg X.base k f fd ps n G) (hr : Room k X.A) (hgd : X.A.guards = some []) (hg : Gl X x) (hm : X.mg x = some (.ref f)) (hk : PySem.W.keepIn X.K (.ref f) = true) (hb : Binds X.K fd ps [])
    (hdb : (x == ("__debug__" : Str)) = false := by decide) : DE X (.Call (.Name x p) [] [] pos) (tCB (rFn X.K n G) tNil) (mCall n G mNil) := by
  refine ⟨⟨fun pins s σ H Q I h => ?_⟩, se_call sa_nil⟩
  refine wpAny_Call_Name_kw (ld_glob I hg hm ?_ hdb)
  have hl : (([] : List Value) ++ []).length = ps.length := by
    have := rFn_len h
    rw [Fn.ar, ← this]
    rfl
  have hbb := hb s [] I.kIn hl
  exact PySem.W.callWith_K0 I.kIn hk (g_call (us0 := []) (us := []) Fn hr hgd I hbb .nil h)

/-! ### keywords -/
structure DK (X : Cx) (kws : List Keyword) (t : TA) (m : MA) : Prop where
  pk : PK X kws t
  se : SA X.K t m
theorem k_nil : DK X [] tNil mNil := ⟨pk_nil, sa_nil⟩
theorem k_cons {te : TE} {me : ME} {kpos : Pos} {on : Option Str} (h : DE X e te me) (hr : DK X kws t m) : DK X (⟨on, e, kpos⟩ :: kws) (tCons te t) (mCons me m) := ⟨pk_cons h.pe hr.pk, sa_cons h.se hr.se⟩
/-- positional values, then keywords, put in the parameters' order -/
structure KwB (K : PySem.W.Frag) (fd : FuncData) (ps ks : List Str) (np : Nat) (pick : List Nat) : Prop where
  go : ∀ (s : Shared) (us ws : List Value), K.In s.heap → us.length = np → ws.length = ks.length → BindsTo s fd ⟨us, ks.zip ws⟩ (ps.zip (arrange pick (us ++ ws)))
def tKw (K : PySem.W.Frag) (n np nk : Nat) (pick : List Nat) (G : MF) (t tk : TA) : TE := fun σ H Q => t σ H fun vs H1 => tk σ H1 fun zs H2 => vs.length = np ∧ zs.length = nk ∧ rFn K n G (arrange pick (vs ++ zs)) H2 Q
def mKw (n np nk : Nat) (pick : List Nat) (G : MF) (m mk : MA) : ME := fun E S => (m E S).bind fun p => (mk E p.2).bind fun q => if p.1.length = np ∧ q.1.length = nk ∧ (arrange pick (p.1 ++ q.1)).length = n then G (arrange pick (p.1 ++ q.1)) q.2 else none
theorem arrange_rel {α β : Type} {R : α → β → Prop} {xs : List α} {ys : List β} (h1 : ∀ (i : Nat) (x : α), xs[i]? = some x → ∃ y, ys[i]? = some y ∧ R x y) (h2 : ∀ i : Nat, xs[i]? = none → ys[i]? = none) : ∀ pick : List Nat, Paired R (arrange pick xs) (arrange pick ys)
  | [] => .nil
  | i :: r => by
    unfold arrange
    rw [List.filterMap_cons, List.filterMap_cons]
    cases e : xs[i]? with
    | none => rw [h2 i e]; exact arrange_rel h1 h2 r
    | some x =>
      obtain ⟨y, e2, rr⟩ := h1 i x e
      rw [e2]
      exact .cons rr (arrange_rel h1 h2 r)
theorem isAll_of {F : Hp} {f : List Addr} : ∀ {vs : List V} {ds : List D}, Paired (fun v d => Is K F f v d) vs ds → IsAll K F f vs ds
  | _, _, .nil => .nil
  | _, _, .cons a r => .cons a (isAll_of r)
theorem arrange_all {F : Hp} {f : List Addr} {vs : List V} {ds : List D} (h : IsAll K F f vs ds) (pick : List Nat) : IsAll K F f (arrange pick vs) (arrange pick ds) := by
  refine isAll_of (arrange_rel (fun i v e => ?_) (fun i e => ?_) pick)
  · have hi : i < ds.length := by
      rw [← h.length]
      exact (List.getElem?_eq_some_iff.mp e).1
    obtain ⟨v', h1, h2⟩ := h.get (List.getElem?_eq_getElem hi)
    rw [e] at h1
    cases h1
    exact ⟨_, List.getElem?_eq_getElem hi, h2⟩
  · rw [List.getElem?_eq_none_iff] at e ⊢
    rw [← h.length]
    exact e
theorem arrange_vals {vs : List V} {us : List Value} (h : Vals vs us) (pick : List Nat) : Vals (arrange pick vs) (arrange pick us) := arrange_rel (fun i v e => h.get e) (fun i e => h.none_of e) pick
theorem se_kw {np nk : Nat} {pick : List Nat} (h : SA K t m) (hk : SA K tk mk) : SE K (tKw K n np nk pick G t tk) (mKw n np nk pick G m mk) := by
  intro F f S H σ E d S' A e Q q
  obtain ⟨⟨ds, S1⟩, e1, e⟩ := bind_some' e
  obtain ⟨⟨es, S2⟩, e2, e⟩ := bind_some' e
  by_cases c : ds.length = np ∧ es.length = nk ∧ (arrange pick (ds ++ es)).length = n
  · rw [if_pos c] at e
    refine h F f S H σ E ds S1 A e1 _ fun vs H1 F1 f1 x1 h1 i1 => ?_
    refine hk F1 f1 S1 H1 σ E es S2 (A.up x1 h1) e2 _ fun zs H2 F2 f2 x2 h2 i2 => ⟨by rw [i1.length]; exact c.1, by rw [i2.length]; exact c.2.1, ?_⟩
    exact ⟨F2, f2, S2, _, d, S', h2, arrange_all ((i1.mono x2).append i2) pick, c.2.2, e, q.ext (x1.trans x2)⟩
  · rw [if_neg c] at e
    cases e
end
end DL
/-! DL4: operators, subscripts, built-in calls and methods over trees. -/
namespace DL
open PySem L2 PyProof.Rows

/-! ### looks at a tree -/
def viewW (S : Sto) : D → Option (List D)
  | .lst ds => some ds
  | .loc n => match S[n]? with | some (.lst ds) => some ds | _ => none
  | _ => none
def viewL (S : Sto) : D → Option (List D)
  | .scr ds => some ds
  | d => viewW S d
def viewS (S : Sto) : D → Option (List D)
  | .tup ds => some ds
  | d => viewL S d
section
variable {K : PySem.W.Frag} {F H : Hp} {f : List Addr} {S : Sto} {v : V} {d : D} {ds : List D}
theorem viewW_ok (h : Held K F f S H) (i : Is K F f v d) (e : viewW S d = some ds) : ∃ a vs, v = .ref a ∧ H a = some (.lst vs) ∧ IsAll K F f vs ds := by
  cases i with
  | lst ha r => cases e; exact ⟨_, _, rfl, h.ex _ _ ha, r⟩
  | loc ha =>
    rename_i a n
    simp only [viewW] at e
    cases es : S[n]? with
    | none => rw [es] at e; cases e
    | some o =>
      rw [es] at e
      cases o <;> simp only at e <;> cases e
      obtain ⟨vs, e1, r⟩ := h.ob n a _ ha es
      exact ⟨a, vs, rfl, e1, r⟩
  | _ => cases e
theorem viewL_ok (h : Held K F f S H) (i : Is K F f v d) (e : viewL S d = some ds) : ∃ a vs, v = .ref a ∧ SqL K H a vs ∧ IsAll K F f vs ds := by
  cases i with
  | scr ha r => cases e; exact ⟨_, _, rfl, Evl.ex_l h.ex ha, r⟩
  | lst ha r => cases e; exact ⟨_, _, rfl, SqL.of (h.ex _ _ ha), r⟩
  | loc ha =>
    obtain ⟨a, vs, e1, e2, r⟩ := viewW_ok h (.loc ha) (show viewW S _ = some ds from e)
    exact ⟨a, vs, e1, SqL.of e2, r⟩
  | _ => cases e
theorem viewS_ok (h : Held K F f S H) (i : Is K F f v d) (e : viewS S d = some ds) : ∃ a vs, v = .ref a ∧ (SqL K H a vs ∨ SqT K H a vs) ∧ IsAll K F f vs ds := by
  cases i with
  | tup ha r => cases e; exact ⟨_, _, rfl, .inr (Evl.ex_t h.ex (SqT.of ha)), r⟩
  | scr ha r => cases e; exact ⟨_, _, rfl, .inl (Evl.ex_l h.ex ha), r⟩
  | lst ha r => cases e; exact ⟨_, _, rfl, .inl (SqL.of (h.ex _ _ ha)), r⟩
  | loc ha =>
    obtain ⟨a, vs, e1, e2, r⟩ := viewL_ok h (.loc ha) (show viewL S _ = some ds from e)
    exact ⟨a, vs, e1, .inl e2, r⟩
  | _ => cases e
theorem viewL_lst (S : Sto) (ds : List D) : viewL S (.lst ds) = some ds := rfl
theorem viewS_lst (S : Sto) (ds : List D) : viewS S (.lst ds) = some ds := rfl
theorem viewS_tup (S : Sto) (ds : List D) : viewS S (.tup ds) = some ds := rfl
theorem viewW_lst (S : Sto) (ds : List D) : viewW S (.lst ds) = some ds := rfl
end

/-! ### data -/
mutual
def toP : D → Option PyData
  | .non => some .none
  | .bl b => some (.bool b)
  | .int i => some (.int i)
  | .str x => some (.str x)
  | .tup ds => (toPs ds).map .tuple
  | .lst ds => (toPs ds).map .list
  | .scr ds => (toPs ds).map .list
  | _ => none
def toPs : List D → Option (List PyData)
  | [] => some []
  | d :: ds => (toP d).bind fun p => (toPs ds).map (p :: ·)
end
/-- a thing of the store too -/
def toPS (S : Sto) : D → Option PyData
  | .loc n => match S[n]? with | some (.lst ds) => (toPs ds).map .list | _ => none
  | d => toP d
section
variable {K : PySem.W.Frag} {F H : Hp} {f : List Addr} {S : Sto}
mutual
theorem Is.dp (e : Ex F H) : ∀ {v : V} {d : D} {p : PyData}, Is K F f v d → toP d = some p → Dp K H v p
  | _, _, _, .non, h => by simp only [toP] at h; cases h; exact .non
  | _, _, _, .bl b, h => by simp only [toP] at h; cases h; exact .bl b
  | _, _, _, .int i, h => by simp only [toP] at h; cases h; exact .int i
  | _, _, _, .str x, h => by simp only [toP] at h; cases h; exact .str x
  | _, _, _, .tup s r, h => by
    simp only [toP] at h
    obtain ⟨ps, h1, h2⟩ := map_some' h
    cases h2
    exact .tup (Evl.ex_t e (SqT.of s)) (IsAll.dp e r h1)
  | _, _, _, .lst s r, h => by
    simp only [toP] at h
    obtain ⟨ps, h1, h2⟩ := map_some' h
    cases h2
    exact .lst (SqL.of (e _ _ s)) (IsAll.dp e r h1)
  | _, _, _, .scr s r, h => by
    simp only [toP] at h
    obtain ⟨ps, h1, h2⟩ := map_some' h
    cases h2
    exact .lst (Evl.ex_l e s) (IsAll.dp e r h1)
  | _, _, _, .dic _ _ _, h => by simp only [toP] at h; cases h
  | _, _, _, .ins _ _ _, h => by simp only [toP] at h; cases h
  | _, _, _, .loc _, h => by simp only [toP] at h; cases h
  | _, _, _, .ty _, h => by simp only [toP] at h; cases h
  | _, _, _, .cls _, h => by simp only [toP] at h; cases h
theorem IsAll.dp (e : Ex F H) : ∀ {vs : List V} {ds : List D} {ps : List PyData}, IsAll K F f vs ds → toPs ds = some ps → DpAll K H vs ps
  | _, _, _, .nil, h => by simp only [toPs] at h; cases h; exact .nil
  | _, _, _, .cons a r, h => by
    simp only [toPs] at h
    obtain ⟨p, h1, h⟩ := bind_some' h
    obtain ⟨ps, h2, h⟩ := map_some' h
    cases h
    exact .cons (Is.dp e a h1) (IsAll.dp e r h2)
end
theorem Is.dpS (h : Held K F f S H) {v : V} {d : D} {p : PyData} (i : Is K F f v d) (e : toPS S d = some p) : Dp K H v p := by
  by_cases c : ∃ n, d = .loc n
  · obtain ⟨n, rfl⟩ := c
    cases i with
    | loc ha =>
      rename_i a
      simp only [toPS] at e
      cases es : S[n]? with
      | none => rw [es] at e; cases e
      | some o =>
        rw [es] at e
        cases o <;> simp only at e <;> try (cases e; done)
        rename_i ds
        obtain ⟨ps, h1, h2⟩ := map_some' e
        cases h2
        obtain ⟨vs, e1, r⟩ := h.ob n a _ ha es
        exact .lst (SqL.of e1) (r.dp h.ex h1)
  · have e' : toP d = some p := by
      cases d <;> first | exact e | exact absurd ⟨_, rfl⟩ c
    exact i.dp h.ex e'
end

/-! ### + - * // % ** -/
def gInt (c : Int → Int → Bool) (k : Int → Int → Int) : MO := fun x y S => match x, y with
  | .int i, .int j => if c i j = true then some (.int (k i j), S) else none
  | _, _ => none
def gIntB (k : Int → Int → Bool) : MO := fun x y S => match x, y with
  | .int i, .int j => some (.bl (k i j), S)
  | _, _ => none
section
variable {K : PySem.W.Frag} {X : Cx}
theorem is_int {F : Hp} {f : List Addr} {v : V} {i : Int} (h : Is K F f v (.int i)) : v = .int i := by cases h; rfl
theorem is_str {F : Hp} {f : List Addr} {v : V} {x : Str} (h : Is K F f v (.str x)) : v = .str x := by cases h; rfl
theorem is_non {F : Hp} {f : List Addr} {v : V} (h : Is K F f v .non) : v = .non := by cases h; rfl
theorem ro_int {C : Int → Int → Prop} {c : Int → Int → Bool} {k : Int → Int → Int} (hc : ∀ i j, c i j = true → C i j) : RO K (rI C fun i j => .int (k i j)) (gInt c k) := by
  intro F f S H x y dx dy d S' hh ix iy e Q q
  cases dx <;> try (cases e; done)
  cases dy <;> try (cases e; done)
  rename_i i j
  simp only [gInt] at e
  by_cases h : c i j = true
  · rw [if_pos h] at e
    cases e
    exact ⟨i, j, is_int ix, is_int iy, hc i j h, q.now hh (.int _)⟩
  · rw [if_neg h] at e
    cases e
theorem ro_int0 {k : Int → Int → Int} : RO K (rI0 fun i j => .int (k i j)) (gInt (fun _ _ => true) k) := by
  intro F f S H x y dx dy d S' hh ix iy e Q q
  cases dx <;> try (cases e; done)
  cases dy <;> try (cases e; done)
  rename_i i j
  simp only [gInt, if_true] at e
  cases e
  exact ⟨i, j, is_int ix, is_int iy, q.now hh (.int _)⟩
theorem ro_intB {k : Int → Int → Bool} : RO K (rI0 fun i j => .bl (k i j)) (gIntB k) := by
  intro F f S H x y dx dy d S' hh ix iy e Q q
  cases dx <;> try (cases e; done)
  cases dy <;> try (cases e; done)
  rename_i i j
  cases e
  exact ⟨i, j, is_int ix, is_int iy, q.now hh (.bl _)⟩
def gSub : MO := gInt (fun _ _ => true) fun i j => i - j
end
instance (i j : Int) : Decidable (CMul i j) := by unfold CMul; infer_instance
instance (i j : Int) : Decidable (CDiv i j) := by unfold CDiv; infer_instance
instance (i j : Int) : Decidable (CPow i j) := by unfold CPow; infer_instance
def gMul : MO := gInt (fun i j => decide (CMul i j)) fun i j => i * j
def gFdiv : MO := gInt (fun i j => decide (CDiv i j)) fun i j => i / j
def gMod : MO := gInt (fun _ j => decide (0 < j)) fun i j => i % j
def gPow : MO := gInt (fun i j => decide (CPow i j)) fun i j => i ^ j.toNat
def gLt : MO := gIntB fun i j => decide (i < j)
def gLe : MO := gIntB fun i j => decide (i ≤ j)
def gGt : MO := gIntB fun i j => decide (j < i)
def gGe : MO := gIntB fun i j => decide (j ≤ i)
section
variable {X : Cx} {K : PySem.W.Frag} {pos : Pos} {a b : Expr} {ta tb : TE} {ma mb : ME}
theorem d_sub (ha : DE X a ta ma) (hb : DE X b tb mb) : DE X (.BinOp a .Sub b pos) (tOp (rI0 fun i j => .int (i - j)) ta tb) (mOp gSub ma mb) := d_op op_sub ro_int0 ha hb
theorem d_mul (ha : DE X a ta ma) (hb : DE X b tb mb) : DE X (.BinOp a .Mult b pos) (tOp (rI CMul fun i j => .int (i * j)) ta tb) (mOp gMul ma mb) := d_op op_mul (ro_int fun _ _ h => of_decide_eq_true h) ha hb
theorem d_fdiv (ha : DE X a ta ma) (hb : DE X b tb mb) : DE X (.BinOp a .FloorDiv b pos) (tOp (rI CDiv fun i j => .int (i / j)) ta tb) (mOp gFdiv ma mb) := d_op op_fdiv (ro_int fun _ _ h => of_decide_eq_true h) ha hb
theorem d_mod (ha : DE X a ta ma) (hb : DE X b tb mb) : DE X (.BinOp a .Mod b pos) (tOp (rI (fun _ j => 0 < j) fun i j => .int (i % j)) ta tb) (mOp gMod ma mb) := d_op op_mod (ro_int fun _ _ h => of_decide_eq_true h) ha hb
theorem d_pow (ha : DE X a ta ma) (hb : DE X b tb mb) : DE X (.BinOp a .Pow b pos) (tOp (rI CPow fun i j => .int (i ^ j.toNat)) ta tb) (mOp gPow ma mb) := d_op op_pow (ro_int fun _ _ h => of_decide_eq_true h) ha hb
theorem t_lt (ha : DE X a ta ma) (hb : DE X b tb mb) : DT X (.Compare a [.Lt] [b] pos) (tTest (tOp (rI0 fun i j => .bl (decide (i < j))) ta tb)) (mTest (mOp gLt ma mb)) := t_cmp op_lt ro_intB ha hb
theorem t_le (ha : DE X a ta ma) (hb : DE X b tb mb) : DT X (.Compare a [.LtE] [b] pos) (tTest (tOp (rI0 fun i j => .bl (decide (i ≤ j))) ta tb)) (mTest (mOp gLe ma mb)) := t_cmp op_le ro_intB ha hb
theorem t_gt (ha : DE X a ta ma) (hb : DE X b tb mb) : DT X (.Compare a [.Gt] [b] pos) (tTest (tOp (rI0 fun i j => .bl (decide (j < i))) ta tb)) (mTest (mOp gGt ma mb)) := t_cmp op_gt ro_intB ha hb
theorem t_ge (ha : DE X a ta ma) (hb : DE X b tb mb) : DT X (.Compare a [.GtE] [b] pos) (tTest (tOp (rI0 fun i j => .bl (decide (j ≤ i))) ta tb)) (mTest (mOp gGe ma mb)) := t_cmp op_ge ro_intB ha hb
theorem e_lt (ha : DE X a ta ma) (hb : DE X b tb mb) : DE X (.Compare a [.Lt] [b] pos) (tOp (rI0 fun i j => .bl (decide (i < j))) ta tb) (mOp gLt ma mb) := d_cmp op_lt ro_intB ha hb
theorem e_le (ha : DE X a ta ma) (hb : DE X b tb mb) : DE X (.Compare a [.LtE] [b] pos) (tOp (rI0 fun i j => .bl (decide (i ≤ j))) ta tb) (mOp gLe ma mb) := d_cmp op_le ro_intB ha hb
theorem e_gt (ha : DE X a ta ma) (hb : DE X b tb mb) : DE X (.Compare a [.Gt] [b] pos) (tOp (rI0 fun i j => .bl (decide (j < i))) ta tb) (mOp gGt ma mb) := d_cmp op_gt ro_intB ha hb
theorem e_ge (ha : DE X a ta ma) (hb : DE X b tb mb) : DE X (.Compare a [.GtE] [b] pos) (tOp (rI0 fun i j => .bl (decide (j ≤ i))) ta tb) (mOp gGe ma mb) := d_cmp op_ge ro_intB ha hb
end

/-- a + b: ints, texts, tuples, lists -/
def gAdd : MO := fun x y S => match x, y with
  | .int i, .int j => some (.int (i + j), S)
  | .str a, .str b => if a.length + b.length ≤ sizeLine then some (.str (a ++ b), S) else none
  | .tup a, .tup b => if a.length + b.length ≤ sizeLine then some (.tup (a ++ b), S) else none
  | x, y => (viewW S x).bind fun a => (viewW S y).bind fun b => if a.length + b.length ≤ sizeLine then some (.lst (a ++ b), S) else none
def rAddD (K : PySem.W.Frag) : R2 := fun x y H Q => ((rI0 (fun i j => .int (i + j)) x y H Q ∨ (∃ i j, x = .str i ∧ y = .str j ∧ i.length + j.length ≤ sizeLine ∧ Q (.str (i ++ j)) H)) ∨ rCatA K x y H Q) ∨ rCat x y H Q
theorem op_addD {X : Cx} : OpR X (binaryOp .Add) (rAddD X.K) := ((op_add.or op_add_str).or op_catA).or op_cat
theorem ro_add {K : PySem.W.Frag} : RO K (rAddD K) gAdd := by
  intro F f S H x y dx dy d S' hh ix iy e Q q
  have lists : ((viewW S dx).bind fun a => (viewW S dy).bind fun b => if a.length + b.length ≤ sizeLine then some (D.lst (a ++ b), S) else none) = some (d, S') → rAddD K x y H Q := fun e => by
    obtain ⟨as, e1, e⟩ := bind_some' e
    obtain ⟨bs, e2, e⟩ := bind_some' e
    by_cases hz : as.length + bs.length ≤ sizeLine
    · rw [if_pos hz] at e
      cases e
      obtain ⟨a, vs, rfl, ha, ra⟩ := viewW_ok hh ix e1
      obtain ⟨b, ws, rfl, hb, rb⟩ := viewW_ok hh iy e2
      refine .inr ⟨a, b, vs, ws, rfl, rfl, ha, hb, by rw [ra.length, rb.length]; exact hz, fun p hp => ?_⟩
      obtain ⟨h2, x2⟩ := hh.put (o := .lst (vs ++ ws)) hp
      exact q _ _ _ _ x2 h2 (.lst upd_same ((ra.append rb).mono x2))
    · rw [if_neg hz] at e
      cases e
  cases dx with
  | int i =>
    cases dy <;> first
      | (cases e; done)
      | (cases e; exact .inl (.inl (.inl ⟨_, _, is_int ix, is_int iy, q.now hh (.int _)⟩)))
  | str i =>
    cases dy <;> try (cases e; done)
    rename_i j
    simp only [gAdd] at e
    by_cases hz : i.length + j.length ≤ sizeLine
    · rw [if_pos hz] at e
      cases e
      exact .inl (.inl (.inr ⟨_, _, is_str ix, is_str iy, hz, q.now hh (.str _)⟩))
    · rw [if_neg hz] at e
      cases e
  | tup as =>
    cases dy <;> try (cases e; done)
    rename_i bs
    simp only [gAdd] at e
    by_cases hz : as.length + bs.length ≤ sizeLine
    · rw [if_pos hz] at e
      cases e
      cases ix with
      | tup ha ra =>
        cases iy with
        | tup hb rb =>
          rename_i a vs b ws
          refine .inl (.inr ⟨a, b, vs, ws, rfl, rfl, Evl.ex_t hh.ex (SqT.of ha), Evl.ex_t hh.ex (SqT.of hb), by rw [ra.length, rb.length]; exact hz, fun h0 => ?_, fun h0 h1 => ?_, fun h0 h1 p hp => ?_⟩)
          · subst h0
            cases ra
            exact q.now hh (.tup hb rb)
          · subst h1
            cases rb
            rw [List.append_nil] at q
            exact q.now hh (.tup ha ra)
          · obtain ⟨h2, x2⟩ := hh.put (o := .tup (vs ++ ws)) hp
            exact q _ _ _ _ x2 h2 (.tup upd_same ((ra.append rb).mono x2))
    · rw [if_neg hz] at e
      cases e
  | lst as => exact lists (by simpa only [gAdd] using e)
  | loc n => exact lists (by simpa only [gAdd] using e)
  | _ => cases dy <;> simp only [gAdd, viewW, Option.bind_none] at e <;> cases e
theorem d_add {X : Cx} {a b : Expr} {ta tb : TE} {ma mb : ME} {pos : Pos} (ha : DE X a ta ma) (hb : DE X b tb mb) : DE X (.BinOp a .Add b pos) (tOp (rAddD X.K) ta tb) (mOp gAdd ma mb) := d_op op_addD ro_add ha hb

/-! ### == and != -/
def toScal : D → Option V
  | .non => some .non | .bl b => some (.bl b) | .int i => some (.int i) | .str x => some (.str x) | _ => none
def eqD (S : Sto) (x y : D) : Option Bool := match (toScal x).bind fun a => (toScal y).bind fun b => if scal a b = true then some (decide (a = b)) else none with
  | some r => some r
  | none => (toPS S x).bind fun p => (toPS S y).bind fun q => if SeqAt.shaped p = true ∧ SeqAt.shaped q = true then some (PyData.eqv p q) else none
def gEq : MO := fun x y S => (eqD S x y).map fun b => (.bl b, S)
def gNe : MO := fun x y S => (eqD S x y).map fun b => (.bl (!b), S)
def rEqA (K : PySem.W.Frag) : R2 := fun x y H Q => rEq x y H Q ∨ rEqD K x y H Q
def rNeA (K : PySem.W.Frag) : R2 := fun x y H Q => rNe x y H Q ∨ rNeD K x y H Q
theorem op_eqA {X : Cx} (hu : X.A.units + 64 < cLine) : OpR X (compareOp .Eq) (rEqA X.K) := op_eq.or (op_eqD hu)
theorem op_neA {X : Cx} (hu : X.A.units + 64 < cLine) : OpR X (compareOp .NotEq) (rNeA X.K) := op_ne.or (op_neD hu)
theorem scal_of {K : PySem.W.Frag} {F : Hp} {f : List Addr} {v w : V} {d : D} (i : Is K F f v d) (e : toScal d = some w) : v = w := by
  cases i <;> simp only [toScal] at e <;> cases e <;> rfl
theorem eqD_ok {K : PySem.W.Frag} {F H : Hp} {f : List Addr} {S : Sto} {x y : V} {dx dy : D} {b : Bool} (hh : Held K F f S H) (ix : Is K F f x dx) (iy : Is K F f y dy) (e : eqD S dx dy = some b) :
    (scal x y = true ∧ b = decide (x = y)) ∨ ∃ p q, Dp K H x p ∧ Dp K H y q ∧ SeqAt.shaped p = true ∧ SeqAt.shaped q = true ∧ b = PyData.eqv p q := by
  unfold eqD at e
  split at e
  · rename_i r h
    cases e
    obtain ⟨a, e1, h⟩ := bind_some' h
    obtain ⟨c, e2, h⟩ := bind_some' h
    have h1 := scal_of ix e1
    have h2 := scal_of iy e2
    subst h1 h2
    by_cases hs : scal x y = true
    · rw [if_pos hs] at h
      cases h
      exact .inl ⟨hs, rfl⟩
    · rw [if_neg hs] at h
      cases h
  · obtain ⟨p, e1, e⟩ := bind_some' e
    obtain ⟨q, e2, e⟩ := bind_some' e
    by_cases hs : SeqAt.shaped p = true ∧ SeqAt.shaped q = true
    · rw [if_pos hs] at e
      cases e
      exact .inr ⟨p, q, ix.dpS hh e1, iy.dpS hh e2, hs.1, hs.2, rfl⟩
    · rw [if_neg hs] at e
      cases e
theorem ro_eq {K : PySem.W.Frag} : RO K (rEqA K) gEq := by
  intro F f S H x y dx dy d S' hh ix iy e Q q
  obtain ⟨b, e1, e⟩ := map_some' e
  cases e
  rcases eqD_ok hh ix iy e1 with ⟨hs, rfl⟩ | ⟨p, r, h1, h2, h3, h4, rfl⟩
  · exact .inl ⟨hs, q.now hh (.bl _)⟩
  · exact .inr ⟨p, r, h1, h2, h3, h4, q.now hh (.bl _)⟩
theorem ro_ne {K : PySem.W.Frag} : RO K (rNeA K) gNe := by
  intro F f S H x y dx dy d S' hh ix iy e Q q
  obtain ⟨b, e1, e⟩ := map_some' e
  cases e
  rcases eqD_ok hh ix iy e1 with ⟨hs, rfl⟩ | ⟨p, r, h1, h2, h3, h4, rfl⟩
  · exact .inl ⟨hs, q.now hh (.bl _)⟩
  · exact .inr ⟨p, r, h1, h2, h3, h4, q.now hh (.bl _)⟩
section
variable {X : Cx} {K : PySem.W.Frag} {pos : Pos} {a b : Expr} {ta tb : TE} {ma mb : ME} {k : Nat}
theorem t_eq (hr : Room k X.A) (ha : DE X a ta ma) (hb : DE X b tb mb) : DT X (.Compare a [.Eq] [b] pos) (tTest (tOp (rEqA X.K) ta tb)) (mTest (mOp gEq ma mb)) := t_cmp (op_eqA hr.units) ro_eq ha hb
theorem t_ne (hr : Room k X.A) (ha : DE X a ta ma) (hb : DE X b tb mb) : DT X (.Compare a [.NotEq] [b] pos) (tTest (tOp (rNeA X.K) ta tb)) (mTest (mOp gNe ma mb)) := t_cmp (op_neA hr.units) ro_ne ha hb
theorem e_eq (hr : Room k X.A) (ha : DE X a ta ma) (hb : DE X b tb mb) : DE X (.Compare a [.Eq] [b] pos) (tOp (rEqA X.K) ta tb) (mOp gEq ma mb) := d_cmp (op_eqA hr.units) ro_eq ha hb
theorem e_ne (hr : Room k X.A) (ha : DE X a ta ma) (hb : DE X b tb mb) : DE X (.Compare a [.NotEq] [b] pos) (tOp (rNeA X.K) ta tb) (mOp gNe ma mb) := d_cmp (op_neA hr.units) ro_ne ha hb
end

/-! ### is None -/
def isN : D → Bool
  | .non => true
  | _ => false
def gIsN : MO := fun x y S => match y with | .non => some (.bl (isN x), S) | _ => none
def gNotN : MO := fun x y S => match y with | .non => some (.bl (!isN x), S) | _ => none
theorem isN_ok {K : PySem.W.Frag} {F : Hp} {f : List Addr} {v : V} {d : D} (i : Is K F f v d) : decide (v = .non) = isN d := by
  cases i <;> simp [isN]
theorem ro_isN {K : PySem.W.Frag} : RO K (fun x y H Q => y = .non ∧ Q (.bl (decide (x = .non))) H) gIsN := by
  intro F f S H x y dx dy d S' hh ix iy e Q q
  cases dy <;> try (cases e; done)
  cases e
  exact ⟨is_non iy, by rw [isN_ok ix]; exact q.now hh (.bl _)⟩
theorem ro_notN {K : PySem.W.Frag} : RO K (fun x y H Q => y = .non ∧ Q (.bl (!decide (x = .non))) H) gNotN := by
  intro F f S H x y dx dy d S' hh ix iy e Q q
  cases dy <;> try (cases e; done)
  cases e
  exact ⟨is_non iy, by rw [isN_ok ix]; exact q.now hh (.bl _)⟩
section
variable {X : Cx} {K : PySem.W.Frag} {pos : Pos} {a b : Expr} {ta tb : TE} {ma mb : ME} {k : Nat}
theorem t_isN (ha : DE X a ta ma) (hb : DE X b tb mb) : DT X (.Compare a [.Is] [b] pos) (tTest (tOp (fun x y H Q => y = .non ∧ Q (.bl (decide (x = .non))) H) ta tb)) (mTest (mOp gIsN ma mb)) := t_cmp op_isN ro_isN ha hb
theorem t_notN (ha : DE X a ta ma) (hb : DE X b tb mb) : DT X (.Compare a [.IsNot] [b] pos) (tTest (tOp (fun x y H Q => y = .non ∧ Q (.bl (!decide (x = .non))) H) ta tb)) (mTest (mOp gNotN ma mb)) := t_cmp op_notN ro_notN ha hb
theorem e_isN (ha : DE X a ta ma) (hb : DE X b tb mb) : DE X (.Compare a [.Is] [b] pos) (tOp (fun x y H Q => y = .non ∧ Q (.bl (decide (x = .non))) H) ta tb) (mOp gIsN ma mb) := d_cmp op_isN ro_isN ha hb
theorem e_notN (ha : DE X a ta ma) (hb : DE X b tb mb) : DE X (.Compare a [.IsNot] [b] pos) (tOp (fun x y H Q => y = .non ∧ Q (.bl (!decide (x = .non))) H) ta tb) (mOp gNotN ma mb) := d_cmp op_notN ro_notN ha hb
/-- one sign in a text -/
def gInS : MO := fun x y S => match x, y with
  | .str c, .str z => match c.cps.toList with
    | [n] => some (.bl (decide (n ∈ z.cps.toList)), S)
    | _ => none
  | _, _ => none
def gNinS : MO := fun x y S => match x, y with
  | .str c, .str z => match c.cps.toList with
    | [n] => some (.bl (!decide (n ∈ z.cps.toList)), S)
    | _ => none
  | _, _ => none
theorem one_sign {c : Str} {n : Nat} (h : c.cps.toList = [n]) : c = ⟨#[n]⟩ := by
  obtain ⟨a⟩ := c
  congr 1
  exact Array.toList_inj.mp h
theorem ro_inS : RO K (fun x y H Q => ∃ (c : Nat) (z : Str), x = .str ⟨#[c]⟩ ∧ y = .str z ∧ Q (.bl (decide (c ∈ z.cps.toList))) H) gInS := by
  intro F f S H x y dx dy d S' hh ix iy e Q q
  cases dx <;> try (cases e; done)
  cases dy <;> try (cases e; done)
  rename_i c z
  simp only [gInS] at e
  split at e
  · rename_i n hn
    cases e
    have := one_sign hn
    subst this
    exact ⟨n, z, is_str ix, is_str iy, q.now hh (.bl _)⟩
  · cases e
theorem ro_ninS : RO K (fun x y H Q => ∃ (c : Nat) (z : Str), x = .str ⟨#[c]⟩ ∧ y = .str z ∧ Q (.bl (!decide (c ∈ z.cps.toList))) H) gNinS := by
  intro F f S H x y dx dy d S' hh ix iy e Q q
  cases dx <;> try (cases e; done)
  cases dy <;> try (cases e; done)
  rename_i c z
  simp only [gNinS] at e
  split at e
  · rename_i n hn
    cases e
    have := one_sign hn
    subst this
    exact ⟨n, z, is_str ix, is_str iy, q.now hh (.bl _)⟩
  · cases e
theorem t_inS (ha : DE X a ta ma) (hb : DE X b tb mb) (hm : behindInMarks .In b = false := by with_unfolding_all rfl) : DT X (.Compare a [.In] [b] pos) (tTest (tOp (fun x y H Q => ∃ (c : Nat) (z : Str), x = .str ⟨#[c]⟩ ∧ y = .str z ∧ Q (.bl (decide (c ∈ z.cps.toList))) H) ta tb)) (mTest (mOp gInS ma mb)) := t_cmp op_in_sign ro_inS ha hb hm
theorem t_ninS (ha : DE X a ta ma) (hb : DE X b tb mb) (hm : behindInMarks .NotIn b = false := by with_unfolding_all rfl) : DT X (.Compare a [.NotIn] [b] pos) (tTest (tOp (fun x y H Q => ∃ (c : Nat) (z : Str), x = .str ⟨#[c]⟩ ∧ y = .str z ∧ Q (.bl (!decide (c ∈ z.cps.toList))) H) ta tb)) (mTest (mOp gNinS ma mb)) := t_cmp op_notIn_sign ro_ninS ha hb hm
end
end DL
/-! DL5: subscripts, slices, calls of built-ins, methods of lists, comprehensions. -/
namespace DL
open PySem L2 PyProof.Rows

/-! ### a[i] -/
def gIx : MO := fun x y S => match y with
  | .int i => match x with
    | .str z => if z.length ≤ sizeLine then (atI z.cps.toList i).map fun c => (.str ⟨#[c]⟩, S) else none
    | x => (viewS S x).bind fun ds => (atI ds i).map fun d => (d, S)
  | _ => none
theorem atI_all {K : PySem.W.Frag} {F : Hp} {f : List Addr} {vs : List V} {ds : List D} {i : Int} {d : D} (r : IsAll K F f vs ds) (h : atI ds i = some d) : ∃ v, atI vs i = some v ∧ Is K F f v d := by
  unfold atI at h ⊢
  rw [r.length]
  obtain ⟨j, h1, h2⟩ := bind_some' h
  obtain ⟨v, h3, h4⟩ := r.get h2
  exact ⟨v, by rw [h1]; exact h3, h4⟩
theorem ro_ix {K : PySem.W.Frag} : RO K (rIx K) gIx := by
  intro F f S H x y dx dy d S' hh ix iy e Q q
  cases dy <;> try (cases e; done)
  rename_i i
  have seqs : ((viewS S dx).bind fun ds => (atI ds i).map fun d => (d, S)) = some (d, S') → rIx K x y H Q := fun e => by
    obtain ⟨ds, e1, e⟩ := bind_some' e
    obtain ⟨d', e2, e⟩ := map_some' e
    cases e
    obtain ⟨a, vs, rfl, ha, r⟩ := viewS_ok hh ix e1
    obtain ⟨v, h1, h2⟩ := atI_all r e2
    rcases ha with ha | ha
    · exact .inl ⟨a, vs, i, v, rfl, is_int iy, ha, h1, q.now hh h2⟩
    · exact .inr (.inl ⟨a, vs, i, v, rfl, is_int iy, ha, h1, q.now hh h2⟩)
  cases dx with
  | str z =>
    simp only [gIx] at e
    by_cases hz : z.length ≤ sizeLine
    · rw [if_pos hz] at e
      obtain ⟨c, e1, e⟩ := map_some' e
      cases e
      exact .inr (.inr ⟨z, i, c, is_str ix, is_int iy, hz, e1, q.now hh (.str _)⟩)
    · rw [if_neg hz] at e
      cases e
  | _ => exact seqs e
section
variable {X : Cx} {K : PySem.W.Frag} {pos p2 : Pos} {a b e o i : Expr} {ta tb td ty : TE} {ma mb md my : ME} {lo hi : Option Expr} {tl th : TO} {k : Nat}
theorem d_ix (ha : DE X a ta ma) (hb : DE X b tb mb) (hs : PlainIx b := by exact fun _ _ => rfl) : DE X (.Subscript a b pos) (tOp (rIx X.K) ta tb) (mOp gIx ma mb) := ⟨pe_ix ix_seq ha.pe hb.pe hs, se_op ro_ix ha.se hb.se⟩

/-! ### d[k], d[k] = v -/
def toKey : D → Option Key
  | .int i => some (.inl i)
  | .str x => some (.inr x)
  | _ => none
def dlook : List Key → List D → Key → Option D
  | k :: ks, d :: ds, q => if k = q then some d else dlook ks ds q
  | _, _, _ => none
def dput (ks : List Key) (ds : List D) (q : Key) (x : D) : List Key × List D :=
  if (ks.any fun k => decide (k = q)) = true then (ks, List.zipWith (fun k d => if k = q then x else d) ks ds) else (ks ++ [q], ds ++ [x])
def viewD (S : Sto) : D → Option (List Key × List D)
  | .dic ks ds => some (ks, ds)
  | .loc n => match S[n]? with | some (.dic ks ds) => some (ks, ds) | _ => none
  | _ => none
theorem viewD_ok {F H : Hp} {f : List Addr} {S : Sto} {v : V} {d : D} {ks : List Key} {ds : List D} (h : Held K F f S H) (i : Is K F f v d) (e : viewD S d = some (ks, ds)) :
    ∃ a kvs, v = .ref a ∧ H a = some (.dK kvs) ∧ kvs.map (·.1) = ks ∧ IsAll K F f (kvs.map (·.2)) ds := by
  cases i with
  | dic ha hk r => cases e; exact ⟨_, _, rfl, h.ex _ _ ha, hk, r⟩
  | loc ha =>
    rename_i a n
    simp only [viewD] at e
    cases es : S[n]? with
    | none => rw [es] at e; cases e
    | some o =>
      rw [es] at e
      cases o <;> simp only at e <;> cases e
      obtain ⟨kvs, e1, e2, r⟩ := h.ob n a _ ha es
      exact ⟨a, kvs, rfl, e1, e2, r⟩
  | _ => cases e
theorem dlook_ok {F : Hp} {f : List Addr} {q : Key} : ∀ {kvs : List (Key × V)} {ds : List D} {d : D}, IsAll K F f (kvs.map (·.2)) ds → dlook (kvs.map (·.1)) ds q = some d → ∃ v, valV kvs q = some v ∧ Is K F f v d
  | [], _, _, .nil, e => by cases e
  | p :: kvs, d0 :: ds, d, .cons h t, e => by
    simp only [List.map_cons, dlook] at e
    by_cases hk : p.1 = q
    · rw [if_pos hk] at e
      cases e
      exact ⟨p.2, valV_pos hk, h⟩
    · rw [if_neg hk] at e
      obtain ⟨v, h1, h2⟩ := dlook_ok t e
      exact ⟨v, by rw [valV_neg hk]; exact h1, h2⟩
theorem key_ok {F : Hp} {f : List Addr} {v : V} {d : D} {q : Key} (i : Is K F f v d) (e : toKey d = some q) : v = kV q := by
  cases i <;> simp only [toKey] at e <;> cases e <;> rfl
def mDGet (md my : ME) : ME := fun E S => (md E S).bind fun p => (my E p.2).bind fun q => (viewD q.2 p.1).bind fun w => (toKey q.1).bind fun k => (dlook w.1 w.2 k).map fun d => (d, q.2)
theorem se_dget (hd : SE K td md) (hy : SE K ty my) : SE K (tDGet td ty) (mDGet md my) := by
  intro F f S H σ E d S' A e Q q
  obtain ⟨⟨x, S1⟩, e1, e⟩ := bind_some' e
  obtain ⟨⟨y, S2⟩, e2, e⟩ := bind_some' e
  obtain ⟨⟨ks, ds⟩, e3, e⟩ := bind_some' e
  obtain ⟨kk, e4, e⟩ := bind_some' e
  obtain ⟨d', e5, e⟩ := map_some' e
  cases e
  refine hd F f S H σ E x S1 A e1 _ fun v H1 F1 f1 x1 h1 i1 => ?_
  refine hy F1 f1 S1 H1 σ E y _ (A.up x1 h1) e2 _ fun u H2 F2 f2 x2 h2 i2 => ?_
  obtain ⟨a, kvs, rfl, ha, rfl, r⟩ := viewD_ok h2 (i1.mono x2) e3
  obtain ⟨w, h3, h4⟩ := dlook_ok r e5
  have := key_ok i2 e4
  subst this
  exact ⟨a, w, rfl, by rw [← h3]; exact DGet.k ha, (q.ext (x1.trans x2)).now h2 h4⟩
theorem d_dget (hr : Room k X.A) (ho : DE X o td md) (hi : DE X i ty my) (hs : NoSl i := by exact fun _ _ => rfl) : DE X (.Subscript o i pos) (tDGet td ty) (mDGet md my) := ⟨pe_dget (hu_of hr) ho.pe hi.pe hs, se_dget ho.se hi.se⟩
theorem zip_put {F : Hp} {f : List Addr} {q : Key} {x : V} {y : D} (i : Is K F f x y) : ∀ {kvs : List (Key × V)} {ds : List D}, IsAll K F f (kvs.map (·.2)) ds →
    IsAll K F f ((kvs.map fun kv => if kv.1 = q then (kv.1, x) else kv).map (·.2)) (List.zipWith (fun k d => if k = q then y else d) (kvs.map (·.1)) ds)
  | [], _, .nil => .nil
  | p :: kvs, d :: ds, .cons h t => by
    simp only [List.map_cons, List.zipWith_cons_cons]
    refine .cons ?_ (zip_put i t)
    by_cases e : p.1 = q
    · rw [if_pos e, if_pos e]; exact i
    · rw [if_neg e, if_neg e]; exact h
theorem dput_ok {F : Hp} {f : List Addr} {q : Key} {x : V} {y : D} {kvs : List (Key × V)} {ds : List D} (i : Is K F f x y) (r : IsAll K F f (kvs.map (·.2)) ds) :
    (putK kvs q x).map (·.1) = (dput (kvs.map (·.1)) ds q y).1 ∧ IsAll K F f ((putK kvs q x).map (·.2)) (dput (kvs.map (·.1)) ds q y).2 := by
  unfold putK dput
  have e : ((kvs.map (·.1)).any fun k => decide (k = q)) = kvs.any fun kv => decide (kv.1 = q) := by rw [List.any_map]; rfl
  rw [e]
  by_cases c : (kvs.any fun kv => decide (kv.1 = q)) = true
  · rw [if_pos c, if_pos c]
    refine ⟨?_, zip_put i r⟩
    rw [List.map_map]
    refine List.map_congr_left fun kv _ => ?_
    show (if kv.1 = q then (kv.1, x) else kv).1 = kv.1
    by_cases z : kv.1 = q
    · rw [if_pos z]
    · rw [if_neg z]
  · rw [if_neg c, if_neg c]
    rw [List.map_append, List.map_append]
    exact ⟨rfl, r.append (.cons i .nil)⟩
/-- d[k] = v, d a thing of the store -/
def mDPut (md my mv : ME) : MS := fun E S => (mv E S).bind fun v => (md E v.2).bind fun d => (my E d.2).bind fun y => (toKey y.1).bind fun k => match d.1 with
  | .loc n => match y.2[n]? with
    | some (.dic ks ds) => if ks.length < sizeLine then some (.nx, E, y.2.set n (.dic (dput ks ds k v.1).1 (dput ks ds k v.1).2)) else none
    | _ => none
  | _ => none
theorem ss_dput {tv : TE} {mv : ME} (hd : SE K td md) (hy : SE K ty my) (hv : SE K tv mv) : SS K (sDPut td ty tv) (mDPut md my mv) := by
  intro F f S H σ E o E' S' A e D q
  obtain ⟨⟨v, S1⟩, e1, e⟩ := bind_some' e
  obtain ⟨⟨x, S2⟩, e2, e⟩ := bind_some' e
  obtain ⟨⟨y, S3⟩, e3, e⟩ := bind_some' e
  obtain ⟨kk, e4, e⟩ := bind_some' e
  cases x <;> try (cases e; done)
  rename_i n
  simp only at e
  split at e
  · rename_i ks ds es
    by_cases hz : ks.length < sizeLine
    · rw [if_pos hz] at e
      cases e
      refine hv F f S H σ E v S1 A e1 _ fun v0 H1 F1 f1 x1 h1 i1 => ?_
      refine hd F1 f1 S1 H1 σ E _ S2 (A.up x1 h1) e2 _ fun d0 H2 F2 f2 x2 h2 i2 => ?_
      refine hy F2 f2 S2 H2 σ E y S3 (A.up (x1.trans x2) h2) e3 _ fun y0 H3 F3 f3 x3 h3 i3 => ?_
      have i2' := i2.mono x3
      cases i2' with
      | loc ha =>
        rename_i a
        obtain ⟨kvs, e5, e6, r⟩ := h3.ob _ a _ ha es
        have := key_ok i3 e4
        subst this
        subst e6
        obtain ⟨p1, p2⟩ := dput_ok (q := kk) (i1.mono (x2.trans x3)) r
        have h4 := h3.write (u := .dK (putK kvs kk v0)) (o' := .dic (dput (kvs.map (·.1)) ds kk v).1 (dput (kvs.map (·.1)) ds kk v).2) ha es (by first | rfl | (intro z; cases z)) ⟨_, rfl, p1, p2⟩
        refine ⟨a, _, rfl, DPut.k e5 (by rw [List.length_map] at hz; exact hz), ?_⟩
        exact q σ _ F3 f3 ((x1.trans x2).trans x3) (A.up ((x1.trans x2).trans x3) h4)
    · rw [if_neg hz] at e
      cases e
  · cases e
theorem s_dput {tv : TE} {mv : ME} {value : Expr} {pos' : Pos} (hr : Room k X.A) (ho : DE X o td md) (hi : DE X i ty my) (hv : DE X value tv mv) (hs : swapsWith value (some (.Subscript o i pos')) pos.line X.env = pure false := by rfl) :
    DS X (.Assign [.Subscript o i pos'] value pos) (sDPut td ty tv) (mDPut md my mv) := ⟨ps_dput (hu_of hr) ho.pe hi.pe hv.pe hs, ss_dput ho.se hi.se hv.se⟩

/-! ### a[lo:hi] -/
def cutD (ds : List D) (lo hi : Option Int) : List D := (ds.drop (HT.sIx ds.length 0 lo)).take (HT.sIx ds.length ds.length hi - HT.sIx ds.length 0 lo)
abbrev MOI := Env → Sto → Option (Option Int × Sto)
def SO (K : PySem.W.Frag) (t : TO) (m : MOI) : Prop :=
  ∀ F f S H σ E o S', At K F f S H σ E → m E S = some (o, S') → ∀ Q : Option Int → Hp → Prop, (∀ H' F' f', Ext F f F' f' → Held K F' f' S' H' → Q o H') → t σ H Q
structure DO (X : Cx) (e : Option Expr) (t : TO) (m : MOI) : Prop where
  po : PO X e t
  so : SO X.K t m
def mNoPart : MOI := fun _ S => some (none, S)
def mPart (m : ME) : MOI := fun E S => (m E S).bind fun p => match p.1 with | .int i => some (some i, p.2) | _ => none
theorem o_none : DO X none tNoPart mNoPart := ⟨po_none, fun F f S H σ E o S' A e Q q => by cases e; exact q H F f (Ext.refl _ _) A.held⟩
theorem o_some (h : DE X e ta ma) : DO X (some e) (tPart ta) (mPart ma) := ⟨po_some h.pe, fun F f S H σ E o S' A e Q q => by
  obtain ⟨⟨d, S1⟩, e1, e⟩ := bind_some' e
  cases d <;> try (cases e; done)
  cases e
  exact h.se F f S H σ E _ _ A e1 _ fun v H1 F1 f1 x1 h1 i1 => ⟨_, is_int i1, q H1 F1 f1 x1 h1⟩⟩
def rSlD (K : PySem.W.Frag) : V → Option Int → Option Int → Hp → VK → Prop := fun x lo hi H Q => (rSlL K x lo hi H Q ∨ rSlA K x lo hi H Q) ∨ rSlS x lo hi H Q
theorem sl_D : SlR X (rSlD X.K) := (sl_list.or sl_tupA).or sl_str
def mSl (m : ME) (ml mh : MOI) : ME := fun E S => (m E S).bind fun p => (ml E p.2).bind fun l => (mh E l.2).bind fun u => match p.1 with
  | .str z => if z.length ≤ sizeLine then some (.str (cutS z l.1 u.1), u.2) else none
  | .tup ds => some (.tup (cutD ds l.1 u.1), u.2)
  | d => (viewL u.2 d).map fun ds => (.lst (cutD ds l.1 u.1), u.2)
theorem cut_all {F : Hp} {f : List Addr} {vs : List V} {ds : List D} (r : IsAll K F f vs ds) (lo hi : Option Int) : IsAll K F f (cutV vs lo hi) (cutD ds lo hi) := by
  unfold cutV cutD
  rw [r.length]
  exact (r.drop _).take _
theorem cut_whole {ds : List D} {lo hi : Option Int} (h : HT.sIx ds.length 0 lo = 0 ∧ HT.sIx ds.length ds.length hi = ds.length) : cutD ds lo hi = ds := by
  unfold cutD
  rw [h.1, h.2]
  simp
theorem se_sl {ml mh : MOI} (h : SE K ta ma) (hl : SO K tl ml) (hh : SO K th mh) : SE K (tSl (rSlD K) ta tl th) (mSl ma ml mh) := by
  intro F f S H σ E d S' A e Q q
  obtain ⟨⟨x, S1⟩, e1, e⟩ := bind_some' e
  obtain ⟨⟨l, S2⟩, e2, e⟩ := bind_some' e
  obtain ⟨⟨u, S3⟩, e3, e⟩ := bind_some' e
  refine h F f S H σ E x S1 A e1 _ fun v H1 F1 f1 x1 h1 i1 => ?_
  refine hl F1 f1 S1 H1 σ E l S2 (A.up x1 h1) e2 _ fun H2 F2 f2 x2 h2 => ?_
  refine hh F2 f2 S2 H2 σ E u S3 (A.up (x1.trans x2) h2) e3 _ fun H3 F3 f3 x3 h3 => ?_
  have i3 := i1.mono (x2.trans x3)
  have q3 := q.ext ((x1.trans x2).trans x3)
  have lists : ((viewL S3 x).map fun ds => (D.lst (cutD ds l u), S3)) = some (d, S') → rSlD K v l u H3 Q := fun e => by
    obtain ⟨ds, e4, e⟩ := map_some' e
    cases e
    obtain ⟨a, vs, rfl, ha, r⟩ := viewL_ok h3 i3 e4
    refine .inl (.inl ⟨a, vs, rfl, ha, fun p hp => ?_⟩)
    obtain ⟨h4, x4⟩ := h3.put (o := .lst (cutV vs l u)) hp
    exact q3 _ _ _ _ x4 h4 (.lst upd_same ((cut_all r l u).mono x4))
  cases x with
  | str z =>
    simp only at e
    by_cases hz : z.length ≤ sizeLine
    · rw [if_pos hz] at e
      cases e
      exact .inr ⟨z, is_str i3, hz, q3.now h3 (.str _)⟩
    · rw [if_neg hz] at e
      cases e
  | tup ds =>
    cases e
    cases i3 with
    | tup ha r =>
      rename_i a vs
      refine .inl (.inr ⟨a, vs, rfl, Evl.ex_t h3.ex (SqT.of ha), fun hw => ?_, fun hw p hp => ?_⟩)
      · rw [r.length] at hw
        refine q3.now h3 ?_
        rw [cut_whole hw]
        exact .tup ha r
      · obtain ⟨h4, x4⟩ := h3.put (o := .tup (cutV vs l u)) hp
        exact q3 _ _ _ _ x4 h4 (.tup upd_same ((cut_all r l u).mono x4))
  | _ => exact lists e
theorem d_sl {ml mh : MOI} (he : DE X e ta ma) (hl : DO X lo tl ml) (hh : DO X hi th mh) : DE X (.Subscript e (.Slice lo hi none p2) pos) (tSl (rSlD X.K) ta tl th) (mSl ma ml mh) := ⟨pe_slice sl_D he.pe hl.po hh.po, se_sl he.se hl.so hh.so⟩
/-- l[::-1] -/
def mRev (m : ME) : ME := fun E S => (m E S).bind fun p => (viewL p.2 p.1).map fun ds => (.lst ds.reverse, p.2)
theorem se_rev (h : SE K ta ma) : SE K (tRevL K ta) (mRev ma) := by
  intro F f S H σ E d S' A e Q q
  obtain ⟨⟨x, S1⟩, e1, e⟩ := bind_some' e
  obtain ⟨ds, e2, e⟩ := map_some' e
  cases e
  refine h F f S H σ E x _ A e1 _ fun v H1 F1 f1 x1 h1 i1 => ?_
  obtain ⟨a, vs, rfl, ha, r⟩ := viewL_ok h1 i1 e2
  refine ⟨a, vs, rfl, ha, fun p hp => ?_⟩
  obtain ⟨h4, x4⟩ := h1.put (o := .lst vs.reverse) hp
  exact q _ _ _ _ (x1.trans x4) h4 (.lst upd_same (r.reverse.mono x4))
theorem d_rev {kk : Nat} {p1 p3 p4 : Pos} (he : DE X e ta ma) : DE X (.Subscript e (.Slice none none (some (.UnaryOp .USub (.Constant (.int 1) kk p1) p3)) p4) pos) (tRevL X.K ta) (mRev ma) := ⟨pe_revL he.pe, se_rev he.se⟩
end

/-! ### calls of built-ins -/
abbrev MR := List D → Sto → Option (D × Sto)
def RCD (K : PySem.W.Frag) (r : List V → Hp → VK → Prop) (g : MR) : Prop :=
  ∀ F f S H vs ds d S', Held K F f S H → IsAll K F f vs ds → g ds S = some (d, S') → ∀ Q : VK, Wants K F f S' d Q → r vs H Q
def mBlt (g : MR) (m : MA) : ME := fun E S => (m E S).bind fun p => g p.1 p.2
section
variable {X : Cx} {K : PySem.W.Frag} {pos p apos cpos : Pos} {x : Str} {e o : Expr} {es : List Expr} {t : TA} {m : MA} {r : List V → Hp → VK → Prop} {g : MR} {id T : String} {to : TE} {mo : ME}
theorem se_blt (hr : RCD K r g) (h : SA K t m) : SE K (tCB r t) (mBlt g m) := by
  intro F f S H σ E d S' A e Q q
  obtain ⟨⟨ds, S1⟩, e1, e⟩ := bind_some' e
  exact h F f S H σ E ds S1 A e1 _ fun vs H1 F1 f1 x1 h1 i1 => hr F1 f1 S1 H1 vs ds d S' h1 i1 e Q (q.ext x1)
theorem d_callB (hc : CallR X (.builtin id) r) (hr : RCD X.K r g) (hg : Gl X x) (hm : X.mg x = none) (hv : bootBuiltins x = some (.builtin id)) (ha : DA X (e :: es) t m) (hn : x ≠ "__name__" := by decide) (hdb : (x == ("__debug__" : Str)) = false := by decide)
    (he : starEach (e :: es) X.env = (false, eval e X.env) :: starEach es X.env := by rfl) (hpl : (backTo pos (starEach es X.env)).any (·.1) = false := by rfl) : DE X (.Call (.Name x p) (e :: es) [] pos) (tCB r t) (mBlt g m) := ⟨pe_callB hc hg hm hv ha.pe hn hdb he hpl, se_blt hr ha.se⟩
theorem d_callTy (hc : CallR X (.type T) r) (hr : RCD X.K r g) (hg : Gl X x) (hm : X.mg x = none) (hv : bootBuiltins x = some (.type T)) (ha : DA X (e :: es) t m) (hn : x ≠ "__name__" := by decide) (hdb : (x == ("__debug__" : Str)) = false := by decide)
    (he : starEach (e :: es) X.env = (false, eval e X.env) :: starEach es X.env := by rfl) (hpl : (backTo pos (starEach es X.env)).any (·.1) = false := by rfl) : DE X (.Call (.Name x p) (e :: es) [] pos) (tCB r t) (mBlt g m) := ⟨pe_callTy hc hg hm hv ha.pe hn hdb he hpl, se_blt hr ha.se⟩
theorem all1 {F : Hp} {f : List Addr} {vs : List V} {d : D} (h : IsAll K F f vs [d]) : ∃ v, vs = [v] ∧ Is K F f v d := by
  cases h with
  | cons a b => cases b; exact ⟨_, rfl, a⟩
theorem all2 {F : Hp} {f : List Addr} {vs : List V} {d d2 : D} (h : IsAll K F f vs [d, d2]) : ∃ v w, vs = [v, w] ∧ Is K F f v d ∧ Is K F f w d2 := by
  cases h with
  | cons a b =>
    obtain ⟨w, rfl, c⟩ := all1 b
    exact ⟨_, w, rfl, a, c⟩
/-- len -/
def gLenS : MR := fun ds S => match ds with
  | [.str z] => if z.length ≤ sizeLine then some (.int z.length, S) else none
  | [d] => (viewS S d).map fun ds => (.int ds.length, S)
  | _ => none
/-- int -/
def gIntC : MR := fun ds S => match ds with
  | [.int i] => some (.int i, S)
  | _ => none
theorem rc_int : RCD K (fun xs H Q => (∃ i, xs = [.int i] ∧ Q (.int i) H) ∨ ∃ k, xs = [.bl k] ∧ Q (.int (if k then 1 else 0)) H) gIntC := by
  intro F f S H vs ds d S' hh r e Q q
  unfold gIntC at e
  split at e
  · rename_i i
    cases e
    obtain ⟨v, rfl, i1⟩ := all1 r
    have := is_int i1
    subst this
    exact .inl ⟨i, rfl, q.now hh (.int _)⟩
  · cases e
/-- list(l), tuple(l) -/
def gListC : MR := fun ds S => match ds with
  | [d] => (viewS S d).bind fun ds => some (.lst ds, S)
  | _ => none
theorem rc_list : RCD K (fun xs H Q => ∃ p ys, xs = [.ref p] ∧ (SqL K H p ys ∨ SqT K H p ys) ∧ ∀ l, H l = none → Q (.ref l) (upd H l (.lst ys))) gListC := by
  intro F f S H vs ds d S' hh r e Q q
  unfold gListC at e
  split at e
  · rename_i d1
    obtain ⟨es, e1, e⟩ := bind_some' e
    cases e
    obtain ⟨v, rfl, i1⟩ := all1 r
    obtain ⟨a, ws, rfl, ha, rr⟩ := viewS_ok hh i1 e1
    refine ⟨a, ws, rfl, ha, fun p hp => ?_⟩
    obtain ⟨h4, x4⟩ := hh.put (o := .lst ws) hp
    exact q _ _ _ _ x4 h4 (.lst upd_same (rr.mono x4))
  · cases e
/-- list(l), to be changed -/
def gListM : MR := fun ds S => match ds with
  | [d] => (viewS S d).bind fun ds => some (.loc S.length, S ++ [.lst ds])
  | _ => none
theorem rc_listM : RCD K (fun xs H Q => ∃ p ys, xs = [.ref p] ∧ (SqL K H p ys ∨ SqT K H p ys) ∧ ∀ l, H l = none → Q (.ref l) (upd H l (.lst ys))) gListM := by
  intro F f S H vs ds d S' hh r e Q q
  unfold gListM at e
  split at e
  · rename_i d1
    obtain ⟨es, e1, e⟩ := bind_some' e
    cases e
    obtain ⟨v, rfl, i1⟩ := all1 r
    obtain ⟨a, ws, rfl, ha, rr⟩ := viewS_ok hh i1 e1
    refine ⟨a, ws, rfl, ha, fun p hp => ?_⟩
    obtain ⟨h4, x4⟩ := hh.alloc (u := .lst ws) (o := .lst es) hp ⟨ws, rfl, rr.mono ⟨Evl.Ex.refl _, List.prefix_append _ _⟩⟩
    exact q _ _ _ _ x4 h4 (.loc (by rw [← hh.len]; simp))
  · cases e
def gTupC : MR := fun ds S => match ds with
  | [.tup ds] => some (.tup ds, S)
  | [d] => (viewL S d).bind fun ds => some (.tup ds, S)
  | _ => none
theorem rc_tup : RCD K (fun xs H Q => ∃ p ys, xs = [.ref p] ∧ ((SqL K H p ys ∧ ∀ l, H l = none → Q (.ref l) (upd H l (.tup ys))) ∨ (SqT K H p ys ∧ Q (.ref p) H))) gTupC := by
  intro F f S H vs ds d S' hh r e Q q
  unfold gTupC at e
  split at e
  · rename_i es
    cases e
    obtain ⟨v, rfl, i1⟩ := all1 r
    cases i1 with
    | tup ha rr => exact ⟨_, _, rfl, .inr ⟨Evl.ex_t hh.ex (SqT.of ha), q.now hh (.tup ha rr)⟩⟩
  · rename_i d1 hd1
    obtain ⟨es, e1, e⟩ := bind_some' e
    cases e
    obtain ⟨v, rfl, i1⟩ := all1 r
    obtain ⟨a, ws, rfl, ha, rr⟩ := viewL_ok hh i1 e1
    refine ⟨a, ws, rfl, .inl ⟨ha, fun p hp => ?_⟩⟩
    obtain ⟨h4, x4⟩ := hh.put (o := .tup ws) hp
    exact q _ _ _ _ x4 h4 (.tup upd_same (rr.mono x4))
  · cases e
theorem rc_len : RCD K (fun xs H Q => ∃ x n, xs = [x] ∧ LenV K x H n ∧ Q (.int n) H) gLenS := by
  intro F f S H vs ds d S' hh r e Q q
  unfold gLenS at e
  split at e
  · rename_i z
    by_cases hz : z.length ≤ sizeLine
    · rw [if_pos hz] at e
      cases e
      obtain ⟨v, rfl, i1⟩ := all1 r
      have := is_str i1
      subst this
      exact ⟨_, z.length, rfl, ⟨hz, rfl⟩, q.now hh (.int _)⟩
    · rw [if_neg hz] at e
      cases e
  · rename_i d1 hd1
    obtain ⟨es, e1, e⟩ := map_some' e
    cases e
    obtain ⟨v, rfl, i1⟩ := all1 r
    obtain ⟨a, ws, rfl, ha, rr⟩ := viewS_ok hh i1 e1
    refine ⟨_, ws.length, rfl, ?_, by rw [rr.length]; exact q.now hh (.int _)⟩
    rcases ha with ha | ha
    · exact .inl ⟨ws, ha, rfl⟩
    · exact .inr ⟨ws, ha, rfl⟩
  · cases e
end
end DL
/-! DL6: instances of own classes: fields, methods, making. -/
namespace DL
open PySem L2 PyProof.Rows

def flook : List Str → List D → Str → Option D
  | k :: ks, d :: ds, q => if k = q then some d else flook ks ds q
  | _, _, _ => none
def fput : List Str → List D → Str → D → List Str × List D
  | k :: ks, d :: ds, q, x => if k = q then (k :: ks, x :: ds) else (k :: (fput ks ds q x).1, d :: (fput ks ds q x).2)
  | _, _, q, x => ([q], [x])
def viewI (S : Sto) : D → Option (Addr × List Str × List D)
  | .ins C ks ds => some (C, ks, ds)
  | .loc n => match S[n]? with | some (.ins C ks ds) => some (C, ks, ds) | _ => none
  | _ => none
section
variable {K : PySem.W.Frag} {F H : Hp} {f : List Addr} {S : Sto} {v : V} {d : D}
theorem viewI_ok {C : Addr} {ks : List Str} {ds : List D} (h : Held K F f S H) (i : Is K F f v d) (e : viewI S d = some (C, ks, ds)) : ∃ a dx kvs, v = .ref a ∧ H a = some (.ins C dx kvs) ∧ kvs.map (·.1) = ks ∧ IsAll K F f (kvs.map (·.2)) ds := by
  cases i with
  | ins ha hk r => cases e; exact ⟨_, _, _, rfl, h.ex _ _ ha, hk, r⟩
  | loc ha =>
    rename_i a n
    simp only [viewI] at e
    cases es : S[n]? with
    | none => rw [es] at e; cases e
    | some o =>
      rw [es] at e
      cases o <;> simp only at e <;> cases e
      obtain ⟨dx, kvs, e1, e2, r⟩ := h.ob n a _ ha es
      exact ⟨a, dx, kvs, rfl, e1, e2, r⟩
  | _ => cases e
theorem lookup_pos {p : Str × V} {r : List (Str × V)} {q : Str} (e : p.1 = q) : (p :: r).lookup q = some p.2 := by
  subst e
  simp [List.lookup]
theorem lookup_neg {p : Str × V} {r : List (Str × V)} {q : Str} (e : ¬ p.1 = q) : (p :: r).lookup q = r.lookup q := by
  have h : (q == p.1) = false := beq_eq_false_iff_ne.mpr fun z => e z.symm
  obtain ⟨a, b⟩ := p
  simp only [List.lookup, h]
theorem flook_ok {q : Str} : ∀ {kvs : List (Str × V)} {ds : List D} {d : D}, IsAll K F f (kvs.map (·.2)) ds → flook (kvs.map (·.1)) ds q = some d → ∃ v, kvs.lookup q = some v ∧ Is K F f v d
  | [], _, _, .nil, e => by cases e
  | p :: kvs, d0 :: ds, d, .cons h t, e => by
    simp only [List.map_cons, flook] at e
    by_cases hk : p.1 = q
    · rw [if_pos hk] at e
      cases e
      exact ⟨p.2, lookup_pos hk, h⟩
    · rw [if_neg hk] at e
      obtain ⟨v, h1, h2⟩ := flook_ok t e
      exact ⟨v, by rw [lookup_neg hk]; exact h1, h2⟩
theorem flook_no {q : Str} : ∀ {kvs : List (Str × V)}, q ∉ kvs.map (·.1) → kvs.lookup q = none
  | [], _ => rfl
  | p :: kvs, h => by
    rw [List.map_cons, List.mem_cons, not_or] at h
    rw [lookup_neg (fun e => h.1 e.symm)]
    exact flook_no h.2
theorem fput_ok {q : Str} {x : V} {y : D} (i : Is K F f x y) : ∀ {kvs : List (Str × V)} {ds : List D}, IsAll K F f (kvs.map (·.2)) ds →
    (putF q x kvs).map (·.1) = (fput (kvs.map (·.1)) ds q y).1 ∧ IsAll K F f ((putF q x kvs).map (·.2)) (fput (kvs.map (·.1)) ds q y).2
  | [], _, .nil => ⟨rfl, .cons i .nil⟩
  | (g, z) :: kvs, d0 :: ds, .cons h t => by
    by_cases e : g = q
    · simp only [putF, if_pos e, List.map_cons, fput]
      exact ⟨trivial, .cons i t⟩
    · obtain ⟨h1, h2⟩ := fput_ok (q := q) i t
      simp only [putF, if_neg e, List.map_cons, fput]
      exact ⟨congrArg _ h1, .cons h h2⟩
end

/-! ### fields -/
def mFld (C : Addr) (x : Str) (m : ME) : ME := fun E S => (m E S).bind fun p => (viewI p.2 p.1).bind fun w => if w.1 = C then (flook w.2.1 w.2.2 x).map fun d => (d, p.2) else none
def mSetF (C : Addr) (x : Str) (mo mv : ME) : MS := fun E S => (mv E S).bind fun v => (mo E v.2).bind fun o => match o.1 with
  | .loc n => match o.2[n]? with
    | some (.ins C' ks ds) => if C' = C ∧ ks.length < 1000 then some (.nx, E, o.2.set n (.ins C (fput ks ds x v.1).1 (fput ks ds x v.1).2)) else none
    | _ => none
  | _ => none
section
variable {X : Cx} {K : PySem.W.Frag} {pos p p' apos : Pos} {ta tv : TE} {ma mv : ME} {x nm : Str} {C : Addr} {o e value : Expr} {k : Nat}
theorem se_fld (c : Cls K C) (hn : NoAttr K C x) (h : SE K ta ma) : SE K (tFld K ta x) (mFld C x ma) := by
  intro F f S H σ E d S' A eq Q q
  obtain ⟨⟨y, S1⟩, e1, eq⟩ := bind_some' eq
  obtain ⟨⟨C', ks, ds⟩, e2, eq⟩ := bind_some' eq
  by_cases hc : C' = C
  · simp only [hc, if_true] at eq
    obtain ⟨d', e3, eq⟩ := map_some' eq
    cases eq
    subst hc
    refine h F f S H σ E y _ A e1 _ fun v H1 F1 f1 x1 h1 i1 => ?_
    obtain ⟨a, dx, kvs, rfl, ha, rfl, r⟩ := viewI_ok h1 i1 e2
    obtain ⟨w, h3, h4⟩ := flook_ok r e3
    exact ⟨a, C', dx, kvs, w, rfl, ha, c, hn, h3, (q.ext x1).now h1 h4⟩
  · simp only [hc, if_false] at eq
    cases eq
theorem d_fld (c : Cls X.K C) (hn : NoAttr X.K C x) (h : DE X e ta ma) (hb : attributeBase e x X.env (eval e X.env) = eval e X.env := by rfl) : DE X (.Attribute e x pos) (tFld X.K ta x) (mFld C x ma) := ⟨pe_fld h.pe hb, se_fld c hn h.se⟩
theorem ss_setF (c : Cls K C) (hn : NoAttr K C x) (ho : SE K ta ma) (hv : SE K tv mv) : SS K (sFld K ta tv x) (mSetF C x ma mv) := by
  intro F f S H σ E oo E' S' A eq D q
  obtain ⟨⟨v, S1⟩, e1, eq⟩ := bind_some' eq
  obtain ⟨⟨o, S2⟩, e2, eq⟩ := bind_some' eq
  cases o <;> try (cases eq; done)
  simp only at eq
  split at eq
  · rename_i C' ks ds es
    by_cases hc : C' = C ∧ ks.length < 1000
    · rw [if_pos hc] at eq
      cases eq
      obtain ⟨rfl, hz⟩ := hc
      refine hv F f S H σ E v S1 A e1 _ fun v0 H1 F1 f1 x1 h1 i1 => ?_
      refine ho F1 f1 S1 H1 σ E _ S2 (A.up x1 h1) e2 _ fun d0 H2 F2 f2 x2 h2 i2 => ?_
      cases i2 with
      | loc ha =>
        rename_i a
        obtain ⟨dx, kvs, e5, e6, r⟩ := h2.ob _ a _ ha es
        subst e6
        obtain ⟨p1, p2⟩ := fput_ok (q := x) (i1.mono x2) r
        have h4 := h2.write (u := .ins C' dx (putF x v0 kvs)) (o' := .ins C' (fput (kvs.map (·.1)) ds x v).1 (fput (kvs.map (·.1)) ds x v).2) ha es (by first | rfl | (intro z; cases z)) ⟨_, _, rfl, p1, p2⟩
        refine ⟨a, C', dx, kvs, rfl, e5, c, hn, by rw [List.length_map] at hz; exact hz, ?_⟩
        exact q σ _ F2 f2 (x1.trans x2) (A.up (x1.trans x2) h4)
    · rw [if_neg hc] at eq
      cases eq
  · cases eq
theorem s_setF (c : Cls X.K C) (hn : NoAttr X.K C x) (ho : DE X o ta ma) (hv : DE X value tv mv) (hs : swapsWith value (some (.Attribute o x p')) pos.line X.env = pure false := by rfl) : DS X (.Assign [.Attribute o x p'] value pos) (sFld X.K ta tv x) (mSetF C x ma mv) :=
  ⟨ps_fld ho.pe hv.pe hs, ss_setF c hn ho.se hv.se⟩
end

/-! ### methods, making -/
def tMe (K : PySem.W.Frag) (C : Addr) (x : Str) (n : Nat) (G : MF) (ta : TE) (t : TA) : TE := fun σ H Q => ta σ H fun v H1 => ∃ a dx fs, v = .ref a ∧ H1 a = some (.ins C dx fs) ∧ fs.lookup x = none ∧ t σ H1 fun vs H2 => rFn K n G (v :: vs) H2 Q
def mMe (C : Addr) (x : Str) (n : Nat) (G : MF) (mo : ME) (m : MA) : ME := fun E S => (mo E S).bind fun o => (viewI o.2 o.1).bind fun w => if w.1 = C ∧ x ∉ w.2.1 then (m E o.2).bind fun p => if p.1.length + 1 = n then G (o.1 :: p.1) p.2 else none else none
def tMeK (K : PySem.W.Frag) (C : Addr) (x : Str) (n nk : Nat) (pick : List Nat) (G : MF) (ta : TE) (tk : TA) : TE := fun σ H Q => ta σ H fun v H1 => ∃ a dx fs, v = .ref a ∧ H1 a = some (.ins C dx fs) ∧ fs.lookup x = none ∧ tk σ H1 fun vs H2 => vs.length = nk ∧ rFn K n G (arrange pick (v :: vs)) H2 Q
def mMeK (C : Addr) (x : Str) (n nk : Nat) (pick : List Nat) (G : MF) (mo : ME) (m : MA) : ME := fun E S => (mo E S).bind fun o => (viewI o.2 o.1).bind fun w => if w.1 = C ∧ x ∉ w.2.1 then (m E o.2).bind fun p => if p.1.length = nk ∧ (arrange pick (o.1 :: p.1)).length = n then G (arrange pick (o.1 :: p.1)) p.2 else none else none
def tNew (K : PySem.W.Frag) (C : Addr) (n : Nat) (G : MF) (t : TA) : TE := fun σ H Q => t σ H fun vs H1 => ∀ x dx, H1 x = none → H1 dx = none → dx ≠ x → rFn K n G (.ref x :: vs) (upd (upd H1 dx (.own x)) x (.ins C dx [])) (fun v H2 => v = .non ∧ Q (.ref x) H2)
def mNew (C : Addr) (n : Nat) (G : MF) (m : MA) : ME := fun E S => (m E S).bind fun p => if p.1.length + 1 = n then (G (.loc p.2.length :: p.1) (p.2 ++ [.ins C [] []])).bind fun r => match r.1 with
  | .non => some (trim p.2.length (frz (.loc p.2.length) r.2).1 (frz (.loc p.2.length) r.2).2)
  | _ => none else none
section
variable {X : Cx} {K : PySem.W.Frag} {pos p apos : Pos} {t tk : TA} {m mk : MA} {n nk k : Nat} {G : MF} {f C : Addr} {fd : FuncData} {ps ks : List Str} {x : Str} {e o : Expr} {es : List Expr} {kws : List Keyword} {to : TE} {mo : ME} {pick : List Nat}
theorem se_me (ho : SE K to mo) (h : SA K t m) : SE K (tMe K C x n G to t) (mMe C x n G mo m) := by
  intro F f S H σ E d S' A eq Q q
  obtain ⟨⟨y, S1⟩, e1, eq⟩ := bind_some' eq
  obtain ⟨⟨C', ks, ds⟩, e2, eq⟩ := bind_some' eq
  by_cases hc : C' = C ∧ x ∉ ks
  · rw [if_pos hc] at eq
    obtain ⟨⟨args, S2⟩, e3, efin⟩ := bind_some' eq
    by_cases hn : args.length + 1 = n
    · rw [if_pos hn] at efin
      obtain ⟨hcc, hx⟩ := hc
      subst hcc
      refine ho F f S H σ E y S1 A e1 _ fun v H1 F1 f1 x1 h1 i1 => ?_
      obtain ⟨a, dx, kvs, rfl, ha, rfl, r⟩ := viewI_ok h1 i1 e2
      refine ⟨a, dx, kvs, rfl, ha, flook_no hx, ?_⟩
      refine h F1 f1 S1 H1 σ E args S2 (A.up x1 h1) e3 _ fun vs H2 F2 f2 x2 h2 i2 => ?_
      exact ⟨F2, f2, S2, y :: args, d, S', h2, .cons (i1.mono x2) i2, hn, efin, q.ext (x1.trans x2)⟩
    · rw [if_neg hn] at efin
      cases efin
  · rw [if_neg hc] at eq
    cases eq
theorem se_meK (ho : SE K to mo) (h : SA K tk m) : SE K (tMeK K C x n nk pick G to tk) (mMeK C x n nk pick G mo m) := by
  intro F f S H σ E d S' A eq Q q
  obtain ⟨⟨y, S1⟩, e1, eq⟩ := bind_some' eq
  obtain ⟨⟨C', ks, ds⟩, e2, eq⟩ := bind_some' eq
  by_cases hc : C' = C ∧ x ∉ ks
  · rw [if_pos hc] at eq
    obtain ⟨⟨args, S2⟩, e3, efin⟩ := bind_some' eq
    by_cases hn : args.length = nk ∧ (arrange pick (y :: args)).length = n
    · rw [if_pos hn] at efin
      obtain ⟨hcc, hx⟩ := hc
      subst hcc
      refine ho F f S H σ E y S1 A e1 _ fun v H1 F1 f1 x1 h1 i1 => ?_
      obtain ⟨a, dx, kvs, rfl, ha, rfl, r⟩ := viewI_ok h1 i1 e2
      refine ⟨a, dx, kvs, rfl, ha, flook_no hx, ?_⟩
      refine h F1 f1 S1 H1 σ E args S2 (A.up x1 h1) e3 _ fun vs H2 F2 f2 x2 h2 i2 => ⟨by rw [i2.length]; exact hn.1, ?_⟩
      exact ⟨F2, f2, S2, _, d, S', h2, arrange_all (.cons (i1.mono x2) i2) pick, hn.2, efin, q.ext (x1.trans x2)⟩
    · rw [if_neg hn] at efin
      cases efin
  · rw [if_neg hc] at eq
    cases eq
theorem se_new (h : SA K t m) : SE K (tNew K C n G t) (mNew C n G m) := by
  intro F f S H σ E d S' A eq Q q
  obtain ⟨⟨args, S1⟩, e1, eq⟩ := bind_some' eq
  by_cases hn : args.length + 1 = n
  · rw [if_pos hn] at eq
    obtain ⟨⟨r, S2⟩, e2, eq⟩ := bind_some' eq
    cases r <;> try (cases eq; done)
    have eq' : trim S1.length (frz (.loc S1.length) S2).1 (frz (.loc S1.length) S2).2 = (d, S') := Option.some.inj eq
    refine h F f S H σ E args S1 A e1 _ fun vs H1 F1 f1 x1 h1 i1 a dx ha hdx hne => ?_
    have up1 := h1.up (Evl.Ex.new (o := HO.own a) hdx)
    have ha2 : (upd H1 dx (.own a)) a = none := by rw [upd_ne (Ne.symm hne)]; exact ha
    obtain ⟨h2, x2⟩ := up1.alloc (u := .ins C dx []) (o := .ins C [] []) ha2 ⟨dx, [], rfl, rfl, .nil⟩
    have il : Is K F1 (f1 ++ [a]) (.ref a) (.loc S1.length) := .loc (by rw [← h1.len]; simp)
    refine ⟨F1, f1 ++ [a], S1 ++ [.ins C [] []], .loc S1.length :: args, .non, S2, h2, .cons il (i1.mono x2), hn, e2, fun v H3 F3 f3 x3 h3 i3 => ⟨is_non i3, ?_⟩⟩
    obtain ⟨F4, x4, h4, i4⟩ := frz_ok h3 (il.mono x3)
    have q1 : Wants K F1 f1 (frz (.loc S1.length) S2).2 (frz (.loc S1.length) S2).1 Q := wants_cut (S := S1) (H := H1) h1.len (by rw [eq']; exact q.ext x1)
    exact q1 _ H3 F4 f3 ((x2.trans x3).trans x4) h4 i4
  · rw [if_neg hn] at eq
    cases eq
theorem d_me {pl : Sem Bool} (he : DE X o to mo) (c : Cls X.K C) (hm : Meth X.K C x f) (Fn : FnG X.prog X.w X.K X.mg X.base k f fd ps n G) (hr : Room k X.A) (hgd : X.A.guards = some []) (hb : Binds X.K fd ps []) (ha : DA X (e :: es) t m)
    (hst : starEach (e :: es) X.env = (false, eval e X.env) :: starEach es X.env := by rfl) (hpl : (backTo pos (starEach es X.env)).any (·.1) = false := by rfl)
    (ht : eval (.Call (.Attribute o x apos) (e :: es) [] pos) X.env = (do let ov ← eval o X.env; standAt apos.atName; let (f, first) ← holding [ov] (getMethod ov x pl); callWith pos f first (backTo pos (starEach (e :: es) X.env)) (backToKw pos (keywordEach [] X.env))) := by rfl) :
    DE X (.Call (.Attribute o x apos) (e :: es) [] pos) (tMe X.K C x n G to t) (mMe C x n G mo m) := by
  refine ⟨⟨fun pins s σ H Q I h => ?_⟩, se_me he.se ha.se⟩
  refine PySem.W.methodCall_KW (pl := pl) ?_ ht
  refine thn (he.pe.run pins s σ H _ I h) fun u s1 post => ?_
  obtain ⟨v, H1, I1, rx, a, dx, fs, rfl, hx, hl, q⟩ := post
  obtain rfl : u = Value.ref a := rx
  refine getmeth_ok I1 hx c hm hl ?_
  refine PySem.W.callWith_K (first := [.ref a]) (h₀ := X.base) I.ok.mod.kin hm.kp ?_ hst hpl
  refine thn (ha.pe.run pos pins s1 σ H1 _ I1 q) fun us s2 post2 => ?_
  obtain ⟨vs, H2, I2, rv, q2⟩ := post2
  have hlen : ((Value.ref a :: us) ++ []).length = ps.length := by
    have := rFn_len q2
    rw [List.append_nil, Fn.ar, ← this]
    simp [rv.length]
  have bb := hb s2 (.ref a :: us) I2.kIn hlen
  rw [List.append_nil] at bb
  exact ⟨I2.kIn, g_call Fn hr hgd I2 bb (.cons (show RelV (V.ref a) (Value.ref a) from rfl) rv) q2⟩
theorem d_meK {pl : Sem Bool} (he : DE X o to mo) (c : Cls X.K C) (hm : Meth X.K C x f) (Fn : FnG X.prog X.w X.K X.mg X.base k f fd ps n G) (hr : Room k X.A) (hgd : X.A.guards = some []) (hb : KwB X.K fd ps ks 1 pick) (ha : DK X kws tk mk)
    (hall : (backToKw pos (keywordEach kws X.env)).all (·.1.isSome) = true := by rfl) (hks : (backToKw pos (keywordEach kws X.env)).filterMap (·.1) = ks := by rfl)
    (hpl : ((backTo pos (starEach [] X.env)).any (·.1) || (backToKw pos (keywordEach kws X.env)).any (·.1.isNone)) = false := by rfl)
    (ht : eval (.Call (.Attribute o x apos) [] kws pos) X.env = (do let ov ← eval o X.env; standAt apos.atName; let (f, first) ← holding [ov] (getMethod ov x pl); callWith pos f first (backTo pos (starEach [] X.env)) (backToKw pos (keywordEach kws X.env))) := by rfl) :
    DE X (.Call (.Attribute o x apos) [] kws pos) (tMeK X.K C x n ks.length pick G to tk) (mMeK C x n ks.length pick G mo mk) := by
  refine ⟨⟨fun pins s σ H Q I h => ?_⟩, se_meK he.se ha.se⟩
  refine PySem.W.methodCall_KW (pl := pl) ?_ ht
  refine thn (he.pe.run pins s σ H _ I h) fun u s1 post => ?_
  obtain ⟨v, H1, I1, rx, a, dx, fs, rfl, hx, hl, q⟩ := post
  obtain rfl : u = Value.ref a := rx
  refine getmeth_ok I1 hx c hm hl ?_
  refine PySem.W.callWith_KW0 (first := [.ref a]) (h₀ := X.base) I.ok.mod.kin hm.kp hall ?_ hpl
  refine thn (ha.pk.run pos pins s1 σ H1 _ I1 q) fun us s2 post2 => ?_
  obtain ⟨vs, H2, I2, rv, hz, q2⟩ := post2
  have bb := hb.go s2 [.ref a] us I2.kIn rfl (by rw [← rv.length]; exact hz)
  rw [hks, List.append_nil]
  exact ⟨I2.kIn, g_call Fn hr hgd I2 bb (arrange_vals (Paired.cons (show RelV (V.ref a) (Value.ref a) from rfl) rv) pick) q2⟩
theorem under_guards {A : Around} {us : List Value} {kw : List (Str × Value)} (h : A.guards = some []) : (A.under (.builtin "type.__call__" ⟨.ref C :: us, kw⟩)).guards = some [] := by
  have e : (Code.builtin "type.__call__" ⟨.ref C :: us, kw⟩).guards = [] := by
    first | rfl | (unfold Code.guards; rw [if_neg]; decide) | simp [Code.guards, Code.isGuard, guardIds]
  show pushGuards (Code.builtin "type.__call__" ⟨.ref C :: us, kw⟩).guards A.guards = some []
  rw [e, h]
  rfl
theorem d_new (M : Mk X.K C f) (Fn : FnG X.prog X.w X.K X.mg X.base k f fd ps n G) (hr : Room (k + 1) X.A) (hgd : X.A.guards = some []) (hg : Gl X x) (hm : X.mg x = some (.ref C)) (hb : Binds X.K fd ps []) (ha : DA X (e :: es) t m) (hdb : (x == ("__debug__" : Str)) = false := by decide)
    (he : starEach (e :: es) X.env = (false, eval e X.env) :: starEach es X.env := by rfl) (hpl : (backTo pos (starEach es X.env)).any (·.1) = false := by rfl) : DE X (.Call (.Name x p) (e :: es) [] pos) (tNew X.K C n G t) (mNew C n G m) := by
  refine ⟨⟨fun pins s σ H Q I h => ?_⟩, se_new ha.se⟩
  refine wpAny_Call_Name_kw (ld_glob I hg hm ?_ hdb)
  refine PySem.W.callWith_K (h₀ := X.base) I.ok.mod.kin M.kp ?_ he hpl
  refine thn (ha.pe.run pos pins s σ H _ I h) fun us s1 post => ?_
  obtain ⟨vs, H1, I1, rv, q⟩ := post
  refine ⟨I1.kIn, ?_⟩
  have want := q (s1.heap.objs.size + 1) s1.heap.objs.size (I1.hok.fresh (Nat.le_succ _)) (I1.hok.fresh (Nat.le_refl _)) (Nat.ne_of_lt (Nat.lt_succ_self _))
  have I2 := Inv.made (C := C) I1
  have hlen : ((Value.ref (s1.heap.objs.size + 1) :: us) ++ []).length = ps.length := by
    have := rFn_len want
    rw [List.append_nil, Fn.ar, ← this]
    simp [rv.length]
  have bb := hb _ (Value.ref (s1.heap.objs.size + 1) :: us) I2.kIn hlen
  rw [List.append_nil] at bb
  refine wpAny_call (make_map (f := f) I1.kIn M.makes M.init (beq_iff_eq.mp M.fn) ?_)
  refine codeAny_mono (Fn.go _ X.stack _ _ _ _ _ _ (hr.make C us []) (under_guards hgd) (I2.env0.make C us []) bb (.cons (show RelV (V.ref (s1.heap.objs.size + 1)) (Value.ref (s1.heap.objs.size + 1)) from rfl) rv) want) fun r s' post => ?_
  cases r with
  | error z => exact post.elim
  | ok fl =>
    cases fl with
    | ret u =>
      obtain ⟨v, H', I3, rr, ev, q3⟩ := I2.after post
      subst ev
      exact ⟨rr, ⟨V.ref (s1.heap.objs.size + 1), H', I3, rfl, q3⟩⟩
    | _ => exact post.elim
end
end DL
/-! DL7: what loops walk; comprehensions; methods of lists and texts; isinstance; repr. -/
namespace DL
open PySem L2 PyProof.Rows

/-! ### what is walked -/
theorem pi_or {X : Cx} {tg it : Expr} {w1 w2 : TI} (h1 : PI X tg it w1) (h2 : PI X tg it w2) : PI X tg it (fun σ H R => w1 σ H R ∨ w2 σ H R) := by
  refine ⟨fun pins s σ H R I h => ?_⟩
  rcases h with h | h
  · exact h1.run pins s σ H R I h
  · exact h2.run pins s σ H R I h
def signs (x : Str) : List D := x.cps.toList.map fun c => .str ⟨#[c]⟩
def viewF : D → Option (List D)
  | .lst ds => some ds
  | .scr ds => some ds
  | .tup ds => some ds
  | .str x => some (signs x)
  | _ => none
/-- a list, a tuple, a text -/
def iSeq (K : PySem.W.Frag) (t : TE) : TI := fun σ H R => (iList K t σ H R ∨ iTup K t σ H R) ∨ iStr t σ H R
def mSeqI (m : ME) : MA := fun E S => (m E S).bind fun p => (viewF p.1).map fun ds => (ds, p.2)
section
variable {X : Cx} {K : PySem.W.Frag} {pos p : Pos} {tg e e2 : Expr} {t : TE} {m : ME} {ta : TA} {ma : MA}
theorem items_list {F : Hp} {f : List Addr} {a : Addr} {vs : List V} {ds : List D} (h : SqL K F a vs) (r : IsAll K F f vs ds) : Items K (Itl K a) F f ds := by
  refine ⟨fun F2 f2 S2 H2 x hh => ⟨vs, Evl.ex_l (x.ex.trans hh.ex) h, by rw [r.length]; exact Nat.le_refl _⟩, fun i d F2 f2 S2 H2 e x hh => ?_, fun i d F2 f2 S2 H2 v H3 e x hh y => ?_⟩
  · obtain ⟨v, h1, _⟩ := r.get e
    exact ⟨vs, v, Evl.ex_l (x.ex.trans hh.ex) h, h1⟩
  · obtain ⟨rfl, y⟩ := y
    obtain ⟨v', h1, h2⟩ := r.get e
    have := y vs (Evl.ex_l (x.ex.trans hh.ex) h)
    rw [h1] at this
    cases this
    exact ⟨F2, Ext.refl _ _, hh, h2.mono x⟩
theorem items_tup {F : Hp} {f : List Addr} {a : Addr} {vs : List V} {ds : List D} (h : SqT K F a vs) (r : IsAll K F f vs ds) : Items K (Itt K a) F f ds := by
  refine ⟨fun F2 f2 S2 H2 x hh => ⟨vs, Evl.ex_t (x.ex.trans hh.ex) h, by rw [r.length]; exact Nat.le_refl _⟩, fun i d F2 f2 S2 H2 e x hh => ?_, fun i d F2 f2 S2 H2 v H3 e x hh y => ?_⟩
  · obtain ⟨v, h1, _⟩ := r.get e
    exact ⟨vs, v, Evl.ex_t (x.ex.trans hh.ex) h, h1⟩
  · obtain ⟨rfl, y⟩ := y
    obtain ⟨v', h1, h2⟩ := r.get e
    have := y vs (Evl.ex_t (x.ex.trans hh.ex) h)
    rw [h1] at this
    cases this
    exact ⟨F2, Ext.refl _ _, hh, h2.mono x⟩
theorem signs_get {x : Str} {i : Nat} {d : D} (e : (signs x)[i]? = some d) : ∃ c, x.cps[i]? = some c ∧ d = .str ⟨#[c]⟩ := by
  unfold signs at e
  rw [List.getElem?_map] at e
  obtain ⟨c, e1, e2⟩ := map_some' e
  exact ⟨c, by rw [← Array.getElem?_toList]; exact e1, e2.symm⟩
theorem signs_len (x : Str) : (signs x).length = x.cps.size := by simp [signs]
theorem items_str {F : Hp} {f : List Addr} {x : Str} : Items K (Its x) F f (signs x) := by
  refine ⟨fun F2 f2 S2 H2 y hh => by rw [signs_len]; exact Nat.le_refl _, fun i d F2 f2 S2 H2 e y hh => ?_, fun i d F2 f2 S2 H2 v H3 e y hh z => ?_⟩
  · have := (List.getElem?_eq_some_iff.mp e).1
    rw [signs_len] at this
    exact this
  · obtain ⟨rfl, c, h1, rfl⟩ := z
    obtain ⟨c', h2, rfl⟩ := signs_get e
    rw [h1] at h2
    cases h2
    exact ⟨F2, Ext.refl _ _, hh, .str _⟩
theorem si_seq (h : SE K t m) : SI K (iSeq K t) (mSeqI m) := by
  intro F f S H σ E ds S' A eq R q
  obtain ⟨⟨d, S1⟩, e1, eq⟩ := bind_some' eq
  obtain ⟨ds', e2, eq⟩ := map_some' eq
  cases eq
  have go := h F f S H σ E d _ A e1
  cases d <;> try (cases e2; done)
  · cases e2
    refine .inr (go _ fun v H1 F1 f1 x1 h1 i1 => ?_)
    have := is_str i1
    subst this
    exact ⟨_, rfl, q _ H1 F1 f1 x1 h1 items_str⟩
  · cases e2
    refine .inl (.inr (go _ fun v H1 F1 f1 x1 h1 i1 => ?_))
    cases i1 with
    | tup ha r => exact ⟨_, rfl, ⟨_, Evl.ex_t h1.ex (SqT.of ha)⟩, q _ H1 F1 f1 x1 h1 (items_tup (SqT.of ha) r)⟩
  · cases e2
    refine .inl (.inl (go _ fun v H1 F1 f1 x1 h1 i1 => ?_))
    cases i1 with
    | lst ha r => exact ⟨_, rfl, ⟨_, SqL.of (h1.ex _ _ ha)⟩, q _ H1 F1 f1 x1 h1 (items_list (SqL.of ha) r)⟩
  · cases e2
    refine .inl (.inl (go _ fun v H1 F1 f1 x1 h1 i1 => ?_))
    cases i1 with
    | scr ha r => exact ⟨_, rfl, ⟨_, Evl.ex_l h1.ex ha⟩, q _ H1 F1 f1 x1 h1 (items_list ha r)⟩
theorem i_seq (h : DE X e t m) : DI X tg e (iSeq X.K t) (mSeqI m) := ⟨pi_or (pi_or (pi_list h.pe) (pi_tup h.pe)) (pi_str h.pe), si_seq h.se⟩
/-- range -/
def rngD (lo : Int) (n : Nat) : List D := (List.range n).map fun (i : Nat) => .int (lo + (i : Int))
theorem rngD_len (lo : Int) (n : Nat) : (rngD lo n).length = n := by simp [rngD]
theorem items_rng {F : Hp} {f : List Addr} {lo : Int} {n : Nat} : Items K (Itr lo n) F f (rngD lo n) := by
  refine ⟨fun F2 f2 S2 H2 y hh => by rw [rngD_len]; exact Nat.le_refl _, fun i d F2 f2 S2 H2 e y hh => ?_, fun i d F2 f2 S2 H2 v H3 e y hh z => ?_⟩
  · have := (List.getElem?_eq_some_iff.mp e).1
    rw [rngD_len] at this
    exact this
  · obtain ⟨rfl, rfl⟩ := z
    have hi := (List.getElem?_eq_some_iff.mp e).1
    rw [rngD_len] at hi
    unfold rngD at e
    rw [List.getElem?_map, List.getElem?_range hi] at e
    cases e
    exact ⟨F2, Ext.refl _ _, hh, .int _⟩
def mRng1 (m : MA) : MA := fun E S => (m E S).bind fun p => match p.1 with
  | [.int j] => if -(2 ^ 62) ≤ j ∧ j < 2 ^ 62 then some (rngD 0 j.toNat, p.2) else none
  | _ => none
def mRng2 (m : MA) : MA := fun E S => (m E S).bind fun p => match p.1 with
  | [.int i, .int j] => if -(2 ^ 62) ≤ i ∧ i < 2 ^ 62 ∧ -(2 ^ 62) ≤ j ∧ j < 2 ^ 62 then some (rngD i (j - i).toNat, p.2) else none
  | _ => none
theorem si_rng1 (h : SA K ta ma) : SI K (iRng1 ta) (mRng1 ma) := by
  intro F f S H σ E ds S' A eq R q
  obtain ⟨⟨as, S1⟩, e1, eq⟩ := bind_some' eq
  simp only at eq
  split at eq
  · rename_i j
    by_cases hc : -(2 ^ 62) ≤ j ∧ j < 2 ^ 62
    · rw [if_pos hc] at eq
      cases eq
      refine h F f S H σ E _ _ A e1 _ fun vs H1 F1 f1 x1 h1 i1 => ?_
      obtain ⟨v, rfl, i2⟩ := all1 i1
      have := is_int i2
      subst this
      exact ⟨j, rfl, hc.1, hc.2, q _ H1 F1 f1 x1 h1 items_rng⟩
    · rw [if_neg hc] at eq
      cases eq
  · cases eq
theorem si_rng2 (h : SA K ta ma) : SI K (iRng2 ta) (mRng2 ma) := by
  intro F f S H σ E ds S' A eq R q
  obtain ⟨⟨as, S1⟩, e1, eq⟩ := bind_some' eq
  simp only at eq
  split at eq
  · rename_i i j
    by_cases hc : -(2 ^ 62) ≤ i ∧ i < 2 ^ 62 ∧ -(2 ^ 62) ≤ j ∧ j < 2 ^ 62
    · rw [if_pos hc] at eq
      cases eq
      refine h F f S H σ E _ _ A e1 _ fun vs H1 F1 f1 x1 h1 i1 => ?_
      obtain ⟨v, w, rfl, i2, i3⟩ := all2 i1
      have := is_int i2
      subst this
      have := is_int i3
      subst this
      exact ⟨i, j, rfl, hc, q _ H1 F1 f1 x1 h1 items_rng⟩
    · rw [if_neg hc] at eq
      cases eq
  · cases eq
theorem i_rng1 (hg : Gl X "range") (hm : X.mg "range" = none) (ha : DA X [e] ta ma) (hs : starEach [e] X.env = [(false, eval e X.env)] := by rfl) : DI X tg (.Call (.Name "range" p) [e] [] pos) (iRng1 ta) (mRng1 ma) := ⟨pi_range1 hg hm ha.pe hs, si_rng1 ha.se⟩
theorem i_rng2 (hg : Gl X "range") (hm : X.mg "range" = none) (ha : DA X [e, e2] ta ma) (hs : starEach [e, e2] X.env = [(false, eval e X.env), (false, eval e2 X.env)] := by rfl) (hs2 : starEach [e2] X.env = [(false, eval e2 X.env)] := by rfl) : DI X tg (.Call (.Name "range" p) [e, e2] [] pos) (iRng2 ta) (mRng2 ma) := ⟨pi_range2 hg hm ha.pe hs hs2, si_rng2 ha.se⟩
end

/-! ### comprehensions -/
def wipeE (E : Env) : List Nat → Env
  | [] => E
  | v :: vs => (wipeE E vs).set v none
/-- a target all of whose slots are among vs -/
def SGw (K : PySem.W.Frag) (vs : List Nat) (g : TG) (mg : MG) : Prop :=
  ∀ F f S H σ E v d E' S', At K F f S H σ E → Is K F f v d → mg d E S = some (E', S') → ∀ Q : L2.St → Hp → Prop, (∀ σ' H' F' f', Ext F f F' f' → At K F' f' S' H' σ' E' → wipe σ' vs = wipe σ vs → Q σ' H') → g v σ H Q
def SGsw (K : PySem.W.Frag) (vs : List Nat) (g : TGs) (mg : List D → Env → Sto → Option (Env × Sto)) : Prop :=
  ∀ F f S H σ E ws ds E' S', At K F f S H σ E → IsAll K F f ws ds → mg ds E S = some (E', S') → ∀ Q : L2.St → Hp → Prop, (∀ σ' H' F' f', Ext F f F' f' → At K F' f' S' H' σ' E' → wipe σ' vs = wipe σ vs → Q σ' H') → g ws σ H Q
theorem wipe_set {σ : L2.St} {i : Nat} {v : Option V} : ∀ {vs : List Nat}, i ∈ vs → wipe (σ.set i v) vs = wipe σ vs
  | a :: vs, h => by
    unfold wipe
    by_cases e : i = a
    · subst e
      have : ∀ vs : List Nat, (wipe (σ.set i v) vs).set i none = (wipe σ vs).set i none := by
        intro vs
        induction vs with
        | nil => simp [wipe]
        | cons b vs ih =>
          unfold wipe
          by_cases hb : b = i
          · subst hb
            simp only [List.set_set]
            exact ih
          · rw [List.set_comm _ _ hb, List.set_comm _ _ hb, ih]
      exact this vs
    · have hi : i ∈ vs := by
        rcases List.mem_cons.mp h with z | z
        · exact absurd z e
        · exact z
      rw [wipe_set hi]
section
variable {X : Cx} {K : PySem.W.Frag} {g : TG} {gs : TGs} {mg : MG} {mgs : List D → Env → Sto → Option (Env × Sto)} {vs : List Nat}
theorem sgw_name {i : Nat} (h : i ∈ vs) : SGw K vs (gName i) (mgName i) := by
  intro F f S H σ E v d E' S' A r e Q q
  cases e
  exact q _ H F f (Ext.refl _ _) (A.set r) (wipe_set h)
theorem sgsw_nil : SGsw K vs gNil mgNil := by
  intro F f S H σ E ws ds E' S' A r h Q q
  cases r with
  | nil => cases h; exact ⟨rfl, q σ H F f (Ext.refl _ _) A rfl⟩
  | cons _ _ => cases h
theorem sgsw_cons (h1 : SGw K vs g mg) (h2 : SGsw K vs gs mgs) : SGsw K vs (gCons g gs) (mgCons mg mgs) := by
  intro F f S H σ E ws ds E' S' A r h Q q
  cases r with
  | nil => cases h
  | cons r1 rr =>
    obtain ⟨⟨E1, S1⟩, e1, h⟩ := bind_some' h
    refine ⟨_, _, rfl, h1 F f S H σ E _ _ E1 S1 A r1 e1 _ fun σ' H' F' f' x A' hw => ?_⟩
    exact h2 F' f' S1 H' σ' E1 _ _ E' S' A' (rr.mono x) h Q fun σ2 H2 F2 f2 x2 A2 hw2 => q σ2 H2 F2 f2 (x.trans x2) A2 (hw2.trans hw)
theorem sgw_tup {k : Nat} (h : SGsw K vs gs mgs) : SGw K vs (gTup K k gs) (mgTup k mgs) := by
  intro F f S H σ E v d E' S' A r e Q q
  cases r with
  | tup sq rr =>
    rename_i a ws ds
    simp only [mgTup] at e
    by_cases hk : ds.length = k
    · simp only [hk, if_true] at e
      exact ⟨a, ws, rfl, Evl.ex_t A.held.ex (SqT.of sq), by rw [rr.length, hk], h F f S H σ E _ _ E' S' A rr e Q q⟩
    · simp only [hk, if_false] at e
      cases e
  | _ => cases e
theorem At.wipe {F H : Hp} {f : List Addr} {S : Sto} {σ : L2.St} {E : Env} (A : At K F f S H σ E) : ∀ vs : List Nat, At K F f S H (L2.wipe σ vs) (wipeE E vs)
  | [] => A
  | v :: vs => by
    have B := A.wipe vs
    unfold L2.wipe wipeE
    refine ⟨B.held, by simp [B.len], fun i d e => ?_⟩
    by_cases h : v = i
    · subst h
      by_cases hl : v < (wipeE E vs).length
      · rw [List.getElem?_set_self hl] at e
        cases e
      · rw [List.getElem?_eq_none (by simpa using hl)] at e
        cases e
    · rw [List.getElem?_set_ne h] at e ⊢
      exact B.env i d e
end
/-- the turns: n the place of the new list in the store -/
def compL (g : MG) (t : MT) (e : ME) (E : Env) (n : Nat) : List D → Sto → Option Sto
  | [], S => some S
  | d :: r, S => (g d E S).bind fun p => (t p.1 p.2).bind fun b => if b.1 = true then (e p.1 b.2).bind fun y => match y.2[n]? with
      | some (.lst acc) => if acc.length < sizeLine then compL g t e E n r (y.2.set n (.lst (acc ++ [y.1]))) else none
      | _ => none
    else compL g t e E n r b.2
def mComp (mi : MA) (g : MG) (t : MT) (e : ME) (vs : List Nat) : ME := fun E S => (mi E S).bind fun p => (compL g t e (wipeE E vs) p.2.length p.1 (p.2 ++ [.lst []])).map fun S1 => trim p.2.length (frz (.loc p.2.length) S1).1 (frz (.loc p.2.length) S1).2
structure DTs (X : Cx) (ifs : List Expr) (t : TT) (m : MT) : Prop where
  pt : PTs X ifs t
  se : ST X.K t m
def mYes : MT := fun _ S => some (true, S)
section
variable {X : Cx} {K : PySem.W.Frag} {pos : Pos} {wi : TI} {mi : MA} {g : TG} {mg : MG} {tt : TT} {mt : MT} {te : TE} {me : ME} {vs : List Nat} {c elt tg iter : Expr} {ifs : List Expr} {scope : Scope} {own : List (Str × Nat)}
theorem ts_nil : DTs X [] tYes mYes := ⟨pts_nil, fun F f S H σ E b S' A e Q q => by cases e; exact q H F f (Ext.refl _ _) A.held⟩
theorem ts_one (h : DT X c tt mt) : DTs X [c] tt mt := ⟨pts_one h.pe, h.se⟩
theorem se_comp (hi : SI K wi mi) (hg : SGw K vs g mg) (ht : ST K tt mt) (he : SE K te me) : SE K (tLc wi g tt te vs) (mComp mi mg mt me vs) := by
  intro F f S H σ E d S' A h Q q
  obtain ⟨⟨ds, S1⟩, e1, h⟩ := bind_some' h
  obtain ⟨S2, e2, hfin⟩ := map_some' h
  refine hi F f S H σ E ds S1 A e1 _ fun J H1 F1 f1 x1 h1 it D hD => ?_
  obtain ⟨h2, x2⟩ := h1.alloc (u := .lst []) (o := .lst []) hD ⟨[], rfl, .nil⟩
  have hfd : (f1 ++ [D])[S1.length]? = some D := by rw [← h1.len]; simp
  refine ⟨fun i m H' => m = ds.length - i ∧ i ≤ ds.length ∧ ∃ F' f' S3, Ext F1 (f1 ++ [D]) F' f' ∧ Held K F' f' S3 H' ∧ compL mg mt me (wipeE E vs) S1.length (ds.drop i) S3 = some S2,
    ⟨ds.length, by simp, Nat.zero_le _, F1, f1 ++ [D], _, Ext.refl _ _, h2, by simpa using e2⟩, ?_⟩
  rintro i m H3 ⟨rfl, hil, F3, f3, S3, x3, h3, hrun⟩
  have itx := it.mono x2 |>.mono x3
  rcases Nat.lt_or_ge i ds.length with hlt | hge
  · have ed : ds[i]? = some ds[i] := List.getElem?_eq_getElem hlt
    rw [List.drop_eq_getElem_cons hlt] at hrun
    simp only [compL] at hrun
    obtain ⟨⟨E4, S4⟩, e4, hrun⟩ := bind_some' hrun
    obtain ⟨⟨b, S5⟩, e5, hrun⟩ := bind_some' hrun
    refine .inr ⟨itx.go i _ F3 f3 S3 H3 ed (Ext.refl _ _) h3, fun H' => ∃ F' f' S6, Ext F1 (f1 ++ [D]) F' f' ∧ Held K F' f' S6 H' ∧ compL mg mt me (wipeE E vs) S1.length (ds.drop (i + 1)) S6 = some S2,
      fun H' w => ⟨ds.length - (i + 1), by omega, rfl, hlt, w⟩, fun v H4 y => ?_⟩
    obtain ⟨F4, x4, h4, i4⟩ := itx.yld i _ F3 f3 S3 H3 v H4 ed (Ext.refl _ _) h3 y
    have A4 : At K F4 f3 S3 H4 (L2.wipe σ vs) (wipeE E vs) := ((A.wipe vs).up (x1.trans (x2.trans x3)) h3).up x4 h4
    refine hg F4 f3 S3 H4 _ _ v _ E4 S4 A4 i4 e4 _ fun σ5 H5 F5 f5 x5 A5 hw => ⟨hw.trans ?_, ?_⟩
    · have : ∀ ws : List Nat, (∀ w ∈ ws, w ∈ vs) → L2.wipe (L2.wipe σ ws) vs = L2.wipe σ vs := by
        intro ws
        induction ws with
        | nil => intro _; rfl
        | cons w ws ih =>
          intro hm
          show L2.wipe ((L2.wipe σ ws).set w none) vs = _
          rw [wipe_set (hm w List.mem_cons_self)]
          exact ih fun u hu => hm u (List.mem_cons_of_mem _ hu)
      exact this vs fun _ h => h
    · refine ht F5 f5 S4 H5 σ5 E4 b S5 A5 e5 _ fun H6 F6 f6 x6 h6 => ?_
      have x16 := ((x3.trans x4).trans x5).trans x6
      cases b with
      | true =>
        simp only [if_true] at hrun
        rw [if_pos rfl]
        obtain ⟨⟨yd, S7⟩, e7, hrun⟩ := bind_some' hrun
        refine he F6 f6 S5 H6 σ5 E4 yd S7 (A5.up x6 h6) e7 _ fun yv H7 F7 f7 x7 h7 i7 => ?_
        have hD7 : f7[S1.length]? = some D := pre_get (x16.trans x7).pre hfd
        simp only at hrun
        split at hrun
        · rename_i acc es
          by_cases hz : acc.length < sizeLine
          · rw [if_pos hz] at hrun
            obtain ⟨ws, e8, r8⟩ := h7.ob _ D _ hD7 es
            have h8 := h7.write (u := .lst (ws ++ [yv])) (o' := .lst (acc ++ [yd])) hD7 es (by first | rfl | (intro z; cases z)) ⟨_, rfl, r8.append (.cons i7 .nil)⟩
            exact ⟨ws, e8, by rw [r8.length]; exact hz, F7, f7, _, x16.trans x7, h8, hrun⟩
          · rw [if_neg hz] at hrun
            cases hrun
        · cases hrun
      | false =>
        simp only [Bool.false_eq_true, if_false] at hrun
        rw [if_neg Bool.false_ne_true]
        exact ⟨F6, f6, S5, x16, h6, hrun⟩
  · have e : i = ds.length := by omega
    subst e
    rw [List.drop_length] at hrun
    simp only [compL] at hrun
    cases hrun
    refine .inl ⟨itx.stop F3 f3 _ H3 (Ext.refl _ _) h3, ?_⟩
    have il : Is K F3 f3 (.ref D) (.loc S1.length) := .loc (pre_get x3.pre hfd)
    obtain ⟨F4, x4, h4, i4⟩ := frz_ok h3 il
    have q1 : Wants K F1 f1 (frz (.loc S1.length) _).2 (frz (.loc S1.length) _).1 Q := wants_cut (S := S1) (H := H1) h1.len (by rw [hfin]; exact q.ext x1)
    exact q1 _ H3 F4 f3 ((x2.trans x3).trans x4) h4 i4
structure DGw (X : Cx) (vs : List Nat) (e : Expr) (g : TG) (m : MG) : Prop where
  pg : PG X e g
  sg : SGw X.K vs g m
structure DGsw (X : Cx) (vs : List Nat) (es : List Expr) (g : TGs) (m : List D → Env → Sto → Option (Env × Sto)) : Prop where
  pg : PGs X es g
  sg : SGsw X.K vs g m
theorem d_comp (hc : X.calm = true) (hN : X.N.Nodup) (hi : DI X tg iter wi mi) (ok : BlkOk X.N X.env.scope scope own)
    (hg : ∀ (s : Shared) (H : Hp) (C : Addr) (cl : List (Str × Addr)) (fp : List Addr), DGw (X.blk s H scope (compEnvC scope cl C X.env) fp) (own.map (·.2)) tg g mg) (ht : ∀ (s : Shared) (H : Hp) (C : Addr) (cl : List (Str × Addr)) (fp : List Addr), DTs (X.blk s H scope (compEnvC scope cl C X.env) fp) ifs tt mt)
    (he : ∀ (s : Shared) (H : Hp) (C : Addr) (cl : List (Str × Addr)) (fp : List Addr), DE (X.blk s H scope (compEnvC scope cl C X.env) fp) elt te me) (hs : ∀ x, foldedSetIterable iter X.env x = pure x := by intro _; rfl) :
    DE X (.ListComp elt [⟨tg, iter, ifs, 0⟩] scope pos) (tLc wi g tt te (own.map (·.2))) (mComp mi mg mt me (own.map (·.2))) :=
  ⟨pe_lc hc hN hi.pi ok (fun s H C cl fp => (hg s H C cl fp).pg) (fun s H C cl fp => (ht s H C cl fp).pt) (fun s H C cl fp => (he s H C cl fp).pe) hs, se_comp hi.si (hg X.s_0 X.H_0 0 [] []).sg (ht X.s_0 X.H_0 0 [] []).se (he X.s_0 X.H_0 0 [] []).se⟩
theorem s_setLc {i : Nat} {y : Str} {py spos : Pos} (hc : X.calm = true) (hN : X.N.Nodup) (hy : X.N[i]? = some y) (hyl : X.env.scope.names.lookup y = some .local) (hsw : swapsWith (.ListComp elt [⟨tg, iter, ifs, 0⟩] scope pos) (some (.Name y py)) spos.line X.env = pure true)
    (hi : DI X tg iter wi mi) (ok : BlkOk X.N X.env.scope scope own)
    (hg : ∀ (s : Shared) (H : Hp) (C : Addr) (cl : List (Str × Addr)) (fp : List Addr), DGw (X.blk s H scope (compEnvC scope cl C X.env) fp) (own.map (·.2)) tg g mg) (ht : ∀ (s : Shared) (H : Hp) (C : Addr) (cl : List (Str × Addr)) (fp : List Addr), DTs (X.blk s H scope (compEnvC scope cl C X.env) fp) ifs tt mt)
    (he : ∀ (s : Shared) (H : Hp) (C : Addr) (cl : List (Str × Addr)) (fp : List Addr), DE (X.blk s H scope (compEnvC scope cl C X.env) fp) elt te me) (hs : ∀ x, foldedSetIterable iter X.env x = pure x := by intro _; rfl) :
    DS X (.Assign [.Name y py] (.ListComp elt [⟨tg, iter, ifs, 0⟩] scope pos) spos) (tAsg (tLc wi g tt te (own.map (·.2))) (gName i)) (mAsg (mComp mi mg mt me (own.map (·.2))) (mgName i)) :=
  ⟨ps_setLc hc hN hy hyl hsw hi.pi ok (fun s H C cl fp => (hg s H C cl fp).pg) (fun s H C cl fp => (ht s H C cl fp).pt) (fun s H C cl fp => (he s H C cl fp).pe) hs, ss_asg (se_comp hi.si (hg X.s_0 X.H_0 0 [] []).sg (ht X.s_0 X.H_0 0 [] []).se (he X.s_0 X.H_0 0 [] []).se) (sg_name i)⟩
end

/-! ### name = e; targets -/
section
variable {X : Cx} {K : PySem.W.Frag} {pos p : Pos} {te : TE} {me : ME} {e : Expr} {x : Str} {i : Nat} {vs : List Nat} {es : List Expr} {g : TG} {gs : TGs} {mg : MG} {mgs : List D → Env → Sto → Option (Env × Sto)}
theorem s_set (hN : X.N.Nodup) (hi : X.N[i]? = some x) (hx : Loc X.env.scope x) (h : DE X e te me) (hs : swapsWith e (some (.Name x p)) pos.line X.env = pure false := by rfl) (hf : X.fn x = true ∨ X.env.scope.names.lookup x = some .local := by first | exact .inl rfl | exact .inr rfl | assumption) :
    DS X (.Assign [.Name x p] e pos) (tAsg te (gName i)) (mAsg me (mgName i)) := ⟨ps_set hN hi hx h.pe hs hf, ss_asg h.se (sg_name i)⟩
theorem s_asg {tg : Expr} (h : DE X e te me) (hg : DG X tg g mg) (hs : swapsWithSole [tg] e pos.line X.env = pure false := by rfl) (hw : swappedStores [tg] e X.env = pure none := by rfl) (h1 : (assignEach [tg] X.env).map (·.2) = [assign tg X.env] := by rfl) :
    DS X (.Assign [tg] e pos) (tAsg te g) (mAsg me mg) := ⟨ps_asg h.pe hg.pg hs hw h1, ss_asg h.se hg.sg⟩
theorem g_name (hN : X.N.Nodup) (hi : X.N[i]? = some x) (hx : Loc X.env.scope x) (hf : X.fn x = true ∨ X.env.scope.names.lookup x = some .local := by first | exact .inl rfl | exact .inr rfl | assumption) : DG X (.Name x pos) (gName i) (mgName i) := ⟨pg_name hN hi hx hf, sg_name i⟩
theorem gw_name (hm : i ∈ vs) (hN : X.N.Nodup) (hi : X.N[i]? = some x) (hx : Loc X.env.scope x) (hf : X.fn x = true ∨ X.env.scope.names.lookup x = some .local := by first | exact .inl rfl | exact .inr rfl | assumption) : DGw X vs (.Name x pos) (gName i) (mgName i) := ⟨pg_name hN hi hx hf, sgw_name hm⟩
theorem gs_nil : DGs X [] gNil mgNil := ⟨pgs_nil, sgs_nil⟩
theorem gs_cons (h : DG X e g mg) (hr : DGs X es gs mgs) (hs : (assignEach (e :: es) X.env).map (·.2) = assign e X.env :: (assignEach es X.env).map (·.2) := by rfl) : DGs X (e :: es) (gCons g gs) (mgCons mg mgs) := ⟨pgs_cons h.pg hr.pg hs, sgs_cons h.sg hr.sg⟩
theorem gsw_nil : DGsw X vs [] gNil mgNil := ⟨pgs_nil, sgsw_nil⟩
theorem gsw_cons (h : DGw X vs e g mg) (hr : DGsw X vs es gs mgs) (hs : (assignEach (e :: es) X.env).map (·.2) = assign e X.env :: (assignEach es X.env).map (·.2) := by rfl) : DGsw X vs (e :: es) (gCons g gs) (mgCons mg mgs) := ⟨pgs_cons h.pg hr.pg hs, sgsw_cons h.sg hr.sg⟩
theorem g_tup {k n : Nat} (hc : X.calm = true) (h : DGs X es gs mgs) (hn : (assignEach es X.env).length = n := by rfl) (hst : (assignEach es X.env).findIdx? (·.1) = none := by rfl) : DG X (.Tuple es k pos) (gTup X.K n gs) (mgTup n mgs) := ⟨pg_tup hc h.pg hn hst, sg_tup h.sg⟩
theorem gw_tup {k n : Nat} (hc : X.calm = true) (h : DGsw X vs es gs mgs) (hn : (assignEach es X.env).length = n := by rfl) (hst : (assignEach es X.env).findIdx? (·.1) = none := by rfl) : DGw X vs (.Tuple es k pos) (gTup X.K n gs) (mgTup n mgs) := ⟨pg_tup hc h.pg hn hst, sgw_tup h.sg⟩
/-- a, b = e1, e2 -/
def mPar (i j : Nat) (m : MA) : MS := fun E S => (m E S).bind fun p => match p.1 with
  | [a, b] => some (.nx, (E.set i (some a)).set j (some b), p.2)
  | _ => none
def mPar3 (i j l : Nat) (m : MA) : MS := fun E S => (m E S).bind fun p => match p.1 with
  | [a, b, c] => some (.nx, ((E.set i (some a)).set j (some b)).set l (some c), p.2)
  | _ => none
theorem ss_par {j : Nat} {ta : TA} {ma : MA} (h : SA K ta ma) : SS K (tPar i j ta) (mPar i j ma) := by
  intro F f S H σ E o E' S' A eq D q
  obtain ⟨⟨ds, S1⟩, e1, eq⟩ := bind_some' eq
  simp only at eq
  split at eq
  · cases eq
    refine h F f S H σ E _ _ A e1 _ fun vs H1 F1 f1 x1 h1 i1 => ?_
    obtain ⟨v, w, rfl, i2, i3⟩ := all2 i1
    exact ⟨v, w, rfl, q _ H1 F1 f1 x1 (((A.up x1 h1).set i2).set i3)⟩
  · cases eq
theorem ss_par3 {j l : Nat} {ta : TA} {ma : MA} (h : SA K ta ma) : SS K (tPar3 i j l ta) (mPar3 i j l ma) := by
  intro F f S H σ E o E' S' A eq D q
  obtain ⟨⟨ds, S1⟩, e1, eq⟩ := bind_some' eq
  simp only at eq
  split at eq
  · cases eq
    refine h F f S H σ E _ _ A e1 _ fun vs H1 F1 f1 x1 h1 i1 => ?_
    cases i1 with
    | cons i2 ir =>
      obtain ⟨v, w, rfl, i3, i4⟩ := all2 ir
      exact ⟨_, v, w, rfl, q _ H1 F1 f1 x1 ((((A.up x1 h1).set i2).set i3).set i4)⟩
  · cases eq
theorem s_par {j : Nat} {y : Str} {a b : Expr} {ta : TA} {ma : MA} {px py pt : Pos} {kt k2 pt2} (hc : X.calm = true) (hN : X.N.Nodup) (hi : X.N[i]? = some x) (hj : X.N[j]? = some y) (hij : i ≠ j) (hx : X.env.scope.names.lookup x = some .local) (hy : X.env.scope.names.lookup y = some .local) (ha : DA X [a, b] ta ma)
    (hw : swappedStores [.Tuple [.Name x px, .Name y py] kt pt] (.Tuple [a, b] k2 pt2) X.env = pure (some [x, y])) (hs : swapsWithSole [.Tuple [.Name x px, .Name y py] kt pt] (.Tuple [a, b] k2 pt2) pos.line X.env = pure false := by rfl) :
    DS X (.Assign [.Tuple [.Name x px, .Name y py] kt pt] (.Tuple [a, b] k2 pt2) pos) (tPar i j ta) (mPar i j ma) := ⟨ps_par hc hN hi hj hij hx hy ha.pe hw hs, ss_par ha.se⟩
end
end DL
/-! DL8: methods of built-in types; the law's end. -/
namespace DL
open PySem L2 PyProof.Rows

/-! ### o.m(..), o a list or a text -/
abbrev MM := D → List D → Sto → Option (D × Sto)
def RM (K : PySem.W.Frag) (r : V → List V → Hp → VK → Prop) (g : MM) : Prop :=
  ∀ F f S H x vs dx ds d S', Held K F f S H → Is K F f x dx → IsAll K F f vs ds → g dx ds S = some (d, S') → ∀ Q : VK, Wants K F f S' d Q → r x vs H Q
def isTy (S : Sto) (T : String) : D → Bool
  | .str _ => T == "str"
  | .int _ => T == "int"
  | d => (T == "list" && (viewL S d).isSome) || (T == "dict" && (viewD S d).isSome)
def mBM (T : String) (g : MM) (mo : ME) (m : MA) : ME := fun E S => (mo E S).bind fun o => if isTy o.2 T o.1 = true then (m E o.2).bind fun p => g o.1 p.1 p.2 else none
def mBM0 (T : String) (g : MM) (mo : ME) : ME := fun E S => (mo E S).bind fun o => if isTy o.2 T o.1 = true then g o.1 [] o.2 else none
section
variable {X : Cx} {K : PySem.W.Frag} {apos cpos : Pos} {T id : String} {name : Str} {o e : Expr} {es : List Expr} {to : TE} {mo : ME} {t : TA} {m : MA} {r : V → List V → Hp → VK → Prop} {g : MM}
theorem isTy_ok {F H : Hp} {f : List Addr} {S : Sto} {v : V} {d : D} (h : Held K F f S H) (i : Is K F f v d) (e : isTy S T d = true) : tyV K T v H := by
  have gen : ((T == "list" && (viewL S d).isSome) || (T == "dict" && (viewD S d).isSome)) = true → tyV K T v H := fun e => by
    rw [Bool.or_eq_true, Bool.and_eq_true, Bool.and_eq_true] at e
    rcases e with ⟨e1, e2⟩ | ⟨e1, e2⟩
    · obtain ⟨ds, e3⟩ := Option.isSome_iff_exists.mp e2
      obtain ⟨a, vs, rfl, ha, _⟩ := viewL_ok h i e3
      exact .inl ⟨eq_of_beq e1, vs, ha⟩
    · obtain ⟨⟨ks, ds⟩, e3⟩ := Option.isSome_iff_exists.mp e2
      obtain ⟨a, kvs, rfl, ha, _⟩ := viewD_ok h i e3
      exact .inr (.inr (.inl ⟨eq_of_beq e1, .inl ⟨kvs, ha⟩⟩))
  cases i with
  | str x => exact eq_of_beq e
  | int j => exact eq_of_beq e
  | _ => exact gen e
theorem se_bm (hr : RM K r g) (ho : SE K to mo) (h : SA K t m) : SE K (tBM K T r to t) (mBM T g mo m) := by
  intro F f S H σ E d S' A eq Q q
  obtain ⟨⟨y, S1⟩, e1, eq⟩ := bind_some' eq
  by_cases hc : isTy S1 T y = true
  · rw [if_pos hc] at eq
    obtain ⟨⟨ds, S2⟩, e2, e3⟩ := bind_some' eq
    refine ho F f S H σ E y S1 A e1 _ fun v H1 F1 f1 x1 h1 i1 => ⟨isTy_ok h1 i1 hc, ?_⟩
    refine h F1 f1 S1 H1 σ E ds S2 (A.up x1 h1) e2 _ fun vs H2 F2 f2 x2 h2 i2 => ?_
    exact hr F2 f2 S2 H2 v vs y ds d S' h2 (i1.mono x2) i2 e3 Q (q.ext (x1.trans x2))
  · rw [if_neg hc] at eq
    cases eq
theorem se_bm0 (hr : RM K r g) (ho : SE K to mo) : SE K (tBM0 K T r to) (mBM0 T g mo) := by
  intro F f S H σ E d S' A eq Q q
  obtain ⟨⟨y, S1⟩, e1, eq⟩ := bind_some' eq
  by_cases hc : isTy S1 T y = true
  · rw [if_pos hc] at eq
    refine ho F f S H σ E y S1 A e1 _ fun v H1 F1 f1 x1 h1 i1 => ⟨isTy_ok h1 i1 hc, ?_⟩
    exact hr F1 f1 S1 H1 v [] y [] d S' h1 i1 .nil eq Q (q.ext x1)
  · rw [if_neg hc] at eq
    cases eq
def gAppend : MM := fun o ds S => match o, ds with
  | .loc n, [y] => match S[n]? with
    | some (.lst xs) => if xs.length < sizeLine then some (.non, S.set n (.lst (xs ++ [y]))) else none
    | _ => none
  | _, _ => none
theorem rm_append : RM K rAppend gAppend := by
  intro F f S H x vs dx ds d S' hh ix iv e Q q
  unfold gAppend at e
  split at e
  · rename_i n y
    split at e
    · rename_i xs es
      by_cases hz : xs.length < sizeLine
      · rw [if_pos hz] at e
        cases e
        obtain ⟨v, rfl, i1⟩ := all1 iv
        cases ix with
        | loc ha =>
          rename_i a
          obtain ⟨ws, e1, r1⟩ := hh.ob _ a _ ha es
          have h2 := hh.write (u := .lst (ws ++ [v])) (o' := .lst (xs ++ [y])) ha es (by first | rfl | (intro z; cases z)) ⟨_, rfl, r1.append (.cons i1 .nil)⟩
          exact ⟨a, ws, v, rfl, rfl, e1, by rw [r1.length]; exact hz, q.now h2 .non⟩
      · rw [if_neg hz] at e
        cases e
    · cases e
  · cases e
def gExtend : MM := fun o ds S => match o, ds with
  | .loc n, [y] => match S[n]?, viewW S y with
    | some (.lst xs), some ys => if xs.length + ys.length ≤ sizeLine then some (.non, S.set n (.lst (xs ++ ys))) else none
    | _, _ => none
  | _, _ => none
theorem rm_extend : RM K rExtend gExtend := by
  intro F f S H x vs dx ds d S' hh ix iv e Q q
  unfold gExtend at e
  split at e
  · rename_i n y
    split at e
    · rename_i xs ys es ey
      by_cases hz : xs.length + ys.length ≤ sizeLine
      · rw [if_pos hz] at e
        cases e
        obtain ⟨v, rfl, i1⟩ := all1 iv
        obtain ⟨b, us, rfl, hb, r2⟩ := viewW_ok hh i1 ey
        cases ix with
        | loc ha =>
          rename_i a
          obtain ⟨ws, e1, r1⟩ := hh.ob _ a _ ha es
          have h2 := hh.write (u := .lst (ws ++ us)) (o' := .lst (xs ++ ys)) ha es (by first | rfl | (intro z; cases z)) ⟨_, rfl, r1.append r2⟩
          exact ⟨a, b, ws, us, rfl, rfl, e1, hb, by rw [r1.length, r2.length]; exact hz, q.now h2 .non⟩
      · rw [if_neg hz] at e
        cases e
    · cases e
  · cases e
def gPop : MM := fun o ds S => match o, ds with
  | .loc n, [] => match S[n]? with
    | some (.lst xs) => (xs[xs.length - 1]?).map fun y => (y, S.set n (.lst xs.dropLast))
    | _ => none
  | _, _ => none
theorem rm_pop : RM K rPop gPop := by
  intro F f S H x vs dx ds d S' hh ix iv e Q q
  unfold gPop at e
  split at e
  · rename_i n
    split at e
    · rename_i xs es
      obtain ⟨y, e2, e3⟩ := map_some' e
      cases e3
      cases iv
      cases ix with
      | loc ha =>
        rename_i a
        obtain ⟨ws, e1, r1⟩ := hh.ob _ a _ ha es
        obtain ⟨v, h3, h4⟩ := r1.get e2
        have h2 := hh.write (u := .lst ws.dropLast) (o' := .lst xs.dropLast) ha es (by first | rfl | (intro z; cases z)) ⟨_, rfl, r1.dropLast⟩
        exact ⟨a, ws, v, rfl, rfl, e1, by rw [r1.length]; exact h3, q.now h2 h4⟩
    · cases e
  · cases e
theorem d_append (ho : DE X o to mo) (ha : DA X (e :: es) t m) (hbase : attributeBase o "append" X.env (eval o X.env) = eval o X.env := by rfl)
    (hfew : ((backTo cpos (starEach (e :: es) X.env)).all (fun x => !x.1) && (backToKw cpos (keywordEach [] X.env)).all (fun x => x.1.isSome) && decide ((e :: es).length + ([] : List Keyword).length + (if ([] : List Keyword).isEmpty then 0 else 1) < 30)) = true := by rfl)
    (hline : (apos.endLine == cpos.line) = true := by rfl) (hs : starEach (e :: es) X.env = (false, eval e X.env) :: starEach es X.env := by rfl) (hpl : (backTo cpos (starEach es X.env)).any (·.1) = false := by rfl) :
    DE X (.Call (.Attribute o "append" apos) (e :: es) [] cpos) (tBM X.K "list" rAppend to t) (mBM "list" gAppend mo m) := ⟨pe_bm PySem.F.plainAttrs_list PySem.F.slot_list_append PySem.F.type_list_append mt_append ho.pe ha.pe hbase hfew hline hs hpl, se_bm rm_append ho.se ha.se⟩
theorem d_extend (ho : DE X o to mo) (ha : DA X (e :: es) t m) (hbase : attributeBase o "extend" X.env (eval o X.env) = eval o X.env := by rfl)
    (hfew : ((backTo cpos (starEach (e :: es) X.env)).all (fun x => !x.1) && (backToKw cpos (keywordEach [] X.env)).all (fun x => x.1.isSome) && decide ((e :: es).length + ([] : List Keyword).length + (if ([] : List Keyword).isEmpty then 0 else 1) < 30)) = true := by rfl)
    (hline : (apos.endLine == cpos.line) = true := by rfl) (hs : starEach (e :: es) X.env = (false, eval e X.env) :: starEach es X.env := by rfl) (hpl : (backTo cpos (starEach es X.env)).any (·.1) = false := by rfl) :
    DE X (.Call (.Attribute o "extend" apos) (e :: es) [] cpos) (tBM X.K "list" rExtend to t) (mBM "list" gExtend mo m) := ⟨pe_bm PySem.F.plainAttrs_list PySem.F.slot_list_extend PySem.F.type_list_extend mt_extend ho.pe ha.pe hbase hfew hline hs hpl, se_bm rm_extend ho.se ha.se⟩
theorem d_pop (ho : DE X o to mo) (hbase : attributeBase o "pop" X.env (eval o X.env) = eval o X.env := by rfl) (hline : (apos.endLine == cpos.line) = true := by rfl) :
    DE X (.Call (.Attribute o "pop" apos) [] [] cpos) (tBM0 X.K "list" rPop to) (mBM0 "list" gPop mo) := ⟨pe_bm0 PySem.F.plainAttrs_list PySem.F.slot_list_pop PySem.F.type_list_pop mt_pop ho.pe hbase hline, se_bm0 rm_pop ho.se⟩
end

/-! ### {'a': x, ..} -/
def mPairs : List (ME × ME) → Env → Sto → Option (List (Key × D) × Sto)
  | [], _, S => some ([], S)
  | (mk, mv) :: r, E, S => (mk E S).bind fun k => (mv E k.2).bind fun v => (toKey k.1).bind fun q => (mPairs r E v.2).map fun p => ((q, v.1) :: p.1, p.2)
def mergeD (ps : List (Key × D)) (acc : List Key × List D) : List Key × List D := ps.foldl (fun a p => dput a.1 a.2 p.1 p.2) acc
/-- it is to change; frozen by mFrz -/
def mDisp (prs : List (ME × ME)) : ME := fun E S => (mPairs prs E (S ++ [.dic [] []])).bind fun p => match p.2[S.length]? with
  | some (.dic [] []) => if p.1.length ≤ 15 then some (.loc S.length, p.2.set S.length (.dic (mergeD p.1 ([], [])).1 (mergeD p.1 ([], [])).2)) else none
  | _ => none
inductive SPs (K : PySem.W.Frag) : List (TE × TE) → List (ME × ME) → Prop
  | nil : SPs K [] []
  | cons {tk tv : TE} {mk mv : ME} {ts : List (TE × TE)} {ms : List (ME × ME)} : SE K tk mk → SE K tv mv → SPs K ts ms → SPs K ((tk, tv) :: ts) ((mk, mv) :: ms)
structure DPs (X : Cx) (pos : Pos) (keys : List (Option Expr)) (values : List Expr) (ts : List (TE × TE)) (ms : List (ME × ME)) : Prop where
  pp : PPs X pos keys values ts
  sp : SPs X.K ts ms
section
variable {X : Cx} {K : PySem.W.Frag} {pos : Pos}
theorem ps_nil : DPs X pos [] [] [] [] := ⟨pps_nil, .nil⟩
theorem ps_cons {k v : Expr} {ks : List (Option Expr)} {vs : List Expr} {tk tv : TE} {mk mv : ME} {ts : List (TE × TE)} {ms : List (ME × ME)} (hk : DE X k tk mk) (hv : DE X v tv mv) (hr : DPs X pos ks vs ts ms) : DPs X pos (some k :: ks) (v :: vs) ((tk, tv) :: ts) ((mk, mv) :: ms) :=
  ⟨pps_cons hk.pe hv.pe hr.pp, .cons hk.se hv.se hr.sp⟩
theorem pairs_ok {ts : List (TE × TE)} {ms : List (ME × ME)} (h : SPs K ts ms) : ∀ {F : Hp} {f : List Addr} {S : Sto} {H : Hp} {σ : L2.St} {E : Env} {ps : List (Key × D)} {S' : Sto}, At K F f S H σ E → mPairs ms E S = some (ps, S') →
    ∀ Q : List (V × V) → Hp → Prop, (∀ (kvs : List (Key × V)) H' F' f', Ext F f F' f' → Held K F' f' S' H' → kvs.map (·.1) = ps.map (·.1) → IsAll K F' f' (kvs.map (·.2)) (ps.map (·.2)) → Q (kvs.map fun kv => (kV kv.1, kv.2)) H') → tPairs ts σ H Q := by
  induction h with
  | nil =>
    intro F f S H σ E ps S' A e Q q
    cases e
    exact q [] H F f (Ext.refl _ _) A.held rfl .nil
  | cons hk hv _ ih =>
    intro F f S H σ E ps S' A e Q q
    obtain ⟨⟨k, S1⟩, e1, e⟩ := bind_some' e
    obtain ⟨⟨v, S2⟩, e2, e⟩ := bind_some' e
    obtain ⟨kk, e3, e⟩ := bind_some' e
    obtain ⟨⟨r, S3⟩, e4, e⟩ := map_some' e
    cases e
    refine hk F f S H σ E k S1 A e1 _ fun k0 H1 F1 f1 x1 h1 i1 => ?_
    refine hv F1 f1 S1 H1 σ E v S2 (A.up x1 h1) e2 _ fun v0 H2 F2 f2 x2 h2 i2 => ?_
    refine ih (A.up (x1.trans x2) h2) e4 _ fun kvs H3 F3 f3 x3 h3 hks hvs => ?_
    have := key_ok i1 e3
    subst this
    refine q ((kk, v0) :: kvs) H3 F3 f3 ((x1.trans x2).trans x3) h3 ?_ ?_
    · simp only [List.map_cons, hks]
    · exact .cons (i2.mono x3) hvs
theorem merge_ok {F : Hp} {f : List Addr} : ∀ {kvs : List (Key × V)} {ps : List (Key × D)} {acc : List (Key × V)} {ds : List D}, kvs.map (·.1) = ps.map (·.1) → IsAll K F f (kvs.map (·.2)) (ps.map (·.2)) → IsAll K F f (acc.map (·.2)) ds →
    (mergeK acc kvs).map (·.1) = (mergeD ps (acc.map (·.1), ds)).1 ∧ IsAll K F f ((mergeK acc kvs).map (·.2)) (mergeD ps (acc.map (·.1), ds)).2
  | [], [], acc, ds, _, _, r => ⟨rfl, r⟩
  | p :: kvs, q :: ps, acc, ds, hk, .cons h t, r => by
    simp only [List.map_cons, List.cons.injEq] at hk
    obtain ⟨h1, h2⟩ := dput_ok (q := p.1) h r
    have e : mergeD (q :: ps) (acc.map (·.1), ds) = mergeD ps ((putK acc p.1 p.2).map (·.1), (dput (acc.map (·.1)) ds p.1 q.2).2) := by
      show mergeD ps (dput (acc.map (·.1)) ds q.1 q.2) = _
      rw [← hk.1, h1]
    rw [e]
    exact merge_ok hk.2 t h2
theorem se_disp {ts : List (TE × TE)} {ms : List (ME × ME)} (h : SPs K ts ms) : SE K (tDisp ts) (mDisp ms) := by
  intro F f S H σ E d S' A eq Q q p hp
  obtain ⟨⟨ps, S1⟩, e1, eq⟩ := bind_some' eq
  obtain ⟨h2, x2⟩ := A.held.alloc (u := .dK []) (o := .dic [] []) hp ⟨[], rfl, rfl, .nil⟩
  have hfd : (f ++ [p])[S.length]? = some p := by rw [← A.held.len]; simp
  refine pairs_ok h (A.up x2 h2) e1 _ fun kvs H3 F3 f3 x3 h3 hks hvs => ?_
  simp only at eq
  split at eq
  · rename_i es
    by_cases hz : ps.length ≤ 15
    · rw [if_pos hz] at eq
      cases eq
      have hp3 := pre_get x3.pre hfd
      obtain ⟨kvs0, e5, e6, r5⟩ := h3.ob _ p _ hp3 es
      have : kvs0 = [] := List.map_eq_nil_iff.mp e6
      subst this
      have hl : kvs.length ≤ 15 := by
        have := congrArg List.length hks
        rw [List.length_map, List.length_map] at this
        omega
      obtain ⟨m1, m2⟩ := merge_ok (acc := []) hks hvs .nil
      have h4 := h3.write (u := .dK (mergeK [] kvs)) (o' := .dic (mergeD ps ([], [])).1 (mergeD ps ([], [])).2) hp3 es (by first | rfl | (intro z; cases z)) ⟨_, rfl, m1, m2⟩
      exact ⟨e5, kvs, rfl, hl, q _ _ F3 f3 (x2.trans x3) h4 (.loc hp3)⟩
    · rw [if_neg hz] at eq
      cases eq
  · cases eq
theorem d_disp {keys : List (Option Expr)} {values : List Expr} {ts : List (TE × TE)} {ms : List (ME × ME)} (h : DPs X pos keys values ts ms) (hall : keys.all (·.isSome) = true := by rfl) (hl : keys.length = values.length := by rfl) (h0 : keys ≠ [] := by exact List.cons_ne_nil _ _)
    (h15 : keys.length ≤ 15 := by decide) : DE X (.Dict keys values pos) (tDisp ts) (mDisp ms) := ⟨pe_disp h.pp hall hl h0 h15, se_disp h.sp⟩
def mDNew : ME := fun _ S => some (.loc S.length, S ++ [.dic [] []])
theorem d_dnew : DE X (.Dict [] [] pos) tDNewK mDNew := ⟨pe_dnewK, by
  intro F f S H σ E d S' A eq Q q p hp
  cases eq
  obtain ⟨h2, x2⟩ := A.held.alloc (u := .dK []) (o := .dic [] []) hp ⟨[], rfl, rfl, .nil⟩
  exact q _ _ _ _ x2 h2 (.loc (by rw [← A.held.len]; simp))⟩
/-- l[::-1], to be changed -/
def mRevM (m : ME) : ME := fun E S => (m E S).bind fun p => (viewL p.2 p.1).map fun ds => (.loc p.2.length, p.2 ++ [.lst ds.reverse])
theorem d_revM {e : Expr} {ta : TE} {ma : ME} {kk : Nat} {p1 p3 p4 : Pos} (he : DE X e ta ma) : DE X (.Subscript e (.Slice none none (some (.UnaryOp .USub (.Constant (.int 1) kk p1) p3)) p4) pos) (tRevL X.K ta) (mRevM ma) := ⟨pe_revL he.pe, by
  intro F f S H σ E d S' A eq Q q
  obtain ⟨⟨x, S1⟩, e1, eq⟩ := bind_some' eq
  obtain ⟨ds, e2, eq⟩ := map_some' eq
  cases eq
  refine he.se F f S H σ E x _ A e1 _ fun v H1 F1 f1 x1 h1 i1 => ?_
  obtain ⟨a, vs, rfl, ha, r⟩ := viewL_ok h1 i1 e2
  refine ⟨a, vs, rfl, ha, fun p hp => ?_⟩
  obtain ⟨h4, x4⟩ := h1.alloc (u := .lst vs.reverse) (o := .lst ds.reverse) hp ⟨vs.reverse, rfl, r.reverse.mono ⟨Evl.Ex.refl _, List.prefix_append _ _⟩⟩
  exact q _ _ _ _ (x1.trans x4) h4 (.loc (by rw [← h1.len]; simp))⟩
end

/-! ### the law's end -/
def scriptD (ns : List Int) : D := .scr (ns.map D.int)
theorem ints_all {K : PySem.W.Frag} {F : Hp} {f : List Addr} : ∀ ns : List Int, IsAll K F f (ns.map V.int) (ns.map D.int)
  | [] => .nil
  | n :: ns => .cons (.int n) (ints_all ns)
/-- the frozen heap that knows nothing but the script -/
theorem held_only {K : PySem.W.Frag} {H : Hp} : Held K H [] [] H :=
  ⟨Evl.Ex.refl H, rfl, List.nodup_nil, fun n a o h => (by simp at h), fun a ha => absurd ha (by simp), fun n a o h => (by simp at h), fun n a ks ds h => (by simp at h)⟩
section
variable {P : Program} {w : World} {K : PySem.W.Frag} {mg mb : Str → Option Value} {k : Nat} {fa a : Addr} {fd : FuncData} {x : Str} {G : MF} {s : Shared} {vs : List Value} {ns : List Int}
/-- from a heap of which nothing is told but, perhaps, the script -/
theorem law_from {H : Hp} (KX : K.In s.heap) (hns : s.heap.Ns mainGlobals mg) (hmb : s.heap.Ns builtinsNs mb) (hbb : ∀ y : Str, y ≠ "__name__" → mb y = bootBuiltins y) (hlim : s.heap.NoLimit) (hg : s.gens = #[])
    (ha : s.heap.get? a = some { cls := .type "list", data := .seq vs.toArray }) (hr : Room k callerA) (Fn : ∀ base : Heap, K.In base → base.Ns mainGlobals mg → FnG P w K mg base k fa fd [x] 1 G) (hbind : ∀ (s : Shared) (u : Value), BindsTo s fd ⟨[u], []⟩ [(x, u)])
    (yes : ∃ S', G [scriptD ns] [] = some (.bl true, S')) (hS : SqL K H a (ns.map V.int)) (ok : HOk P w H s.heap) (only : ∀ b u, H b = some u → b = a ∧ K.lookup a = none ∧ u = .frz { cls := .type "list", data := .seq vs.toArray } (.lst (ns.map V.int))) :
    codeAny (model P w) callerA (.call (.ref fa) ⟨[.ref a], []⟩) (fun r s' => r = .ok (.ret (.bool true)) ∧ OldK s.heap s'.heap ∧ s'.os = s.os ∧ AllBare s'.gens) s := by
  have free : ∀ b, b ≠ a → H b = none := by
    intro b hb
    cases z : H b with
    | none => rfl
    | some u => exact absurd (only b u z).1 hb
  have stays : ∀ b o, s.heap.get? b = some o → H b = none → (hidT s.heap H).get? b = some o := fun b o q n => hidT_get q n
  have spaces : ∀ b m, s.heap.Ns b m → (hidT s.heap H).Ns b m := by
    intro b m hm
    obtain ⟨o, es, ep, ho, hd, rest⟩ := hm
    refine ⟨o, es, ep, stays b o ho (free b ?_), hd, rest⟩
    intro hb
    subst hb
    rw [ha] at ho
    cases ho
    cases hd
  have inB : K.In (hidT s.heap H) := by
    intro b o q
    refine stays b o (KX b o q) ?_
    cases z : H b with
    | none => rfl
    | some u =>
      obtain ⟨hb, hk, _⟩ := only b u z
      subst hb
      rw [hk] at q
      cases q
  obtain ⟨mc, c1, c2⟩ := hlim
  have modOk : Mod K mg (hidT s.heap H) := { kin := inB, glob := spaces _ _ hns, blt := ⟨mb, spaces _ _ hmb, hbb⟩, nolimit := ⟨mc, spaces _ _ c1, c2⟩ }
  have env : Env0 P w K mg (hidT s.heap H) callerA [] s H := { frames := rfl, mod := modOk, bs := fun b o q => of_hidT q, bsz := Nat.le_of_eq (hidT_size _ _), funs := trivial, frf := fun b hb => (nomatch hb), hok := ok, bare := .of_eq hg }
  obtain ⟨S', run⟩ := yes
  have promise : spD K 1 G [.ref a] H (fun v _ => v = .bl true) E0 := ⟨H, [], [], [scriptD ns], .bl true, S', held_only, .cons (.scr hS (ints_all ns)) .nil, rfl, run, fun v H' F' f' _ _ i => is_bl i⟩
  refine codeAny_mono ((Fn _ inB (spaces _ _ hns)).go callerA [] s H ⟨[.ref a], []⟩ [.ref a] [.ref a] _ hr rfl env (hbind s (.ref a)) (.cons rfl .nil) promise) fun r s' post => ?_
  cases r with
  | error e => exact post.elim
  | ok fl =>
    cases fl with
    | ret u =>
      obtain ⟨v, H', os, bare, un, ok', rel, hv⟩ := post
      have hv' : v = .bl true := hv
      subst hv'
      have hu : u = Value.bool true := rel
      subst hu
      refine ⟨rfl, OldK.of_keep fun b o q => ?_, os, bare⟩
      cases z : H b with
      | none => exact un.keep b o q z (fun m => (nomatch m)) (fun m => (nomatch m))
      | some t =>
        obtain ⟨hb, _, ht⟩ := only b t z
        subst ht
        obtain ⟨k1, _⟩ := ok b _ z
        obtain ⟨k2, _⟩ := ok' b _ (un.frzs b _ _ z)
        rw [q] at k1
        cases k1
        exact k2
    | _ => exact post.elim
theorem law_go (KX : K.In s.heap) (hns : s.heap.Ns mainGlobals mg) (hmb : s.heap.Ns builtinsNs mb) (hbb : ∀ y : Str, y ≠ "__name__" → mb y = bootBuiltins y) (hlim : s.heap.NoLimit) (hg : s.gens = #[])
    (ha : s.heap.get? a = some { cls := .type "list", data := .seq vs.toArray }) (hi : IntsAre vs ns) (hl : ns.length ≤ sizeLine) (hr : Room k callerA) (Fn : ∀ base : Heap, K.In base → base.Ns mainGlobals mg → FnG P w K mg base k fa fd [x] 1 G)
    (hbind : ∀ (s : Shared) (u : Value), BindsTo s fd ⟨[u], []⟩ [(x, u)]) (yes : ∃ S', G [scriptD ns] [] = some (.bl true, S')) :
    codeAny (model P w) callerA (.call (.ref fa) ⟨[.ref a], []⟩) (fun r s' => r = .ok (.ret (.bool true)) ∧ OldK s.heap s'.heap ∧ s'.os = s.os ∧ AllBare s'.gens) s := by
  cases hk : K.lookup a with
  | some o =>
    have q := KX a o hk
    rw [ha] at q
    cases q
    refine law_from (H := fun _ => none) KX hns hmb hbb hlim hg ha hr Fn hbind yes ?_ (fun b u z => (nomatch z)) (fun b u z => (nomatch z))
    exact .inr ⟨_, vs.toArray, _, hk, rfl, rfl, rfl, by rw [List.size_toArray, hi.length]; exact hl, by simpa using vals_ints hi⟩
  | none =>
    let script : HO := .frz { cls := .type "list", data := .seq vs.toArray } (.lst (ns.map V.int))
    have at_a : ∀ b u, (if b = a then some script else none) = some u → b = a ∧ u = script := by
      intro b u z
      by_cases hb : b = a
      · rw [if_pos hb] at z
        cases z
        exact ⟨hb, rfl⟩
      · rw [if_neg hb] at z
        cases z
    refine law_from (H := fun b => if b = a then some script else none) KX hns hmb hbb hlim hg ha hr Fn hbind yes (.inl (.inr ⟨_, if_pos rfl⟩)) (fun b u z => ?_) (fun b u z => ⟨(at_a b u z).1, hk, (at_a b u z).2⟩)
    obtain ⟨hb, hu⟩ := at_a b u z
    subst hb hu
    exact ⟨ha, by rw [List.length_map]; exact hl, vs, _, vals_ints hi, ha⟩
/-- THE END: in the place of walk_of -/
theorem walk_g {l : PySem.W.OpenLaw} {n k : Nat} {q : Program} {loose : List Str} {XP : (Str → Option Value) → Heap → Prop} {YP : World → Heap → Prop} {d : DefRec} {K : Params → PySem.W.Frag} {x : Str}
    (hn : l.most = some n) (hn2 : n ≤ sizeLine) (hdf : d.params.defaults = []) (hr : Room k callerA) (hY : ∀ (w : World) (h : Heap), YP w h → (K w.params).In h)
    (F : ∀ (w : World) (mg : Str → Option Value) (fa : Addr) (h : Heap), (K w.params).In h → h.Ns mainGlobals mg → mg d.name = some (.ref fa) →
      ∃ (fd : FuncData) (G : MF), (∀ (s : Shared) (u : Value), BindsTo s fd ⟨[u], []⟩ [(x, u)]) ∧ (∀ base : Heap, (K w.params).In base → base.Ns mainGlobals mg → FnG l.prog w (K w.params) mg base k fa fd [x] 1 G) ∧
        ∀ ns : List Int, ns.length ≤ n → ∃ S', G [scriptD ns] [] = some (.bl true, S')) :
    PySem.W.WalkO q loose XP YP l.row.toRowW d [] (fun f vs => PySem.call f vs) := by
  refine Att.attach_call hn hdf fun w s₀ s₁ mg mb fa o pm cd doc a vs ns gr Y ho hd hcd hmg hobj hints hlen hg => ?_
  have KX := hY w _ Y
  obtain ⟨fd, G, hb, hF, yes⟩ := F w mg fa _ KX gr.T.g hmg
  exact law_go KX gr.T.g gr.T.b gr.T.builtins gr.T.nolimit hg hobj hints (Nat.le_trans hlen hn2) hr hF hb (yes ns hlen)
end
end DL
/-! DL9: a def of the text and its function, in one word; types, isinstance, further built-ins. -/
namespace DL
open PySem L2 PyProof.Rows

/-- where a def of the text stands -/
structure Df (K : PySem.W.Frag) (mg : Str → Option Value) (x : Str) (st : Stmt) (ps : List Str) : Prop where
  ex : ∃ f fd, Fun K x x st f fd ∧ mg x = some (.ref f) ∧ PySem.W.keepIn K (.ref f) = true ∧ Binds K fd ps []
/-- it gives what G gives -/
structure Cal (P : Program) (w : World) (K : PySem.W.Frag) (mg : Str → Option Value) (base : Heap) (x : Str) (k n : Nat) (G : MF) : Prop where
  ex : ∃ f fd ps, FnG P w K mg base k f fd ps n G ∧ mg x = some (.ref f) ∧ PySem.W.keepIn K (.ref f) = true ∧ Binds K fd ps []
section
variable {P : Program} {w : World} {K : PySem.W.Frag} {mg : Str → Option Value} {base : Heap}
theorem cal_ok {x : Str} {st : Stmt} {N ps : List Str} {k : Nat} {m : MS} (D : Df K mg x st ps) (Sc : FnScope N ps (defScope st))
    (hb : ∀ {f : Addr} (cdv : Value) (A : Around) (fr : List PySem.Env) (s : Shared) (H : Hp), Room k (A.deeper (envOfC x (defScope st) s.heap.objs.size f cdv)) → (A.deeper (envOfC x (defScope st) s.heap.objs.size f cdv)).guards = some [] →
      ∃ t, DB (cxOf CX0 P w K mg base N x (defScope st) f cdv A fr s H E0).nox (defBody st) t m) : Cal P w K mg base x (k + 1) ps.length (fnM N.length m) := by
  obtain ⟨f, fd, F, h1, h2, h3⟩ := D.ex
  exact ⟨f, fd, ps, fn_ok F Sc (fun cdv A fr s H hr hg => hb cdv A fr s H hr hg), h1, h2, h3⟩
theorem Cal.imp {x : Str} {k n : Nat} {G G' : MF} (h : Cal P w K mg base x k n G) (l : ∀ ds S r, G' ds S = some r → G ds S = some r) : Cal P w K mg base x k n G' :=
  let ⟨f, fd, ps, F, r⟩ := h.ex
  ⟨f, fd, ps, F.imp l, r⟩
end
section
variable {X : Cx} {pos p : Pos} {x : Str} {e : Expr} {es : List Expr} {t : TA} {m : MA} {k n : Nat} {G : MF}
theorem d_cal (C : Cal X.prog X.w X.K X.mg X.base x k n G) (hr : Room k X.A) (hgd : X.A.guards = some []) (hg : Gl X x) (ha : DA X (e :: es) t m) (hdb : (x == ("__debug__" : Str)) = false := by decide)
    (he : starEach (e :: es) X.env = (false, eval e X.env) :: starEach es X.env := by rfl) (hpl : (backTo pos (starEach es X.env)).any (·.1) = false := by rfl) : DE X (.Call (.Name x p) (e :: es) [] pos) (tCB (rFn X.K n G) t) (mCall n G m) := by
  obtain ⟨f, fd, ps, F, h1, h2, h3⟩ := C.ex
  exact d_call F hr hgd hg h1 h2 h3 ha hdb he hpl
theorem d_cal0 (C : Cal X.prog X.w X.K X.mg X.base x k n G) (hr : Room k X.A) (hgd : X.A.guards = some []) (hg : Gl X x) (hdb : (x == ("__debug__" : Str)) = false := by decide) : DE X (.Call (.Name x p) [] [] pos) (tCB (rFn X.K n G) tNil) (mCall n G mNil) := by
  obtain ⟨f, fd, ps, F, h1, h2, h3⟩ := C.ex
  exact d_call0 F hr hgd hg h1 h2 h3 hdb
theorem s_par3 {i j l : Nat} {x y z : Str} {a b c : Expr} {ta : TA} {ma : MA} {px py pz pt : Pos} {kt k2 pt2} (hc : X.calm = true) (hN : X.N.Nodup) (hi : X.N[i]? = some x) (hj : X.N[j]? = some y) (hl : X.N[l]? = some z) (hij : i ≠ j) (hil : i ≠ l) (hjl : j ≠ l)
    (hx : X.env.scope.names.lookup x = some .local) (hy : X.env.scope.names.lookup y = some .local) (hz : X.env.scope.names.lookup z = some .local) (ha : DA X [a, b, c] ta ma)
    (hw : swappedStores [.Tuple [.Name x px, .Name y py, .Name z pz] kt pt] (.Tuple [a, b, c] k2 pt2) X.env = pure (some [x, y, z])) (hs : swapsWithSole [.Tuple [.Name x px, .Name y py, .Name z pz] kt pt] (.Tuple [a, b, c] k2 pt2) pos.line X.env = pure false := by rfl) :
    DS X (.Assign [.Tuple [.Name x px, .Name y py, .Name z pz] kt pt] (.Tuple [a, b, c] k2 pt2) pos) (tPar3 i j l ta) (mPar3 i j l ma) := ⟨ps_par3 hc hN hi hj hl hij hil hjl hx hy hz ha.pe hw hs, ss_par3 ha.se⟩
/-- a module's constant; a type -/
theorem d_glob {v : V} {d : D} {u : Value} (hg : Gl X x) (hm : X.mg x = some u) (r : RelV v u) (i : ∀ F f, Is X.K F f v d) (hd : (x == ("__debug__" : Str)) = false := by decide) : DE X (.Name x pos) (tC v) (mC d) := ⟨pe_glob hg hm r hd, se_c i⟩
theorem d_ty {T : String} (hg : Gl X x) (hm : X.mg x = none) (hv : bootBuiltins x = some (.type T)) (hn : x ≠ "__name__" := by decide) (hd : (x == ("__debug__" : Str)) = false := by decide) : DE X (.Name x pos) (tC (.ty T)) (mC (.ty T)) :=
  ⟨pe_bltn (v := .ty T) hg hm hv rfl hn hd, se_c fun _ _ => .ty T⟩
def mNeg (m : ME) : ME := fun E S => (m E S).bind fun p => match p.1 with | .int i => some (.int (-i), p.2) | _ => none
theorem d_neg {a : Expr} {ta : TE} {ma : ME} (h : DE X a ta ma) : DE X (.UnaryOp .USub a pos) (tUn (rU fun i => .int (-i)) ta) (mNeg ma) := ⟨pe_un un_neg h.pe, by
  intro F f S H σ E d S' A eq Q q
  obtain ⟨⟨y, S1⟩, e1, eq⟩ := bind_some' eq
  cases y <;> try (cases eq; done)
  cases eq
  exact h.se F f S H σ E _ _ A e1 _ fun v H1 F1 f1 x1 h1 i1 => ⟨_, is_int i1, q _ H1 F1 f1 x1 h1 (.int _)⟩⟩
end

/-! ### isinstance -/
def tyName (S : Sto) : D → Option String
  | .non => some "NoneType" | .bl _ => some "bool" | .int _ => some "int" | .str _ => some "str" | .tup _ => some "tuple" | .lst _ => some "list" | .dic _ _ => some "dict"
  | .loc n => match S[n]? with | some (.lst _) => some "list" | some (.dic _ _) => some "dict" | _ => none
  | _ => none
theorem tyName_ok {K : PySem.W.Frag} {F H : Hp} {f : List Addr} {S : Sto} {v : V} {d : D} {T : String} (h : Held K F f S H) (i : Is K F f v d) (e : tyName S d = some T) : TyX K H v (.type T) := by
  cases i with
  | non => cases e; exact .base .non
  | bl b => cases e; exact .base (.bl b)
  | int j => cases e; exact .base (.int j)
  | str x => cases e; exact .base (.str x)
  | lst ha _ => cases e; exact .base (.lst (h.ex _ _ ha))
  | dic ha _ _ => cases e; exact .base (.dK (h.ex _ _ ha))
  | tup ha _ =>
    cases e
    rcases Evl.ex_t h.ex (SqT.of ha) with (z | ⟨o, z⟩) | ⟨o, its, n, hk, hc, _⟩
    · exact .base (.tup z)
    · exact .fTuple z
    · exact .kTuple hk hc
  | loc ha =>
    rename_i a n
    simp only [tyName] at e
    cases es : S[n]? with
    | none => rw [es] at e; cases e
    | some o =>
      rw [es] at e
      cases o <;> simp only at e <;> cases e
      · obtain ⟨vs, e1, _⟩ := h.ob n a _ ha es
        exact .base (.lst e1)
      · obtain ⟨kvs, e1, _⟩ := h.ob n a _ ha es
        exact .base (.dK e1)
  | _ => cases e
def gIsi : MR := fun ds S => match ds with
  | [d, .ty n] => (tyName S d).bind fun a => (kitB a n).map fun b => (.bl b, S)
  | _ => none
theorem rc_isi {K : PySem.W.Frag} : RCD K (rIsi K) gIsi := by
  intro F f S H vs ds d S' hh r e Q q
  unfold gIsi at e
  split at e
  · rename_i d1 n
    obtain ⟨a, e1, e⟩ := bind_some' e
    obtain ⟨b, e2, e⟩ := map_some' e
    cases e
    obtain ⟨v, w, rfl, i1, i2⟩ := all2 r
    cases i2
    exact ⟨v, _, .type a, .type n, b, rfl, .ty n, tyName_ok hh i1 e1, kit_ty e2, q.now hh (.bl _)⟩
  · cases e
theorem bt_int : bootBuiltins "int" = some (.type "int") := by decide +kernel
theorem bt_len : bootBuiltins "len" = some (.builtin "len") := by decide +kernel
theorem bt_range : bootBuiltins "range" = some (.type "range") := by decide +kernel
theorem bt_str : bootBuiltins "str" = some (.type "str") := by decide +kernel
theorem bt_bool : bootBuiltins "bool" = some (.type "bool") := by decide +kernel
theorem bt_tuple : bootBuiltins "tuple" = some (.type "tuple") := by decide +kernel
theorem bt_list : bootBuiltins "list" = some (.type "list") := by decide +kernel
theorem bt_isinstance : bootBuiltins "isinstance" = some (.builtin "isinstance") := by decide +kernel
theorem bt_repr : bootBuiltins "repr" = some (.builtin "repr") := by decide +kernel
theorem bt_sum : bootBuiltins "sum" = some (.builtin "sum") := by decide +kernel
theorem bt_sorted : bootBuiltins "sorted" = some (.builtin "sorted") := by decide +kernel
theorem bt_set : bootBuiltins "set" = some (.type "set") := by decide +kernel
theorem bt_dict : bootBuiltins "dict" = some (.type "dict") := by decide +kernel

/-! ### repr: a text that is the same for the same tree -/
def rReprD (K : PySem.W.Frag) : List V → Hp → VK → Prop := fun xs H Q => ∃ x p, xs = [x] ∧ Dp K H x p ∧ p.showable = true ∧ p.hasDict = false ∧ p.depth ≤ 60 ∧ p.shown.length ≤ sizeLine ∧ Q (.str p.shown) H
theorem call_reprD {X : Cx} {k : Nat} (hr : Room k X.A) (hg : X.A.guards = some []) : CallR X (.builtin "repr") (rReprD X.K) := by
  intro pins s σ H xs us Q I r h
  obtain ⟨x, p, rfl, hd, hsh, hno, hdep, hsz, q⟩ := h
  obtain ⟨u, rfl, ru⟩ := vals1 r
  have hun := hr.units
  cases hd with
  | non => cases ru; exact PySem.P.repr_of_none ⟨.str _, H, I.tok _, ⟨_, rfl⟩, q⟩
  | bl b => cases ru; exact PySem.P.repr_of_bool ⟨.str _, H, I.tok _, ⟨_, rfl⟩, q⟩
  | int i =>
    obtain ⟨t, rfl⟩ := ru
    exact PySem.P.repr_of_int (by simpa [PyData.showable] using hsh) ⟨.str _, H, I.tok _, ⟨_, rfl⟩, q⟩
  | str y =>
    obtain ⟨t, rfl⟩ := ru
    exact PySem.P.repr_of_str ⟨.str _, H, I.tok _, ⟨_, rfl⟩, q⟩ (by simpa only [PyData.shown] using hsz)
  | lst hs ha =>
    obtain ⟨as, rd⟩ := Dp.reads I _ _ u (.lst hs ha) ru
    cases ru
    exact repr_of_reads' rd hsh (fun z => by rw [hno] at z; cases z) hg (by omega) (fun _ _ z => z) (fun h' t tk hk => ⟨.str _, H, I.kept (t' := tk) hk, ⟨_, rfl⟩, q⟩) hsz
  | tup hs ha =>
    obtain ⟨as, rd⟩ := Dp.reads I _ _ u (.tup hs ha) ru
    cases ru
    exact repr_of_reads' rd hsh (fun z => by rw [hno] at z; cases z) hg (by omega) (fun _ _ z => z) (fun h' t tk hk => ⟨.str _, H, I.kept (t' := tk) hk, ⟨_, rfl⟩, q⟩) hsz
def showOk (p : PyData) : Bool := p.showable && (!p.hasDict && (decide (p.depth ≤ 60) && decide (p.shown.length ≤ sizeLine)))
def gRepr : MR := fun ds S => match ds with
  | [d] => (toPS S d).bind fun p => if showOk p = true then some (.str p.shown, S) else none
  | _ => none
theorem rc_repr {K : PySem.W.Frag} : RCD K (rReprD K) gRepr := by
  intro F f S H vs ds d S' hh r e Q q
  unfold gRepr at e
  split at e
  · rename_i d1
    obtain ⟨p, e1, e⟩ := bind_some' e
    by_cases hs : showOk p = true
    · rw [if_pos hs] at e
      cases e
      obtain ⟨v, rfl, i1⟩ := all1 r
      simp only [showOk, Bool.and_eq_true, Bool.not_eq_true', decide_eq_true_eq] at hs
      exact ⟨v, p, rfl, i1.dpS hh e1, hs.1, hs.2.1, hs.2.2.1, hs.2.2.2, q.now hh (.str _)⟩
    · rw [if_neg hs] at e
      cases e
  · cases e
end DL
/-! DLZ: zip of two texts, enumerate of a tuple; as sources of loops. -/
namespace DL
open PySem L2 PyProof.Rows

/-- the i-th signs of both texts, in a new pair -/
def Itzs (x y : Str) : It :=
  ⟨fun i _ => i < min x.cps.size y.cps.size,
   fun i H v H' => ∃ T c d, v = .ref T ∧ H T = none ∧ H' = upd H T (.tup [.str ⟨#[c]⟩, .str ⟨#[d]⟩]) ∧ x.cps[i]? = some c ∧ y.cps[i]? = some d,
   fun i _ => i = min x.cps.size y.cps.size⟩
def zsSt (x y : Str) (t u : Tok) (z TI TO i1 i2 : Addr) (i : Nat) (h : Heap) : Prop :=
  IsZip h z TI TO .none ∧ IsTupOf2 h TI (.ref i1) (.ref i2) ∧ (∃ a1 a2, IsTupOf2 h TO a1 a2) ∧ h.IsStrIter i1 (strIterType x) x t i ∧ h.IsStrIter i2 (strIterType y) y u i
theorem turn_zipS {P : Program} {w : World} {K : PySem.W.Frag} {elts : List Expr} {kk : Nat} {tpos : Pos} {x y : Str} {t u : Tok} {z TI TO i1 i2 : Addr} (D : ZipSep2 z TI TO i1 i2 [i1] [i2]) :
    Turn P w K (.Tuple elts kk tpos) (Itzs x y) [z, TI, TO, i1, i2] z (zsSt x y t u z TI TO i1 i2) where
  mem := List.mem_cons_self
  obj := by
    intro i h st b hb
    obtain ⟨h1, h2, ⟨a1, a2, h3⟩, ⟨o1, e1, _, d1⟩, ⟨o2, e2, _, d2⟩⟩ := st
    simp only [List.mem_cons, List.not_mem_nil, or_false] at hb
    rcases hb with rfl | rfl | rfl | rfl | rfl
    · exact ⟨_, h1, fun v q => nomatch q⟩
    · exact ⟨_, h2, fun v q => nomatch q⟩
    · exact ⟨_, h3, fun v q => nomatch q⟩
    · exact ⟨o1, e1, fun v q => by rw [d1] at q; cases q⟩
    · exact ⟨o2, e2, fun v q => by rw [d2] at q; cases q⟩
  keep := by
    intro i h h' st k
    obtain ⟨h1, h2, ⟨a1, a2, h3⟩, ⟨o1, e1, r1⟩, ⟨o2, e2, r2⟩⟩ := st
    exact ⟨k z (by simp) _ h1, k TI (by simp) _ h2, ⟨a1, a2, k TO (by simp) _ h3⟩, ⟨o1, k i1 (by simp) _ e1, r1⟩, ⟨o2, k i2 (by simp) _ e2, r2⟩⟩
  item := by
    intro X hP hw hK hc i pins s σ H E I hf st hi
    subst hP hw hK
    have W := WalksT.zipD2 (prog := X.prog) (w := X.w) (A := X.A) D (Draws.text (A := X.A.in1) (I.ok.hd hc) i1 x t) (Draws.text (A := X.A.in1) (I.ok.hd hc) i2 y u)
    refine W.item i s _ _ hi st fun T vals h' tk hpt hT hTup hMid hk => ?_
    obtain ⟨x1, x2, ⟨c, t1, hc1, rfl⟩, ⟨d, t2, hd1, rfl⟩, rfl⟩ := hpt
    refine ⟨_, rfl, W.go elts kk tpos i T { s with heap := h', toks := tk } _ _ hMid fun h'' hst hk2 => ?_⟩
    have hnw := W.apart i T h' hMid
    obtain ⟨oT, hoT, hcT, nT, hdT⟩ := hTup
    have hoT2 := hk2 T oT hnw hoT
    have all : ∀ b o, b ∉ [z, TI, TO, i1, i2] → s.heap.get? b = some o → h''.get? b = some o := by
      intro b o hb q
      have hb' : b ∉ [z, TO, i1, i2] := by
        simp only [List.mem_cons, List.not_mem_nil, or_false, not_or] at hb ⊢
        exact ⟨hb.1, hb.2.2.1, hb.2.2.2.1, hb.2.2.2.2⟩
      exact hk2 b o hb' (hk b o hb' q)
    have new : ObjOk X.prog X.w (upd H T (.tup [.str ⟨#[c]⟩, .str ⟨#[d]⟩])) h'' T (.tup [.str ⟨#[c]⟩, .str ⟨#[d]⟩]) :=
      ⟨by show 2 ≤ sizeLine; decide, [.str ⟨#[c]⟩ t1, .str ⟨#[d]⟩ t2], .cons ⟨_, rfl⟩ (.cons ⟨_, rfl⟩ .nil), ⟨oT, hoT2, hcT, nT, hdT⟩⟩
    have J := I.turnedNew (t' := tk) (ch := [z, TI, TO, i1, i2]) all hf hT new
    refine ⟨.ref T, _, J, rfl, ⟨T, c, d, rfl, I.hok.fresh hT, rfl, hc1, hd1⟩, hst, fun b hb => ?_⟩
    have hne : b ≠ T := by
      obtain ⟨o, q, _⟩ : ∃ o, s.heap.get? b = some o ∧ True := by
        obtain ⟨h1, h2, ⟨a1, a2, h3⟩, ⟨o1, e1, _⟩, ⟨o2, e2, _⟩⟩ := st
        simp only [List.mem_cons, List.not_mem_nil, or_false] at hb
        rcases hb with rfl | rfl | rfl | rfl | rfl
        · exact ⟨_, h1, trivial⟩
        · exact ⟨_, h2, trivial⟩
        · exact ⟨_, h3, trivial⟩
        · exact ⟨_, e1, trivial⟩
        · exact ⟨_, e2, trivial⟩
      exact Nat.ne_of_lt (Nat.lt_of_lt_of_le (Heap.lt_size q) hT)
    rw [upd_ne hne]
    exact (hf b hb).1
  done := by
    intro X hP hw hK hc i pins s σ H E I hf st hi
    subst hP hw hK
    have W := WalksT.zipD2 (prog := X.prog) (w := X.w) (A := X.A) D (Draws.text (A := X.A.in1) (I.ok.hd hc) i1 x t) (Draws.text (A := X.A.in1) (I.ok.hd hc) i2 y u)
    have hi' : i = min x.cps.size y.cps.size := hi
    subst hi'
    refine W.done s _ _ st fun h' tk hk => ⟨rfl, I.turnedL (t' := tk) (ch := [z, TI, TO, i1, i2]) (fun b o hb q => hk b o ?_ q) hf⟩
    simp only [List.mem_cons, List.not_mem_nil, or_false, not_or] at hb ⊢
    exact ⟨hb.1, hb.2.2.1, hb.2.2.2.1, hb.2.2.2.2⟩
  self := fun A i s Q E st h => wpAny_pyIter_zip st.1 h
def iZipS (ta : TA) : TI := fun σ H R => ta σ H fun vs H1 => ∃ x y, vs = [.str x, .str y] ∧ R (Itzs x y) H1
theorem pi_zipS {X : Cx} {e e2 : Expr} {ta : TA} {p pos tpos : Pos} {elts : List Expr} {kk : Nat} (hg : Gl X "zip") (hm : X.mg "zip" = none) (ha : PA X [e, e2] ta) (hs : starEach [e, e2] X.env = (false, eval e X.env) :: starEach [e2] X.env := by rfl) (hpl : (backTo pos (starEach [e2] X.env)).any (·.1) = false := by rfl) :
    PI X (.Tuple elts kk tpos) (.Call (.Name "zip" p) [e, e2] [] pos) (iZipS ta) := by
  refine ⟨fun pins s σ H R I h => Call_ (ld_blt I hg hm PyProof.Rows.boot_zip ?_)⟩
  refine PyProof.Rows.callWith_type1 (thn (ha.run pos pins s σ H _ I h) fun us s1 post => ?_) hs hpl
  obtain ⟨vs, H1, I1, rv, x, y, rfl, q⟩ := post
  cases rv with
  | cons r1 rr =>
    cases rr with
    | cons r2 rr =>
      cases rr
      obtain ⟨t, rfl⟩ := r1
      obtain ⟨u, rfl⟩ := r2
      refine zip_begins2 (begins_text x t) (begins_text y u) trivial trivial fun h' hz hTI hTO g1 g2 hsz hk => wpAny_pyIter_zip hz ?_
      have I2 : Inv X pins σ H1 { s1 with heap := h' } := I1.kept (t' := s1.toks) hk
      refine ⟨s1.heap.objs.size + 4, [s1.heap.objs.size + 4, s1.heap.objs.size + 2, s1.heap.objs.size + 3, s1.heap.objs.size, s1.heap.objs.size + 1], _, Itzs x y, H1, rfl, I2, turn_zipS (t := t) (u := u) (zip_sep2 (fp1 := []) (fp2 := []) (fun _ z => nomatch z) (fun _ z => nomatch z)), ⟨hz, hTI, ⟨_, _, hTO⟩, ⟨_, g1, rfl, rfl⟩, ⟨_, g2, rfl, rfl⟩⟩, fun b hb => ?_, q⟩
      have hle : s1.heap.objs.size ≤ b := by
        simp only [List.mem_cons, List.not_mem_nil, or_false] at hb
        rcases hb with rfl | rfl | rfl | rfl | rfl
        · exact Nat.le_add_right _ _
        · exact Nat.le_add_right _ _
        · exact Nat.le_add_right _ _
        · exact Nat.le_refl _
        · exact Nat.le_add_right _ _
      exact I1.fpOk hle (I1.hok.fresh hle)

/-! ### enumerate(tuple) -/
def Itet (K : PySem.W.Frag) (a : Addr) : It :=
  ⟨fun i H => ∃ (xs : List V) (x : V), SqT K H a xs ∧ xs[i]? = some x, fun i H v H' => ∃ T x, v = .ref T ∧ H T = none ∧ H' = upd H T (.tup [.int (i : Nat), x]) ∧ ∀ xs, SqT K H a xs → xs[i]? = some x, fun i H => ∃ xs : List V, SqT K H a xs ∧ xs.length = i⟩
theorem turn_enumT {P : Program} {w : World} {K : PySem.W.Frag} {elts : List Expr} {kk : Nat} {tpos : Pos} {a e it : Addr} (hei : e ≠ it) (hae : a ≠ e) (hai : a ≠ it) :
    Turn P w K (.Tuple elts kk tpos) (Itet K a) [e, it] e (fun i h => (∃ old, IsEnum h e it (0 + (i : Int)) old) ∧ h.IsTupleIter it a i) where
  mem := List.mem_cons_self
  obj := by
    intro i h st b hb
    obtain ⟨⟨old, h1⟩, ⟨o, h2, _, d2⟩⟩ := st
    simp only [List.mem_cons, List.not_mem_nil, or_false] at hb
    rcases hb with rfl | rfl
    · exact ⟨_, h1, fun v q => nomatch q⟩
    · exact ⟨o, h2, fun v q => by rw [d2] at q; cases q⟩
  keep := by
    intro i h h' st k
    obtain ⟨⟨old, h1⟩, h2⟩ := st
    exact ⟨⟨old, k e (by simp) _ h1⟩, h2.at fun o q => k it (by simp) o q⟩
  item := by
    intro X hP hw hK hc i pins s σ H E I hf st hg
    subst hP hw hK
    obtain ⟨xs, v0, hq, hx⟩ := hg
    obtain ⟨its, rv, ht, hz⟩ := I.tuple hq
    obtain ⟨u0, hu, ru⟩ := rv.get hx
    have hlen := rv.length
    have hi : i < its.toArray.size := by
      have := (List.getElem?_eq_some_iff.mp hx).1
      rw [List.size_toArray, ← hlen]
      exact this
    have W := WalksT.enumFrom (prog := X.prog) (w := X.w) (A := X.A) 0 (Draws.tuple (A := X.A.in1) (I.ok.hd hc) it a hai its.toArray) e hei (by simp [hei, Ne.symm hae]) (by simp)
    refine W.item i s _ _ hi ⟨st.1, st.2, ht⟩ fun T vals h' tk hpt hT hTup hMid hk => ?_
    obtain ⟨t1, x1, hx1, rfl⟩ := hpt
    have ex : x1 = u0 := by
      have h1 : its.toArray[i]? = some x1 := hx1
      rw [List.getElem?_toArray, hu] at h1
      exact (Option.some.inj h1).symm
    subst ex
    refine ⟨_, rfl, W.go elts kk tpos i T { s with heap := h', toks := tk } _ _ hMid fun h'' hst hk2 => ?_⟩
    have hnw := W.apart i T h' hMid
    obtain ⟨oT, hoT, hcT, nT, hdT⟩ := hTup
    have hoT2 := hk2 T oT hnw hoT
    have e0 : (0 : Int) + (i : Int) = ((i : Nat) : Int) := Int.zero_add _
    have new : ObjOk X.prog X.w (upd H T (.tup [.int (i : Nat), v0])) h'' T (.tup [.int (i : Nat), v0]) :=
      ⟨by show 2 ≤ sizeLine; decide, [.int (0 + (i : Int)) t1, x1], .cons (by rw [e0]; exact ⟨_, rfl⟩) (.cons ru .nil), ⟨oT, hoT2, hcT, nT, hdT⟩⟩
    have J := I.turnedNew (t' := tk) (ch := [e, it]) (fun b o hb q => hk2 b o hb (hk b o hb q)) hf hT new
    refine ⟨.ref T, _, J, rfl, ⟨T, v0, rfl, I.hok.fresh hT, rfl, fun ys hy => by rw [I.tuple_inj hy hq]; exact hx⟩, ⟨hst.1, hst.2.1⟩, fun b hb => ?_⟩
    have hne : b ≠ T := by
      have : ∃ o, s.heap.get? b = some o := by
        obtain ⟨⟨old, h1⟩, ⟨o, h2, _⟩⟩ := st
        simp only [List.mem_cons, List.not_mem_nil, or_false] at hb
        rcases hb with rfl | rfl
        · exact ⟨_, h1⟩
        · exact ⟨_, h2⟩
      obtain ⟨o, q⟩ := this
      exact Nat.ne_of_lt (Nat.lt_of_lt_of_le (Heap.lt_size q) hT)
    rw [upd_ne hne]
    exact (hf b hb).1
  done := by
    intro X hP hw hK hc i pins s σ H E I hf st hg
    subst hP hw hK
    obtain ⟨xs, hq, hx⟩ := hg
    obtain ⟨its, rv, ht, hz⟩ := I.tuple hq
    have hlen := rv.length
    have hi : i = its.toArray.size := by rw [List.size_toArray, ← hlen, hx]
    have W := WalksT.enumFrom (prog := X.prog) (w := X.w) (A := X.A) 0 (Draws.tuple (A := X.A.in1) (I.ok.hd hc) it a hai its.toArray) e hei (by simp [hei, Ne.symm hae]) (by simp)
    subst hi
    exact W.done s _ _ ⟨st.1, st.2, ht⟩ fun h' tk hk => ⟨rfl, I.turnedL (t' := tk) (ch := [e, it]) (fun b o hb q => hk b o hb q) hf⟩
  self := fun A i s Q E st h => let ⟨⟨_, he⟩, _⟩ := st; wpAny_pyIter_enum he h
theorem new_enumT (t : Addr) (items : Array Value) :
    PySem.Meets (Builtin.«enumerate.__new__» ⟨[.type "enumerate", .ref t], []⟩) (fun _ R s => s.heap.IsTuple t items ∧
      R (.ok (.ret (.ref (s.heap.objs.size + 1)))) { s with heap := (s.heap.push { cls := .type "tuple_iterator", data := .fields #[.ref t, .int 0 0] }).push { cls := .type "enumerate", data := .fields #[.none, .bool false, .ref s.heap.objs.size, rawInt 0, .none, .none] } }) :=
  .of_wp fun prog w A R s both => by
    obtain ⟨hp, gens, dr, toks, os⟩ := s
    obtain ⟨isT, fin⟩ := both
    have sub := sub_enumerate
    have step : ∀ {A' : Around} {E : Value → Shared → Prop} {Q : Value → Shared → Prop}, Q (.ref hp.objs.size) ⟨hp.push { cls := .type "tuple_iterator", data := .fields #[.ref t, .int 0 0] }, gens, dr, toks, os⟩ → wpAny (model prog w) A' (pyIter (.ref t)) Q E ⟨hp, gens, dr, toks, os⟩ :=
      fun q => wpAny_pyIter_tuple isT q
    have sz : (hp.push { cls := .type "tuple_iterator", data := .fields #[.ref t, .int 0 0] }).objs.size = hp.objs.size + 1 := Heap.size_push ..
    rw [← sz] at fin
    wp_walk using step
    refine wpAny_stack_any fun st => wpAny_pure ?_
    split
    · rename_i c _ _ _ _ _
      cases (c == Value.type "enumerate") <;> (wp_walk using step; exact ⟨_, rfl, fin⟩)
    · wp_walk using step
      exact ⟨_, rfl, fin⟩
theorem call_enumT {prog : Program} {w : World} {A : Around} {E : Value → Shared → Prop} {s : Shared} {t : Addr} {items : Array Value} {Q : Value → Shared → Prop} (isT : s.heap.IsTuple t items)
    (fin : ∀ h', IsEnum h' (s.heap.objs.size + 1) s.heap.objs.size 0 .none → h'.IsTupleIter s.heap.objs.size t 0 → (∀ b o, s.heap.get? b = some o → h'.get? b = some o) → Q (.ref (s.heap.objs.size + 1)) { s with heap := h' }) :
    wpAny (model prog w) A (call (.type "enumerate") [.ref t]) Q E s := by
  refine callType_new F.called_enumerate (by decide) (F.typeCall_enumerate_1 _) (F.newCall_enumerate_1 _) (fun obj => F.args_object_init_2 obj _) F.entry_enumerate_new (new_enumT t items) ⟨isT, ?_⟩
  have sz : (s.heap.push { cls := .type "tuple_iterator", data := .fields #[.ref t, .int 0 0] }).objs.size = s.heap.objs.size + 1 := Heap.size_push ..
  have he : IsEnum ((s.heap.push { cls := .type "tuple_iterator", data := .fields #[.ref t, .int 0 0] }).push { cls := .type "enumerate", data := .fields #[.none, .bool false, .ref s.heap.objs.size, rawInt 0, .none, .none] }) (s.heap.objs.size + 1) s.heap.objs.size 0 .none := by
    have q := Heap.get?_push_size (s.heap.push { cls := .type "tuple_iterator", data := .fields #[.ref t, .int 0 0] }) (o := { cls := .type "enumerate", data := .fields #[.none, .bool false, .ref s.heap.objs.size, rawInt 0, .none, .none] }) rfl
    rw [sz] at q
    exact q
  exact ⟨⟨_, he, rfl⟩, fin _ he ⟨_, Heap.get?_push_of_some _ (Heap.get?_push_size _ rfl), rfl, rfl⟩ fun b o q => Heap.get?_push_of_some _ (Heap.get?_push_of_some _ q)⟩
def iEnumT (K : PySem.W.Frag) (ta : TA) : TI := fun σ H R => ta σ H fun vs H1 => ∃ a xs, vs = [.ref a] ∧ SqT K H1 a xs ∧ R (Itet K a) H1
theorem pi_enumT {X : Cx} {e : Expr} {ta : TA} {p pos tpos : Pos} {elts : List Expr} {kk : Nat} (hg : Gl X "enumerate") (hm : X.mg "enumerate" = none) (ha : PA X [e] ta) (hs : starEach [e] X.env = [(false, eval e X.env)] := by rfl) :
    PI X (.Tuple elts kk tpos) (.Call (.Name "enumerate" p) [e] [] pos) (iEnumT X.K ta) := by
  refine ⟨fun pins s σ H R I h => Call_ (ld_blt I hg hm boot_enumerate ?_)⟩
  refine PyProof.Rows.callWith_type1 (thn (ha.run pos pins s σ H _ I h) fun us s1 post => ?_) hs rfl
  obtain ⟨vs, H1, I1, rv, a, xs, rfl, hq, q⟩ := post
  cases rv with
  | cons r1 rr =>
    cases rr
    cases r1
    obtain ⟨its, rvx, ht, hz⟩ := I1.tuple hq
    have la : a < s1.heap.objs.size := IsTup.lt ht
    refine call_enumT ht fun h' he hit hk => wpAny_pyIter_enum he ?_
    have I2 : Inv X pins σ H1 { s1 with heap := h' } := I1.kept (t' := s1.toks) hk
    refine ⟨s1.heap.objs.size + 1, [s1.heap.objs.size + 1, s1.heap.objs.size], _, Itet X.K a, H1, rfl, I2, turn_enumT (Nat.succ_ne_self _) (Nat.ne_of_lt (Nat.lt_succ_of_lt la)) (Nat.ne_of_lt la), ⟨⟨.none, he⟩, hit⟩, fun b hb => ?_, q⟩
    have hle : s1.heap.objs.size ≤ b := by
      simp only [List.mem_cons, List.not_mem_nil, or_false] at hb
      rcases hb with rfl | rfl
      · exact Nat.le_add_right _ _
      · exact Nat.le_refl _
    exact I1.fpOk hle (I1.hok.fresh hle)

/-! ### as sources -/
def numbered : Nat → List D → List D
  | _, [] => []
  | i, d :: ds => .tup [.int (i : Nat), d] :: numbered (i + 1) ds
theorem numbered_len : ∀ (i : Nat) (ds : List D), (numbered i ds).length = ds.length
  | _, [] => rfl
  | i, _ :: ds => congrArg (· + 1) (numbered_len (i + 1) ds)
theorem numbered_get : ∀ (k : Nat) (ds : List D) (i : Nat) (d : D), (numbered k ds)[i]? = some d → ∃ x, ds[i]? = some x ∧ d = .tup [.int ((k + i : Nat) : Int), x]
  | _, [], i, d, e => by simp [numbered] at e
  | k, y :: ds, 0, d, e => by
    simp only [numbered, List.getElem?_cons_zero, Option.some.injEq] at e
    exact ⟨y, rfl, e.symm⟩
  | k, y :: ds, i + 1, d, e => by
    simp only [numbered, List.getElem?_cons_succ] at e
    obtain ⟨x, h1, h2⟩ := numbered_get (k + 1) ds i d e
    refine ⟨x, by simpa using h1, ?_⟩
    rw [h2]
    have : k + 1 + i = k + (i + 1) := by omega
    rw [this]
def mEnumerate (m : MA) : MA := fun E S => (m E S).bind fun p => match p.1 with
  | [.lst ds] => some (numbered 0 ds, p.2)
  | [.tup ds] => some (numbered 0 ds, p.2)
  | _ => none
def mZip (m : MA) : MA := fun E S => (m E S).bind fun p => match p.1 with
  | [.str x, .str y] => some (List.zipWith (fun c d => D.tup [.str ⟨#[c]⟩, .str ⟨#[d]⟩]) x.cps.toList y.cps.toList, p.2)
  | _ => none
section
variable {X : Cx} {K : PySem.W.Frag} {e e2 : Expr} {ta : TA} {ma : MA} {p pos tpos : Pos} {elts : List Expr} {kk : Nat}
theorem items_enumL {F : Hp} {f : List Addr} {a : Addr} {vs : List V} {ds : List D} (h : SqL K F a vs) (r : IsAll K F f vs ds) : Items K (Ite K a) F f (numbered 0 ds) := by
  refine ⟨fun F2 f2 S2 H2 x hh => ⟨vs, Evl.ex_l (x.ex.trans hh.ex) h, by rw [numbered_len, r.length]; exact Nat.le_refl _⟩, fun i d F2 f2 S2 H2 e x hh => ?_, fun i d F2 f2 S2 H2 v H3 e x hh y => ?_⟩
  · obtain ⟨d', e1, _⟩ := numbered_get 0 ds i d e
    obtain ⟨v, h1, _⟩ := r.get e1
    exact ⟨vs, v, Evl.ex_l (x.ex.trans hh.ex) h, h1⟩
  · obtain ⟨T, v', rfl, hT, rfl, y⟩ := y
    obtain ⟨d', e1, rfl⟩ := numbered_get 0 ds i d e
    obtain ⟨v'', h1, h2⟩ := r.get e1
    have q := y vs (Evl.ex_l (x.ex.trans hh.ex) h)
    rw [h1] at q
    cases q
    obtain ⟨h4, x4⟩ := hh.put (o := .tup [.int (i : Nat), v']) hT
    refine ⟨_, x4, h4, .tup upd_same (.cons ?_ (.cons ((h2.mono x).mono x4) .nil))⟩
    rw [Nat.zero_add]
    exact .int _
theorem items_enumT {F : Hp} {f : List Addr} {a : Addr} {vs : List V} {ds : List D} (h : SqT K F a vs) (r : IsAll K F f vs ds) : Items K (Itet K a) F f (numbered 0 ds) := by
  refine ⟨fun F2 f2 S2 H2 x hh => ⟨vs, Evl.ex_t (x.ex.trans hh.ex) h, by rw [numbered_len, r.length]⟩, fun i d F2 f2 S2 H2 e x hh => ?_, fun i d F2 f2 S2 H2 v H3 e x hh y => ?_⟩
  · obtain ⟨d', e1, _⟩ := numbered_get 0 ds i d e
    obtain ⟨v, h1, _⟩ := r.get e1
    exact ⟨vs, v, Evl.ex_t (x.ex.trans hh.ex) h, h1⟩
  · obtain ⟨T, v', rfl, hT, rfl, y⟩ := y
    obtain ⟨d', e1, rfl⟩ := numbered_get 0 ds i d e
    obtain ⟨v'', h1, h2⟩ := r.get e1
    have q := y vs (Evl.ex_t (x.ex.trans hh.ex) h)
    rw [h1] at q
    cases q
    obtain ⟨h4, x4⟩ := hh.put (o := .tup [.int (i : Nat), v']) hT
    refine ⟨_, x4, h4, .tup upd_same (.cons ?_ (.cons ((h2.mono x).mono x4) .nil))⟩
    rw [Nat.zero_add]
    exact .int _
theorem items_zipS {F : Hp} {f : List Addr} {x y : Str} : Items K (Itzs x y) F f (List.zipWith (fun c d => D.tup [.str ⟨#[c]⟩, .str ⟨#[d]⟩]) x.cps.toList y.cps.toList) := by
  have len : (List.zipWith (fun c d => D.tup [.str ⟨#[c]⟩, .str ⟨#[d]⟩]) x.cps.toList y.cps.toList).length = min x.cps.size y.cps.size := by rw [List.length_zipWith]; rfl
  refine ⟨fun F2 f2 S2 H2 _ _ => len, fun i d F2 f2 S2 H2 e _ _ => by show i < min x.cps.size y.cps.size; rw [← len]; exact (List.getElem?_eq_some_iff.mp e).1, fun i d F2 f2 S2 H2 v H3 e ex hh z => ?_⟩
  obtain ⟨T, c, d', rfl, hT, rfl, hc, hd⟩ := z
  rw [List.getElem?_zipWith, Array.getElem?_toList, Array.getElem?_toList, hc, hd] at e
  cases e
  obtain ⟨h4, x4⟩ := hh.put (o := .tup [.str ⟨#[c]⟩, .str ⟨#[d']⟩]) hT
  exact ⟨_, x4, h4, .tup upd_same (.cons (.str _) (.cons (.str _) .nil))⟩
theorem i_enumerate (hg : Gl X "enumerate") (hm : X.mg "enumerate" = none) (ha : DA X [e] ta ma) (hs : starEach [e] X.env = [(false, eval e X.env)] := by rfl) :
    DI X (.Tuple elts kk tpos) (.Call (.Name "enumerate" p) [e] [] pos) (fun σ H R => iEnum X.K ta σ H R ∨ iEnumT X.K ta σ H R) (mEnumerate ma) := by
  refine ⟨pi_or (pi_enum hg hm ha.pe hs) (pi_enumT hg hm ha.pe hs), ?_⟩
  intro F f S H σ E ds S' A eq R q
  obtain ⟨⟨as, S1⟩, e1, eq⟩ := bind_some' eq
  simp only at eq
  split at eq
  · cases eq
    refine .inl (ha.se F f S H σ E _ _ A e1 _ fun vs H1 F1 f1 x1 h1 i1 => ?_)
    obtain ⟨v, rfl, i2⟩ := all1 i1
    cases i2 with
    | lst hl r => exact ⟨_, _, rfl, SqL.of (h1.ex _ _ hl), q _ H1 F1 f1 x1 h1 (items_enumL (SqL.of hl) r)⟩
  · cases eq
    refine .inr (ha.se F f S H σ E _ _ A e1 _ fun vs H1 F1 f1 x1 h1 i1 => ?_)
    obtain ⟨v, rfl, i2⟩ := all1 i1
    cases i2 with
    | tup hl r => exact ⟨_, _, rfl, Evl.ex_t h1.ex (SqT.of hl), q _ H1 F1 f1 x1 h1 (items_enumT (SqT.of hl) r)⟩
  · cases eq
theorem i_zip (hg : Gl X "zip") (hm : X.mg "zip" = none) (ha : DA X [e, e2] ta ma) (hs : starEach [e, e2] X.env = (false, eval e X.env) :: starEach [e2] X.env := by rfl) (hpl : (backTo pos (starEach [e2] X.env)).any (·.1) = false := by rfl) :
    DI X (.Tuple elts kk tpos) (.Call (.Name "zip" p) [e, e2] [] pos) (iZipS ta) (mZip ma) := by
  refine ⟨pi_zipS hg hm ha.pe hs hpl, ?_⟩
  intro F f S H σ E ds S' A eq R q
  obtain ⟨⟨as, S1⟩, e1, eq⟩ := bind_some' eq
  simp only at eq
  split at eq
  · cases eq
    refine ha.se F f S H σ E _ _ A e1 _ fun vs H1 F1 f1 x1 h1 i1 => ?_
    obtain ⟨v, w, rfl, i2, i3⟩ := all2 i1
    exact ⟨_, _, by rw [is_str i2, is_str i3], q _ H1 F1 f1 x1 h1 items_zipS⟩
  · cases eq
end
end DL
/-! DS1: sets of whole numbers and texts: made from a list, sorted. -/
namespace DL
open PySem L2 PyProof.Rows
def keyM (e : Int × Value) : Key := match e.2 with
  | .int k _ => .inl k
  | .str x _ => .inr x
  | _ => .inl 0
def GoodM (w : World) (e : Int × Value) : Prop := ∃ k : Key, keyIs k e.2 = true ∧ e.1 = keyH w k
structure SetMd (w : World) (S : Key → Bool) (n : Nat) (es : Array (Int × Value)) (t : SetTable) : Prop where
  good : ∀ e ∈ es.toList, GoodM w e
  nd : (es.toList.map keyM).Nodup
  mem : ∀ k, S k = true ↔ k ∈ es.toList.map keyM
  small : es.size < scanBound
  fit : t.fits es.size = true
  num : es.size = n
  ris : Ris t.place.toList
  ord : w.params.followText "set-order" = true ∨ t.led = true
def SetM (w : World) (h : Heap) (a : Addr) (S : Key → Bool) (n : Nat) : Prop := ∃ o es ep t, h.get? a = some o ∧ o.ExactSet ∧ o.data = .set es ep t ∧ SetMd w S n es t
section
variable {P : Program} {w : World} {h h' : Heap} {a : Addr} {S : Key → Bool} {n : Nat}
theorem SetM.at (R : SetM w h a S n) (k : ∀ o, h.get? a = some o → h'.get? a = some o) : SetM w h' a S n := R.elim fun o r => ⟨o, r.elim fun es r => ⟨es, r.elim fun ep r => ⟨ep, r.elim fun t r => ⟨t, k o r.1, r.2⟩⟩⟩⟩
theorem SetM.congr {S' : Key → Bool} (R : SetM w h a S n) (e : ∀ k, S' k = S k) : SetM w h a S' n := (funext e : S' = S) ▸ R
theorem keyM_of {k : Key} {e : Int × Value} (h : keyIs k e.2 = true) : keyM e = k := by
  unfold keyM
  rcases keyIs_shape h with ⟨i, t, rfl, q⟩ | ⟨x, t, rfl, q⟩ <;> rw [q]
theorem goodM_elems {l : List (Int × Value)} (g : ∀ e ∈ l, GoodM w e) : ElemsOf (mixKind P w) l := fun e he => by
  obtain ⟨k, h1, h2⟩ := g e he
  refine ⟨⟨k, h1, h2⟩, ?_⟩
  rcases keyIs_shape h1 with ⟨i, t, rfl, q⟩ | ⟨x, t, rfl, q⟩ <;> rw [q] <;> rfl
theorem goodM_is {e : Int × Value} (g : GoodM w e) (k : Key) : (mixKind P w).is k e.2 = true ↔ keyM e = k := by
  obtain ⟨k0, h1, _⟩ := g
  rw [keyM_of h1]
  exact ⟨fun z => (mixKind P w).inj e.2 _ _ h1 z, fun z => z ▸ h1⟩
theorem goodM_mem {l : List (Int × Value)} (g : ∀ e ∈ l, GoodM w e) (k : Key) : k ∈ l.map keyM ↔ ∃ e ∈ l, (mixKind P w).is k e.2 = true := by
  rw [List.mem_map]
  exact ⟨fun ⟨e, he, q⟩ => ⟨e, he, (goodM_is (g e he) k).2 q⟩, fun ⟨e, he, q⟩ => ⟨e, he, (goodM_is (g e he) k).1 q⟩⟩
theorem SetM.setOf (R : SetM w h a S n) : h.SetOf (mixKind P w) a S n := by
  obtain ⟨o, es, ep, t, ho, hx, hd, m⟩ := R
  exact ⟨o, es, ep, t, ho, hx, hd, goodM_elems m.good, fun k => (m.mem k).trans (goodM_mem m.good k), m.small, m.fit, m.num⟩
end
section
variable {P : Program} {w : World} {A : Around} {E : Value → Shared → Prop} {s : Shared} {a : Addr} {S : Key → Bool} {n : Nat}
theorem setM_tail {g : Bool → Sem Unit} (gok : ∀ (b : Bool) (s1 : Shared) (Q1 : Unit → Shared → Prop), Q1 () s1 → wpAny (model P w) A (g b) Q1 E s1) {o : Obj} {es : Array (Int × Value)} {ep : Nat} {t : SetTable} (ho : s.heap.get? a = some o) (hx : o.ExactSet) (hd : o.data = .set es ep t)
    {es1 : Array (Int × Value)} {t2 : SetTable} {S' : Key → Bool} (m : SetMd w S' es1.size es1 t2) {dm : Bool} {R : Option Bool → Shared → Prop} (fin : ∀ h', Heap.SameBut a s.heap h' → SetM w h' a S' es1.size → R (some true) { s with heap := h' }) :
    wpAny (model P w) A (do
      storeSet a es1 t2
      if (!dm && t2.tooFull) = true then do { g (relayAll t2 es1 (SetTable.grown es1.size)).2.2; storeSet a (relayAll t2 es1 (SetTable.grown es1.size)).1 (relayAll t2 es1 (SetTable.grown es1.size)).2.1; pure (some true) } else pure (some true)) R E s := by
  refine wpAny_bind (wpAny_storeSet_of ho hd ?_ (fits_of_scanBound m.small))
  have o1 := store_at (es' := es1) (t' := t2) ho hd; have b1 := Heap.SameBut.update s.heap a (Obj.putSet es1 t2)
  split
  · have pm := relayAll_perm t2 es1 (SetTable.grown es1.size); have f3 := relayAll_fits t2 es1 (SetTable.grown es1.size)
    have r3 := relayAll_ris t2 es1 (SetTable.grown es1.size); have l3 := relayAll_led t2 es1 (SetTable.grown es1.size)
    generalize relayAll t2 es1 (SetTable.grown es1.size) = Z at pm f3 r3 l3 ⊢
    obtain ⟨es2, t3, gave⟩ := Z
    dsimp only at pm f3 r3 l3 ⊢
    have sz : es2.size = es1.size := by rw [← Array.length_toList, pm.length_eq]; exact Array.length_toList
    have bb : es2.size < scanBound := sz ▸ m.small
    refine wpAny_bind (gok _ _ _ (wpAny_bind (wpAny_storeSet_of o1 rfl ?_ (fits_of_scanBound bb))))
    have o2 := store_at (es' := es2) (t' := t3) o1 rfl
    exact wpAny_pure (fin _ (b1.trans (Heap.SameBut.update _ a _)) ⟨_, es2, _, t3, o2, hx, rfl, fun e he => m.good e (pm.mem_iff.mp he), (pm.map keyM).nodup_iff.mpr m.nd, fun k => (m.mem k).trans (pm.map keyM).mem_iff.symm, bb, f3, sz, r3, m.ord.imp id fun z => l3.trans z⟩)
  · exact wpAny_pure (fin _ b1 ⟨_, es1, _, t2, o1, hx, rfl, m⟩)
theorem setM_add {k : Key} {v : Value} {Q : Bool → Shared → Prop} (R : SetM w s.heap a S n) (room : n + 1 < scanBound) (kv : keyIs k v = true)
    (fin : ∀ h', Heap.SameBut a s.heap h' → SetM w h' a (fun j => S j || decide (j = k)) (if S k = true then n else n + 1) → Q (!S k) { s with heap := h' }) : wpAny (model P w) A (setAddHashed a v ((mixKind P w).hash k)) Q E s := by
  obtain ⟨o, es, ep, t, ho, hx, hd, m⟩ := R
  have ks : (mixKind P w).is k v = true := kv
  have sc : v.scannable = true := by rcases keyIs_shape kv with ⟨i, t, _, q⟩ | ⟨x, t, _, q⟩ <;> rw [q] <;> rfl
  have el : ElemsOf (mixKind P w) es.toList := goodM_elems m.good
  unfold setAddHashed setAddHashedIn
  refine wpAny_holding (wpAny_bind (wpAny_setState_of ho hd m.fit ?_))
  dsimp only
  rw [byScan_of sc m.small el]
  simp only [↓reduceIte]
  unfold setAddByScan
  refine wpAny_bind (wpAny_bind (wpAny_rule (wpAny_bind (wpAny_setScan_of ks ho hd m.fit el ?_))))
  cases fi : List.findIdx? (fun e => (mixKind P w).is k e.2) es.toList with
  | some j =>
    dsimp only
    obtain ⟨lj, pj, _⟩ := List.findIdx?_eq_some_iff_getElem.mp fi
    have sk : S k = true := (m.mem k).2 ((goodM_mem (P := P) m.good k).2 ⟨es.toList[j], List.getElem_mem lj, pj⟩)
    refine wpAny_pure (wpAny_pure ?_)
    have q := fin s.heap (Heap.SameBut.refl a s.heap) ⟨o, es, ep, t, ho, hx, hd, m.good, m.nd, fun i => by
      rw [Bool.or_eq_true, decide_eq_true_eq, ← m.mem i]; exact ⟨fun z => z.elim id (fun e => e ▸ sk), .inl⟩, m.small, m.fit, by rw [if_pos sk]; exact m.num, m.ris, m.ord⟩
    rw [sk] at q; exact q
  | none =>
    dsimp only
    have nk : k ∉ es.toList.map keyM := fun z => by
      obtain ⟨e, he, q⟩ := (goodM_mem (P := P) m.good k).1 z; have c := List.findIdx?_eq_none_iff.mp fi e he; rw [q] at c; cases c
    have sk : S k = false := by cases q : S k with
      | false => rfl
      | true => exact absurd ((m.mem k).1 q) nk
    have gw : ∀ (b : Bool) {s1 : Shared} {Q1 : Unit → Shared → Prop}, Q1 () s1 → wpAny (model P w) A (match b with | true => rule "set.scan.the-table-gave-way" | false => pure ()) Q1 E s1 := fun b s1 Q1 q => by cases b <;> first | exact wpAny_pure q | exact wpAny_rule q
    have pm := layNew_perm t es ((mixKind P w).hash k) v; have f1 := layNew_fits t es ((mixKind P w).hash k) v
    have r1 := layNew_ris t es ((mixKind P w).hash k) v m.ris; have l1 := layNew_led t es ((mixKind P w).hash k) v
    generalize layNew t es ((mixKind P w).hash k) v = Z at pm f1 r1 l1 ⊢
    obtain ⟨es1, t1, dm, gave⟩ := Z
    dsimp only at pm f1 r1 l1 ⊢
    rw [Array.toList_push] at pm
    have pc : es1.toList.Perm (((mixKind P w).hash k, v) :: es.toList) := pm.trans (List.perm_append_singleton _ _)
    have pk : (es1.toList.map keyM).Perm (k :: es.toList.map keyM) := by
      have z := pc.map keyM; rw [List.map_cons, keyM_of (e := ((mixKind P w).hash k, v)) kv] at z; exact z
    have sz : es1.size = n + 1 := by rw [← Array.length_toList, pc.length_eq, List.length_cons, Array.length_toList, m.num]
    have m1 : ∀ t2 : SetTable, t2.fits es1.size = true → Ris t2.place.toList → t2.led = t1.led → SetMd w (fun j => S j || decide (j = k)) es1.size es1 t2 := fun t2 hf hr hl =>
      ⟨fun e he => (List.mem_cons.mp (pc.mem_iff.mp he)).elim (fun z => z ▸ ⟨k, kv, rfl⟩) (m.good e), pk.nodup_iff.mpr (List.nodup_cons.mpr ⟨nk, m.nd⟩), fun i => by
        rw [Bool.or_eq_true, decide_eq_true_eq, m.mem i, pk.mem_iff, List.mem_cons]; exact Or.comm, sz ▸ room, hf, rfl, hr, m.ord.imp id fun z => hl.trans (l1.trans z)⟩
    have go : ∀ h', Heap.SameBut a s.heap h' → SetM w h' a (fun j => S j || decide (j = k)) es1.size → Q true { s with heap := h' } := fun h' sb r => by
      have q := fin h' sb; rw [sk] at q; rw [sz] at r; exact q r
    refine wpAny_bind (gw _ ?_)
    split
    · refine wpAny_bind ?_
      rw [hashByValue_scannable 8 sc]
      refine wpAny_pure (setM_tail ?_ ho hx hd (m1 _ ?_ ?_ ?_) fun h' sb r => by dsimp only; exact wpAny_pure (go h' sb r))
      · intro b s1 Q1 q; cases b <;> first | exact wpAny_pure q | exact wpAny_rule q
      · first | (split <;> first | exact f1 | exact SetTable.fits_plain_off f1) | exact f1
      · first | (split <;> exact r1) | exact r1
      · first | (split <;> rfl) | rfl
    · refine wpAny_bind (wpAny_pure ?_)
      simp only [↓reduceIte]
      refine setM_tail ?_ ho hx hd (m1 _ f1 r1 rfl) fun h' sb r => by dsimp only; exact wpAny_pure (go h' sb r)
      intro b s1 Q1 q; cases b <;> first | exact wpAny_pure q | exact wpAny_rule q
end
end DL
/-! DS2: set(a list or a tuple of whole numbers and texts), at the library's level. -/
namespace DL
open PySem L2 PyProof.Rows
abbrev emS (w : World) : Obj := { cls := .type "set", dict := none, data := .set #[] 0 (.fresh 0 0 (!w.params.followText "set-order")) }
def inK (ks : List Key) (j : Key) : Bool := ks.any fun k => decide (j = k)
theorem inK_iff {ks : List Key} {j : Key} : inK ks j = true ↔ j ∈ ks := by simp [inK]
theorem setM_empty {w : World} {h : Heap} {a : Addr} (ho : h.get? a = some (emS w)) : SetM w h a (fun _ => false) 0 :=
  ⟨_, #[], 0, _, ho, ⟨rfl, rfl, rfl⟩, rfl, ⟨fun e he => by simp at he, by simp, fun k => by simp, by decide, rfl, rfl, List.Pairwise.nil, by
    show _ ∨ (!w.params.followText "set-order") = true
    cases w.params.followText "set-order" <;> simp⟩⟩
section
variable {P : Program} {w : World} {A : Around} {E : Value → Shared → Prop} {s : Shared}
theorem setM_loop {I : Addr} {fp wr : List Addr} {G : Array GenState → Array GenState → Prop} {n : Nat} {Pv : Nat → Value → Prop} {St : Nat → Shared → Prop} {R : Result → Shared → Prop} (W : WalksS P w A.in1 I fp wr G n Pv St) (Z : Addr) (hZ : Z ∉ fp) (ks : List Key) (hn : n = ks.length)
    (room : ks.length + 1 < scanBound) (val : ∀ (i : Nat) (v : Value), Pv i v → ∃ k : Key, ks[i]? = some k ∧ keyIs k v = true) : ∀ (m i : Nat) (s : Shared), n - i = m → i ≤ n → St i s → (∃ c, c ≤ i ∧ SetM w s.heap Z (inK (ks.take i)) c) →
    (∀ s' c, Moved (Z :: wr) G s s' → c ≤ n → SetM w s'.heap Z (inK ks) c → R (.ok (.ret .none)) s') → codeAny (model P w) A (.builtin "set.update.loop" ⟨[.ref Z, .ref I], []⟩) R s := by
  have nz : Z ∉ wr := fun z => hZ (W.sub _ z)
  have up : ∀ b ∈ wr, b ∈ Z :: wr := fun b z => List.mem_cons_of_mem _ z
  intro m
  induction m with
  | zero =>
    intro i s hm hi hst ⟨c, hc, hS⟩ fin
    have ei : i = n := by omega
    subst ei
    refine codeAny_builtin F.entry_set_update_loop ?_; rw [Around.under_plainId F.plain_set_update_loop _]
    show wpAny _ A.in1 (pyNext (.ref I) >>= _) _ _ s
    refine wpAny_bind (W.done s _ _ hst fun s' mv => ?_); show wpAny _ A.in1 (ret Value.none) _ _ s'
    rw [List.take_of_length_le (by omega)] at hS
    exact wpAny_pure (fin s' c (mv.mono up) hc (hS.at fun o e => mv.heap Z o nz e))
  | succ m ih =>
    intro i s hm hi hst ⟨c, hc, hS⟩ fin
    have hlt : i < n := by omega
    refine codeAny_builtin F.entry_set_update_loop ?_; rw [Around.under_plainId F.plain_set_update_loop _]
    show wpAny _ A.in1 (pyNext (.ref I) >>= _) _ _ s
    refine wpAny_bind (W.item i s _ _ hlt hst fun v s' hP st' mv => ?_)
    obtain ⟨k, hk, kv⟩ := val i v hP
    have S1 : SetM w s'.heap Z (inK (ks.take i)) c := hS.at fun o e => mv.heap Z o nz e
    show wpAny _ A.in1 (holding [v] (setAdd Z v) >>= _) _ _ s'
    refine wpAny_bind (wpAny_holding ?_)
    unfold setAdd
    refine wpAny_holding (wpAny_bind ((mixKind P w).pyHash (k := k) kv ?_))
    refine setM_add (s := { s' with toks := s'.toks + 1 }) S1 (by omega) kv fun h' sb S2 => ?_
    have S3 : SetM w h' Z (inK (ks.take (i + 1))) (if inK (ks.take i) k = true then c else c + 1) := S2.congr fun j => by rw [List.take_add_one, hk]; simp [inK]
    have c3 : (if inK (ks.take i) k = true then c else c + 1) ≤ i + 1 := by split <;> omega
    refine wpAny_pure ⟨plainId_quiet F.plain_set_update_loop _, ih (i + 1) _ (by omega) hlt (W.frame _ s' _ _ st' (Nat.le_succ _) fun b hb o e => ?_) ⟨_, c3, S3⟩ fun s2 c2 m2 h2 r2 => ?_⟩
    · rw [sb.2 b (fun z : b = Z => hZ (z ▸ hb))]; exact e
    · refine fin s2 c2 (Moved.trans W.gtrans ((mv.mono up).then_heap (Nat.le_succ _) fun b o hb e => ?_) m2) h2 r2
      rw [sb.2 b (fun z : b = Z => hb (z ▸ List.mem_cons_self))]; exact e
/-- what set() of a list or a tuple leaves -/
def SetFrom (w : World) (s : Shared) (ks : List Key) (E2 : Heap → Nat → Prop) : Prop := ∀ (h' : Heap) (tk c : Nat), SetM w h' s.heap.objs.size (inK ks) c → c ≤ ks.length → (∀ b o, s.heap.get? b = some o → h'.get? b = some o) → E2 h' tk
theorem setM_call {T IT : String} {l : Addr} {items : Array Value} (ks : List Key) {Q : Value → Shared → Prop} (room : ks.length + 1 < scanBound) (lx : ∃ o, s.heap.get? l = some o ∧ o.cls = .type T ∧ ∃ nl, o.data = .seq items nl)
    (sub1 : isSubtype (.type T) (.type "set") = pure false) (sub2 : isSubtype (.type T) (.type "frozenset") = pure false) (nd : (Value.type T == Value.type "dict") = false)
    (it : ∀ {A2 : Around} {E2 : Value → Shared → Prop} {Q2 : Value → Shared → Prop} {s2 : Shared}, (∃ o, s2.heap.get? l = some o ∧ o.cls = .type T ∧ ∃ nl, o.data = .seq items nl) → Q2 (.ref s2.heap.objs.size) { s2 with heap := s2.heap.push { cls := .type IT, data := .fields #[.ref l, .int 0 0] } } → wpAny (model P w) A2 (pyIter (.ref l)) Q2 E2 s2)
    (W : ∃ St : Nat → Shared → Prop, ∃ G, WalksS P w A.in1.in1.in1 (s.heap.objs.size + 1) [s.heap.objs.size + 1, l] [s.heap.objs.size + 1] G items.size (fun i v => items[i]? = some v) St ∧
      St 0 { s with heap := (s.heap.push (emS w)).push { cls := .type IT, data := .fields #[.ref l, .int 0 0] } } ∧ (∀ {s1 s2 : Shared} {wr}, Moved wr G s1 s2 → s2.gens = s1.gens))
    (val : ∀ (i : Nat) (v : Value), items[i]? = some v → ∃ k : Key, ks[i]? = some k ∧ keyIs k v = true) (hz : items.size = ks.length)
    (fin : SetFrom w s ks fun h' tk => Q (.ref s.heap.objs.size) { s with heap := h', toks := tk }) : wpAny (model P w) A (call (.type "set") [.ref l]) Q E s := by
  obtain ⟨c, tl, hmro⟩ := F.called_set.mro
  have made := F.called_set.made; have subT := F.called_set.sub
  refine wpAny_call (codeAny_of_tree ?_); show wpAny _ _ (callAny (.type "set") _) _ _ _
  refine wpAny_pure ⟨Code.quiet_builtin _ (by decide +kernel), codeAny_builtin F.entry_type_call ?_⟩
  rw [Around.under_plain (weight_type_call_type "set" [.ref l] []) rfl]
  have t1 := F.called_set.notType; have t2 := F.called_set.canCreate; have t3 := F.typeCall_set_1 (.ref l)
  repeat (any_goals (first | assumption | wp_step))
  refine codeAny_mono (code_set_led1 (.ref l) (E := E) (Q₁ := fun obj s1 => obj = .ref s.heap.objs.size ∧ s1 = { s with heap := s.heap.push (emS w) }) ⟨rfl, rfl⟩) fun r s1 hr => ?_
  cases r with
  | error e => exact hr
  | ok fl =>
    cases fl with
    | ret obj =>
      obtain ⟨rfl, rfl⟩ := hr
      have gS : (s.heap.push (emS w)).get? s.heap.objs.size = some (emS w) := Heap.get?_push_size _ rfl
      have tS : Shared.TypeIs { s with heap := s.heap.push (emS w) } (.ref s.heap.objs.size) "set" := ⟨_, gS, rfl⟩
      have i1 := F.called_set.init.lookup; have i2 := F.called_set.init.bind (.ref s.heap.objs.size)
      repeat (any_goals (first | assumption | wp_step))
      refine codeAny_mono (codeAny_call_builtin (R := wants (fun r s2 => r = .none ∧ ∃ h' tk c, s2 = { s with heap := h', toks := tk } ∧ SetM w h' s.heap.objs.size (inK ks) c ∧ c ≤ ks.length ∧ (∀ b o, s.heap.get? b = some o → h'.get? b = some o)) E) F.called_set.init.plain F.entry_set_init (check_set_init_1 tS ?_)) fun r2 s2 hr2 => ?_
      · obtain ⟨⟨oc, od, odt, osl⟩, ol, hc, nl, hd⟩ := lx
        simp only at hc hd
        subst hc hd
        have ol2 : (s.heap.push (emS w)).get? l = some { cls := .type T, dict := od, data := .seq items nl, slots := osl } := Heap.get?_push_of_some _ ol
        unfold Builtin.«set.__init__» noKeywords Builtin.Frozenset.updateFrom
        generalize hPI : pyIter = PI
        wp_walk
        subst hPI
        refine it ⟨_, ol2, rfl, nl, rfl⟩ (wpAny_bind (wpAny_runValue ?_))
        obtain ⟨St, G, Wk, st0, gg⟩ := W
        have lS : l < s.heap.objs.size := Heap.lt_size ol
        have sz1 : (s.heap.push (emS w)).objs.size = s.heap.objs.size + 1 := Heap.size_push ..
        have nS : s.heap.objs.size ∉ [s.heap.objs.size + 1, l] := by
          simp only [List.mem_cons, List.mem_singleton, List.not_mem_nil, or_false, not_or]
          exact ⟨Nat.ne_of_lt (Nat.lt_succ_self _), Nat.ne_of_gt lS⟩
        rw [sz1]
        refine setM_loop Wk s.heap.objs.size nS ks hz room val (items.size - 0) 0 _ (by omega) (Nat.zero_le _) st0 ⟨0, Nat.le_refl 0, ?_⟩ ?_
        · have g2 : ((s.heap.push (emS w)).push { cls := .type IT, data := .fields #[.ref l, .int 0 0] }).get? s.heap.objs.size = some (emS w) := Heap.get?_push_of_some _ gS
          exact (setM_empty g2).congr fun k => by simp [inK]
        · intro s' c' mv hc' hS'
          have eg := gg mv
          obtain ⟨h', g2, d', tk', os'⟩ := s'
          have ed : d' = s.drawn := mv.drawn; have eo : os' = s.os := mv.os
          simp only at eg
          subst eg ed eo
          show wpAny _ _ _ _ _ _
          refine wpAny_pure ?_; show wpAny _ _ (ret Value.none) _ _ _
          rw [hz] at hc'
          refine wpAny_pure ⟨rfl, h', tk', c', rfl, hS', hc', fun b o e => ?_⟩
          have b0 : b < s.heap.objs.size := Heap.lt_size e
          refine mv.heap b o ?_ (Heap.get?_push_of_some _ (Heap.get?_push_of_some _ e))
          simp only [List.mem_cons, List.mem_singleton, List.not_mem_nil, or_false, not_or]
          exact ⟨Nat.ne_of_lt b0, Nat.ne_of_lt (Nat.lt_succ_of_lt b0)⟩
      · cases r2 with
        | error e => exact hr2
        | ok f2 =>
          cases f2 with
          | ret r =>
            obtain ⟨rfl, h', tk, c', rfl, hS', hc', hk'⟩ := hr2
            repeat (any_goals (first | assumption | wp_step))
            exact fin _ _ _ hS' hc' hk'
          | _ => exact hr2.elim
    | _ => exact hr.elim
theorem setM_list {l : Addr} {items : Array Value} (ks : List Key) {Q : Value → Shared → Prop} (hh : A.handled = none) (hl : s.heap.IsList l items) (room : ks.length + 1 < scanBound) (val : ∀ (i : Nat) (v : Value), items[i]? = some v → ∃ k : Key, ks[i]? = some k ∧ keyIs k v = true) (hz : items.size = ks.length)
    (fin : SetFrom w s ks fun h' tk => Q (.ref s.heap.objs.size) { s with heap := h', toks := tk }) : wpAny (model P w) A (call (.type "set") [.ref l]) Q E s := by
  obtain ⟨o, ho, hc, nl, hd⟩ := id hl
  have lS : l < s.heap.objs.size := Heap.lt_size ho
  refine setM_call (IT := "list_iterator") ks room ⟨o, ho, hc, nl, hd⟩ F.sub_list_set F.sub_list_frozenset (by decide) (fun ⟨o, ho, hc, nl, hd⟩ q => wpAny_pyIter_list ⟨o, ho, hc, nl, hd⟩ q) ?_ val hz fin
  have h3 : A.in1.in1.in1.handled = none := by simp [hh]
  have ne : l ≠ s.heap.objs.size + 1 := Nat.ne_of_lt (Nat.lt_succ_of_lt lS)
  have z := Heap.get?_push_size (s.heap.push (emS w)) (o := { cls := .type "list_iterator", data := .fields #[.ref l, .int 0 0] }) rfl
  rw [Heap.size_push] at z
  exact ⟨_, _, (Walks.list (prog := P) (w := w) (A := A.in1.in1.in1) h3 _ l ne items).toS, ⟨⟨_, z, rfl, rfl⟩, (hl.push _).push _⟩, fun mv => mv.gens⟩
theorem setM_tuple {l : Addr} {items : Array Value} (ks : List Key) {Q : Value → Shared → Prop} (hh : A.handled = none) (hl : s.heap.IsTuple l items) (room : ks.length + 1 < scanBound) (val : ∀ (i : Nat) (v : Value), items[i]? = some v → ∃ k : Key, ks[i]? = some k ∧ keyIs k v = true) (hz : items.size = ks.length)
    (fin : SetFrom w s ks fun h' tk => Q (.ref s.heap.objs.size) { s with heap := h', toks := tk }) : wpAny (model P w) A (call (.type "set") [.ref l]) Q E s := by
  obtain ⟨o, ho, hc, nl, hd⟩ := id hl
  have lS : l < s.heap.objs.size := Heap.lt_size ho
  refine setM_call (IT := "tuple_iterator") ks room ⟨o, ho, hc, nl, hd⟩ F.sub_tuple_set F.sub_tuple_frozenset (by decide) (fun ⟨o, ho, hc, nl, hd⟩ q => wpAny_pyIter_tuple ⟨o, ho, hc, nl, hd⟩ q) ?_ val hz fin
  have h3 : A.in1.in1.in1.handled = none := by simp [hh]
  have ne : l ≠ s.heap.objs.size + 1 := Nat.ne_of_lt (Nat.lt_succ_of_lt lS)
  have z := Heap.get?_push_size (s.heap.push (emS w)) (o := { cls := .type "tuple_iterator", data := .fields #[.ref l, .int 0 0] }) rfl
  rw [Heap.size_push] at z
  exact ⟨_, _, (Walks.tuple (prog := P) (w := w) (A := A.in1.in1.in1) h3 _ l ne items).toS, ⟨⟨_, z, rfl, rfl⟩, (hl.push _).push _⟩, fun mv => mv.gens⟩
end
end DL
/-! DS3: sorted(set(..)) over trees. -/
namespace DL
open PySem L2 PyProof.Rows
/-! ### strictly rising lists -/
structure Lin {α : Type} (lt : α → α → Bool) : Prop where
  irr : ∀ a, lt a a = false
  tr : ∀ a b c, lt a b = true → lt b c = true → lt a c = true
  tri : ∀ a b, lt a b = false → lt b a = false → a = b
section
variable {α : Type} {lt : α → α → Bool}
abbrev Str8 (lt : α → α → Bool) (l : List α) : Prop := l.Pairwise fun a b => lt a b = true
theorem Lin.asy (L : Lin lt) {a b : α} (h : lt a b = true) : lt b a = false := by
  cases e : lt b a with
  | false => rfl
  | true => have z := L.tr a b a h e; rw [L.irr] at z; cases z
theorem str_uniq (L : Lin lt) : ∀ {l m : List α}, Str8 lt l → Str8 lt m → (∀ x, x ∈ l ↔ x ∈ m) → l = m
  | [], [], _, _, _ => rfl
  | [], y :: m, _, _, h => absurd ((h y).2 List.mem_cons_self) (by simp)
  | x :: l, [], _, _, h => absurd ((h x).1 List.mem_cons_self) (by simp)
  | x :: l, y :: m, hl, hm, h => by
    obtain ⟨l1, l2⟩ := List.pairwise_cons.mp hl
    obtain ⟨m1, m2⟩ := List.pairwise_cons.mp hm
    have exy : x = y := by
      rcases List.mem_cons.mp ((h x).1 List.mem_cons_self) with z | z
      · exact z
      · rcases List.mem_cons.mp ((h y).2 List.mem_cons_self) with u | u
        · exact u.symm
        · have a := l1 y u; have b := m1 x z; rw [L.asy a] at b; cases b
    subst exy
    rw [str_uniq L l2 m2 fun z => ⟨fun hz => ?_, fun hz => ?_⟩]
    · rcases List.mem_cons.mp ((h z).1 (List.mem_cons_of_mem _ hz)) with u | u
      · have a := l1 z hz; rw [u, L.irr] at a; cases a
      · exact u
    · rcases List.mem_cons.mp ((h z).2 (List.mem_cons_of_mem _ hz)) with u | u
      · have a := m1 z hz; rw [u, L.irr] at a; cases a
      · exact u
def insU (lt : α → α → Bool) (x : α) : List α → List α
  | [] => [x]
  | y :: r => if lt x y = true then x :: y :: r else if lt y x = true then y :: insU lt x r else y :: r
def sortU (lt : α → α → Bool) (l : List α) : List α := l.foldr (insU lt) []
theorem insU_mem (L : Lin lt) {x z : α} : ∀ {l : List α}, z ∈ insU lt x l ↔ z = x ∨ z ∈ l
  | [] => by simp [insU]
  | y :: r => by
    unfold insU
    split
    · simp
    · rename_i h1
      split
      · rw [List.mem_cons, insU_mem L, List.mem_cons]; exact ⟨fun h => by rcases h with h | h | h <;> simp [h], fun h => by rcases h with h | h | h <;> simp [h]⟩
      · rename_i h2
        have e := L.tri x y (by simpa using h1) (by simpa using h2)
        subst e
        simp
theorem insU_str (L : Lin lt) {x : α} : ∀ {l : List α}, Str8 lt l → Str8 lt (insU lt x l)
  | [], _ => by simp [insU]
  | y :: r, h => by
    obtain ⟨h1, h2⟩ := List.pairwise_cons.mp h
    unfold insU
    split
    · rename_i hx
      exact List.pairwise_cons.mpr ⟨fun z hz => by rcases List.mem_cons.mp hz with u | u; exact u ▸ hx; exact L.tr _ _ _ hx (h1 z u), h⟩
    · split
      · rename_i hy
        exact List.pairwise_cons.mpr ⟨fun z hz => by rcases (insU_mem L).mp hz with u | u; exact u ▸ hy; exact h1 z u, insU_str L h2⟩
      · exact h
theorem sortU_mem (L : Lin lt) {z : α} : ∀ {l : List α}, z ∈ sortU lt l ↔ z ∈ l
  | [] => by simp [sortU]
  | x :: l => by
    show z ∈ insU lt x (sortU lt l) ↔ _
    rw [insU_mem L, sortU_mem L, List.mem_cons]
theorem sortU_str (L : Lin lt) : ∀ l : List α, Str8 lt (sortU lt l)
  | [] => List.Pairwise.nil
  | x :: l => insU_str L (sortU_str L l)
end
def ltX (a b : Str) : Bool := decide (a.cps.toList < b.cps.toList)
def ltZ (a b : Int) : Bool := decide (a < b)
theorem linX : Lin ltX := by
  refine ⟨fun a => by simp [ltX, List.lt_irrefl], fun a b c h1 h2 => ?_, fun a b h1 h2 => ?_⟩
  · simp only [ltX, decide_eq_true_eq] at h1 h2 ⊢
    exact List.lt_trans h1 h2
  · simp only [ltX, decide_eq_false_iff_not] at h1 h2
    have e : a.cps.toList = b.cps.toList := List.le_antisymm (List.not_lt.mp h2) (List.not_lt.mp h1)
    cases a; cases b
    exact congrArg Str.mk (Array.toList_inj.mp e)
theorem linZ : Lin ltZ := ⟨fun a => by simp [ltZ], fun a b c h1 h2 => by simp only [ltZ, decide_eq_true_eq] at *; omega, fun a b h1 h2 => by simp only [ltZ, decide_eq_false_iff_not] at *; omega⟩
theorem rising_pw : ∀ (l : List Str) (p : Str), risingS p l = true → (∀ x ∈ l, ltX x p = false) ∧ l.Pairwise fun a b => ltX b a = false
  | [], _, _ => ⟨by simp, List.Pairwise.nil⟩
  | x :: r, p, h => by
    simp only [risingS, Bool.and_eq_true, Bool.not_eq_true', ltCps_eq] at h
    obtain ⟨h1, h2⟩ := rising_pw r x h.2
    have hp : ltX x p = false := h.1
    refine ⟨fun z hz => ?_, List.pairwise_cons.mpr ⟨fun z hz => h1 z hz, h2⟩⟩
    rcases List.mem_cons.mp hz with u | u
    · exact u ▸ hp
    · cases e : ltX z p with
      | false => rfl
      | true =>
        have a := h1 z u
        cases e2 : ltX x z with
        | true => have := linX.tr _ _ _ e2 e; rw [hp] at this; cases this
        | false => have z1 := linX.tri _ _ e2 a; subst z1; rw [hp] at e; cases e
theorem sorted_str8 {l : List Str} (h : sortedS l = true) (nd : l.Nodup) : Str8 ltX l := by
  have pw : l.Pairwise fun a b => ltX b a = false := by
    cases l with
    | nil => exact List.Pairwise.nil
    | cons x r => obtain ⟨h1, h2⟩ := rising_pw r x h; exact List.pairwise_cons.mpr ⟨h1, h2⟩
  refine (pw.and nd).imp fun {a b} h => ?_
  cases e : ltX a b with
  | true => rfl
  | false => exact absurd (linX.tri a b e h.1) h.2
/-! ### sorted(a set) -/
section
variable {P : Program} {w : World} {A : Around} {E : Value → Shared → Prop} {s : Shared}
def keyV : Value → Key
  | .int k _ => .inl k
  | .str x _ => .inr x
  | _ => .inl 0
theorem keyM_eq (e : Int × Value) : keyM e = keyV e.2 := rfl
def SortTo (w : World) (s : Shared) (ks : List Key) (Q : Value → Shared → Prop) : Prop :=
  ∀ s' p (out : Array Value) (c : Nat) (vs : List Value), (∀ b o, s.heap.get? b = some o → s'.heap.get? b = some o) → s'.gens = s.gens → s'.os = s.os → s.heap.objs.size ≤ p → s'.heap.get? p = some (seqObj "list" out c) →
    (vs.map keyV).Nodup → (∀ k, k ∈ vs.map keyV ↔ k ∈ ks) → (∀ v ∈ vs, ∃ k, keyIs k v = true) →
    (∀ xs, StrsAre vs xs → ∃ ys, StrsAre out.toList ys ∧ ys.Perm xs ∧ sortedS ys = true) → (∀ ns, IntsAre vs ns → ∃ ms, IntsAre out.toList ms ∧ ms.Perm ns ∧ ms.Pairwise (· ≤ ·)) → Q (.ref p) s'
theorem sortM {a : Addr} {ks : List Key} {n : Nat} {Q : Value → Shared → Prop} (R : SetM w s.heap a (inK ks) n) (hh : A.handled = none) (h64 : n < 64) (kind : (∀ k ∈ ks, ∃ x, k = .inr x) ∨ (∀ k ∈ ks, ∃ i, k = .inl i)) (fin : SortTo w s ks Q) :
    wpAny (model P w) A (call (.builtin "sorted") [.ref a]) Q E s := by
  obtain ⟨o, es, ep, t, ho, hx, hd, m⟩ := R
  refine Calls.call_function_entry kind_sorted plain_sorted entry_sorted (args_sorted1 _) ?_
  unfold Builtin.«sorted»
  refine wpAny_bind (m := checkCount "sorted" 1 1 _) (wpAny_pure (wpAny_bind (collect_set (A := A.in1) hh ⟨o, ho, hx.1, hd⟩ m.fit m.small m.ris m.ord fun s1 vs k1 hz g1 o1 pm => ?_)))
  have lv : vs.length = n := by rw [pm.length_eq, List.length_map, Array.length_toList]; exact m.num
  have pk : (vs.map keyV).Perm (es.toList.map keyM) := by have q := pm.map keyV; rw [List.map_map] at q; exact q
  have gd : ∀ v ∈ vs, ∃ k, keyIs k v = true := fun v hv => by
    obtain ⟨e, he, q⟩ := List.mem_map.mp (pm.mem_iff.mp hv); obtain ⟨k, h1, _⟩ := m.good e he; exact ⟨k, q ▸ h1⟩
  have mem : ∀ k, k ∈ vs.map keyV ↔ k ∈ ks := fun k => by rw [pk.mem_iff, ← m.mem k, inK_iff]
  refine wpAny_bind (wpAny_newList ?_ (by rw [lv, sizeLine_eq]; omega))
  have oL : (s1.heap.push (seqObj "list" vs.toArray 0)).get? s1.heap.objs.size = some (seqObj "list" vs.toArray 0) := Heap.get?_push_size _ rfl
  have old : ∀ (out : Array Value) b u, s.heap.get? b = some u → (sortedHeap (s1.heap.push (seqObj "list" vs.toArray 0)) s1.heap.objs.size vs out).get? b = some u := fun out b u e => by
    have q := k1 b u e; have hlt := Heap.lt_size q
    rw [sortedHeap_old (Nat.ne_of_lt hlt) (by rw [size_push']; exact Nat.lt_succ_of_lt hlt)]; exact Heap.get?_push_of_some _ q
  have keyk : ∀ v ∈ vs, ∀ k, keyIs k v = true → k ∈ ks := fun v hv k h => by
    have := (mem (keyV v)).mp (List.mem_map_of_mem hv)
    rwa [show keyV v = k from keyM_of (e := ((0 : Int), v)) h] at this
  rcases kind with kx | kx
  · have all : ∀ v ∈ vs, ∃ x t, v = .str x t := fun v hv => by
      obtain ⟨k, h1⟩ := gd v hv
      obtain ⟨x, rfl⟩ := kx k (keyk v hv k h1)
      rcases keyIs_shape h1 with ⟨i, t, e, _⟩ | ⟨y, t, _, e⟩
      · cases e
      · exact ⟨y, t, e⟩
    have hS := strsAre_map vs all
    refine wpAny_bind (wpAny_holding (wpAny_call_entry slot_list_sort ⟨_, oL, rfl⟩ entry_list_sort (list_sort_treeK strKind_oneLt oL hS.keysOf (fun v1 v2 rest e => keyKind_strs (by rw [← e]; exact hS)) (by rw [lv]; exact h64) fun st' hp hs => ⟨_, rfl, ?_⟩) (args_list_sort _)))
    obtain ⟨ys, h1, h2, h3⟩ := sorted_out_str hS hp hs
    obtain ⟨c, hc⟩ := sortedHeap_at (vs := vs) (out := (arrOf st').map (·.2)) oL
    refine wpAny_pure ⟨_, rfl, fin _ s1.heap.objs.size _ c vs (fun b u e => old _ b u e) g1 o1 hz hc (pk.nodup_iff.mpr m.nd) mem gd (fun xs hxs => ?_) fun ns hns => ?_⟩
    · rw [← hxs.strs]; exact ⟨ys, h1, h2, h3⟩
    · have e0 : vs = [] := by
        cases vs with
        | nil => rfl
        | cons v r => obtain ⟨x, t, e⟩ := all v List.mem_cons_self; cases hns; cases e
      subst e0
      cases hns
      have : ys = [] := by rw [show ([] : List Value).map strOf = [] from rfl] at h2; exact List.perm_nil.mp h2
      subst this
      cases eo : ((arrOf st').map (·.2)).toList with
      | nil => exact ⟨[], .nil, List.Perm.refl _, List.Pairwise.nil⟩
      | cons _ _ => rw [eo] at h1; cases h1
  · have all : ∀ v ∈ vs, ∃ i t, v = .int i t := fun v hv => by
      obtain ⟨k, h1⟩ := gd v hv
      obtain ⟨x, rfl⟩ := kx k (keyk v hv k h1)
      rcases keyIs_shape h1 with ⟨i, t, _, e⟩ | ⟨y, t, e, _⟩
      · exact ⟨i, t, e⟩
      · cases e
    have hI := ints_of vs all
    refine wpAny_bind (wpAny_holding (wpAny_call_entry slot_list_sort ⟨_, oL, rfl⟩ entry_list_sort (list_sort_tree oL hI (by rw [lv]; exact h64) fun out ms a1 a2 a3 => ⟨_, rfl, ?_⟩) (args_list_sort _)))
    obtain ⟨c, hc⟩ := sortedHeap_at (vs := vs) (out := out) oL
    refine wpAny_pure ⟨_, rfl, fin _ s1.heap.objs.size _ c vs (fun b u e => old _ b u e) g1 o1 hz hc (pk.nodup_iff.mpr m.nd) mem gd (fun xs hxs => ?_) fun ns hns => ?_⟩
    · have e0 : vs = [] := by
        cases vs with
        | nil => rfl
        | cons v r => obtain ⟨x, t, e⟩ := all v List.mem_cons_self; cases hxs; cases e
      subst e0
      cases hxs
      have : ms = [] := List.perm_nil.mp a2
      subst this
      cases eo : out.toList with
      | nil => exact ⟨[], .nil, List.Perm.refl _, rfl⟩
      | cons _ _ => rw [eo] at a1; cases a1
    · have e : ∀ {us : List Value} {zs : List Int}, IntsAre us zs → us.map Builtin.Re.reRawOf = zs := by
        intro us zs h
        induction h with
        | nil => rfl
        | cons k t _ ih => rw [List.map_cons, ih]; rfl
      rw [← e hns]
      exact ⟨ms, a1, a2, a3⟩
end
end DL
/-! DS4: sorted(set(..)), join, [..] * n, texts compared. -/
namespace DL
open PySem L2 PyProof.Rows
theorem insU_len {α : Type} (lt : α → α → Bool) (x : α) : ∀ l : List α, (insU lt x l).length ≤ l.length + 1
  | [] => Nat.le_refl _
  | y :: r => by
    unfold insU
    have := insU_len lt x r
    split
    · simp
    · split <;> simp <;> omega
theorem sortU_len {α : Type} (lt : α → α → Bool) : ∀ l : List α, (sortU lt l).length ≤ l.length
  | [] => Nat.le_refl _
  | x :: l => by
    have a := sortU_len lt l
    have b := insU_len lt x (sortU lt l)
    show (insU lt x (sortU lt l)).length ≤ l.length + 1
    omega
theorem sorted_int8 {l : List Int} (h : l.Pairwise (· ≤ ·)) (nd : l.Nodup) : Str8 ltZ l := (h.and nd).imp fun {a b} h => by simp only [ltZ, decide_eq_true_eq]; have h1 := h.1; have h2 := h.2; omega
def SetK2 (w : World) (a : Addr) (ks : List Key) : HO := .ext fun h => ∃ c, c ≤ ks.length ∧ SetM w h a (inK ks) c
def rSetM (w : World) (K : PySem.W.Frag) : List V → Hp → VK → Prop := fun xs H Q => ∃ (l : Addr) (ks : List Key), xs = [.ref l] ∧ (SqL K H l (ks.map kV) ∨ SqT K H l (ks.map kV)) ∧ ks.length < 64 ∧ ∀ p, H p = none → Q (.ref p) (upd H p (SetK2 w p ks))
theorem keyIs_rel {k : Key} {u : Value} (r : RelV (kV k) u) : keyIs k u = true := by
  cases k with
  | inl i => obtain ⟨t, rfl⟩ := r; exact keyIs_int i t
  | inr x => obtain ⟨t, rfl⟩ := r; exact keyIs_str x t
section
variable {X : Cx}
theorem cr_setM (hc : X.calm = true) : CallR X (.type "set") (rSetM X.w X.K) := by
  intro pins s σ H xs us Q I r h
  obtain ⟨l, ks, rfl, hl, hz, q⟩ := h
  rw [Vals.ref1 r]
  have room : ks.length + 1 < scanBound := by unfold scanBound; omega
  have fin : SetFrom X.w s ks fun h' tk => EP X pins σ Q (.ref s.heap.objs.size) { s with heap := h', toks := tk } := fun h' tk c R hcn k => by
    obtain ⟨o, es, ep, t, ho, _⟩ := id R
    have ok : ∀ H2 : Hp, ObjOk X.prog X.w H2 h' s.heap.objs.size (SetK2 X.w s.heap.objs.size ks) := fun H2 => ⟨⟨c, hcn, R⟩, ⟨o, ho⟩, fun h1 h2 ⟨c2, l2, R2⟩ k2 => ⟨c2, l2, R2.at k2⟩⟩
    exact ⟨.ref _, _, I.laid k (Nat.le_refl _) (ok _), rfl, q _ (I.hok.fresh (Nat.le_refl _))⟩
  have val : ∀ {its : List Value}, Vals (ks.map kV) its → (∀ (i : Nat) (v : Value), its.toArray[i]? = some v → ∃ k : Key, ks[i]? = some k ∧ keyIs k v = true) ∧ its.toArray.size = ks.length := fun {its} rv => by
    have hl := rv.length
    rw [List.length_map] at hl
    refine ⟨fun i v e => ?_, by rw [List.size_toArray, hl]⟩
    have e' : its[i]? = some v := by simpa using e
    have hi : i < ks.length := by rw [hl]; exact (List.getElem?_eq_some_iff.mp e').1
    obtain ⟨u, h1, h2⟩ := rv.get (i := i) (x := kV ks[i]) (by rw [List.getElem?_map, List.getElem?_eq_getElem hi]; rfl)
    rw [e'] at h1
    cases h1
    exact ⟨_, List.getElem?_eq_getElem hi, keyIs_rel h2⟩
  rcases hl with hl | hl
  · obtain ⟨its, rv, hi, _⟩ := I.list hl
    exact setM_list ks (I.ok.hd hc) hi.isList room (val rv).1 (val rv).2 fin
  · obtain ⟨its, rv, hi, _⟩ := I.tuple hl
    exact setM_tuple ks (I.ok.hd hc) hi room (val rv).1 (val rv).2 fin
def rSortM (w : World) : List V → Hp → VK → Prop := fun xs H Q => ∃ (a : Addr), (∃ zs : List Str, xs = [.ref a] ∧ H a = some (SetK2 w a (zs.map .inr)) ∧ zs.length < 64 ∧ ∀ p, H p = none → Q (.ref p) (upd H p (.lst ((sortU ltX zs).map .str)))) ∨
  (∃ ns : List Int, xs = [.ref a] ∧ H a = some (SetK2 w a (ns.map .inl)) ∧ ns.length < 64 ∧ ∀ p, H p = none → Q (.ref p) (upd H p (.lst ((sortU ltZ ns).map .int))))
theorem strs_keys : ∀ {vs : List Value}, (∀ v ∈ vs, ∃ k, keyIs k v = true) → (∀ k ∈ vs.map keyV, ∃ x, k = .inr x) → ∃ xs, StrsAre vs xs ∧ vs.map keyV = xs.map .inr
  | [], _, _ => ⟨[], .nil, rfl⟩
  | v :: vs, h, h2 => by
    obtain ⟨k, hk⟩ := h v List.mem_cons_self
    obtain ⟨x, hx⟩ := h2 (keyV v) List.mem_cons_self
    obtain ⟨xs, a, b⟩ := strs_keys (fun u hu => h u (List.mem_cons_of_mem _ hu)) fun k hk => h2 k (List.mem_cons_of_mem _ hk)
    rcases keyIs_shape hk with ⟨i, t, _, rfl⟩ | ⟨y, t, _, rfl⟩
    · cases hx
    · exact ⟨y :: xs, .cons y t a, by rw [List.map_cons, List.map_cons, b]; rfl⟩
theorem ints_keys : ∀ {vs : List Value}, (∀ v ∈ vs, ∃ k, keyIs k v = true) → (∀ k ∈ vs.map keyV, ∃ x, k = .inl x) → ∃ xs, IntsAre vs xs ∧ vs.map keyV = xs.map .inl
  | [], _, _ => ⟨[], .nil, rfl⟩
  | v :: vs, h, h2 => by
    obtain ⟨k, hk⟩ := h v List.mem_cons_self
    obtain ⟨x, hx⟩ := h2 (keyV v) List.mem_cons_self
    obtain ⟨xs, a, b⟩ := ints_keys (fun u hu => h u (List.mem_cons_of_mem _ hu)) fun k hk => h2 k (List.mem_cons_of_mem _ hk)
    rcases keyIs_shape hk with ⟨i, t, _, rfl⟩ | ⟨y, t, _, rfl⟩
    · exact ⟨i :: xs, .cons i t a, by rw [List.map_cons, List.map_cons, b]; rfl⟩
    · cases hx
theorem nodup_inj {α β : Type} {g : α → β} (inj : ∀ a b, g a = g b → a = b) {l : List α} (h : (l.map g).Nodup) : l.Nodup := by
  have := List.pairwise_map.mp h
  exact this.imp fun {a b} n e => n (congrArg g e)
theorem cr_sortM (hc : X.calm = true) : CallR X (.builtin "sorted") (rSortM X.w) := by
  intro pins s σ H xs us Q I r h
  have land : ∀ {s' : Shared} {p : Addr} {out : Array Value} {c : Nat} {ws : List V}, (∀ b o, s.heap.get? b = some o → s'.heap.get? b = some o) → s'.gens = s.gens → s'.os = s.os → s.heap.objs.size ≤ p → s'.heap.get? p = some (seqObj "list" out c) → ws.length ≤ sizeLine → Vals ws out.toList →
      Q (.ref p) (upd H p (.lst ws)) → EP X pins σ Q (.ref p) s' := fun {s' p out c ws} k g o hp hg hz rv q => by
    have hn : H p = none := I.hok.fresh hp
    have J : Inv X pins σ (upd H p (.lst ws)) { s with heap := s'.heap, gens := s'.gens, drawn := s'.drawn, toks := s'.toks } :=
      I.call (ch := []) (Un.laid k hp hn) (I.hok.laid k hp ⟨hz, out.toList, c, rv, hg⟩) (by rw [g]; exact I.bare) (fun _ z => nomatch z)
    have e : s' = { s with heap := s'.heap, gens := s'.gens, drawn := s'.drawn, toks := s'.toks } := by cases s'; cases s; cases o; rfl
    rw [e]
    exact ⟨.ref p, _, J, rfl, q⟩
  obtain ⟨a, ⟨zs, rfl, ha, h64, q⟩ | ⟨ns, rfl, ha, h64, q⟩⟩ := h
  · obtain ⟨c, hcn, R⟩ := (I.hok a _ ha).1
    rw [List.length_map] at hcn
    rw [Vals.ref1 r]
    refine sortM R (I.ok.hd hc) (by omega) (.inl fun k hk => by obtain ⟨x, _, e⟩ := List.mem_map.mp hk; exact ⟨x, e.symm⟩) fun s' p out c vs k g o hp hg nd mem gd fs fi => ?_
    obtain ⟨ws, hS, eS⟩ := strs_keys gd fun k hk => by obtain ⟨x, _, e⟩ := List.mem_map.mp ((mem k).mp hk); exact ⟨x, e.symm⟩
    obtain ⟨ys, h1, h2, h3⟩ := fs ws hS
    have wnd : ws.Nodup := nodup_inj (g := (Sum.inr : Str → Key)) (fun _ _ e => Sum.inr.inj e) (by rw [← eS]; exact nd)
    have e : ys = sortU ltX zs := by
      refine str_uniq linX (sorted_str8 h3 (h2.nodup_iff.mpr wnd)) (sortU_str linX zs) fun x => ?_
      rw [sortU_mem linX, h2.mem_iff]
      have := mem (.inr x)
      rw [eS] at this
      simpa using this
    subst e
    have hl : (sortU ltX zs).length ≤ sizeLine := by
      have := sortU_len ltX zs
      rw [sizeLine_eq]; omega
    exact land k g o hp hg (by rw [List.length_map]; exact hl) (vals_of_strs h1) (q p (I.hok.fresh hp))
  · obtain ⟨c, hcn, R⟩ := (I.hok a _ ha).1
    rw [List.length_map] at hcn
    rw [Vals.ref1 r]
    refine sortM R (I.ok.hd hc) (by omega) (.inr fun k hk => by obtain ⟨x, _, e⟩ := List.mem_map.mp hk; exact ⟨x, e.symm⟩) fun s' p out c vs k g o hp hg nd mem gd fs fi => ?_
    obtain ⟨ws, hS, eS⟩ := ints_keys gd fun k hk => by obtain ⟨x, _, e⟩ := List.mem_map.mp ((mem k).mp hk); exact ⟨x, e.symm⟩
    obtain ⟨ys, h1, h2, h3⟩ := fi ws hS
    have wnd : ws.Nodup := nodup_inj (g := (Sum.inl : Int → Key)) (fun _ _ e => Sum.inl.inj e) (by rw [← eS]; exact nd)
    have e : ys = sortU ltZ ns := by
      refine str_uniq linZ (sorted_int8 h3 (h2.nodup_iff.mpr wnd)) (sortU_str linZ ns) fun x => ?_
      rw [sortU_mem linZ, h2.mem_iff]
      have := mem (.inl x)
      rw [eS] at this
      simpa using this
    subst e
    have hl : (sortU ltZ ns).length ≤ sizeLine := by
      have := sortU_len ltZ ns
      rw [sizeLine_eq]; omega
    exact land k g o hp hg (by rw [List.length_map]; exact hl) (vals_of_ints h1) (q p (I.hok.fresh hp))
end
end DL
/-! DS5: sorted(set(..)), join, [..] * n, texts and pairs of texts compared, over trees. -/
namespace DL
open PySem L2 PyProof.Rows
def strsD : List D → Option (List Str)
  | [] => some []
  | .str x :: r => (strsD r).map (x :: ·)
  | _ => none
def intsD : List D → Option (List Int)
  | [] => some []
  | .int x :: r => (intsD r).map (x :: ·)
  | _ => none
theorem strsD_eq : ∀ {ds : List D} {xs : List Str}, strsD ds = some xs → ds = xs.map .str
  | [], _, e => by cases e; rfl
  | d :: r, xs, e => by
    cases d <;> try (cases e; done)
    obtain ⟨ys, e1, e2⟩ := map_some' e
    subst e2
    rw [strsD_eq e1]; rfl
theorem intsD_eq : ∀ {ds : List D} {xs : List Int}, intsD ds = some xs → ds = xs.map .int
  | [], _, e => by cases e; rfl
  | d :: r, xs, e => by
    cases d <;> try (cases e; done)
    obtain ⟨ys, e1, e2⟩ := map_some' e
    subst e2
    rw [intsD_eq e1]; rfl
theorem strsD_map (xs : List Str) : strsD (xs.map .str) = some xs := by
  induction xs with
  | nil => rfl
  | cons x r ih => simp [strsD, ih]
section
variable {K : PySem.W.Frag} {F : Hp} {f : List Addr}
theorem isAll_strs : ∀ {vs : List V} {xs : List Str}, IsAll K F f vs (xs.map .str) → vs = xs.map .str
  | [], [], _ => rfl
  | v :: vs, x :: xs, .cons i r => by cases i; rw [isAll_strs r]; rfl
theorem isAll_ints : ∀ {vs : List V} {xs : List Int}, IsAll K F f vs (xs.map .int) → vs = xs.map .int
  | [], [], _ => rfl
  | v :: vs, x :: xs, .cons i r => by cases i; rw [isAll_ints r]; rfl
theorem strs_isAll : ∀ xs : List Str, IsAll K F f (xs.map .str) (xs.map .str)
  | [] => .nil
  | x :: xs => .cons (.str x) (strs_isAll xs)
theorem ints_isAll : ∀ xs : List Int, IsAll K F f (xs.map .int) (xs.map .int)
  | [] => .nil
  | x :: xs => .cons (.int x) (ints_isAll xs)
end
def mSortSet (m : ME) : ME := fun E S => (m E S).bind fun p => (viewS p.2 p.1).bind fun ds => if ds.length < 64 then (match strsD ds with
    | some xs => some (.lst ((sortU ltX xs).map .str), p.2)
    | none => (intsD ds).map fun ns => (.lst ((sortU ltZ ns).map .int), p.2)) else none
section
variable {X : Cx} {K : PySem.W.Frag} {e : Expr} {t : TE} {m : ME} {p p2 pos pos2 : Pos}
theorem se_sortSet (w : World) (h : SE K t m) : SE K (tCB (rSortM w) (tCons (tCB (rSetM w K) (tCons t tNil)) tNil)) (mSortSet m) := by
  intro F f S H σ E d S' A eq Q q
  obtain ⟨⟨y, S1⟩, e1, eq⟩ := bind_some' eq
  obtain ⟨ds, e2, eq⟩ := bind_some' eq
  by_cases hz : ds.length < 64
  · rw [if_pos hz] at eq
    refine h F f S H σ E y S1 A e1 _ fun v H1 F1 f1 x1 h1 i1 => ?_
    obtain ⟨a, vs, rfl, ha, r⟩ := viewS_ok h1 i1 e2
    simp only at eq
    split at eq
    · rename_i xs hx
      cases eq
      have := strsD_eq hx
      subst this
      have := isAll_strs r
      subst this
      rw [List.length_map] at hz
      refine ⟨a, xs.map .inr, rfl, by rw [List.map_map]; exact ha, by rw [List.length_map]; exact hz, fun p hp => ?_⟩
      refine ⟨p, .inl ⟨xs, rfl, upd_same, hz, fun p2 hp2 => ?_⟩⟩
      have h2 := h1.up (Evl.Ex.new (o := SetK2 w p (xs.map .inr)) hp)
      obtain ⟨h3, x3⟩ := h2.put (o := .lst ((sortU ltX xs).map .str)) hp2
      exact q _ _ _ _ (x1.trans x3) h3 (.lst upd_same (strs_isAll _))
    · obtain ⟨xs, hx, eq⟩ := map_some' eq
      cases eq
      have := intsD_eq hx
      subst this
      have := isAll_ints r
      subst this
      rw [List.length_map] at hz
      refine ⟨a, xs.map .inl, rfl, by rw [List.map_map]; exact ha, by rw [List.length_map]; exact hz, fun p hp => ?_⟩
      refine ⟨p, .inr ⟨xs, rfl, upd_same, hz, fun p2 hp2 => ?_⟩⟩
      have h2 := h1.up (Evl.Ex.new (o := SetK2 w p (xs.map .inl)) hp)
      obtain ⟨h3, x3⟩ := h2.put (o := .lst ((sortU ltZ xs).map .int)) hp2
      exact q _ _ _ _ (x1.trans x3) h3 (.lst upd_same (ints_isAll _))
  · rw [if_neg hz] at eq
    cases eq
theorem d_sortSet (hc : X.calm = true) (hg : Gl X "sorted") (hm : X.mg "sorted" = none) (hg2 : Gl X "set") (hm2 : X.mg "set" = none) (h : DE X e t m)
    (s1 : starEach [e] X.env = (false, eval e X.env) :: starEach [] X.env := by rfl) (s2 : starEach [.Call (.Name "set" p2) [e] [] pos2] X.env = (false, eval (.Call (.Name "set" p2) [e] [] pos2) X.env) :: starEach [] X.env := by rfl) :
    DE X (.Call (.Name "sorted" p) [.Call (.Name "set" p2) [e] [] pos2] [] pos) (tCB (rSortM X.w) (tCons (tCB (rSetM X.w X.K) (tCons t tNil)) tNil)) (mSortSet m) :=
  ⟨pe_callB (cr_sortM hc) hg hm (by decide +kernel) (pa_cons (pe_callTy (cr_setM hc) hg2 hm2 (by decide +kernel) (pa_cons h.pe pa_nil s1) (he := s1)) pa_nil s2) (he := s2), se_sortSet X.w h.se⟩
end
/-! ### sep.join -/
def gJoin : MM := fun o ds S => match o, ds with
  | .str a, [d] => (viewS S d).bind fun es => (strsD es).bind fun ys => if (ys.map (·.length)).sum + ys.length * a.length ≤ 16777216 then some (.str (Txt.join a ys), S) else none
  | _, _ => none
def rJoin (K : PySem.W.Frag) : V → List V → Hp → VK → Prop := fun x xs H Q => ∃ a p, ∃ ys : List Str, x = .str a ∧ xs = [.ref p] ∧ (SqL K H p (ys.map V.str) ∨ SqT K H p (ys.map V.str)) ∧ (ys.map (·.length)).sum + ys.length * a.length ≤ 16777216 ∧ Q (.str (Txt.join a ys)) H
section
variable {X : Cx} {K : PySem.W.Frag} {o e : Expr} {es : List Expr} {to t1 : TE} {mo m1 : ME} {t : TA} {m : MA} {apos cpos pos : Pos} {a b : Expr} {ta tb : TE} {ma mb : ME}
theorem rm_join : RM K (rJoin K) gJoin := by
  intro F f S H x vs dx ds d S' hh ix iv e Q q
  unfold gJoin at e
  split at e
  · rename_i a d1
    obtain ⟨es, e1, e⟩ := bind_some' e
    obtain ⟨ys, e2, e⟩ := bind_some' e
    by_cases hz : (ys.map (·.length)).sum + ys.length * a.length ≤ 16777216
    · rw [if_pos hz] at e
      cases e
      obtain ⟨v, rfl, i1⟩ := all1 iv
      obtain ⟨p, ws, rfl, hp, r⟩ := viewS_ok hh i1 e1
      have := strsD_eq e2
      subst this
      have := isAll_strs r
      subst this
      exact ⟨a, p, ys, is_str ix, rfl, hp, hz, q.now hh (.str _)⟩
    · rw [if_neg hz] at e
      cases e
  · cases e
theorem d_join (ho : DE X o to mo) (ha : DA X (e :: es) t m) (hbase : attributeBase o "join" X.env (eval o X.env) = eval o X.env := by rfl)
    (hfew : ((backTo cpos (starEach (e :: es) X.env)).all (fun x => !x.1) && (backToKw cpos (keywordEach [] X.env)).all (fun x => x.1.isSome) && decide ((e :: es).length + ([] : List Keyword).length + (if ([] : List Keyword).isEmpty then 0 else 1) < 30)) = true := by rfl)
    (hline : (apos.endLine == cpos.line) = true := by rfl) (hs : starEach (e :: es) X.env = (false, eval e X.env) :: starEach es X.env := by rfl) (hpl : (backTo cpos (starEach es X.env)).any (·.1) = false := by rfl) :
    DE X (.Call (.Attribute o "join" apos) (e :: es) [] cpos) (tBM X.K "str" (rJoin X.K) to t) (mBM "str" gJoin mo m) := ⟨pe_bm PySem.F.plainAttrs_str PySem.F.slot_str_join PySem.F.type_str_join mt_join ho.pe ha.pe hbase hfew hline hs hpl, se_bm rm_join ho.se ha.se⟩
/-! ### [..] * n -/
def gRep : MO := fun x y S => match y with
  | .int k => (viewW S x).bind fun ds => if -(2 ^ 63) ≤ k ∧ k < 2 ^ 63 ∧ ds.length * k.toNat ≤ sizeLine then some (.lst (List.replicate k.toNat ds).flatten, S) else none
  | _ => none
theorem isAll_rep {F : Hp} {f : List Addr} {vs : List V} {ds : List D} (r : IsAll K F f vs ds) : ∀ n : Nat, IsAll K F f (List.replicate n vs).flatten (List.replicate n ds).flatten
  | 0 => .nil
  | n + 1 => by
    rw [List.replicate_succ, List.replicate_succ, List.flatten_cons, List.flatten_cons]
    exact r.append (isAll_rep r n)
theorem ro_rep : RO K rRep gRep := by
  intro F f S H x y dx dy d S' hh ix iy e Q q
  cases dy <;> try (cases e; done)
  rename_i k
  simp only [gRep] at e
  obtain ⟨ds, e1, e⟩ := bind_some' e
  by_cases hc : -(2 ^ 63) ≤ k ∧ k < 2 ^ 63 ∧ ds.length * k.toNat ≤ sizeLine
  · rw [if_pos hc] at e
    cases e
    obtain ⟨a, vs, rfl, ha, r⟩ := viewW_ok hh ix e1
    refine ⟨a, k, vs, rfl, is_int iy, ha, hc.1, hc.2.1, by rw [r.length]; exact hc.2.2, fun p hp => ?_⟩
    obtain ⟨h2, x2⟩ := hh.put (o := .lst (List.replicate k.toNat vs).flatten) hp
    exact q _ _ _ _ x2 h2 (.lst upd_same (isAll_rep (r.mono x2) _))
  · rw [if_neg hc] at e
    cases e
theorem d_rep (ha : DE X a ta ma) (hb : DE X b tb mb) : DE X (.BinOp a .Mult b pos) (tOp rRep ta tb) (mOp gRep ma mb) := d_op op_rep ro_rep ha hb
/-! ### texts compared -/
def gLtX : MO := fun x y S => match x, y with | .str a, .str b => some (.bl (ltX a b), S) | _, _ => none
def rLtX : R2 := fun x y H Q => ∃ i j, x = .str i ∧ y = .str j ∧ Q (.bl (decide (i.cps.toList < j.cps.toList))) H
theorem ro_ltX : RO K rLtX gLtX := by
  intro F f S H x y dx dy d S' hh ix iy e Q q
  unfold gLtX at e
  split at e
  · cases e
    exact ⟨_, _, is_str ix, is_str iy, q.now hh (.bl _)⟩
  · cases e
theorem e_ltX (ha : DE X a ta ma) (hb : DE X b tb mb) : DE X (.Compare a [.Lt] [b] pos) (tOp rLtX ta tb) (mOp gLtX ma mb) := d_cmp op_lt_str ro_ltX ha hb
theorem t_ltX (ha : DE X a ta ma) (hb : DE X b tb mb) : DT X (.Compare a [.Lt] [b] pos) (tTest (tOp rLtX ta tb)) (mTest (mOp gLtX ma mb)) := t_cmp op_lt_str ro_ltX ha hb
/-! ### pairs of texts compared -/
def leP (a b c d : Str) : Bool := if a = c then (if b = d then true else !ltX d b) else !ltX c a
def gLeP : MO := fun x y S => match x, y with | .tup [.str a, .str b], .tup [.str c, .str d] => some (.bl (leP a b c d), S) | _, _ => none
def rLeP (K : PySem.W.Frag) : R2 := fun x y H Q => ∃ p r a b c d, x = .ref p ∧ y = .ref r ∧ SqT K H p [.str a, .str b] ∧ SqT K H r [.str c, .str d] ∧ Q (.bl (leP a b c d)) H
theorem le_strR {A : Around} {s : Shared} (a b : Str) (t u : Tok) : Ob.RcOp .LtE A s (.str a t) (.str b u) (!ltX b a) := fun prog w E Q h => by
  have := PySem.P.le_str (prog := prog) (w := w) (A := A) (s := s) (x := a) (y := b) (t := t) (u := u) (E := E) (Q := Q) (by simpa [ltX] using h)
  exact this
theorem op_leP (hu : X.A.units < cLine) : OpR X (compareOp .LtE) (rLeP X.K) := by
  intro pins s σ H x y v u Q I rx ry h
  obtain ⟨p, r, a, b, c, d, rfl, rfl, hp, hr, q⟩ := h
  cases rx
  cases ry
  obtain ⟨its, r1, p1, _⟩ := I.tuple hp
  obtain ⟨its2, r2, p2, _⟩ := I.tuple hr
  cases r1 with
  | cons ra rr =>
    cases rr with
    | cons rb rr =>
      cases rr
      obtain ⟨ta, rfl⟩ := ra
      obtain ⟨tb, rfl⟩ := rb
      cases r2 with
      | cons rc rr =>
        cases rr with
        | cons rd rr =>
          cases rr
          obtain ⟨tc, rfl⟩ := rc
          obtain ⟨td, rfl⟩ := rd
          have R := Ob.RcOp.tuples_le (A := X.A) (s := s) (e := fun j => if j = 0 then decide (a = c) else decide (b = d)) (r := fun j => if j = 0 then !ltX c a else !ltX d b) p1 p2 hu (fun j h1 h2 => by
            match j, h1 with
            | 0, _ => exact SeqAt.EqAt.str_str _ _ _ _
            | 1, _ => exact SeqAt.EqAt.str_str _ _ _ _) (fun j h1 h2 _ => by
            match j, h1 with
            | 0, _ => exact le_strR _ _ _ _
            | 1, _ => exact le_strR _ _ _ _)
          refine R X.prog X.w X.xe _ ?_
          have e : Ob.lexAt (fun j => if j = 0 then decide (a = c) else decide (b = d)) (fun j => if j = 0 then !ltX c a else !ltX d b) true 0 2 = leP a b c d := by
            simp only [Ob.lexAt, leP]
            by_cases h1 : a = c <;> by_cases h2 : b = d <;> simp [h1, h2]
          exact ⟨.bl (leP a b c d), H, I, by rw [← e]; rfl, q⟩
theorem ro_leP : RO K (rLeP K) gLeP := by
  intro F f S H x y dx dy d S' hh ix iy e Q q
  unfold gLeP at e
  split at e
  · rename_i a b c d
    cases e
    cases ix with
    | tup ha ra =>
      cases iy with
      | tup hb rb =>
        have e1 := isAll_strs (xs := [a, b]) ra
        have e2 := isAll_strs (xs := [c, d]) rb
        subst e1 e2
        exact ⟨_, _, a, b, c, d, rfl, rfl, Evl.ex_t hh.ex (SqT.of ha), Evl.ex_t hh.ex (SqT.of hb), q.now hh (.bl _)⟩
  · cases e
theorem e_leP (hu : X.A.units < cLine) (ha : DE X a ta ma) (hb : DE X b tb mb) : DE X (.Compare a [.LtE] [b] pos) (tOp (rLeP X.K) ta tb) (mOp gLeP ma mb) := d_cmp (op_leP hu) ro_leP ha hb
theorem t_leP (hu : X.A.units < cLine) (ha : DE X a ta ma) (hb : DE X b tb mb) : DT X (.Compare a [.LtE] [b] pos) (tTest (tOp (rLeP X.K) ta tb)) (mTest (mOp gLeP ma mb)) := t_cmp (op_leP hu) ro_leP ha hb
end
end DL
/-! DS6: sum of a list of lists, from a list on. -/
namespace DL
open PySem L2 PyProof.Rows
abbrev lsO (xs : List Value) (n : Nat) : Obj := { cls := .type "list", dict := none, data := .seq xs.toArray n, slots := #[] }
section
variable {P : Program} {w : World} {A : Around} {E : Value → Shared → Prop} {s : Shared}
theorem sumL_loop {I : Addr} {fp wr : List Addr} {G : Array GenState → Array GenState → Prop} {n : Nat} {Pv : Nat → Value → Prop} {St : Nat → Shared → Prop} {R : Result → Shared → Prop} (W : WalksS P w A.in1 I fp wr G n Pv St) (Z : Addr) (hfp : ∀ b ∈ fp, b < Z)
    (las : List Addr) (cs : List (List Value)) (hl1 : las.length = n) (hl2 : cs.length = n) (val : ∀ (i : Nat) (v : Value), Pv i v → ∃ a, las[i]? = some a ∧ v = .ref a) (hlas : ∀ a ∈ las, a ∉ wr ∧ a ≠ Z) :
    ∀ (m i : Nat) (s : Shared) (T : Addr) (acc : List Value) (n1 c : Nat), n - i = m → i ≤ n → St i s → s.heap.get? Z = some (lsO [.ref T] c) → s.heap.get? T = some (lsO acc n1) → T ∉ wr → T ≠ Z →
    (∀ (j : Nat) (a : Addr) (xs : List Value), las[j]? = some a → cs[j]? = some xs → ∃ nj, s.heap.get? a = some (lsO xs nj)) → acc.length + (cs.drop i).flatten.length ≤ sizeLine →
    (∀ s' T' n', Moved (Z :: wr) G s s' → s'.heap.get? T' = some (lsO (acc ++ (cs.drop i).flatten) n') → ((i = n ∧ T' = T) ∨ (i < n ∧ Z < T')) → R (.ok (.ret (.ref T'))) s') → codeAny (model P w) A (.builtin "sum.loop" ⟨[.ref I, .ref Z, rawInt 2, rawInt 0], []⟩) R s := by
  have hZ : Z ∉ fp := fun z => Nat.lt_irrefl _ (hfp _ z)
  have nz : Z ∉ wr := fun z => hZ (W.sub _ z)
  have up : ∀ b ∈ wr, b ∈ Z :: wr := fun b z => List.mem_cons_of_mem _ z
  intro m
  induction m with
  | zero =>
    intro i s T acc n1 c hm hi hst hZ1 hT1 hTw hTz hcs hz fin
    have ei : i = n := by omega
    subst ei
    refine codeAny_builtin F.entry_sum_loop ?_; rw [Around.under_plainId F.plain_sum_loop _]
    show wpAny _ A.in1 (seqItems? (.ref Z) >>= _) _ _ s
    refine wpAny_bind (wpAny_seqItems hZ1 rfl ?_); show wpAny _ A.in1 (tryCatch (pyNext (.ref I)) _ >>= _) _ _ s
    refine wpAny_bind (wpAny_tryCatch (W.done s _ _ hst fun s' mv => ?_))
    refine wpAny_pure (fin s' T n1 (mv.mono up) ?_ (.inl ⟨rfl, rfl⟩))
    rw [List.drop_of_length_le (by omega), List.flatten_nil, List.append_nil]
    exact mv.heap T _ hTw hT1
  | succ m ih =>
    intro i s T acc n1 c hm hi hst hZ1 hT1 hTw hTz hcs hz fin
    have hlt : i < n := by omega
    refine codeAny_builtin F.entry_sum_loop ?_; rw [Around.under_plainId F.plain_sum_loop _]
    show wpAny _ A.in1 (seqItems? (.ref Z) >>= _) _ _ s
    refine wpAny_bind (wpAny_seqItems hZ1 rfl ?_); show wpAny _ A.in1 (tryCatch (pyNext (.ref I)) _ >>= _) _ _ s
    refine wpAny_bind (wpAny_tryCatch (W.item i s _ _ hlt hst fun v s' hP st' mv => ?_))
    obtain ⟨a, ha, rfl⟩ := val i v hP
    have hic : i < cs.length := by omega
    obtain ⟨nj, hj⟩ := hcs i a cs[i] ha (List.getElem?_eq_getElem hic)
    have hla := hlas a (List.mem_of_getElem? ha)
    have hT2 := mv.heap T _ hTw hT1
    have ha2 := mv.heap a _ hla.1 hj
    have hZ2 := mv.heap Z _ nz hZ1
    have lZ : Z < s'.heap.objs.size := Heap.lt_size hZ2
    have split : (cs.drop i).flatten = cs[i] ++ (cs.drop (i + 1)).flatten := by rw [List.drop_eq_getElem_cons hic, List.flatten_cons]
    rw [split, List.length_append] at hz
    show wpAny _ A.in1 ((holding [Value.ref a] (binaryOp .Add (.ref T) (.ref a))).attempt >>= _) _ _ _
    refine wpAny_bind (wpAny_attempt (wpAny_holding (PySem.P.add_list hT2 ha2 ?_ (by rw [List.size_toArray, List.size_toArray]; omega))))
    rw [show acc.toArray ++ (cs[i]).toArray = (acc ++ cs[i]).toArray by simp]
    have g1 : ∀ (o : Obj) b u, s'.heap.get? b = some u → (s'.heap.push o).get? b = some u := fun o b u e => Heap.get?_push_of_some _ e
    have hZ3 := g1 (lsO (acc ++ cs[i]) 0) _ _ hZ2
    show wpAny _ A.in1 (updateSeq Z (fun _ => #[.ref s'.heap.objs.size]) >>= _) _ _ _
    refine wpAny_bind (wpAny_updateSeq hZ3 rfl ?_)
    have hZ4 := Heap.get?_update_self (Obj.mapSeq fun _ => #[Value.ref s'.heap.objs.size]) hZ3 rfl
    refine wpAny_bind (wpAny_letGo ?_)
    have nTZ : s'.heap.objs.size ≠ Z := Nat.ne_of_gt lZ
    refine wpAny_bind (wpAny_updateSeq hZ4 rfl (wpAny_pure ⟨plainId_quiet F.plain_sum_loop _, ?_⟩))
    have hZ5 := Heap.get?_update_self (Obj.mapSeq fun _ => #[Value.ref s'.heap.objs.size]) hZ4 rfl
    have oth : ∀ b u, b ≠ Z → s'.heap.get? b = some u → (((s'.heap.push (lsO (acc ++ cs[i]) 0)).update Z (Obj.mapSeq fun _ => #[Value.ref s'.heap.objs.size])).update Z (Obj.mapSeq fun _ => #[Value.ref s'.heap.objs.size])).get? b = some u :=
      fun b u hb e => (Heap.get?_update_other _ _ (Ne.symm hb)).trans ((Heap.get?_update_other _ _ (Ne.symm hb)).trans (g1 _ b u e))
    refine ih (i + 1) _ s'.heap.objs.size (acc ++ cs[i]) 0 _ (by omega) hlt (W.frame _ s' _ _ st' (Nat.le_refl _) fun b hb o e => oth b o (fun z => hZ (z ▸ hb)) e) hZ5 ?_ (fun z => ?_) nTZ (fun j a2 xs e1 e2 => ?_) (by rw [List.length_append]; omega) fun s2 T' n' m2 h2 hc2 => ?_
    · exact (Heap.get?_update_other _ _ (Ne.symm nTZ)).trans ((Heap.get?_update_other _ _ (Ne.symm nTZ)).trans (Heap.get?_push_size _ rfl))
    · exact Nat.lt_irrefl _ (Nat.lt_trans lZ (hfp _ (W.sub _ z)))
    · obtain ⟨k2, e3⟩ := hcs j a2 xs e1 e2
      have q := hlas a2 (List.mem_of_getElem? e1)
      exact ⟨k2, oth a2 _ q.2 (mv.heap a2 _ q.1 e3)⟩
    · refine fin s2 T' n' (Moved.trans W.gtrans ((mv.mono up).then_heap (Nat.le_refl _) fun b o hb e => oth b o (fun z => hb (z ▸ List.mem_cons_self)) e) m2) (by rw [split, ← List.append_assoc]; exact h2) (.inr ⟨hlt, ?_⟩)
      rcases hc2 with ⟨_, rfl⟩ | ⟨_, z⟩
      · exact lZ
      · exact z
theorem args_sumB (a b : Value) : argsOk "sum" ⟨[a, b], []⟩ := by unfold argsOk; kernel_rfl
theorem sumL_call {l T : Addr} {items : List Value} {cs : List (List Value)} {las : List Addr} {acc : List Value} {n1 : Nat} {Q : Value → Shared → Prop} (hh : A.handled = none) (hl : s.heap.IsList l items.toArray) (hi : items = las.map .ref) (hT : s.heap.get? T = some (lsO acc n1)) (hl2 : cs.length = las.length)
    (hcs : ∀ (j : Nat) (a : Addr) (xs : List Value), las[j]? = some a → cs[j]? = some xs → ∃ nj, s.heap.get? a = some (lsO xs nj)) (hz : acc.length + cs.flatten.length ≤ sizeLine)
    (fin : ∀ s' T' n', (∀ b o, s.heap.get? b = some o → s'.heap.get? b = some o) → s'.gens = s.gens → s'.os = s.os → s'.heap.get? T' = some (lsO (acc ++ cs.flatten) n') → ((las = [] ∧ T' = T) ∨ (las ≠ [] ∧ s.heap.objs.size ≤ T')) → Q (.ref T') s') :
    wpAny (model P w) A (call (.builtin "sum") [.ref l, .ref T]) Q E s := by
  refine call_function_tree F.kind_sum F.plain_sum F.entry_sum (args_sumB _ _) ?_
  unfold Builtin.«sum»
  simp only [List.length_cons, List.length_nil]
  rw [if_neg (by decide)]
  refine wpAny_bind (wpAny_of_eq (show Builtin.Builtins.bindParams "sum" ["start"] 0 ⟨[.ref T], []⟩ = pure [some (.ref T)] from rfl) ?_)
  refine wpAny_bind (wpAny_pyIter_list hl ?_)
  have lT := Heap.lt_size hT
  have isT : ∀ (o : Obj), Shared.TypeIs { s with heap := s.heap.push o } (.ref T) "list" := fun o => ⟨_, Heap.get?_push_of_some _ hT, rfl⟩
  refine wpAny_bind (wpAny_pure ?_)
  simp only [List.forIn_cons, List.forIn_nil]
  refine wpAny_bind (wpAny_bind (wpAny_bind (wpAny_isInstance (T := "list") (b := false) (isT _) (by rw [isSubtype_type]; kernel_rfl) ?_)))
  simp only [Bool.false_eq_true, if_false]
  refine wpAny_pure (wpAny_bind (wpAny_bind (wpAny_isInstance (T := "list") (b := false) (isT _) (by rw [isSubtype_type]; kernel_rfl) ?_)))
  simp only [Bool.false_eq_true, if_false]
  refine wpAny_pure (wpAny_bind (wpAny_bind (wpAny_isInstance (T := "list") (b := false) (isT _) (by rw [isSubtype_type]; kernel_rfl) ?_)))
  simp only [Bool.false_eq_true, if_false]
  refine wpAny_pure (wpAny_pure (wpAny_bind (wpAny_newObj_type ?_)))
  obtain ⟨ol, hol, hlc, nl, hld⟩ := id hl
  have ll : l < s.heap.objs.size := Heap.lt_size hol
  have z1 : (s.heap.push { cls := .type "list_iterator", data := .fields #[.ref l, .int 0 0] }).objs.size = s.heap.objs.size + 1 := Heap.size_push ..
  have W := (Walks.list (prog := P) (w := w) (A := A.in1) (by simp [hh]) s.heap.objs.size l (Nat.ne_of_lt ll) items.toArray).toS
  have kp : ∀ (o o2 : Obj) b u, s.heap.get? b = some u → ((s.heap.push o).push o2).get? b = some u := fun o o2 b u e => Heap.get?_push_of_some _ (Heap.get?_push_of_some _ e)
  have szi : items.toArray.size = las.length := by rw [hi]; simp
  have notin : ∀ {a : Addr} {u : Obj}, s.heap.get? a = some u → a ∉ [s.heap.objs.size] ∧ a ≠ s.heap.objs.size + 1 := fun {a u} e => by
    have := Heap.lt_size e
    exact ⟨by rw [List.mem_singleton]; exact Nat.ne_of_lt this, Nat.ne_of_lt (Nat.lt_succ_of_lt this)⟩
  refine wpAny_pure ⟨plainId_quiet F.plain_sum_loop _, ?_⟩
  rw [z1]
  refine sumL_loop W (s.heap.objs.size + 1) (fun b hb => ?_) las cs szi.symm (by rw [szi, hl2]) (fun i v e => ?_) (fun a ha => ?_) items.toArray.size 0 { s with heap := (s.heap.push { cls := .type "list_iterator", data := .fields #[.ref l, .int 0 0] }).push (lsO [.ref T] 0) } T acc n1 0 rfl (Nat.zero_le _) ⟨⟨_, Heap.get?_push_of_some _ (Heap.get?_push_size _ rfl), rfl, rfl⟩, (hl.push _).push _⟩ ?_ (kp _ _ _ _ hT) (notin hT).1 (notin hT).2 (fun j a xs e1 e2 => ?_) (by simpa using hz) fun s' T' n' mv h2 hc => ?_
  · simp only [List.mem_cons, List.not_mem_nil, or_false] at hb
    rcases hb with rfl | rfl
    · exact Nat.lt_succ_self _
    · exact Nat.lt_succ_of_lt ll
  · have e' : items[i]? = some v := by simpa using e
    rw [hi, List.getElem?_map] at e'
    obtain ⟨a, e1, e2⟩ := map_some' e'
    exact ⟨a, e1, e2.symm⟩
  · obtain ⟨j, hj, rfl⟩ := List.getElem_of_mem ha
    obtain ⟨nj, e⟩ := hcs j _ (cs[j]'(by omega)) (List.getElem?_eq_getElem hj) (List.getElem?_eq_getElem _)
    exact notin e
  · have := Heap.get?_push_size (s.heap.push { cls := .type "list_iterator", data := .fields #[.ref l, .int 0 0] }) (o := lsO [.ref T] 0) rfl
    rw [z1] at this
    exact this
  · obtain ⟨nj, e⟩ := hcs j a xs e1 e2
    exact ⟨nj, kp _ _ _ _ e⟩
  · refine fin s' T' n' (fun b o e => mv.heap b o ?_ (kp _ _ b o e)) mv.gens mv.os (by simpa using h2) ?_
    · have := notin e
      simp only [List.mem_cons, not_or]
      exact ⟨this.2, by simpa using this.1⟩
    · rcases hc with ⟨h1, h3⟩ | ⟨h1, z⟩
      · exact .inl ⟨List.length_eq_zero_iff.mp (by rw [← szi]; exact h1.symm), h3⟩
      · exact .inr ⟨fun z0 => by rw [szi, z0] at h1; exact Nat.lt_irrefl 0 h1, Nat.le_of_lt (Nat.lt_of_succ_lt z)⟩
end
def rSumL (K : PySem.W.Frag) : List V → Hp → VK → Prop := fun vs H Q => ∃ (l T : Addr) (las : List Addr) (cs : List (List V)) (acc : List V), vs = [.ref l, .ref T] ∧ SqL K H l (las.map V.ref) ∧ H T = some (.lst acc) ∧ cs.length = las.length ∧ (∀ (j : Nat) a xs, las[j]? = some a → cs[j]? = some xs → H a = some (.lst xs)) ∧ acc.length + cs.flatten.length ≤ sizeLine ∧
  (las = [] → Q (.ref T) H) ∧ (las ≠ [] → ∀ p, H p = none → Q (.ref p) (upd H p (.lst (acc ++ cs.flatten))))
theorem vals_each {I : Prop} {s : Shared} : ∀ {las : List Addr} {cs : List (List V)}, cs.length = las.length → (∀ (j : Nat) a xs, las[j]? = some a → cs[j]? = some xs → ∃ ys n, Vals xs ys ∧ s.heap.get? a = some (lsO ys n)) →
    ∃ ds : List (List Value), ds.length = las.length ∧ Vals cs.flatten ds.flatten ∧ ∀ (j : Nat) a ys, las[j]? = some a → ds[j]? = some ys → ∃ n, s.heap.get? a = some (lsO ys n)
  | [], [], _, _ => ⟨[], rfl, .nil, fun j a ys e => by simp at e⟩
  | a :: las, xs :: cs, hl, h => by
    obtain ⟨ys, n, h1, h2⟩ := h 0 a xs rfl rfl
    obtain ⟨ds, d1, d2, d3⟩ := vals_each (I := I) (s := s) (las := las) (cs := cs) (by simpa using hl) fun j a xs e1 e2 => h (j + 1) a xs (by simpa using e1) (by simpa using e2)
    refine ⟨ys :: ds, by simp [d1], by rw [List.flatten_cons, List.flatten_cons]; exact h1.append d2, fun j a' ys' e1 e2 => ?_⟩
    cases j with
    | zero => simp at e1 e2; subst e1 e2; exact ⟨n, h2⟩
    | succ j => exact d3 j a' ys' (by simpa using e1) (by simpa using e2)
section
variable {X : Cx} {K : PySem.W.Frag}
theorem call_sumL (hc : X.calm = true) : CallR X (.builtin "sum") (rSumL X.K) := by
  intro pins s σ H vs us Q I r h
  obtain ⟨l, T, las, cs, acc, rfl, hs, hT, hl, hcs, hz, q0, q⟩ := h
  obtain ⟨its, rv, hi, _⟩ := I.list hs
  obtain ⟨zT, itT, nT, rT, eT⟩ := I.hok T _ hT
  have hit : its = las.map Value.ref := by
    have : ∀ {las : List Addr} {its : List Value}, Vals (las.map V.ref) its → its = las.map Value.ref := by
      intro las
      induction las with
      | nil => intro its h; cases h; rfl
      | cons a las ih => intro its h; cases h with | cons r t => cases r; rw [ih t]; rfl
    exact this rv
  obtain ⟨ds, d1, d2, d3⟩ := vals_each (I := True) (s := s) hl fun j a xs e1 e2 => by
    obtain ⟨_, ys, n, r, e⟩ := I.hok a _ (hcs j a xs e1 e2)
    exact ⟨ys, n, r, e⟩
  cases r with
  | cons r1 rr =>
    cases rr with
    | cons r2 rr =>
      cases rr
      cases r1
      cases r2
      refine sumL_call (cs := ds) (I.ok.hd hc) hi.isList hit eT (by rw [d1]) d3 (by rw [← rT.length, ← d2.length]; exact hz) fun s' T' n' k g o hp hc2 => ?_
      have e : s' = { s with heap := s'.heap, gens := s'.gens, drawn := s'.drawn, toks := s'.toks } := by cases s'; cases s; cases o; rfl
      rcases hc2 with ⟨h1, rfl⟩ | ⟨hne, hge⟩
      · have J : Inv X pins σ H { s with heap := s'.heap, gens := s'.gens, drawn := s'.drawn, toks := s'.toks } := I.call (ch := []) (Un.kept k) (I.hok.kept k) (by rw [g]; exact I.bare) (fun _ z => nomatch z)
        rw [e]
        exact ⟨.ref T', H, J, rfl, q0 h1⟩
      · have hn : H T' = none := I.hok.fresh hge
        have J : Inv X pins σ (upd H T' (.lst (acc ++ cs.flatten))) { s with heap := s'.heap, gens := s'.gens, drawn := s'.drawn, toks := s'.toks } :=
          I.call (ch := []) (Un.laid k hge hn) (I.hok.laid k hge ⟨by rw [List.length_append]; exact hz, _, _, rT.append d2, hp⟩) (by rw [g]; exact I.bare) (fun _ z => nomatch z)
        rw [e]
        exact ⟨.ref T', _, J, rfl, q hne _ hn⟩
def lstsW (S : Sto) : List D → Option (List (List D))
  | [] => some []
  | d :: r => (viewW S d).bind fun x => (lstsW S r).map (x :: ·)
/-- sum(lists, a list) -/
def gSumL : MR := fun ds S => match ds with
  | [x, y] => (viewL S x).bind fun es => (viewW S y).bind fun acc => (lstsW S es).bind fun css => if acc.length + css.flatten.length ≤ sizeLine then (if es = [] then some (y, S) else some (.lst (acc ++ css.flatten), S)) else none
  | _ => none
theorem lstsW_ok {F H : Hp} {f : List Addr} {S : Sto} (hh : Held K F f S H) : ∀ {vs : List V} {es : List D} {css : List (List D)}, IsAll K F f vs es → lstsW S es = some css →
    ∃ (las : List Addr) (cs : List (List V)), vs = las.map V.ref ∧ cs.length = las.length ∧ (∀ (j : Nat) (a : Addr) (xs : List V), las[j]? = some a → cs[j]? = some xs → H a = some (.lst xs)) ∧ IsAll K F f cs.flatten css.flatten ∧ las.length = es.length
  | _, [], _, .nil, e => by cases e; exact ⟨[], [], rfl, rfl, fun j a xs e => by simp at e, .nil, rfl⟩
  | v :: vs, d :: es, css, .cons i r, e => by
    obtain ⟨x, e1, e⟩ := bind_some' e
    obtain ⟨cr, e2, e3⟩ := map_some' e
    subst e3
    obtain ⟨a, ws, rfl, ha, rr⟩ := viewW_ok hh i e1
    obtain ⟨las, cs, rfl, h1, h2, h3, h4⟩ := lstsW_ok hh r e2
    refine ⟨a :: las, ws :: cs, rfl, by simp [h1], fun j b xs q1 q2 => ?_, by rw [List.flatten_cons, List.flatten_cons]; exact rr.append h3, by simp [h4]⟩
    cases j with
    | zero => simp at q1 q2; subst q1 q2; exact ha
    | succ j => exact h2 j b xs (by simpa using q1) (by simpa using q2)
theorem rc_sumL : RCD K (rSumL K) gSumL := by
  intro F f S H vs ds d S' hh r e Q q
  unfold gSumL at e
  split at e
  · rename_i x y
    obtain ⟨es, e1, e⟩ := bind_some' e
    obtain ⟨acc, e2, e⟩ := bind_some' e
    obtain ⟨css, e3, e⟩ := bind_some' e
    by_cases hz : acc.length + css.flatten.length ≤ sizeLine
    · rw [if_pos hz] at e
      obtain ⟨v, w, rfl, i1, i2⟩ := all2 r
      obtain ⟨l, us, rfl, hl, r1⟩ := viewL_ok hh i1 e1
      obtain ⟨T, ws, rfl, hT, r2⟩ := viewW_ok hh i2 e2
      obtain ⟨las, cs, rfl, h1, h2, h3, h4⟩ := lstsW_ok hh r1 e3
      refine ⟨l, T, las, cs, ws, rfl, hl, hT, h1, h2, by rw [r2.length, h3.length]; exact hz, fun h0 => ?_, fun hne p hp => ?_⟩
      · have : es = [] := List.length_eq_zero_iff.mp (by rw [← h4, h0]; rfl)
        rw [if_pos this] at e
        cases e
        exact q.now hh i2
      · obtain ⟨hn, xn⟩ := hh.put (o := .lst (ws ++ cs.flatten)) hp
        by_cases h0 : es = []
        · rw [if_pos h0] at e
          cases e
          subst h0
          exact absurd (List.length_eq_zero_iff.mp h4) hne
        · rw [if_neg h0] at e
          cases e
          exact q _ _ _ _ xn hn (.lst upd_same ((r2.append h3).mono xn))
    · rw [if_neg hz] at e
      cases e
  · cases e
end
end DL
/-! DS7: isinstance with an own class; != by an own __eq__. -/
namespace DL
open PySem L2 PyProof.Rows
structure OwnC (K : PySem.W.Frag) (C : Addr) : Prop where
  cl : Cls K C
  ha : PySem.W.findIn K (.ref C) "__class__" = some (some (.builtin "object.__class__"))
  hn : PySem.W.specialIn K (.builtin "object.__class__") "__get__" = some (some (.builtin "getset_descriptor.__get__"))
  ht : PySem.W.takesIn K (.builtin "object.__class__") = some true
  hm : PySem.W.mroIn K C (.type "object") = some true
/-- isinstance(x, C), x of C itself -/
def gIsiC (C : Addr) : MR := fun ds S => match ds with
  | [d, .cls C'] => if C' = C then (viewI S d).bind fun w => if w.1 = C then some (.bl true, S) else none else none
  | _ => none
theorem rc_isiC {K : PySem.W.Frag} {C : Addr} (O : OwnC K C) : RCD K (rIsi K) (gIsiC C) := by
  intro F f S H vs ds d S' hh r e Q q
  unfold gIsiC at e
  split at e
  · rename_i d1 C'
    by_cases h1 : C' = C
    · rw [if_pos h1] at e
      obtain ⟨⟨C2, ks, es⟩, e1, e⟩ := bind_some' e
      by_cases h2 : C2 = C
      · rw [if_pos h2] at e
        cases e
        obtain ⟨v, w, rfl, i1, i2⟩ := all2 r
        cases i2
        subst h1 h2
        obtain ⟨a, dx, kvs, rfl, ha, _, _⟩ := viewI_ok hh i1 e1
        refine ⟨.ref a, _, .ref C2, .ref C2, true, rfl, .own C2, .base (.ins ha O.cl O.ha O.hn O.ht O.hm), ?_, q.now hh (.bl _)⟩
        unfold PySem.W.kitOne
        simp
      · rw [if_neg h2] at e
        cases e
    · rw [if_neg h1] at e
      cases e
  · cases e
/-! ### != -/
section
variable {prog : Program} {w : World} {A : Around} {E : Value → Shared → Prop} {s : Shared} {K : PySem.W.Frag} {x C f : Addr} {ox : Obj} {od : Option Obj} {b tb : Value}
theorem ne_bind (self : Value) : bindSpecial (.builtin "object.__ne__") self = pure (.builtin "object.__ne__", [self]) :=
  (Slot.of (T := "object") (name := "__ne__") (owner := "object") (n := "__ne__") (by rw [typeLookup_type, builtinLookup_eq_fast]; kernel_rfl) (by decide +kernel) (by decide +kernel) (by decide +kernel)
    (by first | exact .inl (by decide +kernel) | exact .inr (by decide +kernel)) (by rw [isSubtype_type]; kernel_rfl)).bind self
theorem ne_if {M : Model} {args : List Value} {Q : Option Value → Shared → Prop} (X : K.In s.heap) (I : PySem.W.InstAt s.heap x ox C od) (hs : PySem.W.findIn K (.ref C) "__ne__" = some (some (.builtin "object.__ne__")))
    (h : wpAny M A (call (.builtin "object.__ne__") (.ref x :: args)) (fun v => Q (some v)) E s) : wpAny M A (callSpecialIfBound? (.ref x) "__ne__" args) Q E s := by
  simp only [callSpecialIfBound?, bindSpecialIfBound?]
  refine wpAny_holding (wpAny_bind (wpAny_bind (wpAny_bind (I.type.here ((PySem.W.looks_findIn X hs).here ?_)))))
  refine wpAny_bind (wpAny_askSetting (wpAny_ite ?_))
  have fin : wpAny M A (call (.builtin "object.__ne__") ([.ref x] ++ args) >>= fun v => pure (some v)) Q E s := wpAny_bind (wpAny_mono h (fun v s' h' => wpAny_pure h') fun _ _ h' => h')
  split
  · exact wpAny_bind (wpAny_of_eq (ne_bind _) (wpAny_pure (by exact fin)))
  · exact wpAny_tryCatch (wpAny_bind (wpAny_of_eq (ne_bind _) (wpAny_pure (by exact fin))))
theorem ne_check {M : Model} {Q : Unit → Shared → Prop} (X : K.In s.heap) (I : PySem.W.InstAt s.heap x ox C od) (hm : PySem.W.mroIn K C (.type "object") = some true) (h : Q () s) : wpAny M A (checkBuiltinCall "object.__ne__" ⟨[.ref x, b], []⟩) Q E s := by
  have ha := F.cmpArgs_ne (.ref x) b
  simp only [checkBuiltinCall, F.cmpKind_ne, F.cmpSplit_ne]
  refine wpAny_bind ?_
  unfold isInstance
  refine wpAny_bind (I.type.here ((PySem.W.looks_mroIn (M := M) X hm).here ?_))
  simp only [Bool.not_true, Bool.false_eq_true, if_false]
  cases hsig : Manifest.signature? "object.__ne__" with
  | none => exact wpAny_pure h
  | some sig =>
    simp only [argsOk, hsig] at ha
    show wpAny M A (Bind.checkArgs "object.__ne__" sig ⟨[.ref x, b], []⟩) Q E _
    have e : Bind.checkArgs "object.__ne__" sig ⟨[.ref x, b], []⟩ = pure () := ha
    rw [e]; exact wpAny_pure h
theorem ne_K {Q : Value → Shared → Prop} (hu : A.units + 8 < cLine) (X : K.In s.heap) (I : PySem.W.InstAt s.heap x ox C od) (hb : PySem.W.Looks (model prog w) s.heap (typeOf b) tb) (hn : PySem.W.notFirst K C tb = true)
    (hne : PySem.W.findIn K (.ref C) "__ne__" = some (some (.builtin "object.__ne__"))) (hs : PySem.W.findIn K (.ref C) "__eq__" = some (some (.ref f))) (hf : PySem.W.isFn K (.ref f) = true) (hm : PySem.W.mroIn K C (.type "object") = some true)
    (h : wpAny (model prog w) A.in1 (call (.ref f) [.ref x, b]) (fun v s' => ∃ r, v = .bool r ∧ Q (.bool (!r)) s') E s) : wpAny (model prog w) A (richCompare .NotEq (.ref x) b) Q E s := by
  have body : wpAny (model prog w) A (call (.builtin "object.__ne__") [.ref x, b]) (fun v s' => ∃ r, v = .bool r ∧ Q v s') E s := by
    refine wpAny_call (codeAny_call_builtin (by decide +kernel) F.cmpEntry_ne (ne_check X I hm ?_))
    unfold Builtin.«object.__ne__»
    have q := PySem.W.ifBound_K (args := [b]) (Q := fun o s' => ∃ r, o = some (.bool r) ∧ Q (.bool (!r)) s') X I hs hf (wpAny_mono h (fun v s' hv => by obtain ⟨r, rfl, q⟩ := hv; exact ⟨r, rfl, q⟩) fun _ _ e => e)
    have hu1 : A.in1.units < cLine := by rw [Around.in1_units]; omega
    repeat (first
      | with_reducible refine wpAny_cRoomFor hu1 ?_
      | (refine wpAny_bind (m := callSpecialIfBound? (.ref x) (Str.ofString "__eq__") [b]) (wpAny_mono q (fun o s' z => ?_) fun _ _ e => e))
      | wp_step)
    obtain ⟨r, rfl, q⟩ := z
    exact wpAny_bind (wpAny_truthy_bool (wpAny_pure ⟨!r, rfl, q⟩))
  have one : wpAny (model prog w) A (tryCompare (.ref x) "__ne__" b) (fun r s' => ∃ v, r = some v ∧ Q v s') E s := by
    unfold tryCompare
    refine wpAny_bind (ne_if X I hne (wpAny_mono body (fun v s' hv => ?_) fun _ _ e => e))
    obtain ⟨r, rfl, q⟩ := hv
    exact wpAny_pure ⟨_, rfl, q⟩
  unfold richCompare
  simp only [oneThing_ref]
  refine wpAny_holding (wpAny_bind (wpAny_cRoomFor (by omega) ?_))
  refine wpAny_bind (I.type.here (wpAny_bind (hb.here ?_)))
  split
  · rename_i q
    have e : PySem.W.subIn K tb (.ref C) = some false := by
      rcases Bool.or_eq_true_iff.mp hn with e | e
      · rw [beq_iff_eq.mp e] at q; simp at q
      · exact beq_iff_eq.mp e
    refine wpAny_bind ((PySem.W.looks_subIn X e).here ?_)
    simp only [Bool.false_eq_true, if_false]
    exact wpAny_bind (wpAny_mono one (fun r s' z => by obtain ⟨v, rfl, hq⟩ := z; exact wpAny_pure hq) fun _ _ e => e)
  · refine wpAny_bind (wpAny_pure ?_)
    simp only [Bool.false_eq_true, if_false]
    exact wpAny_bind (wpAny_mono one (fun r s' z => by obtain ⟨v, rfl, hq⟩ := z; exact wpAny_pure hq) fun _ _ e => e)
end
structure NeC (K : PySem.W.Frag) (C f : Addr) : Prop where
  ne : PySem.W.findIn K (.ref C) "__ne__" = some (some (.builtin "object.__ne__"))
  eq : PySem.W.findIn K (.ref C) "__eq__" = some (some (.ref f))
  fn : PySem.W.isFn K (.ref f) = true
  hm : PySem.W.mroIn K C (.type "object") = some true
def rNeI (K : PySem.W.Frag) (C : Addr) (G : MF) : R2 := fun x y H Q => ∃ a b dx dy fs gs, x = .ref a ∧ y = .ref b ∧ H a = some (.ins C dx fs) ∧ H b = some (.ins C dy gs) ∧ rFn K 2 G [x, y] H fun v H' => ∃ r, v = .bl r ∧ Q (.bl (!r)) H'
def gNeI (C : Addr) (G : MF) : MO := fun x y S => (viewI S x).bind fun w => (viewI S y).bind fun u => if w.1 = C ∧ u.1 = C then (G [x, y] S).bind fun r => match r.1 with
  | .bl b => some (.bl (!b), r.2)
  | _ => none else none
section
variable {X : Cx} {K : PySem.W.Frag} {C f : Addr} {fd : FuncData} {ps : List Str} {G : MF} {k : Nat} {a b : Expr} {ta tb : TE} {ma mb : ME} {pos : Pos}
theorem op_neI (N : NeC X.K C f) (Fn : FnG X.prog X.w X.K X.mg X.base k f fd ps 2 G) (hr : Room (k + 1) X.A) (hu : X.A.units + 8 < cLine) (hgd : X.A.guards = some []) (hb : Binds X.K fd ps []) : OpR X (compareOp .NotEq) (rNeI X.K C G) := by
  intro pins s σ H x y v u Q I rx ry h
  obtain ⟨a, b, dx, dy, fs, gs, rfl, rfl, hx, hy, h⟩ := h
  cases rx
  cases ry
  obtain ⟨mA, J, _⟩ := ins_get I.hok hx
  obtain ⟨mB, J', _⟩ := ins_get I.hok hy
  obtain ⟨od, J, _⟩ := J.look
  obtain ⟨od', J', _⟩ := J'.look
  refine ne_K (tb := .ref C) hu I.kIn J J'.type (by simp [PySem.W.notFirst]) N.ne N.eq N.fn N.hm ?_
  have e0 : Env0 X.prog X.w X.K X.mg X.base X.A.in1 X.stack s H := by
    have e := I.env0
    exact ⟨e.frames, e.mod, e.bs, e.bsz, e.funs, e.frf, e.hok, e.bare⟩
  have r2 : Vals [V.ref a, V.ref b] [Value.ref a, Value.ref b] := .cons rfl (.cons rfl .nil)
  have bb := hb s [.ref a, .ref b] I.kIn (by have := rFn_len h; rw [Fn.ar]; rfl)
  rw [List.append_nil] at bb
  refine wpAny_call (codeAny_mono (Fn.go X.A.in1 X.stack s H ⟨[.ref a, .ref b], []⟩ [.ref a, .ref b] [.ref a, .ref b] _ hr.in1 hgd e0 bb r2 h) fun r s' hq => ?_)
  cases r with
  | error e => exact hq.elim
  | ok fl =>
    cases fl with
    | ret w =>
      obtain ⟨z, H', I', rz, r, ez, q⟩ := I.after hq
      subst ez
      cases rz
      exact ⟨r, rfl, ⟨.bl (!r), H', I', rfl, q⟩⟩
    | _ => exact hq.elim
theorem ro_neI : RO K (rNeI K C G) (gNeI C G) := by
  intro F f S H x y dx dy d S' hh ix iy e Q q
  obtain ⟨⟨C1, k1, d1⟩, e1, e⟩ := bind_some' e
  obtain ⟨⟨C2, k2, d2⟩, e2, e⟩ := bind_some' e
  by_cases hc : C1 = C ∧ C2 = C
  · rw [if_pos hc] at e
    obtain ⟨⟨r, S1⟩, e3, e⟩ := bind_some' e
    cases r <;> try (cases e; done)
    rename_i rb
    cases e
    obtain ⟨rfl, rfl⟩ := hc
    obtain ⟨a, da, ka, rfl, ha, _, _⟩ := viewI_ok hh ix e1
    obtain ⟨b, db, kb, rfl, hb, _, _⟩ := viewI_ok hh iy e2
    refine ⟨a, b, da, db, ka, kb, rfl, rfl, ha, hb, ⟨F, f, S, [dx, dy], .bl rb, S1, hh, .cons ix (.cons iy .nil), rfl, e3, fun v H' F' f' x' h' i' => ?_⟩⟩
    have := is_bl i'
    subst this
    exact ⟨rb, rfl, q _ H' F' f' x' h' (.bl _)⟩
  · rw [if_neg hc] at e
    cases e
theorem t_neI (N : NeC X.K C f) (Fn : FnG X.prog X.w X.K X.mg X.base k f fd ps 2 G) (hr : Room (k + 1) X.A) (hu : X.A.units + 8 < cLine) (hgd : X.A.guards = some []) (hb : Binds X.K fd ps []) (ha : DE X a ta ma) (hbb : DE X b tb mb) : DT X (.Compare a [.NotEq] [b] pos) (tTest (tOp (rNeI X.K C G) ta tb)) (mTest (mOp (gNeI C G) ma mb)) := t_cmp (op_neI N Fn hr hu hgd hb) ro_neI ha hbb
theorem e_neI (N : NeC X.K C f) (Fn : FnG X.prog X.w X.K X.mg X.base k f fd ps 2 G) (hr : Room (k + 1) X.A) (hu : X.A.units + 8 < cLine) (hgd : X.A.guards = some []) (hb : Binds X.K fd ps []) (ha : DE X a ta ma) (hbb : DE X b tb mb) : DE X (.Compare a [.NotEq] [b] pos) (tOp (rNeI X.K C G) ta tb) (mOp (gNeI C G) ma mb) := d_cmp (op_neI N Fn hr hu hgd hb) ro_neI ha hbb
end
end DL
/-! DS8: comprehensions whose parts may name the place where they run. -/
namespace DL
open PySem L2 PyProof.Rows
abbrev At5 (α : Type) := Shared → Hp → Addr → List (Str × Addr) → List Addr → α
section
variable {X : Cx} {K : PySem.W.Frag} {pos : Pos} {wi : TI} {mi : MA} {mg : MG} {mt : MT} {me : ME} {elt tg iter : Expr} {ifs : List Expr} {scope : Scope} {own : List (Str × Nat)} {g' : At5 TG} {tt' : At5 TT} {te' : At5 TE}
theorem f_comp (hc : X.calm = true) (hN : X.N.Nodup) (hi : DI X tg iter wi mi) (ok : BlkOk X.N X.env.scope scope own)
    (hg : ∀ (s : Shared) (H : Hp) (C : Addr) (cl : List (Str × Addr)) (fp : List Addr), DGw (X.blk s H scope (compEnvC scope cl C X.env) fp) (own.map (·.2)) tg (g' s H C cl fp) mg)
    (ht : ∀ (s : Shared) (H : Hp) (C : Addr) (cl : List (Str × Addr)) (fp : List Addr), DTs (X.blk s H scope (compEnvC scope cl C X.env) fp) ifs (tt' s H C cl fp) mt)
    (he : ∀ (s : Shared) (H : Hp) (C : Addr) (cl : List (Str × Addr)) (fp : List Addr), DE (X.blk s H scope (compEnvC scope cl C X.env) fp) elt (te' s H C cl fp) me)
    (eg : ∀ s H C cl fp, g' s H C cl fp = g' X.s_0 X.H_0 0 [] [] := by intros; rfl) (et : ∀ s H C cl fp, tt' s H C cl fp = tt' X.s_0 X.H_0 0 [] [] := by intros; rfl) (ee : ∀ s H C cl fp, te' s H C cl fp = te' X.s_0 X.H_0 0 [] [] := by intros; rfl)
    (hs : ∀ x, foldedSetIterable iter X.env x = pure x := by intro _; rfl) : DE X (.ListComp elt [⟨tg, iter, ifs, 0⟩] scope pos) (tLc wi (g' X.s_0 X.H_0 0 [] []) (tt' X.s_0 X.H_0 0 [] []) (te' X.s_0 X.H_0 0 [] []) (own.map (·.2))) (mComp mi mg mt me (own.map (·.2))) :=
  d_comp hc hN hi ok (fun s H C cl fp => eg s H C cl fp ▸ hg s H C cl fp) (fun s H C cl fp => et s H C cl fp ▸ ht s H C cl fp) (fun s H C cl fp => ee s H C cl fp ▸ he s H C cl fp) hs
theorem f_setLc {i : Nat} {y : Str} {py spos : Pos} (hc : X.calm = true) (hN : X.N.Nodup) (hy : X.N[i]? = some y) (hyl : X.env.scope.names.lookup y = some .local) (hsw : swapsWith (.ListComp elt [⟨tg, iter, ifs, 0⟩] scope pos) (some (.Name y py)) spos.line X.env = pure true)
    (hi : DI X tg iter wi mi) (ok : BlkOk X.N X.env.scope scope own)
    (hg : ∀ (s : Shared) (H : Hp) (C : Addr) (cl : List (Str × Addr)) (fp : List Addr), DGw (X.blk s H scope (compEnvC scope cl C X.env) fp) (own.map (·.2)) tg (g' s H C cl fp) mg)
    (ht : ∀ (s : Shared) (H : Hp) (C : Addr) (cl : List (Str × Addr)) (fp : List Addr), DTs (X.blk s H scope (compEnvC scope cl C X.env) fp) ifs (tt' s H C cl fp) mt)
    (he : ∀ (s : Shared) (H : Hp) (C : Addr) (cl : List (Str × Addr)) (fp : List Addr), DE (X.blk s H scope (compEnvC scope cl C X.env) fp) elt (te' s H C cl fp) me)
    (eg : ∀ s H C cl fp, g' s H C cl fp = g' X.s_0 X.H_0 0 [] [] := by intros; rfl) (et : ∀ s H C cl fp, tt' s H C cl fp = tt' X.s_0 X.H_0 0 [] [] := by intros; rfl) (ee : ∀ s H C cl fp, te' s H C cl fp = te' X.s_0 X.H_0 0 [] [] := by intros; rfl)
    (hs : ∀ x, foldedSetIterable iter X.env x = pure x := by intro _; rfl) :
    DS X (.Assign [.Name y py] (.ListComp elt [⟨tg, iter, ifs, 0⟩] scope pos) spos) (tAsg (tLc wi (g' X.s_0 X.H_0 0 [] []) (tt' X.s_0 X.H_0 0 [] []) (te' X.s_0 X.H_0 0 [] []) (own.map (·.2))) (gName i)) (mAsg (mComp mi mg mt me (own.map (·.2))) (mgName i)) :=
  s_setLc hc hN hy hyl hsw hi ok (fun s H C cl fp => eg s H C cl fp ▸ hg s H C cl fp) (fun s H C cl fp => et s H C cl fp ▸ ht s H C cl fp) (fun s H C cl fp => ee s H C cl fp ▸ he s H C cl fp) hs
end
end DL
/-! DS9: repr, of an empty dict too. -/
namespace DL
open PySem L2 PyProof.Rows
def rReprE (K : PySem.W.Frag) : List V → Hp → VK → Prop := fun xs H Q => rReprD K xs H Q ∨ ∃ a, xs = [.ref a] ∧ H a = some (.dK []) ∧ Q (.str (PyData.dict []).shown) H
theorem call_reprE {X : Cx} {k : Nat} (hr : Room k X.A) (hg : X.A.guards = some []) : CallR X (.builtin "repr") (rReprE X.K) := by
  intro pins s σ H xs us Q I r h
  rcases h with h | ⟨a, rfl, ha, q⟩
  · exact call_reprD hr hg pins s σ H xs us Q I r h
  · rw [Vals.ref1 r]
    obtain ⟨_, ne, vs, rel, o, es, ep, ho, hx, hdt, _, prs, _⟩ := dk_of I.hok ha
    cases rel
    have hlen : es.toList = [] := by
      generalize es.toList = l at prs
      cases l with
      | nil => rfl
      | cons e l => cases prs
    have ne : a ≠ sysModules := by simpa using ne
    have rd : Reads s.heap (.ref a) (.dict []) ([a] ++ []) := .dict (as := []) (bs := []) ho hx.1 hdt (by rw [hlen]; exact .nil) (by rw [hlen]; exact .nil)
    have hun := hr.units
    exact repr_of_reads' rd (by rfl) (fun _ z => ne (by rw [List.append_nil] at z; exact (List.mem_singleton.mp z).symm)) hg (by show X.A.units + (_ + 1) < cLine; have h2 : (PyData.dict []).depth ≤ 2 := (by decide); omega) (fun _ _ z => z) (fun h' t tk hk => ⟨.str _, H, I.kept (t' := tk) hk, ⟨_, rfl⟩, q⟩) (by decide)
def gReprE : MR := fun ds S => match ds with
  | [.dic [] []] => some (.str (PyData.dict []).shown, S)
  | ds => gRepr ds S
theorem rc_reprE {K : PySem.W.Frag} : RCD K (rReprE K) gReprE := by
  intro F f S H vs ds d S' hh r e Q q
  unfold gReprE at e
  split at e
  · cases e
    obtain ⟨v, rfl, i1⟩ := all1 r
    cases i1 with
    | dic ha hk _ =>
      rename_i a kvs _
      have : kvs = [] := List.map_eq_nil_iff.mp hk
      subst this
      exact .inr ⟨a, rfl, hh.ex _ _ ha, q.now hh (.str _)⟩
  · exact .inl (rc_repr F f S H vs _ d S' hh r e Q q)
end DL
/-! DT1: set comprehensions of whole numbers and texts, with one clause and with two. -/
namespace DL
open PySem L2 PyProof.Rows
abbrev No : Value → Shared → Prop := fun _ _ => False
section
variable {P : Program} {w : World} {A : Around} {E : Value → Shared → Prop} {s : Shared} {a : Addr} {S : Key → Bool} {n : Nat}
theorem setM_addCall {k : Key} {v : Value} {Q : Value → Shared → Prop} (R : SetM w s.heap a S n) (room : n + 1 < scanBound) (kv : keyIs k v = true)
    (fin : ∀ h', Heap.SameBut a s.heap h' → SetM w h' a (fun j => S j || decide (j = k)) (if S k = true then n else n + 1) → Q .none { s with heap := h', toks := s.toks + 1 }) :
    wpAny (model P w) A (call (.builtin "set.add") [.ref a, v]) Q E s := by
  have so := R.setOf (P := P)
  have kk : (mixKind P w).is k v = true := kv
  refine wpAny_call_entry F.slot_set_add so.typeIs F.entry_set_add ?_ (F.args_set_add_2 _ _)
  unfold Builtin.«set.add» Builtin.Frozenset.oneOther
  simp only [List.isEmpty_nil, bind_assoc]
  unfold Builtin.Frozenset.addrOf setAdd
  refine wpAny_bind (wpAny_pure ?_)
  try dsimp only
  refine wpAny_bind (wpAny_pure ?_)
  try dsimp only
  refine wpAny_bind (wpAny_holding (wpAny_bind ((mixKind P w).pyHash kk ?_)))
  exact setM_add (s := { s with toks := s.toks + 1 }) R room kv fun h' sb r => wpAny_pure ⟨_, rfl, fin h' sb r⟩
end
theorem inK_snoc (ks : List Key) (k : Key) : (fun j => inK ks j || decide (j = k)) = inK (ks ++ [k]) := by
  funext j
  simp [inK]
theorem setK2_ok {P : Program} {w : World} {H : Hp} {h : Heap} {a : Addr} {ks : List Key} {c : Nat} (hc : c ≤ ks.length) (R : SetM w h a (inK ks) c) : ObjOk P w H h a (SetK2 w a ks) := by
  obtain ⟨o, es, ep, t, ho, _⟩ := id R
  exact ⟨⟨c, hc, R⟩, ⟨o, ho⟩, fun h1 h2 ⟨c2, l2, R2⟩ k2 => ⟨c2, l2, R2.at k2⟩⟩
section
variable {X : Cx} {pins : List (Addr × Obj)} {σ : L2.St} {H : Hp} {s : Shared}
theorem setK2_add {E : Value → Shared → Prop} {D : Addr} {ks : List Key} {k : Key} {v : Value} {Q : Value → Shared → Prop} (I : Inv X pins σ H s) (hD : H D = some (SetK2 X.w D ks)) (room : ks.length + 1 < scanBound) (r : RelV (kV k) v)
    (h : ∀ s', Inv X pins σ (upd H D (SetK2 X.w D (ks ++ [k]))) s' → Q .none s') : wpAny (model X.prog X.w) X.A (call (.builtin "set.add") [.ref D, v]) Q E s := by
  obtain ⟨c, lc, R⟩ := (I.hok D _ hD).1
  refine setM_addCall R (by omega) (keyIs_rel r) fun h' sb new => ?_
  rw [inK_snoc] at new
  have he : ∃ u, h'.get? D = some u := new.elim fun o x => ⟨o, x.elim fun _ x => x.elim fun _ x => x.elim fun _ x => x.1⟩
  have lc2 : (if inK ks k = true then c else c + 1) ≤ (ks ++ [k]).length := by
    rw [List.length_append, List.length_cons, List.length_nil]
    split <;> omega
  exact h _ (I.write (e := D) (t' := s.toks + 1) (by rw [hD]; trivial) (.inl rfl) (fun b u hb hu => (sb.2 b hb).trans hu) he (setK2_ok lc2 new))
end

/-! ### the loop of the first clause -/
abbrev BrT := Program → World → Around → PySem.Env → Value → (Shared → Prop) → Shared → Prop
abbrev testsF (ifs : List Expr) (env : PySem.Env) : Sem Bool := forIn ifs true fun c r => if r = true then do let ok ← isTrue c env (eval c env); pure (ForInStep.yield ok) else pure (ForInStep.yield r)
def TurnF (tg : Expr) (ifs : List Expr) (Br : BrT) (prog : Program) (w : World) (A : Around) (R : Result → Shared → Prop) (env : PySem.Env) (it acc : Value) (I : Nat → Shared → Prop) (n : Nat) (s : Shared) : Prop :=
  wpAny (model prog w) A (pyNext it) (fun r s1 => match r with
    | none => R (.ok .next) s1
    | some v => wpAny (model prog w) A (letOwnedTupleGo tg it v) (fun _ s2 => wpAny (model prog w) A (assign tg env v) (fun _ s3 =>
        wpAny (model prog w) A (testsF ifs env) (fun ok s4 => if ok = true then Br prog w A env acc (fun s5 => ∃ m, m < n ∧ I m s5) s4 else ∃ m, m < n ∧ I m s4) No s3) No s2) No s1) No s
def LoopOk (e tg : Expr) (ifs : List Expr) (Br : BrT) : Prop :=
  ∀ (prog : Program) (w : World) (A : Around) (R : Result → Shared → Prop) (env : PySem.Env) (it acc : Value) (I : Nat → Shared → Prop),
    (∀ n s, I n s → TurnF tg ifs Br prog w A R env it acc I n s) → ∀ n s, I n s → codeAny (model prog w) A (.compLoop e 0 it acc env) R s
/-- one clause: the item is told and put in -/
def Br1 (elt : Expr) : BrT := fun prog w A env acc P s => wpAny (model prog w) A (eval elt env) (fun x s1 => wpAny (model prog w) A (call (.builtin "set.add") [acc, x]) (fun _ s2 => P s2) No s1) No s
/-- two clauses: the second one starts -/
def Br2 (e i1 : Expr) : BrT := fun prog w A env acc P s => wpAny (model prog w) A (eval i1 env) (fun x s1 => wpAny (model prog w) A (pyIter x) (fun it1 s2 => codeAny (model prog w) A (.compStart e 1 it1 acc env) (fun r s3 => match r with
  | .ok _ => P s3
  | .error _ => False) s2) No s1) No s
theorem noF {α : Type} {M : Model} {A : Around} {t : Sem α} {Q Q2 : α → Shared → Prop} {E : Value → Shared → Prop} {s : Shared} (h : wpAny M A t Q No s) (l : ∀ a s, Q a s → Q2 a s) : wpAny M A t Q2 E s := wpAny_mono h l fun _ _ z => z.elim
section
variable {elt tg iter t1 i1 : Expr} {ifs ifs1 : List Expr} {scope : Scope} {pos : Pos}
theorem loop1_ok : LoopOk (.SetComp elt [⟨tg, iter, ifs, 0⟩] scope pos) tg ifs (Br1 elt) := by
  intro prog w A R env it acc I turn n s hI
  refine PpSet.compLoopS_any I (fun n s hI => noF (turn n s hI) fun r s1 h1 => ?_) n hI
  cases r with
  | none => exact h1
  | some v =>
    refine noF h1 fun _ s2 h2 => noF h2 fun _ s3 h3 => noF h3 fun ok s4 h4 => ?_
    cases ok with
    | false => exact h4
    | true => exact noF h4 fun x s5 h5 => noF h5 fun _ s6 h6 => h6
theorem turn2_out (it acc : Value) (env : PySem.Env) : compTurn (.SetComp elt [⟨tg, iter, ifs, 0⟩, ⟨t1, i1, ifs1, 0⟩] scope pos) 0 it acc env = (do
      standAt iter.pos
      match ← pyNext it with
      | none => pure (.done .next)
      | some v => do
        letOwnedTupleGo tg it v
        assign tg env v
        let ok ← testsF ifs env
        if ok = true then do
          let x ← eval i1 env
          standAt i1.pos
          let x ← foldedSetIterable i1 env x
          let _ ← runOwn (.compStart (.SetComp elt [⟨tg, iter, ifs, 0⟩, ⟨t1, i1, ifs1, 0⟩] scope pos) 1 (← holding [x] (pyIter x)) acc env) env
        again (.compLoop (.SetComp elt [⟨tg, iter, ifs, 0⟩, ⟨t1, i1, ifs1, 0⟩] scope pos) 0 it acc env)) := by rfl
theorem turn2_in (it acc : Value) (env : PySem.Env) : compTurn (.SetComp elt [⟨tg, iter, ifs, 0⟩, ⟨t1, i1, ifs1, 0⟩] scope pos) 1 it acc env = (do
      standAt i1.pos
      match ← pyNext it with
      | none => pure (.done .next)
      | some v => do
        letOwnedTupleGo t1 it v
        assign t1 env v
        let ok ← testsF ifs1 env
        if ok = true then (do { let v ← eval elt env; standAt elt.pos; let _ ← call (.builtin "set.add") [acc, v] })
        again (.compLoop (.SetComp elt [⟨tg, iter, ifs, 0⟩, ⟨t1, i1, ifs1, 0⟩] scope pos) 1 it acc env)) := by rfl
end
end DL
/-! DT2: the loops of a set comprehension with two clauses. -/
namespace DL
open PySem L2 PyProof.Rows
section
variable {elt tg iter t1 i1 : Expr} {ifs ifs1 : List Expr} {scope : Scope} {pos : Pos}
theorem loop2_ok (fold : ∀ env x, foldedSetIterable i1 env x = pure x) : LoopOk (.SetComp elt [⟨tg, iter, ifs, 0⟩, ⟨t1, i1, ifs1, 0⟩] scope pos) tg ifs (Br2 (.SetComp elt [⟨tg, iter, ifs, 0⟩, ⟨t1, i1, ifs1, 0⟩] scope pos) i1) := by
  intro prog w A R env it acc I turn n s hI
  refine codeAny_loop rfl I (fun n s hI => ?_) n hI
  change wpAny _ A (Sem.onRaise (compTurn (.SetComp elt [⟨tg, iter, ifs, 0⟩, ⟨t1, i1, ifs1, 0⟩] scope pos) 0 it acc env) (fun x => do noteFrame x env; theTreesLotGoes x)) _ _ s
  refine wpAny_noted ?_
  rw [turn2_out]
  refine wpAny_bind (wpAny_standAt (wpAny_bind (noF (turn n s hI) fun r s1 h1 => ?_)))
  cases r with
  | none => exact wpAny_pure h1
  | some v =>
    refine wpAny_bind (noF h1 fun _ s2 h2 => wpAny_bind (noF h2 fun _ s3 h3 => wpAny_bind (noF h3 fun ok s4 h4 => ?_)))
    cases ok with
    | false => exact wpAny_pure ⟨rfl, h4⟩
    | true =>
      refine wpAny_bind (noF h4 fun x s5 h5 => wpAny_bind (wpAny_standAt (wpAny_bind (wpAny_of_eq (fold env x) (wpAny_bind (wpAny_holding (noF h5 fun it1 s6 h6 => ?_)))))))
      refine wpAny_bind (wpAny_runOwn ?_)
      rw [Around.mark_none]
      refine codeAny_mono h6 fun r s7 h7 => ?_
      cases r with
      | error e => exact h7.elim
      | ok f => first | exact wpAny_pure ⟨rfl, h7⟩ | exact wpAny_bind (wpAny_pure (wpAny_pure ⟨rfl, h7⟩))
/-- the loop of the second clause -/
theorem inner2 {prog : Program} {w : World} {A : Around} {R : Result → Shared → Prop} {env : PySem.Env} {it acc : Value} (I : Nat → Shared → Prop) (turn : ∀ n s, I n s → TurnF t1 ifs1 (Br1 elt) prog w A R env it acc I n s) (n : Nat) (s : Shared) (hI : I n s) :
    codeAny (model prog w) A (.compLoop (.SetComp elt [⟨tg, iter, ifs, 0⟩, ⟨t1, i1, ifs1, 0⟩] scope pos) 1 it acc env) R s := by
  refine codeAny_loop rfl I (fun n s hI => ?_) n hI
  change wpAny _ A (Sem.onRaise (compTurn (.SetComp elt [⟨tg, iter, ifs, 0⟩, ⟨t1, i1, ifs1, 0⟩] scope pos) 1 it acc env) (fun x => do noteFrame x env; theTreesLotGoes x)) _ _ s
  refine wpAny_noted ?_
  rw [turn2_in]
  refine wpAny_bind (wpAny_standAt (wpAny_bind (noF (turn n s hI) fun r s1 h1 => ?_)))
  cases r with
  | none => exact wpAny_pure h1
  | some v =>
    refine wpAny_bind (noF h1 fun _ s2 h2 => wpAny_bind (noF h2 fun _ s3 h3 => wpAny_bind (noF h3 fun ok s4 h4 => ?_)))
    cases ok with
    | false => exact wpAny_pure ⟨rfl, h4⟩
    | true => exact wpAny_bind (wpAny_bind (noF h4 fun x s5 h5 => wpAny_bind (wpAny_standAt (wpAny_bind (noF h5 fun _ s6 h6 => wpAny_pure (wpAny_pure ⟨rfl, h6⟩))))))
theorem start2 {prog : Program} {w : World} {A : Around} {R : Result → Shared → Prop} {s : Shared} {env : PySem.Env} {it acc : Value} (now : codeAny (model prog w) A (.compLoop (.SetComp elt [⟨tg, iter, ifs, 0⟩, ⟨t1, i1, ifs1, 0⟩] scope pos) 1 it acc env) R s)
    (h : wpAny (model prog w) A (pyIter it) (fun it2 s2 => codeAny (model prog w) A (.compLoop (.SetComp elt [⟨tg, iter, ifs, 0⟩, ⟨t1, i1, ifs1, 0⟩] scope pos) 1 it2 acc env) R s2) (notedBy (model prog w) A env fun x s2 => R (.error x) s2) s) :
    codeAny (model prog w) A (.compStart (.SetComp elt [⟨tg, iter, ifs, 0⟩, ⟨t1, i1, ifs1, 0⟩] scope pos) 1 it acc env) R s := by
  refine codeAny_of_tree ?_
  change wpAny _ _ (Sem.onRaise (compStart (.SetComp elt [⟨tg, iter, ifs, 0⟩, ⟨t1, i1, ifs1, 0⟩] scope pos) 1 it acc env) (fun x => do noteFrame x env; standAt theWindowsPlace)) _ _ s
  refine wpAny_notedAt ?_
  unfold compStart
  change wpAny _ _ (ask >>= _) _ _ s
  refine wpAny_bind (wpAny_askSetting (wpAny_ite ?_))
  split
  · first | exact wpAny_bind (wpAny_pure (wpAny_pure (And.intro rfl now))) | exact wpAny_pure (And.intro rfl now)
  · have go := fun (it2 : Value) (s2 : Shared) (h2 : codeAny (model prog w) A (.compLoop (.SetComp elt [⟨tg, iter, ifs, 0⟩, ⟨t1, i1, ifs1, 0⟩] scope pos) 1 it2 acc env) R s2) => h2
    first | exact wpAny_bind (wpAny_rule (wpAny_bind (wpAny_standAt (wpAny_bind (wpAny_mono h (fun it2 s2 h2 => wpAny_pure (And.intro rfl h2)) fun _ _ x => x))))) | (refine wpAny_bind (wpAny_rule ?_); change wpAny _ _ (standAt i1.pos >>= _) _ _ s; exact wpAny_bind (wpAny_standAt (wpAny_bind (wpAny_mono h (fun it2 s2 h2 => wpAny_pure (And.intro rfl h2)) fun _ _ x => x))))
end
end DL
/-! DT3: a set comprehension's run, whatever its turns do. -/
namespace DL
open PySem L2 PyProof.Rows
abbrev TB := L2.St → Hp → (Hp → Prop) → Prop
/-- {.. for tg in iter if .., and what tb tells of a turn} -/
def tSg (w : World) (wi : TI) (g : TG) (tt : TT) (tb : Addr → TB) (vs : List Nat) : TE := fun σ H Q => wi σ H fun J Ha => ∀ D, Ha D = none → ∃ W : Nat → Nat → Hp → Prop, (∃ m, W 0 m (upd Ha D (SetK2 w D []))) ∧ ∀ i m Hi, W i m Hi →
  (J.stop i Hi ∧ Q (.ref D) Hi) ∨ (J.go i Hi ∧ ∃ Nx : Hp → Prop, (∀ Hn, Nx Hn → ∃ m2, m2 < m ∧ W (i + 1) m2 Hn) ∧ ∀ x Hy, J.yld i Hi x Hy → g x (L2.wipe σ vs) Hy fun σg Hg => L2.wipe σg vs = L2.wipe σ vs ∧ tt σg Hg fun b Ht => if b = true then tb D σg Ht Nx else Nx Ht)
/-- what the turn leaves known: at least what was known outside the block's own names -/
def Still (vs : List Nat) (σ σ2 : L2.St) : Prop := σ2.length = σ.length ∧ ∀ (j : Nat) v, (L2.wipe σ vs)[j]? = some (some v) → σ2[j]? = some (some v)
def BrOk (X : Cx) (env : PySem.Env) (vs : List Nat) (Br : BrT) (tb : Addr → TB) : Prop := ∀ (pins : List (Addr × Obj)) (σ : L2.St) (H : Hp) (s : Shared) (D : Addr) (Nx : Hp → Prop) (R : Shared → Prop), Inv X pins σ H s → tb D σ H Nx →
  (∀ σ2 s2 H2, Inv X pins σ2 H2 s2 → Still vs σ σ2 → Nx H2 → R s2) → Br X.prog X.w X.A env (.ref D) R s
section
variable {X : Cx} {elt tg iter : Expr} {ifs : List Expr} {rest : List Comprehension} {scope : Scope} {own : List (Str × Nat)} {pos : Pos} {wi : TI} {g : TG} {tt : TT} {tb : Addr → TB} {Br : BrT}
theorem sg_core {pins : List (Addr × Obj)} {s : Shared} {σ : L2.St} {H : Hp} {Q : VK} {pos' : Pos} {use : Option (Value → Sem Unit)} {Qf : Value → Shared → Prop}
    (calm : X.calm = true) (nd : X.N.Nodup) (I : Inv X pins σ H s) (hi : PI X tg iter wi) (ok : BlkOk X.N X.env.scope scope own) (LO : LoopOk (.SetComp elt (⟨tg, iter, ifs, 0⟩ :: rest) scope pos) tg ifs Br)
    (hg : ∀ (s : Shared) (H : Hp) (C : Addr) (cl : List (Str × Addr)) (fp : List Addr), PG (X.blk s H scope (compEnvC scope cl C X.env) fp) tg g)
    (ht : ∀ (s : Shared) (H : Hp) (C : Addr) (cl : List (Str × Addr)) (fp : List Addr), PTs (X.blk s H scope (compEnvC scope cl C X.env) fp) ifs tt)
    (hb : ∀ (s : Shared) (H : Hp) (C : Addr) (cl : List (Str × Addr)) (fp : List Addr), BrOk (X.blk s H scope (compEnvC scope cl C X.env) fp) (compEnvC scope cl C X.env) (own.map (·.2)) Br tb)
    (fold : ∀ x, foldedSetIterable iter X.env x = pure x) (h : tSg X.w wi g tt tb (own.map (·.2)) σ H Q)
    (fin : ∀ D C s2 m H2, Inv X pins σ H2 s2 → Q (.ref D) H2 → s2.heap.Ns C m → FpOk X pins H2 C → compPost (model X.prog X.w) X.A X.xe use Qf (.ref D) C (.ok .next) s2) :
    wpAny (model X.prog X.w) X.A (comprehension (.SetComp elt (⟨tg, iter, ifs, 0⟩ :: rest) scope pos) scope X.env pos' (newSet (.type "set")) false (eval iter X.env) use) Qf X.xe s := by
  have frees : ∀ y ∈ scope.names, y.2 = .free → ∃ c, X.env.cells.lookup y.1 = some c := fun y hy e =>
    (ok.free y hy e).elim (fun k => I.ok.has _ (.inl k)) fun k => I.ok.has _ (.inr k)
  refine wpAny_comprehension_free (use := use) rfl fold (closure_ok frees) ok.kind (fun y hy e => by rw [ok.uniq y hy, e]) ?_
  refine thn (hi.run pins s σ H _ I h) fun xv sa ha => thn ha fun itv sb hbb => ?_
  obtain ⟨it, fp, tn, J, Hb, rfl, Ib, T, stb, fpb, q⟩ := hbb
  refine PpSet.newSet_ok (newEnv_comp ?_)
  generalize eD : sb.heap.objs.size = D
  obtain ⟨W, ⟨m0, w0⟩, turn⟩ := q D (Ib.hok.fresh (Nat.le_of_eq eD))
  generalize es : ({ sb with heap := sb.heap.push (emS X.w) } : Shared) = sc
  have hh : sc.heap = sb.heap.push (emS X.w) := by rw [← es]
  have Ic : Inv X pins σ (upd Hb D (SetK2 X.w D [])) sc := by
    subst es
    refine Ib.laid (t' := sb.toks) (fun b o e => Heap.get?_push_of_some _ e) (Nat.le_of_eq eD) ?_
    subst eD
    exact setK2_ok (c := 0) (Nat.le_refl _) ((setM_empty (Heap.get?_push_size _ rfl)).congr fun k => rfl)
  have below : ∀ b ∈ fp, b < sb.heap.objs.size := fun b hb => Heap.lt_size (T.obj _ _ stb b hb).choose_spec.1
  have fpc : ∀ b ∈ fp, FpOk X pins (upd Hb D (SetK2 X.w D [])) b ∧ b < sc.heap.objs.size := fun b hb => by
    have lt := below b hb
    have ne : b ≠ D := by rw [← eD]; exact Nat.ne_of_lt lt
    exact ⟨⟨(upd_ne ne).trans (fpb b hb).1, (fpb b hb).2⟩, by rw [hh, Heap.size_push]; exact Nat.lt_succ_of_lt lt⟩
  have stc : tn 0 sc.heap := T.keep _ _ _ stb fun b _ o e => by rw [hh]; exact Heap.get?_push_of_some _ e
  have Id := block_start Ic ok nd fpc
  have g1 := hg sc (upd Hb D (SetK2 X.w D [])) sc.heap.objs.size (cellsFrom (sc.heap.objs.size + 1) scope.names (cloFrom X.env.cells scope.names [])) fp
  have t1 := ht sc (upd Hb D (SetK2 X.w D [])) sc.heap.objs.size (cellsFrom (sc.heap.objs.size + 1) scope.names (cloFrom X.env.cells scope.names [])) fp
  have b1 := hb sc (upd Hb D (SetK2 X.w D [])) sc.heap.objs.size (cellsFrom (sc.heap.objs.size + 1) scope.names (cloFrom X.env.cells scope.names [])) fp
  change codeAny _ _ (.compStart (.SetComp elt (⟨tg, iter, ifs, 0⟩ :: rest) scope pos) 0 (.ref it) (.ref D) (compEnvC scope (cellsFrom (sc.heap.objs.size + 1) scope.names (cloFrom X.env.cells scope.names [])) sc.heap.objs.size X.env)) (compPost (model X.prog X.w) X.A X.xe use Qf (.ref D) sc.heap.objs.size) { sc with heap := pushCells (sc.heap.push { cls := .type "dict", data := .dict #[] }) scope.names }
  have free0 : ∀ b ∈ fp, (upd Hb D (SetK2 X.w D [])) b = none := fun b hb => (fpc b hb).1.1
  generalize ec : compEnvC scope (cellsFrom (sc.heap.objs.size + 1) scope.names (cloFrom X.env.cells scope.names [])) sc.heap.objs.size X.env = ce at Id g1 t1 b1 ⊢
  have locs : ce.locals = sc.heap.objs.size := by subst ec; rfl
  generalize eH : upd Hb D (SetK2 X.w D []) = Hc at Ic Id g1 t1 b1 w0 free0 fpc
  generalize e4 : ({ sc with heap := pushCells (sc.heap.push { cls := .type "dict", data := .dict #[] }) scope.names } : Shared) = sd at Id ⊢
  have std : tn 0 sd.heap := T.keep _ _ _ stc fun b _ o e => by rw [← e4]; exact pushCells_keeps _ _ _ _ (Heap.get?_push_of_some _ e)
  generalize eX : X.blk sc Hc scope ce fp = Y at Id g1 t1 b1
  have fpOk : ∀ {σ2 : L2.St} {H2 : Hp} {s2 : Shared}, Inv Y [] σ2 H2 s2 → (∀ b ∈ fp, H2 b = none) → ∀ b ∈ fp, FpOk Y [] H2 b := fun {σ2 H2 s2} I2 hn b hb => by
    subst eX
    exact ⟨hn b hb, (I2.ok.exf b hb).1, I2.ok.exfs b hb, .inl hb, fun x c e => (I2.ok.exf b hb).2 x c e, fun p hp => absurd (show p ∈ ([] : List (Addr × Obj)) ++ [] from hp) (by simp)⟩
  have loop : codeAny (model X.prog X.w) X.A (.compLoop (.SetComp elt (⟨tg, iter, ifs, 0⟩ :: rest) scope pos) 0 (.ref it) (.ref D) ce) (compPost (model X.prog X.w) X.A X.xe use Qf (.ref D) sc.heap.objs.size) sd := by
    refine LO _ _ _ _ _ _ _ (fun n s2 => ∃ i H2, Inv Y [] (L2.wipe σ (own.map (·.2))) H2 s2 ∧ tn i s2.heap ∧ (∀ b ∈ fp, H2 b = none) ∧ W i n H2) ?_ m0 _ ⟨0, Hc, Id, std, free0, w0⟩
    rintro n s5 ⟨i, H5, I5, st5, n5, w5⟩
    rcases turn i n H5 w5 with ⟨stop, qq⟩ | ⟨go, Nx, hNx, step⟩
    · have td := T.done Y (by subst eX; rfl) (by subst eX; rfl) (by subst eX; rfl) (by subst eX; exact calm) i [] s5 _ H5 No I5 (fpOk I5 n5) st5 stop
      subst eX
      refine thnF td fun r s6 ⟨hr, I6⟩ => ?_
      subst hr
      have I7 : Inv X pins σ H5 s6 := Ic.call' (ch := fp) I6.os I6.base I6.hok I6.bare fun b hb => have z := (fpc b hb).1.2; ⟨z.2.2.1, z.1, z.2.2.2.1, z.2.2.2.2⟩
      have nC : H5 sc.heap.objs.size = none := locs ▸ (show H5 ce.locals = none from I6.free)
      obtain ⟨m, hn, _⟩ := I6.loc
      exact fin D sc.heap.objs.size s6 m H5 I7 qq (locs ▸ (show s6.heap.Ns ce.locals m from hn)) (Ic.fpOk (Nat.le_refl _) nC)
    · have ti := T.item Y (by subst eX; rfl) (by subst eX; rfl) (by subst eX; rfl) (by subst eX; exact calm) i [] s5 _ H5 No I5 (fpOk I5 n5) st5 go
      subst eX
      refine thnF ti fun r s6 ⟨u, hr, h6⟩ => ?_
      subst hr
      refine thnF h6 fun _ s7 ⟨x, H7, I7, r7, y7, st7, n7⟩ => ?_
      have I8 := I7.pinned (fpOk I7 n7) (T.obj _ _ st7)
      refine thnF (g1.run _ s7 _ H7 x u _ I8 r7 (step x H7 y7)) fun _ s8 ⟨σ8, H8, I9, hw8, q8⟩ => ?_
      refine thnF (t1.run _ s8 σ8 H8 _ I9 q8) fun b s9 ⟨H9, I10, q9⟩ => ?_
      have turned : ∀ {σ2 : L2.St} {s2 : Shared} {H2 : Hp}, Inv (X.blk sc Hc scope ce fp) ([] ++ pinsAt fp s7.heap) σ2 H2 s2 → Still (own.map (·.2)) σ8 σ2 → Nx H2 → ∃ m, m < n ∧ ∃ i H2, Inv (X.blk sc Hc scope ce fp) [] (L2.wipe σ (own.map (·.2))) H2 s2 ∧ tn i s2.heap ∧ (∀ b ∈ fp, H2 b = none) ∧ W i m H2 := fun {σ2 s2 H2} I' st nx => by
        obtain ⟨m', hm, w'⟩ := hNx H2 nx
        have pinned : ∀ b ∈ fp, ∀ o, s7.heap.get? b = some o → s2.heap.get? b = some o ∧ H2 b = none := fun b hb o e =>
          have z := I'.pin (b, o) (List.mem_append_right _ (List.mem_append_right _ (mem_pinsAt hb e)))
          ⟨z.1, z.2.1⟩
        refine ⟨m', hm, i + 1, H2, (I'.unpinned (pins := [])).weak ?_ (fun j v e => ?_), T.keep _ _ _ st7 fun b hb o e => (pinned b hb o e).1, fun b hb => ?_, w'⟩
        · rw [← hw8, wipe_length, st.1]
        · exact st.2 j v (hw8 ▸ e)
        · obtain ⟨o, e, _⟩ := T.obj _ _ st7 b hb
          exact (pinned b hb o e).2
      cases b with
      | false =>
        rw [if_neg Bool.false_ne_true] at q9 ⊢
        exact turned I10 ⟨rfl, fun j v e => (wipe_some e).1⟩ q9
      | true =>
        rw [if_pos rfl] at q9 ⊢
        exact b1 _ σ8 H9 s9 D Nx _ I10 q9 fun σ2 s2 H2 I2 st nx => turned I2 st nx
  exact PpSet.codeAny_compStart_set loop (T.self X.A 0 _ _ _ std loop)
theorem pe_sg (calm : X.calm = true) (nd : X.N.Nodup) (hi : PI X tg iter wi) (ok : BlkOk X.N X.env.scope scope own) (LO : LoopOk (.SetComp elt (⟨tg, iter, ifs, 0⟩ :: rest) scope pos) tg ifs Br)
    (hg : ∀ (s : Shared) (H : Hp) (C : Addr) (cl : List (Str × Addr)) (fp : List Addr), PG (X.blk s H scope (compEnvC scope cl C X.env) fp) tg g)
    (ht : ∀ (s : Shared) (H : Hp) (C : Addr) (cl : List (Str × Addr)) (fp : List Addr), PTs (X.blk s H scope (compEnvC scope cl C X.env) fp) ifs tt)
    (hb : ∀ (s : Shared) (H : Hp) (C : Addr) (cl : List (Str × Addr)) (fp : List Addr), BrOk (X.blk s H scope (compEnvC scope cl C X.env) fp) (compEnvC scope cl C X.env) (own.map (·.2)) Br tb)
    (fold : ∀ x, foldedSetIterable iter X.env x = pure x := by intro _; rfl) : PE X (.SetComp elt (⟨tg, iter, ifs, 0⟩ :: rest) scope pos) (tSg X.w wi g tt tb (own.map (·.2))) := by
  refine ⟨fun pins s σ H Q I h => ?_⟩
  rw [PpSet.eval_SetComp]
  refine sg_core calm nd I hi ok LO hg ht hb fold h fun D C s2 m H2 I2 q hn f => ⟨m, hn, fun h3 sb => ?_⟩
  exact ⟨.ref D, H2, I2.turned (t' := s2.toks) (fun b o hb e => (sb.2 b hb).trans e) f.1 f.2.1 f.2.2.2.1 f.2.2.2.2.1 f.2.2.2.2.2, rfl, q⟩
end
end DL
/-! DT4: what a turn of a set comprehension does: puts an item in, or goes through a second source. -/
namespace DL
open PySem L2 PyProof.Rows
def tPut (w : World) (te : TE) : Addr → TB := fun D σ H Nx => te σ H fun y H4 => ∃ ks k, y = kV k ∧ H4 D = some (SetK2 w D ks) ∧ ks.length + 1 < scanBound ∧ Nx (upd H4 D (SetK2 w D (ks ++ [k])))
def tIn (w : World) (wi : TI) (g : TG) (tt : TT) (te : TE) (vs : List Nat) : Addr → TB := fun D σ H Nx => wi σ H fun J Ha => ∃ W : Nat → Nat → Hp → Prop, (∃ m, W 0 m Ha) ∧ ∀ j k Hj, W j k Hj →
  (J.stop j Hj ∧ Nx Hj) ∨ (J.go j Hj ∧ ∃ Ny : Hp → Prop, (∀ Hn, Ny Hn → ∃ k2, k2 < k ∧ W (j + 1) k2 Hn) ∧ ∀ x Hy, J.yld j Hj x Hy → g x (L2.wipe σ vs) Hy fun σg Hg => L2.wipe σg vs = L2.wipe σ vs ∧ tt σg Hg fun b Ht => if b = true then tPut w te D σg Ht Ny else Ny Ht)
section
variable {X : Cx} {s0 : Shared} {H0 : Hp} {sc0 : Scope} {ce : PySem.Env} {fp0 : List Addr} {elt : Expr} {te : TE} {vs vs1 : List Nat}
theorem still_id (σ : L2.St) : Still vs σ σ := ⟨rfl, fun j v e => (wipe_some e).1⟩
theorem put_ok (h : PE (X.blk s0 H0 sc0 ce fp0) elt te) : BrOk (X.blk s0 H0 sc0 ce fp0) ce vs (Br1 elt) (tPut X.w te) := by
  intro pins σ H s D Nx R I q fin
  refine noF (h.run pins s σ H _ I q) fun z s1 ⟨y, H1, I1, r1, ks, k, ey, hD, room, nx⟩ => ?_
  subst ey
  exact setK2_add I1 hD room r1 fun s2 I2 => fin σ s2 _ I2 (still_id σ) nx
theorem in_ok {tg iter t1 i1 : Expr} {ifs ifs1 : List Expr} {scope : Scope} {pos : Pos} {wi1 : TI} {g1 : TG} {tt1 : TT} (calm : X.calm = true) (hv : ∀ i ∈ vs1, i ∈ vs) (hi : PI (X.blk s0 H0 sc0 ce fp0) t1 i1 wi1) (hg : PG (X.blk s0 H0 sc0 ce fp0) t1 g1) (ht : PTs (X.blk s0 H0 sc0 ce fp0) ifs1 tt1) (he : PE (X.blk s0 H0 sc0 ce fp0) elt te) :
    BrOk (X.blk s0 H0 sc0 ce fp0) ce vs (Br2 (.SetComp elt [⟨tg, iter, ifs, 0⟩, ⟨t1, i1, ifs1, 0⟩] scope pos) i1) (tIn X.w wi1 g1 tt1 te vs1) := by
  intro pins σ H s D Nx R I q fin
  refine noF (hi.run pins s σ H _ I q) fun xv sa ha => noF ha fun itv sb hb => ?_
  obtain ⟨it, fp, tn, J, Hb, rfl, Ib, T, stb, fpb, W, ⟨m0, w0⟩, turn⟩ := hb
  have fpOk : ∀ {H2 : Hp}, (∀ b ∈ fp, H2 b = none) → ∀ b ∈ fp, FpOk (X.blk s0 H0 sc0 ce fp0) pins H2 b := fun hn b hb => ⟨hn b hb, (fpb b hb).2⟩
  have keep : Still vs σ (L2.wipe σ vs1) := ⟨wipe_length _ _, fun j v e => by
    obtain ⟨e1, e2⟩ := wipe_some e
    rw [wipe_out fun z => e2 (hv j z)]
    exact e1⟩
  have loop : codeAny (model X.prog X.w) X.A (.compLoop (.SetComp elt [⟨tg, iter, ifs, 0⟩, ⟨t1, i1, ifs1, 0⟩] scope pos) 1 (.ref it) (.ref D) ce) (fun r s3 => match r with
      | .ok _ => R s3
      | .error _ => False) sb := by
    refine inner2 (fun n s2 => ∃ j H2, Inv (X.blk s0 H0 sc0 ce fp0) pins (L2.wipe σ vs1) H2 s2 ∧ tn j s2.heap ∧ (∀ b ∈ fp, H2 b = none) ∧ W j n H2) ?_ m0 _ ⟨0, Hb, Ib.weak (wipe_length _ _) (fun j v e => (wipe_some e).1), stb, fun b hb => (fpb b hb).1, w0⟩
    rintro n s5 ⟨j, H5, I5, st5, n5, w5⟩
    rcases turn j n H5 w5 with ⟨stop, nx⟩ | ⟨go, Ny, hNy, step⟩
    · refine thnF (T.done (X.blk s0 H0 sc0 ce fp0) rfl rfl rfl calm j _ s5 (L2.wipe σ vs1) H5 No I5 (fpOk n5) st5 stop) fun r s6 ⟨hr, I6⟩ => ?_
      subst hr
      exact fin _ s6 H5 I6 keep nx
    · refine thnF (T.item (X.blk s0 H0 sc0 ce fp0) rfl rfl rfl calm j _ s5 (L2.wipe σ vs1) H5 No I5 (fpOk n5) st5 go) fun r s6 ⟨u, hr, h6⟩ => ?_
      subst hr
      refine thnF h6 fun _ s7 ⟨x, H7, I7, r7, y7, st7, n7⟩ => ?_
      have I8 := I7.pinned (fpOk n7) (T.obj _ _ st7)
      refine thnF (hg.run _ s7 _ H7 x u _ I8 r7 (step x H7 y7)) fun _ s8 ⟨σ8, H8, I9, hw8, q8⟩ => ?_
      refine thnF (ht.run _ s8 σ8 H8 _ I9 q8) fun b s9 ⟨H9, I10, q9⟩ => ?_
      have turned : ∀ {σ2 : L2.St} {s2 : Shared} {H2 : Hp}, Inv (X.blk s0 H0 sc0 ce fp0) (pins ++ pinsAt fp s7.heap) σ2 H2 s2 → Still vs1 σ8 σ2 → Ny H2 → ∃ m, m < n ∧ ∃ j H2, Inv (X.blk s0 H0 sc0 ce fp0) pins (L2.wipe σ vs1) H2 s2 ∧ tn j s2.heap ∧ (∀ b ∈ fp, H2 b = none) ∧ W j m H2 := fun {σ2 s2 H2} I' st nx => by
        obtain ⟨m', hm, w'⟩ := hNy H2 nx
        have pinned : ∀ b ∈ fp, ∀ o, s7.heap.get? b = some o → s2.heap.get? b = some o ∧ H2 b = none := fun b hb o e =>
          have z := I'.pin (b, o) (List.mem_append_right _ (List.mem_append_right _ (mem_pinsAt hb e)))
          ⟨z.1, z.2.1⟩
        refine ⟨m', hm, j + 1, H2, I'.unpinned.weak (by rw [← hw8, wipe_length, st.1]) (fun j v e => st.2 j v (hw8 ▸ e)), T.keep _ _ _ st7 fun b hb o e => (pinned b hb o e).1, fun b hb => ?_, w'⟩
        obtain ⟨o, e, _⟩ := T.obj _ _ st7 b hb
        exact (pinned b hb o e).2
      cases b with
      | false =>
        rw [if_neg Bool.false_ne_true] at q9 ⊢
        exact turned I10 (still_id σ8) q9
      | true =>
        rw [if_pos rfl] at q9 ⊢
        exact put_ok he (vs := vs1) _ σ8 H9 s9 D Ny _ I10 q9 fun σ2 s2 H2 I2 st nx => turned I2 st nx
  exact start2 loop (T.self X.A 0 _ _ _ stb loop)
end
end DL
/-! DT5: sorted({..}) of whole numbers, as trees. -/
namespace DL
open PySem L2 PyProof.Rows
/-- the frozen heap without the thing at Z -/
def dl (F : Hp) (Z : Addr) : Hp := fun a => if a = Z then none else F a
structure ExtZ (Z : Addr) (F : Hp) (f : List Addr) (F' : Hp) (f' : List Addr) : Prop where
  ex : ∀ a u, a ≠ Z → F a = some u → F' a = some u
  pre : f <+: f'
section
variable {K : PySem.W.Frag} {F F1 F2 F' H H' : Hp} {f f1 f2 f' : List Addr} {S S' : Sto} {Z : Addr} {e : Heap → Prop}
theorem dl_of {a : Addr} {u : HO} (h : F a = some u) (n : F Z = some (.ext e)) (k : u ≠ .ext e) : dl F Z a = some u := by
  have : a ≠ Z := fun z => k (Option.some.inj ((h.symm.trans (z ▸ n))))
  unfold dl
  rw [if_neg this]; exact h
theorem dl_rd {a : Addr} {u : HO} (h : Rd F a u) (n : F Z = some (.ext e)) (k : u ≠ .ext e) : Rd (dl F Z) a u := by
  rcases h with h | ⟨ob, h⟩
  · exact .inl (dl_of h n k)
  · exact .inr ⟨ob, dl_of h n (fun z => by cases z)⟩
mutual
theorem Is.dl (n : F Z = some (.ext e)) : ∀ {v : V} {d : D}, Is K F f v d → Is K (dl F Z) f v d
  | _, _, .non => .non
  | _, _, .bl b => .bl b
  | _, _, .int i => .int i
  | _, _, .str s => .str s
  | _, _, .tup h a => .tup (dl_of h n (fun z => by cases z)) (IsAll.dl n a)
  | _, _, .lst h a => .lst (dl_of h n (fun z => by cases z)) (IsAll.dl n a)
  | _, _, .scr h a => .scr (h.elim (fun z => .inl (dl_rd z n (fun z => by cases z))) .inr) (IsAll.dl n a)
  | _, _, .dic h q a => .dic (dl_of h n (fun z => by cases z)) q (IsAll.dl n a)
  | _, _, .ins h q a => .ins (dl_of h n (fun z => by cases z)) q (IsAll.dl n a)
  | _, _, .loc h => .loc h
  | _, _, .ty n => .ty n
  | _, _, .cls C => .cls C
theorem IsAll.dl (n : F Z = some (.ext e)) : ∀ {vs : List V} {ds : List D}, IsAll K F f vs ds → IsAll K (dl F Z) f vs ds
  | _, _, .nil => .nil
  | _, _, .cons h t => .cons (Is.dl n h) (IsAll.dl n t)
end
theorem ObjIs.dl (n : F Z = some (.ext e)) {o : Option HO} : ∀ {u : O}, ObjIs K F f o u → ObjIs K (dl F Z) f o u
  | .lst _, ⟨vs, q, h⟩ => ⟨vs, q, h.dl n⟩
  | .dic _ _, ⟨kvs, q, k, h⟩ => ⟨kvs, q, k, h.dl n⟩
  | .dct _ _, ⟨kvs, q, k, h⟩ => ⟨kvs, q, k, h.dl n⟩
  | .ins _ _ _, ⟨dx, kvs, q, k, h⟩ => ⟨dx, kvs, q, k, h.dl n⟩
  | .dead, _ => trivial
  | .lk _ _, _ => trivial
theorem dl_sub : Ex (dl F Z) F := fun a u h => by
  unfold DL.dl at h
  split at h
  · cases h
  · exact h
theorem Held.dl (h : Held K F f S H) (n : F Z = some (.ext e)) : Held K (dl F Z) f S H :=
  ⟨dl_sub.trans h.ex, h.len, h.nd, fun m a o h1 h2 nd => by
    have := h.fr m a o h1 h2 nd
    unfold DL.dl
    split
    · rfl
    · exact this, h.so, fun m a o h1 h2 => (h.ob m a o h1 h2).dl n, fun m a ks ds h1 h2 => by
    obtain ⟨od, kvs, e1, e2, r⟩ := h.lk m a ks ds h1 h2
    have ne : a ≠ Z := fun q => by subst q; rw [n] at e1; cases e1
    refine ⟨od, kvs, ?_, e2, r.dl n⟩
    unfold DL.dl
    rw [if_neg ne]
    exact e1⟩
theorem Ext.z (x : Ext F f F' f') : ExtZ Z F f F' f' := ⟨fun a u _ h => x.ex a u h, x.pre⟩
theorem ExtZ.trans (x : ExtZ Z F f F1 f1) (y : ExtZ Z F1 f1 F2 f2) : ExtZ Z F f F2 f2 := ⟨fun a u n h => y.ex a u n (x.ex a u n h), x.pre.trans y.pre⟩
theorem ExtZ.low (x : ExtZ Z F f F' f') : Ext (dl F Z) f F' f' := ⟨fun a u h => by
  unfold DL.dl at h
  split at h
  · cases h
  · rename_i n
    exact x.ex a u n h, x.pre⟩
theorem ExtZ.ext (x : ExtZ Z F f F' f') (n : F Z = none) : Ext F f F' f' := ⟨fun a u h => x.ex a u (fun z => by subst z; rw [n] at h; cases h) h, x.pre⟩
theorem At.over {σ : L2.St} {E : Env} (A : At K F f S H σ E) (x : ExtZ Z F f F' f') (n : F Z = some (.ext e)) (h : Held K F' f' S' H') : At K F' f' S' H' σ E :=
  ⟨h, A.len, fun i d q => let ⟨v, h1, h2⟩ := A.env i d q; ⟨v, h1, (h2.dl n).mono x.low⟩⟩
/-- the thing at Z is another one now -/
theorem Held.swap (h : Held K F f S H) (n : F Z = some (.ext e)) (o : HO) : Held K (upd F Z o) f S (upd H Z o) ∧ ExtZ Z F f (upd F Z o) f := by
  have x : ExtZ Z F f (upd F Z o) f := ⟨fun a u ne q => by rw [upd_ne ne]; exact q, List.prefix_rfl⟩
  refine ⟨⟨fun a u q => ?_, h.len, h.nd, fun m a u h1 h2 nd => ?_, fun a ha => ?_, fun m a u h1 h2 => ?_, fun m a ks ds h1 h2 => ?_⟩, x⟩
  · by_cases ha : a = Z
    · subst ha
      rw [upd_same] at q ⊢
      exact q
    · rw [upd_ne ha] at q ⊢
      exact h.ex _ _ q
  · have z := h.fr m a u h1 h2 nd
    have ne : a ≠ Z := fun q => by subst q; rw [n] at z; cases z
    rw [upd_ne ne]
    exact z
  · by_cases ne : a = Z
    · subst ne
      rw [upd_same]
      exact ⟨o, rfl⟩
    · rw [upd_ne ne]
      exact h.so a ha
  · have q := ((h.ob m a u h1 h2).dl n).mono x.low
    cases nd : u.live with
    | false => cases u <;> first | trivial | cases nd
    | true =>
      have z := h.fr m a u h1 h2 nd
      have ne : a ≠ Z := fun q => by subst q; rw [n] at z; cases z
      rw [upd_ne ne]
      exact q
  · obtain ⟨od, kvs, e1, e2, r⟩ := h.lk m a ks ds h1 h2
    have ne : a ≠ Z := fun q => by subst q; rw [n] at e1; cases e1
    exact ⟨od, kvs, by rw [upd_ne ne]; exact e1, e2, (r.dl n).mono x.low⟩
end
abbrev MB := Env → List Int → Sto → Option (List Int × Sto)
/-- the turns: the numbers so far -/
def scG (g : MG) (t : MT) (b : MB) (E : Env) : List D → List Int → Sto → Option (List Int × Sto)
  | [], acc, S => some (acc, S)
  | d :: r, acc, S => (g d E S).bind fun p => (t p.1 p.2).bind fun c => if c.1 = true then (b p.1 acc c.2).bind fun q => scG g t b E r q.1 q.2 else scG g t b E r acc c.2
def mPutI (e : ME) : MB := fun E acc S => (e E S).bind fun y => match y.1 with
  | .int k => some (acc ++ [k], y.2)
  | _ => none
def mInI (mi : MA) (g : MG) (t : MT) (e : ME) (vs : List Nat) : MB := fun E acc S => (mi E S).bind fun p => scG g t (mPutI e) (wipeE E vs) p.1 acc p.2
def mSortG (mi : MA) (g : MG) (t : MT) (b : MB) (vs : List Nat) : ME := fun E S => (mi E S).bind fun p => (scG g t b (wipeE E vs) p.1 [] p.2).bind fun q => if q.1.length < 64 then some (.lst ((sortU ltZ q.1).map .int), q.2) else none
def Grows (b : MB) : Prop := ∀ E acc S acc2 S2, b E acc S = some (acc2, S2) → acc.length ≤ acc2.length
theorem scG_len {g : MG} {t : MT} {b : MB} (hb : Grows b) {E : Env} : ∀ (ds : List D) (acc : List Int) (S : Sto) (acc2 : List Int) (S2 : Sto), scG g t b E ds acc S = some (acc2, S2) → acc.length ≤ acc2.length
  | [], acc, S, acc2, S2, h => by cases h; exact Nat.le_refl _
  | d :: r, acc, S, acc2, S2, h => by
    obtain ⟨p, _, h⟩ := bind_some' h
    obtain ⟨c, _, h⟩ := bind_some' h
    split at h
    · obtain ⟨q, e, h⟩ := bind_some' h
      exact Nat.le_trans (hb _ _ _ _ _ e) (scG_len hb r _ _ _ _ h)
    · exact scG_len hb r _ _ _ _ h
theorem put_len {e : ME} : Grows (mPutI e) := fun E acc S acc2 S2 h => by
  obtain ⟨⟨y, S1⟩, _, h⟩ := bind_some' h
  cases y <;> cases h
  simp
theorem in_len {mi : MA} {g : MG} {t : MT} {e : ME} {vs : List Nat} : Grows (mInI mi g t e vs) := fun E acc S acc2 S2 h => by
  obtain ⟨p, _, h⟩ := bind_some' h
  exact scG_len put_len _ _ _ _ _ h
/-- the rest of a turn, told by its mirror -/
def SB (K : PySem.W.Frag) (w : World) (tb : Addr → TB) (b : MB) : Prop :=
  ∀ F f S H σ E acc acc2 S2 Z, At K F f S H σ E → F Z = some (SetK2 w Z (acc.map .inl)) → b E acc S = some (acc2, S2) → acc2.length < 64 → ∀ Nx : Hp → Prop,
    (∀ H' F' f', ExtZ Z F f F' f' → Held K F' f' S2 H' → F' Z = some (SetK2 w Z (acc2.map .inl)) → Nx H') → tb Z σ H Nx
section
variable {K : PySem.W.Frag} {w : World} {wi : TI} {mi : MA} {g : TG} {mg : MG} {tt : TT} {mt : MT} {tb : Addr → TB} {mb : MB} {te : TE} {me : ME} {vs : List Nat}
theorem wipe_wipe (σ : L2.St) (vs : List Nat) : L2.wipe (L2.wipe σ vs) vs = L2.wipe σ vs := by
  have : ∀ ws : List Nat, (∀ w ∈ ws, w ∈ vs) → L2.wipe (L2.wipe σ ws) vs = L2.wipe σ vs := by
    intro ws
    induction ws with
    | nil => intro _; rfl
    | cons w ws ih =>
      intro hm
      show L2.wipe ((L2.wipe σ ws).set w none) vs = _
      rw [wipe_set (hm w List.mem_cons_self)]
      exact ih fun u hu => hm u (List.mem_cons_of_mem _ hu)
  exact this vs fun _ h => h
theorem sb_put (he : SE K te me) : SB K w (tPut w te) (mPutI me) := by
  intro F f S H σ E acc acc2 S2 Z A n eq hz Nx q
  obtain ⟨⟨y, S1⟩, e1, eq⟩ := bind_some' eq
  refine he F f S H σ E y S1 A e1 _ fun v H1 F1 f1 x1 h1 i1 => ?_
  cases y <;> cases eq
  cases i1
  rename_i k
  have n1 := x1.ex _ _ n
  rw [List.length_append, List.length_cons, List.length_nil] at hz
  obtain ⟨h2, x2⟩ := h1.swap n1 (SetK2 w Z (acc.map .inl ++ [.inl k]))
  have room : (acc.map Sum.inl : List Key).length + 1 < scanBound := by rw [List.length_map]; unfold scanBound; omega
  exact ⟨acc.map .inl, .inl k, rfl, h1.ex _ _ n1, room, q _ _ _ (x1.z.trans x2) h2 (by rw [upd_same, List.map_append]; rfl)⟩
theorem se_sortG (hi : SI K wi mi) (hg : SGw K vs g mg) (ht : ST K tt mt) (hb : SB K w tb mb) (gr : Grows mb) : SE K (tCB (rSortM w) (tCons (tSg w wi g tt tb vs) tNil)) (mSortG mi mg mt mb vs) := by
  intro F f S H σ E d S' A eq Q q
  obtain ⟨⟨ds, S1⟩, e1, eq⟩ := bind_some' eq
  obtain ⟨⟨acc2, S2⟩, e2, eq⟩ := bind_some' eq
  by_cases hz : acc2.length < 64
  · simp only [if_pos hz] at eq
    cases eq
    refine hi F f S H σ E ds S1 A e1 _ fun J H1 F1 f1 x1 h1 it Z hZ => ?_
    have f0 : F1 Z = none := Evl.fresh_back h1.ex hZ
    obtain ⟨h2, x2⟩ := h1.put (o := SetK2 w Z []) hZ
    refine ⟨fun i m H' => m = ds.length - i ∧ i ≤ ds.length ∧ ∃ F' f' S3 acc, ExtZ Z F1 f1 F' f' ∧ F' Z = some (SetK2 w Z (acc.map .inl)) ∧ Held K F' f' S3 H' ∧ scG mg mt mb (wipeE E vs) (ds.drop i) acc S3 = some (acc2, S'),
      ⟨ds.length, by simp, Nat.zero_le _, _, f1, _, [], x2.z, upd_same, h2, by simpa using e2⟩, ?_⟩
    rintro i m H3 ⟨rfl, hil, F3, f3, S3, acc, x3, n3, h3, hrun⟩
    have x13 := x3.ext f0
    have itx := it.mono x13
    rcases Nat.lt_or_ge i ds.length with hlt | hge
    · have ed : ds[i]? = some ds[i] := List.getElem?_eq_getElem hlt
      rw [List.drop_eq_getElem_cons hlt] at hrun
      simp only [scG] at hrun
      obtain ⟨⟨E4, S4⟩, e4, hrun⟩ := bind_some' hrun
      obtain ⟨⟨b, S5⟩, e5, hrun⟩ := bind_some' hrun
      refine .inr ⟨itx.go i _ F3 f3 S3 H3 ed (Ext.refl _ _) h3, fun H' => ∃ F' f' S3 acc, ExtZ Z F1 f1 F' f' ∧ F' Z = some (SetK2 w Z (acc.map .inl)) ∧ Held K F' f' S3 H' ∧ scG mg mt mb (wipeE E vs) (ds.drop (i + 1)) acc S3 = some (acc2, S'),
        fun H' z => ⟨ds.length - (i + 1), by omega, rfl, hlt, z⟩, fun v H4 y => ?_⟩
      obtain ⟨F4, x4, h4, i4⟩ := itx.yld i _ F3 f3 S3 H3 v H4 ed (Ext.refl _ _) h3 y
      have A4 : At K F4 f3 S3 H4 (L2.wipe σ vs) (wipeE E vs) := ((A.wipe vs).up (x1.trans x13) h3).up x4 h4
      refine hg F4 f3 S3 H4 _ _ v _ E4 S4 A4 i4 e4 _ fun σ5 H5 F5 f5 x5 A5 hw => ⟨hw.trans (wipe_wipe σ vs), ?_⟩
      refine ht F5 f5 S4 H5 σ5 E4 b S5 A5 e5 _ fun H6 F6 f6 x6 h6 => ?_
      have x36 := (x4.trans x5).trans x6
      have n6 := x36.ex _ _ n3
      cases b with
      | true =>
        simp only [if_true] at hrun
        rw [if_pos rfl]
        obtain ⟨⟨acc7, S7⟩, e7, hrun⟩ := bind_some' hrun
        exact hb F6 f6 S5 H6 σ5 E4 acc acc7 S7 Z (A5.up x6 h6) n6 e7 (Nat.lt_of_le_of_lt (scG_len gr _ _ _ _ _ hrun) hz) _ fun H7 F7 f7 x7 h7 n7 => ⟨F7, f7, S7, acc7, (x3.trans x36.z).trans x7, n7, h7, hrun⟩
      | false =>
        simp only [Bool.false_eq_true, if_false] at hrun
        rw [if_neg Bool.false_ne_true]
        exact ⟨F6, f6, S5, acc, x3.trans x36.z, n6, h6, hrun⟩
    · have e : i = ds.length := by omega
      subst e
      rw [List.drop_length] at hrun
      simp only [scG] at hrun
      cases hrun
      refine .inl ⟨itx.stop F3 f3 _ H3 (Ext.refl _ _) h3, ?_⟩
      refine ⟨Z, .inr ⟨acc2, rfl, h3.ex _ _ n3, hz, fun p hp => ?_⟩⟩
      obtain ⟨h4, x4⟩ := h3.put (o := .lst ((sortU ltZ acc2).map .int)) hp
      exact q _ _ _ _ ((x1.trans x13).trans x4) h4 (.lst upd_same (ints_isAll _))
  · simp only [if_neg hz] at eq
    cases eq
end
end DL
/-! DT6: sorted({.. for .. in .. for .. in ..}); lists told by two clauses. -/
namespace DL
open PySem L2 PyProof.Rows
/-- a source whose items stay what they are when the thing at Z changes -/
def SIZ (K : PySem.W.Frag) (wi : TI) (m : MA) : Prop :=
  ∀ F f S H σ E ds S' Z e, At K F f S H σ E → F Z = some (.ext e) → m E S = some (ds, S') → ∀ R : It → Hp → Prop, (∀ J H' F' f', Ext F f F' f' → Held K F' f' S' H' → Items K J (dl F' Z) f' ds → R J H') → wi σ H R
section
variable {K : PySem.W.Frag} {w : World} {wi : TI} {mi : MA} {g : TG} {mg : MG} {tt : TT} {mt : MT} {te : TE} {me : ME} {vs : List Nat} {t : TE} {m : ME}
theorem siz_seq (h : SE K t m) : SIZ K (iSeq K t) (mSeqI m) := by
  intro F f S H σ E ds S' Z e A n eq R q
  obtain ⟨⟨d, S1⟩, e1, eq⟩ := bind_some' eq
  obtain ⟨ds', e2, eq⟩ := map_some' eq
  cases eq
  have go := h F f S H σ E d _ A e1
  cases d <;> try (cases e2; done)
  · cases e2
    refine .inr (go _ fun v H1 F1 f1 x1 h1 i1 => ?_)
    have := is_str i1
    subst this
    exact ⟨_, rfl, q _ H1 F1 f1 x1 h1 items_str⟩
  · cases e2
    refine .inl (.inr (go _ fun v H1 F1 f1 x1 h1 i1 => ?_))
    have j1 := i1.dl (x1.ex _ _ n)
    cases i1 with
    | tup ha r => cases j1 with
      | tup hb rb => exact ⟨_, rfl, ⟨_, Evl.ex_t h1.ex (SqT.of ha)⟩, q _ H1 F1 f1 x1 h1 (items_tup (SqT.of hb) rb)⟩
  · cases e2
    refine .inl (.inl (go _ fun v H1 F1 f1 x1 h1 i1 => ?_))
    have j1 := i1.dl (x1.ex _ _ n)
    cases i1 with
    | lst ha r => cases j1 with
      | lst hb rb => exact ⟨_, rfl, ⟨_, SqL.of (h1.ex _ _ ha)⟩, q _ H1 F1 f1 x1 h1 (items_list (SqL.of hb) rb)⟩
  · cases e2
    refine .inl (.inl (go _ fun v H1 F1 f1 x1 h1 i1 => ?_))
    have j1 := i1.dl (x1.ex _ _ n)
    cases i1 with
    | scr ha r => cases j1 with
      | scr hb rb => exact ⟨_, rfl, ⟨_, Evl.ex_l h1.ex ha⟩, q _ H1 F1 f1 x1 h1 (items_list hb rb)⟩
theorem wz {F F1 F2 : Hp} {f f1 f2 : List Addr} {Z : Addr} (x : ExtZ Z F f F1 f1) (y : ExtZ Z F1 f1 F2 f2) : ExtZ Z F f F2 f2 := x.trans y
theorem sb_in (hi : SIZ K wi mi) (hg : SGw K vs g mg) (ht : ST K tt mt) (he : SE K te me) : SB K w (tIn w wi g tt te vs) (mInI mi mg mt me vs) := by
  intro F f S H σ E acc acc2 S2 Z A n eq hz Nx q
  obtain ⟨⟨ds, S1⟩, e1, eq⟩ := bind_some' eq
  refine hi F f S H σ E ds S1 Z _ A n e1 _ fun J H1 F1 f1 x1 h1 it => ?_
  have n1 := x1.ex _ _ n
  refine ⟨fun i m H' => m = ds.length - i ∧ i ≤ ds.length ∧ ∃ F' f' S3 acc3, ExtZ Z F1 f1 F' f' ∧ F' Z = some (SetK2 w Z (acc3.map .inl)) ∧ Held K F' f' S3 H' ∧ scG mg mt (mPutI me) (wipeE E vs) (ds.drop i) acc3 S3 = some (acc2, S2),
    ⟨ds.length, by simp, Nat.zero_le _, F1, f1, _, acc, (Ext.refl _ _).z, n1, h1, by simpa using eq⟩, ?_⟩
  rintro i m H3 ⟨rfl, hil, F3, f3, S3, acc3, x3, n3, h3, hrun⟩
  have itx := it.mono x3.low
  rcases Nat.lt_or_ge i ds.length with hlt | hge
  · have ed : ds[i]? = some ds[i] := List.getElem?_eq_getElem hlt
    rw [List.drop_eq_getElem_cons hlt] at hrun
    simp only [scG] at hrun
    obtain ⟨⟨E4, S4⟩, e4, hrun⟩ := bind_some' hrun
    obtain ⟨⟨b, S5⟩, e5, hrun⟩ := bind_some' hrun
    refine .inr ⟨itx.go i _ F3 f3 S3 H3 ed (Ext.refl _ _) h3, fun H' => ∃ F' f' S3 acc3, ExtZ Z F1 f1 F' f' ∧ F' Z = some (SetK2 w Z (acc3.map .inl)) ∧ Held K F' f' S3 H' ∧ scG mg mt (mPutI me) (wipeE E vs) (ds.drop (i + 1)) acc3 S3 = some (acc2, S2),
      fun H' z => ⟨ds.length - (i + 1), by omega, rfl, hlt, z⟩, fun v H4 y => ?_⟩
    obtain ⟨F4, x4, h4, i4⟩ := itx.yld i _ F3 f3 S3 H3 v H4 ed (Ext.refl _ _) h3 y
    have A4 : At K F4 f3 S3 H4 (L2.wipe σ vs) (wipeE E vs) := ((((A.wipe vs).up x1 h1).over x3 n1 h3)).up x4 h4
    refine hg F4 f3 S3 H4 _ _ v _ E4 S4 A4 i4 e4 _ fun σ5 H5 F5 f5 x5 A5 hw => ⟨hw.trans (wipe_wipe σ vs), ?_⟩
    refine ht F5 f5 S4 H5 σ5 E4 b S5 A5 e5 _ fun H6 F6 f6 x6 h6 => ?_
    have x36 := (x4.trans x5).trans x6
    have n6 := x36.ex _ _ n3
    cases b with
    | true =>
      simp only [if_true] at hrun
      rw [if_pos rfl]
      obtain ⟨⟨acc7, S7⟩, e7, hrun⟩ := bind_some' hrun
      exact sb_put he F6 f6 S5 H6 σ5 E4 acc3 acc7 S7 Z (A5.up x6 h6) n6 e7 (Nat.lt_of_le_of_lt (scG_len put_len _ _ _ _ _ hrun) hz) _ fun H7 F7 f7 x7 h7 n7 => ⟨F7, f7, S7, acc7, (x3.trans x36.z).trans x7, n7, h7, hrun⟩
    | false =>
      simp only [Bool.false_eq_true, if_false] at hrun
      rw [if_neg Bool.false_ne_true]
      exact ⟨F6, f6, S5, acc3, x3.trans x36.z, n6, h6, hrun⟩
  · have e : i = ds.length := by omega
    subst e
    rw [List.drop_length] at hrun
    simp only [scG] at hrun
    cases hrun
    exact .inl ⟨itx.stop F3 f3 _ H3 (Ext.refl _ _) h3, q _ _ _ (x1.z.trans x3) h3 n3⟩
end
/-! ### the words -/
section
variable {X : Cx} {pos pos2 p : Pos} {wi wi1 : TI} {mi mi1 : MA} {mg mg1 : MG} {mt mt1 : MT} {me : ME} {elt tg iter t1 i1 : Expr} {ifs ifs1 : List Expr} {scope : Scope} {own : List (Str × Nat)} {vs1 : List Nat} {g' g1' : At5 TG} {tt' tt1' : At5 TT} {te' : At5 TE} {wi1' : At5 TI}
theorem f_sortSc (hc : X.calm = true) (hN : X.N.Nodup) (hgl : Gl X "sorted") (hm : X.mg "sorted" = none) (hi : DI X tg iter wi mi) (ok : BlkOk X.N X.env.scope scope own)
    (hg : ∀ (s : Shared) (H : Hp) (C : Addr) (cl : List (Str × Addr)) (fp : List Addr), DGw (X.blk s H scope (compEnvC scope cl C X.env) fp) (own.map (·.2)) tg (g' s H C cl fp) mg)
    (ht : ∀ (s : Shared) (H : Hp) (C : Addr) (cl : List (Str × Addr)) (fp : List Addr), DTs (X.blk s H scope (compEnvC scope cl C X.env) fp) ifs (tt' s H C cl fp) mt)
    (he : ∀ (s : Shared) (H : Hp) (C : Addr) (cl : List (Str × Addr)) (fp : List Addr), DE (X.blk s H scope (compEnvC scope cl C X.env) fp) elt (te' s H C cl fp) me)
    (eg : ∀ s H C cl fp, g' s H C cl fp = g' X.s_0 X.H_0 0 [] [] := by intros; rfl) (et : ∀ s H C cl fp, tt' s H C cl fp = tt' X.s_0 X.H_0 0 [] [] := by intros; rfl) (ee : ∀ s H C cl fp, te' s H C cl fp = te' X.s_0 X.H_0 0 [] [] := by intros; rfl)
    (fold : ∀ x, foldedSetIterable iter X.env x = pure x := by intro _; rfl)
    (st : starEach [.SetComp elt [⟨tg, iter, ifs, 0⟩] scope pos2] X.env = (false, eval (.SetComp elt [⟨tg, iter, ifs, 0⟩] scope pos2) X.env) :: starEach [] X.env := by rfl) :
    DE X (.Call (.Name "sorted" p) [.SetComp elt [⟨tg, iter, ifs, 0⟩] scope pos2] [] pos) (tCB (rSortM X.w) (tCons (tSg X.w wi (g' X.s_0 X.H_0 0 [] []) (tt' X.s_0 X.H_0 0 [] []) (tPut X.w (te' X.s_0 X.H_0 0 [] [])) (own.map (·.2))) tNil)) (mSortG mi mg mt (mPutI me) (own.map (·.2))) := by
  have hg2 := fun s H C cl fp => eg s H C cl fp ▸ hg s H C cl fp
  have ht2 := fun s H C cl fp => et s H C cl fp ▸ ht s H C cl fp
  have he2 := fun s H C cl fp => ee s H C cl fp ▸ he s H C cl fp
  exact ⟨pe_callB (cr_sortM hc) hgl hm (by decide +kernel) (pa_cons (pe_sg hc hN hi.pi ok loop1_ok (fun s H C cl fp => (hg2 s H C cl fp).pg) (fun s H C cl fp => (ht2 s H C cl fp).pt) (fun s H C cl fp => put_ok (he2 s H C cl fp).pe) fold) pa_nil st) (he := st),
    se_sortG hi.si (hg2 X.s_0 X.H_0 0 [] []).sg (ht2 X.s_0 X.H_0 0 [] []).se (sb_put (he2 X.s_0 X.H_0 0 [] []).se) put_len⟩
structure DZ (X : Cx) (tg iter : Expr) (wi : TI) (m : MA) : Prop where
  pi : PI X tg iter wi
  si : SIZ X.K wi m
theorem z_seq {e : Expr} {t : TE} {m : ME} (h : DE X e t m) : DZ X tg e (iSeq X.K t) (mSeqI m) := ⟨pi_or (pi_or (pi_list h.pe) (pi_tup h.pe)) (pi_str h.pe), siz_seq h.se⟩
theorem f_sortSc2 (hc : X.calm = true) (hN : X.N.Nodup) (hgl : Gl X "sorted") (hm : X.mg "sorted" = none) (hi : DI X tg iter wi mi) (ok : BlkOk X.N X.env.scope scope own) (hv : ∀ i ∈ vs1, i ∈ own.map (·.2))
    (hg : ∀ (s : Shared) (H : Hp) (C : Addr) (cl : List (Str × Addr)) (fp : List Addr), DGw (X.blk s H scope (compEnvC scope cl C X.env) fp) (own.map (·.2)) tg (g' s H C cl fp) mg)
    (ht : ∀ (s : Shared) (H : Hp) (C : Addr) (cl : List (Str × Addr)) (fp : List Addr), DTs (X.blk s H scope (compEnvC scope cl C X.env) fp) ifs (tt' s H C cl fp) mt)
    (hi1 : ∀ (s : Shared) (H : Hp) (C : Addr) (cl : List (Str × Addr)) (fp : List Addr), DZ (X.blk s H scope (compEnvC scope cl C X.env) fp) t1 i1 (wi1' s H C cl fp) mi1)
    (hg1 : ∀ (s : Shared) (H : Hp) (C : Addr) (cl : List (Str × Addr)) (fp : List Addr), DGw (X.blk s H scope (compEnvC scope cl C X.env) fp) vs1 t1 (g1' s H C cl fp) mg1)
    (ht1 : ∀ (s : Shared) (H : Hp) (C : Addr) (cl : List (Str × Addr)) (fp : List Addr), DTs (X.blk s H scope (compEnvC scope cl C X.env) fp) ifs1 (tt1' s H C cl fp) mt1)
    (he : ∀ (s : Shared) (H : Hp) (C : Addr) (cl : List (Str × Addr)) (fp : List Addr), DE (X.blk s H scope (compEnvC scope cl C X.env) fp) elt (te' s H C cl fp) me)
    (eg : ∀ s H C cl fp, g' s H C cl fp = g' X.s_0 X.H_0 0 [] [] := by intros; rfl) (et : ∀ s H C cl fp, tt' s H C cl fp = tt' X.s_0 X.H_0 0 [] [] := by intros; rfl) (ei : ∀ s H C cl fp, wi1' s H C cl fp = wi1' X.s_0 X.H_0 0 [] [] := by intros; rfl)
    (eg1 : ∀ s H C cl fp, g1' s H C cl fp = g1' X.s_0 X.H_0 0 [] [] := by intros; rfl) (et1 : ∀ s H C cl fp, tt1' s H C cl fp = tt1' X.s_0 X.H_0 0 [] [] := by intros; rfl) (ee : ∀ s H C cl fp, te' s H C cl fp = te' X.s_0 X.H_0 0 [] [] := by intros; rfl)
    (fold : ∀ x, foldedSetIterable iter X.env x = pure x := by intro _; rfl) (fold1 : ∀ env x, foldedSetIterable i1 env x = pure x := by intro _ _; rfl)
    (st : starEach [.SetComp elt [⟨tg, iter, ifs, 0⟩, ⟨t1, i1, ifs1, 0⟩] scope pos2] X.env = (false, eval (.SetComp elt [⟨tg, iter, ifs, 0⟩, ⟨t1, i1, ifs1, 0⟩] scope pos2) X.env) :: starEach [] X.env := by rfl) :
    DE X (.Call (.Name "sorted" p) [.SetComp elt [⟨tg, iter, ifs, 0⟩, ⟨t1, i1, ifs1, 0⟩] scope pos2] [] pos) (tCB (rSortM X.w) (tCons (tSg X.w wi (g' X.s_0 X.H_0 0 [] []) (tt' X.s_0 X.H_0 0 [] []) (tIn X.w (wi1' X.s_0 X.H_0 0 [] []) (g1' X.s_0 X.H_0 0 [] []) (tt1' X.s_0 X.H_0 0 [] []) (te' X.s_0 X.H_0 0 [] []) vs1) (own.map (·.2))) tNil)) (mSortG mi mg mt (mInI mi1 mg1 mt1 me vs1) (own.map (·.2))) := by
  have hg2 := fun s H C cl fp => eg s H C cl fp ▸ hg s H C cl fp
  have ht2 := fun s H C cl fp => et s H C cl fp ▸ ht s H C cl fp
  have hi2 := fun s H C cl fp => ei s H C cl fp ▸ hi1 s H C cl fp
  have hg3 := fun s H C cl fp => eg1 s H C cl fp ▸ hg1 s H C cl fp
  have ht3 := fun s H C cl fp => et1 s H C cl fp ▸ ht1 s H C cl fp
  have he2 := fun s H C cl fp => ee s H C cl fp ▸ he s H C cl fp
  exact ⟨pe_callB (cr_sortM hc) hgl hm (by decide +kernel) (pa_cons (pe_sg hc hN hi.pi ok (loop2_ok fold1) (fun s H C cl fp => (hg2 s H C cl fp).pg) (fun s H C cl fp => (ht2 s H C cl fp).pt) (fun s H C cl fp => in_ok hc hv (hi2 s H C cl fp).pi (hg3 s H C cl fp).pg (ht3 s H C cl fp).pt (he2 s H C cl fp).pe) fold) pa_nil st) (he := st),
    se_sortG hi.si (hg2 X.s_0 X.H_0 0 [] []).sg (ht2 X.s_0 X.H_0 0 [] []).se (sb_in (hi2 X.s_0 X.H_0 0 [] []).si (hg3 X.s_0 X.H_0 0 [] []).sg (ht3 X.s_0 X.H_0 0 [] []).se (he2 X.s_0 X.H_0 0 [] []).se) in_len⟩
end
end DL
/-! DT7: dicts told by a clause; lists told by two. -/
namespace DL
open PySem L2 PyProof.Rows
def dcL (g : MG) (t : MT) (k e : ME) (E : Env) (n : Nat) : List D → Sto → Option Sto
  | [], S => some S
  | d :: r, S => (g d E S).bind fun p => (t p.1 p.2).bind fun b => if b.1 = true then (k p.1 b.2).bind fun y => (toKey y.1).bind fun q => (e p.1 y.2).bind fun z => match z.2[n]? with
      | some (.dic ks ds) => if ks.length < sizeLine then dcL g t k e E n r (z.2.set n (.dic (dput ks ds q z.1).1 (dput ks ds q z.1).2)) else none
      | _ => none
    else dcL g t k e E n r b.2
def mDComp (mi : MA) (g : MG) (t : MT) (k e : ME) (vs : List Nat) : ME := fun E S => (mi E S).bind fun p => (dcL g t k e (wipeE E vs) p.2.length p.1 (p.2 ++ [.dic [] []])).map fun S1 => trim p.2.length (frz (.loc p.2.length) S1).1 (frz (.loc p.2.length) S1).2
def compL2 (g : MG) (t : MT) (mi1 : MA) (g1 : MG) (t1 : MT) (e : ME) (vs1 : List Nat) (E : Env) (n : Nat) : List D → Sto → Option Sto
  | [], S => some S
  | d :: r, S => (g d E S).bind fun p => (t p.1 p.2).bind fun b => if b.1 = true then (mi1 p.1 b.2).bind fun q => (compL g1 t1 e (wipeE p.1 vs1) n q.1 q.2).bind fun S3 => compL2 g t mi1 g1 t1 e vs1 E n r S3
    else compL2 g t mi1 g1 t1 e vs1 E n r b.2
def mComp2 (mi : MA) (g : MG) (t : MT) (mi1 : MA) (g1 : MG) (t1 : MT) (e : ME) (vs vs1 : List Nat) : ME := fun E S => (mi E S).bind fun p => (compL2 g t mi1 g1 t1 e vs1 (wipeE E vs) p.2.length p.1 (p.2 ++ [.lst []])).map fun S1 => trim p.2.length (frz (.loc p.2.length) S1).1 (frz (.loc p.2.length) S1).2
section
variable {X : Cx} {K : PySem.W.Frag} {pos : Pos} {wi wi1 : TI} {mi mi1 : MA} {g g1 : TG} {mg mg1 : MG} {tt tt1 : TT} {mt mt1 : MT} {tk te : TE} {mk me : ME} {vs vs1 : List Nat}
theorem se_dcomp (hi : SI K wi mi) (hg : SGw K vs g mg) (ht : ST K tt mt) (hk : SE K tk mk) (he : SE K te me) : SE K (tDc wi g tt tk te vs) (mDComp mi mg mt mk me vs) := by
  intro F f S H σ E d S' A h Q q
  obtain ⟨⟨ds, S1⟩, e1, h⟩ := bind_some' h
  obtain ⟨S2, e2, hfin⟩ := map_some' h
  refine hi F f S H σ E ds S1 A e1 _ fun J H1 F1 f1 x1 h1 it D hD => ?_
  obtain ⟨h2, x2⟩ := h1.alloc (u := .dK []) (o := .dic [] []) hD ⟨[], rfl, rfl, .nil⟩
  have hfd : (f1 ++ [D])[S1.length]? = some D := by rw [← h1.len]; simp
  refine ⟨fun i m H' => m = ds.length - i ∧ i ≤ ds.length ∧ ∃ F' f' S3, Ext F1 (f1 ++ [D]) F' f' ∧ Held K F' f' S3 H' ∧ dcL mg mt mk me (wipeE E vs) S1.length (ds.drop i) S3 = some S2,
    ⟨ds.length, by simp, Nat.zero_le _, F1, f1 ++ [D], _, Ext.refl _ _, h2, by simpa using e2⟩, ?_⟩
  rintro i m H3 ⟨rfl, hil, F3, f3, S3, x3, h3, hrun⟩
  have itx := it.mono x2 |>.mono x3
  rcases Nat.lt_or_ge i ds.length with hlt | hge
  · have ed : ds[i]? = some ds[i] := List.getElem?_eq_getElem hlt
    rw [List.drop_eq_getElem_cons hlt] at hrun
    simp only [dcL] at hrun
    obtain ⟨⟨E4, S4⟩, e4, hrun⟩ := bind_some' hrun
    obtain ⟨⟨b, S5⟩, e5, hrun⟩ := bind_some' hrun
    refine .inr ⟨itx.go i _ F3 f3 S3 H3 ed (Ext.refl _ _) h3, fun H' => ∃ F' f' S6, Ext F1 (f1 ++ [D]) F' f' ∧ Held K F' f' S6 H' ∧ dcL mg mt mk me (wipeE E vs) S1.length (ds.drop (i + 1)) S6 = some S2,
      fun H' w => ⟨ds.length - (i + 1), by omega, rfl, hlt, w⟩, fun v H4 y => ?_⟩
    obtain ⟨F4, x4, h4, i4⟩ := itx.yld i _ F3 f3 S3 H3 v H4 ed (Ext.refl _ _) h3 y
    have A4 : At K F4 f3 S3 H4 (L2.wipe σ vs) (wipeE E vs) := ((A.wipe vs).up (x1.trans (x2.trans x3)) h3).up x4 h4
    refine hg F4 f3 S3 H4 _ _ v _ E4 S4 A4 i4 e4 _ fun σ5 H5 F5 f5 x5 A5 hw => ⟨hw.trans (wipe_wipe σ vs), ?_⟩
    refine ht F5 f5 S4 H5 σ5 E4 b S5 A5 e5 _ fun H6 F6 f6 x6 h6 => ?_
    have x16 := ((x3.trans x4).trans x5).trans x6
    cases b with
    | true =>
      simp only [if_true] at hrun
      rw [if_pos rfl]
      obtain ⟨⟨yk, S7⟩, e7, hrun⟩ := bind_some' hrun
      obtain ⟨kk, ek, hrun⟩ := bind_some' hrun
      obtain ⟨⟨yd, S8⟩, e8, hrun⟩ := bind_some' hrun
      refine hk F6 f6 S5 H6 σ5 E4 yk S7 (A5.up x6 h6) e7 _ fun yv H7 F7 f7 x7 h7 i7 => ?_
      refine he F7 f7 S7 H7 σ5 E4 yd S8 ((A5.up x6 h6).up x7 h7) e8 _ fun zv H8 F8 f8 x8 h8 i8 => ?_
      have hD8 : f8[S1.length]? = some D := pre_get ((x16.trans x7).trans x8).pre hfd
      simp only at hrun
      split at hrun
      · rename_i ks dds es
        by_cases hz : ks.length < sizeLine
        · rw [if_pos hz] at hrun
          obtain ⟨kvs, e9, rfl, r9⟩ := h8.ob _ D _ hD8 es
          obtain ⟨p1, p2⟩ := dput_ok (q := kk) i8 r9
          have h9 := h8.write (u := .dK (putK kvs kk zv)) (o' := .dic (dput (kvs.map (·.1)) dds kk yd).1 (dput (kvs.map (·.1)) dds kk yd).2) hD8 es (by first | rfl | (intro z; cases z)) ⟨_, rfl, p1, p2⟩
          exact ⟨kvs, kk, key_ok i7 ek, e9, by simpa using hz, F8, f8, _, (x16.trans x7).trans x8, h9, hrun⟩
        · rw [if_neg hz] at hrun
          cases hrun
      · cases hrun
    | false =>
      simp only [Bool.false_eq_true, if_false] at hrun
      rw [if_neg Bool.false_ne_true]
      exact ⟨F6, f6, S5, x16, h6, hrun⟩
  · have e : i = ds.length := by omega
    subst e
    rw [List.drop_length] at hrun
    simp only [dcL] at hrun
    cases hrun
    refine .inl ⟨itx.stop F3 f3 _ H3 (Ext.refl _ _) h3, ?_⟩
    have il : Is K F3 f3 (.ref D) (.loc S1.length) := .loc (pre_get x3.pre hfd)
    obtain ⟨F4, x4, h4, i4⟩ := frz_ok h3 il
    have q1 : Wants K F1 f1 (frz (.loc S1.length) _).2 (frz (.loc S1.length) _).1 Q := wants_cut (S := S1) (H := H1) h1.len (by rw [hfin]; exact q.ext x1)
    exact q1 _ H3 F4 f3 ((x2.trans x3).trans x4) h4 i4
/-- the second clause's turns -/
theorem comp_in {F H : Hp} {f : List Addr} {S S2 : Sto} {σ : L2.St} {E : Env} {J : It} {ds : List D} {n : Nat} {D : Addr} {Nx : Hp → Prop} (hg : SGw K vs1 g1 mg1) (ht : ST K tt1 mt1) (he : SE K te me) (A : At K F f S H σ E) (it : Items K J F f ds) (hfd : f[n]? = some D)
    (run : compL mg1 mt1 me (wipeE E vs1) n ds S = some S2) (fin : ∀ H' F' f', Ext F f F' f' → Held K F' f' S2 H' → Nx H') :
    ∃ W : Nat → Nat → Hp → Prop, (∃ m, W 0 m H) ∧ ∀ j k Hj, W j k Hj → (J.stop j Hj ∧ Nx Hj) ∨ (J.go j Hj ∧ ∃ Ny : Hp → Prop, (∀ H', Ny H' → ∃ k', k' < k ∧ W (j + 1) k' H') ∧ ∀ x H', J.yld j Hj x H' → g1 x (L2.wipe σ vs1) H' fun σ3 H5 => L2.wipe σ3 vs1 = L2.wipe σ vs1 ∧ tt1 σ3 H5 fun b H6 =>
        if b = true then te σ3 H6 fun y H7 => ∃ acc, H7 D = some (.lst acc) ∧ acc.length < sizeLine ∧ Ny (upd H7 D (.lst (acc ++ [y]))) else Ny H6) := by
  refine ⟨fun i m H' => m = ds.length - i ∧ i ≤ ds.length ∧ ∃ F' f' S3, Ext F f F' f' ∧ Held K F' f' S3 H' ∧ compL mg1 mt1 me (wipeE E vs1) n (ds.drop i) S3 = some S2,
    ⟨ds.length, by simp, Nat.zero_le _, F, f, _, Ext.refl _ _, A.held, by simpa using run⟩, ?_⟩
  rintro i m H3 ⟨rfl, hil, F3, f3, S3, x3, h3, hrun⟩
  have itx := it.mono x3
  rcases Nat.lt_or_ge i ds.length with hlt | hge
  · have ed : ds[i]? = some ds[i] := List.getElem?_eq_getElem hlt
    rw [List.drop_eq_getElem_cons hlt] at hrun
    simp only [compL] at hrun
    obtain ⟨⟨E4, S4⟩, e4, hrun⟩ := bind_some' hrun
    obtain ⟨⟨b, S5⟩, e5, hrun⟩ := bind_some' hrun
    refine .inr ⟨itx.go i _ F3 f3 S3 H3 ed (Ext.refl _ _) h3, fun H' => ∃ F' f' S6, Ext F f F' f' ∧ Held K F' f' S6 H' ∧ compL mg1 mt1 me (wipeE E vs1) n (ds.drop (i + 1)) S6 = some S2,
      fun H' w => ⟨ds.length - (i + 1), by omega, rfl, hlt, w⟩, fun v H4 y => ?_⟩
    obtain ⟨F4, x4, h4, i4⟩ := itx.yld i _ F3 f3 S3 H3 v H4 ed (Ext.refl _ _) h3 y
    have A4 : At K F4 f3 S3 H4 (L2.wipe σ vs1) (wipeE E vs1) := ((A.wipe vs1).up x3 h3).up x4 h4
    refine hg F4 f3 S3 H4 _ _ v _ E4 S4 A4 i4 e4 _ fun σ5 H5 F5 f5 x5 A5 hw => ⟨hw.trans (wipe_wipe σ vs1), ?_⟩
    refine ht F5 f5 S4 H5 σ5 E4 b S5 A5 e5 _ fun H6 F6 f6 x6 h6 => ?_
    have x16 := ((x3.trans x4).trans x5).trans x6
    cases b with
    | true =>
      simp only [if_true] at hrun
      rw [if_pos rfl]
      obtain ⟨⟨yd, S7⟩, e7, hrun⟩ := bind_some' hrun
      refine he F6 f6 S5 H6 σ5 E4 yd S7 (A5.up x6 h6) e7 _ fun yv H7 F7 f7 x7 h7 i7 => ?_
      have hD7 : f7[n]? = some D := pre_get (x16.trans x7).pre hfd
      simp only at hrun
      split at hrun
      · rename_i acc es
        by_cases hz : acc.length < sizeLine
        · rw [if_pos hz] at hrun
          obtain ⟨ws, e8, r8⟩ := h7.ob _ D _ hD7 es
          have h8 := h7.write (u := .lst (ws ++ [yv])) (o' := .lst (acc ++ [yd])) hD7 es (by first | rfl | (intro z; cases z)) ⟨_, rfl, r8.append (.cons i7 .nil)⟩
          exact ⟨ws, e8, by rw [r8.length]; exact hz, F7, f7, _, x16.trans x7, h8, hrun⟩
        · rw [if_neg hz] at hrun
          cases hrun
      · cases hrun
    | false =>
      simp only [Bool.false_eq_true, if_false] at hrun
      rw [if_neg Bool.false_ne_true]
      exact ⟨F6, f6, S5, x16, h6, hrun⟩
  · have e : i = ds.length := by omega
    subst e
    rw [List.drop_length] at hrun
    simp only [compL] at hrun
    cases hrun
    exact .inl ⟨itx.stop F3 f3 _ H3 (Ext.refl _ _) h3, fin _ _ _ x3 h3⟩
theorem se_comp2 (hi : SI K wi mi) (hg : SGw K vs g mg) (ht : ST K tt mt) (hi1 : SI K wi1 mi1) (hg1 : SGw K vs1 g1 mg1) (ht1 : ST K tt1 mt1) (he : SE K te me) : SE K (tLc2 wi g tt wi1 g1 tt1 te vs vs1) (mComp2 mi mg mt mi1 mg1 mt1 me vs vs1) := by
  intro F f S H σ E d S' A h Q q
  obtain ⟨⟨ds, S1⟩, e1, h⟩ := bind_some' h
  obtain ⟨S2, e2, hfin⟩ := map_some' h
  refine hi F f S H σ E ds S1 A e1 _ fun J H1 F1 f1 x1 h1 it D hD => ?_
  obtain ⟨h2, x2⟩ := h1.alloc (u := .lst []) (o := .lst []) hD ⟨[], rfl, .nil⟩
  have hfd : (f1 ++ [D])[S1.length]? = some D := by rw [← h1.len]; simp
  refine ⟨fun i m H' => m = ds.length - i ∧ i ≤ ds.length ∧ ∃ F' f' S3, Ext F1 (f1 ++ [D]) F' f' ∧ Held K F' f' S3 H' ∧ compL2 mg mt mi1 mg1 mt1 me vs1 (wipeE E vs) S1.length (ds.drop i) S3 = some S2,
    ⟨ds.length, by simp, Nat.zero_le _, F1, f1 ++ [D], _, Ext.refl _ _, h2, by simpa using e2⟩, ?_⟩
  rintro i m H3 ⟨rfl, hil, F3, f3, S3, x3, h3, hrun⟩
  have itx := it.mono x2 |>.mono x3
  rcases Nat.lt_or_ge i ds.length with hlt | hge
  · have ed : ds[i]? = some ds[i] := List.getElem?_eq_getElem hlt
    rw [List.drop_eq_getElem_cons hlt] at hrun
    simp only [compL2] at hrun
    obtain ⟨⟨E4, S4⟩, e4, hrun⟩ := bind_some' hrun
    obtain ⟨⟨b, S5⟩, e5, hrun⟩ := bind_some' hrun
    refine .inr ⟨itx.go i _ F3 f3 S3 H3 ed (Ext.refl _ _) h3, fun H' => ∃ F' f' S6, Ext F1 (f1 ++ [D]) F' f' ∧ Held K F' f' S6 H' ∧ compL2 mg mt mi1 mg1 mt1 me vs1 (wipeE E vs) S1.length (ds.drop (i + 1)) S6 = some S2,
      fun H' w => ⟨ds.length - (i + 1), by omega, rfl, hlt, w⟩, fun v H4 y => ?_⟩
    obtain ⟨F4, x4, h4, i4⟩ := itx.yld i _ F3 f3 S3 H3 v H4 ed (Ext.refl _ _) h3 y
    have A4 : At K F4 f3 S3 H4 (L2.wipe σ vs) (wipeE E vs) := ((A.wipe vs).up (x1.trans (x2.trans x3)) h3).up x4 h4
    refine hg F4 f3 S3 H4 _ _ v _ E4 S4 A4 i4 e4 _ fun σ5 H5 F5 f5 x5 A5 hw => ⟨hw.trans (wipe_wipe σ vs), ?_⟩
    refine ht F5 f5 S4 H5 σ5 E4 b S5 A5 e5 _ fun H6 F6 f6 x6 h6 => ?_
    have x16 := ((x3.trans x4).trans x5).trans x6
    cases b with
    | true =>
      simp only [if_true] at hrun
      rw [if_pos rfl]
      obtain ⟨⟨ds1, S7⟩, e7, hrun⟩ := bind_some' hrun
      obtain ⟨S8, e8, hrun⟩ := bind_some' hrun
      refine hi1 F6 f6 S5 H6 σ5 E4 ds1 S7 (A5.up x6 h6) e7 _ fun J1 H7 F7 f7 x7 h7 it1 => ?_
      exact comp_in hg1 ht1 he ((A5.up x6 h6).up x7 h7) it1 (pre_get (x16.trans x7).pre hfd) e8 fun H8 F8 f8 x8 h8 => ⟨F8, f8, S8, (x16.trans x7).trans x8, h8, hrun⟩
    | false =>
      simp only [Bool.false_eq_true, if_false] at hrun
      rw [if_neg Bool.false_ne_true]
      exact ⟨F6, f6, S5, x16, h6, hrun⟩
  · have e : i = ds.length := by omega
    subst e
    rw [List.drop_length] at hrun
    simp only [compL2] at hrun
    cases hrun
    refine .inl ⟨itx.stop F3 f3 _ H3 (Ext.refl _ _) h3, ?_⟩
    have il : Is K F3 f3 (.ref D) (.loc S1.length) := .loc (pre_get x3.pre hfd)
    obtain ⟨F4, x4, h4, i4⟩ := frz_ok h3 il
    have q1 : Wants K F1 f1 (frz (.loc S1.length) _).2 (frz (.loc S1.length) _).1 Q := wants_cut (S := S1) (H := H1) h1.len (by rw [hfin]; exact q.ext x1)
    exact q1 _ H3 F4 f3 ((x2.trans x3).trans x4) h4 i4
end
section
variable {X : Cx} {pos : Pos} {wi : TI} {mi mi1 : MA} {mg mg1 : MG} {mt mt1 : MT} {mk me : ME} {elt kx tg iter t1 i1 : Expr} {ifs ifs1 : List Expr} {scope : Scope} {own : List (Str × Nat)} {vs1 : List Nat} {g' g1' : At5 TG} {tt' tt1' : At5 TT} {tk' te' : At5 TE} {wi1' : At5 TI}
theorem f_dcomp (hc : X.calm = true) (hN : X.N.Nodup) (hi : DI X tg iter wi mi) (ok : BlkOk X.N X.env.scope scope own)
    (hg : ∀ (s : Shared) (H : Hp) (C : Addr) (cl : List (Str × Addr)) (fp : List Addr), DGw (X.blk s H scope (compEnvC scope cl C X.env) fp) (own.map (·.2)) tg (g' s H C cl fp) mg)
    (ht : ∀ (s : Shared) (H : Hp) (C : Addr) (cl : List (Str × Addr)) (fp : List Addr), DTs (X.blk s H scope (compEnvC scope cl C X.env) fp) ifs (tt' s H C cl fp) mt)
    (hk : ∀ (s : Shared) (H : Hp) (C : Addr) (cl : List (Str × Addr)) (fp : List Addr), DE (X.blk s H scope (compEnvC scope cl C X.env) fp) kx (tk' s H C cl fp) mk)
    (he : ∀ (s : Shared) (H : Hp) (C : Addr) (cl : List (Str × Addr)) (fp : List Addr), DE (X.blk s H scope (compEnvC scope cl C X.env) fp) elt (te' s H C cl fp) me)
    (eg : ∀ s H C cl fp, g' s H C cl fp = g' X.s_0 X.H_0 0 [] [] := by intros; rfl) (et : ∀ s H C cl fp, tt' s H C cl fp = tt' X.s_0 X.H_0 0 [] [] := by intros; rfl) (ek : ∀ s H C cl fp, tk' s H C cl fp = tk' X.s_0 X.H_0 0 [] [] := by intros; rfl) (ee : ∀ s H C cl fp, te' s H C cl fp = te' X.s_0 X.H_0 0 [] [] := by intros; rfl)
    (fold : ∀ x, foldedSetIterable iter X.env x = pure x := by intro _; rfl) : DE X (.DictComp kx elt [⟨tg, iter, ifs, 0⟩] scope pos) (tDc wi (g' X.s_0 X.H_0 0 [] []) (tt' X.s_0 X.H_0 0 [] []) (tk' X.s_0 X.H_0 0 [] []) (te' X.s_0 X.H_0 0 [] []) (own.map (·.2))) (mDComp mi mg mt mk me (own.map (·.2))) := by
  have hg2 := fun s H C cl fp => eg s H C cl fp ▸ hg s H C cl fp
  have ht2 := fun s H C cl fp => et s H C cl fp ▸ ht s H C cl fp
  have hk2 := fun s H C cl fp => ek s H C cl fp ▸ hk s H C cl fp
  have he2 := fun s H C cl fp => ee s H C cl fp ▸ he s H C cl fp
  exact ⟨pe_dc hc hN hi.pi ok (fun s H C cl fp => (hg2 s H C cl fp).pg) (fun s H C cl fp => (ht2 s H C cl fp).pt) (fun s H C cl fp => (hk2 s H C cl fp).pe) (fun s H C cl fp => (he2 s H C cl fp).pe) fold,
    se_dcomp hi.si (hg2 X.s_0 X.H_0 0 [] []).sg (ht2 X.s_0 X.H_0 0 [] []).se (hk2 X.s_0 X.H_0 0 [] []).se (he2 X.s_0 X.H_0 0 [] []).se⟩
theorem f_comp2 (hc : X.calm = true) (hN : X.N.Nodup) (hi : DI X tg iter wi mi) (ok : BlkOk X.N X.env.scope scope own) (hv : ∀ i ∈ vs1, i ∈ own.map (·.2))
    (hg : ∀ (s : Shared) (H : Hp) (C : Addr) (cl : List (Str × Addr)) (fp : List Addr), DGw (X.blk s H scope (compEnvC scope cl C X.env) fp) (own.map (·.2)) tg (g' s H C cl fp) mg)
    (ht : ∀ (s : Shared) (H : Hp) (C : Addr) (cl : List (Str × Addr)) (fp : List Addr), DTs (X.blk s H scope (compEnvC scope cl C X.env) fp) ifs (tt' s H C cl fp) mt)
    (hi1 : ∀ (s : Shared) (H : Hp) (C : Addr) (cl : List (Str × Addr)) (fp : List Addr), DI (X.blk s H scope (compEnvC scope cl C X.env) fp) t1 i1 (wi1' s H C cl fp) mi1)
    (hg1 : ∀ (s : Shared) (H : Hp) (C : Addr) (cl : List (Str × Addr)) (fp : List Addr), DGw (X.blk s H scope (compEnvC scope cl C X.env) fp) vs1 t1 (g1' s H C cl fp) mg1)
    (ht1 : ∀ (s : Shared) (H : Hp) (C : Addr) (cl : List (Str × Addr)) (fp : List Addr), DTs (X.blk s H scope (compEnvC scope cl C X.env) fp) ifs1 (tt1' s H C cl fp) mt1)
    (he : ∀ (s : Shared) (H : Hp) (C : Addr) (cl : List (Str × Addr)) (fp : List Addr), DE (X.blk s H scope (compEnvC scope cl C X.env) fp) elt (te' s H C cl fp) me)
    (eg : ∀ s H C cl fp, g' s H C cl fp = g' X.s_0 X.H_0 0 [] [] := by intros; rfl) (et : ∀ s H C cl fp, tt' s H C cl fp = tt' X.s_0 X.H_0 0 [] [] := by intros; rfl) (ei : ∀ s H C cl fp, wi1' s H C cl fp = wi1' X.s_0 X.H_0 0 [] [] := by intros; rfl)
    (eg1 : ∀ s H C cl fp, g1' s H C cl fp = g1' X.s_0 X.H_0 0 [] [] := by intros; rfl) (et1 : ∀ s H C cl fp, tt1' s H C cl fp = tt1' X.s_0 X.H_0 0 [] [] := by intros; rfl) (ee : ∀ s H C cl fp, te' s H C cl fp = te' X.s_0 X.H_0 0 [] [] := by intros; rfl)
    (fold : ∀ x, foldedSetIterable iter X.env x = pure x := by intro _; rfl) (fold1 : ∀ env x, foldedSetIterable i1 env x = pure x := by intro _ _; rfl) :
    DE X (.ListComp elt [⟨tg, iter, ifs, 0⟩, ⟨t1, i1, ifs1, 0⟩] scope pos) (tLc2 wi (g' X.s_0 X.H_0 0 [] []) (tt' X.s_0 X.H_0 0 [] []) (wi1' X.s_0 X.H_0 0 [] []) (g1' X.s_0 X.H_0 0 [] []) (tt1' X.s_0 X.H_0 0 [] []) (te' X.s_0 X.H_0 0 [] []) (own.map (·.2)) vs1) (mComp2 mi mg mt mi1 mg1 mt1 me (own.map (·.2)) vs1) := by
  have hg2 := fun s H C cl fp => eg s H C cl fp ▸ hg s H C cl fp
  have ht2 := fun s H C cl fp => et s H C cl fp ▸ ht s H C cl fp
  have hi2 := fun s H C cl fp => ei s H C cl fp ▸ hi1 s H C cl fp
  have hg3 := fun s H C cl fp => eg1 s H C cl fp ▸ hg1 s H C cl fp
  have ht3 := fun s H C cl fp => et1 s H C cl fp ▸ ht1 s H C cl fp
  have he2 := fun s H C cl fp => ee s H C cl fp ▸ he s H C cl fp
  exact ⟨pe_lc2 hc hN hi.pi ok hv (fun s H C cl fp => (hg2 s H C cl fp).pg) (fun s H C cl fp => (ht2 s H C cl fp).pt) (fun s H C cl fp => (hi2 s H C cl fp).pi) (fun s H C cl fp => (hg3 s H C cl fp).pg) (fun s H C cl fp => (ht3 s H C cl fp).pt) (fun s H C cl fp => (he2 s H C cl fp).pe) fold fold1,
    se_comp2 hi.si (hg2 X.s_0 X.H_0 0 [] []).sg (ht2 X.s_0 X.H_0 0 [] []).se (hi2 X.s_0 X.H_0 0 [] []).si (hg3 X.s_0 X.H_0 0 [] []).sg (ht3 X.s_0 X.H_0 0 [] []).se (he2 X.s_0 X.H_0 0 [] []).se⟩
end
end DL
/-! DT8: sorted, of tuples of whole numbers and texts. -/
namespace DL
open PySem L2 PyProof.Rows
def ltK1 : Key → Key → Bool
  | .inl a, .inl b => ltZ a b
  | .inr a, .inr b => ltX a b
  | .inl _, .inr _ => true
  | .inr _, .inl _ => false
theorem linK1 : Lin ltK1 := by
  have LZ := linZ
  have LX := linX
  refine ⟨fun a => ?_, fun a b c h1 h2 => ?_, fun a b h1 h2 => ?_⟩
  · cases a
    · exact LZ.irr _
    · exact LX.irr _
  · cases a <;> cases b <;> cases c <;> simp only [ltK1] at h1 h2 ⊢ <;> first | exact LZ.tr _ _ _ h1 h2 | exact LX.tr _ _ _ h1 h2 | (cases h1; done) | (cases h2; done)
  · cases a <;> cases b <;> simp only [ltK1] at h1 h2 <;> first | exact congrArg _ (LZ.tri _ _ h1 h2) | exact congrArg _ (LX.tri _ _ h1 h2) | (cases h1; done) | (cases h2; done)
def lexK : List Key → List Key → Bool
  | [], [] => false
  | [], _ :: _ => true
  | _ :: _, [] => false
  | k :: ks, l :: ls => if k = l then lexK ks ls else ltK1 k l
theorem linK : Lin lexK := by
  have L := linK1
  refine ⟨fun a => ?_, fun a => ?_, fun a => ?_⟩
  · induction a with
    | nil => rfl
    | cons k ks ih => rw [lexK, if_pos rfl]; exact ih
  · induction a with
    | nil => intro b c h1 h2; cases c <;> cases b <;> simp [lexK] at h1 h2 ⊢
    | cons k ks ih =>
      intro b c h1 h2
      cases b with
      | nil => cases h1
      | cons l ls =>
        cases c with
        | nil => cases h2
        | cons m ms =>
          simp only [lexK] at h1 h2 ⊢
          by_cases e1 : k = l
          · subst e1
            rw [if_pos rfl] at h1
            by_cases e2 : k = m
            · subst e2
              rw [if_pos rfl] at h2 ⊢
              exact ih ls ms h1 h2
            · rw [if_neg e2] at h2 ⊢
              exact h2
          · rw [if_neg e1] at h1
            by_cases e2 : l = m
            · subst e2
              rw [if_neg e1]
              exact h1
            · rw [if_neg e2] at h2
              have e3 : k ≠ m := fun z => by
                subst z
                rw [L.asy h1] at h2
                cases h2
              rw [if_neg e3]
              exact L.tr _ _ _ h1 h2
  · induction a with
    | nil => intro b h1 h2; cases b <;> first | rfl | cases h1
    | cons k ks ih =>
      intro b h1 h2
      cases b with
      | nil => cases h2
      | cons l ls =>
        simp only [lexK] at h1 h2
        by_cases e1 : k = l
        · subst e1
          rw [if_pos rfl] at h1 h2
          rw [ih ls h1 h2]
        · rw [if_neg e1] at h1
          rw [if_neg (Ne.symm e1)] at h2
          exact absurd (L.tri _ _ h1 h2) e1
def sameT : List Key → List Key → Bool
  | [], [] => true
  | .inl _ :: ks, .inl _ :: ls => sameT ks ls
  | .inr _ :: ks, .inr _ :: ls => sameT ks ls
  | _, _ => false
/-! ### a stable sort -/
section
variable {α β : Type} {lt : α → α → Bool}
def insS (lt : α → α → Bool) (x : α) : List α → List α
  | [] => [x]
  | y :: r => if lt y x = true then y :: insS lt x r else x :: y :: r
def isrt (lt : α → α → Bool) (l : List α) : List α := l.foldr (insS lt) []
theorem insS_perm (x : α) : ∀ l : List α, (insS lt x l).Perm (x :: l)
  | [] => .refl _
  | y :: r => by
    unfold insS
    split
    · exact ((insS_perm x r).cons y).trans (.swap x y r)
    · exact .refl _
theorem isrt_perm : ∀ l : List α, (isrt lt l).Perm l
  | [] => .refl _
  | x :: l => (insS_perm x _).trans ((isrt_perm l).cons x)
theorem insS_srtd (O : SrtO.Swo lt) (x : α) : ∀ {l : List α}, SrtO.Srtd lt l → SrtO.Srtd lt (insS lt x l)
  | [], _ => SrtO.srtd_one x
  | y :: r, h => by
    obtain ⟨h1, h2⟩ := List.pairwise_cons.mp h
    unfold insS
    split
    · rename_i hy
      refine List.pairwise_cons.mpr ⟨fun z hz => ?_, insS_srtd O x h2⟩
      rcases List.mem_cons.mp ((insS_perm x r).mem_iff.mp hz) with u | u
      · exact u ▸ O.asym _ _ hy
      · exact h1 z u
    · rename_i hy
      have hy' : lt y x = false := by simpa using hy
      exact List.pairwise_cons.mpr ⟨fun z hz => by
        rcases List.mem_cons.mp hz with u | u
        · exact u ▸ hy'
        · exact O.tr _ _ _ hy' (h1 z u), h⟩
theorem isrt_srtd (O : SrtO.Swo lt) : ∀ l : List α, SrtO.Srtd lt (isrt lt l)
  | [] => List.Pairwise.nil
  | x :: l => insS_srtd O x (isrt_srtd O l)
theorem insS_cls (O : SrtO.Swo lt) (x z : α) : ∀ {l : List α}, SrtO.Srtd lt l → (insS lt x l).filter (SrtO.eqv lt z) = (x :: l).filter (SrtO.eqv lt z)
  | [], _ => rfl
  | y :: r, h => by
    obtain ⟨h1, h2⟩ := List.pairwise_cons.mp h
    unfold insS
    split
    · rename_i hy
      have ih := insS_cls O x z h2
      rw [List.filter_cons, ih]
      simp only [List.filter_cons]
      cases ex : SrtO.eqv lt z x with
      | false => simp
      | true =>
        cases ey : SrtO.eqv lt z y with
        | false => simp
        | true =>
          have a := SrtO.eqv_iff.mp ex
          have b := SrtO.eqv_iff.mp ey
          have c := O.tr x z y a.1 b.2
          rw [hy] at c
          cases c
    · rfl
theorem isrt_cls (O : SrtO.Swo lt) (z : α) : ∀ l : List α, (isrt lt l).filter (SrtO.eqv lt z) = l.filter (SrtO.eqv lt z)
  | [] => rfl
  | x :: l => by
    show (insS lt x (isrt lt l)).filter _ = _
    rw [insS_cls O x z (isrt_srtd O l), List.filter_cons, List.filter_cons, isrt_cls O z l]
theorem isrt_stb (O : SrtO.Swo lt) (l : List α) : SrtO.Stb lt (isrt lt l) l := ⟨isrt_perm l, fun z => isrt_cls O z l⟩
theorem isrt_map (f : β → α) : ∀ l : List β, (isrt (fun a b => lt (f a) (f b)) l).map f = isrt lt (l.map f)
  | [] => rfl
  | x :: l => by
    have go : ∀ r : List β, (insS (fun a b => lt (f a) (f b)) x r).map f = insS lt (f x) (r.map f) := fun r => by
      induction r with
      | nil => rfl
      | cons y r ih =>
        simp only [insS, List.map_cons]
        split
        · rw [List.map_cons, ih]
        · rfl
    show (insS _ x (isrt _ l)).map f = insS lt (f x) (isrt lt (l.map f))
    rw [go, isrt_map f l]
theorem isrt_congr {lt2 : α → α → Bool} : ∀ {l : List α}, (∀ a ∈ l, ∀ b ∈ l, lt a b = lt2 a b) → isrt lt l = isrt lt2 l
  | [], _ => rfl
  | x :: l, h => by
    have go : ∀ r : List α, (∀ y ∈ r, lt y x = lt2 y x) → insS lt x r = insS lt2 x r := fun r => by
      induction r with
      | nil => intro _; rfl
      | cons y r ih =>
        intro h
        simp only [insS, h y List.mem_cons_self, ih fun z hz => h z (List.mem_cons_of_mem _ hz)]
    show insS lt x (isrt lt l) = insS lt2 x (isrt lt2 l)
    rw [← isrt_congr fun a ha b hb => h a (List.mem_cons_of_mem _ ha) b (List.mem_cons_of_mem _ hb)]
    exact go _ fun y hy => h y (List.mem_cons_of_mem _ ((isrt_perm l).mem_iff.mp hy)) x List.mem_cons_self
/-- what stands in order stays -/
theorem isrt_id (O : SrtO.Swo lt) {l : List α} (h : SrtO.Srtd lt l) : isrt lt l = l := SrtO.stb_uniq O (isrt_srtd O l) h (isrt_stb O l)
end
theorem swo_of {α : Type} {lt : α → α → Bool} (L : Lin lt) : SrtO.Swo lt := by
  refine ⟨fun x y h => L.asy h, fun x y z h1 h2 => ?_⟩
  cases e : lt z x with
  | false => rfl
  | true =>
    cases f : lt x y with
    | true =>
      have := L.tr _ _ _ e f
      rw [h2] at this; cases this
    | false =>
      have := L.tri _ _ f h1
      subst this
      rw [e] at h2; cases h2
theorem swo_by {α β : Type} {lt : α → α → Bool} (O : SrtO.Swo lt) (f : β → α) : SrtO.Swo fun a b => lt (f a) (f b) := ⟨fun x y h => O.asym _ _ h, fun x y z h1 h2 => O.tr _ _ _ h1 h2⟩
end DL
/-! DT9: sorted, of a list of such tuples: the rule. -/
namespace DL
open PySem L2 PyProof.Rows
def keysAre : List Key → List Value → Prop
  | [], [] => True
  | k :: ks, v :: vs => keyIs k v = true ∧ keysAre ks vs
  | _, _ => False
def TupKs (h : Heap) (v : Value) (ks : List Key) : Prop := ∃ a o xs n, v = .ref a ∧ h.get? a = some o ∧ o.cls = .type "tuple" ∧ o.data = .seq xs n ∧ keysAre ks xs.toList
theorem keysAre_uniq : ∀ {ks ls : List Key} {vs : List Value}, keysAre ks vs → keysAre ls vs → ks = ls
  | [], [], [], _, _ => rfl
  | [], _ :: _, [], _, h => h.elim
  | _ :: _, _, [], h, _ => h.elim
  | [], _, _ :: _, h, _ => h.elim
  | _ :: _, [], _ :: _, _, h => h.elim
  | k :: ks, l :: ls, v :: vs, h1, h2 => by
    have e : k = l := by
      rcases keyIs_shape h1.1 with ⟨i, t, rfl, q⟩ | ⟨x, t, rfl, q⟩ <;> rcases keyIs_shape h2.1 with ⟨j, u, rfl, q2⟩ | ⟨y, u, rfl, q2⟩ <;> rw [q] at q2 <;> cases q2 <;> rfl
    rw [e, keysAre_uniq h1.2 h2.2]
theorem keysAre_len : ∀ {ks : List Key} {vs : List Value}, keysAre ks vs → ks.length = vs.length
  | [], [], _ => rfl
  | [], _ :: _, h => h.elim
  | _ :: _, [], h => h.elim
  | _ :: _, _ :: _, h => congrArg (· + 1) (keysAre_len h.2)
theorem TupKs.uniq {h : Heap} {v : Value} {ks ls : List Key} (a : TupKs h v ks) (b : TupKs h v ls) : ks = ls := by
  obtain ⟨p, o, xs, n, rfl, ho, _, hd, ka⟩ := a
  obtain ⟨p', o', xs', n', e, ho', _, hd', kb⟩ := b
  cases e
  rw [ho] at ho'
  cases ho'
  rw [hd] at hd'
  cases hd'
  exact keysAre_uniq ka kb
theorem TupKs.keeps {h h' : Heap} {v : Value} {ks : List Key} (p : TupKs h v ks) (k : ∀ b o, h.get? b = some o → o.cls = .type "tuple" → h'.get? b = some o) : TupKs h' v ks := by
  obtain ⟨a, o, xs, n, e, ho, hc, hd, z⟩ := p
  exact ⟨a, o, xs, n, e, k _ _ ho hc, hc, hd, z⟩
theorem vals_keys : ∀ {ks : List Key} {its : List Value}, Vals (ks.map kV) its → keysAre ks its
  | [], _, h => by cases h; trivial
  | k :: ks, _, h => by
    cases h with
    | cons r t => exact ⟨keyIs_rel r, vals_keys t⟩
section
variable {prog : Program} {w : World} {A : Around} {E : Value → Shared → Prop} {s : Shared}
theorem lex_keys {b : Bool} {Q : Bool → Shared → Prop} : ∀ {ks ls : List Key} {xs ys : List Value} (i : Nat), keysAre ks xs → keysAre ls ys → sameT ks ls = true → Q (lexK ks ls) s → PySem.W.KatLex prog w A b false Q (xs.zip ys) i s
  | [], [], [], [], i, _, _, _, h => PySem.W.kat_nil h
  | [], _, _ :: _, _, _, h, _, _, _ => h.elim
  | _ :: _, _, [], _, _, h, _, _, _ => h.elim
  | _, [], _, _ :: _, _, _, h, _, _ => h.elim
  | _, _ :: _, _, [], _, _, h, _, _ => h.elim
  | _ :: _, [], _ :: _, [], _, _, _, st, _ => by simp [sameT] at st
  | [], _ :: _, [], _ :: _, _, _, _, st, _ => by simp [sameT] at st
  | k :: ks, l :: ls, v :: vs, u :: us, i, h1, h2, st, h => by
    have same : (k = l → sameT ks ls = true) := fun _ => by
      cases k <;> cases l <;> simp only [sameT] at st <;> first | exact st | cases st
    change PySem.W.KatLex prog w A b false Q ((v, u) :: vs.zip us) i s
    rw [lexK] at h
    rcases keyIs_shape h1.1 with ⟨m, t, rfl, rfl⟩ | ⟨m, t, rfl, rfl⟩ <;> rcases keyIs_shape h2.1 with ⟨m', t', rfl, rfl⟩ | ⟨m', t', rfl, rfl⟩
    · refine PySem.W.kat_cons (SeqAt.EqAt.int_int m t m' t' prog w _ _ ?_)
      by_cases e : m = m'
      · subst e
        rw [if_pos rfl] at h
        rw [beq_self_eq_true]
        exact PySem.W.kat_yes (lex_keys (i + 1) h1.2 h2.2 (same rfl) h)
      · rw [if_neg (fun z => e (Sum.inl.inj z))] at h
        rw [beq_eq_false_iff_ne.mpr e]
        refine PySem.W.kat_no ?_
        cases (b && i == 0) with
        | true => exact PyProof.Rows.oneLt_int h
        | false => exact PySem.W.kat_one _ _ (PyProof.Rows.lt_int (Q := PySem.W.BoolBack Q) h)
    · simp [sameT] at st
    · simp [sameT] at st
    · refine PySem.W.kat_cons (SeqAt.EqAt.str_str m t m' t' prog w _ _ ?_)
      by_cases e : m = m'
      · subst e
        rw [if_pos rfl] at h
        rw [beq_self_eq_true]
        exact PySem.W.kat_yes (lex_keys (i + 1) h1.2 h2.2 (same rfl) h)
      · rw [if_neg (fun z => e (Sum.inr.inj z))] at h
        rw [beq_eq_false_iff_ne.mpr e]
        refine PySem.W.kat_no ?_
        cases (b && i == 0) with
        | true => exact PyProof.Rows.oneLt_str h
        | false => exact PySem.W.kat_one _ _ (PySem.P.lt_str (Q := PySem.W.BoolBack Q) h)
theorem sameT_len : ∀ {ks ls : List Key}, sameT ks ls = true → ks.length = ls.length
  | [], [], _ => rfl
  | [], _ :: _, h => by simp [sameT] at h
  | _ :: _, [], h => by simp [sameT] at h
  | k :: ks, l :: ls, h => by
    cases k <;> cases l <;> simp only [sameT] at h <;> first | exact congrArg (· + 1) (sameT_len h) | cases h
theorem keys_cmp {vs : List Value} {k : Value → List Key} (hp : ∀ v ∈ vs, TupKs s.heap v (k v)) (sm : ∀ v ∈ vs, ∀ u ∈ vs, sameT (k v) (k u) = true) : SrtO.Cmp prog w A s (tuples' true) (fun p => p.1 ∈ vs) (SrtO.lt2 fun v u => lexK (k v) (k u)) := by
  intro p q hm hm'
  have h1 := hp _ hm
  have h2 := hp _ hm'
  have st := sm _ hm _ hm'
  change wpAny (model prog w) A (keyLt' (tuples' true) p.1 q.1) (fun r s' => s' = s ∧ r = lexK (k p.1) (k q.1)) (fun _ _ => False) s
  generalize k p.1 = ks at h1 st ⊢
  generalize k q.1 = ls at h2 st ⊢
  obtain ⟨a, o, xs, n, e, ho, hc, hd, ka⟩ := h1
  obtain ⟨a', o', ys, n', e', ho', hc', hd', kb⟩ := h2
  rw [e, e']
  refine PySem.W.kat_lt ho hd ho' hd' ?_
  have hl : ¬ xs.size < ys.size := by
    have l1 := keysAre_len ka
    have l2 := keysAre_len kb
    have l3 := sameT_len st
    have e1 : xs.toList.length = xs.size := Array.length_toList
    have e2 : ys.toList.length = ys.size := Array.length_toList
    omega
  rw [decide_eq_false hl]
  exact lex_keys 0 ka kb st ⟨rfl, rfl⟩
theorem firsts_keys {h : Heap} {k : Value → List Key} : ∀ {vs : List Value}, (∀ v ∈ vs, TupKs h v (k v)) → (∀ v ∈ vs, k v ≠ []) → ∃ fs : List Value, PySem.W.KatTups h vs fs ∧ fs.length = vs.length ∧ ∀ f ∈ fs, ∃ v ∈ vs, ∃ q qs, k v = q :: qs ∧ keyIs q f = true
  | [], _, _ => ⟨[], PySem.W.KatTups.nil, rfl, fun _ hm => by simp at hm⟩
  | v :: vs, hp, hn => by
    obtain ⟨fs, h1, h2, h3⟩ := firsts_keys (vs := vs) (fun u hm => hp u (List.mem_cons_of_mem _ hm)) (fun u hm => hn u (List.mem_cons_of_mem _ hm))
    obtain ⟨a, o, xs, n, e, ho, hc, hd, ka⟩ := hp v List.mem_cons_self
    have hk := hn v List.mem_cons_self
    cases ek : k v with
    | nil => exact absurd ek hk
    | cons q qs =>
      rw [ek] at ka
      cases ex : xs.toList with
      | nil => rw [ex] at ka; exact ka.elim
      | cons f r =>
        rw [ex] at ka
        have e0 : xs[0]? = some f := by rw [← Array.getElem?_toList, ex]; rfl
        refine ⟨f :: fs, e ▸ PySem.W.KatTups.cons ho hc hd e0 h1, by rw [List.length_cons, List.length_cons, h2], fun g hm => ?_⟩
        rcases List.mem_cons.mp hm with rfl | hm
        · exact ⟨v, List.mem_cons_self, q, qs, ek, ka.1⟩
        · obtain ⟨u, hu, z⟩ := h3 g hm
          exact ⟨u, List.mem_cons_of_mem _ hu, z⟩
theorem sameT_head {q : Key} {qs : List Key} {l : List Key} (h : sameT (q :: qs) l = true) : ∃ q2 qs2, l = q2 :: qs2 ∧ q.isLeft = q2.isLeft := by
  cases l with
  | nil => simp [sameT] at h
  | cons q2 qs2 => cases q <;> cases q2 <;> simp [sameT] at h <;> exact ⟨_, _, rfl, rfl⟩
theorem keys_sortable {a : Addr} {vs : List Value} {k : Value → List Key} (h0 : 0 < vs.length) (hp : ∀ v ∈ vs, TupKs s.heap v (k v)) (sm : ∀ v ∈ vs, ∀ u ∈ vs, sameT (k v) (k u) = true) (hn : ∀ v ∈ vs, k v ≠ []) (ha : ∀ o, s.heap.get? a = some o → o.cls ≠ .type "tuple") :
    SrtO.SortableO prog w A s a vs fun v u => lexK (k v) (k u) := by
  intro h' keep
  have hp' : ∀ v ∈ vs, TupKs h' v (k v) := fun v hm => (hp v hm).keeps fun b o e c => keep b o (fun z => by subst z; exact ha o e c) e
  obtain ⟨fs, h1, h2, h3⟩ := firsts_keys hp' hn
  refine ⟨tuples' true, fun Q E hq => ?_, keys_cmp hp' sm⟩
  obtain ⟨v0, hv0⟩ : ∃ v, v ∈ vs := List.exists_mem_of_length_pos h0
  cases e0 : k v0 with
  | nil => exact absurd e0 (hn v0 hv0)
  | cons q0 qs0 =>
    have side : ∀ f ∈ fs, ∃ q, keyIs q f = true ∧ q.isLeft = q0.isLeft := fun f hm => by
      obtain ⟨u, hu, q, qs, e, kq⟩ := h3 f hm
      have z := sm v0 hv0 u hu
      rw [e0, e] at z
      obtain ⟨q2, qs2, e2, b⟩ := sameT_head z
      cases e2
      exact ⟨q, kq, b.symm⟩
    cases q0 with
    | inl i0 =>
      refine PySem.W.kat_kind (T := .type "int") h1 (by omega) (fun f hm => ?_) (by rfl) hq
      obtain ⟨q, kq, b⟩ := side f hm
      rcases keyIs_shape kq with ⟨i, t, rfl, rfl⟩ | ⟨x, t, rfl, rfl⟩
      · exact PySem.W.Looks.now
      · cases b
    | inr x0 =>
      refine PySem.W.kat_kind (T := .type "str") h1 (by omega) (fun f hm => ?_) (by rfl) hq
      obtain ⟨q, kq, b⟩ := side f hm
      rcases keyIs_shape kq with ⟨i, t, rfl, rfl⟩ | ⟨x, t, rfl, rfl⟩
      · cases b
      · exact PySem.W.Looks.now
end
/-! ### the rule -/
abbrev ltF {α : Type} (a b : List Key × α) : Bool := lexK a.1 b.1
def rSortK (K : PySem.W.Frag) : List V → Hp → VK → Prop := fun vs H Q => ∃ (a : Addr) (xs : List (List Key × V)), vs = [.ref a] ∧ SqL K H a (xs.map (·.2)) ∧ (∀ x ∈ xs, ∃ t, x.2 = .ref t ∧ SqT K H t (x.1.map kV)) ∧ (∀ x ∈ xs, ∀ y ∈ xs, sameT x.1 y.1 = true) ∧ (∀ x ∈ xs, x.1 ≠ []) ∧
  ∀ p, H p = none → Q (.ref p) (upd H p (.lst ((isrt ltF xs).map (·.2))))
theorem vals_of {α : Type} {f : α → V} {g : α → Value} : ∀ {l : List α}, (∀ x ∈ l, RelV (f x) (g x)) → Vals (l.map f) (l.map g)
  | [], _ => .nil
  | x :: l, h => .cons (h x List.mem_cons_self) (vals_of fun y hy => h y (List.mem_cons_of_mem _ hy))
theorem vals_zip {α : Type} : ∀ {xs : List (α × V)} {its : List Value}, Vals (xs.map (·.2)) its → (xs.zip its).map (·.2) = its ∧ (xs.zip its).map (·.1) = xs ∧ ∀ z ∈ xs.zip its, RelV z.1.2 z.2
  | [], _, h => by cases h; exact ⟨rfl, rfl, fun z hz => by simp at hz⟩
  | x :: xs, _, h => by
    cases h with
    | cons r t =>
      obtain ⟨e1, e2, e3⟩ := vals_zip t
      refine ⟨by simp [e1], by simp [e2], fun z hz => ?_⟩
      rcases List.mem_cons.mp hz with rfl | hz
      · exact r
      · exact e3 z hz
section
variable {X : Cx}
open Classical in
theorem cr_sortK : CallR X (.builtin "sorted") (rSortK X.K) := by
  intro pins s σ H vs us Q I r h
  obtain ⟨a, xs, rfl, hs, hx, sm, hne, q⟩ := h
  obtain ⟨its, rv, hl, hz⟩ := I.list hs
  obtain ⟨u, rfl, ru⟩ := vals1 r
  obtain rfl : u = Value.ref a := ru
  obtain ⟨e1, e2, e3⟩ := vals_zip rv
  let k : Value → List Key := fun u => if h : ∃ ks, TupKs s.heap u ks then h.choose else []
  have kk : ∀ {u ks}, TupKs s.heap u ks → k u = ks := fun {u ks} h => by
    have z : ∃ ks, TupKs s.heap u ks := ⟨ks, h⟩
    show (if h : ∃ ks, TupKs s.heap u ks then h.choose else []) = ks
    rw [dif_pos z]
    exact z.choose_spec.uniq h
  have tk : ∀ z ∈ xs.zip its, TupKs s.heap z.2 z.1.1 := fun z hz => by
    obtain ⟨t, et, st⟩ := hx z.1 (by rw [← e2]; exact List.mem_map.mpr ⟨z, hz, rfl⟩)
    have rz := e3 z hz
    rw [et] at rz
    have er : z.2 = Value.ref t := rz
    obtain ⟨ts, rt, ⟨o, ho, hc, n, hd⟩, _⟩ := I.tuple st
    exact ⟨t, o, _, n, er, ho, hc, hd, vals_keys rt⟩
  have kz : ∀ z ∈ xs.zip its, k z.2 = z.1.1 := fun z hz => kk (tk z hz)
  have back : ∀ v ∈ its, ∃ z ∈ xs.zip its, z.2 = v := fun v hv => by
    rw [← e1] at hv
    exact List.mem_map.mp hv
  have mx : ∀ z ∈ xs.zip its, z.1 ∈ xs := fun z hz => by rw [← e2]; exact List.mem_map.mpr ⟨z, hz, rfl⟩
  have hp : ∀ v ∈ its, TupKs s.heap v (k v) := fun v hv => by
    obtain ⟨z, hz, rfl⟩ := back v hv
    rw [kz z hz]; exact tk z hz
  have hsm : ∀ v ∈ its, ∀ u ∈ its, sameT (k v) (k u) = true := fun v hv u hu => by
    obtain ⟨z, hz, rfl⟩ := back v hv
    obtain ⟨y, hy, rfl⟩ := back u hu
    rw [kz z hz, kz y hy]; exact sm _ (mx z hz) _ (mx y hy)
  have hn : ∀ v ∈ its, k v ≠ [] := fun v hv => by
    obtain ⟨z, hz, rfl⟩ := back v hv
    rw [kz z hz]; exact hne _ (mx z hz)
  have O : SrtO.Swo fun v u => lexK (k v) (k u) := swo_by (swo_of linK) k
  refine SrtO.sorted_ord O hl.isList (by rw [← rv.length]; exact hz) (fun h2 h1 a' ha keep => ?_) fun out o1 o2 => ?_
  · refine keys_sortable (s := { s with heap := h1 }) (by omega) (fun v hv => (hp v hv).keeps fun b o e _ => (keep b o e).2) hsm hn fun o e => ?_
    have e' : some o = some (seqObj "list" its.toArray 0) := e.symm.trans ha
    cases e'
    intro c
    exact absurd (Value.type.inj c) (by decide)
  · have eo : out = (isrt (fun (x y : (List Key × V) × Value) => ltF x.1 y.1) (xs.zip its)).map (·.2) := by
      have c1 : isrt (fun (x y : (List Key × V) × Value) => ltF x.1 y.1) (xs.zip its) = isrt (fun x y => lexK (k x.2) (k y.2)) (xs.zip its) := isrt_congr fun x hx y hy => by rw [kz x hx, kz y hy]
      rw [c1, isrt_map (lt := fun v u => lexK (k v) (k u)) (fun z : (List Key × V) × Value => z.2), e1]
      exact SrtO.stb_uniq O o1 (isrt_srtd O its) (o2.trans ⟨(isrt_stb O its).perm.symm, fun z => ((isrt_stb O its).cls z).symm⟩)
    have ev : (isrt ltF xs).map (·.2) = (isrt (fun (x y : (List Key × V) × Value) => ltF x.1 y.1) (xs.zip its)).map (fun z => z.1.2) := by
      have c2 := isrt_map (lt := ltF) (fun z : (List Key × V) × Value => z.1) (xs.zip its)
      rw [e2] at c2
      rw [← c2, List.map_map]
      rfl
    obtain ⟨ep, he'⟩ := PyProof.Rows.sortedAll_at s.heap its out.toArray
    have vv : Vals ((isrt ltF xs).map (·.2)) out := by
      rw [eo, ev]
      exact vals_of fun z hz => e3 z ((isrt_perm _).mem_iff.mp hz)
    have hlen : ((isrt ltF xs).map (·.2)).length ≤ sizeLine := by
      rw [List.length_map, (isrt_perm xs).length_eq]
      rw [List.length_map] at hz
      exact hz
    exact ⟨.ref _, upd H (s.heap.objs.size + 1) (.lst ((isrt ltF xs).map (·.2))), I.laid (t' := s.toks) (fun _ _ => PyProof.Rows.sortedAll_old) (Nat.le_succ _) ⟨hlen, out, ep, vv, he'⟩, rfl, q _ (I.hok.fresh (Nat.le_succ _))⟩
end
end DL
/-! DU1: len of things with their own len; l.reverse(); any; sorted tuples; text * n. -/
namespace DL
open PySem L2 PyProof.Rows
section
variable {prog : Program} {w : World} {A : Around} {E : Value → Shared → Prop} {s : Shared} {K : PySem.W.Frag} {x C f : Addr} {ox : Obj} {od : Option Obj} {name : Str}
theorem special_K {M : Model} {args : List Value} {Q : Option Value → Shared → Prop} (X : K.In s.heap) (I : PySem.W.InstAt s.heap x ox C od) (hs : PySem.W.findIn K (.ref C) name = some (some (.ref f))) (hf : PySem.W.isFn K (.ref f) = true)
    (h : wpAny M A (call (.ref f) (.ref x :: args)) (fun v => Q (some v)) E s) : wpAny M A (callSpecial? (.ref x) name args) Q E s := by
  unfold callSpecial?
  refine wpAny_bind ?_
  unfold specialOf
  refine wpAny_bind (I.type.here ((PySem.W.looks_findIn X hs).here (wpAny_holding (wpAny_bind ((PySem.W.bind_fn X _ (beq_iff_eq.mp hf)).here ?_)))))
  exact wpAny_bind (wpAny_mono h (fun v s' h' => wpAny_pure h') fun _ _ h' => h')
theorem len_K {Q : Value → Shared → Prop} (X : K.In s.heap) (I : PySem.W.InstAt s.heap x ox C od) (hs : PySem.W.findIn K (.ref C) (Str.ofString "__len__") = some (some (.ref f))) (hf : PySem.W.isFn K (.ref f) = true)
    (h : wpAny (model prog w) A.in1 (call (.ref f) [.ref x]) (fun v s' => ∃ n u, v = .int n u ∧ 0 ≤ n ∧ n < 2 ^ 63 ∧ Q (.int n s'.toks) { s' with toks := s'.toks + 1 }) E s) : wpAny (model prog w) A (call (.builtin "len") [.ref x]) Q E s := by
  refine Calls.call_function_entry kind_len plain_len entry_len (args_len1 _) ?_
  unfold Builtin.«len»
  refine wpAny_bind (m := oneArg "len" _) (wpAny_pure ?_)
  refine wpAny_bind (m := callSpecial? (.ref x) (Str.ofString "__len__")) (special_K X I hs hf (wpAny_mono h (fun r s' hr => ?_) fun _ _ y => y))
  obtain ⟨n, u, rfl, h0, h1, hq⟩ := hr
  refine wpAny_bind (wpAny_holding (wpAny_pure (wpAny_bind (wpAny_letGo ?_))))
  change wpAny _ _ (if n < 0 then _ else _) _ _ _
  rw [if_neg (by omega)]
  change wpAny _ _ (if n ≥ 2 ^ 63 then _ else _) _ _ _
  rw [if_neg (by omega)]
  exact wpAny_bind (wpAny_mkInt (wpAny_pure ⟨_, rfl, hq⟩))
end
structure LenC (K : PySem.W.Frag) (C f : Addr) : Prop where
  at_ : PySem.W.findIn K (.ref C) "__len__" = some (some (.ref f))
  fn : PySem.W.isFn K (.ref f) = true
def rLenI (K : PySem.W.Frag) (C : Addr) (G : MF) : List V → Hp → VK → Prop := fun vs H Q => ∃ a dx fs, vs = [.ref a] ∧ H a = some (.ins C dx fs) ∧ rFn K 1 G [.ref a] H fun v H' => ∃ n, v = .int n ∧ 0 ≤ n ∧ n < 2 ^ 63 ∧ Q (.int n) H'
def gLenI (C : Addr) (G : MF) : MR := fun ds S => match ds with
  | [d] => (viewI S d).bind fun w => if w.1 = C then (G [d] S).bind fun r => match r.1 with
    | .int n => if 0 ≤ n ∧ n < 2 ^ 63 then some (.int n, r.2) else none
    | _ => none else none
  | _ => none
section
variable {X : Cx} {K : PySem.W.Frag} {C f : Addr} {fd : FuncData} {ps : List Str} {G : MF} {k : Nat} {a b : Expr} {ta tb : TE} {ma mb : ME} {pos : Pos}
theorem call_lenI (N : LenC X.K C f) (Fn : FnG X.prog X.w X.K X.mg X.base k f fd ps 1 G) (hr : Room (k + 1) X.A) (hgd : X.A.guards = some []) (hb : Binds X.K fd ps []) : CallR X (.builtin "len") (rLenI X.K C G) := by
  intro pins s σ H xs us Q I r h
  obtain ⟨a, dx, fs, rfl, hx, h⟩ := h
  obtain ⟨u, rfl, ru⟩ := vals1 r
  obtain rfl : u = Value.ref a := ru
  obtain ⟨mA, J, _⟩ := ins_get I.hok hx
  obtain ⟨od, J, _⟩ := J.look
  refine len_K I.kIn J N.at_ N.fn ?_
  have e0 : Env0 X.prog X.w X.K X.mg X.base X.A.in1 X.stack s H := by
    have e := I.env0
    exact ⟨e.frames, e.mod, e.bs, e.bsz, e.funs, e.frf, e.hok, e.bare⟩
  have bb := hb s [.ref a] I.kIn (by have := rFn_len h; rw [Fn.ar]; rfl)
  rw [List.append_nil] at bb
  refine wpAny_call (codeAny_mono (Fn.go X.A.in1 X.stack s H ⟨[.ref a], []⟩ [.ref a] [.ref a] _ hr.in1 hgd e0 bb (.cons rfl .nil) h) fun r s' hq => ?_)
  cases r with
  | error e => exact hq.elim
  | ok fl =>
    cases fl with
    | ret w =>
      obtain ⟨z, H', I', rz, n, ez, n0, n1, q⟩ := I.after hq
      subst ez
      obtain ⟨t, rfl⟩ : ∃ t, w = Value.int n t := rz
      exact ⟨n, t, rfl, n0, n1, ⟨.int n, H', I'.kept (t' := s'.toks + 1) (fun b o e => e), ⟨_, rfl⟩, q⟩⟩
    | _ => exact hq.elim
theorem rc_lenI : RCD K (rLenI K C G) (gLenI C G) := by
  intro F f S H vs ds d S' hh r e Q q
  unfold gLenI at e
  split at e
  · rename_i d1
    obtain ⟨⟨C1, k1, d2⟩, e1, e⟩ := bind_some' e
    by_cases hc : C1 = C
    · rw [if_pos hc] at e
      obtain ⟨⟨y, S1⟩, e3, e⟩ := bind_some' e
      cases y <;> try (cases e; done)
      rename_i n
      simp only at e
      by_cases hn : 0 ≤ n ∧ n < 2 ^ 63
      · rw [if_pos hn] at e
        cases e
        subst hc
        obtain ⟨v, rfl, i1⟩ := all1 r
        obtain ⟨a, da, ka, rfl, ha, _, _⟩ := viewI_ok hh i1 e1
        refine ⟨a, da, ka, rfl, ha, ⟨F, f, S, [d1], .int n, _, hh, .cons i1 .nil, rfl, e3, fun v H' F' f' x' h' i' => ?_⟩⟩
        have := is_int i'
        subst this
        exact ⟨n, rfl, hn.1, hn.2, q _ H' F' f' x' h' (.int _)⟩
      · rw [if_neg hn] at e
        cases e
    · rw [if_neg hc] at e
      cases e
  · cases e
end
/-! ### l.reverse() -/
def gReverse : MM := fun o ds S => match o, ds with
  | .loc n, [] => match S[n]? with
    | some (.lst xs) => some (.non, S.set n (.lst xs.reverse))
    | _ => none
  | _, _ => none
theorem rm_reverse {K : PySem.W.Frag} : RM K rReverse gReverse := by
  intro F f S H x vs dx ds d S' hh ix iv e Q q
  unfold gReverse at e
  split at e
  · rename_i n
    split at e
    · rename_i xs es
      cases e
      cases iv
      cases ix with
      | loc ha =>
        rename_i a
        obtain ⟨ws, e1, r1⟩ := hh.ob _ a _ ha es
        have h2 := hh.write (u := .lst ws.reverse) (o' := .lst xs.reverse) ha es (by first | rfl | (intro z; cases z)) ⟨_, rfl, r1.reverse⟩
        exact ⟨a, ws, rfl, rfl, e1, q.now h2 .non⟩
    · cases e
  · cases e
/-! ### any -/
def blsD : List D → Option (List Bool)
  | [] => some []
  | .bl b :: r => (blsD r).map (b :: ·)
  | _ :: _ => none
theorem blsD_eq : ∀ {ds : List D} {bs : List Bool}, blsD ds = some bs → ds = bs.map .bl
  | [], _, h => by cases h; rfl
  | d :: r, bs, h => by
    cases d <;> simp only [blsD] at h <;> try (cases h; done)
    obtain ⟨cs, e, rfl⟩ := map_some' h
    rw [blsD_eq e]; rfl
theorem isAll_bls {K : PySem.W.Frag} {F : Hp} {f : List Addr} : ∀ {vs : List V} {bs : List Bool}, IsAll K F f vs (bs.map .bl) → vs = bs.map .bl
  | [], [], _ => rfl
  | _, b :: bs, .cons i r => by
    have := is_bl i
    subst this
    rw [isAll_bls r]; rfl
def gAny : MR := fun ds S => match ds with
  | [d] => (viewL S d).bind fun es => (blsD es).map fun bs => (.bl (bs.any id), S)
  | _ => none
theorem rc_any {K : PySem.W.Frag} : RCD K (rAny K) gAny := by
  intro F f S H vs ds d S' hh r e Q q
  unfold gAny at e
  split at e
  · rename_i d1
    obtain ⟨es, e1, e⟩ := bind_some' e
    obtain ⟨bs, e2, e⟩ := map_some' e
    cases e
    obtain ⟨v, rfl, i1⟩ := all1 r
    obtain ⟨a, ws, rfl, ha, rr⟩ := viewL_ok hh i1 e1
    have := blsD_eq e2
    subst this
    have := isAll_bls rr
    subst this
    exact ⟨a, bs, rfl, ha, q.now hh (.bl _)⟩
  · cases e
theorem bt_any : bootBuiltins "any" = some (.builtin "any") := by decide +kernel
/-! ### sorted, of tuples -/
def keysOf : List D → Option (List Key)
  | [] => some []
  | d :: r => (toKey d).bind fun k => (keysOf r).map (k :: ·)
def keyed : List D → Option (List (List Key × D))
  | [] => some []
  | .tup es :: r => (keysOf es).bind fun ks => (keyed r).map ((ks, .tup es) :: ·)
  | _ :: _ => none
def gSortK : MR := fun ds S => match ds with
  | [d] => (viewL S d).bind fun es => (keyed es).bind fun kds => if (kds.all fun x => !x.1.isEmpty && kds.all fun y => sameT x.1 y.1) = true then some (.lst ((isrt ltF kds).map (·.2)), S) else none
  | _ => none
theorem keysOf_ok {K : PySem.W.Frag} {F : Hp} {f : List Addr} : ∀ {vs : List V} {es : List D} {ks : List Key}, IsAll K F f vs es → keysOf es = some ks → vs = ks.map kV
  | _, _, _, .nil, h => by cases h; rfl
  | _, _, _, .cons i r, h => by
    obtain ⟨k, e1, h⟩ := bind_some' h
    obtain ⟨ls, e2, rfl⟩ := map_some' h
    rw [key_ok i e1, keysOf_ok r e2]; rfl
theorem keyed_ok {K : PySem.W.Frag} {F : Hp} {f : List Addr} : ∀ {vs : List V} {es : List D} {kds : List (List Key × D)}, IsAll K F f vs es → keyed es = some kds → ∃ T : List (List Key × V × D), T.map (fun t => (t.1, t.2.2)) = kds ∧ T.map (fun t => t.2.1) = vs ∧ ∀ t ∈ T, Is K F f t.2.1 t.2.2 ∧ ∃ a, t.2.1 = .ref a ∧ SqT K F a (t.1.map kV)
  | _, _, _, .nil, h => by cases h; exact ⟨[], rfl, rfl, fun t ht => by simp at ht⟩
  | _, _, _, .cons (v := v) (d := d) i r, h => by
    cases d <;> simp only [keyed] at h <;> try (cases h; done)
    rename_i es
    obtain ⟨ks, e1, h⟩ := bind_some' h
    obtain ⟨ls, e2, rfl⟩ := map_some' h
    obtain ⟨T, t1, t2, t3⟩ := keyed_ok r e2
    refine ⟨(ks, v, .tup es) :: T, by simp [t1], by simp [t2], fun t ht => ?_⟩
    rcases List.mem_cons.mp ht with rfl | ht
    · refine ⟨i, ?_⟩
      cases i with
      | tup hs hr =>
        have := keysOf_ok hr e1
        subst this
        exact ⟨_, rfl, SqT.of hs⟩
    · exact t3 t ht
theorem isAll_map2 {K : PySem.W.Frag} {F : Hp} {f : List Addr} {α : Type} {g : α → V} {h : α → D} : ∀ {l : List α}, (∀ x ∈ l, Is K F f (g x) (h x)) → IsAll K F f (l.map g) (l.map h)
  | [], _ => .nil
  | x :: l, q => .cons (q x List.mem_cons_self) (isAll_map2 fun y hy => q y (List.mem_cons_of_mem _ hy))
theorem rc_sortK {K : PySem.W.Frag} : RCD K (rSortK K) gSortK := by
  intro F f S H vs ds d S' hh r e Q q
  unfold gSortK at e
  split at e
  · rename_i d1
    obtain ⟨es, e1, e⟩ := bind_some' e
    obtain ⟨kds, e2, e⟩ := bind_some' e
    split at e
    · rename_i hc
      cases e
      obtain ⟨v, rfl, i1⟩ := all1 r
      obtain ⟨a, ws, rfl, ha, rr⟩ := viewL_ok hh i1 e1
      obtain ⟨T, t1, t2, t3⟩ := keyed_ok rr e2
      have mem : ∀ t ∈ T, (t.1, t.2.2) ∈ kds := fun t ht => by rw [← t1]; exact List.mem_map.mpr ⟨t, ht, rfl⟩
      rw [List.all_eq_true] at hc
      have m1 := isrt_map (lt := ltF) (fun t : List Key × V × D => ((t.1, t.2.1) : List Key × V)) T
      have m2 := isrt_map (lt := ltF) (fun t : List Key × V × D => ((t.1, t.2.2) : List Key × D)) T
      refine ⟨a, T.map (fun t => (t.1, t.2.1)), rfl, by rw [List.map_map]; exact t2 ▸ ha, fun x hx => ?_, fun x hx y hy => ?_, fun x hx => ?_, fun p hp => ?_⟩
      · obtain ⟨t, ht, rfl⟩ := List.mem_map.mp hx
        obtain ⟨b, eb, sb⟩ := (t3 t ht).2
        exact ⟨b, eb, Evl.ex_t hh.ex sb⟩
      · obtain ⟨t, ht, rfl⟩ := List.mem_map.mp hx
        obtain ⟨u, hu, rfl⟩ := List.mem_map.mp hy
        have z := hc _ (mem t ht)
        rw [Bool.and_eq_true, List.all_eq_true] at z
        exact z.2 _ (mem u hu)
      · obtain ⟨t, ht, rfl⟩ := List.mem_map.mp hx
        have z := hc _ (mem t ht)
        rw [Bool.and_eq_true] at z
        intro en
        have z1 := z.1
        simp only at en z1
        rw [en] at z1
        cases z1
      · have ea : IsAll K F f ((isrt ltF (T.map fun t => ((t.1, t.2.1) : List Key × V))).map (·.2)) ((isrt ltF kds).map (·.2)) := by
          rw [← t1, ← m1, ← m2, List.map_map, List.map_map]
          exact isAll_map2 fun t ht => (t3 t ((isrt_perm _).mem_iff.mp ht)).1
        obtain ⟨h2, x2⟩ := hh.put (o := .lst ((isrt ltF (T.map fun t => ((t.1, t.2.1) : List Key × V))).map (·.2))) hp
        exact q _ _ _ _ x2 h2 (.lst upd_same (ea.mono x2))
    · cases e
  · cases e
/-! ### text * n -/
def gMulS : MO := fun x y S => match x, y with
  | .str z, .int k => if z.length ≤ 1000 ∧ 0 ≤ k ∧ k ≤ 1000 then some (.str (Txt.mul z k), S) else none
  | _, _ => none
def rMulS : R2 := fun x y H Q => ∃ z k, x = .str z ∧ y = .int k ∧ z.length ≤ 1000 ∧ 0 ≤ k ∧ k ≤ 1000 ∧ Q (.str (Txt.mul z k)) H
theorem op_mulS {X : Cx} : OpR X (binaryOp .Mult) rMulS := by
  intro pins s σ H x y v u Q I rx ry h
  obtain ⟨z, k, rfl, rfl, h1, h2, h3, q⟩ := h
  obtain ⟨t, rfl⟩ := rx
  obtain ⟨t2, rfl⟩ := ry
  exact SB.mul (mulOk_of 1000 1000 h1 h3 (by omega) (by decide) (by decide)) fun t' kk => ⟨.str _, H, I.kept (t' := kk) (fun b o e => e), ⟨_, rfl⟩, q⟩
theorem ro_mulS {K : PySem.W.Frag} : RO K rMulS gMulS := by
  intro F f S H x y dx dy d S' hh ix iy e Q q
  unfold gMulS at e
  split at e
  · rename_i z k
    split at e
    · rename_i hc
      cases e
      have := is_str ix
      subst this
      have := is_int iy
      subst this
      exact ⟨z, k, rfl, rfl, hc.1, hc.2.1, hc.2.2, q.now hh (.str _)⟩
    · cases e
  · cases e
section
variable {X : Cx} {K : PySem.W.Frag} {apos cpos pos : Pos} {o a b : Expr} {to ta tb : TE} {mo ma mb : ME}
theorem d_reverse (ho : DE X o to mo) (hbase : attributeBase o "reverse" X.env (eval o X.env) = eval o X.env := by rfl) (hline : (apos.endLine == cpos.line) = true := by rfl) :
    DE X (.Call (.Attribute o "reverse" apos) [] [] cpos) (tBM0 X.K "list" rReverse to) (mBM0 "list" gReverse mo) := ⟨pe_bm0 PySem.F.plainAttrs_list PySem.F.slot_list_reverse PySem.F.type_list_reverse mt_reverse ho.pe hbase hline, se_bm0 rm_reverse ho.se⟩
theorem d_mulS (ha : DE X a ta ma) (hb : DE X b tb mb) : DE X (.BinOp a .Mult b pos) (tOp rMulS ta tb) (mOp gMulS ma mb) := d_op op_mulS ro_mulS ha hb
end
end DL
/-! DU2: x in a dict, in a tuple; d.get(k, z); y = [.. for .. for ..]; tuple(range(n)); calls by keywords. -/
namespace DL
open PySem L2 PyProof.Rows
section
variable {X : Cx} {K : PySem.W.Frag} {pos p apos cpos : Pos} {a b c o : Expr} {ta tb tc td ty tx : TE} {ma mb mc md my mx : ME} {k : Nat}
/-! ### in a list or a tuple of plain values -/
def scalsD : List D → Option (List V)
  | [] => some []
  | d :: r => (toScal d).bind fun v => (scalsD r).map (v :: ·)
theorem scalsD_ok {F : Hp} {f : List Addr} : ∀ {vs ws : List V} {ds : List D}, IsAll K F f vs ds → scalsD ds = some ws → vs = ws
  | _, _, _, .nil, h => by cases h; rfl
  | _, _, _, .cons i r, h => by
    obtain ⟨v, e1, h⟩ := bind_some' h
    obtain ⟨ws, e2, rfl⟩ := map_some' h
    rw [scal_of i e1, scalsD_ok r e2]
theorem flat_scal {d : D} {v : V} (h : toScal d = some v) : flatV v = true := by
  cases d <;> simp only [toScal] at h <;> cases h <;> rfl
theorem flat_scals : ∀ {ds : List D} {ws : List V}, scalsD ds = some ws → ws.all flatV = true
  | [], _, h => by cases h; rfl
  | d :: r, _, h => by
    obtain ⟨v, e1, h⟩ := bind_some' h
    obtain ⟨ws, e2, rfl⟩ := map_some' h
    simp [flat_scal e1, flat_scals e2]
def gInQ (neg : Bool) : MO := fun x y S => (toScal x).bind fun v => (viewS S y).bind fun es => (scalsD es).map fun ws => (.bl (if neg then !inV v ws else inV v ws), S)
theorem ro_inQ {neg : Bool} : RO K (rIn K neg) (gInQ neg) := by
  intro F f S H x y dx dy d S' hh ix iy e Q q
  obtain ⟨v, e1, e⟩ := bind_some' e
  obtain ⟨es, e2, e⟩ := bind_some' e
  obtain ⟨ws, e3, e⟩ := map_some' e
  cases e
  have := scal_of ix e1
  subst this
  obtain ⟨a, zs, rfl, ha, r⟩ := viewS_ok hh iy e2
  have := scalsD_ok r e3
  subst this
  exact ⟨a, zs, rfl, ha, flat_scal e1, flat_scals e3, q.now hh (.bl _)⟩
theorem e_inQ (ha : DE X a ta ma) (hb : DE X b tb mb) (hm : behindInMarks .In b = false := by with_unfolding_all rfl) : DE X (.Compare a [.In] [b] pos) (tOp (rIn X.K false) ta tb) (mOp (gInQ false) ma mb) := d_cmp op_in_seq ro_inQ ha hb hm
theorem t_inQ (ha : DE X a ta ma) (hb : DE X b tb mb) (hm : behindInMarks .In b = false := by with_unfolding_all rfl) : DT X (.Compare a [.In] [b] pos) (tTest (tOp (rIn X.K false) ta tb)) (mTest (mOp (gInQ false) ma mb)) := t_cmp op_in_seq ro_inQ ha hb hm
theorem t_ninQ (ha : DE X a ta ma) (hb : DE X b tb mb) (hm : behindInMarks .NotIn b = false := by with_unfolding_all rfl) : DT X (.Compare a [.NotIn] [b] pos) (tTest (tOp (rIn X.K true) ta tb)) (mTest (mOp (gInQ true) ma mb)) := t_cmp op_notIn_seq ro_inQ ha hb hm
/-! ### in a dict -/
def mInD (my md : ME) : ME := fun E S => (my E S).bind fun p => (md E p.2).bind fun q => (toKey p.1).bind fun kk => (viewD q.2 q.1).map fun w => (.bl (w.1.any fun k => decide (k = kk)), q.2)
theorem valV_mem {kk : Key} : ∀ {kvs : List (Key × V)}, (valV kvs kk).isSome = (kvs.map (·.1)).any fun k => decide (k = kk)
  | [] => rfl
  | kv :: kvs => by
    have ih := valV_mem (kk := kk) (kvs := kvs)
    unfold valV at ih ⊢
    rw [Option.isSome_map] at ih ⊢
    rw [List.map_cons, List.any_cons]
    by_cases e : kv.1 = kk
    · rw [List.find?_cons_of_pos (by simpa using e), decide_eq_true e]; rfl
    · rw [List.find?_cons_of_neg (by simpa using e), decide_eq_false e, ih]; rfl
theorem se_inD (hy : SE K ty my) (hd : SE K td md) : SE K (tDIn ty td) (mInD my md) := by
  intro F f S H σ E d S' A e Q q
  obtain ⟨⟨y, S1⟩, e1, e⟩ := bind_some' e
  obtain ⟨⟨x, S2⟩, e2, e⟩ := bind_some' e
  obtain ⟨kk, e3, e⟩ := bind_some' e
  obtain ⟨⟨ks, ds⟩, e4, e⟩ := map_some' e
  cases e
  refine hy F f S H σ E y S1 A e1 _ fun u H1 F1 f1 x1 h1 i1 => ?_
  refine hd F1 f1 S1 H1 σ E x _ (A.up x1 h1) e2 _ fun v H2 F2 f2 x2 h2 i2 => ?_
  obtain ⟨a, kvs, rfl, ha, rfl, r⟩ := viewD_ok h2 i2 e4
  have := key_ok i1 e3
  subst this
  refine ⟨a, valV kvs kk, rfl, DGet.k ha, ?_⟩
  rw [valV_mem]
  exact (q.ext (x1.trans x2)).now h2 (.bl _)
theorem e_inD (hr : Room k X.A) (hi : DE X a ty my) (ho : DE X b td md) (h1 : behindInMarks .In b = false := by with_unfolding_all rfl) : DE X (.Compare a [.In] [b] pos) (tDIn ty td) (mInD my md) := ⟨pe_cmp (pc_din (hu_of hr) hi.pe ho.pe) h1, se_inD hi.se ho.se⟩
/-! ### d.get(k, z) -/
def mDGet2 (md my mx : ME) : ME := fun E S => (md E S).bind fun p => (viewD p.2 p.1).bind fun _ => (my E p.2).bind fun q => (mx E q.2).bind fun z => (viewD z.2 p.1).bind fun w => (toKey q.1).map fun kk => ((dlook w.1 w.2 kk).getD z.1, z.2)
theorem dlook_none {kvs : List (Key × V)} {ds : List D} {kk : Key} (h : dlook (kvs.map (·.1)) ds kk = none) (hl : kvs.length = ds.length) : valV kvs kk = none := by
  induction kvs generalizing ds with
  | nil => rfl
  | cons kv kvs ih =>
    cases ds with
    | nil => simp at hl
    | cons d ds =>
      simp only [List.map_cons, dlook] at h
      by_cases e : kv.1 = kk
      · rw [if_pos e] at h; cases h
      · rw [if_neg e] at h
        have := ih h (by simpa using hl)
        unfold valV at this ⊢
        rw [List.find?_cons_of_neg (by simpa using e)]
        exact this
theorem se_dget2 (hd : SE K td md) (hy : SE K ty my) (hx : SE K tx mx) : SE K (tDGet2 td ty tx) (mDGet2 md my mx) := by
  intro F f S H σ E d S' A e Q q
  obtain ⟨⟨x, S1⟩, e1, e⟩ := bind_some' e
  obtain ⟨⟨k0, d0⟩, e0, e⟩ := bind_some' e
  obtain ⟨⟨y, S2⟩, e2, e⟩ := bind_some' e
  obtain ⟨⟨z, S3⟩, e3, e⟩ := bind_some' e
  obtain ⟨⟨ks, ds⟩, e4, e⟩ := bind_some' e
  obtain ⟨kk, e5, e⟩ := map_some' e
  cases e
  refine hd F f S H σ E x S1 A e1 _ fun v H1 F1 f1 x1 h1 i1 => ?_
  obtain ⟨a0, kv0, rfl, ha0, _, _⟩ := viewD_ok h1 i1 e0
  refine ⟨a0, rfl, .inl ⟨kv0, .inl ha0⟩, ?_⟩
  refine hy F1 f1 S1 H1 σ E y S2 (A.up x1 h1) e2 _ fun u H2 F2 f2 x2 h2 i2 => ?_
  refine hx F2 f2 S2 H2 σ E z _ ((A.up x1 h1).up x2 h2) e3 _ fun t H3 F3 f3 x3 h3 i3 => ?_
  obtain ⟨a, kvs, ea, ha, rfl, r⟩ := viewD_ok h3 (i1.mono (x2.trans x3)) e4
  cases ea
  have := key_ok i2 e5
  subst this
  refine ⟨valV kvs kk, DGet.k ha, ?_⟩
  have w := q.ext ((x1.trans x2).trans x3)
  cases el : dlook (kvs.map (·.1)) ds kk with
  | none =>
    rw [el] at w
    rw [dlook_none el (by have := r.length; simpa using this)]
    exact w.now h3 i3
  | some d1 =>
    rw [el] at w
    obtain ⟨v1, q1, q2⟩ := dlook_ok r el
    rw [q1]
    exact w.now h3 q2
theorem d_dget2 (hr : Room k X.A) (ho : DE X o td md) (hi : DE X a ty my) (hx : DE X b tx mx) (m : M2 X o "get" apos a b cpos := by exact ⟨rfl, rfl, rfl, rfl⟩) : DE X (.Call (.Attribute o "get" apos) [a, b] [] cpos) (tDGet2 td ty tx) (mDGet2 md my mx) := ⟨pe_dget2 (hu_of hr) ho.pe hi.pe hx.pe m, se_dget2 ho.se hi.se hx.se⟩
/-! ### tuple(range(n)) -/
def mTupR (m : ME) : ME := fun E S => (m E S).bind fun p => match p.1 with
  | .int n => if -(2 ^ 62) ≤ n ∧ n ≤ 16777216 then some (.tup (rngD 0 n.toNat), p.2) else none
  | _ => none
theorem rng_all {F : Hp} {f : List Addr} (n : Int) : IsAll K F f (rgV 0 n) (rngD 0 n.toNat) := by
  unfold rgV rngD
  rw [Int.sub_zero]
  generalize List.range n.toNat = l
  induction l with
  | nil => exact .nil
  | cons x l ih => exact .cons (.int _) ih
theorem se_tupR (h : SE K ta ma) : SE K (tTupRg (tRg1 ta)) (mTupR ma) := by
  intro F f S H σ E d S' A e Q q
  obtain ⟨⟨y, S1⟩, e1, e⟩ := bind_some' e
  cases y <;> try (cases e; done)
  rename_i n
  simp only at e
  by_cases hn : -(2 ^ 62) ≤ n ∧ n ≤ 16777216
  · rw [if_pos hn] at e
    cases e
    refine h F f S H σ E _ _ A e1 _ fun v H1 F1 f1 x1 h1 i1 => ⟨n, is_int i1, ?_, fun p hp => ?_⟩
    · refine ⟨by decide, by decide, hn.1, by omega, ?_⟩
      have : (2 : Nat) ^ 24 = 16777216 := by decide
      omega
    · obtain ⟨h2, x2⟩ := h1.put (o := .tup (rgV 0 n)) hp
      exact q _ _ _ _ (x1.trans x2) h2 (.tup upd_same (rng_all n))
  · rw [if_neg hn] at e
    cases e
theorem d_tupR {p2 pos2 : Pos} (hc : X.calm = true) (hg : Gl X "tuple") (hm : X.mg "tuple" = none) (hg2 : Gl X "range") (hm2 : X.mg "range" = none) (ha : DE X a ta ma) (na : starEach [a] X.env = (false, eval a X.env) :: starEach [] X.env := by rfl)
    (nb : starEach [.Call (.Name "range" p2) [a] [] pos2] X.env = (false, eval (.Call (.Name "range" p2) [a] [] pos2) X.env) :: starEach [] X.env := by rfl) : DE X (.Call (.Name "tuple" p) [.Call (.Name "range" p2) [a] [] pos2] [] pos) (tTupRg (tRg1 ta)) (mTupR ma) :=
  ⟨pe_tupRg hc hg hm (prg_1 hg2 hm2 ha.pe na) nb, se_tupR ha.se⟩
end
/-! ### f(x=.., y=..) -/
structure CalK (P : Program) (w : World) (K : PySem.W.Frag) (mg : Str → Option Value) (base : Heap) (x : Str) (k n : Nat) (G : MF) (ks : List Str) (pick : List Nat) : Prop where
  ex : ∃ f fd ps, FnG P w K mg base k f fd ps n G ∧ mg x = some (.ref f) ∧ PySem.W.keepIn K (.ref f) = true ∧ KwB K fd ps ks 0 pick
def mKwC (n nk : Nat) (pick : List Nat) (G : MF) (mk : MA) : ME := fun E S => (mk E S).bind fun q => if q.1.length = nk ∧ (arrange pick q.1).length = n then G (arrange pick q.1) q.2 else none
def tKwC (K : PySem.W.Frag) (n nk : Nat) (pick : List Nat) (G : MF) (tk : TA) : TE := fun σ H Q => tk σ H fun zs H2 => zs.length = nk ∧ rFn K n G (arrange pick zs) H2 Q
section
variable {X : Cx} {K : PySem.W.Frag} {pos p : Pos} {x : Str} {ks : List Str} {kws : List Keyword} {tk : TA} {mk : MA} {k n : Nat} {G : MF} {pick : List Nat}
theorem se_kwc {nk : Nat} (hk : SA K tk mk) : SE K (tKwC K n nk pick G tk) (mKwC n nk pick G mk) := by
  intro F f S H σ E d S' A e Q q
  obtain ⟨⟨es, S2⟩, e2, e⟩ := bind_some' e
  by_cases c : es.length = nk ∧ (arrange pick es).length = n
  · rw [if_pos c] at e
    refine hk F f S H σ E es S2 A e2 _ fun zs H2 F2 f2 x2 h2 i2 => ⟨by rw [i2.length]; exact c.1, ?_⟩
    exact ⟨F2, f2, S2, _, d, S', h2, arrange_all i2 pick, c.2, e, q.ext x2⟩
  · rw [if_neg c] at e
    cases e
theorem d_calK (C : CalK X.prog X.w X.K X.mg X.base x k n G ks pick) (hr : Room k X.A) (hgd : X.A.guards = some []) (hg : Gl X x) (ha : DK X kws tk mk) (hdb : (x == ("__debug__" : Str)) = false := by decide)
    (hall : (backToKw pos (keywordEach kws X.env)).all (·.1.isSome) = true := by rfl) (hks : (backToKw pos (keywordEach kws X.env)).filterMap (·.1) = ks := by rfl)
    (hpl : ((backTo pos (starEach [] X.env)).any (·.1) || (backToKw pos (keywordEach kws X.env)).any (·.1.isNone)) = false := by rfl) :
    DE X (.Call (.Name x p) [] kws pos) (tKwC X.K n ks.length pick G tk) (mKwC n ks.length pick G mk) := by
  obtain ⟨f, fd, ps, Fn, hm, hkp, hb⟩ := C.ex
  refine ⟨⟨fun pins s σ H Q I h => ?_⟩, se_kwc ha.se⟩
  refine wpAny_Call_Name_kw (ld_glob I hg hm ?_ hdb)
  refine PySem.W.callWith_KW0 (first := []) (h₀ := X.base) I.ok.mod.kin hkp hall ?_ hpl
  refine thn (ha.pk.run pos pins s σ H _ I h) fun us s2 post2 => ?_
  obtain ⟨vs, H2, I2, rv, hz, q2⟩ := post2
  have bb := hb.go s2 [] us I2.kIn rfl (by rw [← rv.length]; exact hz)
  rw [hks]
  exact ⟨I2.kIn, g_call Fn hr hgd I2 bb (arrange_vals rv pick) q2⟩
end
end DL
/-! DU3: reversed(a text), enumerate(a text). -/
namespace DL
open PySem L2 PyProof.Rows
theorem norev_str : typeLookup (.type "str") "__reversed__" = pure none := by rw [typeLookup_type, builtinLookup_eq_fast]; kernel_rfl
theorem get_str : typeLookup (.type "str") "__getitem__" = pure (some (.builtin "str.__getitem__")) := by rw [typeLookup_type, builtinLookup_eq_fast]; kernel_rfl
def rsObj (x : Str) (t : Tok) (i : Int) : Obj := { cls := .type "reversed", data := .fields #[.str x t, rawInt i] }
def IsRs (h : Heap) (a : Addr) (x : Str) (t : Tok) (i : Int) : Prop := ∃ o, h.get? a = some o ∧ o.cls = .type "reversed" ∧ o.data = .fields #[.str x t, rawInt i]
theorem IsRs.at {h h' : Heap} {a : Addr} {x : Str} {t : Tok} {i : Int} (r : IsRs h a x t i) (e : ∀ o, h.get? a = some o → h'.get? a = some o) : IsRs h' a x t i := let ⟨o, ho, z⟩ := r; ⟨o, e _ ho, z⟩
section
variable {prog : Program} {w : World} {A : Around} {E : Value → Shared → Prop} {s : Shared} {x : Str} {t : Tok}
theorem code_rs {Q : Value → Shared → Prop} (fit : ¬ (x.length : Int) ≥ 2 ^ 63) (h : Q (.ref s.heap.objs.size) { s with heap := s.heap.push (rsObj x t ((x.length : Int) - 1)), toks := s.toks + 1 + 1 }) :
    codeAny (model prog w) A (.call (.builtin "reversed.__new__") ⟨[.type "reversed", .str x t], []⟩) (wants Q E) s := by
  have ty : s.TypeIs (.str x t) "str" := typeIs_str s x t
  refine codeAny_of_tree ?_
  change wpAny _ A.in1 (do checkBuiltinCall "reversed.__new__" ⟨[.type "reversed", .str x t], []⟩; again (.builtin "reversed.__new__" ⟨[.type "reversed", .str x t], []⟩)) _ _ s
  refine wpAny_bind (wpAny_of_eq (F.newCall_reversed_1 _) (wpAny_pure ⟨plainId_quiet F.plain_reversed_new _, codeAny_builtin F.entry_reversed_new ?_⟩))
  rw [Around.under_plainId F.plain_reversed_new _]
  unfold Builtin.«reversed.__new__»
  refine wpAny_bind (wpAny_of_eq (newClass_reversed _) (wpAny_bind (wpAny_of_eq (a := ()) (by first | rfl | kernel_rfl) (wpAny_bind (wpAny_of_eq (a := ()) (by first | rfl | kernel_rfl) ?_)))))
  try dsimp only
  refine wpAny_bind (wpAny_specialOf ty norev_str (wpAny_bind ?_))
  wp_delta
  refine wpAny_bind (wpAny_isInstance (T := "str") (U := "dict") (b := false) ty PySem.F.sub_str_dict ?_)
  try dsimp only
  try rw [if_neg Bool.false_ne_true]
  try dsimp only
  refine wpAny_bind (wpAny_specialOf ty get_str ?_)
  try dsimp only
  try rw [if_pos (by decide +kernel)]
  refine wpAny_pure ?_
  try dsimp only
  try rw [if_neg (by decide)]
  try dsimp only
  refine wpAny_bind (P.len_str fit (wpAny_bind (wpAny_of_eq (a := some ((x.length : Nat) : Int)) rfl (wpAny_bind ?_))))
  change wpAny _ _ (newObj (.type "reversed") (.fields #[.str x t, rawInt ((x.length : Int) - 1)])) _ _ _
  exact wpAny_newObj_type (wpAny_pure h)
theorem call_rs {Q : Value → Shared → Prop} (fit : ¬ (x.length : Int) ≥ 2 ^ 63) (h : Q (.ref s.heap.objs.size) { s with heap := s.heap.push (rsObj x t ((x.length : Int) - 1)), toks := s.toks + 1 + 1 }) : wpAny (model prog w) A (call (.type "reversed") [.str x t]) Q E s := by
  refine callType_codes (Q₁ := fun o s1 => s1.TypeIs o "reversed" ∧ Q o s1) RT.called_rt (F.typeCall_reversed_1 _) F.entry_object_init (code_rs (A := A.in1) fit ⟨⟨_, Heap.get?_push_size _ rfl, rfl⟩, h⟩) fun o s1 h1 => ?_
  exact ⟨h1.1, F.args_object_init_2 o _, object_init_meets RT.called_rt.init.lookup RT.called_rt.made (by decide) prog w A.in1 _ s1 ⟨h1.1, rfl, h1.2⟩⟩
theorem IsRs.ty {a : Addr} {i : Int} (r : IsRs s.heap a x t i) : s.TypeIs (.ref a) "reversed" := let ⟨o, ho, hc, _⟩ := r; ⟨o, ho, hc⟩
theorem next_rs {it : Addr} {i c : Nat} {Q : Option Value → Shared → Prop} (hit : IsRs s.heap it x t (i : Int)) (hx : x.cps[i]? = some c) (hsz : x.length ≤ sizeLine)
    (fin : ∀ h' tk u, IsRs h' it x t ((i : Int) - 1) → Heap.SameBut it s.heap h' → Q (some (.str ⟨#[c]⟩ u)) { s with heap := h', toks := tk }) : wpAny (model prog w) A (pyNext (.ref it)) Q E s := by
  obtain ⟨o, ho, hc, hd⟩ := id hit
  have hi : i < x.length := (Array.getElem?_eq_some_iff.mp hx).1
  rw [sizeLine_eq] at hsz
  unfold pyNext
  refine wpAny_bind (wpAny_attempt (wpAny_callSpecial?_slot (name := Str.ofString "__next__") hit.ty RT.slot_rt_next (wpAny_call_entry RT.slot_rt_next hit.ty RT.entry_rt_next ?_ (RT.args_rt_next _))))
  unfold Builtin.«reversed.__next__»
  refine wpAny_bind (wpAny_of_eq (a := (Value.ref it, [])) rfl ?_)
  try dsimp only
  refine wpAny_bind (wpAny_field ho hd (x := .str x t) rfl ?_)
  try dsimp only
  refine wpAny_bind (wpAny_field ho hd (x := rawInt (i : Int)) rfl ?_)
  change wpAny _ _ (if (i : Int) < 0 then _ else _) _ _ s
  rw [if_neg (by omega)]
  try dsimp only
  refine wpAny_bind (wpAny_specialOf (typeIs_str s x t) get_str ?_)
  try dsimp only
  try rw [if_neg (by decide)]
  try dsimp only
  refine wpAny_bind (wpAny_mkInt (wpAny_bind (wpAny_attempt ?_)))
  have at_ : (seqIndex? (i : Int) x.length).bind (x.cps[·]?) = some c := by rw [seqIndex_of (by omega) (by omega)]; exact hx
  refine P.getItem_str (s := { s with toks := s.toks + 1 }) (by rw [Bool.or_eq_false_iff]; exact ⟨decide_eq_false (by omega), decide_eq_false (by omega)⟩) at_ ?_
  try dsimp only
  refine wpAny_bind (wpAny_field (s := { s with toks := _ }) ho hd (x := rawInt (i : Int)) rfl ?_)
  try dsimp only
  refine wpAny_bind (wpAny_setField (s := { s with toks := _ }) ho hd (by simp) ?_)
  first
    | refine wpAny_pure ⟨_, rfl, wpAny_pure (fin _ _ _ ?_ (Heap.SameBut.update ..))⟩
    | refine wpAny_bind (wpAny_pure (wpAny_pure ⟨_, rfl, wpAny_pure (fin _ _ _ ?_ (Heap.SameBut.update ..))⟩))
  exact ⟨_, Heap.get?_update_self _ ho (Obj.isFreed_of_fields (Obj.data_mapFields hd _)), (Obj.cls_mapFields ..).trans hc, by rw [Obj.data_mapFields hd]; simp⟩
end
end DL
/-! DU4: loops over them. -/
namespace DL
open PySem L2 PyProof.Rows
section
variable {prog : Program} {w : World} {A : Around} {E : Value → Shared → Prop} {s : Shared} {x : Str} {t : Tok}
theorem end_rs {it : Addr} {Q : Option Value → Shared → Prop} (hh : A.handled = none) (hit : IsRs s.heap it x t (-1)) (fin : ∀ h', Heap.ExtBut it s.heap h' → Q none { s with heap := h' }) : wpAny (model prog w) A (pyNext (.ref it)) Q E s := by
  obtain ⟨o, ho, hc, hd⟩ := id hit
  unfold pyNext
  refine wpAny_bind (wpAny_attempt (wpAny_callSpecial?_slot (name := Str.ofString "__next__") hit.ty RT.slot_rt_next (wpAny_call_entry RT.slot_rt_next hit.ty RT.entry_rt_next ?_ (RT.args_rt_next _))))
  unfold Builtin.«reversed.__next__»
  refine wpAny_bind (wpAny_of_eq (a := (Value.ref it, [])) rfl ?_)
  try dsimp only
  refine wpAny_bind (wpAny_field ho hd (x := .str x t) rfl ?_)
  try dsimp only
  refine wpAny_bind (wpAny_field ho hd (x := rawInt (-1)) rfl ?_)
  change wpAny _ _ (if (-1 : Int) < 0 then _ else _) _ _ s
  rw [if_pos (by decide)]
  try dsimp only
  refine wpAny_bind (wpAny_rule (wpAny_bind ?_))
  wp_delta
  refine wpAny_bind (wpAny_setField ho hd (by simp) ?_)
  have ho2 := Heap.get?_update_self (Obj.mapFields (·.setIfInBounds 1 (rawInt (-1)))) ho (Obj.isFreed_of_fields (Obj.data_mapFields hd _))
  refine wpAny_setField (s := { s with heap := s.heap.update it (Obj.mapFields (·.setIfInBounds 1 (rawInt (-1)))) }) ho2 (Obj.data_mapFields hd _) (by simp) ?_
  try dsimp only
  first
    | change wpAny _ _ (newExc (.type "StopIteration") [] >>= _) _ _ _
    | (refine wpAny_bind ?_; change wpAny _ _ (newExc (.type "StopIteration") [] >>= _) _ _ _)
    | (refine wpAny_bind ?_; wp_delta; change wpAny _ _ (newExc (.type "StopIteration") [] >>= _) _ _ _)
  refine wpAny_bind ?_
  simp only [newExc, newTuple]
  refine wpAny_bind (wpAny_newObj_type ?_ (by size_fits))
  refine wpAny_bind (m := firstArgMember _ _) (wpAny_of_eq (a := Value.none) (by first | rfl | (simp only [firstArgMember]; rfl)) (wpAny_newObj_type ?_ (by size_fits)))
  simp only [raiseNew]
  refine wpAny_bind (wpAny_handled ?_)
  first | rw [show A.in1.handled = none from hh] | rw [hh]
  refine wpAny_bind (wpAny_pure (wpAny_throw ?_))
  refine wpAny_bind ?_
  refine wpAny_isInstance (T := "StopIteration") (b := true) ⟨_, Heap.get?_push_size _ rfl, rfl⟩ isSubtype_stop ?_
  refine wpAny_pure (fin _ ?_)
  refine ((?_ : Heap.ExtBut it s.heap _).push _).push _
  exact fun b ob hb e => (Heap.get?_update_other _ _ (Ne.symm hb)).trans ((Heap.get?_update_other _ _ (Ne.symm hb)).trans e)
theorem iter_rs {it : Addr} {i : Int} {Q : Value → Shared → Prop} (hit : IsRs s.heap it x t i) (h : Q (.ref it) s) : wpAny (model prog w) A (pyIter (.ref it)) Q E s := by
  refine wpAny_pyIter_slot hit.ty RT.slot_rt_iter (wpAny_call_entry RT.slot_rt_iter hit.ty RT.entry_rt_iter ?_ (RT.args_rt_iter _))
  change wpAny _ _ (ret (.ref it)) _ _ s
  exact wpAny_pure ⟨_, rfl, "reversed", _, hit.ty, RT.slot_rt_next.lookup, h⟩
end
def ItRs (x : Str) : It := ⟨fun i _ => i < x.cps.size, fun i H v H' => H' = H ∧ ∃ c, x.cps[x.cps.size - 1 - i]? = some c ∧ v = .str ⟨#[c]⟩, fun i _ => x.cps.size ≤ i⟩
theorem turn_rs {P : Program} {w : World} {K : PySem.W.Frag} {tg : Expr} (it : Addr) (x : Str) (t : Tok) (hz : x.length ≤ sizeLine) : Turn P w K tg (ItRs x) [it] it (fun i h => i ≤ x.cps.size ∧ IsRs h it x t ((x.cps.size : Int) - 1 - (i : Nat))) where
  mem := by simp
  obj := fun i h st b hb => by
    obtain rfl : b = it := by simpa using hb
    obtain ⟨_, o, e, c, d⟩ := st
    exact ⟨o, e, fun v z => by rw [d] at z; cases z⟩
  keep := fun i h h' st k => ⟨st.1, st.2.at fun o e => k it (by simp) o e⟩
  item := by
    intro X hP hw hK hc i pins s σ H E I hf st hg
    subst hP hw hK
    have hin : i < x.cps.size := hg
    obtain ⟨f0, f1, f2, f3, f4, f5⟩ := hf it (by simp)
    obtain ⟨_, hit⟩ := st
    have e1 : (x.cps.size : Int) - 1 - ((i : Nat) : Int) = ((x.cps.size - 1 - i : Nat) : Int) := by omega
    rw [e1] at hit
    have hc2 : x.cps[x.cps.size - 1 - i]? = some x.cps[x.cps.size - 1 - i] := Array.getElem?_eq_getElem (by omega)
    refine next_rs hit hc2 hz fun h' tk u st' sb => ?_
    have e2 : ((x.cps.size - 1 - i : Nat) : Int) - 1 = (x.cps.size : Int) - 1 - ((i + 1 : Nat) : Int) := by omega
    rw [e2] at st'
    have I1 : Inv X pins σ H { s with heap := h', toks := tk } := I.turned (t' := tk) (fun b o hb e => (sb.2 b hb).trans e) f0 f1 f3 f4 f5
    obtain ⟨o, e, c, d⟩ := id st'
    exact ⟨_, rfl, go_of (s := { s with heap := h', toks := tk }) e c d (by decide) ⟨.str ⟨#[x.cps[x.cps.size - 1 - i]]⟩, H, I1, ⟨u, rfl⟩, ⟨rfl, _, hc2, rfl⟩, ⟨hin, st'⟩, fun b hb => (hf b hb).1⟩⟩
  done := by
    intro X hP hw hK hc i pins s σ H E I hf st hg
    subst hP hw hK
    obtain ⟨f0, f1, f2, f3, f4, f5⟩ := hf it (by simp)
    obtain ⟨hin, hit⟩ := st
    have hge : x.cps.size ≤ i := hg
    have e1 : (x.cps.size : Int) - 1 - ((i : Nat) : Int) = -1 := by omega
    rw [e1] at hit
    exact end_rs (I.ok.hd hc) hit fun h' eb => ⟨rfl, I.turned (t' := s.toks) (fun b o hb e => eb b o hb e) f0 f1 f3 f4 f5⟩
  self := fun A i s Q E st h => iter_rs st.2 h
end DL
/-! DU5: as sources of loops. -/
namespace DL
open PySem L2 PyProof.Rows
def iRevS (te : TE) : TI := fun σ H R => te σ H fun v H1 => ∃ x, v = .str x ∧ x.length ≤ 1000000 ∧ R (ItRs x) H1
theorem pi_revS {X : Cx} {tg e : Expr} {te : TE} {p pos : Pos} (hg : Gl X "reversed") (hm : X.mg "reversed" = none) (he : PE X e te) (hs : starEach [e] X.env = (false, eval e X.env) :: starEach [] X.env := by rfl) : PI X tg (.Call (.Name "reversed" p) [e] [] pos) (iRevS te) := by
  refine ⟨fun pins s σ H R I h => ?_⟩
  refine Call_ (ld_blt I hg hm PyProof.Rows.boot_reversed (PyProof.Rows.callWith_type1 (args_cons (thn (he.run pins s σ H _ I h) fun u s1 ⟨v, H1, I1, r1, q1⟩ => args_nil ?_) hs) hs rfl))
  obtain ⟨x, rfl, hz, q⟩ := q1
  obtain ⟨t, rfl⟩ := r1
  have e1 : (x.length : Int) - 1 = (x.cps.size : Int) - 1 - ((0 : Nat) : Int) := by
    have : x.length = x.cps.size := rfl
    rw [this]; simp
  refine call_rs (by omega) (iter_rs (x := x) (t := t) (i := (x.length : Int) - 1) ⟨_, Heap.get?_push_size _ rfl, rfl, rfl⟩ ?_)
  refine pi_one (tk := s1.toks + 1 + 1) I1 _ (turn_rs _ x t (by rw [sizeLine_eq]; omega)) ⟨Nat.zero_le _, ?_⟩ q
  rw [← e1]
  exact ⟨_, Heap.get?_push_size _ rfl, rfl, rfl⟩
def mRevS (m : ME) : MA := fun E S => (m E S).bind fun p => match p.1 with
  | .str x => if x.length ≤ 1000000 then some ((signs x).reverse, p.2) else none
  | _ => none
theorem items_rs {K : PySem.W.Frag} {F : Hp} {f : List Addr} {x : Str} : Items K (ItRs x) F f (signs x).reverse := by
  have len : (signs x).reverse.length = x.cps.size := by rw [List.length_reverse, signs_len]
  refine ⟨fun F2 f2 S2 H2 y hh => by rw [len]; exact Nat.le_refl _, fun i d F2 f2 S2 H2 e y hh => ?_, fun i d F2 f2 S2 H2 v H3 e y hh z => ?_⟩
  · have := (List.getElem?_eq_some_iff.mp e).1
    rw [len] at this
    exact this
  · have hi := (List.getElem?_eq_some_iff.mp e).1
    rw [len] at hi
    obtain ⟨rfl, c, h1, rfl⟩ := z
    rw [List.getElem?_reverse (by rw [signs_len]; exact hi), signs_len] at e
    obtain ⟨c', h2, rfl⟩ := signs_get e
    rw [h1] at h2
    cases h2
    exact ⟨F2, Ext.refl _ _, hh, .str _⟩
section
variable {X : Cx} {K : PySem.W.Frag} {tg e : Expr} {te : TE} {me : ME} {ta : TA} {ma : MA} {p pos tpos : Pos} {elts : List Expr} {kk : Nat}
theorem i_revS (hg : Gl X "reversed") (hm : X.mg "reversed" = none) (he : DE X e te me) (hs : starEach [e] X.env = (false, eval e X.env) :: starEach [] X.env := by rfl) : DI X tg (.Call (.Name "reversed" p) [e] [] pos) (iRevS te) (mRevS me) := by
  refine ⟨pi_revS hg hm he.pe hs, ?_⟩
  intro F f S H σ E ds S' A eq R q
  obtain ⟨⟨d, S1⟩, e1, eq⟩ := bind_some' eq
  cases d <;> try (cases eq; done)
  rename_i x
  simp only at eq
  by_cases hz : x.length ≤ 1000000
  · rw [if_pos hz] at eq
    cases eq
    exact he.se F f S H σ E _ _ A e1 _ fun v H1 F1 f1 x1 h1 i1 => ⟨x, is_str i1, hz, q _ H1 F1 f1 x1 h1 items_rs⟩
  · rw [if_neg hz] at eq
    cases eq
end
/-! ### enumerate(a text) -/
def ItEs (x : Str) : It :=
  ⟨fun i _ => i < x.cps.size, fun i H v H' => ∃ T c, v = .ref T ∧ H T = none ∧ H' = upd H T (.tup [.int (i : Nat), .str ⟨#[c]⟩]) ∧ x.cps[i]? = some c, fun i _ => x.cps.size = i⟩
theorem turn_enumS {P : Program} {w : World} {K : PySem.W.Frag} {elts : List Expr} {kk : Nat} {tpos : Pos} {e it : Addr} {x : Str} {t : Tok} (hei : e ≠ it) :
    Turn P w K (.Tuple elts kk tpos) (ItEs x) [e, it] e (fun i h => (∃ old, IsEnum h e it (0 + (i : Int)) old) ∧ h.IsStrIter it (strIterType x) x t i) where
  mem := List.mem_cons_self
  obj := by
    intro i h st b hb
    obtain ⟨⟨old, h1⟩, ⟨o, h2, _, d2⟩⟩ := st
    simp only [List.mem_cons, List.not_mem_nil, or_false] at hb
    rcases hb with rfl | rfl
    · exact ⟨_, h1, fun v q => nomatch q⟩
    · exact ⟨o, h2, fun v q => by rw [d2] at q; cases q⟩
  keep := by
    intro i h h' st k
    obtain ⟨⟨old, h1⟩, ⟨o, h2, r⟩⟩ := st
    exact ⟨⟨old, k e (by simp) _ h1⟩, ⟨o, k it (by simp) o h2, r⟩⟩
  item := by
    intro X hP hw hK hc i pins s σ H E I hf st hg
    subst hP hw hK
    have hi : i < x.cps.size := hg
    have W := WalksT.enumFrom (prog := X.prog) (w := X.w) (A := X.A) 0 (Draws.text (A := X.A.in1) (I.ok.hd hc) it x t) e hei (by simpa using hei) (by simp)
    refine W.item i s _ _ hi ⟨st.1, st.2⟩ fun T vals h' tk hpt hT hTup hMid hk => ?_
    obtain ⟨t1, x1, ⟨c, u0, hx1, rfl⟩, rfl⟩ := hpt
    refine ⟨_, rfl, W.go elts kk tpos i T { s with heap := h', toks := tk } _ _ hMid fun h'' hst hk2 => ?_⟩
    have hnw := W.apart i T h' hMid
    obtain ⟨oT, hoT, hcT, nT, hdT⟩ := hTup
    have hoT2 := hk2 T oT hnw hoT
    have e0 : (0 : Int) + (i : Int) = ((i : Nat) : Int) := Int.zero_add _
    have new : ObjOk X.prog X.w (upd H T (.tup [.int (i : Nat), .str ⟨#[c]⟩])) h'' T (.tup [.int (i : Nat), .str ⟨#[c]⟩]) :=
      ⟨by show 2 ≤ sizeLine; decide, [.int (0 + (i : Int)) t1, .str ⟨#[c]⟩ u0], .cons (by rw [e0]; exact ⟨_, rfl⟩) (.cons ⟨_, rfl⟩ .nil), ⟨oT, hoT2, hcT, nT, hdT⟩⟩
    have J := I.turnedNew (t' := tk) (ch := [e, it]) (fun b o hb q => hk2 b o hb (hk b o hb q)) hf hT new
    refine ⟨.ref T, _, J, rfl, ⟨T, c, rfl, I.hok.fresh hT, rfl, hx1⟩, ⟨hst.1, hst.2⟩, fun b hb => ?_⟩
    have hne : b ≠ T := by
      have : ∃ o, s.heap.get? b = some o := by
        obtain ⟨⟨old, h1⟩, ⟨o, h2, _⟩⟩ := st
        simp only [List.mem_cons, List.not_mem_nil, or_false] at hb
        rcases hb with rfl | rfl
        · exact ⟨_, h1⟩
        · exact ⟨_, h2⟩
      obtain ⟨o, q⟩ := this
      exact Nat.ne_of_lt (Nat.lt_of_lt_of_le (Heap.lt_size q) hT)
    rw [upd_ne hne]
    exact (hf b hb).1
  done := by
    intro X hP hw hK hc i pins s σ H E I hf st hg
    subst hP hw hK
    have hi : x.cps.size = i := hg
    have W := WalksT.enumFrom (prog := X.prog) (w := X.w) (A := X.A) 0 (Draws.text (A := X.A.in1) (I.ok.hd hc) it x t) e hei (by simpa using hei) (by simp)
    subst hi
    exact W.done s _ _ ⟨st.1, st.2⟩ fun h' tk hk => ⟨rfl, I.turnedL (t' := tk) (ch := [e, it]) (fun b o hb q => hk b o hb q) hf⟩
  self := fun A i s Q E st h => let ⟨⟨_, he⟩, _⟩ := st; wpAny_pyIter_enum he h
def iEnumS (ta : TA) : TI := fun σ H R => ta σ H fun vs H1 => ∃ x, vs = [.str x] ∧ R (ItEs x) H1
theorem pi_enumS {X : Cx} {e : Expr} {ta : TA} {p pos tpos : Pos} {elts : List Expr} {kk : Nat} (hg : Gl X "enumerate") (hm : X.mg "enumerate" = none) (ha : PA X [e] ta) (hs : starEach [e] X.env = [(false, eval e X.env)] := by rfl) :
    PI X (.Tuple elts kk tpos) (.Call (.Name "enumerate" p) [e] [] pos) (iEnumS ta) := by
  refine ⟨fun pins s σ H R I h => Call_ (ld_blt I hg hm boot_enumerate ?_)⟩
  refine PyProof.Rows.callWith_type1 (thn (ha.run pos pins s σ H _ I h) fun us s1 post => ?_) hs rfl
  obtain ⟨vs, H1, I1, rv, x, rfl, q⟩ := post
  cases rv with
  | cons r1 rr =>
    cases rr
    obtain ⟨t, rfl⟩ := r1
    refine call_enumerate_str fun h' he hit hsz hk => wpAny_pyIter_enum he ?_
    have I2 : Inv X pins σ H1 { s1 with heap := h' } := I1.kept (t' := s1.toks) hk
    refine ⟨s1.heap.objs.size + 1, [s1.heap.objs.size + 1, s1.heap.objs.size], _, ItEs x, H1, rfl, I2, turn_enumS (x := x) (t := t) (Nat.succ_ne_self _), ⟨⟨.none, he⟩, hit⟩, fun b hb => ?_, q⟩
    have hle : s1.heap.objs.size ≤ b := by
      simp only [List.mem_cons, List.not_mem_nil, or_false] at hb
      rcases hb with rfl | rfl
      · exact Nat.le_add_right _ _
      · exact Nat.le_refl _
    exact I1.fpOk hle (I1.hok.fresh hle)
def mEnumS (m : MA) : MA := fun E S => (m E S).bind fun p => match p.1 with
  | [.str x] => some (numbered 0 (signs x), p.2)
  | _ => none
theorem items_enumS {K : PySem.W.Frag} {F : Hp} {f : List Addr} {x : Str} : Items K (ItEs x) F f (numbered 0 (signs x)) := by
  refine ⟨fun F2 f2 S2 H2 y hh => by rw [numbered_len, signs_len]; rfl, fun i d F2 f2 S2 H2 e y hh => ?_, fun i d F2 f2 S2 H2 v H3 e y hh z => ?_⟩
  · have := (List.getElem?_eq_some_iff.mp e).1
    rw [numbered_len, signs_len] at this
    exact this
  · obtain ⟨T, c, rfl, hT, rfl, hc⟩ := z
    obtain ⟨d', e1, rfl⟩ := numbered_get 0 _ i d e
    obtain ⟨c', h2, rfl⟩ := signs_get e1
    rw [hc] at h2
    cases h2
    obtain ⟨h4, x4⟩ := hh.put (o := .tup [.int (i : Nat), .str ⟨#[c]⟩]) hT
    refine ⟨_, x4, h4, .tup upd_same (.cons ?_ (.cons (.str _) .nil))⟩
    rw [Nat.zero_add]
    exact .int _
section
variable {X : Cx} {e : Expr} {ta : TA} {ma : MA} {p pos tpos : Pos} {elts : List Expr} {kk : Nat}
theorem i_enumS (hg : Gl X "enumerate") (hm : X.mg "enumerate" = none) (ha : DA X [e] ta ma) (hs : starEach [e] X.env = [(false, eval e X.env)] := by rfl) : DI X (.Tuple elts kk tpos) (.Call (.Name "enumerate" p) [e] [] pos) (iEnumS ta) (mEnumS ma) := by
  refine ⟨pi_enumS hg hm ha.pe hs, ?_⟩
  intro F f S H σ E ds S' A eq R q
  obtain ⟨⟨as, S1⟩, e1, eq⟩ := bind_some' eq
  simp only at eq
  split at eq
  · cases eq
    refine ha.se F f S H σ E _ _ A e1 _ fun vs H1 F1 f1 x1 h1 i1 => ?_
    obtain ⟨v, rfl, i2⟩ := all1 i1
    exact ⟨_, by rw [is_str i2], q _ H1 F1 f1 x1 h1 items_enumS⟩
  · cases eq
end
end DL
/-! DU6: list(d.values()). -/
namespace DL
open PySem L2 PyProof.Rows
def tListVals (te : TE) : TE := fun σ H Q => te σ H fun x H1 => ∃ a kvs, x = .ref a ∧ H1 a = some (.dK kvs) ∧ ∀ p, H1 p = none → Q (.ref p) (upd H1 p (.lst (kvs.map (·.2))))
theorem kv_vals : ∀ {kvs : List (Key × V)} {vs : List (Key × Value)}, KV kvs vs → Vals (kvs.map (·.2)) (vs.map (·.2))
  | _, _, .nil => .nil
  | _, _, .cons h t => .cons h.2 (kv_vals t)
section
variable {X : Cx} {e : Expr} {te : TE} {me : ME} {p apos cpos pos : Pos}
theorem pe_listVals (hc : X.calm = true) (he : PE X e te) (hg : Gl X "list") (hm : X.mg "list" = none) (hbase : attributeBase e "values" X.env (eval e X.env) = eval e X.env := by rfl) (hline : (apos.endLine == cpos.line) = true := by rfl)
    (hs : starEach [.Call (.Attribute e "values" apos) [] [] cpos] X.env = (false, eval (.Call (.Attribute e "values" apos) [] [] cpos) X.env) :: starEach [] X.env := by rfl) :
    PE X (.Call (.Name "list" p) [.Call (.Attribute e "values" apos) [] [] cpos] [] pos) (tListVals te) := by
  refine ⟨fun pins s σ H Q I hq => wpAny_Call_Name_kw (ld_blt I hg hm boot_list (PyProof.Rows.callWith_type1 ?_ hs rfl))⟩
  rw [hs]
  change wpAny _ _ (spliced ((false, eval (.Call (.Attribute e "values" apos) [] [] cpos) X.env) :: backTo pos (starEach [] X.env))) _ _ s
  refine Calls.spliced_cons (wpAny_Call_method (T := "dict") (id := "dict.values") hbase rfl hline F.plainAttrs_dict F.slot_dict_values F.type_dict_values ?_)
  refine thn (he.run pins s σ H _ I hq) fun u s1 post => ?_
  obtain ⟨x, H1, I1, rx, d, kvs, rfl, hd, q⟩ := post
  obtain rfl : u = Value.ref d := rx
  obtain ⟨hz, hs0, vs, kv, hdo⟩ := I1.hok d _ hd
  obtain ⟨ep, hat⟩ := hdo.dictAt
  have lk : kvs.length = vs.length := Paired.length kv
  have I2 : Inv X pins σ H1 { s1 with heap := s1.heap.push { cls := .type "dict_values", data := .fields #[.ref d] } } := I1.kept (t' := s1.toks) fun b ob q => Heap.get?_push_of_some _ q
  refine ⟨hdo.typeIs, hdo.mapOf.noDict, ?_⟩
  change wpAny _ _ (callWith cpos (.builtin "dict.values") [.ref d] [] []) _ X.xe s1
  refine method_meetsIn F.slot_dict_values F.entry_dict_values rfl (PySem.evalArgs_none ⟨rfl, hdo.typeIs, F.args_dict_values_1 _, _, meets_dict_values (mixKind X.prog X.w) d hs0, ⟨vs, hdo⟩, ?_⟩)
  refine Calls.spliced_nil ?_
  refine PySem.W.kdl_call (PySem.W.kdl_values (knd := mixKind X.prog X.w) (kvs := vs) (ep := ep)) (I1.ok.hd hc) ⟨⟨_, Heap.get?_push_size _ rfl, rfl, rfl⟩, hat.push _⟩ (by omega) fun h' tk acc c hk hS hacc => ?_
  have hl : acc.toList.length = vs.length := by rw [Array.length_toList]; exact hacc.1
  have ea : acc.toList = vs.map (·.2) := PySem.W.kdl_vals_eq _ hl fun j v hv => hacc.2 j v (by rw [← Array.getElem?_toList]; exact hv)
  refine ⟨.ref _, upd H1 _ (.lst (kvs.map (·.2))), I2.laid (t' := tk) hk (Nat.le_refl _) ⟨by rw [List.length_map]; omega, acc.toList, c, by rw [ea]; exact kv_vals kv, by rw [Array.toArray_toList]; exact hS⟩, rfl, q _ (I2.hok.fresh (Nat.le_refl _))⟩
def mListVals (m : ME) : ME := fun E S => (m E S).bind fun p => (viewD p.2 p.1).map fun w => (.lst w.2, p.2)
theorem se_listVals {K : PySem.W.Frag} (h : SE K te me) : SE K (tListVals te) (mListVals me) := by
  intro F f S H σ E d S' A e Q q
  obtain ⟨⟨y, S1⟩, e1, e⟩ := bind_some' e
  obtain ⟨⟨ks, ds⟩, e2, e⟩ := map_some' e
  cases e
  refine h F f S H σ E y _ A e1 _ fun v H1 F1 f1 x1 h1 i1 => ?_
  obtain ⟨a, kvs, rfl, ha, rfl, r⟩ := viewD_ok h1 i1 e2
  refine ⟨a, kvs, rfl, ha, fun p hp => ?_⟩
  obtain ⟨h2, x2⟩ := h1.put (o := .lst (kvs.map (·.2))) hp
  exact q _ _ _ _ (x1.trans x2) h2 (.lst upd_same (r.mono x2))
theorem d_listVals (hc : X.calm = true) (hg : Gl X "list") (hm : X.mg "list" = none) (he : DE X e te me) (hbase : attributeBase e "values" X.env (eval e X.env) = eval e X.env := by rfl) (hline : (apos.endLine == cpos.line) = true := by rfl)
    (hs : starEach [.Call (.Attribute e "values" apos) [] [] cpos] X.env = (false, eval (.Call (.Attribute e "values" apos) [] [] cpos) X.env) :: starEach [] X.env := by rfl) :
    DE X (.Call (.Name "list" p) [.Call (.Attribute e "values" apos) [] [] cpos] [] pos) (tListVals te) (mListVals me) := ⟨pe_listVals hc he.pe hg hm hbase hline hs, se_listVals he.se⟩
end
end DL
/-! DU7: for a, b in d.items(), d a thing of the store that stays as it is. -/
namespace DL
open PySem L2 PyProof.Rows
section
variable {K : PySem.W.Frag} {F F1 F' H H' : Hp} {f f' : List Addr} {S S' : Sto} {Z : Addr} {od : Obj} {kvs : List (Key × V)}
theorem lf_of {a : Addr} {u : HO} (h : F a = some u) (n : F Z = some (.frz od (.dK kvs))) (k : u ≠ .frz od (.dK kvs)) : DL.dl F Z a = some u := by
  have : a ≠ Z := fun z => k (Option.some.inj ((h.symm.trans (z ▸ n))))
  unfold DL.dl
  rw [if_neg this]; exact h
theorem lf_rd {a : Addr} {u : HO} (h : Rd F a u) (n : F Z = some (.frz od (.dK kvs))) (k : u ≠ .frz od (.dK kvs)) (k2 : u ≠ .dK kvs) : Rd (DL.dl F Z) a u := by
  rcases h with h | ⟨ob, h⟩
  · exact .inl (lf_of h n k)
  · exact .inr ⟨ob, lf_of h n (fun z => by cases z; exact k2 rfl)⟩
mutual
theorem Is.lf (n : F Z = some (.frz od (.dK kvs))) : ∀ {v : V} {d : D}, Is K F f v d → Is K (DL.dl F Z) f v d
  | _, _, .non => .non
  | _, _, .bl b => .bl b
  | _, _, .int i => .int i
  | _, _, .str s => .str s
  | _, _, .tup h a => .tup (lf_of h n (fun z => by cases z)) (IsAll.lf n a)
  | _, _, .lst h a => .lst (lf_of h n (fun z => by cases z)) (IsAll.lf n a)
  | _, _, .scr h a => .scr (h.elim (fun z => .inl (lf_rd z n (fun z => by cases z) (fun z => by cases z))) .inr) (IsAll.lf n a)
  | _, _, .dic h q a => .dic (lf_of h n (fun z => by cases z)) q (IsAll.lf n a)
  | _, _, .ins h q a => .ins (lf_of h n (fun z => by cases z)) q (IsAll.lf n a)
  | _, _, .loc h => .loc h
  | _, _, .ty n => .ty n
  | _, _, .cls C => .cls C
theorem IsAll.lf (n : F Z = some (.frz od (.dK kvs))) : ∀ {vs : List V} {ds : List D}, IsAll K F f vs ds → IsAll K (DL.dl F Z) f vs ds
  | _, _, .nil => .nil
  | _, _, .cons h t => .cons (Is.lf n h) (IsAll.lf n t)
end
theorem ObjIs.lf (n : F Z = some (.frz od (.dK kvs))) {o : Option HO} : ∀ {u : O}, ObjIs K F f o u → ObjIs K (DL.dl F Z) f o u
  | .lst _, ⟨vs, q, h⟩ => ⟨vs, q, h.lf n⟩
  | .dic _ _, ⟨kvs, q, k, h⟩ => ⟨kvs, q, k, h.lf n⟩
  | .dct _ _, ⟨kvs, q, k, h⟩ => ⟨kvs, q, k, h.lf n⟩
  | .ins _ _ _, ⟨dx, kvs, q, k, h⟩ => ⟨dx, kvs, q, k, h.lf n⟩
  | .dead, _ => trivial
  | .lk _ _, _ => trivial
theorem nd_ne (h : Held K F f S H) {n m : Nat} {a b : Addr} (ha : f[n]? = some a) (hb : f[m]? = some b) (ne : m ≠ n) : b ≠ a := fun e => ne (by
  subst e
  obtain ⟨l1, e1⟩ := List.getElem?_eq_some_iff.mp hb
  obtain ⟨l2, e2⟩ := List.getElem?_eq_some_iff.mp ha
  exact (List.getElem_inj h.nd).mp (e1.trans e2.symm))
/-- locked -/
theorem Held.lock (h : Held K F f S H) {n : Nat} {o : O} (ha : f[n]? = some Z) (hs : S[n]? = some o) (hd : o.live = true) (u : HO) : Held K (upd F Z u) f (S.set n .dead) (upd H Z u) ∧ Ext F f (upd F Z u) f := by
  have fa := h.fr n Z o ha hs hd
  have hn : n < S.length := (List.getElem?_eq_some_iff.mp hs).1
  have x : Ext F f (upd F Z u) f := ⟨Evl.Ex.new fa, List.prefix_rfl⟩
  refine ⟨⟨fun b v e => ?_, by simp [h.len], h.nd, fun m b v h1 h2 nd => ?_, fun b hb => ?_, fun m b v h1 h2 => ?_, fun m b ks ds h1 h2 => ?_⟩, x⟩
  · by_cases hb : b = Z
    · subst hb
      rw [upd_same] at e ⊢
      exact e
    · rw [upd_ne hb] at e ⊢
      exact h.ex _ _ e
  · by_cases hm : m = n
    · subst hm
      rw [List.getElem?_set_self hn] at h2
      cases h2
      cases nd
    · rw [List.getElem?_set_ne (Ne.symm hm)] at h2
      rw [upd_ne (nd_ne h ha h1 hm)]
      exact h.fr m b v h1 h2 nd
  · by_cases e : b = Z
    · subst e
      rw [upd_same]
      exact ⟨u, rfl⟩
    · rw [upd_ne e]
      exact h.so b hb
  · by_cases hm : m = n
    · subst hm
      rw [List.getElem?_set_self hn] at h2
      cases h2
      trivial
    · rw [List.getElem?_set_ne (Ne.symm hm)] at h2
      rw [upd_ne (nd_ne h ha h1 hm)]
      exact (h.ob m b v h1 h2).mono x
  · by_cases hm : m = n
    · subst hm
      rw [List.getElem?_set_self hn] at h2
      cases h2
    · rw [List.getElem?_set_ne (Ne.symm hm)] at h2
      obtain ⟨od, kvs, e1, e2, r⟩ := h.lk m b ks ds h1 h2
      exact ⟨od, kvs, x.ex _ _ e1, e2, r.mono x⟩
/-- unlocked -/
theorem Held.unlock (h : Held K F f S H) {n : Nat} {ks : List Key} {ds : List D} (ha : f[n]? = some Z) (hs : S[n]? = some .dead) (e : F Z = some (.frz od (.dK kvs))) (ek : kvs.map (·.1) = ks) (r : IsAll K (DL.dl F Z) f (kvs.map (·.2)) ds) : Held K (DL.dl F Z) f (S.set n (.dic ks ds)) (upd H Z (.dK kvs)) := by
  have hn : n < S.length := (List.getElem?_eq_some_iff.mp hs).1
  refine ⟨fun b v q => ?_, by simp [h.len], h.nd, fun m b v h1 h2 nd => ?_, fun b hb => ?_, fun m b v h1 h2 => ?_, fun m b ks ds h1 h2 => ?_⟩
  · have ne : b ≠ Z := fun z => by subst z; unfold DL.dl at q; rw [if_pos rfl] at q; cases q
    rw [upd_ne ne]
    exact h.ex _ _ (dl_sub b v q)
  · by_cases hm : m = n
    · subst hm
      rw [ha] at h1
      cases h1
      unfold DL.dl
      exact if_pos rfl
    · rw [List.getElem?_set_ne (Ne.symm hm)] at h2
      have z := h.fr m b v h1 h2 nd
      unfold DL.dl
      split
      · rfl
      · exact z
  · by_cases q : b = Z
    · subst q
      rw [upd_same]
      exact ⟨_, rfl⟩
    · rw [upd_ne q]
      exact h.so b hb
  · by_cases hm : m = n
    · subst hm
      rw [ha] at h1
      cases h1
      rw [List.getElem?_set_self hn] at h2
      cases h2
      rw [upd_same]
      exact ⟨kvs, rfl, ek, r⟩
    · rw [List.getElem?_set_ne (Ne.symm hm)] at h2
      rw [upd_ne (nd_ne h ha h1 hm)]
      exact (h.ob m b v h1 h2).lf e
  · by_cases hm : m = n
    · subst hm
      rw [List.getElem?_set_self hn] at h2
      cases h2
    · rw [List.getElem?_set_ne (Ne.symm hm)] at h2
      obtain ⟨od', kvs', e1, e2, r⟩ := h.lk m b ks ds h1 h2
      exact ⟨od', kvs', lf_of e1 e (fun z => by cases z), e2, r.lf e⟩
end
def kD : Key → D
  | .inl i => .int i
  | .inr x => .str x
def pairsD (ks : List Key) (ds : List D) : List D := List.zipWith (fun k d => D.tup [kD k, d]) ks ds
theorem items_iti {K : PySem.W.Frag} {F : Hp} {f : List Addr} {a : Addr} {o : Obj} {kvs : List (Key × V)} {ds : List D} (h : F a = some (.frz o (.dK kvs))) (r : IsAll K F f (kvs.map (·.2)) ds) : Items K (Iti a o kvs) F f (pairsD (kvs.map (·.1)) ds) := by
  have hl : kvs.length = ds.length := by have := r.length; simpa using this
  have len : (pairsD (kvs.map (·.1)) ds).length = kvs.length := by unfold pairsD; rw [List.length_zipWith, List.length_map, hl, Nat.min_self]
  refine ⟨fun F2 f2 S2 H2 x hh => ⟨hh.ex _ _ (x.ex _ _ h), by rw [len]; exact Nat.le_refl _⟩, fun i d F2 f2 S2 H2 e x hh => ⟨hh.ex _ _ (x.ex _ _ h), ?_⟩, fun i d F2 f2 S2 H2 v H3 e x hh y => ?_⟩
  · have := (List.getElem?_eq_some_iff.mp e).1
    rw [len] at this
    exact this
  · obtain ⟨T, k, v0, e1, rfl, hT, rfl⟩ := y
    unfold pairsD at e
    rw [List.getElem?_zipWith] at e
    have ek : (kvs.map (·.1))[i]? = some k := by rw [List.getElem?_map, e1]; rfl
    rw [ek] at e
    have ev : (kvs.map (·.2))[i]? = some v0 := by rw [List.getElem?_map, e1]; rfl
    cases ed : ds[i]? with
    | none => rw [ed] at e; cases e
    | some d0 =>
      rw [ed] at e
      cases e
      obtain ⟨v1, q1, q2⟩ := r.get ed
      rw [ev] at q1
      cases q1
      obtain ⟨h4, x4⟩ := hh.put (o := .tup [kV k, v0]) hT
      refine ⟨_, x4, h4, .tup upd_same (.cons ?_ (.cons ((q2.mono x).mono x4) .nil))⟩
      cases k with
      | inl i => exact .int i
      | inr z => exact .str z
def mForI (i : Nat) (g : MG) (b : MS) : MS := fun E S => match E.getD i none with
  | some (.loc n) => match S[n]? with
    | some (.dic ks ds) => (forL g b (pairsD ks ds) E (S.set n .dead)).bind fun q => match q.2.2[n]? with
      | some .dead => match q.1 with
        | .nx => some (.nx, q.2.1, q.2.2.set n (.dic ks ds))
        | _ => none
      | _ => none
    | _ => none
  | _ => none
section
variable {X : Cx} {K : PySem.W.Frag} {g : TG} {mg : MG} {tb : TS} {mb : MS} {i : Nat} {pos apos cpos tpos : Pos} {body : List Stmt} {elts : List Expr} {kk : Nat} {e : Expr}
theorem ss_forI (hg : SG K g mg) (hb : SS K tb mb) : SS K (tLock (tFor (iItems (tVar i)) g tb)) (mForI i mg mb) := by
  intro F f S H σ E o E' S' A h D q
  unfold mForI at h
  split at h
  · rename_i n en
    split at h
    · rename_i ks ds es
      obtain ⟨⟨o2, E2, S2⟩, e2, h⟩ := bind_some' h
      simp only at h
      split at h
      · rename_i es2
        split at h
        · cases h
          have en' : E[i]? = some (some (.loc n)) := by
            rw [List.getD_eq_getElem?_getD] at en
            cases ee : E[i]? with
            | none => rw [ee] at en; cases en
            | some z => rw [ee] at en; exact congrArg some en
          obtain ⟨v, hv, iv⟩ := A.env i _ en'
          cases iv with
          | loc ha =>
            rename_i a
            obtain ⟨kvs, e1, rfl, r⟩ := A.held.ob n a _ ha es
            refine ⟨a, .dK kvs, e1, trivial, fun od => ?_⟩
            obtain ⟨h1, x1⟩ := A.held.lock ha es (by first | rfl | (intro z; cases z)) (.frz od (.dK kvs))
            have A1 := A.up x1 h1
            have it : Items K (Iti a od kvs) (upd F a (.frz od (.dK kvs))) f (pairsD (kvs.map (·.1)) ds) := items_iti upd_same (r.mono x1)
            refine ⟨.ref a, hv, a, od, kvs, rfl, upd_same, ?_⟩
            refine ⟨fun i m σ' H' => m = (pairsD (kvs.map (·.1)) ds).length - i ∧ i ≤ (pairsD (kvs.map (·.1)) ds).length ∧ ∃ F' f' S3 E3, Ext (upd F a (.frz od (.dK kvs))) f F' f' ∧ At K F' f' S3 H' σ' E3 ∧ forL mg mb ((pairsD (kvs.map (·.1)) ds).drop i) E3 S3 = some (.nx, E', S2),
              ⟨(pairsD (kvs.map (·.1)) ds).length, by simp, Nat.zero_le _, _, f, _, E, Ext.refl _ _, A1, by simpa using e2⟩, ?_⟩
            rintro i m σ2 H2 ⟨rfl, hil, F2, f2, S3, E3, x2, A2, h2⟩
            rcases Nat.lt_or_ge i (pairsD (kvs.map (·.1)) ds).length with hlt | hge
            · have ed : (pairsD (kvs.map (·.1)) ds)[i]? = some (pairsD (kvs.map (·.1)) ds)[i] := List.getElem?_eq_getElem hlt
              rw [List.drop_eq_getElem_cons hlt] at h2
              simp only [forL] at h2
              obtain ⟨⟨E4, S4⟩, e4, h2⟩ := bind_some' h2
              obtain ⟨⟨o5, E5, S5⟩, e5, h2⟩ := bind_some' h2
              refine .inr ⟨it.go i _ F2 f2 S3 H2 ed x2 A2.held, fun σ5 H5 => ∃ F5 f5 S6 E6, Ext (upd F a (.frz od (.dK kvs))) f F5 f5 ∧ At K F5 f5 S6 H5 σ5 E6 ∧ forL mg mb ((pairsD (kvs.map (·.1)) ds).drop (i + 1)) E6 S6 = some (.nx, E', S2),
                fun σ' H' ⟨F5, f5, S6, E6, y5, A5, h5⟩ => ⟨(pairsD (kvs.map (·.1)) ds).length - (i + 1), by omega, rfl, hlt, F5, f5, S6, E6, y5, A5, h5⟩, fun v H3 y => ?_⟩
              obtain ⟨F3, x3, hh3, i3⟩ := it.yld i _ F2 f2 S3 H2 v H3 ed x2 A2.held y
              refine hg F3 f2 S3 H3 σ2 E3 v _ E4 S4 (A2.up x3 hh3) i3 e4 _ fun σ4 H4 F4 f4 x4 A4 => ?_
              refine hb F4 f4 S4 H4 σ4 E4 o5 E5 S5 A4 e5 _ ?_
              have x14 := (x2.trans x3).trans x4
              cases o5 with
              | nx => exact fun σ5 H5 F5 f5 x5 A5 => ⟨F5, f5, S5, E5, x14.trans x5, A5, h2⟩
              | ct => exact fun σ5 H5 F5 f5 x5 A5 => ⟨F5, f5, S5, E5, x14.trans x5, A5, h2⟩
              | bk =>
                cases h2
                refine fun σ6 H6 F6 f6 x6 A6 => ?_
                have x16 := x14.trans x6
                have eF : F6 a = some (.frz od (.dK kvs)) := x16.ex _ _ upd_same
                refine ⟨A6.held.ex _ _ eF, ?_⟩
                have xx : Ext F f (DL.dl F6 a) f6 := ⟨fun b w eb => by
                  have ne : b ≠ a := fun z => by subst z; rw [A.held.fr n b _ ha es (by first | rfl | (intro z; cases z))] at eb; cases eb
                  unfold DL.dl
                  rw [if_neg ne]
                  exact x16.ex _ _ (by rw [upd_ne ne]; exact eb), x16.pre⟩
                have hu := A6.held.unlock (pre_get x16.pre ha) es2 eF rfl (r.mono xx)
                exact q σ6 _ _ f6 xx ⟨hu, A6.len, fun j d ej => let ⟨w, w1, w2⟩ := A6.env j d ej; ⟨w, w1, w2.lf eF⟩⟩
              | rt d => cases h2
            · have ei : i = (pairsD (kvs.map (·.1)) ds).length := by omega
              subst ei
              rw [List.drop_length] at h2
              simp only [forL] at h2
              cases h2
              refine .inl ⟨it.stop F2 f2 _ H2 x2 A2.held, ?_⟩
              have eF : F2 a = some (.frz od (.dK kvs)) := x2.ex _ _ upd_same
              refine ⟨A2.held.ex _ _ eF, ?_⟩
              have xx : Ext F f (DL.dl F2 a) f2 := ⟨fun b w eb => by
                have ne : b ≠ a := fun z => by subst z; rw [A.held.fr n b _ ha es (by first | rfl | (intro z; cases z))] at eb; cases eb
                unfold DL.dl
                rw [if_neg ne]
                exact x2.ex _ _ (by rw [upd_ne ne]; exact eb), x2.pre⟩
              have hu := A2.held.unlock (pre_get x2.pre ha) es2 eF rfl (r.mono xx)
              exact q σ2 _ _ f2 xx ⟨hu, A2.len, fun j d ej => let ⟨w, w1, w2⟩ := A2.env j d ej; ⟨w, w1, w2.lf eF⟩⟩
        · cases h
      · cases h
    · cases h
  · cases h
theorem s_forI {x : Str} {xpos : Pos} (hp : PassesOwn (model X.prog X.w) X.A X.env X.xe) (hc : X.calm = true) (hv : DE X (.Name x xpos) (tVar i) (mVar i)) (hg : DG X (.Tuple elts kk tpos) g mg) (hb : DB X body tb mb)
    (hbase : attributeBase (.Name x xpos) "items" X.env (eval (.Name x xpos) X.env) = eval (.Name x xpos) X.env := by rfl) (hline : (apos.endLine == cpos.line) = true := by rfl) (hs : ∀ z, foldedSetIterable (.Call (.Attribute (.Name x xpos) "items" apos) [] [] cpos) X.env z = pure z := by intro _; rfl) :
    DS X (.For (.Tuple elts kk tpos) (.Call (.Attribute (.Name x xpos) "items" apos) [] [] cpos) body [] pos) (tLock (tFor (iItems (tVar i)) g tb)) (mForI i mg mb) := ⟨ps_lock (ps_for hp hc (pi_items hv.pe hbase hline) hg.pg hb.ps hs), ss_forI hg.sg hb.ss⟩
end
end DL
/-! DU8: y = [.. for .. for ..]; sum of whole numbers; repr of a list whose items may change. -/
namespace DL
open PySem L2 PyProof.Rows
section
variable {X : Cx} {pos : Pos} {wi : TI} {mi mi1 : MA} {mg mg1 : MG} {mt mt1 : MT} {me : ME} {elt tg iter t1 i1 : Expr} {ifs ifs1 : List Expr} {scope : Scope} {own : List (Str × Nat)} {vs1 : List Nat} {g' g1' : At5 TG} {tt' tt1' : At5 TT} {te' : At5 TE} {wi1' : At5 TI}
theorem f_setLc2 {i : Nat} {y : Str} {py spos : Pos} (hc : X.calm = true) (hN : X.N.Nodup) (hy : X.N[i]? = some y) (hyl : X.env.scope.names.lookup y = some .local) (hsw : swapsWith (.ListComp elt [⟨tg, iter, ifs, 0⟩, ⟨t1, i1, ifs1, 0⟩] scope pos) (some (.Name y py)) spos.line X.env = pure true)
    (hi : DI X tg iter wi mi) (ok : BlkOk X.N X.env.scope scope own) (hv : ∀ i ∈ vs1, i ∈ own.map (·.2))
    (hg : ∀ (s : Shared) (H : Hp) (C : Addr) (cl : List (Str × Addr)) (fp : List Addr), DGw (X.blk s H scope (compEnvC scope cl C X.env) fp) (own.map (·.2)) tg (g' s H C cl fp) mg)
    (ht : ∀ (s : Shared) (H : Hp) (C : Addr) (cl : List (Str × Addr)) (fp : List Addr), DTs (X.blk s H scope (compEnvC scope cl C X.env) fp) ifs (tt' s H C cl fp) mt)
    (hi1 : ∀ (s : Shared) (H : Hp) (C : Addr) (cl : List (Str × Addr)) (fp : List Addr), DI (X.blk s H scope (compEnvC scope cl C X.env) fp) t1 i1 (wi1' s H C cl fp) mi1)
    (hg1 : ∀ (s : Shared) (H : Hp) (C : Addr) (cl : List (Str × Addr)) (fp : List Addr), DGw (X.blk s H scope (compEnvC scope cl C X.env) fp) vs1 t1 (g1' s H C cl fp) mg1)
    (ht1 : ∀ (s : Shared) (H : Hp) (C : Addr) (cl : List (Str × Addr)) (fp : List Addr), DTs (X.blk s H scope (compEnvC scope cl C X.env) fp) ifs1 (tt1' s H C cl fp) mt1)
    (he : ∀ (s : Shared) (H : Hp) (C : Addr) (cl : List (Str × Addr)) (fp : List Addr), DE (X.blk s H scope (compEnvC scope cl C X.env) fp) elt (te' s H C cl fp) me)
    (eg : ∀ s H C cl fp, g' s H C cl fp = g' X.s_0 X.H_0 0 [] [] := by intros; rfl) (et : ∀ s H C cl fp, tt' s H C cl fp = tt' X.s_0 X.H_0 0 [] [] := by intros; rfl) (ei : ∀ s H C cl fp, wi1' s H C cl fp = wi1' X.s_0 X.H_0 0 [] [] := by intros; rfl)
    (eg1 : ∀ s H C cl fp, g1' s H C cl fp = g1' X.s_0 X.H_0 0 [] [] := by intros; rfl) (et1 : ∀ s H C cl fp, tt1' s H C cl fp = tt1' X.s_0 X.H_0 0 [] [] := by intros; rfl) (ee : ∀ s H C cl fp, te' s H C cl fp = te' X.s_0 X.H_0 0 [] [] := by intros; rfl)
    (fold : ∀ x, foldedSetIterable iter X.env x = pure x := by intro _; rfl) (fold1 : ∀ env x, foldedSetIterable i1 env x = pure x := by intro _ _; rfl) :
    DS X (.Assign [.Name y py] (.ListComp elt [⟨tg, iter, ifs, 0⟩, ⟨t1, i1, ifs1, 0⟩] scope pos) spos) (tAsg (tLc2 wi (g' X.s_0 X.H_0 0 [] []) (tt' X.s_0 X.H_0 0 [] []) (wi1' X.s_0 X.H_0 0 [] []) (g1' X.s_0 X.H_0 0 [] []) (tt1' X.s_0 X.H_0 0 [] []) (te' X.s_0 X.H_0 0 [] []) (own.map (·.2)) vs1) (gName i)) (mAsg (mComp2 mi mg mt mi1 mg1 mt1 me (own.map (·.2)) vs1) (mgName i)) := by
  have hg2 := fun s H C cl fp => eg s H C cl fp ▸ hg s H C cl fp
  have ht2 := fun s H C cl fp => et s H C cl fp ▸ ht s H C cl fp
  have hi2 := fun s H C cl fp => ei s H C cl fp ▸ hi1 s H C cl fp
  have hg3 := fun s H C cl fp => eg1 s H C cl fp ▸ hg1 s H C cl fp
  have ht3 := fun s H C cl fp => et1 s H C cl fp ▸ ht1 s H C cl fp
  have he2 := fun s H C cl fp => ee s H C cl fp ▸ he s H C cl fp
  exact ⟨ps_setLc2 hc hN hy hyl hsw hi.pi ok hv (fun s H C cl fp => (hg2 s H C cl fp).pg) (fun s H C cl fp => (ht2 s H C cl fp).pt) (fun s H C cl fp => (hi2 s H C cl fp).pi) (fun s H C cl fp => (hg3 s H C cl fp).pg) (fun s H C cl fp => (ht3 s H C cl fp).pt) (fun s H C cl fp => (he2 s H C cl fp).pe) fold fold1,
    ss_asg (se_comp2 hi.si (hg2 X.s_0 X.H_0 0 [] []).sg (ht2 X.s_0 X.H_0 0 [] []).se (hi2 X.s_0 X.H_0 0 [] []).si (hg3 X.s_0 X.H_0 0 [] []).sg (ht3 X.s_0 X.H_0 0 [] []).se (he2 X.s_0 X.H_0 0 [] []).se) (sg_name i)⟩
end
def gSum1 : MR := fun ds S => match ds with
  | [d] => (viewL S d).bind fun es => (intsD es).map fun ns => (.int ns.sum, S)
  | _ => none
theorem rc_sum1 {K : PySem.W.Frag} : RCD K (rSum K) gSum1 := by
  intro F f S H vs ds d S' hh r e Q q
  unfold gSum1 at e
  split at e
  · rename_i d1
    obtain ⟨es, e1, e⟩ := bind_some' e
    obtain ⟨ns, e2, e⟩ := map_some' e
    cases e
    obtain ⟨v, rfl, i1⟩ := all1 r
    obtain ⟨a, ws, rfl, ha, rr⟩ := viewL_ok hh i1 e1
    have := intsD_eq e2
    subst this
    have := isAll_ints rr
    subst this
    exact ⟨a, ns, rfl, ha, q.now hh (.int _)⟩
  · cases e
/-! ### repr([x, l]), l a list that may change -/
def toPSs (S : Sto) : List D → Option (List PyData)
  | [] => some []
  | d :: r => (toPS S d).bind fun p => (toPSs S r).map (p :: ·)
theorem IsAll.dpS {K : PySem.W.Frag} {F H : Hp} {f : List Addr} {S : Sto} (h : Held K F f S H) : ∀ {vs : List V} {ds : List D} {ps : List PyData}, IsAll K F f vs ds → toPSs S ds = some ps → DpAll K H vs ps
  | _, _, _, .nil, e => by cases e; exact .nil
  | _, _, _, .cons a r, e => by
    obtain ⟨p, e1, e⟩ := bind_some' e
    obtain ⟨ps, e2, rfl⟩ := map_some' e
    exact .cons (a.dpS h e1) (IsAll.dpS h r e2)
def gReprN : MR := fun ds S => match ds with
  | [.lst es] => (toPSs S es).bind fun ps => if showOk (.list ps) = true then some (.str (PyData.list ps).shown, S) else none
  | _ => none
theorem rc_reprN {K : PySem.W.Frag} : RCD K (rReprE K) gReprN := by
  intro F f S H vs ds d S' hh r e Q q
  unfold gReprN at e
  split at e
  · rename_i es
    obtain ⟨ps, e1, e⟩ := bind_some' e
    by_cases hs : showOk (.list ps) = true
    · rw [if_pos hs] at e
      cases e
      obtain ⟨v, rfl, i1⟩ := all1 r
      cases i1 with
      | lst ha ra =>
        simp only [showOk, Bool.and_eq_true, Bool.not_eq_true', decide_eq_true_eq] at hs
        exact .inl ⟨_, .list ps, rfl, .lst (SqL.of (hh.ex _ _ ha)) (ra.dpS hh e1), hs.1, hs.2.1, hs.2.2.1, hs.2.2.2, q.now hh (.str _)⟩
    · rw [if_neg hs] at e
      cases e
  · cases e
end DL
/-! DV1: l.pop(0), x += 1. -/
namespace DL
open PySem L2 PyProof.Rows
def gPop0 : MM := fun o ds S => match o, ds with
  | .loc n, [.int k] => if k = 0 then (match S[n]? with
    | some (.lst (x :: xs)) => some (x, S.set n (.lst xs))
    | _ => none) else none
  | _, _ => none
theorem rm_pop0 {K : PySem.W.Frag} : RM K rPopAt gPop0 := by
  intro F f S H x vs dx ds d S' hh ix iv e Q q
  unfold gPop0 at e
  split at e
  · rename_i n k
    by_cases hk : k = 0
    · subst hk
      rw [if_pos rfl] at e
      split at e
      · rename_i y xs es
        cases e
        obtain ⟨w0, rfl, i0⟩ := all1 iv
        have := is_int i0
        subst this
        cases ix with
        | loc ha =>
          rename_i a
          obtain ⟨ws, e1, r1⟩ := hh.ob _ a _ ha es
          cases r1 with
          | cons ry rr =>
            rename_i v ws
            have h2 := hh.write (u := .lst ws) (o' := .lst xs) ha es (by first | rfl | (intro z; cases z)) ⟨_, rfl, rr⟩
            exact ⟨a, v :: ws, 0, 0, v, rfl, rfl, e1, by decide, by decide, by simp [seqIndex?], rfl, q.now h2 ry⟩
      · cases e
    · rw [if_neg hk] at e
      cases e
  · cases e
section
variable {X : Cx} {K : PySem.W.Frag} {pos apos cpos p : Pos} {o e : Expr} {es : List Expr} {to te : TE} {mo me : ME} {t : TA} {m : MA} {x : Str} {i : Nat}
theorem d_pop0 (ho : DE X o to mo) (ha : DA X (e :: es) t m) (hbase : attributeBase o "pop" X.env (eval o X.env) = eval o X.env := by rfl)
    (hfew : ((backTo cpos (starEach (e :: es) X.env)).all (fun x => !x.1) && (backToKw cpos (keywordEach [] X.env)).all (fun x => x.1.isSome) && decide ((e :: es).length + ([] : List Keyword).length + (if ([] : List Keyword).isEmpty then 0 else 1) < 30)) = true := by rfl)
    (hline : (apos.endLine == cpos.line) = true := by rfl) (hs : starEach (e :: es) X.env = (false, eval e X.env) :: starEach es X.env := by rfl) (hpl : (backTo cpos (starEach es X.env)).any (·.1) = false := by rfl) :
    DE X (.Call (.Attribute o "pop" apos) (e :: es) [] cpos) (tBM X.K "list" rPopAt to t) (mBM "list" gPop0 mo m) := ⟨pe_bm PySem.F.plainAttrs_list PySem.F.slot_list_pop PySem.F.type_list_pop mt_popAt ho.pe ha.pe hbase hfew hline hs hpl, se_bm rm_pop0 ho.se ha.se⟩
def mAug (i : Nat) (me : ME) : MS := fun E S => match E.getD i none with
  | some (.int a) => (me E S).bind fun p => match p.1 with
    | .int b => some (.nx, E.set i (some (.int (a + b))), p.2)
    | _ => none
  | _ => none
theorem ss_aug (h2 : SE K te me) : SS K (tAug i te (ipI fun i j => i + j)) (mAug i me) := by
  intro F f S H σ E o E' S' A h D q
  unfold mAug at h
  split at h
  · rename_i a ea
    obtain ⟨⟨d, S1⟩, e1, h⟩ := bind_some' h
    dsimp only at h
    split at h
    · rename_i b
      cases h
      obtain ⟨v, h1, iv⟩ := A.env i _ (getD_some ea)
      have := is_int iv
      subst this
      exact ⟨_, h1, h2 F f S H σ E _ _ A e1 _ fun v H1 F1 f1 x hh i => ⟨a, b, rfl, is_int i, q _ H1 F1 f1 x ((A.up x hh).set (.int _))⟩⟩
    · cases h
  · cases h
theorem s_aug (hN : X.N.Nodup) (hi : X.N[i]? = some x) (hx : Loc X.env.scope x) (he : DE X e te me) (hf : X.fn x = true ∨ X.env.scope.names.lookup x = some .local := by first | exact .inl rfl | exact .inr rfl | assumption) :
    DS X (.AugAssign (.Name x p) .Add e pos) (tAug i te (ipI fun i j => i + j)) (mAug i me) := ⟨ps_aug hN hi hx he.pe ip_add hf, ss_aug he.se⟩
end
end DL
/-! DV2: dicts by tuples, things of the store. -/
namespace DL
open PySem L2 PyProof.Rows
def tDispT (tk tv : TE) : TE := fun σ H Q => ∀ p, H p = none → tk σ (upd H p (.dT [])) fun x H1 => tv σ H1 fun y H2 => H2 p = some (.dT []) ∧ ∃ b k, x = .ref b ∧ H2 b = some (.tup (k.map kV)) ∧ Q (.ref p) (upd H2 p (.dT [(k, y)]))
section
variable {X : Cx} {pos : Pos} {k v : Expr} {tk tv : TE}
theorem pe_dispT (hu : X.A.units + 1 < cLine) (hk : PE X k tk) (hv : PE X v tv) : PE X (.Dict [some k] [v] pos) (tDispT tk tv) := by
  refine ⟨fun pins s σ H Q I q => ?_⟩
  have hn := I.hok.fresh (Nat.le_refl s.heap.objs.size)
  have I1 := I.laid (a := s.heap.objs.size) (o := .dT []) (h' := s.heap.push { cls := .type "dict", data := .dict #[] }) (t' := s.toks) (fun _ _ q => Heap.get?_push_of_some _ q) (Nat.le_refl _) (dt_empty s.heap I.big)
  have hall : ([some k] : List (Option Expr)).all (·.isSome) = true := rfl
  have hl : ([some k] : List (Option Expr)).length = [v].length := rfl
  have hp := pairTrees_length [some k] [v] X.env pos hall hl
  have hp1 : (pairTrees [some k] [v] X.env pos).length = 1 := hp
  rw [arm_eval_Dict, zip_pairTrees [some k] [v] X.env pos hall hl, dictDisplay_pairs (pairTrees [some k] [v] X.env pos) (by intro z; rw [z] at hp1; cases hp1) (by rw [hp1]; decide)]
  refine wpAny_bind (wpAny_standAt (wpAny_bind (wpAny_subDictH (knd := tupleKind (mixKind X.prog X.w)) (Q := fun d s' => wpAny (model X.prog X.w) X.A (pure (Value.ref d)) (fun u s' => ∃ v' H', Inv X pins σ H' s' ∧ RelV v' u ∧ Q v' H') X.xe s') ?_ (by rw [hp1]; decide) ?_)))
  · show X.A.units < cLine
    omega
  · refine pairTrees_cons_walk (thn (hk.run pins _ σ _ _ I1 (q _ hn)) fun u s1 ⟨x, H1, I2, rx, q1⟩ => thn (hv.run pins s1 σ H1 _ I2 q1) fun w2 s2 ⟨y, H2, I3, ry, e, b, kk, ex, eb, q2⟩ => pairTrees_nil_walk ?_)
    subst ex
    obtain rfl : u = Value.ref b := rx
    obtain ⟨z, hd, xs, rel, dd⟩ := dt_of I3.hok e
    cases rel
    refine ⟨[(kk, b, w2)], ⟨rfl, rfl, key_of I3.hok eb, trivial⟩, dd, fun h' tk dd' hs => wpAny_pure ⟨.ref s.heap.objs.size, _, ?_, rfl, q2⟩⟩
    have nb : b ≠ s.heap.objs.size := fun z => by rw [z, e] at eb; cases eb
    obtain ⟨qo, es, ep, hq, h2, h3, h4, _, h5⟩ := dd'
    refine d_write I3 (by rw [e]; exact True.intro) hs ⟨qo, hq⟩ ⟨by rw [sizeLine_eq]; exact (by decide : (1 : Nat) ≤ 16777216), hd, _, .cons ⟨rfl, ?_, ry⟩ .nil, qo, es, ep, hq, h2, h3, h4, h5⟩
    show upd H2 _ _ b = _
    rw [upd_ne nb]
    exact eb
end
end DL
/-! DV3: dicts by tuples: trees. -/
namespace DL
open PySem L2 PyProof.Rows
abbrev TK := List Key
def toTK : D → Option TK
  | .tup ds => keysOf ds
  | _ => none
def tlook : List TK → List D → TK → Option D
  | k :: ks, d :: ds, q => if k = q then some d else tlook ks ds q
  | _, _, _ => none
def tput (ks : List TK) (ds : List D) (q : TK) (x : D) : List TK × List D :=
  if (ks.any fun k => decide (k = q)) = true then (ks, List.zipWith (fun k d => if k = q then x else d) ks ds) else (ks ++ [q], ds ++ [x])
def viewT (S : Sto) : D → Option (List TK × List D)
  | .loc n => match S[n]? with | some (.dct ks ds) => some (ks, ds) | some (.lk ks ds) => some (ks, ds) | _ => none
  | _ => none
section
variable {K : PySem.W.Frag} {F H : Hp} {f : List Addr} {S : Sto} {v : V} {d : D}
theorem tk_ok {q : TK} (h : Held K F f S H) (i : Is K F f v d) (e : toTK d = some q) : ∃ b, v = .ref b ∧ H b = some (.tup (q.map kV)) := by
  cases i with
  | tup ha r =>
    simp only [toTK] at e
    have := keysOf_ok r e
    subst this
    exact ⟨_, rfl, h.ex _ _ ha⟩
  | _ => cases e
theorem viewT_ok {ks : List TK} {ds : List D} (h : Held K F f S H) (i : Is K F f v d) (e : viewT S d = some (ks, ds)) :
    ∃ n a kvs, d = .loc n ∧ f[n]? = some a ∧ v = .ref a ∧ Rd H a (.dT kvs) ∧ kvs.map (·.1) = ks ∧ IsAll K F f (kvs.map (·.2)) ds := by
  cases i with
  | loc ha =>
    rename_i a n
    simp only [viewT] at e
    cases es : S[n]? with
    | none => rw [es] at e; cases e
    | some o =>
      rw [es] at e
      cases o with
      | dct ks' ds' =>
        simp only at e
        cases e
        obtain ⟨kvs, e1, e2, r⟩ := h.ob n a _ ha es
        exact ⟨n, a, kvs, rfl, ha, rfl, .inl e1, e2, r⟩
      | lk ks' ds' =>
        simp only at e
        cases e
        obtain ⟨od, kvs, e1, e2, r⟩ := h.lk n a _ _ ha es
        exact ⟨n, a, kvs, rfl, ha, rfl, .inr ⟨od, h.ex _ _ e1⟩, e2, r⟩
      | _ => cases e
  | _ => cases e
end
theorem tlook_ok {K : PySem.W.Frag} {F : Hp} {f : List Addr} {q : TK} : ∀ {kvs : List (TK × V)} {ds : List D} {d : D}, IsAll K F f (kvs.map (·.2)) ds → tlook (kvs.map (·.1)) ds q = some d → ∃ v, valV kvs q = some v ∧ Is K F f v d
  | [], _, _, .nil, e => by cases e
  | p :: kvs, d0 :: ds, d, .cons h t, e => by
    simp only [List.map_cons, tlook] at e
    by_cases hk : p.1 = q
    · rw [if_pos hk] at e
      cases e
      exact ⟨p.2, valV_pos hk, h⟩
    · rw [if_neg hk] at e
      obtain ⟨v, h1, h2⟩ := tlook_ok t e
      exact ⟨v, by rw [valV_neg hk]; exact h1, h2⟩
theorem zip_putT {K : PySem.W.Frag} {F : Hp} {f : List Addr} {q : TK} {x : V} {y : D} (i : Is K F f x y) : ∀ {kvs : List (TK × V)} {ds : List D}, IsAll K F f (kvs.map (·.2)) ds →
    IsAll K F f ((kvs.map fun kv => if kv.1 = q then (kv.1, x) else kv).map (·.2)) (List.zipWith (fun k d => if k = q then y else d) (kvs.map (·.1)) ds)
  | [], _, .nil => .nil
  | p :: kvs, d :: ds, .cons h t => by
    simp only [List.map_cons, List.zipWith_cons_cons]
    refine .cons ?_ (zip_putT i t)
    by_cases e : p.1 = q
    · rw [if_pos e, if_pos e]; exact i
    · rw [if_neg e, if_neg e]; exact h
theorem tput_ok {K : PySem.W.Frag} {F : Hp} {f : List Addr} {q : TK} {x : V} {y : D} {kvs : List (TK × V)} {ds : List D} (i : Is K F f x y) (r : IsAll K F f (kvs.map (·.2)) ds) :
    (putK kvs q x).map (·.1) = (tput (kvs.map (·.1)) ds q y).1 ∧ IsAll K F f ((putK kvs q x).map (·.2)) (tput (kvs.map (·.1)) ds q y).2 := by
  unfold putK tput
  have e : ((kvs.map (·.1)).any fun k => decide (k = q)) = kvs.any fun kv => decide (kv.1 = q) := by rw [List.any_map]; rfl
  rw [e]
  by_cases c : (kvs.any fun kv => decide (kv.1 = q)) = true
  · rw [if_pos c, if_pos c]
    refine ⟨?_, zip_putT i r⟩
    rw [List.map_map]
    refine List.map_congr_left fun kv _ => ?_
    show (if kv.1 = q then (kv.1, x) else kv).1 = kv.1
    by_cases z : kv.1 = q
    · rw [if_pos z]
    · rw [if_neg z]
  · rw [if_neg c, if_neg c]
    rw [List.map_append, List.map_append]
    exact ⟨rfl, r.append (.cons i .nil)⟩
theorem valV_memT {kk : TK} : ∀ {kvs : List (TK × V)}, (valV kvs kk).isSome = (kvs.map (·.1)).any fun k => decide (k = kk)
  | [] => rfl
  | kv :: kvs => by
    have ih := valV_memT (kk := kk) (kvs := kvs)
    unfold valV at ih ⊢
    rw [Option.isSome_map] at ih ⊢
    rw [List.map_cons, List.any_cons]
    by_cases e : kv.1 = kk
    · rw [List.find?_cons_of_pos (by simpa using e), decide_eq_true e]; rfl
    · rw [List.find?_cons_of_neg (by simpa using e), decide_eq_false e, ih]; rfl
theorem DGet.tR {H : Hp} {a b : Addr} {kvs : List (List Key × V)} {k : List Key} (e : Rd H a (.dT kvs)) (eb : H b = some (.tup (k.map kV))) : DGet H a (.ref b) (valV kvs k) := .inr ⟨kvs, k, b, e, rfl, eb, rfl⟩
/-! the mirrors -/
def mTDisp (mk mv : ME) : ME := fun E S => (mk E (S ++ [.dct [] []])).bind fun k => (mv E k.2).bind fun v => match v.2[S.length]? with
  | some (.dct [] []) => (toTK k.1).map fun q => (.loc S.length, v.2.set S.length (.dct [q] [v.1]))
  | _ => none
def mTIn (neg : Bool) (my md : ME) : ME := fun E S => (my E S).bind fun p => (md E p.2).bind fun q => (toTK p.1).bind fun kk => (viewT q.2 q.1).map fun w => (.bl (if neg then !(w.1.any fun k => decide (k = kk)) else w.1.any fun k => decide (k = kk)), q.2)
def mTGet (md my : ME) : ME := fun E S => (md E S).bind fun p => (my E p.2).bind fun q => (viewT q.2 p.1).bind fun w => (toTK q.1).bind fun k => (tlook w.1 w.2 k).map fun d => (d, q.2)
def mTPut (md my mv : ME) : MS := fun E S => (mv E S).bind fun v => (md E v.2).bind fun d => (my E d.2).bind fun y => (toTK y.1).bind fun k => match d.1 with
  | .loc n => match y.2[n]? with
    | some (.dct ks ds) => if ks.length < sizeLine then some (.nx, E, y.2.set n (.dct (tput ks ds k v.1).1 (tput ks ds k v.1).2)) else none
    | _ => none
  | _ => none
section
variable {X : Cx} {K : PySem.W.Frag} {pos : Pos} {td ty tv tk : TE} {md my mv mk : ME} {o i e value kx vx : Expr} {k : Nat}
theorem se_tdisp (hk : SE K tk mk) (hv : SE K tv mv) : SE K (tDispT tk tv) (mTDisp mk mv) := by
  intro F f S H σ E d S' A eq Q q p hp
  obtain ⟨⟨kd, S1⟩, e1, eq⟩ := bind_some' eq
  obtain ⟨⟨vd, S2⟩, e2, eq⟩ := bind_some' eq
  obtain ⟨h2, x2⟩ := A.held.alloc (u := .dT []) (o := .dct [] []) hp ⟨[], rfl, rfl, .nil⟩
  have hfd : (f ++ [p])[S.length]? = some p := by rw [← A.held.len]; simp
  refine hk _ _ _ _ σ E kd S1 (A.up x2 h2) e1 _ fun k0 H1 F1 f1 x1 hh1 i1 => ?_
  refine hv F1 f1 S1 H1 σ E vd S2 (A.up (x2.trans x1) hh1) e2 _ fun v0 H2 F2 f2 x3 hh2 i2 => ?_
  dsimp only at eq
  split at eq
  · rename_i es
    obtain ⟨qk, e3, e4⟩ := map_some' eq
    cases e4
    have hp3 := pre_get x3.pre (pre_get x1.pre hfd)
    obtain ⟨kvs0, e5, e6, r5⟩ := hh2.ob _ p _ hp3 es
    have : kvs0 = [] := List.map_eq_nil_iff.mp e6
    subst this
    obtain ⟨b, rfl, hb⟩ := tk_ok hh2 (i1.mono x3) e3
    have h4 := hh2.write (u := .dT [(qk, v0)]) (o' := .dct [qk] [vd]) hp3 es (by first | rfl | (intro z; cases z)) ⟨_, rfl, rfl, .cons i2 .nil⟩
    exact ⟨e5, b, qk, rfl, hb, q _ _ F2 f2 ((x2.trans x1).trans x3) h4 (.loc hp3)⟩
  · cases eq
theorem d_tdisp (hr : Room k X.A) (hk : DE X kx tk mk) (hv : DE X vx tv mv) : DE X (.Dict [some kx] [vx] pos) (tDispT tk tv) (mTDisp mk mv) := ⟨pe_dispT (hu_of hr) hk.pe hv.pe, se_tdisp hk.se hv.se⟩
theorem se_tin (hy : SE K ty my) (hd : SE K td md) : SE K (tDIn ty td) (mTIn false my md) := by
  intro F f S H σ E d S' A e Q q
  obtain ⟨⟨y, S1⟩, e1, e⟩ := bind_some' e
  obtain ⟨⟨x, S2⟩, e2, e⟩ := bind_some' e
  obtain ⟨kk, e3, e⟩ := bind_some' e
  obtain ⟨⟨ks, ds⟩, e4, e⟩ := map_some' e
  cases e
  refine hy F f S H σ E y S1 A e1 _ fun u H1 F1 f1 x1 h1 i1 => ?_
  refine hd F1 f1 S1 H1 σ E x _ (A.up x1 h1) e2 _ fun v H2 F2 f2 x2 h2 i2 => ?_
  obtain ⟨n, a, kvs, _, _, rfl, ha, rfl, r⟩ := viewT_ok h2 i2 e4
  obtain ⟨b, rfl, hb⟩ := tk_ok h2 (i1.mono x2) e3
  refine ⟨a, valV kvs kk, rfl, DGet.tR ha hb, ?_⟩
  rw [valV_memT]
  exact (q.ext (x1.trans x2)).now h2 (.bl _)
theorem se_tnotin (hy : SE K ty my) (hd : SE K td md) : SE K (tDNotIn ty td) (mTIn true my md) := by
  intro F f S H σ E d S' A e Q q
  obtain ⟨⟨y, S1⟩, e1, e⟩ := bind_some' e
  obtain ⟨⟨x, S2⟩, e2, e⟩ := bind_some' e
  obtain ⟨kk, e3, e⟩ := bind_some' e
  obtain ⟨⟨ks, ds⟩, e4, e⟩ := map_some' e
  cases e
  refine hy F f S H σ E y S1 A e1 _ fun u H1 F1 f1 x1 h1 i1 => ?_
  refine hd F1 f1 S1 H1 σ E x _ (A.up x1 h1) e2 _ fun v H2 F2 f2 x2 h2 i2 => ?_
  obtain ⟨n, a, kvs, _, _, rfl, ha, rfl, r⟩ := viewT_ok h2 i2 e4
  obtain ⟨b, rfl, hb⟩ := tk_ok h2 (i1.mono x2) e3
  refine ⟨a, valV kvs kk, rfl, DGet.tR ha hb, ?_⟩
  rw [valV_memT]
  exact (q.ext (x1.trans x2)).now h2 (.bl _)
theorem se_tget (hd : SE K td md) (hy : SE K ty my) : SE K (tDGet td ty) (mTGet md my) := by
  intro F f S H σ E d S' A e Q q
  obtain ⟨⟨x, S1⟩, e1, e⟩ := bind_some' e
  obtain ⟨⟨y, S2⟩, e2, e⟩ := bind_some' e
  obtain ⟨⟨ks, ds⟩, e3, e⟩ := bind_some' e
  obtain ⟨kk, e4, e⟩ := bind_some' e
  obtain ⟨d', e5, e⟩ := map_some' e
  cases e
  refine hd F f S H σ E x S1 A e1 _ fun v H1 F1 f1 x1 h1 i1 => ?_
  refine hy F1 f1 S1 H1 σ E y _ (A.up x1 h1) e2 _ fun u H2 F2 f2 x2 h2 i2 => ?_
  obtain ⟨n, a, kvs, _, _, rfl, ha, rfl, r⟩ := viewT_ok h2 (i1.mono x2) e3
  obtain ⟨w, h3, h4⟩ := tlook_ok r e5
  obtain ⟨b, rfl, hb⟩ := tk_ok h2 i2 e4
  exact ⟨a, w, rfl, by rw [← h3]; exact DGet.tR ha hb, (q.ext (x1.trans x2)).now h2 h4⟩
theorem d_tget (hr : Room k X.A) (ho : DE X o td md) (hi : DE X i ty my) (hs : NoSl i := by exact fun _ _ => rfl) : DE X (.Subscript o i pos) (tDGet td ty) (mTGet md my) := ⟨pe_dget (hu_of hr) ho.pe hi.pe hs, se_tget ho.se hi.se⟩
theorem ss_tput (hd : SE K td md) (hy : SE K ty my) (hv : SE K tv mv) : SS K (sDPut td ty tv) (mTPut md my mv) := by
  intro F f S H σ E o E' S' A e D q
  obtain ⟨⟨v, S1⟩, e1, e⟩ := bind_some' e
  obtain ⟨⟨x, S2⟩, e2, e⟩ := bind_some' e
  obtain ⟨⟨y, S3⟩, e3, e⟩ := bind_some' e
  obtain ⟨kk, e4, e⟩ := bind_some' e
  cases x <;> try (cases e; done)
  rename_i n
  simp only at e
  split at e
  · rename_i ks ds es
    by_cases hz : ks.length < sizeLine
    · rw [if_pos hz] at e
      cases e
      refine hv F f S H σ E v S1 A e1 _ fun v0 H1 F1 f1 x1 h1 i1 => ?_
      refine hd F1 f1 S1 H1 σ E _ S2 (A.up x1 h1) e2 _ fun d0 H2 F2 f2 x2 h2 i2 => ?_
      refine hy F2 f2 S2 H2 σ E y S3 (A.up (x1.trans x2) h2) e3 _ fun y0 H3 F3 f3 x3 h3 i3 => ?_
      have i2' := i2.mono x3
      cases i2' with
      | loc ha =>
        rename_i a
        obtain ⟨kvs, e5, e6, r⟩ := h3.ob _ a _ ha es
        obtain ⟨b, rfl, hb⟩ := tk_ok h3 i3 e4
        subst e6
        obtain ⟨p1, p2⟩ := tput_ok (q := kk) (i1.mono (x2.trans x3)) r
        have h4 := h3.write (u := .dT (putK kvs kk v0)) (o' := .dct (tput (kvs.map (·.1)) ds kk v).1 (tput (kvs.map (·.1)) ds kk v).2) ha es (by first | rfl | (intro z; cases z)) ⟨_, rfl, p1, p2⟩
        refine ⟨a, _, rfl, DPut.t e5 hb (by rw [List.length_map] at hz; exact hz), ?_⟩
        exact q σ _ F3 f3 ((x1.trans x2).trans x3) (A.up ((x1.trans x2).trans x3) h4)
    · rw [if_neg hz] at e
      cases e
  · cases e
theorem s_tput {pos' : Pos} (hr : Room k X.A) (ho : DE X o td md) (hi : DE X i ty my) (hv : DE X value tv mv) (hs : swapsWith value (some (.Subscript o i pos')) pos.line X.env = pure false := by rfl) :
    DS X (.Assign [.Subscript o i pos'] value pos) (sDPut td ty tv) (mTPut md my mv) := ⟨ps_dput (hu_of hr) ho.pe hi.pe hv.pe hs, ss_tput ho.se hi.se hv.se⟩
end
end DL
namespace DL
open PySem L2 PyProof.Rows
section
variable {X : Cx} {pos : Pos} {td ty : TE} {md my : ME} {a b : Expr} {k : Nat}
theorem e_tin (hr : Room k X.A) (hi : DE X a ty my) (ho : DE X b td md) (h1 : behindInMarks .In b = false := by with_unfolding_all rfl) : DE X (.Compare a [.In] [b] pos) (tDIn ty td) (mTIn false my md) := ⟨pe_cmp (pc_din (hu_of hr) hi.pe ho.pe) h1, se_tin hi.se ho.se⟩
theorem e_tnotin (hr : Room k X.A) (hi : DE X a ty my) (ho : DE X b td md) (h1 : behindInMarks .NotIn b = false := by with_unfolding_all rfl) : DE X (.Compare a [.NotIn] [b] pos) (tDNotIn ty td) (mTIn true my md) := ⟨pe_cmp (pc_dnotin (hu_of hr) hi.pe ho.pe) h1, se_tnotin hi.se ho.se⟩
theorem t_tin (hr : Room k X.A) (hi : DE X a ty my) (ho : DE X b td md) (h1 : behindInMarks .In b = false := by with_unfolding_all rfl) : DT X (.Compare a [.In] [b] pos) (tB (tDIn ty td)) (mTest (mTIn false my md)) := ⟨pt_cmp (pc_din (hu_of hr) hi.pe ho.pe) h1, st_B (se_tin hi.se ho.se)⟩
theorem t_tnotin (hr : Room k X.A) (hi : DE X a ty my) (ho : DE X b td md) (h1 : behindInMarks .NotIn b = false := by with_unfolding_all rfl) : DT X (.Compare a [.NotIn] [b] pos) (tB (tDNotIn ty td)) (mTest (mTIn true my md)) := ⟨pt_cmp (pc_dnotin (hu_of hr) hi.pe ho.pe) h1, st_B (se_tnotin hi.se ho.se)⟩
end
end DL
/-! DV4: (number, text) < (number, text); x is not True; list(d.items()); dict(pairs). -/
namespace DL
open PySem L2 PyProof.Rows
def ltIX (a : Int) (b : Str) (c : Int) (d : Str) : Bool := if a = c then (if b = d then false else ltX b d) else decide (a < c)
def gLtIX : MO := fun x y S => match x, y with | .tup [.int a, .str b], .tup [.int c, .str d] => some (.bl (ltIX a b c d), S) | _, _ => none
def rLtIX (K : PySem.W.Frag) : R2 := fun x y H Q => ∃ p r a b c d, x = .ref p ∧ y = .ref r ∧ SqT K H p [.int a, .str b] ∧ SqT K H r [.int c, .str d] ∧ Q (.bl (ltIX a b c d)) H
theorem lt_strR {A : Around} {s : Shared} (a b : Str) (t u : Tok) : Ob.RcOp .Lt A s (.str a t) (.str b u) (ltX a b) := fun prog w E Q h => by
  have := PySem.P.lt_str (prog := prog) (w := w) (A := A) (s := s) (x := a) (y := b) (t := t) (u := u) (E := E) (Q := Q) (by simpa [ltX] using h)
  exact this
section
variable {X : Cx} {K : PySem.W.Frag} {pos : Pos} {a b : Expr} {ta tb : TE} {ma mb : ME}
theorem op_ltIX (hu : X.A.units < cLine) : OpR X (compareOp .Lt) (rLtIX X.K) := by
  intro pins s σ H x y v u Q I rx ry h
  obtain ⟨p, r, a, b, c, d, rfl, rfl, hp, hr, q⟩ := h
  cases rx
  cases ry
  obtain ⟨its, r1, p1, _⟩ := I.tuple hp
  obtain ⟨its2, r2, p2, _⟩ := I.tuple hr
  cases r1 with
  | cons ra rr =>
    cases rr with
    | cons rb rr =>
      cases rr
      obtain ⟨ta, rfl⟩ := ra
      obtain ⟨tb, rfl⟩ := rb
      cases r2 with
      | cons rc rr =>
        cases rr with
        | cons rd rr =>
          cases rr
          obtain ⟨tc, rfl⟩ := rc
          obtain ⟨td, rfl⟩ := rd
          have R := Ob.RcOp.tuples_lt (A := X.A) (s := s) (e := fun j => if j = 0 then decide (a = c) else decide (b = d)) (r := fun j => if j = 0 then decide (a < c) else ltX b d) p1 p2 hu (fun j h1 h2 => by
            match j, h1 with
            | 0, _ => exact SeqAt.EqAt.int_int _ _ _ _
            | 1, _ => exact SeqAt.EqAt.str_str _ _ _ _) (fun j h1 h2 _ => by
            match j, h1 with
            | 0, _ => exact Ob.RcOp.lt_int _ _ _ _
            | 1, _ => exact lt_strR _ _ _ _)
          refine R X.prog X.w X.xe _ ?_
          have e : Ob.lexAt (fun j => if j = 0 then decide (a = c) else decide (b = d)) (fun j => if j = 0 then decide (a < c) else ltX b d) false 0 2 = ltIX a b c d := by
            simp only [Ob.lexAt, ltIX]
            by_cases h1 : a = c <;> by_cases h2 : b = d <;> simp [h1, h2]
          exact ⟨.bl (ltIX a b c d), H, I, by rw [← e]; rfl, q⟩
theorem ro_ltIX : RO K (rLtIX K) gLtIX := by
  intro F f S H x y dx dy d S' hh ix iy e Q q
  unfold gLtIX at e
  split at e
  · rename_i a b c d
    cases e
    cases ix with
    | tup ha ra =>
      cases iy with
      | tup hb rb =>
        cases ra with
        | cons i1 ra => cases ra with
          | cons i2 ra =>
            cases ra
            cases rb with
            | cons j1 rb => cases rb with
              | cons j2 rb =>
                cases rb
                have e1 := is_int i1
                have e2 := is_str i2
                have e3 := is_int j1
                have e4 := is_str j2
                subst e1 e2 e3 e4
                exact ⟨_, _, a, b, c, d, rfl, rfl, Evl.ex_t hh.ex (SqT.of ha), Evl.ex_t hh.ex (SqT.of hb), q.now hh (.bl _)⟩
  · cases e
theorem t_ltIX (hu : X.A.units < cLine) (ha : DE X a ta ma) (hb : DE X b tb mb) : DT X (.Compare a [.Lt] [b] pos) (tTest (tOp (rLtIX X.K) ta tb)) (mTest (mOp gLtIX ma mb)) := t_cmp (op_ltIX hu) ro_ltIX ha hb
/-! x is not True -/
def rNotB : R2 := fun x y H Q => ∃ a b, x = .bl a ∧ y = .bl b ∧ Q (.bl (!decide (a = b))) H
def gNotB : MO := fun x y S => match x, y with | .bl a, .bl b => some (.bl (!decide (a = b)), S) | _, _ => none
theorem op_notB : OpR X (compareOp .IsNot) rNotB := by
  intro pins s σ H x y v u Q I rx ry h
  obtain ⟨a, b, rfl, rfl, q⟩ := h
  cases rx
  cases ry
  show wpAny _ _ ((isSame (Value.bool a) (Value.bool b)) >>= fun z => pure (Value.bool (!z))) _ _ s
  refine wpAny_bind (wpAny_isSame_plain (by cases a <;> cases b <;> rfl) (wpAny_pure ⟨.bl (!decide (a = b)), H, I, ?_, q⟩))
  cases a <;> cases b <;> rfl
theorem ro_notB : RO K rNotB gNotB := by
  intro F f S H x y dx dy d S' hh ix iy e Q q
  unfold gNotB at e
  split at e
  · cases e
    cases ix
    cases iy
    exact ⟨_, _, rfl, rfl, q.now hh (.bl _)⟩
  · cases e
theorem t_notB (ha : DE X a ta ma) (hb : DE X b tb mb) : DT X (.Compare a [.IsNot] [b] pos) (tTest (tOp rNotB ta tb)) (mTest (mOp gNotB ma mb)) := t_cmp op_notB ro_notB ha hb
end
end DL
/-! DV5: list(d.items()); dict(pairs). -/
namespace DL
open PySem L2 PyProof.Rows
section
variable {K : PySem.W.Frag} {F F' H H' : Hp} {f f' : List Addr} {S S' : Sto}
/-- new frozen things, many at once -/
def grown (F H' : Hp) (ps : List Addr) : Hp := fun b => if b ∈ ps then H' b else F b
theorem grown_ex (h : Ex F H) {ps : List Addr} (hp : ∀ b ∈ ps, H b = none) : Ex F (grown F H' ps) := fun b o e => by
  unfold grown
  rw [if_neg fun m => by have := h b o e; rw [hp b m] at this; cases this]
  exact e
theorem Held.grow (h : Held K F f S H) (e : Ex H H') {ps : List Addr} (hp : ∀ b ∈ ps, H b = none) : Held K (grown F H' ps) f S H' ∧ Ext F f (grown F H' ps) f := by
  have x : Ext F f (grown F H' ps) f := ⟨grown_ex h.ex hp, List.prefix_rfl⟩
  refine ⟨⟨fun b o eb => ?_, h.len, h.nd, fun n a o h1 h2 nd => ?_, fun a ha => ?_, fun n a o h1 h2 => ?_, fun n a ks ds h1 h2 => let ⟨od, kvs, e1, e2, r⟩ := h.lk n a ks ds h1 h2; ⟨od, kvs, x.ex _ _ e1, e2, r.mono x⟩⟩, x⟩
  · unfold grown at eb
    by_cases m : b ∈ ps
    · rw [if_pos m] at eb; exact eb
    · rw [if_neg m] at eb; exact e b o (h.ex b o eb)
  · unfold grown
    rw [if_neg fun m => by
      obtain ⟨u, hu⟩ := h.so a (List.mem_of_getElem? h1)
      rw [hp a m] at hu; cases hu]
    exact h.fr n a o h1 h2 nd
  · obtain ⟨u, hu⟩ := h.so a ha
    exact ⟨u, e _ _ hu⟩
  · exact ((h.up e).ob n a o h1 h2).mono x
end
def itemD (k : Key) (d : D) : D := .tup [kD k, d]
def itemsL (ks : List Key) (ds : List D) : List D := List.zipWith itemD ks ds
def mListItems (m : ME) : ME := fun E S => (m E S).bind fun p => (viewD p.2 p.1).map fun w => (.lst (itemsL w.1 w.2), p.2)
theorem is_kV {K : PySem.W.Frag} {F : Hp} {f : List Addr} (k : Key) : Is K F f (kV k) (kD k) := by
  cases k with
  | inl i => exact .int i
  | inr z => exact .str z
theorem items_isAll {K : PySem.W.Frag} {F : Hp} {f : List Addr} : ∀ {ts : List Addr} {kvs : List (Key × V)} {ds : List D}, Paired (fun (t : Addr) (q : Key × V) => F t = some (.tup [kV q.1, q.2])) ts kvs → IsAll K F f (kvs.map (·.2)) ds → IsAll K F f (ts.map V.ref) (itemsL (kvs.map (·.1)) ds)
  | _, _, _, .nil, .nil => .nil
  | _, _, _, .cons h t, .cons i r => by
    rw [List.map_cons, List.map_cons]
    exact .cons (.tup h (.cons (is_kV _) (.cons i .nil))) (items_isAll t r)
theorem paired_imp {α β : Type} {R R2 : α → β → Prop} {Pr : α → Prop} : ∀ {xs : List α} {ys : List β}, Paired R xs ys → (∀ x ∈ xs, Pr x) → (∀ x y, Pr x → R x y → R2 x y) → Paired R2 xs ys
  | _, _, .nil, _, _ => .nil
  | _, _, .cons h t, hp, f => .cons (f _ _ (hp _ List.mem_cons_self) h) (paired_imp t (fun x hx => hp x (List.mem_cons_of_mem _ hx)) f)
theorem se_listItems {K : PySem.W.Frag} {te : TE} {me : ME} (h : SE K te me) : SE K (LiI.tListItems te) (mListItems me) := by
  intro F f S H σ E d S' A e Q q
  obtain ⟨⟨y, S1⟩, e1, e⟩ := bind_some' e
  obtain ⟨⟨ks, ds⟩, e2, e⟩ := map_some' e
  cases e
  refine h F f S H σ E y _ A e1 _ fun v H1 F1 f1 x1 h1 i1 => ?_
  obtain ⟨a, kvs, rfl, ha, rfl, r⟩ := viewD_ok h1 i1 e2
  refine ⟨a, kvs, rfl, ha, fun H2 p ts ex hp hts hn hl hpr => ?_⟩
  have hps : ∀ b ∈ p :: ts, H1 b = none := fun b hb => by
    rcases List.mem_cons.mp hb with rfl | hb
    · exact hp
    · exact hts b hb
  obtain ⟨h2, x2⟩ := h1.grow (H' := H2) ex hps
  refine q _ _ _ _ (x1.trans x2) h2 (.lst (vs := ts.map V.ref) ?_ ?_)
  · unfold grown
    rw [if_pos List.mem_cons_self]
    exact hl
  · refine items_isAll (paired_imp (Pr := fun t => t ∈ ts) hpr (fun t ht => ht) fun t q ht hq => ?_) (r.mono x2)
    unfold grown
    rw [if_pos (List.mem_cons_of_mem _ ht)]
    exact hq
/-! dict(pairs) -/
def pairK : List D → Option (List (Key × D))
  | [] => some []
  | .tup [k, d] :: r => (toKey k).bind fun q => (pairK r).map ((q, d) :: ·)
  | _ :: _ => none
def gDictP : MR := fun ds S => match ds with
  | [d] => (viewL S d).bind fun es => (pairK es).map fun ps => (.dic (mergeD ps ([], [])).1 (mergeD ps ([], [])).2, S)
  | _ => none
theorem pairK_ok {K : PySem.W.Frag} {F : Hp} {f : List Addr} : ∀ {vs : List V} {es : List D} {ps : List (Key × D)}, IsAll K F f vs es → pairK es = some ps →
    ∃ (as : List Addr) (kvs : List (Key × V)), vs = as.map V.ref ∧ Paired (fun p kv => F p = some (.tup [kV kv.1, kv.2])) as kvs ∧ kvs.map (·.1) = ps.map (·.1) ∧ IsAll K F f (kvs.map (·.2)) (ps.map (·.2))
  | _, [], _, .nil, e => by cases e; exact ⟨[], [], rfl, .nil, rfl, .nil⟩
  | _, d :: es, ps, .cons i r, e => by
    unfold pairK at e
    split at e
    · rename_i heq; cases heq
    · rename_i k d2 r2 heq
      cases heq
      obtain ⟨q, e1, e⟩ := bind_some' e
      obtain ⟨ps2, e2, rfl⟩ := map_some' e
      obtain ⟨as, kvs, rfl, hp, hk, hv⟩ := pairK_ok r e2
      cases i with
      | tup ha ra => cases ra with
        | cons i1 ra => cases ra with
          | cons i2 ra =>
            cases ra
            have := key_ok i1 e1
            subst this
            rename_i a v2
            exact ⟨a :: as, (q, v2) :: kvs, rfl, .cons ha hp, by rw [List.map_cons, List.map_cons, hk], .cons i2 hv⟩
    · cases e
theorem rc_dictP {K : PySem.W.Frag} : RCD K (fun xs H Q => ∃ (a : Addr) (ps : List Addr) (kvs : List (Key × V)), xs = [.ref a] ∧ SqL K H a (ps.map V.ref) ∧ Paired (fun p kv => SqT K H p [kV kv.1, kv.2]) ps kvs ∧
    ∀ p, H p = none → Q (.ref p) (upd H p (.dK (mergeK [] kvs)))) gDictP := by
  intro F f S H vs ds d S' hh r e Q q
  unfold gDictP at e
  split at e
  · rename_i d1
    obtain ⟨es, e1, e⟩ := bind_some' e
    obtain ⟨ps, e2, e3⟩ := map_some' e
    cases e3
    obtain ⟨v, rfl, i1⟩ := all1 r
    obtain ⟨a, ws, rfl, ha, rr⟩ := viewL_ok hh i1 e1
    obtain ⟨as, kvs, rfl, hp, hk, hv⟩ := pairK_ok rr e2
    refine ⟨a, as, kvs, rfl, ha, paired_imp (Pr := fun _ => True) hp (fun _ _ => trivial) (fun t q _ z => Evl.ex_t hh.ex (SqT.of z)), fun p hpn => ?_⟩
    obtain ⟨m1, m2⟩ := merge_ok (acc := []) hk hv .nil
    obtain ⟨h4, x4⟩ := hh.put (o := .dK (mergeK [] kvs)) hpn
    exact q _ _ _ _ x4 h4 (.dic upd_same m1 (m2.mono x4))
  · cases e
section
variable {X : Cx} {e : Expr} {te : TE} {me : ME} {p apos cpos pos : Pos}
theorem d_listItems (hc : X.calm = true) (hg : Gl X "list") (hm : X.mg "list" = none) (he : DE X e te me) (hbase : attributeBase e "items" X.env (eval e X.env) = eval e X.env := by rfl) (hline : (apos.endLine == cpos.line) = true := by rfl)
    (hs : starEach [.Call (.Attribute e "items" apos) [] [] cpos] X.env = (false, eval (.Call (.Attribute e "items" apos) [] [] cpos) X.env) :: starEach [] X.env := by rfl) :
    DE X (.Call (.Name "list" p) [.Call (.Attribute e "items" apos) [] [] cpos] [] pos) (LiI.tListItems te) (mListItems me) := ⟨LiI.pe_listItems hc he.pe hg hm boot_list hbase hline hs, se_listItems he.se⟩
end
end DL
/-! DV6: an own `==`. -/
namespace DL
open PySem L2 PyProof.Rows
structure EqC (K : PySem.W.Frag) (C f : Addr) : Prop where
  eq : PySem.W.findIn K (.ref C) "__eq__" = some (some (.ref f))
  fn : PySem.W.isFn K (.ref f) = true
def rEqI (K : PySem.W.Frag) (C : Addr) (G : MF) : R2 := fun x y H Q => ∃ a b dx dy fs gs, x = .ref a ∧ y = .ref b ∧ H a = some (.ins C dx fs) ∧ H b = some (.ins C dy gs) ∧ rFn K 2 G [x, y] H fun v H' => ∃ r, v = .bl r ∧ Q (.bl r) H'
def gEqI (C : Addr) (G : MF) : MO := fun x y S => (viewI S x).bind fun w => (viewI S y).bind fun u => if w.1 = C ∧ u.1 = C then (G [x, y] S).bind fun r => match r.1 with
  | .bl b => some (.bl b, r.2)
  | _ => none else none
section
variable {X : Cx} {K : PySem.W.Frag} {C f : Addr} {fd : FuncData} {ps : List Str} {G : MF} {k : Nat} {a b : Expr} {ta tb : TE} {ma mb : ME} {pos : Pos}
theorem op_eqI (N : EqC X.K C f) (Fn : FnG X.prog X.w X.K X.mg X.base k f fd ps 2 G) (hr : Room (k + 1) X.A) (hgd : X.A.guards = some []) (hb : Binds X.K fd ps []) : OpR X (compareOp .Eq) (rEqI X.K C G) := by
  intro pins s σ H x y v u Q I rx ry h
  obtain ⟨a, b, dx, dy, fs, gs, rfl, rfl, hx, hy, h⟩ := h
  cases rx
  cases ry
  obtain ⟨mA, J, _⟩ := ins_get I.hok hx
  obtain ⟨mB, J', _⟩ := ins_get I.hok hy
  obtain ⟨od, J, _⟩ := J.look
  obtain ⟨od', J', _⟩ := J'.look
  obtain ⟨m, hF⟩ := I.fr
  refine PySem.W.cmp_K (op := .Eq) (tb := .ref C) hr.units0 hF I.ok.mod.kin J J'.type (by simp [PySem.W.notFirst]) N.eq N.fn ?_
  have e0 : Env0 X.prog X.w X.K X.mg X.base X.A X.stack s H := by
    have e := I.env0
    exact ⟨e.frames, e.mod, e.bs, e.bsz, e.funs, e.frf, e.hok, e.bare⟩
  have r2 : Vals [V.ref a, V.ref b] [Value.ref a, Value.ref b] := .cons rfl (.cons rfl .nil)
  have bb := hb s [.ref a, .ref b] I.kIn (by have := rFn_len h; rw [Fn.ar]; rfl)
  rw [List.append_nil] at bb
  refine wpAny_call (codeAny_mono (Fn.go X.A X.stack s H ⟨[.ref a, .ref b], []⟩ [.ref a, .ref b] [.ref a, .ref b] _ (hr.mono (Nat.le_succ _)) hgd e0 bb r2 h) fun r s' hq => ?_)
  cases r with
  | error e => exact hq.elim
  | ok fl =>
    cases fl with
    | ret w =>
      obtain ⟨z, H', I', rz, r, ez, q⟩ := I.after hq
      subst ez
      cases rz
      exact ⟨.bl r, H', I', rfl, q⟩
    | _ => exact hq.elim
theorem ro_eqI : RO K (rEqI K C G) (gEqI C G) := by
  intro F f S H x y dx dy d S' hh ix iy e Q q
  obtain ⟨⟨C1, k1, d1⟩, e1, e⟩ := bind_some' e
  obtain ⟨⟨C2, k2, d2⟩, e2, e⟩ := bind_some' e
  by_cases hc : C1 = C ∧ C2 = C
  · rw [if_pos hc] at e
    obtain ⟨⟨r, S1⟩, e3, e⟩ := bind_some' e
    cases r <;> try (cases e; done)
    rename_i rb
    cases e
    obtain ⟨rfl, rfl⟩ := hc
    obtain ⟨a, da, ka, rfl, ha, _, _⟩ := viewI_ok hh ix e1
    obtain ⟨b, db, kb, rfl, hb, _, _⟩ := viewI_ok hh iy e2
    refine ⟨a, b, da, db, ka, kb, rfl, rfl, ha, hb, ⟨F, f, S, [dx, dy], .bl rb, S1, hh, .cons ix (.cons iy .nil), rfl, e3, fun v H' F' f' x' h' i' => ?_⟩⟩
    have := is_bl i'
    subst this
    exact ⟨rb, rfl, q _ H' F' f' x' h' (.bl _)⟩
  · rw [if_neg hc] at e
    cases e
theorem e_eqI (N : EqC X.K C f) (Fn : FnG X.prog X.w X.K X.mg X.base k f fd ps 2 G) (hr : Room (k + 1) X.A) (hgd : X.A.guards = some []) (hb : Binds X.K fd ps []) (ha : DE X a ta ma) (hbb : DE X b tb mb) : DE X (.Compare a [.Eq] [b] pos) (tOp (rEqI X.K C G) ta tb) (mOp (gEqI C G) ma mb) := d_cmp (op_eqI N Fn hr hgd hb) ro_eqI ha hbb
theorem t_eqI (N : EqC X.K C f) (Fn : FnG X.prog X.w X.K X.mg X.base k f fd ps 2 G) (hr : Room (k + 1) X.A) (hgd : X.A.guards = some []) (hb : Binds X.K fd ps []) (ha : DE X a ta ma) (hbb : DE X b tb mb) : DT X (.Compare a [.Eq] [b] pos) (tTest (tOp (rEqI X.K C G) ta tb)) (mTest (mOp (gEqI C G) ma mb)) := t_cmp (op_eqI N Fn hr hgd hb) ro_eqI ha hbb
end
end DL
/-! DW1: {} by tuples; walks over the keys of a dict by tuples, which is locked meanwhile. -/
namespace DL
open PySem L2 PyProof.Rows
section
variable {K : PySem.W.Frag} {F F1 F' H H' : Hp} {f f' : List Addr} {S S' : Sto} {Z : Addr} {od : Obj} {kvs : List (List Key × V)} {ks : List (List Key)} {ds : List D}
theorem lt_of {a : Addr} {u : HO} (h : F a = some u) (n : F Z = some (.frz od (.dT kvs))) (k : u ≠ .frz od (.dT kvs)) : DL.dl F Z a = some u := by
  have : a ≠ Z := fun z => k (Option.some.inj ((h.symm.trans (z ▸ n))))
  unfold DL.dl
  rw [if_neg this]; exact h
theorem lt_rd {a : Addr} {u : HO} (h : Rd F a u) (n : F Z = some (.frz od (.dT kvs))) (k : u ≠ .frz od (.dT kvs)) (k2 : u ≠ .dT kvs) : Rd (DL.dl F Z) a u := by
  rcases h with h | ⟨ob, h⟩
  · exact .inl (lt_of h n k)
  · exact .inr ⟨ob, lt_of h n (fun z => by cases z; exact k2 rfl)⟩
mutual
theorem Is.ltt (n : F Z = some (.frz od (.dT kvs))) : ∀ {v : V} {d : D}, Is K F f v d → Is K (DL.dl F Z) f v d
  | _, _, .non => .non
  | _, _, .bl b => .bl b
  | _, _, .int i => .int i
  | _, _, .str s => .str s
  | _, _, .tup h a => .tup (lt_of h n (fun z => by cases z)) (IsAll.ltt n a)
  | _, _, .lst h a => .lst (lt_of h n (fun z => by cases z)) (IsAll.ltt n a)
  | _, _, .scr h a => .scr (h.elim (fun z => .inl (lt_rd z n (fun z => by cases z) (fun z => by cases z))) .inr) (IsAll.ltt n a)
  | _, _, .dic h q a => .dic (lt_of h n (fun z => by cases z)) q (IsAll.ltt n a)
  | _, _, .ins h q a => .ins (lt_of h n (fun z => by cases z)) q (IsAll.ltt n a)
  | _, _, .loc h => .loc h
  | _, _, .ty n => .ty n
  | _, _, .cls C => .cls C
theorem IsAll.ltt (n : F Z = some (.frz od (.dT kvs))) : ∀ {vs : List V} {ds : List D}, IsAll K F f vs ds → IsAll K (DL.dl F Z) f vs ds
  | _, _, .nil => .nil
  | _, _, .cons h t => .cons (Is.ltt n h) (IsAll.ltt n t)
end
theorem ObjIs.ltt (n : F Z = some (.frz od (.dT kvs))) {o : Option HO} : ∀ {u : O}, ObjIs K F f o u → ObjIs K (DL.dl F Z) f o u
  | .lst _, ⟨vs, q, h⟩ => ⟨vs, q, h.ltt n⟩
  | .dic _ _, ⟨kvs, q, k, h⟩ => ⟨kvs, q, k, h.ltt n⟩
  | .dct _ _, ⟨kvs, q, k, h⟩ => ⟨kvs, q, k, h.ltt n⟩
  | .ins _ _ _, ⟨dx, kvs, q, k, h⟩ => ⟨dx, kvs, q, k, h.ltt n⟩
  | .dead, _ => trivial
  | .lk _ _, _ => trivial
/-- a dead thing is known to be a locked dict -/
theorem Held.mark (h : Held K F f S H) {n : Nat} (ha : f[n]? = some Z) (hs : S[n]? = some .dead) (e : F Z = some (.frz od (.dT kvs))) (ek : kvs.map (·.1) = ks) (r : IsAll K F f (kvs.map (·.2)) ds) : Held K F f (S.set n (.lk ks ds)) H := by
  have hn : n < S.length := (List.getElem?_eq_some_iff.mp hs).1
  refine ⟨h.ex, by simp [h.len], h.nd, fun m b v h1 h2 nd => ?_, h.so, fun m b v h1 h2 => ?_, fun m b ks' ds' h1 h2 => ?_⟩
  · by_cases hm : m = n
    · subst hm
      rw [List.getElem?_set_self hn] at h2
      cases h2
      cases nd
    · rw [List.getElem?_set_ne (Ne.symm hm)] at h2
      exact h.fr m b v h1 h2 nd
  · by_cases hm : m = n
    · subst hm
      rw [List.getElem?_set_self hn] at h2
      cases h2
      trivial
    · rw [List.getElem?_set_ne (Ne.symm hm)] at h2
      exact h.ob m b v h1 h2
  · by_cases hm : m = n
    · subst hm
      rw [List.getElem?_set_self hn] at h2
      cases h2
      rw [ha] at h1
      cases h1
      exact ⟨od, kvs, e, ek, r⟩
    · rw [List.getElem?_set_ne (Ne.symm hm)] at h2
      exact h.lk m b ks' ds' h1 h2
theorem Held.unlockT (h : Held K F f S H) {n : Nat} {o : O} (ha : f[n]? = some Z) (hs : S[n]? = some o) (e : F Z = some (.frz od (.dT kvs))) (ek : kvs.map (·.1) = ks) (r : IsAll K (DL.dl F Z) f (kvs.map (·.2)) ds) : Held K (DL.dl F Z) f (S.set n (.dct ks ds)) (upd H Z (.dT kvs)) := by
  have hn : n < S.length := (List.getElem?_eq_some_iff.mp hs).1
  refine ⟨fun b v q => ?_, by simp [h.len], h.nd, fun m b v h1 h2 nd => ?_, fun b hb => ?_, fun m b v h1 h2 => ?_, fun m b ks' ds' h1 h2 => ?_⟩
  · have ne : b ≠ Z := fun z => by subst z; unfold DL.dl at q; rw [if_pos rfl] at q; cases q
    rw [upd_ne ne]
    exact h.ex _ _ (dl_sub b v q)
  · by_cases hm : m = n
    · subst hm
      rw [ha] at h1
      cases h1
      unfold DL.dl
      exact if_pos rfl
    · rw [List.getElem?_set_ne (Ne.symm hm)] at h2
      have z := h.fr m b v h1 h2 nd
      unfold DL.dl
      split
      · rfl
      · exact z
  · by_cases q : b = Z
    · subst q
      rw [upd_same]
      exact ⟨_, rfl⟩
    · rw [upd_ne q]
      exact h.so b hb
  · by_cases hm : m = n
    · subst hm
      rw [ha] at h1
      cases h1
      rw [List.getElem?_set_self hn] at h2
      cases h2
      rw [upd_same]
      exact ⟨kvs, rfl, ek, r⟩
    · rw [List.getElem?_set_ne (Ne.symm hm)] at h2
      rw [upd_ne (nd_ne h ha h1 hm)]
      exact (h.ob m b v h1 h2).ltt e
  · by_cases hm : m = n
    · subst hm
      rw [List.getElem?_set_self hn] at h2
      cases h2
    · rw [List.getElem?_set_ne (Ne.symm hm)] at h2
      obtain ⟨od', kvs', e1, e2, r'⟩ := h.lk m b ks' ds' h1 h2
      have ne := nd_ne h ha h1 hm
      refine ⟨od', kvs', ?_, e2, r'.ltt e⟩
      unfold DL.dl
      rw [if_neg ne]
      exact e1
/-- a thing that is there is noted -/
theorem Held.note (h : Held K F f S H) {p : Addr} {xs : List V} (hp : H p = some (.tup xs)) : ∃ F', Ext F f F' f ∧ Held K F' f S H ∧ F' p = some (.tup xs) := by
  cases q : F p with
  | some u =>
    have := h.ex _ _ q
    rw [hp] at this
    cases this
    exact ⟨F, Ext.refl _ _, h, q⟩
  | none =>
    have x : Ext F f (upd F p (.tup xs)) f := ⟨Evl.Ex.new q, List.prefix_rfl⟩
    refine ⟨_, x, ⟨fun a u e => ?_, h.len, h.nd, fun n a u h1 h2 nd => ?_, h.so, fun n a u h1 h2 => (h.ob n a u h1 h2).mono x, fun n a ks ds h1 h2 => let ⟨od, kvs, e1, e2, r⟩ := h.lk n a ks ds h1 h2; ⟨od, kvs, x.ex _ _ e1, e2, r.mono x⟩⟩, upd_same⟩
    · by_cases ha : a = p
      · subst ha
        rw [upd_same] at e
        cases e
        exact hp
      · rw [upd_ne ha] at e
        exact h.ex _ _ e
    · have ne : a ≠ p := fun z => by
        subst z
        have ob := h.ob n a u h1 h2
        rw [hp] at ob
        cases u with
        | lst ds => obtain ⟨vs, e1, _⟩ := ob; cases e1
        | dic ks ds => obtain ⟨vs, e1, _⟩ := ob; cases e1
        | dct ks ds => obtain ⟨vs, e1, _⟩ := ob; cases e1
        | ins C ks ds => obtain ⟨dx, vs, e1, _⟩ := ob; cases e1
        | dead => cases nd
        | lk ks ds => cases nd
      rw [upd_ne ne]
      exact h.fr n a u h1 h2 nd
end
def keyT (k : List Key) : D := .tup (k.map kD)
theorem keys_isAll {K : PySem.W.Frag} {F : Hp} {f : List Addr} : ∀ k : List Key, IsAll K F f (k.map kV) (k.map kD)
  | [] => .nil
  | a :: k => .cons (is_kV a) (keys_isAll k)
theorem items_itkt {K : PySem.W.Frag} {F : Hp} {f : List Addr} {a : Addr} {o : Obj} {kvs : List (List Key × V)} (h : F a = some (.frz o (.dT kvs))) : Items K (Itkt a o kvs) F f ((kvs.map (·.1)).map keyT) := by
  have len : ((kvs.map (·.1)).map keyT).length = kvs.length := by rw [List.length_map, List.length_map]
  refine ⟨fun F2 f2 S2 H2 x hh => ⟨hh.ex _ _ (x.ex _ _ h), by rw [len]; exact Nat.le_refl _⟩, fun i d F2 f2 S2 H2 e x hh => ⟨hh.ex _ _ (x.ex _ _ h), ?_⟩, fun i d F2 f2 S2 H2 v H3 e x hh y => ?_⟩
  · have := (List.getElem?_eq_some_iff.mp e).1
    rw [len] at this
    exact this
  · obtain ⟨rfl, k, v0, q, e1, rfl, hq⟩ := y
    rw [List.getElem?_map, List.getElem?_map, e1] at e
    cases e
    obtain ⟨F3, x3, h3, e3⟩ := hh.note hq
    exact ⟨F3, x3, h3, .tup e3 (keys_isAll k)⟩
def mKeysT (i : Nat) : MA := fun E S => match E.getD i none with
  | some (.loc n) => match S[n]? with
    | some (.lk ks _) => some (ks.map keyT, S)
    | _ => none
  | _ => none
def mLockT (i : Nat) (m : ME) : ME := fun E S => match E.getD i none with
  | some (.loc n) => match S[n]? with
    | some (.dct ks ds) => (m E (S.set n (.lk ks ds))).bind fun q => if q.2.length ≤ n then none else some (q.1, q.2.set n (.dct ks ds))
    | _ => none
  | _ => none
section
variable {X : Cx} {K : PySem.W.Frag} {i : Nat} {t : TE} {m : ME} {e tg : Expr}
theorem env_loc {F H : Hp} {f : List Addr} {S : Sto} {σ : L2.St} {E : Env} {n : Nat} (A : At K F f S H σ E) (en : E.getD i none = some (.loc n)) : ∃ a, σ[i]? = some (some (V.ref a)) ∧ f[n]? = some a := by
  have en' : E[i]? = some (some (.loc n)) := by
    rw [List.getD_eq_getElem?_getD] at en
    cases ee : E[i]? with
    | none => rw [ee] at en; cases en
    | some z => rw [ee] at en; exact congrArg some en
  obtain ⟨v, hv, iv⟩ := A.env i _ en'
  cases iv with
  | loc ha => exact ⟨_, hv, ha⟩
theorem si_keysT : SI K (iKeys (tVar i)) (mKeysT i) := by
  intro F f S H σ E ds S' A h R hR
  unfold mKeysT at h
  split at h
  · rename_i n en
    split at h
    · rename_i ks ds' es
      cases h
      obtain ⟨a, hv, ha⟩ := env_loc A en
      obtain ⟨od, kvs, e1, rfl, r⟩ := A.held.lk n a _ _ ha es
      refine ⟨.ref a, hv, a, od, rfl, .inr ⟨kvs, A.held.ex _ _ e1, ?_⟩⟩
      exact hR _ _ F f (Ext.refl _ _) A.held (items_itkt e1)
    · cases h
  · cases h
theorem i_keysT (hv : DE X e (tVar i) (mVar i)) : DI X tg e (iKeys (tVar i)) (mKeysT i) := ⟨pi_keys hv.pe, si_keysT⟩
theorem se_lockT (h : SE K t m) : SE K (tLockE t) (mLockT i m) := by
  intro F f S H σ E d S' A eq Q q
  unfold mLockT at eq
  split at eq
  · rename_i n en
    split at eq
    · rename_i ks ds es
      obtain ⟨⟨d2, S2⟩, e2, eq⟩ := bind_some' eq
      dsimp only at eq
      by_cases hl : S2.length ≤ n
      · rw [if_pos hl] at eq; cases eq
      · rw [if_neg hl] at eq
        cases eq
        obtain ⟨a, hv, ha⟩ := env_loc A en
        obtain ⟨kvs, e1, rfl, r⟩ := A.held.ob n a _ ha es
        refine ⟨a, .dT kvs, e1, trivial, fun od => ?_⟩
        obtain ⟨h1, x1⟩ := A.held.lock ha es rfl (.frz od (.dT kvs))
        have hn : n < S.length := (List.getElem?_eq_some_iff.mp es).1
        have h1' := h1.mark (od := od) (kvs := kvs) (ks := kvs.map (·.1)) (ds := ds) ha (List.getElem?_set_self hn) upd_same rfl (r.mono x1)
        rw [List.set_set] at h1'
        refine h _ f _ _ σ E _ S2 (A.up x1 h1') e2 _ fun v H2 F2 f2 x2 h2 i2 => ?_
        have x12 := x1.trans x2
        have eF : F2 a = some (.frz od (.dT kvs)) := x2.ex _ _ upd_same
        refine ⟨h2.ex _ _ eF, ?_⟩
        have xx : Ext F f (DL.dl F2 a) f2 := ⟨fun b w eb => by
          have ne : b ≠ a := fun z => by subst z; rw [A.held.fr n b _ ha es rfl] at eb; cases eb
          unfold DL.dl
          rw [if_neg ne]
          exact x12.ex _ _ eb, x12.pre⟩
        have hu := h2.unlockT (ks := kvs.map (·.1)) (ds := ds) (o := S2[n]'(by omega)) (pre_get x2.pre ha) (List.getElem?_eq_getElem (by omega)) eF rfl (r.mono xx)
        exact q v _ _ f2 xx hu (i2.ltt eF)
    · cases eq
  · cases eq
theorem d_lockT (h : DE X e t m) : DE X e (tLockE t) (mLockT i m) := ⟨pe_lock h.pe, se_lockT h.se⟩
def mTNew : ME := fun _ S => some (.loc S.length, S ++ [.dct [] []])
theorem se_tnew : SE K tDNewT mTNew := by
  intro F f S H σ E d S' A eq Q q p hp
  cases eq
  obtain ⟨h2, x2⟩ := A.held.alloc (u := .dT []) (o := .dct [] []) hp ⟨[], rfl, rfl, .nil⟩
  exact q _ _ F _ x2 h2 (.loc (by rw [← A.held.len]; simp))
theorem d_tnew {pos : Pos} : DE X (.Dict [] [] pos) tDNewT mTNew := ⟨pe_dnewT, se_tnew⟩
end
end DL
/-! DM1: what mirrors give: Ok, loops, comprehensions. -/
namespace DL
open PySem L2 PyProof.Rows
def Ok {α : Type} (x : Option α) (P : α → Prop) : Prop := ∃ a, x = some a ∧ P a
section
variable {α β : Type} {P : α → Prop} {Q : β → Prop}
theorem Ok.some {a : α} (h : P a) : Ok (some a) P := ⟨a, rfl, h⟩
theorem Ok.mono {x : Option α} {P' : α → Prop} (h : Ok x P) (l : ∀ a, P a → P' a) : Ok x P' := let ⟨a, e, p⟩ := h; ⟨a, e, l a p⟩
theorem Ok.bind {x : Option α} {f : α → Option β} (h : Ok x fun a => Ok (f a) Q) : Ok (x.bind f) Q := let ⟨a, e, b, e2, q⟩ := h; ⟨b, by rw [e]; exact e2, q⟩
theorem Ok.map {x : Option α} {f : α → β} (h : Ok x fun a => Q (f a)) : Ok (x.map f) Q := let ⟨a, e, q⟩ := h; ⟨f a, by rw [e]; rfl, q⟩
theorem ok_some {a : α} : Ok (Option.some a) P ↔ P a := ⟨fun ⟨_, e, p⟩ => by cases e; exact p, Ok.some⟩
theorem ok_bind {x : Option α} {f : α → Option β} : Ok (x.bind f) Q ↔ Ok x fun a => Ok (f a) Q := ⟨fun ⟨b, e, q⟩ => by
  obtain ⟨a, e1, e2⟩ := bind_some' e
  exact ⟨a, e1, b, e2, q⟩, Ok.bind⟩
theorem ok_map {x : Option α} {f : α → β} : Ok (x.map f) Q ↔ Ok x fun a => Q (f a) := ⟨fun ⟨b, e, q⟩ => by
  obtain ⟨a, e1, e2⟩ := map_some' e
  subst e2
  exact ⟨a, e1, q⟩, Ok.map⟩
end
/-! ### mirrors, one by one -/
section
variable {E : Env} {S : Sto} {P : D × Sto → Prop} {PS : Out × Env × Sto → Prop} {PA : List D × Sto → Prop} {PT : Bool × Sto → Prop}
theorem k_var {i : Nat} {d : D} (e : E.getD i none = some d) (h : P (d, S)) : Ok (mVar i E S) P := ⟨(d, S), by unfold mVar; rw [e]; rfl, h⟩
theorem k_seq {m n : MS} (h : Ok (m E S) fun p => match p.1 with | .nx => Ok (n p.2.1 p.2.2) PS | _ => PS p) : Ok (mSeq m n E S) PS := by
  obtain ⟨⟨o, E1, S1⟩, e, h⟩ := h
  refine Ok.bind ⟨_, e, ?_⟩
  cases o
  · exact h
  all_goals exact Ok.some h
theorem trim_same {n : Nat} {d : D} {S : Sto} (h : S.length ≤ n) : trim n d S = (d, S) := by
  unfold trim
  rw [List.take_of_length_le h]
  split <;> rfl
theorem trim_low {n : Nat} {d : D} {S T : Sto} (h : S.length = n) (hd : d.low n = true) (hs : S.all (fun o => o.low n) = true) : trim n d (S ++ T) = (d, S) := by
  unfold trim
  have e : (S ++ T).take n = S := by rw [List.take_append_of_le_length (by omega), List.take_of_length_le (by omega)]
  rw [if_pos ⟨hd, by rw [e]; exact hs⟩, e]
theorem k_fn {n : Nat} {m : MS} {ds : List D} {S : Sto} (h : Ok (m (ds.map some ++ List.replicate (n - ds.length) none) S) fun p => match p.1 with
    | .rt d => P (trim S.length d p.2.2)
    | .nx => P (trim S.length .non p.2.2)
    | _ => False) : Ok (fnM n m ds S) P := by
  obtain ⟨⟨o, E1, S1⟩, e, h⟩ := h
  refine Ok.bind ⟨_, e, ?_⟩
  cases o <;> first | exact Ok.some h | exact h.elim
/-- loops: J before the i-th turn -/
theorem k_forL {g : MG} {b : MS} {ds : List D} (J : Nat → Env → Sto → Prop) (hs : ∀ i d E S, ds[i]? = some d → J i E S → Ok (g d E S) fun p => Ok (b p.1 p.2) fun q => match q.1 with
    | .nx => J (i + 1) q.2.1 q.2.2
    | .ct => J (i + 1) q.2.1 q.2.2
    | .bk => PS (.nx, q.2.1, q.2.2)
    | .rt d => PS (.rt d, q.2.1, q.2.2)) (hd : ∀ E S, J ds.length E S → PS (.nx, E, S)) : ∀ (i : Nat) (E : Env) (S : Sto), i ≤ ds.length → J i E S → Ok (forL g b (ds.drop i) E S) PS := by
  have main : ∀ (k i : Nat) (E : Env) (S : Sto), ds.length - i = k → i ≤ ds.length → J i E S → Ok (forL g b (ds.drop i) E S) PS := by
    intro k
    induction k with
    | zero =>
      intro i E S hk hi j
      rw [List.drop_of_length_le (by omega)]
      have e : i = ds.length := by omega
      subst e
      exact Ok.some (hd E S j)
    | succ k ih =>
      intro i E S hk hi j
      have hlt : i < ds.length := by omega
      rw [List.drop_eq_getElem_cons hlt]
      obtain ⟨⟨E1, S1⟩, e1, ⟨o, E2, S2⟩, e2, h⟩ := hs i _ E S (List.getElem?_eq_getElem hlt) j
      refine Ok.bind ⟨_, e1, Ok.bind ⟨_, e2, ?_⟩⟩
      cases o with
      | nx => exact ih (i + 1) E2 S2 (by omega) hlt h
      | ct => exact ih (i + 1) E2 S2 (by omega) hlt h
      | bk => exact Ok.some h
      | rt d => exact Ok.some h
  exact fun i E S => main _ i E S rfl
theorem k_for {mi : MA} {g : MG} {b : MS} {ds : List D} {S1 : Sto} (hi : mi E S = some (ds, S1)) (J : Nat → Env → Sto → Prop) (h0 : J 0 E S1) (hs : ∀ i d E S, ds[i]? = some d → J i E S → Ok (g d E S) fun p => Ok (b p.1 p.2) fun q => match q.1 with
    | .nx => J (i + 1) q.2.1 q.2.2
    | .ct => J (i + 1) q.2.1 q.2.2
    | .bk => PS (.nx, q.2.1, q.2.2)
    | .rt d => PS (.rt d, q.2.1, q.2.2)) (hd : ∀ E S, J ds.length E S → PS (.nx, E, S)) : Ok (mFor mi g b E S) PS := Ok.bind ⟨_, hi, k_forL J hs hd 0 E S1 (Nat.zero_le _) h0⟩
/-- comprehensions: the store ahead of the new list keeps its length -/
theorem k_comp {mi : MA} {g : MG} {t : MT} {e : ME} {vs : List Nat} {ds : List D} {S1 : Sto} (hi : mi E S = some (ds, S1)) (J : Nat → List D → Sto → Prop) (h0 : J 0 [] S1) (hz : ds.length ≤ sizeLine)
    (hs : ∀ i d acc T, ds[i]? = some d → acc.length ≤ i → T.length = S1.length → J i acc T → Ok (g d (wipeE E vs) (T ++ [.lst acc])) fun p => Ok (t p.1 p.2) fun q => if q.1 = true then Ok (e p.1 q.2) (fun r => ∃ T', r.2 = T' ++ [.lst acc] ∧ T'.length = S1.length ∧ J (i + 1) (acc ++ [r.1]) T') else ∃ T', q.2 = T' ++ [.lst acc] ∧ T'.length = S1.length ∧ J (i + 1) acc T')
    (hl : ∀ acc T, T.length = S1.length → acc.length ≤ ds.length → J ds.length acc T → lowAll S1.length acc = true ∧ T.all (fun o => o.low S1.length) = true ∧ P (.lst acc, T)) : Ok (mComp mi g t e vs E S) P := by
  have main : ∀ (k i : Nat) (acc : List D) (T : Sto), ds.length - i = k → i ≤ ds.length → acc.length ≤ i → T.length = S1.length → J i acc T → Ok (compL g t e (wipeE E vs) S1.length (ds.drop i) (T ++ [.lst acc])) fun S2 => ∃ acc T, S2 = T ++ [.lst acc] ∧ T.length = S1.length ∧ acc.length ≤ ds.length ∧ J ds.length acc T := by
    intro k
    induction k with
    | zero =>
      intro i acc T hk hi ha hT j
      rw [List.drop_of_length_le (by omega)]
      have e : i = ds.length := by omega
      subst e
      exact Ok.some ⟨acc, T, rfl, hT, ha, j⟩
    | succ k ih =>
      intro i acc T hk hi ha hT j
      have hlt : i < ds.length := by omega
      rw [List.drop_eq_getElem_cons hlt]
      obtain ⟨⟨E1, S2⟩, e1, ⟨b, S3⟩, e2, h⟩ := hs i _ acc T (List.getElem?_eq_getElem hlt) ha hT j
      refine Ok.bind ⟨_, e1, Ok.bind ⟨_, e2, ?_⟩⟩
      cases b with
      | true =>
        rw [if_pos rfl] at h
        show Ok (if true = true then _ else _) _
        rw [if_pos rfl]
        obtain ⟨⟨y, S4⟩, e3, T', e4, hT', j'⟩ := h
        refine Ok.bind ⟨_, e3, ?_⟩
        simp only at e4
        subst e4
        have ge : (T' ++ [O.lst acc])[S1.length]? = some (.lst acc) := by rw [← hT']; simp
        simp only [ge]
        rw [if_pos (by omega)]
        have se : (T' ++ [O.lst acc]).set S1.length (.lst (acc ++ [y])) = T' ++ [.lst (acc ++ [y])] := by rw [← hT']; simp
        rw [se]
        exact ih (i + 1) (acc ++ [y]) T' (by omega) hlt (by simp; omega) hT' j'
      | false =>
        rw [if_neg Bool.false_ne_true] at h
        show Ok (if false = true then _ else _) _
        rw [if_neg Bool.false_ne_true]
        obtain ⟨T', e4, hT', j'⟩ := h
        simp only at e4
        subst e4
        exact ih (i + 1) acc T' (by omega) hlt (by omega) hT' j'
  refine Ok.bind ⟨_, hi, Ok.map ?_⟩
  obtain ⟨S2, e2, acc, T, rfl, hT, ha, j⟩ := main _ 0 [] S1 rfl (Nat.zero_le _) (Nat.le_refl _) rfl h0
  obtain ⟨l1, l2, p⟩ := hl acc T hT ha j
  refine ⟨_, e2, ?_⟩
  have ge : (T ++ [O.lst acc])[S1.length]? = some (.lst acc) := by rw [← hT]; simp
  have fe : frz (.loc S1.length) (T ++ [O.lst acc]) = (.lst acc, T ++ [.dead]) := by
    unfold frz
    simp only [ge]
    congr 1
    rw [← hT]; simp
  simp only [fe]
  rw [trim_low hT (by simpa only [D.low] using l1) l2]
  exact p
end
end DL
namespace Law
open PySem L2 PyProof.Rows DL
def top (i : Nat) : Stmt := PySem.Challenge.pw_pacehouse_k13_open_stands.main.body.getD i (.Pass ⟨0, 0, 0, 0⟩)
structure Txt (K : PySem.W.Frag) (mg : Str → Option Value) (C : Addr) (f_Rules_init : Addr) (fd_Rules_init : FuncData) (t_ALPHABET t_MOST_STATES : Tok) : Prop where
  b_bool : mg "bool" = none
  b_enumerate : mg "enumerate" = none
  b_int : mg "int" = none
  b_isinstance : mg "isinstance" = none
  b_len : mg "len" = none
  b_range : mg "range" = none
  b_repr : mg "repr" = none
  b_set : mg "set" = none
  b_sorted : mg "sorted" = none
  b_str : mg "str" = none
  b_tuple : mg "tuple" = none
  cl : Cls K C
  n_heard : NoAttr K C "heard"
  n_rows : NoAttr K C "rows"
  n_written : NoAttr K C "written"
  c_ALPHABET : mg "ALPHABET" = some (.str "abcdefghijklmnopqrstuvwxyz" t_ALPHABET)
  c_MOST_STATES : mg "MOST_STATES" = some (.int 999 t_MOST_STATES)
  mk_Rules : Mk K C f_Rules_init
  g_Rules : mg "Rules" = some (.ref C)
  bi_Rules : Binds K fd_Rules_init ["self", "heard", "written", "rows"] []
section
variable {P : Program} {w : World} {K : PySem.W.Frag} {mg : Str → Option Value} {base : Heap} {C : Addr}
variable {f_Rules_init : Addr} {fd_Rules_init : FuncData}
variable {t_ALPHABET t_MOST_STATES : Tok}
/-! ### is_integer -/
abbrev s_is_integer : Stmt := top 17
theorem sc_is_integer : FnScope ["thing"] ["thing"] (defScope s_is_integer) := ⟨rfl, rfl, rfl, by decide +kernel, rfl, by decide +kernel, by decide +kernel⟩
def M_is_integer : MS :=
    mRet (mAndV (mBlt gIsi (mCons (mVar 0) (mCons (mC (.ty "int")) (mNil)))) (mNotV (mBlt gIsi (mCons (mVar 0) (mCons (mC (.ty "bool")) (mNil))))))
def F_is_integer : MF := fnM 1 (M_is_integer)
theorem ok_is_integer (T : Txt K mg C f_Rules_init fd_Rules_init t_ALPHABET t_MOST_STATES) (D : Df K mg "is_integer" s_is_integer ["thing"]) : Cal P w K mg base "is_integer" 1 1 F_is_integer := by
  unfold F_is_integer M_is_integer
  exact cal_ok D sc_is_integer fun cdv A fr s H hr hgd => ⟨_, (b_one (s_ret (d_and (d_callB call_isi rc_isi rfl T.b_isinstance bt_isinstance (a_cons (dv 0) (a_cons (d_ty rfl T.b_int bt_int) a_nil))) (d_one (d_not (d_callB call_isi rc_isi rfl T.b_isinstance bt_isinstance (a_cons (dv 0) (a_cons (d_ty rfl T.b_bool bt_bool) a_nil))))))))⟩

/-! ### is_number -/
abbrev s_is_number : Stmt := top 18
theorem sc_is_number : FnScope ["thing"] ["thing"] (defScope s_is_number) := ⟨rfl, rfl, rfl, by decide +kernel, rfl, by decide +kernel, by decide +kernel⟩
def M_is_number : MS :=
    mRet (mAndV (mCall 1 F_is_integer (mCons (mVar 0) (mNil))) (mOp gGe (mVar 0) (mC (.int 0))))
def F_is_number : MF := fnM 1 (M_is_number)
theorem ok_is_number (T : Txt K mg C f_Rules_init fd_Rules_init t_ALPHABET t_MOST_STATES) (ok_is_integer : Cal P w K mg base "is_integer" 1 1 F_is_integer) (D : Df K mg "is_number" s_is_number ["thing"]) : Cal P w K mg base "is_number" 2 1 F_is_number := by
  unfold F_is_number M_is_number
  exact cal_ok D sc_is_number fun cdv A fr s H hr hgd => ⟨_, (b_one (s_ret (d_and (d_cal ok_is_integer (hr.mono (by decide)) hgd rfl (a_cons (dv 0) a_nil)) (d_one (e_ge (dv 0) d_int)))))⟩

/-! ### is_index -/
abbrev s_is_index : Stmt := top 19
theorem sc_is_index : FnScope ["thing", "many"] ["thing", "many"] (defScope s_is_index) := ⟨rfl, rfl, rfl, by decide +kernel, rfl, by decide +kernel, by decide +kernel⟩
def M_is_index : MS :=
    mRet (mAndV (mCall 1 F_is_number (mCons (mVar 0) (mNil))) (mOp gLt (mVar 0) (mVar 1)))
def F_is_index : MF := fnM 2 (M_is_index)
theorem ok_is_index (T : Txt K mg C f_Rules_init fd_Rules_init t_ALPHABET t_MOST_STATES) (ok_is_number : Cal P w K mg base "is_number" 2 1 F_is_number) (D : Df K mg "is_index" s_is_index ["thing", "many"]) : Cal P w K mg base "is_index" 3 2 F_is_index := by
  unfold F_is_index M_is_index
  exact cal_ok D sc_is_index fun cdv A fr s H hr hgd => ⟨_, (b_one (s_ret (d_and (d_cal ok_is_number (hr.mono (by decide)) hgd rfl (a_cons (dv 0) a_nil)) (d_one (e_lt (dv 0) (dv 1))))))⟩

/-! ### is_tuple_of -/
abbrev s_is_tuple_of : Stmt := top 20
theorem sc_is_tuple_of : FnScope ["thing", "many"] ["thing", "many"] (defScope s_is_tuple_of) := ⟨rfl, rfl, rfl, by decide +kernel, rfl, by decide +kernel, by decide +kernel⟩
def M_is_tuple_of : MS :=
    mRet (mAndV (mBlt gIsi (mCons (mVar 0) (mCons (mC (.ty "tuple")) (mNil)))) (mOp gEq (mBlt gLenS (mCons (mVar 0) (mNil))) (mVar 1)))
def F_is_tuple_of : MF := fnM 2 (M_is_tuple_of)
theorem ok_is_tuple_of (T : Txt K mg C f_Rules_init fd_Rules_init t_ALPHABET t_MOST_STATES) (D : Df K mg "is_tuple_of" s_is_tuple_of ["thing", "many"]) : Cal P w K mg base "is_tuple_of" 1 2 F_is_tuple_of := by
  unfold F_is_tuple_of M_is_tuple_of
  exact cal_ok D sc_is_tuple_of fun cdv A fr s H hr hgd => ⟨_, (b_one (s_ret (d_and (d_callB call_isi rc_isi rfl T.b_isinstance bt_isinstance (a_cons (dv 0) (a_cons (d_ty rfl T.b_tuple bt_tuple) a_nil))) (d_one (e_eq hr (d_callB call_len rc_len rfl T.b_len bt_len (a_cons (dv 0) a_nil)) (dv 1))))))⟩

/-! ### is_text -/
abbrev s_is_text : Stmt := top 21
theorem sc_is_text : FnScope ["thing", "letters", "letter"] ["thing", "letters"] (defScope s_is_text) := ⟨rfl, rfl, rfl, by decide +kernel, rfl, by decide +kernel, by decide +kernel⟩
def M_is_text : MS :=
    mSeq (mIfS (mNot (mTest (mBlt gIsi (mCons (mVar 0) (mCons (mC (.ty "str")) (mNil)))))) (mRet (mC (.bl false))) (mNext))
    (mSeq (mFor (mSeqI (mVar 0)) (mgName 2) (mIfS (mTest (mOp gNinS (mVar 2) (mVar 1))) (mRet (mC (.bl false))) (mNext)))
    (mRet (mC (.bl true))))
def F_is_text : MF := fnM 3 (M_is_text)
theorem ok_is_text (T : Txt K mg C f_Rules_init fd_Rules_init t_ALPHABET t_MOST_STATES) (D : Df K mg "is_text" s_is_text ["thing", "letters"]) : Cal P w K mg base "is_text" 1 2 F_is_text := by
  unfold F_is_text M_is_text
  exact cal_ok D sc_is_text fun cdv A fr s H hr hgd => ⟨_, (b_cons (s_if (t_not (t_val (d_callB call_isi rc_isi rfl T.b_isinstance bt_isinstance (a_cons (dv 0) (a_cons (d_ty rfl T.b_str bt_str) a_nil))))) (b_one (s_ret d_bl)) b_nil)
      (b_cons (s_for PassesOwn.never rfl (i_seq (dv 0)) (g_name (i := 2) sc_is_text.nd rfl (Or.inl rfl)) (b_one (s_if (t_ninS (dv 2) (dv 1)) (b_one (s_ret d_bl)) b_nil)))
      (b_one (s_ret d_bl))))⟩

/-! ### is_letter -/
abbrev s_is_letter : Stmt := top 22
theorem sc_is_letter : FnScope ["thing", "letters"] ["thing", "letters"] (defScope s_is_letter) := ⟨rfl, rfl, rfl, by decide +kernel, rfl, by decide +kernel, by decide +kernel⟩
def M_is_letter : MS :=
    mRet (mAndV (mCall 2 F_is_text (mCons (mVar 0) (mCons (mVar 1) (mNil)))) (mOp gEq (mBlt gLenS (mCons (mVar 0) (mNil))) (mC (.int 1))))
def F_is_letter : MF := fnM 2 (M_is_letter)
theorem ok_is_letter (T : Txt K mg C f_Rules_init fd_Rules_init t_ALPHABET t_MOST_STATES) (ok_is_text : Cal P w K mg base "is_text" 1 2 F_is_text) (D : Df K mg "is_letter" s_is_letter ["thing", "letters"]) : Cal P w K mg base "is_letter" 2 2 F_is_letter := by
  unfold F_is_letter M_is_letter
  exact cal_ok D sc_is_letter fun cdv A fr s H hr hgd => ⟨_, (b_one (s_ret (d_and (d_cal ok_is_text (hr.mono (by decide)) hgd rfl (a_cons (dv 0) (a_cons (dv 1) a_nil))) (d_one (e_eq hr (d_callB call_len rc_len rfl T.b_len bt_len (a_cons (dv 0) a_nil)) d_int)))))⟩

/-! ### is_ascending -/
abbrev s_is_ascending : Stmt := top 23
theorem sc_is_ascending : FnScope ["things", "place"] ["things"] (defScope s_is_ascending) := ⟨rfl, rfl, rfl, by decide +kernel, rfl, by decide +kernel, by decide +kernel⟩
def M_is_ascending : MS :=
    mSeq (mFor (mRng2 (mCons (mC (.int 1)) (mCons (mBlt gLenS (mCons (mVar 0) (mNil))) (mNil)))) (mgName 1) (mIfS (mNot (mTest (mOp gLtX (mOp gIx (mVar 0) (mOp gSub (mVar 1) (mC (.int 1)))) (mOp gIx (mVar 0) (mVar 1))))) (mRet (mC (.bl false))) (mNext)))
    (mRet (mC (.bl true)))
def F_is_ascending : MF := fnM 2 (M_is_ascending)
theorem ok_is_ascending (T : Txt K mg C f_Rules_init fd_Rules_init t_ALPHABET t_MOST_STATES) (D : Df K mg "is_ascending" s_is_ascending ["things"]) : Cal P w K mg base "is_ascending" 1 1 F_is_ascending := by
  unfold F_is_ascending M_is_ascending
  exact cal_ok D sc_is_ascending fun cdv A fr s H hr hgd => ⟨_, (b_cons (s_for PassesOwn.never rfl (i_rng2 rfl T.b_range (a_cons d_int (a_cons (d_callB call_len rc_len rfl T.b_len bt_len (a_cons (dv 0) a_nil)) a_nil))) (g_name (i := 1) sc_is_ascending.nd rfl (Or.inl rfl)) (b_one (s_if (t_not (t_ltX (d_ix (dv 0) (d_sub (dv 1) d_int)) (d_ix (dv 0) (dv 1)))) (b_one (s_ret d_bl)) b_nil)))
      (b_one (s_ret d_bl)))⟩

/-! ### are_letters -/
abbrev s_are_letters : Stmt := top 24
theorem sc_are_letters : FnScope ["thing"] ["thing"] (defScope s_are_letters) := ⟨rfl, rfl, rfl, by decide +kernel, rfl, by decide +kernel, by decide +kernel⟩
def M_are_letters : MS :=
    mRet (mAndV (mCall 2 F_is_text (mCons (mVar 0) (mCons (mC (.str "abcdefghijklmnopqrstuvwxyz")) (mNil)))) (mAndV (mOp gNe (mVar 0) (mC (.str ""))) (mCall 1 F_is_ascending (mCons (mVar 0) (mNil)))))
def F_are_letters : MF := fnM 1 (M_are_letters)
theorem ok_are_letters (T : Txt K mg C f_Rules_init fd_Rules_init t_ALPHABET t_MOST_STATES) (ok_is_ascending : Cal P w K mg base "is_ascending" 1 1 F_is_ascending) (ok_is_text : Cal P w K mg base "is_text" 1 2 F_is_text) (D : Df K mg "are_letters" s_are_letters ["thing"]) : Cal P w K mg base "are_letters" 2 1 F_are_letters := by
  unfold F_are_letters M_are_letters
  exact cal_ok D sc_are_letters fun cdv A fr s H hr hgd => ⟨_, (b_one (s_ret (d_and (d_cal ok_is_text (hr.mono (by decide)) hgd rfl (a_cons (dv 0) (a_cons (d_glob (v := .str "abcdefghijklmnopqrstuvwxyz") rfl T.c_ALPHABET ⟨_, rfl⟩ fun _ _ => .str _) a_nil))) (d_and (e_ne hr (dv 0) d_str) (d_one (d_cal ok_is_ascending (hr.mono (by decide)) hgd rfl (a_cons (dv 0) a_nil)))))))⟩

/-! ### is_move -/
abbrev s_is_move : Stmt := top 48
theorem sc_is_move : FnScope ["thing", "heard", "written", "many"] ["thing", "heard", "written", "many"] (defScope s_is_move) := ⟨rfl, rfl, rfl, by decide +kernel, rfl, by decide +kernel, by decide +kernel⟩
def M_is_move : MS :=
    mSeq (mIfS (mNot (mTest (mCall 2 F_is_tuple_of (mCons (mVar 0) (mCons (mC (.int 3)) (mNil)))))) (mRet (mC (.bl false))) (mNext))
    (mRet (mAndV (mCall 2 F_is_letter (mCons (mOp gIx (mVar 0) (mC (.int 0))) (mCons (mVar 1) (mNil)))) (mAndV (mCall 2 F_is_letter (mCons (mOp gIx (mVar 0) (mC (.int 1))) (mCons (mVar 2) (mNil)))) (mCall 2 F_is_index (mCons (mOp gIx (mVar 0) (mC (.int 2))) (mCons (mVar 3) (mNil)))))))
def F_is_move : MF := fnM 4 (M_is_move)
theorem ok_is_move (T : Txt K mg C f_Rules_init fd_Rules_init t_ALPHABET t_MOST_STATES) (ok_is_index : Cal P w K mg base "is_index" 3 2 F_is_index) (ok_is_letter : Cal P w K mg base "is_letter" 2 2 F_is_letter) (ok_is_tuple_of : Cal P w K mg base "is_tuple_of" 1 2 F_is_tuple_of) (D : Df K mg "is_move" s_is_move ["thing", "heard", "written", "many"]) : Cal P w K mg base "is_move" 4 4 F_is_move := by
  unfold F_is_move M_is_move
  exact cal_ok D sc_is_move fun cdv A fr s H hr hgd => ⟨_, (b_cons (s_if (t_not (t_val (d_cal ok_is_tuple_of (hr.mono (by decide)) hgd rfl (a_cons (dv 0) (a_cons d_int a_nil))))) (b_one (s_ret d_bl)) b_nil)
      (b_one (s_ret (d_and (d_cal ok_is_letter (hr.mono (by decide)) hgd rfl (a_cons (d_ix (dv 0) d_int) (a_cons (dv 1) a_nil))) (d_and (d_cal ok_is_letter (hr.mono (by decide)) hgd rfl (a_cons (d_ix (dv 0) d_int) (a_cons (dv 2) a_nil))) (d_one (d_cal ok_is_index (hr.mono (by decide)) hgd rfl (a_cons (d_ix (dv 0) d_int) (a_cons (dv 3) a_nil)))))))))⟩

/-! ### is_row -/
abbrev s_is_row : Stmt := top 47
theorem sc_is_row : FnScope ["thing", "heard", "written", "many", "last", "move"] ["thing", "heard", "written", "many"] (defScope s_is_row) := ⟨rfl, rfl, rfl, by decide +kernel, rfl, by decide +kernel, by decide +kernel⟩
def M_is_row : MS :=
    mSeq (mIfS (mNot (mTest (mBlt gIsi (mCons (mVar 0) (mCons (mC (.ty "tuple")) (mNil)))))) (mRet (mC (.bl false))) (mNext))
    (mSeq (mAsg (mTup (mCons (mC (.str "")) (mCons (mC (.str "")) (mNil)))) (mgName 4))
    (mSeq (mFor (mSeqI (mVar 0)) (mgName 5) (mSeq (mIfS (mOr (mNot (mTest (mCall 4 F_is_move (mCons (mVar 5) (mCons (mVar 1) (mCons (mVar 2) (mCons (mVar 3) (mNil)))))))) (mTest (mOp gLeP (mSl (mVar 5) (mNoPart) (mPart (mC (.int 2)))) (mVar 4)))) (mRet (mC (.bl false))) (mNext))
    (mAsg (mSl (mVar 5) (mNoPart) (mPart (mC (.int 2)))) (mgName 4))))
    (mRet (mC (.bl true)))))
def F_is_row : MF := fnM 6 (M_is_row)
theorem ok_is_row (T : Txt K mg C f_Rules_init fd_Rules_init t_ALPHABET t_MOST_STATES) (ok_is_move : Cal P w K mg base "is_move" 4 4 F_is_move) (D : Df K mg "is_row" s_is_row ["thing", "heard", "written", "many"]) : Cal P w K mg base "is_row" 5 4 F_is_row := by
  unfold F_is_row M_is_row
  exact cal_ok D sc_is_row fun cdv A fr s H hr hgd => ⟨_, (b_cons (s_if (t_not (t_val (d_callB call_isi rc_isi rfl T.b_isinstance bt_isinstance (a_cons (dv 0) (a_cons (d_ty rfl T.b_tuple bt_tuple) a_nil))))) (b_one (s_ret d_bl)) b_nil)
      (b_cons (s_set (i := 4) sc_is_row.nd rfl (Or.inl rfl) (d_tup (a_cons d_str (a_cons d_str a_nil))))
      (b_cons (s_for PassesOwn.never rfl (i_seq (dv 0)) (g_name (i := 5) sc_is_row.nd rfl (Or.inl rfl)) (b_cons (s_if (t_w (w_or (t_not (t_val (d_cal ok_is_move (hr.mono (by decide)) hgd rfl (a_cons (dv 5) (a_cons (dv 1) (a_cons (dv 2) (a_cons (dv 3) a_nil))))))) (w_or1 (t_leP hr.units0 (d_sl (dv 5) o_none (o_some d_int)) (dv 4))))) (b_one (s_ret d_bl)) b_nil)
      (b_one (s_set (i := 4) sc_is_row.nd rfl (Or.inl rfl) (d_sl (dv 5) o_none (o_some d_int))))))
      (b_one (s_ret d_bl)))))⟩

/-! ### Rules.__init__ -/
abbrev s_Rules_init : Stmt := inClass (top 50) 0
theorem sc_Rules_init : FnScope ["self", "heard", "written", "rows", "state", "row"] ["self", "heard", "written", "rows"] (defScope s_Rules_init) := ⟨rfl, rfl, rfl, by decide +kernel, rfl, by decide +kernel, by decide +kernel⟩
def M_Rules_init (C : Addr) : MS :=
    mSeq (mIfS (mNot (mTest (mCall 1 F_are_letters (mCons (mVar 1) (mNil))))) (mNever) (mNext))
    (mSeq (mIfS (mNot (mTest (mCall 1 F_are_letters (mCons (mVar 2) (mNil))))) (mNever) (mNext))
    (mSeq (mIfS (mOr (mNot (mTest (mBlt gIsi (mCons (mVar 3) (mCons (mC (.ty "tuple")) (mNil)))))) (mNot (mTest (mChain gLe gLe (mC (.int 1)) (mBlt gLenS (mCons (mVar 3) (mNil))) (mC (.int 999)))))) (mNever) (mNext))
    (mSeq (mFor (mEnumerate (mCons (mVar 3) (mNil))) (mgTup 2 (mgCons (mgName 4) (mgCons (mgName 5) (mgNil)))) (mIfS (mNot (mTest (mCall 4 F_is_row (mCons (mVar 5) (mCons (mVar 1) (mCons (mVar 2) (mCons (mBlt gLenS (mCons (mVar 3) (mNil))) (mNil)))))))) (mNever) (mNext)))
    (mSeq (mSetF C "heard" (mVar 0) (mVar 1))
    (mSeq (mSetF C "written" (mVar 0) (mVar 2))
    (mSetF C "rows" (mVar 0) (mVar 3)))))))
def F_Rules_init (C : Addr) : MF := fnM 6 (M_Rules_init C)
theorem ok_Rules_init {f : Addr} {fd : FuncData} (T : Txt K mg C f_Rules_init fd_Rules_init t_ALPHABET t_MOST_STATES) (ok_are_letters : Cal P w K mg base "are_letters" 2 1 F_are_letters) (ok_is_row : Cal P w K mg base "is_row" 5 4 F_is_row) (D : Fun K "__init__" "Rules.__init__" s_Rules_init f fd) : FnG P w K mg base 6 f fd ["self", "heard", "written", "rows"] 4 (F_Rules_init C) := by
  unfold F_Rules_init M_Rules_init
  exact fn_ok D sc_Rules_init fun cdv A fr s H hr hgd => ⟨_, (b_cons (s_if (t_not (t_val (d_cal ok_are_letters (hr.mono (by decide)) hgd rfl (a_cons (dv 1) a_nil)))) b_never b_nil)
      (b_cons (s_if (t_not (t_val (d_cal ok_are_letters (hr.mono (by decide)) hgd rfl (a_cons (dv 2) a_nil)))) b_never b_nil)
      (b_cons (s_if (t_w (w_or (t_not (t_val (d_callB call_isi rc_isi rfl T.b_isinstance bt_isinstance (a_cons (dv 3) (a_cons (d_ty rfl T.b_tuple bt_tuple) a_nil))))) (w_or1 (t_not (t_chain op_le ro_intB op_le ro_intB d_int (d_callB call_len rc_len rfl T.b_len bt_len (a_cons (dv 3) a_nil)) (d_glob (v := .int 999) rfl T.c_MOST_STATES ⟨_, rfl⟩ fun _ _ => .int _)))))) b_never b_nil)
      (b_cons (s_for PassesOwn.never rfl (i_enumerate rfl T.b_enumerate (a_cons (dv 3) a_nil)) (g_tup rfl (gs_cons (g_name (i := 4) sc_Rules_init.nd rfl (Or.inl rfl)) (gs_cons (g_name (i := 5) sc_Rules_init.nd rfl (Or.inl rfl)) gs_nil))) (b_one (s_if (t_not (t_val (d_cal ok_is_row (hr.mono (by decide)) hgd rfl (a_cons (dv 5) (a_cons (dv 1) (a_cons (dv 2) (a_cons (d_callB call_len rc_len rfl T.b_len bt_len (a_cons (dv 3) a_nil)) a_nil))))))) b_never b_nil)))
      (b_cons (s_setF T.cl T.n_heard (dv 0) (dv 1))
      (b_cons (s_setF T.cl T.n_written (dv 0) (dv 2))
      (b_one (s_setF T.cl T.n_rows (dv 0) (dv 3)))))))))⟩

/-! ### letter_relation -/
abbrev s_letter_relation : Stmt := top 9
theorem sc_letter_relation : FnScope ["rules", "letter", "row", "h", "_", "after"] ["rules", "letter"] (defScope s_letter_relation) := ⟨rfl, rfl, rfl, by decide +kernel, rfl, by decide +kernel, by decide +kernel⟩
def M_letter_relation (C : Addr) : MS :=
    mRet (mBlt gTupC (mCons (mComp (mSeqI (mFld C "rows" (mVar 0))) (mgName 2) (mYes) (mBlt gTupC (mCons (mSortG (mSeqI (mVar 2)) (mgTup 3 (mgCons (mgName 3) (mgCons (mgName 4) (mgCons (mgName 5) (mgNil))))) (mTest (mOp gEq (mVar 3) (mVar 1))) (mPutI (mVar 5)) [3, 4, 5]) (mNil))) [2]) (mNil)))
def F_letter_relation (C : Addr) : MF := fnM 6 (M_letter_relation C)
theorem ok_letter_relation (T : Txt K mg C f_Rules_init fd_Rules_init t_ALPHABET t_MOST_STATES) (D : Df K mg "letter_relation" s_letter_relation ["rules", "letter"]) : Cal P w K mg base "letter_relation" 1 2 (F_letter_relation C) := by
  unfold F_letter_relation M_letter_relation
  exact cal_ok D sc_letter_relation fun cdv A fr s H hr hgd => ⟨_, (b_one (s_ret (d_callTy call_tuple_of rc_tup rfl T.b_tuple bt_tuple (a_cons (f_comp (own := [("row", 2)]) rfl sc_letter_relation.nd (i_seq (d_fld T.cl T.n_rows (dv 0))) (blkOk_by (by first | decide +kernel | kernel_rfl)) (fun _ _ _ _ _ => (gw_name (i := 2) (by decide) sc_letter_relation.nd rfl (by first | exact Or.inl rfl | exact Or.inr rfl))) (fun _ _ _ _ _ => ts_nil) (fun _ _ _ _ _ => (d_callTy call_tuple_of rc_tup rfl T.b_tuple bt_tuple (a_cons (f_sortSc (own := [("h", 3), ("_", 4), ("after", 5)]) rfl sc_letter_relation.nd rfl T.b_sorted (i_seq (dv 2)) (blkOk_by (by first | decide +kernel | kernel_rfl)) (fun _ _ _ _ _ => (gw_tup rfl (gsw_cons (gw_name (i := 3) (by decide) sc_letter_relation.nd rfl (by first | exact Or.inl rfl | exact Or.inr rfl)) (gsw_cons (gw_name (i := 4) (by decide) sc_letter_relation.nd rfl (by first | exact Or.inl rfl | exact Or.inr rfl)) (gsw_cons (gw_name (i := 5) (by decide) sc_letter_relation.nd rfl (by first | exact Or.inl rfl | exact Or.inr rfl)) gsw_nil))))) (fun _ _ _ _ _ => (ts_one (t_eq hr (dv 3) (dv 1)))) (fun _ _ _ _ _ => (dv 5))) a_nil)))) a_nil))))⟩

/-! ### letter_relations -/
abbrev s_letter_relations : Stmt := top 8
theorem sc_letter_relations : FnScope ["rules", "letter"] ["rules"] (defScope s_letter_relations) := ⟨rfl, rfl, rfl, by decide +kernel, rfl, by decide +kernel, by decide +kernel⟩
def M_letter_relations (C : Addr) : MS :=
    mRet (mDComp (mSeqI (mFld C "heard" (mVar 0))) (mgName 1) (mYes) (mVar 1) (mCall 2 (F_letter_relation C) (mCons (mVar 0) (mCons (mVar 1) (mNil)))) [1])
def F_letter_relations (C : Addr) : MF := fnM 2 (M_letter_relations C)
theorem ok_letter_relations (T : Txt K mg C f_Rules_init fd_Rules_init t_ALPHABET t_MOST_STATES) (ok_letter_relation : Cal P w K mg base "letter_relation" 1 2 (F_letter_relation C)) (D : Df K mg "letter_relations" s_letter_relations ["rules"]) : Cal P w K mg base "letter_relations" 2 1 (F_letter_relations C) := by
  unfold F_letter_relations M_letter_relations
  exact cal_ok D sc_letter_relations fun cdv A fr s H hr hgd => ⟨_, (b_one (s_ret (f_dcomp (own := [("letter", 1)]) rfl sc_letter_relations.nd (i_seq (d_fld T.cl T.n_heard (dv 0))) (blkOk_by (by first | decide +kernel | kernel_rfl)) (fun _ _ _ _ _ => (gw_name (i := 1) (by decide) sc_letter_relations.nd rfl (by first | exact Or.inl rfl | exact Or.inr rfl))) (fun _ _ _ _ _ => ts_nil) (fun _ _ _ _ _ => (dv 1)) (fun _ _ _ _ _ => (d_cal ok_letter_relation (hr.mono (by decide)) hgd rfl (a_cons (dv 0) (a_cons (dv 1) a_nil)))))))⟩

/-! ### followed -/
abbrev s_followed : Stmt := top 10
theorem sc_followed : FnScope ["states", "relation", "state", "after"] ["states", "relation"] (defScope s_followed) := ⟨rfl, rfl, rfl, by decide +kernel, rfl, by decide +kernel, by decide +kernel⟩
def M_followed : MS :=
    mRet (mBlt gTupC (mCons (mSortG (mSeqI (mVar 0)) (mgName 2) (mYes) (mInI (mSeqI (mOp gIx (mVar 1) (mVar 2))) (mgName 3) (mYes) (mVar 3) [3]) [2, 3]) (mNil)))
def F_followed : MF := fnM 4 (M_followed)
theorem ok_followed (T : Txt K mg C f_Rules_init fd_Rules_init t_ALPHABET t_MOST_STATES) (D : Df K mg "followed" s_followed ["states", "relation"]) : Cal P w K mg base "followed" 1 2 F_followed := by
  unfold F_followed M_followed
  exact cal_ok D sc_followed fun cdv A fr s H hr hgd => ⟨_, (b_one (s_ret (d_callTy call_tuple_of rc_tup rfl T.b_tuple bt_tuple (a_cons (f_sortSc2 (own := [("state", 2), ("after", 3)]) (vs1 := [3]) rfl sc_followed.nd rfl T.b_sorted (i_seq (dv 0)) (blkOk_by (by first | decide +kernel | kernel_rfl)) (by decide) (fun _ _ _ _ _ => (gw_name (i := 2) (by decide) sc_followed.nd rfl (by first | exact Or.inl rfl | exact Or.inr rfl))) (fun _ _ _ _ _ => ts_nil) (fun _ _ _ _ _ => (z_seq (d_ix (dv 1) (dv 2)))) (fun _ _ _ _ _ => (gw_name (i := 3) (by decide) sc_followed.nd rfl (by first | exact Or.inl rfl | exact Or.inr rfl))) (fun _ _ _ _ _ => ts_nil) (fun _ _ _ _ _ => (dv 3))) a_nil))))⟩

/-! ### reached -/
abbrev s_reached : Stmt := top 12
theorem sc_reached : FnScope ["rules", "state", "speech", "relations", "states", "letter"] ["rules", "state", "speech"] (defScope s_reached) := ⟨rfl, rfl, rfl, by decide +kernel, rfl, by decide +kernel, by decide +kernel⟩
def M_reached (C : Addr) : MS :=
    mSeq (mAsg (mCall 1 (F_letter_relations C) (mCons (mVar 0) (mNil))) (mgName 3))
    (mSeq (mAsg (mTup (mCons (mVar 1) (mNil))) (mgName 4))
    (mSeq (mFor (mSeqI (mVar 2)) (mgName 5) (mAsg (mCall 2 F_followed (mCons (mVar 4) (mCons (mDGet (mVar 3) (mVar 5)) (mNil)))) (mgName 4)))
    (mRet (mVar 4))))
def F_reached (C : Addr) : MF := fnM 6 (M_reached C)
theorem ok_reached (T : Txt K mg C f_Rules_init fd_Rules_init t_ALPHABET t_MOST_STATES) (ok_followed : Cal P w K mg base "followed" 1 2 F_followed) (ok_letter_relations : Cal P w K mg base "letter_relations" 2 1 (F_letter_relations C)) (D : Df K mg "reached" s_reached ["rules", "state", "speech"]) : Cal P w K mg base "reached" 3 3 (F_reached C) := by
  unfold F_reached M_reached
  exact cal_ok D sc_reached fun cdv A fr s H hr hgd => ⟨_, (b_cons (s_set (i := 3) sc_reached.nd rfl (Or.inl rfl) (d_cal ok_letter_relations (hr.mono (by decide)) hgd rfl (a_cons (dv 0) a_nil)))
      (b_cons (s_set (i := 4) sc_reached.nd rfl (Or.inl rfl) (d_tup (a_cons (dv 1) a_nil)))
      (b_cons (s_for PassesOwn.never rfl (i_seq (dv 2)) (g_name (i := 5) sc_reached.nd rfl (Or.inl rfl)) (b_one (s_set (i := 4) sc_reached.nd rfl (Or.inl rfl) (d_cal ok_followed (hr.mono (by decide)) hgd rfl (a_cons (dv 4) (a_cons (d_dget hr (dv 3) (dv 5)) a_nil))))))
      (b_one (s_ret (dv 4))))))⟩

/-! ### mute -/
abbrev s_mute : Stmt := top 13
theorem sc_mute : FnScope ["rules", "relations", "speeches", "order", "at", "states", "letter", "after"] ["rules"] (defScope s_mute) := ⟨rfl, rfl, rfl, by decide +kernel, rfl, by decide +kernel, by decide +kernel⟩
def M_mute (C : Addr) : MS :=
    mSeq (mAsg (mCall 1 (F_letter_relations C) (mCons (mVar 0) (mNil))) (mgName 1))
    (mSeq (mAsg (mTDisp (mTup (mCons (mC (.int 0)) (mNil))) (mC (.str ""))) (mgName 2))
    (mSeq (mAsg (mLstM (mCons (mTup (mCons (mC (.int 0)) (mNil))) (mNil))) (mgName 3))
    (mSeq (mAsg (mC (.int 0)) (mgName 4))
    (mSeq (whileN (mTest (mOp gLt (mVar 4) (mBlt gLenS (mCons (mVar 3) (mNil))))) (mSeq (mAsg (mOp gIx (mVar 3) (mVar 4)) (mgName 5))
    (mSeq (mAug 4 (mC (.int 1)))
    (mFor (mSeqI (mFld C "heard" (mVar 0))) (mgName 6) (mSeq (mAsg (mCall 2 F_followed (mCons (mVar 5) (mCons (mDGet (mVar 1) (mVar 6)) (mNil)))) (mgName 7))
    (mSeq (mIfS (mTest (mOp gEq (mVar 7) (mTup (mNil)))) (mRet (mOp gAdd (mTGet (mVar 2) (mVar 5)) (mVar 6))) (mNext))
    (mIfS (mTest (mTIn true (mVar 7) (mVar 2))) (mSeq (mTPut (mVar 2) (mVar 7) (mOp gAdd (mTGet (mVar 2) (mVar 5)) (mVar 6)))
    (mDrop (mBM "list" gAppend (mVar 3) (mCons (mVar 7) (mNil))))) (mNext))))))) 100000)
    (mRet (mC .non))))))
def F_mute (C : Addr) : MF := fnM 8 (M_mute C)
theorem ok_mute (T : Txt K mg C f_Rules_init fd_Rules_init t_ALPHABET t_MOST_STATES) (ok_followed : Cal P w K mg base "followed" 1 2 F_followed) (ok_letter_relations : Cal P w K mg base "letter_relations" 2 1 (F_letter_relations C)) (D : Df K mg "mute" s_mute ["rules"]) : Cal P w K mg base "mute" 3 1 (F_mute C) := by
  unfold F_mute M_mute
  exact cal_ok D sc_mute fun cdv A fr s H hr hgd => ⟨_, (b_cons (s_set (i := 1) sc_mute.nd rfl (Or.inl rfl) (d_cal ok_letter_relations (hr.mono (by decide)) hgd rfl (a_cons (dv 0) a_nil)))
      (b_cons (s_set (i := 2) sc_mute.nd rfl (Or.inl rfl) (d_tdisp hr (d_tup (a_cons d_int a_nil)) d_str))
      (b_cons (s_set (i := 3) sc_mute.nd rfl (Or.inl rfl) (d_lstM (a_cons (d_tup (a_cons d_int a_nil)) a_nil)))
      (b_cons (s_set (i := 4) sc_mute.nd rfl (Or.inl rfl) d_int)
      (b_cons (s_while 100000 PassesOwn.never (t_lt (dv 4) (d_callB call_len rc_len rfl T.b_len bt_len (a_cons (dv 3) a_nil))) (b_cons (s_set (i := 5) sc_mute.nd rfl (Or.inl rfl) (d_ix (dv 3) (dv 4)))
      (b_cons (s_aug (i := 4) sc_mute.nd rfl (Or.inl rfl) d_int)
      (b_one (s_for PassesOwn.never rfl (i_seq (d_fld T.cl T.n_heard (dv 0))) (g_name (i := 6) sc_mute.nd rfl (Or.inl rfl)) (b_cons (s_set (i := 7) sc_mute.nd rfl (Or.inl rfl) (d_cal ok_followed (hr.mono (by decide)) hgd rfl (a_cons (dv 5) (a_cons (d_dget hr (dv 1) (dv 6)) a_nil))))
      (b_cons (s_if (t_eq hr (dv 7) (d_tup a_nil)) (b_one (s_ret (d_add (d_tget hr (dv 2) (dv 5)) (dv 6)))) b_nil)
      (b_one (s_if (t_tnotin hr (dv 7) (dv 2)) (b_cons (s_tput hr (dv 2) (dv 7) (d_add (d_tget hr (dv 2) (dv 5)) (dv 6)))
      (b_one (s_drop (d_append (dv 3) (a_cons (dv 7) a_nil))))) b_nil)))))))))
      (b_one (s_ret d_non)))))))⟩

/-! ### check_full -/
abbrev s_check_full : Stmt := top 14
theorem sc_check_full : FnScope ["rules", "speech"] ["rules"] (defScope s_check_full) := ⟨rfl, rfl, rfl, by decide +kernel, rfl, by decide +kernel, by decide +kernel⟩
def M_check_full (C : Addr) : MS :=
    mSeq (mAsg (mCall 1 (F_mute C) (mCons (mVar 0) (mNil))) (mgName 1))
    (mIfS (mTest (mOp gNotN (mVar 1) (mC .non))) (mNever) (mNext))
def F_check_full (C : Addr) : MF := fnM 2 (M_check_full C)
theorem ok_check_full (T : Txt K mg C f_Rules_init fd_Rules_init t_ALPHABET t_MOST_STATES) (ok_mute : Cal P w K mg base "mute" 3 1 (F_mute C)) (D : Df K mg "check_full" s_check_full ["rules"]) : Cal P w K mg base "check_full" 4 1 (F_check_full C) := by
  unfold F_check_full M_check_full
  exact cal_ok D sc_check_full fun cdv A fr s H hr hgd => ⟨_, (b_cons (s_set (i := 1) sc_check_full.nd rfl (Or.inl rfl) (d_cal ok_mute (hr.mono (by decide)) hgd rfl (a_cons (dv 0) a_nil)))
      (b_one (s_if (t_notN (dv 1) d_non) b_never b_nil)))⟩

/-! ### goes_on -/
abbrev s_goes_on : Stmt := top 27
theorem sc_goes_on : FnScope ["rules", "state", "waiting"] ["rules", "state", "waiting"] (defScope s_goes_on) := ⟨rfl, rfl, rfl, by decide +kernel, rfl, by decide +kernel, by decide +kernel⟩
def M_goes_on (C : Addr) : MS :=
    mRet (mOp gNe (mCall 3 (F_reached C) (mCons (mVar 0) (mCons (mVar 1) (mCons (mVar 2) (mNil))))) (mTup (mNil)))
def F_goes_on (C : Addr) : MF := fnM 3 (M_goes_on C)
theorem ok_goes_on (T : Txt K mg C f_Rules_init fd_Rules_init t_ALPHABET t_MOST_STATES) (ok_reached : Cal P w K mg base "reached" 3 3 (F_reached C)) (D : Df K mg "goes_on" s_goes_on ["rules", "state", "waiting"]) : Cal P w K mg base "goes_on" 4 3 (F_goes_on C) := by
  unfold F_goes_on M_goes_on
  exact cal_ok D sc_goes_on fun cdv A fr s H hr hgd => ⟨_, (b_one (s_ret (e_ne hr (d_cal ok_reached (hr.mono (by decide)) hgd rfl (a_cons (dv 0) (a_cons (dv 1) (a_cons (dv 2) a_nil)))) (d_tup a_nil))))⟩

/-! ### is_open -/
abbrev s_is_open : Stmt := top 26
theorem sc_is_open : FnScope ["rules", "state", "waiting"] ["rules", "state", "waiting"] (defScope s_is_open) := ⟨rfl, rfl, rfl, by decide +kernel, rfl, by decide +kernel, by decide +kernel⟩
def M_is_open (C : Addr) : MS :=
    mSeq (mDrop (mCall 1 (F_check_full C) (mCons (mVar 0) (mNil))))
    (mRet (mCall 3 (F_goes_on C) (mCons (mVar 0) (mCons (mVar 1) (mCons (mVar 2) (mNil))))))
def F_is_open (C : Addr) : MF := fnM 3 (M_is_open C)
theorem ok_is_open {f : Addr} {fd : FuncData} (T : Txt K mg C f_Rules_init fd_Rules_init t_ALPHABET t_MOST_STATES) (ok_check_full : Cal P w K mg base "check_full" 4 1 (F_check_full C)) (ok_goes_on : Cal P w K mg base "goes_on" 4 3 (F_goes_on C)) (D : Fun K "is_open" "is_open" s_is_open f fd) : FnG P w K mg base 5 f fd ["rules", "state", "waiting"] 3 (F_is_open C) := by
  unfold F_is_open M_is_open
  exact fn_ok D sc_is_open fun cdv A fr s H hr hgd => ⟨_, (b_cons (s_drop (d_cal ok_check_full (hr.mono (by decide)) hgd rfl (a_cons (dv 0) a_nil)))
      (b_one (s_ret (d_cal ok_goes_on (hr.mono (by decide)) hgd rfl (a_cons (dv 0) (a_cons (dv 1) (a_cons (dv 2) a_nil)))))))⟩

/-! ### _law_deck -/
abbrev s_law_deck : Stmt := top 52
theorem sc_law_deck : FnScope ["_law_script", "_law_blend", "_law_cell"] ["_law_script"] (defScope s_law_deck) := ⟨rfl, rfl, rfl, by decide +kernel, rfl, by decide +kernel, by decide +kernel⟩
def M_law_deck : MS :=
    mSeq (mAsg (mC (.int 1086613)) (mgName 1))
    (mSeq (mFor (mSeqI (mSl (mVar 0) (mNoPart) (mPart (mC (.int 63))))) (mgName 2) (mAsg (mOp gMod (mBlt gIntC (mCons (mOp gAdd (mOp gAdd (mOp gMul (mVar 1) (mC (.int 69621))) (mOp gMod (mBlt gIntC (mCons (mVar 2) (mNil))) (mC (.int 2147483629)))) (mC (.int 57))) (mNil))) (mC (.int 2147483587))) (mgName 1)))
    (mRet (mDisp [(mC (.str "left"), mRevM (mComp (mSeqI (mSl (mVar 0) (mNoPart) (mPart (mC (.int 63))))) (mgName 2) (mTest (mOp gGe (mVar 2) (mOp gPow (mC (.int 10)) (mC (.int 18))))) (mVar 2) [2])), (mC (.str "blend"), mVar 1), (mC (.str "lap"), mC (.int 0))])))
def F_law_deck : MF := fnM 3 (M_law_deck)
theorem ok_law_deck (T : Txt K mg C f_Rules_init fd_Rules_init t_ALPHABET t_MOST_STATES) (D : Df K mg "_law_deck" s_law_deck ["_law_script"]) : Cal P w K mg base "_law_deck" 1 1 F_law_deck := by
  unfold F_law_deck M_law_deck
  exact cal_ok D sc_law_deck fun cdv A fr s H hr hgd => ⟨_, (b_cons (s_set (i := 1) sc_law_deck.nd rfl (Or.inl rfl) d_int)
      (b_cons (s_for PassesOwn.never rfl (i_seq (d_sl (dv 0) o_none (o_some d_int))) (g_name (i := 2) sc_law_deck.nd rfl (Or.inl rfl)) (b_one (s_set (i := 1) sc_law_deck.nd rfl (Or.inl rfl) (d_mod (d_callTy call_int1 rc_int rfl T.b_int bt_int (a_cons (d_add (d_add (d_mul (dv 1) d_int) (d_mod (d_callTy call_int1 rc_int rfl T.b_int bt_int (a_cons (dv 2) a_nil)) d_int)) d_int) a_nil)) d_int))))
      (b_one (s_ret (d_disp (ps_cons d_str (d_revM (f_comp (own := [("_law_cell", 2)]) rfl sc_law_deck.nd (i_seq (d_sl (dv 0) o_none (o_some d_int))) (blkOk_by (by first | decide +kernel | kernel_rfl)) (fun _ _ _ _ _ => (gw_name (i := 2) (by decide) sc_law_deck.nd rfl (by first | exact Or.inl rfl | exact Or.inr rfl))) (fun _ _ _ _ _ => (ts_one (t_ge (dv 2) (d_pow d_int d_int)))) (fun _ _ _ _ _ => (dv 2)))) (ps_cons d_str (dv 1) (ps_cons d_str d_int ps_nil))))))))⟩

/-! ### _law_draw -/
abbrev s_law_draw : Stmt := top 53
theorem sc_law_draw : FnScope ["_law_deck_here", "_law_many", "_law_lap", "_law_blend", "_law_cell"] ["_law_deck_here", "_law_many"] (defScope s_law_draw) := ⟨rfl, rfl, rfl, by decide +kernel, rfl, by decide +kernel, by decide +kernel⟩
def M_law_draw : MS :=
    mSeq (mIfS (mTest (mOp gNe (mDGet (mVar 0) (mC (.str "left"))) (mLst (mNil)))) (mSeq (mAsg (mBlt gIntC (mCons (mBM0 "list" gPop (mDGet (mVar 0) (mC (.str "left")))) (mNil))) (mgName 4))
    (mSeq (mIfS (mTest (mOp gGe (mVar 4) (mVar 1))) (mDrop (mBM "list" gAppend (mDGet (mVar 0) (mC (.str "left"))) (mCons (mOp gFdiv (mVar 4) (mVar 1)) (mNil)))) (mNext))
    (mRet (mOp gMod (mVar 4) (mVar 1))))) (mNext))
    (mSeq (mAsg (mOp gAdd (mDGet (mVar 0) (mC (.str "lap"))) (mC (.int 1))) (mgName 2))
    (mSeq (mDPut (mVar 0) (mC (.str "lap")) (mVar 2))
    (mSeq (mAsg (mOp gMod (mBlt gIntC (mCons (mOp gMul (mBlt gIntC (mCons (mOp gAdd (mOp gAdd (mDGet (mVar 0) (mC (.str "blend"))) (mOp gMul (mOp gMul (mC (.int 60271)) (mVar 2)) (mVar 2))) (mC (.int 57))) (mNil))) (mC (.int 69621))) (mNil))) (mC (.int 2147483647))) (mgName 3))
    (mSeq (mAsg (mOp gMod (mBlt gIntC (mCons (mOp gAdd (mOp gMul (mVar 3) (mVar 3)) (mOp gMul (mC (.int 69621)) (mVar 2))) (mNil))) (mC (.int 2147483579))) (mgName 3))
    (mRet (mOp gMod (mOp gFdiv (mOp gMod (mBlt gIntC (mCons (mOp gMul (mVar 3) (mC (.int 16807))) (mNil))) (mC (.int 2147483563))) (mC (.int 64))) (mVar 1)))))))
def F_law_draw : MF := fnM 5 (M_law_draw)
theorem ok_law_draw (T : Txt K mg C f_Rules_init fd_Rules_init t_ALPHABET t_MOST_STATES) (D : Df K mg "_law_draw" s_law_draw ["_law_deck_here", "_law_many"]) : Cal P w K mg base "_law_draw" 1 2 F_law_draw := by
  unfold F_law_draw M_law_draw
  exact cal_ok D sc_law_draw fun cdv A fr s H hr hgd => ⟨_, (b_cons (s_if (t_ne hr (d_dget hr (dv 0) d_str) (d_lst a_nil)) (b_cons (s_set (i := 4) sc_law_draw.nd rfl (Or.inl rfl) (d_callTy call_int1 rc_int rfl T.b_int bt_int (a_cons (d_pop (d_dget hr (dv 0) d_str)) a_nil)))
      (b_cons (s_if (t_ge (dv 4) (dv 1)) (b_one (s_drop (d_append (d_dget hr (dv 0) d_str) (a_cons (d_fdiv (dv 4) (dv 1)) a_nil)))) b_nil)
      (b_one (s_ret (d_mod (dv 4) (dv 1)))))) b_nil)
      (b_cons (s_set (i := 2) sc_law_draw.nd rfl (Or.inl rfl) (d_add (d_dget hr (dv 0) d_str) d_int))
      (b_cons (s_dput hr (dv 0) d_str (dv 2))
      (b_cons (s_set (i := 3) sc_law_draw.nd rfl (Or.inl rfl) (d_mod (d_callTy call_int1 rc_int rfl T.b_int bt_int (a_cons (d_mul (d_callTy call_int1 rc_int rfl T.b_int bt_int (a_cons (d_add (d_add (d_dget hr (dv 0) d_str) (d_mul (d_mul d_int (dv 2)) (dv 2))) d_int) a_nil)) d_int) a_nil)) d_int))
      (b_cons (s_set (i := 3) sc_law_draw.nd rfl (Or.inl rfl) (d_mod (d_callTy call_int1 rc_int rfl T.b_int bt_int (a_cons (d_add (d_mul (dv 3) (dv 3)) (d_mul d_int (dv 2))) a_nil)) d_int))
      (b_one (s_ret (d_mod (d_fdiv (d_mod (d_callTy call_int1 rc_int rfl T.b_int bt_int (a_cons (d_mul (dv 3) d_int) a_nil)) d_int) d_int) (dv 1)))))))))⟩

/-! ### _law_pick -/
abbrev s_law_pick : Stmt := top 54
theorem sc_law_pick : FnScope ["_law_deck_here", "_law_some_here"] ["_law_deck_here", "_law_some_here"] (defScope s_law_pick) := ⟨rfl, rfl, rfl, by decide +kernel, rfl, by decide +kernel, by decide +kernel⟩
def M_law_pick : MS :=
    mRet (mOp gIx (mVar 1) (mCall 2 F_law_draw (mCons (mVar 0) (mCons (mBlt gLenS (mCons (mVar 1) (mNil))) (mNil)))))
def F_law_pick : MF := fnM 2 (M_law_pick)
theorem ok_law_pick (T : Txt K mg C f_Rules_init fd_Rules_init t_ALPHABET t_MOST_STATES) (ok_law_draw : Cal P w K mg base "_law_draw" 1 2 F_law_draw) (D : Df K mg "_law_pick" s_law_pick ["_law_deck_here", "_law_some_here"]) : Cal P w K mg base "_law_pick" 2 2 F_law_pick := by
  unfold F_law_pick M_law_pick
  exact cal_ok D sc_law_pick fun cdv A fr s H hr hgd => ⟨_, (b_one (s_ret (d_ix (dv 1) (d_cal ok_law_draw (hr.mono (by decide)) hgd rfl (a_cons (dv 0) (a_cons (d_callB call_len rc_len rfl T.b_len bt_len (a_cons (dv 1) a_nil)) a_nil))))))⟩

/-! ### _law_moves -/
abbrev s_law_moves : Stmt := top 55
theorem sc_law_moves : FnScope ["_law_w", "_law_here", "_law_letter", "_law_h", "_law_c", "_law_t"] ["_law_w", "_law_here", "_law_letter"] (defScope s_law_moves) := ⟨rfl, rfl, rfl, by decide +kernel, rfl, by decide +kernel, by decide +kernel⟩
def M_law_moves : MS :=
    mRet (mComp (mSeqI (mOp gIx (mDGet (mVar 0) (mC (.str "rows"))) (mVar 1))) (mgTup 3 (mgCons (mgName 3) (mgCons (mgName 4) (mgCons (mgName 5) (mgNil))))) (mTest (mOp gEq (mVar 3) (mVar 2))) (mTup (mCons (mVar 4) (mCons (mVar 5) (mNil)))) [3, 4, 5])
def F_law_moves : MF := fnM 6 (M_law_moves)
theorem ok_law_moves (T : Txt K mg C f_Rules_init fd_Rules_init t_ALPHABET t_MOST_STATES) (D : Df K mg "_law_moves" s_law_moves ["_law_w", "_law_here", "_law_letter"]) : Cal P w K mg base "_law_moves" 1 3 F_law_moves := by
  unfold F_law_moves M_law_moves
  exact cal_ok D sc_law_moves fun cdv A fr s H hr hgd => ⟨_, (b_one (s_ret (f_comp (own := [("_law_h", 3), ("_law_c", 4), ("_law_t", 5)]) rfl sc_law_moves.nd (i_seq (d_ix (d_dget hr (dv 0) d_str) (dv 1))) (blkOk_by (by first | decide +kernel | kernel_rfl)) (fun _ _ _ _ _ => (gw_tup rfl (gsw_cons (gw_name (i := 3) (by decide) sc_law_moves.nd rfl (by first | exact Or.inl rfl | exact Or.inr rfl)) (gsw_cons (gw_name (i := 4) (by decide) sc_law_moves.nd rfl (by first | exact Or.inl rfl | exact Or.inr rfl)) (gsw_cons (gw_name (i := 5) (by decide) sc_law_moves.nd rfl (by first | exact Or.inl rfl | exact Or.inr rfl)) gsw_nil))))) (fun _ _ _ _ _ => (ts_one (t_eq hr (dv 3) (dv 2)))) (fun _ _ _ _ _ => (d_tup (a_cons (dv 4) (a_cons (dv 5) a_nil)))))))⟩

/-! ### _law_on -/
abbrev s_law_on : Stmt := top 56
theorem sc_law_on : FnScope ["_law_w", "_law_spots", "_law_page", "_law_letter", "_law_fresh", "_law_here", "_law_c", "_law_t"] ["_law_w", "_law_spots", "_law_page"] (defScope s_law_on) := ⟨rfl, rfl, rfl, by decide +kernel, rfl, by decide +kernel, by decide +kernel⟩
def M_law_on : MS :=
    mSeq (mFor (mSeqI (mVar 2)) (mgName 3) (mSeq (mAsg (mLstM (mNil)) (mgName 4))
    (mSeq (mFor (mSeqI (mVar 1)) (mgName 5) (mDrop (mBM "list" gExtend (mVar 4) (mCons (mComp (mSeqI (mCall 3 F_law_moves (mCons (mVar 0) (mCons (mVar 5) (mCons (mVar 3) (mNil)))))) (mgTup 2 (mgCons (mgName 6) (mgCons (mgName 7) (mgNil)))) (mYes) (mVar 7) [6, 7]) (mNil)))))
    (mAsg (mSortSet (mVar 4)) (mgName 1)))))
    (mRet (mVar 1))
def F_law_on : MF := fnM 8 (M_law_on)
theorem ok_law_on (T : Txt K mg C f_Rules_init fd_Rules_init t_ALPHABET t_MOST_STATES) (ok_law_moves : Cal P w K mg base "_law_moves" 1 3 F_law_moves) (D : Df K mg "_law_on" s_law_on ["_law_w", "_law_spots", "_law_page"]) : Cal P w K mg base "_law_on" 2 3 F_law_on := by
  unfold F_law_on M_law_on
  exact cal_ok D sc_law_on fun cdv A fr s H hr hgd => ⟨_, (b_cons (s_for PassesOwn.never rfl (i_seq (dv 2)) (g_name (i := 3) sc_law_on.nd rfl (Or.inl rfl)) (b_cons (s_set (i := 4) sc_law_on.nd rfl (Or.inl rfl) (d_lstM a_nil))
      (b_cons (s_for PassesOwn.never rfl (i_seq (dv 1)) (g_name (i := 5) sc_law_on.nd rfl (Or.inl rfl)) (b_one (s_drop (d_extend (dv 4) (a_cons (f_comp (own := [("_law_c", 6), ("_law_t", 7)]) rfl sc_law_on.nd (i_seq (d_cal ok_law_moves (hr.mono (by decide)) hgd rfl (a_cons (dv 0) (a_cons (dv 5) (a_cons (dv 3) a_nil))))) (blkOk_by (by first | decide +kernel | kernel_rfl)) (fun _ _ _ _ _ => (gw_tup rfl (gsw_cons (gw_name (i := 6) (by decide) sc_law_on.nd rfl (by first | exact Or.inl rfl | exact Or.inr rfl)) (gsw_cons (gw_name (i := 7) (by decide) sc_law_on.nd rfl (by first | exact Or.inl rfl | exact Or.inr rfl)) gsw_nil)))) (fun _ _ _ _ _ => ts_nil) (fun _ _ _ _ _ => (dv 7))) a_nil)))))
      (b_one (s_set (i := 1) sc_law_on.nd rfl (Or.inl rfl) (d_sortSet rfl rfl T.b_sorted rfl T.b_set (dv 4)))))))
      (b_one (s_ret (dv 1))))⟩

/-! ### _law_mute -/
abbrev s_law_mute : Stmt := top 57
theorem sc_law_mute : FnScope ["_law_w", "_law_order", "_law_seen", "_law_at", "_law_letter", "_law_spots", "_law_page"] ["_law_w"] (defScope s_law_mute) := ⟨rfl, rfl, rfl, by decide +kernel, rfl, by decide +kernel, by decide +kernel⟩
def M_law_mute : MS :=
    mSeq (mPar3 1 2 3 (mCons (mLstM (mCons (mTup (mCons (mLst (mCons (mC (.int 0)) (mNil))) (mCons (mC (.str "")) (mNil)))) (mNil))) (mCons (mTDisp (mTup (mCons (mC (.int 0)) (mNil))) (mC (.bl true))) (mCons (mC (.int 0)) (mNil)))))
    (mSeq (whileN (mTest (mOp gLt (mVar 3) (mBlt gLenS (mCons (mVar 1) (mNil))))) (mSeq (mFor (mSeqI (mDGet (mVar 0) (mC (.str "heard")))) (mgName 4) (mSeq (mPar 5 6 (mCons (mCall 3 F_law_on (mCons (mVar 0) (mCons (mOp gIx (mOp gIx (mVar 1) (mVar 3)) (mC (.int 0))) (mCons (mVar 4) (mNil))))) (mCons (mOp gAdd (mOp gIx (mOp gIx (mVar 1) (mVar 3)) (mC (.int 1))) (mVar 4)) (mNil))))
    (mSeq (mIfS (mTest (mOp gEq (mVar 5) (mLst (mNil)))) (mRet (mVar 6)) (mNext))
    (mIfS (mTest (mTIn true (mBlt gTupC (mCons (mVar 5) (mNil))) (mVar 2))) (mSeq (mTPut (mVar 2) (mBlt gTupC (mCons (mVar 5) (mNil))) (mC (.bl true)))
    (mDrop (mBM "list" gAppend (mVar 1) (mCons (mTup (mCons (mVar 5) (mCons (mVar 6) (mNil)))) (mNil))))) (mNext)))))
    (mAsg (mOp gAdd (mVar 3) (mC (.int 1))) (mgName 3))) 100000)
    (mRet (mC .non)))
def F_law_mute : MF := fnM 7 (M_law_mute)
theorem ok_law_mute (T : Txt K mg C f_Rules_init fd_Rules_init t_ALPHABET t_MOST_STATES) (ok_law_on : Cal P w K mg base "_law_on" 2 3 F_law_on) (D : Df K mg "_law_mute" s_law_mute ["_law_w"]) : Cal P w K mg base "_law_mute" 3 1 F_law_mute := by
  unfold F_law_mute M_law_mute
  exact cal_ok D sc_law_mute fun cdv A fr s H hr hgd => ⟨_, (b_cons (s_par3 (i := 1) (j := 2) (l := 3) rfl sc_law_mute.nd rfl rfl rfl (by decide) (by decide) (by decide) rfl rfl rfl (a_cons (d_lstM (a_cons (d_tup (a_cons (d_lst (a_cons d_int a_nil)) (a_cons d_str a_nil))) a_nil)) (a_cons (d_tdisp hr (d_tup (a_cons d_int a_nil)) d_bl) (a_cons d_int a_nil))) (by rfl))
      (b_cons (s_while 100000 PassesOwn.never (t_lt (dv 3) (d_callB call_len rc_len rfl T.b_len bt_len (a_cons (dv 1) a_nil))) (b_cons (s_for PassesOwn.never rfl (i_seq (d_dget hr (dv 0) d_str)) (g_name (i := 4) sc_law_mute.nd rfl (Or.inl rfl)) (b_cons (s_par (i := 5) (j := 6) rfl sc_law_mute.nd rfl rfl (by decide) rfl rfl (a_cons (d_cal ok_law_on (hr.mono (by decide)) hgd rfl (a_cons (dv 0) (a_cons (d_ix (d_ix (dv 1) (dv 3)) d_int) (a_cons (dv 4) a_nil)))) (a_cons (d_add (d_ix (d_ix (dv 1) (dv 3)) d_int) (dv 4)) a_nil)) (by rfl))
      (b_cons (s_if (t_eq hr (dv 5) (d_lst a_nil)) (b_one (s_ret (dv 6))) b_nil)
      (b_one (s_if (t_tnotin hr (d_callTy call_tuple_of rc_tup rfl T.b_tuple bt_tuple (a_cons (dv 5) a_nil)) (dv 2)) (b_cons (s_tput hr (dv 2) (d_callTy call_tuple_of rc_tup rfl T.b_tuple bt_tuple (a_cons (dv 5) a_nil)) d_bl)
      (b_one (s_drop (d_append (dv 1) (a_cons (d_tup (a_cons (dv 5) (a_cons (dv 6) a_nil))) a_nil))))) b_nil)))))
      (b_one (s_set (i := 3) sc_law_mute.nd rfl (Or.inl rfl) (d_add (dv 3) d_int)))))
      (b_one (s_ret d_non))))⟩

/-! ### _law_set -/
abbrev s_law_set : Stmt := top 58
theorem sc_law_set : FnScope ["_law_heard_now", "_law_written_now", "_law_size", "_law_lot", "_law_rows_now", "_law_s", "_law_t", "_law_h", "_law_c"] ["_law_heard_now", "_law_written_now", "_law_size", "_law_lot"] (defScope s_law_set) := ⟨rfl, rfl, rfl, by decide +kernel, rfl, by decide +kernel, by decide +kernel⟩
def M_law_set : MS :=
    mSeq (mAsg (mLstM (mNil)) (mgName 4))
    (mSeq (mFor (mRng1 (mCons (mVar 2) (mNil))) (mgName 5) (mDrop (mBM "list" gAppend (mVar 4) (mCons (mBlt gTupC (mCons (mBlt gSortK (mCons (mLockT 3 (mComp (mKeysT 3) (mgTup 3 (mgCons (mgName 6) (mgCons (mgName 7) (mgCons (mgName 8) (mgNil))))) (mTest (mOp gEq (mVar 6) (mVar 5))) (mTup (mCons (mVar 7) (mCons (mVar 8) (mCons (mTGet (mVar 3) (mTup (mCons (mVar 6) (mCons (mVar 7) (mCons (mVar 8) (mNil)))))) (mNil))))) [6, 7, 8])) (mNil))) (mNil))) (mNil)))))
    (mRet (mFrz (mDisp [(mC (.str "heard"), mVar 0), (mC (.str "written"), mVar 1), (mC (.str "rows"), mBlt gTupC (mCons (mVar 4) (mNil)))]))))
def F_law_set : MF := fnM 9 (M_law_set)
theorem ok_law_set (T : Txt K mg C f_Rules_init fd_Rules_init t_ALPHABET t_MOST_STATES) (D : Df K mg "_law_set" s_law_set ["_law_heard_now", "_law_written_now", "_law_size", "_law_lot"]) : Cal P w K mg base "_law_set" 1 4 F_law_set := by
  unfold F_law_set M_law_set
  exact cal_ok D sc_law_set fun cdv A fr s H hr hgd => ⟨_, (b_cons (s_set (i := 4) sc_law_set.nd rfl (Or.inl rfl) (d_lstM a_nil))
      (b_cons (s_for PassesOwn.never rfl (i_rng1 rfl T.b_range (a_cons (dv 2) a_nil)) (g_name (i := 5) sc_law_set.nd rfl (Or.inr rfl)) (b_one (s_drop (d_append (dv 4) (a_cons (d_callTy call_tuple_of rc_tup rfl T.b_tuple bt_tuple (a_cons (d_callB cr_sortK rc_sortK rfl T.b_sorted bt_sorted (a_cons (d_lockT (i := 3) (f_comp (own := [("_law_t", 6), ("_law_h", 7), ("_law_c", 8)]) rfl sc_law_set.nd (i_keysT (dv 3)) (blkOk_by (by first | decide +kernel | kernel_rfl)) (fun _ _ _ _ _ => (gw_tup rfl (gsw_cons (gw_name (i := 6) (by decide) sc_law_set.nd rfl (by first | exact Or.inl rfl | exact Or.inr rfl)) (gsw_cons (gw_name (i := 7) (by decide) sc_law_set.nd rfl (by first | exact Or.inl rfl | exact Or.inr rfl)) (gsw_cons (gw_name (i := 8) (by decide) sc_law_set.nd rfl (by first | exact Or.inl rfl | exact Or.inr rfl)) gsw_nil))))) (fun _ _ _ _ _ => (ts_one (t_eq hr (dv 6) (dv 5)))) (fun _ _ _ _ _ => (d_tup (a_cons (dv 7) (a_cons (dv 8) (a_cons (d_tget hr (dv 3) (d_tup (a_cons (dv 6) (a_cons (dv 7) (a_cons (dv 8) a_nil))))) a_nil))))))) a_nil)) a_nil)) a_nil)))))
      (b_one (s_ret (d_frz (d_disp (ps_cons d_str (dv 0) (ps_cons d_str (dv 1) (ps_cons d_str (d_callTy call_tuple_of rc_tup rfl T.b_tuple bt_tuple (a_cons (dv 4) a_nil)) ps_nil)))))))))⟩

/-! ### _law_drawn -/
abbrev s_law_drawn : Stmt := top 59
theorem sc_law_drawn : FnScope ["_law_deck_here", "_law_top", "_law_heard_now", "_law_written_now", "_law_s", "_law_w", "_law_page", "_law_size", "_law_lot", "_law_h", "_law_spot", "_law_c"] ["_law_deck_here", "_law_top", "_law_heard_now", "_law_written_now"] (defScope s_law_drawn) := ⟨rfl, rfl, rfl, by decide +kernel, rfl, by decide +kernel, by decide +kernel⟩
def M_law_drawn : MS :=
    mSeq (mPar 7 8 (mCons (mOp gAdd (mC (.int 1)) (mCall 2 F_law_draw (mCons (mVar 0) (mCons (mVar 1) (mNil))))) (mCons (mTNew) (mNil))))
    (mSeq (mFor (mRng1 (mCons (mVar 7) (mNil))) (mgName 4) (mFor (mSeqI (mVar 2)) (mgName 9) (mFor (mSeqI (mVar 3)) (mgName 11) (mIfS (mTest (mOp gLt (mCall 2 F_law_draw (mCons (mVar 0) (mCons (mC (.int 5)) (mNil)))) (mC (.int 2)))) (mTPut (mVar 8) (mTup (mCons (mVar 4) (mCons (mVar 9) (mCons (mVar 11) (mNil))))) (mCall 2 F_law_draw (mCons (mVar 0) (mCons (mVar 7) (mNil))))) (mNext)))))
    (mSeq (mAsg (mCall 4 F_law_set (mCons (mVar 2) (mCons (mVar 3) (mCons (mVar 7) (mCons (mVar 8) (mNil)))))) (mgName 5))
    (mSeq (mAsg (mCall 1 F_law_mute (mCons (mVar 5) (mNil))) (mgName 6))
    (mSeq (whileN (mTest (mOp gNotN (mVar 6) (mC .non))) (mSeq (mAsg (mCall 2 F_law_pick (mCons (mVar 0) (mCons (mCall 3 F_law_on (mCons (mVar 5) (mCons (mLst (mCons (mC (.int 0)) (mNil))) (mCons (mSl (mVar 6) (mNoPart) (mPart (mNeg (mC (.int 1))))) (mNil))))) (mNil)))) (mgName 10))
    (mSeq (mTPut (mVar 8) (mTup (mCons (mVar 10) (mCons (mOp gIx (mVar 6) (mNeg (mC (.int 1)))) (mCons (mCall 2 F_law_pick (mCons (mVar 0) (mCons (mVar 3) (mNil)))) (mNil))))) (mCall 2 F_law_draw (mCons (mVar 0) (mCons (mVar 7) (mNil)))))
    (mSeq (mAsg (mCall 4 F_law_set (mCons (mVar 2) (mCons (mVar 3) (mCons (mVar 7) (mCons (mVar 8) (mNil)))))) (mgName 5))
    (mAsg (mCall 1 F_law_mute (mCons (mVar 5) (mNil))) (mgName 6))))) 100000)
    (mRet (mVar 5))))))
def F_law_drawn : MF := fnM 12 (M_law_drawn)
theorem ok_law_drawn (T : Txt K mg C f_Rules_init fd_Rules_init t_ALPHABET t_MOST_STATES) (ok_law_draw : Cal P w K mg base "_law_draw" 1 2 F_law_draw) (ok_law_mute : Cal P w K mg base "_law_mute" 3 1 F_law_mute) (ok_law_on : Cal P w K mg base "_law_on" 2 3 F_law_on) (ok_law_pick : Cal P w K mg base "_law_pick" 2 2 F_law_pick) (ok_law_set : Cal P w K mg base "_law_set" 1 4 F_law_set) (D : Df K mg "_law_drawn" s_law_drawn ["_law_deck_here", "_law_top", "_law_heard_now", "_law_written_now"]) : Cal P w K mg base "_law_drawn" 4 4 F_law_drawn := by
  unfold F_law_drawn M_law_drawn
  exact cal_ok D sc_law_drawn fun cdv A fr s H hr hgd => ⟨_, (b_cons (s_par (i := 7) (j := 8) rfl sc_law_drawn.nd rfl rfl (by decide) rfl rfl (a_cons (d_add d_int (d_cal ok_law_draw (hr.mono (by decide)) hgd rfl (a_cons (dv 0) (a_cons (dv 1) a_nil)))) (a_cons d_tnew a_nil)) (by rfl))
      (b_cons (s_for PassesOwn.never rfl (i_rng1 rfl T.b_range (a_cons (dv 7) a_nil)) (g_name (i := 4) sc_law_drawn.nd rfl (Or.inl rfl)) (b_one (s_for PassesOwn.never rfl (i_seq (dv 2)) (g_name (i := 9) sc_law_drawn.nd rfl (Or.inl rfl)) (b_one (s_for PassesOwn.never rfl (i_seq (dv 3)) (g_name (i := 11) sc_law_drawn.nd rfl (Or.inl rfl)) (b_one (s_if (t_lt (d_cal ok_law_draw (hr.mono (by decide)) hgd rfl (a_cons (dv 0) (a_cons d_int a_nil))) d_int) (b_one (s_tput hr (dv 8) (d_tup (a_cons (dv 4) (a_cons (dv 9) (a_cons (dv 11) a_nil)))) (d_cal ok_law_draw (hr.mono (by decide)) hgd rfl (a_cons (dv 0) (a_cons (dv 7) a_nil))))) b_nil)))))))
      (b_cons (s_set (i := 5) sc_law_drawn.nd rfl (Or.inl rfl) (d_cal ok_law_set (hr.mono (by decide)) hgd rfl (a_cons (dv 2) (a_cons (dv 3) (a_cons (dv 7) (a_cons (dv 8) a_nil))))))
      (b_cons (s_set (i := 6) sc_law_drawn.nd rfl (Or.inl rfl) (d_cal ok_law_mute (hr.mono (by decide)) hgd rfl (a_cons (dv 5) a_nil)))
      (b_cons (s_while 100000 PassesOwn.never (t_notN (dv 6) d_non) (b_cons (s_set (i := 10) sc_law_drawn.nd rfl (Or.inl rfl) (d_cal ok_law_pick (hr.mono (by decide)) hgd rfl (a_cons (dv 0) (a_cons (d_cal ok_law_on (hr.mono (by decide)) hgd rfl (a_cons (dv 5) (a_cons (d_lst (a_cons d_int a_nil)) (a_cons (d_sl (dv 6) o_none (o_some (d_neg d_int))) a_nil)))) a_nil))))
      (b_cons (s_tput hr (dv 8) (d_tup (a_cons (dv 10) (a_cons (d_ix (dv 6) (d_neg d_int)) (a_cons (d_cal ok_law_pick (hr.mono (by decide)) hgd rfl (a_cons (dv 0) (a_cons (dv 3) a_nil))) a_nil)))) (d_cal ok_law_draw (hr.mono (by decide)) hgd rfl (a_cons (dv 0) (a_cons (dv 7) a_nil))))
      (b_cons (s_set (i := 5) sc_law_drawn.nd rfl (Or.inl rfl) (d_cal ok_law_set (hr.mono (by decide)) hgd rfl (a_cons (dv 2) (a_cons (dv 3) (a_cons (dv 7) (a_cons (dv 8) a_nil))))))
      (b_one (s_set (i := 6) sc_law_drawn.nd rfl (Or.inl rfl) (d_cal ok_law_mute (hr.mono (by decide)) hgd rfl (a_cons (dv 5) a_nil))))))))
      (b_one (s_ret (dv 5))))))))⟩

/-! ### _law_made -/
abbrev s_law_made : Stmt := top 60
theorem sc_law_made : FnScope ["_law_w"] ["_law_w"] (defScope s_law_made) := ⟨rfl, rfl, rfl, by decide +kernel, rfl, by decide +kernel, by decide +kernel⟩
def M_law_made (C : Addr) : MS :=
    mRet (mNew C 4 (F_Rules_init C) (mCons (mDGet (mVar 0) (mC (.str "heard"))) (mCons (mDGet (mVar 0) (mC (.str "written"))) (mCons (mDGet (mVar 0) (mC (.str "rows"))) (mNil)))))
def F_law_made (C : Addr) : MF := fnM 1 (M_law_made C)
theorem ok_law_made (T : Txt K mg C f_Rules_init fd_Rules_init t_ALPHABET t_MOST_STATES) (ok_Rules_init : FnG P w K mg base 6 f_Rules_init fd_Rules_init ["self", "heard", "written", "rows"] 4 (F_Rules_init C)) (D : Df K mg "_law_made" s_law_made ["_law_w"]) : Cal P w K mg base "_law_made" 8 1 (F_law_made C) := by
  unfold F_law_made M_law_made
  exact cal_ok D sc_law_made fun cdv A fr s H hr hgd => ⟨_, (b_one (s_ret (d_new T.mk_Rules ok_Rules_init (hr.mono (by decide)) hgd rfl T.g_Rules T.bi_Rules (a_cons (d_dget hr (dv 0) d_str) (a_cons (d_dget hr (dv 0) d_str) (a_cons (d_dget hr (dv 0) d_str) a_nil))))))⟩

/-! ### _law_known -/
abbrev s_law_known : Stmt := top 61
theorem sc_law_known : FnScope ["_law_deck_here", "_law_top", "_law_late", "_law_vow", "_law_turn", "_law_far", "_law_way"] ["_law_deck_here"] (defScope s_law_known) := ⟨rfl, rfl, rfl, by decide +kernel, rfl, by decide +kernel, by decide +kernel⟩
def M_law_known : MS :=
    mSeq (mAsg (mTup (mCons (mTup (mCons (mC (.str "a")) (mCons (mC (.str "a")) (mCons (mC (.int 1)) (mNil))))) (mCons (mTup (mCons (mC (.str "a")) (mCons (mC (.str "b")) (mCons (mC (.int 2)) (mNil))))) (mCons (mTup (mCons (mC (.str "b")) (mCons (mC (.str "a")) (mCons (mC (.int 1)) (mNil))))) (mCons (mTup (mCons (mC (.str "b")) (mCons (mC (.str "b")) (mCons (mC (.int 2)) (mNil))))) (mNil)))))) (mgName 1))
    (mSeq (mAsg (mTup (mCons (mVar 1) (mCons (mTup (mCons (mTup (mCons (mC (.str "a")) (mCons (mC (.str "a")) (mCons (mC (.int 1)) (mNil))))) (mCons (mTup (mCons (mC (.str "a")) (mCons (mC (.str "b")) (mCons (mC (.int 2)) (mNil))))) (mNil)))) (mCons (mTup (mCons (mTup (mCons (mC (.str "b")) (mCons (mC (.str "a")) (mCons (mC (.int 1)) (mNil))))) (mCons (mTup (mCons (mC (.str "b")) (mCons (mC (.str "b")) (mCons (mC (.int 2)) (mNil))))) (mNil)))) (mNil))))) (mgName 2))
    (mSeq (mAsg (mTup (mCons (mVar 1) (mCons (mTup (mCons (mTup (mCons (mC (.str "a")) (mCons (mC (.str "a")) (mCons (mC (.int 1)) (mNil))))) (mNil))) (mCons (mTup (mCons (mTup (mCons (mC (.str "a")) (mCons (mC (.str "a")) (mCons (mC (.int 2)) (mNil))))) (mCons (mTup (mCons (mC (.str "b")) (mCons (mC (.str "a")) (mCons (mC (.int 2)) (mNil))))) (mNil)))) (mNil))))) (mgName 3))
    (mSeq (mAsg (mTup (mCons (mVar 1) (mCons (mTup (mCons (mTup (mCons (mC (.str "a")) (mCons (mC (.str "a")) (mCons (mC (.int 0)) (mNil))))) (mCons (mTup (mCons (mC (.str "a")) (mCons (mC (.str "b")) (mCons (mC (.int 0)) (mNil))))) (mNil)))) (mCons (mTup (mCons (mTup (mCons (mC (.str "b")) (mCons (mC (.str "a")) (mCons (mC (.int 0)) (mNil))))) (mCons (mTup (mCons (mC (.str "b")) (mCons (mC (.str "b")) (mCons (mC (.int 0)) (mNil))))) (mNil)))) (mNil))))) (mgName 4))
    (mSeq (mAsg (mTup (mCons (mOp gAdd (mVar 1) (mTup (mCons (mTup (mCons (mC (.str "x")) (mCons (mC (.str "a")) (mCons (mC (.int 1)) (mNil))))) (mCons (mTup (mCons (mC (.str "x")) (mCons (mC (.str "b")) (mCons (mC (.int 2)) (mNil))))) (mNil))))) (mCons (mTup (mCons (mTup (mCons (mC (.str "a")) (mCons (mC (.str "a")) (mCons (mC (.int 3)) (mNil))))) (mCons (mTup (mCons (mC (.str "x")) (mCons (mC (.str "a")) (mCons (mC (.int 1)) (mNil))))) (mNil)))) (mCons (mTup (mCons (mTup (mCons (mC (.str "b")) (mCons (mC (.str "a")) (mCons (mC (.int 3)) (mNil))))) (mCons (mTup (mCons (mC (.str "x")) (mCons (mC (.str "a")) (mCons (mC (.int 2)) (mNil))))) (mNil)))) (mNil))))) (mgName 5))
    (mSeq (mAsg (mOp gAdd (mVar 5) (mTup (mCons (mTup (mCons (mTup (mCons (mC (.str "a")) (mCons (mC (.str "a")) (mCons (mC (.int 3)) (mNil))))) (mCons (mTup (mCons (mC (.str "b")) (mCons (mC (.str "a")) (mCons (mC (.int 3)) (mNil))))) (mCons (mTup (mCons (mC (.str "x")) (mCons (mC (.str "a")) (mCons (mC (.int 3)) (mNil))))) (mNil))))) (mNil)))) (mgName 5))
    (mSeq (mAsg (mCall 2 F_law_draw (mCons (mVar 0) (mCons (mC (.int 4)) (mNil)))) (mgName 6))
    (mRet (mFrz (mDisp [(mC (.str "heard"), mOp gIx (mLst (mCons (mC (.str "ab")) (mCons (mC (.str "ab")) (mCons (mC (.str "ab")) (mCons (mC (.str "abx")) (mNil)))))) (mVar 6)), (mC (.str "written"), mC (.str "ab")), (mC (.str "rows"), mOp gIx (mLst (mCons (mVar 2) (mCons (mVar 3) (mCons (mVar 4) (mCons (mVar 5) (mNil)))))) (mVar 6))])))))))))
def F_law_known : MF := fnM 7 (M_law_known)
theorem ok_law_known (T : Txt K mg C f_Rules_init fd_Rules_init t_ALPHABET t_MOST_STATES) (ok_law_draw : Cal P w K mg base "_law_draw" 1 2 F_law_draw) (D : Df K mg "_law_known" s_law_known ["_law_deck_here"]) : Cal P w K mg base "_law_known" 2 1 F_law_known := by
  unfold F_law_known M_law_known
  exact cal_ok D sc_law_known fun cdv A fr s H hr hgd => ⟨_, (b_cons (s_set (i := 1) sc_law_known.nd rfl (Or.inl rfl) (d_tup (a_cons (d_tup (a_cons d_str (a_cons d_str (a_cons d_int a_nil)))) (a_cons (d_tup (a_cons d_str (a_cons d_str (a_cons d_int a_nil)))) (a_cons (d_tup (a_cons d_str (a_cons d_str (a_cons d_int a_nil)))) (a_cons (d_tup (a_cons d_str (a_cons d_str (a_cons d_int a_nil)))) a_nil))))))
      (b_cons (s_set (i := 2) sc_law_known.nd rfl (Or.inl rfl) (d_tup (a_cons (dv 1) (a_cons (d_tup (a_cons (d_tup (a_cons d_str (a_cons d_str (a_cons d_int a_nil)))) (a_cons (d_tup (a_cons d_str (a_cons d_str (a_cons d_int a_nil)))) a_nil))) (a_cons (d_tup (a_cons (d_tup (a_cons d_str (a_cons d_str (a_cons d_int a_nil)))) (a_cons (d_tup (a_cons d_str (a_cons d_str (a_cons d_int a_nil)))) a_nil))) a_nil)))))
      (b_cons (s_set (i := 3) sc_law_known.nd rfl (Or.inl rfl) (d_tup (a_cons (dv 1) (a_cons (d_tup (a_cons (d_tup (a_cons d_str (a_cons d_str (a_cons d_int a_nil)))) a_nil)) (a_cons (d_tup (a_cons (d_tup (a_cons d_str (a_cons d_str (a_cons d_int a_nil)))) (a_cons (d_tup (a_cons d_str (a_cons d_str (a_cons d_int a_nil)))) a_nil))) a_nil)))))
      (b_cons (s_set (i := 4) sc_law_known.nd rfl (Or.inl rfl) (d_tup (a_cons (dv 1) (a_cons (d_tup (a_cons (d_tup (a_cons d_str (a_cons d_str (a_cons d_int a_nil)))) (a_cons (d_tup (a_cons d_str (a_cons d_str (a_cons d_int a_nil)))) a_nil))) (a_cons (d_tup (a_cons (d_tup (a_cons d_str (a_cons d_str (a_cons d_int a_nil)))) (a_cons (d_tup (a_cons d_str (a_cons d_str (a_cons d_int a_nil)))) a_nil))) a_nil)))))
      (b_cons (s_set (i := 5) sc_law_known.nd rfl (Or.inl rfl) (d_tup (a_cons (d_add (dv 1) (d_tup (a_cons (d_tup (a_cons d_str (a_cons d_str (a_cons d_int a_nil)))) (a_cons (d_tup (a_cons d_str (a_cons d_str (a_cons d_int a_nil)))) a_nil)))) (a_cons (d_tup (a_cons (d_tup (a_cons d_str (a_cons d_str (a_cons d_int a_nil)))) (a_cons (d_tup (a_cons d_str (a_cons d_str (a_cons d_int a_nil)))) a_nil))) (a_cons (d_tup (a_cons (d_tup (a_cons d_str (a_cons d_str (a_cons d_int a_nil)))) (a_cons (d_tup (a_cons d_str (a_cons d_str (a_cons d_int a_nil)))) a_nil))) a_nil)))))
      (b_cons (s_set (i := 5) sc_law_known.nd rfl (Or.inl rfl) (d_add (dv 5) (d_tup (a_cons (d_tup (a_cons (d_tup (a_cons d_str (a_cons d_str (a_cons d_int a_nil)))) (a_cons (d_tup (a_cons d_str (a_cons d_str (a_cons d_int a_nil)))) (a_cons (d_tup (a_cons d_str (a_cons d_str (a_cons d_int a_nil)))) a_nil)))) a_nil))))
      (b_cons (s_set (i := 6) sc_law_known.nd rfl (Or.inl rfl) (d_cal ok_law_draw (hr.mono (by decide)) hgd rfl (a_cons (dv 0) (a_cons d_int a_nil))))
      (b_one (s_ret (d_frz (d_disp (ps_cons d_str (d_ix (d_lst (a_cons d_str (a_cons d_str (a_cons d_str (a_cons d_str a_nil))))) (dv 6)) (ps_cons d_str d_str (ps_cons d_str (d_ix (d_lst (a_cons (dv 2) (a_cons (dv 3) (a_cons (dv 4) (a_cons (dv 5) a_nil))))) (dv 6)) ps_nil))))))))))))))⟩

/-! ### _law_some -/
abbrev s_law_some : Stmt := top 62
theorem sc_law_some : FnScope ["_law_deck_here", "_law_top", "_law_heard_now"] ["_law_deck_here", "_law_top"] (defScope s_law_some) := ⟨rfl, rfl, rfl, by decide +kernel, rfl, by decide +kernel, by decide +kernel⟩
def M_law_some : MS :=
    mSeq (mIfS (mTest (mOp gEq (mCall 2 F_law_draw (mCons (mVar 0) (mCons (mC (.int 4)) (mNil)))) (mC (.int 0)))) (mRet (mCall 1 F_law_known (mCons (mVar 0) (mNil)))) (mNext))
    (mSeq (mAsg (mCall 2 F_law_pick (mCons (mVar 0) (mCons (mLst (mCons (mC (.str "ab")) (mCons (mC (.str "ab")) (mCons (mC (.str "ab")) (mCons (mC (.str "a")) (mNil)))))) (mNil)))) (mgName 2))
    (mRet (mCall 4 F_law_drawn (mCons (mVar 0) (mCons (mVar 1) (mCons (mVar 2) (mCons (mCall 2 F_law_pick (mCons (mVar 0) (mCons (mLst (mCons (mC (.str "ab")) (mCons (mC (.str "xy")) (mCons (mC (.str "ab")) (mCons (mC (.str "abc")) (mNil)))))) (mNil)))) (mNil))))))))
def F_law_some : MF := fnM 3 (M_law_some)
theorem ok_law_some (T : Txt K mg C f_Rules_init fd_Rules_init t_ALPHABET t_MOST_STATES) (ok_law_draw : Cal P w K mg base "_law_draw" 1 2 F_law_draw) (ok_law_drawn : Cal P w K mg base "_law_drawn" 4 4 F_law_drawn) (ok_law_known : Cal P w K mg base "_law_known" 2 1 F_law_known) (ok_law_pick : Cal P w K mg base "_law_pick" 2 2 F_law_pick) (D : Df K mg "_law_some" s_law_some ["_law_deck_here", "_law_top"]) : Cal P w K mg base "_law_some" 5 2 F_law_some := by
  unfold F_law_some M_law_some
  exact cal_ok D sc_law_some fun cdv A fr s H hr hgd => ⟨_, (b_cons (s_if (t_eq hr (d_cal ok_law_draw (hr.mono (by decide)) hgd rfl (a_cons (dv 0) (a_cons d_int a_nil))) d_int) (b_one (s_ret (d_cal ok_law_known (hr.mono (by decide)) hgd rfl (a_cons (dv 0) a_nil)))) b_nil)
      (b_cons (s_set (i := 2) sc_law_some.nd rfl (Or.inl rfl) (d_cal ok_law_pick (hr.mono (by decide)) hgd rfl (a_cons (dv 0) (a_cons (d_lst (a_cons d_str (a_cons d_str (a_cons d_str (a_cons d_str a_nil))))) a_nil))))
      (b_one (s_ret (d_cal ok_law_drawn (hr.mono (by decide)) hgd rfl (a_cons (dv 0) (a_cons (dv 1) (a_cons (dv 2) (a_cons (d_cal ok_law_pick (hr.mono (by decide)) hgd rfl (a_cons (dv 0) (a_cons (d_lst (a_cons d_str (a_cons d_str (a_cons d_str (a_cons d_str a_nil))))) a_nil))) a_nil)))))))))⟩

/-! ### _law_speech -/
abbrev s_law_speech : Stmt := top 63
theorem sc_law_speech : FnScope ["_law_deck_here", "_law_w", "_law_most", "_law_k"] ["_law_deck_here", "_law_w", "_law_most"] (defScope s_law_speech) := ⟨rfl, rfl, rfl, by decide +kernel, rfl, by decide +kernel, by decide +kernel⟩
def M_law_speech : MS :=
    mRet (mBM "str" gJoin (mC (.str "")) (mCons (mComp (mRng1 (mCons (mCall 2 F_law_draw (mCons (mVar 0) (mCons (mOp gAdd (mVar 2) (mC (.int 1))) (mNil)))) (mNil))) (mgName 3) (mYes) (mCall 2 F_law_pick (mCons (mVar 0) (mCons (mDGet (mVar 1) (mC (.str "heard"))) (mNil)))) [3]) (mNil)))
def F_law_speech : MF := fnM 4 (M_law_speech)
theorem ok_law_speech (T : Txt K mg C f_Rules_init fd_Rules_init t_ALPHABET t_MOST_STATES) (ok_law_draw : Cal P w K mg base "_law_draw" 1 2 F_law_draw) (ok_law_pick : Cal P w K mg base "_law_pick" 2 2 F_law_pick) (D : Df K mg "_law_speech" s_law_speech ["_law_deck_here", "_law_w", "_law_most"]) : Cal P w K mg base "_law_speech" 3 3 F_law_speech := by
  unfold F_law_speech M_law_speech
  exact cal_ok D sc_law_speech fun cdv A fr s H hr hgd => ⟨_, (b_one (s_ret (d_join d_str (a_cons (f_comp (own := [("_law_k", 3)]) rfl sc_law_speech.nd (i_rng1 rfl T.b_range (a_cons (d_cal ok_law_draw (hr.mono (by decide)) hgd rfl (a_cons (dv 0) (a_cons (d_add (dv 2) d_int) a_nil))) a_nil)) (blkOk_by (by first | decide +kernel | kernel_rfl)) (fun _ _ _ _ _ => (gw_name (i := 3) (by decide) sc_law_speech.nd rfl (by first | exact Or.inl rfl | exact Or.inr rfl))) (fun _ _ _ _ _ => ts_nil) (fun _ _ _ _ _ => (d_cal ok_law_pick (hr.mono (by decide)) hgd rfl (a_cons (dv 0) (a_cons (d_dget hr (dv 1) d_str) a_nil))))) a_nil))))⟩

/-! ### law -/
abbrev s_law : Stmt := top 64
theorem sc_law : FnScope ["_law_script", "_law_deck_here", "_law_go", "_law_w", "_law_rules_now", "_law_state_now", "_law_page", "_law_due", "_law_heard"] ["_law_script"] (defScope s_law) := ⟨rfl, rfl, rfl, by decide +kernel, rfl, by decide +kernel, by decide +kernel⟩
def M_law (C : Addr) : MS :=
    mSeq (mAsg (mCall 1 F_law_deck (mCons (mVar 0) (mNil))) (mgName 1))
    (mSeq (mFor (mRng1 (mCons (mC (.int 2)) (mNil))) (mgName 2) (mSeq (mAsg (mCall 2 F_law_some (mCons (mVar 1) (mCons (mC (.int 4)) (mNil)))) (mgName 3))
    (mSeq (mAsg (mCall 1 (F_law_made C) (mCons (mVar 3) (mNil))) (mgName 4))
    (mFor (mRng1 (mCons (mBlt gLenS (mCons (mDGet (mVar 3) (mC (.str "rows"))) (mNil))) (mNil))) (mgName 5) (mFor (mSeqI (mLst (mCons (mC (.str "")) (mCons (mCall 3 F_law_speech (mCons (mVar 1) (mCons (mVar 3) (mCons (mC (.int 2)) (mNil))))) (mCons (mCall 3 F_law_speech (mCons (mVar 1) (mCons (mVar 3) (mCons (mC (.int 5)) (mNil))))) (mNil)))))) (mgName 6) (mSeq (mAsg (mOp gNe (mCall 3 F_law_on (mCons (mVar 3) (mCons (mLst (mCons (mVar 5) (mNil))) (mCons (mVar 6) (mNil))))) (mLst (mNil))) (mgName 7))
    (mSeq (mAsg (mLst (mCons (mCall 3 (F_is_open C) (mCons (mVar 4) (mCons (mVar 5) (mCons (mVar 6) (mNil))))) (mCons (mKwC 3 (List.length (α := Str) ["waiting", "state", "rules"]) [2, 1, 0] (F_is_open C) (mCons (mVar 6) (mCons (mVar 5) (mCons (mVar 4) (mNil))))) (mNil)))) (mgName 8))
    (mIfS (mTest (mOp gNe (mBlt gReprE (mCons (mVar 8) (mNil))) (mBlt gReprE (mCons (mLst (mCons (mVar 7) (mCons (mVar 7) (mNil)))) (mNil))))) (mRet (mC (.bl false))) (mNext)))))))))
    (mRet (mC (.bl true))))
def F_law (C : Addr) : MF := fnM 9 (M_law C)
theorem ok_law {f : Addr} {fd : FuncData} (T : Txt K mg C f_Rules_init fd_Rules_init t_ALPHABET t_MOST_STATES) (ok_law_deck : Cal P w K mg base "_law_deck" 1 1 F_law_deck) (ok_law_made : Cal P w K mg base "_law_made" 8 1 (F_law_made C)) (ok_law_on : Cal P w K mg base "_law_on" 2 3 F_law_on) (ok_law_some : Cal P w K mg base "_law_some" 5 2 F_law_some) (ok_law_speech : Cal P w K mg base "_law_speech" 3 3 F_law_speech) (ok_is_open : Cal P w K mg base "is_open" 5 3 (F_is_open C)) (okK_is_open_2_1_0 : CalK P w K mg base "is_open" 5 3 (F_is_open C) ["waiting", "state", "rules"] [2, 1, 0]) (D : Fun K "law" "law" s_law f fd) : FnG P w K mg base 9 f fd ["_law_script"] 1 (F_law C) := by
  unfold F_law M_law
  exact fn_ok D sc_law fun cdv A fr s H hr hgd => ⟨_, (b_cons (s_set (i := 1) sc_law.nd rfl (Or.inl rfl) (d_cal ok_law_deck (hr.mono (by decide)) hgd rfl (a_cons (dv 0) a_nil)))
      (b_cons (s_for PassesOwn.never rfl (i_rng1 rfl T.b_range (a_cons d_int a_nil)) (g_name (i := 2) sc_law.nd rfl (Or.inl rfl)) (b_cons (s_set (i := 3) sc_law.nd rfl (Or.inl rfl) (d_cal ok_law_some (hr.mono (by decide)) hgd rfl (a_cons (dv 1) (a_cons d_int a_nil))))
      (b_cons (s_set (i := 4) sc_law.nd rfl (Or.inl rfl) (d_cal ok_law_made (hr.mono (by decide)) hgd rfl (a_cons (dv 3) a_nil)))
      (b_one (s_for PassesOwn.never rfl (i_rng1 rfl T.b_range (a_cons (d_callB call_len rc_len rfl T.b_len bt_len (a_cons (d_dget hr (dv 3) d_str) a_nil)) a_nil)) (g_name (i := 5) sc_law.nd rfl (Or.inl rfl)) (b_one (s_for PassesOwn.never rfl (i_seq (d_lst (a_cons d_str (a_cons (d_cal ok_law_speech (hr.mono (by decide)) hgd rfl (a_cons (dv 1) (a_cons (dv 3) (a_cons d_int a_nil)))) (a_cons (d_cal ok_law_speech (hr.mono (by decide)) hgd rfl (a_cons (dv 1) (a_cons (dv 3) (a_cons d_int a_nil)))) a_nil))))) (g_name (i := 6) sc_law.nd rfl (Or.inl rfl)) (b_cons (s_set (i := 7) sc_law.nd rfl (Or.inl rfl) (e_ne hr (d_cal ok_law_on (hr.mono (by decide)) hgd rfl (a_cons (dv 3) (a_cons (d_lst (a_cons (dv 5) a_nil)) (a_cons (dv 6) a_nil)))) (d_lst a_nil)))
      (b_cons (s_set (i := 8) sc_law.nd rfl (Or.inl rfl) (d_lst (a_cons (d_cal ok_is_open (hr.mono (by decide)) hgd rfl (a_cons (dv 4) (a_cons (dv 5) (a_cons (dv 6) a_nil)))) (a_cons (d_calK okK_is_open_2_1_0 (hr.mono (by decide)) hgd rfl (k_cons (dv 6) (k_cons (dv 5) (k_cons (dv 4) k_nil)))) a_nil))))
      (b_one (s_if (t_ne hr (d_callB (call_reprE hr hgd) rc_reprE rfl T.b_repr bt_repr (a_cons (dv 8) a_nil)) (d_callB (call_reprE hr hgd) rc_reprE rfl T.b_repr bt_repr (a_cons (d_lst (a_cons (dv 7) (a_cons (dv 7) a_nil))) a_nil))) (b_one (s_ret d_bl)) b_nil)))))))))))
      (b_one (s_ret d_bl))))⟩
end
end Law
namespace Law
open PySem L2 PyProof.Rows DL
def K3 : List Key := [.inr "left", .inr "blend", .inr "lap"]
def deckS (cs : List Int) (g n : Int) (R : Sto) : Sto := .dic K3 [.loc 1, .int g, .int n] :: .lst (cs.map .int) :: R
def Deck (k : Int) (R S : Sto) : Prop := ∃ cs g n, S = deckS cs g n R ∧ 0 ≤ g ∧ g < 2147483587 ∧ 0 ≤ n ∧ n ≤ k
theorem szK : K3.length < sizeLine := by decide
theorem sz0 : 0 ≤ sizeLine := by decide
theorem sz1 : 1 ≤ sizeLine := by decide
theorem sz2 : 2 ≤ sizeLine := by decide
theorem sz3 : 3 ≤ sizeLine := by decide
theorem sz4 : 4 ≤ sizeLine := by decide
section
variable (cs : List Int) (g n : Int) (R : Sto)
theorem v_deck : viewD (deckS cs g n R) (.loc 0) = some (K3, [.loc 1, .int g, .int n]) := rfl
theorem l_cells : dlook K3 [.loc 1, .int g, .int n] (.inr "left") = some (.loc 1) := rfl
theorem l_ground : dlook K3 [.loc 1, .int g, .int n] (.inr "blend") = some (.int g) := by
  have e : (Sum.inr "left" : Key) ≠ .inr "blend" := by decide +kernel
  simp only [K3, dlook, if_neg e, if_pos]
theorem l_draws : dlook K3 [.loc 1, .int g, .int n] (.inr "lap") = some (.int n) := by
  have e : (Sum.inr "left" : Key) ≠ .inr "lap" := by decide +kernel
  have e2 : (Sum.inr "blend" : Key) ≠ .inr "lap" := by decide +kernel
  simp only [K3, dlook, if_neg e, if_neg e2, if_pos]
theorem p_draws (m : Int) : dput K3 [.loc 1, .int g, .int n] (.inr "lap") (.int m) = (K3, [.loc 1, .int g, .int m]) := by
  have e : (Sum.inr "left" : Key) ≠ .inr "lap" := by decide +kernel
  have e2 : (Sum.inr "blend" : Key) ≠ .inr "lap" := by decide +kernel
  have a : (K3.any fun k => decide (k = (Sum.inr "lap" : Key))) = true := by decide +kernel
  unfold dput
  rw [if_pos a]
  simp [K3, e, e2]
theorem i_deck0 : (deckS cs g n R)[0]? = some (.dic K3 [.loc 1, .int g, .int n]) := rfl
theorem i_deck1 : (deckS cs g n R)[1]? = some (.lst (cs.map .int)) := rfl
theorem s_deck0 (m : Int) : (deckS cs g n R).set 0 (.dic K3 [.loc 1, .int g, .int m]) = deckS cs g m R := rfl
theorem s_deck1 (ds : List Int) : (deckS cs g n R).set 1 (.lst (ds.map .int)) = deckS ds g n R := rfl
theorem t_cells : isTy (deckS cs g n R) "list" (.loc 1) = true := rfl
theorem len_deck : (deckS cs g n R).length = R.length + 2 := rfl
theorem toPs_ints : ∀ l : List Int, toPs (l.map D.int) = some (l.map .int)
  | [] => rfl
  | x :: l => by simp [toPs, toP, toPs_ints l]
theorem lay_ints : ∀ l : List Int, PyData.canLayAll0 (l.map .int) = true ∧ PyData.depthAll (l.map .int) = 0
  | [] => ⟨rfl, rfl⟩
  | x :: l => by simp [PyData.canLayAll0, PyData.depthAll, PyData.canLay0, PyData.depth, lay_ints l]
theorem eqD_nil {S : Sto} {d : D} {ps : List PyData} (h0 : toScal d = none) (h : toPS S d = some (.list ps)) (hl : PyData.canLayAll0 ps = true) (hd : PyData.depthAll ps ≤ 63) : eqD S d (.lst []) = some ps.isEmpty := by
  unfold eqD
  rw [h0, h]
  have e2 : toPS S (.lst []) = some (.list []) := rfl
  have s1 : SeqAt.shaped (.list ps) = true := by
    unfold SeqAt.shaped PyData.canLay0 PyData.depth
    rw [hl, decide_eq_true (by omega)]
    rfl
  have s2 : SeqAt.shaped (.list []) = true := by decide
  simp only [Option.bind_none, e2, Option.bind_some, s1, s2, and_self, if_true]
  cases ps <;> rfl
theorem ne_cells : gNe (.loc 1) (.lst []) (deckS cs g n R) = some (.bl (!cs.isEmpty), deckS cs g n R) := by
  have e : toPS (deckS cs g n R) (.loc 1) = some (.list (cs.map .int)) := by
    simp only [toPS, i_deck1, toPs_ints, Option.map_some]
  unfold gNe
  rw [eqD_nil rfl e (lay_ints cs).1 (by rw [(lay_ints cs).2]; exact Nat.zero_le _)]
  cases cs <;> rfl
end
theorem cmul_r {i j : Int} (h : -(2 ^ 64) < j ∧ j < 2 ^ 64) : CMul i j := .inr h
theorem cmul_l {i j : Int} (h : -(2 ^ 64) < i ∧ i < 2 ^ 64) : CMul i j := .inl h
theorem g_mul {i j : Int} {S : Sto} (h : CMul i j) : gMul (.int i) (.int j) S = some (.int (i * j), S) := by
  unfold gMul gInt
  simp only
  rw [if_pos (decide_eq_true h)]
theorem g_mod {i j : Int} {S : Sto} (h : 0 < j) : gMod (.int i) (.int j) S = some (.int (i % j), S) := by
  unfold gMod gInt
  simp only
  rw [if_pos (decide_eq_true h)]
theorem g_fdiv {i j : Int} {S : Sto} (h : CDiv i j) : gFdiv (.int i) (.int j) S = some (.int (i / j), S) := by
  unfold gFdiv gInt
  simp only
  rw [if_pos (decide_eq_true h)]
theorem g_add (i j : Int) (S : Sto) : gAdd (.int i) (.int j) S = some (.int (i + j), S) := rfl
theorem g_int (i : Int) (S : Sto) : gIntC [.int i] S = some (.int i, S) := rfl
theorem g_ge (i j : Int) (S : Sto) : gGe (.int i) (.int j) S = some (.bl (decide (j ≤ i)), S) := rfl
theorem g_gt (i j : Int) (S : Sto) : gGt (.int i) (.int j) S = some (.bl (decide (j < i)), S) := rfl
theorem g_lt (i j : Int) (S : Sto) : gLt (.int i) (.int j) S = some (.bl (decide (i < j)), S) := rfl
theorem g_pow18 (S : Sto) : gPow (.int 10) (.int 18) S = some (.int (10 ^ 18), S) := by
  unfold gPow gInt
  simp only
  rw [if_pos (by decide)]
  rfl
theorem pop_cells (l : List Int) (c g n : Int) (R : Sto) : gPop (.loc 1) [] (deckS (l ++ [c]) g n R) = some (.int c, deckS l g n R) := by
  unfold gPop
  simp only [i_deck1]
  simp [deckS]
theorem push_cells (l : List Int) (c g n : Int) (R : Sto) (h : l.length < sizeLine) : gAppend (.loc 1) [.int c] (deckS l g n R) = some (.non, deckS (l ++ [c]) g n R) := by
  unfold gAppend
  simp only [i_deck1, List.length_map, if_pos h]
  simp [deckS]
def DeckN (k : Int) (R S : Sto) : Prop := ∃ cs g n, S = deckS cs g n R ∧ cs.length ≤ 63 ∧ 0 ≤ g ∧ g < 2147483587 ∧ 0 ≤ n ∧ n ≤ k
/-- a number is drawn -/
theorem draw_ok {k b : Int} {R S : Sto} (h : DeckN k R S) (hk : k ≤ 1000000) (hb : 0 < b) (hb2 : b < 1000) : Ok (F_law_draw [.loc 0, .int b] S) fun p => ∃ r, p.1 = .int r ∧ 0 ≤ r ∧ r < b ∧ DeckN (k + 1) R p.2 := by
  obtain ⟨cs, g, n, rfl, hcs, hg0, hg1, hn0, hn1⟩ := h
  unfold F_law_draw M_law_draw
  refine k_fn ?_
  have tk : toKey (.str "lap") = some (.inr "lap") := rfl
  have tk2 : toKey (.str "blend") = some (.inr "blend") := rfl
  have tk3 : toKey (.str "left") = some (.inr "left") := rfl
  have ts : ∀ (d : D) (cs' : List Int) (g' n' : Int), trim (deckS cs g n R).length d (deckS cs' g' n' R) = (d, deckS cs' g' n' R) := fun d cs' g' n' => trim_same (Nat.le_refl _)
  rcases List.eq_nil_or_concat cs with rfl | ⟨l, c, rfl⟩
  · have m1 : CMul 60271 (n + 1) := cmul_l (by decide)
    have m2 : CMul (60271 * (n + 1)) (n + 1) := cmul_r (by omega)
    have m3 : ∀ z, CMul z 69621 := fun z => cmul_r (by decide)
    have m4 : ∀ z : Int, CMul (z % 2147483647) (z % 2147483647) := fun z => cmul_r (by have := Int.emod_nonneg z (show (2147483647 : Int) ≠ 0 by decide); have := Int.emod_lt_of_pos z (show (0 : Int) < 2147483647 by decide); omega)
    have m5 : CMul 69621 (n + 1) := cmul_l (by decide)
    have m6 : ∀ z, CMul z 16807 := fun z => cmul_r (by decide)
    simp only [fnM, runB, mSeq, mAsg, mDPut, mDGet, mPar, mPar3, mgName, mgTup, mgCons, mgNil, mVar, mC, mOp, mTest, mAnd, mOr, mNot, mNotV, mIf, mIfS, mRet, mRetN, mDrop, mNext, mCall, mCons, mNil, mTup, mLst, mLstM, mBlt, mBM, mBM0, mFrz, mFld, mSetF, mYes, mSl, mNoPart, mPart, mSeqI, mRng1, mRng2, mZip, mEnumerate, mMe, mMeK, mNew, mNever, mAndV, mOrV, mDGet2, mDNew, mDisp, mPairs, mRevS, mEnumS, mListVals, mTupR, mKwC, mInD, mNeg, mRev, mRevM, List.map_cons, List.map_nil, List.length_cons, List.length_nil, List.replicate_succ, List.replicate_zero, List.cons_append, List.nil_append, List.append_nil, List.getD_cons_zero, List.getD_cons_succ, List.set_cons_zero, List.set_cons_succ, List.getElem?_cons_zero, List.getElem?_cons_succ, Nat.zero_add, Nat.reduceAdd, Nat.reduceSub, Option.bind_some, Option.map_some, Option.bind_none, Option.map_none, ↓reduceIte, Bool.false_eq_true, szK, sz0, sz1, sz2, sz3, sz4, if_pos rfl, v_deck, i_deck0, i_deck1, tk, tk2, tk3, l_draws, l_ground, l_cells, p_draws, g_add, s_deck0, ne_cells, List.isEmpty_nil, Bool.not_true, g_mod (show (0 : Int) < 2147483647 by decide), g_mod (show (0 : Int) < 2147483579 by decide), g_mod (show (0 : Int) < 2147483563 by decide), g_mod hb, g_mul m1, g_mul m2, g_mul (m3 _), g_mul (m4 _), g_mul m5, g_mul (m6 _), g_int, g_fdiv (show CDiv _ 64 from ⟨by decide, by decide⟩)]
    refine Ok.some ?_
    dsimp only
    rw [ts]
    exact ⟨_, rfl, Int.emod_nonneg _ (by omega), Int.emod_lt_of_pos _ hb, [], g, n + 1, rfl, hcs, hg0, hg1, by omega, by omega⟩
  · rw [List.length_concat] at hcs
    have hl : l.length < sizeLine := by rw [sizeLine_eq]; omega
    rw [List.concat_eq_append] at *
    have ne : (l ++ [c]).isEmpty = false := by cases l <;> rfl
    have ty : ∀ (l : List Int) (n : Int), isTy (deckS l g n R) "list" (.loc 1) = true := fun _ _ => rfl
    by_cases hc : b ≤ c
    · simp only [fnM, runB, mSeq, mAsg, mDPut, mDGet, mPar, mPar3, mgName, mgTup, mgCons, mgNil, mVar, mC, mOp, mTest, mAnd, mOr, mNot, mNotV, mIf, mIfS, mRet, mRetN, mDrop, mNext, mCall, mCons, mNil, mTup, mLst, mLstM, mBlt, mBM, mBM0, mFrz, mFld, mSetF, mYes, mSl, mNoPart, mPart, mSeqI, mRng1, mRng2, mZip, mEnumerate, mMe, mMeK, mNew, mNever, mAndV, mOrV, mDGet2, mDNew, mDisp, mPairs, mRevS, mEnumS, mListVals, mTupR, mKwC, mInD, mNeg, mRev, mRevM, List.map_cons, List.map_nil, List.length_cons, List.length_nil, List.replicate_succ, List.replicate_zero, List.cons_append, List.nil_append, List.append_nil, List.getD_cons_zero, List.getD_cons_succ, List.set_cons_zero, List.set_cons_succ, List.getElem?_cons_zero, List.getElem?_cons_succ, Nat.zero_add, Nat.reduceAdd, Nat.reduceSub, Option.bind_some, Option.map_some, Option.bind_none, Option.map_none, ↓reduceIte, Bool.false_eq_true, szK, sz0, sz1, sz2, sz3, sz4, if_pos rfl, v_deck, tk3, l_cells, ne_cells, ne, Bool.not_false, ty, pop_cells, g_int, g_ge, decide_eq_true hc, g_fdiv (show CDiv c b from ⟨hb, by omega⟩), push_cells _ _ _ _ _ hl, g_mod hb]
      refine Ok.some ?_
      dsimp only
      rw [ts]
      exact ⟨_, rfl, Int.emod_nonneg _ (by omega), Int.emod_lt_of_pos _ hb, l ++ [c / b], g, n, rfl, by simp; omega, hg0, hg1, by omega, by omega⟩
    · simp only [fnM, runB, mSeq, mAsg, mDPut, mDGet, mPar, mPar3, mgName, mgTup, mgCons, mgNil, mVar, mC, mOp, mTest, mAnd, mOr, mNot, mNotV, mIf, mIfS, mRet, mRetN, mDrop, mNext, mCall, mCons, mNil, mTup, mLst, mLstM, mBlt, mBM, mBM0, mFrz, mFld, mSetF, mYes, mSl, mNoPart, mPart, mSeqI, mRng1, mRng2, mZip, mEnumerate, mMe, mMeK, mNew, mNever, mAndV, mOrV, mDGet2, mDNew, mDisp, mPairs, mRevS, mEnumS, mListVals, mTupR, mKwC, mInD, mNeg, mRev, mRevM, List.map_cons, List.map_nil, List.length_cons, List.length_nil, List.replicate_succ, List.replicate_zero, List.cons_append, List.nil_append, List.append_nil, List.getD_cons_zero, List.getD_cons_succ, List.set_cons_zero, List.set_cons_succ, List.getElem?_cons_zero, List.getElem?_cons_succ, Nat.zero_add, Nat.reduceAdd, Nat.reduceSub, Option.bind_some, Option.map_some, Option.bind_none, Option.map_none, ↓reduceIte, Bool.false_eq_true, szK, sz0, sz1, sz2, sz3, sz4, if_pos rfl, v_deck, tk3, l_cells, ne_cells, ne, Bool.not_false, ty, pop_cells, g_int, g_ge, decide_eq_false hc, g_mod hb]
      refine Ok.some ?_
      dsimp only
      rw [ts]
      exact ⟨_, rfl, Int.emod_nonneg _ (by omega), Int.emod_lt_of_pos _ hb, l, g, n, rfl, by omega, hg0, hg1, by omega, by omega⟩
theorem atI_nat {α : Type} {xs : List α} {r : Int} (h0 : 0 ≤ r) (h1 : r < xs.length) : ∃ d, xs[r.toNat]? = some d ∧ atI xs r = some d := by
  have hr : r.toNat < xs.length := by omega
  refine ⟨xs[r.toNat], List.getElem?_eq_getElem hr, ?_⟩
  unfold atI ixN
  rw [if_pos h0]
  simp [hr, h1]
theorem i_deckN {k : Int} {R S : Sto} (h : DeckN k R S) : S.length = R.length + 2 := by
  obtain ⟨cs, g, n, rfl, _⟩ := h
  rfl
theorem DeckN.mono {k k2 : Int} {R S : Sto} (h : DeckN k R S) (l : k ≤ k2) : DeckN k2 R S := by
  obtain ⟨cs, g, n, h1, h2, h3, h4, h5, h6⟩ := h
  exact ⟨cs, g, n, h1, h2, h3, h4, h5, by omega⟩
theorem DeckN.snoc {k : Int} {R S : Sto} (h : DeckN k R S) (o : O) : DeckN k (R ++ [o]) (S ++ [o]) := by
  obtain ⟨cs, g, n, rfl, h⟩ := h
  exact ⟨cs, g, n, rfl, h⟩
theorem DeckN.unsnoc {k : Int} {R S : Sto} {o : O} (h : DeckN k (R ++ [o]) S) : ∃ T, S = T ++ [o] ∧ DeckN k R T := by
  obtain ⟨cs, g, n, rfl, h⟩ := h
  exact ⟨deckS cs g n R, rfl, cs, g, n, rfl, h⟩
/-- a place in what is drawn from -/
theorem pickS_ok {k : Int} {R S : Sto} {z : Str} (h : DeckN k R S) (hk : k ≤ 1000000) (h1 : 0 < z.length) (h2 : z.length < 1000) : Ok (F_law_pick [.loc 0, .str z] S) fun p => ∃ c, c ∈ z.cps.toList ∧ p.1 = .str ⟨#[c]⟩ ∧ DeckN (k + 1) R p.2 := by
  unfold F_law_pick M_law_pick
  refine k_fn ?_
  obtain ⟨⟨d, S1⟩, e, r, hd, hr0, hr1, hS⟩ := draw_ok h hk (b := z.length) (by omega) (by omega)
  simp only at hd
  subst hd
  have hz : z.length ≤ sizeLine := by rw [sizeLine_eq]; omega
  have el : gLenS [.str z] S = some (.int z.length, S) := by unfold gLenS; simp only [if_pos hz]
  obtain ⟨c, c1, c2⟩ := atI_nat (xs := z.cps.toList) hr0 (by simpa [Str.length] using hr1)
  have ei : gIx (.str z) (.int r) S1 = some (.str ⟨#[c]⟩, S1) := by
    unfold gIx
    simp only [if_pos hz, c2, Option.map_some]
  simp only [fnM, runB, mSeq, mAsg, mDPut, mDGet, mPar, mPar3, mgName, mgTup, mgCons, mgNil, mVar, mC, mOp, mTest, mAnd, mOr, mNot, mNotV, mIf, mIfS, mRet, mRetN, mDrop, mNext, mCall, mCons, mNil, mTup, mLst, mLstM, mBlt, mBM, mBM0, mFrz, mFld, mSetF, mYes, mSl, mNoPart, mPart, mSeqI, mRng1, mRng2, mZip, mEnumerate, mMe, mMeK, mNew, mNever, mAndV, mOrV, mDGet2, mDNew, mDisp, mPairs, mRevS, mEnumS, mListVals, mTupR, mKwC, mInD, mNeg, mRev, mRevM, List.map_cons, List.map_nil, List.length_cons, List.length_nil, List.replicate_succ, List.replicate_zero, List.cons_append, List.nil_append, List.append_nil, List.getD_cons_zero, List.getD_cons_succ, List.set_cons_zero, List.set_cons_succ, List.getElem?_cons_zero, List.getElem?_cons_succ, Nat.zero_add, Nat.reduceAdd, Nat.reduceSub, Option.bind_some, Option.map_some, Option.bind_none, Option.map_none, ↓reduceIte, Bool.false_eq_true, szK, sz0, sz1, sz2, sz3, sz4, if_pos rfl, el, e, ei]
  refine Ok.some ?_
  have : S1.length ≤ S.length := by rw [i_deckN hS, i_deckN h]; exact Nat.le_refl _
  simp only [trim_same this]
  exact ⟨c, List.mem_of_getElem? c1, rfl, hS⟩
theorem pickL_ok {k : Int} {R S : Sto} {x : D} {ds : List D} (h : DeckN k R S) (hk : k ≤ 1000000) (hx : x = .tup ds ∨ x = .lst ds) (h1 : 0 < ds.length) (h2 : ds.length < 1000) : Ok (F_law_pick [.loc 0, x] S) fun p => p.1 ∈ ds ∧ DeckN (k + 1) R p.2 := by
  unfold F_law_pick M_law_pick
  refine k_fn ?_
  obtain ⟨⟨d, S1⟩, e, r, hd, hr0, hr1, hS⟩ := draw_ok h hk (b := ds.length) (by omega) (by omega)
  simp only at hd
  subst hd
  have el : gLenS [x] S = some (.int ds.length, S) := by rcases hx with rfl | rfl <;> rfl
  obtain ⟨c, c1, c2⟩ := atI_nat (xs := ds) hr0 hr1
  have ei : gIx x (.int r) S1 = some (c, S1) := by
    rcases hx with rfl | rfl <;> (unfold gIx; simp only [viewS, viewL, viewW, Option.bind_some, c2, Option.map_some])
  simp only [fnM, runB, mSeq, mAsg, mDPut, mDGet, mPar, mPar3, mgName, mgTup, mgCons, mgNil, mVar, mC, mOp, mTest, mAnd, mOr, mNot, mNotV, mIf, mIfS, mRet, mRetN, mDrop, mNext, mCall, mCons, mNil, mTup, mLst, mLstM, mBlt, mBM, mBM0, mFrz, mFld, mSetF, mYes, mSl, mNoPart, mPart, mSeqI, mRng1, mRng2, mZip, mEnumerate, mMe, mMeK, mNew, mNever, mAndV, mOrV, mDGet2, mDNew, mDisp, mPairs, mRevS, mEnumS, mListVals, mTupR, mKwC, mInD, mNeg, mRev, mRevM, List.map_cons, List.map_nil, List.length_cons, List.length_nil, List.replicate_succ, List.replicate_zero, List.cons_append, List.nil_append, List.append_nil, List.getD_cons_zero, List.getD_cons_succ, List.set_cons_zero, List.set_cons_succ, List.getElem?_cons_zero, List.getElem?_cons_succ, Nat.zero_add, Nat.reduceAdd, Nat.reduceSub, Option.bind_some, Option.map_some, Option.bind_none, Option.map_none, ↓reduceIte, Bool.false_eq_true, szK, sz0, sz1, sz2, sz3, sz4, if_pos rfl, el, e, ei]
  refine Ok.some ?_
  have : S1.length ≤ S.length := by rw [i_deckN hS, i_deckN h]; exact Nat.le_refl _
  simp only [trim_same this]
  exact ⟨List.mem_of_getElem? c1, hS⟩
def Letters (z : Str) : Prop := z.cps.toList ≠ [] ∧ z.cps.toList.Pairwise (· < ·) ∧ (∀ c ∈ z.cps.toList, 97 ≤ c ∧ c ≤ 122) ∧ z.cps.toList.length ≤ 3
abbrev sg (c : Nat) : Str := ⟨#[c]⟩
theorem join_sg : ∀ xs : List Nat, Txt.join "" (xs.map sg) = ⟨xs.toArray⟩
  | [] => rfl
  | x :: r => by
    have e : ("" : Str).cps = #[] := rfl
    have main : ∀ (r : List Nat) (acc : Array Nat), (r.map sg).foldl (fun acc (p : Str) => acc ++ ("" : Str).cps ++ p.cps) acc = acc ++ r.toArray := by
      intro r
      induction r with
      | nil => intro acc; simp
      | cons c r ih =>
        intro acc
        rw [List.map_cons, List.foldl_cons, ih, e]
        simp
    show (⟨(r.map sg).foldl (fun acc (p : Str) => acc ++ ("" : Str).cps ++ p.cps) #[x]⟩ : Str) = _
    rw [main]
    simp
theorem sum_sg : ∀ xs : List Nat, ((xs.map sg).map (·.length)).sum = xs.length
  | [] => rfl
  | x :: r => by
    rw [List.map_cons, List.map_cons, List.sum_cons, sum_sg r, List.length_cons]
    show 1 + r.length = _
    omega
theorem ltX_sg (a b : Nat) : ltX (sg a) (sg b) = decide (a < b) := by
  unfold ltX
  simp [List.cons_lt_cons_iff]
theorem sort_sg {xs : List Nat} : ∃ ys : List Nat, sortU ltX (xs.map sg) = ys.map sg ∧ ys.Pairwise (· < ·) ∧ (∀ y ∈ ys, y ∈ xs) ∧ ys.length ≤ xs.length ∧ (xs ≠ [] → ys ≠ []) := by
  have hm := fun z => sortU_mem linX (z := z) (l := xs.map sg)
  have hs := sortU_str linX (xs.map sg)
  have hl := sortU_len ltX (xs.map sg)
  generalize sortU ltX (xs.map sg) = l at hm hs hl
  have ex : ∀ l : List Str, (∀ z ∈ l, ∃ c, z = sg c) → ∃ ys : List Nat, l = ys.map sg := by
    intro l
    induction l with
    | nil => intro _; exact ⟨[], rfl⟩
    | cons z l ih =>
      intro h
      obtain ⟨c, rfl⟩ := h z List.mem_cons_self
      obtain ⟨ys, rfl⟩ := ih fun u hu => h u (List.mem_cons_of_mem _ hu)
      exact ⟨c :: ys, rfl⟩
  obtain ⟨ys, rfl⟩ := ex l fun z hz => by
    obtain ⟨c, _, rfl⟩ := List.mem_map.mp ((hm z).mp hz)
    exact ⟨c, rfl⟩
  refine ⟨ys, rfl, ?_, fun y hy => ?_, by simpa using hl, fun ne => ?_⟩
  · have := List.pairwise_map.mp hs
    exact this.imp fun {a b} h => by rw [ltX_sg] at h; exact of_decide_eq_true h
  · obtain ⟨c, hc, e⟩ := List.mem_map.mp ((hm (sg y)).mp (List.mem_map_of_mem hy))
    have : c = y := by simpa [sg] using e
    exact this ▸ hc
  · intro e
    subst e
    cases xs with
    | nil => exact ne rfl
    | cons x r => exact absurd ((hm (sg x)).mpr (by simp)) (by simp)
theorem rngD_get {lo : Int} {n i : Nat} {d : D} (h : (rngD lo n)[i]? = some d) : i < n ∧ d = .int (lo + i) := by
  have hi := (List.getElem?_eq_some_iff.mp h).1
  rw [rngD_len] at hi
  unfold rngD at h
  rw [List.getElem?_map, List.getElem?_range hi] at h
  cases h
  exact ⟨hi, rfl⟩
theorem lows_sg (n : Nat) : ∀ xs : List Nat, lowAll n (xs.map fun c => D.str (sg c)) = true
  | [] => rfl
  | x :: r => by simp [lowAll, D.low, lows_sg n r]
theorem low_ints (n : Nat) : ∀ xs : List Int, lowAll n (xs.map D.int) = true
  | [] => rfl
  | x :: r => by simp [lowAll, D.low, low_ints n r]
theorem low_deck {k : Int} {R S : Sto} (h : DeckN k R S) (hR : R.all (fun o => o.low S.length) = true) : S.all (fun o => o.low S.length) = true := by
  have hl := i_deckN h
  obtain ⟨cs, g, n, rfl, _⟩ := h
  have e : (deckS cs g n R).length = R.length + 2 := rfl
  unfold deckS at hR ⊢
  rw [List.all_cons, List.all_cons, Bool.and_eq_true, Bool.and_eq_true]
  refine ⟨?_, ?_, hR⟩
  · simp [O.low, lowAll, D.low]
  · simp only [O.low, low_ints]
theorem strsD_sg (xs : List Nat) : strsD (xs.map fun c => D.str (sg c)) = some (xs.map sg) := by
  have := strsD_map (xs.map sg)
  rw [List.map_map] at this
  exact this
/-! ### the parts of drawn rules -/
abbrev Mv := Nat × Nat × Int
def tri (p : Mv) : D := .tup [.str (sg p.1), .str (sg p.2.1), .int p.2.2]
def rowD (row : List Mv) : D := .tup (row.map tri)
def lexM (a b : Mv) : Prop := a.1 < b.1 ∨ (a.1 = b.1 ∧ a.2.1 < b.2.1)
def RowOk (A B : List Nat) (n : Int) (row : List Mv) : Prop := row.Pairwise lexM ∧ ∀ p ∈ row, p.1 ∈ A ∧ p.2.1 ∈ B ∧ 0 ≤ p.2.2 ∧ p.2.2 < n
def WK : List Key := [.inr "heard", .inr "written", .inr "rows"]
def wd (hs cs : Str) (ls : List (List Mv)) : D := .dic WK [.str hs, .str cs, .tup (ls.map rowD)]
theorem lows_tri (n : Nat) : ∀ row : List Mv, lowAll n (row.map tri) = true
  | [] => rfl
  | x :: r => by simp [lowAll, tri, D.low, lows_tri n r]
theorem lows_row (n : Nat) : ∀ ls : List (List Mv), lowAll n (ls.map rowD) = true
  | [] => rfl
  | x :: r => by simp [lowAll, rowD, D.low, lows_tri, lows_row n r]
theorem signs_sg (z : Str) : DL.signs z = z.cps.toList.map fun c => D.str (sg c) := rfl
theorem last_get (S : Sto) (o : O) : (S ++ [o])[S.length]? = some o := by simp
theorem last_set (S : Sto) (o p : O) : (S ++ [o]).set S.length p = S ++ [p] := by simp
theorem k_nx {m n : MS} {E E1 : DL.Env} {S S1 : Sto} {PS : Out × DL.Env × Sto → Prop} (h : m E S = some (.nx, E1, S1)) (h2 : Ok (n E1 S1) PS) : Ok (mSeq m n E S) PS := k_seq ⟨_, h, h2⟩
theorem strOk_sg {c : Nat} (h : c ≤ 122) : PyData.canLay0 (.str (sg c)) = true := by
  unfold PyData.canLay0
  show (#[c] : Array Nat).all (fun x => decide (x < 0x110000)) = true
  simp
  omega
theorem toPs_sgs : ∀ l : List Nat, toPs (l.map fun c => D.str (sg c)) = some (l.map fun c => PyData.str (sg c))
  | [] => rfl
  | x :: l => by simp [toPs, toP, toPs_sgs l]
theorem lay_sgs : ∀ l : List Nat, (∀ c ∈ l, c ≤ 122) → PyData.canLayAll0 (l.map fun c => PyData.str (sg c)) = true ∧ PyData.depthAll (l.map fun c => PyData.str (sg c)) = 0
  | [], _ => ⟨rfl, rfl⟩
  | x :: l, h => by
    obtain ⟨i1, i2⟩ := lay_sgs l fun c hc => h c (List.mem_cons_of_mem _ hc)
    simp [PyData.canLayAll0, PyData.depthAll, strOk_sg (h x List.mem_cons_self), PyData.depth, i1, i2]
theorem eq_sgs_nil {l : List Nat} (h : ∀ c ∈ l, c ≤ 122) (S : Sto) : gEq (.lst (l.map fun c => .str (sg c))) (.lst []) S = some (.bl l.isEmpty, S) := by
  have e : toPS S (.lst (l.map fun c => .str (sg c))) = some (.list (l.map fun c => .str (sg c))) := by
    show toP (.lst (l.map fun c => .str (sg c))) = _
    simp only [toP, toPs_sgs, Option.map_some]
  unfold gEq
  rw [eqD_nil rfl e (lay_sgs l h).1 (by rw [(lay_sgs l h).2]; exact Nat.zero_le _)]
  cases l <;> rfl
def LowR (R : Sto) : Prop := ∀ m, R.all (fun o => o.low m) = true
theorem LowR.app {R T : Sto} (h : LowR R) (h2 : LowR T) : LowR (R ++ T) := fun m => by rw [List.all_append, h m, h2 m]; rfl
theorem low_one {ds : List D} (h : ∀ m, lowAll m ds = true) : LowR [.lst ds] := fun m => by simp [O.low, h m]
theorem low_nil : LowR [] := fun _ => rfl
theorem DeckN.split {k : Int} {R X S : Sto} (h : DeckN k (R ++ X) S) : ∃ T, S = T ++ X ∧ DeckN k R T := by
  obtain ⟨cs, g, n, rfl, h⟩ := h
  exact ⟨deckS cs g n R, rfl, cs, g, n, rfl, h⟩
theorem merge_w (a b c : D) : mergeD [(.inr "heard", a), (.inr "written", b), (.inr "rows", c)] ([], []) = (WK, [a, b, c]) := by
  have n1 : ¬ (Sum.inr "heard" : Key) = .inr "written" := by decide +kernel
  have n2 : ¬ (Sum.inr "heard" : Key) = .inr "rows" := by decide +kernel
  have n3 : ¬ (Sum.inr "written" : Key) = .inr "rows" := by decide +kernel
  simp [mergeD, dput, n1, n2, n3, WK]
end Law
namespace Law
open PySem L2 PyProof.Rows DL
theorem ok_eq {α : Type} {x : Option α} {a : α} (h : Ok x fun p => p = a) : x = some a := by
  obtain ⟨b, e, rfl⟩ := h
  exact e
theorem trim_id (d : D) (S : Sto) : trim S.length d S = (d, S) := trim_same (Nat.le_refl _)
section
variable (S : Sto)
theorem is_SS (z : Str) : gIsi [.str z, .ty "str"] S = some (.bl true, S) := by
  have e : kitB "str" "str" = some true := by decide +kernel
  show ((kitB "str" "str").map fun b => (D.bl b, S)) = _
  rw [e]; rfl
theorem is_II (z : Int) : gIsi [.int z, .ty "int"] S = some (.bl true, S) := by
  have e : kitB "int" "int" = some true := by decide +kernel
  show ((kitB "int" "int").map fun b => (D.bl b, S)) = _
  rw [e]; rfl
theorem is_IB (z : Int) : gIsi [.int z, .ty "bool"] S = some (.bl false, S) := by
  have e : kitB "int" "bool" = some false := by decide +kernel
  show ((kitB "int" "bool").map fun b => (D.bl b, S)) = _
  rw [e]; rfl
theorem is_TT (ds : List D) : gIsi [.tup ds, .ty "tuple"] S = some (.bl true, S) := by
  have e : kitB "tuple" "tuple" = some true := by decide +kernel
  show ((kitB "tuple" "tuple").map fun b => (D.bl b, S)) = _
  rw [e]; rfl
theorem q_ss (a b : Str) : eqD S (.str a) (.str b) = some (decide (a = b)) := by
  have : decide (V.str a = V.str b) = decide (a = b) := by
    by_cases h : a = b
    · subst h; simp
    · rw [decide_eq_false h, decide_eq_false (fun e => h (V.str.inj e))]
  unfold eqD
  simp only [toScal, Option.bind_some, scal, if_true, this]
theorem q_ii (a b : Int) : eqD S (.int a) (.int b) = some (decide (a = b)) := by
  have : decide (V.int a = V.int b) = decide (a = b) := by
    by_cases h : a = b
    · subst h; simp
    · rw [decide_eq_false h, decide_eq_false (fun e => h (V.int.inj e))]
  unfold eqD
  simp only [toScal, Option.bind_some, scal, if_true, this]
theorem eq_ss (a b : Str) : gEq (.str a) (.str b) S = some (.bl (decide (a = b)), S) := by unfold gEq; rw [q_ss]; rfl
theorem ne_ss (a b : Str) : gNe (.str a) (.str b) S = some (.bl (!decide (a = b)), S) := by unfold gNe; rw [q_ss]; rfl
theorem eq_ii (a b : Int) : gEq (.int a) (.int b) S = some (.bl (decide (a = b)), S) := by unfold gEq; rw [q_ii]; rfl
theorem ne_ii (a b : Int) : gNe (.int a) (.int b) S = some (.bl (!decide (a = b)), S) := by unfold gNe; rw [q_ii]; rfl
theorem len_s {z : Str} (h : z.length ≤ sizeLine) : gLenS [.str z] S = some (.int z.length, S) := by unfold gLenS; simp only [if_pos h]
theorem len_t (ds : List D) : gLenS [.tup ds] S = some (.int ds.length, S) := rfl
theorem g_isN (d : D) : gIsN d .non S = some (.bl (isN d), S) := rfl
theorem g_notN (d : D) : gNotN d .non S = some (.bl (!isN d), S) := rfl
theorem g_sub (i j : Int) : gSub (.int i) (.int j) S = some (.int (i - j), S) := rfl
theorem g_le (i j : Int) : gLe (.int i) (.int j) S = some (.bl (decide (i ≤ j)), S) := rfl
end
/-- a text of some letters -/
theorem is_text_ok {z L : Str} (h : ∀ c ∈ z.cps.toList, c ∈ L.cps.toList) (S : Sto) : F_is_text [.str z, .str L] S = some (.bl true, S) := by
  refine ok_eq ?_
  unfold F_is_text M_is_text
  refine k_fn ?_
  refine k_nx (E1 := [some (.str z), some (.str L), none]) (S1 := S) (by simp only [fnM, runB, mSeq, mAsg, mDPut, mDGet, mPar, mPar3, mgName, mgTup, mgCons, mgNil, mVar, mC, mOp, mTest, mAnd, mOr, mNot, mNotV, mIf, mIfS, mRet, mRetN, mDrop, mNext, mCall, mCons, mNil, mTup, mLst, mLstM, mBlt, mBM, mBM0, mFrz, mFld, mSetF, mYes, mSl, mNoPart, mPart, mSeqI, mRng1, mRng2, mZip, mEnumerate, mMe, mMeK, mNew, mNever, mAndV, mOrV, mDGet2, mDNew, mDisp, mPairs, mRevS, mEnumS, mListVals, mTupR, mKwC, mInD, mNeg, mRev, mRevM, List.map_cons, List.map_nil, List.length_cons, List.length_nil, List.replicate_succ, List.replicate_zero, List.cons_append, List.nil_append, List.append_nil, List.getD_cons_zero, List.getD_cons_succ, List.set_cons_zero, List.set_cons_succ, List.getElem?_cons_zero, List.getElem?_cons_succ, Nat.zero_add, Nat.reduceAdd, Nat.reduceSub, Option.bind_some, Option.map_some, Option.bind_none, Option.map_none, ↓reduceIte, Bool.false_eq_true, szK, sz0, sz1, sz2, sz3, sz4, if_pos rfl, is_SS, Bool.not_true]) ?_
  have hi : mSeqI (mVar 0) [some (.str z), some (.str L), none] S = some (DL.signs z, S) := by simp only [fnM, runB, mSeq, mAsg, mDPut, mDGet, mPar, mPar3, mgName, mgTup, mgCons, mgNil, mVar, mC, mOp, mTest, mAnd, mOr, mNot, mNotV, mIf, mIfS, mRet, mRetN, mDrop, mNext, mCall, mCons, mNil, mTup, mLst, mLstM, mBlt, mBM, mBM0, mFrz, mFld, mSetF, mYes, mSl, mNoPart, mPart, mSeqI, mRng1, mRng2, mZip, mEnumerate, mMe, mMeK, mNew, mNever, mAndV, mOrV, mDGet2, mDNew, mDisp, mPairs, mRevS, mEnumS, mListVals, mTupR, mKwC, mInD, mNeg, mRev, mRevM, List.map_cons, List.map_nil, List.length_cons, List.length_nil, List.replicate_succ, List.replicate_zero, List.cons_append, List.nil_append, List.append_nil, List.getD_cons_zero, List.getD_cons_succ, List.set_cons_zero, List.set_cons_succ, List.getElem?_cons_zero, List.getElem?_cons_succ, Nat.zero_add, Nat.reduceAdd, Nat.reduceSub, Option.bind_some, Option.map_some, Option.bind_none, Option.map_none, ↓reduceIte, Bool.false_eq_true, szK, sz0, sz1, sz2, sz3, sz4, if_pos rfl, viewF]
  refine k_seq (k_for hi (fun i E S' => (∃ x, E = [some (.str z), some (.str L), x]) ∧ S' = S) ⟨⟨_, rfl⟩, rfl⟩ ?_ ?_)
  · rintro i d E S' hd ⟨⟨x, rfl⟩, rfl⟩
    obtain ⟨c, hc1, rfl⟩ := signs_get hd
    have hc : c ∈ L.cps.toList := h c (List.mem_of_getElem? (by rw [Array.getElem?_toList]; exact hc1))
    have g : gNinS (.str ⟨#[c]⟩) (.str L) S' = some (.bl false, S') := by
      unfold gNinS
      simp only [decide_eq_true hc, Bool.not_true]
    simp only [fnM, runB, mSeq, mAsg, mDPut, mDGet, mPar, mPar3, mgName, mgTup, mgCons, mgNil, mVar, mC, mOp, mTest, mAnd, mOr, mNot, mNotV, mIf, mIfS, mRet, mRetN, mDrop, mNext, mCall, mCons, mNil, mTup, mLst, mLstM, mBlt, mBM, mBM0, mFrz, mFld, mSetF, mYes, mSl, mNoPart, mPart, mSeqI, mRng1, mRng2, mZip, mEnumerate, mMe, mMeK, mNew, mNever, mAndV, mOrV, mDGet2, mDNew, mDisp, mPairs, mRevS, mEnumS, mListVals, mTupR, mKwC, mInD, mNeg, mRev, mRevM, List.map_cons, List.map_nil, List.length_cons, List.length_nil, List.replicate_succ, List.replicate_zero, List.cons_append, List.nil_append, List.append_nil, List.getD_cons_zero, List.getD_cons_succ, List.set_cons_zero, List.set_cons_succ, List.getElem?_cons_zero, List.getElem?_cons_succ, Nat.zero_add, Nat.reduceAdd, Nat.reduceSub, Option.bind_some, Option.map_some, Option.bind_none, Option.map_none, ↓reduceIte, Bool.false_eq_true, szK, sz0, sz1, sz2, sz3, sz4, if_pos rfl, g, ok_some]
    exact ⟨⟨_, rfl⟩, trivial⟩
  · rintro E S' ⟨⟨x, rfl⟩, rfl⟩
    simp only [fnM, runB, mSeq, mAsg, mDPut, mDGet, mPar, mPar3, mgName, mgTup, mgCons, mgNil, mVar, mC, mOp, mTest, mAnd, mOr, mNot, mNotV, mIf, mIfS, mRet, mRetN, mDrop, mNext, mCall, mCons, mNil, mTup, mLst, mLstM, mBlt, mBM, mBM0, mFrz, mFld, mSetF, mYes, mSl, mNoPart, mPart, mSeqI, mRng1, mRng2, mZip, mEnumerate, mMe, mMeK, mNew, mNever, mAndV, mOrV, mDGet2, mDNew, mDisp, mPairs, mRevS, mEnumS, mListVals, mTupR, mKwC, mInD, mNeg, mRev, mRevM, List.map_cons, List.map_nil, List.length_cons, List.length_nil, List.replicate_succ, List.replicate_zero, List.cons_append, List.nil_append, List.append_nil, List.getD_cons_zero, List.getD_cons_succ, List.set_cons_zero, List.set_cons_succ, List.getElem?_cons_zero, List.getElem?_cons_succ, Nat.zero_add, Nat.reduceAdd, Nat.reduceSub, Option.bind_some, Option.map_some, Option.bind_none, Option.map_none, ↓reduceIte, Bool.false_eq_true, szK, sz0, sz1, sz2, sz3, sz4, if_pos rfl, ok_some]
    exact trim_id _ _
theorem is_letter_ok {c : Nat} {L : Str} (h : c ∈ L.cps.toList) (S : Sto) : F_is_letter [.str (sg c), .str L] S = some (.bl true, S) := by
  refine ok_eq ?_
  unfold F_is_letter M_is_letter
  refine k_fn ?_
  have e := is_text_ok (z := sg c) (L := L) (by simpa using h) S
  have l : (sg c).length ≤ sizeLine := sz1
  simp only [fnM, runB, mSeq, mAsg, mDPut, mDGet, mPar, mPar3, mgName, mgTup, mgCons, mgNil, mVar, mC, mOp, mTest, mAnd, mOr, mNot, mNotV, mIf, mIfS, mRet, mRetN, mDrop, mNext, mCall, mCons, mNil, mTup, mLst, mLstM, mBlt, mBM, mBM0, mFrz, mFld, mSetF, mYes, mSl, mNoPart, mPart, mSeqI, mRng1, mRng2, mZip, mEnumerate, mMe, mMeK, mNew, mNever, mAndV, mOrV, mDGet2, mDNew, mDisp, mPairs, mRevS, mEnumS, mListVals, mTupR, mKwC, mInD, mNeg, mRev, mRevM, List.map_cons, List.map_nil, List.length_cons, List.length_nil, List.replicate_succ, List.replicate_zero, List.cons_append, List.nil_append, List.append_nil, List.getD_cons_zero, List.getD_cons_succ, List.set_cons_zero, List.set_cons_succ, List.getElem?_cons_zero, List.getElem?_cons_succ, Nat.zero_add, Nat.reduceAdd, Nat.reduceSub, Option.bind_some, Option.map_some, Option.bind_none, Option.map_none, ↓reduceIte, Bool.false_eq_true, szK, sz0, sz1, sz2, sz3, sz4, if_pos rfl, e, len_s S l, eq_ii]
  exact Ok.some (trim_id _ _)
theorem get_sg {z : Str} (hz : z.length ≤ sizeLine) {i : Nat} {c : Nat} (h : z.cps.toList[i]? = some c) (S : Sto) : gIx (.str z) (.int (i : Int)) S = some (.str (sg c), S) := by
  have hi : i < z.cps.toList.length := (List.getElem?_eq_some_iff.mp h).1
  obtain ⟨d, h1, h2⟩ := atI_nat (xs := z.cps.toList) (r := (i : Int)) (by omega) (by omega)
  rw [Int.toNat_natCast, h] at h1
  cases h1
  unfold gIx
  simp only [if_pos hz, h2, Option.map_some]
theorem g_rng2 {i j : Int} {E : DL.Env} {S S1 : Sto} {m : MA} (h : m E S = some ([.int i, .int j], S1)) (hi : -4000000 ≤ i ∧ i ≤ 4000000) (hj : -4000000 ≤ j ∧ j ≤ 4000000) : mRng2 m E S = some (rngD i (j - i).toNat, S1) := by
  unfold mRng2
  rw [h]
  show (if _ then _ else _) = _
  rw [if_pos (by omega)]
theorem g_rng1 {j : Int} {E : DL.Env} {S S1 : Sto} {m : MA} (h : m E S = some ([.int j], S1)) (hj : -4000000 ≤ j ∧ j ≤ 4000000) : mRng1 m E S = some (rngD 0 j.toNat, S1) := by
  unfold mRng1
  rw [h]
  show (if _ then _ else _) = _
  rw [if_pos (by omega)]
theorem asc_hi1 {z : Str} (hz : z.length ≤ 3) (S : Sto) : mRng2 (mCons (mC (.int 1)) (mCons (mBlt gLenS (mCons (mVar 0) (mNil))) (mNil))) [some (.str z), none] S = some (rngD 1 ((z.length : Int) - 1).toNat, S) := by
    refine g_rng2 ?_ (by omega) (by omega)
    have hz : z.length ≤ sizeLine := Nat.le_trans hz sz3
    simp only [fnM, runB, mSeq, mAsg, mDPut, mDGet, mPar, mPar3, mgName, mgTup, mgCons, mgNil, mVar, mC, mOp, mTest, mAnd, mOr, mNot, mNotV, mIf, mIfS, mRet, mRetN, mDrop, mNext, mCall, mCons, mNil, mTup, mLst, mLstM, mBlt, mBM, mBM0, mFrz, mFld, mSetF, mYes, mSl, mNoPart, mPart, mSeqI, mRng1, mRng2, mZip, mEnumerate, mMe, mMeK, mNew, mNever, mAndV, mOrV, mDGet2, mDNew, mDisp, mPairs, mRevS, mEnumS, mListVals, mTupR, mKwC, mInD, mNeg, mRev, mRevM, List.map_cons, List.map_nil, List.length_cons, List.length_nil, List.replicate_succ, List.replicate_zero, List.cons_append, List.nil_append, List.append_nil, List.getD_cons_zero, List.getD_cons_succ, List.set_cons_zero, List.set_cons_succ, List.getElem?_cons_zero, List.getElem?_cons_succ, Nat.zero_add, Nat.reduceAdd, Nat.reduceSub, Option.bind_some, Option.map_some, Option.bind_none, Option.map_none, ↓reduceIte, Bool.false_eq_true, szK, sz0, sz1, sz2, sz3, sz4, if_pos rfl, len_s S hz]
theorem is_ascending_ok {z : Str} (h : z.cps.toList.Pairwise (· < ·)) (hl : z.cps.toList.length ≤ 3) (S : Sto) : F_is_ascending [.str z] S = some (.bl true, S) := by
  refine ok_eq ?_
  unfold F_is_ascending M_is_ascending
  refine k_fn ?_
  have hz : z.length ≤ sizeLine := by rw [sizeLine_eq]; have : z.length = z.cps.toList.length := rfl; omega
  have ez : z.length = z.cps.toList.length := rfl
  have hi := asc_hi1 (z := z) (by rw [ez]; exact hl) S
  refine k_seq (k_for hi (fun i E S' => (∃ x, E = [some (.str z), x]) ∧ S' = S) ⟨⟨_, rfl⟩, rfl⟩ ?_ ?_)
  · rintro i d E S' hd ⟨⟨x, rfl⟩, rfl⟩
    obtain ⟨hi2, rfl⟩ := rngD_get hd
    have l1 : i + 1 < z.cps.toList.length := by omega
    have g1 := get_sg hz (List.getElem?_eq_getElem l1) S'
    have g0 := get_sg hz (List.getElem?_eq_getElem (show i < z.cps.toList.length by omega)) S'
    have s0 : (1 + (i : Int)) - 1 = ((i : Nat) : Int) := by omega
    have s1 : (1 + (i : Int)) = ((i + 1 : Nat) : Int) := by omega
    have lt := List.pairwise_iff_getElem.mp h i (i + 1) (by omega) l1 (by omega)
    have gl : ∀ a b : Nat, gLtX (.str (sg a)) (.str (sg b)) S' = some (.bl (decide (a < b)), S') := fun a b => by
      show some (D.bl (ltX (sg a) (sg b)), S') = _
      rw [ltX_sg]
    refine ⟨_, rfl, ?_⟩
    simp only [fnM, runB, mSeq, mAsg, mDPut, mDGet, mPar, mPar3, mgName, mgTup, mgCons, mgNil, mVar, mC, mOp, mTest, mAnd, mOr, mNot, mNotV, mIf, mIfS, mRet, mRetN, mDrop, mNext, mCall, mCons, mNil, mTup, mLst, mLstM, mBlt, mBM, mBM0, mFrz, mFld, mSetF, mYes, mSl, mNoPart, mPart, mSeqI, mRng1, mRng2, mZip, mEnumerate, mMe, mMeK, mNew, mNever, mAndV, mOrV, mDGet2, mDNew, mDisp, mPairs, mRevS, mEnumS, mListVals, mTupR, mKwC, mInD, mNeg, mRev, mRevM, List.map_cons, List.map_nil, List.length_cons, List.length_nil, List.replicate_succ, List.replicate_zero, List.cons_append, List.nil_append, List.append_nil, List.getD_cons_zero, List.getD_cons_succ, List.set_cons_zero, List.set_cons_succ, List.getElem?_cons_zero, List.getElem?_cons_succ, Nat.zero_add, Nat.reduceAdd, Nat.reduceSub, Option.bind_some, Option.map_some, Option.bind_none, Option.map_none, ↓reduceIte, Bool.false_eq_true, szK, sz0, sz1, sz2, sz3, sz4, if_pos rfl, g_sub, s0, g0]
    rw [s1]
    simp only [fnM, runB, mSeq, mAsg, mDPut, mDGet, mPar, mPar3, mgName, mgTup, mgCons, mgNil, mVar, mC, mOp, mTest, mAnd, mOr, mNot, mNotV, mIf, mIfS, mRet, mRetN, mDrop, mNext, mCall, mCons, mNil, mTup, mLst, mLstM, mBlt, mBM, mBM0, mFrz, mFld, mSetF, mYes, mSl, mNoPart, mPart, mSeqI, mRng1, mRng2, mZip, mEnumerate, mMe, mMeK, mNew, mNever, mAndV, mOrV, mDGet2, mDNew, mDisp, mPairs, mRevS, mEnumS, mListVals, mTupR, mKwC, mInD, mNeg, mRev, mRevM, List.map_cons, List.map_nil, List.length_cons, List.length_nil, List.replicate_succ, List.replicate_zero, List.cons_append, List.nil_append, List.append_nil, List.getD_cons_zero, List.getD_cons_succ, List.set_cons_zero, List.set_cons_succ, List.getElem?_cons_zero, List.getElem?_cons_succ, Nat.zero_add, Nat.reduceAdd, Nat.reduceSub, Option.bind_some, Option.map_some, Option.bind_none, Option.map_none, ↓reduceIte, Bool.false_eq_true, szK, sz0, sz1, sz2, sz3, sz4, if_pos rfl, g1, gl, decide_eq_true lt, Bool.not_true, ok_some]
    exact ⟨⟨_, rfl⟩, trivial⟩
  · rintro E S' ⟨⟨x, rfl⟩, rfl⟩
    simp only [fnM, runB, mSeq, mAsg, mDPut, mDGet, mPar, mPar3, mgName, mgTup, mgCons, mgNil, mVar, mC, mOp, mTest, mAnd, mOr, mNot, mNotV, mIf, mIfS, mRet, mRetN, mDrop, mNext, mCall, mCons, mNil, mTup, mLst, mLstM, mBlt, mBM, mBM0, mFrz, mFld, mSetF, mYes, mSl, mNoPart, mPart, mSeqI, mRng1, mRng2, mZip, mEnumerate, mMe, mMeK, mNew, mNever, mAndV, mOrV, mDGet2, mDNew, mDisp, mPairs, mRevS, mEnumS, mListVals, mTupR, mKwC, mInD, mNeg, mRev, mRevM, List.map_cons, List.map_nil, List.length_cons, List.length_nil, List.replicate_succ, List.replicate_zero, List.cons_append, List.nil_append, List.append_nil, List.getD_cons_zero, List.getD_cons_succ, List.set_cons_zero, List.set_cons_succ, List.getElem?_cons_zero, List.getElem?_cons_succ, Nat.zero_add, Nat.reduceAdd, Nat.reduceSub, Option.bind_some, Option.map_some, Option.bind_none, Option.map_none, ↓reduceIte, Bool.false_eq_true, szK, sz0, sz1, sz2, sz3, sz4, if_pos rfl, ok_some]
    exact trim_id _ _
theorem are_letters_ok {z : Str} (h : Letters z) (S : Sto) : F_are_letters [.str z] S = some (.bl true, S) := by
  refine ok_eq ?_
  unfold F_are_letters M_are_letters
  refine k_fn ?_
  have e := is_text_ok (z := z) (L := "abcdefghijklmnopqrstuvwxyz") (fun c hc => by
    have hb := h.2.2.1 c hc
    have : ∀ c, 97 ≤ c ∧ c ≤ 122 → c ∈ ("abcdefghijklmnopqrstuvwxyz" : Str).cps.toList := by
      intro c hc
      have : ∀ k, k < 26 → 97 + k ∈ ("abcdefghijklmnopqrstuvwxyz" : Str).cps.toList := by decide +kernel
      have := this (c - 97) (by omega)
      rwa [show 97 + (c - 97) = c by omega] at this
    exact this c hb) S
  have e2 := is_ascending_ok h.2.1 h.2.2.2 S
  have ne : ¬ z = ("" : Str) := fun q => h.1 (by rw [q]; rfl)
  simp only [fnM, runB, mSeq, mAsg, mDPut, mDGet, mPar, mPar3, mgName, mgTup, mgCons, mgNil, mVar, mC, mOp, mTest, mAnd, mOr, mNot, mNotV, mIf, mIfS, mRet, mRetN, mDrop, mNext, mCall, mCons, mNil, mTup, mLst, mLstM, mBlt, mBM, mBM0, mFrz, mFld, mSetF, mYes, mSl, mNoPart, mPart, mSeqI, mRng1, mRng2, mZip, mEnumerate, mMe, mMeK, mNew, mNever, mAndV, mOrV, mDGet2, mDNew, mDisp, mPairs, mRevS, mEnumS, mListVals, mTupR, mKwC, mInD, mNeg, mRev, mRevM, List.map_cons, List.map_nil, List.length_cons, List.length_nil, List.replicate_succ, List.replicate_zero, List.cons_append, List.nil_append, List.append_nil, List.getD_cons_zero, List.getD_cons_succ, List.set_cons_zero, List.set_cons_succ, List.getElem?_cons_zero, List.getElem?_cons_succ, Nat.zero_add, Nat.reduceAdd, Nat.reduceSub, Option.bind_some, Option.map_some, Option.bind_none, Option.map_none, ↓reduceIte, Bool.false_eq_true, szK, sz0, sz1, sz2, sz3, sz4, if_pos rfl, e, e2, ne_ss, decide_eq_false ne, Bool.not_false]
  exact Ok.some (trim_id _ _)
end Law
namespace Law
open PySem L2 PyProof.Rows DL
theorem is_integer_ok (i : Int) (S : Sto) : F_is_integer [.int i] S = some (.bl true, S) := by
  refine ok_eq ?_
  unfold F_is_integer M_is_integer
  refine k_fn ?_
  simp only [fnM, runB, mSeq, mAsg, mDPut, mDGet, mPar, mPar3, mgName, mgTup, mgCons, mgNil, mVar, mC, mOp, mTest, mAnd, mOr, mNot, mNotV, mIf, mIfS, mRet, mRetN, mDrop, mNext, mCall, mCons, mNil, mTup, mLst, mLstM, mBlt, mBM, mBM0, mFrz, mFld, mSetF, mYes, mSl, mNoPart, mPart, mSeqI, mRng1, mRng2, mZip, mEnumerate, mMe, mMeK, mNew, mNever, mAndV, mOrV, mDGet2, mDNew, mDisp, mPairs, mRevS, mEnumS, mListVals, mTupR, mKwC, mInD, mNeg, mRev, mRevM, List.map_cons, List.map_nil, List.length_cons, List.length_nil, List.replicate_succ, List.replicate_zero, List.cons_append, List.nil_append, List.append_nil, List.getD_cons_zero, List.getD_cons_succ, List.set_cons_zero, List.set_cons_succ, List.getElem?_cons_zero, List.getElem?_cons_succ, Nat.zero_add, Nat.reduceAdd, Nat.reduceSub, Option.bind_some, Option.map_some, Option.bind_none, Option.map_none, ↓reduceIte, Bool.false_eq_true, szK, sz0, sz1, sz2, sz3, sz4, if_pos rfl, is_II, is_IB, Bool.not_false]
  exact Ok.some (trim_id _ _)
theorem is_number_ok {i : Int} (h : 0 ≤ i) (S : Sto) : F_is_number [.int i] S = some (.bl true, S) := by
  refine ok_eq ?_
  unfold F_is_number M_is_number
  refine k_fn ?_
  simp only [fnM, runB, mSeq, mAsg, mDPut, mDGet, mPar, mPar3, mgName, mgTup, mgCons, mgNil, mVar, mC, mOp, mTest, mAnd, mOr, mNot, mNotV, mIf, mIfS, mRet, mRetN, mDrop, mNext, mCall, mCons, mNil, mTup, mLst, mLstM, mBlt, mBM, mBM0, mFrz, mFld, mSetF, mYes, mSl, mNoPart, mPart, mSeqI, mRng1, mRng2, mZip, mEnumerate, mMe, mMeK, mNew, mNever, mAndV, mOrV, mDGet2, mDNew, mDisp, mPairs, mRevS, mEnumS, mListVals, mTupR, mKwC, mInD, mNeg, mRev, mRevM, List.map_cons, List.map_nil, List.length_cons, List.length_nil, List.replicate_succ, List.replicate_zero, List.cons_append, List.nil_append, List.append_nil, List.getD_cons_zero, List.getD_cons_succ, List.set_cons_zero, List.set_cons_succ, List.getElem?_cons_zero, List.getElem?_cons_succ, Nat.zero_add, Nat.reduceAdd, Nat.reduceSub, Option.bind_some, Option.map_some, Option.bind_none, Option.map_none, ↓reduceIte, Bool.false_eq_true, szK, sz0, sz1, sz2, sz3, sz4, if_pos rfl, is_integer_ok, g_ge, decide_eq_true h]
  exact Ok.some (trim_id _ _)
theorem is_index_ok {i n : Int} (h : 0 ≤ i) (h2 : i < n) (S : Sto) : F_is_index [.int i, .int n] S = some (.bl true, S) := by
  refine ok_eq ?_
  unfold F_is_index M_is_index
  refine k_fn ?_
  simp only [fnM, runB, mSeq, mAsg, mDPut, mDGet, mPar, mPar3, mgName, mgTup, mgCons, mgNil, mVar, mC, mOp, mTest, mAnd, mOr, mNot, mNotV, mIf, mIfS, mRet, mRetN, mDrop, mNext, mCall, mCons, mNil, mTup, mLst, mLstM, mBlt, mBM, mBM0, mFrz, mFld, mSetF, mYes, mSl, mNoPart, mPart, mSeqI, mRng1, mRng2, mZip, mEnumerate, mMe, mMeK, mNew, mNever, mAndV, mOrV, mDGet2, mDNew, mDisp, mPairs, mRevS, mEnumS, mListVals, mTupR, mKwC, mInD, mNeg, mRev, mRevM, List.map_cons, List.map_nil, List.length_cons, List.length_nil, List.replicate_succ, List.replicate_zero, List.cons_append, List.nil_append, List.append_nil, List.getD_cons_zero, List.getD_cons_succ, List.set_cons_zero, List.set_cons_succ, List.getElem?_cons_zero, List.getElem?_cons_succ, Nat.zero_add, Nat.reduceAdd, Nat.reduceSub, Option.bind_some, Option.map_some, Option.bind_none, Option.map_none, ↓reduceIte, Bool.false_eq_true, szK, sz0, sz1, sz2, sz3, sz4, if_pos rfl, is_number_ok h, g_lt, decide_eq_true h2]
  exact Ok.some (trim_id _ _)
theorem is_tuple3_ok (a b c : D) (S : Sto) : F_is_tuple_of [.tup [a, b, c], .int 3] S = some (.bl true, S) := by
  refine ok_eq ?_
  unfold F_is_tuple_of M_is_tuple_of
  refine k_fn ?_
  have e : decide ((([a, b, c] : List D).length : Int) = 3) = true := rfl
  simp only [List.length_cons, List.length_nil] at e
  simp only [fnM, runB, mSeq, mAsg, mDPut, mDGet, mPar, mPar3, mgName, mgTup, mgCons, mgNil, mVar, mC, mOp, mTest, mAnd, mOr, mNot, mNotV, mIf, mIfS, mRet, mRetN, mDrop, mNext, mCall, mCons, mNil, mTup, mLst, mLstM, mBlt, mBM, mBM0, mFrz, mFld, mSetF, mYes, mSl, mNoPart, mPart, mSeqI, mRng1, mRng2, mZip, mEnumerate, mMe, mMeK, mNew, mNever, mAndV, mOrV, mDGet2, mDNew, mDisp, mPairs, mRevS, mEnumS, mListVals, mTupR, mKwC, mInD, mNeg, mRev, mRevM, List.map_cons, List.map_nil, List.length_cons, List.length_nil, List.replicate_succ, List.replicate_zero, List.cons_append, List.nil_append, List.append_nil, List.getD_cons_zero, List.getD_cons_succ, List.set_cons_zero, List.set_cons_succ, List.getElem?_cons_zero, List.getElem?_cons_succ, Nat.zero_add, Nat.reduceAdd, Nat.reduceSub, Option.bind_some, Option.map_some, Option.bind_none, Option.map_none, ↓reduceIte, Bool.false_eq_true, szK, sz0, sz1, sz2, sz3, sz4, if_pos rfl, is_TT, len_t, eq_ii]
  exact Ok.some (trim_id _ _)
theorem ix0 (a b c : D) (S : Sto) : gIx (.tup [a, b, c]) (.int 0) S = some (a, S) := rfl
theorem ix1 (a b c : D) (S : Sto) : gIx (.tup [a, b, c]) (.int 1) S = some (b, S) := rfl
theorem ix2 (a b c : D) (S : Sto) : gIx (.tup [a, b, c]) (.int 2) S = some (c, S) := rfl
theorem is_move_ok {p : Mv} {hs cs : Str} {n : Int} (h1 : p.1 ∈ hs.cps.toList) (h2 : p.2.1 ∈ cs.cps.toList) (h3 : 0 ≤ p.2.2) (h4 : p.2.2 < n) (S : Sto) : F_is_move [tri p, .str hs, .str cs, .int n] S = some (.bl true, S) := by
  refine ok_eq ?_
  unfold F_is_move M_is_move tri
  refine k_fn ?_
  simp only [fnM, runB, mSeq, mAsg, mDPut, mDGet, mPar, mPar3, mgName, mgTup, mgCons, mgNil, mVar, mC, mOp, mTest, mAnd, mOr, mNot, mNotV, mIf, mIfS, mRet, mRetN, mDrop, mNext, mCall, mCons, mNil, mTup, mLst, mLstM, mBlt, mBM, mBM0, mFrz, mFld, mSetF, mYes, mSl, mNoPart, mPart, mSeqI, mRng1, mRng2, mZip, mEnumerate, mMe, mMeK, mNew, mNever, mAndV, mOrV, mDGet2, mDNew, mDisp, mPairs, mRevS, mEnumS, mListVals, mTupR, mKwC, mInD, mNeg, mRev, mRevM, List.map_cons, List.map_nil, List.length_cons, List.length_nil, List.replicate_succ, List.replicate_zero, List.cons_append, List.nil_append, List.append_nil, List.getD_cons_zero, List.getD_cons_succ, List.set_cons_zero, List.set_cons_succ, List.getElem?_cons_zero, List.getElem?_cons_succ, Nat.zero_add, Nat.reduceAdd, Nat.reduceSub, Option.bind_some, Option.map_some, Option.bind_none, Option.map_none, ↓reduceIte, Bool.false_eq_true, szK, sz0, sz1, sz2, sz3, sz4, if_pos rfl, is_tuple3_ok, Bool.not_true, ix0, ix1, ix2, is_letter_ok h1, is_letter_ok h2, is_index_ok h3 h4]
  exact Ok.some (trim_id _ _)
theorem cut2 (a b c : D) : cutD [a, b, c] none (some 2) = [a, b] := rfl
theorem le_no {c d a b : Nat} (h : c < a ∨ (c = a ∧ d < b)) : leP (sg a) (sg b) (sg c) (sg d) = false := by
  have inj : ∀ {x y : Nat}, sg x = sg y → x = y := fun {x y} e => by simpa [sg] using e
  unfold leP
  rcases h with h | ⟨rfl, h⟩
  · rw [if_neg (fun e => by have := inj e; omega), ltX_sg, decide_eq_true h]; rfl
  · rw [if_pos rfl, if_neg (fun e => by have := inj e; omega), ltX_sg, decide_eq_true h]; rfl
theorem le_no0 (a b : Nat) : leP (sg a) (sg b) "" "" = false := by
  have e1 : ¬ sg a = ("" : Str) := fun e => by
    have : (sg a).cps.size = ("" : Str).cps.size := by rw [e]
    cases this
  have e2 : ltX "" (sg a) = true := by
    unfold ltX
    show decide (([] : List Nat) < [a]) = true
    simp
  unfold leP
  rw [if_neg e1, e2]; rfl
theorem is_row_ok {row : List Mv} {hs cs : Str} {n : Int} (h : RowOk hs.cps.toList cs.cps.toList n row) (S : Sto) : F_is_row [rowD row, .str hs, .str cs, .int n] S = some (.bl true, S) := by
  refine ok_eq ?_
  unfold F_is_row M_is_row rowD
  refine k_fn ?_
  refine k_nx (E1 := [some (.tup (row.map tri)), some (.str hs), some (.str cs), some (.int n), none, none]) (S1 := S) (by simp only [fnM, runB, mSeq, mAsg, mDPut, mDGet, mPar, mPar3, mgName, mgTup, mgCons, mgNil, mVar, mC, mOp, mTest, mAnd, mOr, mNot, mNotV, mIf, mIfS, mRet, mRetN, mDrop, mNext, mCall, mCons, mNil, mTup, mLst, mLstM, mBlt, mBM, mBM0, mFrz, mFld, mSetF, mYes, mSl, mNoPart, mPart, mSeqI, mRng1, mRng2, mZip, mEnumerate, mMe, mMeK, mNew, mNever, mAndV, mOrV, mDGet2, mDNew, mDisp, mPairs, mRevS, mEnumS, mListVals, mTupR, mKwC, mInD, mNeg, mRev, mRevM, List.map_cons, List.map_nil, List.length_cons, List.length_nil, List.replicate_succ, List.replicate_zero, List.cons_append, List.nil_append, List.append_nil, List.getD_cons_zero, List.getD_cons_succ, List.set_cons_zero, List.set_cons_succ, List.getElem?_cons_zero, List.getElem?_cons_succ, Nat.zero_add, Nat.reduceAdd, Nat.reduceSub, Option.bind_some, Option.map_some, Option.bind_none, Option.map_none, ↓reduceIte, Bool.false_eq_true, szK, sz0, sz1, sz2, sz3, sz4, if_pos rfl, is_TT, Bool.not_true]) ?_
  refine k_nx (E1 := [some (.tup (row.map tri)), some (.str hs), some (.str cs), some (.int n), some (.tup [.str "", .str ""]), none]) (S1 := S) (by simp only [fnM, runB, mSeq, mAsg, mDPut, mDGet, mPar, mPar3, mgName, mgTup, mgCons, mgNil, mVar, mC, mOp, mTest, mAnd, mOr, mNot, mNotV, mIf, mIfS, mRet, mRetN, mDrop, mNext, mCall, mCons, mNil, mTup, mLst, mLstM, mBlt, mBM, mBM0, mFrz, mFld, mSetF, mYes, mSl, mNoPart, mPart, mSeqI, mRng1, mRng2, mZip, mEnumerate, mMe, mMeK, mNew, mNever, mAndV, mOrV, mDGet2, mDNew, mDisp, mPairs, mRevS, mEnumS, mListVals, mTupR, mKwC, mInD, mNeg, mRev, mRevM, List.map_cons, List.map_nil, List.length_cons, List.length_nil, List.replicate_succ, List.replicate_zero, List.cons_append, List.nil_append, List.append_nil, List.getD_cons_zero, List.getD_cons_succ, List.set_cons_zero, List.set_cons_succ, List.getElem?_cons_zero, List.getElem?_cons_succ, Nat.zero_add, Nat.reduceAdd, Nat.reduceSub, Option.bind_some, Option.map_some, Option.bind_none, Option.map_none, ↓reduceIte, Bool.false_eq_true, szK, sz0, sz1, sz2, sz3, sz4, if_pos rfl]) ?_
  have hi : mSeqI (mVar 0) [some (.tup (row.map tri)), some (.str hs), some (.str cs), some (.int n), some (.tup [.str "", .str ""]), none] S = some (row.map tri, S) := by simp only [fnM, runB, mSeq, mAsg, mDPut, mDGet, mPar, mPar3, mgName, mgTup, mgCons, mgNil, mVar, mC, mOp, mTest, mAnd, mOr, mNot, mNotV, mIf, mIfS, mRet, mRetN, mDrop, mNext, mCall, mCons, mNil, mTup, mLst, mLstM, mBlt, mBM, mBM0, mFrz, mFld, mSetF, mYes, mSl, mNoPart, mPart, mSeqI, mRng1, mRng2, mZip, mEnumerate, mMe, mMeK, mNew, mNever, mAndV, mOrV, mDGet2, mDNew, mDisp, mPairs, mRevS, mEnumS, mListVals, mTupR, mKwC, mInD, mNeg, mRev, mRevM, List.map_cons, List.map_nil, List.length_cons, List.length_nil, List.replicate_succ, List.replicate_zero, List.cons_append, List.nil_append, List.append_nil, List.getD_cons_zero, List.getD_cons_succ, List.set_cons_zero, List.set_cons_succ, List.getElem?_cons_zero, List.getElem?_cons_succ, Nat.zero_add, Nat.reduceAdd, Nat.reduceSub, Option.bind_some, Option.map_some, Option.bind_none, Option.map_none, ↓reduceIte, Bool.false_eq_true, szK, sz0, sz1, sz2, sz3, sz4, if_pos rfl, viewF]
  refine k_seq (k_for hi (fun i E S' => (∃ a b x, E = [some (.tup (row.map tri)), some (.str hs), some (.str cs), some (.int n), some (.tup [.str a, .str b]), x] ∧ ((i = 0 ∧ a = "" ∧ b = "") ∨ ∃ j c d, i = j + 1 ∧ (row[j]?).map (fun p => (p.1, p.2.1)) = some (c, d) ∧ a = sg c ∧ b = sg d)) ∧ S' = S) ⟨⟨_, _, _, rfl, .inl ⟨rfl, rfl, rfl⟩⟩, rfl⟩ ?_ ?_)
  · rintro i d E S' hd ⟨⟨a, b, x, rfl, hab⟩, rfl⟩
    rw [List.getElem?_map] at hd
    obtain ⟨p, hp, rfl⟩ := map_some' hd
    obtain ⟨m1, m2, m3, m4⟩ := h.2 p (List.mem_of_getElem? hp)
    have le : leP (sg p.1) (sg p.2.1) a b = false := by
      rcases hab with ⟨_, rfl, rfl⟩ | ⟨j, c, d, rfl, hj, rfl, rfl⟩
      · exact le_no0 _ _
      · obtain ⟨q, hq, e⟩ := map_some' hj
        cases e
        obtain ⟨l1, q1⟩ := List.getElem?_eq_some_iff.mp hq
        obtain ⟨l2, q2⟩ := List.getElem?_eq_some_iff.mp hp
        have := List.pairwise_iff_getElem.mp h.1 j (j + 1) l1 l2 (by omega)
        rw [q1, q2] at this
        exact le_no this
    have gl : gLeP (.tup [.str (sg p.1), .str (sg p.2.1)]) (.tup [.str a, .str b]) S' = some (.bl (leP (sg p.1) (sg p.2.1) a b), S') := rfl
    have mv := is_move_ok m1 m2 m3 m4 S'
    unfold tri at mv ⊢
    simp only [fnM, runB, mSeq, mAsg, mDPut, mDGet, mPar, mPar3, mgName, mgTup, mgCons, mgNil, mVar, mC, mOp, mTest, mAnd, mOr, mNot, mNotV, mIf, mIfS, mRet, mRetN, mDrop, mNext, mCall, mCons, mNil, mTup, mLst, mLstM, mBlt, mBM, mBM0, mFrz, mFld, mSetF, mYes, mSl, mNoPart, mPart, mSeqI, mRng1, mRng2, mZip, mEnumerate, mMe, mMeK, mNew, mNever, mAndV, mOrV, mDGet2, mDNew, mDisp, mPairs, mRevS, mEnumS, mListVals, mTupR, mKwC, mInD, mNeg, mRev, mRevM, List.map_cons, List.map_nil, List.length_cons, List.length_nil, List.replicate_succ, List.replicate_zero, List.cons_append, List.nil_append, List.append_nil, List.getD_cons_zero, List.getD_cons_succ, List.set_cons_zero, List.set_cons_succ, List.getElem?_cons_zero, List.getElem?_cons_succ, Nat.zero_add, Nat.reduceAdd, Nat.reduceSub, Option.bind_some, Option.map_some, Option.bind_none, Option.map_none, ↓reduceIte, Bool.false_eq_true, szK, sz0, sz1, sz2, sz3, sz4, if_pos rfl, mv, Bool.not_true, cut2, gl, le, ok_some]
    refine ⟨⟨_, _, _, rfl, .inr ⟨i, p.1, p.2.1, rfl, ?_, rfl, rfl⟩⟩, trivial⟩
    rw [hp]; rfl
  · rintro E S' ⟨⟨a, b, x, rfl, _⟩, rfl⟩
    simp only [fnM, runB, mSeq, mAsg, mDPut, mDGet, mPar, mPar3, mgName, mgTup, mgCons, mgNil, mVar, mC, mOp, mTest, mAnd, mOr, mNot, mNotV, mIf, mIfS, mRet, mRetN, mDrop, mNext, mCall, mCons, mNil, mTup, mLst, mLstM, mBlt, mBM, mBM0, mFrz, mFld, mSetF, mYes, mSl, mNoPart, mPart, mSeqI, mRng1, mRng2, mZip, mEnumerate, mMe, mMeK, mNew, mNever, mAndV, mOrV, mDGet2, mDNew, mDisp, mPairs, mRevS, mEnumS, mListVals, mTupR, mKwC, mInD, mNeg, mRev, mRevM, List.map_cons, List.map_nil, List.length_cons, List.length_nil, List.replicate_succ, List.replicate_zero, List.cons_append, List.nil_append, List.append_nil, List.getD_cons_zero, List.getD_cons_succ, List.set_cons_zero, List.set_cons_succ, List.getElem?_cons_zero, List.getElem?_cons_succ, Nat.zero_add, Nat.reduceAdd, Nat.reduceSub, Option.bind_some, Option.map_some, Option.bind_none, Option.map_none, ↓reduceIte, Bool.false_eq_true, szK, sz0, sz1, sz2, sz3, sz4, if_pos rfl, ok_some]
    exact trim_id _ _
def FK : List Str := ["heard", "written", "rows"]
def rules (C : Addr) (hs cs : Str) (ls : List (List Mv)) : D := .ins C FK [.str hs, .str cs, .tup (ls.map rowD)]
structure WOk (hs cs : Str) (ls : List (List Mv)) : Prop where
  h : Letters hs
  c : Letters cs
  l1 : 1 ≤ ls.length
  l5 : ls.length ≤ 5
  row : ∀ row ∈ ls, RowOk hs.cps.toList cs.cps.toList ls.length row ∧ row.length ≤ 9
theorem fput3 (a b c : D) : fput (fput (fput [] [] "heard" a).1 (fput [] [] "heard" a).2 "written" b).1 (fput (fput [] [] "heard" a).1 (fput [] [] "heard" a).2 "written" b).2 "rows" c = (FK, [a, b, c]) := by
  have n1 : ¬ ("heard" : Str) = "written" := by decide +kernel
  have n2 : ¬ ("heard" : Str) = "rows" := by decide +kernel
  have n3 : ¬ ("written" : Str) = "rows" := by decide +kernel
  simp [fput, n1, n2, n3, FK]
theorem init_ok {C : Addr} {hs cs : Str} {ls : List (List Mv)} (w : WOk hs cs ls) (S : Sto) : F_Rules_init C [.loc S.length, .str hs, .str cs, .tup (ls.map rowD)] (S ++ [.ins C [] []]) = some (.non, S ++ [.ins C FK [.str hs, .str cs, .tup (ls.map rowD)]]) := by
  refine ok_eq ?_
  unfold F_Rules_init M_Rules_init
  refine k_fn ?_
  have ln : (ls.map rowD).length = ls.length := List.length_map _
  have c1 : decide ((1 : Int) ≤ ((ls.map rowD).length : Int)) = true := decide_eq_true (by have := w.l1; omega)
  have c2 : decide (((ls.map rowD).length : Int) ≤ 999) = true := decide_eq_true (by have := w.l5; omega)
  refine k_nx (E1 := [some (.loc S.length), some (.str hs), some (.str cs), some (.tup (ls.map rowD)), none, none]) (S1 := S ++ [.ins C [] []]) (by simp only [fnM, runB, mSeq, mAsg, mDPut, mDGet, mPar, mPar3, mgName, mgTup, mgCons, mgNil, mVar, mC, mOp, mTest, mAnd, mOr, mNot, mNotV, mIf, mIfS, mRet, mRetN, mDrop, mNext, mCall, mCons, mNil, mTup, mLst, mLstM, mBlt, mBM, mBM0, mFrz, mFld, mSetF, mYes, mSl, mNoPart, mPart, mSeqI, mRng1, mRng2, mZip, mEnumerate, mMe, mMeK, mNew, mNever, mAndV, mOrV, mDGet2, mDNew, mDisp, mPairs, mRevS, mEnumS, mListVals, mTupR, mKwC, mInD, mNeg, mRev, mRevM, List.map_cons, List.map_nil, List.length_cons, List.length_nil, List.replicate_succ, List.replicate_zero, List.cons_append, List.nil_append, List.append_nil, List.getD_cons_zero, List.getD_cons_succ, List.set_cons_zero, List.set_cons_succ, List.getElem?_cons_zero, List.getElem?_cons_succ, Nat.zero_add, Nat.reduceAdd, Nat.reduceSub, Option.bind_some, Option.map_some, Option.bind_none, Option.map_none, ↓reduceIte, Bool.false_eq_true, szK, sz0, sz1, sz2, sz3, sz4, if_pos rfl, are_letters_ok w.h, Bool.not_true]) ?_
  refine k_nx (E1 := [some (.loc S.length), some (.str hs), some (.str cs), some (.tup (ls.map rowD)), none, none]) (S1 := S ++ [.ins C [] []]) (by simp only [fnM, runB, mSeq, mAsg, mDPut, mDGet, mPar, mPar3, mgName, mgTup, mgCons, mgNil, mVar, mC, mOp, mTest, mAnd, mOr, mNot, mNotV, mIf, mIfS, mRet, mRetN, mDrop, mNext, mCall, mCons, mNil, mTup, mLst, mLstM, mBlt, mBM, mBM0, mFrz, mFld, mSetF, mYes, mSl, mNoPart, mPart, mSeqI, mRng1, mRng2, mZip, mEnumerate, mMe, mMeK, mNew, mNever, mAndV, mOrV, mDGet2, mDNew, mDisp, mPairs, mRevS, mEnumS, mListVals, mTupR, mKwC, mInD, mNeg, mRev, mRevM, List.map_cons, List.map_nil, List.length_cons, List.length_nil, List.replicate_succ, List.replicate_zero, List.cons_append, List.nil_append, List.append_nil, List.getD_cons_zero, List.getD_cons_succ, List.set_cons_zero, List.set_cons_succ, List.getElem?_cons_zero, List.getElem?_cons_succ, Nat.zero_add, Nat.reduceAdd, Nat.reduceSub, Option.bind_some, Option.map_some, Option.bind_none, Option.map_none, ↓reduceIte, Bool.false_eq_true, szK, sz0, sz1, sz2, sz3, sz4, if_pos rfl, are_letters_ok w.c, Bool.not_true]) ?_
  refine k_nx (E1 := [some (.loc S.length), some (.str hs), some (.str cs), some (.tup (ls.map rowD)), none, none]) (S1 := S ++ [.ins C [] []]) (by simp only [fnM, runB, mSeq, mAsg, mDPut, mDGet, mPar, mPar3, mgName, mgTup, mgCons, mgNil, mVar, mC, mOp, mTest, mAnd, mOr, mNot, mNotV, mIf, mIfS, mRet, mRetN, mDrop, mNext, mCall, mCons, mNil, mTup, mLst, mLstM, mBlt, mBM, mBM0, mFrz, mFld, mSetF, mYes, mSl, mNoPart, mPart, mSeqI, mRng1, mRng2, mZip, mEnumerate, mMe, mMeK, mNew, mNever, mAndV, mOrV, mDGet2, mDNew, mDisp, mPairs, mRevS, mEnumS, mListVals, mTupR, mKwC, mInD, mNeg, mRev, mRevM, List.map_cons, List.map_nil, List.length_cons, List.length_nil, List.replicate_succ, List.replicate_zero, List.cons_append, List.nil_append, List.append_nil, List.getD_cons_zero, List.getD_cons_succ, List.set_cons_zero, List.set_cons_succ, List.getElem?_cons_zero, List.getElem?_cons_succ, Nat.zero_add, Nat.reduceAdd, Nat.reduceSub, Option.bind_some, Option.map_some, Option.bind_none, Option.map_none, ↓reduceIte, Bool.false_eq_true, szK, sz0, sz1, sz2, sz3, sz4, if_pos rfl, is_TT, Bool.not_true, mChain, len_t, g_le, c1, c2]) ?_
  have hi : mEnumerate (mCons (mVar 3) mNil) [some (.loc S.length), some (.str hs), some (.str cs), some (.tup (ls.map rowD)), none, none] (S ++ [.ins C [] []]) = some (numbered 0 (ls.map rowD), S ++ [.ins C [] []]) := by simp only [fnM, runB, mSeq, mAsg, mDPut, mDGet, mPar, mPar3, mgName, mgTup, mgCons, mgNil, mVar, mC, mOp, mTest, mAnd, mOr, mNot, mNotV, mIf, mIfS, mRet, mRetN, mDrop, mNext, mCall, mCons, mNil, mTup, mLst, mLstM, mBlt, mBM, mBM0, mFrz, mFld, mSetF, mYes, mSl, mNoPart, mPart, mSeqI, mRng1, mRng2, mZip, mEnumerate, mMe, mMeK, mNew, mNever, mAndV, mOrV, mDGet2, mDNew, mDisp, mPairs, mRevS, mEnumS, mListVals, mTupR, mKwC, mInD, mNeg, mRev, mRevM, List.map_cons, List.map_nil, List.length_cons, List.length_nil, List.replicate_succ, List.replicate_zero, List.cons_append, List.nil_append, List.append_nil, List.getD_cons_zero, List.getD_cons_succ, List.set_cons_zero, List.set_cons_succ, List.getElem?_cons_zero, List.getElem?_cons_succ, Nat.zero_add, Nat.reduceAdd, Nat.reduceSub, Option.bind_some, Option.map_some, Option.bind_none, Option.map_none, ↓reduceIte, Bool.false_eq_true, szK, sz0, sz1, sz2, sz3, sz4, if_pos rfl]
  refine k_seq (k_for hi (fun i E S' => (∃ x y, E = [some (.loc S.length), some (.str hs), some (.str cs), some (.tup (ls.map rowD)), x, y]) ∧ S' = S ++ [.ins C [] []]) ⟨⟨_, _, rfl⟩, rfl⟩ ?_ ?_)
  · rintro i d E S' hd ⟨⟨x, y, rfl⟩, rfl⟩
    obtain ⟨e, he, rfl⟩ := numbered_get _ _ _ _ hd
    rw [List.getElem?_map] at he
    obtain ⟨row, hr, rfl⟩ := map_some' he
    have ro := is_row_ok (w.row row (List.mem_of_getElem? hr)).1 (S ++ [O.ins C [] []])
    rw [← ln] at ro
    simp only [fnM, runB, mSeq, mAsg, mDPut, mDGet, mPar, mPar3, mgName, mgTup, mgCons, mgNil, mVar, mC, mOp, mTest, mAnd, mOr, mNot, mNotV, mIf, mIfS, mRet, mRetN, mDrop, mNext, mCall, mCons, mNil, mTup, mLst, mLstM, mBlt, mBM, mBM0, mFrz, mFld, mSetF, mYes, mSl, mNoPart, mPart, mSeqI, mRng1, mRng2, mZip, mEnumerate, mMe, mMeK, mNew, mNever, mAndV, mOrV, mDGet2, mDNew, mDisp, mPairs, mRevS, mEnumS, mListVals, mTupR, mKwC, mInD, mNeg, mRev, mRevM, List.map_cons, List.map_nil, List.length_cons, List.length_nil, List.replicate_succ, List.replicate_zero, List.cons_append, List.nil_append, List.append_nil, List.getD_cons_zero, List.getD_cons_succ, List.set_cons_zero, List.set_cons_succ, List.getElem?_cons_zero, List.getElem?_cons_succ, Nat.zero_add, Nat.reduceAdd, Nat.reduceSub, Option.bind_some, Option.map_some, Option.bind_none, Option.map_none, ↓reduceIte, Bool.false_eq_true, szK, sz0, sz1, sz2, sz3, sz4, if_pos rfl, len_t, ro, Bool.not_true, ok_some]
    exact ⟨⟨_, _, rfl⟩, trivial⟩
  · rintro E S' ⟨⟨x, y, rfl⟩, rfl⟩
    have l0 : ([] : List Str).length < 1000 := by decide
    have g : ∀ o : O, (S ++ [o])[S.length]? = some o := fun o => last_get S o
    have f1 : ∀ a : D, (fput [] [] "heard" a).1.length < 1000 := fun a => by show (["heard"] : List Str).length < 1000; decide
    have f2 : ∀ a b : D, (fput (fput [] [] "heard" a).1 (fput [] [] "heard" a).2 "written" b).1.length < 1000 := fun a b => by
      have n1 : ¬ ("heard" : Str) = "written" := by decide +kernel
      simp [fput, n1]
    have l00 : (0 : Nat) < 1000 := by decide
    simp only [fnM, runB, mSeq, mAsg, mDPut, mDGet, mPar, mPar3, mgName, mgTup, mgCons, mgNil, mVar, mC, mOp, mTest, mAnd, mOr, mNot, mNotV, mIf, mIfS, mRet, mRetN, mDrop, mNext, mCall, mCons, mNil, mTup, mLst, mLstM, mBlt, mBM, mBM0, mFrz, mFld, mSetF, mYes, mSl, mNoPart, mPart, mSeqI, mRng1, mRng2, mZip, mEnumerate, mMe, mMeK, mNew, mNever, mAndV, mOrV, mDGet2, mDNew, mDisp, mPairs, mRevS, mEnumS, mListVals, mTupR, mKwC, mInD, mNeg, mRev, mRevM, List.map_cons, List.map_nil, List.length_cons, List.length_nil, List.replicate_succ, List.replicate_zero, List.cons_append, List.nil_append, List.append_nil, List.getD_cons_zero, List.getD_cons_succ, List.set_cons_zero, List.set_cons_succ, List.getElem?_cons_zero, List.getElem?_cons_succ, Nat.zero_add, Nat.reduceAdd, Nat.reduceSub, Option.bind_some, Option.map_some, Option.bind_none, Option.map_none, ↓reduceIte, Bool.false_eq_true, szK, sz0, sz1, sz2, sz3, sz4, if_pos rfl, g, last_set, l0, l00, f1, f2, and_self, true_and, fput3, ok_some]
    refine trim_same ?_
    rw [List.length_append, List.length_append]
    exact Nat.le_refl _
end Law
namespace Law
open PySem L2 PyProof.Rows DL
section
variable (hs cs : Str) (ls : List (List Mv)) (S : Sto)
theorem v_wd : viewD S (wd hs cs ls) = some (WK, [.str hs, .str cs, .tup (ls.map rowD)]) := rfl
theorem w_hs (a b c : D) : dlook WK [a, b, c] (.inr "heard") = some a := by
  simp [WK, dlook]
theorem w_cs (a b c : D) : dlook WK [a, b, c] (.inr "written") = some b := by
  have n1 : ¬ (Sum.inr "heard" : Key) = .inr "written" := by decide +kernel
  simp only [WK, dlook, if_neg n1, if_true]
theorem w_lines (a b c : D) : dlook WK [a, b, c] (.inr "rows") = some c := by
  have n2 : ¬ (Sum.inr "heard" : Key) = .inr "rows" := by decide +kernel
  have n3 : ¬ (Sum.inr "written" : Key) = .inr "rows" := by decide +kernel
  simp only [WK, dlook, if_neg n2, if_neg n3, if_true]
theorem k_hs : toKey (.str "heard") = some (.inr "heard") := rfl
theorem k_cs : toKey (.str "written") = some (.inr "written") := rfl
theorem k_lines : toKey (.str "rows") = some (.inr "rows") := rfl
end
theorem made_ok {C : Addr} {hs cs : Str} {ls : List (List Mv)} (w : WOk hs cs ls) {S : Sto} (hS : S.all (fun o => o.low S.length) = true) : F_law_made C [wd hs cs ls] S = some (rules C hs cs ls, S) := by
  refine ok_eq ?_
  unfold F_law_made M_law_made
  refine k_fn ?_
  have i := init_ok (C := C) w S
  have fz : frz (.loc S.length) (S ++ [.ins C FK [.str hs, .str cs, .tup (ls.map rowD)]]) = (rules C hs cs ls, S ++ [.dead]) := by
    unfold frz
    simp only [last_get, last_set]
    rfl
  have lw : (rules C hs cs ls).low S.length = true := by
    show lowAll S.length [.str hs, .str cs, .tup (ls.map rowD)] = true
    simp [lowAll, D.low, lows_row]
  have tr : trim S.length (rules C hs cs ls) (S ++ [.dead]) = (rules C hs cs ls, S) := trim_low rfl lw hS
  simp only [fnM, runB, mSeq, mAsg, mDPut, mDGet, mPar, mPar3, mgName, mgTup, mgCons, mgNil, mVar, mC, mOp, mTest, mAnd, mOr, mNot, mNotV, mIf, mIfS, mRet, mRetN, mDrop, mNext, mCall, mCons, mNil, mTup, mLst, mLstM, mBlt, mBM, mBM0, mFrz, mFld, mSetF, mYes, mSl, mNoPart, mPart, mSeqI, mRng1, mRng2, mZip, mEnumerate, mMe, mMeK, mNew, mNever, mAndV, mOrV, mDGet2, mDNew, mDisp, mPairs, mRevS, mEnumS, mListVals, mTupR, mKwC, mInD, mNeg, mRev, mRevM, List.map_cons, List.map_nil, List.length_cons, List.length_nil, List.replicate_succ, List.replicate_zero, List.cons_append, List.nil_append, List.append_nil, List.getD_cons_zero, List.getD_cons_succ, List.set_cons_zero, List.set_cons_succ, List.getElem?_cons_zero, List.getElem?_cons_succ, Nat.zero_add, Nat.reduceAdd, Nat.reduceSub, Option.bind_some, Option.map_some, Option.bind_none, Option.map_none, ↓reduceIte, Bool.false_eq_true, szK, sz0, sz1, sz2, sz3, sz4, if_pos rfl, v_wd, k_hs, k_cs, k_lines, w_hs, w_cs, w_lines, i, fz, tr]
  exact Ok.some (trim_id _ _)
end Law
namespace Law
open PySem L2 PyProof.Rows DL
theorem sg_eq (a b : Nat) : (sg a = sg b) ↔ a = b := ⟨fun e => by simpa [sg] using e, fun e => e ▸ rfl⟩
section
variable {C : Addr} {hs cs : Str} {ls : List (List Mv)}
theorem get_row (w : WOk hs cs ls) {s : Int} (h0 : 0 ≤ s) (h1 : s < ls.length) : ∃ row, ls[s.toNat]? = some row ∧ RowOk hs.cps.toList cs.cps.toList ls.length row ∧ ∀ S, gIx (.tup (ls.map rowD)) (.int s) S = some (rowD row, S) := by
  obtain ⟨d, e1, e2⟩ := atI_nat (xs := ls.map rowD) h0 (by rw [List.length_map]; exact h1)
  rw [List.getElem?_map] at e1
  obtain ⟨row, e3, rfl⟩ := map_some' e1
  refine ⟨row, e3, (w.row row (List.mem_of_getElem? e3)).1, fun S => ?_⟩
  unfold gIx
  simp only [viewS, Option.bind_some, e2, Option.map_some]
theorem viewI_rules (S : Sto) : viewI S (rules C hs cs ls) = some (C, FK, [.str hs, .str cs, .tup (ls.map rowD)]) := rfl
theorem fl_rows (a b c : D) : flook FK [a, b, c] "rows" = some c := by
  have n2 : ¬ ("heard" : Str) = "rows" := by decide +kernel
  have n3 : ¬ ("written" : Str) = "rows" := by decide +kernel
  simp [flook, FK, n2, n3]
theorem fl_heard (a b c : D) : flook FK [a, b, c] "heard" = some a := by
  simp [flook, FK]
theorem fl_written (a b c : D) : flook FK [a, b, c] "written" = some b := by
  have n1 : ¬ ("heard" : Str) = "written" := by decide +kernel
  simp [flook, FK, n1]
end
/-! ### what the functions tell, as functions of the rows -/
def rowA (ls : List (List Mv)) (s : Int) : List Mv := (ls[s.toNat]?).getD []
def hitsH (row : List Mv) (h : Nat) : List Mv := row.filter fun m => decide (m.1 = h)
abbrev Way := List Nat × Int
def ways (ls : List (List Mv)) : List Nat → Int → List Way
  | [], s => [([], s)]
  | h :: r, s => (hitsH (rowA ls s) h).flatMap fun m => (ways ls r m.2.2).map fun w => (m.2.1 :: w.1, w.2)
def stepW (ls : List (List Mv)) (h : Nat) (W : List Way) : List Way := W.flatMap fun w => (hitsH (rowA ls w.2) h).map fun m => (w.1 ++ [m.2.1], m.2.2)
theorem ways_fold (ls : List (List Mv)) : ∀ (said : List Nat) (W : List Way), said.foldl (fun W h => stepW ls h W) W = W.flatMap fun w => (ways ls said w.2).map fun v => (w.1 ++ v.1, v.2)
  | [], W => by
    simp only [List.foldl_nil, ways, List.map_cons, List.map_nil, List.append_nil]
    induction W with
    | nil => rfl
    | cons w r ih => rw [List.flatMap_cons, ← ih]; rfl
  | h :: r, W => by
    rw [List.foldl_cons, ways_fold ls r, stepW, List.flatMap_assoc]
    congr 1
    funext w
    rw [List.flatMap_map, ways, List.map_flatMap]
    congr 1
    funext m
    rw [List.map_map]
    congr 1
    funext v
    simp
theorem ways_from (ls : List (List Mv)) (said : List Nat) (s : Int) : said.foldl (fun W h => stepW ls h W) [([], s)] = ways ls said s := by
  rw [ways_fold]
  simp
theorem rowA_get {ls : List (List Mv)} {s : Int} {row : List Mv} (h : ls[s.toNat]? = some row) : rowA ls s = row := by unfold rowA; rw [h]; rfl
def In (ls : List (List Mv)) (s : Int) : Prop := 0 ≤ s ∧ s < ls.length
section
variable {C : Addr} {hs cs : Str} {ls : List (List Mv)}
theorem row_ok (w : WOk hs cs ls) {s : Int} (h : In ls s) : RowOk hs.cps.toList cs.cps.toList ls.length (rowA ls s) ∧ (rowA ls s).length ≤ 9 ∧ rowA ls s ∈ ls := by
  have hs : s.toNat < ls.length := by have := h.1; have := h.2; omega
  have e : ls[s.toNat]? = some ls[s.toNat] := List.getElem?_eq_getElem hs
  rw [rowA_get e]
  have m := List.getElem_mem hs
  exact ⟨(w.row _ m).1, (w.row _ m).2, m⟩
theorem hits_mem {row : List Mv} {h : Nat} {m : Mv} : m ∈ hitsH row h ↔ m ∈ row ∧ m.1 = h := by unfold hitsH; simp
theorem hits_in (w : WOk hs cs ls) {s : Int} (hh : In ls s) {h : Nat} {m : Mv} (hm : m ∈ hitsH (rowA ls s) h) : In ls m.2.2 ∧ m.2.1 ∈ cs.cps.toList := by
  obtain ⟨a, b, c, d⟩ := (row_ok w hh).1.2 m (hits_mem.mp hm).1
  exact ⟨⟨c, d⟩, b⟩
theorem hits_asc (w : WOk hs cs ls) {s : Int} (hh : In ls s) (h : Nat) : (hitsH (rowA ls s) h).Pairwise fun a b => a.2.1 < b.2.1 := by
  have p : (hitsH (rowA ls s) h).Pairwise lexM := (row_ok w hh).1.1.sublist List.filter_sublist
  refine p.imp_of_mem fun {a b} ha hb q => ?_
  have ea := (hits_mem.mp ha).2
  have eb := (hits_mem.mp hb).2
  rcases q with q | q
  · omega
  · exact q.2
theorem hits_le (w : WOk hs cs ls) {s : Int} (hh : In ls s) (h : Nat) : (hitsH (rowA ls s) h).length ≤ cs.cps.toList.length := by
  have p := hits_asc w hh h
  have p2 : ((hitsH (rowA ls s) h).map (·.2.1)).Pairwise (· < ·) := List.pairwise_map.mpr p
  have sub : ∀ x ∈ (hitsH (rowA ls s) h).map (·.2.1), x ∈ cs.cps.toList := fun x hx => by
    obtain ⟨m, hm, rfl⟩ := List.mem_map.mp hx
    exact (hits_in w hh hm).2
  have nd : ((hitsH (rowA ls s) h).map (·.2.1)).Nodup := p2.imp fun h => Nat.ne_of_lt h
  have key : ∀ (xs ys : List Nat), xs.Nodup → (∀ x ∈ xs, x ∈ ys) → xs.length ≤ ys.length := by
    intro xs
    induction xs with
    | nil => intro ys _ _; exact Nat.zero_le _
    | cons x r ih =>
      intro ys hn hsub
      have hx := hsub x List.mem_cons_self
      obtain ⟨n1, n2⟩ := List.nodup_cons.mp hn
      have := ih (ys.erase x) n2 fun z hz => (List.mem_erase_of_ne (fun e => n1 (by rw [← e]; exact hz))).mpr (hsub z (List.mem_cons_of_mem _ hz))
      rw [List.length_erase_of_mem hx] at this
      have := List.length_pos_of_mem hx
      rw [List.length_cons]
      omega
  have := key _ _ nd sub
  rwa [List.length_map] at this
theorem ways_in (w : WOk hs cs ls) : ∀ (said : List Nat) (s : Int), In ls s → ∀ v ∈ ways ls said s, In ls v.2 ∧ v.1.length = said.length ∧ ∀ c ∈ v.1, c ∈ cs.cps.toList
  | [], s, hh, v, hv => by
    rw [ways, List.mem_singleton] at hv
    subst hv
    exact ⟨hh, rfl, by simp⟩
  | h :: r, s, hh, v, hv => by
    rw [ways] at hv
    obtain ⟨m, hm, hv⟩ := List.mem_flatMap.mp hv
    obtain ⟨u, hu, rfl⟩ := List.mem_map.mp hv
    obtain ⟨i1, i2⟩ := hits_in w hh hm
    obtain ⟨a, b, c⟩ := ways_in w r m.2.2 i1 u hu
    refine ⟨a, by simp [b], fun z hz => ?_⟩
    rcases List.mem_cons.mp hz with rfl | hz
    · exact i2
    · exact c z hz
theorem ways_asc (w : WOk hs cs ls) : ∀ (said : List Nat) (s : Int), In ls s → (ways ls said s).Pairwise fun a b => a.1 < b.1
  | [], s, hh => by rw [ways]; exact List.pairwise_singleton _ _
  | h :: r, s, hh => by
    rw [ways, List.pairwise_flatMap]
    refine ⟨fun m hm => List.pairwise_map.mpr ((ways_asc w r m.2.2 (hits_in w hh hm).1).imp fun {a b} q => ?_), (hits_asc w hh h).imp fun {a b} q x hx y hy => ?_⟩
    · exact List.cons_lt_cons_iff.mpr (.inr ⟨rfl, q⟩)
    · obtain ⟨u, _, rfl⟩ := List.mem_map.mp hx
      obtain ⟨v, _, rfl⟩ := List.mem_map.mp hy
      exact List.cons_lt_cons_iff.mpr (.inl q)
theorem ways_le (w : WOk hs cs ls) : ∀ (said : List Nat) (s : Int), In ls s → (ways ls said s).length ≤ cs.cps.toList.length ^ said.length
  | [], s, hh => by rw [ways]; exact Nat.le_refl _
  | h :: r, s, hh => by
    rw [ways, List.length_flatMap, List.length_cons, Nat.pow_succ, Nat.mul_comm]
    have key : ∀ L : List Mv, (∀ m ∈ L, In ls m.2.2) → (L.map fun m => ((ways ls r m.2.2).map fun w => (m.2.1 :: w.1, w.2)).length).sum ≤ L.length * cs.cps.toList.length ^ r.length := by
      intro L
      induction L with
      | nil => intro _; simp
      | cons m L ih =>
        intro hL
        have a := ways_le w r m.2.2 (hL m List.mem_cons_self)
        have b := ih fun z hz => hL z (List.mem_cons_of_mem _ hz)
        rw [List.map_cons, List.sum_cons, List.length_cons, Nat.succ_mul, List.length_map]
        omega
    exact Nat.le_trans (key _ fun m hm => (hits_in w hh hm).1) (Nat.mul_le_mul_right _ (hits_le w hh h))
/-! how many, the first one, the ends -/
def cv (ls : List (List Mv)) : List Nat → List Nat
  | [] => ls.map fun _ => 1
  | h :: r => ls.map fun row => ((hitsH row h).map fun m => (cv ls r).getD m.2.2.toNat 0).sum
theorem cv_ok (w : WOk hs cs ls) : ∀ (said : List Nat) (s : Int), In ls s → (cv ls said).getD s.toNat 0 = (ways ls said s).length
  | [], s, hh => by
    have hs : s.toNat < ls.length := by have := hh.1; have := hh.2; omega
    rw [cv, ways, List.getD_eq_getElem?_getD, List.getElem?_map, List.getElem?_eq_getElem hs]
    rfl
  | h :: r, s, hh => by
    have hs : s.toNat < ls.length := by have := hh.1; have := hh.2; omega
    have e : ls[s.toNat]? = some (rowA ls s) := by rw [List.getElem?_eq_getElem hs]; unfold rowA; rw [List.getElem?_eq_getElem hs]; rfl
    rw [cv, ways, List.getD_eq_getElem?_getD, List.getElem?_map, e, List.length_flatMap]
    show ((hitsH (rowA ls s) h).map fun m => (cv ls r).getD m.2.2.toNat 0).sum = _
    congr 1
    refine List.map_congr_left fun m hm => ?_
    rw [List.length_map, cv_ok w r m.2.2 (hits_in w hh hm).1]
def alive (ls : List (List Mv)) (said : List Nat) (s : Int) : Bool := decide ((cv ls said).getD s.toNat 0 ≠ 0)
theorem alive_iff (w : WOk hs cs ls) {said : List Nat} {s : Int} (hh : In ls s) : alive ls said s = true ↔ ways ls said s ≠ [] := by
  unfold alive
  rw [decide_eq_true_iff, cv_ok w said s hh]
  exact not_congr List.length_eq_zero_iff
theorem alive_cons (w : WOk hs cs ls) {h : Nat} {r : List Nat} {s : Int} (hh : In ls s) : alive ls (h :: r) s = (hitsH (rowA ls s) h).any fun m => alive ls r m.2.2 := by
  rw [Bool.eq_iff_iff, alive_iff w hh, List.any_eq_true, ways]
  constructor
  · intro ne
    obtain ⟨v, hv⟩ := List.exists_mem_of_ne_nil _ ne
    obtain ⟨m, hm, hv⟩ := List.mem_flatMap.mp hv
    obtain ⟨u, hu, _⟩ := List.mem_map.mp hv
    exact ⟨m, hm, (alive_iff w (hits_in w hh hm).1).mpr (List.ne_nil_of_mem hu)⟩
  · rintro ⟨m, hm, ha⟩
    obtain ⟨u, hu⟩ := List.exists_mem_of_ne_nil _ ((alive_iff w (hits_in w hh hm).1).mp ha)
    exact List.ne_nil_of_mem (List.mem_flatMap.mpr ⟨m, hm, List.mem_map.mpr ⟨u, hu, rfl⟩⟩)
def firstP (ls : List (List Mv)) : List Nat → Int → Option (List Nat)
  | [], s => some []
  | h :: r, s => match (hitsH (rowA ls s) h).find? fun m => alive ls r m.2.2 with
    | some m => (firstP ls r m.2.2).map (m.2.1 :: ·)
    | none => none
theorem head_flat {α β : Type} (f : α → List β) (p : α → Bool) : ∀ L : List α, (∀ m ∈ L, p m = true ↔ f m ≠ []) → (L.flatMap f).head? = (L.find? p).bind fun m => (f m).head?
  | [], _ => rfl
  | m :: L, h => by
    have ih := head_flat f p L fun z hz => h z (List.mem_cons_of_mem _ hz)
    have hm := h m List.mem_cons_self
    rw [List.flatMap_cons, List.find?_cons]
    cases ep : p m with
    | true =>
      have := hm.mp ep
      cases ef : f m with
      | nil => exact absurd ef this
      | cons x y => simp [ef]
    | false =>
      have : f m = [] := Decidable.byContradiction fun ne => by rw [hm.mpr ne] at ep; cases ep
      rw [this, List.nil_append, ih]
theorem first_ok (w : WOk hs cs ls) : ∀ (said : List Nat) (s : Int), In ls s → firstP ls said s = ((ways ls said s).head?).map (·.1)
  | [], s, hh => rfl
  | h :: r, s, hh => by
    rw [firstP, ways, head_flat (fun m : Mv => (ways ls r m.2.2).map fun w => (m.2.1 :: w.1, w.2)) (fun m => alive ls r m.2.2) (hitsH (rowA ls s) h) fun m hm => by
      rw [alive_iff w (hits_in w hh hm).1, ne_eq, ne_eq, List.map_eq_nil_iff]]
    cases e : (hitsH (rowA ls s) h).find? fun m => alive ls r m.2.2 with
    | none => rfl
    | some m =>
      have hm := List.mem_of_find?_eq_some e
      show (firstP ls r m.2.2).map (m.2.1 :: ·) = _
      rw [first_ok w r m.2.2 (hits_in w hh hm).1, Option.bind_some, List.head?_map, Option.map_map, Option.map_map]
      rfl
/-- the states to which a letter leads -/
def nextP (ls : List (List Mv)) (h : Nat) (R : List Int) : List Int := ((List.range ls.length).map Int.ofNat).filter fun z => R.any fun s => (hitsH (rowA ls s) h).any fun m => decide (m.2.2 = z)
def reachP (ls : List (List Mv)) (said : List Nat) (R : List Int) : List Int := said.foldl (fun R h => nextP ls h R) R
theorem next_mem (w : WOk hs cs ls) {h : Nat} {R : List Int} (hR : ∀ s ∈ R, In ls s) {z : Int} : z ∈ nextP ls h R ↔ ∃ s ∈ R, ∃ m ∈ hitsH (rowA ls s) h, m.2.2 = z := by
  unfold nextP
  rw [List.mem_filter, List.any_eq_true]
  constructor
  · rintro ⟨_, s, hs, q⟩
    obtain ⟨m, hm, e⟩ := List.any_eq_true.mp q
    exact ⟨s, hs, m, hm, of_decide_eq_true e⟩
  · rintro ⟨s, hs, m, hm, e⟩
    refine ⟨?_, s, hs, List.any_eq_true.mpr ⟨m, hm, decide_eq_true e⟩⟩
    obtain ⟨i1, _⟩ := hits_in w (hR s hs) hm
    rw [e] at i1
    obtain ⟨a, b⟩ := i1
    exact List.mem_map.mpr ⟨z.toNat, List.mem_range.mpr (by omega), by show ((z.toNat : Nat) : Int) = z; omega⟩
theorem next_in {h : Nat} {R : List Int} : ∀ z ∈ nextP ls h R, In ls z := fun z hz => by
  obtain ⟨a, _⟩ := List.mem_filter.mp hz
  obtain ⟨i, hi, rfl⟩ := List.mem_map.mp a
  have := List.mem_range.mp hi
  show 0 ≤ (i : Int) ∧ (i : Int) < ls.length
  omega
theorem next_asc {h : Nat} {R : List Int} : (nextP ls h R).Pairwise (· < ·) := by
  refine List.Pairwise.sublist List.filter_sublist ?_
  refine List.pairwise_map.mpr ?_
  exact List.pairwise_lt_range.imp fun {a b} q => by show (a : Int) < (b : Int); omega
theorem reach_mem (w : WOk hs cs ls) : ∀ (said : List Nat) (R : List Int), (∀ s ∈ R, In ls s) → ∀ z, z ∈ reachP ls said R ↔ ∃ s ∈ R, ∃ v ∈ ways ls said s, v.2 = z
  | [], R, hR, z => by
    show z ∈ R ↔ _
    simp only [ways, List.mem_singleton]
    constructor
    · intro h; exact ⟨z, h, _, rfl, rfl⟩
    · rintro ⟨s, hs, v, rfl, e⟩; exact e ▸ hs
  | h :: r, R, hR, z => by
    show z ∈ reachP ls r (nextP ls h R) ↔ _
    rw [reach_mem w r _ next_in]
    constructor
    · rintro ⟨s, hs, v, hv, e⟩
      obtain ⟨t, ht, m, hm, rfl⟩ := (next_mem w hR).mp hs
      exact ⟨t, ht, (m.2.1 :: v.1, v.2), by rw [ways]; exact List.mem_flatMap.mpr ⟨m, hm, List.mem_map.mpr ⟨v, hv, rfl⟩⟩, e⟩
    · rintro ⟨t, ht, v, hv, e⟩
      rw [ways] at hv
      obtain ⟨m, hm, hv⟩ := List.mem_flatMap.mp hv
      obtain ⟨u, hu, rfl⟩ := List.mem_map.mp hv
      exact ⟨m.2.2, (next_mem w hR).mpr ⟨t, ht, m, hm, rfl⟩, u, hu, e⟩
theorem reach_asc : ∀ (said : List Nat) (R : List Int), R.Pairwise (· < ·) → (reachP ls said R).Pairwise (· < ·)
  | [], R, h => h
  | h :: r, R, hR => reach_asc r _ next_asc
theorem reach_in : ∀ (said : List Nat) (R : List Int), (∀ s ∈ R, In ls s) → ∀ z ∈ reachP ls said R, In ls z
  | [], R, h => h
  | h :: r, R, hR => reach_in r _ next_in
end
def LowS (S : Sto) : Prop := ∀ m, S.length ≤ m → S.all (fun o => o.low m) = true
theorem deck_lowS {k : Int} {R S : Sto} (h : DeckN k R S) (hR : LowR R) : LowS S := fun m hm => by
  have hl := i_deckN h
  obtain ⟨cs, g, n, rfl, _⟩ := h
  have e : (deckS cs g n R).length = R.length + 2 := rfl
  have hR' := hR m
  unfold deckS
  rw [List.all_cons, List.all_cons, Bool.and_eq_true, Bool.and_eq_true]
  refine ⟨?_, ?_, hR'⟩
  · simp [O.low, lowAll, D.low]
    omega
  · simp only [O.low, low_ints]
theorem LowS.app {S T : Sto} (h : LowS S) (h2 : LowR T) : LowS (S ++ T) := fun m hm => by
  rw [List.length_append] at hm
  rw [List.all_append, h m (by omega), h2 m]; rfl
section
variable {C : Addr} {hs cs : Str} {ls : List (List Mv)}
theorem ix_row (w : WOk hs cs ls) {s : Int} (h : In ls s) (S : Sto) : gIx (.tup (ls.map rowD)) (.int s) S = some (.tup ((rowA ls s).map tri), S) := by
  obtain ⟨row, e, _, g⟩ := get_row w h.1 h.2
  rw [rowA_get e]
  exact g S
theorem ds_sg (a b : Nat) : decide (sg a = sg b) = decide (a = b) := by
  by_cases h : a = b
  · subst h; simp
  · rw [decide_eq_false h, decide_eq_false (fun e => h ((sg_eq a b).mp e))]
end
end Law
namespace Law
open PySem L2 PyProof.Rows DL
/-! ### comprehensions that leave the store as it is -/
theorem compL_pure {α : Type} {g : MG} {t : MT} {e : ME} {E0 : DL.Env} {S : Sto} (toD : α → D) (b : α → Bool) (v : α → D) (E1 : α → DL.Env) : ∀ (xs : List α) (acc : List D),
    (∀ x ∈ xs, ∀ acc : List D, g (toD x) E0 (S ++ [O.lst acc]) = some (E1 x, S ++ [O.lst acc]) ∧ t (E1 x) (S ++ [O.lst acc]) = some (b x, S ++ [O.lst acc]) ∧ (b x = true → e (E1 x) (S ++ [O.lst acc]) = some (v x, S ++ [O.lst acc]))) →
    acc.length + (xs.filter b).length ≤ sizeLine → compL g t e E0 S.length (xs.map toD) (S ++ [O.lst acc]) = some (S ++ [O.lst (acc ++ (xs.filter b).map v)])
  | [], acc, _, _ => by simp [compL]
  | x :: xs, acc, h, hz => by
    obtain ⟨h1, h2, h3⟩ := h x List.mem_cons_self acc
    have ih := compL_pure (g := g) (t := t) (e := e) (E0 := E0) (S := S) toD b v E1 xs
    rw [List.map_cons, compL, h1, Option.bind_some, h2, Option.bind_some]
    cases hb : b x with
    | true =>
      have e3 := h3 hb
      rw [List.filter_cons, if_pos hb] at hz ⊢
      rw [List.length_cons] at hz
      simp only [e3, Option.bind_some, if_true]
      have ge : (S ++ [O.lst acc])[S.length]? = some (.lst acc) := by simp
      have se : (S ++ [O.lst acc]).set S.length (O.lst (acc ++ [v x])) = S ++ [O.lst (acc ++ [v x])] := by simp
      simp only [ge]
      rw [if_pos (by omega), se, ih (acc ++ [v x]) (fun y hy => h y (List.mem_cons_of_mem _ hy)) (by rw [List.length_append, List.length_singleton]; omega)]
      simp
    | false =>
      rw [List.filter_cons, hb] at hz ⊢
      simp only [Bool.false_eq_true, if_false] at hz ⊢
      exact ih acc (fun y hy => h y (List.mem_cons_of_mem _ hy)) hz
theorem frz_last (S : Sto) (ds : List D) : frz (.loc S.length) (S ++ [O.lst ds]) = (.lst ds, S ++ [O.dead]) := by
  unfold frz
  simp only [last_get, last_set]
theorem trim_last {S : Sto} {d : D} (hd : d.low S.length = true) (hS : LowS S) : trim S.length d (S ++ [O.dead]) = (d, S) := trim_low rfl hd (hS _ (Nat.le_refl _))
theorem comp_pure {α : Type} {mi : MA} {g : MG} {t : MT} {e : ME} {vs : List Nat} {E : DL.Env} {S : Sto} (xs : List α) (toD : α → D) (b : α → Bool) (v : α → D) (E1 : α → DL.Env) (hi : mi E S = some (xs.map toD, S))
    (h : ∀ x ∈ xs, ∀ acc : List D, g (toD x) (wipeE E vs) (S ++ [O.lst acc]) = some (E1 x, S ++ [O.lst acc]) ∧ t (E1 x) (S ++ [O.lst acc]) = some (b x, S ++ [O.lst acc]) ∧ (b x = true → e (E1 x) (S ++ [O.lst acc]) = some (v x, S ++ [O.lst acc])))
    (hz : (xs.filter b).length ≤ sizeLine) (hl : lowAll S.length ((xs.filter b).map v) = true) (hS : LowS S) : mComp mi g t e vs E S = some (.lst ((xs.filter b).map v), S) := by
  unfold mComp
  rw [hi, Option.bind_some]
  have := compL_pure (E0 := wipeE E vs) toD b v E1 xs [] h (by simpa using hz)
  dsimp only
  rw [this, Option.map_some, List.nil_append, frz_last, trim_last (by simpa only [D.low] using hl) hS]
theorem comp2_pure {α β : Type} {mi mi1 : MA} {g g1 : MG} {t t1 : MT} {e : ME} {vs vs1 : List Nat} {E : DL.Env} {S : Sto} (xs : List α) (toD : α → D) (E1 : α → DL.Env) (ys : α → List β) (toD1 : β → D) (b : α → β → Bool) (v : α → β → D) (E2 : α → β → DL.Env) (hi : mi E S = some (xs.map toD, S))
    (h : ∀ x ∈ xs, ∀ acc : List D, g (toD x) (wipeE E vs) (S ++ [O.lst acc]) = some (E1 x, S ++ [O.lst acc]) ∧ t (E1 x) (S ++ [O.lst acc]) = some (true, S ++ [O.lst acc]) ∧ mi1 (E1 x) (S ++ [O.lst acc]) = some ((ys x).map toD1, S ++ [O.lst acc]))
    (h2 : ∀ x ∈ xs, ∀ y ∈ ys x, ∀ acc : List D, g1 (toD1 y) (wipeE (E1 x) vs1) (S ++ [O.lst acc]) = some (E2 x y, S ++ [O.lst acc]) ∧ t1 (E2 x y) (S ++ [O.lst acc]) = some (b x y, S ++ [O.lst acc]) ∧ (b x y = true → e (E2 x y) (S ++ [O.lst acc]) = some (v x y, S ++ [O.lst acc])))
    (hz : (xs.flatMap fun x => (ys x).filter (b x)).length ≤ sizeLine) (hl : lowAll S.length (xs.flatMap fun x => ((ys x).filter (b x)).map (v x)) = true) (hS : LowS S) : mComp2 mi g t mi1 g1 t1 e vs vs1 E S = some (.lst (xs.flatMap fun x => ((ys x).filter (b x)).map (v x)), S) := by
  have main : ∀ (xs : List α) (acc : List D), (∀ x ∈ xs, ∀ acc : List D, g (toD x) (wipeE E vs) (S ++ [O.lst acc]) = some (E1 x, S ++ [O.lst acc]) ∧ t (E1 x) (S ++ [O.lst acc]) = some (true, S ++ [O.lst acc]) ∧ mi1 (E1 x) (S ++ [O.lst acc]) = some ((ys x).map toD1, S ++ [O.lst acc])) →
      (∀ x ∈ xs, ∀ y ∈ ys x, ∀ acc : List D, g1 (toD1 y) (wipeE (E1 x) vs1) (S ++ [O.lst acc]) = some (E2 x y, S ++ [O.lst acc]) ∧ t1 (E2 x y) (S ++ [O.lst acc]) = some (b x y, S ++ [O.lst acc]) ∧ (b x y = true → e (E2 x y) (S ++ [O.lst acc]) = some (v x y, S ++ [O.lst acc]))) →
      acc.length + (xs.flatMap fun x => (ys x).filter (b x)).length ≤ sizeLine → compL2 g t mi1 g1 t1 e vs1 (wipeE E vs) S.length (xs.map toD) (S ++ [O.lst acc]) = some (S ++ [O.lst (acc ++ xs.flatMap fun x => ((ys x).filter (b x)).map (v x))]) := by
    intro xs
    induction xs with
    | nil => intro acc _ _ _; simp [compL2]
    | cons x xs ih =>
      intro acc h h2 hz
      obtain ⟨a1, a2, a3⟩ := h x List.mem_cons_self acc
      rw [List.flatMap_cons, List.length_append] at hz
      have cp := compL_pure (S := S) (E0 := wipeE (E1 x) vs1) toD1 (b x) (v x) (E2 x) (ys x) acc (fun y hy => h2 x List.mem_cons_self y hy) (by omega)
      rw [List.map_cons, compL2, a1, Option.bind_some, a2, Option.bind_some, if_pos rfl, a3, Option.bind_some]
      dsimp only
      rw [cp, Option.bind_some, ih _ (fun y hy => h y (List.mem_cons_of_mem _ hy)) (fun y hy => h2 y (List.mem_cons_of_mem _ hy)) (by rw [List.length_append, List.length_map]; omega)]
      rw [List.flatMap_cons, List.append_assoc]
  unfold mComp2
  rw [hi, Option.bind_some]
  have := main xs [] h h2 (by simpa using hz)
  dsimp only
  rw [this, Option.map_some, List.nil_append, frz_last, trim_last (by simpa only [D.low] using hl) hS]
/-! texts of letters -/
def txt (l : List Nat) : Str := ⟨l.toArray⟩
theorem txt_cps (l : List Nat) : (txt l).cps.toList = l := rfl
theorem txt_len (l : List Nat) : (txt l).length = l.length := rfl
theorem txt_nil : txt [] = "" := rfl
theorem txt_app (l : List Nat) (c : Nat) : txt l ++ sg c = txt (l ++ [c]) := by
  show (⟨l.toArray ++ #[c]⟩ : Str) = ⟨(l ++ [c]).toArray⟩
  simp
theorem g_addS {a b : Str} (h : a.length + b.length ≤ 100000) (S : Sto) : gAdd (.str a) (.str b) S = some (.str (a ++ b), S) := by
  show (if a.length + b.length ≤ sizeLine then some (D.str (a ++ b), S) else none) = _
  rw [if_pos (by rw [sizeLine_eq]; omega)]
def wD (w : Way) : D := .tup [.str (txt w.1), .int w.2]
theorem lows_wD (n : Nat) : ∀ W : List Way, lowAll n (W.map wD) = true
  | [] => rfl
  | w :: W => by simp [lowAll, wD, D.low, lows_wD n W]
theorem map_tri_filter (row : List Mv) (h : Nat) : row.filter (fun m => decide (m.1 = h)) = hitsH row h := rfl
theorem stepW_D (ls : List (List Mv)) (h : Nat) (W : List Way) : (W.flatMap fun w => (hitsH (rowA ls w.2) h).map fun m => wD (w.1 ++ [m.2.1], m.2.2)) = (stepW ls h W).map wD := by
  unfold stepW
  rw [List.map_flatMap]
  congr 1
  funext w
  rw [List.map_map]
  rfl
theorem stepW_len (ls : List (List Mv)) (h : Nat) (W : List Way) : (W.flatMap fun w => hitsH (rowA ls w.2) h).length = (stepW ls h W).length := by
  unfold stepW
  rw [List.length_flatMap, List.length_flatMap]
  congr 1
  refine List.map_congr_left fun w _ => ?_
  rw [List.length_map]
/-- the ways of the first letters -/
def wayT (ls : List (List Mv)) (said : List Nat) (s : Int) (i : Nat) : List Way := ways ls (said.take i) s
theorem wayT_next {ls : List (List Mv)} {said : List Nat} {s : Int} {i h : Nat} (e : said[i]? = some h) : wayT ls said s (i + 1) = stepW ls h (wayT ls said s i) := by
  unfold wayT
  rw [List.take_add_one, e, ← ways_from, ← ways_from, List.foldl_append]
  rfl
section
variable {C : Addr} {hs cs : Str} {ls : List (List Mv)}
theorem wayT_in (w : WOk hs cs ls) {said : List Nat} {s : Int} (hh : In ls s) (i : Nat) : ∀ v ∈ wayT ls said s i, In ls v.2 ∧ v.1.length ≤ said.length ∧ v.1.length ≤ i := fun v hv => by
  obtain ⟨a, b, _⟩ := ways_in w _ s hh v hv
  rw [List.length_take] at b
  exact ⟨a, by omega, by omega⟩
theorem wayT_len (w : WOk hs cs ls) {said : List Nat} {s : Int} (hh : In ls s) (i : Nat) (hn : said.length ≤ 10) : (wayT ls said s i).length ≤ 100000 := by
  have a := ways_le w (said.take i) s hh
  have c3 := w.c.2.2.2
  have t : (said.take i).length ≤ 10 := by rw [List.length_take]; omega
  have p1 : cs.cps.toList.length ^ (said.take i).length ≤ 3 ^ (said.take i).length := Nat.pow_le_pow_left c3 _
  have p2 : 3 ^ (said.take i).length ≤ 3 ^ 10 := Nat.pow_le_pow_right (by decide) t
  have p3 : (3 : Nat) ^ 10 = 59049 := by decide +kernel
  unfold wayT
  omega
end
theorem filt_true {α : Type} (xs : List α) : (xs.filter fun _ => true) = xs := by simp
theorem lows_txt (n : Nat) : ∀ W : List Way, lowAll n (W.map fun v => D.str (txt v.1)) = true
  | [] => rfl
  | w :: W => by simp [lowAll, D.low, lows_txt n W]
theorem wD_eq (v : Way) : wD v = .tup [.str (txt v.1), .int v.2] := rfl
end Law
namespace Law
open PySem L2 PyProof.Rows DL
theorem nd_len {α : Type} [BEq α] [LawfulBEq α] : ∀ {xs ys : List α}, xs.Nodup → (∀ x ∈ xs, x ∈ ys) → xs.length ≤ ys.length
  | [], ys, _, _ => Nat.zero_le _
  | x :: r, ys, hn, hsub => by
    have hx := hsub x List.mem_cons_self
    obtain ⟨n1, n2⟩ := List.nodup_cons.mp hn
    have := nd_len (ys := ys.erase x) n2 fun z hz => (List.mem_erase_of_ne (fun e => n1 (by rw [← e]; exact hz))).mpr (hsub z (List.mem_cons_of_mem _ hz))
    rw [List.length_erase_of_mem hx] at this
    have := List.length_pos_of_mem hx
    rw [List.length_cons]
    omega
theorem low_dead : LowR [O.dead] := fun m => rfl
theorem scG_pure {α : Type} {g : MG} {t : MT} {e : ME} {E0 : DL.Env} {S : Sto} (toD : α → D) (b : α → Bool) (v : α → Int) (E1 : α → DL.Env) : ∀ (xs : List α) (acc : List Int),
    (∀ x ∈ xs, g (toD x) E0 S = some (E1 x, S) ∧ t (E1 x) S = some (b x, S) ∧ (b x = true → e (E1 x) S = some (.int (v x), S))) →
    scG g t (mPutI e) E0 (xs.map toD) acc S = some (acc ++ (xs.filter b).map v, S)
  | [], acc, _ => by simp [scG]
  | x :: xs, acc, h => by
    obtain ⟨h1, h2, h3⟩ := h x List.mem_cons_self
    have ih := scG_pure (g := g) (t := t) (e := e) (E0 := E0) (S := S) toD b v E1 xs
    rw [List.map_cons, scG, h1, Option.bind_some, h2, Option.bind_some]
    cases hb : b x with
    | true =>
      have e3 := h3 hb
      rw [List.filter_cons, if_pos hb]
      have ep : mPutI e (E1 x) acc S = some (acc ++ [v x], S) := by
        unfold mPutI
        rw [e3]
        rfl
      simp only [if_true, ep, Option.bind_some]
      rw [ih (acc ++ [v x]) (fun y hy => h y (List.mem_cons_of_mem _ hy))]
      simp
    | false =>
      rw [List.filter_cons, hb]
      simp only [Bool.false_eq_true, if_false]
      exact ih acc (fun y hy => h y (List.mem_cons_of_mem _ hy))
def relR (row : List Mv) (h : Nat) : List Int := sortU ltZ ((hitsH row h).map (·.2.2))
def intsT (xs : List Int) : D := .tup (xs.map .int)
def relD (ls : List (List Mv)) (h : Nat) : D := .tup (ls.map fun row => intsT (relR row h))
theorem low_intsT (n : Nat) (xs : List Int) : (intsT xs).low n = true := by
  unfold intsT
  simp only [D.low]
  exact low_ints n xs
theorem low_all {α : Type} (n : Nat) (f : α → D) (hf : ∀ a, (f a).low n = true) : ∀ xs : List α, lowAll n (xs.map f) = true
  | [] => rfl
  | x :: r => by simp [lowAll, hf x, low_all n f hf r]
theorem low_relD (n : Nat) (ls : List (List Mv)) (h : Nat) : (relD ls h).low n = true := by
  unfold relD
  simp only [D.low]
  exact low_all n _ (fun row => low_intsT n _) ls
section
variable {C : Addr} {hs cs : Str} {ls : List (List Mv)}
theorem rel_row (w : WOk hs cs ls) {row : List Mv} (hr : row ∈ ls) {h : Nat} (S : Sto) :
    mBlt gTupC (mCons (mSortG (mSeqI (mVar 2)) (mgTup 3 (mgCons (mgName 3) (mgCons (mgName 4) (mgCons (mgName 5) (mgNil))))) (mTest (mOp gEq (mVar 3) (mVar 1))) (mPutI (mVar 5)) [3, 4, 5]) (mNil)) [some (rules C hs cs ls), some (.str (sg h)), some (rowD row), none, none, none] S = some (intsT (relR row h), S) := by
  have hi : mSeqI (mVar 2) [some (rules C hs cs ls), some (.str (sg h)), some (rowD row), none, none, none] S = some (row.map tri, S) := by simp only [fnM, runB, mSeq, mAsg, mDPut, mDGet, mPar, mPar3, mgName, mgTup, mgCons, mgNil, mVar, mC, mOp, mTest, mAnd, mOr, mNot, mNotV, mIf, mIfS, mRet, mRetN, mDrop, mNext, mCall, mCons, mNil, mTup, mLst, mLstM, mBlt, mBM, mBM0, mFrz, mFld, mSetF, mYes, mSl, mNoPart, mPart, mSeqI, mRng1, mRng2, mZip, mEnumerate, mMe, mMeK, mNew, mNever, mAndV, mOrV, mDGet2, mDNew, mDisp, mPairs, mRevS, mEnumS, mListVals, mTupR, mKwC, mInD, mNeg, mRev, mRevM, List.map_cons, List.map_nil, List.length_cons, List.length_nil, List.replicate_succ, List.replicate_zero, List.cons_append, List.nil_append, List.append_nil, List.getD_cons_zero, List.getD_cons_succ, List.set_cons_zero, List.set_cons_succ, List.getElem?_cons_zero, List.getElem?_cons_succ, Nat.zero_add, Nat.reduceAdd, Nat.reduceSub, Option.bind_some, Option.map_some, Option.bind_none, Option.map_none, ↓reduceIte, Bool.false_eq_true, szK, sz0, sz1, sz2, sz3, sz4, if_pos rfl, rowD, viewF]
  have sc := scG_pure (S := S) (g := mgTup 3 (mgCons (mgName 3) (mgCons (mgName 4) (mgCons (mgName 5) (mgNil))))) (t := mTest (mOp gEq (mVar 3) (mVar 1))) (e := mVar 5) (E0 := [some (rules C hs cs ls), some (.str (sg h)), some (rowD row), none, none, none]) tri (fun m => decide (m.1 = h)) (fun m => m.2.2) (fun m => [some (rules C hs cs ls), some (.str (sg h)), some (rowD row), some (.str (sg m.1)), some (.str (sg m.2.1)), some (.int m.2.2)]) row [] (by
    intro m hm
    have l3 : ([.str (sg m.1), .str (sg m.2.1), .int m.2.2] : List D).length = 3 := rfl
    unfold tri
    refine ⟨by simp only [fnM, runB, mSeq, mAsg, mDPut, mDGet, mPar, mPar3, mgName, mgTup, mgCons, mgNil, mVar, mC, mOp, mTest, mAnd, mOr, mNot, mNotV, mIf, mIfS, mRet, mRetN, mDrop, mNext, mCall, mCons, mNil, mTup, mLst, mLstM, mBlt, mBM, mBM0, mFrz, mFld, mSetF, mYes, mSl, mNoPart, mPart, mSeqI, mRng1, mRng2, mZip, mEnumerate, mMe, mMeK, mNew, mNever, mAndV, mOrV, mDGet2, mDNew, mDisp, mPairs, mRevS, mEnumS, mListVals, mTupR, mKwC, mInD, mNeg, mRev, mRevM, List.map_cons, List.map_nil, List.length_cons, List.length_nil, List.replicate_succ, List.replicate_zero, List.cons_append, List.nil_append, List.append_nil, List.getD_cons_zero, List.getD_cons_succ, List.set_cons_zero, List.set_cons_succ, List.getElem?_cons_zero, List.getElem?_cons_succ, Nat.zero_add, Nat.reduceAdd, Nat.reduceSub, Option.bind_some, Option.map_some, Option.bind_none, Option.map_none, ↓reduceIte, Bool.false_eq_true, szK, sz0, sz1, sz2, sz3, sz4, if_pos rfl], by simp only [fnM, runB, mSeq, mAsg, mDPut, mDGet, mPar, mPar3, mgName, mgTup, mgCons, mgNil, mVar, mC, mOp, mTest, mAnd, mOr, mNot, mNotV, mIf, mIfS, mRet, mRetN, mDrop, mNext, mCall, mCons, mNil, mTup, mLst, mLstM, mBlt, mBM, mBM0, mFrz, mFld, mSetF, mYes, mSl, mNoPart, mPart, mSeqI, mRng1, mRng2, mZip, mEnumerate, mMe, mMeK, mNew, mNever, mAndV, mOrV, mDGet2, mDNew, mDisp, mPairs, mRevS, mEnumS, mListVals, mTupR, mKwC, mInD, mNeg, mRev, mRevM, List.map_cons, List.map_nil, List.length_cons, List.length_nil, List.replicate_succ, List.replicate_zero, List.cons_append, List.nil_append, List.append_nil, List.getD_cons_zero, List.getD_cons_succ, List.set_cons_zero, List.set_cons_succ, List.getElem?_cons_zero, List.getElem?_cons_succ, Nat.zero_add, Nat.reduceAdd, Nat.reduceSub, Option.bind_some, Option.map_some, Option.bind_none, Option.map_none, ↓reduceIte, Bool.false_eq_true, szK, sz0, sz1, sz2, sz3, sz4, if_pos rfl, eq_ss, ds_sg], fun _ => by simp only [fnM, runB, mSeq, mAsg, mDPut, mDGet, mPar, mPar3, mgName, mgTup, mgCons, mgNil, mVar, mC, mOp, mTest, mAnd, mOr, mNot, mNotV, mIf, mIfS, mRet, mRetN, mDrop, mNext, mCall, mCons, mNil, mTup, mLst, mLstM, mBlt, mBM, mBM0, mFrz, mFld, mSetF, mYes, mSl, mNoPart, mPart, mSeqI, mRng1, mRng2, mZip, mEnumerate, mMe, mMeK, mNew, mNever, mAndV, mOrV, mDGet2, mDNew, mDisp, mPairs, mRevS, mEnumS, mListVals, mTupR, mKwC, mInD, mNeg, mRev, mRevM, List.map_cons, List.map_nil, List.length_cons, List.length_nil, List.replicate_succ, List.replicate_zero, List.cons_append, List.nil_append, List.append_nil, List.getD_cons_zero, List.getD_cons_succ, List.set_cons_zero, List.set_cons_succ, List.getElem?_cons_zero, List.getElem?_cons_succ, Nat.zero_add, Nat.reduceAdd, Nat.reduceSub, Option.bind_some, Option.map_some, Option.bind_none, Option.map_none, ↓reduceIte, Bool.false_eq_true, szK, sz0, sz1, sz2, sz3, sz4, if_pos rfl]⟩)
  have hw : wipeE [some (rules C hs cs ls), some (.str (sg h)), some (rowD row), none, none, none] [3, 4, 5] = [some (rules C hs cs ls), some (.str (sg h)), some (rowD row), none, none, none] := rfl
  have r9 := (w.row row hr).2
  have f9 : ((hitsH row h).map (·.2.2)).length ≤ 9 := by rw [List.length_map]; exact Nat.le_trans (List.length_filter_le _ _) r9
  have so : mSortG (mSeqI (mVar 2)) (mgTup 3 (mgCons (mgName 3) (mgCons (mgName 4) (mgCons (mgName 5) (mgNil))))) (mTest (mOp gEq (mVar 3) (mVar 1))) (mPutI (mVar 5)) [3, 4, 5] [some (rules C hs cs ls), some (.str (sg h)), some (rowD row), none, none, none] S = some (.lst ((relR row h).map .int), S) := by
    unfold mSortG
    rw [hi, Option.bind_some, hw]
    dsimp only
    rw [sc, Option.bind_some, List.nil_append]
    dsimp only
    rw [if_pos (show ((row.filter fun m => decide (m.1 = h)).map fun m => m.2.2).length < 64 from Nat.lt_of_le_of_lt f9 (by decide))]
    rfl
  have gt : ∀ ds : List D, gTupC [.lst ds] S = some (.tup ds, S) := fun ds => rfl
  simp only [fnM, runB, mSeq, mAsg, mDPut, mDGet, mPar, mPar3, mgName, mgTup, mgCons, mgNil, mVar, mC, mOp, mTest, mAnd, mOr, mNot, mNotV, mIf, mIfS, mRet, mRetN, mDrop, mNext, mCall, mCons, mNil, mTup, mLst, mLstM, mBlt, mBM, mBM0, mFrz, mFld, mSetF, mYes, mSl, mNoPart, mPart, mSeqI, mRng1, mRng2, mZip, mEnumerate, mMe, mMeK, mNew, mNever, mAndV, mOrV, mDGet2, mDNew, mDisp, mPairs, mRevS, mEnumS, mListVals, mTupR, mKwC, mInD, mNeg, mRev, mRevM, List.map_cons, List.map_nil, List.length_cons, List.length_nil, List.replicate_succ, List.replicate_zero, List.cons_append, List.nil_append, List.append_nil, List.getD_cons_zero, List.getD_cons_succ, List.set_cons_zero, List.set_cons_succ, List.getElem?_cons_zero, List.getElem?_cons_succ, Nat.zero_add, Nat.reduceAdd, Nat.reduceSub, Option.bind_some, Option.map_some, Option.bind_none, Option.map_none, ↓reduceIte, Bool.false_eq_true, szK, sz0, sz1, sz2, sz3, sz4, if_pos rfl, so, gt, intsT]
theorem relation_ok (w : WOk hs cs ls) {h : Nat} {S : Sto} (hS : LowS S) : F_letter_relation C [rules C hs cs ls, .str (sg h)] S = some (relD ls h, S) := by
  refine ok_eq ?_
  unfold F_letter_relation M_letter_relation
  refine k_fn ?_
  have hi : mSeqI (mFld C "rows" (mVar 0)) [some (rules C hs cs ls), some (.str (sg h)), none, none, none, none] S = some (ls.map rowD, S) := by simp only [fnM, runB, mSeq, mAsg, mDPut, mDGet, mPar, mPar3, mgName, mgTup, mgCons, mgNil, mVar, mC, mOp, mTest, mAnd, mOr, mNot, mNotV, mIf, mIfS, mRet, mRetN, mDrop, mNext, mCall, mCons, mNil, mTup, mLst, mLstM, mBlt, mBM, mBM0, mFrz, mFld, mSetF, mYes, mSl, mNoPart, mPart, mSeqI, mRng1, mRng2, mZip, mEnumerate, mMe, mMeK, mNew, mNever, mAndV, mOrV, mDGet2, mDNew, mDisp, mPairs, mRevS, mEnumS, mListVals, mTupR, mKwC, mInD, mNeg, mRev, mRevM, List.map_cons, List.map_nil, List.length_cons, List.length_nil, List.replicate_succ, List.replicate_zero, List.cons_append, List.nil_append, List.append_nil, List.getD_cons_zero, List.getD_cons_succ, List.set_cons_zero, List.set_cons_succ, List.getElem?_cons_zero, List.getElem?_cons_succ, Nat.zero_add, Nat.reduceAdd, Nat.reduceSub, Option.bind_some, Option.map_some, Option.bind_none, Option.map_none, ↓reduceIte, Bool.false_eq_true, szK, sz0, sz1, sz2, sz3, sz4, if_pos rfl, viewI_rules, fl_rows, viewF]
  have l5 := w.l5
  have cp := comp_pure (vs := [2]) (t := mYes) (g := mgName 2) (e := mBlt gTupC (mCons (mSortG (mSeqI (mVar 2)) (mgTup 3 (mgCons (mgName 3) (mgCons (mgName 4) (mgCons (mgName 5) (mgNil))))) (mTest (mOp gEq (mVar 3) (mVar 1))) (mPutI (mVar 5)) [3, 4, 5]) (mNil))) ls rowD (fun _ => true) (fun row => intsT (relR row h)) (fun row => [some (rules C hs cs ls), some (.str (sg h)), some (rowD row), none, none, none]) hi (by
    intro row hr acc
    exact ⟨rfl, rfl, fun _ => rel_row w hr _⟩) (by rw [filt_true, sizeLine_eq]; omega) (by rw [filt_true]; exact low_all _ _ (fun row => low_intsT _ _) ls) hS
  rw [filt_true] at cp
  have gt : ∀ ds : List D, gTupC [.lst ds] S = some (.tup ds, S) := fun ds => rfl
  simp only [fnM, runB, mSeq, mAsg, mDPut, mDGet, mPar, mPar3, mgName, mgTup, mgCons, mgNil, mVar, mC, mOp, mTest, mAnd, mOr, mNot, mNotV, mIf, mIfS, mRet, mRetN, mDrop, mNext, mCall, mCons, mNil, mTup, mLst, mLstM, mBlt, mBM, mBM0, mFrz, mFld, mSetF, mYes, mSl, mNoPart, mPart, mSeqI, mRng1, mRng2, mZip, mEnumerate, mMe, mMeK, mNew, mNever, mAndV, mOrV, mDGet2, mDNew, mDisp, mPairs, mRevS, mEnumS, mListVals, mTupR, mKwC, mInD, mNeg, mRev, mRevM, List.map_cons, List.map_nil, List.length_cons, List.length_nil, List.replicate_succ, List.replicate_zero, List.cons_append, List.nil_append, List.append_nil, List.getD_cons_zero, List.getD_cons_succ, List.set_cons_zero, List.set_cons_succ, List.getElem?_cons_zero, List.getElem?_cons_succ, Nat.zero_add, Nat.reduceAdd, Nat.reduceSub, Option.bind_some, Option.map_some, Option.bind_none, Option.map_none, ↓reduceIte, Bool.false_eq_true, szK, sz0, sz1, sz2, sz3, sz4, if_pos rfl, cp, gt, ok_some]
  exact trim_id _ _
/-! dicts of letters -/
theorem dput_new {ks : List Key} {ds : List D} {q : Key} {x : D} (h : q ∉ ks) : dput ks ds q x = (ks ++ [q], ds ++ [x]) := by
  unfold dput
  rw [if_neg]
  rw [List.any_eq_true]
  rintro ⟨k, hk, e⟩
  rw [of_decide_eq_true e] at hk
  exact h hk
theorem low_app (n : Nat) : ∀ a b : List D, lowAll n (a ++ b) = (lowAll n a && lowAll n b)
  | [], b => rfl
  | x :: a, b => by rw [List.cons_append, lowAll, lowAll, low_app n a b, Bool.and_assoc]
theorem dcL_pure {α : Type} {g : MG} {k e : ME} {E0 : DL.Env} {S : Sto} (toD : α → D) (key : α → Key) (kd v : α → D) (E1 : α → DL.Env) (hk : ∀ x, toKey (kd x) = some (key x)) (hv : ∀ x n, (v x).low n = true) : ∀ (xs : List α) (ks : List Key) (ds : List D),
    (∀ x ∈ xs, ∀ o : O, g (toD x) E0 (S ++ [o]) = some (E1 x, S ++ [o]) ∧ k (E1 x) (S ++ [o]) = some (kd x, S ++ [o])) → (∀ x ∈ xs, ∀ ks ds, (∀ n, lowAll n ds = true) → e (E1 x) (S ++ [O.dic ks ds]) = some (v x, S ++ [O.dic ks ds])) → (∀ n, lowAll n ds = true) →
    (ks ++ xs.map key).Nodup → ks.length + xs.length ≤ sizeLine →
    dcL g mYes k e E0 S.length (xs.map toD) (S ++ [O.dic ks ds]) = some (S ++ [O.dic (ks ++ xs.map key) (ds ++ xs.map v)])
  | [], ks, ds, _, _, _, _, _ => by simp [dcL]
  | x :: xs, ks, ds, h, h2, hd, nd, hz => by
    obtain ⟨h1, h3⟩ := h x List.mem_cons_self (O.dic ks ds)
    have h4 := h2 x List.mem_cons_self ks ds hd
    have ih := dcL_pure (g := g) (k := k) (e := e) (E0 := E0) (S := S) toD key kd v E1 hk hv xs (ks ++ [key x]) (ds ++ [v x]) (fun y hy => h y (List.mem_cons_of_mem _ hy)) (fun y hy => h2 y (List.mem_cons_of_mem _ hy)) (fun n => by rw [low_app, hd n, lowAll, hv x n]; rfl) (by rw [List.append_assoc]; exact nd) (by rw [List.length_append, List.length_singleton]; rw [List.length_cons] at hz; omega)
    have hy : ∀ (E : DL.Env) (S : Sto), mYes E S = some (true, S) := fun _ _ => rfl
    have ge : (S ++ [O.dic ks ds])[S.length]? = some (.dic ks ds) := last_get _ _
    have nk : key x ∉ ks := fun hm => by
      have := (List.nodup_append.mp nd).2.2 (key x) hm (key x) (by rw [List.map_cons]; exact List.mem_cons_self)
      exact this rfl
    rw [List.length_cons] at hz
    rw [List.map_cons, dcL, h1, Option.bind_some, hy, Option.bind_some, if_pos rfl]
    simp only [h3, Option.bind_some, hk, h4, ge]
    rw [if_pos (by omega), dput_new nk, last_set, ih, List.append_assoc, List.append_assoc]
    rfl
def lkey (c : Nat) : Key := .inr (sg c)
theorem look_l {f : Nat → D} {a : Nat} : ∀ {l : List Nat}, a ∈ l → dlook (l.map lkey) (l.map f) (.inr (sg a)) = some (f a)
  | [], h => by cases h
  | c :: l, h => by
    rw [List.map_cons, List.map_cons, dlook]
    by_cases e : c = a
    · subst e
      rw [if_pos (show lkey c = (.inr (sg c) : Key) from rfl)]
    · have ne : ¬ lkey c = (.inr (sg a) : Key) := fun q => e ((sg_eq c a).mp (Sum.inr.inj q))
      rw [if_neg ne]
      exact look_l ((List.mem_cons.mp h).resolve_left fun q => e q.symm)
theorem lkey_nd : ∀ {l : List Nat}, l.Pairwise (· < ·) → (l.map lkey).Nodup := fun {l} h => by
  refine List.pairwise_map.mpr (h.imp fun {a b} q e => ?_)
  have := (sg_eq a b).mp (Sum.inr.inj e)
  omega
def relsD (hs : Str) (ls : List (List Mv)) : D := .dic (hs.cps.toList.map lkey) (hs.cps.toList.map fun c => relD ls c)
theorem relations_ok (w : WOk hs cs ls) {S : Sto} (hS : LowS S) : F_letter_relations C [rules C hs cs ls] S = some (relsD hs ls, S) := by
  refine ok_eq ?_
  unfold F_letter_relations M_letter_relations
  refine k_fn ?_
  have hi : mSeqI (mFld C "heard" (mVar 0)) [some (rules C hs cs ls), none] S = some (hs.cps.toList.map fun c => D.str (sg c), S) := by
    simp only [fnM, runB, mSeq, mAsg, mDPut, mDGet, mPar, mPar3, mgName, mgTup, mgCons, mgNil, mVar, mC, mOp, mTest, mAnd, mOr, mNot, mNotV, mIf, mIfS, mRet, mRetN, mDrop, mNext, mCall, mCons, mNil, mTup, mLst, mLstM, mBlt, mBM, mBM0, mFrz, mFld, mSetF, mYes, mSl, mNoPart, mPart, mSeqI, mRng1, mRng2, mZip, mEnumerate, mMe, mMeK, mNew, mNever, mAndV, mOrV, mDGet2, mDNew, mDisp, mPairs, mRevS, mEnumS, mListVals, mTupR, mKwC, mInD, mNeg, mRev, mRevM, List.map_cons, List.map_nil, List.length_cons, List.length_nil, List.replicate_succ, List.replicate_zero, List.cons_append, List.nil_append, List.append_nil, List.getD_cons_zero, List.getD_cons_succ, List.set_cons_zero, List.set_cons_succ, List.getElem?_cons_zero, List.getElem?_cons_succ, Nat.zero_add, Nat.reduceAdd, Nat.reduceSub, Option.bind_some, Option.map_some, Option.bind_none, Option.map_none, ↓reduceIte, Bool.false_eq_true, szK, sz0, sz1, sz2, sz3, sz4, if_pos rfl, viewI_rules, fl_heard, viewF]
    rfl
  have h3 := w.h.2.2.2
  have hw : wipeE [some (rules C hs cs ls), none] [1] = [some (rules C hs cs ls), none] := rfl
  have dc := dcL_pure (S := S) (g := mgName 1) (k := mVar 1) (e := mCall 2 (F_letter_relation C) (mCons (mVar 0) (mCons (mVar 1) (mNil)))) (E0 := [some (rules C hs cs ls), none]) (fun c => D.str (sg c)) lkey (fun c => .str (sg c)) (fun c => relD ls c) (fun c => [some (rules C hs cs ls), some (.str (sg c))]) (fun c => rfl) (fun c n => low_relD n ls c) hs.cps.toList [] [] (fun c hc o => ⟨rfl, rfl⟩) (fun c hc ks ds hd => by
    have lo : LowS (S ++ [O.dic ks ds]) := hS.app fun m => by simp [O.low, hd m]
    have r := relation_ok (C := C) w (h := c) lo
    simp only [fnM, runB, mSeq, mAsg, mDPut, mDGet, mPar, mPar3, mgName, mgTup, mgCons, mgNil, mVar, mC, mOp, mTest, mAnd, mOr, mNot, mNotV, mIf, mIfS, mRet, mRetN, mDrop, mNext, mCall, mCons, mNil, mTup, mLst, mLstM, mBlt, mBM, mBM0, mFrz, mFld, mSetF, mYes, mSl, mNoPart, mPart, mSeqI, mRng1, mRng2, mZip, mEnumerate, mMe, mMeK, mNew, mNever, mAndV, mOrV, mDGet2, mDNew, mDisp, mPairs, mRevS, mEnumS, mListVals, mTupR, mKwC, mInD, mNeg, mRev, mRevM, List.map_cons, List.map_nil, List.length_cons, List.length_nil, List.replicate_succ, List.replicate_zero, List.cons_append, List.nil_append, List.append_nil, List.getD_cons_zero, List.getD_cons_succ, List.set_cons_zero, List.set_cons_succ, List.getElem?_cons_zero, List.getElem?_cons_succ, Nat.zero_add, Nat.reduceAdd, Nat.reduceSub, Option.bind_some, Option.map_some, Option.bind_none, Option.map_none, ↓reduceIte, Bool.false_eq_true, szK, sz0, sz1, sz2, sz3, sz4, if_pos rfl, r]) (fun n => rfl) (by rw [List.nil_append]; exact lkey_nd w.h.2.1) (by rw [List.length_nil, sizeLine_eq]; omega)
  rw [List.nil_append, List.nil_append] at dc
  have fz : frz (.loc S.length) (S ++ [O.dic (hs.cps.toList.map lkey) (hs.cps.toList.map fun c => relD ls c)]) = (relsD hs ls, S ++ [O.dead]) := by
    unfold frz
    simp only [last_get, last_set]
    rfl
  have dm : mDComp (mSeqI (mFld C "heard" (mVar 0))) (mgName 1) (mYes) (mVar 1) (mCall 2 (F_letter_relation C) (mCons (mVar 0) (mCons (mVar 1) (mNil)))) [1] [some (rules C hs cs ls), none] S = some (relsD hs ls, S) := by
    unfold mDComp
    rw [hi, Option.bind_some, hw]
    dsimp only
    rw [dc, Option.map_some, fz, trim_last (by unfold relsD; simp only [D.low]; exact low_all _ _ (fun c => low_relD _ ls c) _) hS]
  simp only [fnM, runB, mSeq, mAsg, mDPut, mDGet, mPar, mPar3, mgName, mgTup, mgCons, mgNil, mVar, mC, mOp, mTest, mAnd, mOr, mNot, mNotV, mIf, mIfS, mRet, mRetN, mDrop, mNext, mCall, mCons, mNil, mTup, mLst, mLstM, mBlt, mBM, mBM0, mFrz, mFld, mSetF, mYes, mSl, mNoPart, mPart, mSeqI, mRng1, mRng2, mZip, mEnumerate, mMe, mMeK, mNew, mNever, mAndV, mOrV, mDGet2, mDNew, mDisp, mPairs, mRevS, mEnumS, mListVals, mTupR, mKwC, mInD, mNeg, mRev, mRevM, List.map_cons, List.map_nil, List.length_cons, List.length_nil, List.replicate_succ, List.replicate_zero, List.cons_append, List.nil_append, List.append_nil, List.getD_cons_zero, List.getD_cons_succ, List.set_cons_zero, List.set_cons_succ, List.getElem?_cons_zero, List.getElem?_cons_succ, Nat.zero_add, Nat.reduceAdd, Nat.reduceSub, Option.bind_some, Option.map_some, Option.bind_none, Option.map_none, ↓reduceIte, Bool.false_eq_true, szK, sz0, sz1, sz2, sz3, sz4, if_pos rfl, dm, ok_some]
  exact trim_id _ _
/-! one step of all states -/
theorem str8_next (h : Nat) (R : List Int) : Str8 ltZ (nextP ls h R) := (next_asc (ls := ls) (h := h) (R := R)).imp fun {a b} q => decide_eq_true q
theorem flat_len {α β : Type} (f : α → List β) {m : Nat} : ∀ {xs : List α}, (∀ a ∈ xs, (f a).length ≤ m) → (xs.flatMap f).length ≤ m * xs.length
  | [], _ => by simp
  | x :: r, h => by
    rw [List.flatMap_cons, List.length_append, List.length_cons, Nat.mul_succ]
    have := h x List.mem_cons_self
    have := flat_len f (xs := r) fun a ha => h a (List.mem_cons_of_mem _ ha)
    omega
theorem rel_mem {row : List Mv} {h : Nat} {z : Int} : z ∈ relR row h ↔ ∃ m ∈ hitsH row h, m.2.2 = z := by
  unfold relR
  rw [sortU_mem linZ, List.mem_map]
theorem rel_len {row : List Mv} {h : Nat} : (relR row h).length ≤ row.length := by
  unfold relR
  have a := sortU_len ltZ ((hitsH row h).map (·.2.2))
  rw [List.length_map] at a
  exact Nat.le_trans a (List.length_filter_le _ _)
theorem ix_rel (w : WOk hs cs ls) {s : Int} (hh : In ls s) (h : Nat) (S : Sto) : gIx (relD ls h) (.int s) S = some (intsT (relR (rowA ls s) h), S) := by
  obtain ⟨d, e1, e2⟩ := atI_nat (xs := ls.map fun row => intsT (relR row h)) hh.1 (by rw [List.length_map]; exact hh.2)
  rw [List.getElem?_map] at e1
  obtain ⟨row, e3, rfl⟩ := map_some' e1
  rw [rowA_get e3]
  unfold gIx relD
  simp only [viewS, Option.bind_some, e2, Option.map_some]
theorem follow_ok (w : WOk hs cs ls) {R : List Int} (hR : ∀ s ∈ R, In ls s) (hl : R.length ≤ 5) {h : Nat} (S : Sto) : F_followed [intsT R, relD ls h] S = some (intsT (nextP ls h R), S) := by
  refine ok_eq ?_
  unfold F_followed M_followed
  refine k_fn ?_
  have hi : mSeqI (mVar 0) [some (intsT R), some (relD ls h), none, none] S = some (R.map .int, S) := by simp only [fnM, runB, mSeq, mAsg, mDPut, mDGet, mPar, mPar3, mgName, mgTup, mgCons, mgNil, mVar, mC, mOp, mTest, mAnd, mOr, mNot, mNotV, mIf, mIfS, mRet, mRetN, mDrop, mNext, mCall, mCons, mNil, mTup, mLst, mLstM, mBlt, mBM, mBM0, mFrz, mFld, mSetF, mYes, mSl, mNoPart, mPart, mSeqI, mRng1, mRng2, mZip, mEnumerate, mMe, mMeK, mNew, mNever, mAndV, mOrV, mDGet2, mDNew, mDisp, mPairs, mRevS, mEnumS, mListVals, mTupR, mKwC, mInD, mNeg, mRev, mRevM, List.map_cons, List.map_nil, List.length_cons, List.length_nil, List.replicate_succ, List.replicate_zero, List.cons_append, List.nil_append, List.append_nil, List.getD_cons_zero, List.getD_cons_succ, List.set_cons_zero, List.set_cons_succ, List.getElem?_cons_zero, List.getElem?_cons_succ, Nat.zero_add, Nat.reduceAdd, Nat.reduceSub, Option.bind_some, Option.map_some, Option.bind_none, Option.map_none, ↓reduceIte, Bool.false_eq_true, szK, sz0, sz1, sz2, sz3, sz4, if_pos rfl, intsT, viewF]
  have hw : wipeE [some (intsT R), some (relD ls h), none, none] [2, 3] = [some (intsT R), some (relD ls h), none, none] := rfl
  have inner : ∀ (L : List Int) (acc : List Int), (∀ s ∈ L, In ls s) → scG (mgName 2) mYes (mInI (mSeqI (mOp gIx (mVar 1) (mVar 2))) (mgName 3) (mYes) (mVar 3) [3]) [some (intsT R), some (relD ls h), none, none] (L.map .int) acc S = some (acc ++ L.flatMap fun s => relR (rowA ls s) h, S) := by
    intro L
    induction L with
    | nil => intro acc _; simp [scG]
    | cons s L ih =>
      intro acc hL
      have hs := hL s List.mem_cons_self
      have e1 : mSeqI (mOp gIx (mVar 1) (mVar 2)) [some (intsT R), some (relD ls h), some (.int s), none] S = some ((relR (rowA ls s) h).map .int, S) := by simp only [fnM, runB, mSeq, mAsg, mDPut, mDGet, mPar, mPar3, mgName, mgTup, mgCons, mgNil, mVar, mC, mOp, mTest, mAnd, mOr, mNot, mNotV, mIf, mIfS, mRet, mRetN, mDrop, mNext, mCall, mCons, mNil, mTup, mLst, mLstM, mBlt, mBM, mBM0, mFrz, mFld, mSetF, mYes, mSl, mNoPart, mPart, mSeqI, mRng1, mRng2, mZip, mEnumerate, mMe, mMeK, mNew, mNever, mAndV, mOrV, mDGet2, mDNew, mDisp, mPairs, mRevS, mEnumS, mListVals, mTupR, mKwC, mInD, mNeg, mRev, mRevM, List.map_cons, List.map_nil, List.length_cons, List.length_nil, List.replicate_succ, List.replicate_zero, List.cons_append, List.nil_append, List.append_nil, List.getD_cons_zero, List.getD_cons_succ, List.set_cons_zero, List.set_cons_succ, List.getElem?_cons_zero, List.getElem?_cons_succ, Nat.zero_add, Nat.reduceAdd, Nat.reduceSub, Option.bind_some, Option.map_some, Option.bind_none, Option.map_none, ↓reduceIte, Bool.false_eq_true, szK, sz0, sz1, sz2, sz3, sz4, if_pos rfl, ix_rel w hs, intsT, viewF]
      have sc := scG_pure (S := S) (g := mgName 3) (t := mYes) (e := mVar 3) (E0 := [some (intsT R), some (relD ls h), some (.int s), none]) D.int (fun _ => true) (fun z => z) (fun z => [some (intsT R), some (relD ls h), some (.int s), some (.int z)]) (relR (rowA ls s) h) acc (fun z hz => ⟨rfl, rfl, fun _ => rfl⟩)
      rw [filt_true, List.map_id'] at sc
      have hw2 : wipeE [some (intsT R), some (relD ls h), some (.int s), none] [3] = [some (intsT R), some (relD ls h), some (.int s), none] := rfl
      have e2 : mInI (mSeqI (mOp gIx (mVar 1) (mVar 2))) (mgName 3) (mYes) (mVar 3) [3] [some (intsT R), some (relD ls h), some (.int s), none] acc S = some (acc ++ relR (rowA ls s) h, S) := by
        unfold mInI
        rw [e1, Option.bind_some, hw2]
        exact sc
      have e0 : mgName 2 (.int s) [some (intsT R), some (relD ls h), none, none] S = some ([some (intsT R), some (relD ls h), some (.int s), none], S) := rfl
      have ey : ∀ (E : DL.Env) (S : Sto), mYes E S = some (true, S) := fun _ _ => rfl
      rw [List.map_cons, scG, e0, Option.bind_some, ey, Option.bind_some, if_pos rfl]
      simp only [e2, Option.bind_some]
      rw [ih _ fun z hz => hL z (List.mem_cons_of_mem _ hz), List.flatMap_cons, List.append_assoc]
  have fl : (R.flatMap fun s => relR (rowA ls s) h).length ≤ 9 * R.length := flat_len _ fun s hs => Nat.le_trans rel_len (row_ok w (hR s hs)).2.1
  have so : mSortG (mSeqI (mVar 0)) (mgName 2) (mYes) (mInI (mSeqI (mOp gIx (mVar 1) (mVar 2))) (mgName 3) (mYes) (mVar 3) [3]) [2, 3] [some (intsT R), some (relD ls h), none, none] S = some (.lst ((nextP ls h R).map .int), S) := by
    unfold mSortG
    rw [hi, Option.bind_some, hw]
    dsimp only
    rw [inner R [] hR, Option.bind_some, List.nil_append]
    dsimp only
    rw [if_pos (by omega)]
    have : sortU ltZ (R.flatMap fun s => relR (rowA ls s) h) = nextP ls h R := by
      refine str_uniq linZ (sortU_str linZ _) (str8_next h R) fun z => ?_
      rw [sortU_mem linZ, next_mem w hR, List.mem_flatMap]
      exact ⟨fun ⟨s, a, b⟩ => ⟨s, a, rel_mem.mp b⟩, fun ⟨s, a, b⟩ => ⟨s, a, rel_mem.mpr b⟩⟩
    rw [this]
  have gt : ∀ ds : List D, gTupC [.lst ds] S = some (.tup ds, S) := fun ds => rfl
  simp only [fnM, runB, mSeq, mAsg, mDPut, mDGet, mPar, mPar3, mgName, mgTup, mgCons, mgNil, mVar, mC, mOp, mTest, mAnd, mOr, mNot, mNotV, mIf, mIfS, mRet, mRetN, mDrop, mNext, mCall, mCons, mNil, mTup, mLst, mLstM, mBlt, mBM, mBM0, mFrz, mFld, mSetF, mYes, mSl, mNoPart, mPart, mSeqI, mRng1, mRng2, mZip, mEnumerate, mMe, mMeK, mNew, mNever, mAndV, mOrV, mDGet2, mDNew, mDisp, mPairs, mRevS, mEnumS, mListVals, mTupR, mKwC, mInD, mNeg, mRev, mRevM, List.map_cons, List.map_nil, List.length_cons, List.length_nil, List.replicate_succ, List.replicate_zero, List.cons_append, List.nil_append, List.append_nil, List.getD_cons_zero, List.getD_cons_succ, List.set_cons_zero, List.set_cons_succ, List.getElem?_cons_zero, List.getElem?_cons_succ, Nat.zero_add, Nat.reduceAdd, Nat.reduceSub, Option.bind_some, Option.map_some, Option.bind_none, Option.map_none, ↓reduceIte, Bool.false_eq_true, szK, sz0, sz1, sz2, sz3, sz4, if_pos rfl, so, gt, ok_some]
  exact trim_id _ _
theorem in_len {R : List Int} (hR : ∀ s ∈ R, In ls s) (ha : R.Pairwise (· < ·)) : R.length ≤ ls.length := by
  have := nd_len (ys := (List.range ls.length).map Int.ofNat) (ha.imp fun {a b} q => (by omega : a ≠ b)) fun k hk => by
    obtain ⟨a, b⟩ := hR k hk
    exact List.mem_map.mpr ⟨k.toNat, List.mem_range.mpr (by omega), by show ((k.toNat : Nat) : Int) = k; omega⟩
  simpa using this
theorem reach_next {said : List Nat} {R : List Int} {i h : Nat} (e : said[i]? = some h) : reachP ls (said.take (i + 1)) R = nextP ls h (reachP ls (said.take i) R) := by
  unfold reachP
  rw [List.take_add_one, e, List.foldl_append]
  rfl
theorem reached_ok (w : WOk hs cs ls) {s : Int} (hh : In ls s) {x : Str} (hx : ∀ c ∈ x.cps.toList, c ∈ hs.cps.toList) {S : Sto} (hS : LowS S) : F_reached C [rules C hs cs ls, .int s, .str x] S = some (intsT (reachP ls x.cps.toList [s]), S) := by
  refine ok_eq ?_
  unfold F_reached M_reached
  refine k_fn ?_
  have r := relations_ok (C := C) w hS
  refine k_nx (E1 := [some (rules C hs cs ls), some (.int s), some (.str x), some (relsD hs ls), none, none]) (S1 := S) (by simp only [fnM, runB, mSeq, mAsg, mDPut, mDGet, mPar, mPar3, mgName, mgTup, mgCons, mgNil, mVar, mC, mOp, mTest, mAnd, mOr, mNot, mNotV, mIf, mIfS, mRet, mRetN, mDrop, mNext, mCall, mCons, mNil, mTup, mLst, mLstM, mBlt, mBM, mBM0, mFrz, mFld, mSetF, mYes, mSl, mNoPart, mPart, mSeqI, mRng1, mRng2, mZip, mEnumerate, mMe, mMeK, mNew, mNever, mAndV, mOrV, mDGet2, mDNew, mDisp, mPairs, mRevS, mEnumS, mListVals, mTupR, mKwC, mInD, mNeg, mRev, mRevM, List.map_cons, List.map_nil, List.length_cons, List.length_nil, List.replicate_succ, List.replicate_zero, List.cons_append, List.nil_append, List.append_nil, List.getD_cons_zero, List.getD_cons_succ, List.set_cons_zero, List.set_cons_succ, List.getElem?_cons_zero, List.getElem?_cons_succ, Nat.zero_add, Nat.reduceAdd, Nat.reduceSub, Option.bind_some, Option.map_some, Option.bind_none, Option.map_none, ↓reduceIte, Bool.false_eq_true, szK, sz0, sz1, sz2, sz3, sz4, if_pos rfl, r]) ?_
  refine k_nx (E1 := [some (rules C hs cs ls), some (.int s), some (.str x), some (relsD hs ls), some (intsT [s]), none]) (S1 := S) (by simp only [fnM, runB, mSeq, mAsg, mDPut, mDGet, mPar, mPar3, mgName, mgTup, mgCons, mgNil, mVar, mC, mOp, mTest, mAnd, mOr, mNot, mNotV, mIf, mIfS, mRet, mRetN, mDrop, mNext, mCall, mCons, mNil, mTup, mLst, mLstM, mBlt, mBM, mBM0, mFrz, mFld, mSetF, mYes, mSl, mNoPart, mPart, mSeqI, mRng1, mRng2, mZip, mEnumerate, mMe, mMeK, mNew, mNever, mAndV, mOrV, mDGet2, mDNew, mDisp, mPairs, mRevS, mEnumS, mListVals, mTupR, mKwC, mInD, mNeg, mRev, mRevM, List.map_cons, List.map_nil, List.length_cons, List.length_nil, List.replicate_succ, List.replicate_zero, List.cons_append, List.nil_append, List.append_nil, List.getD_cons_zero, List.getD_cons_succ, List.set_cons_zero, List.set_cons_succ, List.getElem?_cons_zero, List.getElem?_cons_succ, Nat.zero_add, Nat.reduceAdd, Nat.reduceSub, Option.bind_some, Option.map_some, Option.bind_none, Option.map_none, ↓reduceIte, Bool.false_eq_true, szK, sz0, sz1, sz2, sz3, sz4, if_pos rfl]; rfl) ?_
  have hi : mSeqI (mVar 2) [some (rules C hs cs ls), some (.int s), some (.str x), some (relsD hs ls), some (intsT [s]), none] S = some (DL.signs x, S) := by simp only [fnM, runB, mSeq, mAsg, mDPut, mDGet, mPar, mPar3, mgName, mgTup, mgCons, mgNil, mVar, mC, mOp, mTest, mAnd, mOr, mNot, mNotV, mIf, mIfS, mRet, mRetN, mDrop, mNext, mCall, mCons, mNil, mTup, mLst, mLstM, mBlt, mBM, mBM0, mFrz, mFld, mSetF, mYes, mSl, mNoPart, mPart, mSeqI, mRng1, mRng2, mZip, mEnumerate, mMe, mMeK, mNew, mNever, mAndV, mOrV, mDGet2, mDNew, mDisp, mPairs, mRevS, mEnumS, mListVals, mTupR, mKwC, mInD, mNeg, mRev, mRevM, List.map_cons, List.map_nil, List.length_cons, List.length_nil, List.replicate_succ, List.replicate_zero, List.cons_append, List.nil_append, List.append_nil, List.getD_cons_zero, List.getD_cons_succ, List.set_cons_zero, List.set_cons_succ, List.getElem?_cons_zero, List.getElem?_cons_succ, Nat.zero_add, Nat.reduceAdd, Nat.reduceSub, Option.bind_some, Option.map_some, Option.bind_none, Option.map_none, ↓reduceIte, Bool.false_eq_true, szK, sz0, sz1, sz2, sz3, sz4, if_pos rfl, viewF]
  have hsz : (DL.signs x).length = x.cps.toList.length := by simp [DL.signs]
  have h0 : ∀ z ∈ [s], In ls z := fun z hz => by rw [List.mem_singleton] at hz; rw [hz]; exact hh
  refine k_seq (k_for hi (fun i E S' => ∃ x5, E = [some (rules C hs cs ls), some (.int s), some (.str x), some (relsD hs ls), some (intsT (reachP ls (x.cps.toList.take i) [s])), x5] ∧ S' = S) ⟨_, rfl, rfl⟩ ?_ ?_)
  · rintro i d E S' hd ⟨x5, rfl, rfl⟩
    obtain ⟨a, hc1, rfl⟩ := signs_get hd
    have hc2 : x.cps.toList[i]? = some a := by rw [Array.getElem?_toList]; exact hc1
    have ha := hx a (List.mem_of_getElem? hc2)
    have hin := reach_in (ls := ls) (x.cps.toList.take i) [s] h0
    have hasc := reach_asc (ls := ls) (x.cps.toList.take i) [s] (List.pairwise_singleton _ _)
    have hlen := in_len hin hasc
    have l5 := w.l5
    have fo := follow_ok w hin (by omega) (h := a) S'
    have tk : toKey (.str (sg a)) = some (.inr (sg a)) := rfl
    have lk := look_l (f := fun c => relD ls c) ha
    have vd : viewD S' (relsD hs ls) = some (hs.cps.toList.map lkey, hs.cps.toList.map fun c => relD ls c) := rfl
    rw [reach_next hc2]
    refine ⟨([some (rules C hs cs ls), some (.int s), some (.str x), some (relsD hs ls), some (intsT (reachP ls (x.cps.toList.take i) [s])), some (.str (sg a))], S'), by simp only [fnM, runB, mSeq, mAsg, mDPut, mDGet, mPar, mPar3, mgName, mgTup, mgCons, mgNil, mVar, mC, mOp, mTest, mAnd, mOr, mNot, mNotV, mIf, mIfS, mRet, mRetN, mDrop, mNext, mCall, mCons, mNil, mTup, mLst, mLstM, mBlt, mBM, mBM0, mFrz, mFld, mSetF, mYes, mSl, mNoPart, mPart, mSeqI, mRng1, mRng2, mZip, mEnumerate, mMe, mMeK, mNew, mNever, mAndV, mOrV, mDGet2, mDNew, mDisp, mPairs, mRevS, mEnumS, mListVals, mTupR, mKwC, mInD, mNeg, mRev, mRevM, List.map_cons, List.map_nil, List.length_cons, List.length_nil, List.replicate_succ, List.replicate_zero, List.cons_append, List.nil_append, List.append_nil, List.getD_cons_zero, List.getD_cons_succ, List.set_cons_zero, List.set_cons_succ, List.getElem?_cons_zero, List.getElem?_cons_succ, Nat.zero_add, Nat.reduceAdd, Nat.reduceSub, Option.bind_some, Option.map_some, Option.bind_none, Option.map_none, ↓reduceIte, Bool.false_eq_true, szK, sz0, sz1, sz2, sz3, sz4, if_pos rfl], ?_⟩
    dsimp only
    simp only [fnM, runB, mSeq, mAsg, mDPut, mDGet, mPar, mPar3, mgName, mgTup, mgCons, mgNil, mVar, mC, mOp, mTest, mAnd, mOr, mNot, mNotV, mIf, mIfS, mRet, mRetN, mDrop, mNext, mCall, mCons, mNil, mTup, mLst, mLstM, mBlt, mBM, mBM0, mFrz, mFld, mSetF, mYes, mSl, mNoPart, mPart, mSeqI, mRng1, mRng2, mZip, mEnumerate, mMe, mMeK, mNew, mNever, mAndV, mOrV, mDGet2, mDNew, mDisp, mPairs, mRevS, mEnumS, mListVals, mTupR, mKwC, mInD, mNeg, mRev, mRevM, List.map_cons, List.map_nil, List.length_cons, List.length_nil, List.replicate_succ, List.replicate_zero, List.cons_append, List.nil_append, List.append_nil, List.getD_cons_zero, List.getD_cons_succ, List.set_cons_zero, List.set_cons_succ, List.getElem?_cons_zero, List.getElem?_cons_succ, Nat.zero_add, Nat.reduceAdd, Nat.reduceSub, Option.bind_some, Option.map_some, Option.bind_none, Option.map_none, ↓reduceIte, Bool.false_eq_true, szK, sz0, sz1, sz2, sz3, sz4, if_pos rfl, vd, tk, lk, fo]
    refine Ok.some ?_
    exact ⟨_, rfl, rfl⟩
  · rintro E S' ⟨x5, rfl, rfl⟩
    rw [hsz, List.take_length]
    simp only [fnM, runB, mSeq, mAsg, mDPut, mDGet, mPar, mPar3, mgName, mgTup, mgCons, mgNil, mVar, mC, mOp, mTest, mAnd, mOr, mNot, mNotV, mIf, mIfS, mRet, mRetN, mDrop, mNext, mCall, mCons, mNil, mTup, mLst, mLstM, mBlt, mBM, mBM0, mFrz, mFld, mSetF, mYes, mSl, mNoPart, mPart, mSeqI, mRng1, mRng2, mZip, mEnumerate, mMe, mMeK, mNew, mNever, mAndV, mOrV, mDGet2, mDNew, mDisp, mPairs, mRevS, mEnumS, mListVals, mTupR, mKwC, mInD, mNeg, mRev, mRevM, List.map_cons, List.map_nil, List.length_cons, List.length_nil, List.replicate_succ, List.replicate_zero, List.cons_append, List.nil_append, List.append_nil, List.getD_cons_zero, List.getD_cons_succ, List.set_cons_zero, List.set_cons_succ, List.getElem?_cons_zero, List.getElem?_cons_succ, Nat.zero_add, Nat.reduceAdd, Nat.reduceSub, Option.bind_some, Option.map_some, Option.bind_none, Option.map_none, ↓reduceIte, Bool.false_eq_true, szK, sz0, sz1, sz2, sz3, sz4, if_pos rfl, ok_some]
    exact trim_id _ _
end
end Law
namespace Law
open PySem L2 PyProof.Rows DL
/-! ### speeches by length, then by letters -/
def slex (u v : List Nat) : Prop := u.length < v.length ∨ (u.length = v.length ∧ u < v)
def sle (u v : List Nat) : Prop := u = v ∨ slex u v
theorem slex_irr (u : List Nat) : ¬ slex u u := by
  rintro (h | ⟨_, h⟩)
  · omega
  · exact List.lt_irrefl _ h
theorem slex_tr {u v w : List Nat} (a : slex u v) (b : slex v w) : slex u w := by
  rcases a with a | ⟨a, a'⟩ <;> rcases b with b | ⟨b, b'⟩
  · exact .inl (by omega)
  · exact .inl (by omega)
  · exact .inl (by omega)
  · exact .inr ⟨by omega, List.lt_trans a' b'⟩
theorem sle_slex {u v w : List Nat} (a : sle u v) (b : slex v w) : slex u w := by
  rcases a with rfl | a
  · exact b
  · exact slex_tr a b
theorem slex_sle {u v w : List Nat} (a : slex u v) (b : sle v w) : slex u w := by
  rcases b with rfl | b
  · exact a
  · exact slex_tr a b
theorem sle_tr {u v w : List Nat} (a : sle u v) (b : sle v w) : sle u w := by
  rcases a with rfl | a
  · exact b
  · exact .inr (slex_sle a b)
theorem slex_tot (u v : List Nat) : u = v ∨ slex u v ∨ slex v u := by
  by_cases h : u.length = v.length
  · rcases Decidable.em (u < v) with a | a
    · exact .inr (.inl (.inr ⟨h, a⟩))
    · rcases Decidable.em (v < u) with b | b
      · exact .inr (.inr (.inr ⟨h.symm, b⟩))
      · exact .inl (List.le_antisymm (List.not_lt.mp b) (List.not_lt.mp a))
  · rcases Nat.lt_or_gt_of_ne h with a | a
    · exact .inr (.inl (.inl a))
    · exact .inr (.inr (.inl a))
theorem lt_snoc : ∀ {u v : List Nat}, u.length = v.length → u < v → ∀ (x y : List Nat), u ++ x < v ++ y
  | [], [], _, h, x, y => absurd h (List.lt_irrefl _)
  | a :: u, b :: v, hl, h, x, y => by
    rcases List.cons_lt_cons_iff.mp h with h2 | ⟨e, h2⟩
    · exact List.cons_lt_cons_iff.mpr (.inl h2)
    · exact List.cons_lt_cons_iff.mpr (.inr ⟨e, lt_snoc (u := u) (v := v) (by simpa using hl) h2 x y⟩)
  | [], _ :: _, hl, _, _, _ => by simp at hl
  | _ :: _, [], hl, _, _, _ => by simp at hl
theorem slex_snoc {u v : List Nat} (h : slex u v) (a b : Nat) : slex (u ++ [a]) (v ++ [b]) := by
  rcases h with h | ⟨h, h'⟩
  · exact .inl (by simp; omega)
  · exact .inr ⟨by simp; omega, lt_snoc h h' _ _⟩
theorem lt_last : ∀ (u : List Nat) {a b : Nat}, a < b → u ++ [a] < u ++ [b]
  | [], a, b, h => List.cons_lt_cons_iff.mpr (.inl h)
  | c :: u, a, b, h => List.cons_lt_cons_iff.mpr (.inr ⟨rfl, lt_last u h⟩)
theorem slex_last (u : List Nat) {a b : Nat} (h : a < b) : slex (u ++ [a]) (u ++ [b]) := .inr ⟨by simp, lt_last u h⟩
theorem sle_snoc {u v : List Nat} (h : sle u v) (a : Nat) : sle (u ++ [a]) (v ++ [a]) := by
  rcases h with rfl | h
  · exact .inl rfl
  · exact .inr (slex_snoc h a a)
/-! ### sets of states as they are met -/
abbrev Ent := List Int × List Nat
def addF (ls : List (List Mv)) (S : List Int) (w : List Nat) (F : List Ent) (h : Nat) : List Ent := if nextP ls h S ∈ F.map (·.1) then F else F ++ [(nextP ls h S, w ++ [h])]
theorem reach_snoc (ls : List (List Mv)) (u : List Nat) (h : Nat) (R : List Int) : reachP ls (u ++ [h]) R = nextP ls h (reachP ls u R) := by
  unfold reachP
  rw [List.foldl_append]
  rfl
structure FI (ls : List (List Mv)) (hs : List Nat) (F : List Ent) (at_ : Nat) : Prop where
  key : (F.map (·.1)).Nodup
  zero : F[0]? = some ([0], [])
  ent : ∀ e ∈ F, reachP ls e.2 [0] = e.1 ∧ e.1 ≠ [] ∧ (∀ c ∈ e.2, c ∈ hs)
  ord : F.Pairwise fun a b => slex a.2 b.2
  par : ∀ e ∈ F, e.2 = [] ∨ ∃ (j : Nat) (p : Ent) (a : Nat), j < at_ ∧ F[j]? = some p ∧ e.2 = p.2 ++ [a]
  clo : ∀ (j : Nat) (p : Ent), j < at_ → F[j]? = some p → ∀ h ∈ hs, ∃ e ∈ F, e.1 = nextP ls h p.1 ∧ sle e.2 (p.2 ++ [h])
  len : ∀ (i : Nat) (e : Ent), F[i]? = some e → e.2.length ≤ i
theorem ord_get {F : List Ent} (h : F.Pairwise fun a b => slex a.2 b.2) {i j : Nat} {a b : Ent} (hi : F[i]? = some a) (hj : F[j]? = some b) (l : i < j) : slex a.2 b.2 := by
  obtain ⟨i1, i2⟩ := List.getElem?_eq_some_iff.mp hi
  obtain ⟨j1, j2⟩ := List.getElem?_eq_some_iff.mp hj
  rw [← i2, ← j2]
  exact List.pairwise_iff_getElem.mp h i j i1 j1 l
structure GI (ls : List (List Mv)) (hs : List Nat) (F : List Ent) (at_ : Nat) (S : List Int) (w : List Nat) (G T : List Ent) (done : List Nat) : Prop where
  eq : G = F ++ T
  key : (G.map (·.1)).Nodup
  ent : ∀ e ∈ G, reachP ls e.2 [0] = e.1 ∧ e.1 ≠ [] ∧ (∀ c ∈ e.2, c ∈ hs)
  ord : G.Pairwise fun a b => slex a.2 b.2
  new : ∀ e ∈ T, ∃ a ∈ done, e.2 = w ++ [a]
  clo : ∀ a ∈ done, ∃ e ∈ G, e.1 = nextP ls a S ∧ sle e.2 (w ++ [a])
  len : ∀ (i : Nat) (e : Ent), G[i]? = some e → e.2.length ≤ i
theorem gi_step {ls : List (List Mv)} {hs : List Nat} {F : List Ent} {at_ : Nat} {S : List Int} {w : List Nat} (I : FI ls hs F at_) (hat : F[at_]? = some (S, w)) {G T : List Ent} {done : List Nat} (g : GI ls hs F at_ S w G T done) {h : Nat} (hh : h ∈ hs) (hd : ∀ a ∈ done, a < h) (hb : nextP ls h S ≠ []) :
    ∃ T', GI ls hs F at_ S w (addF ls S w G h) T' (done ++ [h]) := by
  have hmem : (S, w) ∈ F := List.mem_of_getElem? hat
  obtain ⟨e1, e2, e3⟩ := I.ent _ hmem
  unfold addF
  by_cases q : nextP ls h S ∈ G.map (·.1)
  · rw [if_pos q]
    refine ⟨T, g.eq, g.key, g.ent, g.ord, fun e he => ?_, fun a ha => ?_, g.len⟩
    · obtain ⟨a, ha, e⟩ := g.new e he
      exact ⟨a, List.mem_append_left _ ha, e⟩
    · rcases List.mem_append.mp ha with u | u
      · exact g.clo a u
      · rw [List.mem_singleton] at u
        subst u
        obtain ⟨e, he, ee⟩ := List.mem_map.mp q
        refine ⟨e, he, ee, ?_⟩
        rw [g.eq] at he
        rcases List.mem_append.mp he with v | v
        · rcases I.par e v with z | ⟨j, p, b, hj, hp, ez⟩
          · rw [z]; exact .inr (.inl (by simp))
          · rw [ez]
            exact .inr (slex_snoc (ord_get I.ord hp hat hj) _ _)
        · obtain ⟨b, hb2, ez⟩ := g.new e v
          rw [ez]
          exact .inr (slex_last w (hd b hb2))
  · rw [if_neg q]
    have big : ∀ e ∈ G, slex e.2 (w ++ [h]) := fun e he => by
      rw [g.eq] at he
      rcases List.mem_append.mp he with v | v
      · rcases I.par e v with z | ⟨j, p, b, hj, hp, ez⟩
        · rw [z]; exact .inl (by simp)
        · rw [ez]
          exact slex_snoc (ord_get I.ord hp hat hj) _ _
      · obtain ⟨b, hb2, ez⟩ := g.new e v
        rw [ez]
        exact slex_last w (hd b hb2)
    refine ⟨T ++ [(nextP ls h S, w ++ [h])], by rw [g.eq, List.append_assoc], ?_, fun e he => ?_, ?_, fun e he => ?_, fun a ha => ?_, fun i e he => ?_⟩
    · rw [List.map_append]
      refine List.nodup_append.mpr ⟨g.key, by simp, fun a ha b hb2 e => ?_⟩
      have : b = nextP ls h S := by simpa using hb2
      exact q (by rw [← this, ← e]; exact ha)
    · rcases List.mem_append.mp he with u | u
      · exact g.ent e u
      · rw [List.mem_singleton] at u
        subst u
        refine ⟨by rw [reach_snoc, e1], hb, fun c hc => ?_⟩
        rcases List.mem_append.mp hc with v | v
        · exact e3 c v
        · rw [List.mem_singleton] at v; rw [v]; exact hh
    · refine List.pairwise_append.mpr ⟨g.ord, List.pairwise_singleton _ _, fun a ha b hb2 => ?_⟩
      rw [List.mem_singleton] at hb2
      subst hb2
      exact big a ha
    · rcases List.mem_append.mp he with u | u
      · obtain ⟨a, ha, e⟩ := g.new e u
        exact ⟨a, List.mem_append_left _ ha, e⟩
      · rw [List.mem_singleton] at u
        subst u
        exact ⟨h, by simp, rfl⟩
    · rcases List.mem_append.mp ha with u | u
      · obtain ⟨e, he, ee⟩ := g.clo a u
        exact ⟨e, List.mem_append_left _ he, ee⟩
      · rw [List.mem_singleton] at u
        subst u
        exact ⟨_, List.mem_append_right _ List.mem_cons_self, rfl, .inl rfl⟩
    · by_cases hi : i < G.length
      · rw [List.getElem?_append_left hi] at he
        exact g.len i e he
      · rw [List.getElem?_append_right (by omega)] at he
        have h1 := (List.getElem?_eq_some_iff.mp he).1
        have h0 : i - G.length = 0 := by simp at h1; omega
        rw [h0] at he
        have he' : (nextP ls h S, w ++ [h]) = e := by simpa using he
        rw [← he']
        have l1 : w.length ≤ at_ := I.len _ _ hat
        have l2 : at_ < F.length := (List.getElem?_eq_some_iff.mp hat).1
        have l3 : F.length ≤ G.length := by rw [g.eq, List.length_append]; omega
        simp only [List.length_append, List.length_singleton]
        omega
theorem gi_start {ls : List (List Mv)} {hs : List Nat} {F : List Ent} {at_ : Nat} {S : List Int} {w : List Nat} (I : FI ls hs F at_) : GI ls hs F at_ S w F [] [] :=
  ⟨by simp, I.key, I.ent, I.ord, (fun e he => nomatch he), (fun a ha => nomatch ha), I.len⟩
theorem gi_end {ls : List (List Mv)} {hs : List Nat} {F : List Ent} {at_ : Nat} {S : List Int} {w : List Nat} (I : FI ls hs F at_) (hat : F[at_]? = some (S, w)) {G T : List Ent} (g : GI ls hs F at_ S w G T hs) : FI ls hs G (at_ + 1) := by
  have l2 : at_ < F.length := (List.getElem?_eq_some_iff.mp hat).1
  have get : ∀ {j : Nat}, j < F.length → G[j]? = F[j]? := fun {j} hj => by rw [g.eq, List.getElem?_append_left hj]
  refine ⟨g.key, by rw [get (by omega)]; exact I.zero, g.ent, g.ord, fun e he => ?_, fun j p hj hp h hh => ?_, g.len⟩
  · rw [g.eq] at he
    rcases List.mem_append.mp he with u | u
    · rcases I.par e u with z | ⟨j, p, b, hj, hp, ez⟩
      · exact .inl z
      · exact .inr ⟨j, p, b, by omega, by rw [get (by omega)]; exact hp, ez⟩
    · obtain ⟨a, ha, ez⟩ := g.new e u
      exact .inr ⟨at_, (S, w), a, by omega, by rw [get l2]; exact hat, ez⟩
  · rw [get (by omega)] at hp
    by_cases hjj : j = at_
    · subst hjj
      rw [hat] at hp
      cases hp
      exact g.clo h hh
    · obtain ⟨e, he, ee⟩ := I.clo j p (by omega) hp h hh
      exact ⟨e, by rw [g.eq]; exact List.mem_append_left _ he, ee⟩
/-- what is told: the first speech without a caption, or none -/
def Spec (ls : List (List Mv)) (hs : List Nat) : Option (List Nat) → Prop
  | none => ∀ u : List Nat, (∀ c ∈ u, c ∈ hs) → reachP ls u [0] ≠ []
  | some t => reachP ls t [0] = [] ∧ (∀ c ∈ t, c ∈ hs) ∧ ∀ u : List Nat, (∀ c ∈ u, c ∈ hs) → slex u t → reachP ls u [0] ≠ []
theorem spec_uniq {ls : List (List Mv)} {hs : List Nat} {a b : Option (List Nat)} (ha : Spec ls hs a) (hb : Spec ls hs b) : a = b := by
  cases a with
  | none => cases b with
    | none => rfl
    | some t => exact absurd hb.1 (ha t hb.2.1)
  | some s => cases b with
    | none => exact absurd ha.1 (hb s ha.2.1)
    | some t =>
      rcases slex_tot s t with e | e | e
      · rw [e]
      · exact absurd ha.1 (hb.2.2 s ha.2.1 e)
      · exact absurd hb.1 (ha.2.2 t hb.2.1 e)
theorem snoc_ind {P : List Nat → Prop} (h0 : P []) (hs : ∀ v a, P v → P (v ++ [a])) (u : List Nat) : P u := by
  have : ∀ n (u : List Nat), u.length = n → P u := by
    intro n
    induction n with
    | zero => intro u hu; rw [List.length_eq_zero_iff.mp hu]; exact h0
    | succ n ih =>
      intro u hu
      rcases List.eq_nil_or_concat u with rfl | ⟨v, a, rfl⟩
      · cases hu
      · rw [List.concat_eq_append] at *
        exact hs v a (ih v (by simpa using hu))
  exact this _ u rfl
theorem spec_none {ls : List (List Mv)} {hs : List Nat} {F : List Ent} (I : FI ls hs F F.length) : Spec ls hs none := by
  have key : ∀ u : List Nat, (∀ c ∈ u, c ∈ hs) → ∃ e ∈ F, e.1 = reachP ls u [0] := fun u => by
    refine snoc_ind (P := fun u => (∀ c ∈ u, c ∈ hs) → ∃ e ∈ F, e.1 = reachP ls u [0]) (fun _ => ⟨_, List.mem_of_getElem? I.zero, rfl⟩) (fun v a ih hc => ?_) u
    obtain ⟨e, he, ee⟩ := ih fun c h => hc c (List.mem_append_left _ h)
    obtain ⟨j, hj, ej⟩ := List.getElem_of_mem he
    obtain ⟨e', he', e1, _⟩ := I.clo j e hj (by rw [List.getElem?_eq_getElem hj, ej]) a (hc a (by simp))
    exact ⟨e', he', by rw [reach_snoc, ← ee, e1]⟩
  intro u hu
  obtain ⟨e, he, ee⟩ := key u hu
  rw [← ee]
  exact (I.ent e he).2.1
theorem spec_some {ls : List (List Mv)} {hs : List Nat} {F : List Ent} {at_ : Nat} {S : List Int} {w : List Nat} (I : FI ls hs F at_) (hat : F[at_]? = some (S, w)) {h : Nat} (hh : h ∈ hs) (hbad : nextP ls h S = []) (hok : ∀ a ∈ hs, a < h → nextP ls a S ≠ []) : Spec ls hs (some (w ++ [h])) := by
  obtain ⟨e1, e2, e3⟩ := I.ent _ (List.mem_of_getElem? hat)
  have before : ∀ {j : Nat} {e : Ent} {v : List Nat}, F[j]? = some e → sle e.2 v → v.length < w.length → j < at_ := fun {j e v} hj hl hv => Decidable.byContradiction fun hn => by
    have : sle w e.2 := by
      by_cases q : j = at_
      · subst q; rw [hat] at hj; cases hj; exact .inl rfl
      · exact .inr (ord_get I.ord hat hj (by omega))
    have l1 : w.length ≤ e.2.length := by
      rcases this with q | q
      · rw [q]; exact Nat.le_refl _
      · rcases q with q | q <;> omega
    have l2 : e.2.length ≤ v.length := by
      rcases hl with q | q
      · rw [q]; exact Nat.le_refl _
      · rcases q with q | q <;> omega
    omega
  have Q : ∀ u : List Nat, (∀ c ∈ u, c ∈ hs) → u.length ≤ w.length → ∃ e ∈ F, e.1 = reachP ls u [0] ∧ sle e.2 u := fun u => by
    refine snoc_ind (P := fun u => (∀ c ∈ u, c ∈ hs) → u.length ≤ w.length → ∃ e ∈ F, e.1 = reachP ls u [0] ∧ sle e.2 u) (fun _ _ => ⟨_, List.mem_of_getElem? I.zero, rfl, .inl rfl⟩) (fun v a ih hc hl => ?_) u
    have hv : v.length < w.length := by simp at hl; omega
    obtain ⟨e, he, ee, el⟩ := ih (fun c h => hc c (List.mem_append_left _ h)) (by omega)
    obtain ⟨j, hj, ej⟩ := List.getElem_of_mem he
    have hj' : F[j]? = some e := by rw [List.getElem?_eq_getElem hj, ej]
    obtain ⟨e', he', q1, q2⟩ := I.clo j e (before hj' el hv) hj' a (hc a (by simp))
    exact ⟨e', he', by rw [reach_snoc, ← ee, q1], sle_tr q2 (sle_snoc el a)⟩
  refine ⟨by rw [reach_snoc, e1]; exact hbad, fun c hc => ?_, fun u hu hlt => ?_⟩
  · rcases List.mem_append.mp hc with v | v
    · exact e3 c v
    · rw [List.mem_singleton] at v; rw [v]; exact hh
  · rcases List.eq_nil_or_concat u with rfl | ⟨v, a, rfl⟩
    · exact fun z => by cases z
    · rw [List.concat_eq_append] at *
      have hl : v.length ≤ w.length := by
        rcases hlt with q | q <;> simp at q <;> omega
      have ha := hu a (by simp)
      obtain ⟨e, he, ee, el⟩ := Q v (fun c h => hu c (List.mem_append_left _ h)) hl
      obtain ⟨j, hj, ej⟩ := List.getElem_of_mem he
      have hj' : F[j]? = some e := by rw [List.getElem?_eq_getElem hj, ej]
      rw [reach_snoc, ← ee]
      rcases Nat.lt_trichotomy j at_ with q | q | q
      · obtain ⟨e', he', q1, _⟩ := I.clo j e q hj' a ha
        rw [← q1]
        exact (I.ent e' he').2.1
      · subst q
        rw [hat] at hj'
        cases hj'
        refine hok a ha ?_
        rcases Nat.lt_trichotomy a h with q | q | q
        · exact q
        · subst q
          exact absurd (sle_slex (sle_snoc el a) hlt) (slex_irr _)
        · exact absurd (sle_slex (sle_snoc el a) (slex_tr hlt (slex_last w q))) (slex_irr _)
      · exact absurd (slex_tr hlt (slex_snoc (slex_sle (ord_get I.ord hat hj' q) el) h a)) (slex_irr _)
end Law
namespace Law
open PySem L2 PyProof.Rows DL
/-! ### a while loop, by a number that grows -/
theorem k_while {c : MT} {b : MS} {PS : Out × DL.Env × Sto → Prop} (B : Nat) (J : Nat → DL.Env → Sto → Prop)
    (hs : ∀ n E S, J n E S → (∃ S1, c E S = some (true, S1) ∧ n < B ∧ Ok (b E S1) (fun q => match q.1 with
      | .nx => J (n + 1) q.2.1 q.2.2
      | .ct => J (n + 1) q.2.1 q.2.2
      | .bk => PS (.nx, q.2.1, q.2.2)
      | .rt d => PS (.rt d, q.2.1, q.2.2))) ∨ (∃ S1, c E S = some (false, S1) ∧ PS (.nx, E, S1))) : ∀ (m n : Nat) (E : DL.Env) (S : Sto), B - n < m → J n E S → Ok (whileN c b m E S) PS := by
  intro m
  induction m with
  | zero => intro n E S h; omega
  | succ m ih =>
    intro n E S hm j
    show Ok ((c E S).bind _) _
    rcases hs n E S j with ⟨S1, e1, hn, ⟨o, E2, S2⟩, e2, h⟩ | ⟨S1, e1, h⟩
    · refine Ok.bind ⟨_, e1, ?_⟩
      show Ok (if true = true then _ else _) _
      rw [if_pos rfl]
      refine Ok.bind ⟨_, e2, ?_⟩
      cases o with
      | nx => exact ih (n + 1) E2 S2 (by omega) h
      | ct => exact ih (n + 1) E2 S2 (by omega) h
      | bk => exact Ok.some h
      | rt d => exact Ok.some h
    · exact Ok.bind ⟨_, e1, Ok.some h⟩
/-! ### dicts by tuples of whole numbers -/
def keysZ (xs : List Int) : List Key := xs.map Sum.inl
theorem keysOf_ints : ∀ xs : List Int, keysOf (xs.map D.int) = some (keysZ xs)
  | [] => rfl
  | x :: r => by
    have ih := keysOf_ints r
    simp only [List.map_cons, keysOf, toKey, Option.bind_some, ih, Option.map_some]
    rfl
theorem toTK_ints (xs : List Int) : toTK (intsT xs) = some (keysZ xs) := keysOf_ints xs
theorem keysZ_inj {a b : List Int} (h : keysZ a = keysZ b) : a = b := by
  unfold keysZ at h
  exact (List.map_inj_right fun x y e => Sum.inl.inj e).mp h
theorem keysZ_iff (a b : List Int) : keysZ a = keysZ b ↔ a = b := ⟨keysZ_inj, fun e => e ▸ rfl⟩
def dctF (F : List Ent) : O := .dct (F.map fun e => keysZ e.1) (F.map fun e => .str (txt e.2))
def lstK (F : List Ent) : O := .lst (F.map fun e => intsT e.1)
theorem low_dct (n : Nat) (F : List Ent) : (dctF F).low n = true := by
  unfold dctF
  simp only [O.low]
  exact low_all n (fun e : Ent => D.str (txt e.2)) (fun e => rfl) F
theorem low_lstK (n : Nat) (F : List Ent) : (lstK F).low n = true := by
  unfold lstK
  simp only [O.low]
  exact low_all n (fun e : Ent => intsT e.1) (fun e => low_intsT n e.1) F
theorem tlook_F : ∀ {F : List Ent} {R : List Int} {w : List Nat}, (F.map (·.1)).Nodup → (R, w) ∈ F → tlook (F.map fun e => keysZ e.1) (F.map fun e => .str (txt e.2)) (keysZ R) = some (.str (txt w))
  | [], _, _, _, h => nomatch h
  | e :: F, R, w, nd, h => by
    rw [List.map_cons, List.map_cons, tlook]
    rw [List.map_cons, List.nodup_cons] at nd
    by_cases q : e.1 = R
    · rw [if_pos (by rw [q])]
      rcases List.mem_cons.mp h with z | z
      · rw [← z]
      · exact absurd (by rw [q]; exact List.mem_map.mpr ⟨_, z, rfl⟩) nd.1
    · rw [if_neg (fun z => q (keysZ_inj z))]
      refine tlook_F nd.2 ?_
      rcases List.mem_cons.mp h with z | z
      · exact absurd (by rw [← z]) q
      · exact z
theorem any_F (F : List Ent) (R : List Int) : ((F.map fun e => keysZ e.1).any fun k => decide (k = keysZ R)) = decide (R ∈ F.map (·.1)) := by
  induction F with
  | nil => simp
  | cons e F ih =>
    rw [List.map_cons, List.any_cons, ih, List.map_cons]
    by_cases q : e.1 = R
    · subst q
      rw [decide_eq_true rfl, Bool.true_or, decide_eq_true List.mem_cons_self]
    · rw [decide_eq_false (fun z => q (keysZ_inj z)), Bool.false_or]
      by_cases m : R ∈ F.map (·.1)
      · rw [decide_eq_true m, decide_eq_true (List.mem_cons_of_mem _ m)]
      · rw [decide_eq_false m, decide_eq_false (fun z => (List.mem_cons.mp z).elim (fun y => q y.symm) m)]
theorem tput_F {F : List Ent} {R : List Int} (h : R ∉ F.map (·.1)) (w : List Nat) : tput (F.map fun e => keysZ e.1) (F.map fun e => .str (txt e.2)) (keysZ R) (.str (txt w)) = ((F ++ [(R, w)]).map fun e => keysZ e.1, (F ++ [(R, w)]).map fun e => .str (txt e.2)) := by
  unfold tput
  rw [any_F, if_neg (by simpa using h), List.map_append, List.map_append]
  rfl
/-! ### how many sets there are -/
def bls : Nat → List (List Bool)
  | 0 => [[]]
  | n + 1 => (bls n).flatMap fun l => [true :: l, false :: l]
theorem bls_mem : ∀ l : List Bool, l ∈ bls l.length
  | [] => List.mem_cons_self
  | b :: l => by
    rw [List.length_cons, bls]
    refine List.mem_flatMap.mpr ⟨l, bls_mem l, ?_⟩
    cases b <;> simp
def vec (R : List Int) : List Bool := (List.range 5).map fun i => decide (((i : Nat) : Int) ∈ R)
theorem vec_inj {n : Nat} (hn : n ≤ 5) {R Q : List Int} (hR : ∀ z ∈ R, 0 ≤ z ∧ z < n) (hQ : ∀ z ∈ Q, 0 ≤ z ∧ z < n) (aR : R.Pairwise (· < ·)) (aQ : Q.Pairwise (· < ·)) (h : vec R = vec Q) : R = Q := by
  have e := List.map_inj_left.mp h
  have st : ∀ {L : List Int}, L.Pairwise (· < ·) → Str8 ltZ L := fun {L} a => a.imp fun {x y} q => decide_eq_true q
  refine str_uniq linZ (st aR) (st aQ) fun z => ?_
  have go : ∀ {A B : List Int}, (∀ z ∈ A, 0 ≤ z ∧ z < n) → (∀ i ∈ List.range 5, decide (((i : Nat) : Int) ∈ A) = decide (((i : Nat) : Int) ∈ B)) → z ∈ A → z ∈ B := fun {A B} hA q hz => by
    have b := hA z hz
    have := q z.toNat (List.mem_range.mpr (by omega))
    rw [show ((z.toNat : Nat) : Int) = z by omega, decide_eq_true hz] at this
    exact of_decide_eq_true this.symm
  exact ⟨go hR e, go hQ fun i hi => (e i hi).symm⟩
theorem sets_le {n : Nat} (hn : n ≤ 5) {F : List Ent} (nd : (F.map (·.1)).Nodup) (hF : ∀ e ∈ F, (∀ z ∈ e.1, 0 ≤ z ∧ z < n) ∧ e.1.Pairwise (· < ·)) : F.length ≤ 32 := by
  have p : (F.map fun e => vec e.1).Nodup := by
    refine List.pairwise_map.mpr ((List.pairwise_map.mp nd).imp_of_mem fun {a b} ha hb q e => q ?_)
    exact vec_inj hn (hF a ha).1 (hF b hb).1 (hF a ha).2 (hF b hb).2 e
  have := nd_len (ys := bls 5) p fun x hx => by
    obtain ⟨e, _, rfl⟩ := List.mem_map.mp hx
    have : (vec e.1).length = 5 := by simp [vec]
    rw [← this]
    exact bls_mem _
  rw [List.length_map] at this
  have e : (bls 5).length = 32 := by decide
  omega
/-! ### tuples of whole numbers beside nothing -/
theorem eqD_nilT {S : Sto} {d : D} {ps : List PyData} (h0 : toScal d = none) (h : toPS S d = some (.tuple ps)) (hl : PyData.canLayAll0 ps = true) (hd : PyData.depthAll ps ≤ 63) : eqD S d (.tup []) = some ps.isEmpty := by
  unfold eqD
  rw [h0, h]
  have e2 : toPS S (.tup []) = some (.tuple []) := rfl
  have s1 : SeqAt.shaped (.tuple ps) = true := by
    unfold SeqAt.shaped PyData.canLay0 PyData.depth
    rw [hl, decide_eq_true (by omega)]
    rfl
  have s2 : SeqAt.shaped (.tuple []) = true := by decide
  simp only [Option.bind_none, e2, Option.bind_some, s1, s2, and_self, if_true]
  cases ps <;> rfl
theorem eq_intsT_nil (xs : List Int) (S : Sto) : gEq (intsT xs) (.tup []) S = some (.bl xs.isEmpty, S) := by
  have e : toPS S (intsT xs) = some (.tuple (xs.map .int)) := by
    show toP (intsT xs) = _
    unfold intsT
    simp only [toP, toPs_ints, Option.map_some]
  unfold gEq
  rw [eqD_nilT rfl e (lay_ints xs).1 (by rw [(lay_ints xs).2]; exact Nat.zero_le _)]
  cases xs <;> rfl
theorem ne_intsT_nil (xs : List Int) (S : Sto) : gNe (intsT xs) (.tup []) S = some (.bl (!xs.isEmpty), S) := by
  have := eq_intsT_nil xs S
  unfold gEq at this
  unfold gNe
  obtain ⟨b, e1, e2⟩ := map_some' this
  rw [e1]
  cases e2
  rfl
/-! ### what is told -/
def muteD : Option (List Nat) → D
  | none => .non
  | some t => .str (txt t)
theorem low_mute (n : Nat) (r : Option (List Nat)) : (muteD r).low n = true := by cases r <;> rfl
theorem two_get0 (S : Sto) (a b : O) : (S ++ [a, b])[S.length]? = some a := by simp
theorem two_get1 (S : Sto) (a b : O) : (S ++ [a, b])[S.length + 1]? = some b := by simp
theorem two_set0 (S : Sto) (a b c : O) : (S ++ [a, b]).set S.length c = S ++ [c, b] := by simp
theorem two_set1 (S : Sto) (a b c : O) : (S ++ [a, b]).set (S.length + 1) c = S ++ [a, c] := by simp
theorem LowS.two {S : Sto} (h : LowS S) (F G : List Ent) : LowS (S ++ [dctF F, lstK G]) := h.app fun m => by simp [low_dct, low_lstK]
end Law
namespace Law
open PySem L2 PyProof.Rows DL
section
variable {C : Addr} {hs cs : Str} {ls : List (List Mv)}
theorem g_addT {a : List Nat} (c : Nat) (h : a.length ≤ 1000) (S : Sto) : gAdd (.str (txt a)) (.str (sg c)) S = some (.str (txt (a ++ [c])), S) := by
  rw [g_addS (by rw [txt_len]; show a.length + 1 ≤ _; omega), txt_app]
theorem ent_sets (w : WOk hs cs ls) {F : List Ent} (h : ∀ e ∈ F, reachP ls e.2 [0] = e.1 ∧ e.1 ≠ [] ∧ ∀ c ∈ e.2, c ∈ hs.cps.toList) : ∀ e ∈ F, (∀ z ∈ e.1, 0 ≤ z ∧ z < (ls.length : Int)) ∧ e.1.Pairwise (· < ·) := fun e he => by
  obtain ⟨e1, _, _⟩ := h e he
  have l1 := w.l1
  have h0 : ∀ z ∈ [(0 : Int)], In ls z := fun z hz => by rw [List.mem_singleton] at hz; subst hz; exact ⟨Int.le_refl _, by omega⟩
  rw [← e1]
  exact ⟨reach_in (ls := ls) e.2 [0] h0, reach_asc (ls := ls) e.2 [0] (List.pairwise_singleton _ _)⟩
theorem fi_start (w : WOk hs cs ls) : FI ls hs.cps.toList [([0], [])] 0 := by
  refine ⟨by simp, rfl, fun e he => ?_, List.pairwise_singleton _ _, fun e he => ?_, fun j p hj => absurd hj (Nat.not_lt_zero _), fun i e he => ?_⟩
  · rw [List.mem_singleton] at he
    subst he
    exact ⟨rfl, by simp, by simp⟩
  · rw [List.mem_singleton] at he
    subst he
    exact .inl rfl
  · cases i with
    | zero => simp at he; subst he; exact Nat.le_refl _
    | succ i => simp at he
theorem fi_len (w : WOk hs cs ls) {F : List Ent} {n : Nat} (I : FI ls hs.cps.toList F n) : F.length ≤ 32 := sets_le w.l5 I.key (ent_sets w I.ent)
theorem gi_len (w : WOk hs cs ls) {F : List Ent} {n : Nat} {R : List Int} {u : List Nat} {G T : List Ent} {done : List Nat} (I : GI ls hs.cps.toList F n R u G T done) : G.length ≤ 32 := sets_le w.l5 I.key (ent_sets w I.ent)
theorem fi_txt (w : WOk hs cs ls) {F : List Ent} {n : Nat} (I : FI ls hs.cps.toList F n) {e : Ent} (he : e ∈ F) : e.2.length ≤ 32 := by
  obtain ⟨j, hj, ej⟩ := List.getElem_of_mem he
  have := I.len j e (by rw [List.getElem?_eq_getElem hj, ej])
  have := fi_len w I
  omega
abbrev UE (C : Addr) (hs cs : Str) (ls : List (List Mv)) (L : Nat) (n : Int) (x5 x6 x7 : Option D) : DL.Env := [some (rules C hs cs ls), some (relsD hs ls), some (.loc L), some (.loc (L + 1)), some (.int n), x5, x6, x7]
abbrev muteStep : MS := (mSeq (mAsg (mCall 2 F_followed (mCons (mVar 5) (mCons (mDGet (mVar 1) (mVar 6)) (mNil)))) (mgName 7))
    (mSeq (mIfS (mTest (mOp gEq (mVar 7) (mTup (mNil)))) (mRet (mOp gAdd (mTGet (mVar 2) (mVar 5)) (mVar 6))) (mNext))
    (mIfS (mTest (mTIn true (mVar 7) (mVar 2))) (mSeq (mTPut (mVar 2) (mVar 7) (mOp gAdd (mTGet (mVar 2) (mVar 5)) (mVar 6)))
    (mDrop (mBM "list" gAppend (mVar 3) (mCons (mVar 7) (mNil))))) (mNext))))
/-- one letter -/
theorem mute_step (w : WOk hs cs ls) {S : Sto} (hS : LowS S) {F G T : List Ent} {n : Nat} {R : List Int} {u : List Nat} {done : List Nat} (I : FI ls hs.cps.toList F n) (hat : F[n]? = some (R, u)) (g : GI ls hs.cps.toList F n R u G T done) {h : Nat} (hh : h ∈ hs.cps.toList) {m : Int} {x7 : Option D} :
    Ok (muteStep (UE C hs cs ls S.length m (some (intsT R)) (some (.str (sg h))) x7) (S ++ [dctF G, lstK G])) fun q =>
      (nextP ls h R = [] ∧ q.1 = .rt (.str (txt (u ++ [h]))) ∧ ∃ X, q.2.2 = S ++ X) ∨ (nextP ls h R ≠ [] ∧ q.1 = .nx ∧ q.2.1 = UE C hs cs ls S.length m (some (intsT R)) (some (.str (sg h))) (some (intsT (nextP ls h R))) ∧ q.2.2 = S ++ [dctF (addF ls R u G h), lstK (addF ls R u G h)]) := by
  have hm : (R, u) ∈ F := List.mem_of_getElem? hat
  have hm2 : (R, u) ∈ G := by rw [g.eq]; exact List.mem_append_left _ hm
  have hl : u.length ≤ 32 := fi_txt w I hm
  have hgl := gi_len w g
  obtain ⟨sR, aR⟩ : (∀ z ∈ R, 0 ≤ z ∧ z < (ls.length : Int)) ∧ R.Pairwise (· < ·) := ent_sets w I.ent _ hm
  have lR := in_len sR aR
  have l5 := w.l5
  have fo := follow_ok w sR (by omega) (h := h) (S ++ [dctF G, lstK G])
  have tk : toKey (.str (sg h)) = some (.inr (sg h)) := rfl
  have lk := look_l (f := fun c => relD ls c) hh
  have vd : ∀ T, viewD T (relsD hs ls) = some (hs.cps.toList.map lkey, hs.cps.toList.map fun c => relD ls c) := fun T => rfl
  have vt : viewT (S ++ [dctF G, lstK G]) (.loc S.length) = some (G.map fun e => keysZ e.1, G.map fun e => .str (txt e.2)) := by
    unfold viewT
    simp only [two_get0]
    rfl
  have tl := tlook_F g.key hm2
  have ga := fun S' => g_addT (a := u) h (by omega) S'
  refine k_nx (E1 := UE C hs cs ls S.length m (some (intsT R)) (some (.str (sg h))) (some (intsT (nextP ls h R)))) (S1 := S ++ [dctF G, lstK G]) (by simp only [fnM, runB, mSeq, mAsg, mDPut, mDGet, mPar, mPar3, mgName, mgTup, mgCons, mgNil, mVar, mC, mOp, mTest, mAnd, mOr, mNot, mNotV, mIf, mIfS, mRet, mRetN, mDrop, mNext, mCall, mCons, mNil, mTup, mLst, mLstM, mBlt, mBM, mBM0, mFrz, mFld, mSetF, mYes, mSl, mNoPart, mPart, mSeqI, mRng1, mRng2, mZip, mEnumerate, mMe, mMeK, mNew, mNever, mAndV, mOrV, mDGet2, mDNew, mDisp, mPairs, mRevS, mEnumS, mListVals, mTupR, mKwC, mInD, mNeg, mRev, mRevM, List.map_cons, List.map_nil, List.length_cons, List.length_nil, List.replicate_succ, List.replicate_zero, List.cons_append, List.nil_append, List.append_nil, List.getD_cons_zero, List.getD_cons_succ, List.set_cons_zero, List.set_cons_succ, List.getElem?_cons_zero, List.getElem?_cons_succ, Nat.zero_add, Nat.reduceAdd, Nat.reduceSub, Option.bind_some, Option.map_some, Option.bind_none, Option.map_none, ↓reduceIte, Bool.false_eq_true, szK, sz0, sz1, sz2, sz3, sz4, if_pos rfl, vd, tk, lk, fo]) ?_
  by_cases hb : nextP ls h R = []
  · have eq : gEq (intsT (nextP ls h R)) (.tup []) (S ++ [dctF G, lstK G]) = some (.bl true, S ++ [dctF G, lstK G]) := by rw [eq_intsT_nil, hb]; rfl
    simp only [fnM, runB, mSeq, mAsg, mDPut, mDGet, mPar, mPar3, mgName, mgTup, mgCons, mgNil, mVar, mC, mOp, mTest, mAnd, mOr, mNot, mNotV, mIf, mIfS, mRet, mRetN, mDrop, mNext, mCall, mCons, mNil, mTup, mLst, mLstM, mBlt, mBM, mBM0, mFrz, mFld, mSetF, mYes, mSl, mNoPart, mPart, mSeqI, mRng1, mRng2, mZip, mEnumerate, mMe, mMeK, mNew, mNever, mAndV, mOrV, mDGet2, mDNew, mDisp, mPairs, mRevS, mEnumS, mListVals, mTupR, mKwC, mInD, mNeg, mRev, mRevM, List.map_cons, List.map_nil, List.length_cons, List.length_nil, List.replicate_succ, List.replicate_zero, List.cons_append, List.nil_append, List.append_nil, List.getD_cons_zero, List.getD_cons_succ, List.set_cons_zero, List.set_cons_succ, List.getElem?_cons_zero, List.getElem?_cons_succ, Nat.zero_add, Nat.reduceAdd, Nat.reduceSub, Option.bind_some, Option.map_some, Option.bind_none, Option.map_none, ↓reduceIte, Bool.false_eq_true, szK, sz0, sz1, sz2, sz3, sz4, if_pos rfl, mTGet, mTPut, mTIn, mTDisp, mAug, eq, vt, toTK_ints, tl, ga]
    refine Ok.some (.inl ⟨hb, rfl, _, rfl⟩)
  · have eq : gEq (intsT (nextP ls h R)) (.tup []) (S ++ [dctF G, lstK G]) = some (.bl false, S ++ [dctF G, lstK G]) := by
      rw [eq_intsT_nil]
      cases q : nextP ls h R with
      | nil => exact absurd q hb
      | cons _ _ => rfl
    refine k_nx (E1 := UE C hs cs ls S.length m (some (intsT R)) (some (.str (sg h))) (some (intsT (nextP ls h R)))) (S1 := S ++ [dctF G, lstK G]) (by simp only [fnM, runB, mSeq, mAsg, mDPut, mDGet, mPar, mPar3, mgName, mgTup, mgCons, mgNil, mVar, mC, mOp, mTest, mAnd, mOr, mNot, mNotV, mIf, mIfS, mRet, mRetN, mDrop, mNext, mCall, mCons, mNil, mTup, mLst, mLstM, mBlt, mBM, mBM0, mFrz, mFld, mSetF, mYes, mSl, mNoPart, mPart, mSeqI, mRng1, mRng2, mZip, mEnumerate, mMe, mMeK, mNew, mNever, mAndV, mOrV, mDGet2, mDNew, mDisp, mPairs, mRevS, mEnumS, mListVals, mTupR, mKwC, mInD, mNeg, mRev, mRevM, List.map_cons, List.map_nil, List.length_cons, List.length_nil, List.replicate_succ, List.replicate_zero, List.cons_append, List.nil_append, List.append_nil, List.getD_cons_zero, List.getD_cons_succ, List.set_cons_zero, List.set_cons_succ, List.getElem?_cons_zero, List.getElem?_cons_succ, Nat.zero_add, Nat.reduceAdd, Nat.reduceSub, Option.bind_some, Option.map_some, Option.bind_none, Option.map_none, ↓reduceIte, Bool.false_eq_true, szK, sz0, sz1, sz2, sz3, sz4, if_pos rfl, eq]) ?_
    by_cases hq : nextP ls h R ∈ G.map (·.1)
    · have an : ((G.map fun e => keysZ e.1).any fun k => decide (k = keysZ (nextP ls h R))) = true := by rw [any_F, decide_eq_true hq]
      simp only [fnM, runB, mSeq, mAsg, mDPut, mDGet, mPar, mPar3, mgName, mgTup, mgCons, mgNil, mVar, mC, mOp, mTest, mAnd, mOr, mNot, mNotV, mIf, mIfS, mRet, mRetN, mDrop, mNext, mCall, mCons, mNil, mTup, mLst, mLstM, mBlt, mBM, mBM0, mFrz, mFld, mSetF, mYes, mSl, mNoPart, mPart, mSeqI, mRng1, mRng2, mZip, mEnumerate, mMe, mMeK, mNew, mNever, mAndV, mOrV, mDGet2, mDNew, mDisp, mPairs, mRevS, mEnumS, mListVals, mTupR, mKwC, mInD, mNeg, mRev, mRevM, List.map_cons, List.map_nil, List.length_cons, List.length_nil, List.replicate_succ, List.replicate_zero, List.cons_append, List.nil_append, List.append_nil, List.getD_cons_zero, List.getD_cons_succ, List.set_cons_zero, List.set_cons_succ, List.getElem?_cons_zero, List.getElem?_cons_succ, Nat.zero_add, Nat.reduceAdd, Nat.reduceSub, Option.bind_some, Option.map_some, Option.bind_none, Option.map_none, ↓reduceIte, Bool.false_eq_true, szK, sz0, sz1, sz2, sz3, sz4, if_pos rfl, mTGet, mTPut, mTIn, mTDisp, mAug, vt, toTK_ints, an, Bool.not_true]
      refine Ok.some (.inr ⟨hb, rfl, rfl, ?_⟩)
      unfold addF
      rw [if_pos hq]
    · have an : ((G.map fun e => keysZ e.1).any fun k => decide (k = keysZ (nextP ls h R))) = false := by rw [any_F, decide_eq_false hq]
      have ge0 : (S ++ [dctF G, lstK G])[S.length]? = some (.dct (G.map fun e => keysZ e.1) (G.map fun e => .str (txt e.2))) := two_get0 _ _ _
      have lk2 : (G.map fun e => keysZ e.1).length < sizeLine := by rw [List.length_map, sizeLine_eq]; omega
      have tp := tput_F hq (u ++ [h])
      have e1 : ((S ++ [dctF G, lstK G]).set S.length (.dct ((G ++ [(nextP ls h R, u ++ [h])]).map fun e => keysZ e.1) ((G ++ [(nextP ls h R, u ++ [h])]).map fun e => .str (txt e.2)))) = S ++ [dctF (G ++ [(nextP ls h R, u ++ [h])]), lstK G] := two_set0 _ _ _ _
      have ty : isTy (S ++ [dctF (G ++ [(nextP ls h R, u ++ [h])]), lstK G]) "list" (.loc (S.length + 1)) = true := by
        show (("list" == "list" && (viewL _ (.loc (S.length + 1))).isSome) || _) = true
        simp only [viewL, viewW, two_get1]
        rfl
      have gp : gAppend (.loc (S.length + 1)) [intsT (nextP ls h R)] (S ++ [dctF (G ++ [(nextP ls h R, u ++ [h])]), lstK G]) = some (.non, S ++ [dctF (G ++ [(nextP ls h R, u ++ [h])]), lstK (G ++ [(nextP ls h R, u ++ [h])])]) := by
        unfold gAppend
        simp only [two_get1]
        unfold lstK
        simp only
        rw [if_pos (by rw [List.length_map, sizeLine_eq]; omega), two_set1, List.map_append]
        rfl
      simp only [fnM, runB, mSeq, mAsg, mDPut, mDGet, mPar, mPar3, mgName, mgTup, mgCons, mgNil, mVar, mC, mOp, mTest, mAnd, mOr, mNot, mNotV, mIf, mIfS, mRet, mRetN, mDrop, mNext, mCall, mCons, mNil, mTup, mLst, mLstM, mBlt, mBM, mBM0, mFrz, mFld, mSetF, mYes, mSl, mNoPart, mPart, mSeqI, mRng1, mRng2, mZip, mEnumerate, mMe, mMeK, mNew, mNever, mAndV, mOrV, mDGet2, mDNew, mDisp, mPairs, mRevS, mEnumS, mListVals, mTupR, mKwC, mInD, mNeg, mRev, mRevM, List.map_cons, List.map_nil, List.length_cons, List.length_nil, List.replicate_succ, List.replicate_zero, List.cons_append, List.nil_append, List.append_nil, List.getD_cons_zero, List.getD_cons_succ, List.set_cons_zero, List.set_cons_succ, List.getElem?_cons_zero, List.getElem?_cons_succ, Nat.zero_add, Nat.reduceAdd, Nat.reduceSub, Option.bind_some, Option.map_some, Option.bind_none, Option.map_none, ↓reduceIte, Bool.false_eq_true, szK, sz0, sz1, sz2, sz3, sz4, if_pos rfl, mTGet, mTPut, mTIn, mTDisp, mAug, vt, toTK_ints, an, Bool.not_false, tl, ga, ge0, lk2, tp, e1, ty, gp]
      refine Ok.some (.inr ⟨hb, rfl, rfl, ?_⟩)
      unfold addF
      rw [if_neg hq]
abbrev muteFor (C : Addr) : MS := mFor (mSeqI (mFld C "heard" (mVar 0))) (mgName 6) muteStep
/-- one set of states -/
theorem mute_for (w : WOk hs cs ls) {S : Sto} (hS : LowS S) {F : List Ent} {n : Nat} {R : List Int} {u : List Nat} (I : FI ls hs.cps.toList F n) (hat : F[n]? = some (R, u)) {m : Int} {x6 x7 : Option D} :
    Ok (muteFor C (UE C hs cs ls S.length m (some (intsT R)) x6 x7) (S ++ [dctF F, lstK F])) fun q =>
      (∃ t X, Spec ls hs.cps.toList (some t) ∧ t.length ≤ 33 ∧ q.1 = .rt (.str (txt t)) ∧ q.2.2 = S ++ X) ∨ (∃ F' x6 x7, FI ls hs.cps.toList F' (n + 1) ∧ n < F'.length ∧ q.1 = .nx ∧ q.2.1 = UE C hs cs ls S.length m (some (intsT R)) x6 x7 ∧ q.2.2 = S ++ [dctF F', lstK F']) := by
  have hi : mSeqI (mFld C "heard" (mVar 0)) (UE C hs cs ls S.length m (some (intsT R)) x6 x7) (S ++ [dctF F, lstK F]) = some (hs.cps.toList.map fun c => D.str (sg c), S ++ [dctF F, lstK F]) := by
    simp only [fnM, runB, mSeq, mAsg, mDPut, mDGet, mPar, mPar3, mgName, mgTup, mgCons, mgNil, mVar, mC, mOp, mTest, mAnd, mOr, mNot, mNotV, mIf, mIfS, mRet, mRetN, mDrop, mNext, mCall, mCons, mNil, mTup, mLst, mLstM, mBlt, mBM, mBM0, mFrz, mFld, mSetF, mYes, mSl, mNoPart, mPart, mSeqI, mRng1, mRng2, mZip, mEnumerate, mMe, mMeK, mNew, mNever, mAndV, mOrV, mDGet2, mDNew, mDisp, mPairs, mRevS, mEnumS, mListVals, mTupR, mKwC, mInD, mNeg, mRev, mRevM, List.map_cons, List.map_nil, List.length_cons, List.length_nil, List.replicate_succ, List.replicate_zero, List.cons_append, List.nil_append, List.append_nil, List.getD_cons_zero, List.getD_cons_succ, List.set_cons_zero, List.set_cons_succ, List.getElem?_cons_zero, List.getElem?_cons_succ, Nat.zero_add, Nat.reduceAdd, Nat.reduceSub, Option.bind_some, Option.map_some, Option.bind_none, Option.map_none, ↓reduceIte, Bool.false_eq_true, szK, sz0, sz1, sz2, sz3, sz4, if_pos rfl, viewI_rules, fl_heard, viewF]
    rfl
  have hlt : n < F.length := (List.getElem?_eq_some_iff.mp hat).1
  have ha := w.h.2.1
  refine k_for hi (fun i E S' => ∃ G T x6 x7, GI ls hs.cps.toList F n R u G T (hs.cps.toList.take i) ∧ (∀ a ∈ hs.cps.toList.take i, nextP ls a R ≠ []) ∧ E = UE C hs cs ls S.length m (some (intsT R)) x6 x7 ∧ S' = S ++ [dctF G, lstK G]) ⟨F, [], x6, x7, by rw [List.take_zero]; exact gi_start I, by simp, rfl, rfl⟩ ?_ ?_
  · rintro i d E S' hd ⟨G, T, x6, x7, g, hok, rfl, rfl⟩
    rw [List.getElem?_map] at hd
    obtain ⟨h, hc, rfl⟩ := map_some' hd
    have hh := List.mem_of_getElem? hc
    have hil : i < hs.cps.toList.length := (List.getElem?_eq_some_iff.mp hc).1
    have hbelow : ∀ a ∈ hs.cps.toList.take i, a < h := fun a hA => by
      obtain ⟨j, hj, e⟩ := List.getElem_of_mem hA
      rw [List.length_take] at hj
      rw [List.getElem_take] at e
      obtain ⟨hi1, hi2⟩ := List.getElem?_eq_some_iff.mp hc
      rw [← e, ← hi2]
      exact List.pairwise_iff_getElem.mp ha j i (by omega) hi1 (by omega)
    have tk : hs.cps.toList.take (i + 1) = hs.cps.toList.take i ++ [h] := by rw [List.take_add_one, hc]; rfl
    refine ⟨(UE C hs cs ls S.length m (some (intsT R)) (some (.str (sg h))) x7, S ++ [dctF G, lstK G]), rfl, ?_⟩
    dsimp only
    refine (mute_step (C := C) w hS I hat g hh).mono ?_
    rintro ⟨o, E, S'⟩ (⟨hb, ho, X, hX⟩ | ⟨hb, ho, hE, hS'⟩)
    · dsimp only at ho hX
      subst ho hX
      refine .inl ⟨u ++ [h], X, spec_some I hat hh hb fun a hA hlt => ?_, ?_, rfl, rfl⟩
      · refine hok a ?_
        obtain ⟨j, hj, e⟩ := List.getElem_of_mem hA
        obtain ⟨hi1, hi2⟩ := List.getElem?_eq_some_iff.mp hc
        have hji : j < i := Decidable.byContradiction fun hn => by
          rcases Nat.eq_or_lt_of_le (Nat.le_of_not_lt hn) with q | q
          · subst q; rw [hi2] at e; omega
          · have := List.pairwise_iff_getElem.mp ha i j hi1 hj q
            rw [hi2, e] at this
            omega
        rw [List.mem_take_iff_getElem]
        exact ⟨j, by omega, e⟩
      · have := fi_txt w I (List.mem_of_getElem? hat)
        simp only [List.length_append, List.length_singleton] at *
        omega
    · dsimp only at ho hE hS'
      subst ho hE hS'
      obtain ⟨T', g'⟩ := gi_step I hat g hh hbelow hb
      refine ⟨_, T', _, _, by rw [tk]; exact g', fun a hA => ?_, rfl, rfl⟩
      rw [tk] at hA
      rcases List.mem_append.mp hA with z | z
      · exact hok a z
      · rw [List.mem_singleton] at z; rw [z]; exact hb
  · rintro E S' ⟨G, T, x6, x7, g, hok, rfl, rfl⟩
    rw [List.length_map, List.take_length] at g
    refine .inr ⟨G, x6, x7, gi_end I hat g, ?_, rfl, rfl, rfl⟩
    rw [g.eq, List.length_append]
    omega
theorem mute_ok (w : WOk hs cs ls) {S : Sto} (hS : LowS S) : Ok (F_mute C [rules C hs cs ls] S) fun p => ∃ r, p = (muteD r, S) ∧ Spec ls hs.cps.toList r ∧ ∀ t, r = some t → t.length ≤ 33 := by
  unfold F_mute M_mute
  refine k_fn ?_
  have r := relations_ok (C := C) w hS
  have sR : ∀ {Y : Sto} {d : D}, d.low S.length = true → trim S.length d (S ++ Y) = (d, S) := fun {Y d} hd => trim_low rfl hd (hS _ (Nat.le_refl _))
  have tk0 : toTK (.tup [.int 0]) = some (keysZ [0]) := rfl
  have lg : ∀ o : O, (S ++ [o])[S.length]? = some o := fun o => last_get S o
  refine k_nx (E1 := [some (rules C hs cs ls), some (relsD hs ls), none, none, none, none, none, none]) (S1 := S) (by simp only [fnM, runB, mSeq, mAsg, mDPut, mDGet, mPar, mPar3, mgName, mgTup, mgCons, mgNil, mVar, mC, mOp, mTest, mAnd, mOr, mNot, mNotV, mIf, mIfS, mRet, mRetN, mDrop, mNext, mCall, mCons, mNil, mTup, mLst, mLstM, mBlt, mBM, mBM0, mFrz, mFld, mSetF, mYes, mSl, mNoPart, mPart, mSeqI, mRng1, mRng2, mZip, mEnumerate, mMe, mMeK, mNew, mNever, mAndV, mOrV, mDGet2, mDNew, mDisp, mPairs, mRevS, mEnumS, mListVals, mTupR, mKwC, mInD, mNeg, mRev, mRevM, List.map_cons, List.map_nil, List.length_cons, List.length_nil, List.replicate_succ, List.replicate_zero, List.cons_append, List.nil_append, List.append_nil, List.getD_cons_zero, List.getD_cons_succ, List.set_cons_zero, List.set_cons_succ, List.getElem?_cons_zero, List.getElem?_cons_succ, Nat.zero_add, Nat.reduceAdd, Nat.reduceSub, Option.bind_some, Option.map_some, Option.bind_none, Option.map_none, ↓reduceIte, Bool.false_eq_true, szK, sz0, sz1, sz2, sz3, sz4, if_pos rfl, r]) ?_
  refine k_nx (E1 := [some (rules C hs cs ls), some (relsD hs ls), some (.loc S.length), none, none, none, none, none]) (S1 := S ++ [.dct [keysZ [0]] [.str ""]]) (by simp only [fnM, runB, mSeq, mAsg, mDPut, mDGet, mPar, mPar3, mgName, mgTup, mgCons, mgNil, mVar, mC, mOp, mTest, mAnd, mOr, mNot, mNotV, mIf, mIfS, mRet, mRetN, mDrop, mNext, mCall, mCons, mNil, mTup, mLst, mLstM, mBlt, mBM, mBM0, mFrz, mFld, mSetF, mYes, mSl, mNoPart, mPart, mSeqI, mRng1, mRng2, mZip, mEnumerate, mMe, mMeK, mNew, mNever, mAndV, mOrV, mDGet2, mDNew, mDisp, mPairs, mRevS, mEnumS, mListVals, mTupR, mKwC, mInD, mNeg, mRev, mRevM, List.map_cons, List.map_nil, List.length_cons, List.length_nil, List.replicate_succ, List.replicate_zero, List.cons_append, List.nil_append, List.append_nil, List.getD_cons_zero, List.getD_cons_succ, List.set_cons_zero, List.set_cons_succ, List.getElem?_cons_zero, List.getElem?_cons_succ, Nat.zero_add, Nat.reduceAdd, Nat.reduceSub, Option.bind_some, Option.map_some, Option.bind_none, Option.map_none, ↓reduceIte, Bool.false_eq_true, szK, sz0, sz1, sz2, sz3, sz4, if_pos rfl, mTGet, mTPut, mTIn, mTDisp, mAug, lg, tk0, last_set]) ?_
  refine k_nx (E1 := [some (rules C hs cs ls), some (relsD hs ls), some (.loc S.length), some (.loc (S.length + 1)), none, none, none, none]) (S1 := S ++ [dctF [([0], [])], lstK [([0], [])]]) (by
    simp only [fnM, runB, mSeq, mAsg, mDPut, mDGet, mPar, mPar3, mgName, mgTup, mgCons, mgNil, mVar, mC, mOp, mTest, mAnd, mOr, mNot, mNotV, mIf, mIfS, mRet, mRetN, mDrop, mNext, mCall, mCons, mNil, mTup, mLst, mLstM, mBlt, mBM, mBM0, mFrz, mFld, mSetF, mYes, mSl, mNoPart, mPart, mSeqI, mRng1, mRng2, mZip, mEnumerate, mMe, mMeK, mNew, mNever, mAndV, mOrV, mDGet2, mDNew, mDisp, mPairs, mRevS, mEnumS, mListVals, mTupR, mKwC, mInD, mNeg, mRev, mRevM, List.map_cons, List.map_nil, List.length_cons, List.length_nil, List.replicate_succ, List.replicate_zero, List.cons_append, List.nil_append, List.append_nil, List.getD_cons_zero, List.getD_cons_succ, List.set_cons_zero, List.set_cons_succ, List.getElem?_cons_zero, List.getElem?_cons_succ, Nat.zero_add, Nat.reduceAdd, Nat.reduceSub, Option.bind_some, Option.map_some, Option.bind_none, Option.map_none, ↓reduceIte, Bool.false_eq_true, szK, sz0, sz1, sz2, sz3, sz4, if_pos rfl, mTGet, mTPut, mTIn, mTDisp, mAug, List.length_append, List.append_assoc]
    rfl) ?_
  refine k_nx (E1 := UE C hs cs ls S.length 0 none none none) (S1 := S ++ [dctF [([0], [])], lstK [([0], [])]]) (by simp only [fnM, runB, mSeq, mAsg, mDPut, mDGet, mPar, mPar3, mgName, mgTup, mgCons, mgNil, mVar, mC, mOp, mTest, mAnd, mOr, mNot, mNotV, mIf, mIfS, mRet, mRetN, mDrop, mNext, mCall, mCons, mNil, mTup, mLst, mLstM, mBlt, mBM, mBM0, mFrz, mFld, mSetF, mYes, mSl, mNoPart, mPart, mSeqI, mRng1, mRng2, mZip, mEnumerate, mMe, mMeK, mNew, mNever, mAndV, mOrV, mDGet2, mDNew, mDisp, mPairs, mRevS, mEnumS, mListVals, mTupR, mKwC, mInD, mNeg, mRev, mRevM, List.map_cons, List.map_nil, List.length_cons, List.length_nil, List.replicate_succ, List.replicate_zero, List.cons_append, List.nil_append, List.append_nil, List.getD_cons_zero, List.getD_cons_succ, List.set_cons_zero, List.set_cons_succ, List.getElem?_cons_zero, List.getElem?_cons_succ, Nat.zero_add, Nat.reduceAdd, Nat.reduceSub, Option.bind_some, Option.map_some, Option.bind_none, Option.map_none, ↓reduceIte, Bool.false_eq_true, szK, sz0, sz1, sz2, sz3, sz4, if_pos rfl]) ?_
  refine k_seq (k_while 33 (fun n E S' => ∃ F x5 x6 x7, FI ls hs.cps.toList F n ∧ n ≤ F.length ∧ E = UE C hs cs ls S.length (n : Int) x5 x6 x7 ∧ S' = S ++ [dctF F, lstK F]) ?_ 100000 0 _ _ (by decide) ⟨_, none, none, none, fi_start w, Nat.zero_le _, rfl, rfl⟩)
  rintro n E S' ⟨F, x5, x6, x7, I, hn, rfl, rfl⟩
  have fl := fi_len w I
  have ll : gLenS [.loc (S.length + 1)] (S ++ [dctF F, lstK F]) = some (.int F.length, S ++ [dctF F, lstK F]) := by
    show (viewS _ _).map _ = _
    simp only [viewS, viewL, viewW, two_get1]
    unfold lstK
    simp only [Option.map_some, List.length_map]
  by_cases hlt : n < F.length
  · have c1 : decide (((n : Nat) : Int) < ((F.length : Nat) : Int)) = true := decide_eq_true (by omega)
    refine .inl ⟨S ++ [dctF F, lstK F], by simp only [fnM, runB, mSeq, mAsg, mDPut, mDGet, mPar, mPar3, mgName, mgTup, mgCons, mgNil, mVar, mC, mOp, mTest, mAnd, mOr, mNot, mNotV, mIf, mIfS, mRet, mRetN, mDrop, mNext, mCall, mCons, mNil, mTup, mLst, mLstM, mBlt, mBM, mBM0, mFrz, mFld, mSetF, mYes, mSl, mNoPart, mPart, mSeqI, mRng1, mRng2, mZip, mEnumerate, mMe, mMeK, mNew, mNever, mAndV, mOrV, mDGet2, mDNew, mDisp, mPairs, mRevS, mEnumS, mListVals, mTupR, mKwC, mInD, mNeg, mRev, mRevM, List.map_cons, List.map_nil, List.length_cons, List.length_nil, List.replicate_succ, List.replicate_zero, List.cons_append, List.nil_append, List.append_nil, List.getD_cons_zero, List.getD_cons_succ, List.set_cons_zero, List.set_cons_succ, List.getElem?_cons_zero, List.getElem?_cons_succ, Nat.zero_add, Nat.reduceAdd, Nat.reduceSub, Option.bind_some, Option.map_some, Option.bind_none, Option.map_none, ↓reduceIte, Bool.false_eq_true, szK, sz0, sz1, sz2, sz3, sz4, if_pos rfl, ll, g_lt, c1], by omega, ?_⟩
    obtain ⟨⟨R, u⟩, hat⟩ : ∃ e, F[n]? = some e := ⟨_, List.getElem?_eq_getElem hlt⟩
    obtain ⟨d, e1, e2⟩ := atI_nat (xs := F.map fun e => intsT e.1) (r := ((n : Nat) : Int)) (by omega) (by rw [List.length_map]; omega)
    rw [Int.toNat_natCast, List.getElem?_map, hat] at e1
    cases e1
    have gi : gIx (.loc (S.length + 1)) (.int ((n : Nat) : Int)) (S ++ [dctF F, lstK F]) = some (intsT R, S ++ [dctF F, lstK F]) := by
      unfold gIx
      simp only [viewS, viewL, viewW, two_get1]
      unfold lstK
      simp only [Option.bind_some, e2, Option.map_some]
    refine k_nx (E1 := UE C hs cs ls S.length (n : Int) (some (intsT R)) x6 x7) (S1 := S ++ [dctF F, lstK F]) (by simp only [fnM, runB, mSeq, mAsg, mDPut, mDGet, mPar, mPar3, mgName, mgTup, mgCons, mgNil, mVar, mC, mOp, mTest, mAnd, mOr, mNot, mNotV, mIf, mIfS, mRet, mRetN, mDrop, mNext, mCall, mCons, mNil, mTup, mLst, mLstM, mBlt, mBM, mBM0, mFrz, mFld, mSetF, mYes, mSl, mNoPart, mPart, mSeqI, mRng1, mRng2, mZip, mEnumerate, mMe, mMeK, mNew, mNever, mAndV, mOrV, mDGet2, mDNew, mDisp, mPairs, mRevS, mEnumS, mListVals, mTupR, mKwC, mInD, mNeg, mRev, mRevM, List.map_cons, List.map_nil, List.length_cons, List.length_nil, List.replicate_succ, List.replicate_zero, List.cons_append, List.nil_append, List.append_nil, List.getD_cons_zero, List.getD_cons_succ, List.set_cons_zero, List.set_cons_succ, List.getElem?_cons_zero, List.getElem?_cons_succ, Nat.zero_add, Nat.reduceAdd, Nat.reduceSub, Option.bind_some, Option.map_some, Option.bind_none, Option.map_none, ↓reduceIte, Bool.false_eq_true, szK, sz0, sz1, sz2, sz3, sz4, if_pos rfl, gi]) ?_
    refine k_nx (E1 := UE C hs cs ls S.length ((n : Int) + 1) (some (intsT R)) x6 x7) (S1 := S ++ [dctF F, lstK F]) (by simp only [fnM, runB, mSeq, mAsg, mDPut, mDGet, mPar, mPar3, mgName, mgTup, mgCons, mgNil, mVar, mC, mOp, mTest, mAnd, mOr, mNot, mNotV, mIf, mIfS, mRet, mRetN, mDrop, mNext, mCall, mCons, mNil, mTup, mLst, mLstM, mBlt, mBM, mBM0, mFrz, mFld, mSetF, mYes, mSl, mNoPart, mPart, mSeqI, mRng1, mRng2, mZip, mEnumerate, mMe, mMeK, mNew, mNever, mAndV, mOrV, mDGet2, mDNew, mDisp, mPairs, mRevS, mEnumS, mListVals, mTupR, mKwC, mInD, mNeg, mRev, mRevM, List.map_cons, List.map_nil, List.length_cons, List.length_nil, List.replicate_succ, List.replicate_zero, List.cons_append, List.nil_append, List.append_nil, List.getD_cons_zero, List.getD_cons_succ, List.set_cons_zero, List.set_cons_succ, List.getElem?_cons_zero, List.getElem?_cons_succ, Nat.zero_add, Nat.reduceAdd, Nat.reduceSub, Option.bind_some, Option.map_some, Option.bind_none, Option.map_none, ↓reduceIte, Bool.false_eq_true, szK, sz0, sz1, sz2, sz3, sz4, if_pos rfl, mTGet, mTPut, mTIn, mTDisp, mAug]) ?_
    refine (mute_for (C := C) w hS I hat).mono ?_
    rintro ⟨o, E, S'⟩ (⟨t, X, hsp, htl, ho, hX⟩ | ⟨F', y6, y7, I', hn', ho, hE, hS'⟩)
    · dsimp only at ho hX
      subst ho hX
      dsimp only
      rw [sR rfl]
      exact ⟨some t, rfl, hsp, fun t' e => by cases e; exact htl⟩
    · dsimp only at ho hE hS'
      subst ho hE hS'
      exact ⟨F', _, y6, y7, I', hn', by rw [Int.natCast_succ], rfl⟩
  · have c1 : decide (((n : Nat) : Int) < ((F.length : Nat) : Int)) = false := decide_eq_false (by omega)
    refine .inr ⟨S ++ [dctF F, lstK F], by simp only [fnM, runB, mSeq, mAsg, mDPut, mDGet, mPar, mPar3, mgName, mgTup, mgCons, mgNil, mVar, mC, mOp, mTest, mAnd, mOr, mNot, mNotV, mIf, mIfS, mRet, mRetN, mDrop, mNext, mCall, mCons, mNil, mTup, mLst, mLstM, mBlt, mBM, mBM0, mFrz, mFld, mSetF, mYes, mSl, mNoPart, mPart, mSeqI, mRng1, mRng2, mZip, mEnumerate, mMe, mMeK, mNew, mNever, mAndV, mOrV, mDGet2, mDNew, mDisp, mPairs, mRevS, mEnumS, mListVals, mTupR, mKwC, mInD, mNeg, mRev, mRevM, List.map_cons, List.map_nil, List.length_cons, List.length_nil, List.replicate_succ, List.replicate_zero, List.cons_append, List.nil_append, List.append_nil, List.getD_cons_zero, List.getD_cons_succ, List.set_cons_zero, List.set_cons_succ, List.getElem?_cons_zero, List.getElem?_cons_succ, Nat.zero_add, Nat.reduceAdd, Nat.reduceSub, Option.bind_some, Option.map_some, Option.bind_none, Option.map_none, ↓reduceIte, Bool.false_eq_true, szK, sz0, sz1, sz2, sz3, sz4, if_pos rfl, ll, g_lt, c1], ?_⟩
    dsimp only
    refine Ok.some ?_
    dsimp only
    rw [sR rfl]
    have e : n = F.length := by omega
    subst e
    exact ⟨none, rfl, spec_none I, fun t' e => nomatch e⟩
end
end Law
namespace Law
open PySem L2 PyProof.Rows DL
theorem compL_pureL {α : Type} {g : MG} {t : MT} {e : ME} {E0 : DL.Env} {S : Sto} (toD : α → D) (b : α → Bool) (v : α → D) (E1 : α → DL.Env) (hv : ∀ x n, (v x).low n = true) : ∀ (xs : List α) (acc : List D), (∀ n, lowAll n acc = true) →
    (∀ x ∈ xs, ∀ acc : List D, (∀ n, lowAll n acc = true) → g (toD x) E0 (S ++ [O.lst acc]) = some (E1 x, S ++ [O.lst acc]) ∧ t (E1 x) (S ++ [O.lst acc]) = some (b x, S ++ [O.lst acc]) ∧ (b x = true → e (E1 x) (S ++ [O.lst acc]) = some (v x, S ++ [O.lst acc]))) →
    acc.length + (xs.filter b).length ≤ sizeLine → compL g t e E0 S.length (xs.map toD) (S ++ [O.lst acc]) = some (S ++ [O.lst (acc ++ (xs.filter b).map v)])
  | [], acc, _, _, _ => by simp [compL]
  | x :: xs, acc, ha, h, hz => by
    obtain ⟨h1, h2, h3⟩ := h x List.mem_cons_self acc ha
    have ih := compL_pureL (g := g) (t := t) (e := e) (E0 := E0) (S := S) toD b v E1 hv xs
    rw [List.map_cons, compL, h1, Option.bind_some, h2, Option.bind_some]
    cases hb : b x with
    | true =>
      have e3 := h3 hb
      rw [List.filter_cons, if_pos hb] at hz ⊢
      rw [List.length_cons] at hz
      simp only [e3, Option.bind_some, if_true]
      have ge : (S ++ [O.lst acc])[S.length]? = some (.lst acc) := by simp
      have se : (S ++ [O.lst acc]).set S.length (.lst (acc ++ [v x])) = S ++ [O.lst (acc ++ [v x])] := by simp
      simp only [ge]
      rw [if_pos (by omega), se, ih (acc ++ [v x]) (fun n => by rw [low_app, ha n, lowAll, hv x n]; rfl) (fun y hy => h y (List.mem_cons_of_mem _ hy)) (by rw [List.length_append, List.length_singleton]; omega)]
      simp
    | false =>
      rw [List.filter_cons, hb] at hz ⊢
      simp only [Bool.false_eq_true, if_false] at hz ⊢
      exact ih acc ha (fun y hy => h y (List.mem_cons_of_mem _ hy)) hz
theorem comp_pureL {α : Type} {mi : MA} {g : MG} {t : MT} {e : ME} {vs : List Nat} {E : DL.Env} {S : Sto} (xs : List α) (toD : α → D) (b : α → Bool) (v : α → D) (E1 : α → DL.Env) (hi : mi E S = some (xs.map toD, S)) (hv : ∀ x n, (v x).low n = true)
    (h : ∀ x ∈ xs, ∀ acc : List D, (∀ n, lowAll n acc = true) → g (toD x) (wipeE E vs) (S ++ [O.lst acc]) = some (E1 x, S ++ [O.lst acc]) ∧ t (E1 x) (S ++ [O.lst acc]) = some (b x, S ++ [O.lst acc]) ∧ (b x = true → e (E1 x) (S ++ [O.lst acc]) = some (v x, S ++ [O.lst acc])))
    (hz : (xs.filter b).length ≤ sizeLine) (hS : LowS S) : mComp mi g t e vs E S = some (.lst ((xs.filter b).map v), S) := by
  unfold mComp
  rw [hi, Option.bind_some]
  have := compL_pureL (E0 := wipeE E vs) toD b v E1 hv xs [] (fun n => rfl) h (by simpa using hz)
  dsimp only
  rw [this, Option.map_some, List.nil_append, frz_last, trim_last (by simp only [D.low]; exact low_all _ _ (fun x => hv x _) _) hS]
/-! ### what is shown -/
theorem list_len (ts : List Str) : (listText ts).length ≤ 2 + piled ts := by
  cases ts with
  | nil => decide +kernel
  | cons t r =>
    have e : (listText (t :: r)).length = (textFrom 1 ("[" ++ "" ++ t : Str) r).length + 1 := by
      show (textFrom 1 (("[" : Str) ++ (if 0 > 0 then ", " else "" : String) ++ t) r ++ "]").length = _
      rw [strLen_append]
      rfl
    rw [e, textFrom_length_pos _ _ _ (by decide), piled_cons, strLen_append, strLen_append]
    have : ("[" : Str).length = 1 := rfl
    have : ("" : Str).length = 0 := rfl
    omega
theorem tuple_len (ts : List Str) : (tupleText ts).length ≤ 3 + piled ts := by
  unfold tupleText
  rw [strLen_append, strLen_append]
  have a : ("(" : Str).length = 1 := rfl
  have b : (((if ts.length == 1 then ",)" else ")" : String)) : Str).length ≤ 2 := by
    split <;> decide +kernel
  by_cases h : ts = []
  · subst h
    decide +kernel
  · have := join_length_add ts h
    omega
theorem int_len : ∀ n, n < 64 → (PyData.shown (.int (n : Nat))).length ≤ 10 ∧ PyData.showable (.int (n : Nat)) = true := by decide +kernel
theorem int_ok {i : Int} (h : 0 ≤ i ∧ i < 64) : (PyData.shown (.int i)).length ≤ 10 ∧ PyData.showable (.int i) = true := by
  have := int_len i.toNat (by omega)
  rwa [show ((i.toNat : Nat) : Int) = i by omega] at this
theorem str_ok {t : List Nat} (hl : t.length ≤ 10) (hc : ∀ c ∈ t, c ≤ 122) : (PyData.shown (.str (txt t))).length ≤ 102 := by
  have := PySem.StrLaws.reprText_len (txt t) (fun c hm => Nat.lt_of_le_of_lt (hc c hm) (by decide +kernel))
  rw [txt_len] at this
  show (reprText (txt t)).length ≤ 102
  omega
/-- small things -/
def Tiny (p : PyData) : Prop := p.shown.length ≤ 102 ∧ p.showable = true ∧ p.hasDict = false ∧ p.depth = 0
theorem tiny_int {i : Int} (h : 0 ≤ i ∧ i < 64) : Tiny (.int i) := ⟨by have := (int_ok h).1; omega, (int_ok h).2, rfl, rfl⟩
theorem tiny_str {t : List Nat} (hl : t.length ≤ 10) (hc : ∀ c ∈ t, c ≤ 122) : Tiny (.str (txt t)) := ⟨str_ok hl hc, rfl, rfl, rfl⟩
theorem tiny_all : ∀ {ps : List PyData}, (∀ p ∈ ps, Tiny p) → piled (PyData.shownAll ps) ≤ 104 * ps.length ∧ PyData.showableAll ps = true ∧ PyData.hasDictAll ps = false ∧ PyData.depthAll ps = 0
  | [], _ => ⟨Nat.le_refl _, rfl, rfl, rfl⟩
  | p :: ps, h => by
    obtain ⟨a1, a2, a3, a4⟩ := h p List.mem_cons_self
    obtain ⟨b1, b2, b3, b4⟩ := tiny_all fun q hq => h q (List.mem_cons_of_mem _ hq)
    refine ⟨?_, by rw [PyData.showableAll, a2, b2]; rfl, by rw [PyData.hasDictAll, a3, b3]; rfl, by rw [PyData.depthAll, a4, b4]; rfl⟩
    rw [PyData.shownAll, piled_cons, List.length_cons]
    omega
def Med (p : PyData) (n : Nat) : Prop := p.shown.length ≤ n ∧ p.showable = true ∧ p.hasDict = false ∧ p.depth ≤ 1
theorem Tiny.med {p : PyData} (h : Tiny p) : Med p 102 := ⟨h.1, h.2.1, h.2.2.1, by rw [h.2.2.2]; exact Nat.zero_le _⟩
theorem med_tup {ps : List PyData} (h : ∀ p ∈ ps, Tiny p) : Med (.tuple ps) (3 + 104 * ps.length) := by
  obtain ⟨b1, b2, b3, b4⟩ := tiny_all h
  refine ⟨?_, by rw [PyData.showable]; exact b2, by rw [PyData.hasDict]; exact b3, by rw [PyData.depth, b4]; exact Nat.le_refl _⟩
  rw [PyData.shown]
  have := tuple_len (PyData.shownAll ps)
  omega
theorem show_two {p : PyData} (h : Tiny p) : showOk (.list [p, p]) = true := by
  obtain ⟨b1, b2, b3, b4⟩ := tiny_all (ps := [p, p]) fun q hq => by
    simp only [List.mem_cons, List.not_mem_nil, or_false, or_self] at hq
    exact hq ▸ h
  unfold showOk
  have e : (PyData.list [p, p]).shown.length ≤ sizeLine := by
    rw [PyData.shown]
    have := list_len (PyData.shownAll [p, p])
    rw [sizeLine_eq]
    simp only [List.length_cons, List.length_nil] at b1
    omega
  rw [PyData.showable, b2, PyData.hasDict, b3, PyData.depth, b4, decide_eq_true e]
  rfl
theorem show_all {a b c : PyData} {n m k : Nat} (ha : Med a n) (hb : Med b m) (hc : Med c k) (hz : n + m + k ≤ 100000) : showOk (.list [.list [a, b, c], .list [a, b, c]]) = true := by
  obtain ⟨a1, a2, a3, a4⟩ := ha
  obtain ⟨b1, b2, b3, b4⟩ := hb
  obtain ⟨c1, c2, c3, c4⟩ := hc
  have s1 : (PyData.list [a, b, c]).shown.length ≤ 100100 := by
    rw [PyData.shown]
    have := list_len (PyData.shownAll [a, b, c])
    simp only [PyData.shownAll, piled_cons, piled_nil] at this ⊢
    omega
  have s2 : (PyData.list [.list [a, b, c], .list [a, b, c]]).shown.length ≤ sizeLine := by
    rw [PyData.shown]
    have := list_len (PyData.shownAll [.list [a, b, c], .list [a, b, c]])
    rw [sizeLine_eq]
    simp only [PyData.shownAll, piled_cons, piled_nil] at this ⊢
    omega
  have w1 : (PyData.list [.list [a, b, c], .list [a, b, c]]).showable = true := by simp [PyData.showable, PyData.showableAll, a2, b2, c2]
  have w2 : (PyData.list [.list [a, b, c], .list [a, b, c]]).hasDict = false := by simp [PyData.hasDict, PyData.hasDictAll, a3, b3, c3]
  have w3 : (PyData.list [.list [a, b, c], .list [a, b, c]]).depth ≤ 60 := by
    simp only [PyData.depth, PyData.depthAll]
    omega
  unfold showOk
  rw [w1, w2, decide_eq_true w3, decide_eq_true s2]
  rfl
theorem cut63 {ds : List D} (h : ds.length ≤ 63) : DL.cutD ds none (some 63) = ds := by
  unfold DL.cutD
  have e1 : HT.sIx ds.length 0 none = 0 := rfl
  have e2 : HT.sIx ds.length ds.length (some 63) = ds.length := by
    have : HT.sIx ds.length ds.length (some ((63 : Nat) : Int)) = min 63 ds.length := HT.sIx_nat _ _ _
    rw [show ((63 : Nat) : Int) = 63 from rfl] at this
    rw [this]; omega
  rw [e1, e2, List.drop_zero, Nat.sub_zero, List.take_length]
section
variable (S : Sto)
theorem addL {a b : List D} (h : a.length + b.length ≤ 1000) : gAdd (.lst a) (.lst b) S = some (.lst (a ++ b), S) := by
  show (if a.length + b.length ≤ sizeLine then some (D.lst (a ++ b), S) else none) = _
  rw [if_pos (by rw [sizeLine_eq]; omega)]
end
section
variable {C : Addr} {S : Sto}
theorem new_ok {hs cs : Str} {ls : List (List Mv)} (w : WOk hs cs ls) {m : MA} {E : DL.Env} (hm : m E S = some ([.str hs, .str cs, .tup (ls.map rowD)], S)) (hS : LowS S) : mNew C 4 (F_Rules_init C) m E S = some (rules C hs cs ls, S) := by
  have i := init_ok (C := C) w S
  have fz : frz (.loc S.length) (S ++ [O.ins C FK [.str hs, .str cs, .tup (ls.map rowD)]]) = (rules C hs cs ls, S ++ [O.dead]) := by
    unfold frz
    simp only [last_get, last_set]
    rfl
  have lw : (rules C hs cs ls).low S.length = true := by
    show lowAll S.length [.str hs, .str cs, .tup (ls.map rowD)] = true
    simp [lowAll, D.low, lows_row]
  have l4 : ([.str hs, .str cs, .tup (ls.map rowD)] : List D).length + 1 = 4 := rfl
  unfold mNew
  rw [hm, Option.bind_some]
  dsimp only
  rw [if_pos l4, i, Option.bind_some]
  dsimp only
  rw [fz, trim_last lw hS]
end
theorem k_bm {T : String} {g : MM} {mo : ME} {m : MA} {E : DL.Env} {S S1 S2 : Sto} {o : D} {ds : List D} {r : Option (D × Sto)} (ho : mo E S = some (o, S1)) (ty : isTy S1 T o = true) (hm : m E S1 = some (ds, S2)) (hg : g o ds S2 = r) : mBM T g mo m E S = r := by
  unfold mBM
  rw [ho, Option.bind_some]
  dsimp only
  rw [if_pos ty, hm, Option.bind_some]
  exact hg
theorem k_one {a : ME} {E : DL.Env} {S S1 : Sto} {d : D} (h : a E S = some (d, S1)) : mCons a mNil E S = some ([d], S1) := by
  unfold mCons mNil
  rw [h]
  rfl
theorem k_asgN {m : ME} {E : DL.Env} {S S1 : Sto} {d : D} {i : Nat} (h : m E S = some (d, S1)) : mAsg m (mgName i) E S = some (.nx, E.set i (some d), S1) := by
  unfold mAsg
  rw [h]
  rfl
section
variable {E E1 : DL.Env} {S S1 S2 : Sto} {PS : Out × DL.Env × Sto → Prop}
theorem k_v {i : Nat} {d : D} (h : E.getD i none = some d) : mVar i E S = some (d, S) := by unfold mVar; rw [h]; rfl
theorem k_c {d : D} : mC d E S = some (d, S) := rfl
theorem k_args {a : ME} {m : MA} {d : D} {ds : List D} (h : a E S = some (d, S1)) (h2 : m E S1 = some (ds, S2)) : mCons a m E S = some (d :: ds, S2) := by
  unfold mCons
  rw [h, Option.bind_some, h2]
  rfl
theorem k_nil : mNil E S = some ([], S) := rfl
theorem k_call {n : Nat} {G : MF} {m : MA} {ds : List D} {r : Option (D × Sto)} (h : m E S = some (ds, S1)) (hl : ds.length = n) (h2 : G ds S1 = r) : mCall n G m E S = r := by
  unfold mCall
  rw [h, Option.bind_some, if_pos hl, h2]
theorem k_op {g : MO} {a b : ME} {x y : D} {r : Option (D × Sto)} (h1 : a E S = some (x, S1)) (h2 : b E S1 = some (y, S2)) (h3 : g x y S2 = r) : mOp g a b E S = r := by
  unfold mOp
  rw [h1, Option.bind_some, h2, Option.bind_some, h3]
theorem k_orF {a b : ME} {n : MS} (h1 : a E S = some (.bl false, S1)) (h2 : b E S1 = some (.bl false, S2)) : mIfS (mOr (mTest a) (mTest b)) n mNext E S = some (.nx, E, S2) := by
  unfold mIfS mOr mTest
  rw [h1, Option.bind_some]
  dsimp only
  rw [Option.bind_some]
  dsimp only
  rw [if_neg Bool.false_ne_true, h2, Option.bind_some]
  rfl
theorem k_nxO {m n : MS} {Q : DL.Env → Sto → Prop} (h : Ok (m E S) fun p => p.1 = .nx ∧ Q p.2.1 p.2.2) (r : ∀ E S, Q E S → Ok (n E S) PS) : Ok (mSeq m n E S) PS := by
  obtain ⟨⟨o, E1, S1⟩, e, ho, q⟩ := h
  dsimp only at ho q
  subst ho
  exact k_nx e (r E1 S1 q)
end
theorem lst0 {E : DL.Env} (S : Sto) : mLst mNil E S = some (.lst [], S) := by
  unfold mLst mNil
  rw [Option.bind_some]
  dsimp only
  rw [if_pos (show ([] : List D).length ≤ sizeLine from sz0)]
theorem last_ty (T : Sto) (ds : List D) : isTy (T ++ [O.lst ds]) "list" (.loc T.length) = true := by
  show (("list" == "list" && (viewL _ (.loc T.length)).isSome) || _) = true
  simp only [viewL, viewW, last_get]
  rfl
theorem last_ext {T : Sto} {xs ds : List D} (h : xs.length + ds.length ≤ 1000) : gExtend (.loc T.length) [.lst ds] (T ++ [O.lst xs]) = some (.non, T ++ [O.lst (xs ++ ds)]) := by
  unfold gExtend
  simp only [last_get, viewW]
  rw [if_pos (by rw [sizeLine_eq]; omega), last_set]
theorem strsD_int (x : Int) (ds : List D) : strsD (.int x :: ds) = none := rfl
theorem intsD_map : ∀ xs : List Int, intsD (xs.map .int) = some xs
  | [] => rfl
  | x :: r => by
    have ih := intsD_map r
    simp [intsD, ih]
theorem sortSet_last {T : Sto} {xs : List Int} (h : xs.length < 64) {m : ME} {E : DL.Env} (hm : m E (T ++ [O.lst (xs.map .int)]) = some (.loc T.length, T ++ [O.lst (xs.map .int)])) : mSortSet m E (T ++ [O.lst (xs.map .int)]) = some (.lst ((sortU ltZ xs).map .int), T ++ [O.lst (xs.map .int)]) := by
  unfold mSortSet
  rw [hm, Option.bind_some]
  simp only [viewS, viewL, viewW, last_get, Option.bind_some]
  rw [if_pos (by rw [List.length_map]; exact h)]
  cases xs with
  | nil => rfl
  | cons x r =>
    have e := intsD_map (x :: r)
    rw [List.map_cons] at e ⊢
    rw [strsD_int, e]
    rfl
section
variable {hs cs : Str} {ls : List (List Mv)}
def far (ls : List (List Mv)) (h : Nat) (R : List Int) : List Int := R.flatMap fun s => (hitsH (rowA ls s) h).map (·.2.2)
theorem far_len (w : WOk hs cs ls) {R : List Int} (hR : ∀ s ∈ R, In ls s) (h : Nat) : (far ls h R).length ≤ 9 * R.length := flat_len _ fun s hs => by
  rw [List.length_map]
  exact Nat.le_trans (List.length_filter_le _ _) (row_ok w (hR s hs)).2.1
theorem far_next (w : WOk hs cs ls) {R : List Int} (hR : ∀ s ∈ R, In ls s) (h : Nat) : sortU ltZ (far ls h R) = nextP ls h R := by
  refine str_uniq linZ (sortU_str linZ _) (str8_next h R) fun z => ?_
  rw [sortU_mem linZ, next_mem w hR]
  unfold far
  rw [List.mem_flatMap]
  exact ⟨fun ⟨s, a, b⟩ => ⟨s, a, List.mem_map.mp b⟩, fun ⟨s, a, b⟩ => ⟨s, a, List.mem_map.mpr b⟩⟩
end
theorem k_ifT {m : ME} {a b : MS} {E : DL.Env} {S S1 : Sto} (h : m E S = some (.bl true, S1)) : mIfS (mTest m) a b E S = a E S1 := by
  unfold mIfS mTest
  rw [h, Option.bind_some]
  rfl
theorem k_seqE {m n : MS} {E E1 : DL.Env} {S S1 : Sto} (h : m E S = some (.nx, E1, S1)) : mSeq m n E S = n E1 S1 := by
  unfold mSeq
  rw [h, Option.bind_some]
theorem eq_nil (S : Sto) : gEq (.lst []) (.lst []) S = some (.bl true, S) := by
  have e : toPS S (.lst []) = some (.list []) := rfl
  unfold gEq
  rw [eqD_nil rfl e rfl (Nat.zero_le _)]
  rfl
theorem k_ifF {m : ME} {a : MS} {E : DL.Env} {S S1 : Sto} (h : m E S = some (.bl false, S1)) : mIfS (mTest m) a mNext E S = some (.nx, E, S1) := by
  unfold mIfS mTest
  rw [h, Option.bind_some]
  rfl
theorem k_notT {m : ME} {E : DL.Env} {S S1 : Sto} (h : m E S = some (.bl true, S1)) : mNot (mTest m) E S = some (false, S1) := by
  unfold mNot mTest
  rw [h, Option.bind_some]
  rfl
theorem k_or2 {t u : MT} {E : DL.Env} {S S1 S2 : Sto} (h : t E S = some (false, S1)) (h2 : u E S1 = some (false, S2)) : mOr t u E S = some (false, S2) := by
  unfold mOr
  rw [h, Option.bind_some]
  exact h2
theorem k_ifN {t : MT} {a : MS} {E : DL.Env} {S S1 : Sto} (h : t E S = some (false, S1)) : mIfS t a mNext E S = some (.nx, E, S1) := by
  unfold mIfS
  rw [h, Option.bind_some]
  rfl
theorem k_andV {a b : ME} {E : DL.Env} {S S1 : Sto} {r : Option (D × Sto)} (h : a E S = some (.bl true, S1)) (h2 : b E S1 = r) : mAndV a b E S = r := by
  unfold mAndV mTest
  rw [h, Option.bind_some]
  exact h2
theorem k_ret {a : ME} {E : DL.Env} {S S1 : Sto} {d : D} (h : a E S = some (d, S1)) : mRet a E S = some (.rt d, E, S1) := by
  unfold mRet
  rw [h]
  rfl
theorem cut_to {ds : List D} {k : Nat} (h : k ≤ ds.length) : DL.cutD ds none (some (k : Int)) = ds.take k := by
  unfold DL.cutD
  have e1 : HT.sIx ds.length 0 none = 0 := rfl
  have e2 : HT.sIx ds.length ds.length (some ((k : Nat) : Int)) = min k ds.length := HT.sIx_nat _ _ _
  rw [e1, e2, List.drop_zero, Nat.sub_zero, Nat.min_eq_left h]
theorem cut_from {ds : List D} {k : Nat} (h : k ≤ ds.length) : DL.cutD ds (some (k : Int)) none = ds.drop k := by
  unfold DL.cutD
  have e1 : HT.sIx ds.length ds.length none = ds.length := rfl
  have e2 : HT.sIx ds.length 0 (some ((k : Nat) : Int)) = min k ds.length := HT.sIx_nat _ _ _
  rw [e1, e2, Nat.min_eq_left h, List.take_of_length_le (by rw [List.length_drop]; exact Nat.le_refl _)]
theorem addT {a b : List D} (h : a.length + b.length ≤ 1000) (S : Sto) : gAdd (.tup a) (.tup b) S = some (.tup (a ++ b), S) := by
  show (if a.length + b.length ≤ sizeLine then some (D.tup (a ++ b), S) else none) = _
  rw [if_pos (by rw [sizeLine_eq]; omega)]
section
variable {S : Sto}
theorem sl_to {m ma : ME} {E : DL.Env} {ds : List D} {k : Nat} (h : m E S = some (.tup ds, S)) (ha : ma E S = some (.int (k : Int), S)) (hk : k ≤ ds.length) : mSl m mNoPart (mPart ma) E S = some (.tup (ds.take k), S) := by
  unfold mSl mNoPart mPart
  rw [h, Option.bind_some, Option.bind_some]
  dsimp only
  rw [ha, Option.bind_some, Option.bind_some]
  dsimp only
  rw [cut_to hk]
theorem sl_from {m ma : ME} {E : DL.Env} {ds : List D} {k : Nat} (h : m E S = some (.tup ds, S)) (ha : ma E S = some (.int (k : Int), S)) (hk : k ≤ ds.length) : mSl m (mPart ma) mNoPart E S = some (.tup (ds.drop k), S) := by
  unfold mSl mNoPart mPart
  rw [h, Option.bind_some]
  dsimp only
  rw [ha, Option.bind_some]
  dsimp only
  rw [Option.bind_some, Option.bind_some]
  dsimp only
  rw [cut_from hk]
end
theorem rep2_ok (d : D) (S : Sto) : gRep (.lst [d]) (.int 2) S = some (.lst [d, d], S) := rfl
theorem ar0 (a : D) : arrange [0] [a] = [a] := rfl
theorem isN_mute (r : Option (List Nat)) : isN (muteD r) = r.isNone := by cases r <;> rfl
end Law
namespace Law
open PySem L2 PyProof.Rows DL
theorem trim_app {S Y : Sto} {d : D} (hd : d.low S.length = true) (hS : LowS S) : trim S.length d (S ++ Y) = (d, S) := trim_low rfl hd (hS _ (Nat.le_refl _))
section
variable {C : Addr} {hs cs : Str} {ls : List (List Mv)}
theorem goes_ok (w : WOk hs cs ls) {s : Int} (hh : In ls s) {x : Str} (hx : ∀ c ∈ x.cps.toList, c ∈ hs.cps.toList) {S : Sto} (hS : LowS S) : F_goes_on C [rules C hs cs ls, .int s, .str x] S = some (.bl (!(reachP ls x.cps.toList [s]).isEmpty), S) := by
  refine ok_eq ?_
  unfold F_goes_on M_goes_on
  refine k_fn ?_
  have r := reached_ok (C := C) w hh hx hS
  have ne := ne_intsT_nil (reachP ls x.cps.toList [s]) S
  simp only [fnM, runB, mSeq, mAsg, mDPut, mDGet, mPar, mPar3, mgName, mgTup, mgCons, mgNil, mVar, mC, mOp, mTest, mAnd, mOr, mNot, mNotV, mIf, mIfS, mRet, mRetN, mDrop, mNext, mCall, mCons, mNil, mTup, mLst, mLstM, mBlt, mBM, mBM0, mFrz, mFld, mSetF, mYes, mSl, mNoPart, mPart, mSeqI, mRng1, mRng2, mZip, mEnumerate, mMe, mMeK, mNew, mNever, mAndV, mOrV, mDGet2, mDNew, mDisp, mPairs, mRevS, mEnumS, mListVals, mTupR, mKwC, mInD, mNeg, mRev, mRevM, List.map_cons, List.map_nil, List.length_cons, List.length_nil, List.replicate_succ, List.replicate_zero, List.cons_append, List.nil_append, List.append_nil, List.getD_cons_zero, List.getD_cons_succ, List.set_cons_zero, List.set_cons_succ, List.getElem?_cons_zero, List.getElem?_cons_succ, Nat.zero_add, Nat.reduceAdd, Nat.reduceSub, Option.bind_some, Option.map_some, Option.bind_none, Option.map_none, ↓reduceIte, Bool.false_eq_true, szK, sz0, sz1, sz2, sz3, sz4, if_pos rfl, r, ne, ok_some]
  exact trim_id _ _
/-- full rules -/
def Full (hs : Str) (ls : List (List Mv)) : Prop := Spec ls hs.cps.toList none
theorem check_ok (w : WOk hs cs ls) (hf : Full hs ls) {S : Sto} (hS : LowS S) : F_check_full C [rules C hs cs ls] S = some (.non, S) := by
  obtain ⟨p, e, r, rfl, hr, _⟩ := mute_ok (C := C) w hS
  have er := spec_uniq hr hf
  subst er
  refine ok_eq ?_
  unfold F_check_full M_check_full
  refine k_fn ?_
  have em : muteD none = .non := rfl
  have en : isN .non = true := rfl
  simp only [fnM, runB, mSeq, mAsg, mDPut, mDGet, mPar, mPar3, mgName, mgTup, mgCons, mgNil, mVar, mC, mOp, mTest, mAnd, mOr, mNot, mNotV, mIf, mIfS, mRet, mRetN, mDrop, mNext, mCall, mCons, mNil, mTup, mLst, mLstM, mBlt, mBM, mBM0, mFrz, mFld, mSetF, mYes, mSl, mNoPart, mPart, mSeqI, mRng1, mRng2, mZip, mEnumerate, mMe, mMeK, mNew, mNever, mAndV, mOrV, mDGet2, mDNew, mDisp, mPairs, mRevS, mEnumS, mListVals, mTupR, mKwC, mInD, mNeg, mRev, mRevM, List.map_cons, List.map_nil, List.length_cons, List.length_nil, List.replicate_succ, List.replicate_zero, List.cons_append, List.nil_append, List.append_nil, List.getD_cons_zero, List.getD_cons_succ, List.set_cons_zero, List.set_cons_succ, List.getElem?_cons_zero, List.getElem?_cons_succ, Nat.zero_add, Nat.reduceAdd, Nat.reduceSub, Option.bind_some, Option.map_some, Option.bind_none, Option.map_none, ↓reduceIte, Bool.false_eq_true, szK, sz0, sz1, sz2, sz3, sz4, if_pos rfl, e, em, g_notN, en, Bool.not_true, ok_some]
  exact trim_id _ _
theorem open_ok (w : WOk hs cs ls) (hf : Full hs ls) {s : Int} (hh : In ls s) {x : Str} (hx : ∀ c ∈ x.cps.toList, c ∈ hs.cps.toList) {S : Sto} (hS : LowS S) : F_is_open C [rules C hs cs ls, .int s, .str x] S = some (.bl (!(reachP ls x.cps.toList [s]).isEmpty), S) := by
  refine ok_eq ?_
  unfold F_is_open M_is_open
  refine k_fn ?_
  have c := check_ok (C := C) w hf hS
  have g := goes_ok (C := C) w hh hx hS
  simp only [fnM, runB, mSeq, mAsg, mDPut, mDGet, mPar, mPar3, mgName, mgTup, mgCons, mgNil, mVar, mC, mOp, mTest, mAnd, mOr, mNot, mNotV, mIf, mIfS, mRet, mRetN, mDrop, mNext, mCall, mCons, mNil, mTup, mLst, mLstM, mBlt, mBM, mBM0, mFrz, mFld, mSetF, mYes, mSl, mNoPart, mPart, mSeqI, mRng1, mRng2, mZip, mEnumerate, mMe, mMeK, mNew, mNever, mAndV, mOrV, mDGet2, mDNew, mDisp, mPairs, mRevS, mEnumS, mListVals, mTupR, mKwC, mInD, mNeg, mRev, mRevM, List.map_cons, List.map_nil, List.length_cons, List.length_nil, List.replicate_succ, List.replicate_zero, List.cons_append, List.nil_append, List.append_nil, List.getD_cons_zero, List.getD_cons_succ, List.set_cons_zero, List.set_cons_succ, List.getElem?_cons_zero, List.getElem?_cons_succ, Nat.zero_add, Nat.reduceAdd, Nat.reduceSub, Option.bind_some, Option.map_some, Option.bind_none, Option.map_none, ↓reduceIte, Bool.false_eq_true, szK, sz0, sz1, sz2, sz3, sz4, if_pos rfl, c, g, ok_some]
  exact trim_id _ _
def mvD (m : Mv) : D := .tup [.str (sg m.2.1), .int m.2.2]
theorem low_mvD (n : Nat) (m : Mv) : (mvD m).low n = true := by simp [mvD, D.low, lowAll]
theorem moves_ok (w : WOk hs cs ls) {s : Int} (hh : In ls s) {h : Nat} {S : Sto} (hS : LowS S) : F_law_moves [wd hs cs ls, .int s, .str (sg h)] S = some (.lst ((hitsH (rowA ls s) h).map mvD), S) := by
  refine ok_eq ?_
  unfold F_law_moves M_law_moves
  refine k_fn ?_
  have hi : mSeqI (mOp gIx (mDGet (mVar 0) (mC (.str "rows"))) (mVar 1)) [some (wd hs cs ls), some (.int s), some (.str (sg h)), none, none, none] S = some ((rowA ls s).map tri, S) := by simp only [fnM, runB, mSeq, mAsg, mDPut, mDGet, mPar, mPar3, mgName, mgTup, mgCons, mgNil, mVar, mC, mOp, mTest, mAnd, mOr, mNot, mNotV, mIf, mIfS, mRet, mRetN, mDrop, mNext, mCall, mCons, mNil, mTup, mLst, mLstM, mBlt, mBM, mBM0, mFrz, mFld, mSetF, mYes, mSl, mNoPart, mPart, mSeqI, mRng1, mRng2, mZip, mEnumerate, mMe, mMeK, mNew, mNever, mAndV, mOrV, mDGet2, mDNew, mDisp, mPairs, mRevS, mEnumS, mListVals, mTupR, mKwC, mInD, mNeg, mRev, mRevM, List.map_cons, List.map_nil, List.length_cons, List.length_nil, List.replicate_succ, List.replicate_zero, List.cons_append, List.nil_append, List.append_nil, List.getD_cons_zero, List.getD_cons_succ, List.set_cons_zero, List.set_cons_succ, List.getElem?_cons_zero, List.getElem?_cons_succ, Nat.zero_add, Nat.reduceAdd, Nat.reduceSub, Option.bind_some, Option.map_some, Option.bind_none, Option.map_none, ↓reduceIte, Bool.false_eq_true, szK, sz0, sz1, sz2, sz3, sz4, if_pos rfl, v_wd, k_lines, w_lines, ix_row w hh, viewF]
  have r9 := (row_ok w hh).2.1
  have cp := comp_pure (vs := [3, 4, 5]) (t := mTest (mOp gEq (mVar 3) (mVar 2))) (g := mgTup 3 (mgCons (mgName 3) (mgCons (mgName 4) (mgCons (mgName 5) (mgNil))))) (e := mTup (mCons (mVar 4) (mCons (mVar 5) (mNil)))) (rowA ls s) tri (fun m => decide (m.1 = h)) mvD
    (fun m => [some (wd hs cs ls), some (.int s), some (.str (sg h)), some (.str (sg m.1)), some (.str (sg m.2.1)), some (.int m.2.2)]) hi (by
    intro m hm acc
    have l3 : ([.str (sg m.1), .str (sg m.2.1), .int m.2.2] : List D).length = 3 := rfl
    have s2 : (2 : Nat) ≤ sizeLine := sz2
    unfold tri
    exact ⟨by simp only [fnM, runB, mSeq, mAsg, mDPut, mDGet, mPar, mPar3, mgName, mgTup, mgCons, mgNil, mVar, mC, mOp, mTest, mAnd, mOr, mNot, mNotV, mIf, mIfS, mRet, mRetN, mDrop, mNext, mCall, mCons, mNil, mTup, mLst, mLstM, mBlt, mBM, mBM0, mFrz, mFld, mSetF, mYes, mSl, mNoPart, mPart, mSeqI, mRng1, mRng2, mZip, mEnumerate, mMe, mMeK, mNew, mNever, mAndV, mOrV, mDGet2, mDNew, mDisp, mPairs, mRevS, mEnumS, mListVals, mTupR, mKwC, mInD, mNeg, mRev, mRevM, List.map_cons, List.map_nil, List.length_cons, List.length_nil, List.replicate_succ, List.replicate_zero, List.cons_append, List.nil_append, List.append_nil, List.getD_cons_zero, List.getD_cons_succ, List.set_cons_zero, List.set_cons_succ, List.getElem?_cons_zero, List.getElem?_cons_succ, Nat.zero_add, Nat.reduceAdd, Nat.reduceSub, Option.bind_some, Option.map_some, Option.bind_none, Option.map_none, ↓reduceIte, Bool.false_eq_true, szK, sz0, sz1, sz2, sz3, sz4, if_pos rfl, wipeE, List.foldl_cons, List.foldl_nil], by simp only [fnM, runB, mSeq, mAsg, mDPut, mDGet, mPar, mPar3, mgName, mgTup, mgCons, mgNil, mVar, mC, mOp, mTest, mAnd, mOr, mNot, mNotV, mIf, mIfS, mRet, mRetN, mDrop, mNext, mCall, mCons, mNil, mTup, mLst, mLstM, mBlt, mBM, mBM0, mFrz, mFld, mSetF, mYes, mSl, mNoPart, mPart, mSeqI, mRng1, mRng2, mZip, mEnumerate, mMe, mMeK, mNew, mNever, mAndV, mOrV, mDGet2, mDNew, mDisp, mPairs, mRevS, mEnumS, mListVals, mTupR, mKwC, mInD, mNeg, mRev, mRevM, List.map_cons, List.map_nil, List.length_cons, List.length_nil, List.replicate_succ, List.replicate_zero, List.cons_append, List.nil_append, List.append_nil, List.getD_cons_zero, List.getD_cons_succ, List.set_cons_zero, List.set_cons_succ, List.getElem?_cons_zero, List.getElem?_cons_succ, Nat.zero_add, Nat.reduceAdd, Nat.reduceSub, Option.bind_some, Option.map_some, Option.bind_none, Option.map_none, ↓reduceIte, Bool.false_eq_true, szK, sz0, sz1, sz2, sz3, sz4, if_pos rfl, eq_ss, ds_sg], fun _ => by
      simp only [fnM, runB, mSeq, mAsg, mDPut, mDGet, mPar, mPar3, mgName, mgTup, mgCons, mgNil, mVar, mC, mOp, mTest, mAnd, mOr, mNot, mNotV, mIf, mIfS, mRet, mRetN, mDrop, mNext, mCall, mCons, mNil, mTup, mLst, mLstM, mBlt, mBM, mBM0, mFrz, mFld, mSetF, mYes, mSl, mNoPart, mPart, mSeqI, mRng1, mRng2, mZip, mEnumerate, mMe, mMeK, mNew, mNever, mAndV, mOrV, mDGet2, mDNew, mDisp, mPairs, mRevS, mEnumS, mListVals, mTupR, mKwC, mInD, mNeg, mRev, mRevM, List.map_cons, List.map_nil, List.length_cons, List.length_nil, List.replicate_succ, List.replicate_zero, List.cons_append, List.nil_append, List.append_nil, List.getD_cons_zero, List.getD_cons_succ, List.set_cons_zero, List.set_cons_succ, List.getElem?_cons_zero, List.getElem?_cons_succ, Nat.zero_add, Nat.reduceAdd, Nat.reduceSub, Option.bind_some, Option.map_some, Option.bind_none, Option.map_none, ↓reduceIte, Bool.false_eq_true, szK, sz0, sz1, sz2, sz3, sz4, if_pos rfl, s2]
      rfl⟩) (by
      rw [sizeLine_eq]
      have := List.length_filter_le (fun m : Mv => decide (m.1 = h)) (rowA ls s)
      omega) (low_all _ _ (low_mvD _) _) hS
  rw [map_tri_filter] at cp
  simp only [fnM, runB, mSeq, mAsg, mDPut, mDGet, mPar, mPar3, mgName, mgTup, mgCons, mgNil, mVar, mC, mOp, mTest, mAnd, mOr, mNot, mNotV, mIf, mIfS, mRet, mRetN, mDrop, mNext, mCall, mCons, mNil, mTup, mLst, mLstM, mBlt, mBM, mBM0, mFrz, mFld, mSetF, mYes, mSl, mNoPart, mPart, mSeqI, mRng1, mRng2, mZip, mEnumerate, mMe, mMeK, mNew, mNever, mAndV, mOrV, mDGet2, mDNew, mDisp, mPairs, mRevS, mEnumS, mListVals, mTupR, mKwC, mInD, mNeg, mRev, mRevM, List.map_cons, List.map_nil, List.length_cons, List.length_nil, List.replicate_succ, List.replicate_zero, List.cons_append, List.nil_append, List.append_nil, List.getD_cons_zero, List.getD_cons_succ, List.set_cons_zero, List.set_cons_succ, List.getElem?_cons_zero, List.getElem?_cons_succ, Nat.zero_add, Nat.reduceAdd, Nat.reduceSub, Option.bind_some, Option.map_some, Option.bind_none, Option.map_none, ↓reduceIte, Bool.false_eq_true, szK, sz0, sz1, sz2, sz3, sz4, if_pos rfl, cp, ok_some]
  exact trim_id _ _
abbrev OE (hs cs : Str) (ls : List (List Mv)) (x1 x : D) (x3 x4 x5 : Option D) : DL.Env := [some (wd hs cs ls), some x1, some x, x3, x4, x5, none, none]
def intsL (R : List Int) : D := .lst (R.map .int)
theorem low_intsL (n : Nat) (R : List Int) : (intsL R).low n = true := by
  unfold intsL
  simp only [D.low]
  exact low_ints n R
abbrev onFor : MS := mFor (mSeqI (mVar 1)) (mgName 5) (mDrop (mBM "list" gExtend (mVar 4) (mCons (mComp (mSeqI (mCall 3 F_law_moves (mCons (mVar 0) (mCons (mVar 5) (mCons (mVar 3) (mNil)))))) (mgTup 2 (mgCons (mgName 6) (mgCons (mgName 7) (mgNil)))) (mYes) (mVar 7) [6, 7]) (mNil))))
theorem ends_comp (w : WOk hs cs ls) {S : Sto} (hS : LowS S) {s : Int} (hh : In ls s) {h : Nat} {x1 x : D} {x4 : Option D} :
    mComp (mSeqI (mCall 3 F_law_moves (mCons (mVar 0) (mCons (mVar 5) (mCons (mVar 3) (mNil)))))) (mgTup 2 (mgCons (mgName 6) (mgCons (mgName 7) (mgNil)))) (mYes) (mVar 7) [6, 7] (OE hs cs ls x1 x (some (.str (sg h))) x4 (some (.int s))) S = some (.lst (((hitsH (rowA ls s) h).map (·.2.2)).map .int), S) := by
  have mo := moves_ok w hh (h := h) hS
  have hi : mSeqI (mCall 3 F_law_moves (mCons (mVar 0) (mCons (mVar 5) (mCons (mVar 3) (mNil))))) (OE hs cs ls x1 x (some (.str (sg h))) x4 (some (.int s))) S = some ((hitsH (rowA ls s) h).map mvD, S) := by simp only [fnM, runB, mSeq, mAsg, mDPut, mDGet, mPar, mPar3, mgName, mgTup, mgCons, mgNil, mVar, mC, mOp, mTest, mAnd, mOr, mNot, mNotV, mIf, mIfS, mRet, mRetN, mDrop, mNext, mCall, mCons, mNil, mTup, mLst, mLstM, mBlt, mBM, mBM0, mFrz, mFld, mSetF, mYes, mSl, mNoPart, mPart, mSeqI, mRng1, mRng2, mZip, mEnumerate, mMe, mMeK, mNew, mNever, mAndV, mOrV, mDGet2, mDNew, mDisp, mPairs, mRevS, mEnumS, mListVals, mTupR, mKwC, mInD, mNeg, mRev, mRevM, List.map_cons, List.map_nil, List.length_cons, List.length_nil, List.replicate_succ, List.replicate_zero, List.cons_append, List.nil_append, List.append_nil, List.getD_cons_zero, List.getD_cons_succ, List.set_cons_zero, List.set_cons_succ, List.getElem?_cons_zero, List.getElem?_cons_succ, Nat.zero_add, Nat.reduceAdd, Nat.reduceSub, Option.bind_some, Option.map_some, Option.bind_none, Option.map_none, ↓reduceIte, Bool.false_eq_true, szK, sz0, sz1, sz2, sz3, sz4, if_pos rfl, mo, viewF]
  have r9 := (row_ok w hh).2.1
  have hl9 : (hitsH (rowA ls s) h).length ≤ 9 := Nat.le_trans (List.length_filter_le _ _) r9
  have cp := comp_pure (vs := [6, 7]) (t := mYes) (g := mgTup 2 (mgCons (mgName 6) (mgCons (mgName 7) (mgNil)))) (e := mVar 7) (hitsH (rowA ls s) h) mvD (fun _ => true) (fun m => .int m.2.2)
    (fun m => [some (wd hs cs ls), some x1, some x, some (.str (sg h)), x4, some (.int s), some (.str (sg m.2.1)), some (.int m.2.2)]) hi (by
    intro m hm acc
    have l2 : ([.str (sg m.2.1), .int m.2.2] : List D).length = 2 := rfl
    unfold mvD
    exact ⟨by simp only [fnM, runB, mSeq, mAsg, mDPut, mDGet, mPar, mPar3, mgName, mgTup, mgCons, mgNil, mVar, mC, mOp, mTest, mAnd, mOr, mNot, mNotV, mIf, mIfS, mRet, mRetN, mDrop, mNext, mCall, mCons, mNil, mTup, mLst, mLstM, mBlt, mBM, mBM0, mFrz, mFld, mSetF, mYes, mSl, mNoPart, mPart, mSeqI, mRng1, mRng2, mZip, mEnumerate, mMe, mMeK, mNew, mNever, mAndV, mOrV, mDGet2, mDNew, mDisp, mPairs, mRevS, mEnumS, mListVals, mTupR, mKwC, mInD, mNeg, mRev, mRevM, List.map_cons, List.map_nil, List.length_cons, List.length_nil, List.replicate_succ, List.replicate_zero, List.cons_append, List.nil_append, List.append_nil, List.getD_cons_zero, List.getD_cons_succ, List.set_cons_zero, List.set_cons_succ, List.getElem?_cons_zero, List.getElem?_cons_succ, Nat.zero_add, Nat.reduceAdd, Nat.reduceSub, Option.bind_some, Option.map_some, Option.bind_none, Option.map_none, ↓reduceIte, Bool.false_eq_true, szK, sz0, sz1, sz2, sz3, sz4, if_pos rfl, wipeE, List.foldl_cons, List.foldl_nil], rfl, fun _ => by simp only [fnM, runB, mSeq, mAsg, mDPut, mDGet, mPar, mPar3, mgName, mgTup, mgCons, mgNil, mVar, mC, mOp, mTest, mAnd, mOr, mNot, mNotV, mIf, mIfS, mRet, mRetN, mDrop, mNext, mCall, mCons, mNil, mTup, mLst, mLstM, mBlt, mBM, mBM0, mFrz, mFld, mSetF, mYes, mSl, mNoPart, mPart, mSeqI, mRng1, mRng2, mZip, mEnumerate, mMe, mMeK, mNew, mNever, mAndV, mOrV, mDGet2, mDNew, mDisp, mPairs, mRevS, mEnumS, mListVals, mTupR, mKwC, mInD, mNeg, mRev, mRevM, List.map_cons, List.map_nil, List.length_cons, List.length_nil, List.replicate_succ, List.replicate_zero, List.cons_append, List.nil_append, List.append_nil, List.getD_cons_zero, List.getD_cons_succ, List.set_cons_zero, List.set_cons_succ, List.getElem?_cons_zero, List.getElem?_cons_succ, Nat.zero_add, Nat.reduceAdd, Nat.reduceSub, Option.bind_some, Option.map_some, Option.bind_none, Option.map_none, ↓reduceIte, Bool.false_eq_true, szK, sz0, sz1, sz2, sz3, sz4, if_pos rfl]⟩) (by rw [filt_true, sizeLine_eq]; omega) (low_all _ _ (fun m => rfl) _) hS
  rw [filt_true] at cp
  rw [cp, List.map_map]
  rfl
theorem on_fill (w : WOk hs cs ls) {T : Sto} (hT : LowS T) {R : List Int} (hR : ∀ s ∈ R, In ls s) (hl : R.length ≤ 5) {h : Nat} {x : D} {x5 : Option D} :
    Ok (onFor (OE hs cs ls (intsL R) x (some (.str (sg h))) (some (.loc T.length)) x5) (T ++ [O.lst []])) fun p => p.1 = .nx ∧ ∃ x5, p.2.1 = OE hs cs ls (intsL R) x (some (.str (sg h))) (some (.loc T.length)) x5 ∧ p.2.2 = T ++ [O.lst ((far ls h R).map .int)] := by
  have hi : mSeqI (mVar 1) (OE hs cs ls (intsL R) x (some (.str (sg h))) (some (.loc T.length)) x5) (T ++ [O.lst []]) = some (R.map .int, T ++ [O.lst []]) := by simp only [fnM, runB, mSeq, mAsg, mDPut, mDGet, mPar, mPar3, mgName, mgTup, mgCons, mgNil, mVar, mC, mOp, mTest, mAnd, mOr, mNot, mNotV, mIf, mIfS, mRet, mRetN, mDrop, mNext, mCall, mCons, mNil, mTup, mLst, mLstM, mBlt, mBM, mBM0, mFrz, mFld, mSetF, mYes, mSl, mNoPart, mPart, mSeqI, mRng1, mRng2, mZip, mEnumerate, mMe, mMeK, mNew, mNever, mAndV, mOrV, mDGet2, mDNew, mDisp, mPairs, mRevS, mEnumS, mListVals, mTupR, mKwC, mInD, mNeg, mRev, mRevM, List.map_cons, List.map_nil, List.length_cons, List.length_nil, List.replicate_succ, List.replicate_zero, List.cons_append, List.nil_append, List.append_nil, List.getD_cons_zero, List.getD_cons_succ, List.set_cons_zero, List.set_cons_succ, List.getElem?_cons_zero, List.getElem?_cons_succ, Nat.zero_add, Nat.reduceAdd, Nat.reduceSub, Option.bind_some, Option.map_some, Option.bind_none, Option.map_none, ↓reduceIte, Bool.false_eq_true, szK, sz0, sz1, sz2, sz3, sz4, if_pos rfl, intsL, viewF]
  refine k_for hi (fun i E S' => ∃ x5, E = OE hs cs ls (intsL R) x (some (.str (sg h))) (some (.loc T.length)) x5 ∧ S' = T ++ [O.lst ((far ls h (R.take i)).map .int)]) ⟨_, rfl, by rw [List.take_zero]; rfl⟩ ?_ ?_
  · rintro i d E S' hd ⟨x5, rfl, rfl⟩
    rw [List.getElem?_map] at hd
    obtain ⟨s, hs', rfl⟩ := map_some' hd
    have hin := hR s (List.mem_of_getElem? hs')
    have lo : LowS (T ++ [O.lst ((far ls h (R.take i)).map .int)]) := hT.app (low_one fun m => low_ints m _)
    have hc := ends_comp w lo hin (h := h) (x1 := intsL R) (x := x) (x4 := some (.loc T.length))
    have fl := far_len w (R := R.take i) (fun s hs => hR s (List.mem_of_mem_take hs)) h
    have tl : (R.take i).length ≤ 5 := by rw [List.length_take]; omega
    have r9 := (row_ok w hin).2.1
    have hl9 : (hitsH (rowA ls s) h).length ≤ 9 := Nat.le_trans (List.length_filter_le _ _) r9
    have ge := last_ext (T := T) (xs := (far ls h (R.take i)).map D.int) (ds := ((hitsH (rowA ls s) h).map (·.2.2)).map D.int) (by rw [List.length_map, List.length_map, List.length_map]; omega)
    have ty := last_ty T ((far ls h (R.take i)).map D.int)
    refine ⟨(OE hs cs ls (intsL R) x (some (.str (sg h))) (some (.loc T.length)) (some (.int s)), T ++ [O.lst ((far ls h (R.take i)).map .int)]), rfl, ?_⟩
    refine ⟨(.nx, OE hs cs ls (intsL R) x (some (.str (sg h))) (some (.loc T.length)) (some (.int s)), T ++ [O.lst ((far ls h (R.take i)).map .int ++ ((hitsH (rowA ls s) h).map (·.2.2)).map .int)]), ?_, _, rfl, ?_⟩
    · simp only [fnM, runB, mSeq, mAsg, mDPut, mDGet, mPar, mPar3, mgName, mgTup, mgCons, mgNil, mVar, mC, mOp, mTest, mAnd, mOr, mNot, mNotV, mIf, mIfS, mRet, mRetN, mDrop, mNext, mCall, mCons, mNil, mTup, mLst, mLstM, mBlt, mBM, mBM0, mFrz, mFld, mSetF, mYes, mSl, mNoPart, mPart, mSeqI, mRng1, mRng2, mZip, mEnumerate, mMe, mMeK, mNew, mNever, mAndV, mOrV, mDGet2, mDNew, mDisp, mPairs, mRevS, mEnumS, mListVals, mTupR, mKwC, mInD, mNeg, mRev, mRevM, List.map_cons, List.map_nil, List.length_cons, List.length_nil, List.replicate_succ, List.replicate_zero, List.cons_append, List.nil_append, List.append_nil, List.getD_cons_zero, List.getD_cons_succ, List.set_cons_zero, List.set_cons_succ, List.getElem?_cons_zero, List.getElem?_cons_succ, Nat.zero_add, Nat.reduceAdd, Nat.reduceSub, Option.bind_some, Option.map_some, Option.bind_none, Option.map_none, ↓reduceIte, Bool.false_eq_true, szK, sz0, sz1, sz2, sz3, sz4, if_pos rfl, hc, ty, ge]
    · rw [List.take_add_one, hs']
      unfold far
      rw [List.flatMap_append, List.map_append]
      simp
  · rintro E S' ⟨x5, rfl, rfl⟩
    rw [List.length_map, List.take_length]
    exact ⟨rfl, _, rfl, rfl⟩
theorem on_ok (w : WOk hs cs ls) {R : List Int} (hR : ∀ s ∈ R, In ls s) (aR : R.Pairwise (· < ·)) {x : Str} {S : Sto} (hS : LowS S) : F_law_on [wd hs cs ls, intsL R, .str x] S = some (intsL (reachP ls x.cps.toList R), S) := by
  refine ok_eq ?_
  unfold F_law_on M_law_on
  refine k_fn ?_
  have hi : mSeqI (mVar 2) (OE hs cs ls (intsL R) (.str x) none none none) S = some (x.cps.toList.map fun c => D.str (sg c), S) := by
    simp only [fnM, runB, mSeq, mAsg, mDPut, mDGet, mPar, mPar3, mgName, mgTup, mgCons, mgNil, mVar, mC, mOp, mTest, mAnd, mOr, mNot, mNotV, mIf, mIfS, mRet, mRetN, mDrop, mNext, mCall, mCons, mNil, mTup, mLst, mLstM, mBlt, mBM, mBM0, mFrz, mFld, mSetF, mYes, mSl, mNoPart, mPart, mSeqI, mRng1, mRng2, mZip, mEnumerate, mMe, mMeK, mNew, mNever, mAndV, mOrV, mDGet2, mDNew, mDisp, mPairs, mRevS, mEnumS, mListVals, mTupR, mKwC, mInD, mNeg, mRev, mRevM, List.map_cons, List.map_nil, List.length_cons, List.length_nil, List.replicate_succ, List.replicate_zero, List.cons_append, List.nil_append, List.append_nil, List.getD_cons_zero, List.getD_cons_succ, List.set_cons_zero, List.set_cons_succ, List.getElem?_cons_zero, List.getElem?_cons_succ, Nat.zero_add, Nat.reduceAdd, Nat.reduceSub, Option.bind_some, Option.map_some, Option.bind_none, Option.map_none, ↓reduceIte, Bool.false_eq_true, szK, sz0, sz1, sz2, sz3, sz4, if_pos rfl, viewF]
    rfl
  refine k_seq (k_for hi (fun i E S' => ∃ x3 x4 x5 Z, LowR Z ∧ E = OE hs cs ls (intsL (reachP ls (x.cps.toList.take i) R)) (.str x) x3 x4 x5 ∧ S' = S ++ Z) ⟨none, none, none, [], low_nil, rfl, by simp⟩ ?_ ?_)
  · rintro i d E S' hd ⟨x3, x4, x5, Z, hZ, rfl, rfl⟩
    rw [List.getElem?_map] at hd
    obtain ⟨h, hc, rfl⟩ := map_some' hd
    have hin := reach_in (ls := ls) (x.cps.toList.take i) R hR
    have hasc := reach_asc (ls := ls) (x.cps.toList.take i) R aR
    have hlen := in_len hin hasc
    have l5 := w.l5
    have lo := hS.app hZ
    refine ⟨(OE hs cs ls (intsL (reachP ls (x.cps.toList.take i) R)) (.str x) (some (.str (sg h))) x4 x5, S ++ Z), rfl, ?_⟩
    dsimp only
    rw [reach_next hc]
    generalize reachP ls (x.cps.toList.take i) R = Q at hin hasc hlen ⊢
    refine k_nx (E1 := OE hs cs ls (intsL Q) (.str x) (some (.str (sg h))) (some (.loc (S ++ Z).length)) x5) (S1 := S ++ Z ++ [O.lst []]) (by simp only [fnM, runB, mSeq, mAsg, mDPut, mDGet, mPar, mPar3, mgName, mgTup, mgCons, mgNil, mVar, mC, mOp, mTest, mAnd, mOr, mNot, mNotV, mIf, mIfS, mRet, mRetN, mDrop, mNext, mCall, mCons, mNil, mTup, mLst, mLstM, mBlt, mBM, mBM0, mFrz, mFld, mSetF, mYes, mSl, mNoPart, mPart, mSeqI, mRng1, mRng2, mZip, mEnumerate, mMe, mMeK, mNew, mNever, mAndV, mOrV, mDGet2, mDNew, mDisp, mPairs, mRevS, mEnumS, mListVals, mTupR, mKwC, mInD, mNeg, mRev, mRevM, List.map_cons, List.map_nil, List.length_cons, List.length_nil, List.replicate_succ, List.replicate_zero, List.cons_append, List.nil_append, List.append_nil, List.getD_cons_zero, List.getD_cons_succ, List.set_cons_zero, List.set_cons_succ, List.getElem?_cons_zero, List.getElem?_cons_succ, Nat.zero_add, Nat.reduceAdd, Nat.reduceSub, Option.bind_some, Option.map_some, Option.bind_none, Option.map_none, ↓reduceIte, Bool.false_eq_true, szK, sz0, sz1, sz2, sz3, sz4, if_pos rfl]) ?_
    obtain ⟨⟨o1, E1, S1⟩, e1, ho, y5, hE, hS1⟩ := on_fill w lo hin (by omega) (h := h) (x := .str x) (x5 := x5)
    dsimp only at ho hE hS1
    subst ho hE hS1
    refine k_nx e1 ?_
    have fl := far_len w hin h
    have sl := sortSet_last (T := S ++ Z) (xs := far ls h Q) (by omega) (m := mVar 4) (E := OE hs cs ls (intsL Q) (.str x) (some (.str (sg h))) (some (.loc (S ++ Z).length)) y5) (by simp only [fnM, runB, mSeq, mAsg, mDPut, mDGet, mPar, mPar3, mgName, mgTup, mgCons, mgNil, mVar, mC, mOp, mTest, mAnd, mOr, mNot, mNotV, mIf, mIfS, mRet, mRetN, mDrop, mNext, mCall, mCons, mNil, mTup, mLst, mLstM, mBlt, mBM, mBM0, mFrz, mFld, mSetF, mYes, mSl, mNoPart, mPart, mSeqI, mRng1, mRng2, mZip, mEnumerate, mMe, mMeK, mNew, mNever, mAndV, mOrV, mDGet2, mDNew, mDisp, mPairs, mRevS, mEnumS, mListVals, mTupR, mKwC, mInD, mNeg, mRev, mRevM, List.map_cons, List.map_nil, List.length_cons, List.length_nil, List.replicate_succ, List.replicate_zero, List.cons_append, List.nil_append, List.append_nil, List.getD_cons_zero, List.getD_cons_succ, List.set_cons_zero, List.set_cons_succ, List.getElem?_cons_zero, List.getElem?_cons_succ, Nat.zero_add, Nat.reduceAdd, Nat.reduceSub, Option.bind_some, Option.map_some, Option.bind_none, Option.map_none, ↓reduceIte, Bool.false_eq_true, szK, sz0, sz1, sz2, sz3, sz4, if_pos rfl])
    rw [far_next w hin] at sl
    exact ⟨_, k_asgN sl, _, _, _, Z ++ [O.lst ((far ls h Q).map .int)], hZ.app (low_one fun m => low_ints m _), rfl, by rw [List.append_assoc]⟩
  · rintro E S' ⟨x3, x4, x5, Z, hZ, rfl, rfl⟩
    rw [List.length_map, List.take_length]
    simp only [fnM, runB, mSeq, mAsg, mDPut, mDGet, mPar, mPar3, mgName, mgTup, mgCons, mgNil, mVar, mC, mOp, mTest, mAnd, mOr, mNot, mNotV, mIf, mIfS, mRet, mRetN, mDrop, mNext, mCall, mCons, mNil, mTup, mLst, mLstM, mBlt, mBM, mBM0, mFrz, mFld, mSetF, mYes, mSl, mNoPart, mPart, mSeqI, mRng1, mRng2, mZip, mEnumerate, mMe, mMeK, mNew, mNever, mAndV, mOrV, mDGet2, mDNew, mDisp, mPairs, mRevS, mEnumS, mListVals, mTupR, mKwC, mInD, mNeg, mRev, mRevM, List.map_cons, List.map_nil, List.length_cons, List.length_nil, List.replicate_succ, List.replicate_zero, List.cons_append, List.nil_append, List.append_nil, List.getD_cons_zero, List.getD_cons_succ, List.set_cons_zero, List.set_cons_succ, List.getElem?_cons_zero, List.getElem?_cons_succ, Nat.zero_add, Nat.reduceAdd, Nat.reduceSub, Option.bind_some, Option.map_some, Option.bind_none, Option.map_none, ↓reduceIte, Bool.false_eq_true, szK, sz0, sz1, sz2, sz3, sz4, if_pos rfl, ok_some]
    exact trim_app (low_intsL _ _) hS
end
end Law
namespace Law
open PySem L2 PyProof.Rows DL
theorem k_seqR {m n : MS} {E E1 : DL.Env} {S S1 : Sto} {d : D} (h : m E S = some (.rt d, E1, S1)) : mSeq m n E S = some (.rt d, E1, S1) := by
  unfold mSeq
  rw [h, Option.bind_some]
def entD (e : Ent) : D := .tup [intsL e.1, .str (txt e.2)]
def ordO (F : List Ent) : O := .lst (F.map entD)
def seenO (F : List Ent) : O := .dct (F.map fun e => keysZ e.1) (F.map fun _ => .bl true)
theorem low_entD (n : Nat) (e : Ent) : (entD e).low n = true := by
  unfold entD
  simp only [D.low, lowAll, low_intsL]
  rfl
theorem low_ord (n : Nat) (F : List Ent) : (ordO F).low n = true := by
  unfold ordO
  simp only [O.low]
  exact low_all n entD (low_entD n) F
theorem low_seen (n : Nat) (F : List Ent) : (seenO F).low n = true := by
  unfold seenO
  simp only [O.low]
  exact low_all n (fun _ : Ent => D.bl true) (fun e => rfl) F
theorem eq_intsL_nil (xs : List Int) (S : Sto) : gEq (intsL xs) (.lst []) S = some (.bl xs.isEmpty, S) := by
  have e : toPS S (intsL xs) = some (.list (xs.map .int)) := by
    show toP (intsL xs) = _
    unfold intsL
    simp only [toP, toPs_ints, Option.map_some]
  unfold gEq
  rw [eqD_nil rfl e (lay_ints xs).1 (by rw [(lay_ints xs).2]; exact Nat.zero_le _)]
  cases xs <;> rfl
theorem ne_intsL_nil (xs : List Int) (S : Sto) : gNe (intsL xs) (.lst []) S = some (.bl (!xs.isEmpty), S) := by
  have := eq_intsL_nil xs S
  unfold gEq at this
  unfold gNe
  obtain ⟨b, e1, e2⟩ := map_some' this
  rw [e1]
  cases e2
  rfl
theorem tput_S {F : List Ent} {R : List Int} (h : R ∉ F.map (·.1)) (w : List Nat) : tput (F.map fun e => keysZ e.1) (F.map fun _ => .bl true) (keysZ R) (.bl true) = ((F ++ [(R, w)]).map fun e => keysZ e.1, (F ++ [(R, w)]).map fun _ => .bl true) := by
  unfold tput
  rw [any_F, if_neg (by simpa using h), List.map_append, List.map_append]
  rfl
section
variable {hs cs : Str} {ls : List (List Mv)}
abbrev NE (hs cs : Str) (ls : List (List Mv)) (L : Nat) (n : Int) (x4 x5 x6 : Option D) : DL.Env := [some (wd hs cs ls), some (.loc L), some (.loc (L + 1)), some (.int n), x4, x5, x6]
abbrev lawStep : MS := (mSeq (mPar 5 6 (mCons (mCall 3 F_law_on (mCons (mVar 0) (mCons (mOp gIx (mOp gIx (mVar 1) (mVar 3)) (mC (.int 0))) (mCons (mVar 4) (mNil))))) (mCons (mOp gAdd (mOp gIx (mOp gIx (mVar 1) (mVar 3)) (mC (.int 1))) (mVar 4)) (mNil))))
    (mSeq (mIfS (mTest (mOp gEq (mVar 5) (mLst (mNil)))) (mRet (mVar 6)) (mNext))
    (mIfS (mTest (mTIn true (mBlt gTupC (mCons (mVar 5) (mNil))) (mVar 2))) (mSeq (mTPut (mVar 2) (mBlt gTupC (mCons (mVar 5) (mNil))) (mC (.bl true)))
    (mDrop (mBM "list" gAppend (mVar 1) (mCons (mTup (mCons (mVar 5) (mCons (mVar 6) (mNil)))) (mNil))))) (mNext))))
theorem ix_ord {S : Sto} {F : List Ent} {b : O} {n : Nat} {R : List Int} {u : List Nat} (hat : F[n]? = some (R, u)) : gIx (.loc S.length) (.int ((n : Nat) : Int)) (S ++ [ordO F, b]) = some (entD (R, u), S ++ [ordO F, b]) := by
  have hlt : n < F.length := (List.getElem?_eq_some_iff.mp hat).1
  obtain ⟨d, e1, e2⟩ := atI_nat (xs := F.map entD) (r := ((n : Nat) : Int)) (by omega) (by rw [List.length_map]; omega)
  rw [Int.toNat_natCast, List.getElem?_map, hat] at e1
  cases e1
  unfold gIx
  simp only [viewS, viewL, viewW, two_get0]
  unfold ordO
  simp only [Option.bind_some, e2, Option.map_some]
theorem law_step (w : WOk hs cs ls) {S : Sto} (hS : LowS S) {F G T : List Ent} {n : Nat} {R : List Int} {u : List Nat} {done : List Nat} (I : FI ls hs.cps.toList F n) (hat : F[n]? = some (R, u)) (g : GI ls hs.cps.toList F n R u G T done) {h : Nat} (hh : h ∈ hs.cps.toList) {x5 x6 : Option D} :
    Ok (lawStep (NE hs cs ls S.length (n : Int) (some (.str (sg h))) x5 x6) (S ++ [ordO G, seenO G])) fun q =>
      (nextP ls h R = [] ∧ q.1 = .rt (.str (txt (u ++ [h]))) ∧ ∃ X, q.2.2 = S ++ X) ∨ (nextP ls h R ≠ [] ∧ q.1 = .nx ∧ ∃ x5 x6, q.2.1 = NE hs cs ls S.length (n : Int) (some (.str (sg h))) x5 x6 ∧ q.2.2 = S ++ [ordO (addF ls R u G h), seenO (addF ls R u G h)]) := by
  have hm : (R, u) ∈ F := List.mem_of_getElem? hat
  have hatG : G[n]? = some (R, u) := by
    rw [g.eq, List.getElem?_append_left (List.getElem?_eq_some_iff.mp hat).1]; exact hat
  have hl : u.length ≤ 32 := fi_txt w I hm
  have hgl := gi_len w g
  obtain ⟨sR, aR⟩ : (∀ z ∈ R, 0 ≤ z ∧ z < (ls.length : Int)) ∧ R.Pairwise (· < ·) := ent_sets w I.ent _ hm
  have lo : LowS (S ++ [ordO G, seenO G]) := hS.app fun m => by simp [low_ord, low_seen]
  have on := on_ok w sR aR (x := sg h) lo
  have er : reachP ls (sg h).cps.toList R = nextP ls h R := rfl
  rw [er] at on
  have ix := ix_ord (S := S) (b := seenO G) hatG
  have i0 : ∀ T, gIx (entD (R, u)) (.int 0) T = some (intsL R, T) := fun T => rfl
  have i1 : ∀ T, gIx (entD (R, u)) (.int 1) T = some (.str (txt u), T) := fun T => rfl
  have ga := fun S' => g_addT (a := u) h (by omega) S'
  refine k_nx (E1 := NE hs cs ls S.length (n : Int) (some (.str (sg h))) (some (intsL (nextP ls h R))) (some (.str (txt (u ++ [h]))))) (S1 := S ++ [ordO G, seenO G]) (by simp only [fnM, runB, mSeq, mAsg, mDPut, mDGet, mPar, mPar3, mgName, mgTup, mgCons, mgNil, mVar, mC, mOp, mTest, mAnd, mOr, mNot, mNotV, mIf, mIfS, mRet, mRetN, mDrop, mNext, mCall, mCons, mNil, mTup, mLst, mLstM, mBlt, mBM, mBM0, mFrz, mFld, mSetF, mYes, mSl, mNoPart, mPart, mSeqI, mRng1, mRng2, mZip, mEnumerate, mMe, mMeK, mNew, mNever, mAndV, mOrV, mDGet2, mDNew, mDisp, mPairs, mRevS, mEnumS, mListVals, mTupR, mKwC, mInD, mNeg, mRev, mRevM, List.map_cons, List.map_nil, List.length_cons, List.length_nil, List.replicate_succ, List.replicate_zero, List.cons_append, List.nil_append, List.append_nil, List.getD_cons_zero, List.getD_cons_succ, List.set_cons_zero, List.set_cons_succ, List.getElem?_cons_zero, List.getElem?_cons_succ, Nat.zero_add, Nat.reduceAdd, Nat.reduceSub, Option.bind_some, Option.map_some, Option.bind_none, Option.map_none, ↓reduceIte, Bool.false_eq_true, szK, sz0, sz1, sz2, sz3, sz4, if_pos rfl, ix, i0, on, i1, ga]) ?_
  by_cases hb : nextP ls h R = []
  · have eq : gEq (intsL (nextP ls h R)) (.lst []) (S ++ [ordO G, seenO G]) = some (.bl true, S ++ [ordO G, seenO G]) := by rw [eq_intsL_nil, hb]; rfl
    simp only [fnM, runB, mSeq, mAsg, mDPut, mDGet, mPar, mPar3, mgName, mgTup, mgCons, mgNil, mVar, mC, mOp, mTest, mAnd, mOr, mNot, mNotV, mIf, mIfS, mRet, mRetN, mDrop, mNext, mCall, mCons, mNil, mTup, mLst, mLstM, mBlt, mBM, mBM0, mFrz, mFld, mSetF, mYes, mSl, mNoPart, mPart, mSeqI, mRng1, mRng2, mZip, mEnumerate, mMe, mMeK, mNew, mNever, mAndV, mOrV, mDGet2, mDNew, mDisp, mPairs, mRevS, mEnumS, mListVals, mTupR, mKwC, mInD, mNeg, mRev, mRevM, List.map_cons, List.map_nil, List.length_cons, List.length_nil, List.replicate_succ, List.replicate_zero, List.cons_append, List.nil_append, List.append_nil, List.getD_cons_zero, List.getD_cons_succ, List.set_cons_zero, List.set_cons_succ, List.getElem?_cons_zero, List.getElem?_cons_succ, Nat.zero_add, Nat.reduceAdd, Nat.reduceSub, Option.bind_some, Option.map_some, Option.bind_none, Option.map_none, ↓reduceIte, Bool.false_eq_true, szK, sz0, sz1, sz2, sz3, sz4, if_pos rfl, mTGet, mTPut, mTIn, mTDisp, mAug, eq]
    refine Ok.some (.inl ⟨hb, rfl, _, rfl⟩)
  · have eq : gEq (intsL (nextP ls h R)) (.lst []) (S ++ [ordO G, seenO G]) = some (.bl false, S ++ [ordO G, seenO G]) := by
      rw [eq_intsL_nil]
      cases q : nextP ls h R with
      | nil => exact absurd q hb
      | cons _ _ => rfl
    refine k_nx (E1 := NE hs cs ls S.length (n : Int) (some (.str (sg h))) (some (intsL (nextP ls h R))) (some (.str (txt (u ++ [h]))))) (S1 := S ++ [ordO G, seenO G]) (by simp only [fnM, runB, mSeq, mAsg, mDPut, mDGet, mPar, mPar3, mgName, mgTup, mgCons, mgNil, mVar, mC, mOp, mTest, mAnd, mOr, mNot, mNotV, mIf, mIfS, mRet, mRetN, mDrop, mNext, mCall, mCons, mNil, mTup, mLst, mLstM, mBlt, mBM, mBM0, mFrz, mFld, mSetF, mYes, mSl, mNoPart, mPart, mSeqI, mRng1, mRng2, mZip, mEnumerate, mMe, mMeK, mNew, mNever, mAndV, mOrV, mDGet2, mDNew, mDisp, mPairs, mRevS, mEnumS, mListVals, mTupR, mKwC, mInD, mNeg, mRev, mRevM, List.map_cons, List.map_nil, List.length_cons, List.length_nil, List.replicate_succ, List.replicate_zero, List.cons_append, List.nil_append, List.append_nil, List.getD_cons_zero, List.getD_cons_succ, List.set_cons_zero, List.set_cons_succ, List.getElem?_cons_zero, List.getElem?_cons_succ, Nat.zero_add, Nat.reduceAdd, Nat.reduceSub, Option.bind_some, Option.map_some, Option.bind_none, Option.map_none, ↓reduceIte, Bool.false_eq_true, szK, sz0, sz1, sz2, sz3, sz4, if_pos rfl, eq]) ?_
    have gt : ∀ T, gTupC [intsL (nextP ls h R)] T = some (intsT (nextP ls h R), T) := fun T => rfl
    have vt : viewT (S ++ [ordO G, seenO G]) (.loc (S.length + 1)) = some (G.map fun e => keysZ e.1, G.map fun _ => .bl true) := by
      unfold viewT
      simp only [two_get1]
      rfl
    by_cases hq : nextP ls h R ∈ G.map (·.1)
    · have an : ((G.map fun e => keysZ e.1).any fun k => decide (k = keysZ (nextP ls h R))) = true := by rw [any_F, decide_eq_true hq]
      simp only [fnM, runB, mSeq, mAsg, mDPut, mDGet, mPar, mPar3, mgName, mgTup, mgCons, mgNil, mVar, mC, mOp, mTest, mAnd, mOr, mNot, mNotV, mIf, mIfS, mRet, mRetN, mDrop, mNext, mCall, mCons, mNil, mTup, mLst, mLstM, mBlt, mBM, mBM0, mFrz, mFld, mSetF, mYes, mSl, mNoPart, mPart, mSeqI, mRng1, mRng2, mZip, mEnumerate, mMe, mMeK, mNew, mNever, mAndV, mOrV, mDGet2, mDNew, mDisp, mPairs, mRevS, mEnumS, mListVals, mTupR, mKwC, mInD, mNeg, mRev, mRevM, List.map_cons, List.map_nil, List.length_cons, List.length_nil, List.replicate_succ, List.replicate_zero, List.cons_append, List.nil_append, List.append_nil, List.getD_cons_zero, List.getD_cons_succ, List.set_cons_zero, List.set_cons_succ, List.getElem?_cons_zero, List.getElem?_cons_succ, Nat.zero_add, Nat.reduceAdd, Nat.reduceSub, Option.bind_some, Option.map_some, Option.bind_none, Option.map_none, ↓reduceIte, Bool.false_eq_true, szK, sz0, sz1, sz2, sz3, sz4, if_pos rfl, mTGet, mTPut, mTIn, mTDisp, mAug, gt, vt, toTK_ints, an, Bool.not_true]
      refine Ok.some (.inr ⟨hb, rfl, _, _, rfl, ?_⟩)
      unfold addF
      rw [if_pos hq]
    · have an : ((G.map fun e => keysZ e.1).any fun k => decide (k = keysZ (nextP ls h R))) = false := by rw [any_F, decide_eq_false hq]
      have ge0 : (S ++ [ordO G, seenO G])[S.length + 1]? = some (.dct (G.map fun e => keysZ e.1) (G.map fun _ => .bl true)) := two_get1 _ _ _
      have lk2 : (G.map fun e => keysZ e.1).length < sizeLine := by rw [List.length_map, sizeLine_eq]; omega
      have tp := tput_S hq (u ++ [h])
      have e1 : ((S ++ [ordO G, seenO G]).set (S.length + 1) (.dct ((G ++ [(nextP ls h R, u ++ [h])]).map fun e => keysZ e.1) ((G ++ [(nextP ls h R, u ++ [h])]).map fun _ => .bl true))) = S ++ [ordO G, seenO (G ++ [(nextP ls h R, u ++ [h])])] := two_set1 _ _ _ _
      have ty : isTy (S ++ [ordO G, seenO (G ++ [(nextP ls h R, u ++ [h])])]) "list" (.loc S.length) = true := by
        show (("list" == "list" && (viewL _ (.loc S.length)).isSome) || _) = true
        simp only [viewL, viewW, two_get0]
        rfl
      have gp : gAppend (.loc S.length) [.tup [intsL (nextP ls h R), .str (txt (u ++ [h]))]] (S ++ [ordO G, seenO (G ++ [(nextP ls h R, u ++ [h])])]) = some (.non, S ++ [ordO (G ++ [(nextP ls h R, u ++ [h])]), seenO (G ++ [(nextP ls h R, u ++ [h])])]) := by
        unfold gAppend
        simp only [two_get0]
        unfold ordO
        simp only
        rw [if_pos (by rw [List.length_map, sizeLine_eq]; omega), two_set0, List.map_append]
        rfl
      have s2 : (2 : Nat) ≤ sizeLine := sz2
      simp only [fnM, runB, mSeq, mAsg, mDPut, mDGet, mPar, mPar3, mgName, mgTup, mgCons, mgNil, mVar, mC, mOp, mTest, mAnd, mOr, mNot, mNotV, mIf, mIfS, mRet, mRetN, mDrop, mNext, mCall, mCons, mNil, mTup, mLst, mLstM, mBlt, mBM, mBM0, mFrz, mFld, mSetF, mYes, mSl, mNoPart, mPart, mSeqI, mRng1, mRng2, mZip, mEnumerate, mMe, mMeK, mNew, mNever, mAndV, mOrV, mDGet2, mDNew, mDisp, mPairs, mRevS, mEnumS, mListVals, mTupR, mKwC, mInD, mNeg, mRev, mRevM, List.map_cons, List.map_nil, List.length_cons, List.length_nil, List.replicate_succ, List.replicate_zero, List.cons_append, List.nil_append, List.append_nil, List.getD_cons_zero, List.getD_cons_succ, List.set_cons_zero, List.set_cons_succ, List.getElem?_cons_zero, List.getElem?_cons_succ, Nat.zero_add, Nat.reduceAdd, Nat.reduceSub, Option.bind_some, Option.map_some, Option.bind_none, Option.map_none, ↓reduceIte, Bool.false_eq_true, szK, sz0, sz1, sz2, sz3, sz4, if_pos rfl, mTGet, mTPut, mTIn, mTDisp, mAug, gt, vt, toTK_ints, an, Bool.not_false, ge0, lk2, tp, e1, ty, s2, gp]
      refine Ok.some (.inr ⟨hb, rfl, _, _, rfl, ?_⟩)
      unfold addF
      rw [if_neg hq]
abbrev lawFor : MS := mFor (mSeqI (mDGet (mVar 0) (mC (.str "heard")))) (mgName 4) lawStep
theorem law_for (w : WOk hs cs ls) {S : Sto} (hS : LowS S) {F : List Ent} {n : Nat} {R : List Int} {u : List Nat} (I : FI ls hs.cps.toList F n) (hat : F[n]? = some (R, u)) {x4 x5 x6 : Option D} :
    Ok (lawFor (NE hs cs ls S.length (n : Int) x4 x5 x6) (S ++ [ordO F, seenO F])) fun q =>
      (∃ t X, Spec ls hs.cps.toList (some t) ∧ t.length ≤ 33 ∧ q.1 = .rt (.str (txt t)) ∧ q.2.2 = S ++ X) ∨ (∃ F' x4 x5 x6, FI ls hs.cps.toList F' (n + 1) ∧ n < F'.length ∧ q.1 = .nx ∧ q.2.1 = NE hs cs ls S.length (n : Int) x4 x5 x6 ∧ q.2.2 = S ++ [ordO F', seenO F']) := by
  have hi : mSeqI (mDGet (mVar 0) (mC (.str "heard"))) (NE hs cs ls S.length (n : Int) x4 x5 x6) (S ++ [ordO F, seenO F]) = some (hs.cps.toList.map fun c => D.str (sg c), S ++ [ordO F, seenO F]) := by
    simp only [fnM, runB, mSeq, mAsg, mDPut, mDGet, mPar, mPar3, mgName, mgTup, mgCons, mgNil, mVar, mC, mOp, mTest, mAnd, mOr, mNot, mNotV, mIf, mIfS, mRet, mRetN, mDrop, mNext, mCall, mCons, mNil, mTup, mLst, mLstM, mBlt, mBM, mBM0, mFrz, mFld, mSetF, mYes, mSl, mNoPart, mPart, mSeqI, mRng1, mRng2, mZip, mEnumerate, mMe, mMeK, mNew, mNever, mAndV, mOrV, mDGet2, mDNew, mDisp, mPairs, mRevS, mEnumS, mListVals, mTupR, mKwC, mInD, mNeg, mRev, mRevM, List.map_cons, List.map_nil, List.length_cons, List.length_nil, List.replicate_succ, List.replicate_zero, List.cons_append, List.nil_append, List.append_nil, List.getD_cons_zero, List.getD_cons_succ, List.set_cons_zero, List.set_cons_succ, List.getElem?_cons_zero, List.getElem?_cons_succ, Nat.zero_add, Nat.reduceAdd, Nat.reduceSub, Option.bind_some, Option.map_some, Option.bind_none, Option.map_none, ↓reduceIte, Bool.false_eq_true, szK, sz0, sz1, sz2, sz3, sz4, if_pos rfl, v_wd, k_hs, w_hs, viewF]
    rfl
  have hlt : n < F.length := (List.getElem?_eq_some_iff.mp hat).1
  have ha := w.h.2.1
  refine k_for hi (fun i E S' => ∃ G T x4 x5 x6, GI ls hs.cps.toList F n R u G T (hs.cps.toList.take i) ∧ (∀ a ∈ hs.cps.toList.take i, nextP ls a R ≠ []) ∧ E = NE hs cs ls S.length (n : Int) x4 x5 x6 ∧ S' = S ++ [ordO G, seenO G]) ⟨F, [], x4, x5, x6, by rw [List.take_zero]; exact gi_start I, by simp, rfl, rfl⟩ ?_ ?_
  · rintro i d E S' hd ⟨G, T, x4, x5, x6, g, hok, rfl, rfl⟩
    rw [List.getElem?_map] at hd
    obtain ⟨h, hc, rfl⟩ := map_some' hd
    have hh := List.mem_of_getElem? hc
    have hbelow : ∀ a ∈ hs.cps.toList.take i, a < h := fun a hA => by
      obtain ⟨j, hj, e⟩ := List.getElem_of_mem hA
      rw [List.length_take] at hj
      rw [List.getElem_take] at e
      obtain ⟨hi1, hi2⟩ := List.getElem?_eq_some_iff.mp hc
      rw [← e, ← hi2]
      exact List.pairwise_iff_getElem.mp ha j i (by omega) hi1 (by omega)
    have tk : hs.cps.toList.take (i + 1) = hs.cps.toList.take i ++ [h] := by rw [List.take_add_one, hc]; rfl
    refine ⟨(NE hs cs ls S.length (n : Int) (some (.str (sg h))) x5 x6, S ++ [ordO G, seenO G]), rfl, ?_⟩
    refine (law_step w hS I hat g hh).mono ?_
    rintro ⟨o, E, S'⟩ (⟨hb, ho, X, hX⟩ | ⟨hb, ho, y5, y6, hE, hS'⟩)
    · dsimp only at ho hX
      subst ho hX
      refine .inl ⟨u ++ [h], X, spec_some I hat hh hb fun a hA hlt => ?_, ?_, rfl, rfl⟩
      · refine hok a ?_
        obtain ⟨j, hj, e⟩ := List.getElem_of_mem hA
        obtain ⟨hi1, hi2⟩ := List.getElem?_eq_some_iff.mp hc
        have hji : j < i := Decidable.byContradiction fun hn => by
          rcases Nat.eq_or_lt_of_le (Nat.le_of_not_lt hn) with q | q
          · subst q; rw [hi2] at e; omega
          · have := List.pairwise_iff_getElem.mp ha i j hi1 hj q
            rw [hi2, e] at this
            omega
        rw [List.mem_take_iff_getElem]
        exact ⟨j, by omega, e⟩
      · have := fi_txt w I (List.mem_of_getElem? hat)
        simp only [List.length_append, List.length_singleton] at *
        omega
    · dsimp only at ho hE hS'
      subst ho hE hS'
      obtain ⟨T', g'⟩ := gi_step I hat g hh hbelow hb
      refine ⟨addF ls R u G h, T', _, _, _, by rw [tk]; exact g', fun a hA => ?_, rfl, rfl⟩
      rw [tk] at hA
      rcases List.mem_append.mp hA with z | z
      · exact hok a z
      · rw [List.mem_singleton] at z; rw [z]; exact hb
  · rintro E S' ⟨G, T, x4, x5, x6, g, hok, rfl, rfl⟩
    rw [List.length_map, List.take_length] at g
    refine .inr ⟨G, _, _, _, gi_end I hat g, ?_, rfl, rfl, rfl⟩
    rw [g.eq, List.length_append]
    omega
theorem law_mute_ok (w : WOk hs cs ls) {S : Sto} (hS : LowS S) : Ok (F_law_mute [wd hs cs ls] S) fun p => ∃ r, p = (muteD r, S) ∧ Spec ls hs.cps.toList r ∧ ∀ t, r = some t → t.length ≤ 33 := by
  unfold F_law_mute M_law_mute
  refine k_fn ?_
  have tk0 : toTK (.tup [.int 0]) = some (keysZ [0]) := rfl
  have lg : ∀ o o2 : O, (S ++ [o, o2])[S.length + 1]? = some o2 := fun o o2 => two_get1 _ _ _
  have ls2 : ∀ o o2 o3 : O, (S ++ [o, o2]).set (S.length + 1) o3 = S ++ [o, o3] := fun o o2 o3 => two_set1 _ _ _ _
  refine k_nx (E1 := NE hs cs ls S.length 0 none none none) (S1 := S ++ [ordO [([0], [])], seenO [([0], [])]]) (by
    simp only [fnM, runB, mSeq, mAsg, mDPut, mDGet, mPar, mPar3, mgName, mgTup, mgCons, mgNil, mVar, mC, mOp, mTest, mAnd, mOr, mNot, mNotV, mIf, mIfS, mRet, mRetN, mDrop, mNext, mCall, mCons, mNil, mTup, mLst, mLstM, mBlt, mBM, mBM0, mFrz, mFld, mSetF, mYes, mSl, mNoPart, mPart, mSeqI, mRng1, mRng2, mZip, mEnumerate, mMe, mMeK, mNew, mNever, mAndV, mOrV, mDGet2, mDNew, mDisp, mPairs, mRevS, mEnumS, mListVals, mTupR, mKwC, mInD, mNeg, mRev, mRevM, List.map_cons, List.map_nil, List.length_cons, List.length_nil, List.replicate_succ, List.replicate_zero, List.cons_append, List.nil_append, List.append_nil, List.getD_cons_zero, List.getD_cons_succ, List.set_cons_zero, List.set_cons_succ, List.getElem?_cons_zero, List.getElem?_cons_succ, Nat.zero_add, Nat.reduceAdd, Nat.reduceSub, Option.bind_some, Option.map_some, Option.bind_none, Option.map_none, ↓reduceIte, Bool.false_eq_true, szK, sz0, sz1, sz2, sz3, sz4, if_pos rfl, mTGet, mTPut, mTIn, mTDisp, mAug, mPar3, tk0, lg, ls2, List.length_append, List.append_assoc]
    rfl) ?_
  refine k_seq (k_while 33 (fun n E S' => ∃ F x4 x5 x6, FI ls hs.cps.toList F n ∧ n ≤ F.length ∧ E = NE hs cs ls S.length (n : Int) x4 x5 x6 ∧ S' = S ++ [ordO F, seenO F]) ?_ 100000 0 _ _ (by decide) ⟨_, none, none, none, fi_start w, Nat.zero_le _, rfl, rfl⟩)
  rintro n E S' ⟨F, x4, x5, x6, I, hn, rfl, rfl⟩
  have fl := fi_len w I
  have ll : gLenS [.loc S.length] (S ++ [ordO F, seenO F]) = some (.int F.length, S ++ [ordO F, seenO F]) := by
    show (viewS _ _).map _ = _
    simp only [viewS, viewL, viewW, two_get0]
    unfold ordO
    simp only [Option.map_some, List.length_map]
  by_cases hlt : n < F.length
  · have c1 : decide (((n : Nat) : Int) < ((F.length : Nat) : Int)) = true := decide_eq_true (by omega)
    obtain ⟨⟨R, u⟩, hat⟩ : ∃ e, F[n]? = some e := ⟨_, List.getElem?_eq_getElem hlt⟩
    refine .inl ⟨S ++ [ordO F, seenO F], by simp only [fnM, runB, mSeq, mAsg, mDPut, mDGet, mPar, mPar3, mgName, mgTup, mgCons, mgNil, mVar, mC, mOp, mTest, mAnd, mOr, mNot, mNotV, mIf, mIfS, mRet, mRetN, mDrop, mNext, mCall, mCons, mNil, mTup, mLst, mLstM, mBlt, mBM, mBM0, mFrz, mFld, mSetF, mYes, mSl, mNoPart, mPart, mSeqI, mRng1, mRng2, mZip, mEnumerate, mMe, mMeK, mNew, mNever, mAndV, mOrV, mDGet2, mDNew, mDisp, mPairs, mRevS, mEnumS, mListVals, mTupR, mKwC, mInD, mNeg, mRev, mRevM, List.map_cons, List.map_nil, List.length_cons, List.length_nil, List.replicate_succ, List.replicate_zero, List.cons_append, List.nil_append, List.append_nil, List.getD_cons_zero, List.getD_cons_succ, List.set_cons_zero, List.set_cons_succ, List.getElem?_cons_zero, List.getElem?_cons_succ, Nat.zero_add, Nat.reduceAdd, Nat.reduceSub, Option.bind_some, Option.map_some, Option.bind_none, Option.map_none, ↓reduceIte, Bool.false_eq_true, szK, sz0, sz1, sz2, sz3, sz4, if_pos rfl, ll, g_lt, c1], by omega, ?_⟩
    obtain ⟨⟨o, E, S'⟩, ef, q⟩ := law_for w hS I hat (x4 := x4) (x5 := x5) (x6 := x6)
    rcases q with ⟨t, X, hsp, htl, ho, hX⟩ | ⟨F', y4, y5, y6, I', hn', ho, hE, hS'⟩
    · dsimp only at ho hX
      subst ho hX
      refine ⟨(.rt (.str (txt t)), E, S ++ X), ?_, ?_⟩
      · exact k_seqR ef
      · dsimp only
        rw [trim_app rfl hS]
        exact ⟨some t, rfl, hsp, fun t' e => by cases e; exact htl⟩
    · dsimp only at ho hE hS'
      subst ho hE hS'
      refine ⟨(.nx, NE hs cs ls S.length ((n : Int) + 1) y4 y5 y6, S ++ [ordO F', seenO F']), ?_, ?_⟩
      · rw [k_seqE ef]
        exact k_asgN (k_op (k_v rfl) k_c (g_add _ _ _))
      · exact ⟨F', y4, y5, y6, I', hn', by rw [Int.natCast_succ], rfl⟩
  · have c1 : decide (((n : Nat) : Int) < ((F.length : Nat) : Int)) = false := decide_eq_false (by omega)
    refine .inr ⟨S ++ [ordO F, seenO F], by simp only [fnM, runB, mSeq, mAsg, mDPut, mDGet, mPar, mPar3, mgName, mgTup, mgCons, mgNil, mVar, mC, mOp, mTest, mAnd, mOr, mNot, mNotV, mIf, mIfS, mRet, mRetN, mDrop, mNext, mCall, mCons, mNil, mTup, mLst, mLstM, mBlt, mBM, mBM0, mFrz, mFld, mSetF, mYes, mSl, mNoPart, mPart, mSeqI, mRng1, mRng2, mZip, mEnumerate, mMe, mMeK, mNew, mNever, mAndV, mOrV, mDGet2, mDNew, mDisp, mPairs, mRevS, mEnumS, mListVals, mTupR, mKwC, mInD, mNeg, mRev, mRevM, List.map_cons, List.map_nil, List.length_cons, List.length_nil, List.replicate_succ, List.replicate_zero, List.cons_append, List.nil_append, List.append_nil, List.getD_cons_zero, List.getD_cons_succ, List.set_cons_zero, List.set_cons_succ, List.getElem?_cons_zero, List.getElem?_cons_succ, Nat.zero_add, Nat.reduceAdd, Nat.reduceSub, Option.bind_some, Option.map_some, Option.bind_none, Option.map_none, ↓reduceIte, Bool.false_eq_true, szK, sz0, sz1, sz2, sz3, sz4, if_pos rfl, ll, g_lt, c1], ?_⟩
    dsimp only
    refine Ok.some ?_
    dsimp only
    rw [trim_app rfl hS]
    have e : n = F.length := by omega
    subst e
    exact ⟨none, rfl, spec_none I, fun t' e => nomatch e⟩
theorem law_mute_is (w : WOk hs cs ls) {r : Option (List Nat)} (h : Spec ls hs.cps.toList r) {S : Sto} (hS : LowS S) : F_law_mute [wd hs cs ls] S = some (muteD r, S) := by
  obtain ⟨p, e, r', rfl, hr', _⟩ := law_mute_ok w hS
  rw [e, spec_uniq hr' h]
theorem spec_ex (w : WOk hs cs ls) : ∃ r, Spec ls hs.cps.toList r ∧ ∀ t, r = some t → t.length ≤ 33 := by
  have h0 : LowS [] := fun m _ => rfl
  obtain ⟨p, _, r, rfl, hr, hl⟩ := law_mute_ok w h0
  exact ⟨r, hr, hl⟩
end
end Law
namespace Law
open PySem L2 PyProof.Rows DL
theorem k_blt {g : MR} {m : MA} {E : DL.Env} {S S1 : Sto} {ds : List D} {r : Option (D × Sto)} (h : m E S = some (ds, S1)) (h2 : g ds S1 = r) : mBlt g m E S = r := by
  unfold mBlt
  rw [h, Option.bind_some]
  exact h2
/-! ### a lot: (state, heard, written) to a state -/
abbrev Lt := Int × Nat × Nat × Int
def kE (e : Lt) : List Key := [.inl e.1, .inr (sg e.2.1), .inr (sg e.2.2.1)]
def kD3 (e : Lt) : D := .tup [.int e.1, .str (sg e.2.1), .str (sg e.2.2.1)]
def lotO (L : List Lt) : O := .dct (L.map kE) (L.map fun e => .int e.2.2.2)
def lotK (L : List Lt) : O := .lk (L.map kE) (L.map fun e => .int e.2.2.2)
theorem kE_iff (a b : Lt) : kE a = kE b ↔ a.1 = b.1 ∧ a.2.1 = b.2.1 ∧ a.2.2.1 = b.2.2.1 := by
  unfold kE
  constructor
  · intro e
    simp only [List.cons.injEq, Sum.inl.injEq, Sum.inr.injEq, sg_eq, and_true] at e
    exact e
  · rintro ⟨h1, h2, h3⟩
    rw [h1, h2, h3]
theorem keyT_kE (e : Lt) : keyT (kE e) = kD3 e := rfl
theorem toTK_kD3 (e : Lt) : toTK (kD3 e) = some (kE e) := rfl
def KNd (L : List Lt) : Prop := L.Pairwise fun a b => kE a ≠ kE b
theorem tlook_lot : ∀ {L : List Lt} {e : Lt}, KNd L → e ∈ L → tlook (L.map kE) (L.map fun e => .int e.2.2.2) (kE e) = some (.int e.2.2.2)
  | [], _, _, h => nomatch h
  | a :: L, e, nd, h => by
    obtain ⟨n1, n2⟩ := List.pairwise_cons.mp nd
    rw [List.map_cons, List.map_cons, tlook]
    rcases List.mem_cons.mp h with z | z
    · subst z
      rw [if_pos rfl]
    · rw [if_neg (n1 e z)]
      exact tlook_lot n2 z
theorem low_lot (n : Nat) (L : List Lt) : (lotO L).low n = true := by
  unfold lotO
  simp only [O.low]
  exact low_all n (fun e : Lt => D.int e.2.2.2) (fun e => rfl) L
theorem low_lotK (n : Nat) (L : List Lt) : (lotK L).low n = true := by
  unfold lotK
  simp only [O.low]
  exact low_all n (fun e : Lt => D.int e.2.2.2) (fun e => rfl) L
theorem lows_set {S : Sto} {n : Nat} {o : O} (h : LowS S) (ho : ∀ m, o.low m = true) : LowS (S.set n o) := fun m hm => by
  rw [List.length_set] at hm
  have := h m hm
  rw [List.all_eq_true] at this ⊢
  intro x hx
  rcases List.mem_or_eq_of_mem_set hx with z | z
  · exact this x z
  · rw [z]; exact ho m
theorem set_same {S : Sto} {n : Nat} {o : O} (h : S[n]? = some o) : S.set n o = S := by
  refine List.ext_getElem? fun i => ?_
  by_cases q : n = i
  · subst q
    rw [List.getElem?_set_self (List.getElem?_eq_some_iff.mp h).1, h]
  · rw [List.getElem?_set_ne q]
/-! ### rows, sorted -/
def mK (m : Mv) : List Key := [.inr (sg m.1), .inr (sg m.2.1), .inl m.2.2]
def mlt (a b : Mv) : Bool := lexK (mK a) (mK b)
theorem keyed_tri : ∀ R : List Mv, keyed (R.map tri) = some (R.map fun m => (mK m, tri m))
  | [] => rfl
  | m :: R => by
    have ih := keyed_tri R
    rw [List.map_cons]
    unfold tri at ih ⊢
    rw [keyed, ih]
    rfl
theorem sort_tri (R : List Mv) (S : Sto) : gSortK [.lst (R.map tri)] S = some (.lst ((isrt mlt R).map tri), S) := by
  unfold gSortK
  have al : ((R.map fun m => (mK m, tri m)).all fun x => !x.1.isEmpty && (R.map fun m => (mK m, tri m)).all fun y => sameT x.1 y.1) = true := by
    rw [List.all_map, List.all_eq_true]
    intro x _
    show (true && (R.map fun m => (mK m, tri m)).all fun y => sameT (mK x) y.1) = true
    rw [List.all_map, Bool.true_and]
    exact List.all_eq_true.mpr fun y _ => rfl
  have im := isrt_map (lt := ltF (α := D)) (fun m : Mv => (mK m, tri m)) R
  simp only [viewL, viewW, Option.bind_some, keyed_tri, al, if_true, ← im, List.map_map]
  rfl
theorem swoM : SrtO.Swo mlt := swo_by (swo_of linK) mK
def rowOf (L : List Lt) (s : Int) : List Mv := isrt mlt ((L.filter fun e => decide (e.1 = s)).map fun e => (e.2.1, e.2.2.1, e.2.2.2))
def rowsOf (L : List Lt) (n : Nat) : List (List Mv) := (List.range n).map fun s => rowOf L (s : Nat)
theorem rowOf_mem {L : List Lt} {s : Int} {m : Mv} : m ∈ rowOf L s ↔ ∃ e ∈ L, e.1 = s ∧ (e.2.1, e.2.2.1, e.2.2.2) = m := by
  unfold rowOf
  rw [(isrt_perm _).mem_iff, List.mem_map]
  constructor
  · rintro ⟨e, he, q⟩
    obtain ⟨a, b⟩ := List.mem_filter.mp he
    exact ⟨e, a, of_decide_eq_true b, q⟩
  · rintro ⟨e, a, b, q⟩
    exact ⟨e, List.mem_filter.mpr ⟨a, decide_eq_true b⟩, q⟩
theorem mlt_lex {a b : Mv} (ne : (a.1, a.2.1) ≠ (b.1, b.2.1)) (h : mlt b a = false) : lexM a b := by
  unfold mlt mK at h
  simp only [lexK] at h
  by_cases h1 : b.1 = a.1
  · rw [if_pos (by rw [h1])] at h
    have h2 : ¬ b.2.1 = a.2.1 := fun q => ne (by rw [h1, q])
    rw [if_neg (fun q => h2 ((sg_eq _ _).mp (Sum.inr.inj q)))] at h
    have h3 : ltX (sg b.2.1) (sg a.2.1) = false := h
    rw [ltX_sg] at h3
    have := of_decide_eq_false h3
    exact .inr ⟨h1.symm, by omega⟩
  · rw [if_neg (fun q => h1 ((sg_eq _ _).mp (Sum.inr.inj q)))] at h
    have h3 : ltX (sg b.1) (sg a.1) = false := h
    rw [ltX_sg] at h3
    have := of_decide_eq_false h3
    exact .inl (by omega)
structure LotOk (hs cs : List Nat) (n : Nat) (L : List Lt) : Prop where
  nd : KNd L
  mem : ∀ e ∈ L, 0 ≤ e.1 ∧ e.1 < n ∧ e.2.1 ∈ hs ∧ e.2.2.1 ∈ cs ∧ 0 ≤ e.2.2.2 ∧ e.2.2.2 < n
theorem row_nd {L : List Lt} (nd : KNd L) (s : Int) : ((rowOf L s).map fun m => (m.1, m.2.1)).Nodup := by
  have p : ((L.filter fun e => decide (e.1 = s)).map fun e : Lt => (e.2.1, e.2.2.1, e.2.2.2)).Pairwise fun a b => (a.1, a.2.1) ≠ (b.1, b.2.1) := by
    refine List.pairwise_map.mpr ((nd.sublist List.filter_sublist).imp_of_mem fun {a b} ha hb q e => q ?_)
    have h1 := of_decide_eq_true (List.mem_filter.mp ha).2
    have h2 := of_decide_eq_true (List.mem_filter.mp hb).2
    obtain ⟨q1, q2⟩ := Prod.mk.inj e
    exact (kE_iff a b).mpr ⟨h1.trans h2.symm, q1, q2⟩
  refine List.pairwise_map.mpr ?_
  exact (isrt_perm _).symm.pairwise p fun {a b} h e => h e.symm
theorem rowOf_ok {hs cs : List Nat} {n : Nat} {L : List Lt} (h : LotOk hs cs n L) (h3 : hs.length ≤ 3) (c3 : cs.length ≤ 3) (s : Int) : RowOk hs cs n (rowOf L s) ∧ (rowOf L s).length ≤ 9 := by
  have nd := row_nd h.nd s
  have mem : ∀ m ∈ rowOf L s, m.1 ∈ hs ∧ m.2.1 ∈ cs ∧ 0 ≤ m.2.2 ∧ m.2.2 < n := fun m hm => by
    obtain ⟨e, he, _, rfl⟩ := rowOf_mem.mp hm
    obtain ⟨_, _, a, b, c, d⟩ := h.mem e he
    exact ⟨a, b, c, d⟩
  refine ⟨⟨?_, mem⟩, ?_⟩
  · have st : (rowOf L s).Pairwise fun a b => mlt b a = false := isrt_srtd swoM _
    have p := List.pairwise_map.mp nd
    exact List.Pairwise.imp (fun {a b} q => mlt_lex q.2 q.1) (st.and p)
  · have := nd_len (ys := hs.flatMap fun a => cs.map fun b => (a, b)) nd fun x hx => by
      obtain ⟨m, hm, rfl⟩ := List.mem_map.mp hx
      obtain ⟨a, b, _⟩ := mem m hm
      exact List.mem_flatMap.mpr ⟨m.1, a, List.mem_map.mpr ⟨m.2.1, b, rfl⟩⟩
    rw [List.length_map] at this
    have fl := flat_len (fun a : Nat => cs.map fun b => (a, b)) (m := 3) (xs := hs) (fun a _ => by rw [List.length_map]; exact c3)
    omega
theorem rows_wok {hs cs : Str} {n : Nat} {L : List Lt} (Hh : Letters hs) (Hc : Letters cs) (h : LotOk hs.cps.toList cs.cps.toList n L) (h1 : 1 ≤ n) (h5 : n ≤ 5) : WOk hs cs (rowsOf L n) := by
  have el : (rowsOf L n).length = n := by unfold rowsOf; rw [List.length_map, List.length_range]
  refine ⟨Hh, Hc, by rw [el]; exact h1, by rw [el]; exact h5, fun row hr => ?_⟩
  rw [el]
  unfold rowsOf at hr
  obtain ⟨s, _, rfl⟩ := List.mem_map.mp hr
  exact rowOf_ok h Hh.2.2.2 Hc.2.2.2 _
theorem rowA_rows {L : List Lt} {n : Nat} {s : Int} (h : 0 ≤ s ∧ s < n) : rowA (rowsOf L n) s = rowOf L s := by
  unfold rowA rowsOf
  rw [List.getElem?_map, List.getElem?_range (by omega)]
  show rowOf L ((s.toNat : Nat) : Int) = _
  rw [show ((s.toNat : Nat) : Int) = s by omega]
/-! ### the rules that a lot tells -/
section
variable {S : Sto} {L : Nat} {lot : List Lt} {hs cs : Str} {n : Nat}
abbrev SE' (hs cs : Str) (n : Int) (L : Nat) (x4 x5 : Option D) : DL.Env := [some (.str hs), some (.str cs), some (.int n), some (.loc L), x4, x5, none, none, none]
abbrev lotComp : ME := mLockT 3 (mComp (mKeysT 3) (mgTup 3 (mgCons (mgName 6) (mgCons (mgName 7) (mgCons (mgName 8) (mgNil))))) (mTest (mOp gEq (mVar 6) (mVar 5))) (mTup (mCons (mVar 7) (mCons (mVar 8) (mCons (mTGet (mVar 3) (mTup (mCons (mVar 6) (mCons (mVar 7) (mCons (mVar 8) (mNil)))))) (mNil))))) [6, 7, 8])
theorem lot_comp {T : Sto} (hT : LowS T) (hL : T[L]? = some (lotO lot)) (nd : KNd lot) (hl : lot.length ≤ 1000) {s nn : Int} {x4 : Option D} :
    lotComp (SE' hs cs nn L x4 (some (.int s))) T = some (.lst (((lot.filter fun e => decide (e.1 = s)).map fun e => (e.2.1, e.2.2.1, e.2.2.2)).map tri), T) := by
  have hn : L < T.length := (List.getElem?_eq_some_iff.mp hL).1
  have hk : (T.set L (lotK lot))[L]? = some (lotK lot) := List.getElem?_set_self hn
  have lo : LowS (T.set L (lotK lot)) := lows_set hT fun m => low_lotK m lot
  have hi : mKeysT 3 (SE' hs cs nn L x4 (some (.int s))) (T.set L (lotK lot)) = some (lot.map kD3, T.set L (lotK lot)) := by
    unfold mKeysT
    show (match (T.set L (lotK lot))[L]? with | some (.lk ks _) => some (ks.map keyT, T.set L (lotK lot)) | _ => none) = _
    rw [hk]
    unfold lotK
    dsimp only
    rw [List.map_map]
    rfl
  have s3 : (3 : Nat) ≤ sizeLine := sz3
  have cp := comp_pure (vs := [6, 7, 8]) (t := mTest (mOp gEq (mVar 6) (mVar 5))) (g := mgTup 3 (mgCons (mgName 6) (mgCons (mgName 7) (mgCons (mgName 8) (mgNil))))) (e := mTup (mCons (mVar 7) (mCons (mVar 8) (mCons (mTGet (mVar 3) (mTup (mCons (mVar 6) (mCons (mVar 7) (mCons (mVar 8) (mNil)))))) (mNil))))) lot kD3 (fun e => decide (e.1 = s)) (fun e => tri (e.2.1, e.2.2.1, e.2.2.2))
    (fun e => [some (.str hs), some (.str cs), some (.int nn), some (.loc L), x4, some (.int s), some (.int e.1), some (.str (sg e.2.1)), some (.str (sg e.2.2.1))]) hi (by
    intro e he acc
    have l3 : ([.int e.1, .str (sg e.2.1), .str (sg e.2.2.1)] : List D).length = 3 := rfl
    have vt : viewT (T.set L (lotK lot) ++ [O.lst acc]) (.loc L) = some (lot.map kE, lot.map fun e => .int e.2.2.2) := by
      have : (T.set L (lotK lot) ++ [O.lst acc])[L]? = some (lotK lot) := by rw [List.getElem?_append_left (by rw [List.length_set]; exact hn)]; exact hk
      unfold viewT
      simp only [this]
      unfold lotK
      rfl
    have tk : toTK (.tup [.int e.1, .str (sg e.2.1), .str (sg e.2.2.1)]) = some (kE e) := rfl
    have tl := tlook_lot nd he
    unfold kD3
    refine ⟨by simp only [fnM, runB, mSeq, mAsg, mDPut, mDGet, mPar, mPar3, mgName, mgTup, mgCons, mgNil, mVar, mC, mOp, mTest, mAnd, mOr, mNot, mNotV, mIf, mIfS, mRet, mRetN, mDrop, mNext, mCall, mCons, mNil, mTup, mLst, mLstM, mBlt, mBM, mBM0, mFrz, mFld, mSetF, mYes, mSl, mNoPart, mPart, mSeqI, mRng1, mRng2, mZip, mEnumerate, mMe, mMeK, mNew, mNever, mAndV, mOrV, mDGet2, mDNew, mDisp, mPairs, mRevS, mEnumS, mListVals, mTupR, mKwC, mInD, mNeg, mRev, mRevM, List.map_cons, List.map_nil, List.length_cons, List.length_nil, List.replicate_succ, List.replicate_zero, List.cons_append, List.nil_append, List.append_nil, List.getD_cons_zero, List.getD_cons_succ, List.set_cons_zero, List.set_cons_succ, List.getElem?_cons_zero, List.getElem?_cons_succ, Nat.zero_add, Nat.reduceAdd, Nat.reduceSub, Option.bind_some, Option.map_some, Option.bind_none, Option.map_none, ↓reduceIte, Bool.false_eq_true, szK, sz0, sz1, sz2, sz3, sz4, if_pos rfl, wipeE, List.foldl_cons, List.foldl_nil], by simp only [fnM, runB, mSeq, mAsg, mDPut, mDGet, mPar, mPar3, mgName, mgTup, mgCons, mgNil, mVar, mC, mOp, mTest, mAnd, mOr, mNot, mNotV, mIf, mIfS, mRet, mRetN, mDrop, mNext, mCall, mCons, mNil, mTup, mLst, mLstM, mBlt, mBM, mBM0, mFrz, mFld, mSetF, mYes, mSl, mNoPart, mPart, mSeqI, mRng1, mRng2, mZip, mEnumerate, mMe, mMeK, mNew, mNever, mAndV, mOrV, mDGet2, mDNew, mDisp, mPairs, mRevS, mEnumS, mListVals, mTupR, mKwC, mInD, mNeg, mRev, mRevM, List.map_cons, List.map_nil, List.length_cons, List.length_nil, List.replicate_succ, List.replicate_zero, List.cons_append, List.nil_append, List.append_nil, List.getD_cons_zero, List.getD_cons_succ, List.set_cons_zero, List.set_cons_succ, List.getElem?_cons_zero, List.getElem?_cons_succ, Nat.zero_add, Nat.reduceAdd, Nat.reduceSub, Option.bind_some, Option.map_some, Option.bind_none, Option.map_none, ↓reduceIte, Bool.false_eq_true, szK, sz0, sz1, sz2, sz3, sz4, if_pos rfl, eq_ii], fun _ => ?_⟩
    simp only [fnM, runB, mSeq, mAsg, mDPut, mDGet, mPar, mPar3, mgName, mgTup, mgCons, mgNil, mVar, mC, mOp, mTest, mAnd, mOr, mNot, mNotV, mIf, mIfS, mRet, mRetN, mDrop, mNext, mCall, mCons, mNil, mTup, mLst, mLstM, mBlt, mBM, mBM0, mFrz, mFld, mSetF, mYes, mSl, mNoPart, mPart, mSeqI, mRng1, mRng2, mZip, mEnumerate, mMe, mMeK, mNew, mNever, mAndV, mOrV, mDGet2, mDNew, mDisp, mPairs, mRevS, mEnumS, mListVals, mTupR, mKwC, mInD, mNeg, mRev, mRevM, List.map_cons, List.map_nil, List.length_cons, List.length_nil, List.replicate_succ, List.replicate_zero, List.cons_append, List.nil_append, List.append_nil, List.getD_cons_zero, List.getD_cons_succ, List.set_cons_zero, List.set_cons_succ, List.getElem?_cons_zero, List.getElem?_cons_succ, Nat.zero_add, Nat.reduceAdd, Nat.reduceSub, Option.bind_some, Option.map_some, Option.bind_none, Option.map_none, ↓reduceIte, Bool.false_eq_true, szK, sz0, sz1, sz2, sz3, sz4, if_pos rfl, mTGet, mTPut, mTIn, mTDisp, mAug, s3, vt, tk, tl]
    rfl) (by
      rw [sizeLine_eq]
      have := List.length_filter_le (fun e : Lt => decide (e.1 = s)) lot
      omega) (low_all _ _ (fun e => by simp [tri, D.low, lowAll]) _) lo
  show (match T[L]? with | some (.dct ks ds) => (mComp _ _ _ _ _ _ (T.set L (.lk ks ds))).bind _ | _ => none) = _
  rw [hL]
  unfold lotO
  dsimp only
  have ek : (O.lk (lot.map kE) (lot.map fun e => .int e.2.2.2)) = lotK lot := rfl
  rw [ek, cp, Option.bind_some]
  dsimp only
  rw [if_neg (by rw [List.length_set]; omega), List.set_set, List.map_map]
  have eo : (O.dct (lot.map kE) (lot.map fun e => .int e.2.2.2)) = lotO lot := rfl
  rw [eo, set_same hL]
  rfl
theorem set_ok (hS : LowS S) (hL : S[L]? = some (lotO lot)) (nd : KNd lot) (hl : lot.length ≤ 1000) (hn : n ≤ 5) : F_law_set [.str hs, .str cs, .int n, .loc L] S = some (wd hs cs (rowsOf lot n), S) := by
  refine ok_eq ?_
  unfold F_law_set M_law_set
  refine k_fn ?_
  have hLt : L < S.length := (List.getElem?_eq_some_iff.mp hL).1
  refine k_nx (E1 := SE' hs cs n L (some (.loc S.length)) none) (S1 := S ++ [O.lst []]) (by simp only [fnM, runB, mSeq, mAsg, mDPut, mDGet, mPar, mPar3, mgName, mgTup, mgCons, mgNil, mVar, mC, mOp, mTest, mAnd, mOr, mNot, mNotV, mIf, mIfS, mRet, mRetN, mDrop, mNext, mCall, mCons, mNil, mTup, mLst, mLstM, mBlt, mBM, mBM0, mFrz, mFld, mSetF, mYes, mSl, mNoPart, mPart, mSeqI, mRng1, mRng2, mZip, mEnumerate, mMe, mMeK, mNew, mNever, mAndV, mOrV, mDGet2, mDNew, mDisp, mPairs, mRevS, mEnumS, mListVals, mTupR, mKwC, mInD, mNeg, mRev, mRevM, List.map_cons, List.map_nil, List.length_cons, List.length_nil, List.replicate_succ, List.replicate_zero, List.cons_append, List.nil_append, List.append_nil, List.getD_cons_zero, List.getD_cons_succ, List.set_cons_zero, List.set_cons_succ, List.getElem?_cons_zero, List.getElem?_cons_succ, Nat.zero_add, Nat.reduceAdd, Nat.reduceSub, Option.bind_some, Option.map_some, Option.bind_none, Option.map_none, ↓reduceIte, Bool.false_eq_true, szK, sz0, sz1, sz2, sz3, sz4, if_pos rfl]) ?_
  have hi : mRng1 (mCons (mVar 2) (mNil)) (SE' hs cs n L (some (.loc S.length)) none) (S ++ [O.lst []]) = some (rngD 0 n, S ++ [O.lst []]) := by
    have := g_rng1 (E := SE' hs cs n L (some (.loc S.length)) none) (S := S ++ [O.lst []]) (S1 := S ++ [O.lst []]) (m := mCons (mVar 2) mNil) (j := n) (k_args (k_v rfl) k_nil) (by omega)
    rw [Int.toNat_natCast] at this
    exact this
  refine k_seq (k_for hi (fun i E S' => ∃ x5, E = SE' hs cs n L (some (.loc S.length)) x5 ∧ S' = S ++ [O.lst (((List.range i).map fun s => rowOf lot (s : Nat)).map rowD)]) ⟨_, rfl, rfl⟩ ?_ ?_)
  · rintro i d E S' hd ⟨x5, rfl, rfl⟩
    obtain ⟨hi2, rfl⟩ := rngD_get hd
    rw [Int.zero_add]
    refine ⟨(SE' hs cs n L (some (.loc S.length)) (some (.int (i : Int))), S ++ [O.lst (((List.range i).map fun s => rowOf lot (s : Nat)).map rowD)]), rfl, ?_⟩
    have lo : LowS (S ++ [O.lst (((List.range i).map fun s => rowOf lot (s : Nat)).map rowD)]) := hS.app (low_one fun m => lows_row m _)
    have hL2 : (S ++ [O.lst (((List.range i).map fun s => rowOf lot (s : Nat)).map rowD)])[L]? = some (lotO lot) := by rw [List.getElem?_append_left hLt]; exact hL
    have lc := lot_comp (hs := hs) (cs := cs) (nn := n) (x4 := some (.loc S.length)) lo hL2 nd hl (s := (i : Int))
    have so := sort_tri ((lot.filter fun e => decide (e.1 = ((i : Nat) : Int))).map fun e => (e.2.1, e.2.2.1, e.2.2.2)) (S ++ [O.lst (((List.range i).map fun s => rowOf lot (s : Nat)).map rowD)])
    have gt : ∀ ds : List D, ∀ T : Sto, gTupC [.lst ds] T = some (.tup ds, T) := fun ds T => rfl
    have ty := last_ty S (((List.range i).map fun s => rowOf lot (s : Nat)).map rowD)
    have ga : gAppend (.loc S.length) [rowD (rowOf lot (i : Nat))] (S ++ [O.lst (((List.range i).map fun s => rowOf lot (s : Nat)).map rowD)]) = some (.non, S ++ [O.lst (((List.range (i + 1)).map fun s => rowOf lot (s : Nat)).map rowD)]) := by
      unfold gAppend
      simp only [last_get]
      rw [if_pos (by rw [List.length_map, List.length_map, List.length_range, sizeLine_eq]; omega), last_set, List.range_succ, List.map_append, List.map_append]
      rfl
    have er : rowD (rowOf lot (i : Nat)) = .tup ((isrt mlt ((lot.filter fun e => decide (e.1 = ((i : Nat) : Int))).map fun e => (e.2.1, e.2.2.1, e.2.2.2))).map tri) := rfl
    rw [er] at ga
    have e1 : mBM "list" gAppend (mVar 4) (mCons (mBlt gTupC (mCons (mBlt gSortK (mCons lotComp (mNil))) (mNil))) (mNil)) (SE' hs cs n L (some (.loc S.length)) (some (.int (i : Int)))) (S ++ [O.lst (((List.range i).map fun s => rowOf lot (s : Nat)).map rowD)]) = some (.non, S ++ [O.lst (((List.range (i + 1)).map fun s => rowOf lot (s : Nat)).map rowD)]) := by
      have b1 := k_blt (g := gSortK) (k_one lc) so
      have b2 := k_blt (g := gTupC) (k_one b1) (gt _ _)
      exact k_bm (k_v rfl) ty (k_one b2) ga
    refine ⟨(.nx, SE' hs cs n L (some (.loc S.length)) (some (.int (i : Int))), S ++ [O.lst (((List.range (i + 1)).map fun s => rowOf lot (s : Nat)).map rowD)]), ?_, _, rfl, rfl⟩
    unfold mDrop
    rw [e1]
    rfl
  · rintro E S' ⟨x5, rfl, rfl⟩
    rw [rngD_len]
    have gL : ∀ o : O, (S ++ [O.lst (((List.range n).map fun s => rowOf lot (s : Nat)).map rowD), o])[S.length]? = some (O.lst (((List.range n).map fun s => rowOf lot (s : Nat)).map rowD)) := fun o => two_get0 _ _ _
    have tk1 : toKey (.str "heard") = some (.inr "heard") := rfl
    have tk2 : toKey (.str "written") = some (.inr "written") := rfl
    have tk3 : toKey (.str "rows") = some (.inr "rows") := rfl
    have gt : ∀ o : O, gTupC [.loc S.length] (S ++ [O.lst (((List.range n).map fun s => rowOf lot (s : Nat)).map rowD)] ++ [o]) = some (.tup (((List.range n).map fun s => rowOf lot (s : Nat)).map rowD), S ++ [O.lst (((List.range n).map fun s => rowOf lot (s : Nat)).map rowD)] ++ [o]) := fun o => by
      unfold gTupC
      rw [List.append_assoc]
      have e : [O.lst (((List.range n).map fun s => rowOf lot (s : Nat)).map rowD)] ++ [o] = [O.lst (((List.range n).map fun s => rowOf lot (s : Nat)).map rowD), o] := rfl
      rw [e]
      simp only [viewL, viewW, gL, Option.bind_some]
    have l15 : (3 : Nat) ≤ 15 := by decide
    generalize hT : S ++ [O.lst (((List.range n).map fun s => rowOf lot (s : Nat)).map rowD)] = T at gt
    have fz : ∀ ds, frz (.loc T.length) (T ++ [O.dic WK ds]) = (.dic WK ds, T ++ [.dead]) := fun ds => by
      unfold frz
      simp only [last_get, last_set]
    simp only [fnM, runB, mSeq, mAsg, mDPut, mDGet, mPar, mPar3, mgName, mgTup, mgCons, mgNil, mVar, mC, mOp, mTest, mAnd, mOr, mNot, mNotV, mIf, mIfS, mRet, mRetN, mDrop, mNext, mCall, mCons, mNil, mTup, mLst, mLstM, mBlt, mBM, mBM0, mFrz, mFld, mSetF, mYes, mSl, mNoPart, mPart, mSeqI, mRng1, mRng2, mZip, mEnumerate, mMe, mMeK, mNew, mNever, mAndV, mOrV, mDGet2, mDNew, mDisp, mPairs, mRevS, mEnumS, mListVals, mTupR, mKwC, mInD, mNeg, mRev, mRevM, List.map_cons, List.map_nil, List.length_cons, List.length_nil, List.replicate_succ, List.replicate_zero, List.cons_append, List.nil_append, List.append_nil, List.getD_cons_zero, List.getD_cons_succ, List.set_cons_zero, List.set_cons_succ, List.getElem?_cons_zero, List.getElem?_cons_succ, Nat.zero_add, Nat.reduceAdd, Nat.reduceSub, Option.bind_some, Option.map_some, Option.bind_none, Option.map_none, ↓reduceIte, Bool.false_eq_true, szK, sz0, sz1, sz2, sz3, sz4, if_pos rfl, mDisp, mPairs, tk1, tk2, tk3, gt, last_get, last_set, merge_w, l15, fz, ok_some]
    rw [← hT, List.append_assoc]
    exact trim_app (by
      show (true && (true && (lowAll S.length (((List.range n).map fun s => rowOf lot (s : Nat)).map rowD) && true))) = true
      rw [lows_row]
      rfl) hS
end
end Law
namespace Law
open PySem L2 PyProof.Rows DL
/-! ### the last sign of a text, and what stands ahead of it -/
theorem ix_last (u : List Nat) (h : Nat) (hu : u.length ≤ 1000) (S : Sto) : gIx (.str (txt (u ++ [h]))) (.int (-1)) S = some (.str (sg h), S) := by
  have e : atI (txt (u ++ [h])).cps.toList (-1) = some h := by
    rw [txt_cps]
    unfold atI ixN
    rw [if_neg (by omega), if_pos (by rw [List.length_append, List.length_singleton]; omega), Option.bind_some]
    have : ((-1 : Int) + ((u ++ [h]).length : Nat)).toNat = u.length := by rw [List.length_append, List.length_singleton]; omega
    rw [this]
    simp
  unfold gIx
  dsimp only
  rw [if_pos (by rw [txt_len, List.length_append, List.length_singleton, sizeLine_eq]; omega), e]
  rfl
theorem cut_last (u : List Nat) (h : Nat) : cutS (txt (u ++ [h])) none (some (-1)) = txt u := by
  unfold cutS
  have e1 : HT.sIx (txt (u ++ [h])).length 0 none = 0 := rfl
  have e2 : HT.sIx (txt (u ++ [h])).length (txt (u ++ [h])).length (some (-1)) = u.length := by
    unfold HT.sIx
    dsimp only
    rw [if_pos (by omega), txt_len, List.length_append, List.length_singleton]
    omega
  rw [e1, e2, txt_cps, List.drop_zero, Nat.sub_zero, List.take_left]
  rfl
/-! ### a lot grows -/
def lkK (L : List Lt) (e : Lt) : Prop := ∀ a ∈ L, kE a ≠ kE e
theorem tput_lot {L : List Lt} {e : Lt} (h : lkK L e) : tput (L.map kE) (L.map fun e => .int e.2.2.2) (kE e) (.int e.2.2.2) = ((L ++ [e]).map kE, (L ++ [e]).map fun e => .int e.2.2.2) := by
  have an : ((L.map kE).any fun k => decide (k = kE e)) = false := by
    rw [List.any_eq_false]
    intro k hk
    obtain ⟨a, ha, rfl⟩ := List.mem_map.mp hk
    simpa using h a ha
  unfold tput
  rw [an, if_neg Bool.false_ne_true, List.map_append, List.map_append]
  rfl
theorem lot_snoc {hs cs : List Nat} {n : Nat} {L : List Lt} (h : LotOk hs cs n L) {e : Lt} (hk : lkK L e) (he : 0 ≤ e.1 ∧ e.1 < n ∧ e.2.1 ∈ hs ∧ e.2.2.1 ∈ cs ∧ 0 ≤ e.2.2.2 ∧ e.2.2.2 < n) : LotOk hs cs n (L ++ [e]) := by
  refine ⟨List.pairwise_append.mpr ⟨h.nd, List.pairwise_singleton _ _, fun a ha b hb => ?_⟩, fun a ha => ?_⟩
  · rw [List.mem_singleton] at hb
    subst hb
    exact hk a ha
  · rcases List.mem_append.mp ha with z | z
    · exact h.mem a z
    · rw [List.mem_singleton] at z
      subst z
      exact he
theorem lot_len {hs cs : List Nat} {n : Nat} {L : List Lt} (h : LotOk hs cs n L) (h3 : hs.length ≤ 3) (c3 : cs.length ≤ 3) (hn : n ≤ 5) : L.length ≤ 45 := by
  have nd : (L.map fun e : Lt => (e.1, e.2.1, e.2.2.1)).Nodup := List.pairwise_map.mpr (h.nd.imp fun {a b} q e => by
    obtain ⟨q1, q2⟩ := Prod.mk.inj e
    obtain ⟨q2, q3⟩ := Prod.mk.inj q2
    exact q ((kE_iff a b).mpr ⟨q1, q2, q3⟩))
  have := nd_len (ys := (List.range n).flatMap fun i => hs.flatMap fun a => cs.map fun b => (((i : Nat) : Int), a, b)) nd fun x hx => by
    obtain ⟨e, he, rfl⟩ := List.mem_map.mp hx
    obtain ⟨a, b, c, d, _⟩ := h.mem e he
    refine List.mem_flatMap.mpr ⟨e.1.toNat, List.mem_range.mpr (by omega), List.mem_flatMap.mpr ⟨e.2.1, c, List.mem_map.mpr ⟨e.2.2.1, d, ?_⟩⟩⟩
    rw [show ((e.1.toNat : Nat) : Int) = e.1 by omega]
  rw [List.length_map] at this
  have f1 := fun i : Nat => flat_len (fun a : Nat => cs.map fun b => (((i : Nat) : Int), a, b)) (m := 3) (xs := hs) (fun a _ => by rw [List.length_map]; exact c3)
  have f2 := flat_len (fun i : Nat => hs.flatMap fun a => cs.map fun b => (((i : Nat) : Int), a, b)) (m := 9) (xs := List.range n) (fun i _ => by have := f1 i; omega)
  rw [List.length_range] at f2
  omega
theorem deck_get {k : Int} {R S : Sto} {o : O} (h : DeckN k (R ++ [o]) S) : S[R.length + 2]? = some o := by
  obtain ⟨cs, g, n, rfl, _⟩ := h
  show (O.dic K3 _ :: O.lst _ :: (R ++ [o]))[R.length + 2]? = _
  simp
theorem deck_set {k : Int} {R S : Sto} {o : O} (h : DeckN k (R ++ [o]) S) (o' : O) : DeckN k (R ++ [o']) (S.set (R.length + 2) o') := by
  obtain ⟨cs, g, n, rfl, h⟩ := h
  refine ⟨cs, g, n, ?_, h⟩
  show (O.dic K3 _ :: O.lst _ :: (R ++ [o])).set (R.length + 2) o' = _
  unfold deckS
  simp
theorem low_lotR {R : Sto} (hR : LowR R) (L : List Lt) : LowR (R ++ [lotO L]) := hR.app fun m => by simp [low_lot]
section
variable {hs cs : Str} {n : Nat} {R : Sto}
abbrev DE' (top : D) (hs cs : Str) (n : Int) (L : Nat) (x4 x5 x6 x9 x10 x11 : Option D) : DL.Env := [some (.loc 0), some top, some (.str hs), some (.str cs), x4, x5, x6, some (.int n), some (.loc L), x9, x10, x11]
theorem k_put {md my mv : ME} {E : DL.Env} {S S1 S2 : Sto} {key : D} {e : Lt} {L : Nat} {lot : List Lt} (hv : mv E S = some (.int e.2.2.2, S1)) (hd : md E S1 = some (.loc L, S1)) (hy : my E S1 = some (kD3 e, S2)) (hL : S2[L]? = some (lotO lot)) (hz : lot.length ≤ 1000) (hk : lkK lot e) : mTPut md my mv E S = some (.nx, E, S2.set L (lotO (lot ++ [e]))) := by
  unfold mTPut
  rw [hv, Option.bind_some]
  dsimp only
  rw [hd, Option.bind_some]
  dsimp only
  rw [hy, Option.bind_some]
  dsimp only
  rw [toTK_kD3, Option.bind_some, hL]
  unfold lotO
  dsimp only
  rw [if_pos (by rw [List.length_map, sizeLine_eq]; omega), tput_lot hk]
theorem draw_n {k : Int} {S : Sto} {E : DL.Env} {i b : Nat} (h : DeckN k R S) (hk : k ≤ 900000) (e0 : E.getD 0 none = some (.loc 0)) (ei : E.getD i none = some (.int (b : Int))) (hb : 0 < b) (hb2 : b < 1000) : Ok (mCall 2 F_law_draw (mCons (mVar 0) (mCons (mVar i) (mNil))) E S) fun p => ∃ r : Int, p.1 = .int r ∧ 0 ≤ r ∧ r < b ∧ DeckN (k + 1) R p.2 := by
  obtain ⟨⟨d, S1⟩, e, r, hd, r0, r1, hS⟩ := draw_ok h (by omega) (b := (b : Int)) (by omega) (by omega)
  dsimp only at hd hS
  subst hd
  exact ⟨(.int r, S1), k_call (ds := [.loc 0, .int b]) (k_args (k_v e0) (k_args (k_v ei) k_nil)) rfl e, r, rfl, r0, r1, hS⟩
theorem draw_c {k : Int} {S : Sto} {E : DL.Env} {b : Int} (h : DeckN k R S) (hk : k ≤ 900000) (e0 : E.getD 0 none = some (.loc 0)) (hb : 0 < b) (hb2 : b < 1000) : Ok (mCall 2 F_law_draw (mCons (mVar 0) (mCons (mC (.int b)) (mNil))) E S) fun p => ∃ r : Int, p.1 = .int r ∧ 0 ≤ r ∧ r < b ∧ DeckN (k + 1) R p.2 := by
  obtain ⟨⟨d, S1⟩, e, r, hd, r0, r1, hS⟩ := draw_ok h (by omega) (b := b) hb hb2
  dsimp only at hd hS
  subst hd
  exact ⟨(.int r, S1), k_call (ds := [.loc 0, .int b]) (k_args (k_v e0) (k_args k_c k_nil)) rfl e, r, rfl, r0, r1, hS⟩
abbrev put1 : MS := (mIfS (mTest (mOp gLt (mCall 2 F_law_draw (mCons (mVar 0) (mCons (mC (.int 5)) (mNil)))) (mC (.int 2)))) (mTPut (mVar 8) (mTup (mCons (mVar 4) (mCons (mVar 9) (mCons (mVar 11) (mNil))))) (mCall 2 F_law_draw (mCons (mVar 0) (mCons (mVar 7) (mNil))))) (mNext))
theorem k_ifB {m : ME} {a b : MS} {E : DL.Env} {S S1 : Sto} {t : Bool} (h : m E S = some (.bl t, S1)) : mIfS (mTest m) a b E S = if t = true then a E S1 else b E S1 := by
  unfold mIfS mTest
  rw [h, Option.bind_some]
  cases t <;> rfl
theorem put1_ok {k : Int} {S : Sto} {lot : List Lt} {top : D} {s h c : Nat} {x5 x6 x10 : Option D} (hD : DeckN k (R ++ [lotO lot]) S) (hk : k ≤ 800000) (ok : LotOk hs.cps.toList cs.cps.toList n lot) (hl : lot.length ≤ 1000) (hn : 0 < n) (hn5 : n ≤ 5) (hs' : s < n) (hh : h ∈ hs.cps.toList) (hc : c ∈ cs.cps.toList) (new : ∀ a ∈ lot, ¬ (a.1 = s ∧ a.2.1 = h ∧ a.2.2.1 = c)) :
    Ok (put1 (DE' top hs cs n (R.length + 2) (some (.int (s : Int))) x5 x6 (some (.str (sg h))) x10 (some (.str (sg c)))) S) fun p => p.1 = .nx ∧ p.2.1 = DE' top hs cs n (R.length + 2) (some (.int (s : Int))) x5 x6 (some (.str (sg h))) x10 (some (.str (sg c))) ∧ ∃ lot', (lot' = lot ∨ ∃ v, lot' = lot ++ [((s : Int), h, c, v)]) ∧ LotOk hs.cps.toList cs.cps.toList n lot' ∧ DeckN (k + 2) (R ++ [lotO lot']) p.2.2 := by
  obtain ⟨⟨d, S1⟩, e, r, hd, r0, r1, hS⟩ := draw_c (E := DE' top hs cs n (R.length + 2) (some (.int (s : Int))) x5 x6 (some (.str (sg h))) x10 (some (.str (sg c)))) hD (by omega) rfl (b := 5) (by decide) (by decide)
  dsimp only at hd hS
  subst hd
  have lt := k_op (S2 := S1) e k_c (g_lt r 2 S1)
  by_cases q : r < 2
  · rw [decide_eq_true q] at lt
    obtain ⟨⟨d2, S2⟩, e2, v, hd2, v0, v1, hS2⟩ := draw_n (E := DE' top hs cs n (R.length + 2) (some (.int (s : Int))) x5 x6 (some (.str (sg h))) x10 (some (.str (sg c)))) hS (by omega) rfl (i := 7) (b := n) rfl hn (by omega)
    dsimp only at hd2 hS2
    subst hd2
    have kk : lkK lot ((s : Int), h, c, v) := fun a ha e => by
      obtain ⟨q1, q2, q3⟩ := (kE_iff a _).mp e
      exact new a ha ⟨q1, q2, q3⟩
    have ky : mTup (mCons (mVar 4) (mCons (mVar 9) (mCons (mVar 11) (mNil)))) (DE' top hs cs n (R.length + 2) (some (.int (s : Int))) x5 x6 (some (.str (sg h))) x10 (some (.str (sg c)))) S2 = some (kD3 ((s : Int), h, c, v), S2) := by
      unfold mTup
      rw [k_args (k_v rfl) (k_args (k_v rfl) (k_args (k_v rfl) k_nil))]
      rfl
    have pu := k_put (key := kD3 ((s : Int), h, c, v)) (e := ((s : Int), h, c, v)) (md := mVar 8) e2 (k_v rfl) ky (deck_get hS2) hl kk
    have run : put1 (DE' top hs cs n (R.length + 2) (some (.int (s : Int))) x5 x6 (some (.str (sg h))) x10 (some (.str (sg c)))) S = _ := (k_ifB lt).trans ((if_pos rfl).trans pu)
    refine ⟨_, run, rfl, rfl, lot ++ [((s : Int), h, c, v)], .inr ⟨v, rfl⟩, lot_snoc ok kk ⟨by omega, by omega, hh, hc, v0, v1⟩, (deck_set hS2 _).mono (by omega)⟩
  · rw [decide_eq_false q] at lt
    have run : put1 (DE' top hs cs n (R.length + 2) (some (.int (s : Int))) x5 x6 (some (.str (sg h))) x10 (some (.str (sg c)))) S = some (.nx, DE' top hs cs n (R.length + 2) (some (.int (s : Int))) x5 x6 (some (.str (sg h))) x10 (some (.str (sg c))), S1) := (k_ifB lt).trans ((if_neg Bool.false_ne_true).trans rfl)
    refine ⟨_, run, rfl, rfl, lot, .inl rfl, ok, hS.mono (by omega)⟩
theorem not_take {l : List Nat} (ha : l.Pairwise (· < ·)) {i c : Nat} (h : l[i]? = some c) : c ∉ l.take i := fun hm => by
  obtain ⟨j, hj, e⟩ := List.getElem_of_mem hm
  rw [List.length_take] at hj
  rw [List.getElem_take] at e
  obtain ⟨hi1, hi2⟩ := List.getElem?_eq_some_iff.mp h
  have := List.pairwise_iff_getElem.mp ha j i (by omega) hi1 (by omega)
  omega
abbrev put2 : MS := mFor (mSeqI (mVar 3)) (mgName 11) put1
theorem put2_ok {k : Int} {S : Sto} {lot : List Lt} {top : D} {s h : Nat} {x5 x6 x10 x11 : Option D} (Hc : Letters cs) (hD : DeckN k (R ++ [lotO lot]) S) (hk : k ≤ 700000) (ok : LotOk hs.cps.toList cs.cps.toList n lot) (h3 : hs.cps.toList.length ≤ 3) (hn : 0 < n) (hn5 : n ≤ 5) (hs' : s < n) (hh : h ∈ hs.cps.toList) (P : Lt → Prop) (hP : ∀ a ∈ lot, P a) (new : ∀ a, P a → ¬ (a.1 = s ∧ a.2.1 = h)) :
    Ok (put2 (DE' top hs cs n (R.length + 2) (some (.int (s : Int))) x5 x6 (some (.str (sg h))) x10 x11) S) fun p => p.1 = .nx ∧ ∃ x11, p.2.1 = DE' top hs cs n (R.length + 2) (some (.int (s : Int))) x5 x6 (some (.str (sg h))) x10 x11 ∧ ∃ lot', (∀ a ∈ lot', P a ∨ (a.1 = s ∧ a.2.1 = h)) ∧ LotOk hs.cps.toList cs.cps.toList n lot' ∧ DeckN (k + 6) (R ++ [lotO lot']) p.2.2 := by
  have c3 := Hc.2.2.2
  have hi : mSeqI (mVar 3) (DE' top hs cs n (R.length + 2) (some (.int (s : Int))) x5 x6 (some (.str (sg h))) x10 x11) S = some (cs.cps.toList.map fun c => D.str (sg c), S) := by
    simp only [fnM, runB, mSeq, mAsg, mDPut, mDGet, mPar, mPar3, mgName, mgTup, mgCons, mgNil, mVar, mC, mOp, mTest, mAnd, mOr, mNot, mNotV, mIf, mIfS, mRet, mRetN, mDrop, mNext, mCall, mCons, mNil, mTup, mLst, mLstM, mBlt, mBM, mBM0, mFrz, mFld, mSetF, mYes, mSl, mNoPart, mPart, mSeqI, mRng1, mRng2, mZip, mEnumerate, mMe, mMeK, mNew, mNever, mAndV, mOrV, mDGet2, mDNew, mDisp, mPairs, mRevS, mEnumS, mListVals, mTupR, mKwC, mInD, mNeg, mRev, mRevM, List.map_cons, List.map_nil, List.length_cons, List.length_nil, List.replicate_succ, List.replicate_zero, List.cons_append, List.nil_append, List.append_nil, List.getD_cons_zero, List.getD_cons_succ, List.set_cons_zero, List.set_cons_succ, List.getElem?_cons_zero, List.getElem?_cons_succ, Nat.zero_add, Nat.reduceAdd, Nat.reduceSub, Option.bind_some, Option.map_some, Option.bind_none, Option.map_none, ↓reduceIte, Bool.false_eq_true, szK, sz0, sz1, sz2, sz3, sz4, if_pos rfl, viewF]
    rfl
  refine k_for hi (fun i E S' => ∃ (x11 : Option D) (lot' : List Lt), E = DE' top hs cs n (R.length + 2) (some (.int (s : Int))) x5 x6 (some (.str (sg h))) x10 x11 ∧ (∀ a ∈ lot', P a ∨ (a.1 = s ∧ a.2.1 = h ∧ a.2.2.1 ∈ cs.cps.toList.take i)) ∧ LotOk hs.cps.toList cs.cps.toList n lot' ∧ DeckN (k + 2 * i) (R ++ [lotO lot']) S') ⟨x11, lot, rfl, fun a ha => .inl (hP a ha), ok, by simpa using hD⟩ ?_ ?_
  · rintro i d E S' hd ⟨x11, lot', rfl, hP', ok', hD'⟩
    rw [List.getElem?_map] at hd
    obtain ⟨c, hc, rfl⟩ := map_some' hd
    have hcm := List.mem_of_getElem? hc
    have hil : i < cs.cps.toList.length := (List.getElem?_eq_some_iff.mp hc).1
    have tk : cs.cps.toList.take (i + 1) = cs.cps.toList.take i ++ [c] := by rw [List.take_add_one, hc]; rfl
    refine ⟨(DE' top hs cs n (R.length + 2) (some (.int (s : Int))) x5 x6 (some (.str (sg h))) x10 (some (.str (sg c))), S'), rfl, ?_⟩
    have ll := lot_len ok' h3 c3 hn5
    refine (put1_ok hD' (by omega) ok' (by omega) hn hn5 hs' hh hcm fun a ha q => ?_).mono ?_
    · rcases hP' a ha with z | ⟨_, _, z⟩
      · exact new a z ⟨q.1, q.2.1⟩
      · rw [q.2.2] at z
        exact not_take Hc.2.1 hc z
    · rintro ⟨o, E, S2⟩ ⟨ho, hE, lot2, hl2, ok2, hD2⟩
      dsimp only at ho hE hD2
      subst ho hE
      refine ⟨_, lot2, rfl, fun a ha => ?_, ok2, hD2.mono (by omega)⟩
      rw [tk]
      rcases hl2 with rfl | ⟨v, rfl⟩
      · rcases hP' a ha with z | ⟨z1, z2, z3⟩
        · exact .inl z
        · exact .inr ⟨z1, z2, List.mem_append_left _ z3⟩
      · rcases List.mem_append.mp ha with z | z
        · rcases hP' a z with z | ⟨z1, z2, z3⟩
          · exact .inl z
          · exact .inr ⟨z1, z2, List.mem_append_left _ z3⟩
        · rw [List.mem_singleton] at z
          subst z
          exact .inr ⟨rfl, rfl, by simp⟩
  · rintro E S' ⟨x11, lot', rfl, hP', ok', hD'⟩
    rw [List.length_map] at hD'
    exact ⟨rfl, x11, rfl, lot', fun a ha => (hP' a ha).imp id fun z => ⟨z.1, z.2.1⟩, ok', hD'.mono (by omega)⟩
abbrev put3 : MS := mFor (mSeqI (mVar 2)) (mgName 9) put2
theorem put3_ok {k : Int} {S : Sto} {lot : List Lt} {top : D} {s : Nat} {x5 x6 x9 x10 x11 : Option D} (Hh : Letters hs) (Hc : Letters cs) (hD : DeckN k (R ++ [lotO lot]) S) (hk : k ≤ 600000) (ok : LotOk hs.cps.toList cs.cps.toList n lot) (hn : 0 < n) (hn5 : n ≤ 5) (hs' : s < n) (hP : ∀ a ∈ lot, a.1 < s) :
    Ok (put3 (DE' top hs cs n (R.length + 2) (some (.int (s : Int))) x5 x6 x9 x10 x11) S) fun p => p.1 = .nx ∧ ∃ x9 x11, p.2.1 = DE' top hs cs n (R.length + 2) (some (.int (s : Int))) x5 x6 x9 x10 x11 ∧ ∃ lot', (∀ a ∈ lot', a.1 < (s : Int) + 1) ∧ LotOk hs.cps.toList cs.cps.toList n lot' ∧ DeckN (k + 18) (R ++ [lotO lot']) p.2.2 := by
  have h3 := Hh.2.2.2
  have hi : mSeqI (mVar 2) (DE' top hs cs n (R.length + 2) (some (.int (s : Int))) x5 x6 x9 x10 x11) S = some (hs.cps.toList.map fun c => D.str (sg c), S) := by
    simp only [fnM, runB, mSeq, mAsg, mDPut, mDGet, mPar, mPar3, mgName, mgTup, mgCons, mgNil, mVar, mC, mOp, mTest, mAnd, mOr, mNot, mNotV, mIf, mIfS, mRet, mRetN, mDrop, mNext, mCall, mCons, mNil, mTup, mLst, mLstM, mBlt, mBM, mBM0, mFrz, mFld, mSetF, mYes, mSl, mNoPart, mPart, mSeqI, mRng1, mRng2, mZip, mEnumerate, mMe, mMeK, mNew, mNever, mAndV, mOrV, mDGet2, mDNew, mDisp, mPairs, mRevS, mEnumS, mListVals, mTupR, mKwC, mInD, mNeg, mRev, mRevM, List.map_cons, List.map_nil, List.length_cons, List.length_nil, List.replicate_succ, List.replicate_zero, List.cons_append, List.nil_append, List.append_nil, List.getD_cons_zero, List.getD_cons_succ, List.set_cons_zero, List.set_cons_succ, List.getElem?_cons_zero, List.getElem?_cons_succ, Nat.zero_add, Nat.reduceAdd, Nat.reduceSub, Option.bind_some, Option.map_some, Option.bind_none, Option.map_none, ↓reduceIte, Bool.false_eq_true, szK, sz0, sz1, sz2, sz3, sz4, if_pos rfl, viewF]
    rfl
  refine k_for hi (fun i E S' => ∃ (x9 x11 : Option D) (lot' : List Lt), E = DE' top hs cs n (R.length + 2) (some (.int (s : Int))) x5 x6 x9 x10 x11 ∧ (∀ a ∈ lot', a.1 < (s : Int) ∨ (a.1 = (s : Int) ∧ a.2.1 ∈ hs.cps.toList.take i)) ∧ LotOk hs.cps.toList cs.cps.toList n lot' ∧ DeckN (k + 6 * i) (R ++ [lotO lot']) S') ⟨x9, x11, lot, rfl, fun a ha => .inl (hP a ha), ok, by simpa using hD⟩ ?_ ?_
  · rintro i d E S' hd ⟨x9, x11, lot', rfl, hP', ok', hD'⟩
    rw [List.getElem?_map] at hd
    obtain ⟨h, hc, rfl⟩ := map_some' hd
    have hcm := List.mem_of_getElem? hc
    have hil : i < hs.cps.toList.length := (List.getElem?_eq_some_iff.mp hc).1
    have tk : hs.cps.toList.take (i + 1) = hs.cps.toList.take i ++ [h] := by rw [List.take_add_one, hc]; rfl
    refine ⟨(DE' top hs cs n (R.length + 2) (some (.int (s : Int))) x5 x6 (some (.str (sg h))) x10 x11, S'), rfl, ?_⟩
    refine (put2_ok Hc hD' (by omega) ok' h3 hn hn5 hs' hcm (fun a => a.1 < (s : Int) ∨ (a.1 = (s : Int) ∧ a.2.1 ∈ hs.cps.toList.take i)) hP' fun a ha q => ?_).mono ?_
    · rcases ha with z | ⟨_, z⟩
      · omega
      · rw [q.2] at z
        exact not_take Hh.2.1 hc z
    · rintro ⟨o, E, S2⟩ ⟨ho, y11, hE, lot2, hl2, ok2, hD2⟩
      dsimp only at ho hE hD2
      subst ho hE
      refine ⟨_, _, lot2, rfl, fun a ha => ?_, ok2, hD2.mono (by omega)⟩
      rw [tk]
      rcases hl2 a ha with (z | ⟨z1, z2⟩) | ⟨z1, z2⟩
      · exact .inl z
      · exact .inr ⟨z1, List.mem_append_left _ z2⟩
      · exact .inr ⟨z1, by rw [z2]; simp⟩
  · rintro E S' ⟨x9, x11, lot', rfl, hP', ok', hD'⟩
    rw [List.length_map] at hD'
    exact ⟨rfl, x9, x11, rfl, lot', fun a ha => by rcases hP' a ha with z | ⟨z, _⟩ <;> omega, ok', hD'.mono (by omega)⟩
abbrev put4 : MS := mFor (mRng1 (mCons (mVar 7) (mNil))) (mgName 4) put3
theorem put4_ok {k : Int} {S : Sto} {top : D} {x4 x5 x6 x9 x10 x11 : Option D} (Hh : Letters hs) (Hc : Letters cs) (hD : DeckN k (R ++ [lotO []]) S) (hk : k ≤ 500000) (hn : 0 < n) (hn5 : n ≤ 5) :
    Ok (put4 (DE' top hs cs n (R.length + 2) x4 x5 x6 x9 x10 x11) S) fun p => p.1 = .nx ∧ ∃ x4 x9 x11, p.2.1 = DE' top hs cs n (R.length + 2) x4 x5 x6 x9 x10 x11 ∧ ∃ lot', LotOk hs.cps.toList cs.cps.toList n lot' ∧ DeckN (k + 90) (R ++ [lotO lot']) p.2.2 := by
  have hi : mRng1 (mCons (mVar 7) (mNil)) (DE' top hs cs n (R.length + 2) x4 x5 x6 x9 x10 x11) S = some (rngD 0 n, S) := by
    have := g_rng1 (E := DE' top hs cs n (R.length + 2) x4 x5 x6 x9 x10 x11) (S := S) (S1 := S) (m := mCons (mVar 7) mNil) (j := n) (k_args (k_v rfl) k_nil) (by omega)
    rw [Int.toNat_natCast] at this
    exact this
  refine k_for hi (fun i E S' => ∃ (x4 x9 x11 : Option D) (lot' : List Lt), E = DE' top hs cs n (R.length + 2) x4 x5 x6 x9 x10 x11 ∧ (∀ a ∈ lot', a.1 < (i : Int)) ∧ LotOk hs.cps.toList cs.cps.toList n lot' ∧ DeckN (k + 18 * i) (R ++ [lotO lot']) S') ⟨x4, x9, x11, [], rfl, by simp, ⟨List.Pairwise.nil, by simp⟩, by simpa using hD⟩ ?_ ?_
  · rintro i d E S' hd ⟨x4, x9, x11, lot', rfl, hP', ok', hD'⟩
    obtain ⟨hi2, rfl⟩ := rngD_get hd
    rw [Int.zero_add]
    refine ⟨(DE' top hs cs n (R.length + 2) (some (.int (i : Int))) x5 x6 x9 x10 x11, S'), rfl, ?_⟩
    refine (put3_ok Hh Hc hD' (by omega) ok' hn hn5 hi2 hP').mono ?_
    rintro ⟨o, E, S2⟩ ⟨ho, y9, y11, hE, lot2, hl2, ok2, hD2⟩
    dsimp only at ho hE hD2
    subst ho hE
    exact ⟨_, _, _, lot2, rfl, fun a ha => by have := hl2 a ha; omega, ok2, hD2.mono (by omega)⟩
  · rintro E S' ⟨x4, x9, x11, lot', rfl, hP', ok', hD'⟩
    rw [rngD_len] at hD'
    exact ⟨rfl, x4, x9, x11, rfl, lot', ok', hD'.mono (by omega)⟩
end
end Law
namespace Law
open PySem L2 PyProof.Rows DL
theorem sl_last {m : ME} {E : DL.Env} {S : Sto} {u : List Nat} {h : Nat} (hu : u.length ≤ 1000) (hm : m E S = some (.str (txt (u ++ [h])), S)) : mSl m mNoPart (mPart (mNeg (mC (.int 1)))) E S = some (.str (txt u), S) := by
  have e1 : mPart (mNeg (mC (.int 1))) E S = some (some (-1), S) := rfl
  unfold mSl mNoPart
  rw [hm, Option.bind_some, Option.bind_some]
  dsimp only
  rw [e1, Option.bind_some]
  dsimp only
  rw [if_pos (by rw [txt_len, List.length_append, List.length_singleton, sizeLine_eq]; omega), cut_last]
section
variable {hs cs : Str} {n : Nat} {R : Sto}
abbrev loopB : MS := (mSeq (mAsg (mCall 2 F_law_pick (mCons (mVar 0) (mCons (mCall 3 F_law_on (mCons (mVar 5) (mCons (mLst (mCons (mC (.int 0)) (mNil))) (mCons (mSl (mVar 6) (mNoPart) (mPart (mNeg (mC (.int 1))))) (mNil))))) (mNil)))) (mgName 10))
    (mSeq (mTPut (mVar 8) (mTup (mCons (mVar 10) (mCons (mOp gIx (mVar 6) (mNeg (mC (.int 1)))) (mCons (mCall 2 F_law_pick (mCons (mVar 0) (mCons (mVar 3) (mNil)))) (mNil))))) (mCall 2 F_law_draw (mCons (mVar 0) (mCons (mVar 7) (mNil)))))
    (mSeq (mAsg (mCall 4 F_law_set (mCons (mVar 2) (mCons (mVar 3) (mCons (mVar 7) (mCons (mVar 8) (mNil)))))) (mgName 5))
    (mAsg (mCall 1 F_law_mute (mCons (mVar 5) (mNil))) (mgName 6)))))
theorem loopB_ok {k : Int} {S : Sto} {lot : List Lt} {top : D} {x4 x9 x10 x11 : Option D} {t : List Nat} (Hh : Letters hs) (Hc : Letters cs) (hR : LowR R) (hD : DeckN k (R ++ [lotO lot]) S) (hk : k ≤ 700000) (ok : LotOk hs.cps.toList cs.cps.toList n lot) (hn : 0 < n) (hn5 : n ≤ 5) (sp : Spec (rowsOf lot n) hs.cps.toList (some t)) (tl : t.length ≤ 33) :
    Ok (loopB (DE' top hs cs n (R.length + 2) x4 (some (wd hs cs (rowsOf lot n))) (some (muteD (some t))) x9 x10 x11) S) fun p => p.1 = .nx ∧ ∃ x10 lot' r, p.2.1 = DE' top hs cs n (R.length + 2) x4 (some (wd hs cs (rowsOf lot' n))) (some (muteD r)) x9 x10 x11 ∧ lot'.length = lot.length + 1 ∧ LotOk hs.cps.toList cs.cps.toList n lot' ∧ Spec (rowsOf lot' n) hs.cps.toList r ∧ (∀ t, r = some t → t.length ≤ 33) ∧ DeckN (k + 3) (R ++ [lotO lot']) p.2.2 := by
  have w := rows_wok Hh Hc ok (by omega) hn5
  obtain ⟨s1, s2, s3⟩ := sp
  have l1 := w.l1
  have h0 : ∀ z ∈ [(0 : Int)], In (rowsOf lot n) z := fun z hz => by rw [List.mem_singleton] at hz; subst hz; exact ⟨Int.le_refl _, by omega⟩
  rcases List.eq_nil_or_concat t with rfl | ⟨u, h, rfl⟩
  · cases s1
  · rw [List.concat_eq_append] at *
    have hh := s2 h (by simp)
    have hu : ∀ c ∈ u, c ∈ hs.cps.toList := fun c hc => s2 c (List.mem_append_left _ hc)
    have ul : u.length ≤ 33 := by rw [List.length_append] at tl; omega
    have une := s3 u hu (.inl (by simp))
    rw [reach_snoc] at s1
    have lo := deck_lowS hD (low_lotR hR lot)
    have em : muteD (some (u ++ [h])) = .str (txt (u ++ [h])) := rfl
    have on := on_ok w h0 (List.pairwise_singleton _ _) (x := txt u) lo
    rw [txt_cps] at on
    have hin := reach_in (ls := rowsOf lot n) u [0] h0
    have hasc := reach_asc (ls := rowsOf lot n) u [0] (List.pairwise_singleton _ _)
    have hlen := in_len hin hasc
    have l5 := w.l5
    generalize reachP (rowsOf lot n) u [0] = Q at on hin hasc hlen une s1
    have qp := List.length_pos_iff.mpr une
    obtain ⟨⟨d1, S1⟩, e1, hd1, h1⟩ := pickL_ok (x := intsL Q) (ds := Q.map .int) hD (by omega) (.inr rfl) (by rw [List.length_map]; exact qp) (by rw [List.length_map]; omega)
    dsimp only at hd1 h1
    obtain ⟨s, hsQ, rfl⟩ := List.mem_map.mp hd1
    have sin := hin s hsQ
    have c1 : mCall 2 F_law_pick (mCons (mVar 0) (mCons (mCall 3 F_law_on (mCons (mVar 5) (mCons (mLst (mCons (mC (.int 0)) (mNil))) (mCons (mSl (mVar 6) (mNoPart) (mPart (mNeg (mC (.int 1))))) (mNil))))) (mNil))) (DE' top hs cs n (R.length + 2) x4 (some (wd hs cs (rowsOf lot n))) (some (muteD (some (u ++ [h])))) x9 x10 x11) S = some (.int s, S1) := by
      have l0 : ∀ E : DL.Env, mLst (mCons (mC (.int 0)) (mNil)) E S = some (intsL [0], S) := fun E => by
        unfold mLst
        rw [k_args k_c k_nil]
        rfl
      exact k_call (ds := [.loc 0, intsL Q]) (k_args (k_v rfl) (k_args (k_call (ds := [wd hs cs (rowsOf lot n), intsL [0], .str (txt u)]) (k_args (k_v rfl) (k_args (l0 _) (k_args (sl_last (by omega) (k_v rfl)) k_nil))) rfl on) k_nil)) rfl e1
    refine k_nx (E1 := DE' top hs cs n (R.length + 2) x4 (some (wd hs cs (rowsOf lot n))) (some (muteD (some (u ++ [h])))) x9 (some (.int s)) x11) (S1 := S1) (k_asgN c1) ?_
    obtain ⟨⟨d2, S2⟩, e2, v, hd2, v0, v1, h2⟩ := draw_n (E := DE' top hs cs n (R.length + 2) x4 (some (wd hs cs (rowsOf lot n))) (some (muteD (some (u ++ [h])))) x9 (some (.int s)) x11) h1 (by omega) rfl (i := 7) (b := n) rfl hn (by omega)
    dsimp only at hd2 h2
    subst hd2
    have cl : 0 < cs.length := by have := List.length_pos_iff.mpr Hc.1; exact this
    have cl3 : cs.length ≤ 3 := Hc.2.2.2
    obtain ⟨⟨d3, S3⟩, e3, c, hc, hd3, h3⟩ := pickS_ok (z := cs) h2 (by omega) cl (by omega)
    dsimp only at hd3 h3
    subst hd3
    have ky : mTup (mCons (mVar 10) (mCons (mOp gIx (mVar 6) (mNeg (mC (.int 1)))) (mCons (mCall 2 F_law_pick (mCons (mVar 0) (mCons (mVar 3) (mNil)))) (mNil)))) (DE' top hs cs n (R.length + 2) x4 (some (wd hs cs (rowsOf lot n))) (some (muteD (some (u ++ [h])))) x9 (some (.int s)) x11) S2 = some (kD3 (s, h, c, v), S3) := by
      have ng : ∀ (E : DL.Env) (S : Sto), mNeg (mC (.int 1)) E S = some (.int (-1), S) := fun E S => rfl
      have i6 := k_op (a := mVar 6) (E := DE' top hs cs n (R.length + 2) x4 (some (wd hs cs (rowsOf lot n))) (some (muteD (some (u ++ [h])))) x9 (some (.int s)) x11) (S := S2) (k_v rfl) (ng _ _) (ix_last u h (by omega) S2)
      have pc := k_call (n := 2) (ds := [.loc 0, .str cs]) (E := DE' top hs cs n (R.length + 2) x4 (some (wd hs cs (rowsOf lot n))) (some (muteD (some (u ++ [h])))) x9 (some (.int s)) x11) (m := mCons (mVar 0) (mCons (mVar 3) (mNil))) (k_args (k_v rfl) (k_args (k_v rfl) k_nil)) rfl e3
      unfold mTup
      rw [k_args (k_v rfl) (k_args i6 (k_args pc k_nil))]
      rfl
    have inr : rowA (rowsOf lot n) s = rowOf lot s := by
      refine rowA_rows ⟨sin.1, ?_⟩
      have := sin.2
      unfold rowsOf at this
      rw [List.length_map, List.length_range] at this
      exact this
    have sn : s < n := by
      have := sin.2
      unfold rowsOf at this
      rw [List.length_map, List.length_range] at this
      exact this
    have kk : lkK lot (s, h, c, v) := fun a ha e => by
      obtain ⟨q1, q2, q3⟩ := (kE_iff a _).mp e
      have m1 : (a.2.1, a.2.2.1, a.2.2.2) ∈ rowA (rowsOf lot n) s := by
        rw [inr]
        exact rowOf_mem.mpr ⟨a, ha, q1, rfl⟩
      have m2 := (next_mem w hin (h := h)).mpr ⟨s, hsQ, _, hits_mem.mpr ⟨m1, q2⟩, rfl⟩
      rw [s1] at m2
      cases m2
    have ll := lot_len ok Hh.2.2.2 Hc.2.2.2 hn5
    have pu := k_put (key := kD3 (s, h, c, v)) (e := (s, h, c, v)) (md := mVar 8) e2 (k_v rfl) ky (deck_get h3) (by omega) kk
    refine k_nx pu ?_
    have ok2 := lot_snoc ok kk ⟨sin.1, sn, hh, hc, v0, v1⟩
    have h4 := deck_set h3 (lotO (lot ++ [(s, h, c, v)]))
    generalize S3.set (R.length + 2) (lotO (lot ++ [(s, h, c, v)])) = S4 at h4 ⊢
    have lo4 := deck_lowS h4 (low_lotR hR _)
    have ll2 := lot_len ok2 Hh.2.2.2 Hc.2.2.2 hn5
    have se := set_ok (hs := hs) (cs := cs) (n := n) lo4 (deck_get h4) ok2.nd (by omega) hn5
    refine k_nx (E1 := DE' top hs cs n (R.length + 2) x4 (some (wd hs cs (rowsOf (lot ++ [(s, h, c, v)]) n))) (some (muteD (some (u ++ [h])))) x9 (some (.int s)) x11) (S1 := S4) (k_asgN (k_call (ds := [.str hs, .str cs, .int n, .loc (R.length + 2)]) (k_args (k_v rfl) (k_args (k_v rfl) (k_args (k_v rfl) (k_args (k_v rfl) k_nil)))) rfl se)) ?_
    have w2 := rows_wok Hh Hc ok2 (by omega) hn5
    obtain ⟨r, hr, hrl⟩ := spec_ex w2
    have mu := law_mute_is w2 hr lo4
    exact ⟨_, k_asgN (k_call (ds := [wd hs cs (rowsOf (lot ++ [(s, h, c, v)]) n)]) (k_args (k_v rfl) k_nil) rfl mu), rfl, _, _, r, rfl, by simp, ok2, hr, hrl, h4.mono (by omega)⟩
theorem drawn_ok {k : Int} {S : Sto} {top : Int} (Hh : Letters hs) (Hc : Letters cs) (hR : LowR R) (h : DeckN k R S) (hk : k ≤ 400000) (t0 : 0 < top) (t5 : top ≤ 5) :
    Ok (F_law_drawn [.loc 0, .int top, .str hs, .str cs] S) fun p => ∃ ls, p.1 = wd hs cs ls ∧ WOk hs cs ls ∧ Full hs ls ∧ DeckN (k + 300) R p.2 := by
  unfold F_law_drawn M_law_drawn
  refine k_fn ?_
  obtain ⟨⟨d, S1⟩, e, r, hd, r0, r1, h1⟩ := draw_ok h (by omega) (b := top) t0 (by omega)
  dsimp only at hd h1
  subst hd
  have lS := i_deckN h
  have lS1 := i_deckN h1
  obtain ⟨n, hn⟩ : ∃ n : Nat, (1 : Int) + r = (n : Int) := ⟨(1 + r).toNat, by omega⟩
  have h1' := h1.snoc (lotO [])
  refine k_nx (E1 := DE' (.int top) hs cs n (R.length + 2) none none none none none none) (S1 := S1 ++ [lotO []]) (by
    simp only [fnM, runB, mSeq, mAsg, mDPut, mDGet, mPar, mPar3, mgName, mgTup, mgCons, mgNil, mVar, mC, mOp, mTest, mAnd, mOr, mNot, mNotV, mIf, mIfS, mRet, mRetN, mDrop, mNext, mCall, mCons, mNil, mTup, mLst, mLstM, mBlt, mBM, mBM0, mFrz, mFld, mSetF, mYes, mSl, mNoPart, mPart, mSeqI, mRng1, mRng2, mZip, mEnumerate, mMe, mMeK, mNew, mNever, mAndV, mOrV, mDGet2, mDNew, mDisp, mPairs, mRevS, mEnumS, mListVals, mTupR, mKwC, mInD, mNeg, mRev, mRevM, List.map_cons, List.map_nil, List.length_cons, List.length_nil, List.replicate_succ, List.replicate_zero, List.cons_append, List.nil_append, List.append_nil, List.getD_cons_zero, List.getD_cons_succ, List.set_cons_zero, List.set_cons_succ, List.getElem?_cons_zero, List.getElem?_cons_succ, Nat.zero_add, Nat.reduceAdd, Nat.reduceSub, Option.bind_some, Option.map_some, Option.bind_none, Option.map_none, ↓reduceIte, Bool.false_eq_true, szK, sz0, sz1, sz2, sz3, sz4, if_pos rfl, e, g_add, hn, mTNew, lS1]
    rfl) ?_
  obtain ⟨⟨o, E2, S2⟩, e2, ho, x4, x9, x11, hE, lot, ok, h2⟩ := put4_ok (n := n) (top := .int top) (x4 := none) (x5 := none) (x6 := none) (x9 := none) (x10 := none) (x11 := none) Hh Hc h1' (by omega) (by omega) (by omega)
  dsimp only at ho hE h2
  subst ho hE
  refine k_nx e2 ?_
  have n5 : n ≤ 5 := by omega
  have n1 : 0 < n := by omega
  have lo2 := deck_lowS h2 (low_lotR hR _)
  have ll := lot_len ok Hh.2.2.2 Hc.2.2.2 n5
  have se := set_ok (hs := hs) (cs := cs) (n := n) lo2 (deck_get h2) ok.nd (by omega) n5
  refine k_nx (E1 := DE' (.int top) hs cs n (R.length + 2) x4 (some (wd hs cs (rowsOf lot n))) none x9 none x11) (S1 := S2) (k_asgN (k_call (ds := [.str hs, .str cs, .int n, .loc (R.length + 2)]) (k_args (k_v rfl) (k_args (k_v rfl) (k_args (k_v rfl) (k_args (k_v rfl) k_nil)))) rfl se)) ?_
  have w := rows_wok Hh Hc ok (by omega) n5
  obtain ⟨rr, hr, hrl⟩ := spec_ex w
  have mu := law_mute_is w hr lo2
  refine k_nx (E1 := DE' (.int top) hs cs n (R.length + 2) x4 (some (wd hs cs (rowsOf lot n))) (some (muteD rr)) x9 none x11) (S1 := S2) (k_asgN (k_call (ds := [wd hs cs (rowsOf lot n)]) (k_args (k_v rfl) k_nil) rfl mu)) ?_
  refine k_seq (k_while 46 (fun i E S' => ∃ x10 lot r, E = DE' (.int top) hs cs n (R.length + 2) x4 (some (wd hs cs (rowsOf lot n))) (some (muteD r)) x9 x10 x11 ∧ i ≤ lot.length ∧ LotOk hs.cps.toList cs.cps.toList n lot ∧ Spec (rowsOf lot n) hs.cps.toList r ∧ (∀ t, r = some t → t.length ≤ 33) ∧ DeckN (k + 91 + 3 * i) (R ++ [lotO lot]) S') ?_ 100000 0 _ _ (by decide) ⟨none, lot, rr, rfl, Nat.zero_le _, ok, hr, hrl, h2.mono (by omega)⟩)
  rintro i E S' ⟨x10, lot, r, rfl, hi, ok, hr, hrl, hD⟩
  have ll := lot_len ok Hh.2.2.2 Hc.2.2.2 n5
  cases r with
  | some t =>
    have c : mTest (mOp gNotN (mVar 6) (mC .non)) (DE' (.int top) hs cs n (R.length + 2) x4 (some (wd hs cs (rowsOf lot n))) (some (muteD (some t))) x9 x10 x11) S' = some (true, S') := rfl
    refine .inl ⟨S', c, by omega, ?_⟩
    refine (loopB_ok Hh Hc hR hD (by omega) ok n1 n5 hr (hrl t rfl)).mono ?_
    rintro ⟨o, E, S3⟩ ⟨ho, y10, lot2, r2, hE, hl2, ok2, hr2, hrl2, hD2⟩
    dsimp only at ho hE hD2
    subst ho hE
    exact ⟨_, lot2, r2, rfl, by omega, ok2, hr2, hrl2, hD2.mono (by omega)⟩
  | none =>
    have c : mTest (mOp gNotN (mVar 6) (mC .non)) (DE' (.int top) hs cs n (R.length + 2) x4 (some (wd hs cs (rowsOf lot n))) (some (muteD none)) x9 x10 x11) S' = some (false, S') := rfl
    refine .inr ⟨S', c, ?_⟩
    dsimp only
    obtain ⟨T, rfl, hT⟩ := hD.unsnoc
    have lT := i_deckN hT
    refine ⟨(.rt (wd hs cs (rowsOf lot n)), DE' (.int top) hs cs n (R.length + 2) x4 (some (wd hs cs (rowsOf lot n))) (some (muteD none)) x9 x10 x11, T ++ [lotO lot]), k_ret (k_v rfl), ?_⟩
    dsimp only
    have lw : (wd hs cs (rowsOf lot n)).low T.length = true := by
      show lowAll _ [.str hs, .str cs, .tup ((rowsOf lot n).map rowD)] = true
      show (true && (true && (lowAll _ ((rowsOf lot n).map rowD) && true))) = true
      rw [lows_row]
      rfl
    have tr : trim S.length (wd hs cs (rowsOf lot n)) (T ++ [lotO lot]) = (wd hs cs (rowsOf lot n), T) := by
      rw [lS, ← lT]
      exact trim_low rfl lw (deck_lowS hT hR _ (Nat.le_refl _))
    rw [tr]
    exact ⟨_, rfl, rows_wok Hh Hc ok (by omega) n5, hr, hT.mono (by omega)⟩
end
end Law
namespace Law
open PySem L2 PyProof.Rows DL
theorem script_ok {ns : List Int} (hn : ns.length ≤ 63) (x1 x2 : Option D) (S : Sto) : mSl (mVar 0) (mNoPart) (mPart (mC (.int 63))) [some (.scr (ns.map .int)), x1, x2] S = some (.lst (ns.map .int), S) := by
  have c63 := cut63 (ds := ns.map D.int) (by rw [List.length_map]; exact hn)
  simp only [fnM, runB, mSeq, mAsg, mDPut, mDGet, mPar, mPar3, mgName, mgTup, mgCons, mgNil, mVar, mC, mOp, mTest, mAnd, mOr, mNot, mNotV, mIf, mIfS, mRet, mRetN, mDrop, mNext, mCall, mCons, mNil, mTup, mLst, mLstM, mBlt, mBM, mBM0, mFrz, mFld, mSetF, mYes, mSl, mNoPart, mPart, mSeqI, mRng1, mRng2, mZip, mEnumerate, mMe, mMeK, mNew, mNever, mAndV, mOrV, mDGet2, mDNew, mDisp, mPairs, mRevS, mEnumS, mListVals, mTupR, mKwC, mInD, mNeg, mRev, mRevM, List.map_cons, List.map_nil, List.length_cons, List.length_nil, List.replicate_succ, List.replicate_zero, List.cons_append, List.nil_append, List.append_nil, List.getD_cons_zero, List.getD_cons_succ, List.set_cons_zero, List.set_cons_succ, List.getElem?_cons_zero, List.getElem?_cons_succ, Nat.zero_add, Nat.reduceAdd, Nat.reduceSub, Option.bind_some, Option.map_some, Option.bind_none, Option.map_none, ↓reduceIte, Bool.false_eq_true, szK, sz0, sz1, sz2, sz3, sz4, if_pos rfl, viewL, c63]
theorem deck_ok {ns : List Int} (hn : ns.length ≤ 63) : Ok (F_law_deck [scriptD ns] []) fun p => p.1 = .loc 0 ∧ DeckN 0 [] p.2 := by
  unfold F_law_deck M_law_deck scriptD
  refine k_fn ?_
  refine k_nx (E1 := [some (.scr (ns.map .int)), some (.int 1086613), none]) (S1 := []) (by simp only [fnM, runB, mSeq, mAsg, mDPut, mDGet, mPar, mPar3, mgName, mgTup, mgCons, mgNil, mVar, mC, mOp, mTest, mAnd, mOr, mNot, mNotV, mIf, mIfS, mRet, mRetN, mDrop, mNext, mCall, mCons, mNil, mTup, mLst, mLstM, mBlt, mBM, mBM0, mFrz, mFld, mSetF, mYes, mSl, mNoPart, mPart, mSeqI, mRng1, mRng2, mZip, mEnumerate, mMe, mMeK, mNew, mNever, mAndV, mOrV, mDGet2, mDNew, mDisp, mPairs, mRevS, mEnumS, mListVals, mTupR, mKwC, mInD, mNeg, mRev, mRevM, List.map_cons, List.map_nil, List.length_cons, List.length_nil, List.replicate_succ, List.replicate_zero, List.cons_append, List.nil_append, List.append_nil, List.getD_cons_zero, List.getD_cons_succ, List.set_cons_zero, List.set_cons_succ, List.getElem?_cons_zero, List.getElem?_cons_succ, Nat.zero_add, Nat.reduceAdd, Nat.reduceSub, Option.bind_some, Option.map_some, Option.bind_none, Option.map_none, ↓reduceIte, Bool.false_eq_true, szK, sz0, sz1, sz2, sz3, sz4, if_pos rfl]) ?_
  have hi : mSeqI (mSl (mVar 0) (mNoPart) (mPart (mC (.int 63)))) [some (.scr (ns.map .int)), some (.int 1086613), none] [] = some (ns.map .int, []) := by
    have sc := script_ok hn (some (.int 1086613)) none []
    unfold mSeqI
    rw [sc]
    rfl
  refine k_seq (k_for hi (fun i E S' => (∃ a g, E = [some (.scr (ns.map .int)), some (.int g), a] ∧ 0 ≤ g ∧ g < 2147483587) ∧ S' = []) ⟨⟨_, _, rfl, by decide, by decide⟩, rfl⟩ ?_ ?_)
  · rintro i d E S' hd ⟨⟨a, g, rfl, h0, h1⟩, rfl⟩
    rw [List.getElem?_map] at hd
    obtain ⟨c, hc, rfl⟩ := map_some' hd
    have m1 : CMul g 69621 := cmul_r (by decide)
    simp only [fnM, runB, mSeq, mAsg, mDPut, mDGet, mPar, mPar3, mgName, mgTup, mgCons, mgNil, mVar, mC, mOp, mTest, mAnd, mOr, mNot, mNotV, mIf, mIfS, mRet, mRetN, mDrop, mNext, mCall, mCons, mNil, mTup, mLst, mLstM, mBlt, mBM, mBM0, mFrz, mFld, mSetF, mYes, mSl, mNoPart, mPart, mSeqI, mRng1, mRng2, mZip, mEnumerate, mMe, mMeK, mNew, mNever, mAndV, mOrV, mDGet2, mDNew, mDisp, mPairs, mRevS, mEnumS, mListVals, mTupR, mKwC, mInD, mNeg, mRev, mRevM, List.map_cons, List.map_nil, List.length_cons, List.length_nil, List.replicate_succ, List.replicate_zero, List.cons_append, List.nil_append, List.append_nil, List.getD_cons_zero, List.getD_cons_succ, List.set_cons_zero, List.set_cons_succ, List.getElem?_cons_zero, List.getElem?_cons_succ, Nat.zero_add, Nat.reduceAdd, Nat.reduceSub, Option.bind_some, Option.map_some, Option.bind_none, Option.map_none, ↓reduceIte, Bool.false_eq_true, szK, sz0, sz1, sz2, sz3, sz4, if_pos rfl, g_mul m1, g_int, g_mod (show (0 : Int) < 2147483629 by decide), g_add, g_mod (show (0 : Int) < 2147483587 by decide), ok_some]
    exact ⟨⟨_, _, rfl, Int.emod_nonneg _ (by decide), Int.emod_lt_of_pos _ (by decide)⟩, trivial⟩
  · rintro E S' ⟨⟨a, g, rfl, h0, h1⟩, rfl⟩
    have t1 : toKey (.str "left") = some (.inr "left") := rfl
    have t2 : toKey (.str "blend") = some (.inr "blend") := rfl
    have t3 : toKey (.str "lap") = some (.inr "lap") := rfl
    have mg : ∀ a b c : D, mergeD [(.inr "left", a), (.inr "blend", b), (.inr "lap", c)] ([], []) = (K3, [a, b, c]) := fun a b c => by
      have n1 : ¬ (Sum.inr "left" : Key) = .inr "blend" := by decide +kernel
      have n2 : ¬ (Sum.inr "left" : Key) = .inr "lap" := by decide +kernel
      have n3 : ¬ (Sum.inr "blend" : Key) = .inr "lap" := by decide +kernel
      simp [mergeD, dput, n1, n2, n3, K3]
    have l15 : (3 : Nat) ≤ 15 := by decide
    have lT : LowS [O.dic [] []] := fun m _ => rfl
    have hi2 : mSeqI (mSl (mVar 0) (mNoPart) (mPart (mC (.int 63)))) [some (.scr (ns.map .int)), some (.int g), a] [O.dic [] []] = some (ns.map .int, [O.dic [] []]) := by
      have sc := script_ok hn (some (.int g)) a [O.dic [] []]
      unfold mSeqI
      rw [sc]
      rfl
    have fl := List.length_filter_le (fun c : Int => decide ((10 : Int) ^ 18 ≤ c)) ns
    have cp := comp_pure (vs := [2]) (t := mTest (mOp gGe (mVar 2) (mOp gPow (mC (.int 10)) (mC (.int 18))))) (g := mgName 2) (e := mVar 2) ns D.int (fun c => decide ((10 : Int) ^ 18 ≤ c)) (fun c => .int c) (fun c => [some (.scr (ns.map .int)), some (.int g), some (.int c)]) hi2 (by
      intro c hc acc
      exact ⟨by simp only [fnM, runB, mSeq, mAsg, mDPut, mDGet, mPar, mPar3, mgName, mgTup, mgCons, mgNil, mVar, mC, mOp, mTest, mAnd, mOr, mNot, mNotV, mIf, mIfS, mRet, mRetN, mDrop, mNext, mCall, mCons, mNil, mTup, mLst, mLstM, mBlt, mBM, mBM0, mFrz, mFld, mSetF, mYes, mSl, mNoPart, mPart, mSeqI, mRng1, mRng2, mZip, mEnumerate, mMe, mMeK, mNew, mNever, mAndV, mOrV, mDGet2, mDNew, mDisp, mPairs, mRevS, mEnumS, mListVals, mTupR, mKwC, mInD, mNeg, mRev, mRevM, List.map_cons, List.map_nil, List.length_cons, List.length_nil, List.replicate_succ, List.replicate_zero, List.cons_append, List.nil_append, List.append_nil, List.getD_cons_zero, List.getD_cons_succ, List.set_cons_zero, List.set_cons_succ, List.getElem?_cons_zero, List.getElem?_cons_succ, Nat.zero_add, Nat.reduceAdd, Nat.reduceSub, Option.bind_some, Option.map_some, Option.bind_none, Option.map_none, ↓reduceIte, Bool.false_eq_true, szK, sz0, sz1, sz2, sz3, sz4, if_pos rfl, wipeE, List.foldl_cons, List.foldl_nil], by simp only [fnM, runB, mSeq, mAsg, mDPut, mDGet, mPar, mPar3, mgName, mgTup, mgCons, mgNil, mVar, mC, mOp, mTest, mAnd, mOr, mNot, mNotV, mIf, mIfS, mRet, mRetN, mDrop, mNext, mCall, mCons, mNil, mTup, mLst, mLstM, mBlt, mBM, mBM0, mFrz, mFld, mSetF, mYes, mSl, mNoPart, mPart, mSeqI, mRng1, mRng2, mZip, mEnumerate, mMe, mMeK, mNew, mNever, mAndV, mOrV, mDGet2, mDNew, mDisp, mPairs, mRevS, mEnumS, mListVals, mTupR, mKwC, mInD, mNeg, mRev, mRevM, List.map_cons, List.map_nil, List.length_cons, List.length_nil, List.replicate_succ, List.replicate_zero, List.cons_append, List.nil_append, List.append_nil, List.getD_cons_zero, List.getD_cons_succ, List.set_cons_zero, List.set_cons_succ, List.getElem?_cons_zero, List.getElem?_cons_succ, Nat.zero_add, Nat.reduceAdd, Nat.reduceSub, Option.bind_some, Option.map_some, Option.bind_none, Option.map_none, ↓reduceIte, Bool.false_eq_true, szK, sz0, sz1, sz2, sz3, sz4, if_pos rfl, g_pow18, g_ge], fun _ => by simp only [fnM, runB, mSeq, mAsg, mDPut, mDGet, mPar, mPar3, mgName, mgTup, mgCons, mgNil, mVar, mC, mOp, mTest, mAnd, mOr, mNot, mNotV, mIf, mIfS, mRet, mRetN, mDrop, mNext, mCall, mCons, mNil, mTup, mLst, mLstM, mBlt, mBM, mBM0, mFrz, mFld, mSetF, mYes, mSl, mNoPart, mPart, mSeqI, mRng1, mRng2, mZip, mEnumerate, mMe, mMeK, mNew, mNever, mAndV, mOrV, mDGet2, mDNew, mDisp, mPairs, mRevS, mEnumS, mListVals, mTupR, mKwC, mInD, mNeg, mRev, mRevM, List.map_cons, List.map_nil, List.length_cons, List.length_nil, List.replicate_succ, List.replicate_zero, List.cons_append, List.nil_append, List.append_nil, List.getD_cons_zero, List.getD_cons_succ, List.set_cons_zero, List.set_cons_succ, List.getElem?_cons_zero, List.getElem?_cons_succ, Nat.zero_add, Nat.reduceAdd, Nat.reduceSub, Option.bind_some, Option.map_some, Option.bind_none, Option.map_none, ↓reduceIte, Bool.false_eq_true, szK, sz0, sz1, sz2, sz3, sz4, if_pos rfl]⟩) (by rw [sizeLine_eq]; omega) (low_all _ _ (fun c => rfl) _) lT
    generalize hq : ns.filter (fun c => decide ((10 : Int) ^ 18 ≤ c)) = Q at cp fl
    simp only [fnM, runB, mSeq, mAsg, mDPut, mDGet, mPar, mPar3, mgName, mgTup, mgCons, mgNil, mVar, mC, mOp, mTest, mAnd, mOr, mNot, mNotV, mIf, mIfS, mRet, mRetN, mDrop, mNext, mCall, mCons, mNil, mTup, mLst, mLstM, mBlt, mBM, mBM0, mFrz, mFld, mSetF, mYes, mSl, mNoPart, mPart, mSeqI, mRng1, mRng2, mZip, mEnumerate, mMe, mMeK, mNew, mNever, mAndV, mOrV, mDGet2, mDNew, mDisp, mPairs, mRevS, mEnumS, mListVals, mTupR, mKwC, mInD, mNeg, mRev, mRevM, List.map_cons, List.map_nil, List.length_cons, List.length_nil, List.replicate_succ, List.replicate_zero, List.cons_append, List.nil_append, List.append_nil, List.getD_cons_zero, List.getD_cons_succ, List.set_cons_zero, List.set_cons_succ, List.getElem?_cons_zero, List.getElem?_cons_succ, Nat.zero_add, Nat.reduceAdd, Nat.reduceSub, Option.bind_some, Option.map_some, Option.bind_none, Option.map_none, ↓reduceIte, Bool.false_eq_true, szK, sz0, sz1, sz2, sz3, sz4, if_pos rfl, mDisp, mPairs, t1, t2, t3, cp, viewL, viewW, mg, l15, ok_some]
    have tr : trim 0 (.loc 0) (deckS Q.reverse g 0 []) = (.loc 0, deckS Q.reverse g 0 []) := by
      unfold trim
      rw [if_neg (by simp [D.low])]
    have e : ([O.dic K3 [D.loc 1, D.int g, D.int 0], O.lst (Q.map D.int).reverse] : Sto) = deckS Q.reverse g 0 [] := by
      unfold deckS
      rw [List.map_reverse]
    rw [e, tr]
    exact ⟨rfl, Q.reverse, g, 0, rfl, by rw [List.length_reverse]; omega, h0, h1, by decide, by decide⟩
/-! ### rules that are known -/
def topR : List Mv := [(97, 97, 1), (97, 98, 2), (98, 97, 1), (98, 98, 2)]
def lateL : List (List Mv) := [topR, [(97, 97, 1), (97, 98, 2)], [(98, 97, 1), (98, 98, 2)]]
def vowL : List (List Mv) := [topR, [(97, 97, 1)], [(97, 97, 2), (98, 97, 2)]]
def turnL : List (List Mv) := [topR, [(97, 97, 0), (97, 98, 0)], [(98, 97, 0), (98, 98, 0)]]
def far0L : List (List Mv) := [topR ++ [(120, 97, 1), (120, 98, 2)], [(97, 97, 3), (120, 97, 1)], [(98, 97, 3), (120, 97, 2)]]
def farL : List (List Mv) := far0L ++ [[(97, 97, 3), (98, 97, 3), (120, 97, 3)]]
instance (A B : List Nat) (n : Int) (row : List Mv) : Decidable (RowOk A B n row) := by
  unfold RowOk lexM
  infer_instance
theorem let_ab : Letters "ab" := by unfold Letters; decide +kernel
theorem let_a : Letters "a" := by unfold Letters; decide +kernel
theorem let_xy : Letters "xy" := by unfold Letters; decide +kernel
theorem let_abc : Letters "abc" := by unfold Letters; decide +kernel
theorem let_abx : Letters "abx" := by unfold Letters; decide +kernel
theorem full_by {hs : Str} {ls : List (List Mv)} (Fam : List (List Int)) (h0 : [0] ∈ Fam) (hc : ∀ R ∈ Fam, ∀ h ∈ hs.cps.toList, nextP ls h R ∈ Fam) (hn : [] ∉ Fam) : Full hs ls := by
  have go : ∀ (u : List Nat) (R : List Int), R ∈ Fam → (∀ c ∈ u, c ∈ hs.cps.toList) → reachP ls u R ∈ Fam := by
    intro u
    induction u with
    | nil => intro R hR _; exact hR
    | cons c u ih => intro R hR hu; exact ih _ (hc R hR c (hu c List.mem_cons_self)) fun z hz => hu z (List.mem_cons_of_mem _ hz)
  intro u hu e
  exact hn (e ▸ go u [0] h0 hu)
theorem w_late : WOk "ab" "ab" lateL := ⟨let_ab, let_ab, by decide, by decide, by decide +kernel⟩
theorem w_vow : WOk "ab" "ab" vowL := ⟨let_ab, let_ab, by decide, by decide, by decide +kernel⟩
theorem w_turn : WOk "ab" "ab" turnL := ⟨let_ab, let_ab, by decide, by decide, by decide +kernel⟩
theorem w_far : WOk "abx" "ab" farL := ⟨let_abx, let_ab, by decide, by decide, by decide +kernel⟩
theorem f_late : Full "ab" lateL := full_by [[0], [1, 2]] (by decide) (by decide +kernel) (by decide)
theorem f_vow : Full "ab" vowL := full_by [[0], [1, 2], [2]] (by decide) (by decide +kernel) (by decide)
theorem f_turn : Full "ab" turnL := full_by [[0], [1, 2]] (by decide) (by decide +kernel) (by decide)
theorem f_far : Full "abx" farL := full_by [[0], [1, 2], [3]] (by decide) (by decide +kernel) (by decide)
section
variable {S : Sto} {R : Sto}
abbrev FE (x1 x2 x3 x4 x5 x6 : Option D) : DL.Env := [some (.loc 0), x1, x2, x3, x4, x5, x6]
abbrev knownRet : MS := (mRet (mFrz (mDisp [(mC (.str "heard"), mOp gIx (mLst (mCons (mC (.str "ab")) (mCons (mC (.str "ab")) (mCons (mC (.str "ab")) (mCons (mC (.str "abx")) (mNil)))))) (mVar 6)), (mC (.str "written"), mC (.str "ab")), (mC (.str "rows"), mOp gIx (mLst (mCons (mVar 2) (mCons (mVar 3) (mCons (mVar 4) (mCons (mVar 5) (mNil)))))) (mVar 6))])))
theorem known_ret {r : Int} {x1 : Option D} (hr : r = 0 ∨ r = 1 ∨ r = 2 ∨ r = 3) : ∃ hs ls, WOk hs "ab" ls ∧ Full hs ls ∧ knownRet (FE x1 (some (.tup (lateL.map rowD))) (some (.tup (vowL.map rowD))) (some (.tup (turnL.map rowD))) (some (.tup (farL.map rowD))) (some (.int r))) S = some (.rt (wd hs "ab" ls), FE x1 (some (.tup (lateL.map rowD))) (some (.tup (vowL.map rowD))) (some (.tup (turnL.map rowD))) (some (.tup (farL.map rowD))) (some (.int r)), S ++ [.dead]) := by
  have tk1 : toKey (.str "heard") = some (.inr "heard") := rfl
  have tk2 : toKey (.str "written") = some (.inr "written") := rfl
  have tk3 : toKey (.str "rows") = some (.inr "rows") := rfl
  have l15 : (3 : Nat) ≤ 15 := by decide
  have s4 : (4 : Nat) ≤ sizeLine := sz4
  have fz : ∀ ds, frz (.loc S.length) (S ++ [O.dic WK ds]) = (.dic WK ds, S ++ [.dead]) := fun ds => by
    unfold frz
    simp only [last_get, last_set]
  have i0 : ∀ (a b c d : D) (T : Sto), gIx (.lst [a, b, c, d]) (.int 0) T = some (a, T) := fun _ _ _ _ _ => rfl
  have i1 : ∀ (a b c d : D) (T : Sto), gIx (.lst [a, b, c, d]) (.int 1) T = some (b, T) := fun _ _ _ _ _ => rfl
  have i2 : ∀ (a b c d : D) (T : Sto), gIx (.lst [a, b, c, d]) (.int 2) T = some (c, T) := fun _ _ _ _ _ => rfl
  have i3 : ∀ (a b c d : D) (T : Sto), gIx (.lst [a, b, c, d]) (.int 3) T = some (d, T) := fun _ _ _ _ _ => rfl
  rcases hr with rfl | rfl | rfl | rfl
  · refine ⟨"ab", lateL, w_late, f_late, ?_⟩
    simp only [fnM, runB, mSeq, mAsg, mDPut, mDGet, mPar, mPar3, mgName, mgTup, mgCons, mgNil, mVar, mC, mOp, mTest, mAnd, mOr, mNot, mNotV, mIf, mIfS, mRet, mRetN, mDrop, mNext, mCall, mCons, mNil, mTup, mLst, mLstM, mBlt, mBM, mBM0, mFrz, mFld, mSetF, mYes, mSl, mNoPart, mPart, mSeqI, mRng1, mRng2, mZip, mEnumerate, mMe, mMeK, mNew, mNever, mAndV, mOrV, mDGet2, mDNew, mDisp, mPairs, mRevS, mEnumS, mListVals, mTupR, mKwC, mInD, mNeg, mRev, mRevM, List.map_cons, List.map_nil, List.length_cons, List.length_nil, List.replicate_succ, List.replicate_zero, List.cons_append, List.nil_append, List.append_nil, List.getD_cons_zero, List.getD_cons_succ, List.set_cons_zero, List.set_cons_succ, List.getElem?_cons_zero, List.getElem?_cons_succ, Nat.zero_add, Nat.reduceAdd, Nat.reduceSub, Option.bind_some, Option.map_some, Option.bind_none, Option.map_none, ↓reduceIte, Bool.false_eq_true, szK, sz0, sz1, sz2, sz3, sz4, if_pos rfl, mDisp, mPairs, tk1, tk2, tk3, s4, i0, last_get, last_set, merge_w, l15, fz]
    rfl
  · refine ⟨"ab", vowL, w_vow, f_vow, ?_⟩
    simp only [fnM, runB, mSeq, mAsg, mDPut, mDGet, mPar, mPar3, mgName, mgTup, mgCons, mgNil, mVar, mC, mOp, mTest, mAnd, mOr, mNot, mNotV, mIf, mIfS, mRet, mRetN, mDrop, mNext, mCall, mCons, mNil, mTup, mLst, mLstM, mBlt, mBM, mBM0, mFrz, mFld, mSetF, mYes, mSl, mNoPart, mPart, mSeqI, mRng1, mRng2, mZip, mEnumerate, mMe, mMeK, mNew, mNever, mAndV, mOrV, mDGet2, mDNew, mDisp, mPairs, mRevS, mEnumS, mListVals, mTupR, mKwC, mInD, mNeg, mRev, mRevM, List.map_cons, List.map_nil, List.length_cons, List.length_nil, List.replicate_succ, List.replicate_zero, List.cons_append, List.nil_append, List.append_nil, List.getD_cons_zero, List.getD_cons_succ, List.set_cons_zero, List.set_cons_succ, List.getElem?_cons_zero, List.getElem?_cons_succ, Nat.zero_add, Nat.reduceAdd, Nat.reduceSub, Option.bind_some, Option.map_some, Option.bind_none, Option.map_none, ↓reduceIte, Bool.false_eq_true, szK, sz0, sz1, sz2, sz3, sz4, if_pos rfl, mDisp, mPairs, tk1, tk2, tk3, s4, i1, last_get, last_set, merge_w, l15, fz]
    rfl
  · refine ⟨"ab", turnL, w_turn, f_turn, ?_⟩
    simp only [fnM, runB, mSeq, mAsg, mDPut, mDGet, mPar, mPar3, mgName, mgTup, mgCons, mgNil, mVar, mC, mOp, mTest, mAnd, mOr, mNot, mNotV, mIf, mIfS, mRet, mRetN, mDrop, mNext, mCall, mCons, mNil, mTup, mLst, mLstM, mBlt, mBM, mBM0, mFrz, mFld, mSetF, mYes, mSl, mNoPart, mPart, mSeqI, mRng1, mRng2, mZip, mEnumerate, mMe, mMeK, mNew, mNever, mAndV, mOrV, mDGet2, mDNew, mDisp, mPairs, mRevS, mEnumS, mListVals, mTupR, mKwC, mInD, mNeg, mRev, mRevM, List.map_cons, List.map_nil, List.length_cons, List.length_nil, List.replicate_succ, List.replicate_zero, List.cons_append, List.nil_append, List.append_nil, List.getD_cons_zero, List.getD_cons_succ, List.set_cons_zero, List.set_cons_succ, List.getElem?_cons_zero, List.getElem?_cons_succ, Nat.zero_add, Nat.reduceAdd, Nat.reduceSub, Option.bind_some, Option.map_some, Option.bind_none, Option.map_none, ↓reduceIte, Bool.false_eq_true, szK, sz0, sz1, sz2, sz3, sz4, if_pos rfl, mDisp, mPairs, tk1, tk2, tk3, s4, i2, last_get, last_set, merge_w, l15, fz]
    rfl
  · refine ⟨"abx", farL, w_far, f_far, ?_⟩
    simp only [fnM, runB, mSeq, mAsg, mDPut, mDGet, mPar, mPar3, mgName, mgTup, mgCons, mgNil, mVar, mC, mOp, mTest, mAnd, mOr, mNot, mNotV, mIf, mIfS, mRet, mRetN, mDrop, mNext, mCall, mCons, mNil, mTup, mLst, mLstM, mBlt, mBM, mBM0, mFrz, mFld, mSetF, mYes, mSl, mNoPart, mPart, mSeqI, mRng1, mRng2, mZip, mEnumerate, mMe, mMeK, mNew, mNever, mAndV, mOrV, mDGet2, mDNew, mDisp, mPairs, mRevS, mEnumS, mListVals, mTupR, mKwC, mInD, mNeg, mRev, mRevM, List.map_cons, List.map_nil, List.length_cons, List.length_nil, List.replicate_succ, List.replicate_zero, List.cons_append, List.nil_append, List.append_nil, List.getD_cons_zero, List.getD_cons_succ, List.set_cons_zero, List.set_cons_succ, List.getElem?_cons_zero, List.getElem?_cons_succ, Nat.zero_add, Nat.reduceAdd, Nat.reduceSub, Option.bind_some, Option.map_some, Option.bind_none, Option.map_none, ↓reduceIte, Bool.false_eq_true, szK, sz0, sz1, sz2, sz3, sz4, if_pos rfl, mDisp, mPairs, tk1, tk2, tk3, s4, i3, last_get, last_set, merge_w, l15, fz]
    rfl
end
theorem low_wd (n : Nat) (hs cs : Str) (ls : List (List Mv)) : (wd hs cs ls).low n = true := by
  show (true && (true && (lowAll _ (ls.map rowD) && true))) = true
  rw [lows_row]
  rfl
theorem trim_deck {k : Int} {R S T : Sto} {d : D} (hS : DeckN k R S) (hR : LowR R) (hl : S.length = T.length) (hd : ∀ n, d.low n = true) (Y : Sto) : trim T.length d (S ++ Y) = (d, S) := by
  rw [← hl]
  exact trim_app (hd _) (deck_lowS hS hR)
section
variable {R : Sto}
theorem known_ok {k : Int} {S : Sto} (hR : LowR R) (h : DeckN k R S) (hk : k ≤ 400000) : Ok (F_law_known [.loc 0] S) fun p => ∃ hs cs ls, p.1 = wd hs cs ls ∧ WOk hs cs ls ∧ Full hs ls ∧ DeckN (k + 1) R p.2 := by
  unfold F_law_known M_law_known
  refine k_fn ?_
  have l1 : (1 : Nat) ≤ sizeLine := sz1
  have l2 : (2 : Nat) ≤ sizeLine := sz2
  have l3 : (3 : Nat) ≤ sizeLine := sz3
  have l4 : (4 : Nat) ≤ sizeLine := sz4
  have ad1 : gAdd (rowD topR) (rowD [(120, 97, 1), (120, 98, 2)]) S = some (rowD (topR ++ [(120, 97, 1), (120, 98, 2)]), S) := addT (by decide) S
  have ad2 : gAdd (.tup (far0L.map rowD)) (.tup ([[(97, 97, 3), (98, 97, 3), (120, 97, 3)]].map rowD)) S = some (.tup (farL.map rowD), S) := addT (by decide) S
  have t2 : ∀ {a b : ME} {E : DL.Env} {x y : D}, a E S = some (x, S) → b E S = some (y, S) → mTup (mCons a (mCons b mNil)) E S = some (.tup [x, y], S) := fun ha hb => by
    unfold mTup
    rw [k_args ha (k_args hb k_nil)]
    rfl
  have t3 : ∀ {a b c : ME} {E : DL.Env} {x y z : D}, a E S = some (x, S) → b E S = some (y, S) → c E S = some (z, S) → mTup (mCons a (mCons b (mCons c mNil))) E S = some (.tup [x, y, z], S) := fun ha hb hc => by
    unfold mTup
    rw [k_args ha (k_args hb (k_args hc k_nil))]
    rfl
  refine k_nx (E1 := FE (some (rowD topR)) none none none none none) (S1 := S) (by
    simp only [fnM, runB, mSeq, mAsg, mDPut, mDGet, mPar, mPar3, mgName, mgTup, mgCons, mgNil, mVar, mC, mOp, mTest, mAnd, mOr, mNot, mNotV, mIf, mIfS, mRet, mRetN, mDrop, mNext, mCall, mCons, mNil, mTup, mLst, mLstM, mBlt, mBM, mBM0, mFrz, mFld, mSetF, mYes, mSl, mNoPart, mPart, mSeqI, mRng1, mRng2, mZip, mEnumerate, mMe, mMeK, mNew, mNever, mAndV, mOrV, mDGet2, mDNew, mDisp, mPairs, mRevS, mEnumS, mListVals, mTupR, mKwC, mInD, mNeg, mRev, mRevM, List.map_cons, List.map_nil, List.length_cons, List.length_nil, List.replicate_succ, List.replicate_zero, List.cons_append, List.nil_append, List.append_nil, List.getD_cons_zero, List.getD_cons_succ, List.set_cons_zero, List.set_cons_succ, List.getElem?_cons_zero, List.getElem?_cons_succ, Nat.zero_add, Nat.reduceAdd, Nat.reduceSub, Option.bind_some, Option.map_some, Option.bind_none, Option.map_none, ↓reduceIte, Bool.false_eq_true, szK, sz0, sz1, sz2, sz3, sz4, if_pos rfl, l1, l2, l3, l4]
    rfl) ?_
  refine k_nx (E1 := FE (some (rowD topR)) (some (.tup (lateL.map rowD))) none none none none) (S1 := S) (by
    simp only [fnM, runB, mSeq, mAsg, mDPut, mDGet, mPar, mPar3, mgName, mgTup, mgCons, mgNil, mVar, mC, mOp, mTest, mAnd, mOr, mNot, mNotV, mIf, mIfS, mRet, mRetN, mDrop, mNext, mCall, mCons, mNil, mTup, mLst, mLstM, mBlt, mBM, mBM0, mFrz, mFld, mSetF, mYes, mSl, mNoPart, mPart, mSeqI, mRng1, mRng2, mZip, mEnumerate, mMe, mMeK, mNew, mNever, mAndV, mOrV, mDGet2, mDNew, mDisp, mPairs, mRevS, mEnumS, mListVals, mTupR, mKwC, mInD, mNeg, mRev, mRevM, List.map_cons, List.map_nil, List.length_cons, List.length_nil, List.replicate_succ, List.replicate_zero, List.cons_append, List.nil_append, List.append_nil, List.getD_cons_zero, List.getD_cons_succ, List.set_cons_zero, List.set_cons_succ, List.getElem?_cons_zero, List.getElem?_cons_succ, Nat.zero_add, Nat.reduceAdd, Nat.reduceSub, Option.bind_some, Option.map_some, Option.bind_none, Option.map_none, ↓reduceIte, Bool.false_eq_true, szK, sz0, sz1, sz2, sz3, sz4, if_pos rfl, l1, l2, l3, l4]
    rfl) ?_
  refine k_nx (E1 := FE (some (rowD topR)) (some (.tup (lateL.map rowD))) (some (.tup (vowL.map rowD))) none none none) (S1 := S) (by
    simp only [fnM, runB, mSeq, mAsg, mDPut, mDGet, mPar, mPar3, mgName, mgTup, mgCons, mgNil, mVar, mC, mOp, mTest, mAnd, mOr, mNot, mNotV, mIf, mIfS, mRet, mRetN, mDrop, mNext, mCall, mCons, mNil, mTup, mLst, mLstM, mBlt, mBM, mBM0, mFrz, mFld, mSetF, mYes, mSl, mNoPart, mPart, mSeqI, mRng1, mRng2, mZip, mEnumerate, mMe, mMeK, mNew, mNever, mAndV, mOrV, mDGet2, mDNew, mDisp, mPairs, mRevS, mEnumS, mListVals, mTupR, mKwC, mInD, mNeg, mRev, mRevM, List.map_cons, List.map_nil, List.length_cons, List.length_nil, List.replicate_succ, List.replicate_zero, List.cons_append, List.nil_append, List.append_nil, List.getD_cons_zero, List.getD_cons_succ, List.set_cons_zero, List.set_cons_succ, List.getElem?_cons_zero, List.getElem?_cons_succ, Nat.zero_add, Nat.reduceAdd, Nat.reduceSub, Option.bind_some, Option.map_some, Option.bind_none, Option.map_none, ↓reduceIte, Bool.false_eq_true, szK, sz0, sz1, sz2, sz3, sz4, if_pos rfl, l1, l2, l3, l4]
    rfl) ?_
  refine k_nx (E1 := FE (some (rowD topR)) (some (.tup (lateL.map rowD))) (some (.tup (vowL.map rowD))) (some (.tup (turnL.map rowD))) none none) (S1 := S) (by
    simp only [fnM, runB, mSeq, mAsg, mDPut, mDGet, mPar, mPar3, mgName, mgTup, mgCons, mgNil, mVar, mC, mOp, mTest, mAnd, mOr, mNot, mNotV, mIf, mIfS, mRet, mRetN, mDrop, mNext, mCall, mCons, mNil, mTup, mLst, mLstM, mBlt, mBM, mBM0, mFrz, mFld, mSetF, mYes, mSl, mNoPart, mPart, mSeqI, mRng1, mRng2, mZip, mEnumerate, mMe, mMeK, mNew, mNever, mAndV, mOrV, mDGet2, mDNew, mDisp, mPairs, mRevS, mEnumS, mListVals, mTupR, mKwC, mInD, mNeg, mRev, mRevM, List.map_cons, List.map_nil, List.length_cons, List.length_nil, List.replicate_succ, List.replicate_zero, List.cons_append, List.nil_append, List.append_nil, List.getD_cons_zero, List.getD_cons_succ, List.set_cons_zero, List.set_cons_succ, List.getElem?_cons_zero, List.getElem?_cons_succ, Nat.zero_add, Nat.reduceAdd, Nat.reduceSub, Option.bind_some, Option.map_some, Option.bind_none, Option.map_none, ↓reduceIte, Bool.false_eq_true, szK, sz0, sz1, sz2, sz3, sz4, if_pos rfl, l1, l2, l3, l4]
    rfl) ?_
  refine k_nx (E1 := FE (some (rowD topR)) (some (.tup (lateL.map rowD))) (some (.tup (vowL.map rowD))) (some (.tup (turnL.map rowD))) (some (.tup (far0L.map rowD))) none) (S1 := S) (k_asgN (t3 (k_op (k_v rfl) (y := rowD [(120, 97, 1), (120, 98, 2)]) (by
    simp only [fnM, runB, mSeq, mAsg, mDPut, mDGet, mPar, mPar3, mgName, mgTup, mgCons, mgNil, mVar, mC, mOp, mTest, mAnd, mOr, mNot, mNotV, mIf, mIfS, mRet, mRetN, mDrop, mNext, mCall, mCons, mNil, mTup, mLst, mLstM, mBlt, mBM, mBM0, mFrz, mFld, mSetF, mYes, mSl, mNoPart, mPart, mSeqI, mRng1, mRng2, mZip, mEnumerate, mMe, mMeK, mNew, mNever, mAndV, mOrV, mDGet2, mDNew, mDisp, mPairs, mRevS, mEnumS, mListVals, mTupR, mKwC, mInD, mNeg, mRev, mRevM, List.map_cons, List.map_nil, List.length_cons, List.length_nil, List.replicate_succ, List.replicate_zero, List.cons_append, List.nil_append, List.append_nil, List.getD_cons_zero, List.getD_cons_succ, List.set_cons_zero, List.set_cons_succ, List.getElem?_cons_zero, List.getElem?_cons_succ, Nat.zero_add, Nat.reduceAdd, Nat.reduceSub, Option.bind_some, Option.map_some, Option.bind_none, Option.map_none, ↓reduceIte, Bool.false_eq_true, szK, sz0, sz1, sz2, sz3, sz4, if_pos rfl, l1, l2, l3, l4]
    rfl) ad1) (y := rowD [(97, 97, 3), (120, 97, 1)]) (by
    simp only [fnM, runB, mSeq, mAsg, mDPut, mDGet, mPar, mPar3, mgName, mgTup, mgCons, mgNil, mVar, mC, mOp, mTest, mAnd, mOr, mNot, mNotV, mIf, mIfS, mRet, mRetN, mDrop, mNext, mCall, mCons, mNil, mTup, mLst, mLstM, mBlt, mBM, mBM0, mFrz, mFld, mSetF, mYes, mSl, mNoPart, mPart, mSeqI, mRng1, mRng2, mZip, mEnumerate, mMe, mMeK, mNew, mNever, mAndV, mOrV, mDGet2, mDNew, mDisp, mPairs, mRevS, mEnumS, mListVals, mTupR, mKwC, mInD, mNeg, mRev, mRevM, List.map_cons, List.map_nil, List.length_cons, List.length_nil, List.replicate_succ, List.replicate_zero, List.cons_append, List.nil_append, List.append_nil, List.getD_cons_zero, List.getD_cons_succ, List.set_cons_zero, List.set_cons_succ, List.getElem?_cons_zero, List.getElem?_cons_succ, Nat.zero_add, Nat.reduceAdd, Nat.reduceSub, Option.bind_some, Option.map_some, Option.bind_none, Option.map_none, ↓reduceIte, Bool.false_eq_true, szK, sz0, sz1, sz2, sz3, sz4, if_pos rfl, l1, l2, l3, l4]
    rfl) (z := rowD [(98, 97, 3), (120, 97, 2)]) (by
    simp only [fnM, runB, mSeq, mAsg, mDPut, mDGet, mPar, mPar3, mgName, mgTup, mgCons, mgNil, mVar, mC, mOp, mTest, mAnd, mOr, mNot, mNotV, mIf, mIfS, mRet, mRetN, mDrop, mNext, mCall, mCons, mNil, mTup, mLst, mLstM, mBlt, mBM, mBM0, mFrz, mFld, mSetF, mYes, mSl, mNoPart, mPart, mSeqI, mRng1, mRng2, mZip, mEnumerate, mMe, mMeK, mNew, mNever, mAndV, mOrV, mDGet2, mDNew, mDisp, mPairs, mRevS, mEnumS, mListVals, mTupR, mKwC, mInD, mNeg, mRev, mRevM, List.map_cons, List.map_nil, List.length_cons, List.length_nil, List.replicate_succ, List.replicate_zero, List.cons_append, List.nil_append, List.append_nil, List.getD_cons_zero, List.getD_cons_succ, List.set_cons_zero, List.set_cons_succ, List.getElem?_cons_zero, List.getElem?_cons_succ, Nat.zero_add, Nat.reduceAdd, Nat.reduceSub, Option.bind_some, Option.map_some, Option.bind_none, Option.map_none, ↓reduceIte, Bool.false_eq_true, szK, sz0, sz1, sz2, sz3, sz4, if_pos rfl, l1, l2, l3, l4]
    rfl))) ?_
  refine k_nx (E1 := FE (some (rowD topR)) (some (.tup (lateL.map rowD))) (some (.tup (vowL.map rowD))) (some (.tup (turnL.map rowD))) (some (.tup (farL.map rowD))) none) (S1 := S) (k_asgN (k_op (k_v rfl) (y := .tup ([[(97, 97, 3), (98, 97, 3), (120, 97, 3)]].map rowD)) (by
    simp only [fnM, runB, mSeq, mAsg, mDPut, mDGet, mPar, mPar3, mgName, mgTup, mgCons, mgNil, mVar, mC, mOp, mTest, mAnd, mOr, mNot, mNotV, mIf, mIfS, mRet, mRetN, mDrop, mNext, mCall, mCons, mNil, mTup, mLst, mLstM, mBlt, mBM, mBM0, mFrz, mFld, mSetF, mYes, mSl, mNoPart, mPart, mSeqI, mRng1, mRng2, mZip, mEnumerate, mMe, mMeK, mNew, mNever, mAndV, mOrV, mDGet2, mDNew, mDisp, mPairs, mRevS, mEnumS, mListVals, mTupR, mKwC, mInD, mNeg, mRev, mRevM, List.map_cons, List.map_nil, List.length_cons, List.length_nil, List.replicate_succ, List.replicate_zero, List.cons_append, List.nil_append, List.append_nil, List.getD_cons_zero, List.getD_cons_succ, List.set_cons_zero, List.set_cons_succ, List.getElem?_cons_zero, List.getElem?_cons_succ, Nat.zero_add, Nat.reduceAdd, Nat.reduceSub, Option.bind_some, Option.map_some, Option.bind_none, Option.map_none, ↓reduceIte, Bool.false_eq_true, szK, sz0, sz1, sz2, sz3, sz4, if_pos rfl, l1, l2, l3, l4]
    rfl) ad2)) ?_
  obtain ⟨⟨d, S1⟩, e, r, hd, r0, r1, h1⟩ := draw_c (E := FE (some (rowD topR)) (some (.tup (lateL.map rowD))) (some (.tup (vowL.map rowD))) (some (.tup (turnL.map rowD))) (some (.tup (farL.map rowD))) none) h (by omega) rfl (b := 4) (by decide) (by decide)
  dsimp only at hd h1
  subst hd
  refine k_nx (E1 := FE (some (rowD topR)) (some (.tup (lateL.map rowD))) (some (.tup (vowL.map rowD))) (some (.tup (turnL.map rowD))) (some (.tup (farL.map rowD))) (some (.int r))) (S1 := S1) (k_asgN e) ?_
  obtain ⟨hs, ls, w, f, q⟩ := known_ret (S := S1) (x1 := some (rowD topR)) (r := r) (by omega)
  refine ⟨_, q, ?_⟩
  dsimp only
  rw [trim_deck h1 hR (by rw [i_deckN h1, i_deckN h]) (fun n => low_wd n _ _ _)]
  exact ⟨hs, "ab", ls, rfl, w, f, h1⟩
theorem some_ok2 {k : Int} {S : Sto} {top : Int} (hR : LowR R) (h : DeckN k R S) (hk : k ≤ 300000) (t0 : 0 < top) (t5 : top ≤ 5) : Ok (F_law_some [.loc 0, .int top] S) fun p => ∃ hs cs ls, p.1 = wd hs cs ls ∧ WOk hs cs ls ∧ Full hs ls ∧ DeckN (k + 400) R p.2 := by
  unfold F_law_some M_law_some
  refine k_fn ?_
  obtain ⟨⟨d, S1⟩, e, r, hd, r0, r1, h1⟩ := draw_c (E := [some (.loc 0), some (.int top), none]) h (by omega) rfl (b := 4) (by decide) (by decide)
  dsimp only at hd h1
  subst hd
  have c := k_op (S2 := S1) e k_c (eq_ii S1 r 0)
  by_cases q : r = 0
  · rw [decide_eq_true q] at c
    obtain ⟨⟨d2, S2⟩, e2, hs, cs, ls, hd2, w, f, h2⟩ := known_ok hR h1 (by omega)
    dsimp only at hd2 h2
    subst hd2
    have run : mIfS (mTest (mOp gEq (mCall 2 F_law_draw (mCons (mVar 0) (mCons (mC (.int 4)) (mNil)))) (mC (.int 0)))) (mRet (mCall 1 F_law_known (mCons (mVar 0) (mNil)))) (mNext) [some (.loc 0), some (.int top), none] S = some (.rt (wd hs cs ls), [some (.loc 0), some (.int top), none], S2) :=
      (k_ifT c).trans (k_ret (k_call (ds := [.loc 0]) (k_args (k_v rfl) k_nil) rfl e2))
    refine ⟨_, k_seqR run, ?_⟩
    dsimp only
    have tr := trim_deck (T := S) h2 hR (by rw [i_deckN h2, i_deckN h]) (fun n => low_wd n hs cs ls) []
    rw [List.append_nil] at tr
    rw [tr]
    exact ⟨hs, cs, ls, rfl, w, f, h2.mono (by omega)⟩
  · rw [decide_eq_false q] at c
    refine k_nx (E1 := [some (.loc 0), some (.int top), none]) (S1 := S1) (k_ifF c) ?_
    have l4 : ∀ {a b c d : D} {E : DL.Env} {S : Sto}, mLst (mCons (mC a) (mCons (mC b) (mCons (mC c) (mCons (mC d) mNil)))) E S = some (.lst [a, b, c, d], S) := fun {a b c d E S} => by
      unfold mLst
      rw [k_args k_c (k_args k_c (k_args k_c (k_args k_c k_nil)))]
      rfl
    obtain ⟨⟨d2, S2⟩, e2, hd2, h2⟩ := pickL_ok (x := .lst [.str "ab", .str "ab", .str "ab", .str "a"]) (ds := [.str "ab", .str "ab", .str "ab", .str "a"]) h1 (by omega) (.inr rfl) (by decide) (by decide)
    dsimp only at hd2 h2
    obtain ⟨hs, Hh, rfl⟩ : ∃ hs, Letters hs ∧ d2 = .str hs := by
      simp only [List.mem_cons, List.not_mem_nil, or_false] at hd2
      rcases hd2 with rfl | rfl | rfl | rfl
      · exact ⟨_, let_ab, rfl⟩
      · exact ⟨_, let_ab, rfl⟩
      · exact ⟨_, let_ab, rfl⟩
      · exact ⟨_, let_a, rfl⟩
    refine k_nx (E1 := [some (.loc 0), some (.int top), some (.str hs)]) (S1 := S2) (k_asgN (k_call (ds := [.loc 0, .lst [.str "ab", .str "ab", .str "ab", .str "a"]]) (k_args (k_v rfl) (k_args l4 k_nil)) rfl e2)) ?_
    obtain ⟨⟨d3, S3⟩, e3, hd3, h3⟩ := pickL_ok (x := .lst [.str "ab", .str "xy", .str "ab", .str "abc"]) (ds := [.str "ab", .str "xy", .str "ab", .str "abc"]) h2 (by omega) (.inr rfl) (by decide) (by decide)
    dsimp only at hd3 h3
    obtain ⟨cs, Hc, rfl⟩ : ∃ cs, Letters cs ∧ d3 = .str cs := by
      simp only [List.mem_cons, List.not_mem_nil, or_false] at hd3
      rcases hd3 with rfl | rfl | rfl | rfl
      · exact ⟨_, let_ab, rfl⟩
      · exact ⟨_, let_xy, rfl⟩
      · exact ⟨_, let_ab, rfl⟩
      · exact ⟨_, let_abc, rfl⟩
    obtain ⟨⟨d4, S4⟩, e4, ls, hd4, w, f, h4⟩ := drawn_ok Hh Hc hR h3 (by omega) t0 t5
    dsimp only at hd4 h4
    subst hd4
    have p3 := k_call (n := 2) (E := [some (.loc 0), some (.int top), some (.str hs)]) (ds := [.loc 0, .lst [.str "ab", .str "xy", .str "ab", .str "abc"]]) (m := mCons (mVar 0) (mCons (mLst (mCons (mC (.str "ab")) (mCons (mC (.str "xy")) (mCons (mC (.str "ab")) (mCons (mC (.str "abc")) (mNil)))))) (mNil))) (k_args (k_v rfl) (k_args l4 k_nil)) rfl e3
    refine ⟨_, k_ret (k_call (ds := [.loc 0, .int top, .str hs, .str cs]) (k_args (k_v rfl) (k_args (k_v rfl) (k_args (k_v rfl) (k_args p3 k_nil)))) rfl e4), ?_⟩
    dsimp only
    have tr := trim_deck (T := S) h4 hR (by rw [i_deckN h4, i_deckN h]) (fun n => low_wd n hs cs ls) []
    rw [List.append_nil] at tr
    rw [tr]
    exact ⟨hs, cs, ls, rfl, w, f, h4.mono (by omega)⟩
end
end Law
namespace Law
open PySem L2 PyProof.Rows DL
section
variable {C : Addr} {hs cs : Str} {ls : List (List Mv)} {R : Sto}
theorem ej_ok {xs : List Nat} (hx : xs.length ≤ 1000) (S2 : Sto) : gJoin (.str "") [.lst (xs.map fun c => .str (sg c))] S2 = some (.str (txt xs), S2) := by
  have hz : ((xs.map sg).map (·.length)).sum + (xs.map sg).length * ("" : Str).length ≤ 16777216 := by
    rw [sum_sg, show ("" : Str).length = 0 from rfl, Nat.mul_zero, Nat.add_zero]
    omega
  unfold gJoin
  simp only [viewS, viewL, viewW, Option.bind_some, strsD_sg]
  rw [if_pos hz, join_sg]
  rfl
theorem tyS (S : Sto) (z : Str) : isTy S "str" (.str z) = true := rfl
theorem speech_ok (w : WOk hs cs ls) {k : Int} {S : Sto} {m : Int} (hR : LowR R) (h : DeckN k R S) (hk : k ≤ 300000) (m0 : 0 ≤ m) (m1 : m ≤ 100) : Ok (F_law_speech [.loc 0, wd hs cs ls, .int m] S) fun p => ∃ xs : List Nat, p.1 = .str (txt xs) ∧ (xs.length : Int) ≤ m ∧ (∀ c ∈ xs, c ∈ hs.cps.toList) ∧ DeckN (k + 101) R p.2 := by
  unfold F_law_speech M_law_speech
  refine k_fn ?_
  obtain ⟨⟨d, S1⟩, e, r, hd, r0, r1, h1⟩ := draw_ok h (by omega) (b := m + 1) (by omega) (by omega)
  dsimp only at hd h1
  subst hd
  have hi : mRng1 (mCons (mCall 2 F_law_draw (mCons (mVar 0) (mCons (mOp gAdd (mVar 2) (mC (.int 1))) (mNil)))) (mNil)) [some (.loc 0), some (wd hs cs ls), some (.int m), none] S = some (rngD 0 r.toNat, S1) :=
    g_rng1 (k_args (k_call (ds := [.loc 0, .int (m + 1)]) (k_args (k_v rfl) (k_args (k_op (k_v rfl) k_c (g_add _ _ _)) k_nil)) rfl e) k_nil) (by omega)
  have hp := List.length_pos_iff.mpr w.h.1
  have h3 := w.h.2.2.2
  have el : hs.length = hs.cps.toList.length := rfl
  have rest : Ok (mComp (mRng1 (mCons (mCall 2 F_law_draw (mCons (mVar 0) (mCons (mOp gAdd (mVar 2) (mC (.int 1))) (mNil)))) (mNil))) (mgName 3) (mYes) (mCall 2 F_law_pick (mCons (mVar 0) (mCons (mDGet (mVar 1) (mC (.str "heard"))) (mNil)))) [3] [some (.loc 0), some (wd hs cs ls), some (.int m), none] S)
      fun p => ∃ xs : List Nat, p.1 = .lst (xs.map fun c => .str (sg c)) ∧ xs.length = r.toNat ∧ (∀ c ∈ xs, c ∈ hs.cps.toList) ∧ DeckN (k + 1 + r.toNat) R p.2 := by
    refine k_comp hi (fun i acc T => ∃ xs : List Nat, acc = xs.map (fun c => .str (sg c)) ∧ xs.length = i ∧ (∀ c ∈ xs, c ∈ hs.cps.toList) ∧ DeckN (k + 1 + i) R T) ⟨[], rfl, rfl, by simp, by simpa using h1⟩ (by rw [rngD_len, sizeLine_eq]; omega) ?_ ?_
    · rintro i d acc T hd hai hT ⟨xs, rfl, hx, hc, hD⟩
      obtain ⟨hi2, rfl⟩ := rngD_get hd
      obtain ⟨⟨d3, S3⟩, e3, c, hc3, hd3, hS3⟩ := pickS_ok (z := hs) (hD.snoc (.lst (xs.map fun c => .str (sg c)))) (by omega) (by omega) (by omega)
      dsimp only at hd3 hS3
      subst hd3
      obtain ⟨T', rfl, hT'⟩ := hS3.unsnoc
      simp only [fnM, runB, mSeq, mAsg, mDPut, mDGet, mPar, mPar3, mgName, mgTup, mgCons, mgNil, mVar, mC, mOp, mTest, mAnd, mOr, mNot, mNotV, mIf, mIfS, mRet, mRetN, mDrop, mNext, mCall, mCons, mNil, mTup, mLst, mLstM, mBlt, mBM, mBM0, mFrz, mFld, mSetF, mYes, mSl, mNoPart, mPart, mSeqI, mRng1, mRng2, mZip, mEnumerate, mMe, mMeK, mNew, mNever, mAndV, mOrV, mDGet2, mDNew, mDisp, mPairs, mRevS, mEnumS, mListVals, mTupR, mKwC, mInD, mNeg, mRev, mRevM, List.map_cons, List.map_nil, List.length_cons, List.length_nil, List.replicate_succ, List.replicate_zero, List.cons_append, List.nil_append, List.append_nil, List.getD_cons_zero, List.getD_cons_succ, List.set_cons_zero, List.set_cons_succ, List.getElem?_cons_zero, List.getElem?_cons_succ, Nat.zero_add, Nat.reduceAdd, Nat.reduceSub, Option.bind_some, Option.map_some, Option.bind_none, Option.map_none, ↓reduceIte, Bool.false_eq_true, szK, sz0, sz1, sz2, sz3, sz4, if_pos rfl, wipeE, List.foldl_cons, List.foldl_nil, v_wd, k_hs, w_hs, e3, ok_some]
      refine ⟨T', rfl, by rw [i_deckN hT', i_deckN h1], xs ++ [c], by simp, by simp [hx], fun z hz => ?_, hT'.mono (by omega)⟩
      rcases List.mem_append.mp hz with u | u
      · exact hc z u
      · rw [List.mem_singleton] at u
        subst u
        exact hc3
    · rintro acc T hT hle ⟨xs, rfl, hx, hc, hD⟩
      rw [rngD_len] at hx hD
      have lo := deck_lowS hD hR
      exact ⟨lows_sg _ _, by rw [← hT]; exact lo _ (Nat.le_refl _), xs, rfl, hx, hc, hD⟩
  obtain ⟨⟨d2, S2⟩, e2, xs, hd2, hx, hc, h2⟩ := rest
  dsimp only at hd2 h2
  subst hd2
  refine ⟨_, k_ret (k_bm (o := .str "") (S1 := S) rfl (tyS _ _) (k_one e2) (ej_ok (by omega) S2)), ?_⟩
  dsimp only
  have tr := trim_deck (T := S) h2 hR (by rw [i_deckN h2, i_deckN h]) (d := .str (txt xs)) (fun n => rfl) []
  rw [List.append_nil] at tr
  rw [tr]
  exact ⟨xs, rfl, by omega, hc, h2.mono (by omega)⟩
abbrev LE (sc : D) (x2 x3 x4 x5 x6 x7 x8 : Option D) : DL.Env := [some sc, some (.loc 0), x2, x3, x4, x5, x6, x7, x8]
abbrev askB (C : Addr) : MS := (mSeq (mAsg (mOp gNe (mCall 3 F_law_on (mCons (mVar 3) (mCons (mLst (mCons (mVar 5) (mNil))) (mCons (mVar 6) (mNil))))) (mLst (mNil))) (mgName 7))
    (mSeq (mAsg (mLst (mCons (mCall 3 (F_is_open C) (mCons (mVar 4) (mCons (mVar 5) (mCons (mVar 6) (mNil))))) (mCons (mKwC 3 (List.length (α := Str) ["waiting", "state", "rules"]) [2, 1, 0] (F_is_open C) (mCons (mVar 6) (mCons (mVar 5) (mCons (mVar 4) (mNil))))) (mNil)))) (mgName 8))
    (mIfS (mTest (mOp gNe (mBlt gReprE (mCons (mVar 8) (mNil))) (mBlt gReprE (mCons (mLst (mCons (mVar 7) (mCons (mVar 7) (mNil)))) (mNil))))) (mRet (mC (.bl false))) (mNext))))
theorem ar321 (a b c : D) : arrange [2, 1, 0] [a, b, c] = [c, b, a] := rfl
theorem show_bool : ∀ b : Bool, showOk (.list [.bool b, .bool b]) = true := by decide +kernel
theorem repr_bool (b : Bool) (S : Sto) : gReprE [.lst [.bl b, .bl b]] S = some (.str (PyData.list [.bool b, .bool b]).shown, S) := by
  have t3 : toPS S (.lst [.bl b, .bl b]) = some (.list [.bool b, .bool b]) := rfl
  show gRepr [.lst [.bl b, .bl b]] S = _
  unfold gRepr
  simp only [t3, Option.bind_some, if_pos (show_bool b)]
theorem ask_ok (w : WOk hs cs ls) (f : Full hs ls) {s : Int} (hh : In ls s) {xs : List Nat} (hx : ∀ c ∈ xs, c ∈ hs.cps.toList) {S : Sto} (hS : LowS S) {sc : D} {x2 x7 x8 : Option D} :
    ∃ y7 y8, askB C (LE sc x2 (some (wd hs cs ls)) (some (rules C hs cs ls)) (some (.int s)) (some (.str (txt xs))) x7 x8) S = some (.nx, LE sc x2 (some (wd hs cs ls)) (some (rules C hs cs ls)) (some (.int s)) (some (.str (txt xs))) y7 y8, S) := by
  have h0 : ∀ z ∈ [s], In ls z := fun z hz => by rw [List.mem_singleton] at hz; rw [hz]; exact hh
  have on := on_ok w h0 (List.pairwise_singleton _ _) (x := txt xs) hS
  have op := open_ok (C := C) w f hh (x := txt xs) hx hS
  rw [txt_cps] at on op
  have eL : D.lst [.int s] = intsL [s] := rfl
  have ne := ne_intsL_nil (reachP ls xs [s]) S
  generalize (!(reachP ls xs [s]).isEmpty) = b at op ne
  have rb := repr_bool b S
  generalize (PyData.list [PyData.bool b, PyData.bool b]).shown = z at rb
  have s1 : (1 : Nat) ≤ sizeLine := sz1
  have s2 : (2 : Nat) ≤ sizeLine := sz2
  refine ⟨some (.bl b), some (.lst [.bl b, .bl b]), ?_⟩
  simp only [fnM, runB, mSeq, mAsg, mDPut, mDGet, mPar, mPar3, mgName, mgTup, mgCons, mgNil, mVar, mC, mOp, mTest, mAnd, mOr, mNot, mNotV, mIf, mIfS, mRet, mRetN, mDrop, mNext, mCall, mCons, mNil, mTup, mLst, mLstM, mBlt, mBM, mBM0, mFrz, mFld, mSetF, mYes, mSl, mNoPart, mPart, mSeqI, mRng1, mRng2, mZip, mEnumerate, mMe, mMeK, mNew, mNever, mAndV, mOrV, mDGet2, mDNew, mDisp, mPairs, mRevS, mEnumS, mListVals, mTupR, mKwC, mInD, mNeg, mRev, mRevM, List.map_cons, List.map_nil, List.length_cons, List.length_nil, List.replicate_succ, List.replicate_zero, List.cons_append, List.nil_append, List.append_nil, List.getD_cons_zero, List.getD_cons_succ, List.set_cons_zero, List.set_cons_succ, List.getElem?_cons_zero, List.getElem?_cons_succ, Nat.zero_add, Nat.reduceAdd, Nat.reduceSub, Option.bind_some, Option.map_some, Option.bind_none, Option.map_none, ↓reduceIte, Bool.false_eq_true, szK, sz0, sz1, sz2, sz3, sz4, if_pos rfl, s1, s2, eL, on, ne, op, ar321, and_self, rb, ne_ss, decide_true, Bool.not_true]
abbrev pagesFor (C : Addr) : MS := mFor (mSeqI (mLst (mCons (mC (.str "")) (mCons (mCall 3 F_law_speech (mCons (mVar 1) (mCons (mVar 3) (mCons (mC (.int 2)) (mNil))))) (mCons (mCall 3 F_law_speech (mCons (mVar 1) (mCons (mVar 3) (mCons (mC (.int 5)) (mNil))))) (mNil)))))) (mgName 6) (askB C)
theorem pages_ok (w : WOk hs cs ls) (f : Full hs ls) {s : Int} (hh : In ls s) {k : Int} {S : Sto} (h : DeckN k [] S) (hk : k ≤ 200000) {sc : D} {x2 x6 x7 x8 : Option D} :
    Ok (pagesFor C (LE sc x2 (some (wd hs cs ls)) (some (rules C hs cs ls)) (some (.int s)) x6 x7 x8) S) fun p => p.1 = .nx ∧ ∃ x6 x7 x8, p.2.1 = LE sc x2 (some (wd hs cs ls)) (some (rules C hs cs ls)) (some (.int s)) x6 x7 x8 ∧ DeckN (k + 202) [] p.2.2 := by
  obtain ⟨⟨d1, S1⟩, e1, xs, hd1, hx, hxc, h1⟩ := speech_ok w low_nil h (by omega) (m := 2) (by decide) (by decide)
  dsimp only at hd1 h1
  subst hd1
  obtain ⟨⟨d2, S2⟩, e2, ys, hd2, hy, hyc, h2⟩ := speech_ok w low_nil h1 (by omega) (m := 5) (by decide) (by decide)
  dsimp only at hd2 h2
  subst hd2
  have c1 := k_call (n := 3) (E := LE sc x2 (some (wd hs cs ls)) (some (rules C hs cs ls)) (some (.int s)) x6 x7 x8) (ds := [.loc 0, wd hs cs ls, .int 2]) (m := mCons (mVar 1) (mCons (mVar 3) (mCons (mC (.int 2)) (mNil)))) (k_args (k_v rfl) (k_args (k_v rfl) (k_args k_c k_nil))) rfl e1
  have c2 := k_call (n := 3) (E := LE sc x2 (some (wd hs cs ls)) (some (rules C hs cs ls)) (some (.int s)) x6 x7 x8) (ds := [.loc 0, wd hs cs ls, .int 5]) (m := mCons (mVar 1) (mCons (mVar 3) (mCons (mC (.int 5)) (mNil)))) (k_args (k_v rfl) (k_args (k_v rfl) (k_args k_c k_nil))) rfl e2
  have hi : mSeqI (mLst (mCons (mC (.str "")) (mCons (mCall 3 F_law_speech (mCons (mVar 1) (mCons (mVar 3) (mCons (mC (.int 2)) (mNil))))) (mCons (mCall 3 F_law_speech (mCons (mVar 1) (mCons (mVar 3) (mCons (mC (.int 5)) (mNil))))) (mNil))))) (LE sc x2 (some (wd hs cs ls)) (some (rules C hs cs ls)) (some (.int s)) x6 x7 x8) S = some ([[], xs, ys].map fun x => .str (txt x), S2) := by
    unfold mSeqI mLst
    rw [k_args k_c (k_args c1 (k_args c2 k_nil))]
    rfl
  have lo := deck_lowS h2 low_nil
  have all : ∀ x ∈ [[], xs, ys], ∀ c ∈ x, c ∈ hs.cps.toList := fun x hx => by
    simp only [List.mem_cons, List.not_mem_nil, or_false] at hx
    rcases hx with rfl | rfl | rfl
    · simp
    · exact hxc
    · exact hyc
  refine k_for hi (fun i E S' => ∃ x6 x7 x8, E = LE sc x2 (some (wd hs cs ls)) (some (rules C hs cs ls)) (some (.int s)) x6 x7 x8 ∧ S' = S2) ⟨_, _, _, rfl, rfl⟩ ?_ ?_
  · rintro i d E S' hd ⟨x6, x7, x8, rfl, rfl⟩
    rw [List.getElem?_map] at hd
    obtain ⟨x, hx', rfl⟩ := map_some' hd
    refine ⟨(LE sc x2 (some (wd hs cs ls)) (some (rules C hs cs ls)) (some (.int s)) (some (.str (txt x))) x7 x8, S'), rfl, ?_⟩
    obtain ⟨y7, y8, q⟩ := ask_ok (C := C) w f hh (all x (List.mem_of_getElem? hx')) lo (sc := sc) (x2 := x2) (x7 := x7) (x8 := x8)
    exact ⟨_, q, _, _, _, rfl, rfl⟩
  · rintro E S' ⟨x6, x7, x8, rfl, rfl⟩
    exact ⟨rfl, _, _, _, rfl, h2.mono (by omega)⟩
abbrev statesFor (C : Addr) : MS := mFor (mRng1 (mCons (mBlt gLenS (mCons (mDGet (mVar 3) (mC (.str "rows"))) (mNil))) (mNil))) (mgName 5) (pagesFor C)
theorem states_ok (w : WOk hs cs ls) (f : Full hs ls) {k : Int} {S : Sto} (h : DeckN k [] S) (hk : k ≤ 100000) {sc : D} {x2 x5 x6 x7 x8 : Option D} :
    Ok (statesFor C (LE sc x2 (some (wd hs cs ls)) (some (rules C hs cs ls)) x5 x6 x7 x8) S) fun p => p.1 = .nx ∧ ∃ x5 x6 x7 x8, p.2.1 = LE sc x2 (some (wd hs cs ls)) (some (rules C hs cs ls)) x5 x6 x7 x8 ∧ DeckN (k + 1010) [] p.2.2 := by
  have l5 := w.l5
  have ln : (ls.map rowD).length = ls.length := List.length_map _
  have gr : mDGet (mVar 3) (mC (.str "rows")) (LE sc x2 (some (wd hs cs ls)) (some (rules C hs cs ls)) x5 x6 x7 x8) S = some (.tup (ls.map rowD), S) := by simp only [fnM, runB, mSeq, mAsg, mDPut, mDGet, mPar, mPar3, mgName, mgTup, mgCons, mgNil, mVar, mC, mOp, mTest, mAnd, mOr, mNot, mNotV, mIf, mIfS, mRet, mRetN, mDrop, mNext, mCall, mCons, mNil, mTup, mLst, mLstM, mBlt, mBM, mBM0, mFrz, mFld, mSetF, mYes, mSl, mNoPart, mPart, mSeqI, mRng1, mRng2, mZip, mEnumerate, mMe, mMeK, mNew, mNever, mAndV, mOrV, mDGet2, mDNew, mDisp, mPairs, mRevS, mEnumS, mListVals, mTupR, mKwC, mInD, mNeg, mRev, mRevM, List.map_cons, List.map_nil, List.length_cons, List.length_nil, List.replicate_succ, List.replicate_zero, List.cons_append, List.nil_append, List.append_nil, List.getD_cons_zero, List.getD_cons_succ, List.set_cons_zero, List.set_cons_succ, List.getElem?_cons_zero, List.getElem?_cons_succ, Nat.zero_add, Nat.reduceAdd, Nat.reduceSub, Option.bind_some, Option.map_some, Option.bind_none, Option.map_none, ↓reduceIte, Bool.false_eq_true, szK, sz0, sz1, sz2, sz3, sz4, if_pos rfl, v_wd, k_lines, w_lines]
  have hi : mRng1 (mCons (mBlt gLenS (mCons (mDGet (mVar 3) (mC (.str "rows"))) (mNil))) (mNil)) (LE sc x2 (some (wd hs cs ls)) (some (rules C hs cs ls)) x5 x6 x7 x8) S = some (rngD 0 ls.length, S) := by
    have := g_rng1 (k_one (k_blt (k_one gr) (len_t S (ls.map rowD)))) (by rw [ln]; omega)
    rw [ln, Int.toNat_natCast] at this
    exact this
  refine k_for hi (fun i E S' => ∃ x5 x6 x7 x8, E = LE sc x2 (some (wd hs cs ls)) (some (rules C hs cs ls)) x5 x6 x7 x8 ∧ DeckN (k + 202 * i) [] S') ⟨_, _, _, _, rfl, by simpa using h⟩ ?_ ?_
  · rintro i d E S' hd ⟨x5, x6, x7, x8, rfl, hD⟩
    obtain ⟨hi2, rfl⟩ := rngD_get hd
    refine ⟨(LE sc x2 (some (wd hs cs ls)) (some (rules C hs cs ls)) (some (.int (0 + (i : Int)))) x6 x7 x8, S'), rfl, ?_⟩
    refine (pages_ok (C := C) w f (s := 0 + (i : Int)) ⟨by omega, by omega⟩ hD (by omega)).mono ?_
    rintro ⟨o, E, S3⟩ ⟨ho, y6, y7, y8, hE, h3⟩
    dsimp only at ho hE h3
    subst ho hE
    exact ⟨_, _, _, _, rfl, h3.mono (by omega)⟩
  · rintro E S' ⟨x5, x6, x7, x8, rfl, hD⟩
    rw [rngD_len] at hD
    exact ⟨rfl, _, _, _, _, rfl, hD.mono (by omega)⟩
end
/-- the law answers True -/
theorem all_true (C : Addr) (ns : List Int) (h : ns.length ≤ 63) : ∃ S', F_law C [scriptD ns] [] = some (.bl true, S') := by
  have main : Ok (F_law C [scriptD ns] []) fun p => p.1 = .bl true := by
    unfold F_law M_law
    refine k_fn ?_
    obtain ⟨⟨d, S1⟩, e1, hd, hS1⟩ := deck_ok h
    dsimp only at hd hS1; subst hd
    refine k_nx (E1 := LE (scriptD ns) none none none none none none none) (S1 := S1) (k_asgN (k_call (ds := [scriptD ns]) (k_args (k_v rfl) k_nil) rfl e1)) ?_
    have hi : mRng1 (mCons (mC (.int 2)) (mNil)) (LE (scriptD ns) none none none none none none none) S1 = some (rngD 0 (2 : Int).toNat, S1) := g_rng1 (k_args k_c k_nil) (by decide)
    refine k_nxO (Q := fun E S => DeckN 3000 [] S) (k_for hi (fun i E S => ∃ x2 x3 x4 x5 x6 x7 x8, E = LE (scriptD ns) x2 x3 x4 x5 x6 x7 x8 ∧ DeckN (1500 * i) [] S) ⟨_, _, _, _, _, _, _, rfl, by simpa using hS1⟩ ?_ ?_) ?_
    · rintro i d E S hd ⟨x2, x3, x4, x5, x6, x7, x8, rfl, hS⟩
      obtain ⟨hi2, rfl⟩ := rngD_get hd
      have i2 : i < 2 := hi2
      refine ⟨(LE (scriptD ns) (some (.int (0 + (i : Int)))) x3 x4 x5 x6 x7 x8, S), rfl, ?_⟩
      dsimp only
      obtain ⟨⟨d2, S2⟩, e2, hs, cs, ls, hd2, w, f, h2⟩ := some_ok2 low_nil hS (by omega) (top := 4) (by decide) (by decide)
      dsimp only at hd2 h2
      subst hd2
      refine k_nx (E1 := LE (scriptD ns) (some (.int (0 + (i : Int)))) (some (wd hs cs ls)) x4 x5 x6 x7 x8) (S1 := S2) (k_asgN (k_call (ds := [.loc 0, .int 4]) (k_args (k_v rfl) (k_args k_c k_nil)) rfl e2)) ?_
      have lo2 := deck_lowS h2 low_nil
      have co := made_ok (C := C) w (lo2 _ (Nat.le_refl _))
      refine k_nx (E1 := LE (scriptD ns) (some (.int (0 + (i : Int)))) (some (wd hs cs ls)) (some (rules C hs cs ls)) x5 x6 x7 x8) (S1 := S2) (k_asgN (k_call (ds := [wd hs cs ls]) (k_args (k_v rfl) k_nil) rfl co)) ?_
      refine Ok.mono (states_ok (C := C) w f h2 (by omega)) ?_
      rintro ⟨o, E, S⟩ ⟨ho, y5, y6, y7, y8, hE, hS⟩
      dsimp only at ho hE hS
      subst ho hE
      exact ⟨_, _, _, _, _, _, _, rfl, hS.mono (by omega)⟩
    · rintro E S ⟨x2, x3, x4, x5, x6, x7, x8, rfl, hS⟩
      rw [rngD_len] at hS
      have : (2 : Int).toNat = 2 := rfl
      exact ⟨rfl, hS.mono (by omega)⟩
    · rintro E S hS
      refine ⟨(.rt (.bl true), E, S), k_ret k_c, ?_⟩
      show (trim _ _ _).1 = _
      unfold trim
      split <;> rfl
  obtain ⟨⟨d, S'⟩, e, hd⟩ := main
  dsimp only at hd
  subst hd
  exact ⟨S', e⟩
end Law
namespace Law
open PySem L2 PyProof.Rows DL
theorem all_mk {l : PySem.W.OpenLaw} {w : World} {K : PySem.W.Frag} {h : Heap} {mg : Str → Option Value} {fa C : Addr} (X : K.In h) (G : h.Ns mainGlobals mg) (hfa : mg "law" = some (.ref fa))
    (aC : PySem.W.nsIn K mainGlobals "Rules" = some (some (.ref C)))
    {f_is_integer : Addr} {od_is_integer an_is_integer : Option Addr} {sl_is_integer : Array (Option Value)} {oc_is_integer kv_is_integer dc_is_integer pm_is_integer cd_is_integer ct_is_integer : Value}
    (a_is_integer : PySem.W.nsIn K mainGlobals "is_integer" = some (some (.ref f_is_integer)))
    (l_is_integer : K.lookup f_is_integer = some ⟨oc_is_integer, od_is_integer, .func (PySem.W.fnOf "is_integer" "is_integer" (defArgs s_is_integer) (defBody s_is_integer) (defScope s_is_integer) .none kv_is_integer dc_is_integer pm_is_integer an_is_integer cd_is_integer ct_is_integer), sl_is_integer⟩)
    (c_is_integer : PySem.W.codeIn K cd_is_integer "is_integer" = true)
    (k_is_integer : PySem.W.keepIn K (.ref f_is_integer) = true)
    {f_is_number : Addr} {od_is_number an_is_number : Option Addr} {sl_is_number : Array (Option Value)} {oc_is_number kv_is_number dc_is_number pm_is_number cd_is_number ct_is_number : Value}
    (a_is_number : PySem.W.nsIn K mainGlobals "is_number" = some (some (.ref f_is_number)))
    (l_is_number : K.lookup f_is_number = some ⟨oc_is_number, od_is_number, .func (PySem.W.fnOf "is_number" "is_number" (defArgs s_is_number) (defBody s_is_number) (defScope s_is_number) .none kv_is_number dc_is_number pm_is_number an_is_number cd_is_number ct_is_number), sl_is_number⟩)
    (c_is_number : PySem.W.codeIn K cd_is_number "is_number" = true)
    (k_is_number : PySem.W.keepIn K (.ref f_is_number) = true)
    {f_is_index : Addr} {od_is_index an_is_index : Option Addr} {sl_is_index : Array (Option Value)} {oc_is_index kv_is_index dc_is_index pm_is_index cd_is_index ct_is_index : Value}
    (a_is_index : PySem.W.nsIn K mainGlobals "is_index" = some (some (.ref f_is_index)))
    (l_is_index : K.lookup f_is_index = some ⟨oc_is_index, od_is_index, .func (PySem.W.fnOf "is_index" "is_index" (defArgs s_is_index) (defBody s_is_index) (defScope s_is_index) .none kv_is_index dc_is_index pm_is_index an_is_index cd_is_index ct_is_index), sl_is_index⟩)
    (c_is_index : PySem.W.codeIn K cd_is_index "is_index" = true)
    (k_is_index : PySem.W.keepIn K (.ref f_is_index) = true)
    {f_is_tuple_of : Addr} {od_is_tuple_of an_is_tuple_of : Option Addr} {sl_is_tuple_of : Array (Option Value)} {oc_is_tuple_of kv_is_tuple_of dc_is_tuple_of pm_is_tuple_of cd_is_tuple_of ct_is_tuple_of : Value}
    (a_is_tuple_of : PySem.W.nsIn K mainGlobals "is_tuple_of" = some (some (.ref f_is_tuple_of)))
    (l_is_tuple_of : K.lookup f_is_tuple_of = some ⟨oc_is_tuple_of, od_is_tuple_of, .func (PySem.W.fnOf "is_tuple_of" "is_tuple_of" (defArgs s_is_tuple_of) (defBody s_is_tuple_of) (defScope s_is_tuple_of) .none kv_is_tuple_of dc_is_tuple_of pm_is_tuple_of an_is_tuple_of cd_is_tuple_of ct_is_tuple_of), sl_is_tuple_of⟩)
    (c_is_tuple_of : PySem.W.codeIn K cd_is_tuple_of "is_tuple_of" = true)
    (k_is_tuple_of : PySem.W.keepIn K (.ref f_is_tuple_of) = true)
    {f_is_text : Addr} {od_is_text an_is_text : Option Addr} {sl_is_text : Array (Option Value)} {oc_is_text kv_is_text dc_is_text pm_is_text cd_is_text ct_is_text : Value}
    (a_is_text : PySem.W.nsIn K mainGlobals "is_text" = some (some (.ref f_is_text)))
    (l_is_text : K.lookup f_is_text = some ⟨oc_is_text, od_is_text, .func (PySem.W.fnOf "is_text" "is_text" (defArgs s_is_text) (defBody s_is_text) (defScope s_is_text) .none kv_is_text dc_is_text pm_is_text an_is_text cd_is_text ct_is_text), sl_is_text⟩)
    (c_is_text : PySem.W.codeIn K cd_is_text "is_text" = true)
    (k_is_text : PySem.W.keepIn K (.ref f_is_text) = true)
    {f_is_letter : Addr} {od_is_letter an_is_letter : Option Addr} {sl_is_letter : Array (Option Value)} {oc_is_letter kv_is_letter dc_is_letter pm_is_letter cd_is_letter ct_is_letter : Value}
    (a_is_letter : PySem.W.nsIn K mainGlobals "is_letter" = some (some (.ref f_is_letter)))
    (l_is_letter : K.lookup f_is_letter = some ⟨oc_is_letter, od_is_letter, .func (PySem.W.fnOf "is_letter" "is_letter" (defArgs s_is_letter) (defBody s_is_letter) (defScope s_is_letter) .none kv_is_letter dc_is_letter pm_is_letter an_is_letter cd_is_letter ct_is_letter), sl_is_letter⟩)
    (c_is_letter : PySem.W.codeIn K cd_is_letter "is_letter" = true)
    (k_is_letter : PySem.W.keepIn K (.ref f_is_letter) = true)
    {f_is_ascending : Addr} {od_is_ascending an_is_ascending : Option Addr} {sl_is_ascending : Array (Option Value)} {oc_is_ascending kv_is_ascending dc_is_ascending pm_is_ascending cd_is_ascending ct_is_ascending : Value}
    (a_is_ascending : PySem.W.nsIn K mainGlobals "is_ascending" = some (some (.ref f_is_ascending)))
    (l_is_ascending : K.lookup f_is_ascending = some ⟨oc_is_ascending, od_is_ascending, .func (PySem.W.fnOf "is_ascending" "is_ascending" (defArgs s_is_ascending) (defBody s_is_ascending) (defScope s_is_ascending) .none kv_is_ascending dc_is_ascending pm_is_ascending an_is_ascending cd_is_ascending ct_is_ascending), sl_is_ascending⟩)
    (c_is_ascending : PySem.W.codeIn K cd_is_ascending "is_ascending" = true)
    (k_is_ascending : PySem.W.keepIn K (.ref f_is_ascending) = true)
    {f_are_letters : Addr} {od_are_letters an_are_letters : Option Addr} {sl_are_letters : Array (Option Value)} {oc_are_letters kv_are_letters dc_are_letters pm_are_letters cd_are_letters ct_are_letters : Value}
    (a_are_letters : PySem.W.nsIn K mainGlobals "are_letters" = some (some (.ref f_are_letters)))
    (l_are_letters : K.lookup f_are_letters = some ⟨oc_are_letters, od_are_letters, .func (PySem.W.fnOf "are_letters" "are_letters" (defArgs s_are_letters) (defBody s_are_letters) (defScope s_are_letters) .none kv_are_letters dc_are_letters pm_are_letters an_are_letters cd_are_letters ct_are_letters), sl_are_letters⟩)
    (c_are_letters : PySem.W.codeIn K cd_are_letters "are_letters" = true)
    (k_are_letters : PySem.W.keepIn K (.ref f_are_letters) = true)
    {f_is_move : Addr} {od_is_move an_is_move : Option Addr} {sl_is_move : Array (Option Value)} {oc_is_move kv_is_move dc_is_move pm_is_move cd_is_move ct_is_move : Value}
    (a_is_move : PySem.W.nsIn K mainGlobals "is_move" = some (some (.ref f_is_move)))
    (l_is_move : K.lookup f_is_move = some ⟨oc_is_move, od_is_move, .func (PySem.W.fnOf "is_move" "is_move" (defArgs s_is_move) (defBody s_is_move) (defScope s_is_move) .none kv_is_move dc_is_move pm_is_move an_is_move cd_is_move ct_is_move), sl_is_move⟩)
    (c_is_move : PySem.W.codeIn K cd_is_move "is_move" = true)
    (k_is_move : PySem.W.keepIn K (.ref f_is_move) = true)
    {f_is_row : Addr} {od_is_row an_is_row : Option Addr} {sl_is_row : Array (Option Value)} {oc_is_row kv_is_row dc_is_row pm_is_row cd_is_row ct_is_row : Value}
    (a_is_row : PySem.W.nsIn K mainGlobals "is_row" = some (some (.ref f_is_row)))
    (l_is_row : K.lookup f_is_row = some ⟨oc_is_row, od_is_row, .func (PySem.W.fnOf "is_row" "is_row" (defArgs s_is_row) (defBody s_is_row) (defScope s_is_row) .none kv_is_row dc_is_row pm_is_row an_is_row cd_is_row ct_is_row), sl_is_row⟩)
    (c_is_row : PySem.W.codeIn K cd_is_row "is_row" = true)
    (k_is_row : PySem.W.keepIn K (.ref f_is_row) = true)
    {f_Rules_init : Addr} {od_Rules_init an_Rules_init : Option Addr} {sl_Rules_init : Array (Option Value)} {oc_Rules_init kv_Rules_init dc_Rules_init pm_Rules_init cd_Rules_init ct_Rules_init : Value}
    (a_Rules_init : PySem.W.findIn K (.ref C) "__init__" = some (some (.ref f_Rules_init)))
    (i_Rules_init : PySem.W.isFn K (.ref f_Rules_init) = true)
    (l_Rules_init : K.lookup f_Rules_init = some ⟨oc_Rules_init, od_Rules_init, .func (PySem.W.fnOf "__init__" "Rules.__init__" (defArgs s_Rules_init) (defBody s_Rules_init) (defScope s_Rules_init) .none kv_Rules_init dc_Rules_init pm_Rules_init an_Rules_init cd_Rules_init ct_Rules_init), sl_Rules_init⟩)
    (c_Rules_init : PySem.W.codeIn K cd_Rules_init "Rules.__init__" = true)
    (k_Rules_init : PySem.W.keepIn K (.ref f_Rules_init) = true)
    {f_letter_relation : Addr} {od_letter_relation an_letter_relation : Option Addr} {sl_letter_relation : Array (Option Value)} {oc_letter_relation kv_letter_relation dc_letter_relation pm_letter_relation cd_letter_relation ct_letter_relation : Value}
    (a_letter_relation : PySem.W.nsIn K mainGlobals "letter_relation" = some (some (.ref f_letter_relation)))
    (l_letter_relation : K.lookup f_letter_relation = some ⟨oc_letter_relation, od_letter_relation, .func (PySem.W.fnOf "letter_relation" "letter_relation" (defArgs s_letter_relation) (defBody s_letter_relation) (defScope s_letter_relation) .none kv_letter_relation dc_letter_relation pm_letter_relation an_letter_relation cd_letter_relation ct_letter_relation), sl_letter_relation⟩)
    (c_letter_relation : PySem.W.codeIn K cd_letter_relation "letter_relation" = true)
    (k_letter_relation : PySem.W.keepIn K (.ref f_letter_relation) = true)
    {f_letter_relations : Addr} {od_letter_relations an_letter_relations : Option Addr} {sl_letter_relations : Array (Option Value)} {oc_letter_relations kv_letter_relations dc_letter_relations pm_letter_relations cd_letter_relations ct_letter_relations : Value}
    (a_letter_relations : PySem.W.nsIn K mainGlobals "letter_relations" = some (some (.ref f_letter_relations)))
    (l_letter_relations : K.lookup f_letter_relations = some ⟨oc_letter_relations, od_letter_relations, .func (PySem.W.fnOf "letter_relations" "letter_relations" (defArgs s_letter_relations) (defBody s_letter_relations) (defScope s_letter_relations) .none kv_letter_relations dc_letter_relations pm_letter_relations an_letter_relations cd_letter_relations ct_letter_relations), sl_letter_relations⟩)
    (c_letter_relations : PySem.W.codeIn K cd_letter_relations "letter_relations" = true)
    (k_letter_relations : PySem.W.keepIn K (.ref f_letter_relations) = true)
    {f_followed : Addr} {od_followed an_followed : Option Addr} {sl_followed : Array (Option Value)} {oc_followed kv_followed dc_followed pm_followed cd_followed ct_followed : Value}
    (a_followed : PySem.W.nsIn K mainGlobals "followed" = some (some (.ref f_followed)))
    (l_followed : K.lookup f_followed = some ⟨oc_followed, od_followed, .func (PySem.W.fnOf "followed" "followed" (defArgs s_followed) (defBody s_followed) (defScope s_followed) .none kv_followed dc_followed pm_followed an_followed cd_followed ct_followed), sl_followed⟩)
    (c_followed : PySem.W.codeIn K cd_followed "followed" = true)
    (k_followed : PySem.W.keepIn K (.ref f_followed) = true)
    {f_reached : Addr} {od_reached an_reached : Option Addr} {sl_reached : Array (Option Value)} {oc_reached kv_reached dc_reached pm_reached cd_reached ct_reached : Value}
    (a_reached : PySem.W.nsIn K mainGlobals "reached" = some (some (.ref f_reached)))
    (l_reached : K.lookup f_reached = some ⟨oc_reached, od_reached, .func (PySem.W.fnOf "reached" "reached" (defArgs s_reached) (defBody s_reached) (defScope s_reached) .none kv_reached dc_reached pm_reached an_reached cd_reached ct_reached), sl_reached⟩)
    (c_reached : PySem.W.codeIn K cd_reached "reached" = true)
    (k_reached : PySem.W.keepIn K (.ref f_reached) = true)
    {f_mute : Addr} {od_mute an_mute : Option Addr} {sl_mute : Array (Option Value)} {oc_mute kv_mute dc_mute pm_mute cd_mute ct_mute : Value}
    (a_mute : PySem.W.nsIn K mainGlobals "mute" = some (some (.ref f_mute)))
    (l_mute : K.lookup f_mute = some ⟨oc_mute, od_mute, .func (PySem.W.fnOf "mute" "mute" (defArgs s_mute) (defBody s_mute) (defScope s_mute) .none kv_mute dc_mute pm_mute an_mute cd_mute ct_mute), sl_mute⟩)
    (c_mute : PySem.W.codeIn K cd_mute "mute" = true)
    (k_mute : PySem.W.keepIn K (.ref f_mute) = true)
    {f_check_full : Addr} {od_check_full an_check_full : Option Addr} {sl_check_full : Array (Option Value)} {oc_check_full kv_check_full dc_check_full pm_check_full cd_check_full ct_check_full : Value}
    (a_check_full : PySem.W.nsIn K mainGlobals "check_full" = some (some (.ref f_check_full)))
    (l_check_full : K.lookup f_check_full = some ⟨oc_check_full, od_check_full, .func (PySem.W.fnOf "check_full" "check_full" (defArgs s_check_full) (defBody s_check_full) (defScope s_check_full) .none kv_check_full dc_check_full pm_check_full an_check_full cd_check_full ct_check_full), sl_check_full⟩)
    (c_check_full : PySem.W.codeIn K cd_check_full "check_full" = true)
    (k_check_full : PySem.W.keepIn K (.ref f_check_full) = true)
    {f_goes_on : Addr} {od_goes_on an_goes_on : Option Addr} {sl_goes_on : Array (Option Value)} {oc_goes_on kv_goes_on dc_goes_on pm_goes_on cd_goes_on ct_goes_on : Value}
    (a_goes_on : PySem.W.nsIn K mainGlobals "goes_on" = some (some (.ref f_goes_on)))
    (l_goes_on : K.lookup f_goes_on = some ⟨oc_goes_on, od_goes_on, .func (PySem.W.fnOf "goes_on" "goes_on" (defArgs s_goes_on) (defBody s_goes_on) (defScope s_goes_on) .none kv_goes_on dc_goes_on pm_goes_on an_goes_on cd_goes_on ct_goes_on), sl_goes_on⟩)
    (c_goes_on : PySem.W.codeIn K cd_goes_on "goes_on" = true)
    (k_goes_on : PySem.W.keepIn K (.ref f_goes_on) = true)
    {f_is_open : Addr} {od_is_open an_is_open : Option Addr} {sl_is_open : Array (Option Value)} {oc_is_open kv_is_open dc_is_open pm_is_open cd_is_open ct_is_open : Value}
    (a_is_open : PySem.W.nsIn K mainGlobals "is_open" = some (some (.ref f_is_open)))
    (l_is_open : K.lookup f_is_open = some ⟨oc_is_open, od_is_open, .func (PySem.W.fnOf "is_open" "is_open" (defArgs s_is_open) (defBody s_is_open) (defScope s_is_open) .none kv_is_open dc_is_open pm_is_open an_is_open cd_is_open ct_is_open), sl_is_open⟩)
    (c_is_open : PySem.W.codeIn K cd_is_open "is_open" = true)
    (k_is_open : PySem.W.keepIn K (.ref f_is_open) = true)
    {f_law_deck : Addr} {od_law_deck an_law_deck : Option Addr} {sl_law_deck : Array (Option Value)} {oc_law_deck kv_law_deck dc_law_deck pm_law_deck cd_law_deck ct_law_deck : Value}
    (a_law_deck : PySem.W.nsIn K mainGlobals "_law_deck" = some (some (.ref f_law_deck)))
    (l_law_deck : K.lookup f_law_deck = some ⟨oc_law_deck, od_law_deck, .func (PySem.W.fnOf "_law_deck" "_law_deck" (defArgs s_law_deck) (defBody s_law_deck) (defScope s_law_deck) .none kv_law_deck dc_law_deck pm_law_deck an_law_deck cd_law_deck ct_law_deck), sl_law_deck⟩)
    (c_law_deck : PySem.W.codeIn K cd_law_deck "_law_deck" = true)
    (k_law_deck : PySem.W.keepIn K (.ref f_law_deck) = true)
    {f_law_draw : Addr} {od_law_draw an_law_draw : Option Addr} {sl_law_draw : Array (Option Value)} {oc_law_draw kv_law_draw dc_law_draw pm_law_draw cd_law_draw ct_law_draw : Value}
    (a_law_draw : PySem.W.nsIn K mainGlobals "_law_draw" = some (some (.ref f_law_draw)))
    (l_law_draw : K.lookup f_law_draw = some ⟨oc_law_draw, od_law_draw, .func (PySem.W.fnOf "_law_draw" "_law_draw" (defArgs s_law_draw) (defBody s_law_draw) (defScope s_law_draw) .none kv_law_draw dc_law_draw pm_law_draw an_law_draw cd_law_draw ct_law_draw), sl_law_draw⟩)
    (c_law_draw : PySem.W.codeIn K cd_law_draw "_law_draw" = true)
    (k_law_draw : PySem.W.keepIn K (.ref f_law_draw) = true)
    {f_law_pick : Addr} {od_law_pick an_law_pick : Option Addr} {sl_law_pick : Array (Option Value)} {oc_law_pick kv_law_pick dc_law_pick pm_law_pick cd_law_pick ct_law_pick : Value}
    (a_law_pick : PySem.W.nsIn K mainGlobals "_law_pick" = some (some (.ref f_law_pick)))
    (l_law_pick : K.lookup f_law_pick = some ⟨oc_law_pick, od_law_pick, .func (PySem.W.fnOf "_law_pick" "_law_pick" (defArgs s_law_pick) (defBody s_law_pick) (defScope s_law_pick) .none kv_law_pick dc_law_pick pm_law_pick an_law_pick cd_law_pick ct_law_pick), sl_law_pick⟩)
    (c_law_pick : PySem.W.codeIn K cd_law_pick "_law_pick" = true)
    (k_law_pick : PySem.W.keepIn K (.ref f_law_pick) = true)
    {f_law_moves : Addr} {od_law_moves an_law_moves : Option Addr} {sl_law_moves : Array (Option Value)} {oc_law_moves kv_law_moves dc_law_moves pm_law_moves cd_law_moves ct_law_moves : Value}
    (a_law_moves : PySem.W.nsIn K mainGlobals "_law_moves" = some (some (.ref f_law_moves)))
    (l_law_moves : K.lookup f_law_moves = some ⟨oc_law_moves, od_law_moves, .func (PySem.W.fnOf "_law_moves" "_law_moves" (defArgs s_law_moves) (defBody s_law_moves) (defScope s_law_moves) .none kv_law_moves dc_law_moves pm_law_moves an_law_moves cd_law_moves ct_law_moves), sl_law_moves⟩)
    (c_law_moves : PySem.W.codeIn K cd_law_moves "_law_moves" = true)
    (k_law_moves : PySem.W.keepIn K (.ref f_law_moves) = true)
    {f_law_on : Addr} {od_law_on an_law_on : Option Addr} {sl_law_on : Array (Option Value)} {oc_law_on kv_law_on dc_law_on pm_law_on cd_law_on ct_law_on : Value}
    (a_law_on : PySem.W.nsIn K mainGlobals "_law_on" = some (some (.ref f_law_on)))
    (l_law_on : K.lookup f_law_on = some ⟨oc_law_on, od_law_on, .func (PySem.W.fnOf "_law_on" "_law_on" (defArgs s_law_on) (defBody s_law_on) (defScope s_law_on) .none kv_law_on dc_law_on pm_law_on an_law_on cd_law_on ct_law_on), sl_law_on⟩)
    (c_law_on : PySem.W.codeIn K cd_law_on "_law_on" = true)
    (k_law_on : PySem.W.keepIn K (.ref f_law_on) = true)
    {f_law_mute : Addr} {od_law_mute an_law_mute : Option Addr} {sl_law_mute : Array (Option Value)} {oc_law_mute kv_law_mute dc_law_mute pm_law_mute cd_law_mute ct_law_mute : Value}
    (a_law_mute : PySem.W.nsIn K mainGlobals "_law_mute" = some (some (.ref f_law_mute)))
    (l_law_mute : K.lookup f_law_mute = some ⟨oc_law_mute, od_law_mute, .func (PySem.W.fnOf "_law_mute" "_law_mute" (defArgs s_law_mute) (defBody s_law_mute) (defScope s_law_mute) .none kv_law_mute dc_law_mute pm_law_mute an_law_mute cd_law_mute ct_law_mute), sl_law_mute⟩)
    (c_law_mute : PySem.W.codeIn K cd_law_mute "_law_mute" = true)
    (k_law_mute : PySem.W.keepIn K (.ref f_law_mute) = true)
    {f_law_set : Addr} {od_law_set an_law_set : Option Addr} {sl_law_set : Array (Option Value)} {oc_law_set kv_law_set dc_law_set pm_law_set cd_law_set ct_law_set : Value}
    (a_law_set : PySem.W.nsIn K mainGlobals "_law_set" = some (some (.ref f_law_set)))
    (l_law_set : K.lookup f_law_set = some ⟨oc_law_set, od_law_set, .func (PySem.W.fnOf "_law_set" "_law_set" (defArgs s_law_set) (defBody s_law_set) (defScope s_law_set) .none kv_law_set dc_law_set pm_law_set an_law_set cd_law_set ct_law_set), sl_law_set⟩)
    (c_law_set : PySem.W.codeIn K cd_law_set "_law_set" = true)
    (k_law_set : PySem.W.keepIn K (.ref f_law_set) = true)
    {f_law_drawn : Addr} {od_law_drawn an_law_drawn : Option Addr} {sl_law_drawn : Array (Option Value)} {oc_law_drawn kv_law_drawn dc_law_drawn pm_law_drawn cd_law_drawn ct_law_drawn : Value}
    (a_law_drawn : PySem.W.nsIn K mainGlobals "_law_drawn" = some (some (.ref f_law_drawn)))
    (l_law_drawn : K.lookup f_law_drawn = some ⟨oc_law_drawn, od_law_drawn, .func (PySem.W.fnOf "_law_drawn" "_law_drawn" (defArgs s_law_drawn) (defBody s_law_drawn) (defScope s_law_drawn) .none kv_law_drawn dc_law_drawn pm_law_drawn an_law_drawn cd_law_drawn ct_law_drawn), sl_law_drawn⟩)
    (c_law_drawn : PySem.W.codeIn K cd_law_drawn "_law_drawn" = true)
    (k_law_drawn : PySem.W.keepIn K (.ref f_law_drawn) = true)
    {f_law_made : Addr} {od_law_made an_law_made : Option Addr} {sl_law_made : Array (Option Value)} {oc_law_made kv_law_made dc_law_made pm_law_made cd_law_made ct_law_made : Value}
    (a_law_made : PySem.W.nsIn K mainGlobals "_law_made" = some (some (.ref f_law_made)))
    (l_law_made : K.lookup f_law_made = some ⟨oc_law_made, od_law_made, .func (PySem.W.fnOf "_law_made" "_law_made" (defArgs s_law_made) (defBody s_law_made) (defScope s_law_made) .none kv_law_made dc_law_made pm_law_made an_law_made cd_law_made ct_law_made), sl_law_made⟩)
    (c_law_made : PySem.W.codeIn K cd_law_made "_law_made" = true)
    (k_law_made : PySem.W.keepIn K (.ref f_law_made) = true)
    {f_law_known : Addr} {od_law_known an_law_known : Option Addr} {sl_law_known : Array (Option Value)} {oc_law_known kv_law_known dc_law_known pm_law_known cd_law_known ct_law_known : Value}
    (a_law_known : PySem.W.nsIn K mainGlobals "_law_known" = some (some (.ref f_law_known)))
    (l_law_known : K.lookup f_law_known = some ⟨oc_law_known, od_law_known, .func (PySem.W.fnOf "_law_known" "_law_known" (defArgs s_law_known) (defBody s_law_known) (defScope s_law_known) .none kv_law_known dc_law_known pm_law_known an_law_known cd_law_known ct_law_known), sl_law_known⟩)
    (c_law_known : PySem.W.codeIn K cd_law_known "_law_known" = true)
    (k_law_known : PySem.W.keepIn K (.ref f_law_known) = true)
    {f_law_some : Addr} {od_law_some an_law_some : Option Addr} {sl_law_some : Array (Option Value)} {oc_law_some kv_law_some dc_law_some pm_law_some cd_law_some ct_law_some : Value}
    (a_law_some : PySem.W.nsIn K mainGlobals "_law_some" = some (some (.ref f_law_some)))
    (l_law_some : K.lookup f_law_some = some ⟨oc_law_some, od_law_some, .func (PySem.W.fnOf "_law_some" "_law_some" (defArgs s_law_some) (defBody s_law_some) (defScope s_law_some) .none kv_law_some dc_law_some pm_law_some an_law_some cd_law_some ct_law_some), sl_law_some⟩)
    (c_law_some : PySem.W.codeIn K cd_law_some "_law_some" = true)
    (k_law_some : PySem.W.keepIn K (.ref f_law_some) = true)
    {f_law_speech : Addr} {od_law_speech an_law_speech : Option Addr} {sl_law_speech : Array (Option Value)} {oc_law_speech kv_law_speech dc_law_speech pm_law_speech cd_law_speech ct_law_speech : Value}
    (a_law_speech : PySem.W.nsIn K mainGlobals "_law_speech" = some (some (.ref f_law_speech)))
    (l_law_speech : K.lookup f_law_speech = some ⟨oc_law_speech, od_law_speech, .func (PySem.W.fnOf "_law_speech" "_law_speech" (defArgs s_law_speech) (defBody s_law_speech) (defScope s_law_speech) .none kv_law_speech dc_law_speech pm_law_speech an_law_speech cd_law_speech ct_law_speech), sl_law_speech⟩)
    (c_law_speech : PySem.W.codeIn K cd_law_speech "_law_speech" = true)
    (k_law_speech : PySem.W.keepIn K (.ref f_law_speech) = true)
    {f_law : Addr} {od_law an_law : Option Addr} {sl_law : Array (Option Value)} {oc_law kv_law dc_law pm_law cd_law ct_law : Value}
    (a_law : PySem.W.nsIn K mainGlobals "law" = some (some (.ref f_law)))
    (l_law : K.lookup f_law = some ⟨oc_law, od_law, .func (PySem.W.fnOf "law" "law" (defArgs s_law) (defBody s_law) (defScope s_law) .none kv_law dc_law pm_law an_law cd_law ct_law), sl_law⟩)
    (c_law : PySem.W.codeIn K cd_law "law" = true)
    (k_law : PySem.W.keepIn K (.ref f_law) = true)
    (x_pg : PySem.W.plainGet K C Str.empty = true)
    (x_hd : PySem.W.hasDictIn K C = true)
    (x_po : PySem.W.plainOver K C = true)
    (x_sa : PySem.W.findIn K (.ref C) "__setattr__" = some (some (.builtin "object.__setattr__")))
    (x_mk : PySem.W.makesIn K C = true)
    (x_kc : PySem.W.keepIn K (.ref C) = true)
    (x_oa : PySem.W.findIn K (.ref C) "__class__" = some (some (.builtin "object.__class__")))
    (x_on : PySem.W.specialIn K (.builtin "object.__class__") "__get__" = some (some (.builtin "getset_descriptor.__get__")))
    (x_ot : PySem.W.takesIn K (.builtin "object.__class__") = some true)
    (x_om : PySem.W.mroIn K C (.type "object") = some true)
    (x_ne : PySem.W.findIn K (.ref C) "__ne__" = some (some (.builtin "object.__ne__")))
    (n_heard : PySem.W.findIn K (.ref C) "heard" = some none)
    (n_rows : PySem.W.findIn K (.ref C) "rows" = some none)
    (n_written : PySem.W.findIn K (.ref C) "written" = some none)
    (b_bool : PySem.W.nsIn K mainGlobals "bool" = some none)
    (b_enumerate : PySem.W.nsIn K mainGlobals "enumerate" = some none)
    (b_int : PySem.W.nsIn K mainGlobals "int" = some none)
    (b_isinstance : PySem.W.nsIn K mainGlobals "isinstance" = some none)
    (b_len : PySem.W.nsIn K mainGlobals "len" = some none)
    (b_range : PySem.W.nsIn K mainGlobals "range" = some none)
    (b_repr : PySem.W.nsIn K mainGlobals "repr" = some none)
    (b_set : PySem.W.nsIn K mainGlobals "set" = some none)
    (b_sorted : PySem.W.nsIn K mainGlobals "sorted" = some none)
    (b_str : PySem.W.nsIn K mainGlobals "str" = some none)
    (b_tuple : PySem.W.nsIn K mainGlobals "tuple" = some none)
    {t_ALPHABET : Tok}
    (g_ALPHABET : PySem.W.nsIn K mainGlobals "ALPHABET" = some (some (.str "abcdefghijklmnopqrstuvwxyz" t_ALPHABET)))
    {t_MOST_STATES : Tok}
    (g_MOST_STATES : PySem.W.nsIn K mainGlobals "MOST_STATES" = some (some (.int 999 t_MOST_STATES))) :
    ∃ (fd : FuncData) (G : MF), (∀ (s : Shared) (u : Value), BindsTo s fd ⟨[u], []⟩ [("_law_script", u)]) ∧ (∀ base : Heap, K.In base → base.Ns mainGlobals mg → FnG l.prog w K mg base 9 fa fd ["_law_script"] 1 G) ∧ ∀ ns : List Int, ns.length ≤ 63 → ∃ S', G [scriptD ns] [] = some (.bl true, S') := by
  have e := hfa.symm.trans (PySem.W.mg_of X G a_law)
  cases e
  have Y_is_integer := fun_mk (st := s_is_integer) l_is_integer c_is_integer k_is_integer
  have B_is_integer := Y_is_integer.binds (ps := ["thing"]) fun _ _ _ _ _ _ us hl => match us, hl with | [_], _ => rfl
  have Y_is_number := fun_mk (st := s_is_number) l_is_number c_is_number k_is_number
  have B_is_number := Y_is_number.binds (ps := ["thing"]) fun _ _ _ _ _ _ us hl => match us, hl with | [_], _ => rfl
  have Y_is_index := fun_mk (st := s_is_index) l_is_index c_is_index k_is_index
  have B_is_index := Y_is_index.binds (ps := ["thing", "many"]) fun _ _ _ _ _ _ us hl => match us, hl with | [_, _], _ => rfl
  have Y_is_tuple_of := fun_mk (st := s_is_tuple_of) l_is_tuple_of c_is_tuple_of k_is_tuple_of
  have B_is_tuple_of := Y_is_tuple_of.binds (ps := ["thing", "many"]) fun _ _ _ _ _ _ us hl => match us, hl with | [_, _], _ => rfl
  have Y_is_text := fun_mk (st := s_is_text) l_is_text c_is_text k_is_text
  have B_is_text := Y_is_text.binds (ps := ["thing", "letters"]) fun _ _ _ _ _ _ us hl => match us, hl with | [_, _], _ => rfl
  have Y_is_letter := fun_mk (st := s_is_letter) l_is_letter c_is_letter k_is_letter
  have B_is_letter := Y_is_letter.binds (ps := ["thing", "letters"]) fun _ _ _ _ _ _ us hl => match us, hl with | [_, _], _ => rfl
  have Y_is_ascending := fun_mk (st := s_is_ascending) l_is_ascending c_is_ascending k_is_ascending
  have B_is_ascending := Y_is_ascending.binds (ps := ["things"]) fun _ _ _ _ _ _ us hl => match us, hl with | [_], _ => rfl
  have Y_are_letters := fun_mk (st := s_are_letters) l_are_letters c_are_letters k_are_letters
  have B_are_letters := Y_are_letters.binds (ps := ["thing"]) fun _ _ _ _ _ _ us hl => match us, hl with | [_], _ => rfl
  have Y_is_move := fun_mk (st := s_is_move) l_is_move c_is_move k_is_move
  have B_is_move := Y_is_move.binds (ps := ["thing", "heard", "written", "many"]) fun _ _ _ _ _ _ us hl => match us, hl with | [_, _, _, _], _ => rfl
  have Y_is_row := fun_mk (st := s_is_row) l_is_row c_is_row k_is_row
  have B_is_row := Y_is_row.binds (ps := ["thing", "heard", "written", "many"]) fun _ _ _ _ _ _ us hl => match us, hl with | [_, _, _, _], _ => rfl
  have Y_Rules_init := fun_mk (st := s_Rules_init) l_Rules_init c_Rules_init k_Rules_init
  have B_Rules_init := Y_Rules_init.binds (ps := ["self", "heard", "written", "rows"]) fun _ _ _ _ _ _ us hl => match us, hl with | [_, _, _, _], _ => rfl
  have Y_letter_relation := fun_mk (st := s_letter_relation) l_letter_relation c_letter_relation k_letter_relation
  have B_letter_relation := Y_letter_relation.binds (ps := ["rules", "letter"]) fun _ _ _ _ _ _ us hl => match us, hl with | [_, _], _ => rfl
  have Y_letter_relations := fun_mk (st := s_letter_relations) l_letter_relations c_letter_relations k_letter_relations
  have B_letter_relations := Y_letter_relations.binds (ps := ["rules"]) fun _ _ _ _ _ _ us hl => match us, hl with | [_], _ => rfl
  have Y_followed := fun_mk (st := s_followed) l_followed c_followed k_followed
  have B_followed := Y_followed.binds (ps := ["states", "relation"]) fun _ _ _ _ _ _ us hl => match us, hl with | [_, _], _ => rfl
  have Y_reached := fun_mk (st := s_reached) l_reached c_reached k_reached
  have B_reached := Y_reached.binds (ps := ["rules", "state", "speech"]) fun _ _ _ _ _ _ us hl => match us, hl with | [_, _, _], _ => rfl
  have Y_mute := fun_mk (st := s_mute) l_mute c_mute k_mute
  have B_mute := Y_mute.binds (ps := ["rules"]) fun _ _ _ _ _ _ us hl => match us, hl with | [_], _ => rfl
  have Y_check_full := fun_mk (st := s_check_full) l_check_full c_check_full k_check_full
  have B_check_full := Y_check_full.binds (ps := ["rules"]) fun _ _ _ _ _ _ us hl => match us, hl with | [_], _ => rfl
  have Y_goes_on := fun_mk (st := s_goes_on) l_goes_on c_goes_on k_goes_on
  have B_goes_on := Y_goes_on.binds (ps := ["rules", "state", "waiting"]) fun _ _ _ _ _ _ us hl => match us, hl with | [_, _, _], _ => rfl
  have Y_is_open := fun_mk (st := s_is_open) l_is_open c_is_open k_is_open
  have B_is_open := Y_is_open.binds (ps := ["rules", "state", "waiting"]) fun _ _ _ _ _ _ us hl => match us, hl with | [_, _, _], _ => rfl
  have Y_law_deck := fun_mk (st := s_law_deck) l_law_deck c_law_deck k_law_deck
  have B_law_deck := Y_law_deck.binds (ps := ["_law_script"]) fun _ _ _ _ _ _ us hl => match us, hl with | [_], _ => rfl
  have Y_law_draw := fun_mk (st := s_law_draw) l_law_draw c_law_draw k_law_draw
  have B_law_draw := Y_law_draw.binds (ps := ["_law_deck_here", "_law_many"]) fun _ _ _ _ _ _ us hl => match us, hl with | [_, _], _ => rfl
  have Y_law_pick := fun_mk (st := s_law_pick) l_law_pick c_law_pick k_law_pick
  have B_law_pick := Y_law_pick.binds (ps := ["_law_deck_here", "_law_some_here"]) fun _ _ _ _ _ _ us hl => match us, hl with | [_, _], _ => rfl
  have Y_law_moves := fun_mk (st := s_law_moves) l_law_moves c_law_moves k_law_moves
  have B_law_moves := Y_law_moves.binds (ps := ["_law_w", "_law_here", "_law_letter"]) fun _ _ _ _ _ _ us hl => match us, hl with | [_, _, _], _ => rfl
  have Y_law_on := fun_mk (st := s_law_on) l_law_on c_law_on k_law_on
  have B_law_on := Y_law_on.binds (ps := ["_law_w", "_law_spots", "_law_page"]) fun _ _ _ _ _ _ us hl => match us, hl with | [_, _, _], _ => rfl
  have Y_law_mute := fun_mk (st := s_law_mute) l_law_mute c_law_mute k_law_mute
  have B_law_mute := Y_law_mute.binds (ps := ["_law_w"]) fun _ _ _ _ _ _ us hl => match us, hl with | [_], _ => rfl
  have Y_law_set := fun_mk (st := s_law_set) l_law_set c_law_set k_law_set
  have B_law_set := Y_law_set.binds (ps := ["_law_heard_now", "_law_written_now", "_law_size", "_law_lot"]) fun _ _ _ _ _ _ us hl => match us, hl with | [_, _, _, _], _ => rfl
  have Y_law_drawn := fun_mk (st := s_law_drawn) l_law_drawn c_law_drawn k_law_drawn
  have B_law_drawn := Y_law_drawn.binds (ps := ["_law_deck_here", "_law_top", "_law_heard_now", "_law_written_now"]) fun _ _ _ _ _ _ us hl => match us, hl with | [_, _, _, _], _ => rfl
  have Y_law_made := fun_mk (st := s_law_made) l_law_made c_law_made k_law_made
  have B_law_made := Y_law_made.binds (ps := ["_law_w"]) fun _ _ _ _ _ _ us hl => match us, hl with | [_], _ => rfl
  have Y_law_known := fun_mk (st := s_law_known) l_law_known c_law_known k_law_known
  have B_law_known := Y_law_known.binds (ps := ["_law_deck_here"]) fun _ _ _ _ _ _ us hl => match us, hl with | [_], _ => rfl
  have Y_law_some := fun_mk (st := s_law_some) l_law_some c_law_some k_law_some
  have B_law_some := Y_law_some.binds (ps := ["_law_deck_here", "_law_top"]) fun _ _ _ _ _ _ us hl => match us, hl with | [_, _], _ => rfl
  have Y_law_speech := fun_mk (st := s_law_speech) l_law_speech c_law_speech k_law_speech
  have B_law_speech := Y_law_speech.binds (ps := ["_law_deck_here", "_law_w", "_law_most"]) fun _ _ _ _ _ _ us hl => match us, hl with | [_, _, _], _ => rfl
  have Y_law := fun_mk (st := s_law) l_law c_law k_law
  have B_law := Y_law.binds (ps := ["_law_script"]) fun _ _ _ _ _ _ us hl => match us, hl with | [_], _ => rfl
  have T : Txt K mg C f_Rules_init _ t_ALPHABET t_MOST_STATES := ⟨PySem.W.mg_none_of X G b_bool,
    PySem.W.mg_none_of X G b_enumerate,
    PySem.W.mg_none_of X G b_int,
    PySem.W.mg_none_of X G b_isinstance,
    PySem.W.mg_none_of X G b_len,
    PySem.W.mg_none_of X G b_range,
    PySem.W.mg_none_of X G b_repr,
    PySem.W.mg_none_of X G b_set,
    PySem.W.mg_none_of X G b_sorted,
    PySem.W.mg_none_of X G b_str,
    PySem.W.mg_none_of X G b_tuple,
    ⟨x_pg, x_hd, x_po, x_sa⟩,
    n_heard,
    n_rows,
    n_written,
    PySem.W.mg_of X G g_ALPHABET,
    PySem.W.mg_of X G g_MOST_STATES,
    ⟨x_mk, a_Rules_init, i_Rules_init, x_kc⟩,
    PySem.W.mg_of X G aC,
    B_Rules_init⟩
  have D_is_integer : Df K mg "is_integer" s_is_integer ["thing"] := ⟨_, _, Y_is_integer, PySem.W.mg_of X G a_is_integer, k_is_integer, B_is_integer⟩
  have D_is_number : Df K mg "is_number" s_is_number ["thing"] := ⟨_, _, Y_is_number, PySem.W.mg_of X G a_is_number, k_is_number, B_is_number⟩
  have D_is_index : Df K mg "is_index" s_is_index ["thing", "many"] := ⟨_, _, Y_is_index, PySem.W.mg_of X G a_is_index, k_is_index, B_is_index⟩
  have D_is_tuple_of : Df K mg "is_tuple_of" s_is_tuple_of ["thing", "many"] := ⟨_, _, Y_is_tuple_of, PySem.W.mg_of X G a_is_tuple_of, k_is_tuple_of, B_is_tuple_of⟩
  have D_is_text : Df K mg "is_text" s_is_text ["thing", "letters"] := ⟨_, _, Y_is_text, PySem.W.mg_of X G a_is_text, k_is_text, B_is_text⟩
  have D_is_letter : Df K mg "is_letter" s_is_letter ["thing", "letters"] := ⟨_, _, Y_is_letter, PySem.W.mg_of X G a_is_letter, k_is_letter, B_is_letter⟩
  have D_is_ascending : Df K mg "is_ascending" s_is_ascending ["things"] := ⟨_, _, Y_is_ascending, PySem.W.mg_of X G a_is_ascending, k_is_ascending, B_is_ascending⟩
  have D_are_letters : Df K mg "are_letters" s_are_letters ["thing"] := ⟨_, _, Y_are_letters, PySem.W.mg_of X G a_are_letters, k_are_letters, B_are_letters⟩
  have D_is_move : Df K mg "is_move" s_is_move ["thing", "heard", "written", "many"] := ⟨_, _, Y_is_move, PySem.W.mg_of X G a_is_move, k_is_move, B_is_move⟩
  have D_is_row : Df K mg "is_row" s_is_row ["thing", "heard", "written", "many"] := ⟨_, _, Y_is_row, PySem.W.mg_of X G a_is_row, k_is_row, B_is_row⟩
  have D_letter_relation : Df K mg "letter_relation" s_letter_relation ["rules", "letter"] := ⟨_, _, Y_letter_relation, PySem.W.mg_of X G a_letter_relation, k_letter_relation, B_letter_relation⟩
  have D_letter_relations : Df K mg "letter_relations" s_letter_relations ["rules"] := ⟨_, _, Y_letter_relations, PySem.W.mg_of X G a_letter_relations, k_letter_relations, B_letter_relations⟩
  have D_followed : Df K mg "followed" s_followed ["states", "relation"] := ⟨_, _, Y_followed, PySem.W.mg_of X G a_followed, k_followed, B_followed⟩
  have D_reached : Df K mg "reached" s_reached ["rules", "state", "speech"] := ⟨_, _, Y_reached, PySem.W.mg_of X G a_reached, k_reached, B_reached⟩
  have D_mute : Df K mg "mute" s_mute ["rules"] := ⟨_, _, Y_mute, PySem.W.mg_of X G a_mute, k_mute, B_mute⟩
  have D_check_full : Df K mg "check_full" s_check_full ["rules"] := ⟨_, _, Y_check_full, PySem.W.mg_of X G a_check_full, k_check_full, B_check_full⟩
  have D_goes_on : Df K mg "goes_on" s_goes_on ["rules", "state", "waiting"] := ⟨_, _, Y_goes_on, PySem.W.mg_of X G a_goes_on, k_goes_on, B_goes_on⟩
  have D_law_deck : Df K mg "_law_deck" s_law_deck ["_law_script"] := ⟨_, _, Y_law_deck, PySem.W.mg_of X G a_law_deck, k_law_deck, B_law_deck⟩
  have D_law_draw : Df K mg "_law_draw" s_law_draw ["_law_deck_here", "_law_many"] := ⟨_, _, Y_law_draw, PySem.W.mg_of X G a_law_draw, k_law_draw, B_law_draw⟩
  have D_law_pick : Df K mg "_law_pick" s_law_pick ["_law_deck_here", "_law_some_here"] := ⟨_, _, Y_law_pick, PySem.W.mg_of X G a_law_pick, k_law_pick, B_law_pick⟩
  have D_law_moves : Df K mg "_law_moves" s_law_moves ["_law_w", "_law_here", "_law_letter"] := ⟨_, _, Y_law_moves, PySem.W.mg_of X G a_law_moves, k_law_moves, B_law_moves⟩
  have D_law_on : Df K mg "_law_on" s_law_on ["_law_w", "_law_spots", "_law_page"] := ⟨_, _, Y_law_on, PySem.W.mg_of X G a_law_on, k_law_on, B_law_on⟩
  have D_law_mute : Df K mg "_law_mute" s_law_mute ["_law_w"] := ⟨_, _, Y_law_mute, PySem.W.mg_of X G a_law_mute, k_law_mute, B_law_mute⟩
  have D_law_set : Df K mg "_law_set" s_law_set ["_law_heard_now", "_law_written_now", "_law_size", "_law_lot"] := ⟨_, _, Y_law_set, PySem.W.mg_of X G a_law_set, k_law_set, B_law_set⟩
  have D_law_drawn : Df K mg "_law_drawn" s_law_drawn ["_law_deck_here", "_law_top", "_law_heard_now", "_law_written_now"] := ⟨_, _, Y_law_drawn, PySem.W.mg_of X G a_law_drawn, k_law_drawn, B_law_drawn⟩
  have D_law_made : Df K mg "_law_made" s_law_made ["_law_w"] := ⟨_, _, Y_law_made, PySem.W.mg_of X G a_law_made, k_law_made, B_law_made⟩
  have D_law_known : Df K mg "_law_known" s_law_known ["_law_deck_here"] := ⟨_, _, Y_law_known, PySem.W.mg_of X G a_law_known, k_law_known, B_law_known⟩
  have D_law_some : Df K mg "_law_some" s_law_some ["_law_deck_here", "_law_top"] := ⟨_, _, Y_law_some, PySem.W.mg_of X G a_law_some, k_law_some, B_law_some⟩
  have D_law_speech : Df K mg "_law_speech" s_law_speech ["_law_deck_here", "_law_w", "_law_most"] := ⟨_, _, Y_law_speech, PySem.W.mg_of X G a_law_speech, k_law_speech, B_law_speech⟩
  refine ⟨PySem.W.fnOf "law" "law" (defArgs s_law) (defBody s_law) (defScope s_law) .none kv_law dc_law pm_law an_law cd_law ct_law, F_law C, fun s v => .of_eq rfl, fun base _ _ => ?_, all_true C⟩
  have O_is_integer := ok_is_integer (P := l.prog) (w := w) (base := base) T  D_is_integer
  have O_is_number := ok_is_number (P := l.prog) (w := w) (base := base) T O_is_integer D_is_number
  have O_is_index := ok_is_index (P := l.prog) (w := w) (base := base) T O_is_number D_is_index
  have O_is_tuple_of := ok_is_tuple_of (P := l.prog) (w := w) (base := base) T  D_is_tuple_of
  have O_is_text := ok_is_text (P := l.prog) (w := w) (base := base) T  D_is_text
  have O_is_letter := ok_is_letter (P := l.prog) (w := w) (base := base) T O_is_text D_is_letter
  have O_is_ascending := ok_is_ascending (P := l.prog) (w := w) (base := base) T  D_is_ascending
  have O_are_letters := ok_are_letters (P := l.prog) (w := w) (base := base) T O_is_ascending O_is_text D_are_letters
  have O_is_move := ok_is_move (P := l.prog) (w := w) (base := base) T O_is_index O_is_letter O_is_tuple_of D_is_move
  have O_is_row := ok_is_row (P := l.prog) (w := w) (base := base) T O_is_move D_is_row
  have O_Rules_init := ok_Rules_init (P := l.prog) (w := w) (base := base) T O_are_letters O_is_row Y_Rules_init
  have O_letter_relation := ok_letter_relation (P := l.prog) (w := w) (base := base) T  D_letter_relation
  have O_letter_relations := ok_letter_relations (P := l.prog) (w := w) (base := base) T O_letter_relation D_letter_relations
  have O_followed := ok_followed (P := l.prog) (w := w) (base := base) T  D_followed
  have O_reached := ok_reached (P := l.prog) (w := w) (base := base) T O_followed O_letter_relations D_reached
  have O_mute := ok_mute (P := l.prog) (w := w) (base := base) T O_followed O_letter_relations D_mute
  have O_check_full := ok_check_full (P := l.prog) (w := w) (base := base) T O_mute D_check_full
  have O_goes_on := ok_goes_on (P := l.prog) (w := w) (base := base) T O_reached D_goes_on
  have U_is_open := ok_is_open (P := l.prog) (w := w) (base := base) T O_check_full O_goes_on Y_is_open
  have O_is_open : Cal l.prog w K mg base "is_open" 5 3 (F_is_open C) := ⟨⟨_, _, _, U_is_open, PySem.W.mg_of X G a_is_open, k_is_open, B_is_open⟩⟩
  have OK_is_open_2_1_0 : CalK l.prog w K mg base "is_open" 5 3 (F_is_open C) ["waiting", "state", "rules"] [2, 1, 0] := ⟨⟨_, _, _, U_is_open, PySem.W.mg_of X G a_is_open, k_is_open, ⟨fun s us ws _ h1 h2 => match us, ws, h1, h2 with | [], [_, _, _], _, _ => .of_eq rfl⟩⟩⟩
  have O_law_deck := ok_law_deck (P := l.prog) (w := w) (base := base) T  D_law_deck
  have O_law_draw := ok_law_draw (P := l.prog) (w := w) (base := base) T  D_law_draw
  have O_law_pick := ok_law_pick (P := l.prog) (w := w) (base := base) T O_law_draw D_law_pick
  have O_law_moves := ok_law_moves (P := l.prog) (w := w) (base := base) T  D_law_moves
  have O_law_on := ok_law_on (P := l.prog) (w := w) (base := base) T O_law_moves D_law_on
  have O_law_mute := ok_law_mute (P := l.prog) (w := w) (base := base) T O_law_on D_law_mute
  have O_law_set := ok_law_set (P := l.prog) (w := w) (base := base) T  D_law_set
  have O_law_drawn := ok_law_drawn (P := l.prog) (w := w) (base := base) T O_law_draw O_law_mute O_law_on O_law_pick O_law_set D_law_drawn
  have O_law_made := ok_law_made (P := l.prog) (w := w) (base := base) T O_Rules_init D_law_made
  have O_law_known := ok_law_known (P := l.prog) (w := w) (base := base) T O_law_draw D_law_known
  have O_law_some := ok_law_some (P := l.prog) (w := w) (base := base) T O_law_draw O_law_drawn O_law_known O_law_pick D_law_some
  have O_law_speech := ok_law_speech (P := l.prog) (w := w) (base := base) T O_law_draw O_law_pick D_law_speech
  exact ok_law T O_law_deck O_law_made O_law_on O_law_some O_law_speech O_is_open OK_is_open_2_1_0 Y_law
end Law
open PySem PySem.W PyProof.Rows
set_option maxRecDepth 100000 in
set_option maxHeartbeats 0 in
theorem PySem.Challenge.cw_pacehouse_k13_open_stands_holds : PySem.Challenge.rw_pacehouse_k13_open_stands.Holds := by
  w_on; o_law; k_head; (case hw => w_witness2)
  k_fill
  refine DL.walk_g (l := PySem.Challenge.rw_pacehouse_k13_open_stands) (n := 63) (k := 9) (x := "_law_script") rfl (by decide) rfl ⟨rfl, by decide, by decide⟩ (fun w h Y => PySem.W.kIn_of Y) ?F
  case F =>
    intro w mg fa h KX G hmg
    refine' Law.all_mk KX G hmg ?aC ?a_is_integer ?l_is_integer ?c_is_integer ?k_is_integer ?a_is_number ?l_is_number ?c_is_number ?k_is_number ?a_is_index ?l_is_index ?c_is_index ?k_is_index ?a_is_tuple_of ?l_is_tuple_of ?c_is_tuple_of ?k_is_tuple_of ?a_is_text ?l_is_text ?c_is_text ?k_is_text ?a_is_letter ?l_is_letter ?c_is_letter ?k_is_letter ?a_is_ascending ?l_is_ascending ?c_is_ascending ?k_is_ascending ?a_are_letters ?l_are_letters ?c_are_letters ?k_are_letters ?a_is_move ?l_is_move ?c_is_move ?k_is_move ?a_is_row ?l_is_row ?c_is_row ?k_is_row ?a_Rules_init ?i_Rules_init ?l_Rules_init ?c_Rules_init ?k_Rules_init ?a_letter_relation ?l_letter_relation ?c_letter_relation ?k_letter_relation ?a_letter_relations ?l_letter_relations ?c_letter_relations ?k_letter_relations ?a_followed ?l_followed ?c_followed ?k_followed ?a_reached ?l_reached ?c_reached ?k_reached ?a_mute ?l_mute ?c_mute ?k_mute ?a_check_full ?l_check_full ?c_check_full ?k_check_full ?a_goes_on ?l_goes_on ?c_goes_on ?k_goes_on ?a_is_open ?l_is_open ?c_is_open ?k_is_open ?a_law_deck ?l_law_deck ?c_law_deck ?k_law_deck ?a_law_draw ?l_law_draw ?c_law_draw ?k_law_draw ?a_law_pick ?l_law_pick ?c_law_pick ?k_law_pick ?a_law_moves ?l_law_moves ?c_law_moves ?k_law_moves ?a_law_on ?l_law_on ?c_law_on ?k_law_on ?a_law_mute ?l_law_mute ?c_law_mute ?k_law_mute ?a_law_set ?l_law_set ?c_law_set ?k_law_set ?a_law_drawn ?l_law_drawn ?c_law_drawn ?k_law_drawn ?a_law_made ?l_law_made ?c_law_made ?k_law_made ?a_law_known ?l_law_known ?c_law_known ?k_law_known ?a_law_some ?l_law_some ?c_law_some ?k_law_some ?a_law_speech ?l_law_speech ?c_law_speech ?k_law_speech ?a_law ?l_law ?c_law ?k_law ?x_pg ?x_hd ?x_po ?x_sa ?x_mk ?x_kc ?x_oa ?x_on ?x_ot ?x_om ?x_ne ?n_heard ?n_rows ?n_written ?b_bool ?b_enumerate ?b_int ?b_isinstance ?b_len ?b_range ?b_repr ?b_set ?b_sorted ?b_str ?b_tuple ?g_ALPHABET ?g_MOST_STATES
    (case aC => k_is); (case a_is_integer => k_is); (case l_is_integer => k_is); (case c_is_integer => k_is); (case k_is_integer => k_is); (case a_is_number => k_is); (case l_is_number => k_is); (case c_is_number => k_is)
    (case k_is_number => k_is); (case a_is_index => k_is); (case l_is_index => k_is); (case c_is_index => k_is); (case k_is_index => k_is); (case a_is_tuple_of => k_is); (case l_is_tuple_of => k_is); (case c_is_tuple_of => k_is)
    (case k_is_tuple_of => k_is); (case a_is_text => k_is); (case l_is_text => k_is); (case c_is_text => k_is); (case k_is_text => k_is); (case a_is_letter => k_is); (case l_is_letter => k_is); (case c_is_letter => k_is)
    (case k_is_letter => k_is); (case a_is_ascending => k_is); (case l_is_ascending => k_is); (case c_is_ascending => k_is); (case k_is_ascending => k_is); (case a_are_letters => k_is); (case l_are_letters => k_is); (case c_are_letters => k_is)
    (case k_are_letters => k_is); (case a_is_move => k_is); (case l_is_move => k_is); (case c_is_move => k_is); (case k_is_move => k_is); (case a_is_row => k_is); (case l_is_row => k_is); (case c_is_row => k_is)
    (case k_is_row => k_is); (case a_Rules_init => k_is); (case i_Rules_init => k_is); (case l_Rules_init => k_is); (case c_Rules_init => k_is); (case k_Rules_init => k_is); (case a_letter_relation => k_is); (case l_letter_relation => k_is)
    (case c_letter_relation => k_is); (case k_letter_relation => k_is); (case a_letter_relations => k_is); (case l_letter_relations => k_is); (case c_letter_relations => k_is); (case k_letter_relations => k_is); (case a_followed => k_is); (case l_followed => k_is)
    (case c_followed => k_is); (case k_followed => k_is); (case a_reached => k_is); (case l_reached => k_is); (case c_reached => k_is); (case k_reached => k_is); (case a_mute => k_is); (case l_mute => k_is)
    (case c_mute => k_is); (case k_mute => k_is); (case a_check_full => k_is); (case l_check_full => k_is); (case c_check_full => k_is); (case k_check_full => k_is); (case a_goes_on => k_is); (case l_goes_on => k_is)
    (case c_goes_on => k_is); (case k_goes_on => k_is); (case a_is_open => k_is); (case l_is_open => k_is); (case c_is_open => k_is); (case k_is_open => k_is); (case a_law_deck => k_is); (case l_law_deck => k_is)
    (case c_law_deck => k_is); (case k_law_deck => k_is); (case a_law_draw => k_is); (case l_law_draw => k_is); (case c_law_draw => k_is); (case k_law_draw => k_is); (case a_law_pick => k_is); (case l_law_pick => k_is)
    (case c_law_pick => k_is); (case k_law_pick => k_is); (case a_law_moves => k_is); (case l_law_moves => k_is); (case c_law_moves => k_is); (case k_law_moves => k_is); (case a_law_on => k_is); (case l_law_on => k_is)
    (case c_law_on => k_is); (case k_law_on => k_is); (case a_law_mute => k_is); (case l_law_mute => k_is); (case c_law_mute => k_is); (case k_law_mute => k_is); (case a_law_set => k_is); (case l_law_set => k_is)
    (case c_law_set => k_is); (case k_law_set => k_is); (case a_law_drawn => k_is); (case l_law_drawn => k_is); (case c_law_drawn => k_is); (case k_law_drawn => k_is); (case a_law_made => k_is); (case l_law_made => k_is)
    (case c_law_made => k_is); (case k_law_made => k_is); (case a_law_known => k_is); (case l_law_known => k_is); (case c_law_known => k_is); (case k_law_known => k_is); (case a_law_some => k_is); (case l_law_some => k_is)
    (case c_law_some => k_is); (case k_law_some => k_is); (case a_law_speech => k_is); (case l_law_speech => k_is); (case c_law_speech => k_is); (case k_law_speech => k_is); (case a_law => k_is); (case l_law => k_is)
    (case c_law => k_is); (case k_law => k_is); (case x_pg => k_is); (case x_hd => k_is); (case x_po => k_is); (case x_sa => k_is); (case x_mk => k_is); (case x_kc => k_is)
    (case x_oa => k_is); (case x_on => k_is); (case x_ot => k_is); (case x_om => k_is); (case x_ne => k_is); (case n_heard => k_is); (case n_rows => k_is); (case n_written => k_is)
    (case b_bool => k_is); (case b_enumerate => k_is); (case b_int => k_is); (case b_isinstance => k_is); (case b_len => k_is); (case b_range => k_is); (case b_repr => k_is); (case b_set => k_is)
    (case b_sorted => k_is); (case b_str => k_is); (case b_tuple => k_is); (case g_ALPHABET => k_is); (case g_MOST_STATES => k_is)
