import PyProof.Rows.All
import Wide.All
import OpenK.AllK
import Wide.FinOn
import HandS.ForMost
import HandS.Flow
import HandS.Wide
import HandS.IsInst
import HandS.TupAny
import HandS.Deep
import KE.KeyNested
import HandS.Strs
import HandS.StrMore
import HandS.More
import HandS.FStr
import HandS.Star
import HandS.RaiseMore
import HandS.ReCall
import HandS.Set
import HandS.SetBool
import PyProof.Rows.SortShellAny
import HandS.Zip
import HandS.RevRange
import HandS.SetFor
import HandS.SortInts
import PyProof.Rows.StrMeet
import KE.GoesMore
import HandS.List
import HandS.ExcInit
import HandS.ExcCtx
import HandS.ExcField
import HandS.HotCalls
import HandS.ExcInitHot
import PySem.Challenge.RW_everyturn_k59_schedules_that_are_not_pos
set_option Elab.async false
set_option linter.all false
set_option maxRecDepth 100000
set_option maxHeartbeats 4000000
/-! Iv: sets whose members are ints and texts, in the machine's heap, their table rising so that they can be walked. -/
namespace Iv
open PySem L2 PySem.Spec PyProof.Rows

def kyOf : Value → Key
  | .int k _ => .inl k
  | .str x _ => .inr x
  | _ => .inl 0
def Ent (w : World) (e : Int × Value) : Prop := keyIs (kyOf e.2) e.2 = true ∧ e.1 = keyH w (kyOf e.2)
def hasK (ks : List Key) (k : Key) : Bool := ks.any fun j => decide (j = k)
theorem hasK_iff {ks : List Key} {k : Key} : hasK ks k = true ↔ k ∈ ks := by
  unfold hasK
  rw [List.any_eq_true]
  exact ⟨fun ⟨j, h1, h2⟩ => by rw [← of_decide_eq_true h2]; exact h1, fun h => ⟨k, h, decide_eq_true rfl⟩⟩
def addK (ks : List Key) (k : Key) : List Key := if hasK ks k = true then ks else ks ++ [k]
def kyE (e : Int × Value) : Key := kyOf e.2
/-- the set at a holds just these keys, in some order -/
def KSet (w : World) (h : Heap) (a : Addr) (ks : List Key) : Prop :=
  ∃ ob es ep tb, (h.get? a = some ob ∧ ob.ExactSet ∧ ob.data = .set es ep tb) ∧ ((∀ x ∈ es.toList, Ent w x) ∧ (es.toList.map kyE).Perm ks ∧ ks.Nodup) ∧
    es.size < scanBound ∧ tb.fits es.size = true ∧ Ris tb.place.toList ∧ (w.params.followText "set-order" = true ∨ tb.led = true)
theorem kyOf_of {k : Key} {u : Value} (h : keyIs k u = true) : kyOf u = k := by
  rcases keyIs_shape h with ⟨i, t, rfl, rfl⟩ | ⟨x, t, rfl, rfl⟩ <;> rfl
theorem key_scannable {k : Key} {u : Value} (h : keyIs k u = true) : u.scannable = true := by
  rcases keyIs_shape h with ⟨i, t, rfl, rfl⟩ | ⟨x, t, rfl, rfl⟩ <;> rfl
theorem ent_is {w : World} {x : Int × Value} (g : Ent w x) (k : Key) : keyIs k x.2 = true ↔ kyE x = k :=
  ⟨fun h => kyOf_of h, fun h => by rw [← h]; exact g.1⟩
theorem ent_elems {P : Program} {w : World} {l : List (Int × Value)} (g : ∀ x ∈ l, Ent w x) : ElemsOf (mixKind P w) l :=
  fun x hx => ⟨⟨kyE x, (g x hx).1, (g x hx).2⟩, key_scannable (g x hx).1⟩
theorem ent_mem {w : World} {l : List (Int × Value)} (g : ∀ x ∈ l, Ent w x) (k : Key) : k ∈ l.map kyE ↔ ∃ x ∈ l, keyIs k x.2 = true := by
  rw [List.mem_map]
  exact ⟨fun ⟨x, hx, q⟩ => ⟨x, hx, (ent_is (g x hx) k).2 q⟩, fun ⟨x, hx, q⟩ => ⟨x, hx, (ent_is (g x hx) k).1 q⟩⟩
section
variable {P : Program} {w : World} {h h' : Heap} {a : Addr} {ks : List Key}
theorem KSet.keep (R : KSet w h a ks) (k : ∀ o, h.get? a = some o → h'.get? a = some o) : KSet w h' a ks := by
  obtain ⟨ob, es, ep, tb, ⟨e1, e2⟩, r⟩ := R
  exact ⟨ob, es, ep, tb, ⟨k ob e1, e2⟩, r⟩
theorem KSet.size {es : Array (Int × Value)} (p : (es.toList.map kyE).Perm ks) : es.size = ks.length := by
  have := p.length_eq
  rw [List.length_map, Array.length_toList] at this
  exact this
theorem KSet.setOf (R : KSet w h a ks) : h.SetOf (mixKind P w) a (hasK ks) ks.length := by
  obtain ⟨ob, es, ep, tb, ⟨e1, e2, e3⟩, ⟨g, p, _⟩, b, f, _⟩ := R
  refine ⟨ob, es, ep, tb, e1, e2, e3, ent_elems g, fun k => ?_, b, f, KSet.size p⟩
  rw [hasK_iff, ← p.mem_iff, ent_mem g]
  exact Iff.rfl
theorem KSet.perm {ls : List Key} (R : KSet w h a ks) (p : ks.Perm ls) : KSet w h a ls := by
  obtain ⟨ob, es, ep, tb, r, ⟨g, q, n⟩, z⟩ := R
  exact ⟨ob, es, ep, tb, r, ⟨g, q.trans p, p.nodup_iff.mp n⟩, z⟩
end
section
variable {P : Program} {w : World} {A : Around} {E : Value → Shared → Prop} {s : Shared} {a : Addr} {ks : List Key}
theorem put_at {h : Heap} {ob : Obj} {es es2 : Array (Int × Value)} {ep : Nat} {tb tb2 : SetTable} (e1 : h.get? a = some ob) (e3 : ob.data = .set es ep tb) :
    (h.update a (Obj.putSet es2 tb2)).get? a = some { ob with data := .set es2 (ep + 1) tb2 } := by
  have z := putSet_of es2 tb2 e3
  have q := Heap.get?_update_self (Obj.putSet es2 tb2) e1 (by rw [z]; rfl)
  rwa [z] at q
/-- what stands behind the new member's place: the table laid again if it is too full -/
theorem kset_tail {gv : Bool → Sem Unit} (hgv : ∀ (b : Bool) (s1 : Shared) (Z : Unit → Shared → Prop), Z () s1 → wpAny (model P w) A (gv b) Z E s1)
    {ob : Obj} {es : Array (Int × Value)} {ep : Nat} {tb : SetTable} (e1 : s.heap.get? a = some ob) (e2 : ob.ExactSet) (e3 : ob.data = .set es ep tb)
    {es2 : Array (Int × Value)} {tb2 : SetTable} (g : ∀ x ∈ es2.toList, Ent w x) (p : (es2.toList.map kyE).Perm ks) (nd : ks.Nodup)
    (b2 : es2.size < scanBound) (f2 : tb2.fits es2.size = true) (r2 : Ris tb2.place.toList) (l2 : w.params.followText "set-order" = true ∨ tb2.led = true) {wd : Bool} {R : Option Bool → Shared → Prop}
    (hR : ∀ h', Heap.SameBut a s.heap h' → KSet w h' a ks → R (some true) { s with heap := h' }) :
    wpAny (model P w) A (storeSet a es2 tb2 >>= fun _ => if (!wd && tb2.tooFull) = true then
        gv (relayAll tb2 es2 (SetTable.grown es2.size)).2.2 >>= fun _ => storeSet a (relayAll tb2 es2 (SetTable.grown es2.size)).1 (relayAll tb2 es2 (SetTable.grown es2.size)).2.1 >>= fun _ => pure (some true)
      else pure (some true)) R E s := by
  refine wpAny_bind (wpAny_storeSet_of e1 e3 ?_ (fits_of_scanBound b2))
  have at1 := put_at (a := a) (es2 := es2) (tb2 := tb2) e1 e3
  have sb := Heap.SameBut.update s.heap a (Obj.putSet es2 tb2)
  split
  · have pm := relayAll_perm tb2 es2 (SetTable.grown es2.size)
    have f3 := relayAll_fits tb2 es2 (SetTable.grown es2.size)
    have r3 := relayAll_ris tb2 es2 (SetTable.grown es2.size)
    have l3 := relayAll_led tb2 es2 (SetTable.grown es2.size)
    revert pm f3 r3 l3
    generalize relayAll tb2 es2 (SetTable.grown es2.size) = Z
    obtain ⟨es3, tb3, gave⟩ := Z
    intro pm f3 r3 l3
    have sz : es3.size = es2.size := by simpa using pm.length_eq
    have b3 : es3.size < scanBound := sz ▸ b2
    refine wpAny_bind (hgv _ _ _ (wpAny_bind (wpAny_storeSet_of at1 rfl ?_ (fits_of_scanBound b3))))
    refine wpAny_pure (hR _ (sb.trans (Heap.SameBut.update _ a _)) ?_)
    refine ⟨_, es3, _, tb3, ⟨put_at at1 rfl, e2, rfl⟩, ⟨fun x hx => g x (pm.mem_iff.mp hx), (pm.map kyE).trans p, nd⟩, b3, f3, r3, ?_⟩
    rcases l2 with z | z
    · exact .inl z
    · exact .inr (l3.trans z)
  · exact wpAny_pure (hR _ sb ⟨_, es2, _, tb2, ⟨at1, e2, rfl⟩, ⟨g, p, nd⟩, b2, f2, r2, l2⟩)
theorem kset_hashed {k : Key} {u : Value} {Q : Bool → Shared → Prop} (hu : keyIs k u = true) (R : KSet w s.heap a ks) (room : ks.length + 1 < scanBound)
    (hQ : ∀ b h', Heap.SameBut a s.heap h' → KSet w h' a (addK ks k) → Q b { s with heap := h' }) :
    wpAny (model P w) A (setAddHashed a u ((mixKind P w).hash k)) Q E s := by
  have R0 := R
  obtain ⟨ob, es, ep, tb, ⟨e1, e2, e3⟩, ⟨g, p, nd⟩, bz, f, r, l⟩ := R
  have hk : (mixKind P w).is k u = true := hu
  have sc := key_scannable hu
  have el : ElemsOf (mixKind P w) es.toList := ent_elems g
  have hn := KSet.size p
  unfold setAddHashed setAddHashedIn
  refine wpAny_holding (wpAny_bind (wpAny_setState_of e1 e3 f ?_))
  dsimp only
  rw [byScan_of sc bz el]
  simp only [↓reduceIte]
  unfold setAddByScan
  refine wpAny_bind (wpAny_bind (wpAny_rule (wpAny_bind (wpAny_setScan_of hk e1 e3 f el ?_))))
  cases fi : List.findIdx? (fun x => (mixKind P w).is k x.2) es.toList with
  | some j =>
    dsimp only
    obtain ⟨hj, pj, _⟩ := List.findIdx?_eq_some_iff_getElem.mp fi
    have mem : k ∈ ks := p.mem_iff.mp ((ent_mem g k).2 ⟨es.toList[j], List.getElem_mem hj, pj⟩)
    refine wpAny_pure (wpAny_pure ?_)
    have q := hQ false s.heap (Heap.SameBut.refl a s.heap)
    rw [addK, if_pos (hasK_iff.mpr mem)] at q
    exact q R0
  | none =>
    dsimp only
    have nmem : k ∉ ks := fun z => by
      obtain ⟨x, hx, q⟩ := (ent_mem g k).1 (p.mem_iff.mpr z)
      have c := List.findIdx?_eq_none_iff.mp fi x hx
      rw [show (mixKind P w).is k x.2 = true from q] at c
      cases c
    rw [addK, if_neg (fun z => nmem (hasK_iff.mp z))] at hQ
    have gw : ∀ (b : Bool) {s1 : Shared} {Z : Unit → Shared → Prop}, Z () s1 → wpAny (model P w) A (match b with | true => rule "set.scan.the-table-gave-way" | false => pure ()) Z E s1 := by
      intro b s1 Z q
      cases b
      · exact wpAny_pure q
      · exact wpAny_rule q
    have pm := layNew_perm tb es ((mixKind P w).hash k) u
    have f1 := layNew_fits tb es ((mixKind P w).hash k) u
    have r1 := layNew_ris tb es ((mixKind P w).hash k) u r
    have l1 := layNew_led tb es ((mixKind P w).hash k) u
    revert pm f1 r1 l1
    generalize layNew tb es ((mixKind P w).hash k) u = Z
    obtain ⟨es1, tb1, wd, gave⟩ := Z
    intro pm f1 r1 l1
    dsimp only at pm f1 r1 l1 ⊢
    rw [Array.toList_push] at pm
    have g1 : ∀ x ∈ es1.toList, Ent w x := fun x hx => by
      rcases List.mem_append.mp (pm.mem_iff.mp hx) with z | z
      · exact g x z
      · rw [List.mem_singleton.mp z]
        exact ⟨by rw [kyOf_of hu]; exact hu, by rw [kyOf_of hu] <;> rfl⟩
    have p1 : (es1.toList.map kyE).Perm (ks ++ [k]) := by
      have q := pm.map kyE
      rw [List.map_append] at q
      have ek : [((mixKind P w).hash k, u)].map kyE = [k] := by
        show [kyOf u] = [k]
        rw [kyOf_of hu]
      rw [ek] at q
      exact q.trans (p.append_right [k])
    have nd1 : (ks ++ [k]).Nodup := by
      rw [(List.perm_append_singleton k ks).nodup_iff]
      exact List.nodup_cons.mpr ⟨nmem, nd⟩
    have b1 : es1.size < scanBound := by
      rw [KSet.size p1, List.length_append]
      exact room
    have led1 : w.params.followText "set-order" = true ∨ tb1.led = true := by
      rcases l with z | z
      · exact .inl z
      · exact .inr (l1.trans z)
    refine wpAny_bind (gw _ ?_)
    split
    · refine wpAny_bind ?_
      rw [hashByValue_scannable 8 sc]
      refine wpAny_pure (kset_tail (fun b s1 Z q => gw b q) e1 e2 e3 g1 p1 nd1 b1 ?_ ?_ ?_ fun h' sb q => ?_)
      · first | (split <;> first | exact f1 | exact SetTable.fits_plain_off f1) | exact f1
      · first | (split <;> exact r1) | exact r1
      · first | (split <;> exact led1) | exact led1
      · dsimp only
        exact wpAny_pure (hQ true h' sb q)
    · refine wpAny_bind (wpAny_pure ?_)
      simp only [↓reduceIte]
      refine kset_tail (fun b s1 Z q => gw b q) e1 e2 e3 g1 p1 nd1 b1 f1 r1 led1 fun h' sb q => ?_
      dsimp only
      exact wpAny_pure (hQ true h' sb q)
/-- s.add(k) -/
theorem kset_add {k : Key} {u : Value} {Q : Value → Shared → Prop} (hu : keyIs k u = true) (R : KSet w s.heap a ks) (room : ks.length + 1 < scanBound)
    (hQ : ∀ h', Heap.SameBut a s.heap h' → KSet w h' a (addK ks k) → Q .none { s with heap := h', toks := s.toks + 1 }) :
    wpAny (model P w) A (call (.builtin "set.add") [.ref a, u]) Q E s := by
  refine wpAny_call_entry F.slot_set_add (R.setOf (P := P)).typeIs F.entry_set_add ?_ (F.args_set_add_2 _ _)
  unfold Builtin.«set.add» Builtin.Frozenset.oneOther
  simp only [List.isEmpty_nil, bind_assoc]
  unfold Builtin.Frozenset.addrOf setAdd
  refine wpAny_bind (wpAny_pure ?_)
  try dsimp only
  refine wpAny_bind (wpAny_pure ?_)
  try dsimp only
  refine wpAny_bind (wpAny_holding (wpAny_bind ((mixKind P w).pyHash (k := k) hu ?_)))
  refine kset_hashed (s := { s with toks := s.toks + 1 }) hu R room fun b h' sb q => ?_
  show wpAny _ _ (ret Value.none) _ _ _
  exact wpAny_pure ⟨_, rfl, hQ h' sb q⟩
/-- an empty one, as it is made -/
abbrev newSetObj (w : World) : Obj := { cls := .type "set", dict := none, data := .set #[] 0 (.fresh 0 0 (!w.params.followText "set-order")) }
theorem kset_fresh (h : Heap) (w : World) : KSet w (h.push (newSetObj w)) h.objs.size [] := by
  refine ⟨_, #[], 0, _, ⟨Heap.get?_push_size _ rfl, ⟨rfl, rfl, rfl⟩, rfl⟩, ⟨fun x hx => by simp at hx, List.Perm.refl _, List.Pairwise.nil⟩, by decide, by rfl, List.Pairwise.nil, ?_⟩
  show _ ∨ (!w.params.followText "set-order") = true
  cases w.params.followText "set-order"
  · exact .inr rfl
  · exact .inl rfl
/-- what sorted() makes of a set of ints, of texts -/
theorem kset_sortedI {ns : List Int} {Q : Value → Shared → Prop} (R : KSet w s.heap a (ns.map Sum.inl)) (hh : A.handled = none)
    (hQ : ∀ s2 q (out : Array Value) (c : Nat) (ms : List Int), (∀ b o, s.heap.get? b = some o → s2.heap.get? b = some o) → s2.gens = s.gens → s2.os = s.os → s.heap.objs.size ≤ q →
      s2.heap.get? q = some (seqObj "list" out c) → IntsAre out.toList ms → ms.Pairwise (· ≤ ·) → ms.Perm ns → Q (.ref q) s2) :
    wpAny (model P w) A (call (.builtin "sorted") [.ref a]) Q E s := by
  obtain ⟨ob, es, ep, tb, ⟨e1, e2, e3⟩, ⟨g, p, nd⟩, bz, f, r, l⟩ := R
  refine Calls.call_function_entry kind_sorted plain_sorted entry_sorted (args_sorted1 _) ?_
  unfold Builtin.«sorted»
  refine wpAny_bind (m := checkCount "sorted" 1 1 _) (wpAny_pure (wpAny_bind (collect_set (A := A.in1) hh ⟨ob, e1, e2.1, e3⟩ f bz r l fun s1 vs k1 z1 g1 o1 pm => ?_)))
  have kv : (vs.map kyOf).Perm (ns.map Sum.inl) := by
    have q := pm.map kyOf
    rw [List.map_map] at q
    exact q.trans p
  have lv : vs.length ≤ sizeLine := by
    rw [pm.length_eq, List.length_map, Array.length_toList]
    exact fits_of_scanBound bz
  have hI : IntsAre vs (vs.map Builtin.Re.reRawOf) := ints_of vs fun v hv => by
    obtain ⟨x, hx, rfl⟩ := List.mem_map.mp (pm.mem_iff.mp hv)
    have m1 := kv.mem_iff.mp (List.mem_map_of_mem hv)
    obtain ⟨i, _, ei⟩ := List.mem_map.mp m1
    have q := (g x hx).1
    rw [← ei] at q
    exact Value.isInt_shape (k := i) q |>.elim fun t et => ⟨i, t, et⟩
  have pr : (vs.map Builtin.Re.reRawOf).Perm ns := by
    have inj : ∀ (xs ys : List Int), (xs.map (Sum.inl : Int → Key)).Perm (ys.map Sum.inl) → xs.Perm ys := fun xs ys q => by
      have q2 := q.map (fun k : Key => match k with | .inl i => i | .inr _ => (0 : Int))
      rw [List.map_map, List.map_map] at q2
      have e : ((fun k : Key => match k with | .inl i => i | .inr _ => (0 : Int)) ∘ Sum.inl) = (id : Int → Int) := rfl
      rwa [e, List.map_id, List.map_id] at q2
    refine inj _ _ ?_
    have e : (vs.map Builtin.Re.reRawOf).map (Sum.inl : Int → Key) = vs.map kyOf := by
      clear pm kv lv
      generalize hms : vs.map Builtin.Re.reRawOf = ms at hI
      clear hms
      induction hI with
      | nil => rfl
      | cons i t _ ih => rw [List.map_cons, List.map_cons, ih]; rfl
    rw [e]
    exact kv
  refine wpAny_bind (wpAny_newList ?_ lv)
  have hoL : (s1.heap.push (seqObj "list" vs.toArray 0)).get? s1.heap.objs.size = some (seqObj "list" vs.toArray 0) := Heap.get?_push_size _ rfl
  refine wpAny_bind (wpAny_holding (wpAny_call_entry slot_list_sort ⟨_, hoL, rfl⟩ entry_list_sort (list_sort_treeAny hoL hI lv fun out ms a1 a2 a3 => ⟨_, rfl, ?_⟩) (args_list_sort _)))
  obtain ⟨c, hc⟩ := sortedHeap_at (vs := vs) (out := out) hoL
  refine wpAny_pure ⟨_, rfl, hQ _ s1.heap.objs.size out c ms (fun b u q => ?_) g1 o1 z1 hc a1 a3 (a2.trans pr)⟩
  have q2 := k1 b u q
  have lt := Heap.lt_size q2
  show (sortedHeap (s1.heap.push (seqObj "list" vs.toArray 0)) s1.heap.objs.size vs out).get? b = some u
  rw [sortedHeap_old (Nat.ne_of_lt lt) (by rw [size_push']; exact Nat.lt_succ_of_lt lt)]
  exact Heap.get?_push_of_some _ q2
end
end Iv

/-! Iv: what the text means, as plain functions over data and a store of lists; and that the machine does just this. -/
namespace Iv
open PySem L2

inductive D where
  | non | bl (b : Bool) | int (i : Int) | str (x : Str) | tup (xs : List D) | loc (n : Nat)
  deriving Inhabited
/-- what stands at a place of the store: a list that may change, one that is only read -/
inductive OB where
  | lst (xs : List D) | frz (xs : List D) | set (xs : List D) | dic (kvs : List (D × D)) | dit (kvs : List (D × D))
/-- may it change? -/
def mutO : OB → Bool
  | .frz _ => false
  | _ => true
abbrev Sto := List OB
abbrev Sl := List (Option D)
inductive R where
  | nx (s : Sl) | brk (s : Sl) | cnt (s : Sl) | ret (d : D)
abbrev SE := Sl → Sto → Option (D × Sto)
abbrev ST := Sl → Sto → Option (Bool × Sto)
abbrev SA := Sl → Sto → Option (List D × Sto)
abbrev SS := Sl → Sto → Option (R × Sto)
abbrev LIM : Nat := 1000000
theorem lim_ok {n : Nat} (h : n ≤ LIM) : n ≤ sizeLine := Nat.le_trans h (by rw [sizeLine_eq]; decide)
theorem lim_lt {n : Nat} (h : n < LIM) : n < sizeLine := Nat.lt_of_lt_of_le h (by rw [sizeLine_eq]; decide)

def bnd {α β : Type} (x : Option (α × Sto)) (k : α → Sto → Option β) : Option β := match x with
  | some (a, st) => k a st
  | none => none
@[simp] theorem bnd_some {α β : Type} (a : α) (st : Sto) (k : α → Sto → Option β) : bnd (some (a, st)) k = k a st := rfl
@[simp] theorem bnd_none {α β : Type} (k : α → Sto → Option β) : bnd none k = none := rfl
theorem bnd_eq {α β : Type} {x : Option (α × Sto)} {k : α → Sto → Option β} {b : β} (h : bnd x k = some b) : ∃ a st, x = some (a, st) ∧ k a st = some b := by
  cases x with
  | none => cases h
  | some p => exact ⟨p.1, p.2, rfl, h⟩

def getL (st : Sto) (n : Nat) : Option (List D) := match st[n]? with
  | some (.lst xs) => some xs
  | some (.frz xs) => some xs
  | _ => none
def getM (st : Sto) (n : Nat) : Option (List D) := match st[n]? with
  | some (.lst xs) => some xs
  | _ => none

/-! ### how data stand in the machine's heap -/
def strD : D → Bool
  | .str _ => true
  | _ => false
/-- texts alone, one or more -/
def nst (ds : List D) : Bool := !ds.isEmpty && ds.all strD
/-- a tuple on which no dict hangs -/
def NoD (K : PySem.W.Frag) (H : Hp) (p : Addr) : Prop := (∃ o u, H p = some (.frz o u) ∧ o.cls = .type "tuple" ∧ o.dict = none) ∨ ∃ o, K.lookup p = some o ∧ o.cls = .type "tuple" ∧ o.dict = none
def SqN (K : PySem.W.Frag) (H : Hp) (p : Addr) (ds : List D) (vs : List V) : Prop := SqT K H p vs ∧ (nst ds = true → NoD K H p)
mutual
def Rep (K : PySem.W.Frag) (H : Hp) (μ : List Addr) : D → V → Prop
  | .non, v => v = .non
  | .bl b, v => v = .bl b
  | .int i, v => v = .int i
  | .str x, v => v = .str x
  | .loc n, v => ∃ p, v = .ref p ∧ μ[n]? = some p
  | .tup ds, v => ∃ p vs, v = .ref p ∧ SqN K H p ds vs ∧ Reps K H μ ds vs
def Reps (K : PySem.W.Frag) (H : Hp) (μ : List Addr) : List D → List V → Prop
  | [], vs => vs = []
  | d :: ds, vs => ∃ v ws, vs = v :: ws ∧ Rep K H μ d v ∧ Reps K H μ ds ws
end
def Keeps (H H' : Hp) : Prop := (∀ b xs, H b = some (.tup xs) → H' b = some (.tup xs)) ∧ (∀ b o u, H b = some (.frz o u) → H' b = some (.frz o u)) ∧ ∀ b fs, H b = some (.xd fs) → H' b = some (.xd fs)
theorem Keeps.refl (H : Hp) : Keeps H H := ⟨fun _ _ h => h, fun _ _ _ h => h, fun _ _ h => h⟩
theorem Keeps.trans {H H1 H2 : Hp} (a : Keeps H H1) (b : Keeps H1 H2) : Keeps H H2 := ⟨fun x y h => b.1 x y (a.1 x y h), fun x y z h => b.2.1 x y z (a.2.1 x y z h), fun x y h => b.2.2 x y (a.2.2 x y h)⟩
theorem Keeps.same {H H' : Hp} (e : Same H H') : Keeps H H' := ⟨fun _ _ h => e _ _ h, fun _ _ _ h => e _ _ h, fun _ _ h => e _ _ h⟩
theorem Keeps.sqT {K : PySem.W.Frag} {H H' : Hp} {p : Addr} {vs : List V} (e : Keeps H H') (h : SqT K H p vs) : SqT K H' p vs := by
  rcases h with (h | ⟨o, h⟩) | h
  · exact .inl (.inl (e.1 _ _ h))
  · exact .inl (.inr ⟨o, e.2.1 _ _ _ h⟩)
  · exact .inr h
theorem Keeps.sqN {K : PySem.W.Frag} {H H' : Hp} {p : Addr} {ds : List D} {vs : List V} (e : Keeps H H') (h : SqN K H p ds vs) : SqN K H' p ds vs := ⟨e.sqT h.1, fun z => by
  rcases h.2 z with ⟨o, u, h1, h2⟩ | h1
  · exact .inl ⟨o, u, e.2.1 _ _ _ h1, h2⟩
  · exact .inr h1⟩
def Gr (H : Hp) (μ : List Addr) (H' : Hp) (μ' : List Addr) : Prop := Keeps H H' ∧ ∃ l, μ' = μ ++ l
theorem Gr.refl (H : Hp) (μ : List Addr) : Gr H μ H μ := ⟨Keeps.refl H, [], by simp⟩
theorem Gr.trans {H H1 H2 : Hp} {μ μ1 μ2 : List Addr} (a : Gr H μ H1 μ1) (b : Gr H1 μ1 H2 μ2) : Gr H μ H2 μ2 := by
  obtain ⟨k, l, e⟩ := a
  obtain ⟨k2, l2, e2⟩ := b
  exact ⟨k.trans k2, l ++ l2, by rw [e2, e, List.append_assoc]⟩
theorem Gr.get {H H' : Hp} {μ μ' : List Addr} (g : Gr H μ H' μ') {n : Nat} {p : Addr} (h : μ[n]? = some p) : μ'[n]? = some p := by
  obtain ⟨_, l, e⟩ := g
  rw [e, List.getElem?_append_left (List.getElem?_eq_some_iff.mp h).1]
  exact h
mutual
theorem Rep.mono {K : PySem.W.Frag} {H H' : Hp} {μ μ' : List Addr} (g : Gr H μ H' μ') : ∀ (d : D) (v : V), Rep K H μ d v → Rep K H' μ' d v
  | .non, _, h => h
  | .bl _, _, h => h
  | .int _, _, h => h
  | .str _, _, h => h
  | .loc n, v, h => by
    simp only [Rep] at h ⊢
    obtain ⟨p, e, m⟩ := h
    exact ⟨p, e, g.get m⟩
  | .tup ds, v, h => by
    simp only [Rep] at h ⊢
    obtain ⟨p, vs, e, s, r⟩ := h
    exact ⟨p, vs, e, g.1.sqN s, Reps.mono g ds vs r⟩
theorem Reps.mono {K : PySem.W.Frag} {H H' : Hp} {μ μ' : List Addr} (g : Gr H μ H' μ') : ∀ (ds : List D) (vs : List V), Reps K H μ ds vs → Reps K H' μ' ds vs
  | [], _, h => h
  | d :: ds, vs, h => by
    simp only [Reps] at h ⊢
    obtain ⟨v, ws, e, r, s⟩ := h
    exact ⟨v, ws, e, Rep.mono g d v r, Reps.mono g ds ws s⟩
end
section
variable {K : PySem.W.Frag} {ww : World} {H H' : Hp} {μ μ' : List Addr}
theorem Rep.m {d : D} {v : V} (h : Rep K H μ d v) (g : Gr H μ H' μ') : Rep K H' μ' d v := Rep.mono g d v h
theorem Reps.m {d : List D} {v : List V} (h : Reps K H μ d v) (g : Gr H μ H' μ') : Reps K H' μ' d v := Reps.mono g d v h
theorem reps_nil : Reps K H μ [] [] := by simp only [Reps]
theorem reps_cons {d : D} {v : V} {ds : List D} {vs : List V} (h : Rep K H μ d v) (r : Reps K H μ ds vs) : Reps K H μ (d :: ds) (v :: vs) := by
  simp only [Reps]
  exact ⟨v, vs, rfl, h, r⟩
theorem Reps.len : ∀ {ds : List D} {vs : List V}, Reps K H μ ds vs → ds.length = vs.length
  | [], vs, h => by simp only [Reps] at h; rw [h]; rfl
  | d :: ds, vs, h => by
    simp only [Reps] at h
    obtain ⟨v, ws, rfl, _, r⟩ := h
    rw [List.length_cons, List.length_cons, Reps.len r]
theorem Reps.get : ∀ {ds : List D} {vs : List V} {i : Nat} {d : D}, Reps K H μ ds vs → ds[i]? = some d → ∃ v, vs[i]? = some v ∧ Rep K H μ d v
  | [], _, i, _, _, e => by simp at e
  | x :: ds, vs, 0, d, h, e => by
    simp only [Reps] at h
    obtain ⟨v, ws, rfl, r, _⟩ := h
    simp at e; subst e
    exact ⟨v, rfl, r⟩
  | x :: ds, vs, i + 1, d, h, e => by
    simp only [Reps] at h
    obtain ⟨v, ws, rfl, _, r⟩ := h
    obtain ⟨u, h1, h2⟩ := Reps.get r (by simpa using e)
    exact ⟨u, by simpa using h1, h2⟩
theorem Reps.get' : ∀ {ds : List D} {vs : List V} {i : Nat} {v : V}, Reps K H μ ds vs → vs[i]? = some v → ∃ d, ds[i]? = some d ∧ Rep K H μ d v := by
  intro ds vs i v h e
  have hl := h.len
  have hi := (List.getElem?_eq_some_iff.mp e).1
  have e2 : ds[i]? = some ds[i] := List.getElem?_eq_getElem (by omega)
  obtain ⟨u, h1, h2⟩ := h.get e2
  rw [e] at h1; cases h1
  exact ⟨_, e2, h2⟩
theorem Reps.app : ∀ {ds : List D} {vs : List V} {es : List D} {ws : List V}, Reps K H μ ds vs → Reps K H μ es ws → Reps K H μ (ds ++ es) (vs ++ ws)
  | [], vs, es, ws, h, r => by simp only [Reps] at h; subst h; exact r
  | x :: ds, vs, es, ws, h, r => by
    simp only [Reps] at h
    obtain ⟨v, us, rfl, r1, r2⟩ := h
    exact reps_cons r1 (Reps.app r2 r)
theorem Reps.set : ∀ {ds : List D} {vs : List V} {i : Nat} {d : D} {v : V}, Reps K H μ ds vs → Rep K H μ d v → Reps K H μ (ds.set i d) (vs.set i v)
  | [], vs, i, d, v, h, r => by simp only [Reps] at h; subst h; exact reps_nil
  | x :: ds, vs, 0, d, v, h, r => by
    simp only [Reps] at h
    obtain ⟨u, us, rfl, r1, r2⟩ := h
    exact reps_cons r r2
  | x :: ds, vs, i + 1, d, v, h, r => by
    simp only [Reps] at h
    obtain ⟨u, us, rfl, r1, r2⟩ := h
    exact reps_cons r1 (Reps.set r2 r)
theorem Reps.take : ∀ {ds : List D} {vs : List V} (n : Nat), Reps K H μ ds vs → Reps K H μ (ds.take n) (vs.take n)
  | _, _, 0, _ => reps_nil
  | [], vs, _ + 1, h => by simp only [Reps] at h; subst h; exact reps_nil
  | x :: ds, vs, n + 1, h => by
    simp only [Reps] at h
    obtain ⟨u, us, rfl, r1, r2⟩ := h
    exact reps_cons r1 (Reps.take n r2)
theorem Reps.drop : ∀ {ds : List D} {vs : List V} (n : Nat), Reps K H μ ds vs → Reps K H μ (ds.drop n) (vs.drop n)
  | _, _, 0, r => r
  | [], vs, _ + 1, h => by simp only [Reps] at h; subst h; exact reps_nil
  | x :: ds, vs, n + 1, h => by
    simp only [Reps] at h
    obtain ⟨u, us, rfl, r1, r2⟩ := h
    exact Reps.drop n r2
end
/-- a datum as a member of a set, a key of a dict -/
def keyD : D → Option Key
  | .int i => some (.inl i)
  | .str x => some (.inr x)
  | _ => none
def keysD : List D → Option (List Key)
  | [] => some []
  | d :: ds => (keyD d).bind fun k => (keysD ds).map fun ks => k :: ks
/-! a datum as a key of any depth -/
mutual
def nkD : D → Option NestedKey
  | .non => some .none
  | .bl b => some (.num (if b = true then 1 else 0))
  | .int i => some (.num i)
  | .str x => some (.text x)
  | .tup ds => (nkDs ds).map .tup
  | .loc _ => none
def nkDs : List D → Option (List NestedKey)
  | [] => some []
  | d :: ds => (nkD d).bind fun k => (nkDs ds).map fun ks => k :: ks
end
/-- a dict's entries, the keys tuples -/
def KvR (K : PySem.W.Frag) (H : Hp) (μ : List Addr) : List (D × D) → List (NestedKey × Addr × Value) → Prop
  | [], xs => xs = []
  | p :: kvs, xs => ∃ nk a u v r, xs = (nk, a, u) :: r ∧ nkD p.1 = some nk ∧ Rep K H μ p.1 (.ref a) ∧ RelV v u ∧ Rep K H μ p.2 v ∧ KvR K H μ kvs r
theorem KvR.m {K : PySem.W.Frag} {H H' : Hp} {μ μ' : List Addr} (g : Gr H μ H' μ') : ∀ {kvs : List (D × D)} {xs : List (NestedKey × Addr × Value)}, KvR K H μ kvs xs → KvR K H' μ' kvs xs
  | [], _, h => h
  | _ :: _, _, ⟨nk, a, u, v, r, e, h1, h2, h3, h4, h5⟩ => ⟨nk, a, u, v, r, e, h1, h2.m g, h3, h4.m g, KvR.m g h5⟩
def RawD (w : World) (p : Addr) (xs : List (NestedKey × Addr × Value)) : HO := .ext fun h => (p == sysModules) = false ∧ ∃ o es ep, h.get? p = some o ∧ o.ExactDict ∧ o.data = .dict es ep ∧ es.toList = xs.map fun x => (⟨NestedKey.hash w x.1, .ref x.2.1, x.2.2⟩ : DictEntry)
def KSetO (w : World) (p : Addr) (ks : List Key) : HO := .ext fun h => KSet w h p ks
def RepO (K : PySem.W.Frag) (ww : World) (H : Hp) (μ : List Addr) (p : Addr) : OB → Prop
  | .set xs => ∃ ks, keysD xs = some ks ∧ H p = some (KSetO ww p ks)
  | .dic kvs => ∃ ws : List (Key × V), H p = some (.dK ws) ∧ keysD (kvs.map Prod.fst) = some (ws.map Prod.fst) ∧ Reps K H μ (kvs.map Prod.snd) (ws.map Prod.snd)
  | .dit kvs => ∃ xs, H p = some (RawD ww p xs) ∧ (xs.map (·.1)).Nodup ∧ KvR K H μ kvs xs
  | .lst xs => ∃ vs, H p = some (.lst vs) ∧ Reps K H μ xs vs
  | .frz xs => ∃ vs, (∀ H', Keeps H H' → SqL K H' p vs) ∧ Reps K H μ xs vs
structure Gd (K : PySem.W.Frag) (ww : World) (H : Hp) (μ : List Addr) (st : Sto) : Prop where
  len : μ.length = st.length
  nd : ∀ (n m : Nat) (p : Addr) (o o2 : OB), μ[n]? = some p → μ[m]? = some p → st[n]? = some o → st[m]? = some o2 → mutO o = true → mutO o2 = true → n = m
  ob : ∀ (n : Nat) (p : Addr) (o : OB), μ[n]? = some p → st[n]? = some o → RepO K ww H μ p o
def EnvR (K : PySem.W.Frag) (H : Hp) (μ : List Addr) (σ : Sl) (τ : L2.St) : Prop := σ.length = τ.length ∧ ∀ (i : Nat) (d : D), σ[i]? = some (some d) → ∃ v, τ[i]? = some (some v) ∧ Rep K H μ d v
section
variable {K : PySem.W.Frag} {ww : World} {H H' : Hp} {μ μ' : List Addr} {st st' : Sto} {σ : Sl} {τ : L2.St}
theorem RepO.m {p : Addr} {o : OB} (h : RepO K ww H μ p o) (hm : mutO o = true → H p ≠ none → H' p = H p) (g : Gr H μ H' μ') : RepO K ww H' μ' p o := by
  cases o with
  | lst xs =>
    obtain ⟨vs, h1, h2⟩ := h
    exact ⟨vs, (hm rfl (by rw [h1]; simp)).trans h1, h2.m g⟩
  | frz xs =>
    obtain ⟨vs, h1, h2⟩ := h
    exact ⟨vs, fun H2 k => h1 H2 (g.1.trans k), h2.m g⟩
  | set xs =>
    obtain ⟨ks, h1, h2⟩ := h
    exact ⟨ks, h1, (hm rfl (by rw [h2]; simp)).trans h2⟩
  | dic kvs =>
    obtain ⟨vs, h1, h2, h3⟩ := h
    exact ⟨vs, (hm rfl (by rw [h1]; simp)).trans h1, h2, h3.m g⟩
  | dit kvs =>
    obtain ⟨xs, h1, h2, h3⟩ := h
    exact ⟨xs, (hm rfl (by rw [h1]; simp)).trans h1, h2, h3.m g⟩
/-- what may change is not a thing that is only read -/
theorem RepO.at {p : Addr} {o : OB} (h : RepO K ww H μ p o) (hm : mutO o = true) : ∃ u, H p = some u ∧ (∀ b i, u ≠ .frz b i) ∧ (∀ xs, u ≠ .tup xs) ∧ ∀ xs, u ≠ .xd xs := by
  cases o with
  | lst xs =>
    obtain ⟨vs, h1, h2⟩ := h
    exact ⟨_, h1, (fun _ _ e => nomatch e), (fun _ e => nomatch e), (fun _ e => nomatch e)⟩
  | frz xs => cases hm
  | set xs =>
    obtain ⟨ks, h1, h2⟩ := h
    exact ⟨_, h2, (fun _ _ e => nomatch e), (fun _ e => nomatch e), (fun _ e => nomatch e)⟩
  | dic kvs =>
    obtain ⟨vs, h1, h2, h3⟩ := h
    exact ⟨_, h1, (fun _ _ e => nomatch e), (fun _ e => nomatch e), (fun _ e => nomatch e)⟩
  | dit kvs =>
    obtain ⟨vs, h1, h2, h3⟩ := h
    exact ⟨_, h1, (fun _ _ e => nomatch e), (fun _ e => nomatch e), (fun _ e => nomatch e)⟩
theorem EnvR.m (e : EnvR K H μ σ τ) (g : Gr H μ H' μ') : EnvR K H' μ' σ τ := ⟨e.1, fun i d h => by
  obtain ⟨v, h1, h2⟩ := e.2 i d h
  exact ⟨v, h1, h2.m g⟩⟩
theorem EnvR.set {d : D} {v : V} (e : EnvR K H μ σ τ) (i : Nat) (r : Rep K H μ d v) : EnvR K H μ (σ.set i (some d)) (τ.set i (some v)) := by
  refine ⟨by rw [List.length_set, List.length_set]; exact e.1, fun j x h => ?_⟩
  by_cases hj : i = j
  · subst hj
    by_cases hl : i < σ.length
    · rw [List.getElem?_set_self hl] at h
      have h' := Option.some.inj (Option.some.inj h)
      subst h'
      exact ⟨v, List.getElem?_set_self (by rw [← e.1]; exact hl), r⟩
    · rw [List.getElem?_eq_none (by rw [List.length_set]; omega)] at h
      cases h
  · rw [List.getElem?_set_ne hj] at h
    obtain ⟨u, h1, h2⟩ := e.2 j x h
    exact ⟨u, by rw [List.getElem?_set_ne hj]; exact h1, h2⟩
theorem Gd.getL (g : Gd K ww H μ st) {n : Nat} {p : Addr} {xs : List D} (hp : μ[n]? = some p) (h : getL st n = some xs) : ∃ vs, SqL K H p vs ∧ Reps K H μ xs vs := by
  unfold Iv.getL at h
  cases e : st[n]? with
  | none => rw [e] at h; cases h
  | some o =>
    rw [e] at h
    have q := g.ob n p o hp e
    cases o with
    | lst ys =>
      cases h
      obtain ⟨vs, h1, h2⟩ := q
      exact ⟨vs, .inl (.inl h1), h2⟩
    | frz ys =>
      cases h
      obtain ⟨vs, h1, h2⟩ := q
      exact ⟨vs, h1 H (Keeps.refl H), h2⟩
    | set _ => cases h
    | dic _ => cases h
    | dit _ => cases h
theorem Gd.getM (g : Gd K ww H μ st) {n : Nat} {p : Addr} {xs : List D} (hp : μ[n]? = some p) (h : getM st n = some xs) : ∃ vs, H p = some (.lst vs) ∧ Reps K H μ xs vs := by
  unfold Iv.getM at h
  cases e : st[n]? with
  | none => rw [e] at h; cases h
  | some o =>
    rw [e] at h
    have q := g.ob n p o hp e
    cases o with
    | lst ys => cases h; exact q
    | _ => cases h
theorem getM_get {n : Nat} {xs : List D} (h : getM st n = some xs) : st[n]? = some (.lst xs) := by
  unfold Iv.getM at h
  cases e : st[n]? with
  | none => rw [e] at h; cases h
  | some o =>
    rw [e] at h
    cases o with
    | lst ys => cases h; rfl
    | _ => cases h
theorem Gd.lt (g : Gd K ww H μ st) {n : Nat} {p : Addr} (hp : μ[n]? = some p) : n < st.length := by
  rw [← g.len]
  exact (List.getElem?_eq_some_iff.mp hp).1
theorem Gd.adr (g : Gd K ww H μ st) {n : Nat} {o : OB} (h : st[n]? = some o) : ∃ p, μ[n]? = some p := by
  have hn := (List.getElem?_eq_some_iff.mp h).1
  exact ⟨μ[n]'(by rw [g.len]; exact hn), List.getElem?_eq_getElem _⟩
/-- the heap grows, nothing that was tracked changes -/
theorem Gd.same (g : Gd K ww H μ st) (s : Same H H') : Gd K ww H' μ st :=
  ⟨g.len, g.nd, fun n p o h1 h2 => (g.ob n p o h1 h2).m (fun _ z => by cases e : H p with | none => exact absurd e z | some u => exact s _ _ e) ⟨Keeps.same s, [], by simp⟩⟩
theorem same_upd {p : Addr} {o : HO} (h : H p = none) : Same H (upd H p o) := fun b u q => by rw [upd_ne (ne_of_none q h)]; exact q
theorem gr_tup {p : Addr} {vs : List V} (h : H p = none) : Gr H μ (upd H p (.tup vs)) μ := ⟨Keeps.same (same_upd h), [], by simp⟩
theorem gr_any {p : Addr} {o : HO} (h : H p = none) : Gr H μ (upd H p o) μ := ⟨Keeps.same (same_upd h), [], by simp⟩
theorem gr_new {p : Addr} {o : HO} (h : H p = none) : Gr H μ (upd H p o) (μ ++ [p]) := ⟨Keeps.same (same_upd h), [p], rfl⟩
/-- a new thing -/
theorem Gd.newO (g : Gd K ww H μ st) {p : Addr} {u : HO} {o : OB} (h : H p = none) (r : RepO K ww (upd H p u) (μ ++ [p]) p o) : Gd K ww (upd H p u) (μ ++ [p]) (st ++ [o]) := by
  have gr : Gr H μ (upd H p u) (μ ++ [p]) := gr_new h
  have old : ∀ (n : Nat) (q : Addr) (o2 : OB), (μ ++ [p])[n]? = some q → (st ++ [o])[n]? = some o2 → n < μ.length → μ[n]? = some q ∧ st[n]? = some o2 ∧ (mutO o2 = true → q ≠ p) := by
    intro n q o2 h1 h2 hn
    rw [List.getElem?_append_left hn] at h1
    rw [List.getElem?_append_left (by rw [← g.len]; exact hn)] at h2
    refine ⟨h1, h2, fun hm => ?_⟩
    obtain ⟨v, h3, _⟩ := (g.ob n q _ h1 h2).at hm
    exact ne_of_none h3 h
  have hlast : ∀ (n : Nat) (q : Addr), (μ ++ [p])[n]? = some q → ¬ n < μ.length → n = μ.length ∧ q = p := by
    intro n q h1 hn
    have h2 := (List.getElem?_eq_some_iff.mp h1).1
    rw [List.length_append, List.length_singleton] at h2
    have e : n = μ.length := by omega
    subst e
    rw [List.getElem?_append_right (Nat.le_refl _), Nat.sub_self] at h1
    exact ⟨rfl, (Option.some.inj h1).symm⟩
  refine ⟨by rw [List.length_append, List.length_append, g.len]; rfl, fun n m q o1 o2 h1 h2 h3 h4 m1 m2 => ?_, fun n q o1 h1 h2 => ?_⟩
  · by_cases hn : n < μ.length
    · obtain ⟨a1, a2, a3⟩ := old n q o1 h1 h3 hn
      by_cases hm : m < μ.length
      · obtain ⟨b1, b2, _⟩ := old m q o2 h2 h4 hm
        exact g.nd n m q o1 o2 a1 b1 a2 b2 m1 m2
      · exact absurd (hlast m q h2 hm).2 (a3 m1)
    · obtain ⟨rfl, rfl⟩ := hlast n q h1 hn
      by_cases hm : m < μ.length
      · exact absurd rfl ((old m q o2 h2 h4 hm).2.2 m2)
      · exact (hlast m q h2 hm).1.symm
  · by_cases hn : n < μ.length
    · rw [List.getElem?_append_left hn] at h1
      rw [List.getElem?_append_left (by rw [← g.len]; exact hn)] at h2
      refine (g.ob n q o1 h1 h2).m (fun _ z => ?_) gr
      exact upd_ne (fun e => z (by rw [e]; exact h))
    · obtain ⟨rfl, rfl⟩ := hlast n q h1 hn
      rw [g.len, List.getElem?_append_right (Nat.le_refl _), Nat.sub_self] at h2
      cases h2
      exact r
/-- a new list -/
theorem Gd.new (g : Gd K ww H μ st) {p : Addr} {xs : List D} {vs : List V} (h : H p = none) (r : Reps K H μ xs vs) : Gd K ww (upd H p (.lst vs)) (μ ++ [p]) (st ++ [.lst xs]) :=
  g.newO (o := .lst xs) (u := .lst vs) h ⟨vs, upd_same, r.m (gr_new h)⟩
/-- a list is written -/
theorem gr_over {p : Addr} {v u : HO} (h : H p = some v) (h1 : ∀ b i, v ≠ .frz b i) (h2 : ∀ xs, v ≠ .tup xs) (h3 : ∀ xs, v ≠ .xd xs) : Gr H μ (upd H p u) μ :=
  ⟨⟨fun b xs e => by rw [upd_ne (by rintro rfl; rw [h] at e; exact h2 xs (Option.some.inj e))]; exact e, fun b o i e => by rw [upd_ne (by rintro rfl; rw [h] at e; exact h1 o i (Option.some.inj e))]; exact e, fun b xs e => by rw [upd_ne (by rintro rfl; rw [h] at e; exact h3 xs (Option.some.inj e))]; exact e⟩, [], by simp⟩
theorem gr_write {p : Addr} {vs ws : List V} (h : H p = some (.lst vs)) : Gr H μ (upd H p (.lst ws)) μ := gr_over h (fun _ _ e => nomatch e) (fun _ e => nomatch e) (fun _ e => nomatch e)
/-- a thing is changed -/
theorem Gd.writeO (g : Gd K ww H μ st) {n : Nat} {p : Addr} {o o2 : OB} {u : HO} (hp : μ[n]? = some p) (hs : st[n]? = some o) (m1 : mutO o = true) (m2 : mutO o2 = true) (r : Gr H μ (upd H p u) μ → RepO K ww (upd H p u) μ p o2) : Gr H μ (upd H p u) μ ∧ Gd K ww (upd H p u) μ (st.set n o2) := by
  obtain ⟨v, hv, n1, n2, n3⟩ := (g.ob n p o hp hs).at m1
  have gr : Gr H μ (upd H p u) μ := gr_over hv n1 n2 n3
  have hn := (List.getElem?_eq_some_iff.mp hs).1
  have isl : ∀ (m : Nat) (z : OB), (st.set n o2)[m]? = some z → mutO z = true → ∃ z2, st[m]? = some z2 ∧ mutO z2 = true := by
    intro m z e em
    by_cases hm : n = m
    · subst hm; exact ⟨o, hs, m1⟩
    · rw [List.getElem?_set_ne hm] at e; exact ⟨z, e, em⟩
  refine ⟨gr, by rw [List.length_set]; exact g.len, fun a b q y z h1 h2 h3 h4 k1 k2 => ?_, fun m q z h1 h2 => ?_⟩
  · obtain ⟨y', h3, k3⟩ := isl a y h3 k1
    obtain ⟨z', h4, k4⟩ := isl b z h4 k2
    exact g.nd a b q y' z' h1 h2 h3 h4 k3 k4
  · by_cases hm : n = m
    · subst hm
      rw [List.getElem?_set_self hn] at h2
      cases h2
      rw [hp] at h1; cases h1
      exact r gr
    · rw [List.getElem?_set_ne hm] at h2
      refine (g.ob m q z h1 h2).m (fun em _ => upd_ne ?_) gr
      rintro rfl
      exact hm (g.nd n m q o z hp h1 hs h2 m1 em)
theorem Gd.write (g : Gd K ww H μ st) {n : Nat} {p : Addr} {xs ys : List D} {vs ws : List V} (hp : μ[n]? = some p) (hs : st[n]? = some (.lst xs)) (h : H p = some (.lst vs)) (r : Reps K H μ ys ws) : Gd K ww (upd H p (.lst ws)) μ (st.set n (.lst ys)) :=
  (g.writeO (o2 := .lst ys) (u := .lst ws) hp hs rfl rfl fun gr => ⟨ws, upd_same, r.m gr⟩).2
end
end Iv

namespace Iv
open PySem L2
/-! ### readings -/
def rdE (K : PySem.W.Frag) (ww : World) (f : SE) : TE := fun τ H Q => ∃ μ st σ d st', Gd K ww H μ st ∧ EnvR K H μ σ τ ∧ f σ st = some (d, st') ∧ ∀ μ' H' v, Gr H μ H' μ' → Gd K ww H' μ' st' → Rep K H' μ' d v → Q v H'
def rdT (K : PySem.W.Frag) (ww : World) (f : ST) : TT := fun τ H Q => ∃ μ st σ b st', Gd K ww H μ st ∧ EnvR K H μ σ τ ∧ f σ st = some (b, st') ∧ ∀ μ' H', Gr H μ H' μ' → Gd K ww H' μ' st' → Q b H'
def rdA (K : PySem.W.Frag) (ww : World) (f : SA) : TA := fun τ H Q => ∃ μ st σ ds st', Gd K ww H μ st ∧ EnvR K H μ σ τ ∧ f σ st = some (ds, st') ∧ ∀ μ' H' vs, Gr H μ H' μ' → Gd K ww H' μ' st' → Reps K H' μ' ds vs → Q vs H'
def Fin (K : PySem.W.Frag) (ww : World) (H : Hp) (μ : List Addr) (st' : Sto) (Dn : Ends) (r : R) : Prop :=
  ∀ μ' H', Gr H μ H' μ' → Gd K ww H' μ' st' → match r with
    | .nx σ' => ∀ τ', EnvR K H' μ' σ' τ' → Dn.nx τ' H'
    | .brk σ' => ∀ τ', EnvR K H' μ' σ' τ' → Dn.bk τ' H'
    | .cnt σ' => ∀ τ', EnvR K H' μ' σ' τ' → Dn.ct τ' H'
    | .ret d => ∀ v, Rep K H' μ' d v → Dn.rt v H'
def rdS (K : PySem.W.Frag) (ww : World) (f : SS) : TS := fun Dn τ H => ∃ μ st σ r st', Gd K ww H μ st ∧ EnvR K H μ σ τ ∧ f σ st = some (r, st') ∧ Fin K ww H μ st' Dn r
theorem Fin.m {K : PySem.W.Frag} {ww : World} {H H' : Hp} {μ μ' : List Addr} {st' : Sto} {Dn : Ends} {r : R} (h : Fin K ww H μ st' Dn r) (g : Gr H μ H' μ') : Fin K ww H' μ' st' Dn r := fun μ2 H2 g2 gd => h μ2 H2 (g.trans g2) gd

/-! ### weakening -/
theorem _root_.L2.PE.weak {X : Cx} {e : Expr} {t u : TE} (h : PE X e t) (w : ∀ τ H Q, u τ H Q → t τ H Q) : PE X e u := ⟨fun pins s σ H Q I q => h.run pins s σ H Q I (w σ H Q q)⟩
theorem _root_.L2.PT.weak {X : Cx} {e : Expr} {t u : TT} (h : PT X e t) (w : ∀ τ H Q, u τ H Q → t τ H Q) : PT X e u := ⟨fun pins s σ H Q I q => h.run pins s σ H Q I (w σ H Q q)⟩
theorem _root_.L2.PW.weak {X : Cx} {e : Expr} {t u : TT} (h : PW X e t) (w : ∀ τ H Q, u τ H Q → t τ H Q) : PW X e u := ⟨fun wh pins s σ H Q I q => h.run wh pins s σ H Q I (w σ H Q q)⟩
theorem _root_.L2.PA.weak {X : Cx} {e : List Expr} {t u : TA} (h : PA X e t) (w : ∀ τ H Q, u τ H Q → t τ H Q) : PA X e u := ⟨fun p pins s σ H Q I q => h.run p pins s σ H Q I (w σ H Q q)⟩
theorem _root_.L2.PS.weak {X : Cx} {e : Stmt} {t u : TS} (h : PS X e t) (w : ∀ Dn τ H, u Dn τ H → t Dn τ H) : PS X e u := ⟨fun pins s σ H Dn I q => h.run pins s σ H Dn I (w Dn σ H q)⟩
theorem _root_.L2.PSs.weak {X : Cx} {e : List Stmt} {t u : TS} (h : PSs X e t) (w : ∀ Dn τ H, u Dn τ H → t Dn τ H) : PSs X e u := ⟨fun pins s σ H Dn I q => h.run pins s σ H Dn I (w Dn σ H q)⟩
theorem _root_.L2.PTs.weak {X : Cx} {e : List Expr} {t u : TT} (h : PTs X e t) (w : ∀ τ H Q, u τ H Q → t τ H Q) : PTs X e u := ⟨fun pins s σ H Q I q => h.run pins s σ H Q I (w σ H Q q)⟩

section
variable {X : Cx} {K : PySem.W.Frag} {ww : World}
/-! ### names, constants -/
def varF (i : Nat) : SE := fun σ st => match σ[i]? with
  | some (some d) => some (d, st)
  | _ => none
def cstF (d : D) : SE := fun _ st => some (d, st)
theorem se_var {i : Nat} {e : Expr} (h : PE X e (tVar i)) : PE X e (rdE K ww (varF i)) := h.weak fun τ H Q ⟨μ, st, σ, d, st', g, er, hv, k⟩ => by
  unfold varF at hv
  split at hv
  · rename_i d' e'
    cases hv
    obtain ⟨v, h1, h2⟩ := er.2 i _ e'
    exact ⟨v, h1, k μ H v (Gr.refl H μ) g h2⟩
  · cases hv
/-- a constant of the text: whatever stands in the heap it is d -/
theorem se_cst {d : D} {e : Expr} {v : V} (h : PE X e (tC v)) (r : ∀ H μ, Rep K H μ d v) : PE X e (rdE K ww (cstF d)) := h.weak fun τ H Q ⟨μ, st, σ, d', st', g, er, hv, k⟩ => by
  cases hv
  exact k μ H v (Gr.refl H μ) g (r H μ)
theorem se_int {i : Int} {j pos} : PE X (.Constant (.int i) j pos) (rdE K ww (cstF (.int i))) := se_cst pe_int fun _ _ => by simp only [Rep]
theorem se_bl {i : Bool} {j pos} : PE X (.Constant (.bool i) j pos) (rdE K ww (cstF (.bl i))) := se_cst pe_bl fun _ _ => by simp only [Rep]
theorem se_non {j pos} : PE X (.Constant .none j pos) (rdE K ww (cstF .non)) := se_cst pe_non fun _ _ => by simp only [Rep]
theorem se_str {x j pos} : PE X (.Constant (.str x) j pos) (rdE K ww (cstF (.str x))) := se_cst pe_str fun _ _ => by simp only [Rep]

/-! ### two-place operations by values -/
abbrev Op2 := D → D → Sto → Option (D × Sto)
abbrev Op1 := D → Sto → Option (D × Sto)
abbrev OpN := List D → Sto → Option (D × Sto)
def binF (o : Op2) (f g : SE) : SE := fun σ st => bnd (f σ st) fun x st1 => bnd (g σ st1) fun y st2 => o x y st2
def unF (o : Op1) (f : SE) : SE := fun σ st => bnd (f σ st) fun x st1 => o x st1
def Ok2 (K : PySem.W.Frag) (ww : World) (r : R2) (o : Op2) : Prop := ∀ H μ st x y vx vy d st' (Q : VK), Gd K ww H μ st → Rep K H μ x vx → Rep K H μ y vy → o x y st = some (d, st') →
  (∀ μ' H' v, Gr H μ H' μ' → Gd K ww H' μ' st' → Rep K H' μ' d v → Q v H') → r vx vy H Q
def Ok1 (K : PySem.W.Frag) (ww : World) (r : V → Hp → VK → Prop) (o : Op1) : Prop := ∀ H μ st x vx d st' (Q : VK), Gd K ww H μ st → Rep K H μ x vx → o x st = some (d, st') →
  (∀ μ' H' v, Gr H μ H' μ' → Gd K ww H' μ' st' → Rep K H' μ' d v → Q v H') → r vx H Q
def OkN (K : PySem.W.Frag) (ww : World) (r : List V → Hp → VK → Prop) (o : OpN) : Prop := ∀ H μ st xs vs d st' (Q : VK), Gd K ww H μ st → Reps K H μ xs vs → o xs st = some (d, st') →
  (∀ μ' H' v, Gr H μ H' μ' → Gd K ww H' μ' st' → Rep K H' μ' d v → Q v H') → r vs H Q
theorem rd_op {r : R2} {o : Op2} {f g : SE} (h : Ok2 K ww r o) : ∀ τ H Q, rdE K ww (binF o f g) τ H Q → tOp r (rdE K ww f) (rdE K ww g) τ H Q := fun τ H Q ⟨μ, st, σ, d, st', gd, er, hv, k⟩ => by
  obtain ⟨x, s1, h1, hv⟩ := bnd_eq hv
  obtain ⟨y, s2, h2, hv⟩ := bnd_eq hv
  refine ⟨μ, st, σ, x, s1, gd, er, h1, fun μ1 H1 vx g1 d1 r1 => ?_⟩
  refine ⟨μ1, s1, σ, y, s2, d1, er.m g1, h2, fun μ2 H2 vy g2 d2 r2 => ?_⟩
  exact h H2 μ2 s2 x y vx vy d st' Q d2 (r1.m g2) r2 hv fun μ3 H3 v g3 d3 r3 => k μ3 H3 v ((g1.trans g2).trans g3) d3 r3
theorem se_bin {op : Operator} {r : R2} {o : Op2} {a b : Expr} {f g : SE} {pos : Pos} (ho : OpR X (binaryOp op) r) (h : Ok2 K ww r o) (ha : PE X a (rdE K ww f)) (hb : PE X b (rdE K ww g)) : PE X (.BinOp a op b pos) (rdE K ww (binF o f g)) := (pe_op ho ha hb).weak (rd_op h)
theorem se_cmp {op : CmpOp} {r : R2} {o : Op2} {a b : Expr} {f g : SE} {pos : Pos} (ho : OpR X (compareOp op) r) (h : Ok2 K ww r o) (ha : PE X a (rdE K ww f)) (hb : PE X b (rdE K ww g)) (hm : behindInMarks op b = false) : PE X (.Compare a [op] [b] pos) (rdE K ww (binF o f g)) := (pe_cmpR ho ha hb hm).weak (rd_op h)
theorem se_ix {r : R2} {o : Op2} {a b : Expr} {f g : SE} {pos : Pos} (ho : IxR X r) (h : Ok2 K ww r o) (ha : PE X a (rdE K ww f)) (hb : PE X b (rdE K ww g)) (hs : PlainIx b) : PE X (.Subscript a b pos) (rdE K ww (binF o f g)) := (pe_ix ho ha hb hs).weak (rd_op h)
theorem se_un {op : UnaryOp} {r : V → Hp → VK → Prop} {o : Op1} {a : Expr} {f : SE} {pos : Pos} (ho : UnR X (unaryOp op) r) (h : Ok1 K ww r o) (ha : PE X a (rdE K ww f)) : PE X (.UnaryOp op a pos) (rdE K ww (unF o f)) := (pe_un ho ha).weak fun τ H Q ⟨μ, st, σ, d, st', gd, er, hv, k⟩ => by
  obtain ⟨x, s1, h1, hv⟩ := bnd_eq hv
  refine ⟨μ, st, σ, x, s1, gd, er, h1, fun μ1 H1 vx g1 d1 r1 => ?_⟩
  exact h H1 μ1 s1 x vx d st' Q d1 r1 hv fun μ3 H3 v g3 d3 r3 => k μ3 H3 v (g1.trans g3) d3 r3

/-! ### arguments -/
def nilF : SA := fun _ st => some ([], st)
def consF (f : SE) (g : SA) : SA := fun σ st => bnd (f σ st) fun x st1 => bnd (g σ st1) fun xs st2 => some (x :: xs, st2)
theorem sa_nil : PA X [] (rdA K ww nilF) := pa_nil.weak fun τ H Q ⟨μ, st, σ, d, st', gd, er, hv, k⟩ => by
  cases hv
  exact k μ H [] (Gr.refl H μ) gd reps_nil
theorem sa_cons {e : Expr} {es : List Expr} {f : SE} {g : SA} (ha : PE X e (rdE K ww f)) (hr : PA X es (rdA K ww g)) (hs : starEach (e :: es) X.env = (false, eval e X.env) :: starEach es X.env := by rfl) : PA X (e :: es) (rdA K ww (consF f g)) := (pa_cons ha hr hs).weak fun τ H Q ⟨μ, st, σ, d, st', gd, er, hv, k⟩ => by
  obtain ⟨x, s1, h1, hv⟩ := bnd_eq hv
  obtain ⟨xs, s2, h2, hv⟩ := bnd_eq hv
  cases hv
  refine ⟨μ, st, σ, x, s1, gd, er, h1, fun μ1 H1 vx g1 d1 r1 => ?_⟩
  refine ⟨μ1, s1, σ, xs, _, d1, er.m g1, h2, fun μ2 H2 vs g2 d2 r2 => ?_⟩
  exact k μ2 H2 _ (g1.trans g2) d2 (reps_cons (r1.m g2) r2)
def appF (o : OpN) (f : SA) : SE := fun σ st => bnd (f σ st) fun xs st1 => o xs st1
def mapp (o : Op2) (f : SE) (g : SE) : SE := binF o f g
theorem rd_app {r : List V → Hp → VK → Prop} {o : OpN} {f : SA} (h : OkN K ww r o) : ∀ τ H Q, rdE K ww (appF o f) τ H Q → tCB r (rdA K ww f) τ H Q := fun τ H Q ⟨μ, st, σ, d, st', gd, er, hv, k⟩ => by
  obtain ⟨x, s1, h1, hv⟩ := bnd_eq hv
  refine ⟨μ, st, σ, x, s1, gd, er, h1, fun μ1 H1 vx g1 d1 r1 => ?_⟩
  exact h H1 μ1 s1 x vx d st' Q d1 r1 hv fun μ3 H3 v g3 d3 r3 => k μ3 H3 v (g1.trans g3) d3 r3
theorem se_callB {x : Str} {p pos : Pos} {e : Expr} {es : List Expr} {id : String} {r : List V → Hp → VK → Prop} {o : OpN} {f : SA} (hc : CallR X (.builtin id) r) (h : OkN K ww r o) (hg : Gl X x) (hm : X.mg x = none) (hv : bootBuiltins x = some (.builtin id)) (ha : PA X (e :: es) (rdA K ww f)) (hn : x ≠ "__name__" := by decide) (hdb : (x == ("__debug__" : Str)) = false := by decide)
    (he : starEach (e :: es) X.env = (false, eval e X.env) :: starEach es X.env := by rfl) (hpl : (backTo pos (starEach es X.env)).any (·.1) = false := by rfl) :
    PE X (.Call (.Name x p) (e :: es) [] pos) (rdE K ww (appF o f)) := (pe_callB hc hg hm hv ha hn hdb he hpl).weak (rd_app h)
theorem se_callTy {x : Str} {p pos : Pos} {e : Expr} {es : List Expr} {T : String} {r : List V → Hp → VK → Prop} {o : OpN} {f : SA} (hc : CallR X (.type T) r) (h : OkN K ww r o) (hg : Gl X x) (hm : X.mg x = none) (hv : bootBuiltins x = some (.type T)) (ha : PA X (e :: es) (rdA K ww f)) (hn : x ≠ "__name__" := by decide) (hdb : (x == ("__debug__" : Str)) = false := by decide)
    (he : starEach (e :: es) X.env = (false, eval e X.env) :: starEach es X.env := by rfl) (hpl : (backTo pos (starEach es X.env)).any (·.1) = false := by rfl) :
    PE X (.Call (.Name x p) (e :: es) [] pos) (rdE K ww (appF o f)) := (pe_callTy hc hg hm hv ha hn hdb he hpl).weak (rd_app h)
/-- a method of a built-in type -/
abbrev OpM := D → List D → Sto → Option (D × Sto)
def OkM (K : PySem.W.Frag) (ww : World) (r : V → List V → Hp → VK → Prop) (o : OpM) : Prop := ∀ H μ st x xs vx vs d st' (Q : VK), Gd K ww H μ st → Rep K H μ x vx → Reps K H μ xs vs → o x xs st = some (d, st') →
  (∀ μ' H' v, Gr H μ H' μ' → Gd K ww H' μ' st' → Rep K H' μ' d v → Q v H') → r vx vs H Q
def isTy (T : String) (d : D) (st : Sto) : Bool := match T, d with
  | "list", .loc n => (getL st n).isSome
  | "str", .str _ => true
  | _, _ => false
def bmF (T : String) (o : OpM) (f : SE) (g : SA) : SE := fun σ st => bnd (f σ st) fun x st1 => if isTy T x st1 = true then bnd (g σ st1) fun xs st2 => o x xs st2 else none
def bm0F (T : String) (o : OpM) (f : SE) : SE := fun σ st => bnd (f σ st) fun x st1 => if isTy T x st1 = true then o x [] st1 else none

/-! ### tuples, lists -/
def tupF (f : SA) : SE := fun σ st => bnd (f σ st) fun xs st1 => if xs.length ≤ LIM then some (.tup xs, st1) else none
def lstF (f : SA) : SE := fun σ st => bnd (f σ st) fun xs st1 => if xs.length ≤ LIM then some (.loc st1.length, st1 ++ [.lst xs]) else none
theorem rep_tup {H : Hp} {μ : List Addr} {p : Addr} {ds : List D} {vs : List V} (h : SqT K H p vs) (nd : nst ds = true → NoD K H p) (r : Reps K H μ ds vs) : Rep K H μ (.tup ds) (.ref p) := by
  simp only [Rep]
  exact ⟨p, vs, rfl, ⟨h, nd⟩, r⟩
theorem rep_loc {H : Hp} {μ : List Addr} {p : Addr} {n : Nat} (h : μ[n]? = some p) : Rep K H μ (.loc n) (.ref p) := by
  simp only [Rep]
  exact ⟨p, rfl, h⟩
theorem new_tup {H : Hp} {μ : List Addr} {st : Sto} {ds : List D} {vs : List V} {Q : VK} (gd : Gd K ww H μ st) (r : Reps K H μ ds vs) (k : ∀ μ' H' v, Gr H μ H' μ' → Gd K ww H' μ' st → Rep K H' μ' (.tup ds) v → Q v H') :
    ∀ (p : Addr) (o : Obj), H p = none → o.cls = .type "tuple" → o.dict = none → Q (.ref p) (upd H p (.frz o (.tup vs))) := fun p o hp hc hd => by
  have g : Gr H μ (upd H p (.frz o (.tup vs))) μ := gr_any hp
  exact k μ _ _ g (gd.same (same_upd hp)) (rep_tup (.inl (.inr ⟨o, upd_same⟩)) (fun _ => .inl ⟨o, _, upd_same, hc, hd⟩) (r.m g))
/-- one that is not of texts alone -/
theorem new_tupP {H : Hp} {μ : List Addr} {st : Sto} {ds : List D} {vs : List V} {Q : VK} (gd : Gd K ww H μ st) (hn : nst ds = false) (r : Reps K H μ ds vs) (k : ∀ μ' H' v, Gr H μ H' μ' → Gd K ww H' μ' st → Rep K H' μ' (.tup ds) v → Q v H') :
    ∀ p, H p = none → Q (.ref p) (upd H p (.tup vs)) := fun p hp => by
  have g : Gr H μ (upd H p (.tup vs)) μ := gr_tup hp
  exact k μ _ _ g (gd.same (same_upd hp)) (rep_tup (.inl (.inl upd_same)) (fun z => by rw [hn] at z; cases z) (r.m g))
/-- a tuple display, the object told -/
def tTupN (t : TA) : TE := fun τ H Q => t τ H fun xs H1 => xs.length ≤ sizeLine ∧ ∀ (p : Addr) (o : Obj), H1 p = none → o.cls = .type "tuple" → o.dict = none → Q (.ref p) (upd H1 p (.frz o (.tup xs)))
theorem pe_tupN {es : List Expr} {x1} {pos : Pos} {t : TA} (h : PA X es t) : PE X (.Tuple es x1 pos) (tTupN t) :=
  ⟨fun pins s σ H Q I hq => wpAny_Tuple_spliced (thn (h.run pos pins s σ H _ I hq) fun us s1 ⟨xs, H1, I1, r, z, q⟩ => ⟨by rw [← r.length]; exact z,
    .ref s1.heap.objs.size, upd H1 s1.heap.objs.size (.frz _ (.tup xs)), I1.laid (t' := s1.toks) (fun b u e => Heap.get?_push_of_some _ e) (Nat.le_refl _) ⟨Heap.get?_push_size _ rfl, z, us, r, ⟨_, Heap.get?_push_size _ rfl, rfl, _, rfl⟩⟩, rfl, q _ _ (I1.hok.fresh (Nat.le_refl _)) rfl rfl⟩)⟩
theorem new_lst {H : Hp} {μ : List Addr} {st : Sto} {ds : List D} {vs : List V} {Q : VK} (gd : Gd K ww H μ st) (r : Reps K H μ ds vs) (k : ∀ μ' H' v, Gr H μ H' μ' → Gd K ww H' μ' (st ++ [.lst ds]) → Rep K H' μ' (.loc st.length) v → Q v H') :
    ∀ p, H p = none → Q (.ref p) (upd H p (.lst vs)) := fun p hp => by
  have g : Gr H μ (upd H p (.lst vs)) (μ ++ [p]) := gr_new hp
  refine k _ _ _ g (gd.new hp r) (rep_loc ?_)
  rw [← gd.len, List.getElem?_append_right (Nat.le_refl _), Nat.sub_self]
  rfl
theorem se_tup {es : List Expr} {x1} {pos : Pos} {f : SA} (h : PA X es (rdA K ww f)) : PE X (.Tuple es x1 pos) (rdE K ww (tupF f)) := (pe_tupN h).weak fun τ H Q ⟨μ, st, σ, d, st', gd, er, hv, k⟩ => by
  obtain ⟨x, s1, h1, hv⟩ := bnd_eq hv
  split at hv
  · rename_i hl
    cases hv
    refine ⟨μ, st, σ, x, _, gd, er, h1, fun μ1 H1 vs g1 d1 r1 => ⟨lim_ok (by rw [← r1.len]; exact hl), ?_⟩⟩
    exact new_tup d1 r1 fun μ3 H3 v g3 d3 r3 => k μ3 H3 v (g1.trans g3) d3 r3
  · cases hv
theorem se_lst {es : List Expr} {pos : Pos} {f : SA} (h : PA X es (rdA K ww f)) : PE X (.List es pos) (rdE K ww (lstF f)) := (pe_lst h).weak fun τ H Q ⟨μ, st, σ, d, st', gd, er, hv, k⟩ => by
  obtain ⟨x, s1, h1, hv⟩ := bnd_eq hv
  split at hv
  · rename_i hl
    cases hv
    refine ⟨μ, st, σ, x, _, gd, er, h1, fun μ1 H1 vs g1 d1 r1 => ⟨lim_ok (by rw [← r1.len]; exact hl), ?_⟩⟩
    exact new_lst d1 r1 fun μ3 H3 v g3 d3 r3 => k μ3 H3 v (g1.trans g3) d3 r3
  · cases hv

/-! ### truth, tests -/
def truth (d : D) (st : Sto) : Option Bool := match d with
  | .non => some false
  | .bl b => some b
  | .int i => some (i != 0)
  | .str x => if x.length ≤ LIM then some ((x.length : Int) != 0) else none
  | .tup xs => some (!xs.isEmpty)
  | .loc n => (getL st n).map fun xs => !xs.isEmpty
theorem empty_of {H : Hp} {μ : List Addr} : ∀ {ds : List D} {vs : List V}, Reps K H μ ds vs → (!ds.isEmpty) = !vs.isEmpty
  | [], vs, h => by simp only [Reps] at h; rw [h]; rfl
  | d :: ds, vs, h => by simp only [Reps] at h; obtain ⟨v, ws, rfl, _, _⟩ := h; rfl
theorem tru_of {H : Hp} {μ : List Addr} {st : Sto} {d : D} {v : V} {b : Bool} (g : Gd K ww H μ st) (r : Rep K H μ d v) (h : truth d st = some b) : TruV K v H b := by
  cases d with
  | non => simp only [Rep] at r; subst r; exact (Option.some.inj h).symm
  | bl c => simp only [Rep] at r; subst r; exact (Option.some.inj h).symm
  | int i => simp only [Rep] at r; subst r; exact (Option.some.inj h).symm
  | str x =>
    simp only [Rep] at r; subst r
    unfold truth at h
    simp only at h
    split at h
    · rename_i hl
      exact ⟨lim_ok hl, (Option.some.inj h).symm⟩
    · cases h
  | tup xs =>
    simp only [Rep] at r
    obtain ⟨p, vs, rfl, ⟨s, _⟩, rs⟩ := r
    exact .inr (.inl ⟨vs, s, by rw [← empty_of rs]; exact (Option.some.inj h).symm⟩)
  | loc n =>
    simp only [Rep] at r
    obtain ⟨p, rfl, hp⟩ := r
    unfold truth at h
    simp only at h
    cases e : getL st n with
    | none => rw [e] at h; cases h
    | some xs =>
      rw [e] at h
      obtain ⟨vs, s, rs⟩ := g.getL hp e
      exact .inl ⟨vs, s, by rw [← empty_of rs]; exact (Option.some.inj h).symm⟩
def truF (f : SE) : ST := fun σ st => bnd (f σ st) fun x st1 => (truth x st1).map fun b => (b, st1)
def cmpT (o : Op2) (f g : SE) : ST := truF (binF o f g)
theorem rd_tru {f : SE} {τ : L2.St} {H : Hp} {Q : Bool → Hp → Prop} (h : rdT K ww (truF f) τ H Q) : rdE K ww f τ H fun x H' => ∃ k, TruV K x H' k ∧ Q k H' := by
  obtain ⟨μ, st, σ, b, st', gd, er, hv, k⟩ := h
  obtain ⟨x, s1, h1, hv⟩ := bnd_eq hv
  cases e : truth x s1 with
  | none => rw [e] at hv; cases hv
  | some c =>
    rw [e] at hv
    cases hv
    exact ⟨μ, st, σ, x, _, gd, er, h1, fun μ1 H1 v g1 d1 r1 => ⟨b, tru_of d1 r1 e, k μ1 H1 g1 d1⟩⟩
theorem st_tru {a : Expr} {f : SE} (ha : PE X a (rdE X.K X.w f)) (he : ∀ whole, isTrue a X.env whole = (do let v ← whole; standAt a.pos; holding [v] (truthy v)) := by intro _; rfl) : PT X a (rdT X.K X.w (truF f)) :=
  (pt_truth ha he).weak fun τ H Q h => rd_tru h
/-- a comparison as a test -/
theorem st_cmp {op : CmpOp} {r : R2} {o : Op2} {a b : Expr} {f g : SE} {pos : Pos} (ho : OpR X (compareOp op) r) (h : Ok2 K ww r o) (hb' : ∀ x y st d st', o x y st = some (d, st') → ∃ b, d = .bl b) (ha : PE X a (rdE K ww f)) (hb : PE X b (rdE K ww g)) (hm : behindInMarks op b = false) : PT X (.Compare a [op] [b] pos) (rdT K ww (cmpT o f g)) :=
  (pt_cmpR ho ha hb hm).weak fun τ H Q ⟨μ, st, σ, b, st', gd, er, hv, k⟩ => by
    obtain ⟨x, s1, h1, hv⟩ := bnd_eq hv
    cases e : truth x s1 with
    | none => rw [e] at hv; cases hv
    | some c =>
      rw [e] at hv
      cases hv
      refine rd_op h τ H _ ⟨μ, st, σ, x, _, gd, er, h1, fun μ1 H1 v g1 d1 r1 => ?_⟩
      unfold binF at h1
      obtain ⟨_, _, _, h1⟩ := bnd_eq h1
      obtain ⟨_, _, _, h1⟩ := bnd_eq h1
      obtain ⟨c, rfl⟩ := hb' _ _ _ _ _ h1
      simp only [Rep] at r1
      cases e
      exact ⟨_, r1, k μ1 H1 g1 d1⟩
def andT (f g : ST) : ST := fun σ st => bnd (f σ st) fun b st1 => if b = true then g σ st1 else some (false, st1)
def orT (f g : ST) : ST := fun σ st => bnd (f σ st) fun b st1 => if b = true then some (true, st1) else g σ st1
def notT (f : ST) : ST := fun σ st => bnd (f σ st) fun b st1 => some (!b, st1)
theorem rd_andT {f g : ST} : ∀ τ H Q, rdT K ww (andT f g) τ H Q → tAnd (rdT K ww f) (rdT K ww g) τ H Q := fun τ H Q ⟨μ, st, σ, b, st', gd, er, hv, k⟩ => by
  obtain ⟨c, s1, h1, hv⟩ := bnd_eq hv
  refine ⟨μ, st, σ, c, s1, gd, er, h1, fun μ1 H1 g1 d1 => ?_⟩
  cases c with
  | true => exact ⟨μ1, s1, σ, b, st', d1, er.m g1, hv, fun μ2 H2 g2 d2 => k μ2 H2 (g1.trans g2) d2⟩
  | false =>
    cases hv
    exact k μ1 H1 g1 d1
theorem rd_orT {f g : ST} : ∀ τ H Q, rdT K ww (orT f g) τ H Q → tOr (rdT K ww f) (rdT K ww g) τ H Q := fun τ H Q ⟨μ, st, σ, b, st', gd, er, hv, k⟩ => by
  obtain ⟨c, s1, h1, hv⟩ := bnd_eq hv
  refine ⟨μ, st, σ, c, s1, gd, er, h1, fun μ1 H1 g1 d1 => ?_⟩
  cases c with
  | false => exact ⟨μ1, s1, σ, b, st', d1, er.m g1, hv, fun μ2 H2 g2 d2 => k μ2 H2 (g1.trans g2) d2⟩
  | true =>
    cases hv
    exact k μ1 H1 g1 d1
section
variable {a b : Expr} {rest : List Expr} {f g : ST} {pos : Pos}
theorem sw_and1 (ha : PT X a (rdT K ww f)) : PW X (.BoolOp .And [a] pos) (rdT K ww f) := pw_and1 ha
theorem sw_or1 (ha : PT X a (rdT K ww f)) : PW X (.BoolOp .Or [a] pos) (rdT K ww f) := pw_or1 ha
theorem sw_and (ha : PT X a (rdT K ww f)) (hb : PW X (.BoolOp .And (b :: rest) pos) (rdT K ww g)) : PW X (.BoolOp .And (a :: b :: rest) pos) (rdT K ww (andT f g)) := (pw_and ha hb).weak rd_andT
theorem sw_or (ha : PT X a (rdT K ww f)) (hb : PW X (.BoolOp .Or (b :: rest) pos) (rdT K ww g)) : PW X (.BoolOp .Or (a :: b :: rest) pos) (rdT K ww (orT f g)) := (pw_or ha hb).weak rd_orT
theorem st_not (ha : PT X a (rdT K ww f)) : PT X (.UnaryOp .Not a pos) (rdT K ww (notT f)) := (pt_not ha).weak fun τ H Q ⟨μ, st, σ, b, st', gd, er, hv, k⟩ => by
  obtain ⟨c, s1, h1, hv⟩ := bnd_eq hv
  cases hv
  exact ⟨μ, st, σ, c, _, gd, er, h1, fun μ1 H1 g1 d1 => k μ1 H1 g1 d1⟩
end
/-! and, or, not as values -/
def andF (f g : SE) : SE := fun σ st => bnd (f σ st) fun x st1 => (truth x st1).bind fun b => if b = true then g σ st1 else some (x, st1)
def orF (f g : SE) : SE := fun σ st => bnd (f σ st) fun x st1 => (truth x st1).bind fun b => if b = true then some (x, st1) else g σ st1
def notF (f : SE) : SE := fun σ st => bnd (f σ st) fun x st1 => (truth x st1).map fun b => (.bl (!b), st1)
def ifF (c : ST) (f g : SE) : SE := fun σ st => bnd (c σ st) fun b st1 => if b = true then f σ st1 else g σ st1
section
variable {a b c : Expr} {rest : List Expr} {f g : SE} {t : ST} {pos : Pos}
theorem se_one {op} (ha : PE X a (rdE K ww f)) : PE X (.BoolOp op [a] pos) (rdE K ww f) := pe_one ha
theorem se_and (ha : PE X a (rdE X.K X.w f)) (hb : PE X (.BoolOp .And (b :: rest) pos) (rdE X.K X.w g)) : PE X (.BoolOp .And (a :: b :: rest) pos) (rdE X.K X.w (andF f g)) := (pe_andT ha hb).weak fun τ H Q ⟨μ, st, σ, d, st', gd, er, hv, k⟩ => by
  obtain ⟨x, s1, h1, hv⟩ := bnd_eq hv
  cases e : truth x s1 with
  | none => rw [e] at hv; cases hv
  | some y =>
    rw [e] at hv
    refine ⟨μ, st, σ, x, s1, gd, er, h1, fun μ1 H1 v g1 d1 r1 => ⟨y, tru_of d1 r1 e, ?_⟩⟩
    cases y with
    | true => exact ⟨μ1, s1, σ, d, st', d1, er.m g1, hv, fun μ2 H2 v2 g2 d2 r2 => k μ2 H2 v2 (g1.trans g2) d2 r2⟩
    | false =>
      cases hv
      exact k μ1 H1 v g1 d1 r1
theorem se_or (ha : PE X a (rdE X.K X.w f)) (hb : PE X (.BoolOp .Or (b :: rest) pos) (rdE X.K X.w g)) : PE X (.BoolOp .Or (a :: b :: rest) pos) (rdE X.K X.w (orF f g)) := (pe_orT ha hb).weak fun τ H Q ⟨μ, st, σ, d, st', gd, er, hv, k⟩ => by
  obtain ⟨x, s1, h1, hv⟩ := bnd_eq hv
  cases e : truth x s1 with
  | none => rw [e] at hv; cases hv
  | some y =>
    rw [e] at hv
    refine ⟨μ, st, σ, x, s1, gd, er, h1, fun μ1 H1 v g1 d1 r1 => ⟨y, tru_of d1 r1 e, ?_⟩⟩
    cases y with
    | false => exact ⟨μ1, s1, σ, d, st', d1, er.m g1, hv, fun μ2 H2 v2 g2 d2 r2 => k μ2 H2 v2 (g1.trans g2) d2 r2⟩
    | true =>
      cases hv
      exact k μ1 H1 v g1 d1 r1
theorem se_not (ha : PE X a (rdE X.K X.w f)) : PE X (.UnaryOp .Not a pos) (rdE X.K X.w (notF f)) := (pe_notT ha).weak fun τ H Q ⟨μ, st, σ, d, st', gd, er, hv, k⟩ => by
  obtain ⟨x, s1, h1, hv⟩ := bnd_eq hv
  cases e : truth x s1 with
  | none => rw [e] at hv; cases hv
  | some y =>
    rw [e] at hv
    cases hv
    refine ⟨μ, st, σ, x, _, gd, er, h1, fun μ1 H1 v g1 d1 r1 => ⟨y, tru_of d1 r1 e, k μ1 H1 _ g1 d1 (by simp only [Rep])⟩⟩
theorem se_if (hc : PT X c (rdT K ww t)) (ha : PE X a (rdE K ww f)) (hb : PE X b (rdE K ww g)) : PE X (.IfExp c a b pos) (rdE K ww (ifF t f g)) := (pe_ifExp hc ha hb).weak fun τ H Q ⟨μ, st, σ, d, st', gd, er, hv, k⟩ => by
  obtain ⟨y, s1, h1, hv⟩ := bnd_eq hv
  refine ⟨μ, st, σ, y, s1, gd, er, h1, fun μ1 H1 g1 d1 => ?_⟩
  cases y with
  | true => exact ⟨μ1, s1, σ, d, st', d1, er.m g1, hv, fun μ2 H2 v2 g2 d2 r2 => k μ2 H2 v2 (g1.trans g2) d2 r2⟩
  | false => exact ⟨μ1, s1, σ, d, st', d1, er.m g1, hv, fun μ2 H2 v2 g2 d2 r2 => k μ2 H2 v2 (g1.trans g2) d2 r2⟩
end
end
end Iv

namespace Iv
open PySem L2
section
variable {X : Cx} {K : PySem.W.Frag} {ww : World}
/-! ### methods of built-in types -/
theorem ty_of {H : Hp} {μ : List Addr} {st : Sto} {T : String} {d : D} {v : V} (gd : Gd K ww H μ st) (r : Rep K H μ d v) (h : isTy T d st = true) : tyV K T v H := by
  unfold isTy at h
  split at h
  · rename_i n
    cases e : getL st n with
    | none => rw [e] at h; cases h
    | some xs =>
      simp only [Rep] at r
      obtain ⟨p, rfl, hp⟩ := r
      obtain ⟨vs, h1, _⟩ := gd.getL hp e
      exact .inl ⟨rfl, vs, h1⟩
  · simp only [Rep] at r
    subst r
    rfl
  · cases h
theorem se_bm {o e : Expr} {es : List Expr} {name : Str} {apos cpos : Pos} {T id : String} {r : V → List V → Hp → VK → Prop} {op : OpM} {f : SE} {g : SA}
    (pa : PlainAttrs T) (slot : Slot T name id) (hty : typeOf (.builtin id) = pure (.type "method_descriptor")) (hm : MtR X id r) (h : OkM X.K X.w r op) (ho : PE X o (rdE X.K X.w f)) (ha : PA X (e :: es) (rdA X.K X.w g))
    (hbase : attributeBase o name X.env (eval o X.env) = eval o X.env := by rfl)
    (hfew : ((backTo cpos (starEach (e :: es) X.env)).all (fun x => !x.1) && (backToKw cpos (keywordEach [] X.env)).all (fun x => x.1.isSome)
      && decide ((e :: es).length + ([] : List Keyword).length + (if ([] : List Keyword).isEmpty then 0 else 1) < 30)) = true := by rfl)
    (hline : (apos.endLine == cpos.line) = true := by rfl) (hs : starEach (e :: es) X.env = (false, eval e X.env) :: starEach es X.env := by rfl) (hplain : (backTo cpos (starEach es X.env)).any (·.1) = false := by rfl) :
    PE X (.Call (.Attribute o name apos) (e :: es) [] cpos) (rdE X.K X.w (bmF T op f g)) :=
  (pe_bm pa slot hty hm ho ha hbase hfew hline hs hplain).weak fun τ H Q ⟨μ, st, σ, d, st', gd, er, hv, k⟩ => by
    obtain ⟨x, s1, h1, hv⟩ := bnd_eq hv
    split at hv
    · rename_i ht
      obtain ⟨xs, s2, h2, hv⟩ := bnd_eq hv
      refine ⟨μ, st, σ, x, s1, gd, er, h1, fun μ1 H1 v g1 d1 r1 => ⟨ty_of d1 r1 ht, ?_⟩⟩
      refine ⟨μ1, s1, σ, xs, s2, d1, er.m g1, h2, fun μ2 H2 vs g2 d2 r2 => ?_⟩
      exact h H2 μ2 s2 x xs v vs d st' Q d2 (r1.m g2) r2 hv fun μ3 H3 v3 g3 d3 r3 => k μ3 H3 v3 ((g1.trans g2).trans g3) d3 r3
    · cases hv
theorem se_bm0 {o : Expr} {name : Str} {apos cpos : Pos} {T id : String} {r : V → List V → Hp → VK → Prop} {op : OpM} {f : SE}
    (pa : PlainAttrs T) (slot : Slot T name id) (hty : typeOf (.builtin id) = pure (.type "method_descriptor")) (hm : MtR X id r) (h : OkM X.K X.w r op) (ho : PE X o (rdE X.K X.w f))
    (hbase : attributeBase o name X.env (eval o X.env) = eval o X.env := by rfl) (hline : (apos.endLine == cpos.line) = true := by rfl) :
    PE X (.Call (.Attribute o name apos) [] [] cpos) (rdE X.K X.w (bm0F T op f)) :=
  (pe_bm0 pa slot hty hm ho hbase hline).weak fun τ H Q ⟨μ, st, σ, d, st', gd, er, hv, k⟩ => by
    obtain ⟨x, s1, h1, hv⟩ := bnd_eq hv
    split at hv
    · rename_i ht
      refine ⟨μ, st, σ, x, s1, gd, er, h1, fun μ1 H1 v g1 d1 r1 => ⟨ty_of d1 r1 ht, ?_⟩⟩
      exact h H1 μ1 s1 x [] v [] d st' Q d1 r1 reps_nil hv fun μ3 H3 v3 g3 d3 r3 => k μ3 H3 v3 (g1.trans g3) d3 r3
    · cases hv
/-! ### slices -/
abbrev SO := Sl → Sto → Option (Option Int × Sto)
def noneO : SO := fun _ st => some (none, st)
def someO (f : SE) : SO := fun σ st => bnd (f σ st) fun x st1 => match x with
  | .int i => some (some i, st1)
  | _ => none
def rdO (K : PySem.W.Frag) (ww : World) (f : SO) : TO := fun τ H Q => ∃ μ st σ o st', Gd K ww H μ st ∧ EnvR K H μ σ τ ∧ f σ st = some (o, st') ∧ ∀ μ' H', Gr H μ H' μ' → Gd K ww H' μ' st' → Q o H'
theorem _root_.L2.PO.weak {X : Cx} {e : Option Expr} {t u : TO} (h : PO X e t) (w : ∀ τ H Q, u τ H Q → t τ H Q) : PO X e u := ⟨fun pins s σ H Q I q => h.run pins s σ H Q I (w σ H Q q)⟩
theorem so_none : PO X none (rdO K ww noneO) := po_none.weak fun τ H Q ⟨μ, st, σ, o, st', gd, er, hv, k⟩ => by
  cases hv
  exact k μ H (Gr.refl H μ) gd
theorem so_some {e : Expr} {f : SE} (h : PE X e (rdE K ww f)) : PO X (some e) (rdO K ww (someO f)) := (po_some h).weak fun τ H Q ⟨μ, st, σ, o, st', gd, er, hv, k⟩ => by
  obtain ⟨x, s1, h1, hv⟩ := bnd_eq hv
  split at hv
  · rename_i i
    cases hv
    refine ⟨μ, st, σ, _, _, gd, er, h1, fun μ1 H1 v g1 d1 r1 => ?_⟩
    simp only [Rep] at r1
    exact ⟨i, r1, k μ1 H1 g1 d1⟩
  · cases hv
abbrev OpS := D → Option Int → Option Int → Sto → Option (D × Sto)
def OkS (K : PySem.W.Frag) (ww : World) (r : V → Option Int → Option Int → Hp → VK → Prop) (o : OpS) : Prop := ∀ H μ st x vx lo hi d st' (Q : VK), Gd K ww H μ st → Rep K H μ x vx → o x lo hi st = some (d, st') →
  (∀ μ' H' v, Gr H μ H' μ' → Gd K ww H' μ' st' → Rep K H' μ' d v → Q v H') → r vx lo hi H Q
def slF (o : OpS) (f : SE) (lo hi : SO) : SE := fun σ st => bnd (f σ st) fun x s1 => bnd (lo σ s1) fun l s2 => bnd (hi σ s2) fun h s3 => o x l h s3
theorem se_slice {e : Expr} {lo hi : Option Expr} {p2 pos : Pos} {r : V → Option Int → Option Int → Hp → VK → Prop} {op : OpS} {f : SE} {l h : SO} (hr : SlR X r) (ok : OkS K ww r op) (he : PE X e (rdE K ww f)) (hl : PO X lo (rdO K ww l)) (hh : PO X hi (rdO K ww h)) :
    PE X (.Subscript e (.Slice lo hi none p2) pos) (rdE K ww (slF op f l h)) := (pe_slice hr he hl hh).weak fun τ H Q ⟨μ, st, σ, d, st', gd, er, hv, k⟩ => by
  obtain ⟨x, s1, h1, hv⟩ := bnd_eq hv
  obtain ⟨a, s2, h2, hv⟩ := bnd_eq hv
  obtain ⟨b, s3, h3, hv⟩ := bnd_eq hv
  refine ⟨μ, st, σ, x, s1, gd, er, h1, fun μ1 H1 v g1 d1 r1 => ?_⟩
  refine ⟨μ1, s1, σ, a, s2, d1, er.m g1, h2, fun μ2 H2 g2 d2 => ?_⟩
  refine ⟨μ2, s2, σ, b, s3, d2, er.m (g1.trans g2), h3, fun μ3 H3 g3 d3 => ?_⟩
  exact ok H3 μ3 s3 x v a b d st' Q d3 (r1.m (g2.trans g3)) hv fun μ4 H4 v4 g4 d4 r4 => k μ4 H4 v4 (((g1.trans g2).trans g3).trans g4) d4 r4

/-! ### statements -/
def nxS : SS := fun σ st => some (.nx σ, st)
def seqS (f g : SS) : SS := fun σ st => match f σ st with
  | some (.nx σ', st1) => g σ' st1
  | r => r
theorem ss_nil : PSs X [] (rdS K ww nxS) := pss_nil.weak fun Dn τ H ⟨μ, st, σ, r, st', gd, er, hv, k⟩ => by
  cases hv
  exact k μ H (Gr.refl H μ) gd τ er
theorem ss_one {s : Stmt} {f : SS} (h : PS X s (rdS K ww f)) : PSs X [s] (rdS K ww f) := pss_one h
theorem ss_cons {s : Stmt} {rest : List Stmt} {f g : SS} (h : PS X s (rdS K ww f)) (h2 : PSs X rest (rdS K ww g)) : PSs X (s :: rest) (rdS K ww (seqS f g)) := (pss_cons h h2).weak fun Dn τ H ⟨μ, st, σ, r, st', gd, er, hv, k⟩ => by
  unfold seqS at hv
  cases e : f σ st with
  | none => rw [e] at hv; cases hv
  | some p =>
    obtain ⟨r1, s1⟩ := p
    rw [e] at hv
    cases r1 with
    | nx σ1 =>
      refine ⟨μ, st, σ, _, s1, gd, er, e, fun μ1 H1 g1 d1 τ1 e1 => ?_⟩
      exact ⟨μ1, s1, σ1, r, st', d1, e1, hv, k.m g1⟩
    | brk σ1 =>
      cases hv
      exact ⟨μ, st, σ, _, _, gd, er, e, k⟩
    | cnt σ1 =>
      cases hv
      exact ⟨μ, st, σ, _, _, gd, er, e, k⟩
    | ret d =>
      cases hv
      exact ⟨μ, st, σ, _, _, gd, er, e, k⟩
theorem ss_pass {pos : Pos} : PS X (.Pass pos) (rdS K ww nxS) := ps_pass.weak fun Dn τ H ⟨μ, st, σ, r, st', gd, er, hv, k⟩ => by
  cases hv
  exact k μ H (Gr.refl H μ) gd τ er
def brkS : SS := fun σ st => some (.brk σ, st)
def cntS : SS := fun σ st => some (.cnt σ, st)
def retNS : SS := fun _ st => some (.ret .non, st)
def neverS : SS := fun _ _ => none
theorem ss_break {pos : Pos} : PS X (.Break pos) (rdS K ww brkS) := ps_break.weak fun Dn τ H ⟨μ, st, σ, r, st', gd, er, hv, k⟩ => by
  cases hv
  exact k μ H (Gr.refl H μ) gd τ er
theorem ss_continue {pos : Pos} : PS X (.Continue pos) (rdS K ww cntS) := ps_continue.weak fun Dn τ H ⟨μ, st, σ, r, st', gd, er, hv, k⟩ => by
  cases hv
  exact k μ H (Gr.refl H μ) gd τ er
theorem ss_retN {pos : Pos} : PS X (.Return none pos) (rdS K ww retNS) := ps_retN.weak fun Dn τ H ⟨μ, st, σ, r, st', gd, er, hv, k⟩ => by
  cases hv
  exact k μ H (Gr.refl H μ) gd .non (by simp only [Rep])
theorem ss_never {s : Stmt} : PS X s (rdS K ww neverS) := ps_never.weak fun Dn τ H ⟨μ, st, σ, r, st', gd, er, hv, k⟩ => by cases hv
def exS (f : SE) : SS := fun σ st => bnd (f σ st) fun _ st1 => some (.nx σ, st1)
theorem ss_expr {e : Expr} {f : SE} {pos : Pos} (he : PE X e (rdE K ww f)) (hs : swapsWith e none pos.line X.env = pure false := by rfl) : PS X (.Expr e pos) (rdS K ww (exS f)) := (ps_expr he hs).weak fun Dn τ H ⟨μ, st, σ, r, st', gd, er, hv, k⟩ => by
  obtain ⟨x, s1, h1, hv⟩ := bnd_eq hv
  cases hv
  exact ⟨μ, st, σ, x, _, gd, er, h1, fun μ1 H1 v g1 d1 r1 => k μ1 H1 g1 d1 τ (er.m g1)⟩
def retS (f : SE) : SS := fun σ st => bnd (f σ st) fun d st1 => some (.ret d, st1)
theorem ss_ret {e : Expr} {f : SE} {pos : Pos} (he : PE X e (rdE K ww f)) : PS X (.Return (some e) pos) (rdS K ww (retS f)) := (ps_ret he).weak fun Dn τ H ⟨μ, st, σ, r, st', gd, er, hv, k⟩ => by
  obtain ⟨x, s1, h1, hv⟩ := bnd_eq hv
  cases hv
  exact ⟨μ, st, σ, x, _, gd, er, h1, fun μ1 H1 v g1 d1 r1 => k μ1 H1 g1 d1 v r1⟩
def ifS (c : ST) (f g : SS) : SS := fun σ st => bnd (c σ st) fun b st1 => if b = true then f σ st1 else g σ st1
theorem ss_if {c : Expr} {a b : List Stmt} {t : ST} {f g : SS} {pos : Pos} (hc : PT X c (rdT K ww t)) (ha : PSs X a (rdS K ww f)) (hb : PSs X b (rdS K ww g)) : PS X (.If c a b pos) (rdS K ww (ifS t f g)) := (ps_if hc ha hb).weak fun Dn τ H ⟨μ, st, σ, r, st', gd, er, hv, k⟩ => by
  obtain ⟨y, s1, h1, hv⟩ := bnd_eq hv
  refine ⟨μ, st, σ, y, s1, gd, er, h1, fun μ1 H1 g1 d1 => ?_⟩
  cases y with
  | true => exact ⟨μ1, s1, σ, r, st', d1, er.m g1, hv, k.m g1⟩
  | false => exact ⟨μ1, s1, σ, r, st', d1, er.m g1, hv, k.m g1⟩

/-! ### targets -/
abbrev Tg := D → Sl → Option Sl
def nmG (i : Nat) : Tg := fun d σ => some (σ.set i (some d))
def nmsG : List Nat → List D → Sl → Option Sl
  | [], [], σ => some σ
  | i :: is, d :: ds, σ => nmsG is ds (σ.set i (some d))
  | _, _, _ => none
def tupG (is : List Nat) : Tg := fun d σ => match d with
  | .tup ds => nmsG is ds σ
  | _ => none
def OkG (K : PySem.W.Frag) (gg : TG) (g : Tg) : Prop := ∀ H μ σ τ d v σ1 (Q : L2.St → Hp → Prop), EnvR K H μ σ τ → Rep K H μ d v → g d σ = some σ1 → (∀ τ1, EnvR K H μ σ1 τ1 → Q τ1 H) → gg v τ H Q
def OkGs (K : PySem.W.Frag) (gg : TGs) (is : List Nat) : Prop := ∀ H μ σ τ ds vs σ1 (Q : L2.St → Hp → Prop), EnvR K H μ σ τ → Reps K H μ ds vs → nmsG is ds σ = some σ1 → (∀ τ1, EnvR K H μ σ1 τ1 → Q τ1 H) → gg vs τ H Q
theorem ok_name {i : Nat} : OkG K (gName i) (nmG i) := fun H μ σ τ d v σ1 Q er r e k => by
  cases e
  exact k _ (er.set i r)
theorem ok_gnil : OkGs K gNil [] := fun H μ σ τ ds vs σ1 Q er r e k => by
  cases ds with
  | nil =>
    cases e
    simp only [Reps] at r
    exact ⟨r, k τ er⟩
  | cons _ _ => cases e
theorem ok_gcons {i : Nat} {is : List Nat} {u : TGs} (h : OkGs K u is) : OkGs K (gCons (gName i) u) (i :: is) := fun H μ σ τ ds vs σ1 Q er r e k => by
  cases ds with
  | nil => cases e
  | cons d ds =>
    simp only [Reps] at r
    obtain ⟨v, ws, rfl, r1, r2⟩ := r
    exact ⟨v, ws, rfl, h H μ _ _ ds ws σ1 Q (er.set i r1) r2 e k⟩
theorem nms_len : ∀ {is : List Nat} {ds : List D} {σ σ1 : Sl}, nmsG is ds σ = some σ1 → ds.length = is.length
  | [], [], _, _, _ => rfl
  | i :: is, d :: ds, σ, σ1, h => by rw [List.length_cons, List.length_cons, nms_len (is := is) (ds := ds) h]
  | [], _ :: _, _, _, h => by cases h
  | _ :: _, [], _, _, h => by cases h
theorem ok_tup {is : List Nat} {n : Nat} {u : TGs} (h : OkGs K u is) (hn : is.length = n) : OkG K (gTup K n u) (tupG is) := fun H μ σ τ d v σ1 Q er r e k => by
  cases d with
  | tup ds =>
    simp only [Rep] at r
    obtain ⟨p, vs, rfl, ⟨s, _⟩, rs⟩ := r
    exact ⟨p, vs, rfl, s, by rw [← rs.len, nms_len e, hn], h H μ σ τ ds vs σ1 Q er rs e k⟩
  | non => cases e
  | bl _ => cases e
  | int _ => cases e
  | str _ => cases e
  | loc _ => cases e
def asgS (g : Tg) (f : SE) : SS := fun σ st => bnd (f σ st) fun d st1 => (g d σ).map fun σ1 => (.nx σ1, st1)
theorem rd_asg {g : Tg} {gg : TG} {f : SE} (hg : OkG K gg g) : ∀ Dn τ H, rdS K ww (asgS g f) Dn τ H → tAsg (rdE K ww f) gg Dn τ H := fun Dn τ H ⟨μ, st, σ, r, st', gd, er, hv, k⟩ => by
  obtain ⟨x, s1, h1, hv⟩ := bnd_eq hv
  cases e : g x σ with
  | none => rw [e] at hv; cases hv
  | some σ1 =>
    rw [e] at hv
    cases hv
    exact ⟨μ, st, σ, x, _, gd, er, h1, fun μ1 H1 v g1 d1 r1 => hg H1 μ1 σ τ x v σ1 _ (er.m g1) r1 e fun τ1 e1 => k μ1 H1 g1 d1 τ1 e1⟩
theorem ss_set {i : Nat} {x : Str} {e : Expr} {f : SE} {pos pos' : Pos} (hN : X.N.Nodup) (hi : X.N[i]? = some x) (hx : Loc X.env.scope x) (he : PE X e (rdE K ww f)) (hs : swapsWith e (some (.Name x pos')) pos.line X.env = pure false := by rfl) (hf : X.fn x = true ∨ X.env.scope.names.lookup x = some .local := by first | exact .inl rfl | exact .inr rfl | assumption) :
    PS X (.Assign [.Name x pos'] e pos) (rdS K ww (asgS (nmG i) f)) := (ps_set hN hi hx he hs hf).weak (rd_asg ok_name)
theorem ss_asg {tg e : Expr} {gg : TG} {g : Tg} {f : SE} {pos : Pos} (he : PE X e (rdE K ww f)) (hg : PG X tg gg) (ok : OkG K gg g) (hs : swapsWithSole [tg] e pos.line X.env = pure false := by rfl) (hw : swappedStores [tg] e X.env = pure none := by rfl)
    (ha : List.map (fun x => x.2) (assignEach [tg] X.env) = [assign tg X.env] := by rfl) : PS X (.Assign [tg] e pos) (rdS K ww (asgS g f)) := (ps_asg he hg hs hw ha).weak (rd_asg ok)
/-- o[i] = e, o a list -/
def setS (fo fi f : SE) : SS := fun σ st => bnd (f σ st) fun d s1 => bnd (fo σ s1) fun o s2 => bnd (fi σ s2) fun i s3 => match o, i with
  | .loc n, .int k => (getM s3 n).bind fun xs => (ixN xs.length k).map fun j => (.nx σ, s3.set n (.lst (xs.set j d)))
  | _, _ => none
theorem ss_setIx {o i e : Expr} {f fo fi : SE} {pos p1 : Pos} (he : PE X e (rdE K ww f)) (ho : PE X o (rdE K ww fo)) (hi : PE X i (rdE K ww fi)) (hs : swapsWithSole [.Subscript o i p1] e pos.line X.env = pure false := by rfl) (hw : swappedStores [.Subscript o i p1] e X.env = pure none := by rfl)
    (ha : List.map (fun x => x.2) (assignEach [.Subscript o i p1] X.env) = [assign (.Subscript o i p1) X.env] := by rfl) (hpg : PG X (.Subscript o i p1) (gSub (rdE K ww fo) (rdE K ww fi) rSetL)) : PS X (.Assign [.Subscript o i p1] e pos) (rdS K ww (setS fo fi f)) := (ps_asg he hpg hs hw ha).weak fun Dn τ H ⟨μ, st, σ, r, st', gd, er, hv, k⟩ => by
  obtain ⟨x, s1, h1, hv⟩ := bnd_eq hv
  obtain ⟨y, s2, h2, hv⟩ := bnd_eq hv
  obtain ⟨z, s3, h3, hv⟩ := bnd_eq hv
  refine ⟨μ, st, σ, x, s1, gd, er, h1, fun μ1 H1 v g1 d1 r1 => ?_⟩
  refine ⟨μ1, s1, σ, y, s2, d1, er.m g1, h2, fun μ2 H2 vo g2 d2 r2 => ?_⟩
  refine ⟨μ2, s2, σ, z, s3, d2, er.m (g1.trans g2), h3, fun μ3 H3 vi g3 d3 r3 => ?_⟩
  cases y with
  | loc n =>
    cases z with
    | int kk =>
      cases e1 : getM s3 n with
      | none => simp only [e1, Option.bind_none] at hv; cases hv
      | some xs =>
        simp only [e1, Option.bind_some] at hv
        cases e2 : ixN xs.length kk with
        | none => rw [e2] at hv; cases hv
        | some j =>
          rw [e2] at hv
          cases hv
          have r2' := r2.m g3
          simp only [Rep] at r2' r3
          obtain ⟨p, rfl, hp⟩ := r2'
          obtain ⟨vs, hH, rs⟩ := d3.getM hp e1
          have gw : Gr H3 μ3 (upd H3 p (.lst (vs.set j v))) μ3 := gr_write hH
          exact ⟨p, vs, kk, j, rfl, r3, hH, by rw [← rs.len]; exact e2, k μ3 _ (((g1.trans g2).trans g3).trans gw) (d3.write hp (getM_get e1) hH (rs.set (r1.m (g2.trans g3)))) τ (er.m (((g1.trans g2).trans g3).trans gw))⟩
    | _ => cases hv
  | _ => cases hv
def augS (i : Nat) (o : Op2) (f : SE) : SS := fun σ st => match σ[i]? with
  | some (some x) => bnd (f σ st) fun y s1 => bnd (o x y s1) fun z s2 => some (.nx (σ.set i (some z)), s2)
  | _ => none
theorem ss_aug {i : Nat} {x : Str} {e : Expr} {f : SE} {op : Operator} {ti : TIp} {o : Op2} {pos pos' : Pos} (hN : X.N.Nodup) (hi : X.N[i]? = some x) (hx : Loc X.env.scope x) (he : PE X e (rdE K ww f)) (ho : PIp X op ti) (ok : Ok2 K ww ti o) (hf : X.fn x = true ∨ X.env.scope.names.lookup x = some .local := by first | exact .inl rfl | exact .inr rfl | assumption) :
    PS X (.AugAssign (.Name x pos') op e pos) (rdS K ww (augS i o f)) := (ps_aug hN hi hx he ho hf).weak fun Dn τ H ⟨μ, st, σ, r, st', gd, er, hv, k⟩ => by
  unfold augS at hv
  split at hv
  · rename_i d e1
    obtain ⟨y, s1, h1, hv⟩ := bnd_eq hv
    obtain ⟨z, s2, h2, hv⟩ := bnd_eq hv
    cases hv
    obtain ⟨v, hv1, r1⟩ := er.2 i d e1
    refine ⟨v, hv1, μ, st, σ, y, s1, gd, er, h1, fun μ1 H1 w g1 d1 r2 => ?_⟩
    exact ok H1 μ1 s1 d y v w z _ _ d1 (r1.m g1) r2 h2 fun μ3 H3 v3 g3 d3 r3 => k μ3 H3 (g1.trans g3) d3 _ ((er.m (g1.trans g3)).set i r3)
  · cases hv
end
end Iv

namespace Iv
open PySem L2
section
variable {X : Cx} {K : PySem.W.Frag} {ww : World}
/-! ### while -/
def whlV (c : ST) (b : SS) : Nat → Sl → Sto → Option (R × Sto)
  | 0, _, _ => none
  | m + 1, σ, st => bnd (c σ st) fun t s1 => if t = true then (match b σ s1 with
      | some (.nx σ2, s2) => whlV c b m σ2 s2
      | some (.cnt σ2, s2) => whlV c b m σ2 s2
      | some (.brk σ2, s2) => some (.nx σ2, s2)
      | some (.ret d, s2) => some (.ret d, s2)
      | none => none) else some (.nx σ, s1)
def whlS (n : Nat) (c : ST) (b : SS) : SS := fun σ st => whlV c b n σ st
theorem ss_while {n : Nat} {c : Expr} {body : List Stmt} {t : ST} {b : SS} {pos : Pos} (hp : PassesOwn (model X.prog X.w) X.A X.env X.xe) (hc : PT X c (rdT K ww t)) (hb : PSs X body (rdS K ww b)) : PS X (.While c body [] pos) (rdS K ww (whlS n t b)) :=
  (ps_while hp hc hb).weak fun Dn τ H ⟨μ, st, σ, r, st', gd, er, hv, k⟩ => by
    refine ⟨fun m τ1 H1 => ∃ μ1 s1 σ1, Gd K ww H1 μ1 s1 ∧ EnvR K H1 μ1 σ1 τ1 ∧ whlV t b m σ1 s1 = some (r, st') ∧ Fin K ww H1 μ1 st' Dn r, ⟨n, μ, st, σ, gd, er, hv, k⟩, ?_⟩
    rintro m τ1 H1 ⟨μ1, s1, σ1, d1, e1, hv1, k1⟩
    cases m with
    | zero => cases hv1
    | succ m =>
      unfold whlV at hv1
      obtain ⟨y, s2, h2, hv1⟩ := bnd_eq hv1
      refine ⟨μ1, s1, σ1, y, s2, d1, e1, h2, fun μ2 H2 g2 d2 => ?_⟩
      cases y with
      | false =>
        cases hv1
        exact k1 μ2 H2 g2 d2 τ1 (e1.m g2)
      | true =>
        rw [if_pos rfl] at hv1 ⊢
        refine ⟨fun τ3 H3 => ∃ μ3 s3 σ3, Gd K ww H3 μ3 s3 ∧ EnvR K H3 μ3 σ3 τ3 ∧ whlV t b m σ3 s3 = some (r, st') ∧ Fin K ww H3 μ3 st' Dn r, fun τ3 H3 q => ⟨m, Nat.lt_succ_self m, q⟩, ?_⟩
        cases eb : b σ1 s2 with
        | none => rw [eb] at hv1; cases hv1
        | some p =>
          obtain ⟨r3, s3⟩ := p
          rw [eb] at hv1
          refine ⟨μ2, s2, σ1, r3, s3, d2, e1.m g2, eb, fun μ4 H4 g4 d4 => ?_⟩
          cases r3 with
          | nx σ3 => exact fun τ4 e4 => ⟨μ4, s3, σ3, d4, e4, hv1, k1.m (g2.trans g4)⟩
          | cnt σ3 => exact fun τ4 e4 => ⟨μ4, s3, σ3, d4, e4, hv1, k1.m (g2.trans g4)⟩
          | brk σ3 =>
            cases hv1
            exact fun τ4 e4 => k1 μ4 H4 (g2.trans g4) d4 τ4 e4
          | ret d =>
            cases hv1
            exact fun v rv => k1 μ4 H4 (g2.trans g4) d4 v rv

/-! ### what a loop walks -/
def enumD : Nat → List D → List D
  | _, [] => []
  | i, d :: ds => .tup [.int (i : Int), d] :: enumD (i + 1) ds
def zipD : List D → List D → List D
  | x :: xs, y :: ys => .tup [x, y] :: zipD xs ys
  | _, _ => []
theorem zipD_len : ∀ xs ys : List D, (zipD xs ys).length = min xs.length ys.length
  | [], _ => by simp [zipD]
  | _ :: _, [] => by simp [zipD]
  | x :: xs, y :: ys => by simp only [zipD, List.length_cons, zipD_len xs ys]; omega
theorem zipD_get : ∀ (xs ys : List D) (i : Nat), (zipD xs ys)[i]? = (match xs[i]?, ys[i]? with
    | some x, some y => some (.tup [x, y])
    | _, _ => none)
  | [], ys, i => by simp [zipD]
  | _ :: _, [], i => by
    simp only [zipD, List.getElem?_nil]
    split <;> rename_i h <;> simp_all
  | x :: xs, y :: ys, 0 => by simp [zipD]
  | x :: xs, y :: ys, i + 1 => by simp only [zipD, List.getElem?_cons_succ]; exact zipD_get xs ys i
/-- a pair that is not of texts alone -/
def notTx : D → Bool
  | .tup ps => !nst ps
  | _ => true
inductive It where
  | cns (xs : List D) | lst (n : Nat) | enm (n : Nat) | zip (n m : Nat)
def items : It → Sto → Option (List D)
  | .cns xs, _ => some xs
  | .lst n, st => getL st n
  | .enm n, st => (getL st n).map (enumD 0)
  | .zip n m, st => match getL st n, getL st m with
    | some xs, some ys => if (zipD xs ys).all notTx = true then some (zipD xs ys) else none
    | _, _ => none
abbrev SJ := Sl → Sto → Option (It × Sto)
def ItR (K : PySem.W.Frag) (ww : World) (H : Hp) (μ : List Addr) (J : It) (J' : L2.It) : Prop := ∀ μ2 H2 st2 xs, Gr H μ H2 μ2 → Gd K ww H2 μ2 st2 → items J st2 = some xs →
  (∀ i, xs.length ≤ i → J'.stop i H2) ∧ ∀ (i : Nat) (d : D), xs[i]? = some d → J'.go i H2 ∧ ∀ x H3, J'.yld i H2 x H3 → Same H2 H3 ∧ Rep K H3 μ2 d x
def rdI (K : PySem.W.Frag) (ww : World) (f : SJ) : TI := fun τ H R => ∃ μ st σ J st', Gd K ww H μ st ∧ EnvR K H μ σ τ ∧ f σ st = some (J, st') ∧ ∀ μ' H' J', Gr H μ H' μ' → Gd K ww H' μ' st' → ItR K ww H' μ' J J' → R J' H'
def charsD (x : Str) : List D := x.cps.toList.map fun c => .str ⟨#[c]⟩
def anyI (f : SE) : SJ := fun σ st => bnd (f σ st) fun d s1 => match d with
  | .loc n => (getL s1 n).map fun _ => (.lst n, s1)
  | .tup xs => some (.cns xs, s1)
  | .str x => some (.cns (charsD x), s1)
  | _ => none
theorem sql_inj {H : Hp} {p : Addr} {xs ys : List V} {h1 : Prop} (_ : h1) (a : SqL K H p xs) (b : SqL K H p ys) (inj : ∀ {a b}, SqL K H p a → SqL K H p b → a = b) : xs = ys := inj a b
theorem si_any {tg e : Expr} {f : SE} (h : PE X e (rdE X.K X.w f)) : PI X tg e (rdI X.K X.w (anyI f)) := ⟨fun pins s τ H R I hw => by
  obtain ⟨μ, st, σ, J, st', gd, er, hv, k⟩ := hw
  obtain ⟨d, s1, h1, hv⟩ := bnd_eq hv
  cases d with
  | loc n =>
    cases e1 : getL s1 n with
    | none => simp only [e1, Option.map_none] at hv; cases hv
    | some xs =>
      simp only [e1, Option.map_some] at hv
      cases hv
      refine (pi_list h).run pins s τ H R I ⟨μ, st, σ, _, _, gd, er, h1, fun μ1 H1 v g1 d1 r1 => ?_⟩
      simp only [Rep] at r1
      obtain ⟨p, rfl, hp⟩ := r1
      obtain ⟨vs, hs, rs⟩ := d1.getL hp e1
      refine ⟨p, rfl, ⟨vs, hs⟩, k μ1 H1 _ g1 d1 fun μ2 H2 st2 ys g2 d2 e2 => ?_⟩
      obtain ⟨ws, hs2, rs2⟩ := d2.getL (g2.get hp) e2
      refine ⟨fun i hi => ⟨ws, hs2, by rw [← rs2.len]; exact hi⟩, fun i d hd => ?_⟩
      obtain ⟨v, hv1, rv⟩ := rs2.get hd
      exact ⟨⟨ws, v, hs2, hv1⟩, fun x H3 ⟨e3, y⟩ => by
        subst e3
        have e4 := y ws hs2
        rw [hv1] at e4
        cases e4
        exact ⟨Same.refl _, rv⟩⟩
  | tup xs =>
    cases hv
    refine (pi_tup h).run pins s τ H R I ⟨μ, st, σ, _, _, gd, er, h1, fun μ1 H1 v g1 d1 r1 => ?_⟩
    have r1' := r1
    simp only [Rep] at r1
    obtain ⟨p, vs, rfl, ⟨hs, _⟩, rs⟩ := r1
    refine ⟨p, rfl, ⟨vs, hs⟩, k μ1 H1 _ g1 d1 fun μ2 H2 st2 ys g2 d2 e2 => ?_⟩
    cases e2
    have hs2 := g2.1.sqT hs
    have rs2 := rs.m g2
    refine ⟨fun i hi => ⟨vs, hs2, by rw [← rs2.len]; exact hi⟩, fun i d hd => ?_⟩
    obtain ⟨v, hv1, rv⟩ := rs2.get hd
    exact ⟨⟨vs, v, hs2, hv1⟩, fun x H3 ⟨e3, y⟩ => by
      subst e3
      have e4 := y vs hs2
      rw [hv1] at e4
      cases e4
      exact ⟨Same.refl _, rv⟩⟩
  | str x =>
    cases hv
    refine (pi_str h).run pins s τ H R I ⟨μ, st, σ, _, _, gd, er, h1, fun μ1 H1 v g1 d1 r1 => ?_⟩
    simp only [Rep] at r1
    refine ⟨x, r1, k μ1 H1 _ g1 d1 fun μ2 H2 st2 ys g2 d2 e2 => ?_⟩
    cases e2
    refine ⟨fun i hi => (show x.cps.size ≤ i by simpa [charsD] using hi), fun i d hd => ?_⟩
    unfold charsD at hd
    rw [List.getElem?_map] at hd
    cases e5 : x.cps.toList[i]? with
    | none => rw [e5] at hd; cases hd
    | some c =>
      rw [e5] at hd
      cases hd
      have e6 : x.cps[i]? = some c := by simpa using e5
      refine ⟨(Array.getElem?_eq_some_iff.mp e6).1, fun z H3 ⟨e3, c', e7, e8⟩ => ?_⟩
      subst e3
      rw [e6] at e7
      cases e7
      exact ⟨Same.refl _, by simp only [Rep]; exact e8⟩
  | non => cases hv
  | bl _ => cases hv
  | int _ => cases hv⟩
def rngD (lo : Int) : Nat → List D
  | n => (List.range n).map fun i => .int (lo + (i : Nat))
def rngI1 (f : SA) : SJ := fun σ st => bnd (f σ st) fun ds s1 => match ds with
  | [.int j] => if -(2 ^ 62) ≤ j ∧ j < 2 ^ 62 then some (.cns (rngD 0 j.toNat), s1) else none
  | _ => none
def rngI2 (f : SA) : SJ := fun σ st => bnd (f σ st) fun ds s1 => match ds with
  | [.int i, .int j] => if -(2 ^ 62) ≤ i ∧ i < 2 ^ 62 ∧ -(2 ^ 62) ≤ j ∧ j < 2 ^ 62 then some (.cns (rngD i (j - i).toNat), s1) else none
  | _ => none
theorem itr_rng {H : Hp} {μ : List Addr} {lo : Int} {n : Nat} : ItR K ww H μ (.cns (rngD lo n)) (Itr lo n) := fun μ2 H2 st2 xs g2 d2 e2 => by
  cases e2
  refine ⟨fun i hi => (show n ≤ i by simpa [rngD] using hi), fun i d hd => ?_⟩
  unfold rngD at hd
  rw [List.getElem?_map] at hd
  by_cases hi : i < n
  · rw [List.getElem?_range hi] at hd
    cases hd
    exact ⟨hi, fun x H3 ⟨e3, e4⟩ => by subst e3; exact ⟨Same.refl _, by simp only [Rep]; exact e4⟩⟩
  · rw [List.getElem?_eq_none (by simpa using hi)] at hd
    cases hd
theorem reps1 {H : Hp} {μ : List Addr} {d : D} {vs : List V} (h : Reps K H μ [d] vs) : ∃ v, vs = [v] ∧ Rep K H μ d v := by
  simp only [Reps] at h
  obtain ⟨v, ws, rfl, r, rfl⟩ := h
  exact ⟨v, rfl, r⟩
theorem reps2 {H : Hp} {μ : List Addr} {d e : D} {vs : List V} (h : Reps K H μ [d, e] vs) : ∃ v w, vs = [v, w] ∧ Rep K H μ d v ∧ Rep K H μ e w := by
  simp only [Reps] at h
  obtain ⟨v, ws, rfl, r, w, us, rfl, r2, rfl⟩ := h
  exact ⟨v, w, rfl, r, r2⟩
theorem si_rng1 {tg a : Expr} {f : SA} {p pos : Pos} (hg : Gl X "range") (hm : X.mg "range" = none) (ha : PA X [a] (rdA K ww f)) (hs : starEach [a] X.env = [(false, eval a X.env)] := by rfl) : PI X tg (.Call (.Name "range" p) [a] [] pos) (rdI K ww (rngI1 f)) := ⟨fun pins s τ H R I hw => by
  obtain ⟨μ, st, σ, J, st', gd, er, hv, k⟩ := hw
  obtain ⟨ds, s1, h1, hv⟩ := bnd_eq hv
  split at hv
  · split at hv
    · rename_i j hj
      cases hv
      refine (pi_range1 hg hm ha hs).run pins s τ H R I ⟨μ, st, σ, _, _, gd, er, h1, fun μ1 H1 vs g1 d1 r1 => ?_⟩
      obtain ⟨v, rfl, rv⟩ := reps1 r1
      simp only [Rep] at rv
      subst rv
      exact ⟨_, rfl, hj.1, hj.2, k μ1 H1 _ g1 d1 itr_rng⟩
    · cases hv
  · cases hv⟩
theorem si_rng2 {tg a b : Expr} {f : SA} {p pos : Pos} (hg : Gl X "range") (hm : X.mg "range" = none) (ha : PA X [a, b] (rdA K ww f)) (hs : starEach [a, b] X.env = [(false, eval a X.env), (false, eval b X.env)] := by rfl) (hs2 : starEach [b] X.env = [(false, eval b X.env)] := by rfl) : PI X tg (.Call (.Name "range" p) [a, b] [] pos) (rdI K ww (rngI2 f)) := ⟨fun pins s τ H R I hw => by
  obtain ⟨μ, st, σ, J, st', gd, er, hv, k⟩ := hw
  obtain ⟨ds, s1, h1, hv⟩ := bnd_eq hv
  split at hv
  · split at hv
    · rename_i i j hj
      cases hv
      refine (pi_range2 hg hm ha hs hs2).run pins s τ H R I ⟨μ, st, σ, _, _, gd, er, h1, fun μ1 H1 vs g1 d1 r1 => ?_⟩
      obtain ⟨v, w, rfl, rv, rw'⟩ := reps2 r1
      simp only [Rep] at rv rw'
      subst rv rw'
      exact ⟨_, _, rfl, hj, k μ1 H1 _ g1 d1 itr_rng⟩
    · cases hv
  · cases hv⟩
theorem enumD_get : ∀ (xs : List D) (k i : Nat), (enumD k xs)[i]? = xs[i]?.map fun d => .tup [.int ((k + i : Nat) : Int), d]
  | [], _, _ => by simp [enumD]
  | x :: xs, k, 0 => by simp [enumD]
  | x :: xs, k, i + 1 => by
    simp only [enumD, List.getElem?_cons_succ]
    rw [enumD_get xs (k + 1) i]
    congr 1
    funext d
    congr 4
    omega
theorem enumD_len : ∀ (xs : List D) (k : Nat), (enumD k xs).length = xs.length
  | [], _ => rfl
  | x :: xs, k => by simp only [enumD, List.length_cons, enumD_len xs (k + 1)]
def enmI (f : SA) : SJ := fun σ st => bnd (f σ st) fun ds s1 => match ds with
  | [.loc n] => (getL s1 n).map fun _ => (.enm n, s1)
  | _ => none
theorem si_enum {e : Expr} {f : SA} {p pos tpos : Pos} {elts : List Expr} {kk : Nat} (hg : Gl X "enumerate") (hm : X.mg "enumerate" = none) (ha : PA X [e] (rdA X.K X.w f)) (hs : starEach [e] X.env = [(false, eval e X.env)] := by rfl) :
    PI X (.Tuple elts kk tpos) (.Call (.Name "enumerate" p) [e] [] pos) (rdI X.K X.w (enmI f)) := ⟨fun pins s τ H R I hw => by
  obtain ⟨μ, st, σ, J, st', gd, er, hv, k⟩ := hw
  obtain ⟨ds, s1, h1, hv⟩ := bnd_eq hv
  split at hv
  · rename_i n
    cases e1 : getL s1 n with
    | none => rw [e1] at hv; cases hv
    | some xs =>
      rw [e1] at hv
      cases hv
      refine (pi_enum hg hm ha hs).run pins s τ H R I ⟨μ, st, σ, _, _, gd, er, h1, fun μ1 H1 vs g1 d1 r1 => ?_⟩
      obtain ⟨v, rfl, rv⟩ := reps1 r1
      simp only [Rep] at rv
      obtain ⟨p, rfl, hp⟩ := rv
      obtain ⟨ws, hs, rs⟩ := d1.getL hp e1
      refine ⟨p, ws, rfl, hs, k μ1 H1 _ g1 d1 fun μ2 H2 st2 ys g2 d2 e2 => ?_⟩
      simp only [items] at e2
      cases e3 : getL st2 n with
      | none => rw [e3] at e2; cases e2
      | some zs =>
        rw [e3] at e2
        cases e2
        obtain ⟨us, hs2, rs2⟩ := d2.getL (g2.get hp) e3
        refine ⟨fun i hi => ⟨us, hs2, by rw [← rs2.len, ← enumD_len zs 0]; exact hi⟩, fun i d hd => ?_⟩
        rw [enumD_get] at hd
        cases e4 : zs[i]? with
        | none => rw [e4] at hd; cases hd
        | some z =>
          rw [e4] at hd
          cases hd
          obtain ⟨v, hv1, rv⟩ := rs2.get e4
          refine ⟨⟨us, v, hs2, hv1⟩, fun x H3 ⟨T, y, e5, e6, e7, e8⟩ => ?_⟩
          subst e5 e7
          have e9 := e8 us hs2
          rw [hv1] at e9
          cases e9
          have gt : Gr H2 μ2 (upd H2 T (.tup [.int (i : Nat), v])) μ2 := gr_tup e6
          refine ⟨same_upd e6, rep_tup (.inl (.inl upd_same)) (fun z => by cases z) (reps_cons ?_ (reps_cons (rv.m gt) reps_nil))⟩
          simp only [Rep, Nat.zero_add]
  · cases hv⟩

/-! ### for -/
def forV (J : It) (g : Tg) (b : SS) : Nat → Nat → Sl → Sto → Option (R × Sto)
  | 0, _, _, _ => none
  | m + 1, i, σ, st => match items J st with
    | none => none
    | some xs => match xs[i]? with
      | none => some (.nx σ, st)
      | some d => match g d σ with
        | none => none
        | some σ1 => match b σ1 st with
          | some (.nx σ2, s2) => forV J g b m (i + 1) σ2 s2
          | some (.cnt σ2, s2) => forV J g b m (i + 1) σ2 s2
          | some (.brk σ2, s2) => some (.nx σ2, s2)
          | some (.ret d, s2) => some (.ret d, s2)
          | none => none
def forS (i : SJ) (g : Tg) (b : SS) : SS := fun σ st => bnd (i σ st) fun J s1 => match items J s1 with
  | none => none
  | some xs => forV J g b (xs.length + 1) 0 σ s1
theorem ss_for {tg iter : Expr} {body : List Stmt} {i : SJ} {gg : TG} {g : Tg} {b : SS} {pos : Pos} (hp : PassesOwn (model X.prog X.w) X.A X.env X.xe) (hc : X.calm = true) (hi : PI X tg iter (rdI K ww i)) (hg : PG X tg gg) (ok : OkG K gg g) (hb : PSs X body (rdS K ww b))
    (hs : ∀ x, foldedSetIterable iter X.env x = pure x := by intro _; rfl) : PS X (.For tg iter body [] pos) (rdS K ww (forS i g b)) :=
  (ps_for hp hc hi hg hb hs).weak fun Dn τ H ⟨μ, st, σ, r, st', gd, er, hv, k⟩ => by
    obtain ⟨J, s1, h1, hv⟩ := bnd_eq hv
    cases ei : items J s1 with
    | none => simp only [ei] at hv; cases hv
    | some xs =>
      simp only [ei] at hv
      refine ⟨μ, st, σ, J, s1, gd, er, h1, fun μ0 H0 J' g0 d0 iR => ?_⟩
      refine ⟨fun i m τ1 H1 => ∃ μ1 s1 σ1, Gr H0 μ0 H1 μ1 ∧ Gd K ww H1 μ1 s1 ∧ EnvR K H1 μ1 σ1 τ1 ∧ forV J g b m i σ1 s1 = some (r, st') ∧ Fin K ww H1 μ1 st' Dn r, ⟨_, μ0, s1, σ, Gr.refl _ _, d0, er.m g0, hv, k.m g0⟩, ?_⟩
      rintro i m τ1 H1 ⟨μ1, s2, σ1, g1, d1, e1, hv1, k1⟩
      cases m with
      | zero => cases hv1
      | succ m =>
        unfold forV at hv1
        cases e2 : items J s2 with
        | none => simp only [e2] at hv1; cases hv1
        | some ys =>
          simp only [e2] at hv1
          obtain ⟨q1, q2⟩ := iR μ1 H1 s2 ys g1 d1 e2
          cases e3 : ys[i]? with
          | none =>
            simp only [e3] at hv1
            cases hv1
            exact .inl ⟨q1 i (by simpa using e3), k1 μ1 H1 (Gr.refl _ _) d1 τ1 e1⟩
          | some d =>
            simp only [e3] at hv1
            obtain ⟨q3, q4⟩ := q2 i d e3
            refine .inr ⟨q3, fun τ3 H3 => ∃ μ3 s3 σ3, Gr H0 μ0 H3 μ3 ∧ Gd K ww H3 μ3 s3 ∧ EnvR K H3 μ3 σ3 τ3 ∧ forV J g b m (i + 1) σ3 s3 = some (r, st') ∧ Fin K ww H3 μ3 st' Dn r, fun τ3 H3 q => ⟨m, Nat.lt_succ_self m, q⟩, fun x H2 y => ?_⟩
            obtain ⟨sm, rx⟩ := q4 x H2 y
            have gs : Gr H1 μ1 H2 μ1 := ⟨Keeps.same sm, [], by simp⟩
            have d2 := d1.same sm
            cases e4 : g d σ1 with
            | none => simp only [e4] at hv1; cases hv1
            | some σ2 =>
              simp only [e4] at hv1
              refine ok H2 μ1 σ1 τ1 d x σ2 _ (e1.m gs) rx e4 fun τ2 e5 => ?_
              cases eb : b σ2 s2 with
              | none => simp only [eb] at hv1; cases hv1
              | some p =>
                obtain ⟨r3, s3⟩ := p
                simp only [eb] at hv1
                refine ⟨μ1, s2, σ2, r3, s3, d2, e5, eb, fun μ4 H4 g4 d4 => ?_⟩
                have g5 : Gr H1 μ1 H4 μ4 := gs.trans g4
                cases r3 with
                | nx σ3 => exact fun τ4 e4 => ⟨μ4, s3, σ3, g1.trans g5, d4, e4, hv1, k1.m g5⟩
                | cnt σ3 => exact fun τ4 e4 => ⟨μ4, s3, σ3, g1.trans g5, d4, e4, hv1, k1.m g5⟩
                | brk σ3 =>
                  cases hv1
                  exact fun τ4 e4 => k1 μ4 H4 g5 d4 τ4 e4
                | ret d =>
                  cases hv1
                  exact fun v rv => k1 μ4 H4 g5 d4 v rv
end
end Iv

namespace Iv
open PySem L2 PySem.Spec
/-! ### a comprehension's own slots -/
def wipeD (σ : Sl) : List Nat → Sl
  | [] => σ
  | v :: vs => (wipeD σ vs).set v none
theorem wipeD_len (σ : Sl) : ∀ vs : List Nat, (wipeD σ vs).length = σ.length
  | [] => rfl
  | v :: vs => by unfold wipeD; rw [List.length_set, wipeD_len σ vs]
theorem wipe_get (τ : L2.St) : ∀ (vs : List Nat) (j : Nat), (wipe τ vs)[j]? = if j ∈ vs then (if j < τ.length then some none else none) else τ[j]?
  | [], j => by simp [wipe]
  | v :: vs, j => by
    unfold wipe
    by_cases hj : v = j
    · subst hj
      rw [List.getElem?_set]
      simp [wipe_length]
    · rw [List.getElem?_set_ne hj, wipe_get τ vs j]
      have e : (j ∈ v :: vs) = (j ∈ vs) := by simp [Ne.symm hj]
      simp only [e]
theorem wipe_set {τ : L2.St} {vs : List Nat} {i : Nat} {y : Option V} (h : i ∈ vs) : wipe (τ.set i y) vs = wipe τ vs := by
  apply List.ext_getElem?
  intro j
  rw [wipe_get, wipe_get, List.length_set]
  by_cases hj : j ∈ vs
  · simp [hj]
  · rw [if_neg hj, if_neg hj, List.getElem?_set_ne (by rintro rfl; exact hj h)]
theorem wipe_wipe {τ : L2.St} {vs : List Nat} : wipe (wipe τ vs) vs = wipe τ vs := by
  apply List.ext_getElem?
  intro j
  rw [wipe_get, wipe_get, wipe_length]
  by_cases hj : j ∈ vs
  · simp [hj]
  · rw [if_neg hj, if_neg hj]
section
variable {X : Cx} {K : PySem.W.Frag} {ww : World}
theorem envr_wipe {H : Hp} {μ : List Addr} {σ : Sl} {τ : L2.St} (er : EnvR K H μ σ τ) : ∀ vs : List Nat, EnvR K H μ (wipeD σ vs) (wipe τ vs)
  | [] => er
  | v :: vs => by
    have h := envr_wipe er vs
    unfold wipeD wipe
    refine ⟨by rw [List.length_set, List.length_set]; exact h.1, fun j d e => ?_⟩
    by_cases hj : v = j
    · subst hj
      by_cases hl : v < (wipeD σ vs).length
      · rw [List.getElem?_set_self hl] at e; cases e
      · rw [List.getElem?_eq_none (by rw [List.length_set]; omega)] at e; cases e
    · rw [List.getElem?_set_ne hj] at e ⊢
      exact h.2 j d e
/-- a target that stores into the block's own slots alone -/
def OwnG (vs : List Nat) (gg : TG) : Prop := ∀ x τ H (Q : L2.St → Hp → Prop), gg x τ H Q → gg x τ H fun τ2 H2 => wipe τ2 vs = wipe τ vs ∧ Q τ2 H2
def OwnGs (vs : List Nat) (gg : TGs) : Prop := ∀ xs τ H (Q : L2.St → Hp → Prop), gg xs τ H Q → gg xs τ H fun τ2 H2 => wipe τ2 vs = wipe τ vs ∧ Q τ2 H2
theorem own_name {vs : List Nat} {i : Nat} (h : i ∈ vs) : OwnG vs (gName i) := fun x τ H Q q => ⟨wipe_set h, q⟩
theorem own_nil {vs : List Nat} : OwnGs vs gNil := fun xs τ H Q q => ⟨q.1, rfl, q.2⟩
theorem own_cons {vs : List Nat} {i : Nat} {u : TGs} (h : i ∈ vs) (hu : OwnGs vs u) : OwnGs vs (gCons (gName i) u) := fun xs τ H Q ⟨v, r, e, q⟩ => ⟨v, r, e, by
  have q' := hu r _ _ _ q
  rw [wipe_set h] at q'
  exact q'⟩
theorem own_tup {vs : List Nat} {K : PySem.W.Frag} {n : Nat} {u : TGs} (hu : OwnGs vs u) : OwnG vs (gTup K n u) := fun x τ H Q ⟨a, xs, e, s, l, q⟩ => ⟨a, xs, e, s, l, hu xs _ _ _ q⟩
/-! ### comprehensions -/
def compV (J : It) (g : Tg) (c : ST) (e : SE) (n : Nat) (σ0 : Sl) : Nat → Nat → Sto → Option Sto
  | 0, _, _ => none
  | m + 1, i, st => match items J st with
    | none => none
    | some xs => match xs[i]? with
      | none => some st
      | some d => match g d σ0 with
        | none => none
        | some σ1 => bnd (c σ1 st) fun b s1 => if b = true then bnd (e σ1 s1) fun y s2 => (match getM s2 n with
            | none => none
            | some acc => if acc.length < LIM then compV J g c e n σ0 m (i + 1) (s2.set n (.lst (acc ++ [y]))) else none) else compV J g c e n σ0 m (i + 1) s1
def compF (vs : List Nat) (i : SJ) (g : Tg) (c : ST) (e : SE) : SE := fun σ st => bnd (i σ st) fun J s1 => match items J s1 with
  | none => none
  | some xs => (compV J g c e s1.length (wipeD σ vs) (xs.length + 1) 0 (s1 ++ [.lst []])).map fun s2 => (.loc s1.length, s2)
def yesT : ST := fun _ st => some (true, st)
theorem ts_nil : PTs X [] (rdT K ww yesT) := pts_nil.weak fun τ H Q ⟨μ, st, σ, b, st', gd, er, hv, k⟩ => by
  cases hv
  exact k μ H (Gr.refl H μ) gd
theorem ts_one {c : Expr} {t : ST} (h : PT X c (rdT K ww t)) : PTs X [c] (rdT K ww t) := pts_one h
theorem items_new {J : It} {st : Sto} {xs : List D} (h : items J st = some xs) (o : OB) : items J (st ++ [o]) = some xs := by
  have q : ∀ (n : Nat) (ys : List D), getL st n = some ys → getL (st ++ [o]) n = some ys := fun n ys h => by
    unfold getL at h ⊢
    cases e : st[n]? with
    | none => rw [e] at h; cases h
    | some p =>
      rw [List.getElem?_append_left (List.getElem?_eq_some_iff.mp e).1, e]
      rw [e] at h
      exact h
  cases J with
  | cns ys => exact h
  | lst n => exact q n xs h
  | enm n =>
    simp only [items] at h ⊢
    cases e : getL st n with
    | none => rw [e] at h; cases h
    | some ys => rw [q n ys e, ← e]; exact h
  | zip n m =>
    simp only [items] at h ⊢
    cases e : getL st n with
    | none => rw [e] at h; cases h
    | some ys =>
      cases e2 : getL st m with
      | none => rw [e, e2] at h; cases h
      | some zs => rw [q n ys e, q m zs e2]; rw [e, e2] at h; exact h
theorem rd_comp {vs : List Nat} {i : SJ} {gg : TG} {g : Tg} {c : ST} {e : SE} (ok : OkG K gg g) (ow : OwnG vs gg) : ∀ τ H Q, rdE K ww (compF vs i g c e) τ H Q → tLc (rdI K ww i) gg (rdT K ww c) (rdE K ww e) vs τ H Q :=
  fun τ H Q ⟨μ, st, σ, d, st', gd, er, hv, k⟩ => by
    obtain ⟨J, s1, h1, hv⟩ := bnd_eq hv
    cases ei : items J s1 with
    | none => simp only [ei] at hv; cases hv
    | some xs =>
      simp only [ei] at hv
      cases ec : compV J g c e s1.length (wipeD σ vs) (xs.length + 1) 0 (s1 ++ [.lst []]) with
      | none => rw [ec] at hv; cases hv
      | some s9 =>
        rw [ec] at hv
        cases hv
        refine ⟨μ, st, σ, J, s1, gd, er, h1, fun μ0 H0 J' g0 d0 iR Dp hD => ?_⟩
        have gn : Gr H0 μ0 (upd H0 Dp (.lst [])) (μ0 ++ [Dp]) := gr_new hD
        have dn := d0.new hD (reps_nil (K := K) (H := H0) (μ := μ0))
        have hDp : (μ0 ++ [Dp])[s1.length]? = some Dp := by
          rw [← d0.len, List.getElem?_append_right (Nat.le_refl _), Nat.sub_self]
          rfl
        have ew : EnvR K H0 μ0 (wipeD σ vs) (wipe τ vs) := envr_wipe (er.m g0) vs
        refine ⟨fun j m H1 => ∃ μ1 s2, Gr (upd H0 Dp (.lst [])) (μ0 ++ [Dp]) H1 μ1 ∧ Gd K ww H1 μ1 s2 ∧ compV J g c e s1.length (wipeD σ vs) m j s2 = some st', ⟨_, μ0 ++ [Dp], _, Gr.refl _ _, dn, ec⟩, ?_⟩
        rintro j m H1 ⟨μ1, s2, g1, d1, hv1⟩
        cases m with
        | zero => cases hv1
        | succ m =>
          unfold compV at hv1
          cases e2 : items J s2 with
          | none => simp only [e2] at hv1; cases hv1
          | some ys =>
            simp only [e2] at hv1
            have g01 := gn.trans g1
            obtain ⟨q1, q2⟩ := iR μ1 H1 s2 ys g01 d1 e2
            cases e3 : ys[j]? with
            | none =>
              simp only [e3] at hv1
              cases hv1
              exact .inl ⟨q1 j (by simpa using e3), k μ1 H1 _ (g0.trans g01) d1 (rep_loc (g1.get hDp))⟩
            | some y =>
              simp only [e3] at hv1
              obtain ⟨q3, q4⟩ := q2 j y e3
              refine .inr ⟨q3, fun H3 => ∃ μ3 s3, Gr (upd H0 Dp (.lst [])) (μ0 ++ [Dp]) H3 μ3 ∧ Gd K ww H3 μ3 s3 ∧ compV J g c e s1.length (wipeD σ vs) m (j + 1) s3 = some st', fun H3 q => ⟨m, Nat.lt_succ_self m, q⟩, fun x H2 hy => ?_⟩
              obtain ⟨sm, rx⟩ := q4 x H2 hy
              have gs : Gr H1 μ1 H2 μ1 := ⟨Keeps.same sm, [], by simp⟩
              have d2 := d1.same sm
              cases e4 : g y (wipeD σ vs) with
              | none => simp only [e4] at hv1; cases hv1
              | some σ2 =>
                simp only [e4] at hv1
                obtain ⟨b, s3, h3, hv1⟩ := bnd_eq hv1
                have hq : gg x (wipe τ vs) H2 fun τ2 H2 => rdT K ww c τ2 H2 fun b H3 => if b = true then rdE K ww e τ2 H3 fun y H4 => ∃ acc, H4 Dp = some (.lst acc) ∧ acc.length < sizeLine ∧ (fun H3 => ∃ μ3 s3, Gr (upd H0 Dp (.lst [])) (μ0 ++ [Dp]) H3 μ3 ∧ Gd K ww H3 μ3 s3 ∧ compV J g c e s1.length (wipeD σ vs) m (j + 1) s3 = some st') (upd H4 Dp (.lst (acc ++ [y]))) else (fun H3 => ∃ μ3 s3, Gr (upd H0 Dp (.lst [])) (μ0 ++ [Dp]) H3 μ3 ∧ Gd K ww H3 μ3 s3 ∧ compV J g c e s1.length (wipeD σ vs) m (j + 1) s3 = some st') H3 := by
                  refine ok H2 μ1 _ _ y x σ2 _ (ew.m (g01.trans gs)) rx e4 fun τ2 e5 => ?_
                  refine ⟨μ1, s2, σ2, b, s3, d2, e5, h3, fun μ4 H4 g4 d4 => ?_⟩
                  have g5 := (g1.trans gs).trans g4
                  cases b with
                  | false => exact ⟨μ4, s3, g5, d4, hv1⟩
                  | true =>
                    rw [if_pos rfl] at hv1
                    show rdE K ww e τ2 H4 _
                    obtain ⟨z, s4, h4, hv1⟩ := bnd_eq hv1
                    refine ⟨μ4, s3, σ2, z, s4, d4, e5.m g4, h4, fun μ5 H5 w g6 d5 r5 => ?_⟩
                    cases e6 : getM s4 s1.length with
                    | none => simp only [e6] at hv1; cases hv1
                    | some acc =>
                      simp only [e6] at hv1
                      split at hv1
                      · rename_i hl
                        have hp5 := (g5.trans g6).get hDp
                        obtain ⟨us, hH, rs⟩ := d5.getM hp5 e6
                        have gw : Gr H5 μ5 (upd H5 Dp (.lst (us ++ [w]))) μ5 := gr_write hH
                        exact ⟨us, hH, lim_lt (by rw [← rs.len]; exact hl), μ5, _, (g5.trans g6).trans gw, d5.write hp5 (getM_get e6) hH (rs.app (reps_cons r5 reps_nil)), hv1⟩
                      · cases hv1
                have hq2 := ow x _ _ _ hq
                rw [wipe_wipe] at hq2
                exact hq2
theorem se_comp {elt tg iter : Expr} {ifs : List Expr} {scope : Scope} {own : List (Str × Nat)} {pos : Pos} {i : SJ} {gg : TG} {g : Tg} {c : ST} {e : SE} (hc : X.calm = true) (hN : X.N.Nodup) (hi : PI X tg iter (rdI X.K X.w i)) (ok : BlkOk X.N X.env.scope scope own)
    (hg : ∀ (s : Shared) (H : Hp) (C : Addr) (cl : List (Str × Addr)) (fp : List Addr), PG (X.blk s H scope (compEnvC scope cl C X.env) fp) tg gg) (okg : OkG X.K gg g) (ow : OwnG (own.map (·.2)) gg)
    (ht : ∀ (s : Shared) (H : Hp) (C : Addr) (cl : List (Str × Addr)) (fp : List Addr), PTs (X.blk s H scope (compEnvC scope cl C X.env) fp) ifs (rdT X.K X.w c))
    (he : ∀ (s : Shared) (H : Hp) (C : Addr) (cl : List (Str × Addr)) (fp : List Addr), PE (X.blk s H scope (compEnvC scope cl C X.env) fp) elt (rdE X.K X.w e)) (hs : ∀ x, foldedSetIterable iter X.env x = pure x := by intro _; rfl) :
    PE X (.ListComp elt [⟨tg, iter, ifs, 0⟩] scope pos) (rdE X.K X.w (compF (own.map (·.2)) i g c e)) := (pe_lc hc hN hi ok hg ht he hs).weak (rd_comp okg ow)

/-! ### own functions -/
abbrev Fx := List D → Sto → Option (D × Sto)
def callF (φ : Fx) (f : SA) : SE := fun σ st => bnd (f σ st) fun ds s1 => φ ds s1
def spF (K : PySem.W.Frag) (ww : World) (np : Nat) (φ : Fx) : Sp := fun vs H Q E => vs.length = np ∧ ∃ μ st ds d st', Gd K ww H μ st ∧ Reps K H μ ds vs ∧ φ ds st = some (d, st') ∧ ∀ μ' H' v, Gr H μ H' μ' → Gd K ww H' μ' st' → Rep K H' μ' d v → Q v H'
def runF (ns np : Nat) (body : SS) : Fx := fun ds st => if ds.length = np then (match body (ds.map some ++ List.replicate (ns - np) none) st with
  | some (.nx _, s) => some (.non, s)
  | some (.ret d, s) => some (d, s)
  | _ => none) else none
theorem envr_start {H : Hp} {μ : List Addr} {ds : List D} {vs : List V} (r : Reps K H μ ds vs) (k : Nat) : EnvR K H μ (ds.map some ++ List.replicate k none) (vs.map some ++ List.replicate k none) := by
  have hl := r.len
  refine ⟨by simp [hl], fun i d e => ?_⟩
  by_cases hi : i < ds.length
  · rw [List.getElem?_append_left (by simpa using hi), List.getElem?_map] at e
    rw [List.getElem?_append_left (by rw [List.length_map, ← hl]; exact hi), List.getElem?_map]
    cases e1 : ds[i]? with
    | none => rw [e1] at e; cases e
    | some x =>
      rw [e1] at e
      cases e
      obtain ⟨v, h1, h2⟩ := r.get e1
      exact ⟨v, by rw [h1]; rfl, h2⟩
  · rw [List.getElem?_append_right (by simpa using hi)] at e
    have := List.mem_of_getElem? e
    rw [List.mem_replicate] at this
    cases this.2
section
variable {P : Program} {w : World} {mg : Str → Option Value} {base : Heap} {n k : Nat} {f : Addr} {fd : FuncData} {ps : List Str}
theorem se_call {x : Str} {p pos : Pos} {e : Expr} {es : List Expr} {φ : Fx} {np : Nat} {g : SA} (G : FnOk X.prog X.w X.K X.mg X.base CX0 n f fd ps (spF X.K X.w np φ)) (hr : Room n X.A) (hg : Gl X x) (hm : X.mg x = some (.ref f)) (hk : PySem.W.keepIn X.K (.ref f) = true) (hb : Binds X.K fd ps [])
    (ha : PA X (e :: es) (rdA X.K X.w g)) (hnp : ∀ ds st d st', φ ds st = some (d, st') → ds.length = np) (hdb : (x == ("__debug__" : Str)) = false := by decide) (he : starEach (e :: es) X.env = (false, eval e X.env) :: starEach es X.env := by rfl) (hpl : (backTo pos (starEach es X.env)).any (·.1) = false := by rfl) :
    PE X (.Call (.Name x p) (e :: es) [] pos) (rdE X.K X.w (callF φ g)) := (pe_call G hr hg hm hk hb .nil pass0 ha hdb he hpl).weak fun τ H Q ⟨μ, st, σ, d, st', gd, er, hv, kk⟩ => by
  obtain ⟨ds, s1, h1, hv⟩ := bnd_eq hv
  refine ⟨μ, st, σ, ds, s1, gd, er, h1, fun μ1 H1 vs g1 d1 r1 => ?_⟩
  show spF X.K X.w np φ (vs ++ []) H1 Q E0
  rw [List.append_nil]
  exact ⟨by rw [← r1.len]; exact hnp _ _ _ _ hv, μ1, s1, ds, d, st', d1, r1, hv, fun μ2 H2 v g2 d2 r2 => kk μ2 H2 v (g1.trans g2) d2 r2⟩
theorem runF_np {ns np : Nat} {body : SS} : ∀ ds st d st', runF ns np body ds st = some (d, st') → ds.length = np := fun ds st d st' h => by
  unfold runF at h
  split at h
  · assumption
  · cases h
theorem fn_zero {φ : Fx} {np : Nat} (h : ∀ ds st, φ ds st = none) : FnOk P w K mg base CX0 0 f fd ps (spF K w np φ) := by
  have no : ∀ vs H Q E, ¬ spF K w np φ vs H Q E := fun vs H Q E ⟨_, _, st, ds, _, _, _, _, e, _⟩ => by rw [h] at e; cases e
  exact ⟨fun vs H Q E h => absurd h (no vs H Q E), fun A outer s H args us vs Q E _ _ _ _ h => absurd h (no vs H Q E)⟩
theorem fn_ok {x qual : Str} {st : Stmt} {N : List Str} {body : SS} (F : Fun K x qual st f fd) (S : FnScope N ps (defScope st)) (hns : ps.length ≤ N.length)
    (hb : ∀ (cdv : Value) (A : Around) (outer : List Env) (s : Shared) (H : Hp) (E : XK), Room k (A.deeper (PyProof.Rows.envOfC qual (defScope st) s.heap.objs.size f cdv)) →
      PSs (cxOf CX0 P w K mg base N qual (defScope st) f cdv A outer s H E).nox (defBody st) (rdS K w body)) :
    FnOk P w K mg base CX0 (k + 1) f fd ps (spF K w ps.length (runF N.length ps.length body)) := by
  refine F.ok S (fun vs H Q E h => h.1) (fun cdv A outer s H vs Q E hr h => ⟨_, hb cdv A outer s H E hr, ?_⟩)
  obtain ⟨hlen, μ, st, ds, d, st', gd, r, hv, q⟩ := h
  unfold runF at hv
  split at hv
  · rename_i hl
    unfold L2.start
    rw [hlen]
    have er := envr_start r (N.length - ps.length)
    cases e : body (ds.map some ++ List.replicate (N.length - ps.length) none) st with
    | none => rw [e] at hv; cases hv
    | some p =>
      obtain ⟨r1, s1⟩ := p
      rw [e] at hv
      refine ⟨μ, st, _, r1, s1, gd, er, e, fun μ1 H1 g1 d1 => ?_⟩
      cases r1 with
      | nx σ1 =>
        cases hv
        exact fun τ1 _ => q μ1 H1 .non g1 d1 (by simp only [Rep])
      | ret x =>
        cases hv
        exact fun v rv => q μ1 H1 v g1 d1 rv
      | brk σ1 => cases hv
      | cnt σ1 => cases hv
  · cases hv
end
/-! ### the law's own end -/
def spLaw (K : PySem.W.Frag) : Sp := fun vs H Q _ => ∃ (a : Addr) (ns : List Int), vs = [.ref a] ∧ (∀ H', Keeps H H' → SqL K H' a (ns.map V.int)) ∧ ns.length ≤ 63 ∧ ∀ H', Q (.bl true) H'
theorem reps_ints {H : Hp} {μ : List Addr} : ∀ ns : List Int, Reps K H μ (ns.map D.int) (ns.map V.int)
  | [] => reps_nil
  | n :: ns => reps_cons (by simp only [Rep]) (reps_ints ns)
theorem law_ok {P : Program} {w : World} {mg : Str → Option Value} {base : Heap} {n : Nat} {f : Addr} {fd : FuncData} {φ : Fx} (G : FnOk P w K mg base CX0 n f fd ["script"] (spF K w 1 φ))
    (h : ∀ ns : List Int, ns.length ≤ 63 → ∃ st', φ [.loc 0] [.frz (ns.map .int)] = some (.bl true, st')) : FnOk P w K mg base CX0 n f fd ["script"] (spLaw K) := by
  refine G.imp (fun vs H Q E q => ?_)
  obtain ⟨a, ns, rfl, hS, hl, q⟩ := q
  obtain ⟨st', e⟩ := h ns hl
  refine ⟨rfl, [a], [.frz (ns.map .int)], [.loc 0], _, st', ⟨rfl, fun n m p xs ys h1 h2 h3 h4 k1 k2 => ?_, fun n p o h1 h2 => ?_⟩, reps_cons (rep_loc rfl) reps_nil, e, fun μ' H' v g d r => ?_⟩
  · cases n with
    | zero => cases h3; cases k1
    | succ n => simp at h3
  · cases n with
    | zero =>
      cases h1
      cases h2
      exact ⟨_, hS, reps_ints ns⟩
    | succ n => simp at h1
  · simp only [Rep] at r
    subst r
    exact q H'
theorem only_sql {H : Hp} {a : Addr} {xs : List V} (h : Only H) (s : SqL K H a xs) : ∀ H', Keeps H H' → SqL K H' a xs := fun H' k => by
  rcases s with (s | ⟨o, s⟩) | s
  · rcases h a with z | ⟨o, ys, z⟩
    · rw [s] at z; cases z
    · rw [s] at z; cases z
  · exact .inl (.inr ⟨o, k.2.1 _ _ _ s⟩)
  · exact .inr s
end
end Iv

namespace Iv
open PySem L2
/-! ### the operations -/
def addO : Op2
  | .int i, .int j, st => some (.int (i + j), st)
  | .str a, .str b, st => if a.length + b.length ≤ LIM then some (.str (a ++ b), st) else none
  | .loc n, .loc m, st => match getM st n, getM st m with
    | some xs, some ys => if xs.length + ys.length ≤ LIM then some (.loc st.length, st ++ [.lst (xs ++ ys)]) else none
    | _, _ => none
  | .tup xs, .tup ys, st => if xs.length + ys.length ≤ LIM ∧ nst (xs ++ ys) = false then some (.tup (xs ++ ys), st) else none
  | _, _, _ => none
def intO (C : Int → Int → Bool) (g : Int → Int → Int) : Op2
  | .int i, .int j, st => if C i j = true then some (.int (g i j), st) else none
  | _, _, _ => none
def cT (_ _ : Int) : Bool := true
def cMul (i j : Int) : Bool := (decide (-(2 ^ 64) < i) && decide (i < 2 ^ 64)) || (decide (-(2 ^ 64) < j) && decide (j < 2 ^ 64))
def cDiv (_ j : Int) : Bool := decide (0 < j) && decide (j < 1073741824)
def cPos (_ j : Int) : Bool := decide (0 < j)
def cPow (i j : Int) : Bool := decide (0 ≤ j) && decide (j ≤ 1000000) && decide (i.natAbs < 2 ^ 64)
def subO : Op2 := intO cT fun i j => i - j
def mulO : Op2 := intO cMul fun i j => i * j
def fdivO : Op2 := intO cDiv fun i j => i / j
def modO : Op2 := intO cPos fun i j => i % j
def powO : Op2 := intO cPow fun i j => i ^ j.toNat
def relO (p : Int → Int → Bool) : Op2
  | .int i, .int j, st => some (.bl (p i j), st)
  | _, _, _ => none
def ltO : Op2 := relO fun i j => decide (i < j)
def leO : Op2 := relO fun i j => decide (i ≤ j)
def gtO : Op2 := relO fun i j => decide (j < i)
def geO : Op2 := relO fun i j => decide (j ≤ i)
/-! equality at any depth -/
mutual
def py (st : Sto) : Nat → D → Option PyData
  | _, .non => some .none
  | _, .bl b => some (.bool b)
  | _, .int i => some (.int i)
  | _, .str x => some (.str x)
  | n, .tup xs => (pys st n xs).map .tuple
  | 0, .loc _ => none
  | n + 1, .loc k => match getL st k with
    | none => none
    | some xs => (pys st n xs).map .list
  termination_by n d => (n, sizeOf d)
def pys (st : Sto) : Nat → List D → Option (List PyData)
  | _, [] => some []
  | n, d :: ds => match py st n d, pys st n ds with
    | some p, some ps => some (p :: ps)
    | _, _ => none
  termination_by n d => (n, sizeOf d)
end
def scalD : D → Bool
  | .non => true | .bl _ => true | .int _ => true | .str _ => true | _ => false
def eqS : D → D → Option Bool
  | .non, .non => some true
  | .non, .int _ => some false
  | .int _, .non => some false
  | .non, .bl _ => some false
  | .bl _, .non => some false
  | .non, .str _ => some false
  | .str _, .non => some false
  | .int i, .int j => some (decide (i = j))
  | .bl i, .bl j => some (decide (i = j))
  | .str i, .str j => some (decide (i = j))
  | .int _, .str _ => some false
  | .str _, .int _ => some false
  | .bl _, .str _ => some false
  | .str _, .bl _ => some false
  | _, _ => none
def eqO (neg : Bool) : Op2 := fun x y st => match eqS x y with
  | some b => some (.bl (b != neg), st)
  | none => match py st 60 x, py st 60 y with
    | some p, some q => if SeqAt.shaped p = true ∧ SeqAt.shaped q = true then some (.bl (PyData.eqv p q != neg), st) else none
    | _, _ => none
def isNO (neg : Bool) : Op2 := fun x y st => match y with
  | .non => match x with
    | .non => some (.bl (true != neg), st)
    | _ => some (.bl (false != neg), st)
  | _ => none
def eqF : D → D → Bool
  | .non, .non => true
  | .bl a, .bl b => a == b
  | .bl a, .int b => (if a then 1 else 0) == b
  | .int a, .bl b => a == (if b then 1 else 0)
  | .int a, .int b => a == b
  | .str a, .str b => a == b
  | _, _ => false
def inF (x : D) (xs : List D) : Bool := xs.any fun y => eqF y x
def inO (neg : Bool) : Op2 := fun x y st => match y with
  | .str b => match x with
    | .str a => some (.bl ((!(Builtin.Str.occurrences b a 0 b.length 1).isEmpty) != neg), st)
    | _ => none
  | .tup ys => if scalD x = true ∧ ys.all scalD = true then some (.bl (inF x ys != neg), st) else none
  | .loc n => match getL st n with
    | none => none
    | some ys => if scalD x = true ∧ ys.all scalD = true then some (.bl (inF x ys != neg), st) else
      match py st 60 x, py st 60 y with
      | some p, some (.list qs) => if SeqAt.shaped p = true ∧ SeqAt.shaped (.list qs) = true then some (.bl ((qs.any fun z => PyData.eqv z p) != neg), st) else none
      | _, _ => none
  | _ => none
def ixO : Op2
  | .loc n, .int i, st => match getL st n with
    | none => none
    | some xs => (atI xs i).map fun d => (d, st)
  | .tup xs, .int i, st => (atI xs i).map fun d => (d, st)
  | .str x, .int i, st => if x.length ≤ LIM then (atI x.cps.toList i).map fun c => (.str ⟨#[c]⟩, st) else none
  | _, _, _ => none
def negO : Op1
  | .int i, st => some (.int (-i), st)
  | _, _ => none
def lenO : OpN
  | [.str x], st => if x.length ≤ LIM then some (.int x.length, st) else none
  | [.tup xs], st => some (.int xs.length, st)
  | [.loc n], st => (getL st n).map fun xs => (.int xs.length, st)
  | _, _ => none
def intOf : OpN
  | [.int i], st => some (.int i, st)
  | [.bl b], st => some (.int (if b then 1 else 0), st)
  | [.str a], st => match PySem.intText? a with
    | some n => if a.length ≤ 640 then some (.int n, st) else none
    | none => none
  | _, _ => none
def absO : OpN
  | [.int i], st => some (.int (if i < 0 then -i else i), st)
  | _, _ => none
def strOf : OpN
  | [.int i], st => if i.natAbs.log2 < 1920 then some (.str (toString i), st) else none
  | [.str x], st => some (.str x, st)
  | _, _ => none
def max2O : OpN
  | [.int i, .int j], st => some (.int (if j > i then j else i), st)
  | _, _ => none
def min2O : OpN
  | [.int i, .int j], st => some (.int (if j < i then j else i), st)
  | _, _ => none
def tupleO : OpN
  | [.loc n], st => (getL st n).map fun xs => (.tup xs, st)
  | [.tup xs], st => some (.tup xs, st)
  | _, _ => none
def listO : OpN
  | [.loc n], st => (getL st n).map fun xs => (.loc st.length, st ++ [.lst xs])
  | [.tup xs], st => some (.loc st.length, st ++ [.lst xs])
  | _, _ => none
def blsD : List D → Option (List Bool)
  | [] => some []
  | .bl b :: ds => (blsD ds).map fun bs => b :: bs
  | _ :: _ => none
def anyO (all : Bool) : OpN
  | [.loc n], st => match getL st n with
    | none => none
    | some xs => (blsD xs).map fun bs => (.bl (if all then bs.all id else bs.any id), st)
  | _, _ => none
def isi (T : String) : D → Bool
  | .non => false
  | .bl _ => T == "bool" || T == "int"
  | .int _ => T == "int"
  | .str _ => T == "str"
  | .tup _ => T == "tuple"
  | .loc _ => T == "list"
def isiO (T : String) : Op1 := fun x st => match x with
  | .loc n => (getL st n).map fun _ => (.bl (isi T x), st)
  | _ => some (.bl (isi T x), st)
def appendO : OpM := fun x ys st => match x, ys with
  | .loc n, [y] => match getM st n with
    | none => none
    | some xs => if xs.length < LIM then some (.non, st.set n (.lst (xs ++ [y]))) else none
  | _, _ => none
def extendO : OpM := fun x ys st => match x, ys with
  | .loc n, [.loc m] => if n = m then none else match getM st n, getM st m with
    | some xs, some zs => if xs.length + zs.length ≤ LIM then some (.non, st.set n (.lst (xs ++ zs))) else none
    | _, _ => none
  | _, _ => none
def strsD : List D → Option (List Str)
  | [] => some []
  | .str b :: ds => (strsD ds).map fun bs => b :: bs
  | _ :: _ => none
def joinO : OpM := fun x ys st => match x, ys with
  | .str a, [.loc n] => match getL st n with
    | none => none
    | some xs => match strsD xs with
      | none => none
      | some zs => if (zs.map (·.length)).sum + zs.length * a.length ≤ LIM then some (.str (Txt.join a zs), st) else none
  | _, _ => none
def splitO : OpM := fun x ys st => match x, ys with
  | .str a, [.str b] => if (b.length == 0) = false ∧ a.length + 2 ≤ LIM then some (.loc st.length, st ++ [.lst ((Txt.split a b).map .str)]) else none
  | _, _ => none
def wordsO : OpM := fun x ys st => match x, ys with
  | .str a, [] => if a.length + 2 ≤ LIM then some (.loc st.length, st ++ [.lst ((Txt.words a).map .str)]) else none
  | _, _ => none
def cutD (xs : List D) (lo hi : Option Int) : List D := (xs.drop (HT.sIx xs.length 0 lo)).take (HT.sIx xs.length xs.length hi - HT.sIx xs.length 0 lo)
def cutO : OpS := fun x lo hi st => match x with
  | .loc n => (getL st n).map fun xs => (.loc st.length, st ++ [.lst (cutD xs lo hi)])
  | .tup xs => if nst (cutD xs lo hi) = true then none else some (.tup (cutD xs lo hi), st)
  | .str x => if x.length ≤ LIM then some (.str (cutS x lo hi), st) else none
  | _ => none

/-! ### they are the machine's -/
theorem limc {n : Nat} (h : n ≤ LIM) : n ≤ 16777216 := Nat.le_trans h (by decide)
section
variable {X : Cx}
abbrev RT (K : PySem.W.Frag) (ww : World) (H : Hp) (μ : List Addr) (st : Sto) (d : D) (st' : Sto) (Q : VK) : Prop := ∀ μ' H' v, Gr H μ H' μ' → Gd K ww H' μ' st' → Rep K H' μ' d v → Q v H'
/-- nothing new: the value and the same heap -/
theorem here {K : PySem.W.Frag} {ww : World} {H : Hp} {μ : List Addr} {st : Sto} {d : D} {Q : VK} {v : V} (k : ∀ μ' H' v, Gr H μ H' μ' → Gd K ww H' μ' st → Rep K H' μ' d v → Q v H') (g : Gd K ww H μ st) (r : Rep K H μ d v) : Q v H := k μ H v (Gr.refl H μ) g r
theorem ok_addI {K : PySem.W.Frag} {ww : World} : Ok2 K ww (fun x y H Q => (rI0 fun i j => V.int (i + j)) x y H Q ∨ (fun x y H Q => ∃ i j, x = V.str i ∧ y = .str j ∧ i.length + j.length ≤ sizeLine ∧ Q (.str (i ++ j)) H) x y H Q ∨ rCat x y H Q ∨ rCatA K x y H Q) addO := by
  intro H μ st x y vx vy d st' Q g rx ry hv k
  cases x with
  | int i =>
    cases y with
    | int j =>
      simp only [Rep] at rx ry
      subst rx ry
      cases hv
      exact .inl ⟨i, j, rfl, rfl, here k g (by simp only [Rep])⟩
    | _ => cases hv
  | str a =>
    cases y with
    | str b =>
      simp only [Rep] at rx ry
      subst rx ry
      simp only [addO] at hv
      split at hv
      · rename_i hl
        cases hv
        exact .inr (.inl ⟨a, b, rfl, rfl, lim_ok hl, here k g (by simp only [Rep])⟩)
      · cases hv
    | _ => cases hv
  | loc n =>
    cases y with
    | loc m =>
      simp only [Rep] at rx ry
      obtain ⟨p, rfl, hp⟩ := rx
      obtain ⟨q, rfl, hq⟩ := ry
      simp only [addO] at hv
      split at hv
      · rename_i xs ys e1 e2
        split at hv
        · rename_i hl
          cases hv
          obtain ⟨vs, h1, r1⟩ := g.getM hp e1
          obtain ⟨ws, h2, r2⟩ := g.getM hq e2
          exact .inr (.inr (.inl ⟨p, q, vs, ws, rfl, rfl, h1, h2, lim_ok (by rw [← r1.len, ← r2.len]; exact hl), new_lst g (r1.app r2) k⟩))
        · cases hv
      · cases hv
    | _ => cases hv
  | tup xs =>
    cases y with
    | tup ys =>
      simp only [addO] at hv
      split at hv
      · rename_i hl
        cases hv
        have rx' := rx
        have ry' := ry
        simp only [Rep] at rx ry
        obtain ⟨p, vs, rfl, ⟨h1, _⟩, r1⟩ := rx
        obtain ⟨q, ws, rfl, ⟨h2, _⟩, r2⟩ := ry
        have ev : vs = [] ↔ xs = [] := by rw [← List.length_eq_zero_iff, ← r1.len, List.length_eq_zero_iff]
        have ew : ws = [] ↔ ys = [] := by rw [← List.length_eq_zero_iff, ← r2.len, List.length_eq_zero_iff]
        refine .inr (.inr (.inr ⟨p, q, vs, ws, rfl, rfl, h1, h2, lim_ok (by rw [← r1.len, ← r2.len]; exact hl.1), fun e => ?_, fun _ e => ?_, fun _ _ => new_tupP g hl.2 (r1.app r2) k⟩))
        · rw [ev.mp e] at k
          exact here k g (by simpa using ry')
        · rw [ew.mp e, List.append_nil] at k
          exact here k g rx'
      · cases hv
    | _ => cases hv
  | non => cases hv
  | bl _ => cases hv
theorem op_addA : OpR X (binaryOp .Add) (fun x y H Q => (rI0 fun i j => V.int (i + j)) x y H Q ∨ (fun x y H Q => ∃ i j, x = V.str i ∧ y = .str j ∧ i.length + j.length ≤ sizeLine ∧ Q (.str (i ++ j)) H) x y H Q ∨ rCat x y H Q ∨ rCatA X.K x y H Q) := op_add.or (op_add_str.or (op_cat.or op_catA))
theorem ok_int {K : PySem.W.Frag} {ww : World} {C : Int → Int → Prop} {c : Int → Int → Bool} {g : Int → Int → Int} (hc : ∀ i j, c i j = true → C i j) : Ok2 K ww (rI C fun i j => .int (g i j)) (intO c g) := by
  intro H μ st x y vx vy d st' Q gd rx ry hv k
  cases x with
  | int i =>
    cases y with
    | int j =>
      simp only [Rep] at rx ry
      subst rx ry
      simp only [intO] at hv
      split at hv
      · rename_i h
        cases hv
        exact ⟨i, j, rfl, rfl, hc i j h, here k gd (by simp only [Rep])⟩
      · cases hv
    | _ => cases hv
  | _ => cases hv
theorem ok_int0 {K : PySem.W.Frag} {ww : World} {g : Int → Int → Int} : Ok2 K ww (rI0 fun i j => .int (g i j)) (intO cT g) := by
  intro H μ st x y vx vy d st' Q gd rx ry hv k
  obtain ⟨i, j, h1, h2, _, q⟩ := ok_int (K := K) (C := fun _ _ => True) (c := cT) (g := g) (fun _ _ _ => True.intro) H μ st x y vx vy d st' Q gd rx ry hv k
  exact ⟨i, j, h1, h2, q⟩
theorem ok_rel {K : PySem.W.Frag} {ww : World} {p : Int → Int → Bool} : Ok2 K ww (rI0 fun i j => .bl (p i j)) (relO p) := by
  intro H μ st x y vx vy d st' Q gd rx ry hv k
  cases x with
  | int i =>
    cases y with
    | int j =>
      simp only [Rep] at rx ry
      subst rx ry
      cases hv
      exact ⟨i, j, rfl, rfl, here k gd (by simp only [Rep])⟩
    | _ => cases hv
  | _ => cases hv
section
variable {a b : Expr} {f g : SE} {pos : Pos}
theorem e_add (ha : PE X a (rdE X.K X.w f)) (hb : PE X b (rdE X.K X.w g)) : PE X (.BinOp a .Add b pos) (rdE X.K X.w (binF addO f g)) := se_bin op_addA ok_addI ha hb
theorem e_sub (ha : PE X a (rdE X.K X.w f)) (hb : PE X b (rdE X.K X.w g)) : PE X (.BinOp a .Sub b pos) (rdE X.K X.w (binF subO f g)) := se_bin op_sub ok_int0 ha hb
theorem e_mul (ha : PE X a (rdE X.K X.w f)) (hb : PE X b (rdE X.K X.w g)) : PE X (.BinOp a .Mult b pos) (rdE X.K X.w (binF mulO f g)) := se_bin op_mul (ok_int fun i j h => by
  simp only [cMul, Bool.or_eq_true, Bool.and_eq_true, decide_eq_true_eq] at h
  exact h) ha hb
theorem e_fdiv (ha : PE X a (rdE X.K X.w f)) (hb : PE X b (rdE X.K X.w g)) : PE X (.BinOp a .FloorDiv b pos) (rdE X.K X.w (binF fdivO f g)) := se_bin op_fdiv (ok_int fun i j h => by
  simp only [cDiv, Bool.and_eq_true, decide_eq_true_eq] at h
  exact h) ha hb
theorem e_mod (ha : PE X a (rdE X.K X.w f)) (hb : PE X b (rdE X.K X.w g)) : PE X (.BinOp a .Mod b pos) (rdE X.K X.w (binF modO f g)) := se_bin op_mod (ok_int fun i j h => by
  simp only [cPos, decide_eq_true_eq] at h
  exact h) ha hb
theorem e_pow (ha : PE X a (rdE X.K X.w f)) (hb : PE X b (rdE X.K X.w g)) : PE X (.BinOp a .Pow b pos) (rdE X.K X.w (binF powO f g)) := se_bin op_pow (ok_int fun i j h => by
  simp only [cPow, Bool.and_eq_true, decide_eq_true_eq] at h
  exact ⟨h.1.1, h.1.2, h.2⟩) ha hb
theorem e_neg (ha : PE X a (rdE X.K X.w f)) : PE X (.UnaryOp .USub a pos) (rdE X.K X.w (unF negO f)) := se_un un_neg (by
  intro H μ st x vx d st' Q gd rx hv k
  cases x with
  | int i =>
    simp only [Rep] at rx
    subst rx
    cases hv
    exact ⟨i, rfl, here k gd (by simp only [Rep])⟩
  | _ => cases hv) ha
end
/-! comparisons: the rule, that it fits, that a bool comes back -/
structure Cmp (X : Cx) (op : CmpOp) (o : Op2) : Prop where
  ex : ∃ r, OpR X (compareOp op) r ∧ Ok2 X.K X.w r o
  bl : ∀ x y st d st', o x y st = some (d, st') → ∃ b, d = .bl b
theorem rel_bl {p : Int → Int → Bool} : ∀ x y st d st', relO p x y st = some (d, st') → ∃ b, d = .bl b := fun x y st d st' h => by
  unfold relO at h
  split at h
  · cases h; exact ⟨_, rfl⟩
  · cases h
theorem cm_lt : Cmp X .Lt ltO := ⟨⟨_, op_lt, ok_rel⟩, rel_bl⟩
theorem cm_le : Cmp X .LtE leO := ⟨⟨_, op_le, ok_rel⟩, rel_bl⟩
theorem cm_gt : Cmp X .Gt gtO := ⟨⟨_, op_gt, ok_rel⟩, rel_bl⟩
theorem cm_ge : Cmp X .GtE geO := ⟨⟨_, op_ge, ok_rel⟩, rel_bl⟩
mutual
theorem py_dp {K : PySem.W.Frag} {ww : World} {H : Hp} {μ : List Addr} {st : Sto} (g : Gd K ww H μ st) : ∀ (n : Nat) (d : D) (v : V) (p : PyData), py st n d = some p → Rep K H μ d v → Dp K H v p
  | n, .non, v, p, h, r => by simp only [py] at h; simp only [Rep] at r; cases h; subst r; exact .non
  | n, .bl b, v, p, h, r => by simp only [py] at h; simp only [Rep] at r; cases h; subst r; exact .bl b
  | n, .int b, v, p, h, r => by simp only [py] at h; simp only [Rep] at r; cases h; subst r; exact .int b
  | n, .str b, v, p, h, r => by simp only [py] at h; simp only [Rep] at r; cases h; subst r; exact .str b
  | n, .tup xs, v, p, h, r => by
    simp only [py] at h
    simp only [Rep] at r
    obtain ⟨a, vs, rfl, s, rs⟩ := r
    cases e : pys st n xs with
    | none => rw [e] at h; cases h
    | some ps =>
      rw [e] at h
      cases h
      exact .tup s.1 (pys_dp g n xs vs ps e rs)
  | 0, .loc k, v, p, h, r => by simp only [py] at h; cases h
  | n + 1, .loc k, v, p, h, r => by
    simp only [py] at h
    simp only [Rep] at r
    obtain ⟨a, rfl, ha⟩ := r
    split at h
    · cases h
    · rename_i xs e1
      obtain ⟨vs, s, rs⟩ := g.getL ha e1
      cases e : pys st n xs with
      | none => rw [e] at h; cases h
      | some ps =>
        rw [e] at h
        cases h
        exact .lst s (pys_dp g n xs vs ps e rs)
  termination_by n d => (n, sizeOf d)
theorem pys_dp {K : PySem.W.Frag} {ww : World} {H : Hp} {μ : List Addr} {st : Sto} (g : Gd K ww H μ st) : ∀ (n : Nat) (ds : List D) (vs : List V) (ps : List PyData), pys st n ds = some ps → Reps K H μ ds vs → DpAll K H vs ps
  | n, [], vs, ps, h, r => by simp only [pys] at h; simp only [Reps] at r; cases h; subst r; exact .nil
  | n, d :: ds, vs, ps, h, r => by
    simp only [pys] at h
    simp only [Reps] at r
    obtain ⟨v, ws, rfl, r1, r2⟩ := r
    split at h
    · rename_i p qs e1 e2
      cases h
      exact .cons (py_dp g n d v p e1 r1) (pys_dp g n ds ws qs e2 r2)
    · cases h
  termination_by n d => (n, sizeOf d)
end
theorem eqS_ok {K : PySem.W.Frag} {H : Hp} {μ : List Addr} {x y : D} {vx vy : V} {b : Bool} (rx : Rep K H μ x vx) (ry : Rep K H μ y vy) (h : eqS x y = some b) : scal vx vy = true ∧ decide (vx = vy) = b := by
  cases x <;> cases y <;> first
    | (exfalso; cases h; done)
    | (simp only [Rep] at rx ry; subst rx ry; cases h; exact ⟨rfl, by simp⟩)
theorem cm_eq (hu : X.A.units + 64 < cLine) : Cmp X .Eq (eqO false) := ⟨⟨_, op_eq.or (op_eqD hu), by
  intro H μ st x y vx vy d st' Q g rx ry hv k
  unfold eqO at hv
  split at hv
  · rename_i b e
    cases hv
    obtain ⟨h1, h2⟩ := eqS_ok rx ry e
    refine .inl ⟨h1, ?_⟩
    rw [h2]
    exact here k g (by simp [Rep])
  · split at hv
    · rename_i p q e1 e2
      split at hv
      · rename_i hs
        cases hv
        exact .inr ⟨p, q, py_dp g _ _ _ _ e1 rx, py_dp g _ _ _ _ e2 ry, hs.1, hs.2, here k g (by simp [Rep])⟩
      · cases hv
    · cases hv⟩, fun x y st d st' h => by
  unfold eqO at h
  repeat' split at h
  all_goals first | (cases h; exact ⟨_, rfl⟩) | cases h⟩
theorem cm_ne (hu : X.A.units + 64 < cLine) : Cmp X .NotEq (eqO true) := ⟨⟨_, op_ne.or (op_neD hu), by
  intro H μ st x y vx vy d st' Q g rx ry hv k
  unfold eqO at hv
  split at hv
  · rename_i b e
    cases hv
    obtain ⟨h1, h2⟩ := eqS_ok rx ry e
    refine .inl ⟨h1, ?_⟩
    rw [h2]
    exact here k g (by simp [Rep])
  · split at hv
    · rename_i p q e1 e2
      split at hv
      · rename_i hs
        cases hv
        exact .inr ⟨p, q, py_dp g _ _ _ _ e1 rx, py_dp g _ _ _ _ e2 ry, hs.1, hs.2, here k g (by simp [Rep])⟩
      · cases hv
    · cases hv⟩, fun x y st d st' h => by
  unfold eqO at h
  repeat' split at h
  all_goals first | (cases h; exact ⟨_, rfl⟩) | cases h⟩
def nonD : D → Bool
  | .non => true
  | _ => false
theorem rep_non {K : PySem.W.Frag} {H : Hp} {μ : List Addr} {x : D} {v : V} (r : Rep K H μ x v) : decide (v = .non) = nonD x := by
  cases x with
  | non => simp only [Rep] at r; subst r; rfl
  | bl _ => simp only [Rep] at r; subst r; rfl
  | int _ => simp only [Rep] at r; subst r; rfl
  | str _ => simp only [Rep] at r; subst r; rfl
  | tup _ => simp only [Rep] at r; obtain ⟨_, _, rfl, _⟩ := r; rfl
  | loc _ => simp only [Rep] at r; obtain ⟨_, rfl, _⟩ := r; rfl
theorem isN_eq {x : D} {neg : Bool} {st : Sto} : isNO neg x .non st = some (.bl (nonD x != neg), st) := by cases x <;> rfl
theorem isN_bl {neg : Bool} : ∀ x y st d st', isNO neg x y st = some (d, st') → ∃ b, d = .bl b := fun x y st d st' h => by
  unfold isNO at h
  repeat' split at h
  all_goals first | (cases h; exact ⟨_, rfl⟩) | cases h
theorem cm_isN : Cmp X .Is (isNO false) := ⟨⟨_, op_isN, by
  intro H μ st x y vx vy d st' Q g rx ry hv k
  cases y with
  | non =>
    simp only [Rep] at ry
    rw [isN_eq] at hv
    cases hv
    refine ⟨ry, ?_⟩
    rw [rep_non rx]
    exact here k g (by simp [Rep])
  | _ => cases hv⟩, isN_bl⟩
theorem cm_notN : Cmp X .IsNot (isNO true) := ⟨⟨_, op_notN, by
  intro H μ st x y vx vy d st' Q g rx ry hv k
  cases y with
  | non =>
    simp only [Rep] at ry
    rw [isN_eq] at hv
    cases hv
    refine ⟨ry, ?_⟩
    rw [rep_non rx]
    exact here k g (by simp [Rep])
  | _ => cases hv⟩, isN_bl⟩
theorem flat_of {K : PySem.W.Frag} {H : Hp} {μ : List Addr} {x : D} {v : V} (r : Rep K H μ x v) (h : scalD x = true) : flatV v = true := by
  cases x <;> first | (cases h; done) | (simp only [Rep] at r; subst r; rfl)
theorem flats_of {K : PySem.W.Frag} {H : Hp} {μ : List Addr} : ∀ {xs : List D} {vs : List V}, Reps K H μ xs vs → xs.all scalD = true → vs.all flatV = true
  | [], vs, r, h => by simp only [Reps] at r; subst r; rfl
  | x :: xs, vs, r, h => by
    simp only [Reps] at r
    obtain ⟨v, ws, rfl, r1, r2⟩ := r
    simp only [List.all_cons, Bool.and_eq_true] at h ⊢
    exact ⟨flat_of r1 h.1, flats_of r2 h.2⟩
theorem eqF_of {K : PySem.W.Frag} {H : Hp} {μ : List Addr} {x y : D} {vx vy : V} (rx : Rep K H μ x vx) (ry : Rep K H μ y vy) (hx : scalD x = true) (hy : scalD y = true) : eqV vy vx = eqF y x := by
  cases x <;> cases y <;> first | (cases hx; done) | (cases hy; done) | (simp only [Rep] at rx ry; subst rx ry; rfl)
theorem inF_of {K : PySem.W.Frag} {H : Hp} {μ : List Addr} {x : D} {vx : V} (rx : Rep K H μ x vx) (hx : scalD x = true) : ∀ {xs : List D} {vs : List V}, Reps K H μ xs vs → xs.all scalD = true → inV vx vs = inF x xs
  | [], vs, r, h => by simp only [Reps] at r; subst r; rfl
  | y :: xs, vs, r, h => by
    simp only [Reps] at r
    obtain ⟨v, ws, rfl, r1, r2⟩ := r
    simp only [List.all_cons, Bool.and_eq_true] at h
    have ih := inF_of rx hx r2 h.2
    unfold inV inF at ih ⊢
    rw [List.any_cons, List.any_cons, ih, eqF_of rx r1 hx h.1]
theorem in_bl {neg : Bool} : ∀ x y st d st', inO neg x y st = some (d, st') → ∃ b, d = .bl b := fun x y st d st' h => by
  unfold inO at h
  repeat' split at h
  all_goals first | (cases h; exact ⟨_, rfl⟩) | cases h
theorem ok_in {K : PySem.W.Frag} {ww : World} (neg : Bool) : Ok2 K ww (fun x y H Q => (fun x y H Q => ∃ i j, x = V.str i ∧ y = .str j ∧ Q (.bl ((!(Builtin.Str.occurrences j i 0 j.length 1).isEmpty) != neg)) H) x y H Q ∨ rIn K neg x y H Q ∨ (fun x y H Q => ∃ d ds, Dp K H x d ∧ Dp K H y (.list ds) ∧ SeqAt.shaped d = true ∧ SeqAt.shaped (.list ds) = true ∧ Q (.bl ((ds.any fun z => PyData.eqv z d) != neg)) H) x y H Q) (inO neg) := by
  have nb : ∀ b : Bool, (b != neg) = if neg then !b else b := fun b => by cases b <;> cases neg <;> rfl
  intro H μ st x y vx vy d st' Q g rx ry hv k
  cases y with
  | str b =>
    cases x with
    | str a =>
      cases hv
      simp only [Rep] at rx ry
      subst rx ry
      exact .inl ⟨a, b, rfl, rfl, here k g (by simp only [Rep])⟩
    | _ => cases hv
  | tup ys =>
    simp only [inO] at hv
    split at hv
    · rename_i hs
      cases hv
      simp only [Rep] at ry
      obtain ⟨p, vs, rfl, ⟨s, _⟩, rs⟩ := ry
      refine .inr (.inl ⟨p, vs, rfl, .inr s, flat_of rx hs.1, flats_of rs hs.2, ?_⟩)
      rw [← nb, inF_of rx hs.1 rs hs.2]
      exact here k g (by simp only [Rep])
    · cases hv
  | loc n =>
    simp only [inO] at hv
    split at hv
    · cases hv
    · rename_i ys e1
      split at hv
      · rename_i hs
        cases hv
        simp only [Rep] at ry
        obtain ⟨p, rfl, hp⟩ := ry
        obtain ⟨vs, s, rs⟩ := g.getL hp e1
        refine .inr (.inl ⟨p, vs, rfl, .inl s, flat_of rx hs.1, flats_of rs hs.2, ?_⟩)
        rw [← nb, inF_of rx hs.1 rs hs.2]
        exact here k g (by simp only [Rep])
      · split at hv
        · rename_i p qs e2 e3
          split at hv
          · rename_i hs
            cases hv
            exact .inr (.inr ⟨p, qs, py_dp g _ _ _ _ e2 rx, py_dp g _ _ _ _ e3 ry, hs.1, hs.2, here k g (by simp only [Rep])⟩)
          · cases hv
        · cases hv
  | _ => cases hv
theorem cm_in (hu : X.A.units + 65 < cLine) : Cmp X .In (inO false) := ⟨⟨_, OpR.or (r := fun x y H Q => ∃ i j, x = V.str i ∧ y = .str j ∧ Q (.bl ((!(Builtin.Str.occurrences j i 0 j.length 1).isEmpty) != false)) H)
    (fun pins s σ H x y v u Q I rx ry ⟨i, j, e1, e2, q⟩ => op_in_str pins s σ H x y v u Q I rx ry ⟨i, j, e1, e2, by rw [Bool.bne_false] at q; exact q⟩) (op_in_seq.or fun pins s σ H x y v u Q I rx ry ⟨d, ds, h1, h2, h3, h4, q⟩ => op_inD hu pins s σ H x y v u Q I rx ry ⟨d, ds, h1, h2, h3, h4, by rw [Bool.bne_false] at q; exact q⟩), ok_in false⟩, in_bl⟩
theorem cm_notin (hu : X.A.units + 65 < cLine) : Cmp X .NotIn (inO true) := ⟨⟨_, OpR.or (r := fun x y H Q => ∃ i j, x = V.str i ∧ y = .str j ∧ Q (.bl ((!(Builtin.Str.occurrences j i 0 j.length 1).isEmpty) != true)) H)
    (fun pins s σ H x y v u Q I rx ry ⟨i, j, e1, e2, q⟩ => op_notIn_str pins s σ H x y v u Q I rx ry ⟨i, j, e1, e2, by rw [Bool.bne_true] at q; exact q⟩) (op_notIn_seq.or fun pins s σ H x y v u Q I rx ry ⟨d, ds, h1, h2, h3, h4, q⟩ => op_notInD hu pins s σ H x y v u Q I rx ry ⟨d, ds, h1, h2, h3, h4, by rw [Bool.bne_true] at q; exact q⟩), ok_in true⟩, in_bl⟩
section
variable {a b c : Expr} {f g h : SE} {pos : Pos} {op op' : CmpOp} {o o' : Op2}
theorem e_cmp (hc : Cmp X op o) (ha : PE X a (rdE X.K X.w f)) (hb : PE X b (rdE X.K X.w g)) (hm : behindInMarks op b = false := by first | exact nobehind _ (by decide) (by decide) | rfl) : PE X (.Compare a [op] [b] pos) (rdE X.K X.w (binF o f g)) :=
  let ⟨_, h1, h2⟩ := hc.ex
  se_cmp h1 h2 ha hb hm
theorem t_cmp (hc : Cmp X op o) (ha : PE X a (rdE X.K X.w f)) (hb : PE X b (rdE X.K X.w g)) (hm : behindInMarks op b = false := by first | exact nobehind _ (by decide) (by decide) | rfl) : PT X (.Compare a [op] [b] pos) (rdT X.K X.w (cmpT o f g)) :=
  let ⟨_, h1, h2⟩ := hc.ex
  st_cmp h1 h2 hc.bl ha hb hm
/-- a op b op' c, as a value -/
def chnF (o o' : Op2) (f g h : SE) : SE := fun σ st => bnd (f σ st) fun x s1 => bnd (g σ s1) fun y s2 => bnd (o x y s2) fun z s3 => match z with
  | .bl true => bnd (h σ s3) fun w s4 => o' y w s4
  | .bl false => some (.bl false, s3)
  | _ => none
theorem e_chain (hc : Cmp X op o) (hc' : Cmp X op' o') (ha : PE X a (rdE X.K X.w f)) (hb : PE X b (rdE X.K X.w g)) (h3 : PE X c (rdE X.K X.w h)) (hl : lastMarks [op, op'] [b, c] = false := by rfl) : PE X (.Compare a [op, op'] [b, c] pos) (rdE X.K X.w (chnF o o' f g h)) := by
  obtain ⟨r, p1, p2⟩ := hc.ex
  obtain ⟨r', q1, q2⟩ := hc'.ex
  refine (pe_chain p1 q1 ha hb h3 hl).weak fun τ H Q ⟨μ, st, σ, d, st', gd, er, hv, k⟩ => ?_
  obtain ⟨x, s1, e1, hv⟩ := bnd_eq hv
  obtain ⟨y, s2, e2, hv⟩ := bnd_eq hv
  obtain ⟨z, s3, e3, hv⟩ := bnd_eq hv
  refine ⟨μ, st, σ, x, s1, gd, er, e1, fun μ1 H1 vx g1 d1 r1 => ?_⟩
  refine ⟨μ1, s1, σ, y, s2, d1, er.m g1, e2, fun μ2 H2 vy g2 d2 r2 => ?_⟩
  refine p2 H2 μ2 s2 x y vx vy z s3 _ d2 (r1.m g2) r2 e3 fun μ3 H3 vz g3 d3 r3 => ?_
  obtain ⟨bb, rfl⟩ := hc.bl _ _ _ _ _ e3
  simp only [Rep] at r3
  refine ⟨bb, r3, ?_⟩
  cases bb with
  | false =>
    cases hv
    exact k μ3 H3 _ ((g1.trans g2).trans g3) d3 (by simp only [Rep])
  | true =>
    show rdE X.K X.w h τ H3 _
    obtain ⟨w, s4, e4, hv⟩ := bnd_eq hv
    refine ⟨μ3, s3, σ, w, s4, d3, er.m ((g1.trans g2).trans g3), e4, fun μ4 H4 vw g4 d4 r4 => ?_⟩
    exact q2 H4 μ4 s4 y w vy vw d st' Q d4 (r2.m (g3.trans g4)) r4 hv fun μ5 H5 v g5 d5 r5 => k μ5 H5 v ((((g1.trans g2).trans g3).trans g4).trans g5) d5 r5
end
end
end Iv

namespace Iv
open PySem L2
section
variable {X : Cx} {K : PySem.W.Frag} {ww : World}
/-! ### an item -/
theorem ixN_lt {n : Nat} {i : Int} {j : Nat} (h : ixN n i = some j) : j < n := (ixN_seq h).2.1
theorem atI_rep {H : Hp} {μ : List Addr} {xs : List D} {vs : List V} {i : Int} {d : D} (r : Reps K H μ xs vs) (h : atI xs i = some d) : ∃ v, atI vs i = some v ∧ Rep K H μ d v := by
  unfold atI at h ⊢
  rw [← r.len]
  cases e : ixN xs.length i with
  | none => rw [e] at h; cases h
  | some j =>
    rw [e] at h
    obtain ⟨v, h1, h2⟩ := r.get h
    exact ⟨v, h1, h2⟩
theorem ok_ix : Ok2 K ww (rIx K) ixO := by
  intro H μ st x y vx vy d st' Q g rx ry hv k
  cases y with
  | int i =>
    simp only [Rep] at ry
    subst ry
    cases x with
    | loc n =>
      simp only [Rep] at rx
      obtain ⟨p, rfl, hp⟩ := rx
      simp only [ixO] at hv
      split at hv
      · cases hv
      · rename_i xs e
        obtain ⟨vs, s, rs⟩ := g.getL hp e
        cases e1 : atI xs i with
        | none => rw [e1] at hv; cases hv
        | some z =>
          rw [e1] at hv
          cases hv
          obtain ⟨v, h1, h2⟩ := atI_rep rs e1
          exact .inl ⟨p, vs, i, v, rfl, rfl, s, h1, here k g h2⟩
    | tup xs =>
      simp only [Rep] at rx
      obtain ⟨p, vs, rfl, ⟨s, _⟩, rs⟩ := rx
      simp only [ixO] at hv
      cases e1 : atI xs i with
      | none => rw [e1] at hv; cases hv
      | some z =>
        rw [e1] at hv
        cases hv
        obtain ⟨v, h1, h2⟩ := atI_rep rs e1
        exact .inr (.inl ⟨p, vs, i, v, rfl, rfl, s, h1, here k g h2⟩)
    | str z =>
      simp only [Rep] at rx
      subst rx
      simp only [ixO] at hv
      split at hv
      · rename_i hl
        cases e1 : atI z.cps.toList i with
        | none => rw [e1] at hv; cases hv
        | some c =>
          rw [e1] at hv
          cases hv
          exact .inr (.inr ⟨z, i, c, rfl, rfl, lim_ok hl, e1, here k g (by simp only [Rep])⟩)
      · cases hv
    | _ => cases hv
  | _ => cases x <;> cases hv
theorem e_ix {a b : Expr} {f g : SE} {pos : Pos} (ha : PE X a (rdE X.K X.w f)) (hb : PE X b (rdE X.K X.w g)) (hs : PlainIx b := by exact fun _ _ => rfl) : PE X (.Subscript a b pos) (rdE X.K X.w (binF ixO f g)) := se_ix ix_seq ok_ix ha hb hs
/-! ### built-in functions -/
theorem ok_len : OkN K ww (fun xs H Q => ∃ x n, xs = [x] ∧ LenV K x H n ∧ Q (.int n) H) lenO := by
  intro H μ st xs vs d st' Q g r hv k
  unfold lenO at hv
  split at hv
  · rename_i x st1
    split at hv
    · rename_i hl
      cases hv
      obtain ⟨v, rfl, rv⟩ := reps1 r
      simp only [Rep] at rv
      subst rv
      exact ⟨_, _, rfl, ⟨lim_ok hl, rfl⟩, here k g (by simp only [Rep])⟩
    · cases hv
  · rename_i ys
    cases hv
    obtain ⟨v, rfl, rv⟩ := reps1 r
    simp only [Rep] at rv
    obtain ⟨p, ws, rfl, ⟨s, _⟩, rs⟩ := rv
    exact ⟨_, _, rfl, .inr ⟨ws, s, rs.len⟩, here k g (by simp only [Rep])⟩
  · rename_i n
    obtain ⟨v, rfl, rv⟩ := reps1 r
    simp only [Rep] at rv
    obtain ⟨p, rfl, hp⟩ := rv
    cases e : getL st n with
    | none => rw [e] at hv; cases hv
    | some ys =>
      rw [e] at hv
      cases hv
      obtain ⟨ws, s, rs⟩ := g.getL hp e
      exact ⟨_, ys.length, rfl, .inl ⟨ws, s, rs.len⟩, here k g (by simp only [Rep])⟩
  · cases hv
theorem e_len {p pos : Pos} {e : Expr} {f : SA} (hg : Gl X "len") (hm : X.mg "len" = none) (ha : PA X [e] (rdA X.K X.w f)) (he : starEach [e] X.env = (false, eval e X.env) :: starEach [] X.env := by rfl) : PE X (.Call (.Name "len" p) [e] [] pos) (rdE X.K X.w (appF lenO f)) :=
  se_callB call_len ok_len hg hm PySem.boot_len ha (he := he)
theorem ok_intOf : OkN K ww (fun xs H Q => ((∃ i, xs = [.int i] ∧ Q (.int i) H) ∨ ∃ k, xs = [.bl k] ∧ Q (.int (if k then 1 else 0)) H) ∨ ∃ a n, xs = [.str a] ∧ PySem.intText? a = some n ∧ a.length ≤ 640 ∧ Q (.int n) H) intOf := by
  intro H μ st xs vs d st' Q g r hv k
  unfold intOf at hv
  split at hv
  · cases hv
    obtain ⟨v, rfl, rv⟩ := reps1 r
    simp only [Rep] at rv
    subst rv
    exact .inl (.inl ⟨_, rfl, here k g (by simp only [Rep])⟩)
  · cases hv
    obtain ⟨v, rfl, rv⟩ := reps1 r
    simp only [Rep] at rv
    subst rv
    exact .inl (.inr ⟨_, rfl, here k g (by simp only [Rep])⟩)
  · split at hv
    · rename_i n e
      split at hv
      · rename_i hl
        cases hv
        obtain ⟨v, rfl, rv⟩ := reps1 r
        simp only [Rep] at rv
        subst rv
        exact .inr ⟨_, n, rfl, e, hl, here k g (by simp only [Rep])⟩
      · cases hv
    · cases hv
  · cases hv
theorem e_int {p pos : Pos} {e : Expr} {f : SA} (hg : Gl X "int") (hm : X.mg "int" = none) (ha : PA X [e] (rdA X.K X.w f)) (he : starEach [e] X.env = (false, eval e X.env) :: starEach [] X.env := by rfl) : PE X (.Call (.Name "int" p) [e] [] pos) (rdE X.K X.w (appF intOf f)) :=
  se_callTy (call_int1.or call_int_str) ok_intOf hg hm (by decide +kernel) ha (he := he)
theorem ok_abs : OkN K ww (fun xs H Q => ∃ i, xs = [.int i] ∧ Q (.int (if i < 0 then -i else i)) H) absO := by
  intro H μ st xs vs d st' Q g r hv k
  unfold absO at hv
  split at hv
  · cases hv
    obtain ⟨v, rfl, rv⟩ := reps1 r
    simp only [Rep] at rv
    subst rv
    exact ⟨_, rfl, here k g (by simp only [Rep])⟩
  · cases hv
theorem e_abs {p pos : Pos} {e : Expr} {f : SA} (hg : Gl X "abs") (hm : X.mg "abs" = none) (ha : PA X [e] (rdA X.K X.w f)) (he : starEach [e] X.env = (false, eval e X.env) :: starEach [] X.env := by rfl) : PE X (.Call (.Name "abs" p) [e] [] pos) (rdE X.K X.w (appF absO f)) :=
  se_callB call_abs ok_abs hg hm (by decide +kernel) ha (he := he)
theorem ok_strOf : OkN K ww (fun xs H Q => (∃ i, xs = [.int i] ∧ i.natAbs.log2 < 1920 ∧ Q (.str (toString i)) H) ∨ ∃ a, xs = [.str a] ∧ Q (.str a) H) strOf := by
  intro H μ st xs vs d st' Q g r hv k
  unfold strOf at hv
  split at hv
  · split at hv
    · rename_i hl
      cases hv
      obtain ⟨v, rfl, rv⟩ := reps1 r
      simp only [Rep] at rv
      subst rv
      exact .inl ⟨_, rfl, hl, here k g (by simp only [Rep])⟩
    · cases hv
  · cases hv
    obtain ⟨v, rfl, rv⟩ := reps1 r
    simp only [Rep] at rv
    subst rv
    exact .inr ⟨_, rfl, here k g (by simp only [Rep])⟩
  · cases hv
theorem e_str {p pos : Pos} {e : Expr} {f : SA} (hg : Gl X "str") (hm : X.mg "str" = none) (ha : PA X [e] (rdA X.K X.w f)) (he : starEach [e] X.env = (false, eval e X.env) :: starEach [] X.env := by rfl) : PE X (.Call (.Name "str" p) [e] [] pos) (rdE X.K X.w (appF strOf f)) :=
  se_callTy (call_str_int.or SkE.call_str_str) ok_strOf hg hm (by decide +kernel) ha (he := he)
/-- tuple(l), the object told -/
def rTupN (K : PySem.W.Frag) : List V → Hp → VK → Prop := fun xs H Q => ∃ p ys, xs = [.ref p] ∧ ((SqL K H p ys ∧ ∀ (l : Addr) (o : Obj), H l = none → o.cls = .type "tuple" → o.dict = none → Q (.ref l) (upd H l (.frz o (.tup ys)))) ∨ (SqT K H p ys ∧ Q (.ref p) H))
theorem cr_tupN : CallR X (.type "tuple") (rTupN X.K) := fun pins s σ H xs us Q I r ⟨p, ys, ex, h⟩ => by
  subst ex
  obtain ⟨u, rfl, rx⟩ := vals1 r
  cases rx
  rcases h with ⟨a1, a2⟩ | ⟨a1, a2⟩
  · obtain ⟨its, rv, pl, hz⟩ := I.list a1
    refine call_tuple_list pl.isList (fun h2 kp => ?_) (by have := rv.length; simp only [List.size_toArray] <;> omega)
    have J := I.kept (t' := s.toks) kp
    exact ⟨.ref h2.objs.size, _, J.laid (t' := s.toks) (h' := h2.push { cls := .type "tuple", data := .seq its.toArray }) (o := .frz _ (.tup ys)) (fun b o e => Heap.get?_push_of_some _ e) (Nat.le_refl _) ⟨Heap.get?_push_size _ rfl, hz, its, rv, ⟨_, Heap.get?_push_size _ rfl, rfl, _, rfl⟩⟩, rfl, a2 _ _ (J.hok.fresh (Nat.le_refl _)) rfl rfl⟩
  · obtain ⟨its, rv, pl, hz⟩ := I.tuple a1
    exact call_tuple_same pl ⟨.ref p, H, I, rfl, a2⟩
theorem ok_tupleO : OkN K ww (rTupN K) tupleO := by
  intro H μ st xs vs d st' Q g r hv k
  unfold tupleO at hv
  split at hv
  · rename_i n
    obtain ⟨v, rfl, rv⟩ := reps1 r
    simp only [Rep] at rv
    obtain ⟨p, rfl, hp⟩ := rv
    cases e : getL st n with
    | none => rw [e] at hv; cases hv
    | some ys =>
      rw [e] at hv
      cases hv
      obtain ⟨ws, s, rs⟩ := g.getL hp e
      exact ⟨p, ws, rfl, .inl ⟨s, new_tup g rs k⟩⟩
  · cases hv
    obtain ⟨v, rfl, rv⟩ := reps1 r
    have rv' := rv
    simp only [Rep] at rv
    obtain ⟨p, ws, rfl, ⟨s, _⟩, rs⟩ := rv
    exact ⟨p, ws, rfl, .inr ⟨s, here k g rv'⟩⟩
  · cases hv
theorem e_tuple {p pos : Pos} {e : Expr} {f : SA} (hg : Gl X "tuple") (hm : X.mg "tuple" = none) (ha : PA X [e] (rdA X.K X.w f)) (he : starEach [e] X.env = (false, eval e X.env) :: starEach [] X.env := by rfl) : PE X (.Call (.Name "tuple" p) [e] [] pos) (rdE X.K X.w (appF tupleO f)) :=
  se_callTy cr_tupN ok_tupleO hg hm (by decide +kernel) ha (he := he)
theorem ok_listO : OkN K ww (fun xs H Q => ∃ p ys, xs = [.ref p] ∧ (SqL K H p ys ∨ SqT K H p ys) ∧ ∀ l, H l = none → Q (.ref l) (upd H l (.lst ys))) listO := by
  intro H μ st xs vs d st' Q g r hv k
  unfold listO at hv
  split at hv
  · rename_i n
    obtain ⟨v, rfl, rv⟩ := reps1 r
    simp only [Rep] at rv
    obtain ⟨p, rfl, hp⟩ := rv
    cases e : getL st n with
    | none => rw [e] at hv; cases hv
    | some ys =>
      rw [e] at hv
      cases hv
      obtain ⟨ws, s, rs⟩ := g.getL hp e
      exact ⟨p, ws, rfl, .inl s, new_lst g rs k⟩
  · cases hv
    obtain ⟨v, rfl, rv⟩ := reps1 r
    simp only [Rep] at rv
    obtain ⟨p, ws, rfl, ⟨s, _⟩, rs⟩ := rv
    exact ⟨p, ws, rfl, .inr s, new_lst g rs k⟩
  · cases hv
theorem e_list {p pos : Pos} {e : Expr} {f : SA} (hg : Gl X "list") (hm : X.mg "list" = none) (ha : PA X [e] (rdA X.K X.w f)) (he : starEach [e] X.env = (false, eval e X.env) :: starEach [] X.env := by rfl) : PE X (.Call (.Name "list" p) [e] [] pos) (rdE X.K X.w (appF listO f)) :=
  se_callTy call_list_of ok_listO hg hm (by decide +kernel) ha (he := he)
theorem bls_of {H : Hp} {μ : List Addr} : ∀ {xs : List D} {vs : List V} {bs : List Bool}, Reps K H μ xs vs → blsD xs = some bs → vs = bs.map V.bl
  | [], vs, bs, r, h => by simp only [Reps] at r; cases h; exact r
  | x :: xs, vs, bs, r, h => by
    simp only [Reps] at r
    obtain ⟨v, ws, rfl, r1, r2⟩ := r
    cases x with
    | bl b =>
      simp only [blsD] at h
      cases e : blsD xs with
      | none => rw [e] at h; cases h
      | some cs =>
        rw [e] at h
        cases h
        simp only [Rep] at r1
        rw [r1, bls_of r2 e]
        rfl
    | _ => cases h
theorem ok_any : OkN K ww (rAny K) (anyO false) := by
  intro H μ st xs vs d st' Q g r hv k
  unfold anyO at hv
  split at hv
  · rename_i n
    obtain ⟨v, rfl, rv⟩ := reps1 r
    simp only [Rep] at rv
    obtain ⟨p, rfl, hp⟩ := rv
    split at hv
    · cases hv
    · rename_i ys e
      cases e2 : blsD ys with
      | none => rw [e2] at hv; cases hv
      | some bs =>
        rw [e2] at hv
        cases hv
        obtain ⟨ws, s, rs⟩ := g.getL hp e
        rw [bls_of rs e2] at s
        exact ⟨p, bs, rfl, s, here k g (by simp [Rep])⟩
  · cases hv
theorem ok_all : OkN K ww (rAll K) (anyO true) := by
  intro H μ st xs vs d st' Q g r hv k
  unfold anyO at hv
  split at hv
  · rename_i n
    obtain ⟨v, rfl, rv⟩ := reps1 r
    simp only [Rep] at rv
    obtain ⟨p, rfl, hp⟩ := rv
    split at hv
    · cases hv
    · rename_i ys e
      cases e2 : blsD ys with
      | none => rw [e2] at hv; cases hv
      | some bs =>
        rw [e2] at hv
        cases hv
        obtain ⟨ws, s, rs⟩ := g.getL hp e
        rw [bls_of rs e2] at s
        exact ⟨p, bs, rfl, s, here k g (by simp [Rep])⟩
  · cases hv
theorem e_any {p pos : Pos} {e : Expr} {f : SA} (hc : X.calm = true) (hg : Gl X "any") (hm : X.mg "any" = none) (ha : PA X [e] (rdA X.K X.w f)) (he : starEach [e] X.env = (false, eval e X.env) :: starEach [] X.env := by rfl) : PE X (.Call (.Name "any" p) [e] [] pos) (rdE X.K X.w (appF (anyO false) f)) :=
  se_callB (cr_any hc) ok_any hg hm (by decide +kernel) ha (he := he)
theorem e_all {p pos : Pos} {e : Expr} {f : SA} (hc : X.calm = true) (hg : Gl X "all") (hm : X.mg "all" = none) (ha : PA X [e] (rdA X.K X.w f)) (he : starEach [e] X.env = (false, eval e X.env) :: starEach [] X.env := by rfl) : PE X (.Call (.Name "all" p) [e] [] pos) (rdE X.K X.w (appF (anyO true) f)) :=
  se_callB (cr_all hc) ok_all hg hm (by decide +kernel) ha (he := he)
theorem ok_max2 : OkN K ww (fun xs H Q => ∃ i j, xs = [.int i, .int j] ∧ Q (.int (if j > i then j else i)) H) max2O := by
  intro H μ st xs vs d st' Q g r hv k
  unfold max2O at hv
  split at hv
  · cases hv
    obtain ⟨v, w, rfl, rv, rw'⟩ := reps2 r
    simp only [Rep] at rv rw'
    subst rv rw'
    exact ⟨_, _, rfl, here k g (by simp only [Rep])⟩
  · cases hv
theorem ok_min2 : OkN K ww (fun xs H Q => ∃ i j, xs = [.int i, .int j] ∧ Q (.int (if j < i then j else i)) H) min2O := by
  intro H μ st xs vs d st' Q g r hv k
  unfold min2O at hv
  split at hv
  · cases hv
    obtain ⟨v, w, rfl, rv, rw'⟩ := reps2 r
    simp only [Rep] at rv rw'
    subst rv rw'
    exact ⟨_, _, rfl, here k g (by simp only [Rep])⟩
  · cases hv
theorem e_max2 {p pos : Pos} {e e2 : Expr} {f : SA} (hc : X.calm = true) (hg : Gl X "max") (hm : X.mg "max" = none) (ha : PA X [e, e2] (rdA X.K X.w f)) (he : starEach [e, e2] X.env = (false, eval e X.env) :: starEach [e2] X.env := by rfl) (hpl : (backTo pos (starEach [e2] X.env)).any (·.1) = false := by rfl) : PE X (.Call (.Name "max" p) [e, e2] [] pos) (rdE X.K X.w (appF max2O f)) :=
  se_callB (call_max2 hc) ok_max2 hg hm (by decide +kernel) ha (he := he) (hpl := hpl)
theorem e_min2 {p pos : Pos} {e e2 : Expr} {f : SA} (hc : X.calm = true) (hg : Gl X "min") (hm : X.mg "min" = none) (ha : PA X [e, e2] (rdA X.K X.w f)) (he : starEach [e, e2] X.env = (false, eval e X.env) :: starEach [e2] X.env := by rfl) (hpl : (backTo pos (starEach [e2] X.env)).any (·.1) = false := by rfl) : PE X (.Call (.Name "min" p) [e, e2] [] pos) (rdE X.K X.w (appF min2O f)) :=
  se_callB (call_min2 hc) ok_min2 hg hm (by decide +kernel) ha (he := he) (hpl := hpl)
/-! ### isinstance -/
theorem tyx_ref {H : Hp} {p : Addr} {vs : List V} (h : SqL K H p vs) : TyX K H (.ref p) (.type "list") := by
  rcases h with (h | ⟨o, h⟩) | ⟨o, its, n, h, c, _⟩
  · exact .base (.lst h)
  · exact .base (.frz h)
  · exact .kList h c
theorem tyx_tup {H : Hp} {p : Addr} {vs : List V} (h : SqT K H p vs) : TyX K H (.ref p) (.type "tuple") := by
  rcases h with (h | ⟨o, h⟩) | ⟨o, its, n, h, c, _⟩
  · exact .base (.tup h)
  · exact .fTuple h
  · exact .kTuple h c
def KitT (T : String) : Prop := kitB "NoneType" T = some false ∧ kitB "bool" T = some (T == "bool" || T == "int") ∧ kitB "int" T = some (T == "int") ∧ kitB "str" T = some (T == "str") ∧ kitB "tuple" T = some (T == "tuple") ∧ kitB "list" T = some (T == "list")
theorem e_isi {p q pos : Pos} {e : Expr} {f : SE} {T : String} {x : Str} (hT : KitT T) (hg : Gl X "isinstance") (hm : X.mg "isinstance" = none) (hgT : Gl X x) (hmT : X.mg x = none) (hvT : bootBuiltins x = some (.type T)) (ha : PE X e (rdE X.K X.w f))
    (hn : x ≠ "__name__" := by decide) (hdb : (x == ("__debug__" : Str)) = false := by decide) (he : starEach [e, .Name x q] X.env = (false, eval e X.env) :: starEach [.Name x q] X.env := by rfl) (hpl : (backTo pos (starEach [.Name x q] X.env)).any (·.1) = false := by rfl) (hs2 : starEach [.Name x q] X.env = (false, eval (.Name x q) X.env) :: starEach [] X.env := by rfl) : PE X (.Call (.Name "isinstance" p) [e, .Name x q] [] pos) (rdE X.K X.w (unF (isiO T) f)) :=
  (pe_callB call_isi hg hm (by decide +kernel) (pa_cons ha (pa_cons (pe_bltn (v := .ty T) hgT hmT hvT rfl hn hdb) pa_nil hs2) he) (by decide) (by decide) he hpl).weak fun τ H Q ⟨μ, st, σ, d, st', gd, er, hv, k⟩ => by
    obtain ⟨x, s1, h1, hv⟩ := bnd_eq hv
    obtain ⟨t1, t2, t3, t4, t5, t6⟩ := hT
    refine ⟨μ, st, σ, x, s1, gd, er, h1, fun μ1 H1 v g1 d1 r1 => ?_⟩
    cases x with
    | non => cases hv; simp only [Rep] at r1; subst r1; exact ⟨_, _, _, _, _, rfl, .ty T, .base .non, kit_ty t1, k μ1 H1 _ g1 d1 (by simp only [Rep, isi])⟩
    | bl b => cases hv; simp only [Rep] at r1; subst r1; exact ⟨_, _, _, _, _, rfl, .ty T, .base (.bl b), kit_ty t2, k μ1 H1 _ g1 d1 (by simp only [Rep, isi])⟩
    | int b => cases hv; simp only [Rep] at r1; subst r1; exact ⟨_, _, _, _, _, rfl, .ty T, .base (.int b), kit_ty t3, k μ1 H1 _ g1 d1 (by simp only [Rep, isi])⟩
    | str b => cases hv; simp only [Rep] at r1; subst r1; exact ⟨_, _, _, _, _, rfl, .ty T, .base (.str b), kit_ty t4, k μ1 H1 _ g1 d1 (by simp only [Rep, isi])⟩
    | tup xs =>
      cases hv
      simp only [Rep] at r1
      obtain ⟨a, vs, rfl, s, _⟩ := r1
      exact ⟨_, _, _, _, _, rfl, .ty T, tyx_tup s.1, kit_ty t5, k μ1 H1 _ g1 d1 (by simp only [Rep, isi])⟩
    | loc n =>
      simp only [isiO] at hv
      cases e9 : getL s1 n with
      | none => rw [e9] at hv; cases hv
      | some xs =>
        rw [e9] at hv
        cases hv
        simp only [Rep] at r1
        obtain ⟨a, rfl, hp⟩ := r1
        obtain ⟨vs, s, _⟩ := d1.getL hp e9
        exact ⟨_, _, _, _, _, rfl, .ty T, tyx_ref s, kit_ty t6, k μ1 H1 _ g1 d1 (by simp only [Rep, isi])⟩
theorem kit_list : KitT "list" := by unfold KitT; decide +kernel
theorem kit_tuple : KitT "tuple" := by unfold KitT; decide +kernel
theorem kit_str : KitT "str" := by unfold KitT; decide +kernel
theorem kit_int : KitT "int" := by unfold KitT; decide +kernel
theorem kit_bool : KitT "bool" := by unfold KitT; decide +kernel
/-! ### methods -/
theorem ok_append : OkM K ww rAppend appendO := by
  intro H μ st x ys vx vs d st' Q g rx r hv k
  cases x with
  | loc n =>
    simp only [appendO] at hv
    split at hv
    · rename_i n' y e9
      cases e9
      split at hv
      · cases hv
      · rename_i xs e
        split at hv
        · rename_i hl
          cases hv
          simp only [Rep] at rx
          obtain ⟨p, rfl, hp⟩ := rx
          obtain ⟨v, rfl, rv⟩ := reps1 r
          obtain ⟨ws, hH, rs⟩ := g.getM hp e
          have gw : Gr H μ (upd H p (.lst (ws ++ [v]))) μ := gr_write hH
          exact ⟨p, ws, v, rfl, rfl, hH, lim_lt (by rw [← rs.len]; exact hl), k μ _ _ gw (g.write hp (getM_get e) hH (rs.app (reps_cons rv reps_nil))) (by simp only [Rep])⟩
        · cases hv
    · cases hv
  | _ => cases hv
theorem e_append {o e : Expr} {apos cpos : Pos} {f : SE} {g : SA} (ho : PE X o (rdE X.K X.w f)) (ha : PA X [e] (rdA X.K X.w g))
    (hbase : attributeBase o "append" X.env (eval o X.env) = eval o X.env := by rfl)
    (hfew : ((backTo cpos (starEach [e] X.env)).all (fun x => !x.1) && (backToKw cpos (keywordEach [] X.env)).all (fun x => x.1.isSome)
      && decide ([e].length + ([] : List Keyword).length + (if ([] : List Keyword).isEmpty then 0 else 1) < 30)) = true := by rfl)
    (hline : (apos.endLine == cpos.line) = true := by rfl) (hs : starEach [e] X.env = (false, eval e X.env) :: starEach [] X.env := by rfl) :
    PE X (.Call (.Attribute o "append" apos) [e] [] cpos) (rdE X.K X.w (bmF "list" appendO f g)) :=
  se_bm PySem.F.plainAttrs_list PySem.F.slot_list_append PySem.F.type_list_append mt_append ok_append ho ha hbase hfew hline hs rfl
end
end Iv

namespace Iv
open PySem L2 PySem.Spec
section
variable {X : Cx} {K : PySem.W.Frag} {ww : World}
/-! ### x op= e -/
def iaddO : Op2
  | .int i, .int j, st => some (.int (i + j), st)
  | .str a, .str b, st => if a.length + b.length ≤ LIM then some (.str (a ++ b), st) else none
  | _, _, _ => none
theorem ok_iadd : Ok2 K ww (fun x y H Q => (rI0 fun i j => V.int (i + j)) x y H Q ∨ (fun x y H Q => ∃ i j, x = V.str i ∧ y = .str j ∧ i.length + j.length ≤ sizeLine ∧ Q (.str (i ++ j)) H) x y H Q) iaddO := by
  intro H μ st x y vx vy d st' Q g rx ry hv k
  cases x with
  | int i =>
    cases y with
    | int j =>
      simp only [Rep] at rx ry
      subst rx ry
      cases hv
      exact .inl ⟨i, j, rfl, rfl, here k g (by simp only [Rep])⟩
    | _ => cases hv
  | str a =>
    cases y with
    | str b =>
      simp only [Rep] at rx ry
      subst rx ry
      simp only [iaddO] at hv
      split at hv
      · rename_i hl
        cases hv
        exact .inr ⟨a, b, rfl, rfl, lim_ok hl, here k g (by simp only [Rep])⟩
      · cases hv
    | _ => cases hv
  | _ => cases hv
theorem s_iadd {i : Nat} {x : Str} {e : Expr} {f : SE} {pos pos' : Pos} (hN : X.N.Nodup) (hi : X.N[i]? = some x) (hx : Loc X.env.scope x) (he : PE X e (rdE X.K X.w f)) (hf : X.fn x = true ∨ X.env.scope.names.lookup x = some .local := by first | exact .inl rfl | exact .inr rfl | assumption) :
    PS X (.AugAssign (.Name x pos') .Add e pos) (rdS X.K X.w (augS i iaddO f)) := ss_aug hN hi hx he (OpR.or iop_add iop_add_str) ok_iadd hf
/-! ### constants of the module -/
def Con (K : PySem.W.Frag) (mg : Str → Option Value) (x : Str) (d : D) : Prop := ∃ u v, mg x = some u ∧ RelV v u ∧ ∀ H μ, Rep K H μ d v
theorem e_con {x : Str} {d : D} {pos : Pos} (C : Con X.K X.mg x d) (hg : Gl X x) (hd : (x == ("__debug__" : Str)) = false := by decide) : PE X (.Name x pos) (rdE X.K X.w (cstF d)) := by
  obtain ⟨u, v, hm, r, q⟩ := C
  exact se_cst (pe_glob hg hm r hd) q
/-! the same, item by item -/
mutual
inductive CV (K : PySem.W.Frag) : Value → D → Prop
  | non : CV K .none .non
  | bl (b : Bool) : CV K (.bool b) (.bl b)
  | int {i : Int} {t : Tok} : CV K (.int i t) (.int i)
  | str {x : Str} {t : Tok} : CV K (.str x t) (.str x)
  | tup {p : Addr}  {its : Array Value} {n : Nat} {sl : Array (Option Value)} {ds : List D} (l : K.lookup p = some ⟨.type "tuple", none, .seq its n, sl⟩) (z : its.size ≤ 1000) (h : CVs K its.toList ds) : CV K (.ref p) (.tup ds)
inductive CVs (K : PySem.W.Frag) : List Value → List D → Prop
  | nil : CVs K [] []
  | cons {u : Value} {us : List Value} {d : D} {ds : List D} (h : CV K u d) (r : CVs K us ds) : CVs K (u :: us) (d :: ds)
end
mutual
theorem cv_ok {K : PySem.W.Frag} : ∀ {u : Value} {d : D}, CV K u d → ∃ v, RelV v u ∧ ∀ H μ, Rep K H μ d v
  | _, _, .non => ⟨.non, rfl, fun _ _ => by simp only [Rep]⟩
  | _, _, .bl b => ⟨.bl b, rfl, fun _ _ => by simp only [Rep]⟩
  | _, _, .int => ⟨.int _, ⟨_, rfl⟩, fun _ _ => by simp only [Rep]⟩
  | _, _, .str => ⟨.str _, ⟨_, rfl⟩, fun _ _ => by simp only [Rep]⟩
  | _, _, .tup l z h => by
    obtain ⟨vs, r, q⟩ := cvs_ok h
    exact ⟨.ref _, rfl, fun H μ => rep_tup (.inr ⟨_, _, _, l, rfl, rfl, Nat.le_trans z (by rw [sizeLine_eq]; decide), r⟩) (fun _ => .inr ⟨_, l, rfl, rfl⟩) (q H μ)⟩
theorem cvs_ok {K : PySem.W.Frag} : ∀ {us : List Value} {ds : List D}, CVs K us ds → ∃ vs, Vals vs us ∧ ∀ H μ, Reps K H μ ds vs
  | _, _, .nil => ⟨[], .nil, fun _ _ => reps_nil⟩
  | _, _, .cons h r => by
    obtain ⟨v, r1, q⟩ := cv_ok h
    obtain ⟨vs, rs, qs⟩ := cvs_ok r
    exact ⟨v :: vs, .cons r1 rs, fun H μ => reps_cons (q H μ) (qs H μ)⟩
end
theorem con_mk {h : Heap} {mg : Str → Option Value} {x : Str} {u : Value} {d : D} (X : K.In h) (G : h.Ns mainGlobals mg) (a : PySem.W.nsIn K mainGlobals x = some (some u)) (c : CV K u d) : Con K mg x d := by
  obtain ⟨v, r, q⟩ := cv_ok c
  exact ⟨u, v, PySem.W.mg_of X G a, r, q⟩
/-! ### defs -/
structure Def (K : PySem.W.Frag) (mg : Str → Option Value) (x : Str) (st : Stmt) (ps : List Str) : Prop where
  ex : ∃ f fd, Fun K x x st f fd ∧ mg x = some (.ref f) ∧ Binds K fd ps []
theorem def_mk {h : Heap} {mg : Str → Option Value} {x : Str} {st : Stmt} {ps : List Str} {f : Addr} {oc kV doc pm cdv ct : Value} {od an : Option Addr} {osl : Array (Option Value)} (X : K.In h) (G : h.Ns mainGlobals mg)
    (a : PySem.W.nsIn K mainGlobals x = some (some (.ref f))) (l : K.lookup f = some ⟨oc, od, .func (PySem.W.fnOf x x (defArgs st) (defBody st) (defScope st) .none kV doc pm an cdv ct), osl⟩) (c : PySem.W.codeIn K cdv x = true) (k : PySem.W.keepIn K (.ref f) = true)
    (b : ∀ (kV doc pm : Value) (an : Option Addr) (cdv ct : Value) (us : List Value), us.length = ps.length → bindArgs (PySem.W.fnOf x x (defArgs st) (defBody st) (defScope st) .none kV doc pm an cdv ct) ⟨us, []⟩ = pure (ps.zip us)) : Def K mg x st ps :=
  ⟨f, _, fun_mk l c k, PySem.W.mg_of X G a, (fun_mk l c k).binds b⟩
structure Cal (P : Program) (w : World) (K : PySem.W.Frag) (mg : Str → Option Value) (base : Heap) (k : Nat) (x : Str) (ps : List Str) (φ : Fx) : Prop where
  ex : ∃ f fd, FnOk P w K mg base CX0 k f fd ps (spF K w ps.length φ) ∧ mg x = some (.ref f) ∧ PySem.W.keepIn K (.ref f) = true ∧ Binds K fd ps []
  np : ∀ ds st d st', φ ds st = some (d, st') → ds.length = ps.length
theorem e_call {n : Nat} {x : Str} {ps : List Str} {φ : Fx} {p pos : Pos} {e : Expr} {es : List Expr} {g : SA} (C : Cal X.prog X.w X.K X.mg X.base n x ps φ) (hr : Room n X.A) (hg : Gl X x)
    (ha : PA X (e :: es) (rdA X.K X.w g)) (hdb : (x == ("__debug__" : Str)) = false := by decide) (he : starEach (e :: es) X.env = (false, eval e X.env) :: starEach es X.env := by rfl) (hpl : (backTo pos (starEach es X.env)).any (·.1) = false := by rfl) :
    PE X (.Call (.Name x p) (e :: es) [] pos) (rdE X.K X.w (callF φ g)) := by
  obtain ⟨f, fd, G, hm, hk, hb⟩ := C.ex
  exact se_call G hr hg hm hk hb ha C.np hdb he hpl
section
variable {P : Program} {w : World} {mg : Str → Option Value} {base : Heap} {k : Nat} {x : Str} {ps N : List Str} {st : Stmt} {body : SS}
theorem cal_ok (Df : Def K mg x st ps) (S : FnScope N ps (defScope st)) (hns : ps.length ≤ N.length)
    (hb : ∀ (f : Addr) (cdv : Value) (A : Around) (outer : List Env) (s : Shared) (H : Hp) (E : XK), Room k (A.deeper (PyProof.Rows.envOfC x (defScope st) s.heap.objs.size f cdv)) →
      PSs (cxOf CX0 P w K mg base N x (defScope st) f cdv A outer s H E).nox (defBody st) (rdS K w body)) :
    Cal P w K mg base (k + 1) x ps (runF N.length ps.length body) := by
  obtain ⟨f, fd, F, hm, hbd⟩ := Df.ex
  exact ⟨⟨f, fd, fn_ok F S hns fun cdv A outer s H E hr => hb f cdv A outer s H E hr, hm, F.kp, hbd⟩, runF_np⟩
theorem cal_zero (Df : Def K mg x st ps) : Cal P w K mg base 0 x ps (fun _ _ => none) := by
  obtain ⟨f, fd, F, hm, hbd⟩ := Df.ex
  exact ⟨⟨f, fd, fn_zero fun _ _ => rfl, hm, F.kp, hbd⟩, fun _ _ _ _ h => by cases h⟩
theorem r64 {n : Nat} {A : Around} (hr : Room n A) : A.units + 64 < cLine := hr.units
theorem r65 {n : Nat} {A : Around} (hr : Room n A) : A.units + 65 < cLine := by have := hr.un; omega
/-- the law's own def -/
structure LawDef (K : PySem.W.Frag) (mg : Str → Option Value) (st : Stmt) : Prop where
  ex : ∃ f fd, Fun K "law" "law" st f fd ∧ mg "law" = some (.ref f) ∧ ∀ (s : Shared) (u : Value), BindsTo s fd ⟨[u], []⟩ [(("script" : Str), u)]
theorem lawdef_mk {h : Heap} {mg : Str → Option Value} {st : Stmt} {f : Addr} {oc kV doc pm cdv ct : Value} {od an : Option Addr} {osl : Array (Option Value)} (X : K.In h) (G : h.Ns mainGlobals mg)
    (a : PySem.W.nsIn K mainGlobals "law" = some (some (.ref f))) (l : K.lookup f = some ⟨oc, od, .func (PySem.W.fnOf "law" "law" (defArgs st) (defBody st) (defScope st) .none kV doc pm an cdv ct), osl⟩) (c : PySem.W.codeIn K cdv "law" = true) (k : PySem.W.keepIn K (.ref f) = true)
    (b : ∀ (kV doc pm : Value) (an : Option Addr) (cdv ct u : Value), bindArgs (PySem.W.fnOf "law" "law" (defArgs st) (defBody st) (defScope st) .none kV doc pm an cdv ct) ⟨[u], []⟩ = pure [(("script" : Str), u)]) : LawDef K mg st :=
  ⟨f, _, fun_mk l c k, PySem.W.mg_of X G a, fun s u => .of_eq (b kV doc pm an cdv ct u)⟩
/-- the law's row, from its def's promise -/
theorem walk {l : PySem.W.OpenLaw} {k : Nat} {q : Program} {loose : List Str} {XP : (Str → Option Value) → Heap → Prop} {YP : World → Heap → Prop} {d : DefRec} {K : Params → PySem.W.Frag} {body : SS} {N : List Str} {st : Stmt} (hn : l.most = some 63) (hdf : d.params.defaults = []) (hdn : d.name = "law") (hr : Room (k + 1) callerA)
    (S : FnScope N ["script"] (defScope st)) (hns : 1 ≤ N.length)
    (hY : ∀ (w : World) (h : Heap), YP w h → (K w.params).In h)
    (law : ∀ ns : List Int, ns.length ≤ 63 → ∃ st', runF N.length 1 body [.loc 0] [.frz (ns.map .int)] = some (.bl true, st'))
    (B : ∀ (w : World) (mg : Str → Option Value) (h : Heap), (K w.params).In h → h.Ns mainGlobals mg → LawDef (K w.params) mg st ∧ ∀ base : Heap, ∀ (f : Addr) (cdv : Value) (A : Around) (outer : List Env) (s : Shared) (H : Hp) (E : XK), Room k (A.deeper (PyProof.Rows.envOfC "law" (defScope st) s.heap.objs.size f cdv)) →
      PSs (cxOf CX0 l.prog w (K w.params) mg base N "law" (defScope st) f cdv A outer s H E).nox (defBody st) (rdS (K w.params) w body)) :
    PySem.W.WalkO q loose XP YP l.row.toRowW d [] (fun f vs => PySem.call f vs) :=
  walk_of (n := 63) (k := k + 1) (x := "script") (CX := fun _ => CX0) (sp := fun w => spLaw (K w.params)) hn (by rw [sizeLine_eq]; decide) hdf hr hY (fun w mg fa h KX G hmg => by
    obtain ⟨⟨f, fd, F, hm, bd⟩, ok⟩ := B w mg h KX G
    rw [hdn, hm] at hmg
    cases hmg
    exact ⟨fd, bd, fun base hb1 hb2 => law_ok (fn_ok F S hns fun cdv A outer s H E hr => ok base _ cdv A outer s H E hr) law⟩) (fun w H a ns hl hO hS => ⟨a, ns, rfl, only_sql hO hS, hl, fun _ => rfl⟩) fun _ _ _ _ _ z => z
end
end
end Iv

namespace Iv
open PySem L2 PySem.Spec
section
variable {X : Cx} {K : PySem.W.Frag} {ww : World}
theorem cut_reps {H : Hp} {μ : List Addr} {xs : List D} {vs : List V} (r : Reps K H μ xs vs) (lo hi : Option Int) : Reps K H μ (cutD xs lo hi) (cutV vs lo hi) := by
  unfold cutD cutV
  rw [← r.len]
  exact (r.drop _).take _
theorem ok_cut : OkS K ww (fun x lo hi H Q => rSlL K x lo hi H Q ∨ rSlA K x lo hi H Q ∨ rSlS x lo hi H Q) cutO := by
  intro H μ st x vx lo hi d st' Q g rx hv k
  cases x with
  | loc n =>
    simp only [Rep] at rx
    obtain ⟨p, rfl, hp⟩ := rx
    simp only [cutO] at hv
    cases e : getL st n with
    | none => rw [e] at hv; cases hv
    | some ys =>
      rw [e] at hv
      cases hv
      obtain ⟨ws, s, rs⟩ := g.getL hp e
      exact .inl ⟨p, ws, rfl, s, new_lst g (cut_reps rs lo hi) k⟩
  | tup xs =>
    simp only [cutO] at hv
    split at hv
    · cases hv
    rename_i hns
    have hns' : nst (cutD xs lo hi) = false := by simpa using hns
    cases hv
    have rx' := rx
    simp only [Rep] at rx
    obtain ⟨p, ws, rfl, ⟨s, _⟩, rs⟩ := rx
    refine .inr (.inl ⟨p, ws, rfl, s, fun ⟨e1, e2⟩ => ?_, fun _ => new_tupP g hns' (cut_reps rs lo hi) k⟩)
    have e : cutD xs lo hi = xs := by
      unfold cutD
      rw [rs.len, e1, e2, List.drop_zero, Nat.sub_zero, ← rs.len, List.take_length]
    rw [e] at k
    exact here k g rx'
  | str x =>
    simp only [Rep] at rx
    subst rx
    simp only [cutO] at hv
    split at hv
    · rename_i hl
      cases hv
      exact .inr (.inr ⟨x, rfl, lim_ok hl, here k g (by simp only [Rep])⟩)
    · cases hv
  | _ => cases hv
theorem e_slice {e : Expr} {lo hi : Option Expr} {p2 pos : Pos} {f : SE} {l h : SO} (he : PE X e (rdE X.K X.w f)) (hl : PO X lo (rdO X.K X.w l)) (hh : PO X hi (rdO X.K X.w h)) :
    PE X (.Subscript e (.Slice lo hi none p2) pos) (rdE X.K X.w (slF cutO f l h)) := se_slice (SlR.or sl_list (SlR.or sl_tupA sl_str)) ok_cut he hl hh
/-- name = [..] -/
theorem rd_asgC {vs : List Nat} {i : SJ} {gg : TG} {g : Tg} {c : ST} {e : SE} {j : Nat} (ok : OkG K gg g) (ow : OwnG vs gg) : ∀ Dn τ H, rdS K ww (asgS (nmG j) (compF vs i g c e)) Dn τ H → tAsg (tLc (rdI K ww i) gg (rdT K ww c) (rdE K ww e) vs) (gName j) Dn τ H := fun Dn τ H h => by
  have h2 := rd_asg (g := nmG j) (gg := gName j) (f := compF vs i g c e) ok_name Dn τ H h
  exact rd_comp ok ow τ H _ h2
theorem s_setLc {i : Nat} {y : Str} {py : Pos} {elt tg iter : Expr} {ifs : List Expr} {scope : Scope} {own : List (Str × Nat)} {pos spos : Pos} {it : SJ} {gg : TG} {g : Tg} {c : ST} {e : SE} (hc : X.calm = true) (hN : X.N.Nodup) (hi : PI X tg iter (rdI X.K X.w it)) (ok : BlkOk X.N X.env.scope scope own)
    (hg : ∀ (s : Shared) (H : Hp) (C : Addr) (cl : List (Str × Addr)) (fp : List Addr), PG (X.blk s H scope (compEnvC scope cl C X.env) fp) tg gg) (okg : OkG X.K gg g) (ow : OwnG (own.map (·.2)) gg)
    (ht : ∀ (s : Shared) (H : Hp) (C : Addr) (cl : List (Str × Addr)) (fp : List Addr), PTs (X.blk s H scope (compEnvC scope cl C X.env) fp) ifs (rdT X.K X.w c))
    (he : ∀ (s : Shared) (H : Hp) (C : Addr) (cl : List (Str × Addr)) (fp : List Addr), PE (X.blk s H scope (compEnvC scope cl C X.env) fp) elt (rdE X.K X.w e))
    (hy : X.N[i]? = some y := by rfl) (hyl : X.env.scope.names.lookup y = some .local := by rfl) (hsw : swapsWith (.ListComp elt [⟨tg, iter, ifs, 0⟩] scope pos) (some (.Name y py)) spos.line X.env = pure true := by exact sw_true rfl rfl rfl (by decide +kernel)) (hs : ∀ x, foldedSetIterable iter X.env x = pure x := by intro _; rfl) :
    PS X (.Assign [.Name y py] (.ListComp elt [⟨tg, iter, ifs, 0⟩] scope pos) spos) (rdS X.K X.w (asgS (nmG i) (compF (own.map (·.2)) it g c e))) := (ps_setLc hc hN hy hyl hsw hi ok hg ht he hs).weak (rd_asgC okg ow)
end
end Iv

namespace Iv
open PySem L2
/-! ### meanings, step by step -/
section
variable {σ σ1 σ2 : Sl} {st st1 st2 : Sto} {d : D} {f g : SE} {o : Op2} {c t : ST} {a b : SS} {i n m : Nat} {r : R}
@[simp] theorem varF_eq : varF i σ st = (match σ[i]? with
  | some (some d) => some (d, st)
  | _ => none) := rfl
@[simp] theorem cstF_eq : cstF d σ st = some (d, st) := rfl
@[simp] theorem binF_eq : binF o f g σ st = bnd (f σ st) fun x st1 => bnd (g σ st1) fun y st2 => o x y st2 := rfl
@[simp] theorem unF_eq {o : Op1} : unF o f σ st = bnd (f σ st) fun x st1 => o x st1 := rfl
@[simp] theorem nilF_eq : nilF σ st = some ([], st) := rfl
@[simp] theorem consF_eq {g : SA} : consF f g σ st = bnd (f σ st) fun x st1 => bnd (g σ st1) fun xs st2 => some (x :: xs, st2) := rfl
@[simp] theorem appF_eq {o : OpN} {g : SA} : appF o g σ st = bnd (g σ st) fun xs st1 => o xs st1 := rfl
@[simp] theorem callF_eq {φ : Fx} {g : SA} : callF φ g σ st = bnd (g σ st) fun xs st1 => φ xs st1 := rfl
@[simp] theorem bmF_eq {T : String} {o : OpM} {g : SA} : bmF T o f g σ st = bnd (f σ st) fun x st1 => if isTy T x st1 = true then bnd (g σ st1) fun xs st2 => o x xs st2 else none := rfl
@[simp] theorem bm0F_eq {T : String} {o : OpM} : bm0F T o f σ st = bnd (f σ st) fun x st1 => if isTy T x st1 = true then o x [] st1 else none := rfl
@[simp] theorem tupF_eq {g : SA} : tupF g σ st = bnd (g σ st) fun xs st1 => if xs.length ≤ LIM then some (.tup xs, st1) else none := rfl
@[simp] theorem lstF_eq {g : SA} : lstF g σ st = bnd (g σ st) fun xs st1 => if xs.length ≤ LIM then some (.loc st1.length, st1 ++ [.lst xs]) else none := rfl
@[simp] theorem truF_eq : truF f σ st = bnd (f σ st) fun x st1 => (truth x st1).map fun b => (b, st1) := rfl
@[simp] theorem cmpT_eq : cmpT o f g σ st = bnd (binF o f g σ st) fun x st1 => (truth x st1).map fun b => (b, st1) := rfl
@[simp] theorem andT_eq : andT c t σ st = bnd (c σ st) fun b st1 => if b = true then t σ st1 else some (false, st1) := rfl
@[simp] theorem orT_eq : orT c t σ st = bnd (c σ st) fun b st1 => if b = true then some (true, st1) else t σ st1 := rfl
@[simp] theorem notT_eq : notT c σ st = bnd (c σ st) fun b st1 => some (!b, st1) := rfl
@[simp] theorem andF_eq : andF f g σ st = bnd (f σ st) fun x st1 => (truth x st1).bind fun b => if b = true then g σ st1 else some (x, st1) := rfl
@[simp] theorem orF_eq : orF f g σ st = bnd (f σ st) fun x st1 => (truth x st1).bind fun b => if b = true then some (x, st1) else g σ st1 := rfl
@[simp] theorem notF_eq : notF f σ st = bnd (f σ st) fun x st1 => (truth x st1).map fun b => (.bl (!b), st1) := rfl
@[simp] theorem ifF_eq : ifF c f g σ st = bnd (c σ st) fun b st1 => if b = true then f σ st1 else g σ st1 := rfl
@[simp] theorem chnF_eq {o o' : Op2} {h : SE} : chnF o o' f g h σ st = bnd (f σ st) fun x s1 => bnd (g σ s1) fun y s2 => bnd (o x y s2) fun z s3 => match z with
  | .bl true => bnd (h σ s3) fun w s4 => o' y w s4
  | .bl false => some (.bl false, s3)
  | _ => none := rfl
@[simp] theorem noneO_eq : noneO σ st = some (none, st) := rfl
@[simp] theorem someO_eq : someO f σ st = bnd (f σ st) fun x st1 => match x with
  | .int i => some (some i, st1)
  | _ => none := rfl
@[simp] theorem slF_eq {o : OpS} {lo hi : SO} : slF o f lo hi σ st = bnd (f σ st) fun x s1 => bnd (lo σ s1) fun l s2 => bnd (hi σ s2) fun h s3 => o x l h s3 := rfl
@[simp] theorem nxS_eq : nxS σ st = some (.nx σ, st) := rfl
@[simp] theorem brkS_eq : brkS σ st = some (.brk σ, st) := rfl
@[simp] theorem cntS_eq : cntS σ st = some (.cnt σ, st) := rfl
@[simp] theorem retNS_eq : retNS σ st = some (.ret .non, st) := rfl
@[simp] theorem exS_eq : exS f σ st = bnd (f σ st) fun _ st1 => some (.nx σ, st1) := rfl
@[simp] theorem retS_eq : retS f σ st = bnd (f σ st) fun d st1 => some (.ret d, st1) := rfl
@[simp] theorem ifS_eq : ifS c a b σ st = bnd (c σ st) fun x st1 => if x = true then a σ st1 else b σ st1 := rfl
@[simp] theorem asgS_eq {g : Tg} : asgS g f σ st = bnd (f σ st) fun d st1 => (g d σ).map fun σ1 => (.nx σ1, st1) := rfl
@[simp] theorem nmG_eq : nmG i d σ = some (σ.set i (some d)) := rfl
@[simp] theorem tupG_eq {is : List Nat} {ds : List D} : tupG is (.tup ds) σ = nmsG is ds σ := rfl
@[simp] theorem nmsG_nil : nmsG [] [] σ = some σ := rfl
@[simp] theorem nmsG_cons {is : List Nat} {ds : List D} : nmsG (i :: is) (d :: ds) σ = nmsG is ds (σ.set i (some d)) := rfl
theorem seqS_eq : seqS a b σ st = (match a σ st with
  | some (.nx σ', st1) => b σ' st1
  | r => r) := rfl
theorem seq_nx (h : a σ st = some (.nx σ1, st1)) : seqS a b σ st = b σ1 st1 := by rw [seqS_eq, h]
theorem seq_ret (h : a σ st = some (.ret d, st1)) : seqS a b σ st = some (.ret d, st1) := by rw [seqS_eq, h]
@[simp] theorem augS_eq : augS i o f σ st = (match σ[i]? with
  | some (some x) => bnd (f σ st) fun y s1 => bnd (o x y s1) fun z s2 => some (.nx (σ.set i (some z)), s2)
  | _ => none) := rfl
@[simp] theorem setS_eq {fo fi : SE} : setS fo fi f σ st = bnd (f σ st) fun d s1 => bnd (fo σ s1) fun o s2 => bnd (fi σ s2) fun i s3 => match o, i with
  | .loc n, .int k => (getM s3 n).bind fun xs => (ixN xs.length k).map fun j => (.nx σ, s3.set n (.lst (xs.set j d)))
  | _, _ => none := rfl
@[simp] theorem anyI_eq : anyI f σ st = bnd (f σ st) fun d s1 => match d with
  | .loc n => (getL s1 n).map fun _ => (.lst n, s1)
  | .tup xs => some (.cns xs, s1)
  | .str x => some (.cns (charsD x), s1)
  | _ => none := rfl
@[simp] theorem rngI1_eq {g : SA} : rngI1 g σ st = bnd (g σ st) fun ds s1 => match ds with
  | [.int j] => if -(2 ^ 62) ≤ j ∧ j < 2 ^ 62 then some (.cns (rngD 0 j.toNat), s1) else none
  | _ => none := rfl
@[simp] theorem rngI2_eq {g : SA} : rngI2 g σ st = bnd (g σ st) fun ds s1 => match ds with
  | [.int i, .int j] => if -(2 ^ 62) ≤ i ∧ i < 2 ^ 62 ∧ -(2 ^ 62) ≤ j ∧ j < 2 ^ 62 then some (.cns (rngD i (j - i).toNat), s1) else none
  | _ => none := rfl
@[simp] theorem enmI_eq {g : SA} : enmI g σ st = bnd (g σ st) fun ds s1 => match ds with
  | [.loc n] => (getL s1 n).map fun _ => (.enm n, s1)
  | _ => none := rfl
theorem forS_eq {i : SJ} {g : Tg} : forS i g b σ st = bnd (i σ st) fun J s1 => match items J s1 with
  | none => none
  | some xs => forV J g b (xs.length + 1) 0 σ s1 := rfl
@[simp] theorem items_cns {xs : List D} : items (.cns xs) st = some xs := rfl
@[simp] theorem items_lst : items (.lst n) st = getL st n := rfl
theorem items_zip {m : Nat} {xs ys : List D} (h1 : getL st n = some xs) (h2 : getL st m = some ys) (h : (zipD xs ys).all notTx = true) : items (.zip n m) st = some (zipD xs ys) := by
  simp only [items, h1, h2, h, if_true]
@[simp] theorem items_enm : items (.enm n) st = (getL st n).map (enumD 0) := rfl
theorem runF_eq {ns np : Nat} {ds : List D} : runF ns np b ds st = if ds.length = np then (match b (ds.map some ++ List.replicate (ns - np) none) st with
  | some (.nx _, s) => some (.non, s)
  | some (.ret d, s) => some (d, s)
  | _ => none) else none := rfl
theorem run_ret {ns np : Nat} {ds : List D} (hl : ds.length = np) (h : b (ds.map some ++ List.replicate (ns - np) none) st = some (.ret d, st1)) : runF ns np b ds st = some (d, st1) := by rw [runF_eq, if_pos hl, h]
theorem run_nx {ns np : Nat} {ds : List D} (hl : ds.length = np) (h : b (ds.map some ++ List.replicate (ns - np) none) st = some (.nx σ1, st1)) : runF ns np b ds st = some (.non, st1) := by rw [runF_eq, if_pos hl, h]
@[simp] theorem addO_int {i j : Int} : addO (.int i) (.int j) st = some (.int (i + j), st) := rfl
@[simp] theorem addO_str {i j : Str} : addO (.str i) (.str j) st = if i.length + j.length ≤ LIM then some (.str (i ++ j), st) else none := rfl
@[simp] theorem addO_tup {i j : List D} : addO (.tup i) (.tup j) st = if i.length + j.length ≤ LIM ∧ nst (i ++ j) = false then some (.tup (i ++ j), st) else none := rfl
@[simp] theorem subO_int {i j : Int} : subO (.int i) (.int j) st = some (.int (i - j), st) := rfl
@[simp] theorem mulO_int {i j : Int} : mulO (.int i) (.int j) st = if cMul i j = true then some (.int (i * j), st) else none := by simp only [mulO, intO]
@[simp] theorem fdivO_int {i j : Int} : fdivO (.int i) (.int j) st = if cDiv i j = true then some (.int (i / j), st) else none := by simp only [fdivO, intO]
@[simp] theorem modO_int {i j : Int} : modO (.int i) (.int j) st = if cPos i j = true then some (.int (i % j), st) else none := by simp only [modO, intO]
@[simp] theorem powO_int {i j : Int} : powO (.int i) (.int j) st = if cPow i j = true then some (.int (i ^ j.toNat), st) else none := by simp only [powO, intO]
@[simp] theorem ltO_int {i j : Int} : ltO (.int i) (.int j) st = some (.bl (decide (i < j)), st) := rfl
@[simp] theorem leO_int {i j : Int} : leO (.int i) (.int j) st = some (.bl (decide (i ≤ j)), st) := rfl
@[simp] theorem gtO_int {i j : Int} : gtO (.int i) (.int j) st = some (.bl (decide (j < i)), st) := rfl
@[simp] theorem geO_int {i j : Int} : geO (.int i) (.int j) st = some (.bl (decide (j ≤ i)), st) := rfl
@[simp] theorem iaddO_int {i j : Int} : iaddO (.int i) (.int j) st = some (.int (i + j), st) := rfl
@[simp] theorem iaddO_str {i j : Str} : iaddO (.str i) (.str j) st = if i.length + j.length ≤ LIM then some (.str (i ++ j), st) else none := rfl
@[simp] theorem negO_int {i : Int} : negO (.int i) st = some (.int (-i), st) := rfl
@[simp] theorem eqO_int {neg : Bool} {i j : Int} : eqO neg (.int i) (.int j) st = some (.bl (decide (i = j) != neg), st) := rfl
@[simp] theorem eqO_str {neg : Bool} {i j : Str} : eqO neg (.str i) (.str j) st = some (.bl (decide (i = j) != neg), st) := rfl
@[simp] theorem eqO_bl {neg : Bool} {i j : Bool} : eqO neg (.bl i) (.bl j) st = some (.bl (decide (i = j) != neg), st) := rfl
@[simp] theorem isNO_non {neg : Bool} {x : D} : isNO neg x .non st = some (.bl (nonD x != neg), st) := isN_eq
@[simp] theorem nonD_non : nonD .non = true := rfl
@[simp] theorem nonD_bl {x : Bool} : nonD (.bl x) = false := rfl
@[simp] theorem nonD_int {x : Int} : nonD (.int x) = false := rfl
@[simp] theorem nonD_str {x : Str} : nonD (.str x) = false := rfl
@[simp] theorem nonD_tup {x : List D} : nonD (.tup x) = false := rfl
@[simp] theorem nonD_loc : nonD (.loc n) = false := rfl
@[simp] theorem truth_bl {x : Bool} : truth (.bl x) st = some x := rfl
@[simp] theorem truth_non : truth .non st = some false := rfl
@[simp] theorem truth_int {x : Int} : truth (.int x) st = some (x != 0) := rfl
@[simp] theorem truth_tup {xs : List D} : truth (.tup xs) st = some (!xs.isEmpty) := rfl
@[simp] theorem truth_loc : truth (.loc n) st = (getL st n).map fun xs => !xs.isEmpty := rfl
@[simp] theorem intOf_int {x : Int} : intOf [.int x] st = some (.int x, st) := rfl
theorem intOf_str {x : Str} {n : Int} (h : PySem.intText? x = some n) (hl : x.length ≤ 640) : intOf [.str x] st = some (.int n, st) := by
  show (match PySem.intText? x with
    | some n => if x.length ≤ 640 then some (D.int n, st) else none
    | none => none) = _
  rw [h]
  exact if_pos hl
@[simp] theorem intOf_bl {x : Bool} : intOf [.bl x] st = some (.int (if x then 1 else 0), st) := rfl
@[simp] theorem absO_int {x : Int} : absO [.int x] st = some (.int (if x < 0 then -x else x), st) := rfl
@[simp] theorem lenO_tup {xs : List D} : lenO [.tup xs] st = some (.int xs.length, st) := rfl
@[simp] theorem lenO_str {x : Str} : lenO [.str x] st = if x.length ≤ LIM then some (.int x.length, st) else none := rfl
@[simp] theorem lenO_loc : lenO [.loc n] st = (getL st n).map fun xs => (.int xs.length, st) := rfl
@[simp] theorem ixO_tup {xs : List D} {i : Int} : ixO (.tup xs) (.int i) st = (atI xs i).map fun d => (d, st) := rfl
@[simp] theorem ixO_loc {i : Int} : ixO (.loc n) (.int i) st = (match getL st n with
  | none => none
  | some xs => (atI xs i).map fun d => (d, st)) := rfl
@[simp] theorem ixO_str {x : Str} {i : Int} : ixO (.str x) (.int i) st = if x.length ≤ LIM then (atI x.cps.toList i).map fun c => (.str ⟨#[c]⟩, st) else none := rfl
@[simp] theorem isiO_non {T : String} : isiO T .non st = some (.bl false, st) := rfl
@[simp] theorem isiO_bl {T : String} {x : Bool} : isiO T (.bl x) st = some (.bl (T == "bool" || T == "int"), st) := rfl
@[simp] theorem isiO_int {T : String} {x : Int} : isiO T (.int x) st = some (.bl (T == "int"), st) := rfl
@[simp] theorem isiO_str {T : String} {x : Str} : isiO T (.str x) st = some (.bl (T == "str"), st) := rfl
@[simp] theorem isiO_tup {T : String} {x : List D} : isiO T (.tup x) st = some (.bl (T == "tuple"), st) := rfl
@[simp] theorem isiO_loc {T : String} : isiO T (.loc n) st = (getL st n).map fun _ => (.bl (T == "list"), st) := rfl
@[simp] theorem isTy_str {x : Str} : isTy "str" (.str x) st = true := rfl
@[simp] theorem isTy_list : isTy "list" (.loc n) st = (getL st n).isSome := rfl
@[simp] theorem appendO_eq {y : D} : appendO (.loc n) [y] st = (match getM st n with
  | none => none
  | some xs => if xs.length < LIM then some (.non, st.set n (.lst (xs ++ [y]))) else none) := rfl
@[simp] theorem tupleO_tup {xs : List D} : tupleO [.tup xs] st = some (.tup xs, st) := rfl
@[simp] theorem tupleO_loc : tupleO [.loc n] st = (getL st n).map fun xs => (.tup xs, st) := rfl
@[simp] theorem listO_tup {xs : List D} : listO [.tup xs] st = some (.loc st.length, st ++ [.lst xs]) := rfl
@[simp] theorem listO_loc : listO [.loc n] st = (getL st n).map fun xs => (.loc st.length, st ++ [.lst xs]) := rfl
@[simp] theorem cutO_tup {xs : List D} {lo hi : Option Int} : cutO (.tup xs) lo hi st = if nst (cutD xs lo hi) = true then none else some (.tup (cutD xs lo hi), st) := rfl
@[simp] theorem cutO_loc {lo hi : Option Int} : cutO (.loc n) lo hi st = (getL st n).map fun xs => (.loc st.length, st ++ [.lst (cutD xs lo hi)]) := rfl
@[simp] theorem cutO_str {x : Str} {lo hi : Option Int} : cutO (.str x) lo hi st = if x.length ≤ LIM then some (.str (cutS x lo hi), st) else none := rfl
end
/-! ### the store -/
section
variable {st st1 st2 : Sto} {n m : Nat} {xs ys : List D}
theorem getL_of (h : st[n]? = some (.lst xs)) : getL st n = some xs := by unfold getL; rw [h]
theorem getL_frz (h : st[n]? = some (.frz xs)) : getL st n = some xs := by unfold getL; rw [h]
theorem getM_of (h : st[n]? = some (.lst xs)) : getM st n = some xs := by unfold getM; rw [h]
theorem getL_eq (h : st2[n]? = st[n]?) : getL st2 n = getL st n := by unfold getL; rw [h]
/-- all but the list at b stands as it stood; there may be more -/
def Up (b : Nat) (st st2 : Sto) : Prop := st.length ≤ st2.length ∧ ∀ n, n ≠ b → n < st.length → st2[n]? = st[n]?
theorem Up.refl {b : Nat} : Up b st st := ⟨Nat.le_refl _, fun _ _ _ => rfl⟩
theorem Up.trans {b : Nat} (h : Up b st st1) (k : Up b st1 st2) : Up b st st2 := ⟨Nat.le_trans h.1 k.1, fun n h1 h2 => (k.2 n h1 (Nat.lt_of_lt_of_le h2 h.1)).trans (h.2 n h1 h2)⟩
theorem Up.app {b : Nat} (o : List OB) : Up b st (st ++ o) := ⟨by simp, fun n _ h => List.getElem?_append_left h⟩
theorem Up.set {b : Nat} (o : OB) : Up b st (st.set b o) := ⟨by simp, fun n h _ => List.getElem?_set_ne (Ne.symm h)⟩
theorem Up.getL {b : Nat} (h : Up b st st2) (hn : n ≠ b) (e : getL st n = some xs) : Iv.getL st2 n = some xs := by
  have hl : n < st.length := by
    unfold Iv.getL at e
    cases q : st[n]? with
    | none => rw [q] at e; cases e
    | some o => exact (List.getElem?_eq_some_iff.mp q).1
  rw [getL_eq (h.2 n hn hl)]
  exact e
theorem Up.at {b : Nat} (h : Up b st st2) (hn : n ≠ b) {o : OB} (e : st[n]? = some o) : st2[n]? = some o := (h.2 n hn (List.getElem?_eq_some_iff.mp e).1).trans e
theorem Up.new {b k : Nat} (h : Up b st st2) (hb : b < st.length) (hk : st.length ≤ k) {o : OB} : Up b st (st2.set k o) := ⟨by rw [List.length_set]; exact h.1, fun n h1 h2 => by rw [List.getElem?_set_ne (by omega)]; exact h.2 n h1 h2⟩
/-- nothing changes; there may be more -/
def Ext (st st2 : Sto) : Prop := st.length ≤ st2.length ∧ ∀ n, n < st.length → st2[n]? = st[n]?
theorem Ext.refl : Ext st st := ⟨Nat.le_refl _, fun _ _ => rfl⟩
theorem Ext.trans (h : Ext st st1) (k : Ext st1 st2) : Ext st st2 := ⟨Nat.le_trans h.1 k.1, fun n h2 => (k.2 n (Nat.lt_of_lt_of_le h2 h.1)).trans (h.2 n h2)⟩
theorem Ext.app (o : List OB) : Ext st (st ++ o) := ⟨by simp, fun n h => List.getElem?_append_left h⟩
theorem Ext.up {b : Nat} (h : Ext st st2) : Up b st st2 := ⟨h.1, fun n _ h2 => h.2 n h2⟩
theorem Ext.at (h : Ext st st2) {o : OB} (e : st[n]? = some o) : st2[n]? = some o := (h.2 n (List.getElem?_eq_some_iff.mp e).1).trans e
theorem Ext.getL (h : Ext st st2) (e : getL st n = some xs) : Iv.getL st2 n = some xs := by
  have hl : n < st.length := by
    unfold Iv.getL at e
    cases q : st[n]? with
    | none => rw [q] at e; cases e
    | some o => exact (List.getElem?_eq_some_iff.mp q).1
  rw [getL_eq (h.2 n hl)]
  exact e
theorem Ext.set {k : Nat} (h : Ext st st2) (hk : st.length ≤ k) {o : OB} : Ext st (st2.set k o) := ⟨by rw [List.length_set]; exact h.1, fun n h2 => by rw [List.getElem?_set_ne (by omega)]; exact h.2 n h2⟩
end
/-! ### loops -/
section
variable {g : Tg} {b : SS} {xs : List D}
/-- over a fixed row: P by the turn; a turn may leave -/
theorem for_cns (P : Nat → Sl → Sto → Prop) (QB : Sl → Sto → Prop) (QR : D → Sto → Prop)
    (h : ∀ (i : Nat) (σ : Sl) (st : Sto) (d : D), xs[i]? = some d → P i σ st → ∃ σ1 r st2, g d σ = some σ1 ∧ b σ1 st = some (r, st2) ∧ match r with
      | .nx σ2 => P (i + 1) σ2 st2
      | .cnt σ2 => P (i + 1) σ2 st2
      | .brk σ2 => QB σ2 st2
      | .ret d => QR d st2) :
    ∀ (m i : Nat) (σ : Sl) (st : Sto), P i σ st → i ≤ xs.length → xs.length - i < m → ∃ r st2, forV (.cns xs) g b m i σ st = some (r, st2) ∧ match r with
      | .nx σ2 => P xs.length σ2 st2 ∨ QB σ2 st2
      | .ret d => QR d st2
      | _ => False
  | 0, i, σ, st, p, hi, hm => by omega
  | m + 1, i, σ, st, p, hi, hm => by
    unfold forV
    simp only [items_cns]
    cases e : xs[i]? with
    | none =>
      have e2 : i = xs.length := by
        have := List.getElem?_eq_none_iff.mp e
        omega
      subst e2
      exact ⟨.nx σ, st, rfl, .inl p⟩
    | some d =>
      obtain ⟨σ1, r, st2, h1, h2, h3⟩ := h i σ st d e p
      have hlt := (List.getElem?_eq_some_iff.mp e).1
      simp only [h1, h2]
      cases r with
      | nx σ2 => exact for_cns P QB QR h m (i + 1) σ2 st2 h3 (by omega) (by omega)
      | cnt σ2 => exact for_cns P QB QR h m (i + 1) σ2 st2 h3 (by omega) (by omega)
      | brk σ2 => exact ⟨.nx σ2, st2, rfl, .inr h3⟩
      | ret d => exact ⟨.ret d, st2, rfl, h3⟩
/-- .. where no turn leaves -/
theorem for_all (P : Nat → Sl → Sto → Prop)
    (h : ∀ (i : Nat) (σ : Sl) (st : Sto) (d : D), xs[i]? = some d → P i σ st → ∃ σ1 σ2 st2, g d σ = some σ1 ∧ b σ1 st = some (.nx σ2, st2) ∧ P (i + 1) σ2 st2)
    {m : Nat} {σ : Sl} {st : Sto} (p : P 0 σ st) (hm : xs.length < m) : ∃ σ2 st2, forV (.cns xs) g b m 0 σ st = some (.nx σ2, st2) ∧ P xs.length σ2 st2 := by
  obtain ⟨r, st2, h1, h2⟩ := for_cns P (fun _ _ => False) (fun _ _ => False) (fun i σ st d e p => by
    obtain ⟨σ1, σ2, st2, h1, h2, h3⟩ := h i σ st d e p
    exact ⟨σ1, .nx σ2, st2, h1, h2, h3⟩) m 0 σ st p (Nat.zero_le _) (by omega)
  cases r with
  | nx σ2 => exact ⟨σ2, st2, h1, h2.resolve_right id⟩
  | brk _ => exact h2.elim
  | cnt _ => exact h2.elim
  | ret _ => exact h2.elim
/-- over a list that stays -/
theorem for_lst {n : Nat} (P : Nat → Sl → Sto → Prop) (QB : Sl → Sto → Prop) (QR : D → Sto → Prop) (hg : ∀ i σ st, P i σ st → getL st n = some xs)
    (h : ∀ (i : Nat) (σ : Sl) (st : Sto) (d : D), xs[i]? = some d → P i σ st → ∃ σ1 r st2, g d σ = some σ1 ∧ b σ1 st = some (r, st2) ∧ match r with
      | .nx σ2 => P (i + 1) σ2 st2
      | .cnt σ2 => P (i + 1) σ2 st2
      | .brk σ2 => QB σ2 st2
      | .ret d => QR d st2) :
    ∀ (m i : Nat) (σ : Sl) (st : Sto), P i σ st → i ≤ xs.length → xs.length - i < m → ∃ r st2, forV (.lst n) g b m i σ st = some (r, st2) ∧ match r with
      | .nx σ2 => P xs.length σ2 st2 ∨ QB σ2 st2
      | .ret d => QR d st2
      | _ => False
  | 0, i, σ, st, p, hi, hm => by omega
  | m + 1, i, σ, st, p, hi, hm => by
    unfold forV
    simp only [items_lst, hg i σ st p]
    cases e : xs[i]? with
    | none =>
      have e2 : i = xs.length := by
        have := List.getElem?_eq_none_iff.mp e
        omega
      subst e2
      exact ⟨.nx σ, st, rfl, .inl p⟩
    | some d =>
      obtain ⟨σ1, r, st2, h1, h2, h3⟩ := h i σ st d e p
      have hlt := (List.getElem?_eq_some_iff.mp e).1
      simp only [h1, h2]
      cases r with
      | nx σ2 => exact for_lst P QB QR hg h m (i + 1) σ2 st2 h3 (by omega) (by omega)
      | cnt σ2 => exact for_lst P QB QR hg h m (i + 1) σ2 st2 h3 (by omega) (by omega)
      | brk σ2 => exact ⟨.nx σ2, st2, rfl, .inr h3⟩
      | ret d => exact ⟨.ret d, st2, rfl, h3⟩
theorem for_lst_all {n : Nat} (P : Nat → Sl → Sto → Prop) (hg : ∀ i σ st, P i σ st → getL st n = some xs)
    (h : ∀ (i : Nat) (σ : Sl) (st : Sto) (d : D), xs[i]? = some d → P i σ st → ∃ σ1 σ2 st2, g d σ = some σ1 ∧ b σ1 st = some (.nx σ2, st2) ∧ P (i + 1) σ2 st2)
    {m : Nat} {σ : Sl} {st : Sto} (p : P 0 σ st) (hm : xs.length < m) : ∃ σ2 st2, forV (.lst n) g b m 0 σ st = some (.nx σ2, st2) ∧ P xs.length σ2 st2 := by
  obtain ⟨r, st2, h1, h2⟩ := for_lst P (fun _ _ => False) (fun _ _ => False) hg (fun i σ st d e p => by
    obtain ⟨σ1, σ2, st2, h1, h2, h3⟩ := h i σ st d e p
    exact ⟨σ1, .nx σ2, st2, h1, h2, h3⟩) m 0 σ st p (Nat.zero_le _) (by omega)
  cases r with
  | nx σ2 => exact ⟨σ2, st2, h1, h2.resolve_right id⟩
  | brk _ => exact h2.elim
  | cnt _ => exact h2.elim
  | ret _ => exact h2.elim
theorem rngD_len {lo : Int} {n : Nat} : (rngD lo n).length = n := by simp [rngD]
theorem rngD_get {lo : Int} {n i : Nat} {d : D} (h : (rngD lo n)[i]? = some d) : i < n ∧ d = .int (lo + (i : Nat)) := by
  have hi := (List.getElem?_eq_some_iff.mp h).1
  rw [rngD_len] at hi
  unfold rngD at h
  rw [List.getElem?_map, List.getElem?_range hi] at h
  exact ⟨hi, (Option.some.inj h).symm⟩
/-- while: an invariant and a number that falls -/
theorem whl_inv {c : ST} (P : Sl → Sto → Prop) (μ : Sl → Sto → Nat) (Q : R → Sto → Prop)
    (h : ∀ σ st, P σ st → ∃ t st1, c σ st = some (t, st1) ∧ if t = true then ∃ r st2, b σ st1 = some (r, st2) ∧ match r with
      | .nx σ2 => P σ2 st2 ∧ μ σ2 st2 < μ σ st
      | .cnt σ2 => P σ2 st2 ∧ μ σ2 st2 < μ σ st
      | .brk σ2 => Q (.nx σ2) st2
      | .ret d => Q (.ret d) st2 else Q (.nx σ) st1) :
    ∀ (m : Nat) (σ : Sl) (st : Sto), P σ st → μ σ st < m → ∃ r st2, whlV c b m σ st = some (r, st2) ∧ Q r st2
  | 0, σ, st, p, hm => by omega
  | m + 1, σ, st, p, hm => by
    obtain ⟨t, st1, h1, h2⟩ := h σ st p
    unfold whlV
    simp only [h1, bnd_some]
    cases t with
    | false => exact ⟨.nx σ, st1, rfl, h2⟩
    | true =>
      simp only [if_pos] at h2 ⊢
      obtain ⟨r, st2, h3, h4⟩ := h2
      simp only [h3]
      cases r with
      | nx σ2 => exact whl_inv P μ Q h m σ2 st2 h4.1 (by omega)
      | cnt σ2 => exact whl_inv P μ Q h m σ2 st2 h4.1 (by omega)
      | brk σ2 => exact ⟨.nx σ2, st2, rfl, h4⟩
      | ret d => exact ⟨.ret d, st2, rfl, h4⟩
end
end Iv

namespace Iv
open PySem L2 PySem.Spec
section
variable {X : Cx} {K : PySem.W.Frag} {ww : World}
/-! ### T.index(e), T a written tuple of texts -/
def idxS : List Str → Str → Option Nat
  | [], _ => none
  | y :: ys, z => if y = z then some 0 else (idxS ys z).map (· + 1)
theorem idxS_ok : ∀ {ys : List Str} {z : Str} {j : Nat}, idxS ys z = some j → ys[j]? = some z ∧ ∀ m, m < j → ys[m]? ≠ some z
  | [], z, j, h => by cases h
  | y :: ys, z, j, h => by
    unfold idxS at h
    by_cases e : y = z
    · rw [if_pos e] at h
      cases h
      exact ⟨by simp [e], fun m hm => absurd hm (Nat.not_lt_zero _)⟩
    · rw [if_neg e] at h
      cases e2 : idxS ys z with
      | none => rw [e2] at h; cases h
      | some i =>
        rw [e2] at h
        cases h
        obtain ⟨h1, h2⟩ := idxS_ok e2
        refine ⟨by simpa using h1, fun m hm => ?_⟩
        have hm' : m < i + 1 := hm
        cases m with
        | zero => simpa using e
        | succ m => simpa using h2 m (by omega)
def ConT (K : PySem.W.Frag) (mg : Str → Option Value) (x : Str) (d : D) : Prop := ∃ p ds, d = .tup ds ∧ mg x = some (.ref p) ∧ (∃ o, K.lookup p = some o ∧ o.cls = .type "tuple" ∧ o.dict = none) ∧ ∀ H μ, Rep K H μ d (.ref p)
def indexC (d : D) : OpN := fun ys st => match d, ys with
  | .tup xs, [.str z] => match strsD xs with
    | none => none
    | some zs => match idxS zs z with
      | none => none
      | some j => some (.int (j : Nat), st)
  | _, _ => none
theorem strs_of {H : Hp} {μ : List Addr} : ∀ {xs : List D} {vs : List V} {bs : List Str}, Reps K H μ xs vs → strsD xs = some bs → vs = bs.map V.str
  | [], vs, bs, r, h => by simp only [Reps] at r; cases h; exact r
  | x :: xs, vs, bs, r, h => by
    simp only [Reps] at r
    obtain ⟨v, ws, rfl, r1, r2⟩ := r
    cases x with
    | str b =>
      simp only [strsD] at h
      cases e : strsD xs with
      | none => rw [e] at h; cases h
      | some cs =>
        rw [e] at h
        cases h
        simp only [Rep] at r1
        rw [r1, strs_of r2 e]
        rfl
    | _ => cases h
theorem e_indexC {x : Str} {d : D} {p : Pos} {e : Expr} {apos cpos : Pos} {g : SA} (C : ConT X.K X.mg x d) (hg : Gl X x) (ha : PA X [e] (rdA X.K X.w g))
    (hbase : attributeBase (.Name x p) "index" X.env (eval (.Name x p) X.env) = eval (.Name x p) X.env := by rfl)
    (hfew : ((backTo cpos (starEach [e] X.env)).all (fun x => !x.1) && (backToKw cpos (keywordEach [] X.env)).all (fun x => x.1.isSome)
      && decide ([e].length + ([] : List Keyword).length + (if ([] : List Keyword).isEmpty then 0 else 1) < 30)) = true := by rfl)
    (hline : (apos.endLine == cpos.line) = true := by rfl) (hs : starEach [e] X.env = (false, eval e X.env) :: starEach [] X.env := by rfl) (hd : (x == ("__debug__" : Str)) = false := by decide) :
    PE X (.Call (.Attribute (.Name x p) "index" apos) [e] [] cpos) (rdE X.K X.w (appF (indexC d) g)) := by
  obtain ⟨a, ds, rfl, hm, hk, hr⟩ := C
  refine (pe_bm PySem.F.plainAttrs_tuple PySem.F.slot_tuple_index PySem.F.type_tuple_index mt_tup_index (pe_glob (v := .ref a) hg hm rfl hd) ha hbase hfew hline hs rfl).weak fun τ H Q ⟨μ, st, σ, d', st', gd, er, hv, k⟩ => ?_
  refine ⟨.inr (.inl ⟨rfl, hk⟩), ?_⟩
  obtain ⟨ys, s1, h1, hv⟩ := bnd_eq hv
  refine ⟨μ, st, σ, ys, s1, gd, er, h1, fun μ1 H1 vs g1 d1 r1 => ?_⟩
  unfold indexC at hv
  split at hv
  · rename_i xs z e1
    cases e1
    split at hv
    · cases hv
    · rename_i zs e2
      split at hv
      · cases hv
      · rename_i j e3
        cases hv
        obtain ⟨v, rfl, rv⟩ := reps1 r1
        simp only [Rep] at rv
        have hr1 := hr H1 μ1
        simp only [Rep] at hr1
        obtain ⟨p1, ws, e4, ⟨s, _⟩, rs⟩ := hr1
        cases e4
        obtain ⟨q1, q2⟩ := idxS_ok e3
        exact ⟨a, zs, z, j, rfl, by rw [rv], by rw [← strs_of rs e2]; exact s, q1, q2, k μ1 H1 _ g1 d1 (by simp only [Rep])⟩
  · cases hv
theorem conT_mk {h : Heap} {mg : Str → Option Value} {x : Str} {p : Addr} {ds : List D} {its : Array Value} {n : Nat} {sl : Array (Option Value)} (X : K.In h) (G : h.Ns mainGlobals mg) (a : PySem.W.nsIn K mainGlobals x = some (some (.ref p))) (l : K.lookup p = some ⟨.type "tuple", none, .seq its n, sl⟩) (z : its.size ≤ 1000) (c : CVs K its.toList ds) : ConT K mg x (.tup ds) := by
  obtain ⟨vs, r, q⟩ := cvs_ok c
  exact ⟨p, ds, rfl, PySem.W.mg_of X G a, ⟨_, l, rfl, rfl⟩, fun H μ => rep_tup (.inr ⟨_, _, _, l, rfl, rfl, Nat.le_trans z (by rw [sizeLine_eq]; decide), r⟩) (fun _ => .inr ⟨_, l, rfl, rfl⟩) (q H μ)⟩
end
end Iv

namespace Iv
open PySem L2
theorem cMul_r {i j : Int} (h : (decide (-18446744073709551616 < j) && decide (j < 18446744073709551616)) = true) : cMul i j = true := by
  have h2 : (decide (-(2 ^ 64) < j) && decide (j < 2 ^ 64)) = true := h
  unfold cMul
  rw [h2, Bool.or_true]
theorem cMul_l {i j : Int} (h : (decide (-18446744073709551616 < i) && decide (i < 18446744073709551616)) = true) : cMul i j = true := by
  have h2 : (decide (-(2 ^ 64) < i) && decide (i < 2 ^ 64)) = true := h
  unfold cMul
  rw [h2, Bool.true_or]
theorem small62 (k : Int) (h0 : 0 ≤ k) (h1 : k ≤ 1000000) : -(2 ^ 62) ≤ k ∧ k < 2 ^ 62 := by omega
theorem rng1_ok {g : SA} {σ : Sl} {st st1 : Sto} {k : Int} (h : g σ st = some ([.int k], st1)) (h0 : 0 ≤ k) (h1 : k ≤ 1000000) : rngI1 g σ st = some (.cns (rngD 0 k.toNat), st1) := by
  rw [rngI1_eq, h, bnd_some]
  exact if_pos (small62 k h0 h1)
theorem rng2_ok {g : SA} {σ : Sl} {st st1 : Sto} {i k : Int} (h : g σ st = some ([.int i, .int k], st1)) (h0 : 0 ≤ i) (h1 : i ≤ 1000000) (h2 : 0 ≤ k) (h3 : k ≤ 1000000) : rngI2 g σ st = some (.cns (rngD i (k - i).toNat), st1) := by
  rw [rngI2_eq, h, bnd_some]
  have a := small62 i h0 h1
  have b := small62 k h2 h3
  exact if_pos ⟨a.1, a.2, b.1, b.2⟩
theorem rng1_nat {g : SA} {σ : Sl} {st st1 : Sto} {n : Nat} (h : g σ st = some ([.int (n : Int)], st1)) (h1 : n ≤ LIM) : rngI1 g σ st = some (.cns (rngD 0 n), st1) := by
  have q : ∀ k : Int, k = (n : Int) → rngI1 g σ st = some (.cns (rngD 0 n), st1) := fun k hk => by
    have h1' : n ≤ 1000000 := h1
    have e := rng1_ok (k := k) (by rw [hk]; exact h) (by omega) (by omega)
    rw [e, hk, Int.toNat_natCast]
  exact q _ rfl
/-! ### written texts -/
theorem map_inj {α β : Type} {f : α → β} (hf : ∀ x y, f x = f y → x = y) : ∀ {l m : List α}, l.map f = m.map f → l = m
  | [], [], _ => rfl
  | [], _ :: _, h => by cases h
  | _ :: _, [], h => by cases h
  | x :: l, y :: m, h => by
    simp only [List.map_cons, List.cons.injEq] at h
    rw [hf x y h.1, map_inj hf h.2]
theorem ofs_codes (a : String) : (Str.ofString a).cps.toList = a.toList.map Char.toNat := by rw [Str.ofString_eq_toList]
theorem ofs_inj (a b : String) : (Str.ofString a = Str.ofString b) = (a = b) := by
  apply propext
  constructor
  · intro h
    have h2 := congrArg (fun s : Str => s.cps.toList) h
    simp only [ofs_codes] at h2
    have h3 := map_inj (fun x y e => Char.toNat_inj.mp e) h2
    exact String.toList_inj.mp h3
  · rintro rfl; rfl
/-! ### what a meaning comes to, with what is wanted of it -/
def Wp (x : Option (R × Sto)) (Q : R → Sto → Prop) : Prop := ∃ r st, x = some (r, st) ∧ Q r st
section
variable {σ σ1 σ2 : Sl} {st st1 st2 : Sto} {d : D} {f : SE} {c : ST} {a b : SS} {i n m : Nat} {r : R} {Q Q' : R → Sto → Prop} {g : Tg} {xs : List D}
theorem wp_ok {x : Option (R × Sto)} (h : x = some (r, st)) (q : Q r st) : Wp x Q := ⟨r, st, h, q⟩
theorem wp_mono {x : Option (R × Sto)} (h : Wp x Q) (k : ∀ r s, Q r s → Q' r s) : Wp x Q' := let ⟨r, s, e, q⟩ := h; ⟨r, s, e, k r s q⟩
theorem wp_seq (h : Wp (a σ st) fun r s => match r with
    | .nx σ' => Wp (b σ' s) Q
    | r => Q r s) : Wp (seqS a b σ st) Q := by
  obtain ⟨r, s, e, q⟩ := h
  unfold Wp
  rw [seqS_eq, e]
  cases r with
  | nx σ' => exact q
  | brk σ' => exact ⟨_, _, rfl, q⟩
  | cnt σ' => exact ⟨_, _, rfl, q⟩
  | ret d => exact ⟨_, _, rfl, q⟩
/-- a step that goes on -/
theorem wp_nx (h : a σ st = some (.nx σ1, st1)) (q : Wp (b σ1 st1) Q) : Wp (seqS a b σ st) Q := wp_seq ⟨_, _, h, q⟩
theorem wp_ret (h : f σ st = some (d, st1)) (q : Q (.ret d) st1) : Wp (retS f σ st) Q := ⟨_, _, by rw [retS_eq, h, bnd_some], q⟩
theorem wp_asg (h : f σ st = some (d, st1)) (h2 : g d σ = some σ1) (q : Q (.nx σ1) st1) : Wp (asgS g f σ st) Q := ⟨_, _, by rw [asgS_eq, h, bnd_some, h2]; rfl, q⟩
theorem wp_ex (h : f σ st = some (d, st1)) (q : Q (.nx σ) st1) : Wp (exS f σ st) Q := ⟨_, _, by rw [exS_eq, h, bnd_some], q⟩
theorem wp_skip (q : Q (.nx σ) st) : Wp (nxS σ st) Q := ⟨_, _, rfl, q⟩
theorem wp_if {t : Bool} (h : c σ st = some (t, st1)) (h1 : t = true → Wp (a σ st1) Q) (h2 : t = false → Wp (b σ st1) Q) : Wp (ifS c a b σ st) Q := by
  unfold Wp
  rw [ifS_eq, h, bnd_some]
  cases t with
  | true => exact h1 rfl
  | false => exact h2 rfl
theorem wp_for {i : SJ} (P : Nat → Sl → Sto → Prop) (hi : i σ st = some (.cns xs, st1)) (h0 : P 0 σ st1)
    (h : ∀ (j : Nat) (σ : Sl) (st : Sto) (d : D), xs[j]? = some d → P j σ st → ∃ σ1, g d σ = some σ1 ∧ Wp (b σ1 st) fun r s => match r with
      | .nx σ2 => P (j + 1) σ2 s
      | .cnt σ2 => P (j + 1) σ2 s
      | .brk σ2 => Q (.nx σ2) s
      | .ret d => Q (.ret d) s)
    (he : ∀ σ s, P xs.length σ s → Q (.nx σ) s) : Wp (forS i g b σ st) Q := by
  obtain ⟨r, s, e, q⟩ := for_cns (g := g) (b := b) P (fun σ s => Q (.nx σ) s) (fun d s => Q (.ret d) s) (fun j σ st d e p => by
    obtain ⟨σ1, h1, r, s, h2, h3⟩ := h j σ st d e p
    exact ⟨σ1, r, s, h1, h2, by cases r <;> exact h3⟩) (xs.length + 1) 0 σ st1 h0 (Nat.zero_le _) (by omega)
  refine ⟨r, s, by rw [forS_eq, hi, bnd_some]; exact e, ?_⟩
  cases r with
  | nx σ' => exact q.elim (he σ' s) id
  | ret d => exact q
  | brk σ' => exact q.elim
  | cnt σ' => exact q.elim
theorem wp_forL {i : SJ} (P : Nat → Sl → Sto → Prop) (hi : i σ st = some (.lst n, st1)) (hx : getL st1 n = some xs) (h0 : P 0 σ st1) (hg : ∀ j σ s, P j σ s → getL s n = some xs)
    (h : ∀ (j : Nat) (σ : Sl) (st : Sto) (d : D), xs[j]? = some d → P j σ st → ∃ σ1, g d σ = some σ1 ∧ Wp (b σ1 st) fun r s => match r with
      | .nx σ2 => P (j + 1) σ2 s
      | .cnt σ2 => P (j + 1) σ2 s
      | .brk σ2 => Q (.nx σ2) s
      | .ret d => Q (.ret d) s)
    (he : ∀ σ s, P xs.length σ s → Q (.nx σ) s) : Wp (forS i g b σ st) Q := by
  obtain ⟨r, s, e, q⟩ := for_lst (g := g) (b := b) (n := n) P (fun σ s => Q (.nx σ) s) (fun d s => Q (.ret d) s) hg (fun j σ st d e p => by
    obtain ⟨σ1, h1, r, s, h2, h3⟩ := h j σ st d e p
    exact ⟨σ1, r, s, h1, h2, by cases r <;> exact h3⟩) (xs.length + 1) 0 σ st1 h0 (Nat.zero_le _) (by omega)
  refine ⟨r, s, by rw [forS_eq, hi, bnd_some]; simp only [items_lst, hx]; exact e, ?_⟩
  cases r with
  | nx σ' => exact q.elim (he σ' s) id
  | ret d => exact q
  | brk σ' => exact q.elim
  | cnt σ' => exact q.elim
theorem wp_while {k : Nat} (P : Sl → Sto → Prop) (μ : Sl → Sto → Nat) (h0 : P σ st) (hk : μ σ st < k)
    (h : ∀ σ st, P σ st → ∃ t st1, c σ st = some (t, st1) ∧ (t = true → Wp (b σ st1) fun r s => match r with
      | .nx σ2 => P σ2 s ∧ μ σ2 s < μ σ st
      | .cnt σ2 => P σ2 s ∧ μ σ2 s < μ σ st
      | .brk σ2 => Q (.nx σ2) s
      | .ret d => Q (.ret d) s) ∧ (t = false → Q (.nx σ) st1)) : Wp (whlS k c b σ st) Q := by
  obtain ⟨r, s, e, q⟩ := whl_inv (c := c) (b := b) P μ Q (fun σ st p => by
    obtain ⟨t, s1, h1, h2, h3⟩ := h σ st p
    refine ⟨t, s1, h1, ?_⟩
    cases t with
    | true =>
      obtain ⟨r, s, h4, h5⟩ := h2 rfl
      exact ⟨r, s, h4, by cases r <;> exact h5⟩
    | false => exact h3 rfl) k σ st h0 hk
  exact ⟨r, s, e, q⟩
/-- a def's own end -/
theorem wp_run {ns np : Nat} {ds : List D} {Q : D → Sto → Prop} (hl : ds.length = np) (h : Wp (b (ds.map some ++ List.replicate (ns - np) none) st) fun r s => match r with
    | .nx _ => Q .non s
    | .ret d => Q d s
    | _ => False) : ∃ d s, runF ns np b ds st = some (d, s) ∧ Q d s := by
  obtain ⟨r, s, e, q⟩ := h
  rw [runF_eq, if_pos hl, e]
  cases r with
  | nx _ => exact ⟨_, _, rfl, q⟩
  | ret d => exact ⟨_, _, rfl, q⟩
  | brk _ => exact q.elim
  | cnt _ => exact q.elim
end
end Iv

namespace Iv
open PySem L2 PySem.Spec
section
variable {X : Cx} {K : PySem.W.Frag} {ww : World}
/-! ### s.index(e), the sign is there -/
def sindexO : OpM := fun x ys st => match x, ys with
  | .str a, [.str b] => match Txt.index0 a b with
    | some k => some (.int (k : Nat), st)
    | none => none
  | _, _ => none
@[simp] theorem sindexO_eq {a b : Str} {st : Sto} : sindexO (.str a) [.str b] st = (match Txt.index0 a b with
    | some k => some (.int (k : Nat), st)
    | none => none) := rfl
theorem e_sindex {o e : Expr} {apos cpos : Pos} {f : SE} {g : SA} (hc : X.calm = true) (ho : PE X o (rdE X.K X.w f)) (ha : PA X [e] (rdA X.K X.w g))
    (hbase : attributeBase o "index" X.env (eval o X.env) = eval o X.env := by rfl)
    (hfew : ((backTo cpos (starEach [e] X.env)).all (fun x => !x.1) && (backToKw cpos (keywordEach [] X.env)).all (fun x => x.1.isSome)
      && decide ([e].length + ([] : List Keyword).length + (if ([] : List Keyword).isEmpty then 0 else 1) < 30)) = true := by rfl)
    (hline : (apos.endLine == cpos.line) = true := by rfl) (hs : starEach [e] X.env = (false, eval e X.env) :: starEach [] X.env := by rfl) :
    PE X (.Call (.Attribute o "index" apos) [e] [] cpos) (rdE X.K X.w (bmF "str" sindexO f g)) :=
  (pe_bmS PySem.F.plainAttrs_str PySem.F.slot_str_index PySem.F.type_str_index (mt_indexX (W := fun _ _ _ _ => False) hc (fun u s' h => by
    obtain ⟨_, _, _, _, _, _, _, _, _, _, _, _, _, _, _, _, w⟩ := h
    exact w.elim)) ho ha hbase hfew hline hs rfl).weak fun τ H Q ⟨μ, st, σ, d, st', gd, er, hv, k⟩ => by
    obtain ⟨x, s1, h1, hv⟩ := bnd_eq hv
    split at hv
    · rename_i ht
      obtain ⟨xs, s2, h2, hv⟩ := bnd_eq hv
      refine ⟨μ, st, σ, x, s1, gd, er, h1, fun μ1 H1 v g1 d1 r1 => ⟨ty_of d1 r1 ht, ?_⟩⟩
      refine ⟨μ1, s1, σ, xs, s2, d1, er.m g1, h2, fun μ2 H2 vs g2 d2 r2 => ?_⟩
      cases x with
      | str a =>
        cases xs with
        | nil => cases hv
        | cons y ys =>
          cases ys with
          | cons _ _ => cases y <;> cases hv
          | nil =>
            cases y with
            | str b =>
              rw [sindexO_eq] at hv
              split at hv
              · rename_i j e1
                cases hv
                obtain ⟨w, rfl, rw'⟩ := reps1 r2
                simp only [Rep] at r1 rw'
                subst r1 rw'
                refine ⟨a, b, rfl, rfl, fun k' e2 => ?_, fun e2 => ?_⟩
                · rw [e1] at e2
                  cases e2
                  exact k μ2 H2 _ (g1.trans g2) d2 (by simp only [Rep])
                · rw [e1] at e2
                  cases e2
              · cases hv
            | _ => cases hv
      | _ => cases hv
    · cases hv
end
end Iv

namespace Iv
open PySem L2
/-! ### comprehensions: each item's own value, in order -/
theorem comp_loop {J : It} {g : Tg} {e : SE} {σ0 : Sl} {st1 : Sto} {xs ys : List D} {n : Nat} (hn : st1.length ≤ n) (hz : xs.length ≤ LIM) (hy : ys.length = xs.length) (hJ : ∀ s, Ext st1 s → items J s = some xs)
    (h : ∀ (i : Nat) (x y : D), xs[i]? = some x → ys[i]? = some y → ∀ st, Ext st1 st → ∃ σ1 st2, g x σ0 = some σ1 ∧ e σ1 st = some (y, st2) ∧ Ext st st2) :
    ∀ (m i : Nat) (s : Sto), Ext st1 s → s[n]? = some (.lst (ys.take i)) → i ≤ xs.length → xs.length - i < m → ∃ s2, compV J g yesT e n σ0 m i s = some s2 ∧ Ext st1 s2 ∧ s2[n]? = some (.lst ys)
  | 0, i, s, _, _, _, hm => by omega
  | m + 1, i, s, hs, ha, hi, hm => by
    unfold compV
    simp only [hJ s hs]
    cases ex : xs[i]? with
    | none =>
      have e2 : i = xs.length := by
        have := List.getElem?_eq_none_iff.mp ex
        omega
      subst e2
      rw [← hy, List.take_length] at ha
      exact ⟨s, rfl, hs, ha⟩
    | some x =>
      have hlt := (List.getElem?_eq_some_iff.mp ex).1
      have ey : ys[i]? = some (ys[i]'(by omega)) := List.getElem?_eq_getElem (by omega)
      obtain ⟨σ1, s2, e1, e2, x2⟩ := h i x _ ex ey s hs
      have ga : getM s2 n = some (ys.take i) := getM_of (x2.at ha)
      have hl : (ys.take i).length < LIM := by
        rw [List.length_take]
        exact Nat.lt_of_lt_of_le (by omega) hz
      have hs2 := hs.trans x2
      have hn2 : n < s2.length := by
        obtain ⟨q, _⟩ := List.getElem?_eq_some_iff.mp (x2.at ha)
        exact q
      simp only [e1, yesT, bnd_some, if_true, e2, ga, hl]
      refine comp_loop hn hz hy hJ h m (i + 1) _ (hs2.set hn) ?_ hlt (by omega)
      rw [List.getElem?_set_self hn2, List.take_add_one, ey]
      rfl
theorem comp_ok {vs : List Nat} {i : SJ} {g : Tg} {e : SE} {σ : Sl} {st st1 : Sto} {J : It} {xs : List D} (ys : List D) (hi : i σ st = some (J, st1)) (hz : xs.length ≤ LIM) (hy : ys.length = xs.length) (hJ : ∀ s, Ext st1 s → items J s = some xs)
    (h : ∀ (i : Nat) (x y : D), xs[i]? = some x → ys[i]? = some y → ∀ st, Ext st1 st → ∃ σ1 st2, g x (wipeD σ vs) = some σ1 ∧ e σ1 st = some (y, st2) ∧ Ext st st2) :
    ∃ s2, compF vs i g yesT e σ st = some (.loc st1.length, s2) ∧ Ext st1 s2 ∧ s2[st1.length]? = some (.lst ys) := by
  obtain ⟨s2, e2, x2, g2⟩ := comp_loop (n := st1.length) (σ0 := wipeD σ vs) (Nat.le_refl _) hz hy hJ h (xs.length + 1) 0 (st1 ++ [.lst []]) (Ext.app _) (by simp) (Nat.zero_le _) (by omega)
  refine ⟨s2, ?_, x2, g2⟩
  unfold compF
  simp only [hi, bnd_some, hJ st1 Ext.refl, e2, Option.map_some]
end Iv

namespace Iv
open PySem L2 PySem.Spec
section
variable {X : Cx} {K : PySem.W.Frag} {ww : World}
/-! ### s * n for n up to 1 -/
def smulO : Op2
  | .str a, .int n, st => if n = 1 then some (.str a, st) else if n < 1 ∧ -1000000 < n then some (.str Str.empty, st) else none
  | _, _, _ => none
@[simp] theorem smulO_eq {a : Str} {n : Int} {st : Sto} : smulO (.str a) (.int n) st = if n = 1 then some (.str a, st) else if n < 1 ∧ -1000000 < n then some (.str Str.empty, st) else none := rfl
def rSmul : R2 := fun x y H Q => ∃ a n, x = V.str a ∧ y = .int n ∧ ((n = 1 ∧ Q (.str a) H) ∨ (n < 1 ∧ -1000000 < n ∧ Q (.str Str.empty) H))
theorem op_smul : OpR X (binaryOp .Mult) rSmul := by
  intro pins s σ H x y v u Q I rx ry h
  obtain ⟨a, n, rfl, rfl, h⟩ := h
  obtain ⟨t, rfl⟩ := rx
  obtain ⟨t', rfl⟩ := ry
  rcases h with ⟨rfl, q⟩ | ⟨h1, h2, q⟩
  · refine PySem.P.mul_str (by decide) (fun _ h => by cases h) (fun _ h => by cases h) ?_
    exact ⟨.str a, H, I, ⟨t, rfl⟩, q⟩
  · exact PySem.P.mul_str_none h1 (by omega) ⟨.str Str.empty, H, I.tok _, ⟨_, rfl⟩, q⟩
theorem ok_smul : Ok2 K ww rSmul smulO := by
  intro H μ st x y vx vy d st' Q g rx ry hv k
  cases x with
  | str a =>
    cases y with
    | int n =>
      simp only [Rep] at rx ry
      subst rx ry
      rw [smulO_eq] at hv
      split at hv
      · rename_i h
        cases hv
        exact ⟨a, n, rfl, rfl, .inl ⟨h, here k g (by simp only [Rep])⟩⟩
      · split at hv
        · rename_i h
          cases hv
          exact ⟨a, n, rfl, rfl, .inr ⟨h.1, h.2, here k g (by simp only [Rep])⟩⟩
        · cases hv
    | _ => cases hv
  | _ => cases hv
theorem e_smul {a b : Expr} {f g : SE} {pos : Pos} (ha : PE X a (rdE X.K X.w f)) (hb : PE X b (rdE X.K X.w g)) : PE X (.BinOp a .Mult b pos) (rdE X.K X.w (binF smulO f g)) := se_bin op_smul ok_smul ha hb
end
end Iv

namespace Iv
open PySem L2 PySem.Spec
/-! ### a dict of the module with text keys -/
inductive DVs (K : PySem.W.Frag) (P : Params) : List DictEntry → List (Str × D) → Prop
  | nil : DVs K P [] []
  | cons {h : Int} {x : Str} {t : Tok} {u : Value} {d : D} {es : List DictEntry} {kvs : List (Str × D)} (hh : h = PyData.keyHash P x) (hv : CV K u d) (r : DVs K P es kvs) : DVs K P (⟨h, .str x t, u⟩ :: es) ((x, d) :: kvs)
def lkp : List (Str × D) → Str → Option D
  | [], _ => none
  | (k, d) :: r, z => if (k == z) = true then some d else lkp r z
def ConD (K : PySem.W.Frag) (w : World) (mg : Str → Option Value) (x : Str) (kvs : List (Str × D)) : Prop := ∃ a es n, mg x = some (.ref a) ∧ KDict K w a es n ∧ DVs K w.params es.toList kvs
theorem dvs_lit {K : PySem.W.Frag} {P : Params} : ∀ {es : List DictEntry} {kvs : List (Str × D)}, DVs K P es kvs → PySem.W.KeysLit P es
  | _, _, .nil => trivial
  | _, _, .cons hh _ r => ⟨⟨_, _, rfl, hh⟩, dvs_lit r⟩
theorem dvs_find {K : PySem.W.Frag} {P : Params} (z : Str) : ∀ {es : List DictEntry} {kvs : List (Str × D)}, DVs K P es kvs →
    es.any (·.refKey) = false ∧ ((∃ d e, lkp kvs z = some d ∧ es.find? (·.key.isStr z) = some e ∧ CV K e.val d) ∨ (lkp kvs z = none ∧ es.find? (·.key.isStr z) = none))
  | _, _, .nil => ⟨rfl, .inr ⟨rfl, rfl⟩⟩
  | _, _, .cons (h := h) (x := x) (t := t) (u := u) (d := d) (es := es) (kvs := kvs) hh hv r => by
    obtain ⟨h1, h2⟩ := dvs_find z r
    refine ⟨by rw [List.any_cons, h1]; rfl, ?_⟩
    by_cases q : (x == z) = true
    · exact .inl ⟨d, ⟨h, .str x t, u⟩, by unfold lkp; rw [if_pos q], by
        rw [List.find?_cons]
        have : (DictEntry.mk h (.str x t) u).key.isStr z = true := q
        rw [this], hv⟩
    · have q' : (DictEntry.mk h (.str x t) u).key.isStr z = false := Bool.eq_false_iff.mpr q
      rcases h2 with ⟨d2, e2, a1, a2, a3⟩ | ⟨a1, a2⟩
      · exact .inl ⟨d2, e2, by unfold lkp; rw [if_neg q]; exact a1, by rw [List.find?_cons, q']; exact a2, a3⟩
      · exact .inr ⟨by unfold lkp; rw [if_neg q]; exact a1, by rw [List.find?_cons, q']; exact a2⟩
theorem dvs_ns {K : PySem.W.Frag} {w : World} {a : Addr} {es : Array DictEntry} {n : Nat} {kvs : List (Str × D)} (D' : KDict K w a es n) (h : DVs K w.params es.toList kvs) (z : Str) :
    (∃ d u, lkp kvs z = some d ∧ PySem.W.nsIn K a z = some (some u) ∧ CV K u d) ∨ (lkp kvs z = none ∧ PySem.W.nsIn K a z = some none) := by
  obtain ⟨h1, h2⟩ := dvs_find z h
  unfold PySem.W.nsIn
  rw [D'.at_]
  dsimp only
  rcases h2 with ⟨d, e, a1, a2, a3⟩ | ⟨a1, a2⟩
  · exact .inl ⟨d, e.val, a1, by rw [a2], a3⟩
  · exact .inr ⟨a1, by rw [a2]; dsimp only; rw [h1]; rfl⟩
theorem conD_mk {h : Heap} {K : PySem.W.Frag} {w : World} {mg : Str → Option Value} {x : Str} {p : Addr} {es : Array DictEntry} {n : Nat} {kvs : List (Str × D)} (X : K.In h) (G : h.Ns mainGlobals mg) (a : PySem.W.nsIn K mainGlobals x = some (some (.ref p))) (l : K.lookup p = some ⟨.type "dict", none, .dict es n, #[]⟩) (z : (p == sysModules) = false) (c : DVs K w.params es.toList kvs) : ConD K w mg x kvs :=
  ⟨p, es, n, PySem.W.mg_of X G a, ⟨l, dvs_lit c, z⟩, c⟩
/-! ### k in NAME, NAME[k], NAME.get(k), NAME.get(k, d) -/
def dinO (kvs : List (Str × D)) (neg : Bool) : Op1 := fun x st => match x with
  | .str z => some (.bl ((lkp kvs z).isSome != neg), st)
  | _ => none
def ditO (kvs : List (Str × D)) : Op1 := fun x st => match x with
  | .str z => (lkp kvs z).map fun d => (d, st)
  | _ => none
def dgetO (kvs : List (Str × D)) : OpN := fun xs st => match xs with
  | [.str z] => some ((lkp kvs z).getD .non, st)
  | [.str z, d] => some ((lkp kvs z).getD d, st)
  | _ => none
@[simp] theorem dinO_str {kvs : List (Str × D)} {neg : Bool} {z : Str} {st : Sto} : dinO kvs neg (.str z) st = some (.bl ((lkp kvs z).isSome != neg), st) := rfl
@[simp] theorem ditO_str {kvs : List (Str × D)} {z : Str} {st : Sto} : ditO kvs (.str z) st = (lkp kvs z).map fun d => (d, st) := rfl
@[simp] theorem dgetO_1 {kvs : List (Str × D)} {z : Str} {st : Sto} : dgetO kvs [.str z] st = some ((lkp kvs z).getD .non, st) := rfl
@[simp] theorem dgetO_2 {kvs : List (Str × D)} {z : Str} {d : D} {st : Sto} : dgetO kvs [.str z, d] st = some ((lkp kvs z).getD d, st) := by cases d <;> rfl
section
variable {X : Cx} {x : Str} {kvs : List (Str × D)} {p pos : Pos} {e : Expr} {f : SE}
theorem e_din (C : ConD X.K X.w X.mg x kvs) (hg : Gl X x) (ha : PE X e (rdE X.K X.w f)) (hm : behindInMarks .In (.Name x p) = false := by first | exact nobehind _ (by decide) (by decide) | rfl) (hd : (x == ("__debug__" : Str)) = false := by decide) : PE X (.Compare e [.In] [.Name x p] pos) (rdE X.K X.w (unF (dinO kvs false) f)) := by
  obtain ⟨a, es, n, hx, D', dv⟩ := C
  refine (pe_cmpR (op_in_kd D') ha (pe_glob hg hx (v := .ref a) rfl hd) hm).weak ?_
  rintro τ H Q ⟨μ, st, σ, d, st', gd, er, hv, k⟩
  obtain ⟨y, s1, h1, hv⟩ := bnd_eq hv
  refine ⟨μ, st, σ, y, s1, gd, er, h1, fun μ1 H1 vx g1 d1 r1 => ?_⟩
  cases y with
  | str z =>
    simp only [Rep] at r1
    subst r1
    cases hv
    rcases dvs_ns D' dv z with ⟨d, u, a1, a2, _⟩ | ⟨a1, a2⟩
    · refine ⟨z, some u, rfl, rfl, a2, k μ1 H1 _ g1 d1 ?_⟩
      rw [a1]; simp only [Rep]; rfl
    · refine ⟨z, none, rfl, rfl, a2, k μ1 H1 _ g1 d1 ?_⟩
      rw [a1]; simp only [Rep]; rfl
  | _ => cases hv
theorem e_dnin (C : ConD X.K X.w X.mg x kvs) (hg : Gl X x) (ha : PE X e (rdE X.K X.w f)) (hm : behindInMarks .NotIn (.Name x p) = false := by first | exact nobehind _ (by decide) (by decide) | rfl) (hd : (x == ("__debug__" : Str)) = false := by decide) : PE X (.Compare e [.NotIn] [.Name x p] pos) (rdE X.K X.w (unF (dinO kvs true) f)) := by
  obtain ⟨a, es, n, hx, D', dv⟩ := C
  refine (pe_cmpR (op_notIn_kd D') ha (pe_glob hg hx (v := .ref a) rfl hd) hm).weak ?_
  rintro τ H Q ⟨μ, st, σ, d, st', gd, er, hv, k⟩
  obtain ⟨y, s1, h1, hv⟩ := bnd_eq hv
  refine ⟨μ, st, σ, y, s1, gd, er, h1, fun μ1 H1 vx g1 d1 r1 => ?_⟩
  cases y with
  | str z =>
    simp only [Rep] at r1
    subst r1
    cases hv
    rcases dvs_ns D' dv z with ⟨d, u, a1, a2, _⟩ | ⟨a1, a2⟩
    · refine ⟨z, some u, rfl, rfl, a2, k μ1 H1 _ g1 d1 ?_⟩
      rw [a1]; simp only [Rep]; rfl
    · refine ⟨z, none, rfl, rfl, a2, k μ1 H1 _ g1 d1 ?_⟩
      rw [a1]; simp only [Rep]; rfl
  | _ => cases hv
theorem t_din (C : ConD X.K X.w X.mg x kvs) (hg : Gl X x) (ha : PE X e (rdE X.K X.w f)) (hm : behindInMarks .In (.Name x p) = false := by first | exact nobehind _ (by decide) (by decide) | rfl) (hd : (x == ("__debug__" : Str)) = false := by decide) : PT X (.Compare e [.In] [.Name x p] pos) (rdT X.K X.w (truF (unF (dinO kvs false) f))) := by
  obtain ⟨a, es, n, hx, D', dv⟩ := C
  refine (pt_cmpR (op_in_kd D') ha (pe_glob hg hx (v := .ref a) rfl hd) hm).weak ?_
  rintro τ H Q ⟨μ, st, σ, b, st', gd, er, hv, k⟩
  obtain ⟨y0, s0, h0, hv⟩ := bnd_eq hv
  obtain ⟨y, s1, h1, h2⟩ := bnd_eq h0
  refine ⟨μ, st, σ, y, s1, gd, er, h1, fun μ1 H1 vx g1 d1 r1 => ?_⟩
  cases y with
  | str z =>
    simp only [Rep] at r1
    subst r1
    cases h2
    cases hv
    rcases dvs_ns D' dv z with ⟨d, u, a1, a2, _⟩ | ⟨a1, a2⟩
    · refine ⟨z, some u, rfl, rfl, a2, true, rfl, ?_⟩
      have := k μ1 H1 g1 d1
      rw [a1] at this; exact this
    · refine ⟨z, none, rfl, rfl, a2, false, rfl, ?_⟩
      have := k μ1 H1 g1 d1
      rw [a1] at this; exact this
  | _ => cases h2
theorem t_dnin (C : ConD X.K X.w X.mg x kvs) (hg : Gl X x) (ha : PE X e (rdE X.K X.w f)) (hm : behindInMarks .NotIn (.Name x p) = false := by first | exact nobehind _ (by decide) (by decide) | rfl) (hd : (x == ("__debug__" : Str)) = false := by decide) : PT X (.Compare e [.NotIn] [.Name x p] pos) (rdT X.K X.w (truF (unF (dinO kvs true) f))) := by
  obtain ⟨a, es, n, hx, D', dv⟩ := C
  refine (pt_cmpR (op_notIn_kd D') ha (pe_glob hg hx (v := .ref a) rfl hd) hm).weak ?_
  rintro τ H Q ⟨μ, st, σ, b, st', gd, er, hv, k⟩
  obtain ⟨y0, s0, h0, hv⟩ := bnd_eq hv
  obtain ⟨y, s1, h1, h2⟩ := bnd_eq h0
  refine ⟨μ, st, σ, y, s1, gd, er, h1, fun μ1 H1 vx g1 d1 r1 => ?_⟩
  cases y with
  | str z =>
    simp only [Rep] at r1
    subst r1
    cases h2
    cases hv
    rcases dvs_ns D' dv z with ⟨d, u, a1, a2, _⟩ | ⟨a1, a2⟩
    · refine ⟨z, some u, rfl, rfl, a2, false, rfl, ?_⟩
      have := k μ1 H1 g1 d1
      rw [a1] at this; exact this
    · refine ⟨z, none, rfl, rfl, a2, true, rfl, ?_⟩
      have := k μ1 H1 g1 d1
      rw [a1] at this; exact this
  | _ => cases h2
theorem e_dit (C : ConD X.K X.w X.mg x kvs) (hg : Gl X x) (ha : PE X e (rdE X.K X.w f)) (hs : PlainIx e := by exact fun _ _ => rfl) (hd : (x == ("__debug__" : Str)) = false := by decide) : PE X (.Subscript (.Name x p) e pos) (rdE X.K X.w (unF (ditO kvs) f)) := by
  obtain ⟨a, es, n, hx, D', dv⟩ := C
  refine (pe_ix ix_kdict (pe_glob hg hx (v := .ref a) rfl hd) ha hs).weak ?_
  rintro τ H Q ⟨μ, st, σ, d, st', gd, er, hv, k⟩
  obtain ⟨y, s1, h1, hv⟩ := bnd_eq hv
  refine ⟨μ, st, σ, y, s1, gd, er, h1, fun μ1 H1 vx g1 d1 r1 => ?_⟩
  cases y with
  | str z =>
    simp only [Rep] at r1
    subst r1
    rw [ditO_str] at hv
    rcases dvs_ns D' dv z with ⟨d2, u, a1, a2, c⟩ | ⟨a1, a2⟩
    · rw [a1] at hv
      cases hv
      obtain ⟨v, rv, rp⟩ := cv_ok c
      exact ⟨a, z, v, rfl, rfl, ⟨es, n, u, D'.at_, D'.lit, a2, rv⟩, k μ1 H1 v g1 d1 (rp H1 μ1)⟩
    · rw [a1] at hv; cases hv
  | _ => cases hv
/-- the call by values -/
theorem mt_dget {a : Addr} {es : Array DictEntry} {n : Nat} (D' : KDict X.K X.w a es n) : MtR X "dict.get" (fun x vs H Q => x = .ref a ∧ ∃ (z : Str) (r : Option Value), PySem.W.nsIn X.K a z = some r ∧
    ((vs = [.str z] ∧ ∃ v, (∀ u, r = some u → RelV v u) ∧ (r = none → v = .non) ∧ Q v H) ∨ (∃ dv v, vs = [.str z, dv] ∧ (∀ u, r = some u → RelV v u) ∧ (r = none → v = dv) ∧ Q v H))) := by
  intro pins s σ H x vs v us Q I rx rv h
  obtain ⟨rfl, z, r, e, h⟩ := h
  obtain rfl : v = Value.ref a := rx
  have hm := PySem.W.mapOf_K (prog := X.prog) (w := X.w) I.kIn D'.at_ D'.lit
  have hf := PySem.W.find_K D'.at_ e
  rcases h with ⟨rfl, v, h1, h2, q⟩ | ⟨dv, v, rfl, h1, h2, q⟩
  · obtain ⟨u, rfl, t, rfl⟩ := rv.one
    refine call_meetsIn PySem.F.slot_dict_get hm.typeIs PySem.F.entry_dict_get (PySem.F.args_dict_get_2 _ _) (meets_dict_get (knd := PySem.strKind X.prog X.w) (d := a) (k := z) (PySem.strKind_is X.prog X.w z t) D'.low) ⟨_, hm, ?_⟩
    show EP X pins σ Q _ _
    rw [hf]
    refine ⟨v, H, I.tok _, ?_, q⟩
    cases r with
    | none => rw [h2 rfl]; rfl
    | some u => exact h1 u rfl
  · obtain ⟨u, u2, rfl, ⟨t, rfl⟩, r2⟩ := rv.two
    refine call_meetsIn PySem.F.slot_dict_get hm.typeIs PySem.F.entry_dict_get (PySem.F.args_dict_get_3 _ _ _) (meets_dict_get_default (knd := PySem.strKind X.prog X.w) (d := a) (k := z) (PySem.strKind_is X.prog X.w z t) D'.low u2) ⟨_, hm, ?_⟩
    show EP X pins σ Q _ _
    rw [hf]
    refine ⟨v, H, I.tok _, ?_, q⟩
    cases r with
    | none => rw [h2 rfl]; exact r2
    | some u => exact h1 u rfl
theorem e_dget {es : List Expr} {apos : Pos} {g : SA} (C : ConD X.K X.w X.mg x kvs) (hg : Gl X x) (ha : PA X (e :: es) (rdA X.K X.w g)) (hd : (x == ("__debug__" : Str)) = false := by decide)
    (hbase : attributeBase (.Name x p) "get" X.env (eval (.Name x p) X.env) = eval (.Name x p) X.env := by rfl)
    (hfew : ((backTo pos (starEach (e :: es) X.env)).all (fun x => !x.1) && (backToKw pos (keywordEach [] X.env)).all (fun x => x.1.isSome)
      && decide ((e :: es).length + ([] : List Keyword).length + (if ([] : List Keyword).isEmpty then 0 else 1) < 30)) = true := by rfl)
    (hline : (apos.endLine == pos.line) = true := by rfl) (hs : starEach (e :: es) X.env = (false, eval e X.env) :: starEach es X.env := by rfl) (hplain : (backTo pos (starEach es X.env)).any (·.1) = false := by rfl) :
    PE X (.Call (.Attribute (.Name x p) "get" apos) (e :: es) [] pos) (rdE X.K X.w (appF (dgetO kvs) g)) := by
  obtain ⟨a, ents, n, hx, D', dv⟩ := C
  refine ⟨fun pins s σ H Q I h => ?_⟩
  refine wpAny_Call_method_late hbase hfew hline rfl (thn ((pe_glob hg hx (v := .ref a) rfl hd).run pins s σ H (fun x H1 => x = .ref a ∧ rdE X.K X.w (appF (dgetO kvs) g) σ H1 Q) I ⟨rfl, h⟩) fun v s1 ⟨x', H1, I1, r1, ex, q1⟩ => ?_)
  subst ex
  obtain rfl : v = Value.ref a := r1
  obtain ⟨μ, st, σ1, d, st', gd, er, hv, k⟩ := q1
  obtain ⟨xs, s3, h1, hv⟩ := bnd_eq hv
  refine ⟨"dict", "dict.get", PySem.F.plainAttrs_dict, PySem.F.slot_dict_get, PySem.F.type_dict_get, kd_type D' I1, ?_, ?_⟩
  · intro b eb
    cases eb
    exact ⟨_, I1.kIn _ _ D'.at_, rfl⟩
  have hA := ha.run pos pins s1 σ H1 (fun vs H2 => ∃ μ2, Gr H1 μ H2 μ2 ∧ Gd X.K X.w H2 μ2 s3 ∧ Reps X.K H2 μ2 xs vs) I1 ⟨μ, st, σ1, xs, s3, gd, er, h1, fun μ' H' vs g' d' r' => ⟨μ', g', d', r'⟩⟩
  rw [hs] at hA ⊢
  refine Calls.callWith_builtin (by show (false || (backTo pos (starEach es X.env)).any (·.1)) = false; rw [hplain] <;> rfl) (Calls.evalArgs_plain ?_)
  refine thn hA fun us s2 ⟨vs, H2, I2, r2, μ2, g2, gd2, rp⟩ => mt_dget D' pins s2 σ H2 (.ref a) vs (.ref a) us Q I2 rfl r2 ⟨rfl, ?_⟩
  unfold dgetO at hv
  split at hv
  · rename_i z _
    cases hv
    obtain ⟨v, rfl, rz⟩ := reps1 rp
    simp only [Rep] at rz
    subst rz
    rcases dvs_ns D' dv z with ⟨d2, u, a1, a2, c⟩ | ⟨a1, a2⟩
    · obtain ⟨v, rv, rpv⟩ := cv_ok c
      refine ⟨z, some u, a2, .inl ⟨rfl, v, (fun u' h => by cases h; exact rv), (fun h => by cases h), k μ2 H2 v g2 gd2 ?_⟩⟩
      rw [a1]; exact rpv H2 μ2
    · refine ⟨z, none, a2, .inl ⟨rfl, .non, (fun u' h => by cases h), (fun h => rfl), k μ2 H2 _ g2 gd2 ?_⟩⟩
      rw [a1]; simp only [Option.getD_none, Rep]
  · rename_i z dd _
    cases hv
    obtain ⟨v, v2, rfl, rz, rd⟩ := reps2 rp
    simp only [Rep] at rz
    subst rz
    rcases dvs_ns D' dv z with ⟨d2, u, a1, a2, c⟩ | ⟨a1, a2⟩
    · obtain ⟨v, rv, rpv⟩ := cv_ok c
      refine ⟨z, some u, a2, .inr ⟨v2, v, rfl, (fun u' h => by cases h; exact rv), (fun h => by cases h), k μ2 H2 v g2 gd2 ?_⟩⟩
      rw [a1]; exact rpv H2 μ2
    · refine ⟨z, none, a2, .inr ⟨v2, v2, rfl, (fun u' h => by cases h), (fun h => rfl), k μ2 H2 _ g2 gd2 ?_⟩⟩
      rw [a1]; exact rd
  · cases hv
end
end Iv

namespace Iv
open PySem L2 PySem.Spec
/-! ### f-strings of texts and ints, two parts or more -/
def fmtO : Op1 := fun x st => match x with
  | .str y => if y.length ≤ LIM then some (.str y, st) else none
  | .int i => if i.natAbs.log2 < 1920 then some (.str (toString i), st) else none
  | _ => none
def jsF : List SE → Str → Sl → Sto → Option (Str × Sto)
  | [], acc, _, st => some (acc, st)
  | f :: fs, acc, σ, st => bnd (f σ st) fun x st1 => match x with
    | .str y => if (acc ++ y).length ≤ LIM then jsF fs (acc ++ y) σ st1 else none
    | _ => none
def fstrF (fs : List SE) : SE := fun σ st => bnd (jsF fs Str.empty σ st) fun x st1 => some (.str x, st1)
theorem fstrF_eq {fs : List SE} {σ : Sl} {st : Sto} : fstrF fs σ st = bnd (jsF fs Str.empty σ st) fun x st1 => some (.str x, st1) := rfl
section
variable {K : PySem.W.Frag} {ww : World}
theorem js_rd : ∀ (fs : List SE) (acc : Str) (τ : St) (H : Hp) (Q : Str → Hp → Prop), (∃ μ st σ x st', Gd K ww H μ st ∧ EnvR K H μ σ τ ∧ jsF fs acc σ st = some (x, st') ∧ ∀ μ' H', Gr H μ H' μ' → Gd K ww H' μ' st' → Q x H') → tJs (fs.map (rdE K ww)) acc τ H Q
  | [], acc, τ, H, Q, ⟨μ, st, σ, x, st', gd, er, hv, k⟩ => by
    cases hv
    exact k μ H (Gr.refl H μ) gd
  | f :: fs, acc, τ, H, Q, ⟨μ, st, σ, x, st', gd, er, hv, k⟩ => by
    unfold jsF at hv
    obtain ⟨y, s1, h1, hv⟩ := bnd_eq hv
    refine ⟨μ, st, σ, y, s1, gd, er, h1, fun μ1 H1 v g1 d1 r1 => ?_⟩
    cases y with
    | str z =>
      simp only [Rep] at r1
      subst r1
      dsimp only at hv
      split at hv
      · rename_i hl
        exact ⟨z, rfl, lim_ok hl, js_rd fs (acc ++ z) τ H1 Q ⟨μ1, s1, σ, x, st', d1, er.m g1, hv, fun μ' H' g' d' => k μ' H' (g1.trans g') d'⟩⟩
      · cases hv
    | _ => cases hv
end
section
variable {X : Cx}
theorem sj_nil : PJ X [] (([] : List SE).map (rdE X.K X.w)) := .nil
theorem sj_cons {e : Expr} {es : List Expr} {f : SE} {fs : List SE} (h : PE X e (rdE X.K X.w f)) (r : PJ X es (fs.map (rdE X.K X.w))) : PJ X (e :: es) ((f :: fs).map (rdE X.K X.w)) := .cons h r
theorem e_fmt {e : Expr} {f : SE} {pos : Pos} (h : PE X e (rdE X.K X.w f)) : PE X (.FormattedValue e (-1) none pos) (rdE X.K X.w (unF fmtO f)) := (pe_fmt h).weak fun τ H Q ⟨μ, st, σ, d, st', gd, er, hv, k⟩ => by
  obtain ⟨y, s1, h1, hv⟩ := bnd_eq hv
  refine ⟨μ, st, σ, y, s1, gd, er, h1, fun μ1 H1 vx g1 d1 r1 => ?_⟩
  cases y with
  | str z =>
    simp only [Rep] at r1
    subst r1
    simp only [fmtO] at hv
    split at hv
    · rename_i hl
      cases hv
      exact .inl ⟨z, rfl, lim_ok hl, k μ1 H1 _ g1 d1 (by simp only [Rep])⟩
    · cases hv
  | int i =>
    simp only [Rep] at r1
    subst r1
    simp only [fmtO] at hv
    split at hv
    · rename_i hl
      cases hv
      exact .inr ⟨i, rfl, hl, k μ1 H1 _ g1 d1 (by simp only [Rep])⟩
    · cases hv
  | _ => cases hv
theorem e_fstr {v1 v2 : Expr} {rest : List Expr} {f1 f2 : SE} {fs : List SE} {pos : Pos} (h : PJ X (v1 :: v2 :: rest) ((f1 :: f2 :: fs).map (rdE X.K X.w))) : PE X (.JoinedStr (v1 :: v2 :: rest) pos) (rdE X.K X.w (fstrF (f1 :: f2 :: fs))) :=
  (pe_joined h).weak fun τ H Q ⟨μ, st, σ, d, st', gd, er, hv, k⟩ => by
    obtain ⟨y, s2, h1, hv⟩ := bnd_eq hv
    cases hv
    exact js_rd _ _ τ H _ ⟨μ, st, σ, y, _, gd, er, h1, fun μ' H' g' d' => k μ' H' _ g' d' (by simp only [Rep])⟩
end
end Iv

namespace Iv
open PySem L2 PySem.Spec
/-! ### l.pop() -/
def popO : OpM := fun x ys st => match x, ys with
  | .loc n, [] => match getM st n with
    | none => none
    | some xs => if xs.length ≤ LIM then (xs.getLast?).map fun d => (d, st.set n (.lst xs.dropLast)) else none
  | _, _ => none
@[simp] theorem popO_eq {n : Nat} {st : Sto} : popO (.loc n) [] st = (match getM st n with
    | none => none
    | some xs => if xs.length ≤ LIM then (xs.getLast?).map fun d => (d, st.set n (.lst xs.dropLast)) else none) := rfl
section
variable {X : Cx} {K : PySem.W.Frag} {ww : World}
theorem ok_pop : OkM K ww rPop popO := by
  intro H μ st x ys vx vs d st' Q g rx r hv k
  cases x with
  | loc n =>
    simp only [popO] at hv
    split at hv
    · rename_i n' e9
      cases e9
      split at hv
      · cases hv
      · rename_i xs e
        split at hv
        · rename_i hl
          cases hd : xs.getLast? with
          | none => rw [hd] at hv; cases hv
          | some y =>
            rw [hd] at hv
            cases hv
            simp only [Rep] at rx
            obtain ⟨p, rfl, hp⟩ := rx
            obtain rfl : vs = [] := by
              have := r.len
              cases vs with
              | nil => rfl
              | cons _ _ => cases this
            obtain ⟨ws, hH, rs⟩ := g.getM hp e
            rw [List.getLast?_eq_getElem?] at hd
            obtain ⟨v, hw, rv⟩ := rs.get hd
            have gw : Gr H μ (upd H p (.lst ws.dropLast)) μ := gr_write hH
            have rd : Reps K H μ xs.dropLast ws.dropLast := by
              rw [List.dropLast_eq_take, List.dropLast_eq_take, ← rs.len]
              exact rs.take _
            exact ⟨p, ws, v, rfl, rfl, hH, by rw [← rs.len]; exact hw, k μ _ _ gw (g.write hp (getM_get e) hH rd) (rv.m gw)⟩
        · cases hv
    · cases hv
  | _ => cases hv
theorem e_pop {o : Expr} {apos cpos : Pos} {f : SE} (ho : PE X o (rdE X.K X.w f)) (hbase : attributeBase o "pop" X.env (eval o X.env) = eval o X.env := by rfl) (hline : (apos.endLine == cpos.line) = true := by rfl) :
    PE X (.Call (.Attribute o "pop" apos) [] [] cpos) (rdE X.K X.w (bm0F "list" popO f)) :=
  se_bm0 PySem.F.plainAttrs_list PySem.F.slot_list_pop PySem.F.type_list_pop mt_pop ok_pop ho hbase hline
/-! ### l.extend(m) -/
theorem ok_extend : OkM K ww rExtend extendO := by
  intro H μ st x ys vx vs d st' Q g rx r hv k
  cases x with
  | loc n =>
    simp only [extendO] at hv
    split at hv
    · rename_i n' m e9
      cases e9
      split at hv
      · cases hv
      · split at hv
        · rename_i xs zs e1 e2
          split at hv
          · rename_i hl
            cases hv
            simp only [Rep] at rx
            obtain ⟨p, rfl, hp⟩ := rx
            obtain ⟨v, rfl, rv⟩ := reps1 r
            simp only [Rep] at rv
            obtain ⟨q, rfl, hq⟩ := rv
            obtain ⟨ws, hH, rs⟩ := g.getM hp e1
            obtain ⟨us, hH2, rs2⟩ := g.getM hq e2
            have gw : Gr H μ (upd H p (.lst (ws ++ us))) μ := gr_write hH
            exact ⟨p, q, ws, us, rfl, rfl, hH, hH2, lim_ok (by rw [← rs.len, ← rs2.len]; exact hl), k μ _ _ gw (g.write hp (getM_get e1) hH (rs.app rs2)) (by simp only [Rep])⟩
          · cases hv
        · cases hv
    · cases hv
  | _ => cases hv
theorem e_extend {o e : Expr} {apos cpos : Pos} {f : SE} {g : SA} (ho : PE X o (rdE X.K X.w f)) (ha : PA X [e] (rdA X.K X.w g))
    (hbase : attributeBase o "extend" X.env (eval o X.env) = eval o X.env := by rfl)
    (hfew : ((backTo cpos (starEach [e] X.env)).all (fun x => !x.1) && (backToKw cpos (keywordEach [] X.env)).all (fun x => x.1.isSome)
      && decide ([e].length + ([] : List Keyword).length + (if ([] : List Keyword).isEmpty then 0 else 1) < 30)) = true := by rfl)
    (hline : (apos.endLine == cpos.line) = true := by rfl) (hs : starEach [e] X.env = (false, eval e X.env) :: starEach [] X.env := by rfl) :
    PE X (.Call (.Attribute o "extend" apos) [e] [] cpos) (rdE X.K X.w (bmF "list" extendO f g)) :=
  se_bm PySem.F.plainAttrs_list PySem.F.slot_list_extend PySem.F.type_list_extend mt_extend ok_extend ho ha hbase hfew hline hs rfl
/-! ### a.split(b), a.split(), a.join(l) -/
theorem reps_strs {H : Hp} {μ : List Addr} : ∀ (ys : List Str), Reps K H μ (ys.map .str) (ys.map V.str)
  | [] => reps_nil
  | y :: ys => reps_cons (by simp only [Rep]) (reps_strs ys)
theorem strsD_eq : ∀ {xs : List D} {ys : List Str}, strsD xs = some ys → xs = ys.map .str
  | [], _, h => by cases h; rfl
  | .str b :: ds, ys, h => by
    unfold strsD at h
    cases e : strsD ds with
    | none => rw [e] at h; cases h
    | some bs =>
      rw [e] at h
      cases h
      rw [strsD_eq e]; rfl
  | .non :: _, _, h => by cases h
  | .bl _ :: _, _, h => by cases h
  | .int _ :: _, _, h => by cases h
  | .tup _ :: _, _, h => by cases h
  | .loc _ :: _, _, h => by cases h
theorem strs_reps {H : Hp} {μ : List Addr} : ∀ {ys : List Str} {vs : List V}, Reps K H μ (ys.map .str) vs → vs = ys.map V.str
  | [], _, h => by simp only [List.map_nil, Reps] at h; exact h
  | y :: ys, vs, h => by
    simp only [List.map_cons, Reps] at h
    obtain ⟨v, ws, rfl, h1, h2⟩ := h
    simp only [Rep] at h1
    rw [h1, strs_reps h2]; rfl
theorem ok_split : OkM K ww (fun x xs H Q => ∃ a b, x = .str a ∧ xs = [.str b] ∧ (b.length == 0) = false ∧ a.length + 2 ≤ sizeLine ∧ rNewStrs (Txt.split a b) H Q) splitO := by
  intro H μ st x ys vx vs d st' Q g rx r hv k
  unfold splitO at hv
  split at hv
  · rename_i a b
    split at hv
    · rename_i hl
      cases hv
      simp only [Rep] at rx
      subst rx
      obtain ⟨v, rfl, rv⟩ := reps1 r
      simp only [Rep] at rv
      subst rv
      exact ⟨a, b, rfl, rfl, hl.1, lim_ok hl.2, fun p hp => new_lst g (reps_strs _) k p hp⟩
    · cases hv
  · cases hv
theorem e_split {o e : Expr} {apos cpos : Pos} {f : SE} {g : SA} (ho : PE X o (rdE X.K X.w f)) (ha : PA X [e] (rdA X.K X.w g))
    (hbase : attributeBase o "split" X.env (eval o X.env) = eval o X.env := by rfl)
    (hfew : ((backTo cpos (starEach [e] X.env)).all (fun x => !x.1) && (backToKw cpos (keywordEach [] X.env)).all (fun x => x.1.isSome)
      && decide ([e].length + ([] : List Keyword).length + (if ([] : List Keyword).isEmpty then 0 else 1) < 30)) = true := by rfl)
    (hline : (apos.endLine == cpos.line) = true := by rfl) (hs : starEach [e] X.env = (false, eval e X.env) :: starEach [] X.env := by rfl) :
    PE X (.Call (.Attribute o "split" apos) [e] [] cpos) (rdE X.K X.w (bmF "str" splitO f g)) :=
  se_bm PySem.F.plainAttrs_str PySem.F.slot_str_split PySem.F.type_str_split mt_split ok_split ho ha hbase hfew hline hs rfl
theorem ok_words : OkM K ww (fun x xs H Q => ∃ a, x = .str a ∧ xs = [] ∧ a.length + 2 ≤ sizeLine ∧ rNewStrs (Txt.words a) H Q) wordsO := by
  intro H μ st x ys vx vs d st' Q g rx r hv k
  unfold wordsO at hv
  split at hv
  · rename_i a
    split at hv
    · rename_i hl
      cases hv
      simp only [Rep] at rx
      subst rx
      obtain rfl : vs = [] := by
        have := r.len
        cases vs with
        | nil => rfl
        | cons _ _ => cases this
      exact ⟨a, rfl, rfl, lim_ok hl, fun p hp => new_lst g (reps_strs _) k p hp⟩
    · cases hv
  · cases hv
theorem e_words {o : Expr} {apos cpos : Pos} {f : SE} (ho : PE X o (rdE X.K X.w f)) (hbase : attributeBase o "split" X.env (eval o X.env) = eval o X.env := by rfl) (hline : (apos.endLine == cpos.line) = true := by rfl) :
    PE X (.Call (.Attribute o "split" apos) [] [] cpos) (rdE X.K X.w (bm0F "str" wordsO f)) :=
  se_bm0 PySem.F.plainAttrs_str PySem.F.slot_str_split PySem.F.type_str_split mt_words ok_words ho hbase hline
theorem ok_join : OkM K ww (fun x xs H Q => ∃ a p, ∃ ys : List Str, x = .str a ∧ xs = [.ref p] ∧ (SqL K H p (ys.map V.str) ∨ SqT K H p (ys.map V.str)) ∧
    (ys.map (·.length)).sum + ys.length * a.length ≤ 16777216 ∧ Q (.str (Txt.join a ys)) H) joinO := by
  intro H μ st x ys vx vs d st' Q g rx r hv k
  unfold joinO at hv
  split at hv
  · rename_i a n
    split at hv
    · cases hv
    · rename_i xs e
      split at hv
      · cases hv
      · rename_i zs e2
        split at hv
        · rename_i hl
          cases hv
          simp only [Rep] at rx
          subst rx
          obtain ⟨v, rfl, rv⟩ := reps1 r
          simp only [Rep] at rv
          obtain ⟨p, rfl, hp⟩ := rv
          obtain ⟨ws, s, rs⟩ := g.getL hp e
          rw [strsD_eq e2] at rs
          rw [strs_reps rs] at s
          exact ⟨a, p, zs, rfl, rfl, .inl s, limc hl, here k g (by simp only [Rep])⟩
        · cases hv
  · cases hv
theorem e_join {o e : Expr} {apos cpos : Pos} {f : SE} {g : SA} (ho : PE X o (rdE X.K X.w f)) (ha : PA X [e] (rdA X.K X.w g))
    (hbase : attributeBase o "join" X.env (eval o X.env) = eval o X.env := by rfl)
    (hfew : ((backTo cpos (starEach [e] X.env)).all (fun x => !x.1) && (backToKw cpos (keywordEach [] X.env)).all (fun x => x.1.isSome)
      && decide ([e].length + ([] : List Keyword).length + (if ([] : List Keyword).isEmpty then 0 else 1) < 30)) = true := by rfl)
    (hline : (apos.endLine == cpos.line) = true := by rfl) (hs : starEach [e] X.env = (false, eval e X.env) :: starEach [] X.env := by rfl) :
    PE X (.Call (.Attribute o "join" apos) [e] [] cpos) (rdE X.K X.w (bmF "str" joinO f g)) :=
  se_bm PySem.F.plainAttrs_str PySem.F.slot_str_join PySem.F.type_str_join mt_join ok_join ho ha hbase hfew hline hs rfl
/-! ### *x among arguments and items -/
def starF (f : SE) (g : SA) : SA := fun σ st => bnd (f σ st) fun x st1 => match x with
  | .tup xs => bnd (g σ st1) fun ys st2 => some (xs ++ ys, st2)
  | .loc n => match getL st1 n with
    | some xs => bnd (g σ st1) fun ys st2 => some (xs ++ ys, st2)
    | none => none
  | _ => none
theorem starF_eq {f : SE} {g : SA} {σ : Sl} {st : Sto} : starF f g σ st = bnd (f σ st) fun x st1 => match x with
  | .tup xs => bnd (g σ st1) fun ys st2 => some (xs ++ ys, st2)
  | .loc n => match getL st1 n with
    | some xs => bnd (g σ st1) fun ys st2 => some (xs ++ ys, st2)
    | none => none
  | _ => none := rfl
theorem sa_star {e : Expr} {es : List Expr} {p : Pos} {f : SE} {g : SA} (ha : PE X e (rdE X.K X.w f)) (hr : PA X es (rdA X.K X.w g)) (hs : starEach (.Starred e p :: es) X.env = (true, eval e X.env) :: starEach es X.env := by rfl) : PA X (.Starred e p :: es) (rdA X.K X.w (starF f g)) := (StX.pa_star ha hr hs).weak fun τ H Q ⟨μ, st, σ, d, st', gd, er, hv, k⟩ => by
  obtain ⟨x, s1, h1, hv⟩ := bnd_eq hv
  refine ⟨μ, st, σ, x, s1, gd, er, h1, fun μ1 H1 vx g1 d1 r1 => ?_⟩
  cases x with
  | tup xs =>
    obtain ⟨ys, s2, h2, hv⟩ := bnd_eq hv
    cases hv
    simp only [Rep] at r1
    obtain ⟨a, ws, rfl, s, rs⟩ := r1
    refine ⟨a, ws, rfl, .inl s.1, μ1, s1, σ, ys, _, d1, er.m g1, h2, fun μ2 H2 vs g2 d2 r2 => ?_⟩
    exact k μ2 H2 _ (g1.trans g2) d2 ((rs.m g2).app r2)
  | loc n =>
    dsimp only at hv
    split at hv
    · rename_i xs e2
      obtain ⟨ys, s2, h2, hv⟩ := bnd_eq hv
      cases hv
      simp only [Rep] at r1
      obtain ⟨a, rfl, hp⟩ := r1
      obtain ⟨ws, s, rs⟩ := d1.getL hp e2
      refine ⟨a, ws, rfl, .inr s, μ1, s1, σ, ys, _, d1, er.m g1, h2, fun μ2 H2 vs g2 d2 r2 => ?_⟩
      exact k μ2 H2 _ (g1.trans g2) d2 ((rs.m g2).app r2)
    · cases hv
  | _ => cases hv
end
end Iv

namespace Iv
open PySem L2
/-! ### a list times an int -/
def lmulO : Op2 := fun x y st => match x, y with
  | .loc n, .int k => match getM st n with
    | none => none
    | some xs => if -1000000 < k ∧ k < 1000000 ∧ xs.length * k.toNat ≤ LIM then some (.loc st.length, st ++ [.lst (List.replicate k.toNat xs).flatten]) else none
  | _, _ => none
@[simp] theorem lmulO_eq {n : Nat} {k : Int} {st : Sto} : lmulO (.loc n) (.int k) st = (match getM st n with
    | none => none
    | some xs => if -1000000 < k ∧ k < 1000000 ∧ xs.length * k.toNat ≤ LIM then some (.loc st.length, st ++ [.lst (List.replicate k.toNat xs).flatten]) else none) := rfl
section
variable {X : Cx} {K : PySem.W.Frag} {ww : World}
theorem reps_rep {H : Hp} {μ : List Addr} {xs : List D} {vs : List V} (r : Reps K H μ xs vs) : ∀ k : Nat, Reps K H μ (List.replicate k xs).flatten (List.replicate k vs).flatten
  | 0 => reps_nil
  | k + 1 => by
    rw [List.replicate_succ, List.replicate_succ, List.flatten_cons, List.flatten_cons]
    exact r.app (reps_rep r k)
theorem ok_lmul : Ok2 K ww rRep lmulO := by
  intro H μ st x y vx vy d st' Q g rx ry hv k
  cases x with
  | loc n =>
    cases y with
    | int j =>
      simp only [Rep] at rx ry
      subst ry
      obtain ⟨p, rfl, hp⟩ := rx
      rw [lmulO_eq] at hv
      cases e : getM st n with
      | none => rw [e] at hv; cases hv
      | some xs =>
        rw [e] at hv
        dsimp only at hv
        split at hv
        · rename_i hc
          cases hv
          obtain ⟨vs, hH, r⟩ := g.getM hp e
          refine ⟨p, j, vs, rfl, rfl, hH, by omega, by omega, by rw [← r.len]; exact lim_ok hc.2.2, fun q hq => ?_⟩
          exact k _ _ _ (gr_new hq) (g.new hq (reps_rep r _)) (by simp only [Rep]; exact ⟨q, rfl, by rw [← g.len]; simp⟩)
        · cases hv
    | _ => cases hv
  | _ => cases hv
theorem e_lmul {a b : Expr} {f g : SE} {pos : Pos} (ha : PE X a (rdE X.K X.w f)) (hb : PE X b (rdE X.K X.w g)) : PE X (.BinOp a .Mult b pos) (rdE X.K X.w (binF lmulO f g)) := se_bin op_rep ok_lmul ha hb
end
/-! ### comprehensions with a test: what is kept of each item -/
theorem compF_loop {J : It} {g : Tg} {c : ST} {e : SE} {σ0 : Sl} {st1 : Sto} {xs : List D} {n : Nat} (φ : D → Option D) (hn : st1.length ≤ n) (hz : xs.length ≤ LIM) (hJ : ∀ s, Ext st1 s → items J s = some xs)
    (h : ∀ (i : Nat) (x : D), xs[i]? = some x → ∀ st, Ext st1 st → ∃ σ1 st2, g x σ0 = some σ1 ∧ c σ1 st = some ((φ x).isSome, st2) ∧ Ext st st2 ∧ ∀ y, φ x = some y → ∃ st3, e σ1 st2 = some (y, st3) ∧ Ext st2 st3) :
    ∀ (m i : Nat) (s : Sto), Ext st1 s → s[n]? = some (.lst ((xs.take i).filterMap φ)) → i ≤ xs.length → xs.length - i < m → ∃ s2, compV J g c e n σ0 m i s = some s2 ∧ Ext st1 s2 ∧ s2[n]? = some (.lst (xs.filterMap φ))
  | 0, i, s, _, _, _, hm => by omega
  | m + 1, i, s, hs, ha, hi, hm => by
    unfold compV
    simp only [hJ s hs]
    cases ex : xs[i]? with
    | none =>
      have e2 : i = xs.length := by
        have := List.getElem?_eq_none_iff.mp ex
        omega
      subst e2
      rw [List.take_length] at ha
      exact ⟨s, rfl, hs, ha⟩
    | some x =>
      have hlt := (List.getElem?_eq_some_iff.mp ex).1
      obtain ⟨σ1, s2, e1, e2, x2, e3⟩ := h i x ex s hs
      have ht : (xs.take (i + 1)).filterMap φ = (xs.take i).filterMap φ ++ (match φ x with
        | some y => [y]
        | none => []) := by
        rw [List.take_add_one, ex, List.filterMap_append]
        cases hx : φ x <;> simp [hx]
      cases hx : φ x with
      | none =>
        rw [hx] at e2 ht
        simp only [e1, e2, bnd_some, Option.isSome_none, Bool.false_eq_true, if_false]
        exact compF_loop φ hn hz hJ h m (i + 1) _ (hs.trans x2) (by rw [ht, List.append_nil]; exact x2.at ha) hlt (by omega)
      | some y =>
        obtain ⟨s3, e4, x3⟩ := e3 y hx
        rw [hx] at e2 ht
        have hs3 := (hs.trans x2).trans x3
        have ha3 := x3.at (x2.at ha)
        have ga : getM s3 n = some ((xs.take i).filterMap φ) := getM_of ha3
        have hl : ((xs.take i).filterMap φ).length < LIM := by
          have h1 := List.length_filterMap_le φ (xs.take i)
          rw [List.length_take] at h1
          exact Nat.lt_of_lt_of_le (by omega) hz
        have hn2 : n < s3.length := (List.getElem?_eq_some_iff.mp ha3).1
        simp only [e1, e2, bnd_some, Option.isSome_some, if_true, e4, ga, hl]
        refine compF_loop φ hn hz hJ h m (i + 1) _ (hs3.set hn) ?_ hlt (by omega)
        rw [List.getElem?_set_self hn2, ht]
theorem compF_ok {vs : List Nat} {i : SJ} {g : Tg} {c : ST} {e : SE} {σ : Sl} {st st1 : Sto} {J : It} {xs : List D} (φ : D → Option D) (hi : i σ st = some (J, st1)) (hz : xs.length ≤ LIM) (hJ : ∀ s, Ext st1 s → items J s = some xs)
    (h : ∀ (i : Nat) (x : D), xs[i]? = some x → ∀ st, Ext st1 st → ∃ σ1 st2, g x (wipeD σ vs) = some σ1 ∧ c σ1 st = some ((φ x).isSome, st2) ∧ Ext st st2 ∧ ∀ y, φ x = some y → ∃ st3, e σ1 st2 = some (y, st3) ∧ Ext st2 st3) :
    ∃ s2, compF vs i g c e σ st = some (.loc st1.length, s2) ∧ Ext st1 s2 ∧ s2[st1.length]? = some (.lst (xs.filterMap φ)) := by
  obtain ⟨s2, e2, x2, g2⟩ := compF_loop (n := st1.length) (σ0 := wipeD σ vs) φ (Nat.le_refl _) hz hJ h (xs.length + 1) 0 (st1 ++ [.lst []]) (Ext.app _) (by simp) (Nat.zero_le _) (by omega)
  refine ⟨s2, ?_, x2, g2⟩
  unfold compF
  simp only [hi, bnd_some, hJ st1 Ext.refl, e2, Option.map_some]
end Iv

namespace Iv
open PySem L2
/-! ### comprehensions over a range whose items change what stands before (a box) -/
theorem compI_loop {g : Tg} {e : SE} {σ0 : Sl} {xs : List D} {n : Nat} (P : Nat → List D → Sto → Prop) (hz : xs.length < LIM)
    (hP : ∀ i acc s, P i acc s → s[n]? = some (.lst acc) ∧ acc.length = i)
    (h : ∀ (i : Nat) (x : D) (acc : List D) (s : Sto), xs[i]? = some x → P i acc s → ∃ σ1 y s2, g x σ0 = some σ1 ∧ e σ1 s = some (y, s2) ∧ s2[n]? = some (.lst acc) ∧ P (i + 1) (acc ++ [y]) (s2.set n (.lst (acc ++ [y])))) :
    ∀ (m i : Nat) (acc : List D) (s : Sto), P i acc s → i ≤ xs.length → xs.length - i < m → ∃ acc2 s2, compV (.cns xs) g yesT e n σ0 m i s = some s2 ∧ P xs.length acc2 s2
  | 0, i, acc, s, _, _, hm => by omega
  | m + 1, i, acc, s, hp, hi, hm => by
    unfold compV
    simp only [items_cns]
    cases ex : xs[i]? with
    | none =>
      have e2 : i = xs.length := by
        have := List.getElem?_eq_none_iff.mp ex
        omega
      subst e2
      exact ⟨acc, s, rfl, hp⟩
    | some x =>
      have hlt := (List.getElem?_eq_some_iff.mp ex).1
      obtain ⟨σ1, y, s2, e1, e2, ga, hp2⟩ := h i x acc s ex hp
      have hl : acc.length < LIM := by rw [(hP i acc s hp).2]; exact Nat.lt_trans hlt hz
      simp only [e1, yesT, bnd_some, if_true, e2, getM_of ga, hl]
      exact compI_loop P hz hP h m (i + 1) _ _ hp2 hlt (by omega)
theorem compI_ok {vs : List Nat} {i : SJ} {g : Tg} {e : SE} {σ : Sl} {st st1 : Sto} {xs : List D} (P : Nat → List D → Sto → Prop) (hi : i σ st = some (.cns xs, st1)) (hz : xs.length < LIM)
    (hP : ∀ i acc s, P i acc s → s[st1.length]? = some (.lst acc) ∧ acc.length = i) (h0 : P 0 [] (st1 ++ [.lst []]))
    (h : ∀ (i : Nat) (x : D) (acc : List D) (s : Sto), xs[i]? = some x → P i acc s → ∃ σ1 y s2, g x (wipeD σ vs) = some σ1 ∧ e σ1 s = some (y, s2) ∧ s2[st1.length]? = some (.lst acc) ∧ P (i + 1) (acc ++ [y]) (s2.set st1.length (.lst (acc ++ [y])))) :
    ∃ acc s2, compF vs i g yesT e σ st = some (.loc st1.length, s2) ∧ P xs.length acc s2 := by
  obtain ⟨acc, s2, e2, p⟩ := compI_loop (n := st1.length) (σ0 := wipeD σ vs) P hz hP h (xs.length + 1) 0 [] (st1 ++ [.lst []]) h0 (Nat.zero_le _) (by omega)
  refine ⟨acc, s2, ?_, p⟩
  unfold compF
  simp only [hi, bnd_some, items_cns, e2, Option.map_some]
end Iv

namespace Iv
open PySem L2
/-! ### t.index(x), t a tuple of texts that was made while the program ran -/
def tixF (f : SE) (g : SA) : SE := fun σ st => bnd (f σ st) fun x s1 => match x with
  | .tup ds => if nst ds = true then bnd (g σ s1) fun ys s2 => indexC (.tup ds) ys s2 else none
  | _ => none
theorem tixF_eq {f : SE} {g : SA} {σ : Sl} {st : Sto} : tixF f g σ st = bnd (f σ st) fun x s1 => match x with
  | .tup ds => if nst ds = true then bnd (g σ s1) fun ys s2 => indexC (.tup ds) ys s2 else none
  | _ => none := rfl
section
variable {X : Cx} {K : PySem.W.Frag} {ww : World}
def tyTup (K : PySem.W.Frag) (x : V) (H : Hp) : Prop := ∃ p, x = .ref p ∧ NoD K H p
theorem ty_tup : TyOk X "tuple" (tyTup X.K) := fun pins σ H s x v I r ⟨p, ex, h⟩ => by
  subst ex
  cases r
  have q : ∃ o, s.heap.get? p = some o ∧ o.cls = .type "tuple" ∧ o.dict = none := by
    rcases h with ⟨o, u, h1, h2, h3⟩ | ⟨o, h1, h2, h3⟩
    · exact ⟨o, (I.hok p _ h1).1, h2, h3⟩
    · exact ⟨o, I.kIn p o h1, h2, h3⟩
  obtain ⟨o, e, ec, ed⟩ := q
  exact ⟨⟨o, e, ec⟩, fun b eb => by cases eb; exact ⟨o, e, ed⟩⟩
theorem e_tix {o e : Expr} {apos cpos : Pos} {f : SE} {g : SA} (ho : PE X o (rdE X.K X.w f)) (ha : PA X [e] (rdA X.K X.w g))
    (hbase : attributeBase o "index" X.env (eval o X.env) = eval o X.env := by rfl)
    (hfew : ((backTo cpos (starEach [e] X.env)).all (fun x => !x.1) && (backToKw cpos (keywordEach [] X.env)).all (fun x => x.1.isSome)
      && decide ([e].length + ([] : List Keyword).length + (if ([] : List Keyword).isEmpty then 0 else 1) < 30)) = true := by rfl)
    (hline : (apos.endLine == cpos.line) = true := by rfl) (hs : starEach [e] X.env = (false, eval e X.env) :: starEach [] X.env := by rfl) :
    PE X (.Call (.Attribute o "index" apos) [e] [] cpos) (rdE X.K X.w (tixF f g)) :=
  (pe_mG ty_tup PySem.F.plainAttrs_tuple PySem.F.slot_tuple_index PySem.F.type_tuple_index mt_tup_index ho ha hbase hfew hline hs rfl).weak fun τ H Q ⟨μ, st, σ, d', st', gd, er, hv, k⟩ => by
    rw [tixF_eq] at hv
    obtain ⟨x, s1, h1, hv⟩ := bnd_eq hv
    refine ⟨μ, st, σ, x, s1, gd, er, h1, fun μ1 H1 v g1 d1 r1 => ?_⟩
    split at hv
    · rename_i ds
      split at hv
      · rename_i hns
        obtain ⟨ys, s2, h2, hv⟩ := bnd_eq hv
        have r1' := r1
        simp only [Rep] at r1
        obtain ⟨p, vs, rfl, ⟨s, nd⟩, rs⟩ := r1
        refine ⟨⟨p, rfl, nd hns⟩, μ1, s1, σ, ys, s2, d1, er.m g1, h2, fun μ2 H2 ws g2 d2 r2 => ?_⟩
        have rx := r1'.m g2
        simp only [Rep] at rx
        obtain ⟨p2, vs2, e2, ⟨t, _⟩, rs2⟩ := rx
        cases e2
        unfold indexC at hv
        split at hv
        · rename_i xs z e1
          cases e1
          split at hv
          · cases hv
          · rename_i zs e2
            split at hv
            · cases hv
            · rename_i j e3
              cases hv
              obtain ⟨v, rfl, rv⟩ := reps1 r2
              simp only [Rep] at rv
              obtain ⟨q1, q2⟩ := idxS_ok e3
              exact ⟨p, zs, z, j, rfl, by rw [rv], by rw [← strs_of rs2 e2]; exact t, q1, q2, k μ2 H2 _ (g1.trans g2) d2 (by simp only [Rep])⟩
        · cases hv
      · cases hv
    · cases hv
end
end Iv

namespace Iv
open PySem L2
/-! ### l.count(x), l a list of texts -/
theorem cnt_strs {z : Str} : ∀ {xs : List Str} {us : List Value}, Vals (xs.map V.str) us → us.countP (eqU (.str z)) = xs.count z
  | [], us, r => by cases r; rfl
  | x :: xs, us, r => by
    cases r with
    | cons ru rt =>
      obtain ⟨t, rfl⟩ := ru
      rw [List.countP_cons, List.count_cons, cnt_strs rt]
      rfl
def rCntS (K : PySem.W.Frag) : V → List V → Hp → VK → Prop := fun x ys H Q => ∃ (p : Addr) (xs : List Str) (z : Str), x = .ref p ∧ ys = [.str z] ∧ SqL K H p (xs.map V.str) ∧ Q (.int (xs.count z : Nat)) H
section
variable {X : Cx} {K : PySem.W.Frag} {ww : World}
theorem mt_cntS : MtR X "list.count" (rCntS X.K) := fun pins s σ H x ys v us Q I rx ry ⟨p, xs, z, ex, ey, hq, q⟩ => by
  subst ex ey
  cases rx
  obtain ⟨u, rfl, t, rfl⟩ := vals1 ry
  obtain ⟨its, r, ⟨⟨c, dd, da, sl⟩, n, ho, hc, hdn, hd⟩, hz⟩ := I.list hq
  simp only at hc hd
  subst hc hd
  refine call_meets PySem.F.slot_list_count ⟨_, ho, rfl⟩ PySem.F.entry_list_count (PySem.F.args_list_count_2 _ _) (SeqAt.list_countAt p its.toArray n dd sl (.str z t) (eqU (.str z)))
    ⟨ho, fun w hw => mem_eqAt (x := .str z) ⟨t, rfl⟩ rfl r (flat_strs xs) w (by simpa using hw), .int (xs.count z : Nat), H, I.tok _, ⟨s.toks, ?_⟩, q⟩
  show Value.int ((its.toArray.toList.countP (eqU (.str z)) : Nat) : Int) s.toks = _
  rw [show its.toArray.toList.countP (eqU (.str z)) = xs.count z from cnt_strs r]
def intsD : List D → Option (List Int)
  | [] => some []
  | .int i :: ds => (intsD ds).map fun is => i :: is
  | _ :: _ => none
theorem intsD_map : ∀ ns : List Int, intsD (ns.map .int) = some ns
  | [] => rfl
  | n :: ns => by rw [List.map_cons, intsD, intsD_map ns]; rfl
theorem ints_are {H : Hp} {μ : List Addr} : ∀ {xs : List D} {vs : List V} {is : List Int}, Reps K H μ xs vs → intsD xs = some is → vs = is.map V.int
  | [], vs, is, r, h => by simp only [Reps] at r; cases h; exact r
  | x :: xs, vs, is, r, h => by
    simp only [Reps] at r
    obtain ⟨v, ws, rfl, r1, r2⟩ := r
    cases x with
    | int i =>
      simp only [intsD] at h
      cases e : intsD xs with
      | none => rw [e] at h; cases h
      | some cs =>
        rw [e] at h
        cases h
        simp only [Rep] at r1
        rw [r1, ints_are r2 e]
        rfl
    | _ => cases h
def countO : OpM := fun x ys st => match x, ys with
  | .loc n, [.int k] => match getL st n with
    | none => none
    | some xs => (intsD xs).map fun zs => (.int (zs.count k : Nat), st)
  | .loc n, [.str z] => match getL st n with
    | none => none
    | some xs => (strsD xs).map fun zs => (.int (zs.count z : Nat), st)
  | _, _ => none
@[simp] theorem countO_eq {n : Nat} {z : Str} {st : Sto} : countO (.loc n) [.str z] st = (match getL st n with
    | none => none
    | some xs => (strsD xs).map fun zs => (.int (zs.count z : Nat), st)) := rfl
theorem countO_int {n : Nat} {k : Int} {st : Sto} : countO (.loc n) [.int k] st = (match getL st n with
    | none => none
    | some xs => (intsD xs).map fun zs => (.int (zs.count k : Nat), st)) := rfl
theorem ok_count : OkM K ww (fun x xs H Q => rCntS K x xs H Q ∨ rCntI K x xs H Q) countO := by
  intro H μ st x ys vx vs d st' Q g rx r hv k
  unfold countO at hv
  split at hv
  · rename_i n z
    simp only [Rep] at rx
    obtain ⟨p, rfl, hp⟩ := rx
    obtain ⟨v, rfl, rv⟩ := reps1 r
    simp only [Rep] at rv
    cases e : getL st n with
    | none => rw [e] at hv; cases hv
    | some xs =>
      rw [e] at hv
      obtain ⟨ws, s, rs⟩ := g.getL hp e
      cases e2 : intsD xs with
      | none => simp only [e2] at hv; cases hv
      | some zs =>
        simp only [e2] at hv
        cases hv
        exact .inr ⟨p, zs, z, rfl, by rw [rv], by rw [← ints_are rs e2]; exact s, here k g (by simp only [Rep])⟩
  · rename_i n z
    simp only [Rep] at rx
    obtain ⟨p, rfl, hp⟩ := rx
    obtain ⟨v, rfl, rv⟩ := reps1 r
    simp only [Rep] at rv
    cases e : getL st n with
    | none => rw [e] at hv; cases hv
    | some xs =>
      rw [e] at hv
      obtain ⟨ws, s, rs⟩ := g.getL hp e
      cases e2 : strsD xs with
      | none => simp only [e2] at hv; cases hv
      | some zs =>
        simp only [e2] at hv
        cases hv
        exact .inl ⟨p, zs, z, rfl, by rw [rv], by rw [← strs_of rs e2]; exact s, here k g (by simp only [Rep])⟩
  · cases hv
theorem e_count {o e : Expr} {apos cpos : Pos} {f : SE} {g : SA} (ho : PE X o (rdE X.K X.w f)) (ha : PA X [e] (rdA X.K X.w g))
    (hbase : attributeBase o "count" X.env (eval o X.env) = eval o X.env := by rfl)
    (hfew : ((backTo cpos (starEach [e] X.env)).all (fun x => !x.1) && (backToKw cpos (keywordEach [] X.env)).all (fun x => x.1.isSome)
      && decide ([e].length + ([] : List Keyword).length + (if ([] : List Keyword).isEmpty then 0 else 1) < 30)) = true := by rfl)
    (hline : (apos.endLine == cpos.line) = true := by rfl) (hs : starEach [e] X.env = (false, eval e X.env) :: starEach [] X.env := by rfl) :
    PE X (.Call (.Attribute o "count" apos) [e] [] cpos) (rdE X.K X.w (bmF "list" countO f g)) :=
  se_bm PySem.F.plainAttrs_list PySem.F.slot_list_count PySem.F.type_list_count (MtR.or mt_cntS mt_lcount) ok_count ho ha hbase hfew hline hs rfl
/-! ### e == NAME, NAME a list of the module -/
def ConL (K : PySem.W.Frag) (mg : Str → Option Value) (x : Str) (ps : List PyData) : Prop := ∃ a, mg x = some (.ref a) ∧ ∀ H, Dp K H (.ref a) (.list ps)
theorem gd0 (H : Hp) : Gd K ww H [] [] := ⟨rfl, fun n m p xs ys h => (by cases h), fun n p o h => (by cases h)⟩
theorem conL_mk (w0 : World) {h : Heap} {mg : Str → Option Value} {x : Str} {p : Addr} {ds : List D} {ps : List PyData} {its : Array Value} {n : Nat} {sl : Array (Option Value)} (X : K.In h) (G : h.Ns mainGlobals mg) (a : PySem.W.nsIn K mainGlobals x = some (some (.ref p))) (l : K.lookup p = some ⟨.type "list", none, .seq its n, sl⟩) (z : its.size ≤ 1000) (c : CVs K its.toList ds) (e : pys [] 60 ds = some ps) : ConL K mg x ps := by
  obtain ⟨vs, r, q⟩ := cvs_ok c
  exact ⟨p, PySem.W.mg_of X G a, fun H => .lst (.inr ⟨_, _, _, l, rfl, rfl, rfl, Nat.le_trans z (by rw [sizeLine_eq]; decide), r⟩) (pys_dp (gd0 (ww := w0) H) 60 ds vs ps e (q H []))⟩
def eqLO (ps : List PyData) (neg : Bool) : Op1 := fun x st => match py st 60 x with
  | none => none
  | some p => if SeqAt.shaped p = true ∧ SeqAt.shaped (.list ps) = true then some (.bl (PyData.eqv p (.list ps) != neg), st) else none
theorem eqLO_eq {ps : List PyData} {neg : Bool} {x : D} {st : Sto} : eqLO ps neg x st = (match py st 60 x with
  | none => none
  | some p => if SeqAt.shaped p = true ∧ SeqAt.shaped (.list ps) = true then some (.bl (PyData.eqv p (.list ps) != neg), st) else none) := rfl
variable {x : Str} {ps : List PyData} {p pos : Pos} {e : Expr} {f : SE}
theorem e_eqL (hu : X.A.units + 64 < cLine) (C : ConL X.K X.mg x ps) (hg : Gl X x) (ha : PE X e (rdE X.K X.w f)) (hm : behindInMarks .Eq (.Name x p) = false := by first | exact nobehind _ (by decide) (by decide) | rfl) (hd : (x == ("__debug__" : Str)) = false := by decide) : PE X (.Compare e [.Eq] [.Name x p] pos) (rdE X.K X.w (unF (eqLO ps false) f)) := by
  obtain ⟨a, hx, hD⟩ := C
  refine (pe_cmpR (op_eqD hu) ha (pe_glob hg hx (v := .ref a) rfl hd) hm).weak ?_
  rintro τ H Q ⟨μ, st, σ, d, st', gd, er, hv, k⟩
  obtain ⟨y, s1, h1, hv⟩ := bnd_eq hv
  refine ⟨μ, st, σ, y, s1, gd, er, h1, fun μ1 H1 vx g1 d1 r1 => ?_⟩
  rw [eqLO_eq] at hv
  split at hv
  · cases hv
  · rename_i q e1
    split at hv
    · rename_i hs
      cases hv
      exact ⟨q, _, py_dp d1 _ _ _ _ e1 r1, hD H1, hs.1, hs.2, k μ1 H1 _ g1 d1 (by simp [Rep])⟩
    · cases hv
theorem t_eqL (hu : X.A.units + 64 < cLine) (C : ConL X.K X.mg x ps) (hg : Gl X x) (ha : PE X e (rdE X.K X.w f)) (hm : behindInMarks .Eq (.Name x p) = false := by first | exact nobehind _ (by decide) (by decide) | rfl) (hd : (x == ("__debug__" : Str)) = false := by decide) : PT X (.Compare e [.Eq] [.Name x p] pos) (rdT X.K X.w (truF (unF (eqLO ps false) f))) := by
  obtain ⟨a, hx, hD⟩ := C
  refine (pt_cmpR (op_eqD hu) ha (pe_glob hg hx (v := .ref a) rfl hd) hm).weak ?_
  rintro τ H Q ⟨μ, st, σ, b, st', gd, er, hv, k⟩
  obtain ⟨y0, s0, h0, hv⟩ := bnd_eq hv
  obtain ⟨y, s1, h1, h2⟩ := bnd_eq h0
  refine ⟨μ, st, σ, y, s1, gd, er, h1, fun μ1 H1 vx g1 d1 r1 => ?_⟩
  rw [eqLO_eq] at h2
  split at h2
  · cases h2
  · rename_i q e1
    split at h2
    · rename_i hs
      cases h2
      cases hv
      exact ⟨q, _, py_dp d1 _ _ _ _ e1 r1, hD H1, hs.1, hs.2, _, rfl, by simpa using k μ1 H1 g1 d1⟩
    · cases h2
end
end Iv

namespace Iv
open PySem L2
section
variable {X : Cx} {K : PySem.W.Frag} {ww : World}
/-! ### s * n for n up to 2 -/
def smul2O : Op2
  | .str a, .int n, st => if n = 1 then some (.str a, st) else if n < 1 ∧ -1000000 < n then some (.str Str.empty, st) else if n = 2 ∧ 1 ≤ a.length ∧ a.length ≤ 1000 then some (.str (a ++ a), st) else none
  | _, _, _ => none
@[simp] theorem smul2O_eq {a : Str} {n : Int} {st : Sto} : smul2O (.str a) (.int n) st = if n = 1 then some (.str a, st) else if n < 1 ∧ -1000000 < n then some (.str Str.empty, st) else if n = 2 ∧ 1 ≤ a.length ∧ a.length ≤ 1000 then some (.str (a ++ a), st) else none := rfl
def rSmul2 : R2 := fun x y H Q => ∃ a n, x = V.str a ∧ y = .int n ∧ ((n = 1 ∧ Q (.str a) H) ∨ (n < 1 ∧ -1000000 < n ∧ Q (.str Str.empty) H) ∨ (n = 2 ∧ 1 ≤ a.length ∧ a.length ≤ 1000 ∧ Q (.str (a ++ a)) H))
theorem twice (a : Str) : (⟨(List.replicate (2 : Int).toNat a.cps).foldl (· ++ ·) #[]⟩ : Str) = a ++ a := by
  show (⟨#[] ++ a.cps ++ a.cps⟩ : Str) = ⟨a.cps ++ a.cps⟩
  rw [Array.empty_append]
theorem op_smul2 : OpR X (binaryOp .Mult) rSmul2 := by
  intro pins s σ H x y v u Q I rx ry h
  obtain ⟨a, n, rfl, rfl, h⟩ := h
  obtain ⟨t, rfl⟩ := rx
  obtain ⟨t', rfl⟩ := ry
  rcases h with ⟨rfl, q⟩ | ⟨h1, h2, q⟩ | ⟨rfl, h1, h2, q⟩
  · refine PySem.P.mul_str (by decide) (fun _ h => by cases h) (fun _ h => by cases h) ?_
    exact ⟨.str a, H, I, ⟨t, rfl⟩, q⟩
  · exact PySem.P.mul_str_none h1 (by omega) ⟨.str Str.empty, H, I.tok _, ⟨_, rfl⟩, q⟩
  · have hn : ((2 : Int) == 1 || a.length == 0) = false := by
      have : ¬ a.length = 0 := by omega
      simp [this]
    have sl : 2000 ≤ sizeLine := by rw [sizeLine_eq]; decide
    have big : PySem.Builtin.Str.tooLong (a.length * (2 : Int).toNat) = false := by
      show PySem.Builtin.Str.tooLong (a.length * 2) = false
      unfold PySem.Builtin.Str.tooLong
      simp only [decide_eq_false_iff_not]
      omega
    refine PySem.P.mul_str (by decide) (fun _ _ => by
      have : (9223372036854775807 : Int) / 2 = 4611686018427387903 := by decide
      show ¬ ((a.length : Int) > (2 ^ 63 - 1) / 2)
      omega) (fun _ _ => big) ?_
    rw [if_neg (by decide), hn]
    simp only [Bool.false_eq_true, if_false]
    rw [twice]
    refine ⟨?_, .str (a ++ a), H, I.tok _, ⟨_, rfl⟩, q⟩
    have hl : (a ++ a).length = a.length + a.length := by show (a.cps ++ a.cps).size = _; rw [Array.size_append]; rfl
    omega
theorem ok_smul2 : Ok2 K ww rSmul2 smul2O := by
  intro H μ st x y vx vy d st' Q g rx ry hv k
  cases x with
  | str a =>
    cases y with
    | int n =>
      simp only [Rep] at rx ry
      subst rx ry
      rw [smul2O_eq] at hv
      split at hv
      · rename_i h
        cases hv
        exact ⟨a, n, rfl, rfl, .inl ⟨h, here k g (by simp only [Rep])⟩⟩
      · split at hv
        · rename_i h
          cases hv
          exact ⟨a, n, rfl, rfl, .inr (.inl ⟨h.1, h.2, here k g (by simp only [Rep])⟩)⟩
        · split at hv
          · rename_i h
            cases hv
            exact ⟨a, n, rfl, rfl, .inr (.inr ⟨h.1, h.2.1, h.2.2, here k g (by simp only [Rep])⟩)⟩
          · cases hv
    | _ => cases hv
  | _ => cases hv
theorem e_smul2 {a b : Expr} {f g : SE} {pos : Pos} (ha : PE X a (rdE X.K X.w f)) (hb : PE X b (rdE X.K X.w g)) : PE X (.BinOp a .Mult b pos) (rdE X.K X.w (binF smul2O f g)) := se_bin op_smul2 ok_smul2 ha hb
end
end Iv

namespace Iv
open PySem L2 PySem.Spec
section
variable {X : Cx} {K : PySem.W.Frag} {ww : World}
/-! ### sum(xs), ints -/
def sumO : OpN
  | [.loc n], st => match getL st n with
    | none => none
    | some xs => (intsD xs).map fun is => (.int is.sum, st)
  | _, _ => none
theorem sumO_loc {n : Nat} {st : Sto} {is : List Int} (h : getL st n = some (is.map .int)) : sumO [.loc n] st = some (.int is.sum, st) := by
  simp only [sumO, h, intsD_map, Option.map_some]
theorem ok_sum : OkN K ww (rSum K) sumO := by
  intro H μ st xs vs d st' Q g r hv k
  unfold sumO at hv
  split at hv
  · rename_i n
    obtain ⟨v, rfl, rv⟩ := reps1 r
    simp only [Rep] at rv
    obtain ⟨p, rfl, hp⟩ := rv
    split at hv
    · cases hv
    · rename_i ys e
      cases e2 : intsD ys with
      | none => rw [e2] at hv; cases hv
      | some is =>
        rw [e2] at hv
        cases hv
        obtain ⟨ws, s, rs⟩ := g.getL hp e
        rw [ints_are rs e2] at s
        exact ⟨p, is, rfl, s, here k g (by simp [Rep])⟩
  · cases hv
theorem e_sum {p pos : Pos} {e : Expr} {f : SA} (hc : X.calm = true) (hg : Gl X "sum") (hm : X.mg "sum" = none) (ha : PA X [e] (rdA X.K X.w f)) (he : starEach [e] X.env = (false, eval e X.env) :: starEach [] X.env := by rfl) : PE X (.Call (.Name "sum" p) [e] [] pos) (rdE X.K X.w (appF sumO f)) :=
  se_callB (cr_sum hc) ok_sum hg hm (by decide +kernel) ha (he := he)

/-! ### zip(s, t) of two tuples -/
def zipI (f : SA) : SJ := fun σ st => bnd (f σ st) fun ds s1 => match ds with
  | [.tup xs, .tup ys] => if (zipD xs ys).all notTx = true then some (.cns (zipD xs ys), s1) else none
  | [.loc n, .loc m] => (getL s1 n).bind fun _ => (getL s1 m).map fun _ => (.zip n m, s1)
  | _ => none
@[simp] theorem zipI_eq {f : SA} {σ : Sl} {st : Sto} : zipI f σ st = bnd (f σ st) fun ds s1 => match ds with
  | [.tup xs, .tup ys] => if (zipD xs ys).all notTx = true then some (.cns (zipD xs ys), s1) else none
  | [.loc n, .loc m] => (getL s1 n).bind fun _ => (getL s1 m).map fun _ => (.zip n m, s1)
  | _ => none := rfl
theorem si_zip {e e2 : Expr} {f : SA} {p pos tpos : Pos} {elts : List Expr} {kk : Nat} (hg : Gl X "zip") (hm : X.mg "zip" = none) (ha : PA X [e, e2] (rdA X.K X.w f))
    (hs : starEach [e, e2] X.env = (false, eval e X.env) :: starEach [e2] X.env := by rfl) (hpl : (backTo pos (starEach [e2] X.env)).any (·.1) = false := by rfl) :
    PI X (.Tuple elts kk tpos) (.Call (.Name "zip" p) [e, e2] [] pos) (rdI X.K X.w (zipI f)) := ⟨fun pins s τ H R I hw => by
  obtain ⟨μ, st, σ, J, st', gd, er, hv, k⟩ := hw
  obtain ⟨ds, s1, h1, hv⟩ := bnd_eq hv
  split at hv
  · rename_i xs ys
    split at hv
    · rename_i hall
      cases hv
      refine (RZ.pi_zipA hg hm ha hs hpl).run pins s τ H R I ⟨μ, st, σ, _, _, gd, er, h1, fun μ1 H1 vs g1 d1 r1 => ?_⟩
      obtain ⟨v, w, rfl, rv, rw'⟩ := reps2 r1
      simp only [Rep] at rv rw'
      obtain ⟨p, us, rfl, ⟨su, _⟩, ru⟩ := rv
      obtain ⟨q, ws, rfl, ⟨sw, _⟩, rw2⟩ := rw'
      refine ⟨p, q, us, ws, rfl, .inr ⟨su, sw, k μ1 H1 _ g1 d1 fun μ2 H2 st2 zs g2 d2 e2 => ?_⟩⟩
      cases e2
      have su2 := g2.1.sqT su
      have sw2 := g2.1.sqT sw
      have ru2 := ru.m g2
      have rw3 := rw2.m g2
      refine ⟨fun i hi => ⟨us, ws, su2, sw2, by rw [zipD_len] at hi; rw [← ru2.len, ← rw3.len]; omega⟩, fun i d hd => ?_⟩
      have hn : notTx d = true := List.all_eq_true.mp hall d (List.mem_of_getElem? hd)
      rw [zipD_get] at hd
      split at hd
      · rename_i x y ex ey
        cases hd
        obtain ⟨vx, hx, rx⟩ := ru2.get ex
        obtain ⟨vy, hy, ry⟩ := rw3.get ey
        refine ⟨⟨us, ws, vx, vy, su2, sw2, hx, hy⟩, fun z H3 ⟨T, a, b, e5, e6, e7, e8, e9⟩ => ?_⟩
        subst e5 e7
        have q8 := e8 us su2
        rw [hx] at q8
        cases q8
        have q9 := e9 ws sw2
        rw [hy] at q9
        cases q9
        have gt : Gr H2 μ2 (upd H2 T (.tup [vx, vy])) μ2 := gr_tup e6
        exact ⟨same_upd e6, rep_tup (.inl (.inl upd_same)) (fun z => by rw [notTx, z] at hn; cases hn) (reps_cons (rx.m gt) (reps_cons (ry.m gt) reps_nil))⟩
      · cases hd
    · cases hv
  · rename_i n m
    cases en : getL s1 n with
    | none => rw [en] at hv; cases hv
    | some xs =>
    cases em : getL s1 m with
    | none => rw [en, em] at hv; cases hv
    | some ys =>
    rw [en, em] at hv
    cases hv
    refine (RZ.pi_zipA hg hm ha hs hpl).run pins s τ H R I ⟨μ, st, σ, _, _, gd, er, h1, fun μ1 H1 vs g1 d1 r1 => ?_⟩
    obtain ⟨v, w, rfl, rv, rw'⟩ := reps2 r1
    simp only [Rep] at rv rw'
    obtain ⟨p, rfl, hp⟩ := rv
    obtain ⟨q, rfl, hq⟩ := rw'
    obtain ⟨us, su, _⟩ := d1.getL hp en
    obtain ⟨ws, sw, _⟩ := d1.getL hq em
    refine ⟨p, q, us, ws, rfl, .inl ⟨su, sw, k μ1 H1 _ g1 d1 fun μ2 H2 st2 zs g2 d2 e2 => ?_⟩⟩
    simp only [items] at e2
    cases en2 : getL st2 n with
    | none => rw [en2] at e2; cases e2
    | some xs2 =>
    cases em2 : getL st2 m with
    | none => rw [en2, em2] at e2; cases e2
    | some ys2 =>
    rw [en2, em2] at e2
    simp only at e2
    split at e2
    · rename_i hall
      cases e2
      obtain ⟨us2, su2, ru2⟩ := d2.getL (g2.get hp) en2
      obtain ⟨ws2, sw2, rw3⟩ := d2.getL (g2.get hq) em2
      refine ⟨fun i hi => ⟨us2, ws2, su2, sw2, by rw [zipD_len] at hi; rw [← ru2.len, ← rw3.len]; omega⟩, fun i d hd => ?_⟩
      have hn : notTx d = true := List.all_eq_true.mp hall d (List.mem_of_getElem? hd)
      rw [zipD_get] at hd
      split at hd
      · rename_i x y ex ey
        cases hd
        obtain ⟨vx, hx, rx⟩ := ru2.get ex
        obtain ⟨vy, hy, ry⟩ := rw3.get ey
        refine ⟨⟨us2, ws2, vx, vy, su2, sw2, hx, hy⟩, fun z H3 ⟨T, a, b, e5, e6, e7, e8, e9⟩ => ?_⟩
        subst e5 e7
        have q8 := e8 us2 su2
        rw [hx] at q8
        cases q8
        have q9 := e9 ws2 sw2
        rw [hy] at q9
        cases q9
        have gt : Gr H2 μ2 (upd H2 T (.tup [vx, vy])) μ2 := gr_tup e6
        exact ⟨same_upd e6, rep_tup (.inl (.inl upd_same)) (fun z => by rw [notTx, z] at hn; cases hn) (reps_cons (rx.m gt) (reps_cons (ry.m gt) reps_nil))⟩
      · cases hd
    · cases e2
  · cases hv⟩

/-! ### comprehensions of two clauses -/
def comp2V (J : It) (g : Tg) (c : ST) (i1 : SJ) (g1 : Tg) (c1 : ST) (e : SE) (vs1 : List Nat) (n : Nat) (σ0 : Sl) : Nat → Nat → Sto → Option Sto
  | 0, _, _ => none
  | m + 1, i, st => match items J st with
    | none => none
    | some xs => match xs[i]? with
      | none => some st
      | some d => match g d σ0 with
        | none => none
        | some σ1 => bnd (c σ1 st) fun b s1 => if b = true then bnd (i1 σ1 s1) fun J1 s2 => (match items J1 s2 with
            | none => none
            | some ys => match compV J1 g1 c1 e n (wipeD σ1 vs1) (ys.length + 1) 0 s2 with
              | none => none
              | some s3 => comp2V J g c i1 g1 c1 e vs1 n σ0 m (i + 1) s3) else comp2V J g c i1 g1 c1 e vs1 n σ0 m (i + 1) s1
def comp2F (vs vs1 : List Nat) (i : SJ) (g : Tg) (c : ST) (i1 : SJ) (g1 : Tg) (c1 : ST) (e : SE) : SE := fun σ st => bnd (i σ st) fun J s1 => match items J s1 with
  | none => none
  | some xs => (comp2V J g c i1 g1 c1 e vs1 s1.length (wipeD σ vs) (xs.length + 1) 0 (s1 ++ [.lst []])).map fun s2 => (.loc s1.length, s2)
theorem rd_comp2 {vs vs1 : List Nat} {i i1 : SJ} {gg gg1 : TG} {g g1 : Tg} {c c1 : ST} {e : SE} (ok : OkG K gg g) (ow : OwnG vs gg) (ok1 : OkG K gg1 g1) (ow1 : OwnG vs1 gg1) :
    ∀ τ H Q, rdE K ww (comp2F vs vs1 i g c i1 g1 c1 e) τ H Q → tLc2 (rdI K ww i) gg (rdT K ww c) (rdI K ww i1) gg1 (rdT K ww c1) (rdE K ww e) vs vs1 τ H Q :=
  fun τ H Q ⟨μ, st, σ, d, st', gd, er, hv, k⟩ => by
    obtain ⟨J, s1, h1, hv⟩ := bnd_eq hv
    cases ei : items J s1 with
    | none => simp only [ei] at hv; cases hv
    | some xs =>
      simp only [ei] at hv
      cases ec : comp2V J g c i1 g1 c1 e vs1 s1.length (wipeD σ vs) (xs.length + 1) 0 (s1 ++ [.lst []]) with
      | none => rw [ec] at hv; cases hv
      | some s9 =>
        rw [ec] at hv
        cases hv
        refine ⟨μ, st, σ, J, s1, gd, er, h1, fun μ0 H0 J' g0 d0 iR Dp hD => ?_⟩
        have gn : Gr H0 μ0 (upd H0 Dp (.lst [])) (μ0 ++ [Dp]) := gr_new hD
        have dn := d0.new hD (reps_nil (K := K) (H := H0) (μ := μ0))
        have hDp : (μ0 ++ [Dp])[s1.length]? = some Dp := by
          rw [← d0.len, List.getElem?_append_right (Nat.le_refl _), Nat.sub_self]
          rfl
        have ew : EnvR K H0 μ0 (wipeD σ vs) (wipe τ vs) := envr_wipe (er.m g0) vs
        refine ⟨fun j m H1 => ∃ μ1 s2, Gr (upd H0 Dp (.lst [])) (μ0 ++ [Dp]) H1 μ1 ∧ Gd K ww H1 μ1 s2 ∧ comp2V J g c i1 g1 c1 e vs1 s1.length (wipeD σ vs) m j s2 = some st', ⟨_, μ0 ++ [Dp], _, Gr.refl _ _, dn, ec⟩, ?_⟩
        rintro j m H1 ⟨μ1, s2, gr1, d1, hv1⟩
        cases m with
        | zero => cases hv1
        | succ m =>
          unfold comp2V at hv1
          cases e2 : items J s2 with
          | none => simp only [e2] at hv1; cases hv1
          | some ys =>
            simp only [e2] at hv1
            have g01 := gn.trans gr1
            obtain ⟨q1, q2⟩ := iR μ1 H1 s2 ys g01 d1 e2
            cases e3 : ys[j]? with
            | none =>
              simp only [e3] at hv1
              cases hv1
              exact .inl ⟨q1 j (by simpa using e3), k μ1 H1 _ (g0.trans g01) d1 (rep_loc (gr1.get hDp))⟩
            | some y =>
              simp only [e3] at hv1
              obtain ⟨q3, q4⟩ := q2 j y e3
              let Nx : Hp → Prop := fun H3 => ∃ μ3 s3, Gr (upd H0 Dp (.lst [])) (μ0 ++ [Dp]) H3 μ3 ∧ Gd K ww H3 μ3 s3 ∧ comp2V J g c i1 g1 c1 e vs1 s1.length (wipeD σ vs) m (j + 1) s3 = some st'
              refine .inr ⟨q3, Nx, fun H3 q => ⟨m, Nat.lt_succ_self m, q⟩, fun x H2 hy => ?_⟩
              obtain ⟨sm, rx⟩ := q4 x H2 hy
              have gs : Gr H1 μ1 H2 μ1 := ⟨Keeps.same sm, [], by simp⟩
              have d2 := d1.same sm
              cases e4 : g y (wipeD σ vs) with
              | none => simp only [e4] at hv1; cases hv1
              | some σ2 =>
                simp only [e4] at hv1
                obtain ⟨b, s3, h3, hv1⟩ := bnd_eq hv1
                have main : gg x (wipe τ vs) H2 fun τ2 H2 => rdT K ww c τ2 H2 fun b H3 => if b = true then rdI K ww i1 τ2 H3 fun J1 H4 => ∃ W1 : Nat → Nat → Hp → Prop, (∃ m, W1 0 m H4) ∧ ∀ j k H, W1 j k H →
                    (J1.stop j H ∧ Nx H) ∨ (J1.go j H ∧ ∃ Nx1 : Hp → Prop, (∀ H', Nx1 H' → ∃ k', k' < k ∧ W1 (j + 1) k' H') ∧ ∀ x H', J1.yld j H x H' → gg1 x (wipe τ2 vs1) H' fun τ3 H5 => wipe τ3 vs1 = wipe τ2 vs1 ∧ rdT K ww c1 τ3 H5 fun b H6 =>
                      if b = true then rdE K ww e τ3 H6 fun y H7 => ∃ acc, H7 Dp = some (.lst acc) ∧ acc.length < sizeLine ∧ Nx1 (upd H7 Dp (.lst (acc ++ [y]))) else Nx1 H6)
                    else Nx H3 := by
                  refine ok H2 μ1 _ _ y x σ2 _ (ew.m (g01.trans gs)) rx e4 fun τ2 e5 => ?_
                  refine ⟨μ1, s2, σ2, b, s3, d2, e5, h3, fun μ4 H4 g4 d4 => ?_⟩
                  have g5 := (gr1.trans gs).trans g4
                  cases b with
                  | false => exact ⟨μ4, s3, g5, d4, hv1⟩
                  | true =>
                    rw [if_pos rfl] at hv1
                    show rdI K ww i1 τ2 H4 _
                    obtain ⟨J1, s4, h4, hv1⟩ := bnd_eq hv1
                    cases e6 : items J1 s4 with
                    | none => simp only [e6] at hv1; cases hv1
                    | some zs =>
                      simp only [e6] at hv1
                      cases e7 : compV J1 g1 c1 e s1.length (wipeD σ2 vs1) (zs.length + 1) 0 s4 with
                      | none => simp only [e7] at hv1; cases hv1
                      | some s5 =>
                        simp only [e7] at hv1
                        refine ⟨μ4, s3, σ2, J1, s4, d4, e5.m g4, h4, fun μ6 H6 J1' g6 d6 iR1 => ?_⟩
                        have g06 := g5.trans g6
                        have ew1 : EnvR K H6 μ6 (wipeD σ2 vs1) (wipe τ2 vs1) := envr_wipe (e5.m (g4.trans g6)) vs1
                        refine ⟨fun j' k' H7 => ∃ μ7 s7, Gr H6 μ6 H7 μ7 ∧ Gd K ww H7 μ7 s7 ∧ compV J1 g1 c1 e s1.length (wipeD σ2 vs1) k' j' s7 = some s5, ⟨_, μ6, s4, Gr.refl _ _, d6, e7⟩, ?_⟩
                        rintro j' k' H7 ⟨μ7, s7, g7, d7, hv7⟩
                        cases k' with
                        | zero => cases hv7
                        | succ k' =>
                          unfold compV at hv7
                          cases f2 : items J1 s7 with
                          | none => simp only [f2] at hv7; cases hv7
                          | some us =>
                            simp only [f2] at hv7
                            obtain ⟨r1, r2⟩ := iR1 μ7 H7 s7 us g7 d7 f2
                            cases f3 : us[j']? with
                            | none =>
                              simp only [f3] at hv7
                              cases hv7
                              exact .inl ⟨r1 j' (by simpa using f3), _, _, g06.trans g7, d7, hv1⟩
                            | some u =>
                              simp only [f3] at hv7
                              obtain ⟨r3, r4⟩ := r2 j' u f3
                              let Ny : Hp → Prop := fun H8 => ∃ μ8 s8, Gr H6 μ6 H8 μ8 ∧ Gd K ww H8 μ8 s8 ∧ compV J1 g1 c1 e s1.length (wipeD σ2 vs1) k' (j' + 1) s8 = some s5
                              refine .inr ⟨r3, Ny, fun H8 q => ⟨k', Nat.lt_succ_self k', q⟩, fun x8 H8 hy8 => ?_⟩
                              obtain ⟨sm8, rx8⟩ := r4 x8 H8 hy8
                              have gs8 : Gr H7 μ7 H8 μ7 := ⟨Keeps.same sm8, [], by simp⟩
                              have d8 := d7.same sm8
                              cases f4 : g1 u (wipeD σ2 vs1) with
                              | none => simp only [f4] at hv7; cases hv7
                              | some σ8 =>
                                simp only [f4] at hv7
                                obtain ⟨b8, s8, h8, hv7⟩ := bnd_eq hv7
                                have inner : gg1 x8 (wipe τ2 vs1) H8 fun τ3 H5 => rdT K ww c1 τ3 H5 fun b H6 => if b = true then rdE K ww e τ3 H6 fun y H7 => ∃ acc, H7 Dp = some (.lst acc) ∧ acc.length < sizeLine ∧ Ny (upd H7 Dp (.lst (acc ++ [y]))) else Ny H6 := by
                                  refine ok1 H8 μ7 _ _ u x8 σ8 _ (ew1.m (g7.trans gs8)) rx8 f4 fun τ8 e8 => ?_
                                  refine ⟨μ7, s7, σ8, b8, s8, d8, e8, h8, fun μ9 H9 g9 d9 => ?_⟩
                                  have g10 := (g7.trans gs8).trans g9
                                  cases b8 with
                                  | false => exact ⟨μ9, s8, g10, d9, hv7⟩
                                  | true =>
                                    rw [if_pos rfl] at hv7
                                    show rdE K ww e τ8 H9 _
                                    obtain ⟨z, s10, h10, hv7⟩ := bnd_eq hv7
                                    refine ⟨μ9, s8, σ8, z, s10, d9, e8.m g9, h10, fun μ11 H11 wv g11 d11 r11 => ?_⟩
                                    cases f6 : getM s10 s1.length with
                                    | none => simp only [f6] at hv7; cases hv7
                                    | some acc =>
                                      simp only [f6] at hv7
                                      split at hv7
                                      · rename_i hl
                                        have hp11 := (g06.trans (g10.trans g11)).get hDp
                                        obtain ⟨us2, hH, rs⟩ := d11.getM hp11 f6
                                        have gw : Gr H11 μ11 (upd H11 Dp (.lst (us2 ++ [wv]))) μ11 := gr_write hH
                                        exact ⟨us2, hH, lim_lt (by rw [← rs.len]; exact hl), μ11, _, (g10.trans g11).trans gw, d11.write hp11 (getM_get f6) hH (rs.app (reps_cons r11 reps_nil)), hv7⟩
                                      · cases hv7
                                have hq := ow1 x8 _ _ _ inner
                                rw [wipe_wipe] at hq
                                exact hq
                have hq2 := ow x _ _ _ main
                rw [wipe_wipe] at hq2
                exact hq2
theorem se_comp2 {elt tg iter tg1 iter1 : Expr} {ifs ifs1 : List Expr} {scope : Scope} {own : List (Str × Nat)} {vs1 : List Nat} {pos : Pos} {i i1 : SJ} {gg gg1 : TG} {g g1 : Tg} {c c1 : ST} {e : SE} (hc : X.calm = true) (hN : X.N.Nodup) (hi : PI X tg iter (rdI X.K X.w i)) (ok : BlkOk X.N X.env.scope scope own) (hv : ∀ i ∈ vs1, i ∈ own.map (·.2))
    (hg : ∀ (s : Shared) (H : Hp) (C : Addr) (cl : List (Str × Addr)) (fp : List Addr), PG (X.blk s H scope (compEnvC scope cl C X.env) fp) tg gg) (okg : OkG X.K gg g) (ow : OwnG (own.map (·.2)) gg)
    (ht : ∀ (s : Shared) (H : Hp) (C : Addr) (cl : List (Str × Addr)) (fp : List Addr), PTs (X.blk s H scope (compEnvC scope cl C X.env) fp) ifs (rdT X.K X.w c))
    (hi1 : ∀ (s : Shared) (H : Hp) (C : Addr) (cl : List (Str × Addr)) (fp : List Addr), PI (X.blk s H scope (compEnvC scope cl C X.env) fp) tg1 iter1 (rdI X.K X.w i1))
    (hg1 : ∀ (s : Shared) (H : Hp) (C : Addr) (cl : List (Str × Addr)) (fp : List Addr), PG (X.blk s H scope (compEnvC scope cl C X.env) fp) tg1 gg1) (okg1 : OkG X.K gg1 g1) (ow1 : OwnG vs1 gg1)
    (ht1 : ∀ (s : Shared) (H : Hp) (C : Addr) (cl : List (Str × Addr)) (fp : List Addr), PTs (X.blk s H scope (compEnvC scope cl C X.env) fp) ifs1 (rdT X.K X.w c1))
    (he : ∀ (s : Shared) (H : Hp) (C : Addr) (cl : List (Str × Addr)) (fp : List Addr), PE (X.blk s H scope (compEnvC scope cl C X.env) fp) elt (rdE X.K X.w e)) (hs : ∀ x, foldedSetIterable iter X.env x = pure x := by intro _; rfl) (hs1 : ∀ env x, foldedSetIterable iter1 env x = pure x := by intro _ _; rfl) :
    PE X (.ListComp elt [⟨tg, iter, ifs, 0⟩, ⟨tg1, iter1, ifs1, 0⟩] scope pos) (rdE X.K X.w (comp2F (own.map (·.2)) vs1 i g c i1 g1 c1 e)) := (pe_lc2 hc hN hi ok hv hg ht hi1 hg1 ht1 he hs hs1).weak (rd_comp2 okg ow okg1 ow1)
theorem rd_asgC2 {vs vs1 : List Nat} {i i1 : SJ} {gg gg1 : TG} {g g1 : Tg} {c c1 : ST} {e : SE} {j : Nat} (ok : OkG K gg g) (ow : OwnG vs gg) (ok1 : OkG K gg1 g1) (ow1 : OwnG vs1 gg1) :
    ∀ Dn τ H, rdS K ww (asgS (nmG j) (comp2F vs vs1 i g c i1 g1 c1 e)) Dn τ H → tAsg (tLc2 (rdI K ww i) gg (rdT K ww c) (rdI K ww i1) gg1 (rdT K ww c1) (rdE K ww e) vs vs1) (gName j) Dn τ H := fun Dn τ H h => by
  have h2 := rd_asg (g := nmG j) (gg := gName j) (f := comp2F vs vs1 i g c i1 g1 c1 e) ok_name Dn τ H h
  exact rd_comp2 ok ow ok1 ow1 τ H _ h2
theorem s_setLc2 {i : Nat} {y : Str} {py : Pos} {elt tg iter tg1 iter1 : Expr} {ifs ifs1 : List Expr} {scope : Scope} {own : List (Str × Nat)} {vs1 : List Nat} {pos spos : Pos} {it it1 : SJ} {gg gg1 : TG} {g g1 : Tg} {c c1 : ST} {e : SE} (hc : X.calm = true) (hN : X.N.Nodup) (hi : PI X tg iter (rdI X.K X.w it)) (ok : BlkOk X.N X.env.scope scope own) (hv : ∀ i ∈ vs1, i ∈ own.map (·.2))
    (hg : ∀ (s : Shared) (H : Hp) (C : Addr) (cl : List (Str × Addr)) (fp : List Addr), PG (X.blk s H scope (compEnvC scope cl C X.env) fp) tg gg) (okg : OkG X.K gg g) (ow : OwnG (own.map (·.2)) gg)
    (ht : ∀ (s : Shared) (H : Hp) (C : Addr) (cl : List (Str × Addr)) (fp : List Addr), PTs (X.blk s H scope (compEnvC scope cl C X.env) fp) ifs (rdT X.K X.w c))
    (hi1 : ∀ (s : Shared) (H : Hp) (C : Addr) (cl : List (Str × Addr)) (fp : List Addr), PI (X.blk s H scope (compEnvC scope cl C X.env) fp) tg1 iter1 (rdI X.K X.w it1))
    (hg1 : ∀ (s : Shared) (H : Hp) (C : Addr) (cl : List (Str × Addr)) (fp : List Addr), PG (X.blk s H scope (compEnvC scope cl C X.env) fp) tg1 gg1) (okg1 : OkG X.K gg1 g1) (ow1 : OwnG vs1 gg1)
    (ht1 : ∀ (s : Shared) (H : Hp) (C : Addr) (cl : List (Str × Addr)) (fp : List Addr), PTs (X.blk s H scope (compEnvC scope cl C X.env) fp) ifs1 (rdT X.K X.w c1))
    (he : ∀ (s : Shared) (H : Hp) (C : Addr) (cl : List (Str × Addr)) (fp : List Addr), PE (X.blk s H scope (compEnvC scope cl C X.env) fp) elt (rdE X.K X.w e))
    (hy : X.N[i]? = some y := by rfl) (hyl : X.env.scope.names.lookup y = some .local := by rfl) (hsw : swapsWith (.ListComp elt [⟨tg, iter, ifs, 0⟩, ⟨tg1, iter1, ifs1, 0⟩] scope pos) (some (.Name y py)) spos.line X.env = pure true := by exact sw_true rfl rfl rfl (by decide +kernel)) (hs : ∀ x, foldedSetIterable iter X.env x = pure x := by intro _; rfl) (hs1 : ∀ env x, foldedSetIterable iter1 env x = pure x := by intro _ _; rfl) :
    PS X (.Assign [.Name y py] (.ListComp elt [⟨tg, iter, ifs, 0⟩, ⟨tg1, iter1, ifs1, 0⟩] scope pos) spos) (rdS X.K X.w (asgS (nmG i) (comp2F (own.map (·.2)) vs1 it g c it1 g1 c1 e))) := (ps_setLc2 hc hN hy hyl hsw hi ok hv hg ht hi1 hg1 ht1 he hs hs1).weak (rd_asgC2 okg ow okg1 ow1)
end
end Iv

namespace Iv
open PySem L2 PySem.Spec
/-! ### sorting, as a function: ints, texts -/
def leI (a b : Int) : Bool := decide (a ≤ b)
def sortI (l : List Int) : List Int := l.mergeSort leI
theorem sortI_perm (l : List Int) : (sortI l).Perm l := List.mergeSort_perm l leI
theorem sortI_le (l : List Int) : (sortI l).Pairwise (· ≤ ·) := by
  have h := List.pairwise_mergeSort (le := leI) (fun a b c h1 h2 => by simp only [leI, decide_eq_true_eq] at *; omega) (fun a b => by simp only [leI, Bool.or_eq_true, decide_eq_true_eq]; omega) l
  exact h.imp fun h => by simpa [leI] using h
theorem sortI_uniq {l m : List Int} (p : m.Perm l) (s : m.Pairwise (· ≤ ·)) : m = sortI l :=
  List.Perm.eq_of_pairwise (le := (· ≤ ·)) (fun a b _ _ h1 h2 => Int.le_antisymm h1 h2) s (sortI_le l) (p.trans (sortI_perm l).symm)
def leS (a b : Str) : Bool := decide (a.cps.toList ≤ b.cps.toList)
def sortT (l : List Str) : List Str := l.mergeSort leS
theorem sortT_perm (l : List Str) : (sortT l).Perm l := List.mergeSort_perm l leS
theorem leS_trans (a b c : Str) (h1 : leS a b = true) (h2 : leS b c = true) : leS a c = true := by
  simp only [leS, decide_eq_true_eq] at *
  exact List.le_trans h1 h2
theorem sortT_le (l : List Str) : (sortT l).Pairwise (fun a b => leS a b = true) :=
  List.pairwise_mergeSort leS_trans (fun a b => by simp only [leS, Bool.or_eq_true, decide_eq_true_eq]; exact List.le_total _ _) l
theorem str_ext {a b : Str} (h : a.cps.toList = b.cps.toList) : a = b := by
  cases a; cases b
  congr 1
  exact Array.toList_inj.mp h
theorem rising_le : ∀ (l : List Str) (p : Str), PyProof.Rows.risingS p l = true → (p :: l).Pairwise (fun a b => leS a b = true)
  | [], p, _ => List.pairwise_singleton _ _
  | x :: l, p, h => by
    simp only [PyProof.Rows.risingS, Bool.and_eq_true] at h
    have h1 : leS p x = true := by
      simp only [leS, decide_eq_true_eq]
      have h0 := h.1
      rw [PyProof.Rows.ltCps_eq] at h0
      exact List.not_lt.mp (by simpa using h0)
    have h2 := rising_le l x h.2
    refine List.pairwise_cons.mpr ⟨fun y hy => ?_, h2⟩
    rcases List.mem_cons.mp hy with z | z
    · rw [z]; exact h1
    · exact leS_trans _ _ _ h1 ((List.pairwise_cons.mp h2).1 y z)
theorem sorted_le {l : List Str} (h : PyProof.Rows.sortedS l = true) : l.Pairwise (fun a b => leS a b = true) := by
  cases l with
  | nil => exact List.Pairwise.nil
  | cons x l => exact rising_le l x h
theorem sortT_uniq {l m : List Str} (p : m.Perm l) (s : PyProof.Rows.sortedS m = true) : m = sortT l :=
  List.Perm.eq_of_pairwise (le := fun a b => leS a b = true) (fun a b _ _ h1 h2 => by
    simp only [leS, decide_eq_true_eq] at h1 h2
    exact str_ext (List.le_antisymm h1 h2)) (sorted_le s) (sortT_le l) (p.trans (sortT_perm l).symm)

/-! ### sets as tracked things -/
theorem ks_ok {w : World} {P : Program} {H : Hp} {h : Heap} {a : Addr} {ks : List Key} (R : KSet w h a ks) : ObjOk P w H h a (KSetO w a ks) := by
  have ⟨ob, _, _, _, ⟨e1, _⟩, _⟩ := R
  exact ⟨R, ⟨ob, e1⟩, fun h1 h2 p k => KSet.keep p k⟩
section
variable {X : Cx} {K : PySem.W.Frag} {ww : World}
theorem ks_get {pins : List (Addr × Obj)} {σ : L2.St} {H : Hp} {s : Shared} {a : Addr} {ks : List Key} (I : Inv X pins σ H s) (ha : H a = some (KSetO X.w a ks)) : KSet X.w s.heap a ks := (I.hok a _ ha).1
theorem key_rel {k : Key} {u : Value} (r : RelV (kV k) u) : keyIs k u = true := by
  cases k with
  | inl i => obtain ⟨t, rfl⟩ := r; exact keyIs_int i t
  | inr x => obtain ⟨t, rfl⟩ := r; exact keyIs_str x t
/-- the members, as data -/
theorem keyD_rep {H : Hp} {μ : List Addr} {d : D} {v : V} {k : Key} (r : Rep K H μ d v) (e : keyD d = some k) : v = kV k := by
  cases d with
  | int i => cases e; simp only [Rep] at r; exact r
  | str x => cases e; simp only [Rep] at r; exact r
  | _ => cases e
def ofKey : Key → D
  | .inl i => .int i
  | .inr x => .str x
theorem keyD_of {d : D} {k : Key} (e : keyD d = some k) : d = ofKey k := by
  cases d with
  | int i => cases e; rfl
  | str x => cases e; rfl
  | _ => cases e
theorem keysD_of : ∀ {ds : List D} {ks : List Key}, keysD ds = some ks → ds = ks.map ofKey
  | [], _, e => by cases e; rfl
  | d :: ds, ks, e => by
    simp only [keysD] at e
    cases e1 : keyD d with
    | none => rw [e1] at e; cases e
    | some k =>
      cases e2 : keysD ds with
      | none => rw [e1, e2] at e; cases e
      | some ls =>
        rw [e1, e2] at e
        cases e
        rw [keyD_of e1, keysD_of e2]
        rfl
theorem keyD_ofKey (k : Key) : keyD (ofKey k) = some k := by cases k <;> rfl
theorem keysD_ofKey : ∀ ks : List Key, keysD (ks.map ofKey) = some ks
  | [] => rfl
  | k :: ks => by rw [List.map_cons, keysD, keyD_ofKey, keysD_ofKey ks]; rfl
/-! set() -/
def rNewSet (w : World) : List V → Hp → VK → Prop := fun xs H Q => xs = [] ∧ ∀ q, H q = none → Q (.ref q) (upd H q (KSetO w q []))
theorem cr_newSet : CallR X (.type "set") (rNewSet X.w) := by
  intro pins s σ H xs us Q I r h
  obtain ⟨rfl, q⟩ := h
  cases r
  refine setR_new fun _ => ?_
  refine ⟨.ref _, _, I.laid (t' := s.toks) (o := KSetO X.w s.heap.objs.size []) (fun b u e => Heap.get?_push_of_some _ e) (Nat.le_refl _) (ks_ok (kset_fresh s.heap X.w)), rfl, q _ (I.hok.fresh (Nat.le_refl _))⟩
def newSetF : SE := fun _ st => some (.loc st.length, st ++ [.set []])
@[simp] theorem newSetF_eq {σ : Sl} {st : Sto} : newSetF σ st = some (.loc st.length, st ++ [.set []]) := rfl
theorem new_set {H : Hp} {μ : List Addr} {st : Sto} {ks : List Key} {Q : VK} (gd : Gd K ww H μ st) (k : ∀ μ' H' v, Gr H μ H' μ' → Gd K ww H' μ' (st ++ [.set (ks.map ofKey)]) → Rep K H' μ' (.loc st.length) v → Q v H') :
    ∀ p, H p = none → Q (.ref p) (upd H p (KSetO ww p ks)) := fun p hp => by
  have gr : Gr H μ (upd H p (KSetO ww p ks)) (μ ++ [p]) := gr_new hp
  refine k _ _ _ gr (gd.newO (o := .set (ks.map ofKey)) hp ⟨ks, keysD_ofKey ks, upd_same⟩) (rep_loc ?_)
  rw [← gd.len, List.getElem?_append_right (Nat.le_refl _), Nat.sub_self]
  rfl
theorem e_newSet {p pos : Pos} (hg : Gl X "set") (hm : X.mg "set" = none) : PE X (.Call (.Name "set" p) [] [] pos) (rdE X.K X.w newSetF) :=
  (pe_callTy0 cr_newSet hg hm (by decide +kernel)).weak fun τ H Q ⟨μ, st, σ, d, st', gd, er, hv, k⟩ => by
    cases hv
    exact ⟨rfl, new_set (ks := []) gd k⟩
/-! s.add(x), x in s -/
def getS (st : Sto) (n : Nat) : Option (List D) := match st[n]? with
  | some (.set xs) => some xs
  | _ => none
theorem getS_get {st : Sto} {n : Nat} {xs : List D} (h : getS st n = some xs) : st[n]? = some (.set xs) := by
  unfold getS at h
  split at h
  · rename_i e; cases h; exact e
  · cases h
theorem getS_of {st : Sto} {n : Nat} {xs : List D} (h : st[n]? = some (.set xs)) : getS st n = some xs := by unfold getS; rw [h]
theorem Gd.getS {H : Hp} {μ : List Addr} {st : Sto} (g : Gd K ww H μ st) {n : Nat} {p : Addr} {xs : List D} (hp : μ[n]? = some p) (h : Iv.getS st n = some xs) : ∃ ks, xs = ks.map ofKey ∧ H p = some (KSetO ww p ks) := by
  obtain ⟨ks, h1, h2⟩ := g.ob n p _ hp (getS_get h)
  exact ⟨ks, keysD_of h1, h2⟩
def rSetAdd (w : World) : V → List V → Hp → VK → Prop := fun x xs H Q => ∃ (a : Addr) (k : Key) (ks : List Key), x = V.ref a ∧ xs = [kV k] ∧ H a = some (KSetO w a ks) ∧ ks.length + 1 < scanBound ∧ Q .non (upd H a (KSetO w a (addK ks k)))
theorem mt_setAdd : MtR X "set.add" (rSetAdd X.w) := by
  intro pins s σ H x xs v us Q I rx rxs h
  obtain ⟨a, k, ks, rfl, rfl, ha, room, q⟩ := h
  cases rx
  cases rxs with
  | cons ry rt =>
    cases rt
    refine kset_add (key_rel ry) (ks_get I ha) room fun h' sb new => ?_
    have he : ∃ u, h'.get? a = some u := by
      have ⟨ob, _, _, _, ⟨e1, _⟩, _⟩ := new
      exact ⟨ob, e1⟩
    exact ⟨.non, _, I.write (e := a) (t' := s.toks + 1) (by rw [ha]; trivial) (.inl rfl) (fun b u hb hu => (sb.2 b hb).trans hu) he (ks_ok new), rfl, q⟩
def tySet (w : World) (x : V) (H : Hp) : Prop := ∃ a ks, x = .ref a ∧ H a = some (KSetO w a ks)
theorem ty_set : TyOk X "set" (tySet X.w) := fun pins σ H s x v I r ⟨a, ks, ex, h⟩ => by
  subst ex
  cases r
  have S := (ks_get I h).setOf (P := X.prog)
  exact ⟨S.typeIs, S.noDict⟩
def saddF (f : SE) (g : SA) : SE := fun σ st => bnd (f σ st) fun x s1 => match x with
  | .loc n => if (Iv.getS s1 n).isSome = true then bnd (g σ s1) fun ys s2 => (match ys, Iv.getS s2 n with
      | [y], some xs => (match keyD y, keysD xs with
        | some k, some ks => if ks.length < 4000 then some (.non, s2.set n (.set ((addK ks k).map ofKey))) else none
        | _, _ => none)
      | _, _ => none) else none
  | _ => none
theorem saddF_eq {f : SE} {g : SA} {σ : Sl} {st : Sto} : saddF f g σ st = bnd (f σ st) fun x s1 => match x with
  | .loc n => if (Iv.getS s1 n).isSome = true then bnd (g σ s1) fun ys s2 => (match ys, Iv.getS s2 n with
      | [y], some xs => (match keyD y, keysD xs with
        | some k, some ks => if ks.length < 4000 then some (.non, s2.set n (.set ((addK ks k).map ofKey))) else none
        | _, _ => none)
      | _, _ => none) else none
  | _ => none := rfl
theorem e_sadd {o e : Expr} {apos cpos : Pos} {f : SE} {g : SA} (ho : PE X o (rdE X.K X.w f)) (ha : PA X [e] (rdA X.K X.w g))
    (hbase : attributeBase o "add" X.env (eval o X.env) = eval o X.env := by rfl)
    (hfew : ((backTo cpos (starEach [e] X.env)).all (fun x => !x.1) && (backToKw cpos (keywordEach [] X.env)).all (fun x => x.1.isSome)
      && decide ([e].length + ([] : List Keyword).length + (if ([] : List Keyword).isEmpty then 0 else 1) < 30)) = true := by rfl)
    (hline : (apos.endLine == cpos.line) = true := by rfl) (hs : starEach [e] X.env = (false, eval e X.env) :: starEach [] X.env := by rfl) :
    PE X (.Call (.Attribute o "add" apos) [e] [] cpos) (rdE X.K X.w (saddF f g)) :=
  (pe_mG ty_set PySem.F.plainAttrs_set PySem.F.slot_set_add PySem.F.type_set_add mt_setAdd ho ha hbase hfew hline hs rfl).weak fun τ H Q ⟨μ, st, σ, d', st', gd, er, hv, k⟩ => by
    rw [saddF_eq] at hv
    obtain ⟨x, s1, h1, hv⟩ := bnd_eq hv
    refine ⟨μ, st, σ, x, s1, gd, er, h1, fun μ1 H1 v g1 d1 r1 => ?_⟩
    split at hv
    · rename_i n
      split at hv
      · rename_i hsm
        obtain ⟨ys, s2, h2, hv⟩ := bnd_eq hv
        simp only [Rep] at r1
        obtain ⟨p, rfl, hp⟩ := r1
        cases e1 : Iv.getS s1 n with
        | none => rw [e1] at hsm; cases hsm
        | some zs =>
          obtain ⟨ks1, _, hH1⟩ := d1.getS hp e1
          refine ⟨⟨p, ks1, rfl, hH1⟩, μ1, s1, σ, ys, s2, d1, er.m g1, h2, fun μ2 H2 vs g2 d2 r2 => ?_⟩
          split at hv
          · rename_i y xs e3
            split at hv
            · rename_i j ks e4 e5
              split at hv
              · rename_i hl
                cases hv
                obtain ⟨ks2, e6, hH2⟩ := d2.getS (g2.get hp) e3
                rw [e6, keysD_ofKey] at e5
                cases e5
                obtain ⟨u, rfl, ru⟩ := reps1 r2
                have eu := keyD_rep ru e4
                have wr := d2.writeO (o := .set xs) (o2 := .set ((addK ks j).map ofKey)) (u := KSetO X.w p (addK ks j)) (g2.get hp) (getS_get e3) rfl rfl fun _ => ⟨_, keysD_ofKey _, upd_same⟩
                exact ⟨p, j, ks, rfl, by rw [eu], hH2, (show ks.length + 1 < 4096 by omega), k μ2 _ _ ((g1.trans g2).trans wr.1) wr.2 (by simp only [Rep])⟩
              · cases hv
            · cases hv
          · cases hv
      · cases hv
    · cases hv
def rSetIn (w : World) (neg : Bool) : V → V → Hp → VK → Prop := fun x y H Q => ∃ (k : Key) (a : Addr) (ks : List Key), x = kV k ∧ y = V.ref a ∧ H a = some (KSetO w a ks) ∧ Q (.bl (hasK ks k != neg)) H
theorem or_setIn : OpR X (compareOp .In) (rSetIn X.w false) := by
  intro pins s σ H x y v u Q I rx ry h
  obtain ⟨k, a, ks, rfl, rfl, ha, q⟩ := h
  cases ry
  rw [Bool.bne_false] at q
  exact PySem.wpAny_inSet_of (kV_is rx) (key_scannable (key_rel rx)) ((ks_get I ha).setOf (P := X.prog)) ⟨.bl (hasK ks k), H, I.tok _, rfl, q⟩
theorem or_setNotIn : OpR X (compareOp .NotIn) (rSetIn X.w true) := by
  intro pins s σ H x y v u Q I rx ry h
  obtain ⟨k, a, ks, rfl, rfl, ha, q⟩ := h
  cases ry
  rw [Bool.bne_true] at q
  exact PySem.wpAny_notInSet_of (kV_is rx) (key_scannable (key_rel rx)) ((ks_get I ha).setOf (P := X.prog)) ⟨.bl (!hasK ks k), H, I.tok _, rfl, q⟩
def sinO (neg : Bool) : Op2 := fun x y st => match y with
  | .loc n => (match keyD x, Iv.getS st n with
    | some k, some xs => (keysD xs).map fun ks => (.bl (hasK ks k != neg), st)
    | _, _ => none)
  | _ => none
theorem sinO_eq {neg : Bool} {x : D} {k : Key} {n : Nat} {st : Sto} {ks : List Key} (e : keyD x = some k) (h : Iv.getS st n = some (ks.map ofKey)) : sinO neg x (.loc n) st = some (.bl (hasK ks k != neg), st) := by
  simp only [sinO, e, h, keysD_ofKey, Option.map_some]
theorem ok_setIn (neg : Bool) : Ok2 K ww (rSetIn ww neg) (sinO neg) := by
  intro H μ st x y vx vy d st' Q g rx ry hv k
  unfold sinO at hv
  split at hv
  · rename_i n
    simp only [Rep] at ry
    obtain ⟨p, rfl, hp⟩ := ry
    split at hv
    · rename_i j xs e1 e2
      obtain ⟨ks, e3, hH⟩ := g.getS hp e2
      rw [e3, keysD_ofKey] at hv
      cases hv
      exact ⟨j, p, ks, keyD_rep rx e1, rfl, hH, here k g (by simp only [Rep])⟩
    · cases hv
  · cases hv
theorem sin_bl {neg : Bool} : ∀ x y st d st', sinO neg x y st = some (d, st') → ∃ b, d = .bl b := fun x y st d st' h => by
  unfold sinO at h
  split at h
  · split at h
    · rename_i n _ _ j xs _ _
      cases e : keysD xs with
      | none => rw [e] at h; cases h
      | some ks => rw [e] at h; cases h; exact ⟨_, rfl⟩
    · cases h
  · cases h
theorem cm_sin : Cmp X .In (sinO false) := ⟨⟨_, or_setIn, ok_setIn false⟩, sin_bl⟩
theorem cm_snotin : Cmp X .NotIn (sinO true) := ⟨⟨_, or_setNotIn, ok_setIn true⟩, sin_bl⟩
/-! ### sorted(..) of a list or a set, of ints, of texts -/
def sortD (xs : List D) : Option (List D) := match intsD xs with
  | some is => some ((sortI is).map .int)
  | none => (strsD xs).map fun ts => (sortT ts).map .str
theorem ints_map : ∀ {xs : List D} {is : List Int}, intsD xs = some is → xs = is.map .int
  | [], _, h => by cases h; rfl
  | x :: xs, is, h => by
    cases x with
    | int i =>
      simp only [intsD] at h
      cases e : intsD xs with
      | none => rw [e] at h; cases h
      | some cs => rw [e] at h; cases h; rw [ints_map e]; rfl
    | _ => cases h
theorem ints_eq {is : List Int} : intsD (is.map .int) = some is := intsD_map is
theorem strsD_map : ∀ ts : List Str, strsD (ts.map .str) = some ts
  | [] => rfl
  | t :: ts => by rw [List.map_cons, strsD, strsD_map ts]; rfl
theorem sortD_ints (is : List Int) : sortD (is.map .int) = some ((sortI is).map .int) := by simp only [sortD, intsD_map]
theorem sortD_strs (ts : List Str) : sortD (ts.map .str) = some ((sortT ts).map .str) := by
  cases ts with
  | nil => simp [sortD, intsD, sortI, sortT]
  | cons t ts =>
    have e : intsD ((t :: ts).map .str) = none := rfl
    simp only [sortD, e, strsD_map, Option.map_some]
end
/-! the machine: texts of a set -/
section
open PyProof.Rows
variable {P : Program} {w : World} {A : Around} {E : Value → Shared → Prop} {s : Shared} {a : Addr}
def txOf : Value → Str
  | .str x _ => x
  | _ => Str.empty
theorem txs_are : ∀ (l : List Value), (∀ v ∈ l, ∃ x t, v = Value.str x t) → StrsAre l (l.map txOf)
  | [], _ => .nil
  | v :: l, h => by
    obtain ⟨x, t, rfl⟩ := h v List.mem_cons_self
    exact .cons x t (txs_are l fun u hu => h u (List.mem_cons_of_mem _ hu))
theorem kset_sortedS {ts : List Str} {Q : Value → Shared → Prop} (R : KSet w s.heap a (ts.map Sum.inr)) (hh : A.handled = none)
    (hQ : ∀ s2 q (out : Array Value) (c : Nat) (us : List Str), (∀ b o, s.heap.get? b = some o → s2.heap.get? b = some o) → s2.gens = s.gens → s2.os = s.os → s.heap.objs.size ≤ q →
      s2.heap.get? q = some (seqObj "list" out c) → StrsAre out.toList us → sortedS us = true → us.Perm ts → Q (.ref q) s2) :
    wpAny (model P w) A (call (.builtin "sorted") [.ref a]) Q E s := by
  obtain ⟨ob, es, ep, tb, ⟨e1, e2, e3⟩, ⟨g, p, nd⟩, bz, f, r, l⟩ := R
  refine Calls.call_function_entry kind_sorted plain_sorted entry_sorted (args_sorted1 _) ?_
  unfold Builtin.«sorted»
  refine wpAny_bind (m := checkCount "sorted" 1 1 _) (wpAny_pure (wpAny_bind (collect_set (A := A.in1) hh ⟨ob, e1, e2.1, e3⟩ f bz r l fun s1 vs k1 z1 g1 o1 pm => ?_)))
  have kv : (vs.map kyOf).Perm (ts.map Sum.inr) := by
    have q := pm.map kyOf
    rw [List.map_map] at q
    exact q.trans p
  have lv : vs.length ≤ sizeLine := by
    rw [pm.length_eq, List.length_map, Array.length_toList]
    exact fits_of_scanBound bz
  have hT : ∀ v ∈ vs, ∃ x t, v = Value.str x t := fun v hv => by
    obtain ⟨x, hx, rfl⟩ := List.mem_map.mp (pm.mem_iff.mp hv)
    obtain ⟨y, _, ei⟩ := List.mem_map.mp (kv.mem_iff.mp (List.mem_map_of_mem hv))
    have q := (g x hx).1
    rw [← ei] at q
    rcases keyIs_shape q with ⟨i, t, z, _⟩ | ⟨y2, t, _, z⟩
    · cases z
    · exact ⟨y2, t, z⟩
  have hS := txs_are vs hT
  have pr : (vs.map txOf).Perm ts := by
    have q2 := kv.map (fun k : Key => match k with | .inl _ => Str.empty | .inr x => x)
    rw [List.map_map, List.map_map] at q2
    have ea : ((fun k : Key => match k with | .inl _ => Str.empty | .inr x => x) ∘ Sum.inr) = (id : Str → Str) := rfl
    rw [ea, List.map_id] at q2
    have eb : vs.map ((fun k : Key => match k with | .inl _ => Str.empty | .inr x => x) ∘ kyOf) = vs.map txOf := List.map_congr_left fun v hv => by
      obtain ⟨x, t, rfl⟩ := hT v hv
      rfl
    rwa [eb] at q2
  refine wpAny_bind (wpAny_newList ?_ lv)
  have hoL : (s1.heap.push (seqObj "list" vs.toArray 0)).get? s1.heap.objs.size = some (seqObj "list" vs.toArray 0) := Heap.get?_push_size _ rfl
  refine wpAny_bind (wpAny_holding (wpAny_call_entry slot_list_sort ⟨_, hoL, rfl⟩ entry_list_sort (list_sort_treeKAny strKind_oneLt hoL hS.keysOf (fun v₁ v₂ rest e => keyKind_strs (by rw [← e]; exact hS)) lv fun st' hp hs => ⟨_, rfl, ?_⟩) (args_list_sort _)))
  obtain ⟨us, a1, a2, a3⟩ := sorted_out_str hS hp hs
  obtain ⟨c, hc⟩ := sortedHeap_at (vs := vs) (out := (arrOf st').map (·.2)) hoL
  refine wpAny_pure ⟨_, rfl, hQ _ s1.heap.objs.size _ c us (fun b u q => ?_) g1 o1 z1 hc a1 a3 (a2.trans pr)⟩
  have q2 := k1 b u q
  have lt := Heap.lt_size q2
  show (sortedHeap (s1.heap.push (seqObj "list" vs.toArray 0)) s1.heap.objs.size vs _).get? b = some u
  rw [sortedHeap_old (Nat.ne_of_lt lt) (by rw [size_push']; exact Nat.lt_succ_of_lt lt)]
  exact Heap.get?_push_of_some _ q2
end
section
variable {X : Cx} {K : PySem.W.Frag} {ww : World}
def rSrtT (K : PySem.W.Frag) : List V → Hp → VK → Prop := fun vs H Q => ∃ (a : Addr) (ts : List Str), vs = [V.ref a] ∧ SqL K H a (ts.map V.str) ∧ ∀ (us : List Str) (p : Addr), us.Perm ts → PyProof.Rows.sortedS us = true → H p = none → Q (.ref p) (upd H p (.lst (us.map V.str)))
theorem cr_srtT : CallR X (.builtin "sorted") (rSrtT X.K) := by
  intro pins s σ H vs us Q I r h
  obtain ⟨a, xs, rfl, hs, q⟩ := h
  obtain ⟨its, rv, hl, hz⟩ := I.list hs
  rw [Vals.ref1 r]
  refine PyProof.Rows.sorted_strsAny hl.isList rv.strs (by rw [← rv.length]; exact hz) fun out ys h1 h2 h3 => ?_
  obtain ⟨ep, he'⟩ := PyProof.Rows.sortedAll_at s.heap its out
  have hlen : (ys.map V.str).length ≤ sizeLine := by rw [List.length_map, h2.length_eq]; rw [List.length_map] at hz; exact hz
  exact ⟨.ref _, upd H (s.heap.objs.size + 1) (.lst (ys.map V.str)), I.laid (t' := s.toks) (fun _ _ => PyProof.Rows.sortedAll_old) (Nat.le_succ _) ⟨hlen, out.toList, ep, vals_of_strs h1, he'⟩, rfl, q ys _ h2 h3 (I.hok.fresh (Nat.le_succ _))⟩
def rSrtSI (w : World) : List V → Hp → VK → Prop := fun vs H Q => ∃ (a : Addr) (ns : List Int), vs = [V.ref a] ∧ H a = some (KSetO w a (ns.map Sum.inl)) ∧ ns.length ≤ LIM ∧ ∀ (ms : List Int) (p : Addr), ms.Perm ns → ms.Pairwise (· ≤ ·) → H p = none → Q (.ref p) (upd H p (.lst (ms.map V.int)))
def rSrtSS (w : World) : List V → Hp → VK → Prop := fun vs H Q => ∃ (a : Addr) (ts : List Str), vs = [V.ref a] ∧ H a = some (KSetO w a (ts.map Sum.inr)) ∧ ts.length ≤ LIM ∧ ∀ (us : List Str) (p : Addr), us.Perm ts → PyProof.Rows.sortedS us = true → H p = none → Q (.ref p) (upd H p (.lst (us.map V.str)))
theorem sh_eta {s s2 : Shared} (o : s2.os = s.os) : s2 = { s with heap := s2.heap, gens := s2.gens, drawn := s2.drawn, toks := s2.toks } := by
  cases s2; cases s; cases o; rfl
theorem cr_srtSI (hc : X.calm = true) : CallR X (.builtin "sorted") (rSrtSI X.w) := by
  intro pins s σ H vs us Q I r h
  obtain ⟨a, ns, rfl, ha, hL, q⟩ := h
  rw [Vals.ref1 r]
  refine kset_sortedI (ks_get I ha) (I.ok.hd hc) fun s2 p out c ms k g o hp hg hi hs hm => ?_
  have hlen : (ms.map V.int).length ≤ sizeLine := by rw [List.length_map, hm.length_eq]; exact lim_ok hL
  have J : Inv X pins σ (upd H p (.lst (ms.map V.int))) { s with heap := s2.heap, gens := s2.gens, drawn := s2.drawn, toks := s2.toks } :=
    I.call (ch := []) (Un.laid k hp (I.hok.fresh hp)) (I.hok.laid k hp ⟨hlen, out.toList, c, vals_of_ints hi, hg⟩) (by rw [g]; exact I.bare) (fun _ z => nomatch z)
  rw [sh_eta o]
  exact ⟨.ref p, _, J, rfl, q ms p hm hs (I.hok.fresh hp)⟩
theorem cr_srtSS (hc : X.calm = true) : CallR X (.builtin "sorted") (rSrtSS X.w) := by
  intro pins s σ H vs us Q I r h
  obtain ⟨a, ts, rfl, ha, hL, q⟩ := h
  rw [Vals.ref1 r]
  refine kset_sortedS (ks_get I ha) (I.ok.hd hc) fun s2 p out c ms k g o hp hg hi hs hm => ?_
  have hlen : (ms.map V.str).length ≤ sizeLine := by rw [List.length_map, hm.length_eq]; exact lim_ok hL
  have J : Inv X pins σ (upd H p (.lst (ms.map V.str))) { s with heap := s2.heap, gens := s2.gens, drawn := s2.drawn, toks := s2.toks } :=
    I.call (ch := []) (Un.laid k hp (I.hok.fresh hp)) (I.hok.laid k hp ⟨hlen, out.toList, c, vals_of_strs hi, hg⟩) (by rw [g]; exact I.bare) (fun _ z => nomatch z)
  rw [sh_eta o]
  exact ⟨.ref p, _, J, rfl, q ms p hm hs (I.hok.fresh hp)⟩
theorem keys_inl : ∀ {ks : List Key} {is : List Int}, ks.map ofKey = is.map D.int → ks = is.map Sum.inl
  | [], [], _ => rfl
  | [], _ :: _, h => by cases h
  | _ :: _, [], h => by cases h
  | k :: ks, i :: is, h => by
    simp only [List.map_cons, List.cons.injEq] at h
    cases k with
    | inl j => cases h.1; rw [List.map_cons, keys_inl h.2]
    | inr x => cases h.1
theorem keys_inr : ∀ {ks : List Key} {is : List Str}, ks.map ofKey = is.map D.str → ks = is.map Sum.inr
  | [], [], _ => rfl
  | [], _ :: _, h => by cases h
  | _ :: _, [], h => by cases h
  | k :: ks, i :: is, h => by
    simp only [List.map_cons, List.cons.injEq] at h
    cases k with
    | inl j => cases h.1
    | inr x => cases h.1; rw [List.map_cons, keys_inr h.2]
theorem reps_ints' {H : Hp} {μ : List Addr} (ns : List Int) : Reps K H μ (ns.map D.int) (ns.map V.int) := reps_ints ns
theorem sortD_cases {xs ys : List D} (h : sortD xs = some ys) : (∃ is, xs = is.map D.int ∧ ys = (sortI is).map .int) ∨ ∃ ts, xs = ts.map D.str ∧ ys = (sortT ts).map .str := by
  unfold sortD at h
  cases e : intsD xs with
  | some is =>
    rw [e] at h
    cases h
    exact .inl ⟨is, ints_map e, rfl⟩
  | none =>
    rw [e] at h
    cases e2 : strsD xs with
    | none => rw [e2] at h; cases h
    | some ts =>
      rw [e2] at h
      cases h
      exact .inr ⟨ts, strsD_eq e2, rfl⟩
def sortedB : OpN
  | [.loc n], st => match st[n]? with
    | some (.lst xs) => (sortD xs).map fun ys => (.loc st.length, st ++ [.lst ys])
    | some (.frz xs) => (sortD xs).map fun ys => (.loc st.length, st ++ [.lst ys])
    | some (.set xs) => if xs.length ≤ LIM then (sortD xs).map fun ys => (.loc st.length, st ++ [.lst ys]) else none
    | _ => none
  | _, _ => none
theorem ok_sorted : OkN K ww (fun vs H Q => (rSortedI K vs H Q ∨ rSrtT K vs H Q) ∨ (rSrtSI ww vs H Q ∨ rSrtSS ww vs H Q)) sortedB := by
  intro H μ st xs vs d st' Q g r hv k
  unfold sortedB at hv
  split at hv
  · rename_i n
    obtain ⟨v, rfl, rv⟩ := reps1 r
    simp only [Rep] at rv
    obtain ⟨p, rfl, hp⟩ := rv
    have list : ∀ xs, getL st n = some xs → (sortD xs).map (fun ys => (D.loc st.length, st ++ [OB.lst ys])) = some (d, st') → rSortedI K [.ref p] H Q ∨ rSrtT K [.ref p] H Q := fun xs e hv => by
      obtain ⟨ws, s, rs⟩ := g.getL hp e
      cases e2 : sortD xs with
      | none => rw [e2] at hv; cases hv
      | some ys =>
        rw [e2] at hv
        cases hv
        rcases sortD_cases e2 with ⟨is, rfl, rfl⟩ | ⟨ts, rfl, rfl⟩
        · rw [ints_are rs (intsD_map is)] at s
          exact .inl ⟨p, is, rfl, s, fun ms q pm ps hq => by rw [sortI_uniq pm ps]; exact new_lst g (reps_ints _) k q hq⟩
        · rw [strs_of rs (strsD_map ts)] at s
          exact .inr ⟨p, ts, rfl, s, fun ms q pm ps hq => by rw [sortT_uniq pm ps]; exact new_lst g (reps_strs _) k q hq⟩
    split at hv
    · rename_i ys e
      exact .inl (list ys (by unfold getL; rw [e]) hv)
    · rename_i ys e
      exact .inl (list ys (by unfold getL; rw [e]) hv)
    · rename_i ys e
      split at hv
      · rename_i hL
        obtain ⟨ks, e1, hH⟩ := g.getS hp (getS_of e)
        cases e2 : sortD ys with
        | none => rw [e2] at hv; cases hv
        | some zs =>
          rw [e2] at hv
          cases hv
          rcases sortD_cases e2 with ⟨is, e3, rfl⟩ | ⟨ts, e3, rfl⟩
          · rw [keys_inl (e1.symm.trans e3)] at hH
            exact .inr (.inl ⟨p, is, rfl, hH, by rw [e3, List.length_map] at hL; exact hL, fun ms q pm ps hq => by rw [sortI_uniq pm ps]; exact new_lst g (reps_ints _) k q hq⟩)
          · rw [keys_inr (e1.symm.trans e3)] at hH
            exact .inr (.inr ⟨p, ts, rfl, hH, by rw [e3, List.length_map] at hL; exact hL, fun ms q pm ps hq => by rw [sortT_uniq pm ps]; exact new_lst g (reps_strs _) k q hq⟩)
      · cases hv
    · cases hv
  · cases hv
theorem e_sorted {p pos : Pos} {e : Expr} {f : SA} (hc : X.calm = true) (hg : Gl X "sorted") (hm : X.mg "sorted" = none) (ha : PA X [e] (rdA X.K X.w f)) (he : starEach [e] X.env = (false, eval e X.env) :: starEach [] X.env := by rfl) : PE X (.Call (.Name "sorted" p) [e] [] pos) (rdE X.K X.w (appF sortedB f)) :=
  se_callB (CallR.or (CallR.or cr_sortedI cr_srtT) (CallR.or (cr_srtSI hc) (cr_srtSS hc))) ok_sorted hg hm (by decide +kernel) ha (he := he)
end
end Iv

namespace Iv
open PySem L2 PySem.Spec
/-! ### {e for x in it if c}: a new set -/
/-- what each turn of such a block owes: U the turn's measure, Z the set -/
def tSet (w : World) (wi : TI) (g : TG) (tt : TT) (te : TE) (vs : List Nat) : TE := fun σ H Q => wi σ H fun J H1 => ∀ Z, H1 Z = none → ∃ U : Nat → Nat → Hp → Prop, (∃ m, U 0 m (upd H1 Z (KSetO w Z []))) ∧ ∀ j m G, U j m G →
  (J.stop j G ∧ Q (.ref Z) G) ∨ (J.go j G ∧ ∃ V' : Hp → Prop, (∀ G', V' G' → ∃ m', m' < m ∧ U (j + 1) m' G') ∧ ∀ x G', J.yld j G x G' → g x (wipe σ vs) G' fun σ2 G2 => wipe σ2 vs = wipe σ vs ∧ tt σ2 G2 fun b G3 =>
    if b = true then te σ2 G3 fun y G4 => ∃ (k : Key) (ks : List Key), y = kV k ∧ G4 Z = some (KSetO w Z ks) ∧ ks.length + 1 < scanBound ∧ V' (upd G4 Z (KSetO w Z (addK ks k))) else V' G3)
section
variable {X : Cx} {K : PySem.W.Frag} {ww : World}
theorem add_key {pins : List (Addr × Obj)} {σ : L2.St} {H : Hp} {s : Shared} {E : Value → Shared → Prop} {Z : Addr} {ks : List Key} {k : Key} {u : Value} {Q : Value → Shared → Prop} (I : Inv X pins σ H s) (hZ : H Z = some (KSetO X.w Z ks)) (ru : RelV (kV k) u) (room : ks.length + 1 < scanBound)
    (h : ∀ s', Inv X pins σ (upd H Z (KSetO X.w Z (addK ks k))) s' → Q .none s') : wpAny (model X.prog X.w) X.A (call (.builtin "set.add") [.ref Z, u]) Q E s := by
  refine kset_add (key_rel ru) (ks_get I hZ) room fun h' sb new => ?_
  have ⟨ob, _, _, _, ⟨e1, _⟩, _⟩ := new
  exact h _ (I.write (e := Z) (t' := s.toks + 1) (by rw [hZ]; trivial) (.inl rfl) (fun b u hb hu => (sb.2 b hb).trans hu) ⟨ob, e1⟩ (ks_ok new))
theorem pe_set {elt tg iter : Expr} {ifs : List Expr} {scope : Scope} {own : List (PySem.Str × Nat)} {pos : Pos} {wi : TI} {g : TG} {tt : TT} {te : TE} (calm : X.calm = true) (nodup : X.N.Nodup) (src : PI X tg iter wi) (blk : BlkOk X.N X.env.scope scope own)
    (tgt : ∀ (s : Shared) (H : Hp) (C : Addr) (cl : List (PySem.Str × Addr)) (fp : List Addr), PG (X.blk s H scope (compEnvC scope cl C X.env) fp) tg g) (tst : ∀ (s : Shared) (H : Hp) (C : Addr) (cl : List (PySem.Str × Addr)) (fp : List Addr), PTs (X.blk s H scope (compEnvC scope cl C X.env) fp) ifs tt)
    (itm : ∀ (s : Shared) (H : Hp) (C : Addr) (cl : List (PySem.Str × Addr)) (fp : List Addr), PE (X.blk s H scope (compEnvC scope cl C X.env) fp) elt te) (fold : ∀ x, foldedSetIterable iter X.env x = pure x := by intro _; rfl) :
    PE X (.SetComp elt [⟨tg, iter, ifs, 0⟩] scope pos) (tSet X.w wi g tt te (own.map (·.2))) := ⟨fun pins s σ H Q I h => by
  rw [PpSet.eval_SetComp]
  have cap : ∀ y ∈ scope.names, y.2 = .free → ∃ c, X.env.cells.lookup y.1 = some c := fun y hy e => (blk.free y hy e).elim (fun k => I.ok.has _ (.inl k)) fun k => I.ok.has _ (.inr k)
  refine wpAny_comprehension_free (use := none) rfl fold (closure_ok cap) blk.kind (fun y hy e => by rw [blk.uniq y hy, e]) (thn (src.run pins s σ H _ I h) fun v0 s0 a0 => thn a0 fun v1 s1 a1 => ?_)
  obtain ⟨it, fp, tn, J, G1, rfl, I1, T, t1, f1, rest⟩ := a1
  refine PpSet.newSet_ok (newEnv_comp ?_)
  obtain ⟨Z, eZ⟩ : ∃ Z, s1.heap.objs.size = Z := ⟨_, rfl⟩
  rw [eZ]
  have zn : G1 Z = none := I1.hok.fresh (Nat.le_of_eq eZ)
  obtain ⟨U, ⟨m0, u0⟩, turn⟩ := rest Z zn
  -- the empty set stands
  obtain ⟨s2, es2⟩ : ∃ s2 : Shared, s2 = { s1 with heap := s1.heap.push (newSetObj X.w) } := ⟨_, rfl⟩
  obtain ⟨G2, eG2⟩ : ∃ G2, G2 = upd G1 Z (KSetO X.w Z []) := ⟨_, rfl⟩
  rw [← eG2] at u0
  have I2 : Inv X pins σ G2 s2 := by
    rw [es2, eG2, ← eZ]
    exact I1.laid (t' := s1.toks) (fun b o e => Heap.get?_push_of_some _ e) (Nat.le_refl _) (ks_ok (kset_fresh s1.heap X.w))
  have hp2 : s2.heap = s1.heap.push (newSetObj X.w) := by rw [es2]
  have old : ∀ b o, s1.heap.get? b = some o → s2.heap.get? b = some o := fun b o e => by rw [hp2]; exact Heap.get?_push_of_some _ e
  have f2 : ∀ b ∈ fp, FpOk X pins G2 b ∧ b < s2.heap.objs.size := fun b hb => by
    obtain ⟨o, e, _⟩ := T.obj _ _ t1 b hb
    have lt := Heap.lt_size e
    refine ⟨⟨?_, (f1 b hb).2⟩, Heap.lt_size (old b o e)⟩
    rw [eG2, upd_ne (by rw [← eZ]; exact Nat.ne_of_lt lt)]
    exact (f1 b hb).1
  have t2 : tn 0 s2.heap := T.keep _ _ _ t1 fun b _ o e => old b o e
  -- the block's own frame
  have I3 := block_start I2 blk nodup f2
  obtain ⟨C, eC⟩ : ∃ C, s2.heap.objs.size = C := ⟨_, rfl⟩
  obtain ⟨cl, ecl⟩ : ∃ cl, cellsFrom (C + 1) scope.names (cloFrom X.env.cells scope.names []) = cl := ⟨_, rfl⟩
  have pg := tgt s2 G2 C cl fp
  have pt := tst s2 G2 C cl fp
  have pe := itm s2 G2 C cl fp
  rw [eC, ecl] at I3
  obtain ⟨s3, es3⟩ : ∃ s3 : Shared, s3 = { s2 with heap := pushCells (s2.heap.push { cls := .type "dict", data := .dict #[] }) scope.names } := ⟨_, rfl⟩
  rw [← es3] at I3
  have t3 : tn 0 s3.heap := T.keep _ _ _ t2 fun b _ o e => by rw [es3]; exact pushCells_keeps _ _ _ _ (Heap.get?_push_of_some _ e)
  obtain ⟨B, eB⟩ : ∃ B, compEnvC scope cl C X.env = B := ⟨_, rfl⟩
  have lB : B.locals = C := by rw [← eB]; rfl
  rw [eB] at I3 pg pt pe
  have still : ∀ {σ' : L2.St} {G : Hp} {s' : Shared}, Inv (X.blk s2 G2 scope B fp) [] σ' G s' → (∀ b ∈ fp, G b = none) → ∀ b ∈ fp, FpOk (X.blk s2 G2 scope B fp) [] G b := fun {σ' G s'} I' hn b hb =>
    ⟨hn b hb, (I'.ok.exf b hb).1, I'.ok.exfs b hb, .inl hb, fun x c e => (I'.ok.exf b hb).2 x c e, fun p hp => by cases (show p ∈ ([] : List (Addr × Obj)) from hp)⟩
  -- all turns
  have all : codeAny (model X.prog X.w) X.A (.compLoop (.SetComp elt [⟨tg, iter, ifs, 0⟩] scope pos) 0 (.ref it) (.ref Z) B) (compPost (model X.prog X.w) X.A X.xe none (fun u s' => ∃ y G, Inv X pins σ G s' ∧ RelV y u ∧ Q y G) (.ref Z) C) s3 := by
    refine PpSet.compLoopS_any (fun m s' => ∃ j G, U j m G ∧ (∀ b ∈ fp, G b = none) ∧ tn j s'.heap ∧ Inv (X.blk s2 G2 scope B fp) [] (wipe σ (own.map (·.2))) G s') ?_ m0 ⟨0, G2, u0, fun b hb => (f2 b hb).1.1, t3, I3⟩
    rintro m s4 ⟨j, G4, u4, n4, t4, I4⟩
    rcases turn j m G4 u4 with ⟨st, qq⟩ | ⟨go, V', nxt, body⟩
    · refine thnF (T.done (X.blk s2 G2 scope B fp) rfl rfl rfl calm j [] s4 _ G4 (fun _ _ => False) I4 (still I4 n4) t4 st) fun r s5 ⟨er, I5⟩ => ?_
      subst er
      have I6 : Inv X pins σ G4 s5 := I2.call' (ch := fp) I5.os I5.base I5.hok I5.bare fun b hb => ⟨(f2 b hb).1.2.2.2.1, (f2 b hb).1.2.1, (f2 b hb).1.2.2.2.2.1, (f2 b hb).1.2.2.2.2.2⟩
      have fC : G4 C = none := by rw [← lB]; exact I5.free
      obtain ⟨mm, hns, _⟩ := I5.loc
      refine ⟨mm, by rw [← lB]; exact hns, fun h'' sb => ?_⟩
      obtain ⟨a0, a1, a2, a3, a4, a5⟩ := I2.fpOk (b := C) (H' := G4) (Nat.le_of_eq eC) fC
      exact ⟨.ref Z, G4, I6.turned (t' := s5.toks) (fun b o hb e => (sb.2 b hb).trans e) a0 a1 a3 a4 a5, rfl, qq⟩
    · refine thnF (T.item (X.blk s2 G2 scope B fp) rfl rfl rfl calm j [] s4 _ G4 (fun _ _ => False) I4 (still I4 n4) t4 go) fun r s5 ⟨u, er, got⟩ => ?_
      subst er
      refine thnF got fun _ s6 ⟨x, G6, I6, r6, y6, t6, n6⟩ => ?_
      have P6 := I6.pinned (still I6 n6) (T.obj _ _ t6)
      refine thnF (pg.run _ s6 _ G6 x u _ P6 r6 (body x G6 y6)) fun _ s7 ⟨σ7, G7, I7, w7, q7⟩ => ?_
      refine thnF (pt.run _ s7 σ7 G7 _ I7 q7) fun b s8 ⟨G8, I8, q8⟩ => ?_
      have back : ∀ {s' : Shared} {G : Hp}, Inv (X.blk s2 G2 scope B fp) ([] ++ pinsAt fp s6.heap) σ7 G s' → V' G → ∃ m', m' < m ∧ ∃ j G, U j m' G ∧ (∀ b ∈ fp, G b = none) ∧ tn j s'.heap ∧ Inv (X.blk s2 G2 scope B fp) [] (wipe σ (own.map (·.2))) G s' := fun {s' G} I' v' => by
        obtain ⟨m', lt, u'⟩ := nxt G v'
        have pinned : ∀ b ∈ fp, ∀ o, s6.heap.get? b = some o → s'.heap.get? b = some o ∧ G b = none := fun b hb o e => by
          have z := I'.pin (b, o) (List.mem_append_right _ (List.mem_append_right _ (mem_pinsAt hb e)))
          exact ⟨z.1, z.2.1⟩
        refine ⟨m', lt, j + 1, G, u', fun b hb => ?_, T.keep _ _ _ t6 fun b hb o e => (pinned b hb o e).1, (I'.unpinned (pins := [])).weak (by rw [← w7, wipe_length]) fun i v e => ?_⟩
        · obtain ⟨o, e, _⟩ := T.obj _ _ t6 b hb
          exact (pinned b hb o e).2
        · rw [← w7] at e
          exact (wipe_some e).1
      cases b with
      | false => simp only [Bool.false_eq_true, if_false] at q8 ⊢; exact back I8 q8
      | true =>
        simp only [if_true] at q8 ⊢
        refine thnF (pe.run _ s8 σ7 G8 _ I8 q8) fun z s9 ⟨y, G9, I9, r9, k, ks, ey, hZ, room, v9⟩ => ?_
        subst ey
        exact add_key (X := X.blk s2 G2 scope B fp) I9 hZ r9 room fun s10 I10 => back I10 v9
  have start := PpSet.codeAny_compStart_set (elt := elt) (target := tg) (iter := iter) (ifs := ifs) (rest := []) (scope := scope) (pos := pos) all (T.self X.A 0 _ _ _ t3 all)
  have e4 : ({ s1 with heap := s1.heap.push (newSetObj X.w) } : Shared) = s2 := es2.symm
  rw [e4, eC, ecl]
  rw [← es3]
  rw [← eB] at start
  exact start⟩
def addD (xs : List D) (y : D) : Option (List D) := match keysD xs, keyD y with
  | some ks, some k => if ks.length < 4000 then some ((addK ks k).map ofKey) else none
  | _, _ => none
theorem addD_of {ks : List Key} {k : Key} (h : ks.length < 4000) : addD (ks.map ofKey) (ofKey k) = some ((addK ks k).map ofKey) := by
  simp only [addD, keysD_ofKey, keyD_ofKey, h, if_true]
def scompV (J : It) (g : Tg) (c : ST) (e : SE) (n : Nat) (σ0 : Sl) : Nat → Nat → Sto → Option Sto
  | 0, _, _ => none
  | m + 1, i, st => match items J st with
    | none => none
    | some xs => match xs[i]? with
      | none => some st
      | some d => match g d σ0 with
        | none => none
        | some σ1 => bnd (c σ1 st) fun b s1 => if b = true then bnd (e σ1 s1) fun y s2 => (match getS s2 n with
            | none => none
            | some acc => match addD acc y with
              | none => none
              | some acc2 => scompV J g c e n σ0 m (i + 1) (s2.set n (.set acc2))) else scompV J g c e n σ0 m (i + 1) s1
def scompF (vs : List Nat) (i : SJ) (g : Tg) (c : ST) (e : SE) : SE := fun σ st => bnd (i σ st) fun J s1 => match items J s1 with
  | none => none
  | some xs => (scompV J g c e s1.length (wipeD σ vs) (xs.length + 1) 0 (s1 ++ [.set []])).map fun s2 => (.loc s1.length, s2)
theorem rd_scomp {vs : List Nat} {i : SJ} {gg : TG} {g : Tg} {c : ST} {e : SE} (ok : OkG K gg g) (ow : OwnG vs gg) : ∀ τ H Q, rdE K ww (scompF vs i g c e) τ H Q → tSet ww (rdI K ww i) gg (rdT K ww c) (rdE K ww e) vs τ H Q :=
  fun τ H Q ⟨μ, st, σ, d, st', gd, er, hv, k⟩ => by
    obtain ⟨J, s1, h1, hv⟩ := bnd_eq hv
    cases ei : items J s1 with
    | none => simp only [ei] at hv; cases hv
    | some xs =>
      simp only [ei] at hv
      cases ec : scompV J g c e s1.length (wipeD σ vs) (xs.length + 1) 0 (s1 ++ [.set []]) with
      | none => rw [ec] at hv; cases hv
      | some s9 =>
        rw [ec] at hv
        cases hv
        refine ⟨μ, st, σ, J, s1, gd, er, h1, fun μ0 H0 J' g0 d0 iR Z hZ => ?_⟩
        have gn : Gr H0 μ0 (upd H0 Z (KSetO ww Z [])) (μ0 ++ [Z]) := gr_new hZ
        have dn : Gd K ww (upd H0 Z (KSetO ww Z [])) (μ0 ++ [Z]) (s1 ++ [.set []]) := d0.newO (o := .set []) hZ ⟨[], rfl, upd_same⟩
        have pZ : (μ0 ++ [Z])[s1.length]? = some Z := by
          rw [← d0.len, List.getElem?_append_right (Nat.le_refl _), Nat.sub_self]
          rfl
        have ew : EnvR K H0 μ0 (wipeD σ vs) (wipe τ vs) := envr_wipe (er.m g0) vs
        refine ⟨fun j m H1 => ∃ μ1 s2, Gr (upd H0 Z (KSetO ww Z [])) (μ0 ++ [Z]) H1 μ1 ∧ Gd K ww H1 μ1 s2 ∧ scompV J g c e s1.length (wipeD σ vs) m j s2 = some st', ⟨_, μ0 ++ [Z], _, Gr.refl _ _, dn, ec⟩, ?_⟩
        rintro j m H1 ⟨μ1, s2, g1, d1, hv1⟩
        cases m with
        | zero => cases hv1
        | succ m =>
          unfold scompV at hv1
          cases e2 : items J s2 with
          | none => simp only [e2] at hv1; cases hv1
          | some ys =>
            simp only [e2] at hv1
            have g01 := gn.trans g1
            obtain ⟨q1, q2⟩ := iR μ1 H1 s2 ys g01 d1 e2
            cases e3 : ys[j]? with
            | none =>
              simp only [e3] at hv1
              cases hv1
              exact .inl ⟨q1 j (by simpa using e3), k μ1 H1 _ (g0.trans g01) d1 (rep_loc (g1.get pZ))⟩
            | some y =>
              simp only [e3] at hv1
              obtain ⟨q3, q4⟩ := q2 j y e3
              let V' : Hp → Prop := fun H3 => ∃ μ3 s3, Gr (upd H0 Z (KSetO ww Z [])) (μ0 ++ [Z]) H3 μ3 ∧ Gd K ww H3 μ3 s3 ∧ scompV J g c e s1.length (wipeD σ vs) m (j + 1) s3 = some st'
              refine .inr ⟨q3, V', fun H3 q => ⟨m, Nat.lt_succ_self m, q⟩, fun x H2 hy => ?_⟩
              obtain ⟨sm, rx⟩ := q4 x H2 hy
              have gs : Gr H1 μ1 H2 μ1 := ⟨Keeps.same sm, [], by simp⟩
              have d2 := d1.same sm
              cases e4 : g y (wipeD σ vs) with
              | none => simp only [e4] at hv1; cases hv1
              | some σ2 =>
                simp only [e4] at hv1
                obtain ⟨b, s3, h3, hv1⟩ := bnd_eq hv1
                have main : gg x (wipe τ vs) H2 fun τ2 H2 => rdT K ww c τ2 H2 fun b H3 => if b = true then rdE K ww e τ2 H3 fun y H4 => ∃ (k : Key) (ks : List Key), y = kV k ∧ H4 Z = some (KSetO ww Z ks) ∧ ks.length + 1 < scanBound ∧ V' (upd H4 Z (KSetO ww Z (addK ks k))) else V' H3 := by
                  refine ok H2 μ1 _ _ y x σ2 _ (ew.m (g01.trans gs)) rx e4 fun τ2 e5 => ?_
                  refine ⟨μ1, s2, σ2, b, s3, d2, e5, h3, fun μ4 H4 g4 d4 => ?_⟩
                  have g5 := (g1.trans gs).trans g4
                  cases b with
                  | false => exact ⟨μ4, s3, g5, d4, hv1⟩
                  | true =>
                    rw [if_pos rfl] at hv1
                    show rdE K ww e τ2 H4 _
                    obtain ⟨z, s4, h4, hv1⟩ := bnd_eq hv1
                    refine ⟨μ4, s3, σ2, z, s4, d4, e5.m g4, h4, fun μ5 H5 w g6 d5 r5 => ?_⟩
                    cases e6 : getS s4 s1.length with
                    | none => simp only [e6] at hv1; cases hv1
                    | some acc =>
                      simp only [e6] at hv1
                      cases e7 : addD acc z with
                      | none => simp only [e7] at hv1; cases hv1
                      | some acc2 =>
                        simp only [e7] at hv1
                        have hp5 := (g5.trans g6).get pZ
                        obtain ⟨ks, ea, hH⟩ := d5.getS hp5 e6
                        subst ea
                        unfold addD at e7
                        rw [keysD_ofKey] at e7
                        cases ez : keyD z with
                        | none => simp only [ez] at e7; cases e7
                        | some kz =>
                          simp only [ez] at e7
                          split at e7
                          · rename_i hl
                            cases e7
                            have wr := d5.writeO (o := .set (ks.map ofKey)) (o2 := .set ((addK ks kz).map ofKey)) (u := KSetO ww Z (addK ks kz)) hp5 (getS_get e6) rfl rfl fun _ => ⟨_, keysD_ofKey _, upd_same⟩
                            exact ⟨kz, ks, keyD_rep r5 ez, hH, (show ks.length + 1 < 4096 by omega), μ5, _, (g5.trans g6).trans wr.1, wr.2, hv1⟩
                          · cases e7
                have hq2 := ow x _ _ _ main
                rw [wipe_wipe] at hq2
                exact hq2
theorem se_scomp {elt tg iter : Expr} {ifs : List Expr} {scope : Scope} {own : List (Str × Nat)} {pos : Pos} {i : SJ} {gg : TG} {g : Tg} {c : ST} {e : SE} (hc : X.calm = true) (hN : X.N.Nodup) (hi : PI X tg iter (rdI X.K X.w i)) (ok : BlkOk X.N X.env.scope scope own)
    (hg : ∀ (s : Shared) (H : Hp) (C : Addr) (cl : List (Str × Addr)) (fp : List Addr), PG (X.blk s H scope (compEnvC scope cl C X.env) fp) tg gg) (okg : OkG X.K gg g) (ow : OwnG (own.map (·.2)) gg)
    (ht : ∀ (s : Shared) (H : Hp) (C : Addr) (cl : List (Str × Addr)) (fp : List Addr), PTs (X.blk s H scope (compEnvC scope cl C X.env) fp) ifs (rdT X.K X.w c))
    (he : ∀ (s : Shared) (H : Hp) (C : Addr) (cl : List (Str × Addr)) (fp : List Addr), PE (X.blk s H scope (compEnvC scope cl C X.env) fp) elt (rdE X.K X.w e)) (hs : ∀ x, foldedSetIterable iter X.env x = pure x := by intro _; rfl) :
    PE X (.SetComp elt [⟨tg, iter, ifs, 0⟩] scope pos) (rdE X.K X.w (scompF (own.map (·.2)) i g c e)) := (pe_set hc hN hi ok hg ht he hs).weak (rd_scomp okg ow)
/-! ### reversed(range(n)) -/
def rrgI (f : SE) : SJ := fun σ st => bnd (f σ st) fun d s1 => match d with
  | .int j => if 0 ≤ j ∧ j ≤ 1000000 then some (.cns (rngD 0 j.toNat).reverse, s1) else none
  | _ => none
@[simp] theorem rrgI_eq {f : SE} {σ : Sl} {st : Sto} : rrgI f σ st = bnd (f σ st) fun d s1 => match d with
  | .int j => if 0 ≤ j ∧ j ≤ 1000000 then some (.cns (rngD 0 j.toNat).reverse, s1) else none
  | _ => none := rfl
theorem si_rrg {tg a : Expr} {f : SE} {p q pos pos2 : Pos} (hg : Gl X "reversed") (hm : X.mg "reversed" = none) (hg2 : Gl X "range") (hm2 : X.mg "range" = none) (ha : PE X a (rdE X.K X.w f))
    (na : starEach [a] X.env = (false, eval a X.env) :: starEach [] X.env := by rfl) (nb : starEach [.Call (.Name "range" q) [a] [] pos2] X.env = (false, eval (.Call (.Name "range" q) [a] [] pos2) X.env) :: starEach [] X.env := by rfl) :
    PI X tg (.Call (.Name "reversed" p) [.Call (.Name "range" q) [a] [] pos2] [] pos) (rdI X.K X.w (rrgI f)) := ⟨fun pins s τ H R I hw => by
  obtain ⟨μ, st, σ, J, st', gd, er, hv, k⟩ := hw
  obtain ⟨d, s1, h1, hv⟩ := bnd_eq hv
  split at hv
  · split at hv
    · rename_i j hj
      cases hv
      refine (pi_revR hg hm (prg_1 hg2 hm2 ha na) nb).run pins s τ H R I ⟨μ, st, σ, _, _, gd, er, h1, fun μ1 H1 v g1 d1 r1 => ?_⟩
      simp only [Rep] at r1
      refine ⟨j, r1, by omega, by omega, by omega, by omega, k μ1 H1 _ g1 d1 fun μ2 H2 st2 xs g2 d2 e2 => ?_⟩
      cases e2
      have el : (rngD 0 j.toNat).reverse.length = j.toNat := by rw [List.length_reverse, rngD_len]
      refine ⟨fun i hi => (show (j - 0).toNat ≤ i by rw [el] at hi; omega), fun i d hd => ?_⟩
      have hi : i < j.toNat := by rw [← el]; exact (List.getElem?_eq_some_iff.mp hd).1
      rw [List.getElem?_reverse (by rw [rngD_len]; exact hi), rngD_len] at hd
      obtain ⟨_, rfl⟩ := rngD_get hd
      refine ⟨(show i < (j - 0).toNat by omega), fun x H3 ⟨e3, e4⟩ => ?_⟩
      subst e3
      refine ⟨Same.refl _, ?_⟩
      rw [e4]
      simp only [Rep]
      congr 1
      omega
    · cases hv
  · cases hv⟩
/-! ### a op b op' c as a test; a op b op' c op'' d -/
theorem rd_chain {o o' : Op2} {op : CmpOp} {f g h : SE} (hc : Cmp X op o) {r r' : R2} (p2 : Ok2 X.K X.w r o) (q2 : Ok2 X.K X.w r' o') : ∀ τ H Q, rdE X.K X.w (chnF o o' f g h) τ H Q → tChain r r' (rdE X.K X.w f) (rdE X.K X.w g) (rdE X.K X.w h) τ H Q := fun τ H Q ⟨μ, st, σ, d, st', gd, er, hv, k⟩ => by
  obtain ⟨x, s1, e1, hv⟩ := bnd_eq hv
  obtain ⟨y, s2, e2, hv⟩ := bnd_eq hv
  obtain ⟨z, s3, e3, hv⟩ := bnd_eq hv
  refine ⟨μ, st, σ, x, s1, gd, er, e1, fun μ1 H1 vx g1 d1 r1 => ?_⟩
  refine ⟨μ1, s1, σ, y, s2, d1, er.m g1, e2, fun μ2 H2 vy g2 d2 r2 => ?_⟩
  refine p2 H2 μ2 s2 x y vx vy z s3 _ d2 (r1.m g2) r2 e3 fun μ3 H3 vz g3 d3 r3 => ?_
  obtain ⟨bb, rfl⟩ := hc.bl _ _ _ _ _ e3
  simp only [Rep] at r3
  refine ⟨bb, r3, ?_⟩
  cases bb with
  | false =>
    cases hv
    exact k μ3 H3 _ ((g1.trans g2).trans g3) d3 (by simp only [Rep])
  | true =>
    show rdE X.K X.w h τ H3 _
    obtain ⟨w, s4, e4, hv⟩ := bnd_eq hv
    refine ⟨μ3, s3, σ, w, s4, d3, er.m ((g1.trans g2).trans g3), e4, fun μ4 H4 vw g4 d4 r4 => ?_⟩
    exact q2 H4 μ4 s4 y w vy vw d st' Q d4 (r2.m (g3.trans g4)) r4 hv fun μ5 H5 v g5 d5 r5 => k μ5 H5 v ((((g1.trans g2).trans g3).trans g4).trans g5) d5 r5
theorem chn_bl {o o' : Op2} {f g h : SE} (h2 : ∀ x y st d st', o' x y st = some (d, st') → ∃ b, d = .bl b) {σ : Sl} {st : Sto} {d : D} {st' : Sto} (hv : chnF o o' f g h σ st = some (d, st')) : ∃ b, d = .bl b := by
  unfold chnF at hv
  obtain ⟨_, _, _, hv⟩ := bnd_eq hv
  obtain ⟨_, _, _, hv⟩ := bnd_eq hv
  obtain ⟨z, _, _, hv⟩ := bnd_eq hv
  split at hv
  · obtain ⟨_, _, _, hv⟩ := bnd_eq hv
    exact h2 _ _ _ _ _ hv
  · cases hv; exact ⟨_, rfl⟩
  · cases hv
theorem rd_test {f : SE} {t : TE} (hb : ∀ σ st d st', f σ st = some (d, st') → ∃ b, d = .bl b) (h : ∀ τ H Q, rdE X.K X.w f τ H Q → t τ H Q) : ∀ τ H Q, rdT X.K X.w (truF f) τ H Q → tTest t τ H Q := fun τ H Q ⟨μ, st, σ, b, st', gd, er, hv, k⟩ => by
  obtain ⟨d, s1, e1, hv⟩ := bnd_eq hv
  obtain ⟨c, rfl⟩ := hb _ _ _ _ e1
  cases hv
  exact h τ H _ ⟨μ, st, σ, .bl b, _, gd, er, e1, fun μ1 H1 v g1 d1 r1 => ⟨b, by simpa only [Rep] using r1, k μ1 H1 g1 d1⟩⟩
theorem t_chain {op op' : CmpOp} {o o' : Op2} {a b c : Expr} {f g h : SE} {pos : Pos} (hc : Cmp X op o) (hc' : Cmp X op' o') (ha : PE X a (rdE X.K X.w f)) (hb : PE X b (rdE X.K X.w g)) (h3 : PE X c (rdE X.K X.w h)) (hl : lastMarks [op, op'] [b, c] = false := by rfl) : PT X (.Compare a [op, op'] [b, c] pos) (rdT X.K X.w (truF (chnF o o' f g h))) := by
  obtain ⟨r, p1, p2⟩ := hc.ex
  obtain ⟨r', q1, q2⟩ := hc'.ex
  exact (pt_chain p1 q1 ha hb h3 hl).weak (rd_test (fun _ _ _ _ e => chn_bl hc'.bl e) (rd_chain hc p2 q2))
def tChain3 (r r' r'' : R2) (ta tb tc td : TE) : TE := fun σ H Q => ta σ H fun x H1 => tb σ H1 fun y H2 => r x y H2 fun z H3 => ∃ k, z = .bl k ∧ (if k = true then tc σ H3 fun v H4 => r' y v H4 fun z2 H5 => ∃ k2, z2 = .bl k2 ∧ (if k2 = true then td σ H5 fun u H6 => r'' v u H6 Q else Q (.bl false) H5) else Q (.bl false) H3)
theorem pe_chain3 {op op' op'' : CmpOp} {r r' r'' : R2} {a b c d : Expr} {ta tb tc td : TE} {pos : Pos} (ho : OpR X (compareOp op) r) (ho' : OpR X (compareOp op') r') (ho'' : OpR X (compareOp op'') r'') (ha : PE X a ta) (hb : PE X b tb) (hc : PE X c tc) (hd : PE X d td)
    (hm : lastMarks [op, op', op''] [b, c, d] = false := by with_unfolding_all rfl) : PE X (.Compare a [op, op', op''] [b, c, d] pos) (tChain3 r r' r'' ta tb tc td) := ⟨fun pins s σ H Q I h =>
  PyProof.Rows.Compare_chain (thn (ha.run pins s σ H _ I h) fun v s1 ⟨x, H1, I1, r1, q1⟩ => PyProof.Rows.chain_link (thn (hb.run pins s1 σ H1 _ I1 q1) fun u s2 ⟨y, H2, I2, r2, q2⟩ =>
    thn (ho pins s2 σ H2 x y v u _ I2 r1 r2 q2) fun e s3 ⟨z, H3, I3, r3, k, ek, q3⟩ => by
      subst ek
      cases r3
      refine wpAny_truthy_bool ?_
      cases k with
      | false => exact PyProof.Rows.ite_ff ⟨.bl false, H3, I3, rfl, q3⟩
      | true =>
        refine PyProof.Rows.ite_tt (PyProof.Rows.chain_link (thn (hc.run pins s3 σ H3 _ I3 q3) fun w4 s4 ⟨z4, H4, I4, r4, q4⟩ => thn (ho' pins s4 σ H4 y z4 u w4 _ I4 r2 r4 q4) fun e2 s5 ⟨z5, H5, I5, r5, k2, ek2, q5⟩ => ?_))
        subst ek2
        cases r5
        refine wpAny_truthy_bool ?_
        cases k2 with
        | false => exact PyProof.Rows.ite_ff ⟨.bl false, H5, I5, rfl, q5⟩
        | true => exact PyProof.Rows.ite_tt (PyProof.Rows.chain_last (thn (hd.run pins s5 σ H5 _ I5 q5) fun w6 s6 ⟨z6, H6, I6, r6, q6⟩ => ho'' pins s6 σ H6 z4 z6 w4 w6 Q I6 r4 r6 q6)))) hm⟩
theorem pt_chain3 {op op' op'' : CmpOp} {r r' r'' : R2} {a b c d : Expr} {ta tb tc td : TE} {pos : Pos} (ho : OpR X (compareOp op) r) (ho' : OpR X (compareOp op') r') (ho'' : OpR X (compareOp op'') r'') (ha : PE X a ta) (hb : PE X b tb) (hc : PE X c tc) (hd : PE X d td)
    (hm : lastMarks [op, op', op''] [b, c, d] = false := by with_unfolding_all rfl) : PT X (.Compare a [op, op', op''] [b, c, d] pos) (tTest (tChain3 r r' r'' ta tb tc td)) := ⟨fun pins s σ H Q I h =>
  PyProof.Rows.isTrue_chain (thn (ha.run pins s σ H _ I h) fun v s1 ⟨x, H1, I1, r1, q1⟩ => PyProof.Rows.test_link (thn (hb.run pins s1 σ H1 _ I1 q1) fun u s2 ⟨y, H2, I2, r2, q2⟩ =>
    thn (ho pins s2 σ H2 x y v u _ I2 r1 r2 q2) fun e s3 ⟨z, H3, I3, r3, k, ek, q3⟩ => by
      subst ek
      cases r3
      refine wpAny_truthy_bool ?_
      cases k with
      | false =>
        obtain ⟨k', e', q'⟩ := q3
        cases e'
        exact PyProof.Rows.ite_ff ⟨H3, I3, q'⟩
      | true =>
        refine PyProof.Rows.ite_tt (PyProof.Rows.test_link (thn (hc.run pins s3 σ H3 _ I3 q3) fun w4 s4 ⟨z4, H4, I4, r4, q4⟩ => thn (ho' pins s4 σ H4 y z4 u w4 _ I4 r2 r4 q4) fun e2 s5 ⟨z5, H5, I5, r5, k2, ek2, q5⟩ => ?_))
        subst ek2
        cases r5
        refine wpAny_truthy_bool ?_
        cases k2 with
        | false =>
          obtain ⟨k', e', q'⟩ := q5
          cases e'
          exact PyProof.Rows.ite_ff ⟨H5, I5, q'⟩
        | true =>
          refine PyProof.Rows.ite_tt (PyProof.Rows.test_last (thn (hd.run pins s5 σ H5 _ I5 q5) fun w6 s6 ⟨z6, H6, I6, r6, q6⟩ => thn (ho'' pins s6 σ H6 z4 z6 w4 w6 _ I6 r4 r6 q6) fun e3 s7 ⟨z7, H7, I7, r7, k3, ek3, q7⟩ => ?_))
          subst ek3
          cases r7
          exact wpAny_truthy_bool ⟨H7, I7, q7⟩)) hm⟩
def chn3F (o o' o'' : Op2) (f g h i : SE) : SE := fun σ st => bnd (f σ st) fun x s1 => bnd (g σ s1) fun y s2 => bnd (o x y s2) fun z s3 => match z with
  | .bl true => bnd (h σ s3) fun w s4 => bnd (o' y w s4) fun z2 s5 => (match z2 with
    | .bl true => bnd (i σ s5) fun u s6 => o'' w u s6
    | .bl false => some (.bl false, s5)
    | _ => none)
  | .bl false => some (.bl false, s3)
  | _ => none
@[simp] theorem chn3F_eq {o o' o'' : Op2} {f g h i : SE} {σ : Sl} {st : Sto} : chn3F o o' o'' f g h i σ st = bnd (f σ st) fun x s1 => bnd (g σ s1) fun y s2 => bnd (o x y s2) fun z s3 => match z with
  | .bl true => bnd (h σ s3) fun w s4 => bnd (o' y w s4) fun z2 s5 => (match z2 with
    | .bl true => bnd (i σ s5) fun u s6 => o'' w u s6
    | .bl false => some (.bl false, s5)
    | _ => none)
  | .bl false => some (.bl false, s3)
  | _ => none := rfl
theorem rd_chain3 {o o' o'' : Op2} {op op' : CmpOp} {f g h i : SE} (hc : Cmp X op o) (hc' : Cmp X op' o') {r r' r'' : R2} (p2 : Ok2 X.K X.w r o) (q2 : Ok2 X.K X.w r' o') (t2 : Ok2 X.K X.w r'' o'') :
    ∀ τ H Q, rdE X.K X.w (chn3F o o' o'' f g h i) τ H Q → tChain3 r r' r'' (rdE X.K X.w f) (rdE X.K X.w g) (rdE X.K X.w h) (rdE X.K X.w i) τ H Q := fun τ H Q ⟨μ, st, σ, d, st', gd, er, hv, k⟩ => by
  obtain ⟨x, s1, e1, hv⟩ := bnd_eq hv
  obtain ⟨y, s2, e2, hv⟩ := bnd_eq hv
  obtain ⟨z, s3, e3, hv⟩ := bnd_eq hv
  refine ⟨μ, st, σ, x, s1, gd, er, e1, fun μ1 H1 vx g1 d1 r1 => ?_⟩
  refine ⟨μ1, s1, σ, y, s2, d1, er.m g1, e2, fun μ2 H2 vy g2 d2 r2 => ?_⟩
  refine p2 H2 μ2 s2 x y vx vy z s3 _ d2 (r1.m g2) r2 e3 fun μ3 H3 vz g3 d3 r3 => ?_
  obtain ⟨bb, rfl⟩ := hc.bl _ _ _ _ _ e3
  simp only [Rep] at r3
  have g03 := (g1.trans g2).trans g3
  refine ⟨bb, r3, ?_⟩
  cases bb with
  | false =>
    cases hv
    exact k μ3 H3 _ g03 d3 (by simp only [Rep])
  | true =>
    show rdE X.K X.w h τ H3 _
    obtain ⟨w, s4, e4, hv⟩ := bnd_eq hv
    obtain ⟨z2, s5, e5, hv⟩ := bnd_eq hv
    refine ⟨μ3, s3, σ, w, s4, d3, er.m g03, e4, fun μ4 H4 vw g4 d4 r4 => ?_⟩
    refine q2 H4 μ4 s4 y w vy vw z2 s5 _ d4 (r2.m (g3.trans g4)) r4 e5 fun μ5 H5 v g5 d5 r5 => ?_
    obtain ⟨b2, rfl⟩ := hc'.bl _ _ _ _ _ e5
    simp only [Rep] at r5
    have g05 := (g03.trans g4).trans g5
    refine ⟨b2, r5, ?_⟩
    cases b2 with
    | false =>
      cases hv
      exact k μ5 H5 _ g05 d5 (by simp only [Rep])
    | true =>
      show rdE X.K X.w i τ H5 _
      obtain ⟨u, s6, e6, hv⟩ := bnd_eq hv
      refine ⟨μ5, s5, σ, u, s6, d5, er.m g05, e6, fun μ6 H6 vu g6 d6 r6 => ?_⟩
      exact t2 H6 μ6 s6 w u vw vu d st' Q d6 (r4.m (g5.trans g6)) r6 hv fun μ7 H7 v g7 d7 r7 => k μ7 H7 v ((g05.trans g6).trans g7) d7 r7
theorem chn3_bl {o o' o'' : Op2} {f g h i : SE} (h2 : ∀ x y st d st', o'' x y st = some (d, st') → ∃ b, d = .bl b) {σ : Sl} {st : Sto} {d : D} {st' : Sto} (hv : chn3F o o' o'' f g h i σ st = some (d, st')) : ∃ b, d = .bl b := by
  unfold chn3F at hv
  obtain ⟨_, _, _, hv⟩ := bnd_eq hv
  obtain ⟨_, _, _, hv⟩ := bnd_eq hv
  obtain ⟨z, _, _, hv⟩ := bnd_eq hv
  split at hv
  · obtain ⟨_, _, _, hv⟩ := bnd_eq hv
    obtain ⟨_, _, _, hv⟩ := bnd_eq hv
    split at hv
    · obtain ⟨_, _, _, hv⟩ := bnd_eq hv
      exact h2 _ _ _ _ _ hv
    · cases hv; exact ⟨_, rfl⟩
    · cases hv
  · cases hv; exact ⟨_, rfl⟩
  · cases hv
section
variable {op op' op'' : CmpOp} {o o' o'' : Op2} {a b c d : Expr} {f g h i : SE} {pos : Pos}
theorem e_chain3 (hc : Cmp X op o) (hc' : Cmp X op' o') (hc'' : Cmp X op'' o'') (ha : PE X a (rdE X.K X.w f)) (hb : PE X b (rdE X.K X.w g)) (h3 : PE X c (rdE X.K X.w h)) (h4 : PE X d (rdE X.K X.w i)) (hl : lastMarks [op, op', op''] [b, c, d] = false := by rfl) : PE X (.Compare a [op, op', op''] [b, c, d] pos) (rdE X.K X.w (chn3F o o' o'' f g h i)) := by
  obtain ⟨r, p1, p2⟩ := hc.ex
  obtain ⟨r', q1, q2⟩ := hc'.ex
  obtain ⟨r'', t1, t2⟩ := hc''.ex
  exact (pe_chain3 p1 q1 t1 ha hb h3 h4 hl).weak (rd_chain3 hc hc' p2 q2 t2)
theorem t_chain3 (hc : Cmp X op o) (hc' : Cmp X op' o') (hc'' : Cmp X op'' o'') (ha : PE X a (rdE X.K X.w f)) (hb : PE X b (rdE X.K X.w g)) (h3 : PE X c (rdE X.K X.w h)) (h4 : PE X d (rdE X.K X.w i)) (hl : lastMarks [op, op', op''] [b, c, d] = false := by rfl) : PT X (.Compare a [op, op', op''] [b, c, d] pos) (rdT X.K X.w (truF (chn3F o o' o'' f g h i))) := by
  obtain ⟨r, p1, p2⟩ := hc.ex
  obtain ⟨r', q1, q2⟩ := hc'.ex
  obtain ⟨r'', t1, t2⟩ := hc''.ex
  exact (pt_chain3 p1 q1 t1 ha hb h3 h4 hl).weak (rd_test (fun _ _ _ _ e => chn3_bl hc''.bl e) (rd_chain3 hc hc' p2 q2 t2))
end
/-! ### f() -/
theorem e_call0 {n : Nat} {x : Str} {φ : Fx} {p pos : Pos} (C : Cal X.prog X.w X.K X.mg X.base n x [] φ) (hr : Room n X.A) (hg : Gl X x) (hdb : (x == ("__debug__" : Str)) = false := by decide) : PE X (.Call (.Name x p) [] [] pos) (rdE X.K X.w (callF φ nilF)) := by
  obtain ⟨f, fd, G, hm, hk, hb⟩ := C.ex
  refine (pe_call0 G hr hg hm hk hb .nil pass0 hdb).weak fun τ H Q ⟨μ, st, σ, d, st', gd, er, hv, kk⟩ => ?_
  have hv2 : φ [] st = some (d, st') := hv
  show spF X.K X.w 0 φ ([] ++ []) H Q E0
  exact ⟨rfl, μ, st, [], d, st', gd, reps_nil, hv2, kk⟩
/-! ### name = [..], the name also used by an inner block -/
theorem sw_cell {elt : Expr} {gs : List Comprehension} {scope : Scope} {pos py : Pos} {y : Str} {l : Nat} {env : Env} (hy : env.scope.names.lookup y = some .cell) : swapsWith (.ListComp elt gs scope pos) (some (.Name y py)) l env = pure false := by
  have ky : env.kindOf y = some .cell := hy
  unfold swapsWith
  simp only [ky]
  have e : ((some NameKind.cell : Option NameKind) == some NameKind.local) = false := rfl
  rw [e, Bool.and_false, Bool.false_and, Bool.false_and]
end
end Iv

namespace Iv
open PySem L2
/-! ### comprehensions of two clauses, of sets, as functions -/
/-- the same loop, with what stands before it in the list -/
theorem compG_loop {J : It} {g : Tg} {c : ST} {e : SE} {σ0 : Sl} {st1 : Sto} {xs : List D} {n : Nat} (pre : List D) (φ : D → Option D) (hn : st1.length ≤ n) (hz : pre.length + xs.length ≤ LIM) (hJ : ∀ s, Ext st1 s → items J s = some xs)
    (h : ∀ (i : Nat) (x : D), xs[i]? = some x → ∀ st, Ext st1 st → ∃ σ1 st2, g x σ0 = some σ1 ∧ c σ1 st = some ((φ x).isSome, st2) ∧ Ext st st2 ∧ ∀ y, φ x = some y → ∃ st3, e σ1 st2 = some (y, st3) ∧ Ext st2 st3) :
    ∀ (m i : Nat) (s : Sto), Ext st1 s → s[n]? = some (.lst (pre ++ (xs.take i).filterMap φ)) → i ≤ xs.length → xs.length - i < m → ∃ s2, compV J g c e n σ0 m i s = some s2 ∧ Ext st1 s2 ∧ s2[n]? = some (.lst (pre ++ xs.filterMap φ))
  | 0, i, s, _, _, _, hm => by omega
  | m + 1, i, s, hs, ha, hi, hm => by
    unfold compV
    simp only [hJ s hs]
    cases ex : xs[i]? with
    | none =>
      have e2 : i = xs.length := by
        have := List.getElem?_eq_none_iff.mp ex
        omega
      subst e2
      rw [List.take_length] at ha
      exact ⟨s, rfl, hs, ha⟩
    | some x =>
      have hlt := (List.getElem?_eq_some_iff.mp ex).1
      obtain ⟨σ1, s2, e1, e2, x2, e3⟩ := h i x ex s hs
      have ht : (xs.take (i + 1)).filterMap φ = (xs.take i).filterMap φ ++ (φ x).toList := by
        rw [List.take_add_one, ex, List.filterMap_append]
        cases hx : φ x <;> simp [hx]
      cases hx : φ x with
      | none =>
        rw [hx] at e2 ht
        simp only [e1, e2, bnd_some, Option.isSome_none, Bool.false_eq_true, if_false]
        exact compG_loop pre φ hn hz hJ h m (i + 1) _ (hs.trans x2) (by rw [ht, Option.toList_none, List.append_nil]; exact x2.at ha) hlt (by omega)
      | some y =>
        obtain ⟨s3, e4, x3⟩ := e3 y hx
        rw [hx] at e2 ht
        have hs3 := (hs.trans x2).trans x3
        have ha3 := x3.at (x2.at ha)
        have ga : getM s3 n = some (pre ++ (xs.take i).filterMap φ) := getM_of ha3
        have hl : (pre ++ (xs.take i).filterMap φ).length < LIM := by
          have h1 := List.length_filterMap_le φ (xs.take i)
          rw [List.length_take] at h1
          rw [List.length_append]
          exact Nat.lt_of_lt_of_le (by omega) hz
        have hn2 : n < s3.length := (List.getElem?_eq_some_iff.mp ha3).1
        simp only [e1, e2, bnd_some, Option.isSome_some, if_true, e4, ga, hl]
        refine compG_loop pre φ hn hz hJ h m (i + 1) _ (hs3.set hn) ?_ hlt (by omega)
        rw [List.getElem?_set_self hn2, ht, Option.toList_some, List.append_assoc]
theorem comp2_loop {J : It} {g : Tg} {i1 : SJ} {g1 : Tg} {c1 : ST} {e : SE} {vs1 : List Nat} {σ0 : Sl} {st1 : Sto} {xs : List D} (ys : D → List D) (φ : D → D → Option D) (hz : ∀ x ∈ xs, (ys x).length ≤ 1000) (hzz : xs.length ≤ 1000) (hJ : ∀ s, Ext st1 s → items J s = some xs)
    (h : ∀ (i : Nat) (x : D), xs[i]? = some x → ∃ σ1, g x σ0 = some σ1 ∧ ∀ st, Ext st1 st → ∃ J1 st2, i1 σ1 st = some (J1, st2) ∧ Ext st st2 ∧ (∀ s, Ext st1 s → items J1 s = some (ys x)) ∧
      ∀ (j : Nat) (y : D), (ys x)[j]? = some y → ∀ st, Ext st1 st → ∃ σ2 st2, g1 y (wipeD σ1 vs1) = some σ2 ∧ c1 σ2 st = some ((φ x y).isSome, st2) ∧ Ext st st2 ∧ ∀ z, φ x y = some z → ∃ st3, e σ2 st2 = some (z, st3) ∧ Ext st2 st3) :
    ∀ (m i : Nat) (s : Sto), Ext st1 s → s[st1.length]? = some (.lst ((xs.take i).flatMap fun x => (ys x).filterMap (φ x))) → i ≤ xs.length → xs.length - i < m →
      ∃ s2, comp2V J g yesT i1 g1 c1 e vs1 st1.length σ0 m i s = some s2 ∧ Ext st1 s2 ∧ s2[st1.length]? = some (.lst (xs.flatMap fun x => (ys x).filterMap (φ x)))
  | 0, i, s, _, _, _, hm => by omega
  | m + 1, i, s, hs, ha, hi, hm => by
    unfold comp2V
    simp only [hJ s hs]
    cases ex : xs[i]? with
    | none =>
      have e2 : i = xs.length := by
        have := List.getElem?_eq_none_iff.mp ex
        omega
      subst e2
      rw [List.take_length] at ha
      exact ⟨s, rfl, hs, ha⟩
    | some x =>
      have hlt := (List.getElem?_eq_some_iff.mp ex).1
      obtain ⟨σ1, e1, h1⟩ := h i x ex
      obtain ⟨J1, s2, e2, x2, hJ1, h2⟩ := h1 s hs
      have len : ((xs.take i).flatMap fun x => (ys x).filterMap (φ x)).length ≤ i * 1000 := by
        have : ∀ (l : List D) (k : Nat), (∀ x ∈ l, (ys x).length ≤ 1000) → l.length ≤ k → (l.flatMap fun x => (ys x).filterMap (φ x)).length ≤ k * 1000 := by
          intro l
          induction l with
          | nil => intro k _ _; simp
          | cons a l ih =>
            intro k ha hk
            rw [List.flatMap_cons, List.length_append]
            have q1 := List.length_filterMap_le (φ a) (ys a)
            have q2 := ha a List.mem_cons_self
            simp only [List.length_cons] at hk
            have q3 := ih (k - 1) (fun x hx => ha x (List.mem_cons_of_mem _ hx)) (by omega)
            omega
        refine this _ i (fun x hx => hz x (List.mem_of_mem_take hx)) (by rw [List.length_take]; omega)
      obtain ⟨s3, e3, x3, a3⟩ := compG_loop (J := J1) (g := g1) (c := c1) (e := e) (σ0 := wipeD σ1 vs1) (st1 := st1) (xs := ys x) (n := st1.length) ((xs.take i).flatMap fun x => (ys x).filterMap (φ x)) (φ x) (Nat.le_refl _)
        (by have := hz x (List.mem_of_getElem? ex); show _ ≤ 1000000; omega) hJ1 (fun j y hy st hst => h2 j y hy st hst) ((ys x).length + 1) 0 s2 (hs.trans x2) (by simpa using x2.at ha) (Nat.zero_le _) (by omega)
      simp only [e1, yesT, bnd_some, if_true, e2, hJ1 s2 (hs.trans x2), e3]
      refine comp2_loop ys φ hz hzz hJ h m (i + 1) s3 x3 ?_ hlt (by omega)
      rw [a3, List.take_add_one, ex, List.flatMap_append]
      simp
theorem comp2_ok {vs vs1 : List Nat} {i i1 : SJ} {g g1 : Tg} {c1 : ST} {e : SE} {σ : Sl} {st st1 : Sto} {J : It} {xs : List D} (ys : D → List D) (φ : D → D → Option D) (hi : i σ st = some (J, st1)) (hz : ∀ x ∈ xs, (ys x).length ≤ 1000) (hzz : xs.length ≤ 1000) (hJ : ∀ s, Ext st1 s → items J s = some xs)
    (h : ∀ (i : Nat) (x : D), xs[i]? = some x → ∃ σ1, g x (wipeD σ vs) = some σ1 ∧ ∀ st, Ext st1 st → ∃ J1 st2, i1 σ1 st = some (J1, st2) ∧ Ext st st2 ∧ (∀ s, Ext st1 s → items J1 s = some (ys x)) ∧
      ∀ (j : Nat) (y : D), (ys x)[j]? = some y → ∀ st, Ext st1 st → ∃ σ2 st2, g1 y (wipeD σ1 vs1) = some σ2 ∧ c1 σ2 st = some ((φ x y).isSome, st2) ∧ Ext st st2 ∧ ∀ z, φ x y = some z → ∃ st3, e σ2 st2 = some (z, st3) ∧ Ext st2 st3) :
    ∃ s2, comp2F vs vs1 i g yesT i1 g1 c1 e σ st = some (.loc st1.length, s2) ∧ Ext st1 s2 ∧ s2[st1.length]? = some (.lst (xs.flatMap fun x => (ys x).filterMap (φ x))) := by
  obtain ⟨s2, e2, x2, g2⟩ := comp2_loop (σ0 := wipeD σ vs) ys φ hz hzz hJ h (xs.length + 1) 0 (st1 ++ [.lst []]) (Ext.app _) (by simp) (Nat.zero_le _) (by omega)
  refine ⟨s2, ?_, x2, g2⟩
  unfold comp2F
  simp only [hi, bnd_some, hJ st1 Ext.refl, e2, Option.map_some]
/-- the members in the order of their coming -/
def setK (l : List Key) : List Key := l.foldl addK []
theorem mem_addK {ks : List Key} {k j : Key} : j ∈ addK ks k ↔ j ∈ ks ∨ j = k := by
  unfold addK
  split
  · rename_i h
    rw [hasK_iff] at h
    constructor
    · exact .inl
    · rintro (z | rfl)
      · exact z
      · exact h
  · simp
theorem nodup_addK {ks : List Key} {k : Key} (h : ks.Nodup) : (addK ks k).Nodup := by
  unfold addK
  split
  · exact h
  · rename_i z
    rw [hasK_iff] at z
    rw [(List.perm_append_singleton k ks).nodup_iff]
    exact List.nodup_cons.mpr ⟨z, h⟩
theorem len_addK {ks : List Key} {k : Key} : (addK ks k).length ≤ ks.length + 1 := by
  unfold addK
  split <;> simp
theorem mem_fold {l : List Key} : ∀ {ks : List Key} {j : Key}, j ∈ l.foldl addK ks ↔ j ∈ ks ∨ j ∈ l := by
  induction l with
  | nil => simp
  | cons k l ih =>
    intro ks j
    rw [List.foldl_cons, ih, mem_addK, List.mem_cons]
    constructor
    · rintro ((z | z) | z)
      · exact .inl z
      · exact .inr (.inl z)
      · exact .inr (.inr z)
    · rintro (z | z | z)
      · exact .inl (.inl z)
      · exact .inl (.inr z)
      · exact .inr z
theorem nodup_fold {l : List Key} : ∀ {ks : List Key}, ks.Nodup → (l.foldl addK ks).Nodup := by
  induction l with
  | nil => exact fun h => h
  | cons k l ih => exact fun h => ih (nodup_addK h)
theorem len_fold {l : List Key} : ∀ {ks : List Key}, (l.foldl addK ks).length ≤ ks.length + l.length := by
  induction l with
  | nil => simp
  | cons k l ih =>
    intro ks
    rw [List.foldl_cons]
    have := @ih (addK ks k)
    have := @len_addK ks k
    simp only [List.length_cons]
    omega
theorem scomp_loop {J : It} {g : Tg} {c : ST} {e : SE} {σ0 : Sl} {st1 : Sto} {xs : List D} {n : Nat} (φ : D → Option Key) (hn : st1.length ≤ n) (hz : xs.length < 4000) (hJ : ∀ s, Ext st1 s → items J s = some xs)
    (h : ∀ (i : Nat) (x : D), xs[i]? = some x → ∀ st, Ext st1 st → ∃ σ1 st2, g x σ0 = some σ1 ∧ c σ1 st = some ((φ x).isSome, st2) ∧ Ext st st2 ∧ ∀ y, φ x = some y → ∃ st3, e σ1 st2 = some (ofKey y, st3) ∧ Ext st2 st3) :
    ∀ (m i : Nat) (s : Sto), Ext st1 s → s[n]? = some (.set ((setK ((xs.take i).filterMap φ)).map ofKey)) → i ≤ xs.length → xs.length - i < m → ∃ s2, scompV J g c e n σ0 m i s = some s2 ∧ Ext st1 s2 ∧ s2[n]? = some (.set ((setK (xs.filterMap φ)).map ofKey))
  | 0, i, s, _, _, _, hm => by omega
  | m + 1, i, s, hs, ha, hi, hm => by
    unfold scompV
    simp only [hJ s hs]
    cases ex : xs[i]? with
    | none =>
      have e2 : i = xs.length := by
        have := List.getElem?_eq_none_iff.mp ex
        omega
      subst e2
      rw [List.take_length] at ha
      exact ⟨s, rfl, hs, ha⟩
    | some x =>
      have hlt := (List.getElem?_eq_some_iff.mp ex).1
      obtain ⟨σ1, s2, e1, e2, x2, e3⟩ := h i x ex s hs
      have ht : (xs.take (i + 1)).filterMap φ = (xs.take i).filterMap φ ++ (φ x).toList := by
        rw [List.take_add_one, ex, List.filterMap_append]
        cases hx : φ x <;> simp [hx]
      cases hx : φ x with
      | none =>
        rw [hx] at e2 ht
        simp only [e1, e2, bnd_some, Option.isSome_none, Bool.false_eq_true, if_false]
        exact scomp_loop φ hn hz hJ h m (i + 1) _ (hs.trans x2) (by rw [ht, Option.toList_none, List.append_nil]; exact x2.at ha) hlt (by omega)
      | some y =>
        obtain ⟨s3, e4, x3⟩ := e3 y hx
        rw [hx] at e2 ht
        have hs3 := (hs.trans x2).trans x3
        have ha3 := x3.at (x2.at ha)
        have ga : getS s3 n = some ((setK ((xs.take i).filterMap φ)).map ofKey) := getS_of ha3
        have hl : (setK ((xs.take i).filterMap φ)).length < 4000 := by
          have h1 := List.length_filterMap_le φ (xs.take i)
          rw [List.length_take] at h1
          have h2 := @len_fold ((xs.take i).filterMap φ) []
          show (List.foldl addK [] _).length < 4000
          simp only [List.length_nil] at h2
          omega
        have hn2 : n < s3.length := (List.getElem?_eq_some_iff.mp ha3).1
        simp only [e1, e2, bnd_some, Option.isSome_some, if_true, e4, ga, addD_of hl]
        refine scomp_loop φ hn hz hJ h m (i + 1) _ (hs3.set hn) ?_ hlt (by omega)
        rw [List.getElem?_set_self hn2, ht, Option.toList_some]
        unfold setK
        rw [List.foldl_append]
        rfl
theorem scomp_ok {vs : List Nat} {i : SJ} {g : Tg} {c : ST} {e : SE} {σ : Sl} {st st1 : Sto} {J : It} {xs : List D} (φ : D → Option Key) (hi : i σ st = some (J, st1)) (hz : xs.length < 4000) (hJ : ∀ s, Ext st1 s → items J s = some xs)
    (h : ∀ (i : Nat) (x : D), xs[i]? = some x → ∀ st, Ext st1 st → ∃ σ1 st2, g x (wipeD σ vs) = some σ1 ∧ c σ1 st = some ((φ x).isSome, st2) ∧ Ext st st2 ∧ ∀ y, φ x = some y → ∃ st3, e σ1 st2 = some (ofKey y, st3) ∧ Ext st2 st3) :
    ∃ s2, scompF vs i g c e σ st = some (.loc st1.length, s2) ∧ Ext st1 s2 ∧ s2[st1.length]? = some (.set ((setK (xs.filterMap φ)).map ofKey)) := by
  obtain ⟨s2, e2, x2, g2⟩ := scomp_loop (n := st1.length) (σ0 := wipeD σ vs) φ (Nat.le_refl _) hz hJ h (xs.length + 1) 0 (st1 ++ [.set []]) (Ext.app _) (by simp [setK]) (Nat.zero_le _) (by omega)
  refine ⟨s2, ?_, x2, g2⟩
  unfold scompF
  simp only [hi, bnd_some, hJ st1 Ext.refl, e2, Option.map_some]
theorem sortedB_lst {n : Nat} {st : Sto} {xs ys : List D} (h : st[n]? = some (.lst xs)) (e : sortD xs = some ys) : sortedB [.loc n] st = some (.loc st.length, st ++ [.lst ys]) := by
  simp only [sortedB, h, e, Option.map_some]
theorem sortedB_set {n : Nat} {st : Sto} {xs ys : List D} (h : st[n]? = some (.set xs)) (hl : xs.length ≤ LIM) (e : sortD xs = some ys) : sortedB [.loc n] st = some (.loc st.length, st ++ [.lst ys]) := by
  simp only [sortedB, h, hl, if_true, e, Option.map_some]
end Iv

namespace Iv
open PySem L2 PySem.Spec
/-! ### t[lo:hi] of a tuple, the object told: texts may stand in it alone -/
section
variable {X : Cx} {K : PySem.W.Frag} {ww : World}
def rSlN (K : PySem.W.Frag) : V → Option Int → Option Int → Hp → VK → Prop := fun x lo hi H Q => ∃ a xs, x = .ref a ∧ SqT K H a xs ∧
  (HT.sIx xs.length 0 lo = 0 ∧ HT.sIx xs.length xs.length hi = xs.length → Q (.ref a) H) ∧ (¬ (HT.sIx xs.length 0 lo = 0 ∧ HT.sIx xs.length xs.length hi = xs.length) → ∀ (p : Addr) (o : Obj), H p = none → o.cls = .type "tuple" → o.dict = none → Q (.ref p) (upd H p (.frz o (.tup (cutV xs lo hi)))))
theorem sl_tupN : SlR X (rSlN X.K) := by
  intro pins s σ H x v vl vu lo hi sl Q I rx hs pl pu h
  obtain ⟨a, xs, rfl, hx, q1, q2⟩ := h
  cases rx
  obtain ⟨its, r, ht, hz⟩ := I.tuple hx
  have hlen : its.toArray.size = xs.length := by rw [List.size_toArray]; exact r.length.symm
  refine ⟨"tuple", _, PyProof.Rows.slot_tuple_getitem.lookup, ht.typeIs, ?_⟩
  by_cases hw : HT.sIx xs.length 0 lo = 0 ∧ HT.sIx xs.length xs.length hi = xs.length
  · exact getItem_tuple_whole ht hs pl pu (by rw [hlen]; exact hw) ⟨.ref a, H, I, rfl, q1 hw⟩
  · refine HT.getItem_tuple_cut ht hs pl pu (by rw [hlen]; exact hw) ?_ (by rw [hlen]; exact hz)
    rw [hlen]
    exact ⟨.ref s.heap.objs.size, _, I.laid (t' := s.toks) (o := .frz _ (.tup (cutV xs lo hi))) (fun b ob q => Heap.get?_push_of_some _ q) (Nat.le_refl _) ⟨Heap.get?_push_size _ rfl, Nat.le_trans (cutV_length xs lo hi) hz, _, (r.drop (HT.sIx xs.length 0 lo)).take (HT.sIx xs.length xs.length hi - HT.sIx xs.length 0 lo), ⟨_, Heap.get?_push_size _ rfl, rfl, _, rfl⟩⟩, rfl, q2 hw _ _ (I.hok.fresh (Nat.le_refl _)) rfl rfl⟩
def cutN : OpS := fun x lo hi st => match x with
  | .tup xs => some (.tup (cutD xs lo hi), st)
  | x => cutO x lo hi st
@[simp] theorem cutN_tup {xs : List D} {lo hi : Option Int} {st : Sto} : cutN (.tup xs) lo hi st = some (.tup (cutD xs lo hi), st) := rfl
theorem ok_cutN : OkS K ww (fun x lo hi H Q => (fun x lo hi H Q => rSlL K x lo hi H Q ∨ rSlA K x lo hi H Q ∨ rSlS x lo hi H Q) x lo hi H Q ∨ rSlN K x lo hi H Q) cutN := by
  intro H μ st x vx lo hi d st' Q g rx hv k
  cases x with
  | tup xs =>
    simp only [cutN_tup] at hv
    cases hv
    have rx' := rx
    simp only [Rep] at rx
    obtain ⟨p, ws, rfl, ⟨s, _⟩, rs⟩ := rx
    refine .inr ⟨p, ws, rfl, s, fun ⟨e1, e2⟩ => ?_, fun _ => new_tup g (cut_reps rs lo hi) k⟩
    have e : cutD xs lo hi = xs := by
      unfold cutD
      rw [rs.len, e1, e2, List.drop_zero, Nat.sub_zero, ← rs.len, List.take_length]
    rw [e] at k
    exact here k g rx'
  | _ => exact .inl (ok_cut _ _ _ _ _ _ _ _ _ _ g rx hv k)
theorem e_sliceN {e : Expr} {lo hi : Option Expr} {p2 pos : Pos} {f : SE} {l h : SO} (he : PE X e (rdE X.K X.w f)) (hl : PO X lo (rdO X.K X.w l)) (hh : PO X hi (rdO X.K X.w h)) :
    PE X (.Subscript e (.Slice lo hi none p2) pos) (rdE X.K X.w (slF cutN f l h)) := se_slice (SlR.or (SlR.or sl_list (SlR.or sl_tupA sl_str)) sl_tupN) ok_cutN he hl hh
end
end Iv

/-! enumerate of a tuple -/
namespace PySem
open Sem (wp)
theorem meets_enum_tup (l : Addr) (items : Array Value) :
    Meets (Builtin.«enumerate.__new__» ⟨[.type "enumerate", .ref l], []⟩) (fun _ R s => s.heap.IsTuple l items ∧
      R (.ok (.ret (.ref (s.heap.push { cls := .type "tuple_iterator", data := .fields #[.ref l, .int 0 0] }).objs.size)))
        { s with heap := (s.heap.push { cls := .type "tuple_iterator", data := .fields #[.ref l, .int 0 0] }).push { cls := .type "enumerate", data := .fields #[.none, .bool false, .ref s.heap.objs.size, rawInt 0, .none, .none] } }) :=
  .of_wp fun prog w A R s h => by
    obtain ⟨hp, g, d, tk, os⟩ := s; obtain ⟨hl, h⟩ := h
    have hsub := sub_enumerate
    have q1 : ∀ {A' : Around} {E : Value → Shared → Prop} {Q : Value → Shared → Prop}, Q (.ref hp.objs.size) ⟨hp.push { cls := .type "tuple_iterator", data := .fields #[.ref l, .int 0 0] }, g, d, tk, os⟩ → wpAny (model prog w) A' (pyIter (.ref l)) Q E ⟨hp, g, d, tk, os⟩ :=
      fun q => wpAny_pyIter_tuple (s := ⟨hp, g, d, tk, os⟩) hl q
    wp_walk using q1
    refine wpAny_stack_any fun st => wpAny_pure ?_
    split
    · rename_i c _ _ _ _ _
      cases (c == Value.type "enumerate")
      · wp_walk using q1
        exact ⟨_, rfl, h⟩
      · wp_walk using q1
        exact ⟨_, rfl, h⟩
    · wp_walk using q1
      exact ⟨_, rfl, h⟩
section
variable {prog : Program} {w : World} {A : Around} {E : Value → Shared → Prop} {s : Shared}
theorem call_enum_tup {l : Addr} {items : Array Value} {Q : Value → Shared → Prop} (hL : s.heap.IsTuple l items)
    (h : ∀ h', IsEnum h' (s.heap.objs.size + 1) s.heap.objs.size 0 .none → h'.IsTupleIter s.heap.objs.size l 0 → h'.objs.size = s.heap.objs.size + 2 →
      (∀ b o, s.heap.get? b = some o → h'.get? b = some o) → Q (.ref (s.heap.objs.size + 1)) { s with heap := h' }) :
    wpAny (model prog w) A (call (.type "enumerate") [.ref l]) Q E s := by
  refine callType_new F.called_enumerate (by decide) (F.typeCall_enumerate_1 _) (F.newCall_enumerate_1 _) (fun obj => F.args_object_init_2 obj _) F.entry_enumerate_new
    (meets_enum_tup l items) ⟨hL, ?_⟩
  have hz : (s.heap.push { cls := .type "tuple_iterator", data := .fields #[.ref l, .int 0 0] }).objs.size = s.heap.objs.size + 1 := Heap.size_push ..
  show _ ∧ _
  rw [hz]
  have he : IsEnum ((s.heap.push { cls := .type "tuple_iterator", data := .fields #[.ref l, .int 0 0] }).push
      { cls := .type "enumerate", data := .fields #[.none, .bool false, .ref s.heap.objs.size, rawInt 0, .none, .none] }) (s.heap.objs.size + 1) s.heap.objs.size 0 .none := by
    have := Heap.get?_push_size (s.heap.push { cls := .type "tuple_iterator", data := .fields #[.ref l, .int 0 0] })
      (o := { cls := .type "enumerate", data := .fields #[.none, .bool false, .ref s.heap.objs.size, rawInt 0, .none, .none] }) rfl
    rw [hz] at this; exact this
  refine ⟨⟨_, he, rfl⟩, h _ he ⟨_, Heap.get?_push_of_some _ (Heap.get?_push_size _ rfl), rfl, rfl⟩ (by rw [Heap.size_push, hz]) fun b o x => Heap.get?_push_of_some _ (Heap.get?_push_of_some _ x)⟩
end
/-- a tuple iterator that is done -/
theorem draws_end {prog : Program} {w : World} {A : Around} (hh : A.handled = none) (it t : Addr) (items : Array Value) (i : Nat) (hx : items[i]? = none) :
    Draws prog w A it [it, t] 0 (fun _ _ => False) (fun _ h => h.IsTupleIter it t i ∧ h.IsTuple t items) where
  live := fun _ _ st => let ⟨o, ho, _⟩ := st.1; ⟨o, ho⟩
  frame := fun _ _ _ st hk => ⟨st.1.at fun o e => hk it (by simp) o e, st.2.at fun o e => hk t (by simp) o e⟩
  item := fun i s Q E hi st hQ => absurd hi (Nat.not_lt_zero _)
  done := fun s Q E st hE => wpAny_nextOf_tuple_end hh st.1 st.2 hx hE
end PySem
namespace L2
open PySem PySem.Spec PyProof.Rows
/-- the tuple at a, each item in a new pair -/
def IteT (K : PySem.W.Frag) (a : Addr) : It :=
  ⟨fun i H => ∃ (xs : List V) (x : V), SqT K H a xs ∧ xs[i]? = some x, fun i H v H' => ∃ T x, v = .ref T ∧ H T = none ∧ H' = upd H T (.tup [.int (i : Nat), x]) ∧ ∀ xs, SqT K H a xs → xs[i]? = some x, fun i H => ∃ xs : List V, SqT K H a xs ∧ xs.length ≤ i⟩
theorem turn_enumT {P : Program} {w : World} {K : PySem.W.Frag} {elts : List Expr} {kk : Nat} {tpos : Pos} (a e it : Addr) :
    Turn P w K (.Tuple elts kk tpos) (IteT K a) [e, it] e (fun i h => (∃ old, IsEnum h e it ((i : Nat) : Int) old) ∧ h.IsTupleIter it a i ∧ e ≠ it ∧ a ≠ it ∧ e ≠ a) where
  mem := by simp
  obj := fun i h st b hb => by
    obtain ⟨⟨old, he⟩, ⟨o, ho, hc, hd⟩, _⟩ := st
    have e' : b = e ∨ b = it := by simpa using hb
    rcases e' with z | z
    · rw [z]; exact ⟨_, he, fun v q => nomatch q⟩
    · rw [z]; exact ⟨o, ho, fun v q => by rw [hd] at q; cases q⟩
  keep := fun i h h' st k => let ⟨⟨old, he⟩, hi, hne⟩ := st; ⟨⟨old, k e (by simp) _ he⟩, hi.at fun o q => k it (by simp) o q, hne⟩
  item := by
    intro X hP hw hK hc i pins s σ H E I hf st hg
    subst hP hw hK
    obtain ⟨⟨old, he⟩, hit, hne, hai, hea⟩ := st
    obtain ⟨xs, x, hq, hx⟩ := hg
    obtain ⟨its, rv, p, hz⟩ := I.tuple hq
    obtain ⟨u, hu, ru⟩ := rv.get hx
    have hel : e < s.heap.objs.size := Heap.lt_size he
    have hil : it < s.heap.objs.size := by obtain ⟨_, q, _⟩ := hit; exact Heap.lt_size q
    have D := Draws.tuple (prog := X.prog) (w := X.w) (A := X.A.in1) (I.ok.hd hc) it a hai its.toArray
    have hlt : i < its.toArray.size := by
      rw [List.size_toArray]
      exact (List.getElem?_eq_some_iff.mp hu).1
    refine wpAny_pyNext_enum_itemD D he ⟨hit, show s.heap.IsTuple a its.toArray from p⟩ hlt hne (by simp [hne, hea]) fun y h' tk hy ho hit' hT hsz hk => ?_
    have hyu : y = u := by
      have h1 : its[i]? = some y := by simpa using hy
      rw [hu] at h1
      exact (Option.some.inj h1).symm
    subst hyu
    refine ⟨_, rfl, wpAny_letOwnedTupleGo_enum (s := { s with heap := h', toks := tk + 1 }) ho fun h'' he' sb => ?_⟩
    have hT2 : h''.get? s.heap.objs.size = some { cls := .type "tuple", data := .seq #[.int i tk, y] } := (sb.2 _ (Nat.ne_of_gt hel)).trans hT
    have new : ObjOk X.prog X.w (upd H s.heap.objs.size (.tup [.int (i : Nat), x])) h'' s.heap.objs.size (.tup [.int (i : Nat), x]) :=
      ⟨by show 2 ≤ sizeLine; decide, [.int i tk, y], .cons ⟨_, rfl⟩ (.cons ru .nil), ⟨_, hT2, rfl, _, rfl⟩⟩
    have I1 : Inv X pins σ (upd H s.heap.objs.size (.tup [.int (i : Nat), x])) { s with heap := h'', toks := tk + 1 } :=
      I.turnedNew (ch := [e, it]) (fun b ob hb q => (sb.2 b (fun z => hb (by simp [z]))).trans (hk b ob (fun z => hb (by simp [z])) (fun z => hb (by simp [z])) q)) hf (Nat.le_refl _) new
    refine ⟨.ref s.heap.objs.size, _, I1, rfl, ⟨_, x, rfl, I.hok.fresh (Nat.le_refl _), rfl, fun ys hy => by rw [I.tuple_inj hy hq]; exact hx⟩, ⟨⟨y, ?_⟩, hit'.1.at fun o q => (sb.2 it (Ne.symm hne)).trans q, hne, hai, hea⟩, fun b hb => ?_⟩
    · have e1 : ((i + 1 : Nat) : Int) = (i : Int) + 1 := by omega
      rw [e1]; exact he'
    · have hb' : b < s.heap.objs.size := by
        have e' : b = e ∨ b = it := by simpa using hb
        rcases e' with z | z
        · rw [z]; exact hel
        · rw [z]; exact hil
      rw [upd_ne (Nat.ne_of_lt hb')]
      exact (hf b hb).1
  done := by
    intro X hP hw hK hc i pins s σ H E I hf st hg
    subst hP hw hK
    obtain ⟨⟨old, he⟩, hit, hne, hai, hea⟩ := st
    obtain ⟨xs, hq, hx⟩ := hg
    obtain ⟨its, rv, p, hz⟩ := I.tuple hq
    obtain ⟨f0, f1, f2, f3, f4, f5⟩ := hf it (by simp)
    have hl := rv.length
    exact wpAny_pyNext_enum_endD (draws_end (prog := X.prog) (w := X.w) (A := X.A.in1) (I.ok.hd hc) it a its.toArray i (by simp; omega)) he ⟨hit, show s.heap.IsTuple a its.toArray from p⟩ fun h' eb => ⟨rfl, I.turned (t' := s.toks) (fun b o hb q => eb b o hb q) f0 f1 f3 f4 f5⟩
  self := fun A i s Q E st h => let ⟨⟨_, he⟩, _⟩ := st; wpAny_pyIter_enum he h
def iEnumU (K : PySem.W.Frag) (ta : TA) : TI := fun σ H R => ta σ H fun vs H1 => ∃ a xs, vs = [.ref a] ∧ ((SqL K H1 a xs ∧ R (Ite K a) H1) ∨ (SqT K H1 a xs ∧ R (IteT K a) H1))
theorem pi_enumU {X : Cx} {e : Expr} {ta : TA} {p pos tpos : Pos} {elts : List Expr} {kk : Nat} (hg : Gl X "enumerate") (hm : X.mg "enumerate" = none) (ha : PA X [e] ta) (hs : starEach [e] X.env = [(false, eval e X.env)] := by rfl) :
    PI X (.Tuple elts kk tpos) (.Call (.Name "enumerate" p) [e] [] pos) (iEnumU X.K ta) := by
  refine ⟨fun pins s σ H R I h => ?_⟩
  refine PyProof.Rows.Call_ (ld_blt I hg hm boot_enumerate (PyProof.Rows.callWith_type1 (thn (ha.run pos pins s σ H _ I h) fun us s1 ⟨vs, H1, I1, r1, q1⟩ => ?_) hs rfl))
  obtain ⟨a, xs, ex, q⟩ := q1
  subst ex
  cases r1 with
  | cons r rr =>
    cases rr
    cases r
    have fpb : ∀ b, b = s1.heap.objs.size + 1 ∨ b = s1.heap.objs.size → FpOk X pins H1 b := fun b e' => by
      have hle : s1.heap.objs.size ≤ b := by
        rcases e' with z | z
        · rw [z]; exact Nat.le_add_right _ _
        · rw [z]; exact Nat.le_refl _
      exact I1.fpOk hle (I1.hok.fresh hle)
    rcases q with ⟨hq, q⟩ | ⟨hq, q⟩
    · obtain ⟨its, rv, p', hz⟩ := I1.list hq
      refine call_enumerate_list p'.isList fun h' he hit hsz hk => wpAny_pyIter_enum he ?_
      have I2 : Inv X pins σ H1 { s1 with heap := h' } := I1.kept (t' := s1.toks) hk
      refine ⟨s1.heap.objs.size + 1, [s1.heap.objs.size + 1, s1.heap.objs.size], _, _, H1, rfl, I2, turn_enum a (s1.heap.objs.size + 1) s1.heap.objs.size, ⟨⟨.none, he⟩, hit, Nat.succ_ne_self _⟩, fun b hb => fpb b (by simpa using hb), q⟩
    · obtain ⟨its, rv, p', hz⟩ := I1.tuple hq
      have hal : a < s1.heap.objs.size := by
        have p2 : s1.heap.IsTuple a its.toArray := p'
        obtain ⟨o, ho, _⟩ := p2
        exact Heap.lt_size ho
      refine call_enum_tup (show s1.heap.IsTuple a its.toArray from p') fun h' he hit hsz hk => wpAny_pyIter_enum he ?_
      have I2 : Inv X pins σ H1 { s1 with heap := h' } := I1.kept (t' := s1.toks) hk
      refine ⟨s1.heap.objs.size + 1, [s1.heap.objs.size + 1, s1.heap.objs.size], _, _, H1, rfl, I2, turn_enumT a (s1.heap.objs.size + 1) s1.heap.objs.size, ⟨⟨.none, he⟩, hit, Nat.succ_ne_self _, Nat.ne_of_lt hal, Nat.ne_of_gt (Nat.lt_succ_of_lt hal)⟩, fun b hb => fpb b (by simpa using hb), q⟩
end L2
namespace Iv
open PySem L2 PySem.Spec
section
variable {X : Cx} {K : PySem.W.Frag} {ww : World}
def enmU (f : SA) : SJ := fun σ st => bnd (f σ st) fun ds s1 => match ds with
  | [.loc n] => (getL s1 n).map fun _ => (.enm n, s1)
  | [.tup xs] => some (.cns (enumD 0 xs), s1)
  | _ => none
@[simp] theorem enmU_eq {f : SA} {σ : Sl} {st : Sto} : enmU f σ st = bnd (f σ st) fun ds s1 => match ds with
  | [.loc n] => (getL s1 n).map fun _ => (.enm n, s1)
  | [.tup xs] => some (.cns (enumD 0 xs), s1)
  | _ => none := rfl
theorem si_enumU {e : Expr} {f : SA} {p pos tpos : Pos} {elts : List Expr} {kk : Nat} (hg : Gl X "enumerate") (hm : X.mg "enumerate" = none) (ha : PA X [e] (rdA X.K X.w f)) (hs : starEach [e] X.env = [(false, eval e X.env)] := by rfl) :
    PI X (.Tuple elts kk tpos) (.Call (.Name "enumerate" p) [e] [] pos) (rdI X.K X.w (enmU f)) := ⟨fun pins s τ H R I hw => by
  obtain ⟨μ, st, σ, J, st', gd, er, hv, k⟩ := hw
  obtain ⟨ds, s1, h1, hv⟩ := bnd_eq hv
  split at hv
  · rename_i n
    refine (si_enum hg hm ha hs).run pins s τ H R I ⟨μ, st, σ, J, st', gd, er, ?_, k⟩
    show bnd (f σ st) _ = _
    rw [h1]
    exact hv
  · rename_i xs
    cases hv
    refine (pi_enumU hg hm ha hs).run pins s τ H R I ⟨μ, st, σ, _, _, gd, er, h1, fun μ1 H1 vs g1 d1 r1 => ?_⟩
    obtain ⟨v, rfl, rv⟩ := reps1 r1
    simp only [Rep] at rv
    obtain ⟨p, us, rfl, ⟨su, _⟩, ru⟩ := rv
    refine ⟨p, us, rfl, .inr ⟨su, k μ1 H1 _ g1 d1 fun μ2 H2 st2 zs g2 d2 e2 => ?_⟩⟩
    cases e2
    have su2 := g2.1.sqT su
    have ru2 := ru.m g2
    refine ⟨fun i hi => ⟨us, su2, by rw [← ru2.len, ← enumD_len xs 0]; exact hi⟩, fun i d hd => ?_⟩
    rw [enumD_get] at hd
    cases e4 : xs[i]? with
    | none => rw [e4] at hd; cases hd
    | some z =>
      rw [e4] at hd
      cases hd
      obtain ⟨v, hv1, rv⟩ := ru2.get e4
      refine ⟨⟨us, v, su2, hv1⟩, fun x H3 ⟨T, y, e5, e6, e7, e8⟩ => ?_⟩
      subst e5 e7
      have e9 := e8 us su2
      rw [hv1] at e9
      cases e9
      have gt : Gr H2 μ2 (upd H2 T (.tup [.int (i : Nat), v])) μ2 := gr_tup e6
      refine ⟨same_upd e6, rep_tup (.inl (.inl upd_same)) (fun z => by cases z) (reps_cons ?_ (reps_cons (rv.m gt) reps_nil))⟩
      simp only [Rep, Nat.zero_add]
  · cases hv⟩
end
end Iv

namespace Iv
open PySem L2
/-! ### l.index(x), l a list of texts -/
section
variable {X : Cx} {K : PySem.W.Frag} {ww : World}
def lidxO : OpM := fun x ys st => match x, ys with
  | .loc n, [.str z] => match getL st n with
    | none => none
    | some xs => (strsD xs).bind fun zs => (idxS zs z).map fun j => (.int (j : Nat), st)
  | _, _ => none
@[simp] theorem lidxO_eq {n : Nat} {z : Str} {st : Sto} : lidxO (.loc n) [.str z] st = (match getL st n with
    | none => none
    | some xs => (strsD xs).bind fun zs => (idxS zs z).map fun j => (.int (j : Nat), st)) := rfl
theorem ok_lidx : OkM K ww (fun x xs H Q => rIndex K x xs H Q) lidxO := by
  intro H μ st x xs vx vs d st' Q g rx r hv k
  unfold lidxO at hv
  split at hv
  · rename_i n z
    simp only [Rep] at rx
    obtain ⟨p, rfl, hp⟩ := rx
    obtain ⟨v, rfl, rv⟩ := reps1 r
    simp only [Rep] at rv
    cases e : getL st n with
    | none => rw [e] at hv; cases hv
    | some xs =>
      rw [e] at hv
      obtain ⟨ws, s, rs⟩ := g.getL hp e
      cases e2 : strsD xs with
      | none => simp only [e2] at hv; cases hv
      | some zs =>
        simp only [e2, Option.bind_some] at hv
        cases e3 : idxS zs z with
        | none => rw [e3] at hv; cases hv
        | some j =>
          rw [e3] at hv
          cases hv
          obtain ⟨q1, q2⟩ := idxS_ok e3
          have ew := strs_of rs e2
          subst ew
          refine ⟨p, zs.map V.str, .str z, j, .str z, rfl, by rw [rv], s, rfl, by simp [flatV], by rw [List.getElem?_map, q1]; rfl, by simp [eqV], fun m z' hm hz' => ?_, here k g (by simp only [Rep])⟩
          rw [List.getElem?_map] at hz'
          cases e4 : zs[m]? with
          | none => rw [e4] at hz'; cases hz'
          | some y =>
            rw [e4] at hz'
            cases hz'
            have : y ≠ z := fun h => q2 m hm (by rw [e4, h])
            simp [eqV, this]
  · cases hv
theorem e_lidx {o e : Expr} {apos cpos : Pos} {f : SE} {g : SA} (ho : PE X o (rdE X.K X.w f)) (ha : PA X [e] (rdA X.K X.w g))
    (hbase : attributeBase o "index" X.env (eval o X.env) = eval o X.env := by rfl)
    (hfew : ((backTo cpos (starEach [e] X.env)).all (fun x => !x.1) && (backToKw cpos (keywordEach [] X.env)).all (fun x => x.1.isSome)
      && decide ([e].length + ([] : List Keyword).length + (if ([] : List Keyword).isEmpty then 0 else 1) < 30)) = true := by rfl)
    (hline : (apos.endLine == cpos.line) = true := by rfl) (hs : starEach [e] X.env = (false, eval e X.env) :: starEach [] X.env := by rfl) :
    PE X (.Call (.Attribute o "index" apos) [e] [] cpos) (rdE X.K X.w (bmF "list" lidxO f g)) :=
  se_bm PySem.F.plainAttrs_list PySem.F.slot_list_index PySem.F.type_list_index mt_index ok_lidx ho ha hbase hfew hline hs rfl
end
end Iv

namespace Iv
open PySem PySem.Spec PyProof.Rows L2
/-! ### x in a tuple of data of any depth -/
section
variable {X : Cx} {K : PySem.W.Frag} {ww : World}
def inTO : Op2 := fun x y st => match py st 60 x, py st 60 y with
  | some p, some (.tuple qs) => if SeqAt.shaped p = true ∧ SeqAt.shaped (.tuple qs) = true then some (.bl (qs.any fun z => PyData.eqv z p), st) else none
  | _, _ => none
def rInT (K : PySem.W.Frag) : R2 := fun x y H Q => ∃ d ds, Dp K H x d ∧ Dp K H y (.tuple ds) ∧ SeqAt.shaped d = true ∧ SeqAt.shaped (.tuple ds) = true ∧ Q (.bl (ds.any fun z => PyData.eqv z d)) H
theorem op_inT (hu : X.A.units + 65 < cLine) : OpR X (compareOp .In) (rInT X.K) := by
  intro pins s σ H x y v u Q I rx ry h
  obtain ⟨d, ds, hd, he, sd, se, q⟩ := h
  obtain ⟨as, r1⟩ := Dp.reads I d x v hd rx
  obtain ⟨bs, r2⟩ := Dp.reads I (.tuple ds) y u he ry
  exact SeqAt.in_tuple_reads r2 r1 (SeqAt.canLay_of_shaped se) (SeqAt.canLay_of_shaped sd) (room_in_shaped sd hu) ⟨.bl _, H, I, rfl, q⟩
theorem ok_inT : Ok2 K ww (rInT K) inTO := by
  intro H μ st x y vx vy d st' Q g rx ry hv k
  unfold inTO at hv
  split at hv
  · rename_i p qs e2 e3
    split at hv
    · rename_i hs
      cases hv
      exact ⟨p, qs, py_dp g _ _ _ _ e2 rx, py_dp g _ _ _ _ e3 ry, hs.1, hs.2, here k g (by simp only [Rep])⟩
    · cases hv
  · cases hv
theorem cm_inT (hu : X.A.units + 65 < cLine) : Cmp X .In inTO := ⟨⟨_, op_inT hu, ok_inT⟩, fun x y st d st' h => by
  unfold inTO at h
  repeat' split at h
  all_goals first | (cases h; exact ⟨_, rfl⟩) | cases h⟩
end
end Iv

/-! Iv: exceptions: what a def that raises means, raise, try. -/
namespace Iv
open PySem L2 PySem.Spec
inductive RX where
  | ok (r : R) | exc (σ : Sl) (c : Str) (ds : List D)
inductive DX where
  | ok (d : D) | exc (c : Str) (ds : List D)
abbrev SX := Sl → Sto → Option (RX × Sto)
abbrev SEX := Sl → Sto → Option (DX × Sto)
abbrev SAX := Sl → Sto → Option ((List D ⊕ (Str × List D)) × Sto)
abbrev Fy := List D → Sto → Option (DX × Sto)
/-- the fields of the program's errors -/
def flds (c : Str) : List Str := if c = "ProgramFault" then ["line", "word"] else if c = "NotEnabled" then ["at"] else if c = "TooMany" then ["limit"] else if c = "NoSuchPlace" then ["word"] else []
/-- an error's dict holds what it was made with -/
def XfR (K : PySem.W.Frag) (H : Hp) (μ : List Addr) (c : Str) (ds : List D) (fs : List (Str × V)) : Prop := ∀ (j : Nat) (f : Str) (d : D), (flds c)[j]? = some f → ds[j]? = some d → ∃ v, fs.lookup f = some v ∧ Rep K H μ d v
theorem XfR.m {K : PySem.W.Frag} {H H' : Hp} {μ μ' : List Addr} {c : Str} {ds : List D} {fs : List (Str × V)} (h : XfR K H μ c ds fs) (g : Gr H μ H' μ') : XfR K H' μ' c ds fs := fun j f d h1 h2 => let ⟨v, e, r⟩ := h j f d h1 h2; ⟨v, e, r.m g⟩
/-- an error flies: what is wanted of it -/
def ThrX (K : PySem.W.Frag) (ww : World) (mg : Str → Option Value) (H : Hp) (μ : List Addr) (st' : Sto) (c : Str) (ds : List D) (E : Value → Option Addr → List Addr → Hp → Prop) : Prop :=
  ∀ μ' H' C dd fs, Gr H μ H' μ' → Gd K ww H' μ' st' → mg c = some (.ref C) → H' dd = some (.xd fs) → XfR K H' μ' c ds fs → E (.ref C) (some dd) μ' H'
theorem ThrX.m {K : PySem.W.Frag} {ww : World} {mg : Str → Option Value} {H H1 : Hp} {μ μ1 : List Addr} {st' : Sto} {c : Str} {ds : List D} {E : Value → Option Addr → List Addr → Hp → Prop} (h : ThrX K ww mg H μ st' c ds E) (g : Gr H μ H1 μ1) : ThrX K ww mg H1 μ1 st' c ds E :=
  fun μ' H' C dd fs g2 gd a b c => h μ' H' C dd fs (g.trans g2) gd a b c
theorem ThrX.imp {K : PySem.W.Frag} {ww : World} {mg : Str → Option Value} {H : Hp} {μ : List Addr} {st' : Sto} {c : Str} {ds : List D} {E E' : Value → Option Addr → List Addr → Hp → Prop} (h : ThrX K ww mg H μ st' c ds E) (k : ∀ C d μ' H', Gr H μ H' μ' → E C d μ' H' → E' C d μ' H') : ThrX K ww mg H μ st' c ds E' :=
  fun μ' H' C dd fs g2 gd a b c => k _ _ _ _ g2 (h μ' H' C dd fs g2 gd a b c)
def FinX (K : PySem.W.Frag) (ww : World) (mg : Str → Option Value) (H : Hp) (μ : List Addr) (st' : Sto) (Dn : Ends) (W : WX) : RX → Prop
  | .ok r => Fin K ww H μ st' Dn r
  | .exc σ c ds => ThrX K ww mg H μ st' c ds fun C d μ' H' => ∀ τ', EnvR K H' μ' σ τ' → W C d τ' H'
theorem FinX.m {K : PySem.W.Frag} {ww : World} {mg : Str → Option Value} {H H' : Hp} {μ μ' : List Addr} {st' : Sto} {Dn : Ends} {W : WX} : ∀ {r : RX}, FinX K ww mg H μ st' Dn W r → Gr H μ H' μ' → FinX K ww mg H' μ' st' Dn W r
  | .ok _, h, g => Fin.m h g
  | .exc σ c ds, h, g => ThrX.m (E := fun C d μ' H' => ∀ τ', EnvR K H' μ' σ τ' → W C d τ' H') h g
def rdX (K : PySem.W.Frag) (ww : World) (mg : Str → Option Value) (W : WX) (f : SX) : TS := fun Dn τ H => ∃ μ st σ r st', Gd K ww H μ st ∧ EnvR K H μ σ τ ∧ f σ st = some (r, st') ∧ FinX K ww mg H μ st' Dn W r
def FinE (K : PySem.W.Frag) (ww : World) (mg : Str → Option Value) (H : Hp) (μ : List Addr) (st' : Sto) (Q : VK) (W : Value → Option Addr → Hp → Prop) : DX → Prop
  | .ok d => ∀ μ' H' v, Gr H μ H' μ' → Gd K ww H' μ' st' → Rep K H' μ' d v → Q v H'
  | .exc c ds => ThrX K ww mg H μ st' c ds fun C d _ H' => W C d H'
def rdEX (K : PySem.W.Frag) (ww : World) (mg : Str → Option Value) (W : WX) (f : SEX) : TE := fun τ H Q => ∃ μ st σ r st', Gd K ww H μ st ∧ EnvR K H μ σ τ ∧ f σ st = some (r, st') ∧ FinE K ww mg H μ st' Q (fun C d H' => W C d τ H') r
def FinA (K : PySem.W.Frag) (ww : World) (mg : Str → Option Value) (H : Hp) (μ : List Addr) (st' : Sto) (Q : List V → Hp → Prop) (W : Value → Option Addr → Hp → Prop) : List D ⊕ (Str × List D) → Prop
  | .inl ds => ∀ μ' H' vs, Gr H μ H' μ' → Gd K ww H' μ' st' → Reps K H' μ' ds vs → Q vs H'
  | .inr p => ThrX K ww mg H μ st' p.1 p.2 fun C d _ H' => W C d H'
def rdAX (K : PySem.W.Frag) (ww : World) (mg : Str → Option Value) (W : WX) (f : SAX) : TA := fun τ H Q => ∃ μ st σ r st', Gd K ww H μ st ∧ EnvR K H μ σ τ ∧ f σ st = some (r, st') ∧ FinA K ww mg H μ st' Q (fun C d H' => W C d τ H') r
section
variable {X : Cx} {K : PySem.W.Frag} {ww : World} {mg : Str → Option Value} {W : WX}
/-! ### what raises nothing -/
def liftX (f : SS) : SX := fun σ st => (f σ st).map fun p => (.ok p.1, p.2)
theorem rd_lift {f : SS} : ∀ Dn τ H, rdX K ww mg W (liftX f) Dn τ H → rdS K ww f Dn τ H := fun Dn τ H ⟨μ, st, σ, r, st', gd, er, hv, k⟩ => by
  unfold liftX at hv
  cases e : f σ st with
  | none => rw [e] at hv; cases hv
  | some p =>
    rw [e] at hv
    cases hv
    exact ⟨μ, st, σ, p.1, p.2, gd, er, e, k⟩
theorem sx_lift {s : Stmt} {f : SS} (h : PS X s (rdS K ww f)) : PS X s (rdX K ww mg W (liftX f)) := h.weak rd_lift
theorem sxs_lift {s : List Stmt} {f : SS} (h : PSs X s (rdS K ww f)) : PSs X s (rdX K ww mg W (liftX f)) := h.weak rd_lift
/-- .. in a context that knows of no error -/
theorem sxs_nox {s : List Stmt} {f : SS} (h : PSs X.nox s (rdS K ww f)) : PSs X s (rdX K ww mg W (liftX f)) := sxs_lift h.nox
def liftE (f : SE) : SEX := fun σ st => (f σ st).map fun p => (.ok p.1, p.2)
theorem ex_lift {e : Expr} {f : SE} (h : PE X e (rdE K ww f)) : PE X e (rdEX K ww mg W (liftE f)) := h.weak fun τ H Q ⟨μ, st, σ, r, st', gd, er, hv, k⟩ => by
  unfold liftE at hv
  cases e : f σ st with
  | none => rw [e] at hv; cases hv
  | some p =>
    rw [e] at hv
    cases hv
    exact ⟨μ, st, σ, p.1, p.2, gd, er, e, k⟩
/-! ### blocks -/
def seqX (f g : SX) : SX := fun σ st => match f σ st with
  | some (.ok (.nx σ'), st1) => g σ' st1
  | r => r
theorem sx_nil : PSs X [] (rdX K ww mg W (liftX nxS)) := sxs_lift ss_nil
theorem sx_one {s : Stmt} {f : SX} (h : PS X s (rdX K ww mg W f)) : PSs X [s] (rdX K ww mg W f) := pss_one h
theorem sx_cons {s : Stmt} {rest : List Stmt} {f g : SX} (h : PS X s (rdX K ww mg W f)) (h2 : PSs X rest (rdX K ww mg W g)) : PSs X (s :: rest) (rdX K ww mg W (seqX f g)) := (pss_cons h h2).weak fun Dn τ H ⟨μ, st, σ, r, st', gd, er, hv, k⟩ => by
  unfold seqX at hv
  cases e : f σ st with
  | none => rw [e] at hv; cases hv
  | some p =>
    obtain ⟨r1, s1⟩ := p
    rw [e] at hv
    cases r1 with
    | exc σ1 c ds =>
      cases hv
      exact ⟨μ, st, σ, _, _, gd, er, e, k⟩
    | ok r1 =>
      cases r1 with
      | nx σ1 =>
        refine ⟨μ, st, σ, _, s1, gd, er, e, fun μ1 H1 g1 d1 τ1 e1 => ?_⟩
        exact ⟨μ1, s1, σ1, r, st', d1, e1, hv, k.m g1⟩
      | brk σ1 =>
        cases hv
        exact ⟨μ, st, σ, _, _, gd, er, e, k⟩
      | cnt σ1 =>
        cases hv
        exact ⟨μ, st, σ, _, _, gd, er, e, k⟩
      | ret d =>
        cases hv
        exact ⟨μ, st, σ, _, _, gd, er, e, k⟩
def ifX (c : ST) (f g : SX) : SX := fun σ st => bnd (c σ st) fun b st1 => if b = true then f σ st1 else g σ st1
theorem sx_if {c : Expr} {a b : List Stmt} {t : ST} {f g : SX} {pos : Pos} (hc : PT X c (rdT K ww t)) (ha : PSs X a (rdX K ww mg W f)) (hb : PSs X b (rdX K ww mg W g)) : PS X (.If c a b pos) (rdX K ww mg W (ifX t f g)) := (ps_if hc ha hb).weak fun Dn τ H ⟨μ, st, σ, r, st', gd, er, hv, k⟩ => by
  obtain ⟨y, s1, h1, hv⟩ := bnd_eq hv
  refine ⟨μ, st, σ, y, s1, gd, er, h1, fun μ1 H1 g1 d1 => ?_⟩
  cases y with
  | true => exact ⟨μ1, s1, σ, r, st', d1, er.m g1, hv, k.m g1⟩
  | false => exact ⟨μ1, s1, σ, r, st', d1, er.m g1, hv, k.m g1⟩
/-! ### loops -/
def whlXV (c : ST) (b : SX) : Nat → Sl → Sto → Option (RX × Sto)
  | 0, _, _ => none
  | m + 1, σ, st => bnd (c σ st) fun t s1 => if t = true then (match b σ s1 with
      | some (.ok (.nx σ2), s2) => whlXV c b m σ2 s2
      | some (.ok (.cnt σ2), s2) => whlXV c b m σ2 s2
      | some (.ok (.brk σ2), s2) => some (.ok (.nx σ2), s2)
      | r => r) else some (.ok (.nx σ), s1)
def whlX (n : Nat) (c : ST) (b : SX) : SX := fun σ st => whlXV c b n σ st
theorem sx_while {n : Nat} {c : Expr} {body : List Stmt} {t : ST} {b : SX} {pos : Pos} (hp : PassesOwn (model X.prog X.w) X.A X.env X.xe) (hc : PT X c (rdT K ww t)) (hb : PSs X body (rdX K ww mg W b)) : PS X (.While c body [] pos) (rdX K ww mg W (whlX n t b)) :=
  (ps_while hp hc hb).weak fun Dn τ H ⟨μ, st, σ, r, st', gd, er, hv, k⟩ => by
    refine ⟨fun m τ1 H1 => ∃ μ1 s1 σ1, Gd K ww H1 μ1 s1 ∧ EnvR K H1 μ1 σ1 τ1 ∧ whlXV t b m σ1 s1 = some (r, st') ∧ FinX K ww mg H1 μ1 st' Dn W r, ⟨n, μ, st, σ, gd, er, hv, k⟩, ?_⟩
    rintro m τ1 H1 ⟨μ1, s1, σ1, d1, e1, hv1, k1⟩
    cases m with
    | zero => cases hv1
    | succ m =>
      unfold whlXV at hv1
      obtain ⟨y, s2, h2, hv1⟩ := bnd_eq hv1
      refine ⟨μ1, s1, σ1, y, s2, d1, e1, h2, fun μ2 H2 g2 d2 => ?_⟩
      cases y with
      | false =>
        cases hv1
        exact k1 μ2 H2 g2 d2 τ1 (e1.m g2)
      | true =>
        rw [if_pos rfl] at hv1 ⊢
        refine ⟨fun τ3 H3 => ∃ μ3 s3 σ3, Gd K ww H3 μ3 s3 ∧ EnvR K H3 μ3 σ3 τ3 ∧ whlXV t b m σ3 s3 = some (r, st') ∧ FinX K ww mg H3 μ3 st' Dn W r, fun τ3 H3 q => ⟨m, Nat.lt_succ_self m, q⟩, ?_⟩
        cases eb : b σ1 s2 with
        | none => rw [eb] at hv1; cases hv1
        | some p =>
          obtain ⟨r3, s3⟩ := p
          rw [eb] at hv1
          refine ⟨μ2, s2, σ1, r3, s3, d2, e1.m g2, eb, ?_⟩
          cases r3 with
          | exc σ3 c ds =>
            cases hv1
            exact k1.m g2
          | ok r3 =>
            refine fun μ4 H4 g4 d4 => ?_
            cases r3 with
            | nx σ3 => exact fun τ4 e4 => ⟨μ4, s3, σ3, d4, e4, hv1, k1.m (g2.trans g4)⟩
            | cnt σ3 => exact fun τ4 e4 => ⟨μ4, s3, σ3, d4, e4, hv1, k1.m (g2.trans g4)⟩
            | brk σ3 =>
              cases hv1
              exact fun τ4 e4 => k1 μ4 H4 (g2.trans g4) d4 τ4 e4
            | ret d =>
              cases hv1
              exact fun v rv => k1 μ4 H4 (g2.trans g4) d4 v rv
def forXV (J : It) (g : Tg) (b : SX) : Nat → Nat → Sl → Sto → Option (RX × Sto)
  | 0, _, _, _ => none
  | m + 1, i, σ, st => match items J st with
    | none => none
    | some xs => match xs[i]? with
      | none => some (.ok (.nx σ), st)
      | some d => match g d σ with
        | none => none
        | some σ1 => match b σ1 st with
          | some (.ok (.nx σ2), s2) => forXV J g b m (i + 1) σ2 s2
          | some (.ok (.cnt σ2), s2) => forXV J g b m (i + 1) σ2 s2
          | some (.ok (.brk σ2), s2) => some (.ok (.nx σ2), s2)
          | r => r
def forX (i : SJ) (g : Tg) (b : SX) : SX := fun σ st => bnd (i σ st) fun J s1 => match items J s1 with
  | none => none
  | some xs => forXV J g b (xs.length + 1) 0 σ s1
theorem sx_for {tg iter : Expr} {body : List Stmt} {i : SJ} {gg : TG} {g : Tg} {b : SX} {pos : Pos} (hp : PassesOwn (model X.prog X.w) X.A X.env X.xe) (hc : X.calm = true) (hi : PI X tg iter (rdI K ww i)) (hg : PG X tg gg) (ok : OkG K gg g) (hb : PSs X body (rdX K ww mg W b))
    (hs : ∀ x, foldedSetIterable iter X.env x = pure x := by intro _; rfl) : PS X (.For tg iter body [] pos) (rdX K ww mg W (forX i g b)) :=
  (ps_for hp hc hi hg hb hs).weak fun Dn τ H ⟨μ, st, σ, r, st', gd, er, hv, k⟩ => by
    obtain ⟨J, s1, h1, hv⟩ := bnd_eq hv
    cases ei : items J s1 with
    | none => simp only [ei] at hv; cases hv
    | some xs =>
      simp only [ei] at hv
      refine ⟨μ, st, σ, J, s1, gd, er, h1, fun μ0 H0 J' g0 d0 iR => ?_⟩
      refine ⟨fun i m τ1 H1 => ∃ μ1 s1 σ1, Gr H0 μ0 H1 μ1 ∧ Gd K ww H1 μ1 s1 ∧ EnvR K H1 μ1 σ1 τ1 ∧ forXV J g b m i σ1 s1 = some (r, st') ∧ FinX K ww mg H1 μ1 st' Dn W r, ⟨_, μ0, s1, σ, Gr.refl _ _, d0, er.m g0, hv, k.m g0⟩, ?_⟩
      rintro i m τ1 H1 ⟨μ1, s2, σ1, g1, d1, e1, hv1, k1⟩
      cases m with
      | zero => cases hv1
      | succ m =>
        unfold forXV at hv1
        cases e2 : items J s2 with
        | none => simp only [e2] at hv1; cases hv1
        | some ys =>
          simp only [e2] at hv1
          obtain ⟨q1, q2⟩ := iR μ1 H1 s2 ys g1 d1 e2
          cases e3 : ys[i]? with
          | none =>
            simp only [e3] at hv1
            cases hv1
            exact .inl ⟨q1 i (by simpa using e3), k1 μ1 H1 (Gr.refl _ _) d1 τ1 e1⟩
          | some d =>
            simp only [e3] at hv1
            obtain ⟨q3, q4⟩ := q2 i d e3
            refine .inr ⟨q3, fun τ3 H3 => ∃ μ3 s3 σ3, Gr H0 μ0 H3 μ3 ∧ Gd K ww H3 μ3 s3 ∧ EnvR K H3 μ3 σ3 τ3 ∧ forXV J g b m (i + 1) σ3 s3 = some (r, st') ∧ FinX K ww mg H3 μ3 st' Dn W r, fun τ3 H3 q => ⟨m, Nat.lt_succ_self m, q⟩, fun x H2 y => ?_⟩
            obtain ⟨sm, rx⟩ := q4 x H2 y
            have gs : Gr H1 μ1 H2 μ1 := ⟨Keeps.same sm, [], by simp⟩
            have d2 := d1.same sm
            cases e4 : g d σ1 with
            | none => simp only [e4] at hv1; cases hv1
            | some σ2 =>
              simp only [e4] at hv1
              refine ok H2 μ1 σ1 τ1 d x σ2 _ (e1.m gs) rx e4 fun τ2 e5 => ?_
              cases eb : b σ2 s2 with
              | none => simp only [eb] at hv1; cases hv1
              | some p =>
                obtain ⟨r3, s3⟩ := p
                simp only [eb] at hv1
                refine ⟨μ1, s2, σ2, r3, s3, d2, e5, eb, ?_⟩
                cases r3 with
                | exc σ3 c ds =>
                  cases hv1
                  exact k1.m gs
                | ok r3 =>
                  refine fun μ4 H4 g4 d4 => ?_
                  have g5 : Gr H1 μ1 H4 μ4 := gs.trans g4
                  cases r3 with
                  | nx σ3 => exact fun τ4 e4 => ⟨μ4, s3, σ3, g1.trans g5, d4, e4, hv1, k1.m g5⟩
                  | cnt σ3 => exact fun τ4 e4 => ⟨μ4, s3, σ3, g1.trans g5, d4, e4, hv1, k1.m g5⟩
                  | brk σ3 =>
                    cases hv1
                    exact fun τ4 e4 => k1 μ4 H4 g5 d4 τ4 e4
                  | ret d =>
                    cases hv1
                    exact fun v rv => k1 μ4 H4 g5 d4 v rv
/-! ### statements with an expression that may raise -/
def retX (f : SEX) : SX := fun σ st => match f σ st with
  | some (.ok d, s) => some (.ok (.ret d), s)
  | some (.exc c ds, s) => some (.exc σ c ds, s)
  | none => none
def exX (f : SEX) : SX := fun σ st => match f σ st with
  | some (.ok d, s) => some (.ok (.nx σ), s)
  | some (.exc c ds, s) => some (.exc σ c ds, s)
  | none => none
def asgX (g : Tg) (f : SEX) : SX := fun σ st => match f σ st with
  | some (.ok d, s) => (g d σ).map fun σ1 => (.ok (.nx σ1), s)
  | some (.exc c ds, s) => some (.exc σ c ds, s)
  | none => none
theorem sx_ret {e : Expr} {f : SEX} {pos : Pos} (he : PE X e (rdEX K ww mg W f)) : PS X (.Return (some e) pos) (rdX K ww mg W (retX f)) := (ps_ret he).weak fun Dn τ H ⟨μ, st, σ, r, st', gd, er, hv, k⟩ => by
  unfold retX at hv
  cases e : f σ st with
  | none => rw [e] at hv; cases hv
  | some p =>
    obtain ⟨r1, s1⟩ := p
    rw [e] at hv
    cases r1 with
    | ok d =>
      cases hv
      exact ⟨μ, st, σ, _, _, gd, er, e, fun μ1 H1 v g1 d1 r1 => k μ1 H1 g1 d1 v r1⟩
    | exc c ds =>
      cases hv
      exact ⟨μ, st, σ, _, _, gd, er, e, ThrX.imp (E := fun C d μ' H' => ∀ τ', EnvR K H' μ' σ τ' → W C d τ' H') k fun C d μ' H' g z => z τ (er.m g)⟩
theorem sx_expr {e : Expr} {f : SEX} {pos : Pos} (he : PE X e (rdEX K ww mg W f)) (hs : swapsWith e none pos.line X.env = pure false := by rfl) : PS X (.Expr e pos) (rdX K ww mg W (exX f)) := (ps_expr he hs).weak fun Dn τ H ⟨μ, st, σ, r, st', gd, er, hv, k⟩ => by
  unfold exX at hv
  cases e : f σ st with
  | none => rw [e] at hv; cases hv
  | some p =>
    obtain ⟨r1, s1⟩ := p
    rw [e] at hv
    cases r1 with
    | ok d =>
      cases hv
      exact ⟨μ, st, σ, _, _, gd, er, e, fun μ1 H1 v g1 d1 r1 => k μ1 H1 g1 d1 τ (er.m g1)⟩
    | exc c ds =>
      cases hv
      exact ⟨μ, st, σ, _, _, gd, er, e, ThrX.imp (E := fun C d μ' H' => ∀ τ', EnvR K H' μ' σ τ' → W C d τ' H') k fun C d μ' H' g z => z τ (er.m g)⟩
theorem rd_asgX {g : Tg} {gg : TG} {f : SEX} (hg : OkG K gg g) : ∀ Dn τ H, rdX K ww mg W (asgX g f) Dn τ H → tAsg (rdEX K ww mg W f) gg Dn τ H := fun Dn τ H ⟨μ, st, σ, r, st', gd, er, hv, k⟩ => by
  unfold asgX at hv
  cases e : f σ st with
  | none => rw [e] at hv; cases hv
  | some p =>
    obtain ⟨r1, s1⟩ := p
    rw [e] at hv
    cases r1 with
    | ok x =>
      cases e2 : g x σ with
      | none => simp only [e2] at hv; cases hv
      | some σ1 =>
        simp only [e2] at hv
        cases hv
        exact ⟨μ, st, σ, _, _, gd, er, e, fun μ1 H1 v g1 d1 r1 => hg H1 μ1 σ τ x v σ1 _ (er.m g1) r1 e2 fun τ1 e1 => k μ1 H1 g1 d1 τ1 e1⟩
    | exc c ds =>
      cases hv
      exact ⟨μ, st, σ, _, _, gd, er, e, ThrX.imp (E := fun C d μ' H' => ∀ τ', EnvR K H' μ' σ τ' → W C d τ' H') k fun C d μ' H' g z => z τ (er.m g)⟩
theorem sx_set {i : Nat} {x : Str} {e : Expr} {f : SEX} {pos pos' : Pos} (hN : X.N.Nodup) (hi : X.N[i]? = some x) (hx : Loc X.env.scope x) (he : PE X e (rdEX K ww mg W f)) (hs : swapsWith e (some (.Name x pos')) pos.line X.env = pure false := by rfl) (hf : X.fn x = true ∨ X.env.scope.names.lookup x = some .local := by first | exact .inl rfl | exact .inr rfl | assumption) :
    PS X (.Assign [.Name x pos'] e pos) (rdX K ww mg W (asgX (nmG i) f)) := (ps_set hN hi hx he hs hf).weak (rd_asgX ok_name)
theorem sx_asg {tg e : Expr} {gg : TG} {g : Tg} {f : SEX} {pos : Pos} (he : PE X e (rdEX K ww mg W f)) (hg : PG X tg gg) (ok : OkG K gg g) (hs : swapsWithSole [tg] e pos.line X.env = pure false := by rfl) (hw : swappedStores [tg] e X.env = pure none := by rfl)
    (ha : List.map (fun x => x.2) (assignEach [tg] X.env) = [assign tg X.env] := by rfl) : PS X (.Assign [tg] e pos) (rdX K ww mg W (asgX g f)) := (ps_asg he hg hs hw ha).weak (rd_asgX ok)
/-! ### expressions around one that may raise -/
def bndX {α : Type} (x : Option (DX × Sto)) (k : D → Sto → Option (α × Sto)) (e : Str → List D → α) : Option (α × Sto) := match x with
  | some (.ok d, s) => k d s
  | some (.exc c ds, s) => some (e c ds, s)
  | none => none
/-- f(..)[i] -/
def ixX (f : SEX) (g : SE) : SEX := fun σ st => bndX (f σ st) (fun x s1 => bnd (g σ s1) fun y s2 => (ixO x y s2).map fun p => (.ok p.1, p.2)) .exc
theorem ex_ix {a b : Expr} {f : SEX} {g : SE} {pos : Pos} (ha : PE X a (rdEX X.K X.w mg W f)) (hb : PE X b (rdE X.K X.w g)) (hs : PlainIx b := by exact fun _ _ => rfl) : PE X (.Subscript a b pos) (rdEX X.K X.w mg W (ixX f g)) := (pe_ix ix_seq ha hb hs).weak fun τ H Q ⟨μ, st, σ, r, st', gd, er, hv, k⟩ => by
  unfold ixX bndX at hv
  cases e : f σ st with
  | none => rw [e] at hv; cases hv
  | some p =>
    obtain ⟨r1, s1⟩ := p
    rw [e] at hv
    cases r1 with
    | exc c ds =>
      cases hv
      exact ⟨μ, st, σ, _, _, gd, er, e, k⟩
    | ok x =>
      obtain ⟨y, s2, h2, hv⟩ := bnd_eq hv
      cases e3 : ixO x y s2 with
      | none => rw [e3] at hv; cases hv
      | some q =>
        rw [e3] at hv
        cases hv
        refine ⟨μ, st, σ, _, _, gd, er, e, fun μ1 H1 vx g1 d1 r1 => ?_⟩
        refine ⟨μ1, s1, σ, y, s2, d1, er.m g1, h2, fun μ2 H2 vy g2 d2 r2 => ?_⟩
        exact ok_ix H2 μ2 s2 x y vx vy q.1 q.2 Q d2 (r1.m g2) r2 e3 fun μ3 H3 v g3 d3 r3 => k μ3 H3 v ((g1.trans g2).trans g3) d3 r3
/-- arguments, one of which may raise -/
def consX (f : SEX) (g : SA) : SAX := fun σ st => bndX (f σ st) (fun x s1 => bnd (g σ s1) fun xs s2 => some (.inl (x :: xs), s2)) fun c ds => .inr (c, ds)
def consAX (f : SE) (g : SAX) : SAX := fun σ st => bnd (f σ st) fun x s1 => match g σ s1 with
  | some (.inl xs, s2) => some (.inl (x :: xs), s2)
  | some (.inr p, s2) => some (.inr p, s2)
  | none => none
theorem ax_cons {e : Expr} {es : List Expr} {f : SEX} {g : SA} (ha : PE X e (rdEX K ww mg W f)) (hr : PA X es (rdA K ww g)) (hs : starEach (e :: es) X.env = (false, eval e X.env) :: starEach es X.env := by rfl) : PA X (e :: es) (rdAX K ww mg W (consX f g)) := (pa_cons ha hr hs).weak fun τ H Q ⟨μ, st, σ, d, st', gd, er, hv, k⟩ => by
  unfold consX bndX at hv
  cases e : f σ st with
  | none => rw [e] at hv; cases hv
  | some p =>
    obtain ⟨r1, s1⟩ := p
    rw [e] at hv
    cases r1 with
    | exc c ds =>
      cases hv
      exact ⟨μ, st, σ, _, _, gd, er, e, k⟩
    | ok x =>
      obtain ⟨xs, s2, h2, hv⟩ := bnd_eq hv
      cases hv
      refine ⟨μ, st, σ, _, s1, gd, er, e, fun μ1 H1 vx g1 d1 r1 => ?_⟩
      refine ⟨μ1, s1, σ, xs, _, d1, er.m g1, h2, fun μ2 H2 vs g2 d2 r2 => ?_⟩
      exact k μ2 H2 _ (g1.trans g2) d2 (reps_cons (r1.m g2) r2)
theorem ax_consA {e : Expr} {es : List Expr} {f : SE} {g : SAX} (ha : PE X e (rdE K ww f)) (hr : PA X es (rdAX K ww mg W g)) (hs : starEach (e :: es) X.env = (false, eval e X.env) :: starEach es X.env := by rfl) : PA X (e :: es) (rdAX K ww mg W (consAX f g)) := (pa_cons ha hr hs).weak fun τ H Q ⟨μ, st, σ, d, st', gd, er, hv, k⟩ => by
  obtain ⟨x, s1, h1, hv⟩ := bnd_eq hv
  cases e : g σ s1 with
  | none => simp only [e] at hv; cases hv
  | some p =>
    obtain ⟨r0, s2⟩ := p
    simp only [e] at hv
    refine ⟨μ, st, σ, x, s1, gd, er, h1, fun μ1 H1 vx g1 d1 r1 => ?_⟩
    cases r0 with
    | inl xs =>
      cases hv
      refine ⟨μ1, s1, σ, _, _, d1, er.m g1, e, fun μ2 H2 vs g2 d2 r2 => ?_⟩
      exact k μ2 H2 _ (g1.trans g2) d2 (reps_cons (r1.m g2) r2)
    | inr p =>
      cases hv
      exact ⟨μ1, s1, σ, _, _, d1, er.m g1, e, ThrX.m (E := fun C d _ H' => W C d τ H') k g1⟩
/-- a built-in function of such arguments -/
def appX (o : OpN) (f : SAX) : SEX := fun σ st => match f σ st with
  | some (.inl xs, s1) => (o xs s1).map fun p => (.ok p.1, p.2)
  | some (.inr p, s1) => some (.exc p.1 p.2, s1)
  | none => none
theorem rd_appX {r : List V → Hp → VK → Prop} {o : OpN} {f : SAX} (h : OkN K ww r o) : ∀ τ H Q, rdEX K ww mg W (appX o f) τ H Q → tCB r (rdAX K ww mg W f) τ H Q := fun τ H Q ⟨μ, st, σ, d, st', gd, er, hv, k⟩ => by
  unfold appX at hv
  cases e : f σ st with
  | none => rw [e] at hv; cases hv
  | some p =>
    obtain ⟨r1, s1⟩ := p
    rw [e] at hv
    cases r1 with
    | inr p =>
      cases hv
      exact ⟨μ, st, σ, _, _, gd, er, e, k⟩
    | inl xs =>
      cases e3 : o xs s1 with
      | none => simp only [e3] at hv; cases hv
      | some q =>
        simp only [e3] at hv
        cases hv
        refine ⟨μ, st, σ, _, s1, gd, er, e, fun μ1 H1 vx g1 d1 r1 => ?_⟩
        exact h H1 μ1 s1 xs vx q.1 q.2 Q d1 r1 e3 fun μ3 H3 v g3 d3 r3 => k μ3 H3 v (g1.trans g3) d3 r3
theorem ex_tuple {p pos : Pos} {e : Expr} {f : SAX} (hg : Gl X "tuple") (hm : X.mg "tuple" = none) (ha : PA X [e] (rdAX X.K X.w mg W f)) (he : starEach [e] X.env = (false, eval e X.env) :: starEach [] X.env := by rfl) : PE X (.Call (.Name "tuple" p) [e] [] pos) (rdEX X.K X.w mg W (appX tupleO f)) :=
  (pe_callTy cr_tupN hg hm (by decide +kernel) ha (by decide) (by decide) he).weak (rd_appX ok_tupleO)
theorem ex_list {p pos : Pos} {e : Expr} {f : SAX} (hg : Gl X "list") (hm : X.mg "list" = none) (ha : PA X [e] (rdAX X.K X.w mg W f)) (he : starEach [e] X.env = (false, eval e X.env) :: starEach [] X.env := by rfl) : PE X (.Call (.Name "list" p) [e] [] pos) (rdEX X.K X.w mg W (appX listO f)) :=
  (pe_callTy call_list_of hg hm (by decide +kernel) ha (by decide) (by decide) he).weak (rd_appX ok_listO)
end
end Iv

/-! Iv: errors of the program made and raised. -/
namespace Iv
open PySem L2 PySem.Spec PyProof.Rows
/-- what the written part says of the errors' base class -/
structure TurC (K : PySem.W.Frag) (mg : Str → Option Value) (Ta : Addr) : Prop where
  g : mg "TurnError" = some (.ref Ta)
  rd : PySem.W.readsIn K Ta (.type "type") = true
  ga : PySem.W.specialIn K (.ref Ta) "__getattribute__" = some (some (.builtin "type.__getattribute__"))
  at_ : PySem.W.findCls K (.ref Ta) (.type "type") "__init__" = some (.val (.builtin "ValueError.__init__"))
section
variable {X : Cx} {o e : Expr} {es : List Expr} {to te : TE} {ta : TA} {f : Str} {p p' p1 p2 pos : Pos}
/-- TurnError.__init__(self, ..) -/
theorem pe_teinit {pl : Sem Bool} {Ta : Addr} (T : TurC X.K X.mg Ta) (hg : Gl X "TurnError") (ha : PA X (e :: es) ta)
    (hc : eval (.Call (.Attribute (.Name "TurnError" p1) "__init__" p2) (e :: es) [] pos) X.env = (do
      let ov ← eval (.Name "TurnError" p1) X.env
      standAt p2.atName
      let (f, first) ← holding [ov] (getMethod ov "__init__" pl)
      callWith pos f first (backTo pos (starEach (e :: es) X.env)) (backToKw pos (keywordEach [] X.env))) := by rfl)
    (he : starEach (e :: es) X.env = (false, eval e X.env) :: starEach es X.env := by rfl) (hpl : (backTo pos (starEach es X.env)).any (·.1) = false := by rfl) :
    PE X (.Call (.Attribute (.Name "TurnError" p1) "__init__" p2) (e :: es) [] pos) (tVeI X.K ta) := by
  refine ⟨fun pins s σ H Q I h => ?_⟩
  refine PySem.W.methodCall_KW (ld_glob I hg T.g ?_ (by decide)) hc
  refine PySem.W.method_cls I.kIn T.ga (PySem.W.cls_value I.kIn T.rd T.at_ (by decide +kernel) ?_)
  show wpAny _ _ (callWith pos (Value.builtin "ValueError.__init__") [] (backTo pos (starEach (e :: es) X.env)) []) _ _ _
  refine callWith_method1 (thn (ha.run pos pins _ σ H _ (I.tok _) h) fun us s1 ⟨vs, H1, I1, r1, a, C, ws, ev, hl, T, ea, q⟩ => ?_) he hpl
  subst ev
  cases r1 with
  | @cons _ u0 _ ur ra rw' =>
    obtain rfl : u0 = Value.ref a := ra
    have hlen : ur.length ≤ sizeLine := by
      rw [← Paired.length rw', sizeLine_eq]
      omega
    exact oinit_ok T I1 ea hlen fun s' J => ⟨.non, H1, J, rfl, q⟩
end
/-! ### what __init__ leaves -/
def HI (H : Hp) (a C dx : Addr) (kv : List (Str × V)) : Hp := upd (upd H dx (exd dx kv)) a (exo a C (some dx))
theorem hi_more {H : Hp} {a C dx : Addr} {kv kv' : List (Str × V)} (h : dx ≠ a) : upd (HI H a C dx kv) dx (exd dx kv') = HI H a C dx kv' := by
  funext b
  unfold HI
  by_cases h1 : b = dx
  · subst h1; rw [upd_same, upd_ne h, upd_same]
  · rw [upd_ne h1]
    by_cases h2 : b = a
    · subst h2; rw [upd_same, upd_same]
    · rw [upd_ne h2, upd_ne h2, upd_ne h1, upd_ne h1]
theorem hi_end {H : Hp} {a C dx : Addr} {kv : List (Str × V)} (h : dx ≠ a) (ha : H a = none) : upd (del (HI (upd H a (exo a C none)) a C dx kv) a) dx (.xd kv) = upd H dx (.xd kv) := by
  funext b
  unfold HI
  by_cases h1 : b = dx
  · subst h1; rw [upd_same, upd_same]
  · rw [upd_ne h1, upd_ne h1]
    by_cases h2 : b = a
    · subst h2; rw [del_same, ha]
    · rw [del_ne h2, upd_ne h2, upd_ne h1, upd_ne h2]
/-- a value that a message may tell -/
def FmtV (v : V) : Prop := (∃ y : Str, v = .str y ∧ y.length ≤ 1000) ∨ ∃ i : Int, v = .int i ∧ i.natAbs.log2 < 1920 ∧ (Str.ofString (toString i)).length ≤ 1000
def spInit (K : PySem.W.Frag) (C : Addr) (fs : List Str) : Sp := fun vs H Q _ => ∃ a ws, vs = .ref a :: ws ∧ ws.length = fs.length ∧ H a = some (exo a C none) ∧ (∀ w ∈ ws, FmtV w) ∧
  ∀ dx, H dx = none → dx ≠ a → Q .non (HI H a C dx (fs.zip ws).reverse)
theorem fmt_of {i : Nat} {σ : L2.St} {H : Hp} {Q : VK} {v : V} (h : σ[i]? = some (some v)) (f : FmtV v) (k : ∀ y : Str, y.length ≤ 1000 → Q (.str y) H) : tFmt (tVar i) σ H Q := by
  refine ⟨v, h, ?_⟩
  rcases f with ⟨y, rfl, hl⟩ | ⟨j, rfl, h1, h2⟩
  · exact .inl ⟨y, rfl, Nat.le_trans hl (by rw [sizeLine_eq]; decide), k y hl⟩
  · exact .inr ⟨j, rfl, h1, k _ h2⟩
theorem js_len {a b : Str} {n m : Nat} (h1 : a.length ≤ n) (h2 : b.length ≤ m) (h : n + m ≤ 5000) : (a ++ b).length ≤ sizeLine ∧ (a ++ b).length ≤ n + m := by
  have e : (a ++ b).length = a.length + b.length := by simp [Str.length, Str.cps_append]
  rw [e, sizeLine_eq]
  omega
/-- the facts of an error's class -/
structure ErrC (K : PySem.W.Frag) (mg : Str → Option Value) (c : Str) (C fI : Addr) : Prop where
  o : OexC K C
  g : mg c = some (.ref C)
  iC : PySem.W.findIn K (.ref C) "__init__" = some (some (.ref fI))
  tI : PySem.W.typeIn K (.ref fI) = some (.type "function")
  te : PySem.W.exmOne K (.ref C) (.ref C) = some true
  xf : XfC K C
  no : ∀ f ∈ flds c, PySem.W.findIn K (.ref C) f = some none
/-- the body of __init__, one field: f'a{x}' or f'a{x}b' -/
theorem init1 {X : Cx} {K : PySem.W.Frag} {C : Addr} {f : Str} {m1 : Str} {vs : List V} {H : Hp} {Q : VK} {E : XK} (T : OexC K C) (no : PySem.W.findIn K (.ref C) f = some none) (h1 : m1.length ≤ 1000) (h : spInit K C [f] vs H Q E) :
    tSeq (tDrop (tVeI K (tCons (tVar 0) (tCons (fun σ H Q => tJs [tC (.str m1), tFmt (tVar 1)] Str.empty σ H fun out H1 => Q (.str out) H1) tNil)))) (tOst K f (tVar 0) (tVar 1)) { nx := fun _ H' => Q .non H', rt := Q } (start ["self", f] vs) H := by
  obtain ⟨a, ws, rfl, hl, ha, hf, k⟩ := h
  obtain ⟨y, rfl⟩ : ∃ y, ws = [y] := by
    match ws, hl with
    | [y], _ => exact ⟨y, rfl⟩
  refine ⟨_, rfl, m1, rfl, (js_len (n := 0) (m := 1000) (a := Str.empty) (Nat.le_refl 0) h1 (by decide)).1, fmt_of rfl (hf y (by simp)) fun z hz => ⟨z, rfl, (js_len (js_len (n := 0) (m := 1000) (a := Str.empty) (Nat.le_refl 0) h1 (by decide)).2 hz (by decide)).1, ?_⟩⟩
  refine ⟨a, C, _, rfl, (show 1 ≤ 1000 by decide), T, ha, ?_⟩
  refine ⟨_, rfl, _, rfl, a, C, rfl, T, no, .inl ⟨ha, fun dx hd hne => ?_⟩⟩
  exact k dx hd hne
theorem init1b {X : Cx} {K : PySem.W.Frag} {C : Addr} {f : Str} {m1 m2 : Str} {vs : List V} {H : Hp} {Q : VK} {E : XK} (T : OexC K C) (no : PySem.W.findIn K (.ref C) f = some none) (h1 : m1.length ≤ 1000) (h2 : m2.length ≤ 1000) (h : spInit K C [f] vs H Q E) :
    tSeq (tDrop (tVeI K (tCons (tVar 0) (tCons (fun σ H Q => tJs [tC (.str m1), tFmt (tVar 1), tC (.str m2)] Str.empty σ H fun out H1 => Q (.str out) H1) tNil)))) (tOst K f (tVar 0) (tVar 1)) { nx := fun _ H' => Q .non H', rt := Q } (start ["self", f] vs) H := by
  obtain ⟨a, ws, rfl, hl, ha, hf, k⟩ := h
  obtain ⟨y, rfl⟩ : ∃ y, ws = [y] := by
    match ws, hl with
    | [y], _ => exact ⟨y, rfl⟩
  have l1 := js_len (n := 0) (m := 1000) (a := Str.empty) (Nat.le_refl 0) h1 (by decide)
  refine ⟨_, rfl, m1, rfl, l1.1, fmt_of rfl (hf y (by simp)) fun z hz => ?_⟩
  have l2 := js_len l1.2 hz (by decide)
  refine ⟨z, rfl, l2.1, m2, rfl, (js_len l2.2 h2 (by decide)).1, ?_⟩
  refine ⟨a, C, _, rfl, (show 1 ≤ 1000 by decide), T, ha, ?_⟩
  refine ⟨_, rfl, _, rfl, a, C, rfl, T, no, .inl ⟨ha, fun dx hd hne => ?_⟩⟩
  exact k dx hd hne
/-- two fields: f'a{x}b{y}' -/
theorem init2 {X : Cx} {K : PySem.W.Frag} {C : Addr} {f g : Str} {m1 m2 : Str} {vs : List V} {H : Hp} {Q : VK} {E : XK} (T : OexC K C) (no : PySem.W.findIn K (.ref C) f = some none) (no2 : PySem.W.findIn K (.ref C) g = some none) (h1 : m1.length ≤ 1000) (h2 : m2.length ≤ 1000) (h : spInit K C [f, g] vs H Q E) :
    tSeq (tDrop (tVeI K (tCons (tVar 0) (tCons (fun σ H Q => tJs [tC (.str m1), tFmt (tVar 1), tC (.str m2), tFmt (tVar 2)] Str.empty σ H fun out H1 => Q (.str out) H1) tNil)))) (tSeq (tOst K f (tVar 0) (tVar 1)) (tOst K g (tVar 0) (tVar 2))) { nx := fun _ H' => Q .non H', rt := Q } (start ["self", f, g] vs) H := by
  obtain ⟨a, ws, rfl, hl, ha, hf, k⟩ := h
  obtain ⟨y, y2, rfl⟩ : ∃ y y2, ws = [y, y2] := by
    match ws, hl with
    | [y, y2], _ => exact ⟨y, y2, rfl⟩
  have l1 := js_len (n := 0) (m := 1000) (a := Str.empty) (Nat.le_refl 0) h1 (by decide)
  refine ⟨_, rfl, m1, rfl, l1.1, fmt_of rfl (hf y (by simp)) fun z hz => ?_⟩
  have l2 := js_len l1.2 hz (by decide)
  have l3 := js_len l2.2 h2 (by decide)
  refine ⟨z, rfl, l2.1, m2, rfl, l3.1, fmt_of rfl (hf y2 (by simp)) fun z2 hz2 => ⟨z2, rfl, (js_len l3.2 hz2 (by decide)).1, ?_⟩⟩
  refine ⟨a, C, _, rfl, (show 1 ≤ 1000 by decide), T, ha, ?_⟩
  refine ⟨_, rfl, _, rfl, a, C, rfl, T, no, .inl ⟨ha, fun dx hd hne => ?_⟩⟩
  refine ⟨_, rfl, _, rfl, a, C, rfl, T, no2, .inr ⟨dx, [(f, y)], upd_same, by rw [upd_ne hne, upd_same], (show 1 ≤ 900 by decide), ?_⟩⟩
  have e := hi_more (H := H) (C := C) (kv := [(f, y)]) (kv' := [(g, y2), (f, y)]) hne
  have q := k dx hd hne
  show Q .non (upd (HI H a C dx [(f, y)]) dx (exd dx [(g, y2), (f, y)]))
  rw [e]
  exact q
/-! ### the class called, in a context without a handled error -/
theorem pmk_oexN {X : Cx} {e : Expr} {es : List Expr} {ta : TA} {p pos : Pos} {CX : CXT} {x : Str} {C fI : Addr} {k : Nat} {fd : FuncData} {ps : List Str} {sp : Sp} (T : OexC X.K C) (iC : PySem.W.findIn X.K (.ref C) "__init__" = some (some (.ref fI))) (tI : PySem.W.typeIn X.K (.ref fI) = some (.type "function"))
    (F1 : FnOk X.prog X.w X.K X.mg X.base CX k fI fd ps sp) (hr : Room (k + 1) X.A) (hb : Binds X.K fd ps []) (hx : Passes CX X (fun _ _ _ => False)) (hg : Gl X x) (hm : X.mg x = some (.ref C)) (ha : PA X (e :: es) ta)
    (hdb : (x == ("__debug__" : Str)) = false := by decide) (he : starEach (e :: es) X.env = (false, eval e X.env) :: starEach es X.env := by rfl) (hpl : (backTo pos (starEach es X.env)).any (·.1) = false := by rfl) :
    L2N.PMk X (.Call (.Name x p) (e :: es) [] pos) (tMkO C sp [] ta) := by
  intro pins s σ H Q I h
  obtain ⟨nm, q, N, bs, bm, sn, sub, ab, col, dd, k0, k1, k2, k3, k5, hC, hbm⟩ := T.cls
  refine wpAny_Call_Name_kw (ld_glob I hg hm ?_ hdb)
  refine PySem.W.callWith_K (h₀ := X.base) I.ok.mod.kin T.kC (thn (ha.run pos pins s σ H _ I h) fun us s1 ⟨vs, H1, I1, r1, hz, q1⟩ => ⟨I1.kIn, ?_⟩) he hpl
  show wpAny _ _ (call (.ref C) us) _ _ _
  obtain ⟨hp, g, dr, tk, os⟩ := s1
  have hsz : hp.objs.size ≤ hp.objs.size + 1 := Nat.le_succ _
  have hn : H1 (hp.objs.size + 1) = none := I1.hok.fresh hsz
  have hq := q1 (hp.objs.size + 1) hn
  have kk : ∀ b o, hp.get? b = some o → ((hp.push (PySem.W.kdv_tup us)).push (PySem.HandSPX.excO C hp.objs.size)).get? b = some o := fun b o e => Heap.get?_push_of_some _ (Heap.get?_push_of_some _ e)
  have hget : ((hp.push (PySem.W.kdv_tup us)).push (PySem.HandSPX.excO C hp.objs.size)).get? (hp.objs.size + 1) = some (PySem.HandSPX.excO C hp.objs.size) := by heap_get
  have I2 : Inv X pins σ (upd H1 (hp.objs.size + 1) (exo (hp.objs.size + 1) C none)) ⟨(hp.push (PySem.W.kdv_tup us)).push (PySem.HandSPX.excO C hp.objs.size), g, dr, tk, os⟩ :=
    I1.laid (t' := tk) (a := hp.objs.size + 1) (o := exo (hp.objs.size + 1) C none) (h' := (hp.push (PySem.W.kdv_tup us)).push (PySem.HandSPX.excO C hp.objs.size)) kk hsz (exo_ok hget)
  have r2 : Vals (V.ref (hp.objs.size + 1) :: (vs ++ [])) (Value.ref (hp.objs.size + 1) :: us) := .cons rfl (by rw [List.append_nil]; exact r1)
  have hl : (Value.ref (hp.objs.size + 1) :: us ++ []).length = ps.length := by
    have e := r2.length
    rw [F1.len _ _ _ _ hq] at e
    rw [List.append_nil]
    exact e.symm
  have hus : us.length ≤ sizeLine := by
    rw [← Paired.length r1, sizeLine_eq]
    omega
  have b2 := hb _ (Value.ref (hp.objs.size + 1) :: us) I2.kIn hl
  rw [List.append_nil] at b2
  refine wpAny_call (PySem.HandSPX.call_own F.excBase_ValueError (fun Y => PySem.HandSPX.refsVE_contains Y bm hbm) (I1.kIn _ _ hC) (PySem.W.looks_findIn I1.kIn iC) (fun self => PySem.W.bind_fn I1.kIn self tI) hus
    (codeAny_mono (F1.run _ X.stack _ _ ⟨Value.ref (hp.objs.size + 1) :: us, []⟩ (Value.ref (hp.objs.size + 1) :: us) _ _ (fun _ _ _ => False) (hr.make C us []) (I2.env0.make C us []) b2 r2 hq) fun r s' hq' => ?_))
  cases r with
  | error er => exact hx pins σ _ _ er s' I2 hq'
  | ok fl =>
    cases fl with
    | ret u =>
      obtain ⟨v, H2, os2, bare2, un2, hok2, rv, ev, d, fs, ea, ed, hd1, q2⟩ := hq'
      subst ev
      obtain ⟨h2, g2, d2, t2, os'⟩ := s'
      obtain ⟨t0, G, J, kG, ge, hoe, na⟩ := mk_end0 (d2 := d2) (t2 := t2) I1 hsz kk un2 hok2 os2 bare2 ea ed hd1
      refine ⟨rv, ⟨hp.objs.size + 1, _, _, ⟨G, g2, d2, t2, os'⟩, _, .ref C, some d, rfl, J, kG, ge, hoe, ⟨rfl, rfl, fun vs hv => ?_⟩, rfl, rfl, na, rfl, bare2, raises_own T.exC T.tyC, q2⟩⟩
      cases hv
      rfl
    | next => exact False.elim hq'
    | brk => exact False.elim hq'
    | cont => exact False.elim hq'
/-! ### raise -/
def fmtD : D → Bool
  | .str y => decide (y.length ≤ 1000)
  | .int i => decide (i.natAbs.log2 < 1920) && decide ((Str.ofString (toString i)).length ≤ 1000)
  | _ => false
theorem fmtV_of {K : PySem.W.Frag} {H : Hp} {μ : List Addr} : ∀ {d : D} {v : V}, Rep K H μ d v → fmtD d = true → FmtV v
  | .str y, v, r, h => by
    simp only [Rep] at r
    subst r
    exact .inl ⟨y, rfl, of_decide_eq_true h⟩
  | .int i, v, r, h => by
    simp only [Rep] at r
    subst r
    have h' := Bool.and_eq_true_iff.mp h
    exact .inr ⟨i, rfl, of_decide_eq_true h'.1, of_decide_eq_true h'.2⟩
  | .non, _, _, h => by cases h
  | .bl _, _, _, h => by cases h
  | .tup _, _, _, h => by cases h
  | .loc _, _, _, h => by cases h
theorem fmtVs_of {K : PySem.W.Frag} {H : Hp} {μ : List Addr} : ∀ {ds : List D} {vs : List V}, Reps K H μ ds vs → ds.all fmtD = true → ∀ v ∈ vs, FmtV v
  | [], vs, r, _, v, hv => by simp only [Reps] at r; subst r; cases hv
  | d :: ds, vs, r, h, v, hv => by
    simp only [Reps] at r
    obtain ⟨u, us, rfl, r1, r2⟩ := r
    rw [List.all_cons, Bool.and_eq_true] at h
    rcases List.mem_cons.mp hv with e | e
    · rw [e]; exact fmtV_of r1 h.1
    · exact fmtVs_of r2 h.2 v e
def raiseX (rz : Bool) (c : Str) (g : SA) : SX := fun σ st => bnd (g σ st) fun ds s1 => if rz = true ∧ ds.length = (flds c).length ∧ ds.all fmtD = true then some (.exc σ c ds, s1) else none
theorem xf1 {K : PySem.W.Frag} {H : Hp} {μ : List Addr} {c f : Str} (e : flds c = [f]) {ds : List D} {vs : List V} (r : Reps K H μ ds vs) (hl : ds.length = (flds c).length) : XfR K H μ c ds ((flds c).zip vs).reverse := by
  rw [e] at hl ⊢
  match ds, hl with
  | [d], _ =>
    obtain ⟨v, rfl, rv⟩ := reps1 r
    intro j f' d' h1 h2
    rw [e] at h1
    match j, h1, h2 with
    | 0, h1, h2 =>
      cases h1; cases h2
      exact ⟨v, by simp [List.lookup], rv⟩
theorem xf2 {K : PySem.W.Frag} {H : Hp} {μ : List Addr} {c f g : Str} (e : flds c = [f, g]) (hne : (f == g) = false) {ds : List D} {vs : List V} (r : Reps K H μ ds vs) (hl : ds.length = (flds c).length) : XfR K H μ c ds ((flds c).zip vs).reverse := by
  rw [e] at hl ⊢
  match ds, hl with
  | [d, d2], _ =>
    obtain ⟨v, w, rfl, rv, rw2⟩ := reps2 r
    intro j f' d' h1 h2
    rw [e] at h1
    match j, h1, h2 with
    | 0, h1, h2 =>
      cases h1; cases h2
      exact ⟨v, by simp [List.lookup, hne], rv⟩
    | 1, h1, h2 =>
      cases h1; cases h2
      exact ⟨w, by simp [List.lookup], rw2⟩
/-- an error of the program, ready to be made -/
structure MkC (P : Program) (w : World) (K : PySem.W.Frag) (mg : Str → Option Value) (base : Heap) (c : Str) : Prop where
  ex : ∃ C fI fd, ErrC K mg c C fI ∧ FnOk P w K mg base CX0 1 fI fd ("self" :: flds c) (spInit K C (flds c)) ∧ Binds K fd ("self" :: flds c) []
  xf : ∀ (H : Hp) (μ : List Addr) (ds : List D) (vs : List V), Reps K H μ ds vs → ds.length = (flds c).length → XfR K H μ c ds ((flds c).zip vs).reverse
theorem sx_raise {X : Cx} {W : WX} {c : Str} {e : Expr} {es : List Expr} {g : SA} {rz : Bool} {k : Nat} {p pos pos2 : Pos} (hc : X.calm = true) (M : MkC X.prog X.w X.K X.mg X.base c) (tk : L2N.Takes X W) (hr : Room k X.A) (hk : rz = true → 2 ≤ k) (hg : Gl X c) (ha : PA X (e :: es) (rdA X.K X.w g)) (hf : (flds c).length ≤ 1000 := by decide)
    (hdb : (c == ("__debug__" : Str)) = false := by decide) (he : starEach (e :: es) X.env = (false, eval e X.env) :: starEach es X.env := by rfl) (hpl : (backTo pos (starEach es X.env)).any (·.1) = false := by rfl) :
    PS X (.Raise (some (.Call (.Name c p) (e :: es) [] pos)) none pos2) (rdX X.K X.w X.mg W (raiseX rz c g)) := by
  obtain ⟨C, fI, fd, EC, F, hb⟩ := M.ex
  by_cases hz : rz = true
  · have hr2 : Room 2 X.A := hr.mono (hk hz)
    refine (L2N.ps_raise hc tk (pmk_oexN EC.o EC.iC EC.tI F hr2 hb pass0 hg EC.g ha hdb he hpl)).weak fun Dn τ H ⟨μ, st, σ, r, st', gd, er, hv, kk⟩ => ?_
    obtain ⟨ds, s1, h1, hv⟩ := bnd_eq hv
    split at hv
    · rename_i hcond
      cases hv
      refine ⟨μ, st, σ, ds, _, gd, er, h1, fun μ1 H1 vs g1 d1 r1 => ⟨by rw [← r1.len, hcond.2.1]; exact hf, fun a ha0 => ?_⟩⟩
      have hlen : vs.length = (flds c).length := by rw [← r1.len]; exact hcond.2.1
      refine ⟨a, vs ++ [], rfl, by rw [List.append_nil]; exact hlen, upd_same, fun w hw => fmtVs_of r1 hcond.2.2 w (by rw [List.append_nil] at hw; exact hw), fun dx hd hne => ?_⟩
      rw [List.append_nil]
      have hd1 : H1 dx = none := by rw [upd_ne hne] at hd; exact hd
      refine ⟨rfl, dx, ((flds c).zip vs).reverse, by unfold HI; exact upd_same, by unfold HI; rw [upd_ne hne, upd_same], hd1, ?_⟩
      rw [hi_end hne ha0]
      have gr : Gr H1 μ1 (upd H1 dx (.xd ((flds c).zip vs).reverse)) μ1 := gr_any hd1
      have gd2 := d1.same (same_upd (o := .xd ((flds c).zip vs).reverse) hd1)
      exact kk μ1 _ C dx _ (g1.trans gr) gd2 EC.g upd_same (M.xf _ _ _ _ (r1.m gr) hcond.2.1) τ (er.m (g1.trans gr))
    · cases hv
  · refine ps_never.weak fun Dn τ H ⟨μ, st, σ, r, st', gd, er, hv, kk⟩ => ?_
    obtain ⟨ds, s1, h1, hv⟩ := bnd_eq hv
    rw [if_neg (fun z => hz z.1)] at hv
    cases hv
end Iv

/-! Iv: defs that raise, their calls, try. -/
namespace Iv
open PySem L2 PySem.Spec PyProof.Rows
/-! ### defs -/
def runX (ns np : Nat) (body : SX) : Fy := fun ds st => if ds.length = np then (match body (ds.map some ++ List.replicate (ns - np) none) st with
  | some (.ok (.nx _), s) => some (.ok .non, s)
  | some (.ok (.ret d), s) => some (.ok d, s)
  | some (.exc _ c es, s) => some (.exc c es, s)
  | _ => none) else none
theorem runX_np {ns np : Nat} {body : SX} : ∀ ds st d st', runX ns np body ds st = some (d, st') → ds.length = np := fun ds st d st' h => by
  unfold runX at h
  split at h
  · assumption
  · cases h
def spX (K : PySem.W.Frag) (ww : World) (mg : Str → Option Value) (np : Nat) (φ : Fy) : Sp := fun vs H Q E => vs.length = np ∧ ∃ μ st ds r st', Gd K ww H μ st ∧ Reps K H μ ds vs ∧ φ ds st = some (r, st') ∧ FinE K ww mg H μ st' Q E r
section
variable {P : Program} {w : World} {K : PySem.W.Frag} {mg : Str → Option Value} {base : Heap} {n k : Nat} {f : Addr} {fd : FuncData} {ps : List Str}
theorem Fun_okXN {x qual : Str} {st : Stmt} {N : List Str} {sp : Sp} (F : Fun K x qual st f fd) (S : FnScope N ps (defScope st)) (len : ∀ vs H Q E, sp vs H Q E → vs.length = ps.length)
    (hbody : ∀ (cdv : Value) (A : Around) (outer : List Env) (s : Shared) (H : Hp) (vs : List V) (Q : VK) (E : XK), Room k (A.deeper (envOfC qual (defScope st) s.heap.objs.size f cdv)) → sp vs H Q E →
      ∃ t, PSs (cxOf (L2N.CX P w) P w K mg base N qual (defScope st) f cdv A outer s H E) (defBody st) t ∧ t { nx := fun _ H' => Q .non H', rt := Q } (start N vs) H) : FnOk P w K mg base (L2N.CX P w) (k + 1) f fd ps sp := by
  obtain ⟨oc, od, kV, doc, pm, an, cdv, ct, osl, rfl, lk, hcd⟩ := F.ex
  exact fn_of lk hcd S len fun A outer s H vs Q E hr hsp => hbody cdv A outer s H vs Q E hr hsp
theorem fx_zero {φ : Fy} {np : Nat} (h : ∀ ds st, φ ds st = none) : FnOk P w K mg base (L2N.CX P w) 0 f fd ps (spX K w mg np φ) := by
  have no : ∀ vs H Q E, ¬ spX K w mg np φ vs H Q E := fun vs H Q E ⟨_, _, st, ds, _, _, _, _, e, _⟩ => by rw [h] at e; cases e
  exact ⟨fun vs H Q E h => absurd h (no vs H Q E), fun A outer s H args us vs Q E _ _ _ _ h => absurd h (no vs H Q E)⟩
theorem fx_ok {x qual : Str} {st : Stmt} {N : List Str} {body : SX} (F : Fun K x qual st f fd) (S : FnScope N ps (defScope st)) (hns : ps.length ≤ N.length)
    (hb : ∀ (cdv : Value) (A : Around) (outer : List Env) (s : Shared) (H : Hp) (E : XK), Room k (A.deeper (PyProof.Rows.envOfC qual (defScope st) s.heap.objs.size f cdv)) →
      PSs (cxOf (L2N.CX P w) P w K mg base N qual (defScope st) f cdv A outer s H E) (defBody st) (rdX K w mg (fun cls d _ H => E cls d H) body)) :
    FnOk P w K mg base (L2N.CX P w) (k + 1) f fd ps (spX K w mg ps.length (runX N.length ps.length body)) := by
  refine Fun_okXN F S (fun vs H Q E h => h.1) (fun cdv A outer s H vs Q E hr h => ⟨_, hb cdv A outer s H E hr, ?_⟩)
  obtain ⟨hlen, μ, st, ds, d, st', gd, r, hv, q⟩ := h
  unfold runX at hv
  split at hv
  · rename_i hl
    unfold L2.start
    rw [hlen]
    have er := envr_start r (N.length - ps.length)
    cases e : body (ds.map some ++ List.replicate (N.length - ps.length) none) st with
    | none => rw [e] at hv; cases hv
    | some p =>
      obtain ⟨r1, s1⟩ := p
      rw [e] at hv
      refine ⟨μ, st, _, r1, s1, gd, er, e, ?_⟩
      cases r1 with
      | exc σ1 c es =>
        cases hv
        exact fun μ' H' C dd fs g2 gd a b c _ _ => q μ' H' C dd fs g2 gd a b c
      | ok r1 =>
        refine fun μ1 H1 g1 d1 => ?_
        cases r1 with
        | nx σ1 =>
          cases hv
          exact fun τ1 _ => q μ1 H1 .non g1 d1 (by simp only [Rep])
        | ret x =>
          cases hv
          exact fun v rv => q μ1 H1 v g1 d1 rv
        | brk σ1 => cases hv
        | cnt σ1 => cases hv
  · cases hv
structure CalX (P : Program) (w : World) (K : PySem.W.Frag) (mg : Str → Option Value) (base : Heap) (k : Nat) (x : Str) (ps : List Str) (φ : Fy) : Prop where
  ex : ∃ f fd, FnOk P w K mg base (L2N.CX P w) k f fd ps (spX K w mg ps.length φ) ∧ mg x = some (.ref f) ∧ PySem.W.keepIn K (.ref f) = true ∧ Binds K fd ps []
  np : ∀ ds st d st', φ ds st = some (d, st') → ds.length = ps.length
theorem calX_ok {x : Str} {st : Stmt} {N : List Str} {body : SX} (Df : Def K mg x st ps) (S : FnScope N ps (defScope st)) (hns : ps.length ≤ N.length)
    (hb : ∀ (f : Addr) (cdv : Value) (A : Around) (outer : List Env) (s : Shared) (H : Hp) (E : XK), Room k (A.deeper (PyProof.Rows.envOfC x (defScope st) s.heap.objs.size f cdv)) →
      PSs (cxOf (L2N.CX P w) P w K mg base N x (defScope st) f cdv A outer s H E) (defBody st) (rdX K w mg (fun cls d _ H => E cls d H) body)) :
    CalX P w K mg base (k + 1) x ps (runX N.length ps.length body) := by
  obtain ⟨f, fd, F, hm, hbd⟩ := Df.ex
  exact ⟨⟨f, fd, fx_ok F S hns fun cdv A outer s H E hr => hb f cdv A outer s H E hr, hm, F.kp, hbd⟩, runX_np⟩
theorem calX_zero {x : Str} {st : Stmt} (Df : Def K mg x st ps) : CalX P w K mg base 0 x ps (fun _ _ => none) := by
  obtain ⟨f, fd, F, hm, hbd⟩ := Df.ex
  exact ⟨⟨f, fd, fx_zero fun _ _ => rfl, hm, F.kp, hbd⟩, fun _ _ _ _ h => by cases h⟩
end
/-! ### calls -/
def callX (φ : Fy) (g : SA) : SEX := fun σ st => bnd (g σ st) fun ds s1 => φ ds s1
theorem ex_call {X : Cx} {W : WX} {n : Nat} {x : Str} {ps : List Str} {φ : Fy} {p pos : Pos} {e : Expr} {es : List Expr} {g : SA} (C : CalX X.prog X.w X.K X.mg X.base n x ps φ) (tk : L2N.Takes X W) (hr : Room n X.A) (hg : Gl X x)
    (ha : PA X (e :: es) (rdA X.K X.w g)) (hdb : (x == ("__debug__" : Str)) = false := by decide) (he : starEach (e :: es) X.env = (false, eval e X.env) :: starEach es X.env := by rfl) (hpl : (backTo pos (starEach es X.env)).any (·.1) = false := by rfl) :
    PE X (.Call (.Name x p) (e :: es) [] pos) (rdEX X.K X.w X.mg W (callX φ g)) := by
  obtain ⟨f, fd, F, hm, hk, hb⟩ := C.ex
  refine (pe_callS F hr hg hm hk hb (fun σ => L2N.passAt tk σ) ha hdb he hpl).weak fun τ H Q ⟨μ, st, σ, d, st', gd, er, hv, kk⟩ => ?_
  obtain ⟨ds, s1, h1, hv⟩ := bnd_eq hv
  refine ⟨μ, st, σ, ds, s1, gd, er, h1, fun μ1 H1 vs g1 d1 r1 => ?_⟩
  refine ⟨by rw [← r1.len]; exact C.np _ _ _ _ hv, μ1, s1, ds, d, st', d1, r1, hv, ?_⟩
  cases d with
  | ok d => exact fun μ2 H2 v g2 d2 r2 => kk μ2 H2 v (g1.trans g2) d2 r2
  | exc c es => exact ThrX.m (E := fun C d _ H' => W C d τ H') kk g1
/-- a call of a raising def with arguments one of which may raise, and of one that raises nothing -/
def callAX (φ : Fx) (g : SAX) : SEX := fun σ st => match g σ st with
  | some (.inl ds, s1) => (φ ds s1).map fun p => (.ok p.1, p.2)
  | some (.inr p, s1) => some (.exc p.1 p.2, s1)
  | none => none
theorem ex_callA {X : Cx} {W : WX} {mg : Str → Option Value} {n : Nat} {x : Str} {ps : List Str} {φ : Fx} {p pos : Pos} {e : Expr} {es : List Expr} {g : SAX} (C : Cal X.prog X.w X.K X.mg X.base n x ps φ) (hr : Room n X.A) (hg : Gl X x)
    (ha : PA X (e :: es) (rdAX X.K X.w mg W g)) (hdb : (x == ("__debug__" : Str)) = false := by decide) (he : starEach (e :: es) X.env = (false, eval e X.env) :: starEach es X.env := by rfl) (hpl : (backTo pos (starEach es X.env)).any (·.1) = false := by rfl) :
    PE X (.Call (.Name x p) (e :: es) [] pos) (rdEX X.K X.w mg W (callAX φ g)) := by
  obtain ⟨f, fd, F, hm, hk, hb⟩ := C.ex
  refine (pe_call F hr hg hm hk hb .nil pass0 ha hdb he hpl).weak fun τ H Q ⟨μ, st, σ, d, st', gd, er, hv, kk⟩ => ?_
  unfold callAX at hv
  cases e1 : g σ st with
  | none => rw [e1] at hv; cases hv
  | some q =>
    obtain ⟨r1, s1⟩ := q
    rw [e1] at hv
    cases r1 with
    | inr p =>
      cases hv
      exact ⟨μ, st, σ, _, _, gd, er, e1, kk⟩
    | inl ds =>
      cases e3 : φ ds s1 with
      | none => simp only [e3] at hv; cases hv
      | some q =>
        simp only [e3] at hv
        cases hv
        refine ⟨μ, st, σ, _, s1, gd, er, e1, fun μ1 H1 vs g1 d1 r1 => ?_⟩
        show spF X.K X.w ps.length φ (vs ++ []) H1 Q E0
        rw [List.append_nil]
        exact ⟨by rw [← r1.len]; exact C.np _ _ q.1 q.2 e3, μ1, s1, ds, q.1, q.2, d1, r1, e3, fun μ2 H2 v g2 d2 r2 => kk μ2 H2 v (g1.trans g2) d2 r2⟩
/-! ### except suites -/
/-- the slot of the clause's name is empty behind the suite -/
def clrR (i : Nat) : R → R
  | .nx σ => .nx (σ.set i none)
  | .brk σ => .brk (σ.set i none)
  | .cnt σ => .cnt (σ.set i none)
  | .ret d => .ret d
def tryS (b : SX) (c : Str) (i : Nat) (su : List D → SS) : SS := fun σ st => match b σ st with
  | some (.ok r, s) => some (r, s)
  | some (.exc σ' c' ds, s) => if c' = c ∧ i < σ'.length then (su ds (σ'.set i none) s).map fun p => (clrR i p.1, p.2) else none
  | none => none
/-- the suite's reading: the error (at a) carries ds -/
def rdU (K : PySem.W.Frag) (ww : World) (mg : Str → Option Value) (c : Str) (i : Nat) (su : List D → SS) (a : Addr) (cls : Value) (d : Option Addr) : TS := fun Dn τ H =>
  ∃ μ st σ r st' ds C dd fs, Gd K ww H μ st ∧ EnvR K H μ σ τ ∧ τ[i]? = some (some (.ref a)) ∧ cls = .ref C ∧ mg c = some (.ref C) ∧ d = some dd ∧ H dd = some (.xd fs) ∧ XfR K H μ c ds fs ∧ su ds σ st = some (r, st') ∧ Fin K ww H μ st' Dn r
def rdUE (K : PySem.W.Frag) (ww : World) (mg : Str → Option Value) (c : Str) (i : Nat) (su : List D → SE) (a : Addr) (cls : Value) (d : Option Addr) : TE := fun τ H Q =>
  ∃ μ st σ x st' ds C dd fs, Gd K ww H μ st ∧ EnvR K H μ σ τ ∧ τ[i]? = some (some (.ref a)) ∧ cls = .ref C ∧ mg c = some (.ref C) ∧ d = some dd ∧ H dd = some (.xd fs) ∧ XfR K H μ c ds fs ∧ su ds σ st = some (x, st') ∧ ∀ μ' H' v, Gr H μ H' μ' → Gd K ww H' μ' st' → Rep K H' μ' x v → Q v H'
def rdUA (K : PySem.W.Frag) (ww : World) (mg : Str → Option Value) (c : Str) (i : Nat) (su : List D → SA) (a : Addr) (cls : Value) (d : Option Addr) : TA := fun τ H Q =>
  ∃ μ st σ xs st' ds C dd fs, Gd K ww H μ st ∧ EnvR K H μ σ τ ∧ τ[i]? = some (some (.ref a)) ∧ cls = .ref C ∧ mg c = some (.ref C) ∧ d = some dd ∧ H dd = some (.xd fs) ∧ XfR K H μ c ds fs ∧ su ds σ st = some (xs, st') ∧ ∀ μ' H' vs, Gr H μ H' μ' → Gd K ww H' μ' st' → Reps K H' μ' xs vs → Q vs H'
section
variable {X : Cx} {K : PySem.W.Frag} {ww : World} {mg : Str → Option Value} {c : Str} {i : Nat} {a : Addr} {cls : Value} {d : Option Addr}
theorem su_plain {b : List Stmt} {f : SS} (h : PSs X b (rdS K ww f)) : PSs X b (rdU K ww mg c i (fun _ => f) a cls d) := h.weak fun Dn τ H ⟨μ, st, σ, r, st', ds, C, dd, fs, gd, er, _, _, _, _, _, _, hv, k⟩ => ⟨μ, st, σ, r, st', gd, er, hv, k⟩
theorem su_ret {e : Expr} {f : List D → SE} {pos : Pos} (h : PE X e (rdUE K ww mg c i f a cls d)) : PSs X [.Return (some e) pos] (rdU K ww mg c i (fun ds => retS (f ds)) a cls d) := (pss_one (ps_ret h)).weak fun Dn τ H ⟨μ, st, σ, r, st', ds, C, dd, fs, gd, er, h1, h2, h3, h4, h5, h6, hv, k⟩ => by
  obtain ⟨x, s1, e1, hv⟩ := bnd_eq hv
  cases hv
  exact ⟨μ, st, σ, x, _, ds, C, dd, fs, gd, er, h1, h2, h3, h4, h5, h6, e1, fun μ1 H1 v g1 d1 r1 => k μ1 H1 g1 d1 v r1⟩
theorem ue_plain {e : Expr} {f : SE} (h : PE X e (rdE K ww f)) : PE X e (rdUE K ww mg c i (fun _ => f) a cls d) := h.weak fun τ H Q ⟨μ, st, σ, r, st', ds, C, dd, fs, gd, er, _, _, _, _, _, _, hv, k⟩ => ⟨μ, st, σ, r, st', gd, er, hv, k⟩
theorem ua_plain {e : List Expr} {f : SA} (h : PA X e (rdA K ww f)) : PA X e (rdUA K ww mg c i (fun _ => f) a cls d) := h.weak fun τ H Q ⟨μ, st, σ, r, st', ds, C, dd, fs, gd, er, _, _, _, _, _, _, hv, k⟩ => ⟨μ, st, σ, r, st', gd, er, hv, k⟩
theorem ua_cons {e : Expr} {es : List Expr} {f : List D → SE} {g : List D → SA} (ha : PE X e (rdUE K ww mg c i f a cls d)) (hr : PA X es (rdUA K ww mg c i g a cls d)) (hs : starEach (e :: es) X.env = (false, eval e X.env) :: starEach es X.env := by rfl) :
    PA X (e :: es) (rdUA K ww mg c i (fun ds => consF (f ds) (g ds)) a cls d) := (pa_cons ha hr hs).weak fun τ H Q ⟨μ, st, σ, r, st', ds, C, dd, fs, gd, er, h1, h2, h3, h4, h5, h6, hv, k⟩ => by
  obtain ⟨x, s1, e1, hv⟩ := bnd_eq hv
  obtain ⟨xs, s2, e2, hv⟩ := bnd_eq hv
  cases hv
  refine ⟨μ, st, σ, x, s1, ds, C, dd, fs, gd, er, h1, h2, h3, h4, h5, h6, e1, fun μ1 H1 vx g1 d1 r1 => ?_⟩
  refine ⟨μ1, s1, σ, xs, _, ds, C, dd, fs, d1, er.m g1, h1, h2, h3, h4, g1.1.2.2 _ _ h5, h6.m g1, e2, fun μ2 H2 vs g2 d2 r2 => ?_⟩
  exact k μ2 H2 _ (g1.trans g2) d2 (reps_cons (r1.m g2) r2)
theorem ue_bin {t : TE} {e : Expr} {r : R2} {o : Op2} {f g : List D → SE} {ta tb : TE} (h : Ok2 K ww r o) (hp : PE X e (tOp r ta tb)) (ea : ta = rdUE K ww mg c i f a cls d) (eb : tb = rdUE K ww mg c i g a cls d) :
    PE X e (rdUE K ww mg c i (fun ds => binF o (f ds) (g ds)) a cls d) := hp.weak fun τ H Q ⟨μ, st, σ, x0, st', ds, C, dd, fs, gd, er, h1, h2, h3, h4, h5, h6, hv, k⟩ => by
  subst ea eb
  obtain ⟨x, s1, e1, hv⟩ := bnd_eq hv
  obtain ⟨y, s2, e2, hv⟩ := bnd_eq hv
  refine ⟨μ, st, σ, x, s1, ds, C, dd, fs, gd, er, h1, h2, h3, h4, h5, h6, e1, fun μ1 H1 vx g1 d1 r1 => ?_⟩
  refine ⟨μ1, s1, σ, y, s2, ds, C, dd, fs, d1, er.m g1, h1, h2, h3, h4, g1.1.2.2 _ _ h5, h6.m g1, e2, fun μ2 H2 vy g2 d2 r2 => ?_⟩
  exact h H2 μ2 s2 x y vx vy x0 st' Q d2 (r1.m g2) r2 hv fun μ3 H3 v g3 d3 r3 => k μ3 H3 v ((g1.trans g2).trans g3) d3 r3
theorem ue_cmp {x y : Expr} {op : CmpOp} {o : Op2} {f g : List D → SE} {pos : Pos} (hc : Cmp X op o) (ha : PE X x (rdUE X.K X.w mg c i f a cls d)) (hb : PE X y (rdUE X.K X.w mg c i g a cls d)) (hm : behindInMarks op y = false := by rfl) :
    PE X (.Compare x [op] [y] pos) (rdUE X.K X.w mg c i (fun ds => binF o (f ds) (g ds)) a cls d) := by
  obtain ⟨r, ho, hk⟩ := hc.ex
  exact ue_bin (t := rdUE X.K X.w mg c i f a cls d) hk (pe_cmpR ho ha hb hm) rfl rfl
theorem ue_tup {es : List Expr} {x1} {pos : Pos} {f : List D → SA} (h : PA X es (rdUA K ww mg c i f a cls d)) : PE X (.Tuple es x1 pos) (rdUE K ww mg c i (fun ds => tupF (f ds)) a cls d) := (pe_tupN h).weak fun τ H Q ⟨μ, st, σ, x0, st', ds, C, dd, fs, gd, er, h1, h2, h3, h4, h5, h6, hv, k⟩ => by
  obtain ⟨x, s1, e1, hv⟩ := bnd_eq hv
  split at hv
  · rename_i hl
    cases hv
    refine ⟨μ, st, σ, x, _, ds, C, dd, fs, gd, er, h1, h2, h3, h4, h5, h6, e1, fun μ1 H1 vs g1 d1 r1 => ⟨lim_ok (by rw [← r1.len]; exact hl), ?_⟩⟩
    exact new_tup d1 r1 fun μ3 H3 v g3 d3 r3 => k μ3 H3 v (g1.trans g3) d3 r3
  · cases hv
theorem ue_lst {es : List Expr} {pos : Pos} {f : List D → SA} (h : PA X es (rdUA K ww mg c i f a cls d)) : PE X (.List es pos) (rdUE K ww mg c i (fun ds => lstF (f ds)) a cls d) := (pe_lst h).weak fun τ H Q ⟨μ, st, σ, x0, st', ds, C, dd, fs, gd, er, h1, h2, h3, h4, h5, h6, hv, k⟩ => by
  obtain ⟨x, s1, e1, hv⟩ := bnd_eq hv
  split at hv
  · rename_i hl
    cases hv
    refine ⟨μ, st, σ, x, _, ds, C, dd, fs, gd, er, h1, h2, h3, h4, h5, h6, e1, fun μ1 H1 vs g1 d1 r1 => ⟨lim_ok (by rw [← r1.len]; exact hl), ?_⟩⟩
    exact new_lst d1 r1 fun μ3 H3 v g3 d3 r3 => k μ3 H3 v (g1.trans g3) d3 r3
  · cases hv
/-- e.f, e the error -/
def fldF (j : Nat) (ds : List D) : SE := fun _ st => (ds[j]?).map fun x => (x, st)
theorem ue_fld {oe : Obj} {pn : List (Addr × Obj)} {e : Expr} {f : Str} {j : Nat} {pos : Pos} {P : Program} {w : World} {base : Heap} (M : MkC P w X.K mg base c) (hj : (flds c)[j]? = some f) (hz : Zc cls d oe) (hf : ∃ vs, oe.data = .fields vs)
    (he : PE (X.suite a ((a, oe) :: pn)) e (tVar i)) (hb : attributeBase e f X.env (eval e X.env) = eval e X.env := by rfl) :
    PE (X.suite a ((a, oe) :: pn)) (.Attribute e f pos) (rdUE X.K X.w mg c i (fldF j) a cls d) := by
  obtain ⟨C, fI, fd, EC, _, _⟩ := M.ex
  refine (pe_xf (C := C) EC.xf (EC.no f (List.mem_of_getElem? hj)) hz hf he hb).weak fun τ H Q ⟨μ, st, σ, x0, st', ds, C', dd, fs, gd, er, h1, h2, h3, h4, h5, h6, hv, k⟩ => ?_
  have eC := EC.g
  rw [h3] at eC
  cases eC
  unfold fldF at hv
  cases e1 : ds[j]? with
  | none => rw [e1] at hv; cases hv
  | some x =>
    rw [e1] at hv
    cases hv
    obtain ⟨v, l, r⟩ := h6 j f _ hj e1
    exact ⟨_, h1, rfl, h2, dd, fs, v, h4, h5, l, k μ H v (Gr.refl H μ) gd r⟩
end
theorem takesN {X : Cx} : L2N.Takes X (fun _ _ _ _ => False) := fun _ _ x => by
  obtain ⟨_, _, _, _, _, _, _, _, _, _, _, _, _, _, _, _, z⟩ := x
  exact z.elim
theorem envr_clr {K : PySem.W.Frag} {H : Hp} {μ : List Addr} {σ : Sl} {τ : L2.St} (e : EnvR K H μ σ τ) (i : Nat) (v : Option V) : EnvR K H μ (σ.set i none) (τ.set i v) := by
  refine ⟨by rw [List.length_set, List.length_set]; exact e.1, fun j x h => ?_⟩
  by_cases hj : i = j
  · subst hj
    by_cases hl : i < σ.length
    · rw [List.getElem?_set_self hl] at h
      cases h
    · rw [List.getElem?_eq_none (by rw [List.length_set]; omega)] at h
      cases h
  · rw [List.getElem?_set_ne hj] at h
    obtain ⟨u, h1, h2⟩ := e.2 j x h
    exact ⟨u, by rw [List.getElem?_set_ne hj]; exact h1, h2⟩
section
variable {X : Cx} {x n : Str} {i : Nat} {body suite : List Stmt} {b₀ : Stmt} {np pos pos' : Pos} {b : SX} {su : List D → SS}
theorem ss_try {P : Program} {w : World} {base : Heap} (M : MkC P w X.K X.mg base x) (hs : X.stack = X.env :: X.outer) (hf : X.env.frame = some X.env.locals) (hN : X.N.Nodup) (hi : X.N[i]? = some n) (hln : X.env.kindOf n = some .local) (hc : Gl X x) (hdb : (x == ("__debug__" : Str)) = false)
    (hb : ∀ (W : WX) (pn : List (Addr × Obj)) (xe : Value → Shared → Prop), L2N.Takes (X.tr pn xe) W → PassesOwn (model X.prog X.w) X.A X.env xe → PSs (X.tr pn xe) body (rdX X.K X.w X.mg W b))
    (hsu : ∀ (a : Addr) (oe : Obj) (cls : Value) (d : Option Addr) (pn : List (Addr × Obj)), L2N.Zn cls d oe → (∃ vs, oe.data = .fields vs) → PSs (X.suite a ((a, oe) :: pn)) (b₀ :: suite) (rdU X.K X.w X.mg x i su a cls d)) :
    PS X (.Try body [.ExceptHandler (some (.Name x np)) (some n) (b₀ :: suite) pos'] [] [] pos) (rdS X.K X.w (tryS b x i su)) := by
  obtain ⟨C, fI, fd, EC, _, _⟩ := M.ex
  refine (L2N.ps_try_as (c := .ref C) (Wout := fun _ _ _ _ => False) hs hf hN hi hln ⟨hc, hdb, .inl EC.g⟩ takesN hb hsu).weak fun Dn τ H ⟨μ, st, σ, r, st', gd, er, hv, k⟩ => ?_
  unfold tryS at hv
  cases e : b σ st with
  | none => rw [e] at hv; cases hv
  | some p =>
    obtain ⟨r1, s1⟩ := p
    simp only [e] at hv
    refine ⟨μ, st, σ, r1, s1, gd, er, e, ?_⟩
    cases r1 with
    | ok r1 =>
      cases hv
      exact k
    | exc σ1 c ds =>
      have hv2 : (if c = x ∧ i < σ1.length then (su ds (σ1.set i none) s1).map fun p => (clrR i p.1, p.2) else none) = some (r, st') := hv
      clear hv
      have hv := hv2
      clear hv2
      split at hv
      · rename_i hcc
        obtain ⟨hcc, hil⟩ := hcc
        subst hcc
        cases e2 : su ds (σ1.set i none) s1 with
        | none => rw [e2] at hv; cases hv
        | some q =>
          obtain ⟨r2, s2⟩ := q
          rw [e2] at hv
          cases hv
          refine fun μ1 H1 C1 dd fs g1 d1 hC hdd hx τ1 e1 => ?_
          have eC := EC.g
          rw [hC] at eC
          cases eC
          refine ⟨true, EC.te, fun _ a ha => ?_, fun z => Bool.noConfusion z⟩
          have hl : i < τ1.length := by
            rw [← e1.1]
            exact hil
          refine ⟨μ1, s1, σ1.set i none, r2, s2, ds, _, dd, fs, d1, envr_clr e1 i _, List.getElem?_set_self hl, rfl, hC, rfl, hdd, hx, e2, fun μ2 H2 g2 d2 => ?_⟩
          have kk := k μ2 H2 (g1.trans g2) d2
          cases r2 with
          | nx σ2 => exact fun τ2 e3 => kk _ (envr_clr e3 i none)
          | brk σ2 => exact fun τ2 e3 => kk _ (envr_clr e3 i none)
          | cnt σ2 => exact fun τ2 e3 => kk _ (envr_clr e3 i none)
          | ret d => exact kk
      · cases hv
end
end Iv

/-! Iv: what raising comes to, step by step; the errors' classes as the text has them. -/
namespace Iv
open PySem L2 PySem.Spec PyProof.Rows
def WpX (x : Option (RX × Sto)) (Q : RX → Sto → Prop) : Prop := ∃ r st, x = some (r, st) ∧ Q r st
section
variable {σ σ1 σ2 : Sl} {st st1 st2 : Sto} {d : D} {f : SE} {c : ST} {a b : SX} {i n m : Nat} {r : R} {Q Q' : RX → Sto → Prop} {g : Tg} {xs : List D}
theorem wpx_ok {r : RX} {x : Option (RX × Sto)} (h : x = some (r, st)) (q : Q r st) : WpX x Q := ⟨r, st, h, q⟩
theorem wpx_mono {x : Option (RX × Sto)} (h : WpX x Q) (k : ∀ r s, Q r s → Q' r s) : WpX x Q' := let ⟨r, s, e, q⟩ := h; ⟨r, s, e, k r s q⟩
theorem wpx_lift {f : SS} (h : Wp (f σ st) fun r s => Q (.ok r) s) : WpX (liftX f σ st) Q := by
  obtain ⟨r, s, e, q⟩ := h
  exact ⟨.ok r, s, by unfold liftX; rw [e]; rfl, q⟩
theorem wpx_seq (h : WpX (a σ st) fun r s => match r with
    | .ok (.nx σ') => WpX (b σ' s) Q
    | r => Q r s) : WpX (seqX a b σ st) Q := by
  obtain ⟨r, s, e, q⟩ := h
  unfold WpX seqX
  rw [e]
  cases r with
  | exc σ' c ds => exact ⟨_, _, rfl, q⟩
  | ok r =>
    cases r with
    | nx σ' => exact q
    | brk σ' => exact ⟨_, _, rfl, q⟩
    | cnt σ' => exact ⟨_, _, rfl, q⟩
    | ret d => exact ⟨_, _, rfl, q⟩
/-- a step that raises nothing and goes on -/
theorem wpx_nx {f : SS} (h : f σ st = some (.nx σ1, st1)) (q : WpX (b σ1 st1) Q) : WpX (seqX (liftX f) b σ st) Q := wpx_seq ⟨.ok (.nx σ1), st1, by unfold liftX; rw [h]; rfl, q⟩
theorem wpx_if {t : Bool} (h : c σ st = some (t, st1)) (h1 : t = true → WpX (a σ st1) Q) (h2 : t = false → WpX (b σ st1) Q) : WpX (ifX c a b σ st) Q := by
  unfold WpX ifX
  rw [h, bnd_some]
  cases t with
  | true => exact h1 rfl
  | false => exact h2 rfl
theorem wpx_raise {rz : Bool} {x : Str} {g : SA} {ds : List D} (h : g σ st = some (ds, st1)) (hz : rz = true) (hl : ds.length = (flds x).length) (hf : ds.all fmtD = true) (q : Q (.exc σ x ds) st1) : WpX (raiseX rz x g σ st) Q :=
  ⟨_, _, by unfold raiseX; rw [h, bnd_some, if_pos ⟨hz, hl, hf⟩], q⟩
theorem wpx_ret {f : SEX} {d : DX} (h : f σ st = some (d, st1)) (q : match d with
    | .ok d => Q (.ok (.ret d)) st1
    | .exc c ds => Q (.exc σ c ds) st1) : WpX (retX f σ st) Q := by
  unfold WpX retX
  rw [h]
  cases d with
  | ok d => exact ⟨_, _, rfl, q⟩
  | exc c ds => exact ⟨_, _, rfl, q⟩
theorem wpx_ex {f : SEX} {d : DX} (h : f σ st = some (d, st1)) (q : match d with
    | .ok d => Q (.ok (.nx σ)) st1
    | .exc c ds => Q (.exc σ c ds) st1) : WpX (exX f σ st) Q := by
  unfold WpX exX
  rw [h]
  cases d with
  | ok d => exact ⟨_, _, rfl, q⟩
  | exc c ds => exact ⟨_, _, rfl, q⟩
theorem wpx_asg {f : SEX} {d : DX} (h : f σ st = some (d, st1)) (q : match d with
    | .ok d => ∃ σ1, g d σ = some σ1 ∧ Q (.ok (.nx σ1)) st1
    | .exc c ds => Q (.exc σ c ds) st1) : WpX (asgX g f σ st) Q := by
  unfold WpX asgX
  rw [h]
  cases d with
  | ok d =>
    obtain ⟨σ1, e, q⟩ := q
    refine ⟨_, _, ?_, q⟩
    simp only [e]
    rfl
  | exc c ds => exact ⟨_, _, rfl, q⟩
theorem wpx_for {i : SJ} {J : It} (P : Nat → Sl → Sto → Prop) (hi : i σ st = some (J, st1)) (hx : items J st1 = some xs) (h0 : P 0 σ st1) (hg : ∀ j σ s, P j σ s → items J s = some xs)
    (h : ∀ (j : Nat) (σ : Sl) (st : Sto) (d : D), xs[j]? = some d → P j σ st → ∃ σ1, g d σ = some σ1 ∧ WpX (b σ1 st) fun r s => match r with
      | .ok (.nx σ2) => P (j + 1) σ2 s
      | .ok (.cnt σ2) => P (j + 1) σ2 s
      | .ok (.brk σ2) => Q (.ok (.nx σ2)) s
      | .ok (.ret d) => Q (.ok (.ret d)) s
      | .exc σ2 c ds => Q (.exc σ2 c ds) s)
    (he : ∀ σ s, P xs.length σ s → Q (.ok (.nx σ)) s) : WpX (forX i g b σ st) Q := by
  have key : ∀ m j σ s, P j σ s → j ≤ xs.length → xs.length + 1 ≤ m + j → WpX (forXV J g b m j σ s) Q := by
    intro m
    induction m with
    | zero => intro j σ s p h1 h2; omega
    | succ m ih =>
      intro j σ s p h1 h2
      unfold forXV
      rw [hg j σ s p]
      simp only
      cases e : xs[j]? with
      | none =>
        have : xs.length ≤ j := by simpa using e
        have e2 : j = xs.length := by omega
        subst e2
        exact ⟨_, _, rfl, he _ _ p⟩
      | some d =>
        have hj := (List.getElem?_eq_some_iff.mp e).1
        obtain ⟨σ1, e1, r, s2, e2, q⟩ := h j σ s d e p
        simp only [e1, e2]
        cases r with
        | exc σ2 c ds => exact ⟨_, _, rfl, q⟩
        | ok r =>
          cases r with
          | nx σ2 => exact ih (j + 1) σ2 s2 q (by omega) (by omega)
          | cnt σ2 => exact ih (j + 1) σ2 s2 q (by omega) (by omega)
          | brk σ2 => exact ⟨_, _, rfl, q⟩
          | ret d => exact ⟨_, _, rfl, q⟩
  unfold forX
  rw [hi, bnd_some, hx]
  exact key (xs.length + 1) 0 σ st1 h0 (Nat.zero_le _) (by omega)
theorem wpx_while {k : Nat} (P : Sl → Sto → Prop) (μ : Sl → Sto → Nat) (h0 : P σ st) (hk : μ σ st < k)
    (h : ∀ σ st, P σ st → ∃ t st1, c σ st = some (t, st1) ∧ (t = true → WpX (b σ st1) fun r s => match r with
      | .ok (.nx σ2) => P σ2 s ∧ μ σ2 s < μ σ st
      | .ok (.cnt σ2) => P σ2 s ∧ μ σ2 s < μ σ st
      | .ok (.brk σ2) => Q (.ok (.nx σ2)) s
      | .ok (.ret d) => Q (.ok (.ret d)) s
      | .exc σ2 c ds => Q (.exc σ2 c ds) s) ∧ (t = false → Q (.ok (.nx σ)) st1)) : WpX (whlX k c b σ st) Q := by
  have key : ∀ m σ s, P σ s → μ σ s < m → WpX (whlXV c b m σ s) Q := by
    intro m
    induction m with
    | zero => intro σ s p h2; omega
    | succ m ih =>
      intro σ s p h2
      obtain ⟨t, s1, e1, h3, h4⟩ := h σ s p
      unfold whlXV
      rw [e1, bnd_some]
      cases t with
      | false => exact ⟨_, _, rfl, h4 rfl⟩
      | true =>
        rw [if_pos rfl]
        obtain ⟨r, s2, e2, q⟩ := h3 rfl
        rw [e2]
        cases r with
        | exc σ2 c ds => exact ⟨_, _, rfl, q⟩
        | ok r =>
          cases r with
          | nx σ2 => exact ih σ2 s2 q.1 (by omega)
          | cnt σ2 => exact ih σ2 s2 q.1 (by omega)
          | brk σ2 => exact ⟨_, _, rfl, q⟩
          | ret d => exact ⟨_, _, rfl, q⟩
  exact key k σ st h0 hk
/-- a raising def's own end -/
theorem wpx_run {ns np : Nat} {ds : List D} {Q : DX → Sto → Prop} (hl : ds.length = np) (h : WpX (b (ds.map some ++ List.replicate (ns - np) none) st) fun r s => match r with
    | .ok (.nx _) => Q (.ok .non) s
    | .ok (.ret d) => Q (.ok d) s
    | .exc _ c es => Q (.exc c es) s
    | _ => False) : ∃ d s, runX ns np b ds st = some (d, s) ∧ Q d s := by
  obtain ⟨r, s, e, q⟩ := h
  unfold runX
  rw [if_pos hl, e]
  cases r with
  | exc σ c es => exact ⟨_, _, rfl, q⟩
  | ok r =>
    cases r with
    | nx _ => exact ⟨_, _, rfl, q⟩
    | ret d => exact ⟨_, _, rfl, q⟩
    | brk _ => exact q.elim
    | cnt _ => exact q.elim
theorem wp_try {x : Str} {su : List D → SS} {Q : R → Sto → Prop} (h : WpX (b σ st) fun r s => match r with
    | .ok r => Q r s
    | .exc σ' c ds => c = x ∧ i < σ'.length ∧ Wp (su ds (σ'.set i none) s) fun r s => Q (clrR i r) s) : Wp (tryS b x i su σ st) Q := by
  obtain ⟨r, s, e, q⟩ := h
  unfold Wp tryS
  rw [e]
  cases r with
  | ok r => exact ⟨_, _, rfl, q⟩
  | exc σ' c ds =>
    obtain ⟨h1, h2, r2, s2, e2, q2⟩ := q
    simp only [if_pos (And.intro h1 h2), e2]
    exact ⟨_, _, rfl, q2⟩
end
/-! ### the classes as the text has them -/
/-- an error's class -/
def ErT (K : PySem.W.Frag) (mg : Str → Option Value) (c qual : Str) (st : Stmt) : Prop := ∃ C fI fd, ErrC K mg c C fI ∧ Fun K "__init__" qual st fI fd ∧ Binds K fd ("self" :: flds c) []
def TurT (K : PySem.W.Frag) (mg : Str → Option Value) : Prop := ∃ Ta, TurC K mg Ta
section
variable {K : PySem.W.Frag} {h : Heap} {mg : Str → Option Value}
/-- an error of the class at S is what «except S» names -/
theorem exm_own {S : Addr} (h1 : PySem.W.subIn K (.ref S) (.type "BaseException") = some true) (h2 : PySem.W.isClsIn K S = true) (h3 : PySem.W.typeIn K (.ref S) = some (.type "type")) (h4 : PySem.W.subIn K (.ref S) (.ref S) = some true) :
    PySem.W.exmOne K (.ref S) (.ref S) = some true := by
  have e1 : (PySem.W.subIn K (.ref S) (.type "BaseException") == some true) = true := by rw [h1] <;> rfl
  have e2 : ((PySem.W.clsIn K S).isSome && PySem.W.typeIn K (.ref S) == some (.type "type")) = true := by
    have h2' : (PySem.W.clsIn K S).isSome = true := h2
    rw [h2', h3] <;> rfl
  show (if (PySem.W.subIn K (.ref S) (.type "BaseException") == some true) = true then (if ((PySem.W.clsIn K S).isSome && PySem.W.typeIn K (.ref S) == some (.type "type")) = true then PySem.W.subIn K (.ref S) (.ref S) else none) else none) = some true
  rw [if_pos e1, if_pos e2]
  exact h4
theorem tur_mk {Ta : Addr} (X : K.In h) (G : h.Ns mainGlobals mg) (a : PySem.W.nsIn K mainGlobals "TurnError" = some (some (.ref Ta))) (rd : PySem.W.readsIn K Ta (.type "type") = true) (ga : PySem.W.specialIn K (.ref Ta) "__getattribute__" = some (some (.builtin "type.__getattribute__")))
    (at_ : PySem.W.findCls K (.ref Ta) (.type "type") "__init__" = some (.val (.builtin "ValueError.__init__"))) : TurT K mg := ⟨Ta, PySem.W.mg_of X G a, rd, ga, at_⟩
theorem er_mk {c qual : Str} {st : Stmt} {C f1 : Addr} {nm q : Str} {N : Addr} {bs : List Value} {bm : List Value} {sn : List Str} {sub : List Value} {ab : Bool} {col : Option Bool} {dd : Option Addr} {m0 m1 m2 m3 m5 : Option Value} {oc kV doc pm cdv ct : Value} {od an : Option Addr} {osl : Array (Option Value)} (X : K.In h) (G : h.Ns mainGlobals mg)
    (aC : PySem.W.nsIn K mainGlobals c = some (some (.ref C)))
    (xL : K.lookup C = some (PySem.excClassObj nm q C N bs bm true sn sub ab col dd m0 m1 m2 m3 m5 "ValueError.__new__")) (hbm : PySem.HandSPX.refsVE bm = true)
    (sa : PySem.W.findIn K (.ref C) "__setattr__" = some (some (.builtin "object.__setattr__"))) (ga : PySem.W.findIn K (.ref C) "__getattribute__" = some (some (.builtin "BaseException.__getattribute__"))) (gg : PySem.W.findIn K (.ref C) "__getattr__" = some none)
    (no : ∀ f ∈ flds c, PySem.W.findIn K (.ref C) f = some none)
    (a1 : PySem.W.findIn K (.ref C) "__init__" = some (some (.ref f1))) (t1 : PySem.W.typeIn K (.ref f1) = some (.type "function"))
    (l1 : K.lookup f1 = some ⟨oc, od, .func (PySem.W.fnOf "__init__" qual (defArgs st) (defBody st) (defScope st) .none kV doc pm an cdv ct), osl⟩) (c1 : PySem.W.codeIn K cdv qual = true) (k1 : PySem.W.keepIn K (.ref f1) = true)
    (kC : PySem.W.keepIn K (.ref C) = true) (eC : PySem.W.subIn K (.ref C) (.type "BaseException") = some true) (tC : PySem.W.typeIn K (.ref C) = some (.type "type")) (hC : PySem.W.hasDictIn K C = true) (iC : PySem.W.isClsIn K C = true) (sC : PySem.W.subIn K (.ref C) (.ref C) = some true)
    (b : ∀ (kV doc pm : Value) (an : Option Addr) (cdv ct : Value) (us : List Value), us.length = (("self" : Str) :: flds c).length → bindArgs (PySem.W.fnOf "__init__" qual (defArgs st) (defBody st) (defScope st) .none kV doc pm an cdv ct) ⟨us, []⟩ = pure ((("self" : Str) :: flds c).zip us)) : ErT K mg c qual st :=
  ⟨C, f1, _, ⟨⟨⟨nm, q, N, bs, bm, sn, sub, ab, col, dd, m0, m1, m2, m3, m5, xL, hbm⟩, sa, eC, tC, kC⟩, PySem.W.mg_of X G aC, a1, t1, exm_own eC iC tC sC, ⟨ga, gg, eC, hC⟩, no⟩, fun_mk l1 c1 k1, (fun_mk l1 c1 k1).binds b⟩
end
end Iv

/-! Iv: defs called within an except suite. -/
namespace Iv
open PySem L2 PySem.Spec PyProof.Rows
theorem rh64 {n : Nat} {A : Around} (hr : L2H.RoomH n A) : A.units + 64 < cLine := by have := hr.un; omega
theorem rh65 {n : Nat} {A : Around} (hr : L2H.RoomH n A) : A.units + 65 < cLine := by have := hr.un; omega
structure CalH (P : Program) (w : World) (K : PySem.W.Frag) (mg : Str → Option Value) (base : Heap) (k : Nat) (x : Str) (ps : List Str) (φ : Fx) : Prop where
  ex : ∃ f fd, L2H.FnH P w K mg base CX0 k f fd ps (spF K w ps.length φ) ∧ mg x = some (.ref f) ∧ PySem.W.keepIn K (.ref f) = true ∧ Binds K fd ps []
  np : ∀ ds st d st', φ ds st = some (d, st') → ds.length = ps.length
section
variable {P : Program} {w : World} {K : PySem.W.Frag} {mg : Str → Option Value} {base : Heap} {k : Nat} {ps : List Str}
theorem calH_ok {x : Str} {st : Stmt} {N : List Str} {body : SS} (Df : Def K mg x st ps) (S : FnScope N ps (defScope st)) (hns : ps.length ≤ N.length)
    (hb : ∀ (f : Addr) (cdv : Value) (A : Around) (outer : List Env) (s : Shared) (H : Hp) (E : XK) (p : Addr × Obj), L2H.RoomH k (A.deeper (PyProof.Rows.envOfC x (defScope st) s.heap.objs.size f cdv)) →
      PSs (L2H.cxH CX0 P w K mg base N x (defScope st) f cdv A outer s H E p) (defBody st) (rdS K w body)) :
    CalH P w K mg base (k + 1) x ps (runF N.length ps.length body) := by
  obtain ⟨f, fd, F, hm, hbd⟩ := Df.ex
  refine ⟨⟨f, fd, ?_, hm, F.kp, hbd⟩, runF_np⟩
  obtain ⟨oc, od, kV, doc, pm, an, cdv, ct, osl, rfl, lk, hcd⟩ := F.ex
  refine L2H.fn_ofH lk hcd S (fun vs H Q E h => h.1) fun A outer s H vs Q E p hot hr h => ⟨_, hb f cdv A outer s H E p hr, ?_⟩
  obtain ⟨hlen, μ, st, ds, d, st', gd, r, hv, q⟩ := h
  unfold runF at hv
  split at hv
  · rename_i hl
    unfold L2.start
    rw [hlen]
    have er := envr_start r (N.length - ps.length)
    cases e : body (ds.map some ++ List.replicate (N.length - ps.length) none) st with
    | none => rw [e] at hv; cases hv
    | some p =>
      obtain ⟨r1, s1⟩ := p
      rw [e] at hv
      refine ⟨μ, st, _, r1, s1, gd, er, e, fun μ1 H1 g1 d1 => ?_⟩
      cases r1 with
      | nx σ1 =>
        cases hv
        exact fun τ1 _ => q μ1 H1 .non g1 d1 (by simp only [Rep])
      | ret x =>
        cases hv
        exact fun v rv => q μ1 H1 v g1 d1 rv
      | brk σ1 => cases hv
      | cnt σ1 => cases hv
  · cases hv
end
section
variable {X : Cx} {mg : Str → Option Value} {c : Str} {i : Nat} {a : Addr} {cls : Value} {d : Option Addr}
def callHF (rz : Bool) (φ : Fx) (g : SA) : SE := fun σ st => if rz = true then callF φ g σ st else none
theorem hot_of {oe : Obj} {pn : List (Addr × Obj)} (hz : L2N.Zn cls d oe) (hf : ∃ vs, oe.data = .fields vs) : L2H.HotC (X.suite a ((a, oe) :: pn)) := by
  obtain ⟨vs, e⟩ := hf
  exact ⟨(a, oe), ⟨rfl, vs, e, hz.2.2 vs e⟩, List.mem_cons_self ..⟩
theorem ue_callH {oe : Obj} {pn : List (Addr × Obj)} {x : Str} {ps : List Str} {φ : Fx} {rz : Bool} {k : Nat} {p pos : Pos} {e : Expr} {es : List Expr} {g : List D → SA} (C : CalH X.prog X.w X.K X.mg X.base 1 x ps φ) (hr : Room k X.A) (hk : rz = true → 2 ≤ k) (hz : L2N.Zn cls d oe) (hf : ∃ vs, oe.data = .fields vs)
    (hg : Gl (X.suite a ((a, oe) :: pn)) x) (ha : PA (X.suite a ((a, oe) :: pn)) (e :: es) (rdUA X.K X.w mg c i g a cls d)) (hdb : (x == ("__debug__" : Str)) = false := by decide) (he : starEach (e :: es) X.env = (false, eval e X.env) :: starEach es X.env := by rfl) (hpl : (backTo pos (starEach es X.env)).any (·.1) = false := by rfl) :
    PE (X.suite a ((a, oe) :: pn)) (.Call (.Name x p) (e :: es) [] pos) (rdUE X.K X.w mg c i (fun ds => callHF rz φ (g ds)) a cls d) := by
  obtain ⟨f, fd, F, hm, hkp, hb⟩ := C.ex
  by_cases hzz : rz = true
  · have hrh : L2H.RoomH 1 (X.suite a ((a, oe) :: pn)).A := L2H.roomH_mark (hr.mono (Nat.le_trans (by decide) (hk hzz))) _
    refine (L2H.pe_callH (X := X.suite a ((a, oe) :: pn)) (E := fun _ => E0) F hrh (hot_of hz hf) hg hm hkp hb (fun σ _ _ _ _ _ _ h => h.elim) ha hdb he hpl).weak fun τ H Q ⟨μ, st, σ, x0, st', ds, C', dd, fs, gd, er, h1, h2, h3, h4, h5, h6, hv, kk⟩ => ?_
    unfold callHF at hv
    have hv2 : (if rz = true then callF φ (g ds) σ st else none) = some (x0, st') := hv
    rw [if_pos hzz] at hv2
    obtain ⟨xs, s1, e1, hv⟩ := bnd_eq hv2
    refine ⟨μ, st, σ, xs, s1, ds, C', dd, fs, gd, er, h1, h2, h3, h4, h5, h6, e1, fun μ1 H1 vs g1 d1 r1 => ?_⟩
    exact ⟨by rw [← r1.len]; exact C.np _ _ _ _ hv, μ1, s1, xs, x0, st', d1, r1, hv, fun μ2 H2 v g2 d2 r2 => kk μ2 H2 v (g1.trans g2) d2 r2⟩
  · refine ⟨fun pins s σ H Q I h => ?_⟩
    obtain ⟨μ, st, σ', x0, st', ds, C', dd, fs, gd, er, h1, h2, h3, h4, h5, h6, hv, kk⟩ := h
    unfold callHF at hv
    have hv2 : (if rz = true then callF φ (g ds) σ' st else none) = some (x0, st') := hv
    rw [if_neg hzz] at hv2
    cases hv2
end
end Iv

/-! What a form comes to, the store left aside: it only grows. s is a store that is known; the run's store has grown out of it. -/
namespace Iv
open PySem L2
def Ev (s : Sto) (e : SE) (σ : Sl) (d : D) : Prop := ∀ st, Ext s st → ∃ st2, e σ st = some (d, st2) ∧ Ext st st2
def Ea (s : Sto) (e : SA) (σ : Sl) (d : List D) : Prop := ∀ st, Ext s st → ∃ st2, e σ st = some (d, st2) ∧ Ext st st2
def Et (s : Sto) (e : ST) (σ : Sl) (d : Bool) : Prop := ∀ st, Ext s st → ∃ st2, e σ st = some (d, st2) ∧ Ext st st2
def Eo (s : Sto) (e : SO) (σ : Sl) (d : Option Int) : Prop := ∀ st, Ext s st → ∃ st2, e σ st = some (d, st2) ∧ Ext st st2
def Es (s : Sto) (e : SS) (σ : Sl) (d : R) : Prop := ∀ st, Ext s st → ∃ st2, e σ st = some (d, st2) ∧ Ext st st2
def Ei (s : Sto) (i : SJ) (σ : Sl) (xs : List D) : Prop := ∀ st, Ext s st → ∃ J st2, i σ st = some (J, st2) ∧ Ext st st2 ∧ ∀ s3, Ext st2 s3 → items J s3 = some xs
/-- a call -/
def Rt (s : Sto) (φ : Fx) (ds : List D) (d : D) : Prop := ∀ st, Ext s st → ∃ st2, φ ds st = some (d, st2) ∧ Ext st st2
def O2 (s : Sto) (o : Op2) (x y d : D) : Prop := ∀ st, Ext s st → ∃ st2, o x y st = some (d, st2) ∧ Ext st st2
def O1 (s : Sto) (o : Op1) (x d : D) : Prop := ∀ st, Ext s st → ∃ st2, o x st = some (d, st2) ∧ Ext st st2
def ON (s : Sto) (o : OpN) (x : List D) (d : D) : Prop := ∀ st, Ext s st → ∃ st2, o x st = some (d, st2) ∧ Ext st st2
def OSl (s : Sto) (o : OpS) (x : D) (l h : Option Int) (d : D) : Prop := ∀ st, Ext s st → ∃ st2, o x l h st = some (d, st2) ∧ Ext st st2
section
variable {s : Sto} {σ σ1 σ2 : Sl} {d x y : D} {xs ys ds : List D} {f g h : SE} {a : SA} {c c2 : ST} {b b1 b2 : Bool} {p q : SS} {r : R} {lo hi : SO} {l u : Option Int} {i n m : Nat} {φ : Fx}
theorem Rt.mono {s2 : Sto} (h : Rt s φ ds d) (e : Ext s s2) : Rt s2 φ ds d := fun st k => h st (e.trans k)
theorem Ev.mono {s2 : Sto} (h : Ev s f σ d) (e : Ext s s2) : Ev s2 f σ d := fun st k => h st (e.trans k)
theorem Es.mono {s2 : Sto} (h : Es s p σ r) (e : Ext s s2) : Es s2 p σ r := fun st k => h st (e.trans k)
theorem Ev.var (h : σ[i]? = some (some d)) : Ev s (varF i) σ d := fun st _ => ⟨st, by rw [varF_eq, h], Ext.refl⟩
theorem Ev.cst : Ev s (cstF d) σ d := fun st _ => ⟨st, rfl, Ext.refl⟩
theorem Ev.bin {o : Op2} (hf : Ev s f σ x) (hg : Ev s g σ y) (ho : O2 s o x y d) : Ev s (binF o f g) σ d := fun st k => by
  obtain ⟨s1, e1, x1⟩ := hf st k
  obtain ⟨s2, e2, x2⟩ := hg s1 (k.trans x1)
  obtain ⟨s3, e3, x3⟩ := ho s2 ((k.trans x1).trans x2)
  exact ⟨s3, by rw [binF_eq, e1, bnd_some, e2, bnd_some, e3], (x1.trans x2).trans x3⟩
theorem Ev.un {o : Op1} (hf : Ev s f σ x) (ho : O1 s o x d) : Ev s (unF o f) σ d := fun st k => by
  obtain ⟨s1, e1, x1⟩ := hf st k
  obtain ⟨s3, e3, x3⟩ := ho s1 (k.trans x1)
  exact ⟨s3, by rw [unF_eq, e1, bnd_some, e3], x1.trans x3⟩
theorem Ea.nil : Ea s nilF σ [] := fun st _ => ⟨st, rfl, Ext.refl⟩
theorem Ea.cons (hf : Ev s f σ x) (ha : Ea s a σ xs) : Ea s (consF f a) σ (x :: xs) := fun st k => by
  obtain ⟨s1, e1, x1⟩ := hf st k
  obtain ⟨s2, e2, x2⟩ := ha s1 (k.trans x1)
  exact ⟨s2, by rw [consF_eq, e1, bnd_some, e2, bnd_some], x1.trans x2⟩
theorem Ev.app {o : OpN} (ha : Ea s a σ xs) (ho : ON s o xs d) : Ev s (appF o a) σ d := fun st k => by
  obtain ⟨s1, e1, x1⟩ := ha st k
  obtain ⟨s3, e3, x3⟩ := ho s1 (k.trans x1)
  exact ⟨s3, by rw [appF_eq, e1, bnd_some, e3], x1.trans x3⟩
theorem Ev.call (ha : Ea s a σ xs) (ho : Rt s φ xs d) : Ev s (callF φ a) σ d := fun st k => by
  obtain ⟨s1, e1, x1⟩ := ha st k
  obtain ⟨s3, e3, x3⟩ := ho s1 (k.trans x1)
  exact ⟨s3, by rw [callF_eq, e1, bnd_some, e3], x1.trans x3⟩
theorem Ev.tup (ha : Ea s a σ xs) (hl : decide (xs.length ≤ 1000000) = true) : Ev s (tupF a) σ (.tup xs) := fun st k => by
  obtain ⟨s1, e1, x1⟩ := ha st k
  have hl' : xs.length ≤ LIM := of_decide_eq_true hl
  exact ⟨s1, by rw [tupF_eq, e1, bnd_some, if_pos hl'], x1⟩
theorem Eo.none : Eo s noneO σ none := fun st _ => ⟨st, rfl, Ext.refl⟩
theorem Eo.some {v : Int} (hf : Ev s f σ (.int v)) : Eo s (someO f) σ (some v) := fun st k => by
  obtain ⟨s1, e1, x1⟩ := hf st k
  exact ⟨s1, by rw [someO_eq, e1, bnd_some], x1⟩
theorem Ev.sl {o : OpS} (hf : Ev s f σ x) (hl : Eo s lo σ l) (hh : Eo s hi σ u) (ho : OSl s o x l u d) : Ev s (slF o f lo hi) σ d := fun st k => by
  obtain ⟨s1, e1, x1⟩ := hf st k
  obtain ⟨s2, e2, x2⟩ := hl s1 (k.trans x1)
  obtain ⟨s3, e3, x3⟩ := hh s2 ((k.trans x1).trans x2)
  obtain ⟨s4, e4, x4⟩ := ho s3 (((k.trans x1).trans x2).trans x3)
  exact ⟨s4, by rw [slF_eq, e1, bnd_some, e2, bnd_some, e3, bnd_some, e4], ((x1.trans x2).trans x3).trans x4⟩
theorem Ev.ifT (hc : Et s c σ b) (hb : b = true) (hf : Ev s f σ d) : Ev s (ifF c f g) σ d := fun st k => by
  obtain ⟨s1, e1, x1⟩ := hc st k
  obtain ⟨s2, e2, x2⟩ := hf s1 (k.trans x1)
  exact ⟨s2, by rw [ifF_eq, e1, bnd_some, if_pos hb, e2], x1.trans x2⟩
theorem Ev.ifF (hc : Et s c σ b) (hb : b = false) (hg : Ev s g σ d) : Ev s (ifF c f g) σ d := fun st k => by
  obtain ⟨s1, e1, x1⟩ := hc st k
  obtain ⟨s2, e2, x2⟩ := hg s1 (k.trans x1)
  exact ⟨s2, by rw [ifF_eq, e1, bnd_some, if_neg (by simp [hb]), e2], x1.trans x2⟩
theorem Ev.and (hf : Ev s f σ (.bl b1)) (hg : b1 = true → Ev s g σ (.bl b2)) : Ev s (andF f g) σ (.bl (b1 && b2)) := fun st k => by
  obtain ⟨s1, e1, x1⟩ := hf st k
  cases b1 with
  | false => exact ⟨s1, by rw [andF_eq, e1]; rfl, x1⟩
  | true =>
    obtain ⟨s2, e2, x2⟩ := hg rfl s1 (k.trans x1)
    refine ⟨s2, ?_, x1.trans x2⟩
    rw [andF_eq, e1]
    show g σ s1 = _
    rw [e2, Bool.true_and]
theorem Ev.or (hf : Ev s f σ (.bl b1)) (hg : b1 = false → Ev s g σ (.bl b2)) : Ev s (orF f g) σ (.bl (b1 || b2)) := fun st k => by
  obtain ⟨s1, e1, x1⟩ := hf st k
  cases b1 with
  | true => exact ⟨s1, by rw [orF_eq, e1]; rfl, x1⟩
  | false =>
    obtain ⟨s2, e2, x2⟩ := hg rfl s1 (k.trans x1)
    refine ⟨s2, ?_, x1.trans x2⟩
    rw [orF_eq, e1]
    show g σ s1 = _
    rw [e2, Bool.false_or]
/-- a place of a tuple of texts -/
theorem Ev.tix {zs : List Str} {z : Str} (hf : Ev s f σ (.tup (zs.map .str))) (ha : Ea s a σ [.str z]) (hz : zs[n]? = some z) (hn : ∀ j w, j < n → zs[j]? = some w → w ≠ z) : Ev s (tixF f a) σ (.int n) := fun st k => by
  obtain ⟨s1, e1, x1⟩ := hf st k
  obtain ⟨s2, e2, x2⟩ := ha s1 (k.trans x1)
  refine ⟨s2, ?_, x1.trans x2⟩
  have ns : nst (zs.map .str) = true := by
    have h0 : zs ≠ [] := by rintro rfl; simp at hz
    unfold nst
    simp [h0, strD]
  have sd : strsD (zs.map .str) = some zs := by
    clear hz hn ns e1 hf
    induction zs with
    | nil => rfl
    | cons w zs ih => simp [strsD, ih]
  have ix : ∀ (zs : List Str) (n : Nat), zs[n]? = some z → (∀ j w, j < n → zs[j]? = some w → w ≠ z) → idxS zs z = some n := by
    intro zs
    induction zs with
    | nil => intro n h; simp at h
    | cons w zs ih =>
      intro n h h2
      cases n with
      | zero => simp at h; subst h; simp [idxS]
      | succ n =>
        have hw : w ≠ z := h2 0 w (by omega) rfl
        have := ih n (by simpa using h) (fun j v hj e => h2 (j + 1) v (by omega) (by simpa using e))
        unfold idxS
        simp [hw, this]
  rw [tixF_eq, e1, bnd_some]
  simp only [ns, if_true, e2, bnd_some]
  unfold indexC
  simp only [sd, ix zs n hz hn]
theorem Et.tru (hf : Ev s f σ x) (ht : ∀ st, truth x st = some b) : Et s (truF f) σ b := fun st k => by
  obtain ⟨s1, e1, x1⟩ := hf st k
  exact ⟨s1, by rw [truF_eq, e1, bnd_some, ht]; rfl, x1⟩
theorem Et.cmp {o : Op2} (hf : Ev s f σ x) (hg : Ev s g σ y) (ho : O2 s o x y (.bl b)) : Et s (cmpT o f g) σ b := Et.tru (Ev.bin hf hg ho) fun _ => rfl
theorem Et.and (hf : Et s c σ b1) (hg : b1 = true → Et s c2 σ b2) : Et s (andT c c2) σ (b1 && b2) := fun st k => by
  obtain ⟨s1, e1, x1⟩ := hf st k
  cases b1 with
  | false => exact ⟨s1, by rw [andT_eq, e1, bnd_some]; rfl, x1⟩
  | true =>
    obtain ⟨s2, e2, x2⟩ := hg rfl s1 (k.trans x1)
    exact ⟨s2, by rw [andT_eq, e1, bnd_some, if_pos rfl, e2, Bool.true_and], x1.trans x2⟩
theorem Et.or (hf : Et s c σ b1) (hg : b1 = false → Et s c2 σ b2) : Et s (orT c c2) σ (b1 || b2) := fun st k => by
  obtain ⟨s1, e1, x1⟩ := hf st k
  cases b1 with
  | true => exact ⟨s1, by rw [orT_eq, e1, bnd_some]; rfl, x1⟩
  | false =>
    obtain ⟨s2, e2, x2⟩ := hg rfl s1 (k.trans x1)
    exact ⟨s2, by rw [orT_eq, e1, bnd_some, if_neg (by simp), e2, Bool.false_or], x1.trans x2⟩
theorem Et.not (hf : Et s c σ b) : Et s (notT c) σ (!b) := fun st k => by
  obtain ⟨s1, e1, x1⟩ := hf st k
  exact ⟨s1, by rw [notT_eq, e1, bnd_some], x1⟩
theorem Et.of (hf : Et s c σ b) (h : b = b1) : Et s c σ b1 := h ▸ hf
theorem Ev.of (hf : Ev s f σ x) (h : x = d) : Ev s f σ d := h ▸ hf
theorem Es.nx : Es s nxS σ (.nx σ) := fun st _ => ⟨st, rfl, Ext.refl⟩
theorem Es.ret (hf : Ev s f σ d) : Es s (retS f) σ (.ret d) := fun st k => by
  obtain ⟨s1, e1, x1⟩ := hf st k
  exact ⟨s1, by rw [retS_eq, e1, bnd_some], x1⟩
theorem Es.asg {gg : Tg} (hf : Ev s f σ d) (hg : gg d σ = some σ1) : Es s (asgS gg f) σ (.nx σ1) := fun st k => by
  obtain ⟨s1, e1, x1⟩ := hf st k
  exact ⟨s1, by rw [asgS_eq, e1, bnd_some, hg]; rfl, x1⟩
theorem Es.seq (hp : Es s p σ (.nx σ1)) (hq : Es s q σ1 r) : Es s (seqS p q) σ r := fun st k => by
  obtain ⟨s1, e1, x1⟩ := hp st k
  obtain ⟨s2, e2, x2⟩ := hq s1 (k.trans x1)
  exact ⟨s2, by rw [seqS_eq, e1]; exact e2, x1.trans x2⟩
theorem Es.seqR (hp : Es s p σ (.ret d)) : Es s (seqS p q) σ (.ret d) := fun st k => by
  obtain ⟨s1, e1, x1⟩ := hp st k
  exact ⟨s1, by rw [seqS_eq, e1], x1⟩
theorem Es.ifT (hc : Et s c σ b) (hb : b = true) (hp : Es s p σ r) : Es s (ifS c p q) σ r := fun st k => by
  obtain ⟨s1, e1, x1⟩ := hc st k
  obtain ⟨s2, e2, x2⟩ := hp s1 (k.trans x1)
  exact ⟨s2, by rw [ifS_eq, e1, bnd_some, if_pos hb, e2], x1.trans x2⟩
theorem Es.ifF (hc : Et s c σ b) (hb : b = false) (hq : Es s q σ r) : Es s (ifS c p q) σ r := fun st k => by
  obtain ⟨s1, e1, x1⟩ := hc st k
  obtain ⟨s2, e2, x2⟩ := hq s1 (k.trans x1)
  exact ⟨s2, by rw [ifS_eq, e1, bnd_some, if_neg (by simp [hb]), e2], x1.trans x2⟩
/-- a list made by a comprehension, kept under a name -/
theorem Es.asgL (hf : ∀ st, Ext s st → ∃ st2 n, f σ st = some (.loc n, st2) ∧ Ext st st2 ∧ getL st2 n = some xs) (hq : ∀ (s2 : Sto) (n : Nat), Ext s s2 → getL s2 n = some xs → Es s2 q (σ.set i (some (.loc n))) r) : Es s (seqS (asgS (nmG i) f) q) σ r := fun st k => by
  obtain ⟨s1, n, e1, x1, g1⟩ := hf st k
  obtain ⟨s2, e2, x2⟩ := hq s1 n (k.trans x1) g1 s1 Ext.refl
  exact ⟨s2, by rw [seqS_eq, asgS_eq, e1, bnd_some]; exact e2, x1.trans x2⟩
theorem Es.of (hp : Es s p σ r) {r2 : R} (h : r = r2) : Es s p σ r2 := h ▸ hp
theorem Rt.run {ns np : Nat} (hl : ds.length = np) (h : Es s p (ds.map some ++ List.replicate (ns - np) none) (.ret d)) : Rt s (runF ns np p) ds d := fun st k => by
  obtain ⟨s1, e1, x1⟩ := h st k
  exact ⟨s1, run_ret hl e1, x1⟩
theorem Ei.tup (hf : Ev s f σ (.tup xs)) : Ei s (anyI f) σ xs := fun st k => by
  obtain ⟨s1, e1, x1⟩ := hf st k
  exact ⟨.cns xs, s1, by rw [anyI_eq, e1, bnd_some], x1, fun _ _ => rfl⟩
theorem Ei.loc (hf : Ev s f σ (.loc n)) (hg : getL s n = some xs) : Ei s (anyI f) σ xs := fun st k => by
  obtain ⟨s1, e1, x1⟩ := hf st k
  have g1 := (k.trans x1).getL hg
  exact ⟨.lst n, s1, by rw [anyI_eq, e1, bnd_some]; simp only [g1]; rfl, x1, fun s3 k3 => by rw [items_lst]; exact k3.getL g1⟩
theorem Ei.rng {v : Nat} (ha : Ea s a σ [.int v]) (hv : v ≤ LIM) : Ei s (rngI1 a) σ (rngD 0 v) := fun st k => by
  obtain ⟨s1, e1, x1⟩ := ha st k
  exact ⟨.cns _, s1, rng1_nat e1 hv, x1, fun _ _ => rfl⟩
theorem Ev.compF {vs : List Nat} {j : SJ} {gg : Tg} (φ : D → Option D) (hj : Ei s j σ xs) (hl : xs.length ≤ LIM)
    (h : ∀ x ∈ xs, ∃ σ1, gg x (wipeD σ vs) = some σ1 ∧ Et s c σ1 (φ x).isSome ∧ ∀ y, φ x = some y → Ev s f σ1 y) :
    ∀ st, Ext s st → ∃ st2 n, Iv.compF vs j gg c f σ st = some (.loc n, st2) ∧ Ext st st2 ∧ getL st2 n = some (xs.filterMap φ) := fun st k => by
  obtain ⟨J, s1, e1, x1, hJ⟩ := hj st k
  obtain ⟨s2, e2, x2, g2⟩ := compF_ok (vs := vs) (i := j) (g := gg) (c := c) (e := f) (σ := σ) (st := st) φ e1 hl hJ (fun i x ex st2 k2 => by
    obtain ⟨σ1, h1, h2, h3⟩ := h x (List.mem_of_getElem? ex)
    obtain ⟨t1, f1, y1⟩ := h2 st2 ((k.trans x1).trans k2)
    exact ⟨σ1, t1, h1, f1, y1, fun y ey => h3 y ey t1 (((k.trans x1).trans k2).trans y1)⟩)
  exact ⟨s2, s1.length, e2, x1.trans x2, getL_of g2⟩
theorem Ev.comp {vs : List Nat} {j : SJ} {gg : Tg} (φ : D → D) (hj : Ei s j σ xs) (hl : xs.length ≤ LIM)
    (h : ∀ x ∈ xs, ∃ σ1, gg x (wipeD σ vs) = some σ1 ∧ Ev s f σ1 (φ x)) :
    ∀ st, Ext s st → ∃ st2 n, Iv.compF vs j gg yesT f σ st = some (.loc n, st2) ∧ Ext st st2 ∧ getL st2 n = some (xs.map φ) := by
  have e : xs.map φ = xs.filterMap (fun x => some (φ x)) := by simp
  rw [e]
  exact Ev.compF _ hj hl fun x hx => by
    obtain ⟨σ1, h1, h2⟩ := h x hx
    exact ⟨σ1, h1, fun st _ => ⟨st, rfl, Ext.refl⟩, fun y ey => by cases ey; exact h2⟩
/-- a tuple of a list -/
theorem Ev.tupL {e : SE} (h : ∀ st, Ext s st → ∃ st2 n, e σ st = some (.loc n, st2) ∧ Ext st st2 ∧ getL st2 n = some xs) : Ev s (appF tupleO (consF e nilF)) σ (.tup xs) := fun st k => by
  obtain ⟨s1, n, e1, x1, g1⟩ := h st k
  exact ⟨s1, by rw [appF_eq, consF_eq, e1, bnd_some, nilF_eq, bnd_some, bnd_some, tupleO_loc, g1]; rfl, x1⟩
/-- a place of a list -/
theorem Ev.ixL {e : SE} {v : Int} (h : ∀ st, Ext s st → ∃ st2 n, e σ st = some (.loc n, st2) ∧ Ext st st2 ∧ getL st2 n = some xs) (hg : Ev s g σ (.int v)) (hx : atI xs v = some d) : Ev s (binF ixO e g) σ d := fun st k => by
  obtain ⟨s1, n, e1, x1, g1⟩ := h st k
  obtain ⟨s2, e2, x2⟩ := hg s1 (k.trans x1)
  exact ⟨s2, by rw [binF_eq, e1, bnd_some, e2, bnd_some, ixO_loc, x2.getL g1]; simp only [hx, Option.map_some], x1.trans x2⟩
/-! loops -/
theorem for_stay {J : It} {gg : Tg} (P : Nat → Sl → Prop) {s1 : Sto} (hx : Ext s s1) (hJ : ∀ s3, Ext s1 s3 → items J s3 = some xs)
    (h : ∀ (j : Nat) (σ : Sl) (d : D), xs[j]? = some d → P j σ → ∃ σ1 σ2, gg d σ = some σ1 ∧ Es s p σ1 (.nx σ2) ∧ P (j + 1) σ2) :
    ∀ (m i : Nat) (σ : Sl) (st : Sto), P i σ → Ext s1 st → i ≤ xs.length → xs.length - i < m → ∃ σ2 st2, forV J gg p m i σ st = some (.nx σ2, st2) ∧ P xs.length σ2 ∧ Ext st st2
  | 0, i, σ, st, hp, k, hi, hm => by omega
  | m + 1, i, σ, st, hp, k, hi, hm => by
    unfold forV
    simp only [hJ st k]
    cases e : xs[i]? with
    | none =>
      have e2 : i = xs.length := by
        have := List.getElem?_eq_none_iff.mp e
        omega
      subst e2
      exact ⟨σ, st, rfl, hp, Ext.refl⟩
    | some d =>
      obtain ⟨σ1, σ2, h1, h2, h3⟩ := h i σ d e hp
      obtain ⟨st2, e2, x2⟩ := h2 st (hx.trans k)
      have hlt := (List.getElem?_eq_some_iff.mp e).1
      simp only [h1, e2]
      obtain ⟨σ3, st3, e3, p3, x3⟩ := for_stay P hx hJ h m (i + 1) σ2 st2 h3 (k.trans x2) (by omega) (by omega)
      exact ⟨σ3, st3, e3, p3, x2.trans x3⟩
theorem for_leave {J : It} {gg : Tg} (P : Nat → Sl → Prop) (k0 : Nat) (hk0 : k0 < xs.length) {s1 : Sto} (hx : Ext s s1) (hJ : ∀ s3, Ext s1 s3 → items J s3 = some xs)
    (h : ∀ (j : Nat) (σ : Sl) (d : D), j < k0 → xs[j]? = some d → P j σ → ∃ σ1 σ2, gg d σ = some σ1 ∧ Es s p σ1 (.nx σ2) ∧ P (j + 1) σ2)
    (hk : ∀ (σ : Sl), P k0 σ → ∃ y σ1, xs[k0]? = some y ∧ gg y σ = some σ1 ∧ Es s p σ1 (.ret d)) :
    ∀ (m i : Nat) (σ : Sl) (st : Sto), P i σ → Ext s1 st → i ≤ k0 → xs.length - i < m → ∃ st2, forV J gg p m i σ st = some (.ret d, st2) ∧ Ext st st2
  | 0, i, σ, st, hp, k, hi, hm => by omega
  | m + 1, i, σ, st, hp, k, hi, hm => by
    unfold forV
    simp only [hJ st k]
    by_cases e : i = k0
    · subst e
      obtain ⟨y, σ1, h0, h1, h2⟩ := hk σ hp
      obtain ⟨st2, e2, x2⟩ := h2 st (hx.trans k)
      simp only [h0, h1, e2]
      exact ⟨st2, rfl, x2⟩
    · cases ex : xs[i]? with
      | none =>
        exfalso
        have h1 := List.getElem?_eq_none_iff.mp ex
        omega
      | some z =>
        obtain ⟨σ1, σ2, h1, h2, h3⟩ := h i σ z (by omega) ex hp
        obtain ⟨st2, e2, x2⟩ := h2 st (hx.trans k)
        have hlt := (List.getElem?_eq_some_iff.mp ex).1
        simp only [h1, e2]
        obtain ⟨st3, e3, x3⟩ := for_leave P k0 hk0 hx hJ h hk m (i + 1) σ2 st2 h3 (k.trans x2) (by omega) (by omega)
        exact ⟨st3, e3, x2.trans x3⟩
end
end Iv

namespace Iv
open PySem L2
section
variable {s : Sto} {σ σ1 σ2 : Sl} {d x y : D} {xs ys ds : List D} {f g h : SE} {a : SA} {c c2 : ST} {b b1 b2 : Bool} {p q : SS} {r : R} {lo hi : SO} {l u : Option Int} {i n m : Nat} {φ : Fx}
theorem O2.pure {o : Op2} (h : ∀ st, o x y st = some (d, st)) : O2 s o x y d := fun st _ => ⟨st, h st, Ext.refl⟩
theorem O1.pure {o : Op1} (h : ∀ st, o x st = some (d, st)) : O1 s o x d := fun st _ => ⟨st, h st, Ext.refl⟩
theorem ON.pure {o : OpN} (h : ∀ st, o xs st = some (d, st)) : ON s o xs d := fun st _ => ⟨st, h st, Ext.refl⟩
theorem OSl.pure {o : OpS} (h : ∀ st, o x l u st = some (d, st)) : OSl s o x l u d := fun st _ => ⟨st, h st, Ext.refl⟩
theorem o_eqss {x y : Str} : O2 s (eqO false) (.str x) (.str y) (.bl (decide (x = y))) := .pure fun _ => by rw [eqO_str, Bool.bne_false]
theorem o_ness {x y : Str} : O2 s (eqO true) (.str x) (.str y) (.bl (!decide (x = y))) := .pure fun _ => by rw [eqO_str, Bool.bne_true]
theorem o_eqii {x y : Int} : O2 s (eqO false) (.int x) (.int y) (.bl (decide (x = y))) := .pure fun _ => by rw [eqO_int, Bool.bne_false]
theorem o_neii {x y : Int} : O2 s (eqO true) (.int x) (.int y) (.bl (!decide (x = y))) := .pure fun _ => by rw [eqO_int, Bool.bne_true]
theorem o_eqis {x : Int} {y : Str} : O2 s (eqO false) (.int x) (.str y) (.bl false) := .pure fun _ => rfl
theorem o_neis {x : Int} {y : Str} : O2 s (eqO true) (.int x) (.str y) (.bl true) := .pure fun _ => rfl
theorem o_eqns {y : Str} : O2 s (eqO false) .non (.str y) (.bl false) := .pure fun _ => rfl
theorem o_nens {y : Str} : O2 s (eqO true) .non (.str y) (.bl true) := .pure fun _ => rfl
theorem o_eqni {y : Int} : O2 s (eqO false) .non (.int y) (.bl false) := .pure fun _ => rfl
theorem o_neni {y : Int} : O2 s (eqO true) .non (.int y) (.bl true) := .pure fun _ => rfl
theorem o_isN {x : D} : O2 s (isNO false) x .non (.bl (nonD x)) := .pure fun _ => by rw [isNO_non, Bool.bne_false]
theorem o_notN {x : D} : O2 s (isNO true) x .non (.bl (!nonD x)) := .pure fun _ => by rw [isNO_non, Bool.bne_true]
theorem o_isNn : O2 s (isNO false) .non .non (.bl true) := o_isN
theorem o_isNi {x : Int} : O2 s (isNO false) (.int x) .non (.bl false) := o_isN
theorem o_isNs {x : Str} : O2 s (isNO false) (.str x) .non (.bl false) := o_isN
theorem o_isNt {x : List D} : O2 s (isNO false) (.tup x) .non (.bl false) := o_isN
theorem o_notNn : O2 s (isNO true) .non .non (.bl false) := o_notN
theorem o_notNi {x : Int} : O2 s (isNO true) (.int x) .non (.bl true) := o_notN
theorem o_notNs {x : Str} : O2 s (isNO true) (.str x) .non (.bl true) := o_notN
theorem o_notNt {x : List D} : O2 s (isNO true) (.tup x) .non (.bl true) := o_notN
theorem o_add {x y : Int} : O2 s addO (.int x) (.int y) (.int (x + y)) := .pure fun _ => rfl
theorem o_sub {x y : Int} : O2 s subO (.int x) (.int y) (.int (x - y)) := .pure fun _ => rfl
theorem o_lt {x y : Int} : O2 s ltO (.int x) (.int y) (.bl (decide (x < y))) := .pure fun _ => rfl
theorem o_le {x y : Int} : O2 s leO (.int x) (.int y) (.bl (decide (x ≤ y))) := .pure fun _ => rfl
theorem o_gt {x y : Int} : O2 s gtO (.int x) (.int y) (.bl (decide (y < x))) := .pure fun _ => rfl
theorem o_ge {x y : Int} : O2 s geO (.int x) (.int y) (.bl (decide (y ≤ x))) := .pure fun _ => rfl
theorem o_ix0 {ds : List D} : O2 s ixO (.tup (d :: ds)) (.int 0) d := .pure fun _ => by
  have e : atI (d :: ds) 0 = some d := atI_nat (j := 0) rfl
  rw [ixO_tup, e]; rfl
theorem o_ix1 {ds : List D} : O2 s ixO (.tup (x :: d :: ds)) (.int 1) d := .pure fun _ => by
  have e : atI (x :: d :: ds) 1 = some d := atI_nat (j := 1) rfl
  rw [ixO_tup, e]; rfl
theorem o_ix2 {ds : List D} : O2 s ixO (.tup (x :: y :: d :: ds)) (.int 2) d := .pure fun _ => by
  have e : atI (x :: y :: d :: ds) 2 = some d := atI_nat (j := 2) rfl
  rw [ixO_tup, e]; rfl
theorem o_ix3 {z : D} {ds : List D} : O2 s ixO (.tup (x :: y :: z :: d :: ds)) (.int 3) d := .pure fun _ => by
  have e : atI (x :: y :: z :: d :: ds) 3 = some d := atI_nat (j := 3) rfl
  rw [ixO_tup, e]; rfl
theorem o_ix4 {z z2 : D} {ds : List D} : O2 s ixO (.tup (x :: y :: z :: z2 :: d :: ds)) (.int 4) d := .pure fun _ => by
  have e : atI (x :: y :: z :: z2 :: d :: ds) 4 = some d := atI_nat (j := 4) rfl
  rw [ixO_tup, e]; rfl
theorem o_ixn {k : Nat} (h : xs[k]? = some d) : O2 s ixO (.tup xs) (.int k) d := .pure fun _ => by rw [ixO_tup, atI_nat h]; rfl
theorem o_len : ON s lenO [.tup xs] (.int xs.length) := .pure fun _ => rfl
theorem o_intb : ON s intOf [.bl b] (.int (if b then 1 else 0)) := .pure fun _ => rfl
theorem o_inti {v : Int} : ON s intOf [.int v] (.int v) := .pure fun _ => rfl
theorem o_dget {kvs : List (Str × D)} {z : Str} : ON s (dgetO kvs) [.str z] ((lkp kvs z).getD .non) := .pure fun _ => rfl
theorem o_dit {kvs : List (Str × D)} {z : Str} (h : lkp kvs z = some d) : O1 s (ditO kvs) (.str z) d := .pure fun _ => by rw [ditO_str, h]; rfl
theorem o_cat (hl : xs.length + ys.length ≤ 1000000) (hn : nst (xs ++ ys) = false) : O2 s addO (.tup xs) (.tup ys) (.tup (xs ++ ys)) := .pure fun _ => by
  have hl' : xs.length + ys.length ≤ LIM := hl
  rw [addO_tup, if_pos ⟨hl', hn⟩]
theorem o_cut (h : nst (cutD xs l u) = false) : OSl s cutO (.tup xs) l u (.tup (cutD xs l u)) := .pure fun _ => by rw [cutO_tup, h]; rfl
theorem o_tuple : ON s tupleO [.tup xs] (.tup xs) := .pure fun _ => rfl
theorem Es.asgN (hf : Ev s f σ d) : Es s (asgS (nmG i) f) σ (.nx (σ.set i (some d))) := Es.asg hf rfl
theorem Es.asg4 {i0 i1 i2 i3 : Nat} {d0 d1 d2 d3 : D} (hf : Ev s f σ (.tup [d0, d1, d2, d3])) : Es s (asgS (tupG [i0, i1, i2, i3]) f) σ (.nx ((((σ.set i0 (some d0)).set i1 (some d1)).set i2 (some d2)).set i3 (some d3))) := Es.asg hf rfl
theorem Es.asg2 {i0 i1 : Nat} {d0 d1 : D} (hf : Ev s f σ (.tup [d0, d1])) : Es s (asgS (tupG [i0, i1]) f) σ (.nx ((σ.set i0 (some d0)).set i1 (some d1))) := Es.asg hf rfl
theorem Es.seqA (hf : Ev s f σ d) (h : σ.set i (some d) = σ1) (hq : Es s q σ1 r) : Es s (seqS (asgS (nmG i) f) q) σ r := Es.seq (Es.asgN hf) (h ▸ hq)
theorem Es.seqA4 {i0 i1 i2 i3 : Nat} {d0 d1 d2 d3 : D} (hf : Ev s f σ (.tup [d0, d1, d2, d3])) (h : (((σ.set i0 (some d0)).set i1 (some d1)).set i2 (some d2)).set i3 (some d3) = σ1) (hq : Es s q σ1 r) : Es s (seqS (asgS (tupG [i0, i1, i2, i3]) f) q) σ r := Es.seq (Es.asg4 hf) (h ▸ hq)
theorem Es.seqA2 {i0 i1 : Nat} {d0 d1 : D} (hf : Ev s f σ (.tup [d0, d1])) (h : (σ.set i0 (some d0)).set i1 (some d1) = σ1) (hq : Es s q σ1 r) : Es s (seqS (asgS (tupG [i0, i1]) f) q) σ r := Es.seq (Es.asg2 hf) (h ▸ hq)
/-- an if that leaves -/
theorem Es.seqRT (hc : Et s c σ b) (hb : b = true) (hf : Ev s f σ d) : Es s (seqS (ifS c (retS f) p) q) σ (.ret d) := Es.seqR (Es.ifT hc hb (Es.ret hf))
/-- an if that is passed -/
theorem Es.seqRF (hc : Et s c σ b) (hb : b = false) (hq : Es s q σ r) : Es s (seqS (ifS c p nxS) q) σ r := Es.seq (Es.ifF hc hb Es.nx) hq
/-- an if that gives a name -/
theorem Es.seqT (hc : Et s c σ b) (hb : b = true) (hp : Es s p σ (.nx σ1)) (hq : Es s q σ1 r) : Es s (seqS (ifS c p c3) q) σ r := Es.seq (Es.ifT hc hb hp) hq
theorem Es.seqF (hc : Et s c σ b) (hb : b = false) (hp : Es s c3 σ (.nx σ1)) (hq : Es s q σ1 r) : Es s (seqS (ifS c p c3) q) σ r := Es.seq (Es.ifF hc hb hp) hq
theorem Es.seqTR (hc : Et s c σ b) (hb : b = true) (hp : Es s p σ (.ret d)) : Es s (seqS (ifS c p c3) q) σ (.ret d) := Es.seqR (Es.ifT hc hb hp)
end
end Iv

namespace Iv
open PySem L2
/-! comprehensions over a list that is a map; what is kept may speak of the item itself -/
section
variable {α : Type} {s : Sto} {σ σ1 : Sl} {f e : SE} {c : ST} {j : SJ} {gg : Tg}
theorem compM_loop {J : It} {L : List α} {fd : α → D} {σ0 : Sl} {st1 : Sto} {n : Nat} (φ : α → Option D) (hn : st1.length ≤ n) (hz : L.length ≤ LIM) (hJ : ∀ s, Ext st1 s → items J s = some (L.map fd))
    (h : ∀ x ∈ L, ∀ st, Ext st1 st → ∃ σ1 st2, gg (fd x) σ0 = some σ1 ∧ c σ1 st = some ((φ x).isSome, st2) ∧ Ext st st2 ∧ ∀ y, φ x = some y → ∃ st3, e σ1 st2 = some (y, st3) ∧ Ext st2 st3) :
    ∀ (m i : Nat) (s : Sto), Ext st1 s → s[n]? = some (.lst ((L.take i).filterMap φ)) → i ≤ L.length → L.length - i < m → ∃ s2, compV J gg c e n σ0 m i s = some s2 ∧ Ext st1 s2 ∧ s2[n]? = some (.lst (L.filterMap φ))
  | 0, i, s, _, _, _, hm => by omega
  | m + 1, i, s, hs, ha, hi, hm => by
    unfold compV
    simp only [hJ s hs, List.getElem?_map]
    cases ex : L[i]? with
    | none =>
      have e2 : i = L.length := by
        have := List.getElem?_eq_none_iff.mp ex
        omega
      subst e2
      rw [List.take_length] at ha
      exact ⟨s, rfl, hs, ha⟩
    | some x =>
      have hlt := (List.getElem?_eq_some_iff.mp ex).1
      obtain ⟨σ1, s2, e1, e2, x2, e3⟩ := h x (List.mem_of_getElem? ex) s hs
      have ht : (L.take (i + 1)).filterMap φ = (L.take i).filterMap φ ++ (match φ x with
        | some y => [y]
        | none => []) := by
        rw [List.take_add_one, ex, List.filterMap_append]
        cases hx : φ x <;> simp [hx]
      cases hx : φ x with
      | none =>
        rw [hx] at e2 ht
        simp only [Option.map_some, e1, e2, bnd_some, Option.isSome_none, Bool.false_eq_true, if_false]
        exact compM_loop φ hn hz hJ h m (i + 1) _ (hs.trans x2) (by rw [ht, List.append_nil]; exact x2.at ha) hlt (by omega)
      | some y =>
        obtain ⟨s3, e4, x3⟩ := e3 y hx
        rw [hx] at e2 ht
        have hs3 := (hs.trans x2).trans x3
        have ha3 := x3.at (x2.at ha)
        have ga : getM s3 n = some ((L.take i).filterMap φ) := getM_of ha3
        have hl : ((L.take i).filterMap φ).length < LIM := by
          have h1 := List.length_filterMap_le φ (L.take i)
          rw [List.length_take] at h1
          exact Nat.lt_of_lt_of_le (by omega) hz
        have hn2 : n < s3.length := (List.getElem?_eq_some_iff.mp ha3).1
        simp only [Option.map_some, e1, e2, bnd_some, Option.isSome_some, if_true, e4, ga, hl]
        refine compM_loop φ hn hz hJ h m (i + 1) _ (hs3.set hn) ?_ hlt (by omega)
        rw [List.getElem?_set_self hn2, ht]
theorem Ev.compMn {vs : List Nat} {L : List α} {fd : α → D} (φ : α → Option D) (hj : Ei s j σ (L.map fd)) (hl : L.length ≤ LIM)
    (h : ∀ x ∈ L, ∃ σ1, gg (fd x) (wipeD σ vs) = some σ1 ∧ Et s c σ1 (φ x).isSome ∧ ∀ y, φ x = some y → Ev s e σ1 y) :
    ∀ st, Ext s st → ∃ st2 n, Iv.compF vs j gg c e σ st = some (.loc n, st2) ∧ Ext st st2 ∧ getL st2 n = some (L.filterMap φ) ∧ st.length ≤ n := fun st k => by
  obtain ⟨J, s1, e1, x1, hJ⟩ := hj st k
  obtain ⟨s2, e2, x2, g2⟩ := compM_loop (gg := gg) (c := c) (e := e) (n := s1.length) (σ0 := wipeD σ vs) φ (Nat.le_refl _) hl hJ (fun x hx st2 k2 => by
    obtain ⟨σ1, h1, h2, h3⟩ := h x hx
    obtain ⟨t1, f1, y1⟩ := h2 st2 ((k.trans x1).trans k2)
    exact ⟨σ1, t1, h1, f1, y1, fun y ey => h3 y ey t1 (((k.trans x1).trans k2).trans y1)⟩) (L.length + 1) 0 (s1 ++ [.lst []]) (Ext.app _) (by simp) (Nat.zero_le _) (by omega)
  refine ⟨s2, s1.length, ?_, x1.trans x2, getL_of g2, x1.1⟩
  unfold Iv.compF
  simp only [e1, bnd_some, hJ s1 Ext.refl, List.length_map, e2, Option.map_some]
theorem Ev.compM {vs : List Nat} {L : List α} {fd : α → D} (φ : α → Option D) (hj : Ei s j σ (L.map fd)) (hl : L.length ≤ LIM)
    (h : ∀ x ∈ L, ∃ σ1, gg (fd x) (wipeD σ vs) = some σ1 ∧ Et s c σ1 (φ x).isSome ∧ ∀ y, φ x = some y → Ev s e σ1 y) :
    ∀ st, Ext s st → ∃ st2 n, Iv.compF vs j gg c e σ st = some (.loc n, st2) ∧ Ext st st2 ∧ getL st2 n = some (L.filterMap φ) := fun st k => by
  obtain ⟨s2, n, h1, h2, h3, _⟩ := Ev.compMn φ hj hl h st k
  exact ⟨s2, n, h1, h2, h3⟩
/-- what is kept, tested by a truth value -/
theorem Ev.compB {vs : List Nat} {L : List α} {fd : α → D} (b : α → Bool) (φ : α → D) (hj : Ei s j σ (L.map fd)) (hl : L.length ≤ LIM)
    (h : ∀ x ∈ L, ∃ σ1, gg (fd x) (wipeD σ vs) = some σ1 ∧ Et s c σ1 (b x) ∧ (b x = true → Ev s e σ1 (φ x))) :
    ∀ st, Ext s st → ∃ st2 n, Iv.compF vs j gg c e σ st = some (.loc n, st2) ∧ Ext st st2 ∧ getL st2 n = some ((L.filter b).map φ) := by
  have e0 : (L.filter b).map φ = L.filterMap (fun x => if b x = true then some (φ x) else none) := by
    induction L with
    | nil => rfl
    | cons x L ih =>
      have hl' : L.length ≤ LIM := by rw [List.length_cons] at hl; omega
      rw [List.filter_cons, List.filterMap_cons]
      clear hj h hl hl' ih
      induction L generalizing x with
      | nil => by_cases hb : b x = true <;> simp [hb]
      | cons y L ih =>
        have := ih y
        rw [List.filter_cons, List.filterMap_cons]
        by_cases hb : b x = true <;> by_cases hy : b y = true <;> simp [hb, hy] at this ⊢ <;> exact this
  rw [e0]
  refine Ev.compM _ hj hl fun x hx => ?_
  obtain ⟨σ1, h1, h2, h3⟩ := h x hx
  refine ⟨σ1, h1, ?_, fun y hy => ?_⟩
  · have : (if b x = true then some (φ x) else none).isSome = b x := by cases b x <;> rfl
    rw [this]; exact h2
  · by_cases hb : b x = true
    · rw [if_pos hb] at hy; cases hy; exact h3 hb
    · rw [if_neg hb] at hy; cases hy
end
end Iv

namespace Iv
open PySem L2
/-! statements, with what is wanted of their end -/
def Ep (s : Sto) (p : SS) (σ : Sl) (Q : R → Prop) : Prop := ∀ st, Ext s st → ∃ r st2, p σ st = some (r, st2) ∧ Q r ∧ Ext st st2
theorem ext_nil {st : Sto} : Ext [] st := ⟨Nat.zero_le _, fun n h => absurd h (Nat.not_lt_zero _)⟩
section
variable {s : Sto} {σ σ1 σ2 : Sl} {d : D} {xs ds : List D} {f : SE} {c : ST} {b : Bool} {p q : SS} {r : R} {Q Q' : R → Prop} {i : SJ} {gg : Tg}
theorem Es.ep (h : Es s p σ r) (hq : Q r) : Ep s p σ Q := fun st k => by
  obtain ⟨st2, e, x⟩ := h st k
  exact ⟨r, st2, e, hq, x⟩
theorem Ep.mono (h : Ep s p σ Q) (k : ∀ r, Q r → Q' r) : Ep s p σ Q' := fun st e => by
  obtain ⟨r, st2, e, hq, x⟩ := h st e
  exact ⟨r, st2, e, k r hq, x⟩
theorem Ep.ext {s2 : Sto} (h : Ep s p σ Q) (e : Ext s s2) : Ep s2 p σ Q := fun st k => h st (e.trans k)
theorem Ep.seq (h : Ep s p σ fun r => match r with
    | .nx σ' => Ep s q σ' Q
    | r => Q r) : Ep s (seqS p q) σ Q := fun st k => by
  obtain ⟨r, s1, e, hq, x⟩ := h st k
  cases r with
  | nx σ' =>
    obtain ⟨r, s2, e2, hq2, x2⟩ := hq s1 (k.trans x)
    exact ⟨r, s2, by rw [seqS_eq, e]; exact e2, hq2, x.trans x2⟩
  | brk σ' => exact ⟨_, s1, by rw [seqS_eq, e], hq, x⟩
  | cnt σ' => exact ⟨_, s1, by rw [seqS_eq, e], hq, x⟩
  | ret d => exact ⟨_, s1, by rw [seqS_eq, e], hq, x⟩
theorem Ep.nx (hp : Es s p σ (.nx σ1)) (hq : Ep s q σ1 Q) : Ep s (seqS p q) σ Q := Ep.seq (hp.ep hq)
theorem Ep.if (hc : Et s c σ b) (h1 : b = true → Ep s p σ Q) (h2 : b = false → Ep s q σ Q) : Ep s (ifS c p q) σ Q := fun st k => by
  obtain ⟨s1, e, x⟩ := hc st k
  cases b with
  | true =>
    obtain ⟨r, s2, e2, hq, x2⟩ := h1 rfl s1 (k.trans x)
    exact ⟨r, s2, by rw [ifS_eq, e, bnd_some, if_pos rfl, e2], hq, x.trans x2⟩
  | false =>
    obtain ⟨r, s2, e2, hq, x2⟩ := h2 rfl s1 (k.trans x)
    exact ⟨r, s2, by rw [ifS_eq, e, bnd_some, if_neg (by simp), e2], hq, x.trans x2⟩
theorem Ep.asgL {j : Nat} (hf : ∀ st, Ext s st → ∃ st2 n, f σ st = some (.loc n, st2) ∧ Ext st st2 ∧ getL st2 n = some xs) (hq : ∀ (s2 : Sto) (n : Nat), Ext s s2 → getL s2 n = some xs → Ep s2 q (σ.set j (some (.loc n))) Q) : Ep s (seqS (asgS (nmG j) f) q) σ Q := fun st k => by
  obtain ⟨s1, n, e1, x1, g1⟩ := hf st k
  obtain ⟨r, s2, e2, hq2, x2⟩ := hq s1 n (k.trans x1) g1 s1 Ext.refl
  exact ⟨r, s2, by rw [seqS_eq, asgS_eq, e1, bnd_some]; exact e2, hq2, x1.trans x2⟩
theorem ep_for (P : Nat → Sl → Prop) {J : It} {s1 : Sto} (hx : Ext s s1) (hJ : ∀ s3, Ext s1 s3 → items J s3 = some xs)
    (h : ∀ (j : Nat) (σ : Sl) (d : D), xs[j]? = some d → P j σ → ∃ σ1, gg d σ = some σ1 ∧ Ep s p σ1 fun r => match r with
      | .nx σ2 => P (j + 1) σ2
      | .cnt σ2 => P (j + 1) σ2
      | .brk σ2 => Q (.nx σ2)
      | .ret d => Q (.ret d)) (he : ∀ σ, P xs.length σ → Q (.nx σ)) :
    ∀ (m i : Nat) (σ : Sl) (st : Sto), P i σ → Ext s1 st → i ≤ xs.length → xs.length - i < m → ∃ r st2, forV J gg p m i σ st = some (r, st2) ∧ Q r ∧ Ext st st2
  | 0, i, σ, st, hp, k, hi, hm => by omega
  | m + 1, i, σ, st, hp, k, hi, hm => by
    unfold forV
    simp only [hJ st k]
    cases e : xs[i]? with
    | none =>
      have e2 : i = xs.length := by
        have := List.getElem?_eq_none_iff.mp e
        omega
      subst e2
      exact ⟨.nx σ, st, rfl, he σ hp, Ext.refl⟩
    | some d =>
      obtain ⟨σ1, h1, h2⟩ := h i σ d e hp
      obtain ⟨r, st2, e2, h3, x2⟩ := h2 st (hx.trans k)
      have hlt := (List.getElem?_eq_some_iff.mp e).1
      simp only [h1, e2]
      cases r with
      | nx σ2 =>
        obtain ⟨r, st3, e3, p3, x3⟩ := ep_for P hx hJ h he m (i + 1) σ2 st2 h3 (k.trans x2) (by omega) (by omega)
        exact ⟨r, st3, e3, p3, x2.trans x3⟩
      | cnt σ2 =>
        obtain ⟨r, st3, e3, p3, x3⟩ := ep_for P hx hJ h he m (i + 1) σ2 st2 h3 (k.trans x2) (by omega) (by omega)
        exact ⟨r, st3, e3, p3, x2.trans x3⟩
      | brk σ2 => exact ⟨.nx σ2, st2, rfl, h3, x2⟩
      | ret d => exact ⟨.ret d, st2, rfl, h3, x2⟩
theorem Ep.for (P : Nat → Sl → Prop) (hi : Ei s i σ xs) (h0 : P 0 σ)
    (h : ∀ (j : Nat) (σ : Sl) (d : D), xs[j]? = some d → P j σ → ∃ σ1, gg d σ = some σ1 ∧ Ep s p σ1 fun r => match r with
      | .nx σ2 => P (j + 1) σ2
      | .cnt σ2 => P (j + 1) σ2
      | .brk σ2 => Q (.nx σ2)
      | .ret d => Q (.ret d)) (he : ∀ σ, P xs.length σ → Q (.nx σ)) : Ep s (forS i gg p) σ Q := fun st k => by
  obtain ⟨J, s1, e1, x1, hJ⟩ := hi st k
  obtain ⟨r, s2, e2, q2, x2⟩ := ep_for P (k.trans x1) hJ h he (xs.length + 1) 0 σ s1 h0 Ext.refl (Nat.zero_le _) (by omega)
  refine ⟨r, s2, ?_, q2, x1.trans x2⟩
  have e0 : items J s1 = some xs := hJ s1 Ext.refl
  rw [forS_eq, e1, bnd_some]
  simp only [e0]
  exact e2
theorem Ep.run {ns np : Nat} {Q : D → Prop} (hl : ds.length = np) (h : Ep s p (ds.map some ++ List.replicate (ns - np) none) fun r => match r with
    | .nx _ => Q .non
    | .ret d => Q d
    | _ => False) : ∀ st, Ext s st → ∃ d st2, runF ns np p ds st = some (d, st2) ∧ Q d ∧ Ext st st2 := fun st k => by
  obtain ⟨r, s1, e1, q1, x1⟩ := h st k
  cases r with
  | nx σ => exact ⟨_, s1, run_nx hl e1, q1, x1⟩
  | ret d => exact ⟨d, s1, run_ret hl e1, q1, x1⟩
  | brk σ => exact q1.elim
  | cnt σ => exact q1.elim
theorem Rt.runP {ns np : Nat} {d : D} (hl : ds.length = np) (h : Ep s p (ds.map some ++ List.replicate (ns - np) none) fun r => match r with
    | .nx _ => d = .non
    | .ret e => d = e
    | _ => False) : Rt s (runF ns np p) ds d := fun st k => by
  obtain ⟨e, st2, h1, h2, x⟩ := Ep.run (Q := fun e => d = e) hl h st k
  rw [h2]; exact ⟨st2, h1, x⟩
theorem wp_ep {Q : R → Sto → Prop} (h : Ep s p σ Q') {st : Sto} (k : Ext s st) (hq : ∀ r st2, Q' r → Ext st st2 → Q r st2) : Wp (p σ st) Q := by
  obtain ⟨r, st2, e, q, x⟩ := h st k
  exact ⟨r, st2, e, hq r st2 q x⟩
end
end Iv

namespace Iv
open PySem L2
/-! the store in view, the parts by the rules that leave it aside -/
section
variable {st : Sto} {σ σ1 σ2 : Sl} {d : D} {xs ds l : List D} {f : SE} {a : SA} {c : ST} {b : Bool} {p q : SS} {r : R} {Q Q' : R → Sto → Prop} {i n : Nat} {gg : Tg}
theorem wp_esE (h : Es st p σ (.nx σ1)) (k : ∀ st2, Ext st st2 → Wp (q σ1 st2) Q) : Wp (seqS p q σ st) Q := by
  obtain ⟨s2, e, x⟩ := h st Ext.refl
  exact wp_nx e (k s2 x)
theorem wp_asE (h : Ev st f σ d) (k : ∀ st2, Ext st st2 → Wp (q (σ.set i (some d)) st2) Q) : Wp (seqS (asgS (nmG i) f) q σ st) Q := wp_esE (Es.asgN h) k
theorem wp_endE (h : Es st p σ r) (k : ∀ st2, Ext st st2 → Q r st2) : Wp (p σ st) Q := by
  obtain ⟨s2, e, x⟩ := h st Ext.refl
  exact wp_ok e (k s2 x)
theorem wp_retE (h : Ev st f σ d) (k : ∀ st2, Ext st st2 → Q (.ret d) st2) : Wp (retS f σ st) Q := wp_endE (Es.ret h) k
theorem wp_ifE (h : Et st c σ b) (h1 : b = true → ∀ st2, Ext st st2 → Wp (p σ st2) Q) (h2 : b = false → ∀ st2, Ext st st2 → Wp (q σ st2) Q) : Wp (ifS c p q σ st) Q := by
  obtain ⟨s2, e, x⟩ := h st Ext.refl
  exact wp_if e (fun e => h1 e s2 x) (fun e => h2 e s2 x)
/-- something is put behind a list -/
theorem wp_pushE (ho : σ[i]? = some (some (.loc n))) (h : Ev st f σ d) (g : st[n]? = some (.lst l)) (hl : l.length < 1000000) (k : ∀ st2, Ext st st2 → st2[n]? = some (.lst l) → Q (.nx σ) (st2.set n (.lst (l ++ [d])))) : Wp (exS (bmF "list" appendO (varF i) (consF f nilF)) σ st) Q := by
  obtain ⟨s2, e, x⟩ := h st Ext.refl
  have g2 := x.at g
  refine wp_ok (r := .nx σ) (st := s2.set n (.lst (l ++ [d]))) ?_ (k s2 x g2)
  have hl' : l.length < LIM := hl
  have gm : getM s2 n = some l := getM_of g2
  rw [exS_eq, bmF_eq, varF_eq, ho]
  simp only [bnd_some, isTy_list, getL_of g, Option.isSome_some, if_true, consF_eq, e, nilF_eq, appendO_eq, gm, if_pos hl']
theorem wp_forT (P : Nat → Sl → Sto → Prop) (h : Ev st f σ (.tup xs)) (h0 : ∀ s1, Ext st s1 → P 0 σ s1)
    (hb : ∀ (j : Nat) (σ : Sl) (s : Sto) (d : D), xs[j]? = some d → P j σ s → ∃ σ1, gg d σ = some σ1 ∧ Wp (p σ1 s) fun r s => match r with
      | .nx σ2 => P (j + 1) σ2 s
      | .cnt σ2 => P (j + 1) σ2 s
      | .brk σ2 => Q (.nx σ2) s
      | .ret d => Q (.ret d) s)
    (he : ∀ σ s, P xs.length σ s → Q (.nx σ) s) : Wp (forS (anyI f) gg p σ st) Q := by
  obtain ⟨s1, e, x⟩ := h st Ext.refl
  exact wp_for (st1 := s1) P (by rw [anyI_eq, e, bnd_some]) (h0 s1 x) hb he
theorem wp_forR {v : Nat} (P : Nat → Sl → Sto → Prop) (h : Ea st a σ [.int v]) (hv : v ≤ 1000000) (h0 : ∀ s1, Ext st s1 → P 0 σ s1)
    (hb : ∀ (j : Nat) (σ : Sl) (s : Sto), j < v → P j σ s → ∃ σ1, gg (.int (j : Nat)) σ = some σ1 ∧ Wp (p σ1 s) fun r s => match r with
      | .nx σ2 => P (j + 1) σ2 s
      | .cnt σ2 => P (j + 1) σ2 s
      | .brk σ2 => Q (.nx σ2) s
      | .ret d => Q (.ret d) s)
    (he : ∀ σ s, P v σ s → Q (.nx σ) s) : Wp (forS (rngI1 a) gg p σ st) Q := by
  obtain ⟨s1, e, x⟩ := h st Ext.refl
  refine wp_for (xs := rngD 0 v) (st1 := s1) P (rng1_nat e hv) (h0 s1 x) (fun j σ s d hd hp => ?_) (fun σ s hp => he σ s (by rwa [rngD_len] at hp))
  obtain ⟨hj, rfl⟩ := rngD_get hd
  rw [show ((0 : Int) + (j : Nat)) = (j : Nat) by omega]
  exact hb j σ s hj hp
theorem wp_forR2 {v u : Nat} (P : Nat → Sl → Sto → Prop) (h : Ea st a σ [.int v, .int u]) (hv : v ≤ u) (hu : u ≤ 1000000) (h0 : ∀ s1, Ext st s1 → P 0 σ s1)
    (hb : ∀ (j : Nat) (σ : Sl) (s : Sto), j < u - v → P j σ s → ∃ σ1, gg (.int ((v + j : Nat) : Int)) σ = some σ1 ∧ Wp (p σ1 s) fun r s => match r with
      | .nx σ2 => P (j + 1) σ2 s
      | .cnt σ2 => P (j + 1) σ2 s
      | .brk σ2 => Q (.nx σ2) s
      | .ret d => Q (.ret d) s)
    (he : ∀ σ s, P (u - v) σ s → Q (.nx σ) s) : Wp (forS (rngI2 a) gg p σ st) Q := by
  obtain ⟨s1, e, x⟩ := h st Ext.refl
  have e2 := rng2_ok e (by omega) (by omega) (by omega) (by omega)
  have en : ((u : Int) - (v : Int)).toNat = u - v := by omega
  rw [en] at e2
  refine wp_for (xs := rngD v (u - v)) (st1 := s1) P e2 (h0 s1 x) (fun j σ s d hd hp => ?_) (fun σ s hp => he σ s (by rwa [rngD_len] at hp))
  obtain ⟨hj, rfl⟩ := rngD_get hd
  rw [show ((v : Int) + (j : Nat)) = ((v + j : Nat) : Int) by omega]
  exact hb j σ s hj hp
theorem wp_forL2 (P : Nat → Sl → Sto → Prop) (h : Ev st f σ (.loc n)) (g : getL st n = some xs) (h0 : ∀ s1, Ext st s1 → P 0 σ s1) (hg : ∀ j σ s, P j σ s → getL s n = some xs)
    (hb : ∀ (j : Nat) (σ : Sl) (s : Sto) (d : D), xs[j]? = some d → P j σ s → ∃ σ1, gg d σ = some σ1 ∧ Wp (p σ1 s) fun r s => match r with
      | .nx σ2 => P (j + 1) σ2 s
      | .cnt σ2 => P (j + 1) σ2 s
      | .brk σ2 => Q (.nx σ2) s
      | .ret d => Q (.ret d) s)
    (he : ∀ σ s, P xs.length σ s → Q (.nx σ) s) : Wp (forS (anyI f) gg p σ st) Q := by
  obtain ⟨s1, e, x⟩ := h st Ext.refl
  have g1 := x.getL g
  exact wp_forL (n := n) (st1 := s1) P (by rw [anyI_eq, e, bnd_some]; simp only [g1]; rfl) g1 (h0 s1 x) hg hb he
/-- a comprehension, kept under a name -/
theorem wp_asL (h : ∀ st1, Ext st st1 → ∃ st2 n, f σ st1 = some (.loc n, st2) ∧ Ext st1 st2 ∧ getL st2 n = some xs) (k : ∀ st2 n, Ext st st2 → getL st2 n = some xs → Wp (q (σ.set i (some (.loc n))) st2) Q) : Wp (seqS (asgS (nmG i) f) q σ st) Q := by
  obtain ⟨s2, n, e, x, g⟩ := h st Ext.refl
  exact wp_nx (by rw [asgS_eq, e, bnd_some]; rfl) (k s2 n x g)
end
section
variable {s : Sto} {σ : Sl} {n : Nat} {xs : List D} {d : D}
theorem o_ixL {k : Nat} (g : getL s n = some xs) (h : xs[k]? = some d) : O2 s ixO (.loc n) (.int k) d := fun st e => ⟨st, by rw [ixO_loc, e.getL g]; simp only [atI_nat h, Option.map_some], Ext.refl⟩
theorem o_lenL (g : getL s n = some xs) : ON s lenO [.loc n] (.int xs.length) := fun st e => ⟨st, by rw [lenO_loc, e.getL g]; rfl, Ext.refl⟩
theorem o_tupleL (g : getL s n = some xs) : ON s tupleO [.loc n] (.tup xs) := fun st e => ⟨st, by rw [tupleO_loc, e.getL g]; rfl, Ext.refl⟩
theorem o_mod {x y : Int} (h : cPos x y = true) : O2 s modO (.int x) (.int y) (.int (x % y)) := .pure fun _ => by rw [modO_int, if_pos h]
end
end Iv

namespace Iv
open PySem L2
/-! the same for what may raise -/
section
variable {st : Sto} {σ σ1 σ2 : Sl} {d : D} {xs ds l : List D} {f : SE} {a : SA} {c : ST} {b : Bool} {p : SS} {q x y : SX} {r : R} {Q Q' : RX → Sto → Prop} {i n : Nat} {gg : Tg}
theorem wpx_esE (h : Es st p σ (.nx σ1)) (k : ∀ st2, Ext st st2 → WpX (q σ1 st2) Q) : WpX (seqX (liftX p) q σ st) Q := by
  obtain ⟨s2, e, x⟩ := h st Ext.refl
  exact wpx_nx e (k s2 x)
theorem wpx_asE (h : Ev st f σ d) (k : ∀ st2, Ext st st2 → WpX (q (σ.set i (some d)) st2) Q) : WpX (seqX (liftX (asgS (nmG i) f)) q σ st) Q := wpx_esE (Es.asgN h) k
theorem wpx_ifE (h : Et st c σ b) (h1 : b = true → ∀ st2, Ext st st2 → WpX (x σ st2) Q) (h2 : b = false → ∀ st2, Ext st st2 → WpX (y σ st2) Q) : WpX (ifX c x y σ st) Q := by
  obtain ⟨s2, e, x⟩ := h st Ext.refl
  exact wpx_if e (fun e => h1 e s2 x) (fun e => h2 e s2 x)
theorem wpx_raiseE {c : Str} (h : Ea st a σ ds) (hl : ds.length = (flds c).length) (hf : ds.all fmtD = true) (k : ∀ st2, Ext st st2 → Q (.exc σ c ds) st2) : WpX (raiseX true c a σ st) Q := by
  obtain ⟨s2, e, x⟩ := h st Ext.refl
  exact wpx_raise e rfl hl hf (k s2 x)
theorem wpx_retE (h : Ev st f σ d) (k : ∀ st2, Ext st st2 → Q (.ok (.ret d)) st2) : WpX (liftX (retS f) σ st) Q := wpx_lift (wp_retE h k)
end
end Iv

/-! lists as values: the place is new, what stands there is told -/
namespace Iv
open PySem L2
def Lv (s : Sto) (e : SE) (σ : Sl) (xs : List D) : Prop := ∀ st, Ext s st → ∃ st2 n, e σ st = some (.loc n, st2) ∧ Ext st st2 ∧ st2[n]? = some (.lst xs)
section
variable {s : Sto} {σ σ1 σ2 : Sl} {d x y : D} {xs ys ds : List D} {f g h e : SE} {a : SA} {c c2 : ST} {b b1 b2 : Bool} {p q : SS} {r : R} {lo hi : SO} {l u : Option Int} {i n m : Nat} {φ : Fx}
theorem Lv.get (h : Lv s e σ xs) : ∀ st, Ext s st → ∃ st2 n, e σ st = some (.loc n, st2) ∧ Ext st st2 ∧ getL st2 n = some xs := fun st k => by
  obtain ⟨s2, n, e, x, g⟩ := h st k
  exact ⟨s2, n, e, x, getL_of g⟩
theorem Lv.mono {s2 : Sto} (h : Lv s e σ xs) (k : Ext s s2) : Lv s2 e σ xs := fun st k2 => h st (k.trans k2)
theorem Lv.of (h : Lv s e σ xs) (k : xs = ys) : Lv s e σ ys := k ▸ h
theorem Lv.lst (h : Ea s a σ xs) (hl : xs.length ≤ 1000000) : Lv s (lstF a) σ xs := fun st k => by
  obtain ⟨s1, e1, x1⟩ := h st k
  have hl' : xs.length ≤ LIM := hl
  exact ⟨s1 ++ [.lst xs], s1.length, by rw [lstF_eq, e1, bnd_some, if_pos hl'], x1.trans (Ext.app _), by simp⟩
theorem Lv.var (hv : σ[i]? = some (some (.loc n))) (h : s[n]? = some (.lst xs)) : Lv s (varF i) σ xs := fun st k => ⟨st, n, by rw [varF_eq, hv], Ext.refl, k.at h⟩
theorem Lv.add (hf : Lv s f σ xs) (hg : Lv s g σ ys) (hl : xs.length + ys.length ≤ 1000000) : Lv s (binF addO f g) σ (xs ++ ys) := fun st k => by
  obtain ⟨s1, n1, e1, x1, g1⟩ := hf st k
  obtain ⟨s2, n2, e2, x2, g2⟩ := hg s1 (k.trans x1)
  have hl' : xs.length + ys.length ≤ LIM := hl
  refine ⟨s2 ++ [.lst (xs ++ ys)], s2.length, ?_, (x1.trans x2).trans (Ext.app _), by simp⟩
  rw [binF_eq, e1, bnd_some, e2, bnd_some]
  simp only [addO, getM_of (x2.at g1), getM_of g2, hl', if_true]
theorem Lv.cut (hf : ∀ st, Ext s st → ∃ st2 n, f σ st = some (.loc n, st2) ∧ Ext st st2 ∧ getL st2 n = some xs) (hl : Eo s lo σ l) (hh : Eo s hi σ u) : Lv s (slF cutO f lo hi) σ (cutD xs l u) := fun st k => by
  obtain ⟨s1, n1, e1, x1, g1⟩ := hf st k
  obtain ⟨s2, e2, x2⟩ := hl s1 (k.trans x1)
  obtain ⟨s3, e3, x3⟩ := hh s2 ((k.trans x1).trans x2)
  refine ⟨s3 ++ [.lst (cutD xs l u)], s3.length, ?_, ((x1.trans x2).trans x3).trans (Ext.app _), by simp⟩
  rw [slF_eq, e1, bnd_some, e2, bnd_some, e3, bnd_some, cutO_loc, (x2.trans x3).getL g1]
  rfl
theorem Ev.len_of (h : ∀ st, Ext s st → ∃ st2 n, e σ st = some (.loc n, st2) ∧ Ext st st2 ∧ getL st2 n = some xs) : Ev s (appF lenO (consF e nilF)) σ (.int xs.length) := fun st k => by
  obtain ⟨s1, n, e1, x1, g1⟩ := h st k
  exact ⟨s1, by rw [appF_eq, consF_eq, e1, bnd_some, nilF_eq, bnd_some, bnd_some, lenO_loc, g1]; rfl, x1⟩
/-- a list under a name -/
theorem wp_asLv {Q : R → Sto → Prop} {st : Sto} (h : Lv st f σ xs) (k : ∀ st2 n, Ext st st2 → st2[n]? = some (.lst xs) → Wp (q (σ.set i (some (.loc n))) st2) Q) : Wp (seqS (asgS (nmG i) f) q σ st) Q := by
  obtain ⟨s2, n, e, x, g⟩ := h st Ext.refl
  exact wp_nx (σ1 := σ.set i (some (.loc n))) (st1 := s2) (by rw [asgS_eq, e]; rfl) (k s2 n x g)
theorem cut_lo {xs : List D} {k : Nat} (h : k ≤ xs.length) : cutD xs none (some (k : Int)) = xs.take k := by
  unfold cutD
  rw [HT.sIx_nat, Nat.min_eq_left h]
  simp [HT.sIx]
theorem cut_hi {xs : List D} {k : Nat} (h : k ≤ xs.length) : cutD xs (some (k : Int)) none = xs.drop k := by
  unfold cutD
  rw [HT.sIx_nat, Nat.min_eq_left h]
  simp only [HT.sIx]
  exact List.take_of_length_le (by rw [List.length_drop]; omega)
theorem cut_mid {xs : List D} {k m : Nat} (h : k ≤ m) (h2 : m ≤ xs.length) : cutD xs (some (k : Int)) (some (m : Int)) = (xs.drop k).take (m - k) := by
  unfold cutD
  rw [HT.sIx_nat, HT.sIx_nat, Nat.min_eq_left h2, Nat.min_eq_left (by omega)]
end
end Iv

namespace Lw
open PySem L2 Iv
def c_LEAST : D := .int (-99)
def c_GREATEST : D := .int 99
def c_REGISTERS : D := .tup [.str "a", .str "b", .str "c", .str "d"]
def c_RANGE : D := .str "range"
def c_EXPRESSION_AT : List (Str × D) := [("let", .int 2), ("put", .int 2), ("add", .int 2), ("send", .int 2), ("check", .int 1), ("go", .int 2)]
def c_NAME_AT : List (Str × D) := [("get", .int 2), ("put", .int 1), ("add", .int 1), ("lock", .int 1), ("unlock", .int 1), ("wait", .int 1), ("notify", .int 1), ("notifyall", .int 1), ("send", .int 1), ("take", .int 2)]
def c_KINDS : List (Str × D) := [("get", .str "var"), ("put", .str "var"), ("add", .str "var"), ("lock", .str "lock"), ("unlock", .str "lock"), ("wait", .str "cond"), ("notify", .str "cond"), ("notifyall", .str "cond"), ("send", .str "queue"), ("take", .str "queue")]
def c_THREADS : D := .int 4
def c_PART_OF_KIND : List (Str × D) := [("var", .int 0), ("lock", .int 1), ("queue", .int 2), ("cond", .int 3)]
def b_is_value  : SS :=
  (retS (chnF leO leO (cstF c_LEAST) (varF 0) (cstF c_GREATEST)))
def f_is_value  : Fx := runF 1 1 (b_is_value )
def b_operate (p__holds : Fx) (p_is_value : Fx) : SS :=
  (seqS (ifS (cmpT (eqO false) (varF 0) (cstF (.str "+"))) (asgS (nmG 3) (binF addO (varF 1) (varF 2))) (ifS (cmpT (eqO false) (varF 0) (cstF (.str "-"))) (asgS (nmG 3) (binF subO (varF 1) (varF 2))) (ifS (cmpT (eqO false) (varF 0) (cstF (.str "*"))) (asgS (nmG 3) (binF mulO (varF 1) (varF 2))) (asgS (nmG 3) (appF intOf (consF (callF p__holds (consF (varF 0) (consF (varF 1) (consF (varF 2) nilF)))) nilF))))))
  (retS (ifF (truF (callF p_is_value (consF (varF 3) nilF))) (varF 3) (cstF .non))))
def f_operate (p__holds : Fx) (p_is_value : Fx) : Fx := runF 4 3 (b_operate p__holds p_is_value)
def b__holds  : SS :=
  (seqS (ifS (cmpT (eqO false) (varF 0) (cstF (.str "="))) (retS (binF (eqO false) (varF 1) (varF 2))) nxS)
  (seqS (ifS (cmpT (eqO false) (varF 0) (cstF (.str "<"))) (retS (binF ltO (varF 1) (varF 2))) nxS)
  (seqS (ifS (cmpT (eqO false) (varF 0) (cstF (.str "and"))) (retS (andF (binF (eqO true) (varF 1) (cstF (.int 0))) (binF (eqO true) (varF 2) (cstF (.int 0))))) nxS)
  (retS (orF (binF (eqO true) (varF 1) (cstF (.int 0))) (binF (eqO true) (varF 2) (cstF (.int 0))))))))
def f__holds  : Fx := runF 3 3 (b__holds )
def b_evaluate (p_evaluate : Fx) (p_operate : Fx) : SS :=
  (seqS (ifS (cmpT (eqO false) (binF ixO (varF 0) (cstF (.int 0))) (cstF (.str "num"))) (retS (binF ixO (varF 0) (cstF (.int 1)))) nxS)
  (seqS (ifS (cmpT (eqO false) (binF ixO (varF 0) (cstF (.int 0))) (cstF (.str "reg"))) (retS (binF ixO (varF 1) (appF (indexC c_REGISTERS) (consF (binF ixO (varF 0) (cstF (.int 1))) nilF)))) nxS)
  (seqS (asgS (nmG 2) (ifF (cmpT (eqO false) (binF ixO (varF 0) (cstF (.int 0))) (cstF (.str "op"))) (slF cutO (varF 0) (someO (cstF (.int 2))) noneO) (slF cutO (varF 0) (someO (cstF (.int 1))) noneO)))
  (seqS (asgS (nmG 3) (compF [4] (anyI (varF 2)) (nmG 4) yesT (callF p_evaluate (consF (varF 4) (consF (varF 1) nilF)))))
  (seqS (ifS (cmpT (inO false) (cstF c_RANGE) (varF 3)) (retS (cstF c_RANGE)) nxS)
  (seqS (ifS (cmpT (eqO false) (binF ixO (varF 0) (cstF (.int 0))) (cstF (.str "neg"))) (retS (unF negO (binF ixO (varF 3) (cstF (.int 0))))) nxS)
  (seqS (ifS (cmpT (eqO false) (binF ixO (varF 0) (cstF (.int 0))) (cstF (.str "not"))) (retS (appF intOf (consF (binF (eqO false) (binF ixO (varF 3) (cstF (.int 0))) (cstF (.int 0))) nilF))) nxS)
  (seqS (asgS (nmG 5) (callF p_operate (consF (binF ixO (varF 0) (cstF (.int 1))) (consF (binF ixO (varF 3) (cstF (.int 0))) (consF (binF ixO (varF 3) (cstF (.int 1))) nilF)))))
  (retS (ifF (cmpT (isNO false) (varF 5) (cstF .non)) (cstF c_RANGE) (varF 5)))))))))))
def f_evaluate (p_evaluate : Fx) (p_operate : Fx) : Fx := runF 6 2 (b_evaluate p_evaluate p_operate)
def b_expression_of  : SS :=
  (seqS (asgS (nmG 1) (appF (dgetO c_EXPRESSION_AT) (consF (binF ixO (varF 0) (cstF (.int 0))) nilF)))
  (retS (ifF (cmpT (isNO false) (varF 1) (cstF .non)) (cstF .non) (binF ixO (varF 0) (varF 1)))))
def f_expression_of  : Fx := runF 2 1 (b_expression_of )
def b_thing_of  : SS :=
  (seqS (asgS (nmG 1) (appF (dgetO c_NAME_AT) (consF (binF ixO (varF 0) (cstF (.int 0))) nilF)))
  (retS (ifF (cmpT (isNO false) (varF 1) (cstF .non)) (cstF .non) (binF ixO (varF 0) (varF 1)))))
def f_thing_of  : Fx := runF 2 1 (b_thing_of )
def b_kind_needed  : SS :=
  (retS (appF (dgetO c_KINDS) (consF (binF ixO (varF 0) (cstF (.int 0))) nilF)))
def f_kind_needed  : Fx := runF 1 1 (b_kind_needed )
def b_kind_of  : SS :=
  (seqS (forS (anyI (binF ixO (varF 0) (cstF (.int 0)))) (nmG 2) (ifS (cmpT (eqO false) (binF ixO (varF 2) (cstF (.int 1))) (varF 1)) (retS (binF ixO (varF 2) (cstF (.int 0)))) nxS))
  neverS)
def f_kind_of  : Fx := runF 3 2 (b_kind_of )
def b_names_of  : SS :=
  (retS (appF tupleO (consF (compF [2] (anyI (binF ixO (varF 0) (cstF (.int 0)))) (nmG 2) (cmpT (eqO false) (binF ixO (varF 2) (cstF (.int 0))) (varF 1)) (binF ixO (varF 2) (cstF (.int 1)))) nilF)))
def f_names_of  : Fx := runF 3 2 (b_names_of )
def b_lock_of  : SS :=
  (retS (binF ixO (compF [2] (anyI (binF ixO (varF 0) (cstF (.int 0)))) (nmG 2) (andT (cmpT (eqO false) (binF ixO (varF 2) (cstF (.int 0))) (cstF (.str "cond"))) (cmpT (eqO false) (binF ixO (varF 2) (cstF (.int 1))) (varF 1))) (binF ixO (varF 2) (cstF (.int 2)))) (cstF (.int 0))))
def f_lock_of  : Fx := runF 3 2 (b_lock_of )
def b_first_state  : SS :=
  (seqS (asgS (tupG [1, 2]) (varF 0))
  (retS (tupF (consF (appF tupleO (consF (compF [3] (anyI (varF 1)) (nmG 3) (cmpT (eqO false) (binF ixO (varF 3) (cstF (.int 0))) (cstF (.str "var"))) (binF ixO (varF 3) (cstF (.int 2)))) nilF)) (consF (appF tupleO (consF (compF [3] (anyI (varF 1)) (nmG 3) (cmpT (eqO false) (binF ixO (varF 3) (cstF (.int 0))) (cstF (.str "lock"))) (cstF .non)) nilF)) (consF (appF tupleO (consF (compF [3] (anyI (varF 1)) (nmG 3) (cmpT (eqO false) (binF ixO (varF 3) (cstF (.int 0))) (cstF (.str "queue"))) (tupF nilF)) nilF)) (consF (appF tupleO (consF (compF [3] (anyI (varF 1)) (nmG 3) (cmpT (eqO false) (binF ixO (varF 3) (cstF (.int 0))) (cstF (.str "cond"))) (tupF nilF)) nilF)) (consF (appF tupleO (consF (compF [4] (anyI (varF 2)) (nmG 4) yesT (tupF (consF (cstF (.int 0)) (consF (tupF (consF (cstF (.int 0)) (consF (cstF (.int 0)) (consF (cstF (.int 0)) (consF (cstF (.int 0)) nilF))))) (consF (cstF (.str "run")) (consF (cstF .non) nilF)))))) nilF)) nilF))))))))
def f_first_state  : Fx := runF 5 1 (b_first_state )
def b_enabled (p__is_at_work : Fx) (p__hindrance : Fx) : SS :=
  (seqS (asgS (nmG 2) (compF [3] (rngI1 (consF (appF lenO (consF (binF ixO (varF 0) (cstF (.int 1))) nilF)) nilF)) (nmG 3) (truF (callF p__is_at_work (consF (varF 0) (consF (varF 1) (consF (varF 3) nilF))))) (varF 3)))
  (retS (appF tupleO (consF (compF [3] (anyI (varF 2)) (nmG 3) (cmpT (isNO false) (callF p__hindrance (consF (varF 0) (consF (varF 1) (consF (varF 3) nilF)))) (cstF .non)) (varF 3)) nilF))))
def f_enabled (p__is_at_work : Fx) (p__hindrance : Fx) : Fx := runF 4 2 (b_enabled p__is_at_work p__hindrance)
def b__is_at_work  : SS :=
  (seqS (asgS (tupG [3, 4, 5, 4]) (binF ixO (binF ixO (varF 1) (cstF c_THREADS)) (varF 2)))
  (retS (andF (binF (eqO true) (varF 5) (cstF (.str "over"))) (binF ltO (varF 3) (appF lenO (consF (binF ixO (binF ixO (varF 0) (cstF (.int 1))) (varF 2)) nilF))))))
def f__is_at_work  : Fx := runF 6 3 (b__is_at_work )
def b__hindrance (p_thing_of : Fx) (p_lock_of : Fx) (p_content_of : Fx) (p__is_full : Fx) (p_evaluate : Fx) : SS :=
  (seqS (asgS (tupG [3, 4, 5, 6]) (binF ixO (binF ixO (varF 1) (cstF c_THREADS)) (varF 2)))
  (seqS (asgS (nmG 7) (binF ixO (binF ixO (binF ixO (varF 0) (cstF (.int 1))) (varF 2)) (varF 3)))
  (seqS (asgS (nmG 8) (callF p_thing_of (consF (varF 7) nilF)))
  (seqS (ifS (cmpT (eqO false) (varF 5) (cstF (.str "wait"))) (retS (varF 8)) nxS)
  (seqS (ifS (cmpT (eqO false) (varF 5) (cstF (.str "woken"))) (asgS (nmG 8) (callF p_lock_of (consF (varF 0) (consF (varF 8) nilF)))) nxS)
  (seqS (ifS (orT (cmpT (eqO false) (varF 5) (cstF (.str "woken"))) (cmpT (eqO false) (binF ixO (varF 7) (cstF (.int 0))) (cstF (.str "lock")))) (asgS (nmG 9) (binF (isNO true) (callF p_content_of (consF (varF 0) (consF (varF 1) (consF (varF 8) nilF)))) (cstF .non))) (ifS (cmpT (eqO false) (binF ixO (varF 7) (cstF (.int 0))) (cstF (.str "send"))) (asgS (nmG 9) (andF (callF p__is_full (consF (varF 0) (consF (varF 1) (consF (varF 8) nilF)))) (binF (eqO true) (callF p_evaluate (consF (binF ixO (varF 7) (cstF (.int 2))) (consF (varF 4) nilF))) (cstF c_RANGE)))) (asgS (nmG 9) (andF (binF (eqO false) (binF ixO (varF 7) (cstF (.int 0))) (cstF (.str "take"))) (binF (eqO false) (callF p_content_of (consF (varF 0) (consF (varF 1) (consF (varF 8) nilF)))) (tupF nilF))))))
  (retS (ifF (truF (varF 9)) (varF 8) (cstF .non)))))))))
def f__hindrance (p_thing_of : Fx) (p_lock_of : Fx) (p_content_of : Fx) (p__is_full : Fx) (p_evaluate : Fx) : Fx := runF 10 3 (b__hindrance p_thing_of p_lock_of p_content_of p__is_full p_evaluate)
def b__is_full (p_content_of : Fx) : SS :=
  (seqS (asgS (nmG 3) (compF [4] (anyI (binF ixO (varF 0) (cstF (.int 0)))) (nmG 4) (cmpT (eqO false) (binF ixO (varF 4) (cstF (.int 1))) (varF 2)) (binF ixO (varF 4) (cstF (.int 2)))))
  (retS (binF geO (appF lenO (consF (callF p_content_of (consF (varF 0) (consF (varF 1) (consF (varF 2) nilF)))) nilF)) (binF ixO (varF 3) (cstF (.int 0))))))
def f__is_full (p_content_of : Fx) : Fx := runF 5 3 (b__is_full p_content_of)
def b_content_of (p_kind_of : Fx) (p_names_of : Fx) : SS :=
  (seqS (asgS (nmG 3) (callF p_kind_of (consF (varF 0) (consF (varF 2) nilF))))
  (retS (binF ixO (binF ixO (varF 1) (unF (ditO c_PART_OF_KIND) (varF 3))) (tixF (callF p_names_of (consF (varF 0) (consF (varF 3) nilF))) (consF (varF 2) nilF)))))
def f_content_of (p_kind_of : Fx) (p_names_of : Fx) : Fx := runF 4 3 (b_content_of p_kind_of p_names_of)
def b__with_content (p_kind_of : Fx) (p__replaced : Fx) (p_names_of : Fx) : SS :=
  (seqS (asgS (nmG 4) (callF p_kind_of (consF (varF 0) (consF (varF 2) nilF))))
  (seqS (asgS (nmG 5) (unF (ditO c_PART_OF_KIND) (varF 4)))
  (retS (callF p__replaced (consF (varF 1) (consF (varF 5) (consF (callF p__replaced (consF (binF ixO (varF 1) (varF 5)) (consF (tixF (callF p_names_of (consF (varF 0) (consF (varF 4) nilF))) (consF (varF 2) nilF)) (consF (varF 3) nilF)))) nilF)))))))
def f__with_content (p_kind_of : Fx) (p__replaced : Fx) (p_names_of : Fx) : Fx := runF 6 4 (b__with_content p_kind_of p__replaced p_names_of)
def b__with_thread (p__replaced : Fx) : SS :=
  (retS (callF p__replaced (consF (varF 0) (consF (cstF c_THREADS) (consF (callF p__replaced (consF (binF ixO (varF 0) (cstF c_THREADS)) (consF (varF 1) (consF (varF 2) nilF)))) nilF)))))
def f__with_thread (p__replaced : Fx) : Fx := runF 3 3 (b__with_thread p__replaced)
def b__with_mode (p__with_thread : Fx) : SS :=
  (seqS (asgS (tupG [3, 4, 5, 6]) (binF ixO (binF ixO (varF 0) (cstF c_THREADS)) (varF 1)))
  (retS (callF p__with_thread (consF (varF 0) (consF (varF 1) (consF (tupF (consF (varF 3) (consF (varF 4) (consF (varF 2) (consF (varF 6) nilF))))) nilF))))))
def f__with_mode (p__with_thread : Fx) : Fx := runF 7 3 (b__with_mode p__with_thread)
def b__with_register (p__replaced : Fx) (p__with_thread : Fx) : SS :=
  (seqS (asgS (tupG [4, 5, 6, 7]) (binF ixO (binF ixO (varF 0) (cstF c_THREADS)) (varF 1)))
  (seqS (asgS (nmG 8) (callF p__replaced (consF (varF 5) (consF (appF (indexC c_REGISTERS) (consF (varF 2) nilF)) (consF (varF 3) nilF)))))
  (retS (callF p__with_thread (consF (varF 0) (consF (varF 1) (consF (tupF (consF (varF 4) (consF (varF 8) (consF (varF 6) (consF (varF 7) nilF))))) nilF)))))))
def f__with_register (p__replaced : Fx) (p__with_thread : Fx) : Fx := runF 9 4 (b__with_register p__replaced p__with_thread)
def b__replaced  : SS :=
  (retS (binF addO (binF addO (slF cutO (varF 0) noneO (someO (varF 1))) (tupF (consF (varF 2) nilF))) (slF cutO (varF 0) (someO (binF addO (varF 1) (cstF (.int 1)))) noneO)))
def f__replaced  : Fx := runF 3 3 (b__replaced )
def b_make_step (p__take_lock_again : Fx) (p_expression_of : Fx) (p_evaluate : Fx) (p__failed : Fx) (p__effect : Fx) (p__moved_on : Fx) (p__touches : Fx) : SS :=
  (seqS (asgS (tupG [3, 4, 5, 6]) (binF ixO (binF ixO (varF 1) (cstF c_THREADS)) (varF 2)))
  (seqS (asgS (nmG 7) (binF ixO (binF ixO (binF ixO (varF 0) (cstF (.int 1))) (varF 2)) (varF 3)))
  (seqS (ifS (cmpT (eqO false) (varF 5) (cstF (.str "woken"))) (retS (callF p__take_lock_again (consF (varF 0) (consF (varF 1) (consF (varF 2) nilF))))) nxS)
  (seqS (asgS (nmG 8) (callF p_expression_of (consF (varF 7) nilF)))
  (seqS (asgS (nmG 9) (ifF (cmpT (isNO false) (varF 8) (cstF .non)) (cstF .non) (callF p_evaluate (consF (varF 8) (consF (varF 4) nilF)))))
  (seqS (ifS (cmpT (eqO false) (varF 9) (cstF c_RANGE)) (retS (tupF (consF (callF p__failed (consF (varF 1) (consF (varF 2) (consF (cstF c_RANGE) nilF)))) (consF (tupF (consF (varF 2) (consF (varF 3) (consF (tupF nilF) (consF (cstF c_RANGE) nilF))))) nilF)))) nxS)
  (seqS (asgS (tupG [10, 11]) (callF p__effect (consF (varF 0) (consF (varF 1) (consF (varF 2) (consF (varF 9) nilF))))))
  (seqS (ifS (cmpT (isNO false) (varF 11) (cstF .non)) (asgS (nmG 12) (callF p__moved_on (consF (varF 0) (consF (varF 10) (consF (varF 2) (consF (varF 9) nilF)))))) (asgS (nmG 12) (callF p__failed (consF (varF 1) (consF (varF 2) (consF (varF 11) nilF))))))
  (retS (tupF (consF (varF 12) (consF (tupF (consF (varF 2) (consF (varF 3) (consF (callF p__touches (consF (varF 0) (consF (varF 7) nilF))) (consF (varF 11) nilF))))) nilF))))))))))))
def f_make_step (p__take_lock_again : Fx) (p_expression_of : Fx) (p_evaluate : Fx) (p__failed : Fx) (p__effect : Fx) (p__moved_on : Fx) (p__touches : Fx) : Fx := runF 13 3 (b_make_step p__take_lock_again p_expression_of p_evaluate p__failed p__effect p__moved_on p__touches)
def b__take_lock_again (p_lock_of : Fx) (p__with_mode : Fx) (p__with_content : Fx) (p__moved_to : Fx) : SS :=
  (seqS (asgS (nmG 3) (binF ixO (binF ixO (binF ixO (varF 1) (cstF c_THREADS)) (varF 2)) (cstF (.int 0))))
  (seqS (asgS (nmG 4) (binF ixO (binF ixO (binF ixO (binF ixO (varF 0) (cstF (.int 1))) (varF 2)) (varF 3)) (cstF (.int 1))))
  (seqS (asgS (nmG 5) (callF p_lock_of (consF (varF 0) (consF (varF 4) nilF))))
  (seqS (asgS (nmG 6) (callF p__with_mode (consF (callF p__with_content (consF (varF 0) (consF (varF 1) (consF (varF 5) (consF (varF 2) nilF))))) (consF (varF 2) (consF (cstF (.str "run")) nilF)))))
  (retS (tupF (consF (callF p__moved_to (consF (varF 0) (consF (varF 6) (consF (varF 2) (consF (binF addO (varF 3) (cstF (.int 1))) nilF))))) (consF (tupF (consF (varF 2) (consF (varF 3) (consF (tupF (consF (tupF (consF (varF 5) (consF (cstF (.bl true)) nilF))) (consF (tupF (consF (varF 4) (consF (cstF (.bl false)) nilF))) nilF))) (consF (cstF .non) nilF))))) nilF))))))))
def f__take_lock_again (p_lock_of : Fx) (p__with_mode : Fx) (p__with_content : Fx) (p__moved_to : Fx) : Fx := runF 7 3 (b__take_lock_again p_lock_of p__with_mode p__with_content p__moved_to)
def b__failed (p__with_thread : Fx) : SS :=
  (seqS (asgS (tupG [3, 4, 5, 5]) (binF ixO (binF ixO (varF 0) (cstF c_THREADS)) (varF 1)))
  (retS (callF p__with_thread (consF (varF 0) (consF (varF 1) (consF (tupF (consF (varF 3) (consF (varF 4) (consF (cstF (.str "over")) (consF (varF 2) nilF))))) nilF))))))
def f__failed (p__with_thread : Fx) : Fx := runF 6 3 (b__failed p__with_thread)
def b__touches (p_thing_of : Fx) (p_lock_of : Fx) : SS :=
  (seqS (asgS (nmG 2) (callF p_thing_of (consF (varF 1) nilF)))
  (seqS (ifS (cmpT (isNO false) (varF 2) (cstF .non)) (retS (tupF nilF)) nxS)
  (seqS (ifS (cmpT (eqO false) (binF ixO (varF 1) (cstF (.int 0))) (cstF (.str "wait"))) (retS (tupF (consF (tupF (consF (callF p_lock_of (consF (varF 0) (consF (varF 2) nilF))) (consF (cstF (.bl true)) nilF))) (consF (tupF (consF (varF 2) (consF (cstF (.bl true)) nilF))) nilF)))) nxS)
  (retS (tupF (consF (tupF (consF (varF 2) (consF (binF (eqO true) (binF ixO (varF 1) (cstF (.int 0))) (cstF (.str "get"))) nilF))) nilF))))))
def f__touches (p_thing_of : Fx) (p_lock_of : Fx) : Fx := runF 3 2 (b__touches p_thing_of p_lock_of)
def b__moved_on (p__with_mode : Fx) (p__moved_to : Fx) : SS :=
  (seqS (asgS (nmG 4) (binF ixO (binF ixO (binF ixO (varF 1) (cstF c_THREADS)) (varF 2)) (cstF (.int 0))))
  (seqS (asgS (nmG 5) (binF ixO (binF ixO (binF ixO (varF 0) (cstF (.int 1))) (varF 2)) (varF 4)))
  (seqS (ifS (cmpT (eqO false) (binF ixO (varF 5) (cstF (.int 0))) (cstF (.str "wait"))) (retS (callF p__with_mode (consF (varF 1) (consF (varF 2) (consF (cstF (.str "wait")) nilF))))) nxS)
  (seqS (ifS (andT (cmpT (eqO false) (binF ixO (varF 5) (cstF (.int 0))) (cstF (.str "go"))) (cmpT (eqO true) (varF 3) (cstF (.int 0)))) (retS (callF p__moved_to (consF (varF 0) (consF (varF 1) (consF (varF 2) (consF (binF ixO (varF 5) (cstF (.int 1))) nilF)))))) nxS)
  (seqS (asgS (nmG 6) (callF p__moved_to (consF (varF 0) (consF (varF 1) (consF (varF 2) (consF (binF addO (varF 4) (cstF (.int 1))) nilF))))))
  (retS (ifF (cmpT (eqO false) (binF ixO (varF 5) (cstF (.int 0))) (cstF (.str "stop"))) (callF p__with_mode (consF (varF 6) (consF (varF 2) (consF (cstF (.str "over")) nilF)))) (varF 6))))))))
def f__moved_on (p__with_mode : Fx) (p__moved_to : Fx) : Fx := runF 7 4 (b__moved_on p__with_mode p__moved_to)
def b__moved_to (p__with_thread : Fx) : SS :=
  (seqS (asgS (tupG [4, 5, 6, 7]) (binF ixO (binF ixO (varF 1) (cstF c_THREADS)) (varF 2)))
  (seqS (asgS (nmG 8) (binF (eqO false) (varF 3) (appF lenO (consF (binF ixO (binF ixO (varF 0) (cstF (.int 1))) (varF 2)) nilF))))
  (retS (callF p__with_thread (consF (varF 1) (consF (varF 2) (consF (tupF (consF (varF 3) (consF (varF 5) (consF (ifF (truF (varF 8)) (cstF (.str "over")) (varF 6)) (consF (varF 7) nilF))))) nilF)))))))
def f__moved_to (p__with_thread : Fx) : Fx := runF 9 4 (b__moved_to p__with_thread)
def b__effect (p_kind_needed : Fx) (p__use_variable : Fx) (p__use_lock : Fx) (p__use_condition : Fx) (p__use_queue : Fx) (p__with_register : Fx) : SS :=
  (seqS (asgS (nmG 4) (binF ixO (binF ixO (binF ixO (varF 0) (cstF (.int 1))) (varF 2)) (binF ixO (binF ixO (binF ixO (varF 1) (cstF c_THREADS)) (varF 2)) (cstF (.int 0)))))
  (seqS (asgS (nmG 5) (callF p_kind_needed (consF (varF 4) nilF)))
  (seqS (ifS (cmpT (eqO false) (varF 5) (cstF (.str "var"))) (retS (callF p__use_variable (consF (varF 0) (consF (varF 1) (consF (varF 2) (consF (varF 4) (consF (varF 3) nilF))))))) nxS)
  (seqS (ifS (cmpT (eqO false) (varF 5) (cstF (.str "lock"))) (retS (callF p__use_lock (consF (varF 0) (consF (varF 1) (consF (varF 2) (consF (varF 4) nilF)))))) nxS)
  (seqS (ifS (cmpT (eqO false) (varF 5) (cstF (.str "cond"))) (retS (callF p__use_condition (consF (varF 0) (consF (varF 1) (consF (varF 2) (consF (varF 4) nilF)))))) nxS)
  (seqS (ifS (cmpT (eqO false) (varF 5) (cstF (.str "queue"))) (retS (callF p__use_queue (consF (varF 0) (consF (varF 1) (consF (varF 2) (consF (varF 4) (consF (varF 3) nilF))))))) nxS)
  (seqS (ifS (cmpT (eqO false) (binF ixO (varF 4) (cstF (.int 0))) (cstF (.str "let"))) (retS (tupF (consF (callF p__with_register (consF (varF 1) (consF (varF 2) (consF (binF ixO (varF 4) (cstF (.int 1))) (consF (varF 3) nilF))))) (consF (cstF .non) nilF)))) nxS)
  (seqS (ifS (andT (cmpT (eqO false) (binF ixO (varF 4) (cstF (.int 0))) (cstF (.str "check"))) (cmpT (eqO false) (varF 3) (cstF (.int 0)))) (retS (tupF (consF (varF 1) (consF (cstF (.str "check")) nilF)))) nxS)
  (retS (tupF (consF (varF 1) (consF (cstF .non) nilF))))))))))))
def f__effect (p_kind_needed : Fx) (p__use_variable : Fx) (p__use_lock : Fx) (p__use_condition : Fx) (p__use_queue : Fx) (p__with_register : Fx) : Fx := runF 6 4 (b__effect p_kind_needed p__use_variable p__use_lock p__use_condition p__use_queue p__with_register)
def b__use_variable (p_thing_of : Fx) (p_content_of : Fx) (p__with_register : Fx) (p_operate : Fx) (p__with_content : Fx) : SS :=
  (seqS (asgS (nmG 5) (callF p_thing_of (consF (varF 3) nilF)))
  (seqS (asgS (nmG 6) (callF p_content_of (consF (varF 0) (consF (varF 1) (consF (varF 5) nilF)))))
  (seqS (ifS (cmpT (eqO false) (binF ixO (varF 3) (cstF (.int 0))) (cstF (.str "get"))) (retS (tupF (consF (callF p__with_register (consF (varF 1) (consF (varF 2) (consF (binF ixO (varF 3) (cstF (.int 1))) (consF (varF 6) nilF))))) (consF (cstF .non) nilF)))) nxS)
  (seqS (asgS (nmG 7) (ifF (cmpT (eqO false) (binF ixO (varF 3) (cstF (.int 0))) (cstF (.str "put"))) (varF 4) (callF p_operate (consF (cstF (.str "+")) (consF (varF 6) (consF (varF 4) nilF))))))
  (seqS (ifS (cmpT (isNO false) (varF 7) (cstF .non)) (retS (tupF (consF (varF 1) (consF (cstF c_RANGE) nilF)))) nxS)
  (retS (tupF (consF (callF p__with_content (consF (varF 0) (consF (varF 1) (consF (varF 5) (consF (varF 7) nilF))))) (consF (cstF .non) nilF)))))))))
def f__use_variable (p_thing_of : Fx) (p_content_of : Fx) (p__with_register : Fx) (p_operate : Fx) (p__with_content : Fx) : Fx := runF 8 5 (b__use_variable p_thing_of p_content_of p__with_register p_operate p__with_content)
def b__use_lock (p_thing_of : Fx) (p__with_content : Fx) (p_content_of : Fx) : SS :=
  (seqS (asgS (nmG 4) (callF p_thing_of (consF (varF 3) nilF)))
  (seqS (ifS (cmpT (eqO false) (binF ixO (varF 3) (cstF (.int 0))) (cstF (.str "lock"))) (retS (tupF (consF (callF p__with_content (consF (varF 0) (consF (varF 1) (consF (varF 4) (consF (varF 2) nilF))))) (consF (cstF .non) nilF)))) nxS)
  (seqS (ifS (cmpT (eqO true) (callF p_content_of (consF (varF 0) (consF (varF 1) (consF (varF 4) nilF)))) (varF 2)) (retS (tupF (consF (varF 1) (consF (cstF (.str "owner")) nilF)))) nxS)
  (retS (tupF (consF (callF p__with_content (consF (varF 0) (consF (varF 1) (consF (varF 4) (consF (cstF .non) nilF))))) (consF (cstF .non) nilF)))))))
def f__use_lock (p_thing_of : Fx) (p__with_content : Fx) (p_content_of : Fx) : Fx := runF 5 4 (b__use_lock p_thing_of p__with_content p_content_of)
def b__use_condition (p_thing_of : Fx) (p_content_of : Fx) (p_lock_of : Fx) (p__with_content : Fx) (p__with_mode : Fx) : SS :=
  (seqS (asgS (nmG 4) (callF p_thing_of (consF (varF 3) nilF)))
  (seqS (asgS (nmG 5) (callF p_content_of (consF (varF 0) (consF (varF 1) (consF (varF 4) nilF)))))
  (seqS (ifS (cmpT (eqO false) (binF ixO (varF 3) (cstF (.int 0))) (cstF (.str "wait"))) (seqS (asgS (nmG 6) (callF p_lock_of (consF (varF 0) (consF (varF 4) nilF))))
  (seqS (ifS (cmpT (eqO true) (callF p_content_of (consF (varF 0) (consF (varF 1) (consF (varF 6) nilF)))) (varF 2)) (retS (tupF (consF (varF 1) (consF (cstF (.str "owner")) nilF)))) nxS)
  (seqS (asgS (nmG 7) (callF p__with_content (consF (varF 0) (consF (varF 1) (consF (varF 6) (consF (cstF .non) nilF))))))
  (retS (tupF (consF (callF p__with_content (consF (varF 0) (consF (varF 7) (consF (varF 4) (consF (binF addO (varF 5) (tupF (consF (varF 2) nilF))) nilF))))) (consF (cstF .non) nilF))))))) nxS)
  (seqS (asgS (nmG 8) (ifF (cmpT (eqO false) (binF ixO (varF 3) (cstF (.int 0))) (cstF (.str "notify"))) (cstF (.int 1)) (appF lenO (consF (varF 5) nilF))))
  (seqS (asgS (nmG 9) (callF p__with_content (consF (varF 0) (consF (varF 1) (consF (varF 4) (consF (slF cutO (varF 5) (someO (varF 8)) noneO) nilF))))))
  (seqS (forS (anyI (slF cutO (varF 5) noneO (someO (varF 8)))) (nmG 10) (asgS (nmG 9) (callF p__with_mode (consF (varF 9) (consF (varF 10) (consF (cstF (.str "woken")) nilF))))))
  (retS (tupF (consF (varF 9) (consF (cstF .non) nilF))))))))))
def f__use_condition (p_thing_of : Fx) (p_content_of : Fx) (p_lock_of : Fx) (p__with_content : Fx) (p__with_mode : Fx) : Fx := runF 11 4 (b__use_condition p_thing_of p_content_of p_lock_of p__with_content p__with_mode)
def b__use_queue (p_thing_of : Fx) (p_content_of : Fx) (p__with_content : Fx) (p__with_register : Fx) : SS :=
  (seqS (asgS (nmG 5) (callF p_thing_of (consF (varF 3) nilF)))
  (seqS (asgS (nmG 6) (callF p_content_of (consF (varF 0) (consF (varF 1) (consF (varF 5) nilF)))))
  (seqS (ifS (cmpT (eqO false) (binF ixO (varF 3) (cstF (.int 0))) (cstF (.str "send"))) (retS (tupF (consF (callF p__with_content (consF (varF 0) (consF (varF 1) (consF (varF 5) (consF (binF addO (varF 6) (tupF (consF (varF 4) nilF))) nilF))))) (consF (cstF .non) nilF)))) nxS)
  (seqS (asgS (nmG 7) (callF p__with_content (consF (varF 0) (consF (varF 1) (consF (varF 5) (consF (slF cutO (varF 6) (someO (cstF (.int 1))) noneO) nilF))))))
  (retS (tupF (consF (callF p__with_register (consF (varF 7) (consF (varF 2) (consF (binF ixO (varF 3) (cstF (.int 1))) (consF (binF ixO (varF 6) (cstF (.int 0))) nilF))))) (consF (cstF .non) nilF))))))))
def f__use_queue (p_thing_of : Fx) (p_content_of : Fx) (p__with_content : Fx) (p__with_register : Fx) : Fx := runF 8 5 (b__use_queue p_thing_of p_content_of p__with_content p__with_register)
def b_run (p_walk : Fx) : SS :=
  (seqS (asgS (tupG [2, 3]) (callF p_walk (consF (varF 0) (consF (varF 1) nilF))))
  (retS (tupF (consF (binF ixO (varF 2) (unF negO (cstF (.int 1)))) (consF (appF tupleO (consF (varF 3) nilF)) nilF)))))
def f_run (p_walk : Fx) : Fx := runF 4 2 (b_run p_walk)
def bx_run (px_walk : Fy) : SX :=
  (seqX (asgX (tupG [2, 3]) (callX px_walk (consF (varF 0) (consF (varF 1) nilF))))
  (liftX (retS (tupF (consF (binF ixO (varF 2) (unF negO (cstF (.int 1)))) (consF (appF tupleO (consF (varF 3) nilF)) nilF))))))
def fx_run (px_walk : Fy) : Fy := runX 4 2 (bx_run px_walk)
def b_walk (p_first_state : Fx) (p_enabled : Fx) (p_make_step : Fx) : SS :=
  (seqS (asgS (nmG 2) (lstF (consF (callF p_first_state (consF (varF 0) nilF)) nilF)))
  (seqS (asgS (nmG 3) (lstF nilF))
  (seqS (forS (enmU (consF (varF 1) nilF)) (tupG [4, 5]) (seqS (ifS (cmpT (inO true) (varF 5) (callF p_enabled (consF (varF 0) (consF (binF ixO (varF 2) (unF negO (cstF (.int 1)))) nilF)))) neverS nxS)
  (seqS (asgS (tupG [6, 7]) (callF p_make_step (consF (varF 0) (consF (binF ixO (varF 2) (unF negO (cstF (.int 1)))) (consF (varF 5) nilF)))))
  (seqS (exS (bmF "list" appendO (varF 2) (consF (varF 6) nilF)))
  (exS (bmF "list" appendO (varF 3) (consF (varF 7) nilF)))))))
  (retS (tupF (consF (varF 2) (consF (varF 3) nilF)))))))
def f_walk (p_first_state : Fx) (p_enabled : Fx) (p_make_step : Fx) : Fx := runF 8 2 (b_walk p_first_state p_enabled p_make_step)
def bx_walk (p_first_state : Fx) (p_enabled : Fx) (p_make_step : Fx) (p_rz : Bool) : SX :=
  (seqX (liftX (asgS (nmG 2) (lstF (consF (callF p_first_state (consF (varF 0) nilF)) nilF))))
  (seqX (liftX (asgS (nmG 3) (lstF nilF)))
  (seqX (forX (enmU (consF (varF 1) nilF)) (tupG [4, 5]) (seqX (ifX (cmpT (inO true) (varF 5) (callF p_enabled (consF (varF 0) (consF (binF ixO (varF 2) (unF negO (cstF (.int 1)))) nilF)))) (raiseX p_rz "NotEnabled" (consF (varF 4) nilF)) (liftX nxS))
  (seqX (liftX (asgS (tupG [6, 7]) (callF p_make_step (consF (varF 0) (consF (binF ixO (varF 2) (unF negO (cstF (.int 1)))) (consF (varF 5) nilF))))))
  (seqX (liftX (exS (bmF "list" appendO (varF 2) (consF (varF 6) nilF))))
  (liftX (exS (bmF "list" appendO (varF 3) (consF (varF 7) nilF))))))))
  (liftX (retS (tupF (consF (varF 2) (consF (varF 3) nilF))))))))
def fx_walk (p_first_state : Fx) (p_enabled : Fx) (p_make_step : Fx) (p_rz : Bool) : Fy := runX 8 2 (bx_walk p_first_state p_enabled p_make_step p_rz)
def bx_lost_notices (p_enabled : Fx) (p__noticed : Fx) (p__is_awaited : Fx) (px_walk : Fy) : SX :=
  (seqX (asgX (tupG [2, 3]) (callX px_walk (consF (varF 0) (consF (varF 1) nilF))))
  (seqX (liftX (asgS (nmG 4) (binF ixO (varF 2) (unF negO (cstF (.int 1))))))
  (seqX (liftX (ifS (cmpT (eqO true) (callF p_enabled (consF (varF 0) (consF (varF 4) nilF))) (tupF nilF)) (retS (lstF nilF)) nxS))
  (seqX (liftX (asgS (nmG 5) (lstF nilF)))
  (seqX (liftX (forS (zipI (consF (varF 2) (consF (varF 3) nilF))) (tupG [6, 7]) (seqS (asgS (nmG 8) (callF p__noticed (consF (varF 0) (consF (varF 7) nilF))))
  (ifS (andT (cmpT (isNO true) (varF 8) (cstF .non)) (andT (notT (truF (callF p__is_awaited (consF (varF 0) (consF (varF 6) (consF (varF 8) nilF)))))) (truF (callF p__is_awaited (consF (varF 0) (consF (varF 4) (consF (varF 8) nilF))))))) (exS (bmF "list" appendO (varF 5) (consF (tupF (consF (cstF (.str "lost")) (consF (binF ixO (varF 7) (cstF (.int 0))) (consF (binF ixO (varF 7) (cstF (.int 1))) (consF (varF 8) nilF))))) nilF))) nxS))))
  (liftX (retS (varF 5))))))))
def fx_lost_notices (p_enabled : Fx) (p__noticed : Fx) (p__is_awaited : Fx) (px_walk : Fy) : Fy := runX 9 2 (bx_lost_notices p_enabled p__noticed p__is_awaited px_walk)
def b__noticed  : SS :=
  (seqS neverS
  neverS)
def f__noticed  : Fx := runF 3 2 (b__noticed )
def b__is_awaited  : SS :=
  neverS
def f__is_awaited  : Fx := runF 3 3 (b__is_awaited )
def bx_faults_of (p__in_order : Fx) (p__faults_in : Fx) (px_run : Fy) : SX :=
  (seqX (asgX (tupG [2, 3]) (callX px_run (consF (varF 0) (consF (varF 1) nilF))))
  (liftX (retS (callF p__in_order (consF (callF p__faults_in (consF (varF 0) (consF (varF 1) (consF (varF 3) (consF (varF 2) nilF))))) nilF)))))
def fx_faults_of (p__in_order : Fx) (p__faults_in : Fx) (px_run : Fy) : Fy := runX 4 2 (bx_faults_of p__in_order p__faults_in px_run)
def b__faults_in  : SS :=
  (seqS neverS
  neverS)
def f__faults_in  : Fx := runF 5 4 (b__faults_in )
def b__in_order  : SS :=
  neverS
def f__in_order  : Fx := runF 2 1 (b__in_order )
def bx_outcome (p__outcome_in : Fx) (px_run : Fy) : SX :=
  (retX (callAX p__outcome_in (consAX (varF 0) (consX (ixX (callX px_run (consF (varF 0) (consF (varF 1) nilF))) (cstF (.int 0))) nilF))))
def fx_outcome (p__outcome_in : Fx) (px_run : Fy) : Fy := runX 2 2 (bx_outcome p__outcome_in px_run)
def b__outcome_in  : SS :=
  (seqS neverS
  neverS)
def f__outcome_in  : Fx := runF 3 2 (b__outcome_in )
def bx_history (px__check_variable : Fy) (px__history_in : Fy) : SX :=
  (seqX (exX (callX px__check_variable (consF (varF 0) (consF (varF 2) nilF))))
  (retX (callX px__history_in (consF (varF 0) (consF (varF 1) (consF (varF 2) nilF))))))
def fx_history (px__check_variable : Fy) (px__history_in : Fy) : Fy := runX 3 3 (bx_history px__check_variable px__history_in)
def bx__check_variable (p_names_of : Fx) (p_rz : Bool) : SX :=
  (ifX (cmpT (inO true) (varF 1) (callF p_names_of (consF (varF 0) (consF (cstF (.str "var")) nilF)))) (raiseX p_rz "NoSuchPlace" (consF (cstF (.str "name")) nilF)) (liftX nxS))
def fx__check_variable (p_names_of : Fx) (p_rz : Bool) : Fy := runX 2 2 (bx__check_variable p_names_of p_rz)
def bx__history_in (p_content_of : Fx) (px_walk : Fy) : SX :=
  (seqX (asgX (tupG [3, 4]) (callX px_walk (consF (varF 0) (consF (varF 1) nilF))))
  (seqX (liftX (asgS (nmG 5) (lstF (consF (callF p_content_of (consF (varF 0) (consF (binF ixO (varF 3) (cstF (.int 0))) (consF (varF 2) nilF)))) nilF))))
  (seqX (liftX (forS (zipI (consF (slF cutO (varF 3) (someO (cstF (.int 1))) noneO) (consF (varF 4) nilF))) (tupG [6, 7]) (ifS (andT (cmpT inTO (tupF (consF (varF 2) (consF (cstF (.bl true)) nilF))) (binF ixO (varF 7) (cstF (.int 2)))) (cmpT (isNO false) (binF ixO (varF 7) (cstF (.int 3))) (cstF .non))) (exS (bmF "list" appendO (varF 5) (consF (callF p_content_of (consF (varF 0) (consF (varF 6) (consF (varF 2) nilF)))) nilF))) nxS)))
  (liftX (retS (appF tupleO (consF (varF 5) nilF)))))))
def fx__history_in (p_content_of : Fx) (px_walk : Fy) : Fy := runX 8 3 (bx__history_in p_content_of px_walk)
def b__law_cell  : SS :=
  (seqS (ifS (cmpT ltO (varF 1) (appF lenO (consF (varF 0) nilF))) (retS (binF ixO (varF 0) (varF 1))) nxS)
  (retS (cstF (.int 0))))
def f__law_cell  : Fx := runF 2 2 (b__law_cell )
def b__law_digits  : SS :=
  (seqS (asgS (nmG 3) (lstF nilF))
  (seqS (ifS (cmpT ltO (varF 0) (cstF (.int 0))) (asgS (nmG 0) (binF subO (unF negO (cstF (.int 1))) (varF 0))) nxS)
  (seqS (ifS (cmpT geO (varF 0) (binF powO (cstF (.int 10)) (cstF (.int 18)))) (forS (rngI1 (consF (cstF (.int 60)) nilF)) (nmG 4) (ifS (andT (cmpT gtO (varF 0) (cstF (.int 0))) (cmpT ltO (appF lenO (consF (varF 3) nilF)) (varF 2))) (seqS (exS (bmF "list" appendO (varF 3) (consF (binF modO (appF intOf (consF (varF 0) nilF)) (cstF (.int 1000))) nilF)))
  (asgS (nmG 0) (binF fdivO (varF 0) (cstF (.int 1000))))) nxS)) (seqS (asgS (nmG 5) (binF modO (appF intOf (consF (binF addO (binF addO (binF mulO (varF 0) (cstF (.int 48271))) (binF mulO (varF 1) (cstF (.int 69621)))) (cstF (.int 11))) nilF)) (cstF (.int 2147483647))))
  (forS (rngI1 (consF (varF 2) nilF)) (nmG 4) (seqS (asgS (nmG 5) (binF modO (appF intOf (consF (binF addO (binF addO (binF mulO (varF 5) (cstF (.int 16807))) (binF mulO (cstF (.int 7)) (varF 4))) (cstF (.int 1))) nilF)) (cstF (.int 2147483647))))
  (exS (bmF "list" appendO (varF 3) (consF (binF modO (appF intOf (consF (binF fdivO (varF 5) (cstF (.int 997))) nilF)) (cstF (.int 1000))) nilF)))))))
  (retS (varF 3)))))
def f__law_digits  : Fx := runF 6 3 (b__law_digits )
def b__law_padded (p__law_digits : Fx) : SS :=
  (seqS (asgS (nmG 2) (callF p__law_digits (consF (varF 0) (consF (varF 1) (consF (cstF (.int 20)) nilF)))))
  (seqS (forS (rngI1 (consF (cstF (.int 20)) nilF)) (nmG 3) (exS (bmF "list" appendO (varF 2) (consF (varF 3) nilF))))
  (retS (varF 2))))
def f__law_padded (p__law_digits : Fx) : Fx := runF 4 2 (b__law_padded p__law_digits)
def b__law_things  : SS :=
  (retS (tupF (consF (tupF (consF (cstF (.str "lock")) (consF (cstF (.str "m")) nilF))) (consF (tupF (consF (cstF (.str "var")) (consF (cstF (.str "x")) (consF (cstF (.int 0)) nilF)))) (consF (tupF (consF (cstF (.str "cond")) (consF (cstF (.str "w")) (consF (cstF (.str "m")) nilF)))) (consF (tupF (consF (cstF (.str "queue")) (consF (cstF (.str "q")) (consF (cstF (.int 1)) nilF)))) (consF (tupF (consF (cstF (.str "var")) (consF (cstF (.str "y")) (consF (cstF (.int 1)) nilF)))) (consF (tupF (consF (cstF (.str "lock")) (consF (cstF (.str "n")) nilF))) nilF))))))))
def f__law_things  : Fx := runF 0 0 (b__law_things )
def b__law_piece  : SS :=
  (seqS (asgS (nmG 2) (tupF (consF (cstF (.str "op")) (consF (cstF (.str "+")) (consF (tupF (consF (cstF (.str "reg")) (consF (cstF (.str "a")) nilF))) (consF (tupF (consF (cstF (.str "num")) (consF (cstF (.int 1)) nilF))) nilF))))))
  (seqS (asgS (nmG 3) (tupF (consF (cstF (.str "op")) (consF (cstF (.str "<")) (consF (tupF (consF (cstF (.str "reg")) (consF (cstF (.str "a")) nilF))) (consF (tupF (consF (cstF (.str "num")) (consF (cstF (.int 2)) nilF))) nilF))))))
  (seqS (asgS (nmG 4) (lstF (consF (lstF (consF (tupF (consF (cstF (.str "get")) (consF (cstF (.str "a")) (consF (cstF (.str "x")) nilF)))) (consF (tupF (consF (cstF (.str "put")) (consF (cstF (.str "x")) (consF (varF 2) nilF)))) nilF))) (consF (lstF (consF (tupF (consF (cstF (.str "add")) (consF (cstF (.str "x")) (consF (tupF (consF (cstF (.str "num")) (consF (cstF (.int 1)) nilF))) nilF)))) nilF)) (consF (lstF (consF (tupF (consF (cstF (.str "put")) (consF (cstF (.str "x")) (consF (tupF (consF (cstF (.str "num")) (consF (cstF (.int 2)) nilF))) nilF)))) nilF)) (consF (lstF (consF (tupF (consF (cstF (.str "get")) (consF (cstF (.str "b")) (consF (cstF (.str "y")) nilF)))) nilF)) (consF (lstF (consF (tupF (consF (cstF (.str "lock")) (consF (cstF (.str "m")) nilF))) (consF (tupF (consF (cstF (.str "add")) (consF (cstF (.str "y")) (consF (tupF (consF (cstF (.str "num")) (consF (cstF (.int 1)) nilF))) nilF)))) (consF (tupF (consF (cstF (.str "unlock")) (consF (cstF (.str "m")) nilF))) nilF)))) (consF (lstF (consF (tupF (consF (cstF (.str "lock")) (consF (cstF (.str "m")) nilF))) (consF (tupF (consF (cstF (.str "lock")) (consF (cstF (.str "n")) nilF))) nilF))) (consF (lstF (consF (tupF (consF (cstF (.str "lock")) (consF (cstF (.str "n")) nilF))) (consF (tupF (consF (cstF (.str "lock")) (consF (cstF (.str "m")) nilF))) nilF))) (consF (lstF (consF (tupF (consF (cstF (.str "lock")) (consF (cstF (.str "m")) nilF))) (consF (tupF (consF (cstF (.str "wait")) (consF (cstF (.str "w")) nilF))) (consF (tupF (consF (cstF (.str "unlock")) (consF (cstF (.str "m")) nilF))) nilF)))) (consF (lstF (consF (tupF (consF (cstF (.str "notify")) (consF (cstF (.str "w")) nilF))) nilF)) (consF (lstF (consF (tupF (consF (cstF (.str "lock")) (consF (cstF (.str "m")) nilF))) (consF (tupF (consF (cstF (.str "notifyall")) (consF (cstF (.str "w")) nilF))) (consF (tupF (consF (cstF (.str "unlock")) (consF (cstF (.str "m")) nilF))) nilF)))) (consF (lstF (consF (tupF (consF (cstF (.str "send")) (consF (cstF (.str "q")) (consF (tupF (consF (cstF (.str "num")) (consF (cstF (.int 3)) nilF))) nilF)))) nilF)) (consF (lstF (consF (tupF (consF (cstF (.str "take")) (consF (cstF (.str "a")) (consF (cstF (.str "q")) nilF)))) nilF)) (consF (lstF (consF (tupF (consF (cstF (.str "get")) (consF (cstF (.str "a")) (consF (cstF (.str "x")) nilF)))) (consF (tupF (consF (cstF (.str "check")) (consF (varF 3) nilF))) nilF))) (consF (lstF (consF (tupF (consF (cstF (.str "begin")) nilF)) (consF (tupF (consF (cstF (.str "get")) (consF (cstF (.str "a")) (consF (cstF (.str "x")) nilF)))) (consF (tupF (consF (cstF (.str "put")) (consF (cstF (.str "y")) (consF (varF 2) nilF)))) (consF (tupF (consF (cstF (.str "end")) nilF)) nilF))))) (consF (lstF (consF (tupF (consF (cstF (.str "unlock")) (consF (cstF (.str "m")) nilF))) nilF)) (consF (lstF (consF (tupF (consF (cstF (.str "add")) (consF (cstF (.str "y")) (consF (tupF (consF (cstF (.str "num")) (consF (cstF (.int 99)) nilF))) nilF)))) nilF)) (consF (lstF (consF (tupF (consF (cstF (.str "let")) (consF (cstF (.str "a")) (consF (varF 2) nilF)))) nilF)) (consF (lstF (consF (tupF (consF (cstF (.str "go")) (consF (binF addO (varF 1) (cstF (.int 2))) (consF (tupF (consF (cstF (.str "reg")) (consF (cstF (.str "a")) nilF))) nilF)))) (consF (tupF (consF (cstF (.str "put")) (consF (cstF (.str "y")) (consF (varF 2) nilF)))) nilF))) (consF (lstF (consF (tupF (consF (cstF (.str "begin")) nilF)) (consF (tupF (consF (cstF (.str "add")) (consF (cstF (.str "x")) (consF (tupF (consF (cstF (.str "num")) (consF (cstF (.int 1)) nilF))) nilF)))) (consF (tupF (consF (cstF (.str "add")) (consF (cstF (.str "y")) (consF (tupF (consF (cstF (.str "num")) (consF (cstF (.int 1)) nilF))) nilF)))) (consF (tupF (consF (cstF (.str "end")) nilF)) nilF))))) (consF (lstF (consF (tupF (consF (cstF (.str "put")) (consF (cstF (.str "y")) (consF (tupF (consF (cstF (.str "reg")) (consF (cstF (.str "a")) nilF))) nilF)))) nilF)) nilF))))))))))))))))))))))
  (retS (binF ixO (varF 4) (binF modO (appF intOf (consF (varF 0) nilF)) (cstF (.int 20))))))))
def f__law_piece  : Fx := runF 5 2 (b__law_piece )
def b__law_program (p__law_padded : Fx) (p__law_cell : Fx) (p__law_piece : Fx) (p__law_things : Fx) : SS :=
  (seqS (asgS (nmG 2) (lstF nilF))
  (seqS (forS (rngI1 (consF (appF lenO (consF (varF 1) nilF)) nilF)) (nmG 3) (seqS (asgS (nmG 4) (callF p__law_padded (consF (callF p__law_cell (consF (varF 0) (consF (varF 3) nilF))) (consF (varF 3) nilF))))
  (seqS (asgS (nmG 5) (lstF nilF))
  (seqS (forS (rngI1 (consF (cstF (.int 3)) nilF)) (nmG 6) (seqS (asgS (nmG 7) (callF p__law_piece (consF (binF ixO (varF 4) (varF 6)) (consF (appF lenO (consF (varF 5) nilF)) nilF))))
  (ifS (cmpT leO (binF addO (appF lenO (consF (varF 5) nilF)) (appF lenO (consF (varF 7) nilF))) (binF ixO (varF 1) (varF 3))) (asgS (nmG 5) (binF addO (varF 5) (varF 7))) nxS)))
  (seqS (ifS (cmpT (eqO false) (appF lenO (consF (varF 5) nilF)) (cstF (.int 0))) (asgS (nmG 5) (lstF (consF (tupF (consF (cstF (.str "get")) (consF (cstF (.str "a")) (consF (cstF (.str "x")) nilF)))) nilF))) nxS)
  (exS (bmF "list" appendO (varF 2) (consF (appF tupleO (consF (varF 5) nilF)) nilF))))))))
  (retS (tupF (consF (callF p__law_things nilF) (consF (appF tupleO (consF (varF 2) nilF)) nilF))))))
def f__law_program (p__law_padded : Fx) (p__law_cell : Fx) (p__law_piece : Fx) (p__law_things : Fx) : Fx := runF 8 2 (b__law_program p__law_padded p__law_cell p__law_piece p__law_things)
def b__law_drawn (p__law_program : Fx) (p__law_cell : Fx) : SS :=
  (retS (callF p__law_program (consF (varF 0) (consF (binF ixO (lstF (consF (lstF (consF (cstF (.int 4)) (consF (cstF (.int 2)) nilF))) (consF (lstF (consF (cstF (.int 3)) (consF (cstF (.int 3)) nilF))) (consF (lstF (consF (cstF (.int 2)) (consF (cstF (.int 4)) nilF))) (consF (lstF (consF (cstF (.int 2)) (consF (cstF (.int 2)) (consF (cstF (.int 1)) nilF)))) nilF))))) (binF modO (appF intOf (consF (callF p__law_cell (consF (varF 0) (consF (cstF (.int 9)) nilF))) nilF)) (cstF (.int 4)))) nilF))))
def f__law_drawn (p__law_program : Fx) (p__law_cell : Fx) : Fx := runF 1 1 (b__law_drawn p__law_program p__law_cell)
def b__law_walk (p_first_state : Fx) (p_enabled : Fx) (p__law_cell : Fx) (p_make_step : Fx) : SS :=
  (seqS (asgS (nmG 4) (callF p_first_state (consF (varF 0) nilF)))
  (seqS (asgS (nmG 5) (tupF nilF))
  (seqS (forS (rngI1 (consF (varF 3) nilF)) (nmG 6) (seqS (asgS (nmG 7) (callF p_enabled (consF (varF 0) (consF (varF 4) nilF))))
  (ifS (cmpT gtO (appF lenO (consF (varF 7) nilF)) (cstF (.int 0))) (seqS (asgS (nmG 8) (binF ixO (varF 7) (binF modO (appF intOf (consF (callF p__law_cell (consF (varF 1) (consF (binF addO (varF 2) (varF 6)) nilF))) nilF)) (appF lenO (consF (varF 7) nilF)))))
  (seqS (asgS (nmG 5) (binF addO (varF 5) (tupF (consF (varF 8) nilF))))
  (asgS (nmG 4) (binF ixO (callF p_make_step (consF (varF 0) (consF (varF 4) (consF (varF 8) nilF)))) (cstF (.int 0)))))) nxS)))
  (retS (varF 5)))))
def f__law_walk (p_first_state : Fx) (p_enabled : Fx) (p__law_cell : Fx) (p_make_step : Fx) : Fx := runF 9 4 (b__law_walk p_first_state p_enabled p__law_cell p_make_step)
def b__law_refused (px_lost_notices : Fy) (px_faults_of : Fy) (px_outcome : Fy) (px_history : Fy) : SS :=
  (seqS (tryS (seqX (ifX (cmpT (eqO false) (varF 0) (cstF (.int 0))) (exX (callX px_lost_notices (consF (varF 1) (consF (varF 2) nilF)))) (liftX nxS))
  (seqX (ifX (cmpT (eqO false) (varF 0) (cstF (.int 1))) (exX (callX px_faults_of (consF (varF 1) (consF (varF 2) nilF)))) (liftX nxS))
  (seqX (ifX (cmpT (eqO false) (varF 0) (cstF (.int 2))) (exX (callX px_outcome (consF (varF 1) (consF (varF 2) nilF)))) (liftX nxS))
  (ifX (cmpT (eqO false) (varF 0) (cstF (.int 3))) (exX (callX px_history (consF (varF 1) (consF (varF 2) (consF (cstF (.str "y")) nilF))))) (liftX nxS))))) "NotEnabled" 4 (fun ds => (retS (binF (eqO false) (fldF 0 ds) (varF 3)))))
  (retS (cstF (.bl false))))
def f__law_refused (px_lost_notices : Fy) (px_faults_of : Fy) (px_outcome : Fy) (px_history : Fy) : Fx := runF 5 4 (b__law_refused px_lost_notices px_faults_of px_outcome px_history)
def b_law (p__law_drawn : Fx) (p__law_walk : Fx) (p__law_cell : Fx) (p_run : Fx) (p_enabled : Fx) (p__law_refused : Fx) : SS :=
  (seqS (asgS (nmG 1) (callF p__law_drawn (consF (varF 0) nilF)))
  (seqS (asgS (nmG 2) (callF p__law_walk (consF (varF 1) (consF (varF 0) (consF (cstF (.int 10)) (consF (binF modO (appF intOf (consF (callF p__law_cell (consF (varF 0) (consF (cstF (.int 20)) nilF))) nilF)) (cstF (.int 7))) nilF))))))
  (seqS (asgS (nmG 3) (binF ixO (callF p_run (consF (varF 1) (consF (varF 2) nilF))) (cstF (.int 0))))
  (seqS (forS (rngI1 (consF (appF lenO (consF (binF ixO (varF 1) (cstF (.int 1))) nilF)) nilF)) (nmG 4) (ifS (cmpT (inO true) (varF 4) (callF p_enabled (consF (varF 1) (consF (varF 3) nilF)))) (forS (anyI (lstF (consF (tupF nilF) (consF (tupF (consF (cstF (.int 0)) nilF)) (consF (tupF (consF (cstF (.int 1)) (consF (cstF (.int 0)) nilF))) nilF))))) (nmG 5) (forS (rngI1 (consF (cstF (.int 4)) nilF)) (nmG 6) (ifS (notT (truF (callF p__law_refused (consF (varF 6) (consF (varF 1) (consF (binF addO (binF addO (varF 2) (tupF (consF (varF 4) nilF))) (varF 5)) (consF (appF lenO (consF (varF 2) nilF)) nilF))))))) (retS (cstF (.bl false))) nxS))) nxS))
  (retS (cstF (.bl true)))))))
def f_law (p__law_drawn : Fx) (p__law_walk : Fx) (p__law_cell : Fx) (p_run : Fx) (p_enabled : Fx) (p__law_refused : Fx) : Fx := runF 7 1 (b_law p__law_drawn p__law_walk p__law_cell p_run p_enabled p__law_refused)
def b_blocked (p__is_at_work : Fx) (p__hindrance : Fx) : SS :=
  (seqS (asgS (nmG 2) (compF [3] (rngI1 (consF (appF lenO (consF (binF ixO (varF 0) (cstF (.int 1))) nilF)) nilF)) (nmG 3) (truF (callF p__is_at_work (consF (varF 0) (consF (varF 1) (consF (varF 3) nilF))))) (varF 3)))
  (seqS (asgS (nmG 4) (compF [3] (anyI (varF 2)) (nmG 3) yesT (tupF (consF (varF 3) (consF (callF p__hindrance (consF (varF 0) (consF (varF 1) (consF (varF 3) nilF)))) nilF)))))
  (retS (appF tupleO (consF (compF [3, 5] (anyI (varF 4)) (tupG [3, 5]) (cmpT (isNO true) (varF 5) (cstF .non)) (tupF (consF (varF 3) (consF (varF 5) nilF)))) nilF)))))
def f_blocked (p__is_at_work : Fx) (p__hindrance : Fx) : Fx := runF 6 2 (b_blocked p__is_at_work p__hindrance)
local macro_rules | `(tactic| walk_at "Lw.dec") => `(tactic| (simp [ofs_inj, *]; done))
local macro_rules | `(tactic| walk_at "Lw.dec") => `(tactic| (simp only [ofs_inj, decide_true, decide_false, Bool.not_true, Bool.not_false, String.reduceEq, reduceCtorEq, nonD_non, nonD_str, nonD_int, nonD_tup, nonD_bl, Bool.and_true, Bool.and_false, Bool.or_true, Bool.or_false, Bool.false_and, Bool.true_and, Bool.false_or, Bool.true_or]; done))
local macro_rules | `(tactic| walk_at "Lw.dec") => `(tactic| with_reducible rfl)
local macro_rules | `(tactic| walk_at "Lw.dec") => `(tactic| assumption)
local macro_rules | `(tactic| walk_at "Lw.o2") => `(tactic| fail "o2")
local macro_rules | `(tactic| walk_at "Lw.o2") => `(tactic| with_reducible assumption)
local macro_rules | `(tactic| walk_at "Lw.o2") => `(tactic| with_reducible first | exact o_ix0 | exact o_ix1 | exact o_ix2 | exact o_ix3 | exact o_ix4 | exact o_eqss | exact o_ness | exact o_isNn | exact o_isNi | exact o_isNs | exact o_isNt | exact o_notNn | exact o_notNi | exact o_notNs | exact o_notNt | exact o_isN | exact o_notN | exact o_add | exact o_eqii | exact o_neii | exact o_eqis | exact o_neis | exact o_eqns | exact o_nens | exact o_eqni | exact o_neni | exact o_lt | exact o_le | exact o_gt | exact o_ge | exact o_sub | exact o_len | exact o_intb | exact o_inti | exact o_tuple)
local macro_rules | `(tactic| walk_at "Lw.ev1") => `(tactic| first
  | exact Ev.var rfl
  | with_reducible exact Ev.cst
  | with_reducible apply Ev.bin
  | with_reducible apply Ev.call
  | with_reducible exact Ea.nil
  | with_reducible apply Ea.cons
  | with_reducible apply Ev.app
  | ((with_reducible apply Ev.tup); (case ha => walk_at "Lw.ev"); (case hl => first | rfl | decide | (simp; done)))
  | with_reducible apply Ev.un
  | with_reducible apply Ev.sl
  | with_reducible exact Eo.none
  | with_reducible apply Eo.some
  | ((with_reducible apply Ev.ifT); (case hc => walk_at "Lw.ev"); (case hb => walk_at "Lw.dec"))
  | ((with_reducible apply Ev.ifF); (case hc => walk_at "Lw.ev"); (case hb => walk_at "Lw.dec"))
  | with_reducible apply Et.cmp
  | ((with_reducible apply Et.and); case' hg => intro _)
  | ((with_reducible apply Et.or); case' hg => intro _)
  | with_reducible apply Et.not
  | ((with_reducible apply Et.tru); (case hf => walk_at "Lw.ev"); (case ht => exact fun _ => rfl))
  | ((with_reducible apply Ev.and); case' hg => intro _)
  | ((with_reducible apply Ev.or); case' hg => intro _)
  | ((with_reducible apply Es.seqA); (case hf => walk_at "Lw.ev"); (case h => exact rfl))
  | ((with_reducible apply Es.seqA4); (case hf => walk_at "Lw.ev"); (case h => exact rfl))
  | ((with_reducible apply Es.seqA2); (case hf => walk_at "Lw.ev"); (case h => exact rfl))
  | ((with_reducible apply Es.seqRT); (case hc => walk_at "Lw.ev"); (case hb => walk_at "Lw.dec"))
  | ((with_reducible apply Es.seqRF); (case hc => walk_at "Lw.ev"); (case hb => walk_at "Lw.dec"))
  | ((with_reducible apply Es.seqT); (case hc => walk_at "Lw.ev"); (case hb => walk_at "Lw.dec"); (case hp => walk_at "Lw.ev"))
  | ((with_reducible apply Es.seqF); (case hc => walk_at "Lw.ev"); (case hb => walk_at "Lw.dec"); (case hp => walk_at "Lw.ev"))
  | ((with_reducible apply Es.ifT); (case hc => walk_at "Lw.ev"); (case hb => walk_at "Lw.dec"))
  | ((with_reducible apply Es.ifF); (case hc => walk_at "Lw.ev"); (case hb => walk_at "Lw.dec"))
  | with_reducible apply Es.ret
  | with_reducible exact Es.nx
  | with_reducible apply Es.asgN
  | with_reducible apply Es.asg4
  | with_reducible apply Es.asg2
  | walk_at "Lw.o2"
  | exact Es.nx
  | assumption)
local macro_rules | `(tactic| walk_at "Lw.ev") => `(tactic| repeat' walk_at "Lw.ev1")
/-! M1.lean -/
theorem at0 {α : Type} (x : α) (xs : List α) : atI (x :: xs) 0 = some x := atI_nat (j := 0) rfl
theorem at1 {α : Type} (x y : α) (xs : List α) : atI (x :: y :: xs) 1 = some y := atI_nat (j := 1) rfl
theorem at2 {α : Type} (x y z : α) (xs : List α) : atI (x :: y :: z :: xs) 2 = some z := atI_nat (j := 2) rfl
theorem at3 {α : Type} (x y z u : α) (xs : List α) : atI (x :: y :: z :: u :: xs) 3 = some u := atI_nat (j := 3) rfl
theorem cell_ok {st : Sto} {n : Nat} {ns : List Int} (h : getL st n = some (ns.map .int)) (k : Nat) : f__law_cell [.loc n, .int k] st = some (.int (ns.getD k 0), st) := by
  refine run_ret rfl ?_
  by_cases hk : k < ns.length
  · have e : atI (ns.map D.int) (k : Int) = some (.int ns[k]) := atI_nat (by rw [List.getElem?_map, List.getElem?_eq_getElem hk]; rfl)
    have e2 : ns.getD k 0 = ns[k] := by simp [List.getD, List.getElem?_eq_getElem hk]
    rw [e2]
    simp [b__law_cell, seqS_eq, h, hk, e]
  · have e2 : ns.getD k 0 = 0 := by simp [List.getD, List.getElem?_eq_none (Nat.le_of_not_lt hk)]
    rw [e2]
    simp [b__law_cell, seqS_eq, h, hk]
/-- a new list of ints at the end of the store -/
theorem new_get (st : Sto) (xs : List D) : getL (st ++ [.lst xs]) st.length = some xs := getL_of (by simp)
theorem new_getM (st : Sto) (xs : List D) : getM (st ++ [.lst xs]) st.length = some xs := getM_of (by simp)
theorem new_set' (st : Sto) (xs ys : List D) : (st ++ [OB.lst xs]).set st.length (.lst ys) = st ++ [.lst ys] := by simp
theorem push_ok {st : Sto} {xs : List D} {d : D} (h : xs.length < LIM) : appendO (.loc st.length) [d] (st ++ [.lst xs]) = some (.non, st ++ [.lst (xs ++ [d])]) := by
  simp only [appendO_eq, new_getM, h, if_true, new_set']
theorem digits_ok (c k : Int) (m : Nat) (hm : m ≤ 100) (st : Sto) : ∃ ds : List Int, f__law_digits [.int c, .int k, .int (m : Int)] st = some (.loc st.length, st ++ [.lst (ds.map .int)]) ∧ ds.length ≤ 100 := by
  suffices q : ∃ d s, f__law_digits [.int c, .int k, .int (m : Int)] st = some (d, s) ∧ ∃ ds : List Int, d = .loc st.length ∧ s = st ++ [.lst (ds.map .int)] ∧ ds.length ≤ 100 by
    obtain ⟨d, s, e, ds, rfl, rfl, hl⟩ := q
    exact ⟨ds, e, hl⟩
  refine wp_run rfl ?_
  unfold b__law_digits
  refine wp_nx (σ1 := [some (.int c), some (.int k), some (.int (m : Int)), some (.loc st.length), none, none]) (st1 := st ++ [.lst []]) (by simp) ?_
  refine wp_seq (wp_mono (Q := fun r s => ∃ c : Int, r = .nx [some (.int c), some (.int k), some (.int (m : Int)), some (.loc st.length), none, none] ∧ s = st ++ [.lst []]) ?_ ?_)
  · by_cases hc : c < 0
    · exact wp_ok (r := .nx [some (.int (-1 - c)), some (.int k), some (.int (m : Int)), some (.loc st.length), none, none]) (by simp [hc]) ⟨_, rfl, rfl⟩
    · exact wp_ok (r := .nx [some (.int c), some (.int k), some (.int (m : Int)), some (.loc st.length), none, none]) (by simp [hc]) ⟨_, rfl, rfl⟩
  rintro r s ⟨c, rfl, rfl⟩
  refine wp_seq (wp_mono (Q := fun r s => ∃ (x0 x4 x5 : Option D) (ds : List Int), ds.length ≤ 100 ∧ r = .nx [x0, some (.int k), some (.int (m : Int)), some (.loc st.length), x4, x5] ∧ s = st ++ [.lst (ds.map .int)]) ?_ ?_)
  · refine wp_if (t := decide (10 ^ 18 ≤ c)) (st1 := st ++ [.lst []]) (by simp [cPow]) (fun _ => ?_) (fun _ => ?_)
    · refine wp_for (xs := rngD 0 60) (st1 := st ++ [.lst []]) (fun i σ s => ∃ (c : Int) (x4 : Option D) (ds : List Int), ds.length ≤ i ∧ s = st ++ [.lst (ds.map .int)] ∧ σ = [some (.int c), some (.int k), some (.int (m : Int)), some (.loc st.length), x4, none]) (by simp) ⟨c, none, [], by simp, rfl, rfl⟩ ?_ ?_
      · rintro i σ s d hd ⟨c, x4, ds, hl, rfl, rfl⟩
        obtain ⟨hi, rfl⟩ := rngD_get hd
        refine ⟨_, rfl, ?_⟩
        have hL : (ds.map D.int).length < LIM := by rw [List.length_map]; show ds.length < 1000000; omega
        generalize ((0 : Int) + (i : Nat)) = jj
        refine wp_if (t := decide (0 < c) && decide (((ds.map D.int).length : Int) < m)) (st1 := st ++ [.lst (ds.map .int)]) ?_ (fun _ => ?_) (fun _ => wp_skip ⟨c, some (.int jj), ds, by omega, rfl, rfl⟩)
        · by_cases h0 : 0 < c <;> simp [h0, new_get]
        · refine wp_nx (σ1 := [some (.int c), some (.int k), some (.int (m : Int)), some (.loc st.length), some (.int jj), none]) (st1 := st ++ [.lst ((ds ++ [c % 1000]).map .int)]) ?_ ?_
          · have c1 : cPos c 1000 = true := rfl
            simp only [exS_eq, bmF_eq, varF_eq, bnd_some, List.getElem?_cons_zero, List.getElem?_cons_succ, isTy_list, new_get, Option.isSome_some, if_true, consF_eq, nilF_eq, binF_eq, appF_eq, intOf_int, cstF_eq, modO_int, c1, push_ok hL, List.map_append, List.map_cons, List.map_nil, List.set_cons_succ, List.set_cons_zero]
          · exact wp_asg (d := .int (c / 1000)) (st1 := st ++ [.lst ((ds ++ [c % 1000]).map .int)]) (by simp [cDiv]) rfl ⟨_, some (.int jj), _, by simp; omega, rfl, rfl⟩
      · rintro σ s ⟨c, x4, ds, hl, rfl, rfl⟩
        rw [rngD_len] at hl
        exact ⟨_, _, _, ds, by omega, rfl, rfl⟩
    · refine wp_nx (σ1 := [some (.int c), some (.int k), some (.int (m : Int)), some (.loc st.length), none, some (.int ((c * 48271 + k * 69621 + 11) % 2147483647))]) (st1 := st ++ [.lst []]) (by simp [cMul_r, cPos]) ?_
      generalize (c * 48271 + k * 69621 + 11) % 2147483647 = z
      refine wp_for (xs := rngD 0 m) (st1 := st ++ [.lst []]) (fun i σ s => ∃ (z : Int) (x4 : Option D) (ds : List Int), ds.length = i ∧ s = st ++ [.lst (ds.map .int)] ∧ σ = [some (.int c), some (.int k), some (.int (m : Int)), some (.loc st.length), x4, some (.int z)]) (rng1_nat (by simp) (by show m ≤ 1000000; omega)) ⟨z, none, [], rfl, rfl, rfl⟩ ?_ ?_
      · rintro i σ s d hd ⟨z, x4, ds, hl, rfl, rfl⟩
        obtain ⟨hi, rfl⟩ := rngD_get hd
        refine ⟨_, rfl, ?_⟩
        have hL : (ds.map D.int).length < LIM := by rw [List.length_map]; show ds.length < 1000000; omega
        generalize ((0 : Int) + (i : Nat)) = jj
        refine wp_nx (σ1 := [some (.int c), some (.int k), some (.int (m : Int)), some (.loc st.length), some (.int jj), some (.int ((z * 16807 + 7 * jj + 1) % 2147483647))]) (st1 := st ++ [.lst (ds.map .int)]) (by simp [cMul_r, cMul_l, cPos]) ?_
        generalize (z * 16807 + 7 * jj + 1) % 2147483647 = y
        refine wp_ex (d := .non) (st1 := st ++ [.lst ((ds ++ [y / 997 % 1000]).map .int)]) ?_ ⟨y, some (.int jj), ds ++ [y / 997 % 1000], by simp [hl], rfl, rfl⟩
        have c1 : cPos (y / 997) 1000 = true := rfl
        have c2 : cDiv y 997 = true := rfl
        simp only [bmF_eq, varF_eq, bnd_some, List.getElem?_cons_zero, List.getElem?_cons_succ, isTy_list, new_get, Option.isSome_some, if_true, consF_eq, nilF_eq, binF_eq, appF_eq, intOf_int, cstF_eq, fdivO_int, c2, modO_int, c1, push_ok hL, List.map_append, List.map_cons, List.map_nil]
      · rintro σ s ⟨z, x4, ds, hl, rfl, rfl⟩
        rw [rngD_len] at hl
        exact ⟨_, _, _, ds, by omega, rfl, rfl⟩
  · rintro r s ⟨x0, x4, x5, ds, hl, rfl, rfl⟩
    exact wp_ret (d := .loc st.length) (st1 := st ++ [.lst (ds.map .int)]) (by simp) ⟨ds, rfl, rfl, hl⟩
def DigOk (φ : Fx) : Prop := ∀ (c k : Int) (m : Nat), m ≤ 100 → ∀ st : Sto, ∃ ds : List Int, φ [.int c, .int k, .int (m : Int)] st = some (.loc st.length, st ++ [.lst (ds.map .int)]) ∧ ds.length ≤ 100
def PadOk (φ : Fx) : Prop := ∀ (c k : Int) (st : Sto), ∃ ds : List Int, 20 ≤ ds.length ∧ φ [.int c, .int k] st = some (.loc st.length, st ++ [.lst (ds.map .int)])
def CellOk (φ : Fx) : Prop := ∀ (st : Sto) (n : Nat) (ns : List Int), getL st n = some (ns.map .int) → ∀ k : Nat, φ [.loc n, .int k] st = some (.int (ns.getD k 0), st)
theorem padded_ok {φ : Fx} (hφ : DigOk φ) : PadOk (f__law_padded φ) := by
  intro c k st
  suffices q : ∃ d s, f__law_padded φ [.int c, .int k] st = some (d, s) ∧ ∃ ds : List Int, 20 ≤ ds.length ∧ d = .loc st.length ∧ s = st ++ [.lst (ds.map .int)] by
    obtain ⟨d, s, e, ds, hl, rfl, rfl⟩ := q
    exact ⟨ds, hl, e⟩
  obtain ⟨ds, e, hl⟩ := hφ c k 20 (by omega) st
  have e' : φ [.int c, .int k, .int 20] st = some (.loc st.length, st ++ [.lst (ds.map .int)]) := e
  refine wp_run rfl ?_
  unfold b__law_padded
  refine wp_nx (σ1 := [some (.int c), some (.int k), some (.loc st.length), none]) (st1 := st ++ [.lst (ds.map .int)]) (by simp [e']) ?_
  refine wp_seq (wp_for (xs := rngD 0 20) (st1 := st ++ [.lst (ds.map .int)]) (fun i σ s => ∃ (x3 : Option D) (es : List Int), i ≤ es.length ∧ es.length ≤ 100 + i ∧ s = st ++ [.lst (es.map .int)] ∧ σ = [some (.int c), some (.int k), some (.loc st.length), x3]) (by simp) ⟨none, ds, by omega, by omega, rfl, rfl⟩ ?_ ?_)
  · rintro i σ s d hd ⟨x3, es, h1, h2, rfl, rfl⟩
    obtain ⟨hi, rfl⟩ := rngD_get hd
    refine ⟨_, rfl, ?_⟩
    have hL : (es.map D.int).length < LIM := by rw [List.length_map]; show es.length < 1000000; omega
    generalize ((0 : Int) + (i : Nat)) = jj
    refine wp_ex (d := .non) (st1 := st ++ [.lst ((es ++ [jj]).map .int)]) ?_ ⟨some (.int jj), es ++ [jj], by simp; omega, by simp; omega, rfl, rfl⟩
    simp only [bmF_eq, varF_eq, bnd_some, List.getElem?_cons_zero, List.getElem?_cons_succ, isTy_list, new_get, Option.isSome_some, if_true, consF_eq, nilF_eq, push_ok hL, List.map_append, List.map_cons, List.map_nil, List.set_cons_succ, List.set_cons_zero]
  · rintro σ s ⟨x3, es, h1, h2, rfl, rfl⟩
    rw [rngD_len] at h1
    exact wp_ret (d := .loc st.length) (st1 := st ++ [.lst (es.map .int)]) (by simp) ⟨es, h1, rfl, rfl⟩
/-! D1.lean -/
/-! ### data: trees, shared things, instructions, programs -/
inductive Tr where
  | num (n : Int) | reg (i : Nat) | neg (t : Tr) | not (t : Tr) | op (s : Str) (l r : Tr)
def regS : Nat → Str
  | 0 => "a" | 1 => "b" | 2 => "c" | _ => "d"
def Tr.d : Tr → D
  | .num n => .tup [.str "num", .int n]
  | .reg i => .tup [.str "reg", .str (regS i)]
  | .neg t => .tup [.str "neg", t.d]
  | .not t => .tup [.str "not", t.d]
  | .op s l r => .tup [.str "op", .str s, l.d, r.d]
@[simp] theorem nst_tr (t : Tr) (r : List D) : nst (t.d :: r) = false := by cases t <;> simp [nst, strD, Tr.d]
def isSign (s : Str) : Prop := s = "+" ∨ s = "-" ∨ s = "*" ∨ s = "=" ∨ s = "<" ∨ s = "and" ∨ s = "or"
def Tr.wf : Tr → Prop
  | .num n => 0 ≤ n ∧ n ≤ 99
  | .reg i => i < 4
  | .neg t => t.wf
  | .not t => t.wf
  | .op s l r => isSign s ∧ l.wf ∧ r.wf
def Tr.dep : Tr → Nat
  | .num _ => 0
  | .reg _ => 0
  | .neg t => t.dep + 1
  | .not t => t.dep + 1
  | .op _ l r => max l.dep r.dep + 1
inductive Thg where
  | var (x : Str) (v : Int) | lock (x : Str) | cond (x m : Str) | queue (x : Str) (n : Int)
def Thg.name : Thg → Str
  | .var x _ => x
  | .lock x => x
  | .cond x _ => x
  | .queue x _ => x
def Thg.kind : Thg → Str
  | .var _ _ => "var"
  | .lock _ => "lock"
  | .cond _ _ => "cond"
  | .queue _ _ => "queue"
def Thg.d : Thg → D
  | .var x v => .tup [.str "var", .str x, .int v]
  | .lock x => .tup [.str "lock", .str x]
  | .cond x m => .tup [.str "cond", .str x, .str m]
  | .queue x n => .tup [.str "queue", .str x, .int n]
def Thg.lk : Thg → Option Str
  | .lock x => some x
  | _ => none
def locksOf (S : List Thg) : List Str := S.filterMap Thg.lk
def Thg.okIn (S : List Thg) : Thg → Prop
  | .var _ v => -99 ≤ v ∧ v ≤ 99
  | .lock _ => True
  | .cond _ m => m ∈ locksOf S
  | .queue _ n => 1 ≤ n ∧ n ≤ 3
def kindNames (S : List Thg) (k : Str) : List Str := S.filterMap fun t => if t.kind = k then some t.name else none
inductive Ins where
  | leti (r : Nat) (t : Tr) | get (r : Nat) (x : Str) | put (x : Str) (t : Tr) | add (x : Str) (t : Tr) | lock (x : Str) | unlock (x : Str) | wait (x : Str) | notify (x : Str) | notifyall (x : Str)
  | send (x : Str) (t : Tr) | take (r : Nat) (x : Str) | check (t : Tr) | go (n : Nat) (t : Option Tr) | begin_ | end_ | stop
def oTr : Option Tr → D
  | none => .non
  | some t => t.d
def Ins.d : Ins → D
  | .leti r t => .tup [.str "let", .str (regS r), t.d]
  | .get r x => .tup [.str "get", .str (regS r), .str x]
  | .put x t => .tup [.str "put", .str x, t.d]
  | .add x t => .tup [.str "add", .str x, t.d]
  | .lock x => .tup [.str "lock", .str x]
  | .unlock x => .tup [.str "unlock", .str x]
  | .wait x => .tup [.str "wait", .str x]
  | .notify x => .tup [.str "notify", .str x]
  | .notifyall x => .tup [.str "notifyall", .str x]
  | .send x t => .tup [.str "send", .str x, t.d]
  | .take r x => .tup [.str "take", .str (regS r), .str x]
  | .check t => .tup [.str "check", t.d]
  | .go n t => .tup [.str "go", .int (n : Nat), oTr t]
  | .begin_ => .tup [.str "begin"]
  | .end_ => .tup [.str "end"]
  | .stop => .tup [.str "stop"]
def Ins.wf (S : List Thg) (size dep : Nat) : Ins → Prop
  | .leti r t => r < 4 ∧ t.wf ∧ t.dep ≤ dep
  | .get r x => r < 4 ∧ x ∈ kindNames S "var"
  | .put x t => x ∈ kindNames S "var" ∧ t.wf ∧ t.dep ≤ dep
  | .add x t => x ∈ kindNames S "var" ∧ t.wf ∧ t.dep ≤ dep
  | .lock x => x ∈ kindNames S "lock"
  | .unlock x => x ∈ kindNames S "lock"
  | .wait x => x ∈ kindNames S "cond"
  | .notify x => x ∈ kindNames S "cond"
  | .notifyall x => x ∈ kindNames S "cond"
  | .send x t => x ∈ kindNames S "queue" ∧ t.wf ∧ t.dep ≤ dep
  | .take r x => r < 4 ∧ x ∈ kindNames S "queue"
  | .check t => t.wf ∧ t.dep ≤ dep
  | .go n t => n ≤ size ∧ ∀ u, t = some u → u.wf ∧ u.dep ≤ dep
  | .begin_ => True
  | .end_ => True
  | .stop => True
def Ins.plain : Ins → Prop
  | .begin_ => False
  | .end_ => False
  | _ => True
structure Prog where
  S : List Thg
  T : List (List Ins)
def thrD (l : List Ins) : D := .tup (l.map Ins.d)
def Prog.d (p : Prog) : D := .tup [.tup (p.S.map Thg.d), .tup (p.T.map thrD)]
structure Stp where
  th : Int
  pc : Int
  tch : List (Str × Bool)
  word : D
def tD (t : Str × Bool) : D := .tup [.str t.1, .bl t.2]
def Stp.d (s : Stp) : D := .tup [.int s.th, .int s.pc, .tup (s.tch.map tD), s.word]
/-! L3.lean -/
def isV (n : Int) : Bool := decide (-99 ≤ n) && decide (n ≤ 99)
def holdsB (s : Str) (x y : Int) : Bool := if s = "=" then decide (x = y) else if s = "<" then decide (x < y) else if s = "and" then !decide (x = 0) && !decide (y = 0) else !decide (x = 0) || !decide (y = 0)
def resI (s : Str) (x y : Int) : Int := if s = "+" then x + y else if s = "-" then x - y else if s = "*" then x * y else if holdsB s x y = true then 1 else 0
def opD (s : Str) (x y : Int) : D := if isV (resI s x y) = true then .int (resI s x y) else .non
theorem isv_ok (n : Int) (st : Sto) : f_is_value [.int n] st = some (.bl (isV n), st) := by
  refine run_ret rfl ?_
  unfold b_is_value isV
  by_cases h : -99 ≤ n
  · simp [c_LEAST, c_GREATEST, h]
  · simp [c_LEAST, c_GREATEST, h]
theorem holds_ok (s : Str) (x y : Int) (st : Sto) : f__holds [.str s, .int x, .int y] st = some (.bl (holdsB s x y), st) := by
  refine run_ret rfl ?_
  unfold b__holds holdsB
  by_cases h1 : s = "="
  · simp [seqS_eq, h1]
  · by_cases h2 : s = "<"
    · simp [seqS_eq, h1, h2, ofs_inj]
    · by_cases h3 : s = "and"
      · by_cases h4 : x = 0 <;> simp [seqS_eq, h1, h2, h3, h4, ofs_inj]
      · by_cases h4 : x = 0 <;> simp [seqS_eq, h1, h2, h3, h4, ofs_inj]
theorem operate_ok {ph pv : Fx} (hh : ∀ s x y st, ph [.str s, .int x, .int y] st = some (.bl (holdsB s x y), st)) (hv : ∀ n st, pv [.int n] st = some (.bl (isV n), st)) (s : Str) (x y : Int) (st : Sto) (hc : cMul x y = true) : f_operate ph pv [.str s, .int x, .int y] st = some (opD s x y, st) := by
  refine run_ret rfl ?_
  unfold b_operate
  have key : ∀ (σ : Sl) (r : Int), σ = [some (.str s), some (.int x), some (.int y), some (.int r)] → retS (ifF (truF (callF pv (consF (varF 3) nilF))) (varF 3) (cstF .non)) σ st = some (.ret (if isV r = true then .int r else .non), st) := by
    rintro σ r rfl
    by_cases h : isV r = true
    · simp [hv, h]
    · simp [hv, h]
  unfold opD resI
  by_cases h1 : s = "+"
  · rw [seq_nx (σ1 := [some (.str s), some (.int x), some (.int y), some (.int (x + y))]) (st1 := st) (by simp [h1]), key _ (x + y) rfl]
    simp [h1]
  · by_cases h2 : s = "-"
    · rw [seq_nx (σ1 := [some (.str s), some (.int x), some (.int y), some (.int (x - y))]) (st1 := st) (by simp [h1, h2, ofs_inj]), key _ (x - y) rfl]
      simp [h1, h2, ofs_inj]
    · by_cases h3 : s = "*"
      · rw [seq_nx (σ1 := [some (.str s), some (.int x), some (.int y), some (.int (x * y))]) (st1 := st) (by simp [h1, h2, h3, hc, ofs_inj]), key _ (x * y) rfl]
        simp [h1, h2, h3, ofs_inj]
      · rw [seq_nx (σ1 := [some (.str s), some (.int x), some (.int y), some (.int (if holdsB s x y = true then 1 else 0))]) (st1 := st) (by simp [h1, h2, h3, hh]), key _ _ rfl]
        simp [h1, h2, h3, ofs_inj]
/-! L5.lean -/
def Tr.val (ρ : Nat → Int) : Tr → Option Int
  | .num n => some n
  | .reg i => some (ρ i)
  | .neg t => (t.val ρ).map fun v => -v
  | .not t => (t.val ρ).map fun v => if v = 0 then 1 else 0
  | .op s l r => match l.val ρ, r.val ρ with
    | some x, some y => if isV (resI s x y) = true then some (resI s x y) else none
    | _, _ => none
def vD : Option Int → D
  | some v => .int v
  | none => .str "range"
theorem val_in {ρ : Nat → Int} (hρ : ∀ i, -99 ≤ ρ i ∧ ρ i ≤ 99) : ∀ (t : Tr) (v : Int), t.wf → t.val ρ = some v → -99 ≤ v ∧ v ≤ 99
  | .num n, v, h, e => by cases e; exact ⟨by have := h.1; omega, h.2⟩
  | .reg i, v, h, e => by cases e; exact hρ i
  | .neg t, v, h, e => by
    simp only [Tr.val] at e
    cases e2 : t.val ρ with
    | none => rw [e2] at e; cases e
    | some u =>
      rw [e2] at e
      cases e
      have q := val_in hρ t u h e2
      show -99 ≤ -u ∧ -u ≤ 99
      omega
  | .not t, v, h, e => by
    simp only [Tr.val] at e
    cases e2 : t.val ρ with
    | none => rw [e2] at e; cases e
    | some u =>
      rw [e2] at e
      cases e
      show -99 ≤ (if u = 0 then (1 : Int) else 0) ∧ (if u = 0 then (1 : Int) else 0) ≤ 99
      by_cases h0 : u = 0 <;> simp [h0]
  | .op s l r, v, h, e => by
    simp only [Tr.val] at e
    split at e
    · split at e
      · rename_i hv
        cases e
        unfold isV at hv
        simpa using hv
      · cases e
    · cases e
def regsD (ρ : Nat → Int) : D := .tup [.int (ρ 0), .int (ρ 1), .int (ρ 2), .int (ρ 3)]
theorem regs_at {ρ : Nat → Int} {i : Nat} (h : i < 4) : atI [D.int (ρ 0), .int (ρ 1), .int (ρ 2), .int (ρ 3)] ((i : Nat) : Int) = some (.int (ρ i)) := by
  have h' : i = 0 ∨ i = 1 ∨ i = 2 ∨ i = 3 := by omega
  rcases h' with rfl | rfl | rfl | rfl <;> rfl
theorem regidx {i : Nat} (h : i < 4) (st : Sto) : indexC c_REGISTERS [.str (regS i)] st = some (.int (i : Nat), st) := by
  have h' : i = 0 ∨ i = 1 ∨ i = 2 ∨ i = 3 := by omega
  rcases h' with rfl | rfl | rfl | rfl <;> simp [indexC, c_REGISTERS, strsD, idxS, regS, ofs_inj]
theorem in_range1 {st : Sto} {k : Nat} {o : Option Int} (h : getL st k = some [vD o]) : inO false c_RANGE (.loc k) st = some (.bl o.isNone, st) := by
  cases o with
  | none => simp [inO, h, c_RANGE, scalD, vD, inF, eqF]
  | some v => simp [inO, h, c_RANGE, scalD, vD, inF, eqF]
theorem in_range2 {st : Sto} {k : Nat} {o p : Option Int} (h : getL st k = some [vD o, vD p]) : inO false c_RANGE (.loc k) st = some (.bl (o.isNone || p.isNone), st) := by
  cases o <;> cases p <;> simp [inO, h, c_RANGE, scalD, vD, inF, eqF]
theorem eval_reg {pe po : Fx} {ρ : Nat → Int} {i : Nat} (hw : i < 4) (st : Sto) : f_evaluate pe po [(Tr.reg i).d, regsD ρ] st = some (.int (ρ i), st) := by
  have i0 : ∀ x : D, atI [D.str "reg", x] 0 = some (.str "reg") := fun _ => rfl
  have i1 : ∀ x : D, atI [D.str "reg", x] 1 = some x := fun _ => rfl
  suffices q : ∃ d s, f_evaluate pe po [(Tr.reg i).d, regsD ρ] st = some (d, s) ∧ d = .int (ρ i) ∧ s = st by
    obtain ⟨d, s, e, rfl, rfl⟩ := q
    exact e
  refine wp_run rfl ?_
  unfold b_evaluate
  refine wp_seq (wp_if (t := false) (st1 := st) (by simp [Tr.d, i0, ofs_inj]) (fun e => by cases e) (fun _ => wp_skip ?_))
  refine wp_seq (wp_if (t := true) (st1 := st) (by simp [Tr.d, i0, ofs_inj]) (fun _ => ?_) (fun e => by cases e))
  exact wp_ret (d := .int (ρ i)) (st1 := st) (by simp only [binF_eq, varF_eq, appF_eq, consF_eq, nilF_eq, cstF_eq, bnd_some, Tr.d, List.getElem?_cons_zero, List.getElem?_cons_succ, ixO_tup, i1, Option.map_some, regidx hw, regsD, regs_at hw, List.map_cons, List.map_nil, List.cons_append]) ⟨rfl, rfl⟩
theorem evaluate_ok {po : Fx} (hop : ∀ s x y st, cMul x y = true → po [.str s, .int x, .int y] st = some (opD s x y, st)) {F : Nat → Fx} (hF : ∀ n, F (n + 1) = f_evaluate (F n) po) {ρ : Nat → Int} (hρ : ∀ i, -99 ≤ ρ i ∧ ρ i ≤ 99) :
    ∀ (n : Nat) (t : Tr) (st : Sto), t.wf → t.dep ≤ n → ∃ st2, F (n + 1) [t.d, regsD ρ] st = some (vD (t.val ρ), st2) ∧ Ext st st2 := by
  intro n
  induction n with
  | zero =>
    intro t st hw hd
    rw [hF]
    cases t with
    | num k => exact ⟨st, run_ret rfl (by simp [b_evaluate, seqS_eq, Tr.d, atI, ixN, ofs_inj, Tr.val, vD]), Ext.refl⟩
    | reg i =>
      exact ⟨st, eval_reg hw st, Ext.refl⟩
    | neg t => exact absurd hd (Nat.not_succ_le_zero _)
    | not t => exact absurd hd (Nat.not_succ_le_zero _)
    | op s l r => exact absurd hd (Nat.not_succ_le_zero _)
  | succ n ih =>
    intro t st hw hd
    rw [hF]
    suffices q : ∃ d s, f_evaluate (F (n + 1)) po [t.d, regsD ρ] st = some (d, s) ∧ d = vD (t.val ρ) ∧ Ext st s by
      obtain ⟨d, s, e, rfl, x⟩ := q
      exact ⟨s, e, x⟩
    cases t with
    | num k => exact ⟨_, st, run_ret rfl (by simp [b_evaluate, seqS_eq, Tr.d, atI, ixN, ofs_inj]; rfl), rfl, Ext.refl⟩
    | reg i =>
      exact ⟨.int (ρ i), st, eval_reg hw st, rfl, Ext.refl⟩
    | neg t =>
      have hd' : t.dep ≤ n := Nat.le_of_succ_le_succ hd
      refine wp_run rfl ?_
      unfold b_evaluate
      have i0 : ∀ (x : D), atI [D.str "neg", x] 0 = some (.str "neg") := fun _ => rfl
      refine wp_seq (wp_if (t := false) (st1 := st) (by simp [Tr.d, i0, ofs_inj]) (fun e => by cases e) (fun _ => wp_skip ?_))
      refine wp_seq (wp_if (t := false) (st1 := st) (by simp [Tr.d, i0, ofs_inj]) (fun e => by cases e) (fun _ => wp_skip ?_))
      refine wp_nx (σ1 := [some (Tr.neg t).d, some (regsD ρ), some (.tup [t.d]), none, none, none]) (st1 := st) (by simp [Tr.d, i0, ofs_inj, cutD, HT.sIx]) ?_
      obtain ⟨s2, e2, x2, g2⟩ := comp_ok (vs := [4]) (i := anyI (varF 2)) (g := nmG 4) (e := callF (F (n + 1)) (consF (varF 4) (consF (varF 1) nilF))) (σ := [some (Tr.neg t).d, some (regsD ρ), some (.tup [t.d]), none, none, none]) (st := st) (st1 := st) (J := .cns [t.d]) (xs := [t.d]) [vD (t.val ρ)] rfl (by show 1 ≤ 1000000; decide) rfl (fun s _ => rfl) (fun i x y ex ey s hs => by
        cases i with
        | succ i => simp at ex
        | zero =>
          cases ex; cases ey
          obtain ⟨s3, e3, x3⟩ := ih t s hw hd'
          exact ⟨_, s3, rfl, by simp [wipeD, e3], x3⟩)
      refine wp_nx (σ1 := [some (Tr.neg t).d, some (regsD ρ), some (.tup [t.d]), some (.loc st.length), none, none]) (st1 := s2) (by rw [asgS_eq, e2]; rfl) ?_
      have gl : getL s2 st.length = some [vD (t.val ρ)] := getL_of g2
      cases hv : t.val ρ with
      | none =>
        rw [hv] at gl
        refine wp_seq (wp_if (t := true) (st1 := s2) (by simp [in_range1 gl]) (fun _ => ?_) (fun e => by cases e))
        exact wp_ret (d := c_RANGE) (st1 := s2) rfl ⟨by simp [Tr.val, hv, vD, c_RANGE], x2⟩
      | some v =>
        rw [hv] at gl
        refine wp_seq (wp_if (t := false) (st1 := s2) (by simp [in_range1 gl]) (fun e => by cases e) (fun _ => wp_skip ?_))
        refine wp_seq (wp_if (t := true) (st1 := s2) (by simp [Tr.d, i0]) (fun _ => ?_) (fun e => by cases e))
        exact wp_ret (d := .int (-v)) (st1 := s2) (by simp [gl, atI, ixN, vD]) ⟨by simp [Tr.val, hv, vD], x2⟩
    | not t =>
      have hd' : t.dep ≤ n := Nat.le_of_succ_le_succ hd
      refine wp_run rfl ?_
      unfold b_evaluate
      have i0 : ∀ (x : D), atI [D.str "not", x] 0 = some (.str "not") := fun _ => rfl
      refine wp_seq (wp_if (t := false) (st1 := st) (by simp [Tr.d, i0, ofs_inj]) (fun e => by cases e) (fun _ => wp_skip ?_))
      refine wp_seq (wp_if (t := false) (st1 := st) (by simp [Tr.d, i0, ofs_inj]) (fun e => by cases e) (fun _ => wp_skip ?_))
      refine wp_nx (σ1 := [some (Tr.not t).d, some (regsD ρ), some (.tup [t.d]), none, none, none]) (st1 := st) (by simp [Tr.d, i0, ofs_inj, cutD, HT.sIx]) ?_
      obtain ⟨s2, e2, x2, g2⟩ := comp_ok (vs := [4]) (i := anyI (varF 2)) (g := nmG 4) (e := callF (F (n + 1)) (consF (varF 4) (consF (varF 1) nilF))) (σ := [some (Tr.not t).d, some (regsD ρ), some (.tup [t.d]), none, none, none]) (st := st) (st1 := st) (J := .cns [t.d]) (xs := [t.d]) [vD (t.val ρ)] rfl (by show 1 ≤ 1000000; decide) rfl (fun s _ => rfl) (fun i x y ex ey s hs => by
        cases i with
        | succ i => simp at ex
        | zero =>
          cases ex; cases ey
          obtain ⟨s3, e3, x3⟩ := ih t s hw hd'
          exact ⟨_, s3, rfl, by simp [wipeD, e3], x3⟩)
      refine wp_nx (σ1 := [some (Tr.not t).d, some (regsD ρ), some (.tup [t.d]), some (.loc st.length), none, none]) (st1 := s2) (by rw [asgS_eq, e2]; rfl) ?_
      have gl : getL s2 st.length = some [vD (t.val ρ)] := getL_of g2
      cases hv : t.val ρ with
      | none =>
        rw [hv] at gl
        refine wp_seq (wp_if (t := true) (st1 := s2) (by simp [in_range1 gl]) (fun _ => ?_) (fun e => by cases e))
        exact wp_ret (d := c_RANGE) (st1 := s2) rfl ⟨by simp [Tr.val, hv, vD, c_RANGE], x2⟩
      | some v =>
        rw [hv] at gl
        refine wp_seq (wp_if (t := false) (st1 := s2) (by simp [in_range1 gl]) (fun e => by cases e) (fun _ => wp_skip ?_))
        refine wp_seq (wp_if (t := false) (st1 := s2) (by simp [Tr.d, i0, ofs_inj]) (fun e => by cases e) (fun _ => wp_skip ?_))
        refine wp_seq (wp_if (t := true) (st1 := s2) (by simp [Tr.d, i0]) (fun _ => ?_) (fun e => by cases e))
        exact wp_ret (d := .int (if v = 0 then 1 else 0)) (st1 := s2) (by simp [gl, atI, ixN, vD]) ⟨by simp [Tr.val, hv, vD], x2⟩
    | op s l r =>
      have hl' : l.dep ≤ n := Nat.le_trans (Nat.le_max_left _ _) (Nat.le_of_succ_le_succ hd)
      have hr' : r.dep ≤ n := Nat.le_trans (Nat.le_max_right _ _) (Nat.le_of_succ_le_succ hd)
      refine wp_run rfl ?_
      unfold b_evaluate
      have i0 : ∀ (x y z : D), atI [D.str "op", x, y, z] 0 = some (.str "op") := fun _ _ _ => rfl
      have i1 : ∀ (x y z : D), atI [D.str "op", x, y, z] 1 = some x := fun _ _ _ => rfl
      refine wp_seq (wp_if (t := false) (st1 := st) (by simp [Tr.d, i0, ofs_inj]) (fun e => by cases e) (fun _ => wp_skip ?_))
      refine wp_seq (wp_if (t := false) (st1 := st) (by simp [Tr.d, i0, ofs_inj]) (fun e => by cases e) (fun _ => wp_skip ?_))
      refine wp_nx (σ1 := [some (Tr.op s l r).d, some (regsD ρ), some (.tup [l.d, r.d]), none, none, none]) (st1 := st) (by simp [Tr.d, i0, ofs_inj, cutD, HT.sIx]) ?_
      obtain ⟨s2, e2, x2, g2⟩ := comp_ok (vs := [4]) (i := anyI (varF 2)) (g := nmG 4) (e := callF (F (n + 1)) (consF (varF 4) (consF (varF 1) nilF))) (σ := [some (Tr.op s l r).d, some (regsD ρ), some (.tup [l.d, r.d]), none, none, none]) (st := st) (st1 := st) (J := .cns [l.d, r.d]) (xs := [l.d, r.d]) [vD (l.val ρ), vD (r.val ρ)] rfl (by show 2 ≤ 1000000; decide) rfl (fun s _ => rfl) (fun i x y ex ey s hs => by
        match i, ex, ey with
        | 0, ex, ey =>
          cases ex; cases ey
          obtain ⟨s3, e3, x3⟩ := ih l s hw.2.1 hl'
          exact ⟨_, s3, rfl, by simp [wipeD, e3], x3⟩
        | 1, ex, ey =>
          cases ex; cases ey
          obtain ⟨s3, e3, x3⟩ := ih r s hw.2.2 hr'
          exact ⟨_, s3, rfl, by simp [wipeD, e3], x3⟩
        | i + 2, ex, ey => simp at ex)
      refine wp_nx (σ1 := [some (Tr.op s l r).d, some (regsD ρ), some (.tup [l.d, r.d]), some (.loc st.length), none, none]) (st1 := s2) (by rw [asgS_eq, e2]; rfl) ?_
      have gl : getL s2 st.length = some [vD (l.val ρ), vD (r.val ρ)] := getL_of g2
      by_cases hn : ((l.val ρ).isNone || (r.val ρ).isNone) = true
      · refine wp_seq (wp_if (t := true) (st1 := s2) (by simp [in_range2 gl]; simpa using hn) (fun _ => ?_) (fun e => by cases e))
        refine wp_ret (d := c_RANGE) (st1 := s2) rfl ⟨?_, x2⟩
        have : (Tr.op s l r).val ρ = none := by
          simp only [Tr.val]
          cases e1 : l.val ρ with
          | none => rfl
          | some x =>
            cases e2 : r.val ρ with
            | none => rfl
            | some y => rw [e1, e2] at hn; cases hn
        rw [this]
        rfl
      · obtain ⟨x, hx⟩ : ∃ x, l.val ρ = some x := by
          cases e1 : l.val ρ with
          | none => rw [e1] at hn; simp at hn
          | some x => exact ⟨x, rfl⟩
        obtain ⟨y, hy⟩ : ∃ y, r.val ρ = some y := by
          cases e1 : r.val ρ with
          | none => rw [e1] at hn; simp at hn
          | some x => exact ⟨x, rfl⟩
        rw [hx, hy] at gl
        have bx := val_in hρ l x hw.2.1 hx
        have cm : cMul x y = true := cMul_l (by simp; omega)
        refine wp_seq (wp_if (t := false) (st1 := s2) (by simp [in_range2 gl]) (fun e => by cases e) (fun _ => wp_skip ?_))
        refine wp_seq (wp_if (t := false) (st1 := s2) (by simp [Tr.d, i0, ofs_inj]) (fun e => by cases e) (fun _ => wp_skip ?_))
        refine wp_seq (wp_if (t := false) (st1 := s2) (by simp [Tr.d, i0, ofs_inj]) (fun e => by cases e) (fun _ => wp_skip ?_))
        have g0 : atI [vD (some x), vD (some y)] 0 = some (.int x) := rfl
        have g1 : atI [vD (some x), vD (some y)] 1 = some (.int y) := rfl
        refine wp_nx (σ1 := [some (Tr.op s l r).d, some (regsD ρ), some (.tup [l.d, r.d]), some (.loc st.length), none, some (opD s x y)]) (st1 := s2) (by simp [Tr.d, i1, gl, g0, g1, hop s x y _ cm]) ?_
        by_cases hv : isV (resI s x y) = true
        · refine wp_ret (d := .int (resI s x y)) (st1 := s2) (by simp [opD, hv]) ⟨by simp [Tr.val, hx, hy, hv, vD], x2⟩
        · refine wp_ret (d := c_RANGE) (st1 := s2) (by simp [opD, hv]) ⟨by simp [Tr.val, hx, hy, hv, vD, c_RANGE], x2⟩
/-! S1.lean -/
/-! ### states of the machine -/
inductive Md where
  | run | wait | woken | over
  deriving DecidableEq
def Md.s : Md → Str
  | .run => "run" | .wait => "wait" | .woken => "woken" | .over => "over"
theorem md_inj (a b : Md) : (a.s = b.s) = (a = b) := by
  apply propext
  cases a <;> cases b <;> simp [Md.s, ofs_inj]
structure Th where
  pc : Nat
  rg : Nat → Int
  md : Md
  wd : Option Str
def oS : Option Str → D
  | none => .non
  | some x => .str x
def oN : Option Nat → D
  | none => .non
  | some x => .int x
def Th.d (t : Th) : D := .tup [.int t.pc, regsD t.rg, .str t.md.s, oS t.wd]
structure Sta where
  v : Str → Int
  o : Str → Option Nat
  q : Str → List Int
  w : Str → List Nat
  t : Nat → Th
def natD (k : Nat) : D := .int k
inductive Kd where
  | var | lock | queue | cond
  deriving DecidableEq
def Kd.s : Kd → Str
  | .var => "var" | .lock => "lock" | .queue => "queue" | .cond => "cond"
def Kd.ix : Kd → Nat
  | .var => 0 | .lock => 1 | .queue => 2 | .cond => 3
/-- what a state has for a shared thing -/
def Sta.ct (s : Sta) : Kd → Str → D
  | .var, x => .int (s.v x)
  | .lock, x => oN (s.o x)
  | .queue, x => .tup ((s.q x).map .int)
  | .cond, x => .tup ((s.w x).map natD)
def Prog.nm (p : Prog) (k : Kd) : List Str := kindNames p.S k.s
def Sta.part (p : Prog) (s : Sta) (k : Kd) : D := .tup ((p.nm k).map (s.ct k))
def Sta.ths (p : Prog) (s : Sta) : D := .tup ((List.range p.T.length).map fun k => (s.t k).d)
def Sta.d (p : Prog) (s : Sta) : D := .tup [s.part p .var, s.part p .lock, s.part p .queue, s.part p .cond, s.ths p]
def upd {α β : Type} [DecidableEq α] (f : α → β) (a : α) (b : β) : α → β := fun x => if x = a then b else f x
@[simp] theorem upd_same' {α β : Type} [DecidableEq α] (f : α → β) (a : α) (b : β) : upd f a b a = b := if_pos rfl
theorem upd_ne' {α β : Type} [DecidableEq α] {f : α → β} {a x : α} {b : β} (h : x ≠ a) : upd f a b x = f x := if_neg h
def Sta.setV (s : Sta) (x : Str) (n : Int) : Sta := { s with v := upd s.v x n }
def Sta.setO (s : Sta) (x : Str) (n : Option Nat) : Sta := { s with o := upd s.o x n }
def Sta.setQ (s : Sta) (x : Str) (n : List Int) : Sta := { s with q := upd s.q x n }
def Sta.setW (s : Sta) (x : Str) (n : List Nat) : Sta := { s with w := upd s.w x n }
def Sta.setT (s : Sta) (k : Nat) (h : Th) : Sta := { s with t := upd s.t k h }
/-- a row with one place written -/
def SpReplaced (φ : Fx) : Prop := ∀ (xs : List D) (k : Nat) (d : D), k < xs.length → xs.length ≤ 1000 → (∀ x ∈ xs, strD x = false) → strD d = false → ∀ s, Rt s φ [.tup xs, .int k, d] (.tup (xs.set k d))
theorem nst_of {xs : List D} (h : ∀ x ∈ xs, strD x = false) : nst xs = false := by
  cases xs with
  | nil => rfl
  | cons x xs => simp [nst, h x (by simp)]
theorem cut_to {xs : List D} {k : Nat} (h : k ≤ xs.length) : cutD xs none (some (k : Int)) = xs.take k := by
  unfold cutD
  rw [HT.sIx_none, HT.sIx_nat, Nat.min_eq_left h]
  simp
theorem cut_from {xs : List D} {k : Nat} (h : k ≤ xs.length) : cutD xs (some (k : Int)) none = xs.drop k := by
  unfold cutD
  rw [HT.sIx_none, HT.sIx_nat, Nat.min_eq_left h]
  exact List.take_of_length_le (by rw [List.length_drop]; omega)
theorem sp_replaced : SpReplaced f__replaced := by
  intro xs k d hk hl hx hd s
  refine Rt.run rfl ?_
  unfold b__replaced
  have h1 : OSl s cutO (.tup xs) none (some (k : Int)) (.tup (xs.take k)) := by
    rw [← cut_to (by omega)]
    exact o_cut (by rw [cut_to (by omega)]; exact nst_of fun x h => hx x (List.mem_of_mem_take h))
  have h2 : OSl s cutO (.tup xs) (some ((k : Int) + 1)) none (.tup (xs.drop (k + 1))) := by
    have e : ((k : Int) + 1) = ((k + 1 : Nat) : Int) := by omega
    rw [e, ← cut_from (by omega)]
    exact o_cut (by rw [cut_from (by omega)]; exact nst_of fun x h => hx x (List.mem_of_mem_drop h))
  have n3 : ∀ x ∈ xs.take k ++ [d], strD x = false := fun x h => by
    rcases List.mem_append.mp h with h | h
    · exact hx x (List.mem_of_mem_take h)
    · rw [List.mem_singleton.mp h]; exact hd
  have h3 : O2 s addO (.tup (xs.take k)) (.tup [d]) (.tup (xs.take k ++ [d])) := o_cat (by simp; omega) (nst_of n3)
  have h4 : O2 s addO (.tup (xs.take k ++ [d])) (.tup (xs.drop (k + 1))) (.tup (xs.take k ++ [d] ++ xs.drop (k + 1))) := o_cat (by simp; omega) (nst_of fun x h => by
    rcases List.mem_append.mp h with h | h
    · exact n3 x h
    · exact hx x (List.mem_of_mem_drop h))
  have e : xs.set k d = xs.take k ++ [d] ++ xs.drop (k + 1) := by
    rw [List.set_eq_take_append_cons_drop, if_pos hk]; simp
  rw [e]
  walk_at "Lw.ev"
/-- a program as it is read -/
structure PW (dep : Nat) (p : Prog) : Prop where
  nd : (p.S.map Thg.name).Nodup
  few : p.S.length ≤ 100
  ok : ∀ x ∈ p.S, x.okIn p.S
  thr : p.T.length ≤ 100
  len : ∀ l ∈ p.T, 1 ≤ l.length ∧ l.length ≤ 100
  wf : ∀ l ∈ p.T, ∀ I ∈ l, I.wf p.S l.length dep
theorem kd_inj (a b : Kd) : (a.s = b.s) = (a = b) := by
  apply propext
  cases a <;> cases b <;> simp [Kd.s, ofs_inj]
theorem thg_kd (t : Thg) : ∃ k : Kd, t.kind = k.s := by
  cases t
  · exact ⟨.var, rfl⟩
  · exact ⟨.lock, rfl⟩
  · exact ⟨.cond, rfl⟩
  · exact ⟨.queue, rfl⟩
theorem mem_nm {p : Prog} {k : Kd} {x : Str} : x ∈ p.nm k ↔ ∃ t ∈ p.S, t.name = x ∧ t.kind = k.s := by
  unfold Prog.nm kindNames
  rw [List.mem_filterMap]
  constructor
  · rintro ⟨t, h, e⟩
    by_cases hk : t.kind = k.s
    · rw [if_pos hk] at e
      exact ⟨t, h, Option.some.inj e, hk⟩
    · rw [if_neg hk] at e; cases e
  · rintro ⟨t, h, e, hk⟩
    exact ⟨t, h, by rw [if_pos hk, e]⟩
theorem thg_get {p : Prog} {x : Str} (nd : (p.S.map Thg.name).Nodup) {t : Thg} (ht : t ∈ p.S) (e : t.name = x) : ∃ i, p.S[i]? = some t ∧ ∀ (j : Nat) (u : Thg), p.S[j]? = some u → j ≠ i → u.name ≠ x := by
  obtain ⟨i, hi, rfl⟩ := List.getElem_of_mem ht
  refine ⟨i, List.getElem?_eq_getElem hi, fun j u hu hj hn => hj ?_⟩
  obtain ⟨hjl, rfl⟩ := List.getElem?_eq_some_iff.mp hu
  have nd' := List.pairwise_iff_getElem.mp nd
  rcases Nat.lt_or_gt_of_ne hj with h | h
  · exact (nd' j i (by rw [List.length_map]; exact hjl) (by rw [List.length_map]; exact hi) h (by rw [List.getElem_map, List.getElem_map, hn, e])).elim
  · exact (nd' i j (by rw [List.length_map]; exact hi) (by rw [List.length_map]; exact hjl) h (by rw [List.getElem_map, List.getElem_map, hn, e])).elim
theorem nm_nodup {p : Prog} (nd : (p.S.map Thg.name).Nodup) (k : Kd) : (p.nm k).Nodup := by
  unfold Prog.nm kindNames
  generalize p.S = S at nd
  induction S with
  | nil => simp
  | cons t S ih =>
    rw [List.map_cons, List.nodup_cons] at nd
    have ih' := ih nd.2
    rw [List.filterMap_cons]
    by_cases h : t.kind = k.s
    · simp only [if_pos h]
      refine List.nodup_cons.mpr ⟨fun hm => nd.1 ?_, ih'⟩
      obtain ⟨u, hu, e⟩ := List.mem_filterMap.mp hm
      by_cases h2 : u.kind = k.s
      · rw [if_pos h2] at e
        rw [← Option.some.inj e]
        exact List.mem_map_of_mem hu
      · rw [if_neg h2] at e; cases e
    · simp only [if_neg h]
      exact ih'
def SpKindOf (p : Prog) (φ : Fx) : Prop := ∀ (x : Str) (k : Kd), x ∈ p.nm k → ∀ s, Rt s φ [p.d, .str x] (.str k.s)
def SpNamesOf (p : Prog) (φ : Fx) : Prop := ∀ (k : Kd) (s : Sto), Rt s φ [p.d, .str k.s] (.tup ((p.nm k).map .str))
theorem o_p0 {p : Prog} {s : Sto} : O2 s ixO p.d (.int 0) (.tup (p.S.map Thg.d)) := o_ix0
theorem o_p1 {p : Prog} {s : Sto} : O2 s ixO p.d (.int 1) (.tup (p.T.map thrD)) := o_ix1
theorem o_t0 {t : Thg} {s : Sto} : O2 s ixO t.d (.int 0) (.str t.kind) := by cases t <;> exact o_ix0
theorem o_t1 {t : Thg} {s : Sto} : O2 s ixO t.d (.int 1) (.str t.name) := by cases t <;> exact o_ix1
local macro_rules | `(tactic| walk_at "Lw.o2") => `(tactic| with_reducible first | exact o_p0 | exact o_p1 | exact o_t0 | exact o_t1)
theorem sp_kind_of {p : Prog} (h : (p.S.map Thg.name).Nodup) : SpKindOf p f_kind_of := by
  intro x k hx s
  obtain ⟨t, ht, hn, hk⟩ := mem_nm.mp hx
  obtain ⟨i, hi, hu⟩ := thg_get h ht hn
  refine Rt.run rfl ?_
  unfold b_kind_of
  refine Es.seqR ?_
  intro st ks
  have hj : Ei s (anyI (binF ixO (varF 0) (cstF (.int 0)))) [some p.d, some (.str x), none] (p.S.map Thg.d) := Ei.tup (by walk_at "Lw.ev")
  obtain ⟨J, s1, e1, x1, hJ⟩ := hj st ks
  have hil := (List.getElem?_eq_some_iff.mp hi).1
  obtain ⟨s2, e2, x2⟩ := for_leave (gg := nmG 2) (p := ifS (cmpT (eqO false) (binF ixO (varF 2) (cstF (.int 1))) (varF 1)) (retS (binF ixO (varF 2) (cstF (.int 0)))) nxS) (d := .str k.s) (fun j σ => ∃ y, σ = [some p.d, some (.str x), y]) i (by rw [List.length_map]; exact hil) (ks.trans x1) hJ (by
      rintro j σ d hj hd ⟨y, rfl⟩
      rw [List.getElem?_map] at hd
      cases eu : p.S[j]? with
      | none => rw [eu] at hd; cases hd
      | some u =>
        rw [eu] at hd
        cases hd
        have hne := hu j u eu (by omega)
        exact ⟨_, _, rfl, by walk_at "Lw.ev", _, rfl⟩) (by
      rintro σ ⟨y, rfl⟩
      refine ⟨t.d, _, by rw [List.getElem?_map, hi]; rfl, rfl, ?_⟩
      rw [← hk]
      walk_at "Lw.ev") ((p.S.map Thg.d).length + 1) 0 _ s1 ⟨none, rfl⟩ Ext.refl (by omega) (by omega)
  refine ⟨s2, ?_, x1.trans x2⟩
  have e0 : items J s1 = some (p.S.map Thg.d) := hJ s1 Ext.refl
  show forS _ _ _ [some p.d, some (.str x), none] st = _
  rw [forS_eq, e1, bnd_some]
  simp only [e0]
  exact e2
/-! S2.lean -/
/-! ### the parts of a program and of a state -/
theorem o_str {x y : Str} : (D.str x = D.str y) = (x = y) := by simp
theorem sp_names_of {p : Prog} (h : p.S.length ≤ 100) : SpNamesOf p f_names_of := by
  intro k s
  refine Rt.run rfl ?_
  unfold b_names_of
  refine Es.ret ?_
  have e : ((p.nm k).map .str) = (p.S.map Thg.d).filterMap (fun d => match d with
    | .tup (.str k' :: .str x :: _) => if k' = k.s then some (D.str x) else none
    | _ => none) := by
    unfold Prog.nm kindNames
    rw [List.filterMap_map, List.map_filterMap]
    congr 1
    funext t
    cases t <;> simp only [Thg.kind, Thg.name, Thg.d, Function.comp] <;> split <;> simp_all
  rw [e]
  refine Ev.tupL (Ev.compF _ (Ei.tup (xs := p.S.map Thg.d) (by walk_at "Lw.ev")) (by rw [List.length_map]; show _ ≤ 1000000; omega) fun x hx => ?_)
  obtain ⟨t, ht, rfl⟩ := List.mem_map.mp hx
  refine ⟨[some p.d, some (.str k.s), some t.d], rfl, ?_, fun y hy => ?_⟩
  · have : (Option.isSome (match t.d with
      | .tup (.str k' :: .str x :: _) => if k' = k.s then some (D.str x) else none
      | _ => none)) = decide (t.kind = k.s) := by
      cases t <;> simp only [Thg.d, Thg.kind] <;> split <;> simp_all
    rw [this]
    walk_at "Lw.ev"
  · have : y = .str t.name := by
      cases t <;> simp only [Thg.d, Thg.name] at hy ⊢ <;> split at hy <;> simp_all
    rw [this]
    walk_at "Lw.ev"
/-- where a name stands among those of its kind -/
theorem nm_at {p : Prog} (nd : (p.S.map Thg.name).Nodup) {k : Kd} {x : Str} (hx : x ∈ p.nm k) : ∃ i : Nat, i < (p.nm k).length ∧ (p.nm k)[i]? = some x ∧ ∀ (j : Nat) (w : Str), j ≠ i → (p.nm k)[j]? = some w → w ≠ x := by
  obtain ⟨i, hi, e⟩ := List.getElem_of_mem hx
  refine ⟨i, hi, by rw [List.getElem?_eq_getElem hi, e], fun j w hj hw => ?_⟩
  have nd' := List.pairwise_iff_getElem.mp (nm_nodup nd k)
  obtain ⟨hjl, rfl⟩ := List.getElem?_eq_some_iff.mp hw
  rcases Nat.lt_or_gt_of_ne hj with h | h
  · exact fun h2 => nd' j i hjl hi h (h2.trans e.symm)
  · exact fun h2 => nd' i j hi hjl h (e.trans h2.symm)
def SpContentOf (p : Prog) (φ : Fx) : Prop := ∀ (st : Sta) (k : Kd) (x : Str), x ∈ p.nm k → ∀ s, Rt s φ [p.d, st.d p, .str x] (st.ct k x)
theorem o_s4 {p : Prog} {st : Sta} {s : Sto} : O2 s ixO (st.d p) c_THREADS (st.ths p) := o_ix4
theorem o_sk {p : Prog} {st : Sta} {s : Sto} (k : Kd) : O2 s ixO (st.d p) (.int k.ix) (st.part p k) := by cases k <;> first | exact o_ix0 | exact o_ix1 | exact o_ix2 | exact o_ix3
theorem part_kd (k : Kd) : lkp c_PART_OF_KIND k.s = some (.int k.ix) := by cases k <;> rfl
theorem o_part {k : Kd} {s : Sto} : O1 s (ditO c_PART_OF_KIND) (.str k.s) (.int k.ix) := o_dit (part_kd k)
local macro_rules | `(tactic| walk_at "Lw.o2") => `(tactic| with_reducible first | exact o_s4 | exact o_sk _ | exact o_part)
theorem sp_content_of {p : Prog} (nd : (p.S.map Thg.name).Nodup) {pk pn : Fx} (hk : SpKindOf p pk) (hn : SpNamesOf p pn) : SpContentOf p (f_content_of pk pn) := by
  intro st k x hx s
  obtain ⟨i, hi, hg, hu⟩ := nm_at nd hx
  refine Rt.run rfl ?_
  unfold b_content_of
  have h1 := hk x k hx s
  have h2 := hn k s
  have h3 : O2 s ixO (st.part p k) (.int i) (st.ct k x) := o_ixn (by rw [List.getElem?_map, hg]; rfl)
  refine Es.seqA (d := .str k.s) (by walk_at "Lw.ev") rfl ?_
  refine Es.ret (Ev.bin (by walk_at "Lw.ev") (Ev.tix (n := i) (zs := p.nm k) (z := x) (by walk_at "Lw.ev") (by walk_at "Lw.ev") hg fun j w hj hw => hu j w (by omega) hw) h3)
theorem nm_len {p : Prog} (k : Kd) : (p.nm k).length ≤ p.S.length := List.length_filterMap_le _ _
theorem ct_nostr (st : Sta) (k : Kd) (x : Str) : strD (st.ct k x) = false := by
  cases k <;> simp only [Sta.ct]
  · rfl
  · cases st.o x <;> rfl
  · rfl
  · rfl
theorem part_nostr (p : Prog) (st : Sta) : ∀ x ∈ [st.part p .var, st.part p .lock, st.part p .queue, st.part p .cond, st.ths p], strD x = false := by
  intro x hx
  simp only [List.mem_cons, List.not_mem_nil, or_false] at hx
  rcases hx with rfl | rfl | rfl | rfl | rfl <;> rfl
/-- a state with another content at a name -/
def Puts (p : Prog) (st : Sta) (k : Kd) (x : Str) (c : D) (st2 : Sta) : Prop := (∀ y, st2.ct k y = if y = x then c else st.ct k y) ∧ (∀ k2, k2 ≠ k → ∀ y, st2.ct k2 y = st.ct k2 y) ∧ st2.t = st.t
def SpWithContent (p : Prog) (φ : Fx) : Prop := ∀ (st st2 : Sta) (k : Kd) (x : Str) (c : D), x ∈ p.nm k → Puts p st k x c st2 → strD c = false → ∀ s, Rt s φ [p.d, st.d p, .str x, c] (st2.d p)
theorem sp_with_content {p : Prog} (nd : (p.S.map Thg.name).Nodup) (few : p.S.length ≤ 100) {pk pr pn : Fx} (hk : SpKindOf p pk) (hr : SpReplaced pr) (hn : SpNamesOf p pn) : SpWithContent p (f__with_content pk pr pn) := by
  intro st st2 k x c hx hp hc s
  obtain ⟨i, hi, hg, hu⟩ := nm_at nd hx
  have h1 := hk x k hx s
  have h2 := hn k s
  have e1 : ((p.nm k).map (st.ct k)).set i c = (p.nm k).map (st2.ct k) := by
    apply List.ext_getElem?
    intro j
    rw [List.getElem?_set, List.getElem?_map, List.getElem?_map]
    by_cases hj : i = j
    · subst hj
      rw [if_pos rfl, if_pos (by rw [List.length_map]; exact hi), hg]
      simp [hp.1 x]
    · rw [if_neg hj]
      cases e : (p.nm k)[j]? with
      | none => rfl
      | some w =>
        have := hu j w (fun e => hj e.symm) e
        simp [hp.1 w, this]
  have h3 := hr ((p.nm k).map (st.ct k)) i c (by rw [List.length_map]; exact hi) (by rw [List.length_map]; have := nm_len (p := p) k; omega) (fun y hy => by
    obtain ⟨z, _, rfl⟩ := List.mem_map.mp hy
    exact ct_nostr st k z) hc s
  rw [e1] at h3
  have e2 : ([st.part p .var, st.part p .lock, st.part p .queue, st.part p .cond, st.ths p] : List D).set k.ix (st2.part p k) = [st2.part p .var, st2.part p .lock, st2.part p .queue, st2.part p .cond, st2.ths p] := by
    have et : st2.ths p = st.ths p := by unfold Sta.ths; rw [hp.2.2]
    have ek : ∀ k2, k2 ≠ k → st2.part p k2 = st.part p k2 := fun k2 h => by
      unfold Sta.part
      rw [funext (hp.2.1 k2 h)]
    rw [et]
    cases k
    · rw [ek .lock (by simp), ek .queue (by simp), ek .cond (by simp)]; rfl
    · rw [ek .var (by simp), ek .queue (by simp), ek .cond (by simp)]; rfl
    · rw [ek .var (by simp), ek .lock (by simp), ek .cond (by simp)]; rfl
    · rw [ek .var (by simp), ek .lock (by simp), ek .queue (by simp)]; rfl
  have h4 := hr [st.part p .var, st.part p .lock, st.part p .queue, st.part p .cond, st.ths p] k.ix (st2.part p k) (by cases k <;> simp [Kd.ix]) (by simp) (part_nostr p st) rfl s
  rw [e2] at h4
  have h3' : Rt s pr [st.part p k, .int i, c] (st2.part p k) := h3
  have h4' : Rt s pr [st.d p, .int k.ix, st2.part p k] (st2.d p) := h4
  refine Rt.run rfl ?_
  unfold b__with_content
  refine Es.seqA (d := .str k.s) (by walk_at "Lw.ev") rfl ?_
  refine Es.seqA (d := .int k.ix) (by walk_at "Lw.ev") rfl ?_
  refine Es.ret (Ev.call (xs := [st.d p, .int k.ix, st2.part p k]) (Ea.cons (by walk_at "Lw.ev") (Ea.cons (by walk_at "Lw.ev") (Ea.cons (Ev.call (xs := [st.part p k, .int i, c]) (Ea.cons (by walk_at "Lw.ev") (Ea.cons (Ev.tix (n := i) (zs := p.nm k) (z := x) (by walk_at "Lw.ev") (by walk_at "Lw.ev") hg fun j w hj hw => hu j w (by omega) hw) (by walk_at "Lw.ev"))) h3') Ea.nil))) h4')
/-! threads -/
def SpWithThread (p : Prog) (φ : Fx) : Prop := ∀ (st : Sta) (k : Nat) (h : Th), k < p.T.length → ∀ s, Rt s φ [st.d p, .int k, h.d] ((st.setT k h).d p)
theorem th_nostr (h : Th) : strD h.d = false := rfl
theorem o_th {p : Prog} {st : Sta} {s : Sto} {k : Nat} (hk : k < p.T.length) : O2 s ixO (st.ths p) (.int k) (.tup [.int (st.t k).pc, regsD (st.t k).rg, .str (st.t k).md.s, oS (st.t k).wd]) := o_ixn (by rw [List.getElem?_map, List.getElem?_range hk]; rfl)
theorem sp_with_thread {p : Prog} (few : p.T.length ≤ 100) {pr : Fx} (hr : SpReplaced pr) : SpWithThread p (f__with_thread pr) := by
  intro st k h hk s
  have e1 : ((List.range p.T.length).map fun j => (st.t j).d).set k h.d = (List.range p.T.length).map fun j => ((st.setT k h).t j).d := by
    apply List.ext_getElem?
    intro j
    rw [List.getElem?_set, List.getElem?_map, List.getElem?_map]
    by_cases hj : k = j
    · subst hj
      rw [if_pos rfl, if_pos (by rw [List.length_map, List.length_range]; exact hk), List.getElem?_range hk]
      simp [Sta.setT]
    · rw [if_neg hj]
      by_cases hl : j < p.T.length
      · rw [List.getElem?_range hl]
        simp [Sta.setT, upd_ne' (fun e : j = k => hj e.symm)]
      · rw [List.getElem?_eq_none (by rw [List.length_range]; omega)]; rfl
  have h3 := hr ((List.range p.T.length).map fun j => (st.t j).d) k h.d (by rw [List.length_map, List.length_range]; exact hk) (by rw [List.length_map, List.length_range]; omega) (fun y hy => by
    obtain ⟨z, _, rfl⟩ := List.mem_map.mp hy
    rfl) rfl s
  rw [e1] at h3
  have h3' : Rt s pr [st.ths p, .int k, h.d] ((st.setT k h).ths p) := h3
  have h4' : Rt s pr [st.d p, c_THREADS, (st.setT k h).ths p] ((st.setT k h).d p) := hr [st.part p .var, st.part p .lock, st.part p .queue, st.part p .cond, st.ths p] 4 ((st.setT k h).ths p) (by simp) (by simp) (part_nostr p st) rfl s
  refine Rt.run rfl ?_
  unfold b__with_thread
  walk_at "Lw.ev"
local macro_rules | `(tactic| walk_at "Lw.o2") => `(tactic| with_reducible (refine o_th ?_; assumption))
def SpWithMode (p : Prog) (φ : Fx) : Prop := ∀ (st : Sta) (k : Nat) (m : Md), k < p.T.length → ∀ s, Rt s φ [st.d p, .int k, .str m.s] ((st.setT k { st.t k with md := m }).d p)
theorem sp_with_mode {p : Prog} {pt : Fx} (ht : SpWithThread p pt) : SpWithMode p (f__with_mode pt) := by
  intro st k m hk s
  have h := ht st k { st.t k with md := m } hk s
  unfold Th.d at h
  refine Rt.run rfl ?_
  unfold b__with_mode
  walk_at "Lw.ev"
theorem regs_set {ρ : Nat → Int} {i : Nat} {v : Int} (h : i < 4) : ([D.int (ρ 0), .int (ρ 1), .int (ρ 2), .int (ρ 3)] : List D).set i (.int v) = [.int (upd ρ i v 0), .int (upd ρ i v 1), .int (upd ρ i v 2), .int (upd ρ i v 3)] := by
  have h' : i = 0 ∨ i = 1 ∨ i = 2 ∨ i = 3 := by omega
  rcases h' with rfl | rfl | rfl | rfl <;> simp [upd]
def SpWithReg (p : Prog) (φ : Fx) : Prop := ∀ (st : Sta) (k r : Nat) (v : Int), k < p.T.length → r < 4 → ∀ s, Rt s φ [st.d p, .int k, .str (regS r), .int v] ((st.setT k { st.t k with rg := upd (st.t k).rg r v }).d p)
theorem o_reg {r : Nat} (h : r < 4) {s : Sto} : ON s (indexC c_REGISTERS) [.str (regS r)] (.int r) := .pure fun st => regidx h st
local macro_rules | `(tactic| walk_at "Lw.o2") => `(tactic| with_reducible (refine o_reg ?_; assumption))
theorem sp_with_reg {p : Prog} {pr pt : Fx} (hr : SpReplaced pr) (ht : SpWithThread p pt) : SpWithReg p (f__with_register pr pt) := by
  intro st k r v hk hr4 s
  have h := ht st k { st.t k with rg := upd (st.t k).rg r v } hk s
  have h2 := hr [.int ((st.t k).rg 0), .int ((st.t k).rg 1), .int ((st.t k).rg 2), .int ((st.t k).rg 3)] r (.int v) hr4 (by simp) (fun x hx => by
    simp only [List.mem_cons, List.not_mem_nil, or_false] at hx
    rcases hx with rfl | rfl | rfl | rfl <;> rfl) rfl s
  rw [regs_set hr4] at h2
  have h2' : Rt s pr [regsD (st.t k).rg, .int r, .int v] (regsD (upd (st.t k).rg r v)) := h2
  unfold Th.d at h
  refine Rt.run rfl ?_
  unfold b__with_register
  walk_at "Lw.ev"
/-! instructions -/
def Prog.ins (p : Prog) (k pc : Nat) : Ins := (p.T.getD k []).getD pc .stop
def Prog.size (p : Prog) (k : Nat) : Nat := (p.T.getD k []).length
theorem o_code {p : Prog} {k : Nat} {s : Sto} (hk : k < p.T.length) : O2 s ixO (.tup (p.T.map thrD)) (.int k) (.tup ((p.T.getD k []).map Ins.d)) := o_ixn (by
  rw [List.getElem?_map, List.getD_eq_getElem?_getD, List.getElem?_eq_getElem hk]; rfl)
theorem o_ins {p : Prog} {k pc : Nat} {s : Sto} (h : pc < p.size k) : O2 s ixO (.tup ((p.T.getD k []).map Ins.d)) (.int pc) (p.ins k pc).d := o_ixn (by
  unfold Prog.size at h
  unfold Prog.ins
  generalize p.T.getD k [] = l at h ⊢
  rw [List.getElem?_map, List.getD_eq_getElem?_getD, List.getElem?_eq_getElem h]; rfl)
theorem o_codelen {p : Prog} {k : Nat} {s : Sto} : ON s lenO [.tup ((p.T.getD k []).map Ins.d)] (.int (p.size k)) := by
  have e : ((p.T.getD k []).map Ins.d).length = p.size k := by rw [List.length_map]; rfl
  rw [← e]
  exact o_len
local macro_rules | `(tactic| walk_at "Lw.o2") => `(tactic| with_reducible first | (refine o_code ?_; assumption) | (refine o_ins ?_; assumption) | exact o_codelen)
def SpFailed (p : Prog) (φ : Fx) : Prop := ∀ (st : Sta) (k : Nat) (w : Str), k < p.T.length → ∀ s, Rt s φ [st.d p, .int k, .str w] ((st.setT k { st.t k with md := .over, wd := some w }).d p)
theorem sp_failed {p : Prog} {pt : Fx} (ht : SpWithThread p pt) : SpFailed p (f__failed pt) := by
  intro st k w hk s
  have h := ht st k { st.t k with md := .over, wd := some w } hk s
  unfold Th.d at h
  have h' : Rt s pt [st.d p, .int k, .tup [.int (st.t k).pc, regsD (st.t k).rg, .str "over", .str w]] ((st.setT k { st.t k with md := .over, wd := some w }).d p) := h
  refine Rt.run rfl ?_
  unfold b__failed
  walk_at "Lw.ev"
/-- the place where a thread goes on -/
def Sta.go (p : Prog) (st : Sta) (k pc : Nat) : Sta := st.setT k { st.t k with pc := pc, md := if pc = p.size k then .over else (st.t k).md }
def SpMovedTo (p : Prog) (φ : Fx) : Prop := ∀ (st : Sta) (k pc : Nat), k < p.T.length → ∀ s, Rt s φ [p.d, st.d p, .int k, .int pc] ((st.go p k pc).d p)
theorem sp_moved_to {p : Prog} {pt : Fx} (ht : SpWithThread p pt) : SpMovedTo p (f__moved_to pt) := by
  intro st k pc hk s
  have h := ht st k { st.t k with pc := pc, md := if pc = p.size k then .over else (st.t k).md } hk s
  refine Rt.run rfl ?_
  unfold b__moved_to
  unfold Th.d at h
  by_cases hp : pc = p.size k
  · have h' : Rt s pt [st.d p, .int k, .tup [.int pc, regsD (st.t k).rg, .str "over", oS (st.t k).wd]] ((st.go p k pc).d p) := by
      unfold Sta.go
      simp only [if_pos hp] at h ⊢
      exact h
    have hd : decide ((pc : Int) = (p.size k : Int)) = true := decide_eq_true (by omega)
    walk_at "Lw.ev"
  · have h' : Rt s pt [st.d p, .int k, .tup [.int pc, regsD (st.t k).rg, .str (st.t k).md.s, oS (st.t k).wd]] ((st.go p k pc).d p) := by
      unfold Sta.go
      simp only [if_neg hp] at h ⊢
      exact h
    have hd : decide ((pc : Int) = (p.size k : Int)) = false := decide_eq_false (by omega)
    walk_at "Lw.ev"
/-! U1.lean -/
/-! ### data that hang on no place: what Python's == sees of them -/
def Pu (k : Nat) (d : D) (p : PyData) : Prop := (∀ (st : Sto) (n : Nat), py st n d = some p) ∧ p.canLay0 = true ∧ p.depth ≤ k
def Pus (k : Nat) (ds : List D) (ps : List PyData) : Prop := (∀ (st : Sto) (n : Nat), pys st n ds = some ps) ∧ PyData.canLayAll0 ps = true ∧ PyData.depthAll ps ≤ k
theorem pu_mono {k l : Nat} {d : D} {p : PyData} (h : Pu k d p) (hk : k ≤ l) : Pu l d p := ⟨h.1, h.2.1, Nat.le_trans h.2.2 hk⟩
theorem pu_str {x : Str} (h : PyData.strOk x = true) {k : Nat} : Pu k (.str x) (.str x) := ⟨fun st n => by simp only [py], by simpa only [PyData.canLay0] using h, by simp only [PyData.depth]; omega⟩
theorem pu_int {i : Int} {k : Nat} : Pu k (.int i) (.int i) := ⟨fun st n => by simp only [py], by simp only [PyData.canLay0], by simp only [PyData.depth]; omega⟩
theorem pu_non {k : Nat} : Pu k .non .none := ⟨fun st n => by simp only [py], by simp only [PyData.canLay0], by simp only [PyData.depth]; omega⟩
theorem pus_nil {k : Nat} : Pus k [] [] := ⟨fun st n => by simp only [pys], by simp only [PyData.canLayAll0], by simp only [PyData.depthAll]; omega⟩
theorem pus_cons {k : Nat} {d : D} {p : PyData} {ds : List D} {ps : List PyData} (h : Pu k d p) (hs : Pus k ds ps) : Pus k (d :: ds) (p :: ps) := ⟨fun st n => by simp only [pys, h.1, hs.1], by simp only [PyData.canLayAll0, h.2.1, hs.2.1, Bool.and_self], by
  have a := h.2.2
  have b := hs.2.2
  simp only [PyData.depthAll]
  omega⟩
theorem pu_tup {k : Nat} {ds : List D} {ps : List PyData} (h : Pus k ds ps) : Pu (k + 1) (.tup ds) (.tuple ps) := ⟨fun st n => by simp only [py, h.1, Option.map_some], by simpa only [PyData.canLay0] using h.2.1, by
  have a := h.2.2
  simp only [PyData.depth]
  omega⟩
theorem pus_map {α : Type} {k : Nat} {f : α → D} {g : α → PyData} : ∀ {l : List α}, (∀ x ∈ l, Pu k (f x) (g x)) → Pus k (l.map f) (l.map g)
  | [], _ => pus_nil
  | x :: l, h => pus_cons (h x List.mem_cons_self) (pus_map fun y hy => h y (List.mem_cons_of_mem _ hy))
theorem pu_shaped {k : Nat} {d : D} {p : PyData} (h : Pu k d p) (hk : k ≤ 64) : SeqAt.shaped p = true := by
  unfold SeqAt.shaped
  rw [h.2.1, Bool.true_and]
  exact decide_eq_true (Nat.le_trans h.2.2 hk)
/-! ### lists of such data, and lists of such lists -/
theorem py_list {st : Sto} {k n d : Nat} {ds : List D} {ps : List PyData} (h : getL st k = some ds) (p : Pus d ds ps) : py st (n + 1) (.loc k) = some (.list ps) := by simp only [py, h, p.1, Option.map_some]
theorem list_shaped {d : Nat} {ds : List D} {ps : List PyData} (p : Pus d ds ps) (hd : d + 1 ≤ 64) : SeqAt.shaped (.list ps) = true := by
  have a := p.2.2
  unfold SeqAt.shaped
  rw [Bool.and_eq_true]
  refine ⟨?_, decide_eq_true ?_⟩
  · simpa only [PyData.canLay0] using p.2.1
  · simp only [PyData.depth]; omega
theorem nil_shaped : SeqAt.shaped (.list []) = true := by
  unfold SeqAt.shaped
  simp [PyData.canLay0, PyData.canLayAll0, PyData.depth, PyData.depthAll]
theorem py_nil {st : Sto} {k n : Nat} (h : getL st k = some []) : py st (n + 1) (.loc k) = some (.list []) := by simp only [py, h, pys, Option.map_some]
theorem eqv_nil (ps : List PyData) : PyData.eqv (.list ps) (.list []) = decide (ps = []) := by
  cases ps <;> simp [PyData.eqv, PyData.eqvAll]
/-- a list compared with a new empty one -/
theorem eqO_nil {st : Sto} {k : Nat} {ps : List PyData} (h : py (st ++ [.lst []]) 60 (.loc k) = some (.list ps)) (hs : SeqAt.shaped (.list ps) = true) (neg : Bool) : eqO neg (.loc k) (.loc st.length) (st ++ [.lst []]) = some (.bl (decide (ps = []) != neg), st ++ [.lst []]) := by
  have q : py (st ++ [.lst []]) 60 (.loc st.length) = some (.list []) := py_nil (getL_of (by simp))
  unfold eqO
  simp only [eqS, h, q, hs, nil_shaped, and_self, if_true, eqv_nil]
theorem eqO_nilP {st : Sto} {k d : Nat} {ds : List D} {ps : List PyData} (h : getL st k = some ds) (p : Pus d ds ps) (hd : d + 1 ≤ 64) (neg : Bool) : eqO neg (.loc k) (.loc st.length) (st ++ [.lst []]) = some (.bl (decide (ds = []) != neg), st ++ [.lst []]) := by
  rw [eqO_nil (py_list ((Ext.app _).getL h) p) (list_shaped p hd)]
  have e : decide (ps = []) = decide (ds = []) := by
    have l : ∀ (ds : List D) (ps : List PyData), pys st 60 ds = some ps → (ps = [] ↔ ds = []) := fun ds ps h => by
      cases ds with
      | nil => simp only [pys] at h; cases h; simp
      | cons x r =>
        simp only [pys] at h
        split at h
        · cases h; simp
        · cases h
    exact decide_eq_decide.mpr (l ds ps (p.1 st 60))
  rw [e]
/-! S3.lean -/
/-! ### what an instruction names -/
def Ins.w : Ins → Str
  | .leti _ _ => "let" | .get _ _ => "get" | .put _ _ => "put" | .add _ _ => "add" | .lock _ => "lock" | .unlock _ => "unlock" | .wait _ => "wait" | .notify _ => "notify" | .notifyall _ => "notifyall"
  | .send _ _ => "send" | .take _ _ => "take" | .check _ => "check" | .go _ _ => "go" | .begin_ => "begin" | .end_ => "end" | .stop => "stop"
def Ins.tr : Ins → Option Tr
  | .leti _ t => some t | .put _ t => some t | .add _ t => some t | .send _ t => some t | .check t => some t | .go _ t => t | _ => none
def Ins.nm : Ins → Option Str
  | .get _ x => some x | .put x _ => some x | .add x _ => some x | .lock x => some x | .unlock x => some x | .wait x => some x | .notify x => some x | .notifyall x => some x | .send x _ => some x | .take _ x => some x | _ => none
def Ins.kd : Ins → Option Kd
  | .get _ _ => some .var | .put _ _ => some .var | .add _ _ => some .var | .lock _ => some .lock | .unlock _ => some .lock | .wait _ => some .cond | .notify _ => some .cond | .notifyall _ => some .cond | .send _ _ => some .queue | .take _ _ => some .queue | _ => none
def kdD : Option Kd → D
  | none => .non
  | some k => .str k.s
theorem o_w {I : Ins} {s : Sto} : O2 s ixO I.d (.int 0) (.str I.w) := by cases I <;> exact o_ix0
local macro_rules | `(tactic| walk_at "Lw.o2") => `(tactic| with_reducible exact o_w)
theorem eat (I : Ins) : (lkp c_EXPRESSION_AT I.w = none ∧ I.tr = none) ∨ ∃ n : Int, lkp c_EXPRESSION_AT I.w = some (.int n) ∧ ∀ s, O2 s ixO I.d (.int n) (oTr I.tr) := by
  cases I <;> first | exact .inl ⟨rfl, rfl⟩ | exact .inr ⟨1, rfl, fun _ => o_ix1⟩ | exact .inr ⟨2, rfl, fun _ => o_ix2⟩
theorem nat_ (I : Ins) : (lkp c_NAME_AT I.w = none ∧ I.nm = none) ∨ ∃ n : Int, lkp c_NAME_AT I.w = some (.int n) ∧ ∀ s, O2 s ixO I.d (.int n) (oS I.nm) := by
  cases I <;> first | exact .inl ⟨rfl, rfl⟩ | exact .inr ⟨1, rfl, fun _ => o_ix1⟩ | exact .inr ⟨2, rfl, fun _ => o_ix2⟩
theorem kat (I : Ins) : (lkp c_KINDS I.w).getD .non = kdD I.kd := by cases I <;> rfl
def SpExprOf (φ : Fx) : Prop := ∀ (I : Ins) (s : Sto), Rt s φ [I.d] (oTr I.tr)
def SpThingOf (φ : Fx) : Prop := ∀ (I : Ins) (s : Sto), Rt s φ [I.d] (oS I.nm)
def SpKindNeeded (φ : Fx) : Prop := ∀ (I : Ins) (s : Sto), Rt s φ [I.d] (kdD I.kd)
theorem dget_n {kvs : List (Str × D)} {z : Str} (h : lkp kvs z = none) {s : Sto} : ON s (dgetO kvs) [.str z] .non := .pure fun _ => by rw [dgetO_1, h]; rfl
theorem dget_s {kvs : List (Str × D)} {z : Str} {d : D} (h : lkp kvs z = some d) {s : Sto} : ON s (dgetO kvs) [.str z] d := .pure fun _ => by rw [dgetO_1, h]; rfl
theorem sp_expr_of : SpExprOf f_expression_of := by
  intro I s
  refine Rt.run rfl ?_
  unfold b_expression_of
  rcases eat I with ⟨h, e⟩ | ⟨n, h, e⟩
  · rw [e]
    show Es s _ _ (.ret .non)
    have h1 := dget_n h (s := s)
    refine Es.seqA (d := .non) (by repeat' (first | exact h1 | walk_at "Lw.ev1")) rfl ?_
    refine Es.ret (Ev.ifT (b := true) (by walk_at "Lw.ev") rfl (by walk_at "Lw.ev"))
  · have h1 := dget_s h (s := s)
    have e1 := e s
    refine Es.seqA (d := .int n) (by repeat' (first | exact h1 | walk_at "Lw.ev1")) rfl ?_
    refine Es.ret (Ev.ifF (b := false) (by walk_at "Lw.ev") rfl (by walk_at "Lw.ev"))
theorem sp_thing_of : SpThingOf f_thing_of := by
  intro I s
  refine Rt.run rfl ?_
  unfold b_thing_of
  rcases nat_ I with ⟨h, e⟩ | ⟨n, h, e⟩
  · rw [e]
    show Es s _ _ (.ret .non)
    have h1 := dget_n h (s := s)
    refine Es.seqA (d := .non) (by repeat' (first | exact h1 | walk_at "Lw.ev1")) rfl ?_
    refine Es.ret (Ev.ifT (b := true) (by walk_at "Lw.ev") rfl (by walk_at "Lw.ev"))
  · have h1 := dget_s h (s := s)
    have e1 := e s
    refine Es.seqA (d := .int n) (by repeat' (first | exact h1 | walk_at "Lw.ev1")) rfl ?_
    refine Es.ret (Ev.ifF (b := false) (by walk_at "Lw.ev") rfl (by walk_at "Lw.ev"))
theorem sp_kind_needed : SpKindNeeded f_kind_needed := by
  intro I s
  refine Rt.run rfl ?_
  unfold b_kind_needed
  have h : ON s (dgetO c_KINDS) [.str I.w] (kdD I.kd) := kat I ▸ o_dget
  refine Es.ret (Ev.app (xs := [.str I.w]) (by walk_at "Lw.ev") h)
/-! the lock of a condition, the size of a queue -/
def lkF (c : Str) : Thg → Option Str
  | .cond x m => if x = c then some m else none
  | _ => none
def Prog.lk (p : Prog) (c : Str) : Str := ((p.S.filterMap (lkF c)).head?).getD Str.empty
def capF (x : Str) : Thg → Option Int
  | .queue y n => if y = x then some n else none
  | _ => none
def Prog.cap (p : Prog) (x : Str) : Int := ((p.S.filterMap (capF x)).head?).getD 0
/-- of things with names of their own, the one with a name -/
theorem one_of {α : Type} {S : List Thg} (nd : (S.map Thg.name).Nodup) {t : Thg} (ht : t ∈ S) {φ : Thg → Option α} {a : α} (h1 : φ t = some a) (h2 : ∀ u, u.name ≠ t.name → φ u = none) : S.filterMap φ = [a] := by
  induction S with
  | nil => cases ht
  | cons u S ih =>
    rw [List.map_cons, List.nodup_cons] at nd
    rw [List.filterMap_cons]
    by_cases e : u = t
    · subst e
      rw [h1]
      have : S.filterMap φ = [] := by
        rw [List.filterMap_eq_nil_iff]
        intro v hv
        exact h2 v fun e => nd.1 (e ▸ List.mem_map_of_mem hv)
      rw [this]
    · have ht2 : t ∈ S := by
        rcases List.mem_cons.mp ht with h | h
        · exact absurd h.symm e
        · exact h
      have hne : u.name ≠ t.name := fun e => nd.1 (e ▸ List.mem_map_of_mem ht2)
      rw [h2 u hne]
      exact ih nd.2 ht2
theorem cond_of {p : Prog} (nd : (p.S.map Thg.name).Nodup) {c : Str} (hc : c ∈ p.nm .cond) : ∃ m, Thg.cond c m ∈ p.S ∧ p.S.filterMap (lkF c) = [m] ∧ p.lk c = m := by
  obtain ⟨t, ht, hn, hk⟩ := mem_nm.mp hc
  cases t with
  | cond x m =>
    have hx : x = c := hn
    subst hx
    have e : p.S.filterMap (lkF x) = [m] := one_of nd ht (by simp [lkF]) (fun u hu => by cases u <;> simp [lkF, Thg.name] at hu ⊢; exact hu)
    exact ⟨m, ht, e, by unfold Prog.lk; rw [e]; rfl⟩
  | _ => simp [Thg.kind, Kd.s, ofs_inj] at hk
theorem queue_of {p : Prog} (nd : (p.S.map Thg.name).Nodup) {x : Str} (hx : x ∈ p.nm .queue) : ∃ n, Thg.queue x n ∈ p.S ∧ p.S.filterMap (capF x) = [n] ∧ p.cap x = n := by
  obtain ⟨t, ht, hn, hk⟩ := mem_nm.mp hx
  cases t with
  | queue y n =>
    have hy : y = x := hn
    subst hy
    have e : p.S.filterMap (capF y) = [n] := one_of nd ht (by simp [capF]) (fun u hu => by cases u <;> simp [capF, Thg.name] at hu ⊢; exact hu)
    exact ⟨n, ht, e, by unfold Prog.cap; rw [e]; rfl⟩
  | _ => simp [Thg.kind, Kd.s, ofs_inj] at hk
theorem locks_nm {p : Prog} {m : Str} : m ∈ locksOf p.S ↔ m ∈ p.nm .lock := by
  rw [mem_nm]
  unfold locksOf
  rw [List.mem_filterMap]
  constructor
  · rintro ⟨t, h, e⟩
    cases t <;> simp [Thg.lk] at e
    subst e
    exact ⟨_, h, rfl, rfl⟩
  · rintro ⟨t, h, e, k⟩
    cases t with
    | lock x => exact ⟨_, h, by rw [← e]; rfl⟩
    | _ => simp [Thg.kind, Kd.s, ofs_inj] at k
theorem lk_lock {dep : Nat} {p : Prog} (h : PW dep p) {c : Str} (hc : c ∈ p.nm .cond) : p.lk c ∈ p.nm .lock := by
  obtain ⟨m, hm, _, e⟩ := cond_of h.nd hc
  rw [e]
  exact locks_nm.mp (h.ok _ hm)
def SpLockOf (p : Prog) (φ : Fx) : Prop := ∀ c, c ∈ p.nm .cond → ∀ s, Rt s φ [p.d, .str c] (.str (p.lk c))
theorem sp_lock_of {p : Prog} (nd : (p.S.map Thg.name).Nodup) (few : p.S.length ≤ 100) : SpLockOf p f_lock_of := by
  intro c hc s
  obtain ⟨m, hm, e, e2⟩ := cond_of nd hc
  rw [e2]
  refine Rt.run rfl ?_
  unfold b_lock_of
  refine Es.ret (Ev.ixL (xs := [.str m]) (v := 0) ?_ (by walk_at "Lw.ev") rfl)
  have e3 : [D.str m] = p.S.filterMap (fun t => (lkF c t).map .str) := by
    rw [← List.map_filterMap, e]; rfl
  rw [e3]
  refine Ev.compM _ (Ei.tup (xs := p.S.map Thg.d) (by walk_at "Lw.ev")) (by show _ ≤ 1000000; omega) fun t ht => ⟨[some p.d, some (.str c), some t.d], rfl, ?_, fun y hy => ?_⟩
  · by_cases hk : t.kind = "cond"
    · cases t with
      | cond x m =>
        have : ((lkF c (.cond x m)).map D.str).isSome = (true && decide (x = c)) := by
          unfold lkF
          by_cases h : x = c <;> simp [h]
        rw [this]
        exact Et.and (Et.of (b := decide (("cond" : Str) = "cond")) (Et.cmp (Ev.bin (by walk_at "Lw.ev") (by walk_at "Lw.ev") o_ix0) (by walk_at "Lw.ev") o_eqss) (by simp)) fun _ => Et.cmp (Ev.bin (by walk_at "Lw.ev") (by walk_at "Lw.ev") o_ix1) (by walk_at "Lw.ev") o_eqss
      | _ => simp [Thg.kind, ofs_inj] at hk
    · have : ((lkF c t).map D.str).isSome = (decide (t.kind = "cond") && false) := by
        cases t <;> simp [lkF, Thg.kind] at hk ⊢
      rw [this]
      exact Et.and (Et.cmp (by walk_at "Lw.ev") (by walk_at "Lw.ev") o_eqss) fun h => absurd (of_decide_eq_true h) hk
  · cases t with
    | cond x m =>
      simp only [lkF] at hy
      split at hy
      · cases hy; exact Ev.bin (by walk_at "Lw.ev") (by walk_at "Lw.ev") o_ix2
      · cases hy
    | _ => cases hy
def SpEval (dep : Nat) (φ : Fx) : Prop := ∀ (t : Tr) (ρ : Nat → Int), t.wf → t.dep ≤ dep → (∀ i, -99 ≤ ρ i ∧ ρ i ≤ 99) → ∀ s, Rt s φ [t.d, regsD ρ] (vD (t.val ρ))
def SpIsFull (p : Prog) (φ : Fx) : Prop := ∀ (st : Sta) (x : Str), x ∈ p.nm .queue → ∀ s, Rt s φ [p.d, st.d p, .str x] (.bl (decide (p.cap x ≤ (st.q x).length)))
theorem sp_is_full {p : Prog} (nd : (p.S.map Thg.name).Nodup) (few : p.S.length ≤ 100) {pc : Fx} (hc : SpContentOf p pc) : SpIsFull p (f__is_full pc) := by
  intro st x hx s
  obtain ⟨n, hn, e, e2⟩ := queue_of nd hx
  rw [e2]
  refine Rt.run rfl ?_
  unfold b__is_full
  have e3 : [D.int n] = p.S.filterMap (fun t => if t.name = x then some (.int n) else none) := (one_of nd hn (by simp [Thg.name]) (fun u hu => if_neg hu)).symm
  refine Es.asgL (xs := [.int n]) ?_ ?_
  · rw [e3]
    refine Ev.compM _ (Ei.tup (xs := p.S.map Thg.d) (by walk_at "Lw.ev")) (by show _ ≤ 1000000; omega) fun t ht => ⟨[some p.d, some (st.d p), some (.str x), none, some t.d], rfl, ?_, fun y hy => ?_⟩
    · have : (if t.name = x then some (D.int n) else none).isSome = decide (t.name = x) := by by_cases h : t.name = x <;> simp [h]
      rw [this]
      walk_at "Lw.ev"
    · by_cases h : t.name = x
      · rw [if_pos h] at hy
        cases hy
        -- it is the queue
        have : t = .queue x n := by
          obtain ⟨i, hi, hu⟩ := thg_get nd hn rfl
          obtain ⟨j, hj, e⟩ := List.getElem_of_mem ht
          by_cases hji : j = i
          · subst hji
            rw [List.getElem?_eq_getElem hj, e] at hi
            exact Option.some.inj hi
          · exact absurd h (hu j t (by rw [List.getElem?_eq_getElem hj, e]) hji)
        subst this
        exact Ev.bin (by walk_at "Lw.ev") (by walk_at "Lw.ev") o_ix2
      · rw [if_neg h] at hy; cases hy
  · intro s2 m x2 g2
    have h1 := hc st .queue x hx s2
    have h1' : Rt s2 pc [p.d, st.d p, .str x] (.tup ((st.q x).map .int)) := h1
    have h2 : O2 s2 ixO (.loc m) (.int 0) (.int n) := fun st' k => ⟨st', by rw [ixO_loc, k.getL g2]; rfl, Ext.refl⟩
    have h3 : ON s2 lenO [.tup ((st.q x).map .int)] (.int ((st.q x).length : Nat)) := by
      have : ((st.q x).map D.int).length = (st.q x).length := List.length_map _
      rw [← this]; exact o_len
    refine Es.ret (Ev.bin (x := .int ((st.q x).length : Nat)) (y := .int n) (Ev.app (by walk_at "Lw.ev") h3) (Ev.bin (x := .loc m) (y := .int 0) (by walk_at "Lw.ev") (by walk_at "Lw.ev") h2) o_ge)
/-! S4.lean -/
/-! ### what holds of every state that is reached -/
structure SInv (p : Prog) (st : Sta) : Prop where
  rg : ∀ k i, -99 ≤ (st.t k).rg i ∧ (st.t k).rg i ≤ 99
  v : ∀ x, -99 ≤ st.v x ∧ st.v x ≤ 99
  q : ∀ x, ∀ i ∈ st.q x, -99 ≤ i ∧ i ≤ 99
  ql : ∀ x, x ∈ p.nm .queue → ((st.q x).length : Int) ≤ p.cap x
  w : ∀ x k, k ∈ st.w x → k < p.T.length ∧ (st.t k).md = .wait ∧ p.ins k (st.t k).pc = .wait x
  wn : ∀ x, (st.w x).Nodup
  ww : ∀ k x, k < p.T.length → (st.t k).md = .wait → p.ins k (st.t k).pc = .wait x → k ∈ st.w x
  pc : ∀ k, k < p.T.length → (st.t k).md ≠ .over → (st.t k).pc < p.size k
  wt : ∀ k, k < p.T.length → (st.t k).md = .wait ∨ (st.t k).md = .woken → ∃ x, p.ins k (st.t k).pc = .wait x
  wd : ∀ k, (st.t k).md ≠ .over → (st.t k).wd = none
  own : ∀ x k, st.o x = some k → k < p.T.length
theorem ltn_len {n : Nat} : ∀ {l : List Nat}, l.Nodup → (∀ x ∈ l, x < n) → l.length ≤ n := fun {l} nd h => by
  have sub : l ⊆ List.range n := fun x hx => List.mem_range.mpr (h x hx)
  have := nd.length_le_of_subset sub
  rwa [List.length_range] at this
theorem SInv.wl {p : Prog} {st : Sta} (h : SInv p st) (x : Str) : (st.w x).length ≤ p.T.length := ltn_len (h.wn x) fun k hk => (h.w x k hk).1
def work (p : Prog) (st : Sta) (k : Nat) : Bool := (!decide ((st.t k).md = .over)) && decide ((st.t k).pc < p.size k)
def SpWork (p : Prog) (φ : Fx) : Prop := ∀ (st : Sta) (k : Nat), k < p.T.length → ∀ s, Rt s φ [p.d, st.d p, .int k] (.bl (work p st k))
theorem sp_work {p : Prog} : SpWork p f__is_at_work := by
  intro st k hk s
  refine Rt.run rfl ?_
  unfold b__is_at_work
  have e : work p st k = ((!decide ((st.t k).md.s = "over")) && decide (((st.t k).pc : Int) < (p.size k : Int))) := by
    unfold work
    have h1 : (((st.t k).md = Md.over) = ((st.t k).md.s = Str.ofString "over")) := (md_inj _ .over).symm
    have h2 : ((st.t k).pc < p.size k) = (((st.t k).pc : Int) < (p.size k : Int)) := by apply propext; omega
    simp only [h1, h2]
  rw [e]
  walk_at "Lw.ev"
theorem ins_mem {p : Prog} {k pc : Nat} (hk : k < p.T.length) (h : pc < p.size k) : ∃ l ∈ p.T, p.ins k pc ∈ l ∧ l.length = p.size k := by
  have e : p.T.getD k [] = p.T[k] := by rw [List.getD_eq_getElem?_getD, List.getElem?_eq_getElem hk]; rfl
  refine ⟨p.T[k], List.getElem_mem hk, ?_, by unfold Prog.size; rw [e]⟩
  unfold Prog.size at h
  unfold Prog.ins
  rw [e] at h ⊢
  rw [List.getD_eq_getElem?_getD, List.getElem?_eq_getElem h]
  exact List.getElem_mem h
theorem ins_wf {dep : Nat} {p : Prog} (h : PW dep p) {k pc : Nat} (hk : k < p.T.length) (hp : pc < p.size k) : (p.ins k pc).wf p.S (p.size k) dep := by
  obtain ⟨l, hl, hi, e⟩ := ins_mem hk hp
  rw [← e]
  exact h.wf l hl _ hi
/-! what a thread is blocked on -/
def Prog.hind (p : Prog) (st : Sta) (k : Nat) : Option Str :=
  match (st.t k).md with
  | .wait => (p.ins k (st.t k).pc).nm
  | .woken => match (p.ins k (st.t k).pc).nm with
    | some c => if (st.o (p.lk c)).isSome then some (p.lk c) else none
    | none => none
  | _ => match p.ins k (st.t k).pc with
    | .lock x => if (st.o x).isSome then some x else none
    | .send x t => if p.cap x ≤ (st.q x).length ∧ (t.val (st.t k).rg).isSome then some x else none
    | .take _ x => if st.q x = [] then some x else none
    | _ => none
def SpHind (p : Prog) (φ : Fx) : Prop := ∀ (st : Sta) (k : Nat), SInv p st → k < p.T.length → work p st k = true → ∀ s, Rt s φ [p.d, st.d p, .int k] (oS (p.hind st k))
theorem o_eqnil {l : List Int} {s : Sto} : O2 s (eqO false) (.tup (l.map .int)) (.tup []) (.bl (decide (l = []))) := .pure fun st => by
  have p1 : Pus 0 (l.map D.int) (l.map PyData.int) := pus_map fun _ _ => pu_int
  have h1 := pu_tup p1
  have h2 := pu_tup (pus_nil (k := 0))
  have e0 : eqS (.tup (l.map .int)) (.tup []) = none := rfl
  have e1 := h1.1 st 60
  have e2 := h2.1 st 60
  unfold eqO
  simp only [e0]
  rw [e1, e2]
  simp only [pu_shaped h1 (by omega), pu_shaped h2 (by omega), and_self, if_true]
  cases l with
  | nil => simp [PyData.eqv, PyData.eqvAll]
  | cons i l => simp [PyData.eqv, PyData.eqvAll]
theorem nonD_oN (o : Option Nat) : nonD (oN o) = o.isNone := by cases o <;> rfl
theorem nonD_oS (o : Option Str) : nonD (oS o) = o.isNone := by cases o <;> rfl
theorem work_md {p : Prog} {st : Sta} {k : Nat} (h : work p st k = true) : (st.t k).md ≠ .over ∧ (st.t k).pc < p.size k := by
  unfold work at h
  simpa using h
theorem o_vdr {o : Option Int} {s : Sto} : O2 s (eqO true) (vD o) c_RANGE (.bl o.isSome) := by cases o <;> exact .pure fun _ => rfl
theorem o_vdq {o : Option Int} {s : Sto} : O2 s (eqO false) (vD o) c_RANGE (.bl o.isNone) := by cases o <;> exact .pure fun _ => rfl
/-- the tail of the look at an instruction -/
theorem hind_end {s : Sto} {σ : Sl} {b : Bool} {x : Str} {i j : Nat} (h1 : σ[i]? = some (some (.bl b))) (h2 : σ[j]? = some (some (.str x))) : Es s (retS (ifF (truF (varF i)) (varF j) (cstF .non))) σ (.ret (oS (if b = true then some x else none))) := by
  cases b with
  | true => exact Es.ret (Ev.ifT (Et.tru (Ev.var h1) fun _ => rfl) rfl (Ev.var h2))
  | false => exact Es.ret (Ev.ifF (Et.tru (Ev.var h1) fun _ => rfl) rfl Ev.cst)
theorem hind_endN {s : Sto} {σ : Sl} {i j : Nat} (h1 : σ[i]? = some (some (.bl false))) : Es s (retS (ifF (truF (varF i)) (varF j) (cstF .non))) σ (.ret .non) :=
  Es.ret (Ev.ifF (Et.tru (Ev.var h1) fun _ => rfl) rfl Ev.cst)
theorem sp_hind {dep : Nat} {p : Prog} (hp : PW dep p) {pt pl pc pf pe : Fx} (ht : SpThingOf pt) (hl : SpLockOf p pl) (hc : SpContentOf p pc) (hf : SpIsFull p pf) (he : SpEval dep pe) : SpHind p (f__hindrance pt pl pc pf pe) := by
  intro st k inv hk hw s
  obtain ⟨hm, hpc⟩ := work_md hw
  have wf := ins_wf hp hk hpc
  refine Rt.run rfl ?_
  unfold b__hindrance
  have h1 := ht (p.ins k (st.t k).pc) s
  have hsz : (st.t k).pc < p.size k := hpc
  refine Es.seqA4 (d0 := .int (st.t k).pc) (d1 := regsD (st.t k).rg) (d2 := .str (st.t k).md.s) (d3 := oS (st.t k).wd) (by walk_at "Lw.ev") rfl ?_
  refine Es.seqA (d := (p.ins k (st.t k).pc).d) (by walk_at "Lw.ev") rfl ?_
  refine Es.seqA (d := oS (p.ins k (st.t k).pc).nm) (by walk_at "Lw.ev") rfl ?_
  unfold Prog.hind
  cases hmd : (st.t k).md with
  | over => exact absurd hmd hm
  | wait =>
    simp only [Md.s]
    walk_at "Lw.ev"
  | woken =>
    obtain ⟨c, e⟩ := inv.wt k hk (.inr hmd)
    have hcn : c ∈ p.nm .cond := by rw [e] at wf; exact wf
    rw [e]
    simp only [Md.s, Ins.nm, oS]
    have h2 := hl c hcn s
    have h3 : Rt s pc [p.d, st.d p, .str (p.lk c)] (oN (st.o (p.lk c))) := hc st .lock (p.lk c) (lk_lock hp hcn) s
    have e2 : (!nonD (oN (st.o (p.lk c)))) = (st.o (p.lk c)).isSome := by rw [nonD_oN]; cases st.o (p.lk c) <;> rfl
    refine Es.seqRF (by walk_at "Lw.ev") (by walk_at "Lw.dec") ?_
    refine Es.seqT (by walk_at "Lw.ev") (by walk_at "Lw.dec") (Es.asgN (d := .str (p.lk c)) (by walk_at "Lw.ev")) ?_
    refine Es.seqT (Et.or (b2 := true) (by walk_at "Lw.ev") fun h => absurd h (by simp)) (by walk_at "Lw.dec") (Es.asgN (d := .bl (st.o (p.lk c)).isSome) (e2 ▸ (by walk_at "Lw.ev"))) ?_
    exact hind_end rfl rfl
  | run =>
    simp only [Md.s]
    refine Es.seqRF (by walk_at "Lw.ev") (by walk_at "Lw.dec") ?_
    refine Es.seqRF (by walk_at "Lw.ev") (by walk_at "Lw.dec") ?_
    cases hI : p.ins k (st.t k).pc with
    | lock x =>
      rw [hI] at wf
      simp only [Ins.nm, oS]
      have h3 : Rt s pc [p.d, st.d p, .str x] (oN (st.o x)) := hc st .lock x wf s
      have e2 : (!nonD (oN (st.o x))) = (st.o x).isSome := by rw [nonD_oN]; cases st.o x <;> rfl
      refine Es.seqT (Et.or (b2 := true) (by walk_at "Lw.ev") fun _ => Et.of (b := decide ((Ins.lock x).w = "lock")) (by walk_at "Lw.ev") (by simp [Ins.w])) (by walk_at "Lw.dec") (Es.asgN (d := .bl (st.o x).isSome) (e2 ▸ (by walk_at "Lw.ev"))) ?_
      exact hind_end rfl rfl
    | send x t =>
      rw [hI] at wf
      simp only [Ins.nm, oS]
      have h3 := hf st x wf.1 s
      have h4 := he t (st.t k).rg wf.2.1 wf.2.2 (inv.rg k) s
      have h5 : O2 s ixO (Ins.send x t).d (.int 2) t.d := o_ix2
      refine Es.seqF (b := (decide (("run" : Str) = "woken") || decide ((Ins.send x t).w = "lock"))) (by walk_at "Lw.ev") (by simp [Ins.w, ofs_inj]) (Es.ifT (b := decide ((Ins.send x t).w = "send")) (by walk_at "Lw.ev") (by simp [Ins.w]) (Es.asgN (d := .bl (decide (p.cap x ≤ (st.q x).length) && (t.val (st.t k).rg).isSome)) ?_)) ?_
      · refine Ev.and (by walk_at "Lw.ev") fun _ => ?_
        exact Ev.bin (Ev.call (Ea.cons (Ev.bin (by walk_at "Lw.ev") (by walk_at "Lw.ev") h5) (by walk_at "Lw.ev")) h4) (by walk_at "Lw.ev") o_vdr
      · have e : (if p.cap x ≤ (st.q x).length ∧ (t.val (st.t k).rg).isSome then some x else none) = if (decide (p.cap x ≤ ((st.q x).length : Int)) && (t.val (st.t k).rg).isSome) = true then some x else none := by
          simp only [Bool.and_eq_true, decide_eq_true_eq]
        rw [e]
        exact hind_end rfl rfl
    | take r x =>
      rw [hI] at wf
      simp only [Ins.nm, oS]
      have h3 : Rt s pc [p.d, st.d p, .str x] (.tup ((st.q x).map .int)) := hc st .queue x wf.2 s
      refine Es.seqF (b := (decide (("run" : Str) = "woken") || decide ((Ins.take r x).w = "lock"))) (by walk_at "Lw.ev") (by simp [Ins.w, ofs_inj]) (Es.ifF (b := decide ((Ins.take r x).w = "send")) (by walk_at "Lw.ev") (by simp [Ins.w, ofs_inj]) (Es.asgN (d := .bl (true && decide (st.q x = []))) ?_)) ?_
      · refine Ev.and (Ev.of (x := .bl (decide ((Ins.take r x).w = "take"))) (by walk_at "Lw.ev") (by simp [Ins.w])) fun _ => ?_
        exact Ev.bin (Ev.call (by walk_at "Lw.ev") h3) (by walk_at "Lw.ev") o_eqnil
      · have e : (if st.q x = [] then some x else none) = if (true && decide (st.q x = [])) = true then some x else none := by simp
        rw [e]
        exact hind_end rfl rfl
    | _ =>
      (try rw [hI] at h1)
      refine Es.seqF (b := (decide (("run" : Str) = "woken") || decide (Ins.w _ = "lock"))) (by walk_at "Lw.ev") (by simp [Ins.w, ofs_inj]) (Es.ifF (b := decide (Ins.w _ = "send")) (by walk_at "Lw.ev") (by simp [Ins.w, ofs_inj]) (Es.asgN (d := .bl (decide (Ins.w _ = "take") && false)) (Ev.and (by walk_at "Lw.ev") fun h => absurd h (by simp [Ins.w, ofs_inj])))) ?_
      simp only [Bool.and_false]
      exact hind_endN rfl
/-! enabled, blocked -/
def Prog.ena (p : Prog) (st : Sta) (k : Nat) : Bool := work p st k && (p.hind st k).isNone
def Prog.enL (p : Prog) (st : Sta) : List Nat := (List.range p.T.length).filter fun k => p.ena st k
def SpEnabled (p : Prog) (φ : Fx) : Prop := ∀ (st : Sta), SInv p st → ∀ s, Rt s φ [p.d, st.d p] (.tup ((p.enL st).map natD))
theorem rng_map (n : Nat) : rngD 0 n = (List.range n).map natD := by
  unfold rngD
  rw [List.map_inj_left]
  intro a _
  simp [natD]
theorem o_Tlen {p : Prog} {s : Sto} : ON s lenO [.tup (p.T.map thrD)] (.int p.T.length) := by
  have : (p.T.map thrD).length = p.T.length := List.length_map _
  rw [← this]; exact o_len
theorem sp_enabled {dep : Nat} {p : Prog} (hp : PW dep p) {pw ph : Fx} (hw : SpWork p pw) (hh : SpHind p ph) : SpEnabled p (f_enabled pw ph) := by
  intro st inv s
  refine Rt.run rfl ?_
  unfold b_enabled
  have hn := hp.thr
  refine Es.asgL (xs := ((List.range p.T.length).filter (work p st)).map natD) ?_ ?_
  · refine Ev.compB (work p st) natD (L := List.range p.T.length) (fd := natD) (rng_map _ ▸ Ei.rng (Ea.cons (Ev.app (Ea.cons (by walk_at "Lw.ev") Ea.nil) o_Tlen) Ea.nil) (by show _ ≤ 1000000; omega)) (by rw [List.length_range]; show _ ≤ 1000000; omega) fun k hk => ?_
    have hk' := List.mem_range.mp hk
    have h1 := hw st k hk' s
    exact ⟨[some p.d, some (st.d p), none, some (natD k)], rfl, Et.tru (Ev.call (Ea.cons (by walk_at "Lw.ev") (Ea.cons (by walk_at "Lw.ev") (Ea.cons (by walk_at "Lw.ev") Ea.nil))) h1) (fun _ => rfl), fun _ => by walk_at "Lw.ev"⟩
  · intro s2 m x2 g2
    refine Es.ret (Ev.tupL ?_)
    have e : (p.enL st).map natD = (((List.range p.T.length).filter (work p st)).filter fun k => (p.hind st k).isNone).map natD := by
      rw [List.filter_filter]
      unfold Prog.enL Prog.ena
      congr 2
      funext k
      rw [Bool.and_comm]
    rw [e]
    refine Ev.compB (fun k => (p.hind st k).isNone) natD (L := (List.range p.T.length).filter (work p st)) (fd := natD) (Ei.loc (by walk_at "Lw.ev") g2) (Nat.le_trans (List.length_filter_le _ _) (by rw [List.length_range]; show _ ≤ 1000000; omega)) fun k hk => ?_
    obtain ⟨hk1, hk2⟩ := List.mem_filter.mp hk
    have h1 := hh st k inv (List.mem_range.mp hk1) hk2 s2
    refine ⟨[some p.d, some (st.d p), some (.loc m), some (natD k)], rfl, ?_, fun _ => by walk_at "Lw.ev"⟩
    rw [← nonD_oS]
    exact Et.cmp (Ev.call (Ea.cons (by walk_at "Lw.ev") (Ea.cons (by walk_at "Lw.ev") (Ea.cons (by walk_at "Lw.ev") Ea.nil))) h1) (by walk_at "Lw.ev") o_isN
/-! S5.lean -/
/-! ### a step -/
def touch (p : Prog) : Ins → List (Str × Bool)
  | .wait x => [(p.lk x, true), (x, true)]
  | .get _ x => [(x, false)]
  | I => match I.nm with
    | some x => [(x, true)]
    | none => []
def tchD (l : List (Str × Bool)) : D := .tup (l.map tD)
def SpTouches (dep : Nat) (p : Prog) (φ : Fx) : Prop := ∀ (I : Ins) (n : Nat), I.wf p.S n dep → ∀ s, Rt s φ [p.d, I.d] (tchD (touch p I))
theorem sp_touches {dep : Nat} {p : Prog} {pt pl : Fx} (ht : SpThingOf pt) (hl : SpLockOf p pl) : SpTouches dep p (f__touches pt pl) := by
  intro I n wf s
  refine Rt.run rfl ?_
  unfold b__touches
  have h1 := ht I s
  refine Es.seqA (d := oS I.nm) (by walk_at "Lw.ev") rfl ?_
  cases I with
  | wait x =>
    have h2 := hl x wf s
    simp only [Ins.nm, oS]
    refine Es.seqRF (by walk_at "Lw.ev") (by walk_at "Lw.dec") ?_
    refine Es.seqRT (b := decide ((Ins.wait x).w = "wait")) (by walk_at "Lw.ev") (by simp [Ins.w]) ?_
    show Ev s _ _ (.tup [.tup [.str (p.lk x), .bl true], .tup [.str x, .bl true]])
    walk_at "Lw.ev"
  | get r x =>
    simp only [Ins.nm, oS]
    refine Es.seqRF (by walk_at "Lw.ev") (by walk_at "Lw.dec") ?_
    refine Es.seqRF (b := decide ((Ins.get r x).w = "wait")) (by walk_at "Lw.ev") (by simp [Ins.w, ofs_inj]) ?_
    have e : tchD (touch p (.get r x)) = .tup [.tup [.str x, .bl (!decide ((Ins.get r x).w = "get"))]] := by simp [touch, tchD, tD, Ins.w]
    rw [e]
    walk_at "Lw.ev"
  | _ =>
    first
    | (simp only [Ins.nm, oS]
       refine Es.seqRF (by walk_at "Lw.ev") (by walk_at "Lw.dec") ?_
       refine Es.seqRF (b := decide (Ins.w _ = "wait")) (by walk_at "Lw.ev") (by simp [Ins.w, ofs_inj]) ?_
       refine Es.ret (Ev.of (Ev.tup (xs := [.tup [.str _, .bl (!decide (Ins.w _ = "get"))]]) (by walk_at "Lw.ev") rfl) ?_)
       simp [touch, tchD, tD, Ins.w, Ins.nm, ofs_inj])
    | (simp only [Ins.nm, oS]
       refine Es.seqRT (b := true) (by walk_at "Lw.ev") rfl ?_
       show Ev s _ _ (.tup [])
       walk_at "Lw.ev")
def valO : Option Int → D
  | none => .non
  | some v => .int v
def Ins.val (I : Ins) (ρ : Nat → Int) : Option Int := I.tr.bind (Tr.val ρ)
/-- the value of its expression is none -/
def Ins.bad (I : Ins) (ρ : Nat → Int) : Bool := match I.tr with
  | some t => (t.val ρ).isNone
  | none => false
def Prog.wake (st : Sta) : List Nat → Sta
  | [] => st
  | j :: l => Prog.wake (st.setT j { st.t j with md := .woken }) l
def Prog.eff (p : Prog) (st : Sta) (k : Nat) (v : Int) : Ins → Sta × Option Str
  | .leti r _ => (st.setT k { st.t k with rg := upd (st.t k).rg r v }, none)
  | .get r x => (st.setT k { st.t k with rg := upd (st.t k).rg r (st.v x) }, none)
  | .put x _ => (st.setV x v, none)
  | .add x _ => if isV (st.v x + v) = true then (st.setV x (st.v x + v), none) else (st, some "range")
  | .lock x => (st.setO x (some k), none)
  | .unlock x => if st.o x = some k then (st.setO x none, none) else (st, some "owner")
  | .wait x => if st.o (p.lk x) = some k then ((st.setO (p.lk x) none).setW x (st.w x ++ [k]), none) else (st, some "owner")
  | .notify x => (Prog.wake (st.setW x ((st.w x).drop 1)) ((st.w x).take 1), none)
  | .notifyall x => (Prog.wake (st.setW x []) (st.w x), none)
  | .send x _ => (st.setQ x (st.q x ++ [v]), none)
  | .take r x => ((st.setQ x ((st.q x).drop 1)).setT k { st.t k with rg := upd (st.t k).rg r ((st.q x).headD 0) }, none)
  | .check _ => if v = 0 then (st, some "check") else (st, none)
  | _ => (st, none)
theorem puts_v (p : Prog) (st : Sta) (x : Str) (n : Int) : Puts p st .var x (.int n) (st.setV x n) := ⟨fun y => by
  simp only [Sta.ct, Sta.setV, upd]; split <;> rfl, fun k hk y => by cases k <;> first | rfl | exact absurd rfl hk, rfl⟩
theorem puts_o (p : Prog) (st : Sta) (x : Str) (n : Option Nat) : Puts p st .lock x (oN n) (st.setO x n) := ⟨fun y => by
  simp only [Sta.ct, Sta.setO, upd]; split <;> rfl, fun k hk y => by cases k <;> first | rfl | exact absurd rfl hk, rfl⟩
theorem puts_q (p : Prog) (st : Sta) (x : Str) (n : List Int) : Puts p st .queue x (.tup (n.map .int)) (st.setQ x n) := ⟨fun y => by
  simp only [Sta.ct, Sta.setQ, upd]; split <;> rfl, fun k hk y => by cases k <;> first | rfl | exact absurd rfl hk, rfl⟩
theorem puts_w (p : Prog) (st : Sta) (x : Str) (n : List Nat) : Puts p st .cond x (.tup (n.map natD)) (st.setW x n) := ⟨fun y => by
  simp only [Sta.ct, Sta.setW, upd]; split <;> rfl, fun k hk y => by cases k <;> first | rfl | exact absurd rfl hk, rfl⟩
theorem strD_oN (o : Option Nat) : strD (oN o) = false := by cases o <;> rfl
def SpOperate (φ : Fx) : Prop := ∀ (sg : Str) (x y : Int) (st : Sto), cMul x y = true → φ [.str sg, .int x, .int y] st = some (opD sg x y, st)
/-- a variable is used -/
def SpUseVar (dep : Nat) (p : Prog) (φ : Fx) : Prop := ∀ (st : Sta) (k n : Nat) (I : Ins) (vo : Option Int), SInv p st → k < p.T.length → I.wf p.S n dep → I.kd = some .var → (I.tr ≠ none → ∃ v, vo = some v ∧ -99 ≤ v ∧ v ≤ 99) →
  ∀ s, Rt s φ [p.d, st.d p, .int k, I.d, valO vo] (.tup [(p.eff st k (vo.getD 0) I).1.d p, oS (p.eff st k (vo.getD 0) I).2])
theorem sp_use_var {dep : Nat} {p : Prog} {pt pc pr po pw : Fx} (ht : SpThingOf pt) (hc : SpContentOf p pc) (hr : SpWithReg p pr) (ho : SpOperate po) (hw : SpWithContent p pw) : SpUseVar dep p (f__use_variable pt pc pr po pw) := by
  intro st k n I vo inv hk wf hkd hv s
  refine Rt.run rfl ?_
  unfold b__use_variable
  have h1 := ht I s
  cases I with
  | get r x =>
    have h2 : Rt s pc [p.d, st.d p, .str x] (.int (st.v x)) := hc st .var x wf.2 s
    have h3 := hr st k r (st.v x) hk wf.1 s
    have h4 : O2 s ixO (Ins.get r x).d (.int 1) (.str (regS r)) := o_ix1
    refine Es.seqA (d := .str x) (by walk_at "Lw.ev") rfl ?_
    refine Es.seqA (d := .int (st.v x)) (by walk_at "Lw.ev") rfl ?_
    refine Es.seqRT (b := decide ((Ins.get r x).w = "get")) (by walk_at "Lw.ev") (by simp [Ins.w]) ?_
    show Ev s _ _ (.tup [(st.setT k { st.t k with rg := upd (st.t k).rg r (st.v x) }).d p, .non])
    walk_at "Lw.ev"
  | put x t =>
    obtain ⟨v, rfl, v1, v2⟩ := hv (by simp [Ins.tr])
    have h2 : Rt s pc [p.d, st.d p, .str x] (.int (st.v x)) := hc st .var x wf.1 s
    have h3 := hw st (st.setV x v) .var x (.int v) wf.1 (puts_v p st x v) rfl s
    refine Es.seqA (d := .str x) (by walk_at "Lw.ev") rfl ?_
    refine Es.seqA (d := .int (st.v x)) (by walk_at "Lw.ev") rfl ?_
    refine Es.seqRF (b := decide ((Ins.put x t).w = "get")) (by walk_at "Lw.ev") (by simp [Ins.w, ofs_inj]) ?_
    refine Es.seqA (d := .int v) (Ev.ifT (b := decide ((Ins.put x t).w = "put")) (by walk_at "Lw.ev") (by simp [Ins.w]) (Ev.var rfl)) rfl ?_
    refine Es.seqRF (b := false) (by walk_at "Lw.ev") rfl ?_
    show Es s _ _ (.ret (.tup [(st.setV x v).d p, .non]))
    walk_at "Lw.ev"
  | add x t =>
    obtain ⟨v, rfl, v1, v2⟩ := hv (by simp [Ins.tr])
    have h2 : Rt s pc [p.d, st.d p, .str x] (.int (st.v x)) := hc st .var x wf.1 s
    have hx := inv.v x
    have h4 : Rt s po [.str "+", .int (st.v x), .int v] (opD "+" (st.v x) v) := fun st' _ => ⟨st', ho _ _ _ st' (cMul_l (by simp; omega)), Ext.refl⟩
    have e4 : opD "+" (st.v x) v = if isV (st.v x + v) = true then .int (st.v x + v) else .non := by simp [opD, resI]
    rw [e4] at h4
    refine Es.seqA (d := .str x) (by walk_at "Lw.ev") rfl ?_
    refine Es.seqA (d := .int (st.v x)) (by walk_at "Lw.ev") rfl ?_
    refine Es.seqRF (b := decide ((Ins.add x t).w = "get")) (by walk_at "Lw.ev") (by simp [Ins.w, ofs_inj]) ?_
    refine Es.seqA (d := if isV (st.v x + v) = true then .int (st.v x + v) else .non) (Ev.ifF (b := decide ((Ins.add x t).w = "put")) (by walk_at "Lw.ev") (by simp [Ins.w, ofs_inj]) (Ev.call (xs := [.str "+", .int (st.v x), .int v]) (Ea.cons (by walk_at "Lw.ev") (Ea.cons (by walk_at "Lw.ev") (Ea.cons (Ev.var rfl) (by walk_at "Lw.ev")))) h4)) rfl ?_
    simp only [Prog.eff, Option.getD_some]
    by_cases hv : isV (st.v x + v) = true
    · simp only [if_pos hv]
      have h3 := hw st (st.setV x (st.v x + v)) .var x (.int (st.v x + v)) wf.1 (puts_v p st x _) rfl s
      refine Es.seqRF (b := false) (by walk_at "Lw.ev") rfl ?_
      show Es s _ _ (.ret (.tup [(st.setV x (st.v x + v)).d p, .non]))
      walk_at "Lw.ev"
    · simp only [if_neg hv]
      refine Es.seqRT (b := true) (by walk_at "Lw.ev") rfl ?_
      show Ev s _ _ (.tup [st.d p, c_RANGE])
      walk_at "Lw.ev"
  | _ => simp [Ins.kd] at hkd
/-- a lock is used -/
def SpUseLock (dep : Nat) (p : Prog) (φ : Fx) : Prop := ∀ (st : Sta) (k n : Nat) (I : Ins), SInv p st → k < p.T.length → I.wf p.S n dep → I.kd = some .lock → ∀ v, 
  ∀ s, Rt s φ [p.d, st.d p, .int k, I.d] (.tup [(p.eff st k v I).1.d p, oS (p.eff st k v I).2])
theorem o_nek {o : Option Nat} {k : Nat} {s : Sto} : O2 s (eqO true) (oN o) (.int k) (.bl (!decide (o = some k))) := by
  cases o with
  | none => exact .pure fun _ => rfl
  | some j =>
    refine .pure fun _ => ?_
    show eqO true (.int j) (.int k) _ = _
    rw [eqO_int, Bool.bne_true]
    have : decide ((j : Int) = (k : Int)) = decide (some j = some k) := by
      by_cases h : j = k
      · subst h; simp
      · have : ¬ (j : Int) = (k : Int) := by omega
        simp [h, this]
    rw [this]
theorem sp_use_lock {dep : Nat} {p : Prog} {pt pw pc : Fx} (ht : SpThingOf pt) (hw : SpWithContent p pw) (hc : SpContentOf p pc) : SpUseLock dep p (f__use_lock pt pw pc) := by
  intro st k n I inv hk wf hkd v s
  refine Rt.run rfl ?_
  unfold b__use_lock
  have h1 := ht I s
  cases I with
  | lock x =>
    have h3 : Rt s pw [p.d, st.d p, .str x, .int k] ((st.setO x (some k)).d p) := hw st (st.setO x (some k)) .lock x (oN (some k)) wf (puts_o p st x _) rfl s
    refine Es.seqA (d := .str x) (by walk_at "Lw.ev") rfl ?_
    refine Es.seqRT (b := decide ((Ins.lock x).w = "lock")) (by walk_at "Lw.ev") (by simp [Ins.w]) ?_
    show Ev s _ _ (.tup [(st.setO x (some k)).d p, .non])
    walk_at "Lw.ev"
  | unlock x =>
    have h2 : Rt s pc [p.d, st.d p, .str x] (oN (st.o x)) := hc st .lock x wf s
    have h3 : Rt s pw [p.d, st.d p, .str x, .non] ((st.setO x none).d p) := hw st (st.setO x none) .lock x (oN none) wf (puts_o p st x _) rfl s
    refine Es.seqA (d := .str x) (by walk_at "Lw.ev") rfl ?_
    refine Es.seqRF (b := decide ((Ins.unlock x).w = "lock")) (by walk_at "Lw.ev") (by simp [Ins.w, ofs_inj]) ?_
    have hcond : Et s (cmpT (eqO true) (callF pc (consF (varF 0) (consF (varF 1) (consF (varF 4) nilF)))) (varF 2)) ((List.map some [p.d, st.d p, .int k, (Ins.unlock x).d] ++ List.replicate (5 - 4) none).set 4 (some (.str x))) (!decide (st.o x = some k)) := Et.cmp (by walk_at "Lw.ev") (Ev.var rfl) o_nek
    simp only [Prog.eff]
    by_cases ho : st.o x = some k
    · simp only [if_pos ho]
      refine Es.seqRF hcond (by simp [ho]) ?_
      show Es s _ _ (.ret (.tup [(st.setO x none).d p, .non]))
      walk_at "Lw.ev"
    · simp only [if_neg ho]
      refine Es.seqRT hcond (by simp [ho]) ?_
      show Ev s _ _ (.tup [st.d p, .str "owner"])
      walk_at "Lw.ev"
  | _ => simp [Ins.kd] at hkd
/-! S6.lean -/
theorem natD_nostr {l : List Nat} : ∀ x ∈ l.map natD, strD x = false := fun x hx => by
  obtain ⟨y, _, rfl⟩ := List.mem_map.mp hx; rfl
theorem int_nostr {l : List Int} : ∀ x ∈ l.map D.int, strD x = false := fun x hx => by
  obtain ⟨y, _, rfl⟩ := List.mem_map.mp hx; rfl
theorem wake_for {p : Prog} {pm : Fx} (hm : SpWithMode p pm) {s : Sto} : ∀ (l : List Nat) (st : Sta), (∀ j ∈ l, j < p.T.length) → ∀ (m : Nat) (x : Option D) (A : List (Option D)), A.length = 9 → ∀ (L : List Nat) (stt : Sto), Ext s stt → m + l.length = L.length → L.drop m = l → ∀ f, L.length - m < f →
    ∃ st2 y, forV (.cns (L.map natD)) (nmG 10) (asgS (nmG 9) (callF pm (consF (varF 9) (consF (varF 10) (consF (cstF (.str "woken")) nilF))))) f m (A ++ [some (st.d p), x]) stt = some (.nx (A ++ [some ((Prog.wake st l).d p), y]), st2) ∧ Ext stt st2 := by
  intro l
  induction l with
  | nil =>
    intro st hl m x A hA L stt ks hml hd f hf
    cases f with
    | zero => omega
    | succ f =>
      unfold forV
      have : (L.map natD)[m]? = none := List.getElem?_eq_none (by rw [List.length_map]; simp at hml; omega)
      simp only [items_cns, this]
      exact ⟨stt, x, rfl, Ext.refl⟩
  | cons j l ih =>
    intro st hl m x A hA L stt ks hml hd f hf
    cases f with
    | zero => omega
    | succ f =>
      unfold forV
      have hm0 : m < L.length := by simp at hml; omega
      have ej : L[m]? = some j := by
        have : (L.drop m)[0]? = some j := by rw [hd]; rfl
        rw [List.getElem?_drop] at this
        simpa using this
      have : (L.map natD)[m]? = some (natD j) := by rw [List.getElem?_map, ej]; rfl
      simp only [items_cns, this]
      have hj : j < p.T.length := hl j (by simp)
      have h1 := hm st j .woken hj s
      have es : (A ++ [some (st.d p), x]).set 10 (some (natD j)) = A ++ [some (st.d p), some (natD j)] := by
        rw [List.set_append_right _ _ (by omega), hA]; rfl
      have g9 : ∀ y, (A ++ [some (st.d p), y])[9]? = some (some (st.d p)) := fun y => by
        rw [List.getElem?_append_right (by omega), hA]; rfl
      have g10 : (A ++ [some (st.d p), some (natD j)])[10]? = some (some (natD j)) := by
        rw [List.getElem?_append_right (by omega), hA]; rfl
      have h2 : Ev s (callF pm (consF (varF 9) (consF (varF 10) (consF (cstF (.str "woken")) nilF)))) (A ++ [some (st.d p), some (natD j)]) ((st.setT j { st.t j with md := .woken }).d p) := Ev.call (Ea.cons (Ev.var (g9 _)) (Ea.cons (Ev.var g10) (Ea.cons Ev.cst Ea.nil))) h1
      obtain ⟨s3, e3, x3⟩ := h2 stt ks
      have es2 : (A ++ [some (st.d p), some (natD j)]).set 9 (some ((st.setT j { st.t j with md := .woken }).d p)) = A ++ [some ((st.setT j { st.t j with md := .woken }).d p), some (natD j)] := by
        rw [List.set_append_right _ _ (by omega), hA]; rfl
      simp only [nmG_eq, es, asgS_eq, e3, bnd_some, Option.map_some, es2]
      have hd2 : L.drop (m + 1) = l := by
        have : L.drop (m + 1) = (L.drop m).drop 1 := by rw [List.drop_drop]
        rw [this, hd]; rfl
      obtain ⟨s4, y, e4, x4⟩ := ih (st.setT j { st.t j with md := .woken }) (fun i hi => hl i (by simp [hi])) (m + 1) (some (natD j)) A hA L s3 (ks.trans x3) (by simp at hml; omega) hd2 f (by omega)
      exact ⟨s4, y, e4, x3.trans x4⟩
def SpUseCond (dep : Nat) (p : Prog) (φ : Fx) : Prop := ∀ (st : Sta) (k n : Nat) (I : Ins), SInv p st → k < p.T.length → I.wf p.S n dep → I.kd = some .cond → ∀ v, 
  ∀ s, Rt s φ [p.d, st.d p, .int k, I.d] (.tup [(p.eff st k v I).1.d p, oS (p.eff st k v I).2])
theorem notify_end {p : Prog} {st : Sta} {pw pm : Fx} (hw : SpWithContent p pw) (hm : SpWithMode p pm) {x : Str} (hx : x ∈ p.nm .cond) {k many : Nat} {I : D} (hl : ∀ j ∈ st.w x, j < p.T.length) (hmany : many ≤ (st.w x).length) (hb : (st.w x).length ≤ 1000) (s : Sto) :
    Es s (seqS (asgS (nmG 9) (callF pw (consF (varF 0) (consF (varF 1) (consF (varF 4) (consF (slF cutO (varF 5) (someO (varF 8)) noneO) nilF))))))
  (seqS (forS (anyI (slF cutO (varF 5) noneO (someO (varF 8)))) (nmG 10) (asgS (nmG 9) (callF pm (consF (varF 9) (consF (varF 10) (consF (cstF (.str "woken")) nilF))))))
  (retS (tupF (consF (varF 9) (consF (cstF .non) nilF)))))) [some p.d, some (st.d p), some (.int k), some I, some (.str x), some (.tup ((st.w x).map natD)), none, none, some (.int many), none, none]
    (.ret (.tup [(Prog.wake (st.setW x ((st.w x).drop many)) ((st.w x).take many)).d p, .non])) := by
  have hlen : ((st.w x).map natD).length = (st.w x).length := List.length_map _
  have c1 : OSl s cutO (.tup ((st.w x).map natD)) (some (many : Int)) none (.tup (((st.w x).drop many).map natD)) := by
    rw [List.map_drop, ← cut_from (by omega)]
    exact o_cut (nst_of fun y hy => by
      rw [cut_from (by omega), ← List.map_drop] at hy
      exact natD_nostr y hy)
  have c2 : OSl s cutO (.tup ((st.w x).map natD)) none (some (many : Int)) (.tup (((st.w x).take many).map natD)) := by
    rw [List.map_take, ← cut_to (by omega)]
    exact o_cut (nst_of fun y hy => by
      rw [cut_to (by omega), ← List.map_take] at hy
      exact natD_nostr y hy)
  have h3 := hw st (st.setW x ((st.w x).drop many)) .cond x (.tup (((st.w x).drop many).map natD)) hx (puts_w p st x _) rfl s
  refine Es.seqA (d := (st.setW x ((st.w x).drop many)).d p) (by walk_at "Lw.ev") rfl ?_
  intro stt ks
  have hj : Ei s (anyI (slF cutO (varF 5) noneO (someO (varF 8)))) [some p.d, some (st.d p), some (.int k), some I, some (.str x), some (.tup ((st.w x).map natD)), none, none, some (.int many), some ((st.setW x ((st.w x).drop many)).d p), none] (((st.w x).take many).map natD) := Ei.tup (by walk_at "Lw.ev")
  obtain ⟨J, s1, e1, x1, hJ⟩ := hj stt ks
  obtain ⟨s0, e0, x0⟩ := (show Ev s (slF cutO (varF 5) noneO (someO (varF 8))) [some p.d, some (st.d p), some (.int k), some I, some (.str x), some (.tup ((st.w x).map natD)), none, none, some (.int many), some ((st.setW x ((st.w x).drop many)).d p), none] (.tup (((st.w x).take many).map natD)) from by walk_at "Lw.ev") stt ks
  obtain ⟨s2, y, e2, x2⟩ := wake_for (s := s) hm ((st.w x).take many) (st.setW x ((st.w x).drop many)) (fun j hj => hl j (List.mem_of_mem_take hj)) 0 none [some p.d, some (st.d p), some (.int k), some I, some (.str x), some (.tup ((st.w x).map natD)), none, none, some (.int many)] rfl ((st.w x).take many) s0 (ks.trans x0) (by simp) (by simp) (((st.w x).take many).length + 1) (by omega)
  refine ⟨s2, ?_, x0.trans x2⟩
  have ei : anyI (slF cutO (varF 5) noneO (someO (varF 8))) [some p.d, some (st.d p), some (.int k), some I, some (.str x), some (.tup ((st.w x).map natD)), none, none, some (.int many), some ((st.setW x ((st.w x).drop many)).d p), none] stt = some (.cns (((st.w x).take many).map natD), s0) := by
    rw [anyI_eq, e0, bnd_some]
  show seqS (forS _ _ _) _ [some p.d, some (st.d p), some (.int k), some I, some (.str x), some (.tup ((st.w x).map natD)), none, none, some (.int many), some ((st.setW x ((st.w x).drop many)).d p), none] stt = _
  have e2' : forV (.cns (((st.w x).take many).map natD)) (nmG 10) (asgS (nmG 9) (callF pm (consF (varF 9) (consF (varF 10) (consF (cstF (.str "woken")) nilF))))) ((((st.w x).take many).map natD).length + 1) 0 [some p.d, some (st.d p), some (.int k), some I, some (.str x), some (.tup ((st.w x).map natD)), none, none, some (.int many), some ((st.setW x ((st.w x).drop many)).d p), none] s0 = some (.nx ([some p.d, some (st.d p), some (.int k), some I, some (.str x), some (.tup ((st.w x).map natD)), none, none, some (.int many)] ++ [some ((Prog.wake (st.setW x ((st.w x).drop many)) ((st.w x).take many)).d p), y]), s2) := by
    rw [List.length_map]; exact e2
  rw [seqS_eq, forS_eq, ei, bnd_some]
  simp only [items_cns, e2']
  rfl
theorem sp_use_cond {dep : Nat} {p : Prog} (hp : PW dep p) {pt pc pl pw pm : Fx} (ht : SpThingOf pt) (hc : SpContentOf p pc) (hl : SpLockOf p pl) (hw : SpWithContent p pw) (hm : SpWithMode p pm) : SpUseCond dep p (f__use_condition pt pc pl pw pm) := by
  intro st k n I inv hk wf hkd v s
  have hwl : ∀ x, (st.w x).length ≤ 1000 := fun x => by have := inv.wl x; have := hp.thr; omega
  refine Rt.run rfl ?_
  unfold b__use_condition
  have h1 := ht I s
  cases I with
  | wait x =>
    have hx : x ∈ p.nm .cond := wf
    have h2 : Rt s pc [p.d, st.d p, .str x] (.tup ((st.w x).map natD)) := hc st .cond x hx s
    have h3 := hl x hx s
    have h4 : Rt s pc [p.d, st.d p, .str (p.lk x)] (oN (st.o (p.lk x))) := hc st .lock (p.lk x) (lk_lock hp hx) s
    refine Es.seqA (d := .str x) (by walk_at "Lw.ev") rfl ?_
    refine Es.seqA (d := .tup ((st.w x).map natD)) (by walk_at "Lw.ev") rfl ?_
    refine Es.seqTR (b := decide ((Ins.wait x).w = "wait")) (by walk_at "Lw.ev") (by simp [Ins.w]) ?_
    refine Es.seqA (d := .str (p.lk x)) (by walk_at "Lw.ev") rfl ?_
    simp only [Prog.eff]
    have hcond : Et s (cmpT (eqO true) (callF pc (consF (varF 0) (consF (varF 1) (consF (varF 6) nilF)))) (varF 2)) ((((List.map some [p.d, st.d p, .int k, (Ins.wait x).d] ++ List.replicate (11 - 4) none).set 4 (some (.str x))).set 5 (some (.tup ((st.w x).map natD)))).set 6 (some (.str (p.lk x)))) (!decide (st.o (p.lk x) = some k)) := Et.cmp (by walk_at "Lw.ev") (Ev.var rfl) o_nek
    by_cases ho : st.o (p.lk x) = some k
    · simp only [if_pos ho]
      refine Es.seqRF hcond (by simp [ho]) ?_
      have h5 : Rt s pw [p.d, st.d p, .str (p.lk x), .non] ((st.setO (p.lk x) none).d p) := hw st (st.setO (p.lk x) none) .lock (p.lk x) (oN none) (lk_lock hp hx) (puts_o p st _ _) rfl s
      have h6 := hw (st.setO (p.lk x) none) ((st.setO (p.lk x) none).setW x (st.w x ++ [k])) .cond x (.tup ((st.w x ++ [k]).map natD)) hx (puts_w p _ x _) rfl s
      have h7 : O2 s addO (.tup ((st.w x).map natD)) (.tup [.int k]) (.tup ((st.w x ++ [k]).map natD)) := by
        rw [List.map_append]
        exact o_cat (by have := hwl x; simp; omega) (nst_of fun y hy => by
          rcases List.mem_append.mp hy with h | h
          · exact natD_nostr y h
          · exact natD_nostr (l := [k]) y h)
      refine Es.seqA (d := (st.setO (p.lk x) none).d p) (by walk_at "Lw.ev") rfl ?_
      show Es s _ _ (.ret (.tup [((st.setO (p.lk x) none).setW x (st.w x ++ [k])).d p, .non]))
      walk_at "Lw.ev"
    · simp only [if_neg ho]
      refine Es.seqRT hcond (by simp [ho]) ?_
      show Ev s _ _ (.tup [st.d p, .str "owner"])
      walk_at "Lw.ev"
  | notify x =>
    have hx : x ∈ p.nm .cond := wf
    have h2 : Rt s pc [p.d, st.d p, .str x] (.tup ((st.w x).map natD)) := hc st .cond x hx s
    refine Es.seqA (d := .str x) (by walk_at "Lw.ev") rfl ?_
    refine Es.seqA (d := .tup ((st.w x).map natD)) (by walk_at "Lw.ev") rfl ?_
    refine Es.seqRF (b := decide ((Ins.notify x).w = "wait")) (by walk_at "Lw.ev") (by simp [Ins.w, ofs_inj]) ?_
    refine Es.seqA (d := .int 1) (Ev.ifT (b := decide ((Ins.notify x).w = "notify")) (by walk_at "Lw.ev") (by simp [Ins.w]) Ev.cst) rfl ?_
    by_cases h0 : st.w x = []
    · -- nobody waits
      simp only [Prog.eff]
      have e1 : (st.w x).drop 1 = [] := by rw [h0]; rfl
      have e2 : (st.w x).take 1 = [] := by rw [h0]; rfl
      rw [e1, e2]
      have hcut1 : OSl s cutO (.tup ((st.w x).map natD)) (some 1) none (.tup []) := by rw [h0]; exact .pure fun _ => rfl
      have hcut2 : OSl s cutO (.tup ((st.w x).map natD)) none (some 1) (.tup []) := by rw [h0]; exact .pure fun _ => rfl
      have h3 := hw st (st.setW x []) .cond x (.tup []) hx (puts_w p st x []) rfl s
      refine Es.seqA (d := (st.setW x []).d p) (by walk_at "Lw.ev") rfl ?_
      refine Es.seq (σ1 := (((((List.map some [p.d, st.d p, .int k, (Ins.notify x).d] ++ List.replicate (11 - 4) none).set 4 (some (.str x))).set 5 (some (.tup ((st.w x).map natD)))).set 8 (some (.int 1))).set 9 (some ((st.setW x []).d p)))) ?_ ?_
      · intro stt ks
        obtain ⟨s0, e0, x0⟩ := (show Ev s (slF cutO (varF 5) noneO (someO (varF 8))) ((((((List.map some [p.d, st.d p, .int k, (Ins.notify x).d] ++ List.replicate (11 - 4) none).set 4 (some (.str x))).set 5 (some (.tup ((st.w x).map natD)))).set 8 (some (.int 1))).set 9 (some ((st.setW x []).d p)))) (.tup []) from by walk_at "Lw.ev") stt ks
        exact ⟨s0, by rw [forS_eq, anyI_eq, e0, bnd_some]; rfl, x0⟩
      · show Es s _ _ (.ret (.tup [(st.setW x []).d p, .non]))
        walk_at "Lw.ev"
    · have h1l : 1 ≤ (st.w x).length := by
        cases e : st.w x with
        | nil => exact absurd e h0
        | cons a l => simp
      exact notify_end hw hm hx (many := 1) (fun j hj => (inv.w x j hj).1) h1l (hwl x) s
  | notifyall x =>
    have hx : x ∈ p.nm .cond := wf
    have h2 : Rt s pc [p.d, st.d p, .str x] (.tup ((st.w x).map natD)) := hc st .cond x hx s
    have hlen : ((st.w x).map natD).length = (st.w x).length := List.length_map _
    have h3 : ON s lenO [.tup ((st.w x).map natD)] (.int (st.w x).length) := by
      rw [← hlen]; exact o_len
    refine Es.seqA (d := .str x) (by walk_at "Lw.ev") rfl ?_
    refine Es.seqA (d := .tup ((st.w x).map natD)) (by walk_at "Lw.ev") rfl ?_
    refine Es.seqRF (b := decide ((Ins.notifyall x).w = "wait")) (by walk_at "Lw.ev") (by simp [Ins.w, ofs_inj]) ?_
    refine Es.seqA (d := .int (st.w x).length) (Ev.ifF (b := decide ((Ins.notifyall x).w = "notify")) (by walk_at "Lw.ev") (by simp [Ins.w, ofs_inj]) (Ev.app (Ea.cons (by walk_at "Lw.ev") (by walk_at "Lw.ev")) h3)) rfl ?_
    have := notify_end hw hm hx (k := k) (I := (Ins.notifyall x).d) (many := (st.w x).length) (fun j hj => (inv.w x j hj).1) (Nat.le_refl _) (hwl x) s
    rw [List.drop_length, List.take_length] at this
    exact this
  | _ => simp [Ins.kd] at hkd
def SpUseQueue (dep : Nat) (p : Prog) (φ : Fx) : Prop := ∀ (st : Sta) (k n : Nat) (I : Ins) (vo : Option Int), SInv p st → k < p.T.length → I.wf p.S n dep → I.kd = some .queue → (I.tr ≠ none → ∃ v, vo = some v ∧ -99 ≤ v ∧ v ≤ 99) → (∀ r x, I = .take r x → st.q x ≠ []) → (∀ x, x ∈ p.nm .queue → (st.q x).length ≤ 1000) →
  ∀ s, Rt s φ [p.d, st.d p, .int k, I.d, valO vo] (.tup [(p.eff st k (vo.getD 0) I).1.d p, oS (p.eff st k (vo.getD 0) I).2])
theorem sp_use_queue {dep : Nat} {p : Prog} {pt pc pw pr : Fx} (ht : SpThingOf pt) (hc : SpContentOf p pc) (hw : SpWithContent p pw) (hr : SpWithReg p pr) : SpUseQueue dep p (f__use_queue pt pc pw pr) := by
  intro st k n I vo inv hk wf hkd hv hne hql s
  refine Rt.run rfl ?_
  unfold b__use_queue
  have h1 := ht I s
  cases I with
  | send x t =>
    obtain ⟨v, rfl, v1, v2⟩ := hv (by simp [Ins.tr])
    have h2 : Rt s pc [p.d, st.d p, .str x] (.tup ((st.q x).map .int)) := hc st .queue x wf.1 s
    have h3 := hw st (st.setQ x (st.q x ++ [v])) .queue x (.tup ((st.q x ++ [v]).map .int)) wf.1 (puts_q p st x _) rfl s
    have h7 : O2 s addO (.tup ((st.q x).map .int)) (.tup [.int v]) (.tup ((st.q x ++ [v]).map .int)) := by
      rw [List.map_append]
      exact o_cat (by have := hql x wf.1; simp; omega) (nst_of fun y hy => by
        rcases List.mem_append.mp hy with h | h
        · exact int_nostr y h
        · exact int_nostr (l := [v]) y h)
    refine Es.seqA (d := .str x) (by walk_at "Lw.ev") rfl ?_
    refine Es.seqA (d := .tup ((st.q x).map .int)) (by walk_at "Lw.ev") rfl ?_
    refine Es.seqRT (b := decide ((Ins.send x t).w = "send")) (by walk_at "Lw.ev") (by simp [Ins.w]) ?_
    show Ev s _ _ (.tup [(st.setQ x (st.q x ++ [v])).d p, .non])
    refine Ev.tup (Ea.cons (Ev.call (xs := [p.d, st.d p, .str x, .tup ((st.q x ++ [v]).map .int)]) (Ea.cons (by walk_at "Lw.ev") (Ea.cons (by walk_at "Lw.ev") (Ea.cons (by walk_at "Lw.ev") (Ea.cons (Ev.bin (x := .tup ((st.q x).map .int)) (y := .tup [.int v]) (by walk_at "Lw.ev") (Ev.tup (Ea.cons (Ev.var rfl) Ea.nil) rfl) h7) Ea.nil)))) h3) (by walk_at "Lw.ev")) rfl
  | take r x =>
    have h2 : Rt s pc [p.d, st.d p, .str x] (.tup ((st.q x).map .int)) := hc st .queue x wf.2 s
    obtain ⟨i, l, e⟩ : ∃ i l, st.q x = i :: l := by
      cases e : st.q x with
      | nil => exact absurd e (hne r x rfl)
      | cons i l => exact ⟨i, l, rfl⟩
    have h3 := hw st (st.setQ x ((st.q x).drop 1)) .queue x (.tup (((st.q x).drop 1).map .int)) wf.2 (puts_q p st x _) rfl s
    have h4 : OSl s cutO (.tup ((st.q x).map .int)) (some 1) none (.tup (((st.q x).drop 1).map .int)) := by
      have e1 : (1 : Int) = ((1 : Nat) : Int) := rfl
      rw [List.map_drop, ← cut_from (k := 1) (by rw [e]; simp), e1]
      exact o_cut (nst_of fun y hy => by
        rw [cut_from (by rw [e]; simp), ← List.map_drop] at hy
        exact int_nostr y hy)
    have h5 : O2 s ixO (.tup ((st.q x).map .int)) (.int 0) (.int ((st.q x).headD 0)) := by rw [e]; exact o_ix0
    have h6 : Rt s pr _ _ := hr (st.setQ x ((st.q x).drop 1)) k r ((st.q x).headD 0) hk wf.1 s
    have h8 : O2 s ixO (Ins.take r x).d (.int 1) (.str (regS r)) := o_ix1
    refine Es.seqA (d := .str x) (by walk_at "Lw.ev") rfl ?_
    refine Es.seqA (d := .tup ((st.q x).map .int)) (by walk_at "Lw.ev") rfl ?_
    refine Es.seqRF (b := decide ((Ins.take r x).w = "send")) (by walk_at "Lw.ev") (by simp [Ins.w, ofs_inj]) ?_
    refine Es.seqA (d := (st.setQ x ((st.q x).drop 1)).d p) (by walk_at "Lw.ev") rfl ?_
    refine Es.ret ?_
    show Ev s _ _ (.tup [((st.setQ x ((st.q x).drop 1)).setT k { (st.setQ x ((st.q x).drop 1)).t k with rg := upd ((st.setQ x ((st.q x).drop 1)).t k).rg r ((st.q x).headD 0) }).d p, .non])
    walk_at "Lw.ev"
  | _ => simp [Ins.kd] at hkd
/-! S7.lean -/
def SpEffect (dep : Nat) (p : Prog) (φ : Fx) : Prop := ∀ (st : Sta) (k : Nat) (vo : Option Int), SInv p st → k < p.T.length → (st.t k).pc < p.size k → ((p.ins k (st.t k).pc).tr ≠ none → ∃ v, vo = some v ∧ -99 ≤ v ∧ v ≤ 99) → ((p.ins k (st.t k).pc).tr = none → vo = none) → (∀ r x, p.ins k (st.t k).pc = .take r x → st.q x ≠ []) → (∀ x, x ∈ p.nm .queue → (st.q x).length ≤ 1000) →
  ∀ s, Rt s φ [p.d, st.d p, .int k, valO vo] (.tup [(p.eff st k (vo.getD 0) (p.ins k (st.t k).pc)).1.d p, oS (p.eff st k (vo.getD 0) (p.ins k (st.t k).pc)).2])
theorem o_kd {o : Option Kd} {k : Kd} {s : Sto} : O2 s (eqO false) (kdD o) (.str k.s) (.bl (decide (o = some k))) := by
  cases o with
  | none => exact .pure fun _ => rfl
  | some j =>
    have e : decide (some j = some k) = decide (j.s = k.s) := by simp only [kd_inj, Option.some.injEq]
    rw [e]; exact o_eqss
theorem kd_none {I : Ins} (h : I.kd = none) : (∃ r t, I = .leti r t) ∨ (∃ t, I = .check t) ∨ (I.w ≠ "let" ∧ I.w ≠ "check" ∧ ∀ p st k v, Prog.eff p st k v I = (st, none)) := by
  cases I with
  | leti r t => exact .inl ⟨r, t, rfl⟩
  | check t => exact .inr (.inl ⟨t, rfl⟩)
  | go n t => exact .inr (.inr ⟨by simp [Ins.w, ofs_inj], by simp [Ins.w, ofs_inj], fun _ _ _ _ => rfl⟩)
  | begin_ => exact .inr (.inr ⟨by simp [Ins.w, ofs_inj], by simp [Ins.w, ofs_inj], fun _ _ _ _ => rfl⟩)
  | end_ => exact .inr (.inr ⟨by simp [Ins.w, ofs_inj], by simp [Ins.w, ofs_inj], fun _ _ _ _ => rfl⟩)
  | stop => exact .inr (.inr ⟨by simp [Ins.w, ofs_inj], by simp [Ins.w, ofs_inj], fun _ _ _ _ => rfl⟩)
  | _ => simp [Ins.kd] at h
theorem sp_effect {dep : Nat} {p : Prog} (hp : PW dep p) {pk pv pl pc pq pr : Fx} (hk0 : SpKindNeeded pk) (hv : SpUseVar dep p pv) (hl : SpUseLock dep p pl) (hc : SpUseCond dep p pc) (hq : SpUseQueue dep p pq) (hr : SpWithReg p pr) : SpEffect dep p (f__effect pk pv pl pc pq pr) := by
  intro st k vo inv hk hpc hval hvn hne hql s
  have wf := ins_wf hp hk hpc
  refine Rt.run rfl ?_
  unfold b__effect
  have hsz : (st.t k).pc < p.size k := hpc
  have h1 := hk0 (p.ins k (st.t k).pc) s
  refine Es.seqA (d := (p.ins k (st.t k).pc).d) (by walk_at "Lw.ev") rfl ?_
  generalize hI : p.ins k (st.t k).pc = I at h1 wf hval hvn hne ⊢
  refine Es.seqA (d := kdD I.kd) (by walk_at "Lw.ev") rfl ?_
  have c : ∀ (kd : Kd) {o : Option Kd} (σ : Sl), σ[5]? = some (some (kdD o)) → Et s (cmpT (eqO false) (varF 5) (cstF (.str kd.s))) σ (decide (o = some kd)) := fun kd o σ h => Et.cmp (Ev.var h) Ev.cst o_kd
  cases hkd : I.kd with
  | some kd =>
    cases kd with
    | var =>
      have h2 := hv st k _ I vo inv hk wf hkd hval s
      refine Es.seqRT (c .var (o := some .var) _ rfl) (by simp) ?_
      walk_at "Lw.ev"
    | lock =>
      have h2 := hl st k _ I inv hk wf hkd (vo.getD 0) s
      refine Es.seqRF (c .var (o := some .lock) _ rfl) (by simp) ?_
      refine Es.seqRT (c .lock (o := some .lock) _ rfl) (by simp) ?_
      walk_at "Lw.ev"
    | cond =>
      have h2 := hc st k _ I inv hk wf hkd (vo.getD 0) s
      refine Es.seqRF (c .var (o := some .cond) _ rfl) (by simp) ?_
      refine Es.seqRF (c .lock (o := some .cond) _ rfl) (by simp) ?_
      refine Es.seqRT (c .cond (o := some .cond) _ rfl) (by simp) ?_
      walk_at "Lw.ev"
    | queue =>
      have h2 := hq st k _ I vo inv hk wf hkd hval hne hql s
      refine Es.seqRF (c .var (o := some .queue) _ rfl) (by simp) ?_
      refine Es.seqRF (c .lock (o := some .queue) _ rfl) (by simp) ?_
      refine Es.seqRF (c .cond (o := some .queue) _ rfl) (by simp) ?_
      refine Es.seqRT (c .queue (o := some .queue) _ rfl) (by simp) ?_
      walk_at "Lw.ev"
  | none =>
    refine Es.seqRF (c .var (o := none) _ rfl) (by simp) ?_
    refine Es.seqRF (c .lock (o := none) _ rfl) (by simp) ?_
    refine Es.seqRF (c .cond (o := none) _ rfl) (by simp) ?_
    refine Es.seqRF (c .queue (o := none) _ rfl) (by simp) ?_
    clear c
    rcases kd_none hkd with ⟨r, t, rfl⟩ | ⟨t, rfl⟩ | ⟨n1, n2, n3⟩
    · obtain ⟨v, rfl, v1, v2⟩ := hval (by simp [Ins.tr])
      have h2 := hr st k r v hk wf.1 s
      have h3 : O2 s ixO (Ins.leti r t).d (.int 1) (.str (regS r)) := o_ix1
      refine Es.seqRT (b := decide ((Ins.leti r t).w = "let")) (by walk_at "Lw.ev") (by simp [Ins.w]) ?_
      show Ev s _ _ (.tup [(st.setT k { st.t k with rg := upd (st.t k).rg r v }).d p, .non])
      walk_at "Lw.ev"
    · obtain ⟨v, rfl, v1, v2⟩ := hval (by simp [Ins.tr])
      refine Es.seqRF (b := decide ((Ins.check t).w = "let")) (by walk_at "Lw.ev") (by simp [Ins.w, ofs_inj]) ?_
      simp only [Prog.eff, Option.getD_some]
      have hcond : Et s (andT (cmpT (eqO false) (binF ixO (varF 4) (cstF (.int 0))) (cstF (.str "check"))) (cmpT (eqO false) (varF 3) (cstF (.int 0)))) (((List.map some [p.d, st.d p, .int k, .int v] ++ List.replicate (6 - 4) none).set 4 (some (Ins.check t).d)).set 5 (some (kdD (Ins.check t).kd))) (true && decide (v = 0)) := Et.and (Et.of (b := decide ((Ins.check t).w = "check")) (by walk_at "Lw.ev") (by simp [Ins.w])) fun _ => Et.cmp (Ev.var rfl) (by walk_at "Lw.ev") o_eqii
      by_cases h0 : v = 0
      · simp only [if_pos h0]
        refine Es.seqRT hcond (by simp [h0]) ?_
        show Ev s _ _ (.tup [st.d p, .str "check"])
        walk_at "Lw.ev"
      · simp only [if_neg h0]
        refine Es.seqRF hcond (by simp [h0]) ?_
        show Es s _ _ (.ret (.tup [st.d p, .non]))
        walk_at "Lw.ev"
    · rw [n3]
      refine Es.seqRF (b := decide (I.w = "let")) (by walk_at "Lw.ev") (decide_eq_false n1) ?_
      refine Es.seqRF (b := (decide (I.w = "check") && false)) (Et.and (by walk_at "Lw.ev") fun h => absurd (of_decide_eq_true h) n2) (by simp) ?_
      show Es s _ _ (.ret (.tup [st.d p, .non]))
      walk_at "Lw.ev"
/-- where a thread goes on that has done its instruction -/
def Prog.on (p : Prog) (st : Sta) (k : Nat) (vo : Option Int) : Ins → Sta
  | .wait _ => st.setT k { st.t k with md := .wait }
  | .go n _ => if vo = some 0 then st.go p k ((st.t k).pc + 1) else st.go p k n
  | .stop => let m := st.go p k ((st.t k).pc + 1); m.setT k { m.t k with md := .over }
  | _ => st.go p k ((st.t k).pc + 1)
def SpMovedOn (p : Prog) (φ : Fx) : Prop := ∀ (st : Sta) (k : Nat) (vo : Option Int), k < p.T.length → (st.t k).pc < p.size k → ∀ s, Rt s φ [p.d, st.d p, .int k, valO vo] ((p.on st k vo (p.ins k (st.t k).pc)).d p)
theorem o_th0 {p : Prog} {st : Sta} {s : Sto} {k : Nat} (hk : k < p.T.length) : O2 s ixO (st.ths p) (.int k) (st.t k).d := o_th hk
theorem o_pc {h : Th} {s : Sto} : O2 s ixO h.d (.int 0) (.int h.pc) := o_ix0
theorem o_vo0 {vo : Option Int} {s : Sto} : O2 s (eqO true) (valO vo) (.int 0) (.bl (!decide (vo = some 0))) := by
  cases vo with
  | none => exact .pure fun _ => rfl
  | some v =>
    have : (!decide (some v = some 0)) = (!decide (v = 0)) := by simp
    rw [this]; exact o_neii
theorem sp_moved_on {p : Prog} {pm pt : Fx} (hm : SpWithMode p pm) (ht : SpMovedTo p pt) : SpMovedOn p (f__moved_on pm pt) := by
  intro st k vo hk hpc s
  refine Rt.run rfl ?_
  unfold b__moved_on
  have hsz : (st.t k).pc < p.size k := hpc
  have h0 : O2 s ixO (st.ths p) (.int k) (st.t k).d := o_th0 hk
  have hpc0 : O2 s ixO (st.t k).d (.int 0) (.int (st.t k).pc) := o_pc
  refine Es.seqA (d := .int (st.t k).pc) (Ev.bin (Ev.bin (by walk_at "Lw.ev") (by walk_at "Lw.ev") h0) (by walk_at "Lw.ev") hpc0) rfl ?_
  refine Es.seqA (d := (p.ins k (st.t k).pc).d) (by walk_at "Lw.ev") rfl ?_
  have h1 := ht st k ((st.t k).pc + 1) hk s
  have e1 : (((st.t k).pc + 1 : Nat) : Int) = ((st.t k).pc : Int) + 1 := by omega
  rw [e1] at h1
  cases hI : p.ins k (st.t k).pc with
  | wait x =>
    have h2 : Rt s pm [st.d p, .int k, .str "wait"] _ := hm st k .wait hk s
    refine Es.seqRT (b := decide ((Ins.wait x).w = "wait")) (by walk_at "Lw.ev") (by simp [Ins.w]) ?_
    show Ev s _ _ ((st.setT k { st.t k with md := .wait }).d p)
    walk_at "Lw.ev"
  | go n t =>
    refine Es.seqRF (b := decide ((Ins.go n t).w = "wait")) (by walk_at "Lw.ev") (by simp [Ins.w, ofs_inj]) ?_
    have h2 := ht st k n hk s
    have h3 : O2 s ixO (Ins.go n t).d (.int 1) (.int n) := o_ix1
    have hcond : Et s (andT (cmpT (eqO false) (binF ixO (varF 5) (cstF (.int 0))) (cstF (.str "go"))) (cmpT (eqO true) (varF 3) (cstF (.int 0)))) (((List.map some [p.d, st.d p, .int k, valO vo] ++ List.replicate (7 - 4) none).set 4 (some (.int (st.t k).pc))).set 5 (some (Ins.go n t).d)) (true && !decide (vo = some 0)) := Et.and (Et.of (b := decide ((Ins.go n t).w = "go")) (by walk_at "Lw.ev") (by simp [Ins.w])) fun _ => Et.cmp (Ev.var rfl) (by walk_at "Lw.ev") o_vo0
    simp only [Prog.on]
    by_cases hv : vo = some 0
    · simp only [if_pos hv]
      refine Es.seqRF hcond (by simp [hv]) ?_
      refine Es.seqA (d := (st.go p k ((st.t k).pc + 1)).d p) (by walk_at "Lw.ev") rfl ?_
      exact Es.ret (Ev.ifF (b := decide ((Ins.go n t).w = "stop")) (by walk_at "Lw.ev") (by simp [Ins.w, ofs_inj]) (Ev.var rfl))
    · simp only [if_neg hv]
      refine Es.seqRT hcond (by simp [hv]) ?_
      walk_at "Lw.ev"
  | stop =>
    refine Es.seqRF (b := decide (Ins.stop.w = "wait")) (by walk_at "Lw.ev") (by simp [Ins.w, ofs_inj]) ?_
    refine Es.seqRF (b := (decide (Ins.stop.w = "go") && false)) (Et.and (by walk_at "Lw.ev") fun h => absurd h (by simp [Ins.w, ofs_inj])) (by simp) ?_
    have h2 : Rt s pm [(st.go p k ((st.t k).pc + 1)).d p, .int k, .str "over"] _ := hm (st.go p k ((st.t k).pc + 1)) k .over hk s
    refine Es.seqA (d := (st.go p k ((st.t k).pc + 1)).d p) (by walk_at "Lw.ev") rfl ?_
    exact Es.ret (Ev.ifT (b := decide (Ins.stop.w = "stop")) (by walk_at "Lw.ev") (by simp [Ins.w]) (Ev.call (by walk_at "Lw.ev") h2))
  | _ =>
    refine Es.seqRF (b := decide (Ins.w _ = "wait")) (by walk_at "Lw.ev") (by simp [Ins.w, ofs_inj]) ?_
    refine Es.seqRF (b := (decide (Ins.w _ = "go") && false)) (Et.and (by walk_at "Lw.ev") fun h => absurd h (by simp [Ins.w, ofs_inj])) (by simp) ?_
    refine Es.seqA (d := (st.go p k ((st.t k).pc + 1)).d p) (by walk_at "Lw.ev") rfl ?_
    exact Es.ret (Ev.ifF (b := decide (Ins.w _ = "stop")) (by walk_at "Lw.ev") (by simp [Ins.w, ofs_inj]) (Ev.var rfl))
/-- a woken thread takes its lock again -/
def Prog.again (p : Prog) (st : Sta) (k : Nat) (c : Str) : Sta :=
  let s2 := st.setO (p.lk c) (some k)
  let s3 := s2.setT k { s2.t k with md := .run }
  s3.go p k ((st.t k).pc + 1)
def SpAgain (p : Prog) (φ : Fx) : Prop := ∀ (st : Sta) (k : Nat) (c : Str), k < p.T.length → (st.t k).pc < p.size k → p.ins k (st.t k).pc = .wait c → c ∈ p.nm .cond → ∀ s, Rt s φ [p.d, st.d p, .int k] (.tup [(p.again st k c).d p, .tup [.int k, .int (st.t k).pc, tchD [(p.lk c, true), (c, false)], .non]])
theorem sp_again {dep : Nat} {p : Prog} (hp : PW dep p) {pl pm pw pt : Fx} (hl : SpLockOf p pl) (hm : SpWithMode p pm) (hw : SpWithContent p pw) (ht : SpMovedTo p pt) : SpAgain p (f__take_lock_again pl pm pw pt) := by
  intro st k c hk hpc hI hc s
  refine Rt.run rfl ?_
  unfold b__take_lock_again
  have hsz : (st.t k).pc < p.size k := hpc
  have h0 : O2 s ixO (st.ths p) (.int k) (st.t k).d := o_th0 hk
  have hpc0 : O2 s ixO (st.t k).d (.int 0) (.int (st.t k).pc) := o_pc
  have h1 := hl c hc s
  have h2 : Rt s pw [p.d, st.d p, .str (p.lk c), .int k] ((st.setO (p.lk c) (some k)).d p) := hw st (st.setO (p.lk c) (some k)) .lock (p.lk c) (oN (some k)) (lk_lock hp hc) (puts_o p st _ _) rfl s
  have h3 : Rt s pm [(st.setO (p.lk c) (some k)).d p, .int k, .str "run"] _ := hm (st.setO (p.lk c) (some k)) k .run hk s
  have h4 : Rt s pt [p.d, ((st.setO (p.lk c) (some k)).setT k { (st.setO (p.lk c) (some k)).t k with md := .run }).d p, .int k, .int (((st.t k).pc : Int) + 1)] _ := ht ((st.setO (p.lk c) (some k)).setT k { (st.setO (p.lk c) (some k)).t k with md := .run }) k ((st.t k).pc + 1) hk s
  have hcode : O2 s ixO (.tup ((p.T.getD k []).map Ins.d)) (.int (st.t k).pc) (Ins.wait c).d := hI ▸ o_ins hpc
  have h5 : O2 s ixO (Ins.wait c).d (.int 1) (.str c) := o_ix1
  refine Es.seqA (d := .int (st.t k).pc) (Ev.bin (Ev.bin (by walk_at "Lw.ev") (by walk_at "Lw.ev") h0) (by walk_at "Lw.ev") hpc0) rfl ?_
  refine Es.seqA (d := .str c) (Ev.bin (Ev.bin (Ev.bin (by walk_at "Lw.ev") (by walk_at "Lw.ev") (o_code hk)) (by walk_at "Lw.ev") hcode) (by walk_at "Lw.ev") h5) rfl ?_
  refine Es.seqA (d := .str (p.lk c)) (by walk_at "Lw.ev") rfl ?_
  refine Es.seqA (d := ((st.setO (p.lk c) (some k)).setT k { (st.setO (p.lk c) (some k)).t k with md := .run }).d p) (by walk_at "Lw.ev") rfl ?_
  show Es s _ _ (.ret (.tup [(p.again st k c).d p, .tup [.int k, .int (st.t k).pc, .tup [.tup [.str (p.lk c), .bl true], .tup [.str c, .bl false]], .non]]))
  refine Es.ret (Ev.tup (Ea.cons (Ev.call (by walk_at "Lw.ev") h4) (by walk_at "Lw.ev")) rfl)
/-! S8.lean -/
def Prog.step (p : Prog) (st : Sta) (k : Nat) : Sta × Stp :=
  let h := st.t k
  let I := p.ins k h.pc
  if h.md = .woken then (p.again st k (I.nm.getD Str.empty), ⟨k, h.pc, [(p.lk (I.nm.getD Str.empty), true), (I.nm.getD Str.empty, false)], .non⟩)
  else if I.bad h.rg = true then (st.setT k { h with md := .over, wd := some "range" }, ⟨k, h.pc, [], .str "range"⟩)
  else match (p.eff st k ((I.val h.rg).getD 0) I).2 with
    | none => (p.on (p.eff st k ((I.val h.rg).getD 0) I).1 k (I.val h.rg) I, ⟨k, h.pc, touch p I, .non⟩)
    | some w => (st.setT k { h with md := .over, wd := some w }, ⟨k, h.pc, touch p I, .str w⟩)
/-! ### what a step keeps -/
section
variable {p : Prog} {st : Sta} {k : Nat}
theorem SInv.setV (h : SInv p st) {x : Str} {n : Int} (hn : -99 ≤ n ∧ n ≤ 99) : SInv p (st.setV x n) :=
  { h with v := fun y => by simp only [Sta.setV, upd]; split; (exact hn); (exact h.v y) }
theorem SInv.setO (h : SInv p st) {x : Str} {n : Option Nat} (hn : ∀ k, n = some k → k < p.T.length) : SInv p (st.setO x n) :=
  { h with own := fun y k => by simp only [Sta.setO, upd]; split; (exact hn k); (exact h.own y k) }
theorem SInv.setQ (h : SInv p st) {x : Str} {n : List Int} (hn : ∀ i ∈ n, -99 ≤ i ∧ i ≤ 99) (hl : x ∈ p.nm .queue → (n.length : Int) ≤ p.cap x) : SInv p (st.setQ x n) :=
  { h with q := fun y => by simp only [Sta.setQ, upd]; split; (exact hn); (exact h.q y), ql := fun y hy => by simp only [Sta.setQ, upd]; split; (rename_i e; rw [e] at hy ⊢; exact hl hy); (exact h.ql y hy) }
theorem SInv.not_w (h : SInv p st) (hk : (st.t k).md ≠ .wait) (x : Str) : k ∉ st.w x := fun e => hk (h.w x k e).2.1
theorem SInv.setT (h : SInv p st) {th : Th} (hk : (st.t k).md ≠ .wait) (h1 : ∀ i, -99 ≤ th.rg i ∧ th.rg i ≤ 99) (h2 : th.md ≠ .wait) (h3 : k < p.T.length → th.md ≠ .over → th.pc < p.size k) (h4 : th.md ≠ .over → th.wd = none) (h5 : k < p.T.length → th.md = .woken → ∃ x, p.ins k th.pc = .wait x) : SInv p (st.setT k th) where
  rg := fun j i => by simp only [Sta.setT, upd]; split; (exact h1 i); (exact h.rg j i)
  v := h.v
  q := h.q
  ql := h.ql
  w := fun x j hj => by
    have e : j ≠ k := fun e => h.not_w hk x (e ▸ hj)
    simp only [Sta.setT, upd_ne' e]
    exact h.w x j hj
  wn := h.wn
  ww := fun j x hj hm hi => by
    by_cases e : j = k
    · subst e; simp only [Sta.setT, upd_same'] at hm; exact absurd hm h2
    · simp only [Sta.setT, upd_ne' e] at hm hi; exact h.ww j x hj hm hi
  pc := fun j hj hm => by
    by_cases e : j = k
    · subst e; simp only [Sta.setT, upd_same'] at hm ⊢; exact h3 hj hm
    · simp only [Sta.setT, upd_ne' e] at hm ⊢; exact h.pc j hj hm
  wt := fun j hj hm => by
    by_cases e : j = k
    · subst e; simp only [Sta.setT, upd_same'] at hm ⊢
      rcases hm with hm | hm
      · exact absurd hm h2
      · exact h5 hj hm
    · simp only [Sta.setT, upd_ne' e] at hm ⊢; exact h.wt j hj hm
  wd := fun j hm => by
    by_cases e : j = k
    · subst e; simp only [Sta.setT, upd_same'] at hm ⊢; exact h4 hm
    · simp only [Sta.setT, upd_ne' e] at hm ⊢; exact h.wd j hm
  own := h.own
/-- a thread begins to wait -/
theorem SInv.wait (h : SInv p st) (hk : k < p.T.length) (hm : (st.t k).md = .run) {c : Str} (hI : p.ins k (st.t k).pc = .wait c) : SInv p ((st.setW c (st.w c ++ [k])).setT k { st.t k with md := .wait }) where
  rg := fun j i => by simp only [Sta.setT, Sta.setW, upd]; split; (exact h.rg k i); (exact h.rg j i)
  v := h.v
  q := h.q
  ql := h.ql
  w := fun x j hj => by
    have hnk := h.not_w (k := k) (by rw [hm]; simp)
    simp only [Sta.setT, Sta.setW] at hj ⊢
    by_cases e : j = k
    · subst e
      simp only [upd_same']
      refine ⟨hk, trivial, ?_⟩
      by_cases ex : x = c
      · rw [ex]; exact hI
      · rw [upd_ne' ex] at hj
        exact absurd hj (hnk x)
    · simp only [upd_ne' e]
      by_cases ex : x = c
      · subst ex
        rw [upd_same', List.mem_append, List.mem_singleton] at hj
        exact h.w x j (hj.resolve_right e)
      · rw [upd_ne' ex] at hj
        exact h.w x j hj
  wn := fun x => by
    simp only [Sta.setT, Sta.setW]
    by_cases ex : x = c
    · subst ex
      rw [upd_same', (List.perm_append_singleton k (st.w x)).nodup_iff]
      exact List.nodup_cons.mpr ⟨h.not_w (by rw [hm]; simp) x, h.wn x⟩
    · rw [upd_ne' ex]; exact h.wn x
  ww := fun j x hj hm2 hi => by
    simp only [Sta.setT, Sta.setW] at hm2 hi ⊢
    by_cases e : j = k
    · subst e
      simp only [upd_same'] at hi
      have : c = x := by rw [hI] at hi; exact Ins.wait.inj hi
      subst this
      rw [upd_same']; simp
    · simp only [upd_ne' e] at hm2 hi
      have := h.ww j x hj hm2 hi
      by_cases ex : x = c
      · subst ex; rw [upd_same']; exact List.mem_append_left _ this
      · rw [upd_ne' ex]; exact this
  pc := fun j hj hm2 => by
    simp only [Sta.setT, Sta.setW] at hm2 ⊢
    by_cases e : j = k
    · subst e; rw [upd_same']; exact h.pc j hj (by rw [hm]; simp)
    · rw [upd_ne' e] at hm2 ⊢; exact h.pc j hj hm2
  wt := fun j hj hm2 => by
    simp only [Sta.setT, Sta.setW] at hm2 ⊢
    by_cases e : j = k
    · subst e; rw [upd_same']; exact ⟨c, hI⟩
    · rw [upd_ne' e] at hm2 ⊢; exact h.wt j hj hm2
  wd := fun j hm2 => by
    simp only [Sta.setT, Sta.setW] at hm2 ⊢
    by_cases e : j = k
    · subst e; rw [upd_same']; exact h.wd j (by rw [hm]; simp)
    · rw [upd_ne' e] at hm2 ⊢; exact h.wd j hm2
  own := h.own
/-- the first of those that wait is woken -/
theorem SInv.wake1 (h : SInv p st) {c : Str} {l : List Nat} (hw : st.w c = k :: l) : SInv p ((st.setW c l).setT k { st.t k with md := .woken }) := by
  have hk := h.w c k (by rw [hw]; simp)
  have nd := h.wn c
  rw [hw, List.nodup_cons] at nd
  have only : ∀ x j, j ∈ upd st.w c l x → j ≠ k ∧ j ∈ st.w x := fun x j hj => by
    by_cases ex : x = c
    · subst ex
      rw [upd_same'] at hj
      exact ⟨fun e => nd.1 (e ▸ hj), by rw [hw]; exact List.mem_cons_of_mem _ hj⟩
    · rw [upd_ne' ex] at hj
      refine ⟨fun e => ?_, hj⟩
      subst e
      have := (h.w x j hj).2.2
      rw [hk.2.2] at this
      exact ex (Ins.wait.inj this).symm
  exact {
    rg := fun j i => by simp only [Sta.setT, Sta.setW, upd]; split; (exact h.rg k i); (exact h.rg j i)
    v := h.v
    q := h.q
    ql := h.ql
    w := fun x j hj => by
      simp only [Sta.setT, Sta.setW] at hj ⊢
      obtain ⟨e, hj⟩ := only x j hj
      rw [upd_ne' e]
      exact h.w x j hj
    wn := fun x => by
      simp only [Sta.setT, Sta.setW]
      by_cases ex : x = c
      · subst ex; rw [upd_same']; exact nd.2
      · rw [upd_ne' ex]; exact h.wn x
    ww := fun j x hj hm hi => by
      simp only [Sta.setT, Sta.setW] at hm hi ⊢
      by_cases e : j = k
      · subst e; simp only [upd_same'] at hm; cases hm
      · simp only [upd_ne' e] at hm hi
        have := h.ww j x hj hm hi
        by_cases ex : x = c
        · subst ex
          rw [upd_same']
          rw [hw] at this
          exact (List.mem_cons.mp this).resolve_left e
        · rw [upd_ne' ex]; exact this
    pc := fun j hj hm => by
      simp only [Sta.setT, Sta.setW] at hm ⊢
      by_cases e : j = k
      · subst e; rw [upd_same']; exact h.pc j hj (by rw [hk.2.1]; simp)
      · rw [upd_ne' e] at hm ⊢; exact h.pc j hj hm
    wt := fun j hj hm => by
      simp only [Sta.setT, Sta.setW] at hm ⊢
      by_cases e : j = k
      · subst e; rw [upd_same']; exact ⟨c, hk.2.2⟩
      · rw [upd_ne' e] at hm ⊢; exact h.wt j hj hm
    wd := fun j hm => by
      simp only [Sta.setT, Sta.setW] at hm ⊢
      by_cases e : j = k
      · subst e; rw [upd_same']; exact h.wd j (by rw [hk.2.1]; simp)
      · rw [upd_ne' e] at hm ⊢; exact h.wd j hm
    own := h.own }
theorem upd_upd {α β : Type} [DecidableEq α] (f : α → β) (a : α) (b c : β) : upd (upd f a b) a c = upd f a c := by
  funext x; simp only [upd]; split <;> rfl
theorem SInv.wakes : ∀ (l : List Nat) {st : Sta} {c : Str} {r : List Nat}, SInv p st → st.w c = l ++ r → SInv p (Prog.wake (st.setW c r) l)
  | [], st, c, r, h, e => by
    have : st.setW c r = st := by
      simp only [List.nil_append] at e
      have : upd st.w c r = st.w := by
        funext x; simp only [upd]; split
        · rename_i h; rw [h, e]
        · rfl
      simp only [Sta.setW, this]
    show SInv p (st.setW c r)
    rw [this]; exact h
  | j :: l, st, c, r, h, e => by
    have h1 := h.wake1 (c := c) (k := j) (l := l ++ r) e
    have h2 := SInv.wakes l (st := (st.setW c (l ++ r)).setT j { st.t j with md := .woken }) (c := c) (r := r) h1 (by simp [Sta.setT, Sta.setW])
    have e2 : ((st.setW c (l ++ r)).setT j { st.t j with md := .woken }).setW c r = (st.setW c r).setT j { st.t j with md := .woken } := by
      simp only [Sta.setW, Sta.setT, upd_upd]
    rw [e2] at h2
    exact h2
theorem wake_t : ∀ (l : List Nat) (st : Sta) (j : Nat), j ∉ l → (Prog.wake st l).t j = st.t j
  | [], _, _, _ => rfl
  | i :: l, st, j, h => by
    rw [List.mem_cons, not_or] at h
    unfold Prog.wake
    rw [wake_t l _ j h.2]
    exact upd_ne' h.1
theorem wake_pc : ∀ (l : List Nat) (st : Sta) (j : Nat), ((Prog.wake st l).t j).pc = (st.t j).pc
  | [], _, _ => rfl
  | i :: l, st, j => by
    unfold Prog.wake
    rw [wake_pc l]
    simp only [Sta.setT, upd]
    split
    · rename_i h; rw [h]
    · rfl
end
/-! S9.lean -/
section
variable {dep : Nat} {p : Prog} {st : Sta} {k : Nat}
theorem cap_le (hp : PW dep p) {x : Str} (hx : x ∈ p.nm .queue) : 1 ≤ p.cap x ∧ p.cap x ≤ 3 := by
  obtain ⟨n, hn, _, e⟩ := queue_of hp.nd hx
  rw [e]
  exact hp.ok _ hn
theorem ena_of (h : p.ena st k = true) : work p st k = true ∧ p.hind st k = none := by
  unfold Prog.ena at h
  simp only [Bool.and_eq_true, Option.isNone_iff_eq_none] at h
  exact h
theorem ena_md (h : p.ena st k = true) (inv : SInv p st) (hk : k < p.T.length) : ((st.t k).md = .run ∨ (st.t k).md = .woken) ∧ (st.t k).pc < p.size k := by
  obtain ⟨h1, h2⟩ := ena_of h
  obtain ⟨h3, h4⟩ := work_md h1
  refine ⟨?_, h4⟩
  cases hm : (st.t k).md with
  | run => exact .inl rfl
  | woken => exact .inr rfl
  | over => exact absurd hm h3
  | wait =>
    exfalso
    obtain ⟨x, e⟩ := inv.wt k hk (.inl hm)
    unfold Prog.hind at h2
    rw [hm, e] at h2
    cases h2
theorem Ins.val_ok {n : Nat} {I : Ins} (wf : I.wf p.S n dep) {ρ : Nat → Int} (hρ : ∀ i, -99 ≤ ρ i ∧ ρ i ≤ 99) (hb : I.bad ρ = false) : (I.tr ≠ none → ∃ v, I.val ρ = some v ∧ -99 ≤ v ∧ v ≤ 99) ∧ (I.tr = none → I.val ρ = none) := by
  have key : ∀ t, I.tr = some t → t.wf := fun t e => by
    cases I <;> simp only [Ins.tr, Option.some.injEq, reduceCtorEq] at e
    · exact e ▸ wf.2.1
    · exact e ▸ wf.2.1
    · exact e ▸ wf.2.1
    · exact e ▸ wf.2.1
    · exact e ▸ wf.1
    · exact (wf.2 t e).1
  unfold Ins.bad at hb
  unfold Ins.val
  cases e : I.tr with
  | none => exact ⟨fun h => absurd rfl h, fun _ => rfl⟩
  | some t =>
    rw [e] at hb
    refine ⟨fun _ => ?_, fun h => by cases h⟩
    cases ev : t.val ρ with
    | none =>
      have hb' : (t.val ρ).isNone = false := hb
      rw [ev] at hb'; cases hb'
    | some v => exact ⟨v, by simp [ev], val_in hρ t v (key t e) ev⟩
/-- what an instruction does to things and registers leaves the thread where it is -/
theorem eff_t (hm : (st.t k).md = .run) (inv : SInv p st) (v : Int) (I : Ins) : ((p.eff st k v I).1.t k).pc = (st.t k).pc ∧ ((p.eff st k v I).1.t k).md = .run ∧ ((p.eff st k v I).1.t k).wd = none ∧ ∀ j, ((p.eff st k v I).1.t j).pc = (st.t j).pc := by
  have hw := inv.wd k (by rw [hm]; simp)
  have nw : ∀ x, k ∉ st.w x := inv.not_w (by rw [hm]; simp)
  have reg : ∀ (ρ : Nat → Int), let s2 := st.setT k { st.t k with rg := ρ }; (s2.t k).pc = (st.t k).pc ∧ (s2.t k).md = .run ∧ (s2.t k).wd = none ∧ ∀ j, (s2.t j).pc = (st.t j).pc := fun ρ => by
    simp only [Sta.setT, upd_same']
    refine ⟨trivial, hm, hw, fun j => ?_⟩
    simp only [upd]; split
    · rename_i e; rw [e]
    · rfl
  have non : (st.t k).pc = (st.t k).pc ∧ (st.t k).md = .run ∧ (st.t k).wd = none ∧ ∀ j : Nat, (st.t j).pc = (st.t j).pc := ⟨rfl, hm, hw, fun _ => rfl⟩
  cases I with
  | leti r t => exact reg _
  | get r x => exact reg _
  | take r x => exact reg _
  | add x t => simp only [Prog.eff]; split <;> exact non
  | unlock x => simp only [Prog.eff]; split <;> exact non
  | wait x => simp only [Prog.eff]; split <;> exact non
  | check t => simp only [Prog.eff]; split <;> exact non
  | notify x =>
    simp only [Prog.eff]
    rw [wake_t _ _ k (fun h => nw x (List.mem_of_mem_take h))]
    exact ⟨rfl, hm, hw, fun j => wake_pc _ _ j⟩
  | notifyall x =>
    simp only [Prog.eff]
    rw [wake_t _ _ k (nw x)]
    exact ⟨rfl, hm, hw, fun j => wake_pc _ _ j⟩
  | _ => exact non
theorem eff_inv (hp : PW dep p) (inv : SInv p st) (hk : k < p.T.length) (hm : (st.t k).md = .run) {n : Nat} {I : Ins} (wf : I.wf p.S n dep) {v : Int} (hv : -99 ≤ v ∧ v ≤ 99) (hI : ∀ x, I ≠ .wait x) (hpc : (st.t k).pc < p.size k)
    (hq1 : ∀ r x, I = .take r x → st.q x ≠ []) (hq2 : ∀ x t, I = .send x t → ((st.q x).length : Int) < p.cap x) : SInv p (p.eff st k v I).1 := by
  have reg : ∀ (s2 : Sta), SInv p s2 → (s2.t k) = (st.t k) → ∀ (r : Nat) (u : Int), (-99 ≤ u ∧ u ≤ 99) → SInv p (s2.setT k { s2.t k with rg := upd (s2.t k).rg r u }) := fun s2 i2 e2 r u hu => by
    have hm2 : (s2.t k).md = .run := by rw [e2]; exact hm
    exact i2.setT (by rw [hm2]; simp) (fun i => by simp only [upd]; split; (exact hu); (exact i2.rg k i)) (by simp [hm2]) (fun _ _ => by simp only [e2]; exact hpc) (fun _ => i2.wd k (by rw [hm2]; simp)) (fun _ h => by simp [hm2] at h)
  cases I with
  | leti r t => exact reg st inv rfl r v hv
  | get r x => exact reg st inv rfl r _ (inv.v x)
  | put x t => exact inv.setV hv
  | add x t =>
    simp only [Prog.eff]; split
    · rename_i h
      unfold isV at h
      exact inv.setV (by simpa using h)
    · exact inv
  | lock x => exact inv.setO fun j e => by cases e; exact hk
  | unlock x =>
    simp only [Prog.eff]; split
    · exact inv.setO fun j e => by cases e
    · exact inv
  | wait x => exact absurd rfl (hI x)
  | notify x => exact SInv.wakes ((st.w x).take 1) inv (by rw [List.take_append_drop])
  | notifyall x => exact SInv.wakes (st.w x) inv (by simp)
  | send x t =>
    refine inv.setQ (fun i hi => ?_) (fun _ => ?_)
    · rcases List.mem_append.mp hi with h | h
      · exact inv.q x i h
      · rw [List.mem_singleton.mp h]; exact hv
    · have := hq2 x t rfl
      simp; omega
  | take r x =>
    have hne := hq1 r x rfl
    obtain ⟨i, l, e⟩ : ∃ i l, st.q x = i :: l := by
      cases e : st.q x with
      | nil => exact absurd e hne
      | cons i l => exact ⟨i, l, rfl⟩
    refine reg (st.setQ x ((st.q x).drop 1)) (inv.setQ (fun i hi => inv.q x i (List.mem_of_mem_drop hi)) (fun hx => by have := inv.ql x hx; rw [List.length_drop]; omega)) rfl r _ ?_
    rw [e]
    exact inv.q x i (by rw [e]; simp)
  | check t => simp only [Prog.eff]; split <;> exact inv
  | _ => exact inv
theorem go_inv (inv : SInv p st) (hm : (st.t k).md = .run) (hw : (st.t k).wd = none) {n : Nat} (hn : n ≤ p.size k) : SInv p (st.go p k n) := by
  unfold Sta.go
  refine inv.setT (by rw [hm]; simp) (inv.rg k) (by simp only; split <;> simp [hm]) (fun _ h => ?_) (fun _ => hw) (fun _ h => ?_)
  · simp only at h ⊢
    by_cases e : n = p.size k
    · rw [if_pos e] at h; exact absurd rfl h
    · omega
  · simp only at h
    split at h
    · cases h
    · rw [hm] at h; cases h
theorem hind_send (h : p.hind st k = none) (hm : (st.t k).md = .run) {x : Str} {t : Tr} (hI : p.ins k (st.t k).pc = .send x t) (hb : (p.ins k (st.t k).pc).bad (st.t k).rg = false) : ((st.q x).length : Int) < p.cap x := by
  unfold Prog.hind at h
  rw [hm, hI] at h
  rw [hI] at hb
  simp only at h
  split at h
  · cases h
  · rename_i hn
    have e : (t.val (st.t k).rg).isSome = true := by
      have : (t.val (st.t k).rg).isNone = false := hb
      cases ev : t.val (st.t k).rg with
      | none => rw [ev] at this; cases this
      | some v => rfl
    have : ¬ p.cap x ≤ ((st.q x).length : Int) := fun h => hn ⟨h, e⟩
    omega
theorem hind_take (h : p.hind st k = none) (hm : (st.t k).md = .run) {x : Str} {r : Nat} (hI : p.ins k (st.t k).pc = .take r x) : st.q x ≠ [] := by
  unfold Prog.hind at h
  rw [hm, hI] at h
  simp only at h
  split at h
  · cases h
  · assumption
theorem step_inv (hp : PW dep p) (inv : SInv p st) (hk : k < p.T.length) (he : p.ena st k = true) : SInv p (p.step st k).1 := by
  obtain ⟨hmd, hpc⟩ := ena_md he inv hk
  have hh := (ena_of he).2
  have wf := ins_wf hp hk hpc
  unfold Prog.step
  simp only
  rcases hmd with hm | hm
  · rw [if_neg (by rw [hm]; simp)]
    have hwd := inv.wd k (by rw [hm]; simp)
    by_cases hb : (p.ins k (st.t k).pc).bad (st.t k).rg = true
    · rw [if_pos hb]
      exact inv.setT (by rw [hm]; simp) (inv.rg k) (by simp) (fun _ h => absurd rfl h) (fun h => absurd rfl h) (fun _ h => by cases h)
    · rw [if_neg hb]
      have hb' : (p.ins k (st.t k).pc).bad (st.t k).rg = false := by simpa using hb
      obtain ⟨v1, v2⟩ := Ins.val_ok wf (inv.rg k) hb'
      have hv : -99 ≤ ((p.ins k (st.t k).pc).val (st.t k).rg).getD 0 ∧ ((p.ins k (st.t k).pc).val (st.t k).rg).getD 0 ≤ 99 := by
        by_cases e : (p.ins k (st.t k).pc).tr = none
        · rw [v2 e]; decide
        · obtain ⟨v, ev, h1, h2⟩ := v1 e
          rw [ev]; exact ⟨h1, h2⟩
      obtain ⟨t1, t2, t3, t4⟩ := eff_t hm inv (((p.ins k (st.t k).pc).val (st.t k).rg).getD 0) (p.ins k (st.t k).pc)
      by_cases hw : ∃ x, p.ins k (st.t k).pc = .wait x
      · obtain ⟨x, hI⟩ := hw
        rw [hI]
        simp only [Prog.eff]
        by_cases ho : st.o (p.lk x) = some k
        · simp only [if_pos ho, Prog.on]
          have i2 : SInv p (st.setO (p.lk x) none) := inv.setO fun j e => by cases e
          exact SInv.wait i2 hk hm hI
        · simp only [if_neg ho]
          exact inv.setT (by rw [hm]; simp) (inv.rg k) (by simp) (fun _ h => absurd rfl h) (fun h => absurd rfl h) (fun _ h => by cases h)
      · have hI : ∀ x, p.ins k (st.t k).pc ≠ .wait x := fun x e => hw ⟨x, e⟩
        have i2 := eff_inv hp inv hk hm wf hv hI hpc (fun r x e => hind_take hh hm e) (fun x t e => hind_send hh hm e hb')
        generalize (p.eff st k (((p.ins k (st.t k).pc).val (st.t k).rg).getD 0) (p.ins k (st.t k).pc)).2 = w
        generalize (p.eff st k (((p.ins k (st.t k).pc).val (st.t k).rg).getD 0) (p.ins k (st.t k).pc)).1 = s2 at i2 t1 t2 t3 t4
        cases w with
        | some w => exact inv.setT (by rw [hm]; simp) (inv.rg k) (by simp) (fun _ h => absurd rfl h) (fun h => absurd rfl h) (fun _ h => by cases h)
        | none =>
          have g1 : SInv p (s2.go p k ((s2.t k).pc + 1)) := go_inv i2 t2 t3 (by rw [t1]; omega)
          simp only
          cases hI2 : p.ins k (st.t k).pc with
          | wait x => exact absurd hI2 (hI x)
          | go n t =>
            rw [hI2] at wf
            simp only [Prog.on]
            split
            · exact g1
            · exact go_inv i2 t2 t3 wf.1
          | stop =>
            simp only [Prog.on]
            refine g1.setT ?_ (g1.rg k) (by simp) (fun _ h => absurd rfl h) (fun h => absurd rfl h) (fun _ h => by cases h)
            unfold Sta.go
            simp only [Sta.setT, upd_same']
            split <;> simp [t2]
          | _ => exact g1
  · rw [if_pos hm]
    obtain ⟨c, hI⟩ := inv.wt k hk (.inr hm)
    rw [hI]
    simp only [Ins.nm, Option.getD_some]
    unfold Prog.again
    simp only
    have i2 : SInv p (st.setO (p.lk c) (some k)) := inv.setO fun j e => by cases e; exact hk
    have hwd := inv.wd k (by rw [hm]; simp)
    have i3 : SInv p ((st.setO (p.lk c) (some k)).setT k { (st.setO (p.lk c) (some k)).t k with md := .run }) := i2.setT (by show (st.t k).md ≠ _; rw [hm]; simp) (i2.rg k) (by simp) (fun _ _ => hpc) (fun _ => hwd) (fun _ h => by cases h)
    exact go_inv i3 (by simp [Sta.setT]) (by simp [Sta.setT]; exact hwd) (by omega)
def SpMakeStep (p : Prog) (φ : Fx) : Prop := ∀ (st : Sta) (k : Nat), SInv p st → k < p.T.length → p.ena st k = true → ∀ s, Rt s φ [p.d, st.d p, .int k] (.tup [(p.step st k).1.d p, (p.step st k).2.d])
theorem sp_make_step (hp : PW dep p) {pa pe pv pf pc po pt : Fx} (ha : SpAgain p pa) (hx : SpExprOf pe) (hv : SpEval dep pv) (hf : SpFailed p pf) (hc : SpEffect dep p pc) (ho : SpMovedOn p po) (ht : SpTouches dep p pt) : SpMakeStep p (f_make_step pa pe pv pf pc po pt) := by
  intro st k inv hk he s
  obtain ⟨hmd, hpc⟩ := ena_md he inv hk
  have hh := (ena_of he).2
  have wf := ins_wf hp hk hpc
  refine Rt.run rfl ?_
  unfold b_make_step
  have hsz : (st.t k).pc < p.size k := hpc
  refine Es.seqA4 (d0 := .int (st.t k).pc) (d1 := regsD (st.t k).rg) (d2 := .str (st.t k).md.s) (d3 := oS (st.t k).wd) (by walk_at "Lw.ev") rfl ?_
  refine Es.seqA (d := (p.ins k (st.t k).pc).d) (by walk_at "Lw.ev") rfl ?_
  unfold Prog.step
  simp only
  rcases hmd with hm | hm
  · rw [if_neg (by rw [hm]; simp), hm]
    refine Es.seqRF (b := decide (Md.run.s = "woken")) (by walk_at "Lw.ev") (by simp [Md.s, ofs_inj]) ?_
    have h1 := hx (p.ins k (st.t k).pc) s
    refine Es.seqA (d := oTr (p.ins k (st.t k).pc).tr) (by walk_at "Lw.ev") rfl ?_
    by_cases hb : (p.ins k (st.t k).pc).bad (st.t k).rg = true
    · rw [if_pos hb]
      obtain ⟨t, et, ev⟩ : ∃ t, (p.ins k (st.t k).pc).tr = some t ∧ t.val (st.t k).rg = none := by
        unfold Ins.bad at hb
        cases e : (p.ins k (st.t k).pc).tr with
        | none => rw [e] at hb; cases hb
        | some t => rw [e] at hb; exact ⟨t, rfl, by simpa using hb⟩
      have h3 := hf st k "range" hk s
      have htw : t.wf ∧ t.dep ≤ dep := by
        generalize p.ins k (st.t k).pc = I at et wf
        cases I <;> simp only [Ins.tr, Option.some.injEq, reduceCtorEq] at et
        · exact et ▸ wf.2
        · exact et ▸ wf.2
        · exact et ▸ wf.2
        · exact et ▸ wf.2
        · exact et ▸ wf
        · exact wf.2 t et
      have h2 := hv t (st.t k).rg htw.1 htw.2 (inv.rg k) s
      rw [et, ev] at *
      have eo : oTr (some t) = t.d := rfl
      rw [eo]
      have ntd : nonD t.d = false := by cases t <;> rfl
      refine Es.seqA (d := .str "range") (Ev.ifF (b := nonD t.d) (by walk_at "Lw.ev") ntd (by walk_at "Lw.ev")) rfl ?_
      refine Es.seqRT (b := decide (("range" : Str) = "range")) (Et.cmp (Ev.var rfl) Ev.cst o_eqss) (by simp) ?_
      show Ev s _ _ (.tup [_, .tup [.int k, .int (st.t k).pc, .tup [], .str "range"]])
      refine Ev.tup (Ea.cons (Ev.call (xs := [st.d p, .int k, .str "range"]) (Ea.cons (by walk_at "Lw.ev") (Ea.cons (by walk_at "Lw.ev") (Ea.cons Ev.cst Ea.nil))) h3) (Ea.cons (Ev.tup (Ea.cons (by walk_at "Lw.ev") (Ea.cons (by walk_at "Lw.ev") (Ea.cons (by walk_at "Lw.ev") (Ea.cons Ev.cst Ea.nil)))) rfl) Ea.nil)) rfl
    · rw [if_neg hb]
      have hb' : (p.ins k (st.t k).pc).bad (st.t k).rg = false := by simpa using hb
      obtain ⟨v1, v2⟩ := Ins.val_ok wf (inv.rg k) hb'
      have hq : ∀ x, x ∈ p.nm .queue → (st.q x).length ≤ 1000 := fun x hx => by have := inv.ql x hx; have := cap_le hp hx; omega
      have h3 := hc st k ((p.ins k (st.t k).pc).val (st.t k).rg) inv hk hpc v1 v2 (fun r x e => hind_take hh hm e) hq s
      obtain ⟨t1, t2, t3, t4⟩ := eff_t hm inv (((p.ins k (st.t k).pc).val (st.t k).rg).getD 0) (p.ins k (st.t k).pc)
      have h4 := ht (p.ins k (st.t k).pc) _ wf s
      have hval : Ev s (ifF (cmpT (isNO false) (varF 8) (cstF .non)) (cstF .non) (callF pv (consF (varF 8) (consF (varF 4) nilF)))) (((((((List.map some [p.d, st.d p, .int k] ++ List.replicate (13 - 3) none).set 3 (some (.int (st.t k).pc))).set 4 (some (regsD (st.t k).rg))).set 5 (some (.str Md.run.s))).set 6 (some (oS (st.t k).wd))).set 7 (some (p.ins k (st.t k).pc).d)).set 8 (some (oTr (p.ins k (st.t k).pc).tr))) (valO ((p.ins k (st.t k).pc).val (st.t k).rg)) := by
        by_cases e : (p.ins k (st.t k).pc).tr = none
        · rw [v2 e, e]
          exact Ev.ifT (b := true) (Et.cmp (x := .non) (Ev.var rfl) Ev.cst o_isNn) rfl Ev.cst
        · obtain ⟨v, ev, hv1, hv2⟩ := v1 e
          obtain ⟨t, et⟩ : ∃ t, (p.ins k (st.t k).pc).tr = some t := Option.ne_none_iff_exists'.mp e
          have htw : t.wf ∧ t.dep ≤ dep := by
            generalize p.ins k (st.t k).pc = I at et wf
            cases I <;> simp only [Ins.tr, Option.some.injEq, reduceCtorEq] at et
            · exact et ▸ wf.2
            · exact et ▸ wf.2
            · exact et ▸ wf.2
            · exact et ▸ wf.2
            · exact et ▸ wf
            · exact wf.2 t et
          have etv : t.val (st.t k).rg = some v := by
            unfold Ins.val at ev
            rw [et] at ev
            exact ev
          have h2 := hv t (st.t k).rg htw.1 htw.2 (inv.rg k) s
          rw [etv] at h2
          rw [ev, et]
          have ntd : nonD t.d = false := by cases t <;> rfl
          exact Ev.ifF (b := nonD t.d) (Et.cmp (x := t.d) (Ev.var rfl) Ev.cst o_isN) ntd (Ev.call (xs := [t.d, regsD (st.t k).rg]) (Ea.cons (Ev.var rfl) (Ea.cons (Ev.var rfl) Ea.nil)) h2)
      refine Es.seqA hval rfl ?_
      have hnr : ∀ {vo : Option Int} {s : Sto}, O2 s (eqO false) (valO vo) c_RANGE (.bl false) := fun {vo s} => by cases vo <;> exact .pure fun _ => rfl
      refine Es.seqRF (b := false) (Et.cmp (x := valO ((p.ins k (st.t k).pc).val (st.t k).rg)) (Ev.var rfl) Ev.cst hnr) rfl ?_
      generalize hw : (p.eff st k (((p.ins k (st.t k).pc).val (st.t k).rg).getD 0) (p.ins k (st.t k).pc)).2 = w at h3
      generalize (p.eff st k (((p.ins k (st.t k).pc).val (st.t k).rg).getD 0) (p.ins k (st.t k).pc)).1 = s2 at h3 t1 t2 t3 t4
      generalize hvo : (p.ins k (st.t k).pc).val (st.t k).rg = vo at h3
      refine Es.seqA2 (d0 := s2.d p) (d1 := oS w) (Ev.call (xs := [p.d, st.d p, .int k, valO vo]) (Ea.cons (Ev.var rfl) (Ea.cons (Ev.var rfl) (Ea.cons (Ev.var rfl) (Ea.cons (Ev.var rfl) Ea.nil)))) h3) rfl ?_
      cases w with
      | none =>
        have h5 := ho s2 k vo hk (by rw [t1]; exact hpc) s
        rw [t1] at h5
        refine Es.seqT (b := true) (Et.cmp (x := .non) (Ev.var rfl) Ev.cst o_isNn) rfl (Es.asgN (Ev.call (xs := [p.d, s2.d p, .int k, valO vo]) (Ea.cons (Ev.var rfl) (Ea.cons (Ev.var rfl) (Ea.cons (Ev.var rfl) (Ea.cons (Ev.var rfl) Ea.nil)))) h5)) ?_
        refine Es.ret (Ev.tup (Ea.cons (Ev.var rfl) (Ea.cons (Ev.tup (Ea.cons (Ev.var rfl) (Ea.cons (Ev.var rfl) (Ea.cons (Ev.call (xs := [p.d, (p.ins k (st.t k).pc).d]) (Ea.cons (Ev.var rfl) (Ea.cons (Ev.var rfl) Ea.nil)) h4) (Ea.cons (Ev.var rfl) Ea.nil)))) rfl) Ea.nil)) rfl)
      | some w =>
        have h5 := hf st k w hk s
        refine Es.seqF (b := false) (Et.cmp (x := .str w) (Ev.var rfl) Ev.cst o_isNs) rfl (Es.asgN (Ev.call (xs := [st.d p, .int k, .str w]) (Ea.cons (Ev.var rfl) (Ea.cons (Ev.var rfl) (Ea.cons (Ev.var rfl) Ea.nil))) h5)) ?_
        refine Es.ret (Ev.tup (Ea.cons (Ev.var rfl) (Ea.cons (Ev.tup (Ea.cons (Ev.var rfl) (Ea.cons (Ev.var rfl) (Ea.cons (Ev.call (xs := [p.d, (p.ins k (st.t k).pc).d]) (Ea.cons (Ev.var rfl) (Ea.cons (Ev.var rfl) Ea.nil)) h4) (Ea.cons (Ev.var rfl) Ea.nil)))) rfl) Ea.nil)) rfl)
  · rw [if_pos hm, hm]
    obtain ⟨c, hI⟩ := inv.wt k hk (.inr hm)
    have hc2 : c ∈ p.nm .cond := by rw [hI] at wf; exact wf
    have h1 := ha st k c hk hpc hI hc2 s
    rw [hI]
    simp only [Ins.nm, Option.getD_some]
    refine Es.seqRT (b := decide (Md.woken.s = "woken")) (by walk_at "Lw.ev") (by simp [Md.s]) ?_
    exact Ev.call (by walk_at "Lw.ev") h1
end
/-! S10.lean -/
/-! ### the first state -/
def varFn (x : Str) : Thg → Option Int
  | .var y n => if y = x then some n else none
  | _ => none
def Prog.v0 (p : Prog) (x : Str) : Int := ((p.S.filterMap (varFn x)).head?).getD 0
def Prog.first (p : Prog) : Sta := ⟨p.v0, fun _ => none, fun _ => [], fun _ => [], fun _ => ⟨0, fun _ => 0, .run, none⟩⟩
theorem var_of {p : Prog} (nd : (p.S.map Thg.name).Nodup) {x : Str} {n : Int} (h : Thg.var x n ∈ p.S) : p.v0 x = n := by
  have e : p.S.filterMap (varFn x) = [n] := one_of nd h (by simp [varFn]) (fun u hu => by cases u <;> simp [varFn, Thg.name] at hu ⊢; exact hu)
  unfold Prog.v0; rw [e]; rfl
theorem first_inv {dep : Nat} {p : Prog} (hp : PW dep p) : SInv p p.first where
  rg := fun _ _ => ⟨by show -99 ≤ (0 : Int); omega, by show (0 : Int) ≤ 99; omega⟩
  v := fun x => by
    show -99 ≤ p.v0 x ∧ p.v0 x ≤ 99
    unfold Prog.v0
    cases e : p.S.filterMap (varFn x) with
    | nil => exact ⟨by show -99 ≤ (0 : Int); omega, by show (0 : Int) ≤ 99; omega⟩
    | cons n l =>
      have hm : n ∈ p.S.filterMap (varFn x) := by rw [e]; simp
      obtain ⟨t, ht, et⟩ := List.mem_filterMap.mp hm
      cases t with
      | var y m =>
        simp only [varFn] at et
        split at et
        · cases et; exact hp.ok _ ht
        · cases et
      | _ => cases et
  q := fun _ _ h => by cases h
  ql := fun x hx => by have := cap_le hp hx; show ((0 : Nat) : Int) ≤ _; omega
  w := fun _ _ h => by cases h
  wn := fun _ => List.nodup_nil
  ww := fun _ _ _ h => by cases h
  pc := fun k hk _ => by
    show 0 < p.size k
    have e : p.T.getD k [] = p.T[k] := by rw [List.getD_eq_getElem?_getD, List.getElem?_eq_getElem hk]; rfl
    unfold Prog.size; rw [e]
    exact (hp.len _ (List.getElem_mem hk)).1
  wt := fun _ _ h => by rcases h with h | h <;> cases h
  wd := fun _ _ => rfl
  own := fun _ _ h => by cases h
def SpFirst (p : Prog) (φ : Fx) : Prop := ∀ s, Rt s φ [p.d] (p.first.d p)
/-- a part of the first state -/
theorem part_comp {p : Prog} {s : Sto} {σ : Sl} {f : SE} (k : Kd) (ct : Str → D) (h1 : σ[1]? = some (some (.tup (p.S.map Thg.d)))) (h3 : 3 < σ.length) (few : p.S.length ≤ 100)
    (hf : ∀ t ∈ p.S, t.kind = k.s → Ev s f (σ.set 3 (some t.d)) (ct t.name)) (hw : wipeD σ [3] = σ.set 3 none) :
    Ev s (appF tupleO (consF (compF [3] (anyI (varF 1)) (nmG 3) (cmpT (eqO false) (binF ixO (varF 3) (cstF (.int 0))) (cstF (.str k.s))) f) nilF)) σ (.tup ((p.nm k).map ct)) := by
  have e : (p.nm k).map ct = (p.S.filter fun t => decide (t.kind = k.s)).map fun t => ct t.name := by
    unfold Prog.nm kindNames
    generalize p.S = S
    induction S with
    | nil => rfl
    | cons t S ih =>
      rw [List.filterMap_cons, List.filter_cons]
      by_cases h : t.kind = k.s
      · simp only [if_pos h, decide_eq_true h, if_true, List.map_cons, ih]
      · simp only [if_neg h, decide_eq_false h, Bool.false_eq_true, if_false, ih]
  rw [e]
  have hs : ∀ t : Thg, nmG 3 t.d (wipeD σ [3]) = some (σ.set 3 (some t.d)) := fun t => by rw [hw, nmG_eq, List.set_set]
  refine Ev.tupL (Ev.compB _ _ (Ei.tup (Ev.var h1)) (by show _ ≤ 1000000; omega) fun t ht => ⟨_, hs t, ?_, fun hk => hf t ht (of_decide_eq_true hk)⟩)
  have g3 : (σ.set 3 (some t.d))[3]? = some (some t.d) := List.getElem?_set_self h3
  exact Et.cmp (Ev.bin (Ev.var g3) Ev.cst o_t0) Ev.cst o_eqss
theorem sp_first {dep : Nat} {p : Prog} (hp : PW dep p) : SpFirst p f_first_state := by
  intro s
  refine Rt.run rfl ?_
  unfold b_first_state
  refine Es.seqA2 (d0 := .tup (p.S.map Thg.d)) (d1 := .tup (p.T.map thrD)) (Ev.var rfl) rfl ?_
  refine Es.ret (Ev.tup (xs := [.tup ((p.nm .var).map fun x => .int (p.v0 x)), .tup ((p.nm .lock).map fun _ => .non), .tup ((p.nm .queue).map fun _ => .tup []), .tup ((p.nm .cond).map fun _ => .tup []), .tup ((List.range p.T.length).map fun _ => .tup [.int 0, .tup [.int 0, .int 0, .int 0, .int 0], .str "run", .non])]) ?_ rfl)
  refine Ea.cons (part_comp .var (fun x => .int (p.v0 x)) rfl (by simp) hp.few (fun t ht hk => ?_) rfl) (Ea.cons (part_comp .lock _ rfl (by simp) hp.few (fun t ht hk => ?_) rfl) (Ea.cons (part_comp .queue _ rfl (by simp) hp.few (fun t ht hk => ?_) rfl) (Ea.cons (part_comp .cond _ rfl (by simp) hp.few (fun t ht hk => ?_) rfl) (Ea.cons ?_ Ea.nil))))
  · cases t with
    | var x n => rw [show (Thg.var x n).name = x from rfl, var_of hp.nd ht]; exact Ev.bin (Ev.var rfl) Ev.cst o_ix2
    | _ => simp [Thg.kind, Kd.s, ofs_inj] at hk
  · exact Ev.cst
  · exact Ev.tup Ea.nil rfl
  · exact Ev.tup Ea.nil rfl
  · have e : ((List.range p.T.length).map fun _ => D.tup [.int 0, .tup [.int 0, .int 0, .int 0, .int 0], .str "run", .non]) = p.T.map fun _ => D.tup [.int 0, .tup [.int 0, .int 0, .int 0, .int 0], .str "run", .non] := by
      rw [List.map_const', List.map_const', List.length_range]
    rw [e]
    have e2 : p.T.map (fun _ => D.tup [.int 0, .tup [.int 0, .int 0, .int 0, .int 0], .str "run", .non]) = (p.T.map thrD).map (fun _ => D.tup [.int 0, .tup [.int 0, .int 0, .int 0, .int 0], .str "run", .non]) := by rw [List.map_map]; rfl
    rw [e2]
    refine Ev.tupL (Ev.comp _ (Ei.tup (Ev.var rfl)) (by rw [List.length_map]; have := hp.thr; show _ ≤ 1000000; omega) fun x hx => ⟨_, rfl, ?_⟩)
    walk_at "Lw.ev"
/-! blocked, deadlocks -/
def natS (x : Nat × Str) : D := .tup [.int x.1, .str x.2]
def Prog.blL (p : Prog) (st : Sta) : List (Nat × Str) := ((List.range p.T.length).filter (work p st)).filterMap fun k => (p.hind st k).map fun x => (k, x)
def SpBlocked (p : Prog) (φ : Fx) : Prop := ∀ (st : Sta), SInv p st → ∀ s, Rt s φ [p.d, st.d p] (.tup ((p.blL st).map natS))
theorem sp_blocked {dep : Nat} {p : Prog} (hp : PW dep p) {pw ph : Fx} (hw : SpWork p pw) (hh : SpHind p ph) : SpBlocked p (f_blocked pw ph) := by
  intro st inv s
  refine Rt.run rfl ?_
  unfold b_blocked
  have hn := hp.thr
  have hlen : ((List.range p.T.length).filter (work p st)).length ≤ 1000000 := Nat.le_trans (List.length_filter_le _ _) (by rw [List.length_range]; omega)
  refine Es.asgL (xs := ((List.range p.T.length).filter (work p st)).map natD) ?_ ?_
  · refine Ev.compB (work p st) natD (L := List.range p.T.length) (fd := natD) (rng_map _ ▸ Ei.rng (Ea.cons (Ev.app (Ea.cons (by walk_at "Lw.ev") Ea.nil) o_Tlen) Ea.nil) (by show _ ≤ 1000000; omega)) (by rw [List.length_range]; show _ ≤ 1000000; omega) fun k hk => ?_
    have hk' := List.mem_range.mp hk
    have h1 := hw st k hk' s
    exact ⟨[some p.d, some (st.d p), none, some (natD k), none, none], rfl, Et.tru (Ev.call (Ea.cons (by walk_at "Lw.ev") (Ea.cons (by walk_at "Lw.ev") (Ea.cons (by walk_at "Lw.ev") Ea.nil))) h1) (fun _ => rfl), fun _ => by walk_at "Lw.ev"⟩
  · intro s2 m x2 g2
    refine Es.asgL (xs := ((List.range p.T.length).filter (work p st)).map fun k => .tup [natD k, oS (p.hind st k)]) ?_ ?_
    · have e := Ev.compM (s := s2) (vs := [3]) (c := yesT) (gg := nmG 3) (e := tupF (consF (varF 3) (consF (callF ph (consF (varF 0) (consF (varF 1) (consF (varF 3) nilF)))) nilF))) (σ := [some p.d, some (st.d p), some (.loc m), none, none, none]) (L := (List.range p.T.length).filter (work p st)) (fd := natD) (j := anyI (varF 2)) (fun k => some (.tup [natD k, oS (p.hind st k)])) (Ei.loc (Ev.var rfl) g2) hlen (fun k hk => by
        obtain ⟨hk1, hk2⟩ := List.mem_filter.mp hk
        have h1 := hh st k inv (List.mem_range.mp hk1) hk2 s2
        exact ⟨[some p.d, some (st.d p), some (.loc m), some (natD k), none, none], rfl, fun st' _ => ⟨st', rfl, Ext.refl⟩, fun y hy => by
          cases hy
          exact Ev.tup (Ea.cons (Ev.var rfl) (Ea.cons (Ev.call (xs := [p.d, st.d p, .int k]) (Ea.cons (Ev.var rfl) (Ea.cons (Ev.var rfl) (Ea.cons (Ev.var rfl) Ea.nil))) h1) Ea.nil)) rfl⟩)
      have e2 : ((List.range p.T.length).filter (work p st)).filterMap (fun k => some (D.tup [natD k, oS (p.hind st k)])) = ((List.range p.T.length).filter (work p st)).map fun k => .tup [natD k, oS (p.hind st k)] := by rw [List.filterMap_eq_map']
      rw [e2] at e
      exact e
    · intro s3 m3 x3 g3
      refine Es.ret (Ev.tupL ?_)
      have e : (p.blL st).map natS = ((List.range p.T.length).filter (work p st)).filterMap fun k => (p.hind st k).map fun x => natS (k, x) := by
        unfold Prog.blL
        rw [List.map_filterMap]
        congr 1
        funext k
        cases p.hind st k <;> rfl
      rw [e]
      refine Ev.compM _ (Ei.loc (Ev.var rfl) g3) hlen fun k hk => ?_
      refine ⟨[some p.d, some (st.d p), some (.loc m), some (natD k), some (.loc m3), some (oS (p.hind st k))], rfl, ?_, fun y hy => ?_⟩
      · have : ((p.hind st k).map fun x => natS (k, x)).isSome = !nonD (oS (p.hind st k)) := by cases p.hind st k <;> rfl
        rw [this]
        exact Et.cmp (Ev.var rfl) Ev.cst o_notN
      · cases e : p.hind st k with
        | none => rw [e] at hy; cases hy
        | some x =>
          rw [e] at hy
          cases hy
          exact Ev.tup (Ea.cons (Ev.var rfl) (Ea.cons (Ev.var rfl) Ea.nil)) rfl
/-! T1.lean -/
/-! ### what a step reads and writes -/
structure Dl where
  v : Option (Str × Int) := none
  o : Option (Str × Option Nat) := none
  q : Option (Str × List Int) := none
  w : Option (Str × List Nat) := none
  wk : List Nat := []
  th : Th
def set1 {β : Type} (f : Str → β) : Option (Str × β) → Str → β
  | none => f
  | some (x, a) => upd f x a
def Dl.ap (d : Dl) (k : Nat) (st : Sta) : Sta := ⟨set1 st.v d.v, set1 st.o d.o, set1 st.q d.q, set1 st.w d.w, upd (fun j => if j ∈ d.wk then { st.t j with md := .woken } else st.t j) k d.th⟩
def goT (p : Prog) (k : Nat) (h : Th) (n : Nat) : Th := { h with pc := n, md := if n = p.size k then .over else h.md }
def failT (h : Th) (w : Str) : Th := { h with md := .over, wd := some w }
def dl (p : Prog) (st : Sta) (k : Nat) : Dl :=
  let h := st.t k
  let I := p.ins k h.pc
  let v := (I.val h.rg).getD 0
  if h.md = .woken then { o := some (p.lk (I.nm.getD Str.empty), some k), th := goT p k { h with md := .run } (h.pc + 1) }
  else if I.bad h.rg = true then { th := failT h "range" }
  else match I with
    | .leti r _ => { th := goT p k { h with rg := upd h.rg r v } (h.pc + 1) }
    | .get r x => { th := goT p k { h with rg := upd h.rg r (st.v x) } (h.pc + 1) }
    | .put x _ => { v := some (x, v), th := goT p k h (h.pc + 1) }
    | .add x _ => if isV (st.v x + v) = true then { v := some (x, st.v x + v), th := goT p k h (h.pc + 1) } else { th := failT h "range" }
    | .lock x => { o := some (x, some k), th := goT p k h (h.pc + 1) }
    | .unlock x => if st.o x = some k then { o := some (x, none), th := goT p k h (h.pc + 1) } else { th := failT h "owner" }
    | .wait x => if st.o (p.lk x) = some k then { o := some (p.lk x, none), w := some (x, st.w x ++ [k]), th := { h with md := .wait } } else { th := failT h "owner" }
    | .notify x => { w := some (x, (st.w x).drop 1), wk := (st.w x).take 1, th := goT p k h (h.pc + 1) }
    | .notifyall x => { w := some (x, []), wk := st.w x, th := goT p k h (h.pc + 1) }
    | .send x _ => { q := some (x, st.q x ++ [v]), th := goT p k h (h.pc + 1) }
    | .take r x => { q := some (x, (st.q x).drop 1), th := goT p k { h with rg := upd h.rg r ((st.q x).headD 0) } (h.pc + 1) }
    | .check _ => if v = 0 then { th := failT h "check" } else { th := goT p k h (h.pc + 1) }
    | .go n _ => if I.val h.rg = some 0 then { th := goT p k h (h.pc + 1) } else { th := goT p k h n }
    | .stop => { th := { goT p k h (h.pc + 1) with md := .over } }
    | _ => { th := goT p k h (h.pc + 1) }
theorem wake_eq : ∀ (l : List Nat) (st : Sta), Prog.wake st l = { st with t := fun j => if j ∈ l then { st.t j with md := .woken } else st.t j }
  | [], st => by simp [Prog.wake]
  | i :: l, st => by
    unfold Prog.wake
    rw [wake_eq l]
    simp only [Sta.setT]
    congr 1
    funext j
    by_cases h : j = i
    · subst h
      simp [upd]
    · simp [upd, h]
section
variable {dep : Nat} {p : Prog} {st : Sta} {k : Nat}
theorem if_nil {j : Nat} {a b : Th} : (if j ∈ ([] : List Nat) then a else b) = b := if_neg (by simp)
theorem ap_th (th : Th) (st : Sta) (k : Nat) : Dl.ap { th := th } k st = st.setT k th := by
  simp only [Dl.ap, set1, Sta.setT, if_nil]
theorem step_ap (inv : SInv p st) (hk : k < p.T.length) (he : p.ena st k = true) : (p.step st k).1 = (dl p st k).ap k st := by
  obtain ⟨hmd, hpc⟩ := ena_md he inv hk
  unfold Prog.step dl
  simp only
  rcases hmd with hm | hm
  · have hnw : ¬ (st.t k).md = .woken := by rw [hm]; simp
    have nw : ∀ x, k ∉ st.w x := inv.not_w (by rw [hm]; simp)
    simp only [if_neg hnw]
    by_cases hb : (p.ins k (st.t k).pc).bad (st.t k).rg = true
    · simp only [if_pos hb]
      exact (ap_th _ _ _).symm
    · simp only [if_neg hb]
      cases hI : p.ins k (st.t k).pc with
      | leti r t =>
        rw [ap_th]
        simp only [Prog.eff, Prog.on, Sta.go, Sta.setT, upd_same', upd_upd, goT]
      | get r x =>
        rw [ap_th]
        simp only [Prog.eff, Prog.on, Sta.go, Sta.setT, upd_same', upd_upd, goT]
      | put x t =>
        simp only [Prog.eff, Prog.on, Sta.go, Sta.setT, Sta.setV, Dl.ap, set1, goT, if_nil]
        rfl
      | add x t =>
        simp only [Prog.eff]
        by_cases hv : isV (st.v x + ((Ins.add x t).val (st.t k).rg).getD 0) = true
        · simp only [if_pos hv, Prog.on, Sta.go, Sta.setT, Sta.setV, Dl.ap, set1, goT, if_nil]
        · simp only [if_neg hv]
          exact (ap_th _ _ _).symm
      | lock x =>
        simp only [Prog.eff, Prog.on, Sta.go, Sta.setT, Sta.setO, Dl.ap, set1, goT, if_nil]
        rfl
      | unlock x =>
        simp only [Prog.eff]
        by_cases hv : st.o x = some k
        · simp only [if_pos hv, Prog.on, Sta.go, Sta.setT, Sta.setO, Dl.ap, set1, goT, if_nil]
        · simp only [if_neg hv]
          exact (ap_th _ _ _).symm
      | wait x =>
        simp only [Prog.eff]
        by_cases hv : st.o (p.lk x) = some k
        · simp only [if_pos hv, Prog.on, Sta.go, Sta.setT, Sta.setO, Sta.setW, Dl.ap, set1, goT, if_nil]
        · simp only [if_neg hv]
          exact (ap_th _ _ _).symm
      | notify x =>
        have h1 : k ∉ (st.w x).take 1 := fun h => nw x (List.mem_of_mem_take h)
        simp only [Prog.eff, Prog.on, wake_eq, Sta.go, Sta.setT, Sta.setW, Dl.ap, set1, goT, if_neg h1]
      | notifyall x => simp only [Prog.eff, Prog.on, wake_eq, Sta.go, Sta.setT, Sta.setW, Dl.ap, set1, goT, if_neg (nw x)]
      | send x t =>
        simp only [Prog.eff, Prog.on, Sta.go, Sta.setT, Sta.setQ, Dl.ap, set1, goT, if_nil]
        rfl
      | take r x => simp only [Prog.eff, Prog.on, Sta.go, Sta.setT, Sta.setQ, Dl.ap, set1, goT, if_nil, upd_same', upd_upd]
      | check t =>
        simp only [Prog.eff]
        by_cases hv : ((Ins.check t).val (st.t k).rg).getD 0 = 0
        · simp only [if_pos hv]
          exact (ap_th _ _ _).symm
        · simp only [if_neg hv]
          exact (ap_th _ _ _).symm
      | go n t =>
        simp only [Prog.eff, Prog.on]
        by_cases hv : (Ins.go n t).val (st.t k).rg = some 0
        · simp only [if_pos hv]
          exact (ap_th _ _ _).symm
        · simp only [if_neg hv]
          exact (ap_th _ _ _).symm
      | stop =>
        rw [ap_th]
        simp only [Prog.eff, Prog.on, Sta.go, Sta.setT, upd_same', upd_upd, goT]
      | begin_ =>
        rw [ap_th]
        rfl
      | end_ =>
        rw [ap_th]
        rfl
  · simp only [if_pos hm]
    simp only [Prog.again, Sta.go, Sta.setT, Sta.setO, Dl.ap, set1, goT, if_nil, upd_same', upd_upd]
def Stp.tn (s : Stp) (x : Str) : Prop := ∃ b, (x, b) ∈ s.tch
/-- alike in all that a thread's step touches -/
structure Agree (p : Prog) (st st2 : Sta) (k : Nat) : Prop where
  t : st2.t k = st.t k
  v : ∀ x, (p.step st k).2.tn x → st2.v x = st.v x
  o : ∀ x, (p.step st k).2.tn x → st2.o x = st.o x
  q : ∀ x, (p.step st k).2.tn x → st2.q x = st.q x
  w : ∀ x, (p.step st k).2.tn x → st2.w x = st.w x
theorem tch_woken (hm : (st.t k).md = .woken) : (p.step st k).2 = ⟨k, (st.t k).pc, [(p.lk ((p.ins k (st.t k).pc).nm.getD Str.empty), true), ((p.ins k (st.t k).pc).nm.getD Str.empty, false)], .non⟩ := by
  unfold Prog.step
  simp only [if_pos hm]
theorem tch_bad (hm : ¬ (st.t k).md = .woken) (hb : (p.ins k (st.t k).pc).bad (st.t k).rg = true) : (p.step st k).2 = ⟨k, (st.t k).pc, [], .str "range"⟩ := by
  unfold Prog.step
  simp only [if_neg hm, if_pos hb]
theorem tch_run (hm : ¬ (st.t k).md = .woken) (hb : ¬ (p.ins k (st.t k).pc).bad (st.t k).rg = true) : (p.step st k).2 = ⟨k, (st.t k).pc, touch p (p.ins k (st.t k).pc), oS (p.eff st k (((p.ins k (st.t k).pc).val (st.t k).rg).getD 0) (p.ins k (st.t k).pc)).2⟩ := by
  unfold Prog.step
  simp only [if_neg hm, if_neg hb]
  cases (p.eff st k (((p.ins k (st.t k).pc).val (st.t k).rg).getD 0) (p.ins k (st.t k).pc)).2 <;> rfl
theorem agree_step {st2 : Sta} (hm : (st.t k).md = .run ∨ (st.t k).md = .woken) (hw : ∀ x, (st.t k).md = .woken → p.ins k (st.t k).pc = .wait x → True) (a : Agree p st st2 k) : (p.hind st2 k = p.hind st k ∨ ((st.t k).md = .woken ∧ (p.ins k (st.t k).pc).nm = none)) ∧ dl p st2 k = dl p st k ∧ (p.step st2 k).2 = (p.step st k).2 := by
  have et := a.t
  by_cases hmd : (st.t k).md = .woken
  · have tt := tch_woken (p := p) hmd
    refine ⟨?_, ?_, ?_⟩
    · cases hI : (p.ins k (st.t k).pc).nm with
      | none => exact .inr ⟨hmd, rfl⟩
      | some c =>
        left
        have e : st2.o (p.lk c) = st.o (p.lk c) := a.o _ ⟨true, by rw [tt, hI]; simp⟩
        unfold Prog.hind
        rw [et, hmd]
        simp only [hI, e]
    · unfold dl
      simp only [et, if_pos hmd]
    · rw [tt, tch_woken (p := p) (st := st2) (by rw [et]; exact hmd), et]
  · have hr : (st.t k).md = .run := hm.resolve_right hmd
    by_cases hb : (p.ins k (st.t k).pc).bad (st.t k).rg = true
    · have tt := tch_bad (p := p) hmd hb
      refine ⟨.inl ?_, ?_, ?_⟩
      · unfold Prog.hind
        rw [et, hr]
        cases hI : p.ins k (st.t k).pc with
        | send x t =>
          rw [hI] at hb
          have : (t.val (st.t k).rg).isSome = false := by
            have : (t.val (st.t k).rg).isNone = true := hb
            cases e : t.val (st.t k).rg with
            | none => rfl
            | some v => rw [e] at this; cases this
          simp [this]
        | lock x => rw [hI] at hb; cases hb
        | take r x => rw [hI] at hb; cases hb
        | _ => rfl
      · unfold dl
        simp only [et, if_neg hmd, if_pos hb]
      · rw [tt, tch_bad (p := p) (st := st2) (by rw [et]; exact hmd) (by rw [et]; exact hb), et]
    · have tt := tch_run (p := p) hmd hb
      have tn : ∀ x b, (x, b) ∈ touch p (p.ins k (st.t k).pc) → (p.step st k).2.tn x := fun x b h => ⟨b, by rw [tt]; exact h⟩
      have eff : (p.eff st2 k (((p.ins k (st.t k).pc).val (st.t k).rg).getD 0) (p.ins k (st.t k).pc)).2 = (p.eff st k (((p.ins k (st.t k).pc).val (st.t k).rg).getD 0) (p.ins k (st.t k).pc)).2 := by
        cases hI : p.ins k (st.t k).pc with
        | add x t =>
          have e := a.v x (tn x true (by rw [hI]; simp [touch, Ins.nm]))
          simp only [Prog.eff, e]; split <;> rfl
        | unlock x =>
          have e := a.o x (tn x true (by rw [hI]; simp [touch, Ins.nm]))
          simp only [Prog.eff, e]; split <;> rfl
        | wait x =>
          have e := a.o (p.lk x) (tn (p.lk x) true (by rw [hI]; simp [touch]))
          simp only [Prog.eff, e]; split <;> rfl
        | check t => simp only [Prog.eff]; split <;> rfl
        | _ => rfl
      refine ⟨.inl ?_, ?_, ?_⟩
      · unfold Prog.hind
        rw [et, hr]
        cases hI : p.ins k (st.t k).pc with
        | lock x =>
          have e := a.o x (tn x true (by rw [hI]; simp [touch, Ins.nm]))
          simp only [e]
        | send x t =>
          have e := a.q x (tn x true (by rw [hI]; simp [touch, Ins.nm]))
          simp only [e]
        | take r x =>
          have e := a.q x (tn x true (by rw [hI]; simp [touch, Ins.nm]))
          simp only [e]
        | _ => rfl
      · unfold dl
        simp only [et, if_neg hmd, if_neg hb]
        cases hI : p.ins k (st.t k).pc with
        | get r x => simp only [a.v x (tn x false (by rw [hI]; simp [touch]))]
        | add x t => simp only [a.v x (tn x true (by rw [hI]; simp [touch, Ins.nm]))]
        | unlock x => simp only [a.o x (tn x true (by rw [hI]; simp [touch, Ins.nm]))]
        | wait x => simp only [a.o (p.lk x) (tn (p.lk x) true (by rw [hI]; simp [touch])), a.w x (tn x true (by rw [hI]; simp [touch]))]
        | notify x => simp only [a.w x (tn x true (by rw [hI]; simp [touch, Ins.nm]))]
        | notifyall x => simp only [a.w x (tn x true (by rw [hI]; simp [touch, Ins.nm]))]
        | send x t => simp only [a.q x (tn x true (by rw [hI]; simp [touch, Ins.nm]))]
        | take r x => simp only [a.q x (tn x true (by rw [hI]; simp [touch, Ins.nm]))]
        | _ => rfl
      · rw [tt, tch_run (p := p) (st := st2) (by rw [et]; exact hmd) (by rw [et]; exact hb), et, eff]
/-- what is written is told -/
structure Writes (p : Prog) (st : Sta) (k : Nat) (d : Dl) : Prop where
  v : ∀ x a, d.v = some (x, a) → (x, true) ∈ (p.step st k).2.tch
  o : ∀ x a, d.o = some (x, a) → (x, true) ∈ (p.step st k).2.tch
  q : ∀ x a, d.q = some (x, a) → (x, true) ∈ (p.step st k).2.tch
  w : ∀ x a, d.w = some (x, a) → (x, true) ∈ (p.step st k).2.tch
  wk : ∀ j ∈ d.wk, (st.t j).md = .wait
theorem writes_non {th : Th} : Writes p st k { th := th } := ⟨fun _ _ h => (by cases h), fun _ _ h => (by cases h), fun _ _ h => (by cases h), fun _ _ h => (by cases h), fun _ h => (by cases h)⟩
theorem dl_writes (inv : SInv p st) (hm : (st.t k).md = .run ∨ (st.t k).md = .woken) : Writes p st k (dl p st k) := by
  by_cases hmd : (st.t k).md = .woken
  · have tt := tch_woken (p := p) hmd
    unfold dl
    simp only [if_pos hmd]
    exact ⟨fun _ _ h => (by cases h), fun x a h => (by cases h; rw [tt]; simp), fun _ _ h => (by cases h), fun _ _ h => (by cases h), fun _ h => (by cases h)⟩
  · by_cases hb : (p.ins k (st.t k).pc).bad (st.t k).rg = true
    · unfold dl
      simp only [if_neg hmd, if_pos hb]
      exact writes_non
    · have tt := tch_run (p := p) hmd hb
      have tn : ∀ x, (x, true) ∈ touch p (p.ins k (st.t k).pc) → (x, true) ∈ (p.step st k).2.tch := fun x h => by rw [tt]; exact h
      unfold dl
      simp only [if_neg hmd, if_neg hb]
      cases hI : p.ins k (st.t k).pc with
      | put x t => exact ⟨fun _ _ h => (by cases h; exact tn _ (by rw [hI]; simp [touch, Ins.nm])), fun _ _ h => (by cases h), fun _ _ h => (by cases h), fun _ _ h => (by cases h), fun _ h => (by cases h)⟩
      | add x t =>
        simp only; split
        · exact ⟨fun _ _ h => (by cases h; exact tn _ (by rw [hI]; simp [touch, Ins.nm])), fun _ _ h => (by cases h), fun _ _ h => (by cases h), fun _ _ h => (by cases h), fun _ h => (by cases h)⟩
        · exact writes_non
      | lock x => exact ⟨fun _ _ h => (by cases h), fun _ _ h => (by cases h; exact tn _ (by rw [hI]; simp [touch, Ins.nm])), fun _ _ h => (by cases h), fun _ _ h => (by cases h), fun _ h => (by cases h)⟩
      | unlock x =>
        simp only; split
        · exact ⟨fun _ _ h => (by cases h), fun _ _ h => (by cases h; exact tn _ (by rw [hI]; simp [touch, Ins.nm])), fun _ _ h => (by cases h), fun _ _ h => (by cases h), fun _ h => (by cases h)⟩
        · exact writes_non
      | wait x =>
        simp only; split
        · exact ⟨fun _ _ h => (by cases h), fun _ _ h => (by cases h; exact tn _ (by rw [hI]; simp [touch])), fun _ _ h => (by cases h), fun _ _ h => (by cases h; exact tn _ (by rw [hI]; simp [touch])), fun _ h => (by cases h)⟩
        · exact writes_non
      | notify x => exact ⟨fun _ _ h => (by cases h), fun _ _ h => (by cases h), fun _ _ h => (by cases h), fun _ _ h => (by cases h; exact tn _ (by rw [hI]; simp [touch, Ins.nm])), fun j h => (inv.w x j (List.mem_of_mem_take h)).2.1⟩
      | notifyall x => exact ⟨fun _ _ h => (by cases h), fun _ _ h => (by cases h), fun _ _ h => (by cases h), fun _ _ h => (by cases h; exact tn _ (by rw [hI]; simp [touch, Ins.nm])), fun j h => (inv.w x j h).2.1⟩
      | send x t => exact ⟨fun _ _ h => (by cases h), fun _ _ h => (by cases h), fun _ _ h => (by cases h; exact tn _ (by rw [hI]; simp [touch, Ins.nm])), fun _ _ h => (by cases h), fun _ h => (by cases h)⟩
      | take r x => exact ⟨fun _ _ h => (by cases h), fun _ _ h => (by cases h), fun _ _ h => (by cases h; exact tn _ (by rw [hI]; simp [touch, Ins.nm])), fun _ _ h => (by cases h), fun _ h => (by cases h)⟩
      | check t => simp only; split <;> exact writes_non
      | go n t => simp only; split <;> exact writes_non
      | _ => exact writes_non
theorem set1_ne {β : Type} {f : Str → β} {o : Option (Str × β)} {x : Str} (h : ∀ a, o ≠ some (x, a)) : set1 f o x = f x := by
  cases o with
  | none => rfl
  | some y => exact upd_ne' fun e => h y.2 (by rw [e])
theorem set1_comm {β : Type} {f : Str → β} {o1 o2 : Option (Str × β)} (h : ∀ x a b, o1 = some (x, a) → o2 = some (x, b) → False) : set1 (set1 f o1) o2 = set1 (set1 f o2) o1 := by
  cases o1 with
  | none => rfl
  | some y =>
    cases o2 with
    | none => rfl
    | some z =>
      have hne : y.1 ≠ z.1 := fun e => h y.1 y.2 z.2 rfl (by rw [e])
      funext x
      show upd (upd f y.1 y.2) z.1 z.2 x = upd (upd f z.1 z.2) y.1 y.2 x
      simp only [upd]
      by_cases h1 : x = z.1
      · by_cases h2 : x = y.1
        · exact absurd (h2.symm.trans h1) hne
        · simp [h1, h2]; intro e; exact absurd e.symm hne
      · simp [h1]
/-- no thing is touched by both, by one of them in writing -/
def apart (a b : Stp) : Prop := ∀ t ∈ a.tch, ∀ u ∈ b.tch, t.1 = u.1 → t.2 = false ∧ u.2 = false
theorem apart_symm {a b : Stp} (h : apart a b) : apart b a := fun t ht u hu e => ⟨(h u hu t ht e.symm).2, (h u hu t ht e.symm).1⟩
theorem agree_after {k1 k2 : Nat} (inv : SInv p st) (hk1 : k1 < p.T.length) (hne : k1 ≠ k2) (e1 : p.ena st k1 = true) (hm2 : (st.t k2).md ≠ .wait) (ha : apart (p.step st k1).2 (p.step st k2).2) : Agree p st (p.step st k1).1 k2 := by
  have wr := dl_writes (p := p) inv (ena_md e1 inv hk1).1
  rw [step_ap inv hk1 e1]
  have no : ∀ x, (p.step st k2).2.tn x → ¬ (x, true) ∈ (p.step st k1).2.tch := fun x ⟨b, hb⟩ h => by
    have := (ha _ h _ hb rfl).1
    cases this
  refine ⟨?_, fun x hx => ?_, fun x hx => ?_, fun x hx => ?_, fun x hx => ?_⟩
  · simp only [Dl.ap]
    rw [upd_ne' (fun e => hne e.symm), if_neg (fun h => hm2 (wr.wk k2 h))]
  · exact set1_ne fun a e => no x hx (wr.v x a e)
  · exact set1_ne fun a e => no x hx (wr.o x a e)
  · exact set1_ne fun a e => no x hx (wr.q x a e)
  · exact set1_ne fun a e => no x hx (wr.w x a e)
theorem ena_ne_wait (inv : SInv p st) (hk : k < p.T.length) (he : p.ena st k = true) : (st.t k).md ≠ .wait := by
  rcases (ena_md he inv hk).1 with h | h <;> rw [h] <;> simp
/-- a step that is not in the way of another leaves it as it is -/
theorem step_behind {k1 k2 : Nat} (inv : SInv p st) (hk1 : k1 < p.T.length) (hk2 : k2 < p.T.length) (hne : k1 ≠ k2) (e1 : p.ena st k1 = true) (e2 : p.ena st k2 = true) (ha : apart (p.step st k1).2 (p.step st k2).2) :
    p.ena (p.step st k1).1 k2 = true ∧ dl p (p.step st k1).1 k2 = dl p st k2 ∧ (p.step (p.step st k1).1 k2).2 = (p.step st k2).2 := by
  have ag := agree_after inv hk1 hne e1 (ena_ne_wait inv hk2 e2) ha
  have hm := (ena_md e2 inv hk2).1
  obtain ⟨h1, h2, h3⟩ := agree_step (p := p) hm (fun _ _ _ => trivial) ag
  refine ⟨?_, h2, h3⟩
  obtain ⟨w2, n2⟩ := ena_of e2
  have h1' : p.hind (p.step st k1).1 k2 = p.hind st k2 := by
    rcases h1 with h | ⟨hw, hn⟩
    · exact h
    · obtain ⟨x, e⟩ := inv.wt k2 hk2 (.inr hw)
      rw [e] at hn; cases hn
  unfold Prog.ena
  rw [h1', n2]
  have : work p (p.step st k1).1 k2 = work p st k2 := by unfold work; rw [ag.t]
  rw [this, w2]; rfl
theorem commute {k1 k2 : Nat} (hp : PW dep p) (inv : SInv p st) (hk1 : k1 < p.T.length) (hk2 : k2 < p.T.length) (hne : k1 ≠ k2) (e1 : p.ena st k1 = true) (e2 : p.ena st k2 = true) (ha : apart (p.step st k1).2 (p.step st k2).2) :
    (p.step (p.step st k1).1 k2).1 = (p.step (p.step st k2).1 k1).1 := by
  obtain ⟨a1, a2, a3⟩ := step_behind inv hk1 hk2 hne e1 e2 ha
  obtain ⟨b1, b2, b3⟩ := step_behind inv hk2 hk1 (Ne.symm hne) e2 e1 (apart_symm ha)
  have i1 := step_inv hp inv hk1 e1
  have i2 := step_inv hp inv hk2 e2
  have w1 := dl_writes (p := p) inv (ena_md e1 inv hk1).1
  have w2 := dl_writes (p := p) inv (ena_md e2 inv hk2).1
  rw [step_ap i1 hk2 a1, step_ap i2 hk1 b1, a2, b2, step_ap inv hk1 e1, step_ap inv hk2 e2]
  have no : ∀ x, (x, true) ∈ (p.step st k1).2.tch → (x, true) ∈ (p.step st k2).2.tch → False := fun x h1 h2 => by
    have := (ha _ h1 _ h2 rfl).1
    cases this
  have n1 : k1 ∉ (dl p st k2).wk := fun h => ena_ne_wait inv hk1 e1 (w2.wk k1 h)
  have n2 : k2 ∉ (dl p st k1).wk := fun h => ena_ne_wait inv hk2 e2 (w1.wk k2 h)
  unfold Dl.ap
  simp only
  rw [set1_comm fun x a b h1 h2 => no x (w1.v x a h1) (w2.v x b h2), set1_comm fun x a b h1 h2 => no x (w1.o x a h1) (w2.o x b h2), set1_comm fun x a b h1 h2 => no x (w1.q x a h1) (w2.q x b h2), set1_comm fun x a b h1 h2 => no x (w1.w x a h1) (w2.w x b h2)]
  congr 1
  funext j
  by_cases j1 : j = k1
  · subst j1
    have : j ≠ k2 := hne
    simp only [upd, if_neg this, if_neg n1, if_true]
  · by_cases j2 : j = k2
    · subst j2
      simp only [upd, if_neg j1, if_neg n2, if_true]
    · simp only [upd, if_neg j1, if_neg j2]
      by_cases m1 : j ∈ (dl p st k1).wk <;> by_cases m2 : j ∈ (dl p st k2).wk <;> simp [m1, m2]
end
/-! T2.lean -/
/-! ### the machine's defs, each over those that it calls -/
def xWT : Fx := f__with_thread f__replaced
def xWM : Fx := f__with_mode xWT
def xWC : Fx := f__with_content f_kind_of f__replaced f_names_of
def xMT : Fx := f__moved_to xWT
def xWR : Fx := f__with_register f__replaced xWT
def xCO : Fx := f_content_of f_kind_of f_names_of
def xOp : Fx := f_operate f__holds f_is_value
def xUV : Fx := f__use_variable f_thing_of xCO xWR xOp xWC
def xUL : Fx := f__use_lock f_thing_of xWC xCO
def xUC : Fx := f__use_condition f_thing_of xCO f_lock_of xWC xWM
def xUQ : Fx := f__use_queue f_thing_of xCO xWC xWR
def xEff : Fx := f__effect f_kind_needed xUV xUL xUC xUQ xWR
def xStep (E : Fx) : Fx := f_make_step (f__take_lock_again f_lock_of xWM xWC xMT) f_expression_of E (f__failed xWT) xEff (f__moved_on xWM xMT) (f__touches f_thing_of f_lock_of)
def xHind (E : Fx) : Fx := f__hindrance f_thing_of f_lock_of xCO (f__is_full xCO) E
def xEn (E : Fx) : Fx := f_enabled f__is_at_work (xHind E)
def xBl (E : Fx) : Fx := f_blocked f__is_at_work (xHind E)
theorem xop : SpOperate xOp := fun sg x y st hc => operate_ok (fun s x y st => holds_ok s x y st) (fun n st => isv_ok n st) sg x y st hc
theorem xeval {dep : Nat} {F : Nat → Fx} (hF : ∀ n, F (n + 1) = f_evaluate (F n) xOp) {m : Nat} (hm : dep ≤ m) : SpEval dep (F (m + 1)) := fun t ρ hw hd hρ s st _ => evaluate_ok (fun s x y st hc => xop s x y st hc) hF hρ m t st hw (Nat.le_trans hd hm)
section
variable {dep : Nat} {p : Prog} (hp : PW dep p) {E : Fx} (he : SpEval dep E)
include hp
theorem xwt : SpWithThread p xWT := sp_with_thread hp.thr sp_replaced
theorem xwm : SpWithMode p xWM := sp_with_mode (xwt hp)
theorem xwc : SpWithContent p xWC := sp_with_content hp.nd hp.few (sp_kind_of hp.nd) sp_replaced (sp_names_of hp.few)
theorem xco : SpContentOf p xCO := sp_content_of hp.nd (sp_kind_of hp.nd) (sp_names_of hp.few)
theorem xmt : SpMovedTo p xMT := sp_moved_to (xwt hp)
theorem xwr : SpWithReg p xWR := sp_with_reg sp_replaced (xwt hp)
theorem xlo : SpLockOf p f_lock_of := sp_lock_of hp.nd hp.few
theorem xeff : SpEffect dep p xEff := sp_effect hp sp_kind_needed (sp_use_var sp_thing_of (xco hp) (xwr hp) xop (xwc hp)) (sp_use_lock sp_thing_of (xwc hp) (xco hp)) (sp_use_cond hp sp_thing_of (xco hp) (xlo hp) (xwc hp) (xwm hp)) (sp_use_queue sp_thing_of (xco hp) (xwc hp) (xwr hp)) (xwr hp)
include he
theorem xstep : SpMakeStep p (xStep E) := sp_make_step hp (sp_again hp (xlo hp) (xwm hp) (xwc hp) (xmt hp)) sp_expr_of he (sp_failed (xwt hp)) (xeff hp) (sp_moved_on (xwm hp) (xmt hp)) (sp_touches sp_thing_of (xlo hp))
theorem xhind : SpHind p (xHind E) := sp_hind hp sp_thing_of (xlo hp) (xco hp) (sp_is_full hp.nd hp.few (xco hp)) he
theorem xen : SpEnabled p (xEn E) := sp_enabled hp sp_work (xhind hp he)
theorem xbl : SpBlocked p (xBl E) := sp_blocked hp sp_work (xhind hp he)
end
/-! Q1.lean -/
/-! ### programs as the laws k36 to k60 draw them -/
def thQ : List Thg := [.lock "m", .var "x" 0, .cond "w" "m", .queue "q" 1, .var "y" 1, .lock "n"]
def goodC (n : Nat) (l : List Ins) : Prop := ∀ I ∈ l, ∀ size, n + l.length ≤ size → I.wf thQ size 1
theorem kn_var : kindNames thQ "var" = [("x" : Str), "y"] := by decide +kernel
theorem kn_lock : kindNames thQ "lock" = [("m" : Str), "n"] := by decide +kernel
theorem kn_cond : kindNames thQ "cond" = [("w" : Str)] := by decide +kernel
theorem kn_queue : kindNames thQ "queue" = [("q" : Str)] := by decide +kernel
def SpPiece (φ : Fx) : Prop := ∀ (v : Int) (n : Nat) (st : Sto), ∃ (m : Nat) (l : List Ins) (st2 : Sto), φ [.int v, .int n] st = some (.loc m, st2) ∧ Ext st st2 ∧ st2[m]? = some (.lst (l.map Ins.d)) ∧ st.length ≤ m ∧ l.length ≤ 5 ∧ goodC n l
def thQD : D := .tup (thQ.map Thg.d)
def SpThings (φ : Fx) : Prop := ∀ st, φ [] st = some (thQD, st)
theorem things_okQ : SpThings f__law_things := fun st => rfl
/-- lists that are made one behind the other -/
def LitQ (σ : Sl) (g : SA) (xss : List (List D)) : Prop := ∀ s : Sto, ∃ (s2 : Sto) (ns : List Nat), g σ s = some (ns.map .loc, s2) ∧ Ext s s2 ∧ ns.length = xss.length ∧ ∀ (i n : Nat) (xs : List D), ns[i]? = some n → xss[i]? = some xs → s2[n]? = some (.lst xs) ∧ s.length ≤ n
theorem litq_nil {σ : Sl} : LitQ σ nilF [] := fun s => ⟨s, [], rfl, Ext.refl, rfl, fun i n xs h => by simp at h⟩
theorem litq_cons {σ : Sl} {g h : SA} {xs : List D} {xss : List (List D)} (hg : ∀ s, g σ s = some (xs, s)) (hl : xs.length ≤ 1000) (hh : LitQ σ h xss) : LitQ σ (consF (lstF g) h) (xs :: xss) := fun s => by
  obtain ⟨s2, ns, e, x, hn, hi⟩ := hh (s ++ [.lst xs])
  have x1 : Ext s (s ++ [OB.lst xs]) := Ext.app _
  refine ⟨s2, s.length :: ns, ?_, x1.trans x, by simp [hn], fun i n ys h1 h2 => ?_⟩
  · have hl2 : xs.length ≤ LIM := by show xs.length ≤ 1000000; omega
    simp only [consF_eq, lstF_eq, hg, bnd_some, if_pos hl2, e]
    rfl
  · cases i with
    | zero =>
      cases h1; cases h2
      exact ⟨x.at (by simp), Nat.le_refl _⟩
    | succ i =>
      have h3 := hi i n ys (by simpa using h1) (by simpa using h2)
      have h4 := h3.2
      rw [List.length_append] at h4
      exact ⟨h3.1, by omega⟩
/-- one of them is taken -/
theorem litq_pick {σ : Sl} {g : SA} {pcs : List (List Ins)} (hg : LitQ σ g (pcs.map fun l => l.map Ins.d)) {N : Nat} (hN : pcs.length = N) (h0 : 0 < N) (h1 : N ≤ 1000) {v : Int} {f : SE} (hf : ∀ (d : D) s, f (σ.set 4 (some d)) s = some (.int (v % (N : Int)), s)) (h4 : 4 < σ.length) (st : Sto) :
    ∃ (m : Nat) (l : List Ins) (s : Sto), seqS (asgS (nmG 4) (lstF g)) (retS (binF ixO (varF 4) f)) σ st = some (.ret (.loc m), s) ∧ Ext st s ∧ l ∈ pcs ∧ s[m]? = some (.lst (l.map Ins.d)) ∧ st.length ≤ m := by
  obtain ⟨s2, ns, e, x, hn, hi⟩ := hg st
  rw [List.length_map, hN] at hn
  have hl : (ns.map D.loc).length ≤ LIM := by rw [List.length_map, hn]; show N ≤ 1000000; omega
  have b0 : 0 ≤ v % (N : Int) := Int.emod_nonneg _ (by omega)
  have b1 : v % (N : Int) < (N : Int) := Int.emod_lt_of_pos _ (by omega)
  obtain ⟨k, hk⟩ : ∃ k : Nat, (k : Int) = v % (N : Int) := ⟨(v % (N : Int)).toNat, by omega⟩
  have hkn : k < ns.length := by omega
  have hp : k < pcs.length := by omega
  have hni : ns[k]? = some ns[k] := List.getElem?_eq_getElem hkn
  obtain ⟨g1, g2⟩ := hi k _ _ hni (by rw [List.getElem?_map, List.getElem?_eq_getElem hp]; rfl)
  refine ⟨ns[k], pcs[k], s2 ++ [.lst (ns.map .loc)], ?_, x.trans (Ext.app _), List.getElem_mem hp, (Ext.app _).at g1, g2⟩
  rw [seq_nx (σ1 := σ.set 4 (some (.loc s2.length))) (st1 := s2 ++ [.lst (ns.map .loc)]) (by rw [asgS_eq, lstF_eq, e, bnd_some, if_pos hl]; rfl)]
  rw [retS_eq, binF_eq, varF_eq, List.getElem?_set_self h4]
  simp only [bnd_some, hf, ixO_loc, new_get, ← hk]
  rw [atI_nat (by rw [List.getElem?_map, hni]; rfl)]
  rfl
theorem litq_wp {σ : Sl} {g : SA} {f : SE} {st : Sto} {Q : R → Sto → Prop} (pcs : List (List Ins)) (N : Nat) (v : Int) (hg : LitQ σ g (pcs.map fun l => l.map Ins.d)) (hN : pcs.length = N) (h0 : 0 < N) (h1 : N ≤ 1000) (hf : ∀ (d : D) s, f (σ.set 4 (some d)) s = some (.int (v % (N : Int)), s)) (h4 : 4 < σ.length)
    (hQ : ∀ (m : Nat) (l : List Ins) (s : Sto), Ext st s → l ∈ pcs → s[m]? = some (.lst (l.map Ins.d)) → st.length ≤ m → Q (.ret (.loc m)) s) : Wp (seqS (asgS (nmG 4) (lstF g)) (retS (binF ixO (varF 4) f)) σ st) Q := by
  obtain ⟨m, l, s, e, x, hl, gm, hm⟩ := litq_pick hg hN h0 h1 hf h4 st
  exact wp_ok e (hQ m l s x hl gm hm)
theorem addO_lstQ {s : Sto} {n m : Nat} {xs ys : List D} (h1 : s[n]? = some (.lst xs)) (h2 : s[m]? = some (.lst ys)) (hl : xs.length + ys.length ≤ 1000000) : addO (.loc n) (.loc m) s = some (.loc s.length, s ++ [.lst (xs ++ ys)]) := by
  simp only [addO, getM_of h1, getM_of h2, LIM, hl, if_true]
/-- what is drawn -/
structure ProgQ (most : Nat) (p : Prog) : Prop where
  S : p.S = thQ
  few : p.T.length ≤ 4
  len : ∀ l ∈ p.T, 1 ≤ l.length ∧ l.length ≤ most
  wf : ∀ l ∈ p.T, ∀ I ∈ l, I.wf thQ l.length 1
theorem ProgQ.pw {most : Nat} {p : Prog} (h : ProgQ most p) (hm : most ≤ 100) : PW 1 p where
  nd := by rw [h.S]; decide +kernel
  few := by rw [h.S]; decide
  ok := by
    rw [h.S]
    intro x hx
    simp only [thQ, List.mem_cons, List.not_mem_nil, or_false] at hx
    rcases hx with rfl | rfl | rfl | rfl | rfl | rfl
    · trivial
    · exact ⟨by decide, by decide⟩
    · show _ ∈ locksOf thQ; decide +kernel
    · exact ⟨by decide, by decide⟩
    · exact ⟨by decide, by decide⟩
    · trivial
  thr := by have := h.few; omega
  len := fun l hl => ⟨(h.len l hl).1, by have := (h.len l hl).2; omega⟩
  wf := by rw [h.S]; exact h.wf
theorem ProgQ.sg {most : Nat} {p : Prog} (h : ProgQ most p) : ∀ kd x, x ∈ p.nm kd → PyData.strOk x = true := by
  intro kd x hx
  obtain ⟨t, ht, e, _⟩ := mem_nm.mp hx
  rw [h.S] at ht
  have k : ∀ t ∈ thQ, PyData.strOk t.name = true := by
    intro t ht
    simp only [thQ, List.mem_cons, List.not_mem_nil, or_false] at ht
    rcases ht with rfl | rfl | rfl | rfl | rfl | rfl <;> decide +kernel
  rw [← e]; exact k t ht
theorem good_app {n m : Nat} {c l : List Ins} (hc : goodC n c) (hl : goodC (n + c.length) l) (hm : m = n) : goodC m (c ++ l) := by
  subst hm
  intro I hI size hs
  rw [List.length_append] at hs
  rcases List.mem_append.mp hI with h | h
  · exact hc I h size (by omega)
  · exact hl I h size (by omega)
theorem program_okQ {pad cell piece things : Fx} (hcl : CellOk cell) (hpd : PadOk pad) (hpc : SpPiece piece) (hth : SpThings things) {st : Sto} {n m : Nat} {ns : List Int} (hn : getL st n = some (ns.map .int)) {sz : List Nat} (hm : getL st m = some (sz.map natD)) (hz : sz.length ≤ 4) {most : Nat} (hb : ∀ s ∈ sz, 1 ≤ s ∧ s ≤ most) (hmost : most ≤ 100) :
    ∃ (p : Prog) (st2 : Sto), f__law_program pad cell piece things [.loc n, .loc m] st = some (p.d, st2) ∧ Ext st st2 ∧ ProgQ most p := by
  suffices q : ∃ d s, f__law_program pad cell piece things [.loc n, .loc m] st = some (d, s) ∧ ∃ p : Prog, d = p.d ∧ Ext st s ∧ ProgQ most p by
    obtain ⟨d, s, e, p, rfl, r⟩ := q
    exact ⟨p, s, e, r⟩
  refine wp_run rfl ?_
  unfold b__law_program
  have hsl : List.map some [D.loc n, D.loc m] ++ List.replicate (8 - 2) none = [some (.loc n), some (.loc m), none, none, none, none, none, none] := rfl
  rw [hsl]
  skip
  refine wp_nx (σ1 := [some (.loc n), some (.loc m), some (.loc st.length), none, none, none, none, none]) (st1 := st ++ [.lst []]) (by simp) ?_
  have x0 : Ext st (st ++ [OB.lst []]) := Ext.app _
  have hlen : (sz.map natD).length = sz.length := List.length_map _
  have hL : ON (st ++ [OB.lst []]) lenO [.loc m] (.int sz.length) := hlen ▸ o_lenL (x0.getL hm)
  refine wp_seq (wp_forR (v := sz.length) (fun k σ s => ∃ (T : List (List Ins)) (x3 x4 x5 x6 x7 : Option D), σ = [some (.loc n), some (.loc m), some (.loc st.length), x3, x4, x5, x6, x7] ∧ Ext st s ∧ s[st.length]? = some (.lst (T.map thrD)) ∧ T.length = k ∧ (∀ l ∈ T, 1 ≤ l.length ∧ l.length ≤ most) ∧ ∀ l ∈ T, goodC 0 l)
    (Ea.cons (Ev.app (Ea.cons (Ev.var rfl) Ea.nil) hL) Ea.nil) (by omega) (fun s1 x1 => ⟨[], _, _, _, _, _, rfl, x0.trans x1, x1.at (by simp), rfl, by simp, by simp⟩) ?_ ?_)
  · rintro k σ s hk ⟨T, x3, x4, x5, x6, x7, rfl, xs, g, hT, hTl, hTg⟩
    refine ⟨_, rfl, ?_⟩
    have e1 := hcl s n ns (xs.getL hn) k
    obtain ⟨ds, hds, e2⟩ := hpd (ns.getD k 0) k s
    have hsl2 : st.length < s.length := (List.getElem?_eq_some_iff.mp g).1
    refine wp_nx (σ1 := [some (.loc n), some (.loc m), some (.loc st.length), some (.int (k : Nat)), some (.loc s.length), x5, x6, x7]) (st1 := s ++ [.lst (ds.map .int)]) (by simp only [asgS_eq, callF_eq, consF_eq, nilF_eq, varF_eq, bnd_some, List.getElem?_cons_zero, List.getElem?_cons_succ, List.set_cons_succ, List.set_cons_zero, e1, e2]; rfl) ?_
    have xa : Ext s (s ++ [OB.lst (ds.map .int)]) := Ext.app _
    have gd : getL (s ++ [OB.lst (ds.map .int)]) s.length = some (ds.map .int) := new_get _ _
    generalize s ++ [OB.lst (ds.map .int)] = s1 at xa gd
    refine wp_nx (σ1 := [some (.loc n), some (.loc m), some (.loc st.length), some (.int (k : Nat)), some (.loc s.length), some (.loc s1.length), x6, x7]) (st1 := s1 ++ [.lst []]) (by simp) ?_
    have xb : Ext s1 (s1 ++ [OB.lst []]) := Ext.app _
    have hszk : k < sz.length := hk
    have gsz : (sz.map natD)[k]? = some (natD sz[k]) := by rw [List.getElem?_map, List.getElem?_eq_getElem hszk]; rfl
    have hbk := hb sz[k] (List.getElem_mem hszk)
    generalize sz[k] = z at gsz hbk
    refine wp_seq (wp_forR (v := 3) (fun j σ s2 => ∃ (c : List Ins) (u : Nat) (x6 x7 : Option D), σ = [some (.loc n), some (.loc m), some (.loc st.length), some (.int (k : Nat)), some (.loc s.length), some (.loc u), x6, x7] ∧ Ext s1 s2 ∧ s2[u]? = some (.lst (c.map Ins.d)) ∧ c.length ≤ z ∧ goodC 0 c)
      (Ea.cons Ev.cst Ea.nil) (by decide) (fun s2 x2 => ⟨[], _, _, _, rfl, xb.trans x2, x2.at (by simp), by simp, fun I h => (by cases h)⟩) ?_ ?_)
    · rintro j σ s2 hj ⟨c, u, x6, x7, rfl, x2, gu, cl, cg⟩
      refine ⟨_, rfl, ?_⟩
      have gd2 := x2.getL gd
      have hjd : j < ds.length := by omega
      have hcl' : (c.map Ins.d).length = c.length := List.length_map _
      obtain ⟨pm, l, s3, e3, x3', gl, _, ll, lg⟩ := hpc ds[j] c.length s2
      have h3 : ∀ s', Ext s2 s' → True := fun _ _ => trivial
      have i3 : ixO (.loc s.length) (.int (j : Nat)) s2 = some (.int ds[j], s2) := by
        rw [ixO_loc, gd2]
        simp only
        rw [atI_nat (by rw [List.getElem?_map, List.getElem?_eq_getElem hjd]; rfl)]
        rfl
      have l3 : lenO [.loc u] s2 = some (.int (c.length : Nat), s2) := by rw [lenO_loc, getL_of gu]; simp only [Option.map_some, hcl']
      refine wp_nx (σ1 := [some (.loc n), some (.loc m), some (.loc st.length), some (.int (k : Nat)), some (.loc s.length), some (.loc u), some (.int (j : Nat)), some (.loc pm)]) (st1 := s3) (by
        simp only [asgS_eq, callF_eq, consF_eq, nilF_eq, binF_eq, appF_eq, varF_eq, bnd_some, List.getElem?_cons_zero, List.getElem?_cons_succ, List.set_cons_succ, List.set_cons_zero, i3, l3, e3]; rfl) ?_
      have gu3 := x3'.at gu
      have xm3 : getL s3 m = some (sz.map natD) := (((xs.trans xa).trans x2).trans x3').getL hm
      have o1 : ON s3 lenO [.loc u] (.int c.length) := hcl' ▸ o_lenL (getL_of gu3)
      have hll' : (l.map Ins.d).length = l.length := List.length_map _
      have o2' : ON s3 lenO [.loc pm] (.int l.length) := hll' ▸ o_lenL (getL_of gl)
      have o3 : O2 s3 ixO (.loc m) (.int k) (natD z) := o_ixL xm3 gsz
      refine wp_ifE (b := decide ((c.length : Int) + (l.length : Int) ≤ (z : Int))) (Et.cmp (x := .int ((c.length : Int) + (l.length : Int))) (y := .int (z : Int)) (Ev.bin (Ev.app (Ea.cons (Ev.var rfl) Ea.nil) o1) (Ev.app (Ea.cons (Ev.var rfl) Ea.nil) o2') o_add) (Ev.bin (Ev.var rfl) (Ev.var rfl) o3) o_le) (fun h s4 x4 => ?_) (fun h s4 x4 => ?_)
      · have hle := of_decide_eq_true h
        have ad := addO_lstQ (x4.at gu3) (x4.at gl) (by rw [hcl', hll']; omega)
        rw [← List.map_append] at ad
        refine wp_ok (r := .nx [some (.loc n), some (.loc m), some (.loc st.length), some (.int (k : Nat)), some (.loc s.length), some (.loc s4.length), some (.int (j : Nat)), some (.loc pm)]) (st := s4 ++ [.lst ((c ++ l).map Ins.d)]) (by
          simp only [asgS_eq, binF_eq, varF_eq, bnd_some, List.getElem?_cons_zero, List.getElem?_cons_succ, ad]; rfl) ?_
        exact ⟨c ++ l, _, _, _, rfl, (((x2.trans x3').trans x4).trans (Ext.app _)), by simp, by simp; omega, good_app cg (by simpa using lg) rfl⟩
      · exact wp_skip ⟨c, u, _, _, rfl, (x2.trans x3').trans x4, x4.at gu3, cl, cg⟩
    · rintro σ s2 ⟨c, u, x6, x7, rfl, x2, gu, cl, cg⟩
      have hcl' : (c.map Ins.d).length = c.length := List.length_map _
      have o1 : ON s2 lenO [.loc u] (.int c.length) := hcl' ▸ o_lenL (getL_of gu)
      have hx := (xs.trans xa).trans x2
      have gT := (xa.trans x2).at g
      -- the code is put behind the others
      have fin : ∀ (c : List Ins) (u : Nat) (s3 : Sto), Ext s2 s3 → s3[u]? = some (.lst (c.map Ins.d)) → 1 ≤ c.length → c.length ≤ z → goodC 0 c → Wp (exS (bmF "list" appendO (varF 2) (consF (appF tupleO (consF (varF 5) nilF)) nilF)) [some (.loc n), some (.loc m), some (.loc st.length), some (.int (k : Nat)), some (.loc s.length), some (.loc u), x6, x7] s3) fun r s => match r with
          | .nx σ2 => ∃ (T : List (List Ins)) (x3 x4 x5 x6 x7 : Option D), σ2 = [some (.loc n), some (.loc m), some (.loc st.length), x3, x4, x5, x6, x7] ∧ Ext st s ∧ s[st.length]? = some (.lst (T.map thrD)) ∧ T.length = k + 1 ∧ (∀ l ∈ T, 1 ≤ l.length ∧ l.length ≤ most) ∧ ∀ l ∈ T, goodC 0 l
          | .cnt σ2 => ∃ (T : List (List Ins)) (x3 x4 x5 x6 x7 : Option D), σ2 = [some (.loc n), some (.loc m), some (.loc st.length), x3, x4, x5, x6, x7] ∧ Ext st s ∧ s[st.length]? = some (.lst (T.map thrD)) ∧ T.length = k + 1 ∧ (∀ l ∈ T, 1 ≤ l.length ∧ l.length ≤ most) ∧ ∀ l ∈ T, goodC 0 l
          | .brk _ => False
          | .ret _ => False := by
        intro c u s3 x3 gc c1 c2 c3
        have gT3 := x3.at gT
        refine wp_pushE (d := thrD c) rfl (Ev.app (Ea.cons (Ev.var rfl) Ea.nil) (o_tupleL (getL_of gc))) gT3 (by rw [List.length_map]; omega) (fun s4 x4 g4 => ?_)
        have hl4 := (List.getElem?_eq_some_iff.mp g4).1
        refine ⟨T ++ [c], _, _, _, _, _, rfl, ((hx.trans x3).trans x4).set (Nat.le_refl _), ?_, by simp [hT], fun l hl => ?_, fun l hl => ?_⟩
        · rw [List.getElem?_set_self hl4]; simp
        · rcases List.mem_append.mp hl with h | h
          · exact hTl l h
          · rw [List.mem_singleton.mp h]; exact ⟨c1, by omega⟩
        · rcases List.mem_append.mp hl with h | h
          · exact hTg l h
          · rw [List.mem_singleton.mp h]; exact c3
      refine wp_seq (wp_ifE (b := decide ((c.length : Int) = 0)) (Et.cmp (Ev.app (Ea.cons (Ev.var rfl) Ea.nil) o1) Ev.cst o_eqii) (fun h s3 x3 => ?_) (fun h s3 x3 => ?_))
      · refine wp_ok (r := .nx [some (.loc n), some (.loc m), some (.loc st.length), some (.int (k : Nat)), some (.loc s.length), some (.loc s3.length), x6, x7]) (st := s3 ++ [.lst [(Ins.get 0 "x").d]]) (by rfl) ?_
        refine wp_mono (fin [.get 0 "x"] s3.length (s3 ++ [.lst [(Ins.get 0 "x").d]]) (x3.trans (Ext.app _)) (by simp) (by simp) (by simp; omega) (fun I hI size _ => ?_)) (fun r s hr => ?_)
        · simp only [List.mem_singleton] at hI
          subst hI
          exact ⟨by decide, by rw [kn_var]; decide +kernel⟩
        · cases r with
          | nx σ => exact hr
          | cnt σ => exact hr
          | brk σ => exact hr.elim
          | ret d => exact hr.elim
      · have h0 := of_decide_eq_false h
        refine wp_skip ?_
        refine wp_mono (fin c u s3 x3 (x3.at gu) (by omega) cl cg) (fun r s hr => ?_)
        cases r with
        | nx σ => exact hr
        | cnt σ => exact hr
        | brk σ => exact hr.elim
        | ret d => exact hr.elim
  · rintro σ s ⟨T, x3, x4, x5, x6, x7, rfl, xs, g, hT, hTl, hTg⟩
    have ot : ON s tupleO [.loc st.length] (.tup (T.map thrD)) := o_tupleL (getL_of g)
    refine wp_retE (d := Prog.d ⟨thQ, T⟩) (Ev.tup (Ea.cons (Ev.call Ea.nil (fun st' _ => ⟨st', hth st', Ext.refl⟩)) (Ea.cons (Ev.app (Ea.cons (Ev.var rfl) Ea.nil) ot) Ea.nil)) rfl) (fun s2 x2 => ⟨⟨thQ, T⟩, rfl, xs.trans x2, rfl, by show T.length ≤ 4; omega, hTl, fun l hl I hI => hTg l hl I hI l.length (by omega)⟩)
/-! T4.lean -/
/-! ### what Python's == says of steps, whether a thread is enabled -/
theorem eqO_self {d : D} {k : Nat} {q : PyData} (neg : Bool) (h : Pu k d q) (hk : k ≤ 64) (he : PyData.eqv q q = true) (hn : eqS d d = none) (st : Sto) : eqO neg d d st = some (.bl (true != neg), st) := by
  have e1 := h.1 st 60
  unfold eqO
  simp only [hn]
  rw [e1]
  simp only [pu_shaped h hk, and_self, if_true, he]
def tP (t : Str × Bool) : PyData := .tuple [.str t.1, .bool t.2]
theorem pu_bool {b : Bool} {k : Nat} : Pu k (.bl b) (.bool b) := ⟨fun st n => by simp only [py], by simp only [PyData.canLay0], by simp only [PyData.depth]; omega⟩
theorem pu_tD {t : Str × Bool} (h : PyData.strOk t.1 = true) : Pu 1 (tD t) (tP t) := pu_tup (pus_cons (pu_str h) (pus_cons pu_bool pus_nil))
def wdP : Option Str → PyData
  | none => .none
  | some x => .str x
theorem pu_oS {o : Option Str} (h : ∀ x, o = some x → PyData.strOk x = true) {k : Nat} : Pu k (oS o) (wdP o) := by
  cases o with
  | none => exact pu_non
  | some x => exact pu_str (h x rfl)
def Stp.p (a : Stp) (o : Option Str) : PyData := .tuple [.int a.th, .int a.pc, .tuple (a.tch.map tP), wdP o]
theorem pu_stp {a : Stp} {o : Option Str} (ho : a.word = oS o) (h1 : ∀ t ∈ a.tch, PyData.strOk t.1 = true) (h2 : ∀ x, o = some x → PyData.strOk x = true) : Pu 3 a.d (a.p o) := by
  unfold Stp.d Stp.p
  rw [ho]
  exact pu_tup (pus_cons pu_int (pus_cons pu_int (pus_cons (pu_tup (pus_map fun t ht => pu_tD (h1 t ht))) (pus_cons (pu_oS h2) pus_nil))))
theorem eqv_all {α : Type} {f : α → PyData} (h : ∀ x, PyData.eqv (f x) (f x) = true) : ∀ l : List α, PyData.eqvAll (l.map f) (l.map f) = true
  | [] => by simp [PyData.eqvAll]
  | x :: l => by rw [List.map_cons, PyData.eqvAll, h x, eqv_all h l]; rfl
theorem eqv_tP (t : Str × Bool) : PyData.eqv (tP t) (tP t) = true := by simp [tP, PyData.eqv, PyData.eqvAll]
theorem eqv_stp (a : Stp) (o : Option Str) : PyData.eqv (a.p o) (a.p o) = true := by
  have := eqv_all eqv_tP a.tch
  cases o <;> simp [Stp.p, wdP, PyData.eqv, PyData.eqvAll, this]
/-- a step's word, its names -/
structure StpOk (a : Stp) : Prop where
  wd : ∃ o, a.word = oS o ∧ ∀ x, o = some x → PyData.strOk x = true
  sg : ∀ t ∈ a.tch, PyData.strOk t.1 = true
theorem eq_stp {a : Stp} (h : StpOk a) {s : Sto} : O2 s (eqO true) a.d a.d (.bl false) := .pure fun st => by
  obtain ⟨o, ho, h2⟩ := h.wd
  exact eqO_self true (pu_stp ho h.sg h2) (by omega) (eqv_stp a o) rfl st
section
variable {dep : Nat} {p : Prog} {st : Sta} {k : Nat}
theorem touch_nm (hp : PW dep p) {n : Nat} {I : Ins} (wf : I.wf p.S n dep) : ∀ t ∈ touch p I, ∃ kd, t.1 ∈ p.nm kd := by
  intro t ht
  cases I with
  | wait x =>
    simp only [touch, List.mem_cons, List.not_mem_nil, or_false] at ht
    rcases ht with rfl | rfl
    · exact ⟨.lock, lk_lock hp wf⟩
    · exact ⟨.cond, wf⟩
  | get r x => simp only [touch, List.mem_singleton] at ht; subst ht; exact ⟨.var, wf.2⟩
  | put x t' => simp only [touch, Ins.nm, List.mem_singleton] at ht; subst ht; exact ⟨.var, wf.1⟩
  | add x t' => simp only [touch, Ins.nm, List.mem_singleton] at ht; subst ht; exact ⟨.var, wf.1⟩
  | lock x => simp only [touch, Ins.nm, List.mem_singleton] at ht; subst ht; exact ⟨.lock, wf⟩
  | unlock x => simp only [touch, Ins.nm, List.mem_singleton] at ht; subst ht; exact ⟨.lock, wf⟩
  | notify x => simp only [touch, Ins.nm, List.mem_singleton] at ht; subst ht; exact ⟨.cond, wf⟩
  | notifyall x => simp only [touch, Ins.nm, List.mem_singleton] at ht; subst ht; exact ⟨.cond, wf⟩
  | send x t' => simp only [touch, Ins.nm, List.mem_singleton] at ht; subst ht; exact ⟨.queue, wf.1⟩
  | take r x => simp only [touch, Ins.nm, List.mem_singleton] at ht; subst ht; exact ⟨.queue, wf.2⟩
  | _ => simp [touch, Ins.nm] at ht
theorem touch_len (I : Ins) : (touch p I).length ≤ 2 := by cases I <;> simp [touch, Ins.nm]
theorem eff_word (v : Int) (I : Ins) : ∀ x, (p.eff st k v I).2 = some x → PyData.strOk x = true := by
  intro x h
  cases I with
  | add y t => simp only [Prog.eff] at h; split at h <;> cases h; decide +kernel
  | unlock y => simp only [Prog.eff] at h; split at h <;> cases h; decide +kernel
  | wait y => simp only [Prog.eff] at h; split at h <;> cases h; decide +kernel
  | check t => simp only [Prog.eff] at h; split at h <;> cases h; decide +kernel
  | _ => cases h
/-- a step is one of thread k at its place, with at most two touches, of things of the program -/
theorem step_shape (hp : PW dep p) (inv : SInv p st) (hk : k < p.T.length) (he : p.ena st k = true) : (p.step st k).2.th = (k : Int) ∧ (p.step st k).2.pc = ((st.t k).pc : Int) ∧ (p.step st k).2.tch.length ≤ 2 ∧ (∀ t ∈ (p.step st k).2.tch, ∃ kd, t.1 ∈ p.nm kd) ∧ ∃ o, (p.step st k).2.word = oS o ∧ ∀ x, o = some x → PyData.strOk x = true := by
  obtain ⟨hmd, hpc⟩ := ena_md he inv hk
  have wf := ins_wf hp hk hpc
  by_cases hw : (st.t k).md = .woken
  · rw [tch_woken hw]
    obtain ⟨c, hI⟩ := inv.wt k hk (.inr hw)
    rw [hI] at wf
    refine ⟨rfl, rfl, by simp, fun t ht => ?_, none, rfl, fun x h => by cases h⟩
    simp only [hI, Ins.nm, Option.getD_some, List.mem_cons, List.not_mem_nil, or_false] at ht
    rcases ht with rfl | rfl
    · exact ⟨.lock, lk_lock hp wf⟩
    · exact ⟨.cond, wf⟩
  · by_cases hb : (p.ins k (st.t k).pc).bad (st.t k).rg = true
    · rw [tch_bad hw hb]
      exact ⟨rfl, rfl, by simp, fun t ht => (by cases ht), some "range", rfl, fun x h => by cases h; decide +kernel⟩
    · rw [tch_run hw hb]
      exact ⟨rfl, rfl, touch_len _, touch_nm hp wf, _, rfl, eff_word _ _⟩
theorem step_ok (hp : PW dep p) (hsg : ∀ kd x, x ∈ p.nm kd → PyData.strOk x = true) (inv : SInv p st) (hk : k < p.T.length) (he : p.ena st k = true) : StpOk (p.step st k).2 := by
  obtain ⟨_, _, _, h4, h5⟩ := step_shape hp inv hk he
  exact ⟨h5, fun t ht => by obtain ⟨kd, h⟩ := h4 t ht; exact hsg kd _ h⟩
end
theorem all_sc : ∀ l : List Nat, (l.map natD).all scalD = true
  | [] => rfl
  | x :: l => by rw [List.map_cons, List.all_cons, all_sc l]; rfl
theorem inF_nat (i : Nat) : ∀ l : List Nat, inF (.int i) (l.map natD) = decide (i ∈ l)
  | [] => rfl
  | x :: l => by
    have ih := inF_nat i l
    unfold inF at ih ⊢
    have e : eqF (natD x) (.int i) = decide (x = i) := by
      by_cases h : x = i
      · subst h; simp [eqF, natD]
      · have : ¬ (x : Int) = (i : Int) := by omega
        simp [eqF, natD, this, h]
    rw [List.map_cons, List.any_cons, ih, e]
    by_cases h : x = i
    · subst h; simp
    · have : ¬ i = x := fun e => h e.symm
      simp [h, this]
theorem o_inN {i : Nat} {l : List Nat} {s : Sto} : O2 s (inO false) (.int i) (.tup (l.map natD)) (.bl (decide (i ∈ l))) := .pure fun st => by
  show (if scalD (.int i) = true ∧ (l.map natD).all scalD = true then some (D.bl (inF (.int i) (l.map natD) != false), st) else none) = _
  rw [if_pos ⟨rfl, all_sc l⟩, inF_nat, Bool.bne_false]
theorem o_ninN {i : Nat} {l : List Nat} {s : Sto} : O2 s (inO true) (.int i) (.tup (l.map natD)) (.bl (!decide (i ∈ l))) := .pure fun st => by
  show (if scalD (.int i) = true ∧ (l.map natD).all scalD = true then some (D.bl (inF (.int i) (l.map natD) != true), st) else none) = _
  rw [if_pos ⟨rfl, all_sc l⟩, inF_nat, Bool.bne_true]
theorem o_st0 {a : Stp} {s : Sto} : O2 s ixO a.d (.int 0) (.int a.th) := o_ix0
theorem o_st1 {a : Stp} {s : Sto} : O2 s ixO a.d (.int 1) (.int a.pc) := o_ix1
theorem o_st2 {a : Stp} {s : Sto} : O2 s ixO a.d (.int 2) (tchD a.tch) := o_ix2
theorem o_st3 {a : Stp} {s : Sto} : O2 s ixO a.d (.int 3) a.word := o_ix3
theorem o_tD0 {t : Str × Bool} {s : Sto} : O2 s ixO (tD t) (.int 0) (.str t.1) := o_ix0
theorem o_tD1 {t : Str × Bool} {s : Sto} : O2 s ixO (tD t) (.int 1) (.bl t.2) := o_ix1
/-! R1.lean -/
/-! ### runs -/
def runS (p : Prog) : Sta → List Nat → Sta
  | st, [] => st
  | st, k :: l => runS p (p.step st k).1 l
def runL (p : Prog) : Sta → List Nat → List Stp
  | _, [] => []
  | st, k :: l => (p.step st k).2 :: runL p (p.step st k).1 l
/-- the states before each step -/
def runB (p : Prog) : Sta → List Nat → List Sta
  | _, [] => []
  | st, k :: l => st :: runB p (p.step st k).1 l
def okR (p : Prog) : Sta → List Nat → Prop
  | _, [] => True
  | st, k :: l => k < p.T.length ∧ p.ena st k = true ∧ okR p (p.step st k).1 l
section
variable {dep : Nat} {p : Prog}
theorem runS_app : ∀ (l : List Nat) (st : Sta) (m : List Nat), runS p st (l ++ m) = runS p (runS p st l) m
  | [], _, _ => rfl
  | k :: l, st, m => runS_app l _ m
theorem runL_app : ∀ (l : List Nat) (st : Sta) (m : List Nat), runL p st (l ++ m) = runL p st l ++ runL p (runS p st l) m
  | [], _, _ => rfl
  | k :: l, st, m => by
    show _ :: runL p _ (l ++ m) = _
    rw [runL_app l]; rfl
theorem runB_app : ∀ (l : List Nat) (st : Sta) (m : List Nat), runB p st (l ++ m) = runB p st l ++ runB p (runS p st l) m
  | [], _, _ => rfl
  | k :: l, st, m => by
    show _ :: runB p _ (l ++ m) = _
    rw [runB_app l]; rfl
theorem okR_app : ∀ (l : List Nat) (st : Sta) (m : List Nat), okR p st (l ++ m) ↔ okR p st l ∧ okR p (runS p st l) m
  | [], st, m => by simp [okR, runS]
  | k :: l, st, m => by
    show (k < p.T.length ∧ p.ena st k = true ∧ okR p (p.step st k).1 (l ++ m)) ↔ _
    rw [okR_app l]
    simp only [okR, runS, and_assoc]
theorem runL_len : ∀ (l : List Nat) (st : Sta), (runL p st l).length = l.length
  | [], _ => rfl
  | k :: l, st => by simp [runL, runL_len l]
theorem runB_len : ∀ (l : List Nat) (st : Sta), (runB p st l).length = l.length
  | [], _ => rfl
  | k :: l, st => by simp [runB, runB_len l]
theorem run_inv (hp : PW dep p) : ∀ (l : List Nat) {st : Sta}, SInv p st → okR p st l → SInv p (runS p st l)
  | [], _, h, _ => h
  | k :: l, st, h, ⟨h1, h2, h3⟩ => run_inv hp l (step_inv hp h h1 h2) h3
/-- each step of a run is the step of an enabled thread -/
theorem run_each (hp : PW dep p) : ∀ (l : List Nat) {st : Sta}, SInv p st → okR p st l → ∀ a ∈ runL p st l, ∃ (s2 : Sta) (k : Nat), SInv p s2 ∧ k < p.T.length ∧ p.ena s2 k = true ∧ a = (p.step s2 k).2
  | [], _, _, _, a, ha => (by cases ha)
  | k :: l, st, h, ⟨h1, h2, h3⟩, a, ha => by
    rcases List.mem_cons.mp ha with rfl | ha
    · exact ⟨st, k, h, h1, h2, rfl⟩
    · exact run_each hp l (step_inv hp h h1 h2) h3 a ha
theorem okR_take {st : Sta} {l : List Nat} (n : Nat) (h : okR p st l) : okR p st (l.take n) := by
  rw [← List.take_append_drop n l, okR_app] at h
  exact h.1
end
theorem enumD_atQ {xs : List D} {i : Nat} {d : D} (h : (enumD 0 xs)[i]? = some d) : ∃ x, xs[i]? = some x ∧ d = .tup [.int (i : Int), x] := by
  rw [enumD_get] at h
  cases e : xs[i]? with
  | none => rw [e] at h; cases h
  | some x =>
    rw [e] at h
    cases h
    exact ⟨x, rfl, by rw [Nat.zero_add]⟩
theorem enumD_lenQ (xs : List D) : ∀ n, (enumD n xs).length = xs.length := by
  induction xs with
  | nil => intro n; rfl
  | cons x xs ih => intro n; show (enumD (n + 1) xs).length + 1 = _; rw [ih]; rfl
theorem at_last {α : Type} (l : List α) (x : α) : atI (l ++ [x]) (-1) = some x := by
  unfold atI ixN
  rw [if_neg (by omega), if_pos (by rw [List.length_append, List.length_singleton]; omega)]
  show (l ++ [x])[((-1 : Int) + ((l ++ [x]).length : Nat)).toNat]? = some x
  have : ((-1 : Int) + ((l ++ [x]).length : Nat)).toNat = l.length := by rw [List.length_append, List.length_singleton]; omega
  rw [this]
  simp
theorem o_neg1 {s : Sto} : O1 s negO (.int 1) (.int (-1)) := .pure fun _ => rfl
theorem o_lastL {s : Sto} {n : Nat} {l : List D} {d : D} (g : getL s n = some (l ++ [d])) : O2 s ixO (.loc n) (.int (-1)) d := fun st e => ⟨st, by rw [ixO_loc, e.getL g]; simp only [at_last, Option.map_some], Ext.refl⟩
theorem ena_mem {p : Prog} {st : Sta} {k : Nat} : k ∈ p.enL st ↔ k < p.T.length ∧ p.ena st k = true := by
  unfold Prog.enL
  rw [List.mem_filter, List.mem_range]
/-! Q2.lean -/
theorem nst_nat (l : List Nat) : nst (l.map natD) = false := nst_of natD_nostr
/-- a walk that is drawn -/
theorem walk_okQ {dep : Nat} {p : Prog} (hp : PW dep p) {pf pe cell pm : Fx} (hf : SpFirst p pf) (hen : SpEnabled p pe) (hcl : CellOk cell) (hms : SpMakeStep p pm) {st : Sto} {n : Nat} {ns : List Int} (hn : getL st n = some (ns.map .int)) (first most : Nat) (hmost : most ≤ 1000) :
    ∃ (sch : List Nat) (st2 : Sto), f__law_walk pf pe cell pm [p.d, .loc n, .int (first : Nat), .int (most : Nat)] st = some (.tup (sch.map natD), st2) ∧ Ext st st2 ∧ okR p p.first sch ∧ sch.length ≤ most := by
  suffices q : ∃ d s, f__law_walk pf pe cell pm [p.d, .loc n, .int (first : Nat), .int (most : Nat)] st = some (d, s) ∧ ∃ sch : List Nat, d = .tup (sch.map natD) ∧ Ext st s ∧ okR p p.first sch ∧ sch.length ≤ most by
    obtain ⟨d, s, e, sch, rfl, r⟩ := q
    exact ⟨sch, s, e, r⟩
  refine wp_run rfl ?_
  unfold b__law_walk
  have hsl : List.map some [p.d, .loc n, .int (first : Nat), .int (most : Nat)] ++ List.replicate (9 - 4) none = [some p.d, some (.loc n), some (.int (first : Nat)), some (.int (most : Nat)), none, none, none, none, none] := rfl
  rw [hsl]
  refine wp_asE (Ev.call (xs := [p.d]) (Ea.cons (Ev.var rfl) Ea.nil) (hf st)) (fun s1 x1 => ?_)
  refine wp_asE (Ev.tup Ea.nil rfl) (fun s2 x2 => ?_)
  refine wp_seq (wp_forR (v := most) (fun i σ s => ∃ (sch : List Nat) (x6 x7 x8 : Option D), σ = [some p.d, some (.loc n), some (.int (first : Nat)), some (.int (most : Nat)), some ((runS p p.first sch).d p), some (.tup (sch.map natD)), x6, x7, x8] ∧ Ext st s ∧ okR p p.first sch ∧ sch.length ≤ i)
    (Ea.cons (Ev.var rfl) Ea.nil) (by omega) (fun s3 x3 => ⟨[], _, _, _, rfl, (x1.trans x2).trans x3, trivial, Nat.le_refl _⟩) ?_ ?_)
  · rintro i σ s hi ⟨sch, x6, x7, x8, rfl, xs, ok, ll⟩
    refine ⟨_, rfl, ?_⟩
    have inv := run_inv hp sch (first_inv hp) ok
    have hlen : ((p.enL (runS p p.first sch)).map natD).length = (p.enL (runS p p.first sch)).length := List.length_map _
    refine wp_asE (Ev.call (xs := [p.d, (runS p p.first sch).d p]) (Ea.cons (Ev.var rfl) (Ea.cons (Ev.var rfl) Ea.nil)) (hen _ inv s)) (fun s1 x1 => ?_)
    have ol : ON s1 lenO [.tup ((p.enL (runS p p.first sch)).map natD)] (.int (p.enL (runS p p.first sch)).length) := hlen ▸ o_len
    refine wp_ifE (b := decide ((0 : Int) < ((p.enL (runS p p.first sch)).length : Int))) (Et.cmp (Ev.app (Ea.cons (Ev.var rfl) Ea.nil) ol) Ev.cst o_gt) (fun h s2 x2 => ?_) (fun h s2 x2 => ?_)
    · have h0 : 0 < (p.enL (runS p p.first sch)).length := by have := of_decide_eq_true h; omega
      have xs2 := (xs.trans x1).trans x2
      have hmem : ∀ k ∈ p.enL (runS p p.first sch), k < p.T.length ∧ p.ena (runS p p.first sch) k = true := fun k hk => ena_mem.mp hk
      generalize hL : p.enL (runS p p.first sch) = L at *
      have hc : ∀ k : Nat, Rt s2 cell [.loc n, .int k] (.int (ns.getD k 0)) := fun k st' e => ⟨st', hcl st' n ns (e.getL (xs2.getL hn)) k, Ext.refl⟩
      have hc' : Rt s2 cell [.loc n, .int ((first : Int) + (i : Int))] (.int (ns.getD (first + i) 0)) := hc (first + i)
      have cp : cPos (ns.getD (first + i) 0) (L.length : Int) = true := by unfold cPos; exact decide_eq_true (by omega)
      have b0 : 0 ≤ ns.getD (first + i) 0 % (L.length : Int) := Int.emod_nonneg _ (by omega)
      have b1 : ns.getD (first + i) 0 % (L.length : Int) < (L.length : Int) := Int.emod_lt_of_pos _ (by omega)
      obtain ⟨j, hj⟩ : ∃ j : Nat, ns.getD (first + i) 0 % (L.length : Int) = (j : Nat) := ⟨(ns.getD (first + i) 0 % (L.length : Int)).toNat, by omega⟩
      have hjl : j < L.length := by omega
      have om : O2 s2 modO (.int (ns.getD (first + i) 0)) (.int L.length) (.int (j : Nat)) := hj ▸ o_mod cp
      have ol2 : ON s2 lenO [.tup (L.map natD)] (.int L.length) := hlen ▸ o_len
      have hk := List.getElem_mem hjl
      have hkk := hmem _ hk
      have oi : O2 s2 ixO (.tup (L.map natD)) (.int (j : Nat)) (natD L[j]) := o_ixn (by rw [List.getElem?_map, List.getElem?_eq_getElem hjl]; rfl)
      generalize L[j] = k at hkk oi
      refine wp_asE (Ev.bin (Ev.var rfl) (Ev.bin (Ev.app (Ea.cons (Ev.call (xs := [.loc n, .int ((first : Int) + (i : Int))]) (Ea.cons (Ev.var rfl) (Ea.cons (Ev.bin (Ev.var rfl) (Ev.var rfl) o_add) Ea.nil)) hc') Ea.nil) o_inti) (Ev.app (Ea.cons (Ev.var rfl) Ea.nil) ol2) om) oi) (fun s3 x3 => ?_)
      have oc : O2 s3 addO (.tup (sch.map natD)) (.tup [natD k]) (.tup ((sch ++ [k]).map natD)) := by
        rw [List.map_append]
        exact o_cat (by simp; omega) (by have := nst_nat (sch ++ [k]); rw [List.map_append] at this; exact this)
      refine wp_asE (Ev.bin (Ev.var rfl) (Ev.tup (xs := [natD k]) (Ea.cons (Ev.var rfl) Ea.nil) rfl) oc) (fun s4 x4 => ?_)
      have hst := hms _ k inv hkk.1 hkk.2 s4
      refine wp_endE (Es.asgN (Ev.bin (Ev.call (xs := [p.d, (runS p p.first sch).d p, .int k]) (Ea.cons (Ev.var rfl) (Ea.cons (Ev.var rfl) (Ea.cons (Ev.var rfl) Ea.nil))) hst) Ev.cst o_ix0)) (fun s5 x5 => ?_)
      refine ⟨sch ++ [k], some (.int (i : Nat)), some (.tup (L.map natD)), some (natD k), ?_, ((xs2.trans x3).trans x4).trans x5, (okR_app sch _ [k]).mpr ⟨ok, hkk.1, hkk.2, trivial⟩, by simp; omega⟩
      rw [runS_app]
      rfl
    · exact wp_skip ⟨sch, _, _, _, rfl, (xs.trans x1).trans x2, ok, by omega⟩
  · rintro σ s ⟨sch, x6, x7, x8, rfl, xs, ok, ll⟩
    exact wp_retE (Ev.var rfl) (fun s2 x2 => ⟨sch, rfl, xs.trans x2, ok, ll⟩)
/-- the states on the way and the steps -/
theorem walk_ok {dep : Nat} {p : Prog} (hp : PW dep p) {pf pe pm : Fx} (hf : SpFirst p pf) (hen : SpEnabled p pe) (hms : SpMakeStep p pm) {sch : List Nat} (ok : okR p p.first sch) (hl : sch.length ≤ 1000) (st : Sto) :
    ∃ (a b : Nat) (st2 : Sto), f_walk pf pe pm [p.d, .tup (sch.map natD)] st = some (.tup [.loc a, .loc b], st2) ∧ Ext st st2 ∧ getL st2 a = some ((runB p p.first sch ++ [runS p p.first sch]).map (Sta.d p)) ∧ getL st2 b = some ((runL p p.first sch).map Stp.d) ∧ st.length ≤ a ∧ st.length ≤ b := by
  suffices q : ∃ d s, f_walk pf pe pm [p.d, .tup (sch.map natD)] st = some (d, s) ∧ ∃ a b : Nat, d = .tup [.loc a, .loc b] ∧ Ext st s ∧ getL s a = some ((runB p p.first sch ++ [runS p p.first sch]).map (Sta.d p)) ∧ getL s b = some ((runL p p.first sch).map Stp.d) ∧ st.length ≤ a ∧ st.length ≤ b by
    obtain ⟨d, s, e, a, b, rfl, r⟩ := q
    exact ⟨a, b, s, e, r⟩
  refine wp_run rfl ?_
  unfold b_walk
  obtain ⟨s1, e1, x1⟩ := hf st st Ext.refl
  refine wp_nx (σ1 := [some p.d, some (.tup (sch.map natD)), some (.loc s1.length), none, none, none, none, none]) (st1 := s1 ++ [.lst [p.first.d p]]) (by simp [e1, LIM]) ?_
  refine wp_nx (σ1 := [some p.d, some (.tup (sch.map natD)), some (.loc s1.length), some (.loc (s1.length + 1)), none, none, none, none]) (st1 := s1 ++ [.lst [p.first.d p]] ++ [.lst []]) (by simp) ?_
  have h1 := x1.1
  have xb : Ext st (s1 ++ [.lst [p.first.d p]] ++ [OB.lst []]) := (x1.trans (Ext.app _)).trans (Ext.app _)
  refine wp_seq (wp_for (xs := enumD 0 (sch.map natD)) (st1 := s1 ++ [.lst [p.first.d p]] ++ [.lst []]) (fun i σ s => ∃ x4 x5 x6 x7, σ = [some p.d, some (.tup (sch.map natD)), some (.loc s1.length), some (.loc (s1.length + 1)), x4, x5, x6, x7] ∧ Ext st s ∧ s[s1.length]? = some (.lst ((runB p p.first (sch.take i) ++ [runS p p.first (sch.take i)]).map (Sta.d p))) ∧ s[s1.length + 1]? = some (.lst ((runL p p.first (sch.take i)).map Stp.d)))
    (by simp) ⟨_, _, _, _, rfl, xb, by simp [runB, runS], by simp [runL]⟩ ?_ ?_)
  · rintro i σ s d hd ⟨x4, x5, x6, x7, rfl, xs, g1, g2⟩
    obtain ⟨y, hy, rfl⟩ := enumD_atQ hd
    rw [List.getElem?_map] at hy
    cases ek : sch[i]? with
    | none => rw [ek] at hy; cases hy
    | some k =>
    rw [ek] at hy; cases hy
    have hi := (List.getElem?_eq_some_iff.mp ek).1
    have et : sch.take (i + 1) = sch.take i ++ [k] := by rw [List.take_add_one, ek]; rfl
    have ok2 : okR p p.first (sch.take i ++ [k]) := et ▸ okR_take (i + 1) ok
    rw [okR_app] at ok2
    obtain ⟨oki, hk1, hk2, _⟩ := ok2
    have inv := run_inv hp _ (first_inv hp) oki
    refine ⟨[some p.d, some (.tup (sch.map natD)), some (.loc s1.length), some (.loc (s1.length + 1)), some (.int (i : Nat)), some (.int (k : Nat)), x6, x7], rfl, ?_⟩
    have gl1 : getL s s1.length = some ((runB p p.first (sch.take i)).map (Sta.d p) ++ [(runS p p.first (sch.take i)).d p]) := by rw [getL_of g1, List.map_append]; rfl
    have hin : decide (k ∈ p.enL (runS p p.first (sch.take i))) = true := decide_eq_true (ena_mem.mpr ⟨hk1, hk2⟩)
    refine wp_seq (wp_ifE (b := !decide (k ∈ p.enL (runS p p.first (sch.take i)))) (Et.cmp (Ev.var rfl) (Ev.call (xs := [p.d, (runS p p.first (sch.take i)).d p]) (Ea.cons (Ev.var rfl) (Ea.cons (Ev.bin (Ev.var rfl) (Ev.un Ev.cst o_neg1) (o_lastL gl1)) Ea.nil)) (hen _ inv s)) o_ninN) (fun h => by rw [hin] at h; cases h) (fun _ s2 x2 => wp_skip ?_))
    have gl2 := x2.getL gl1
    have hst := hms _ k inv hk1 hk2 s2
    refine wp_esE (Es.asg2 (Ev.call (xs := [p.d, (runS p p.first (sch.take i)).d p, .int k]) (Ea.cons (Ev.var rfl) (Ea.cons (Ev.bin (Ev.var rfl) (Ev.un Ev.cst o_neg1) (o_lastL gl2)) (Ea.cons (Ev.var rfl) Ea.nil))) hst)) (fun s3 x3 => ?_)
    have g1' := x3.at (x2.at g1)
    have g2' := x3.at (x2.at g2)
    refine wp_seq (wp_pushE (i := 2) (d := (p.step (runS p p.first (sch.take i)) k).1.d p) rfl (Ev.var rfl) g1' (by rw [List.length_map, List.length_append, runB_len]; simp; omega) (fun s4 x4 g4 => ?_))
    have g2'' := x4.at g2'
    have hl4 := (List.getElem?_eq_some_iff.mp g4).1
    have ga : (s4.set s1.length (.lst ((runB p p.first (sch.take i) ++ [runS p p.first (sch.take i)]).map (Sta.d p) ++ [(p.step (runS p p.first (sch.take i)) k).1.d p])))[s1.length + 1]? = some (.lst ((runL p p.first (sch.take i)).map Stp.d)) := by
      rw [List.getElem?_set_ne (by omega)]; exact g2''
    have gs : (s4.set s1.length (.lst ((runB p p.first (sch.take i) ++ [runS p p.first (sch.take i)]).map (Sta.d p) ++ [(p.step (runS p p.first (sch.take i)) k).1.d p])))[s1.length]? = some (.lst ((runB p p.first (sch.take (i + 1)) ++ [runS p p.first (sch.take (i + 1))]).map (Sta.d p))) := by
      rw [List.getElem?_set_self hl4, et, runB_app, runS_app]
      simp [runB, runS]
    have xs4 : Ext st (s4.set s1.length (.lst ((runB p p.first (sch.take i) ++ [runS p p.first (sch.take i)]).map (Sta.d p) ++ [(p.step (runS p p.first (sch.take i)) k).1.d p]))) := (((xs.trans x2).trans x3).trans x4).set (by omega)
    generalize s4.set s1.length (.lst ((runB p p.first (sch.take i) ++ [runS p p.first (sch.take i)]).map (Sta.d p) ++ [(p.step (runS p p.first (sch.take i)) k).1.d p])) = s5 at ga gs xs4
    refine wp_pushE (i := 3) (d := (p.step (runS p p.first (sch.take i)) k).2.d) rfl (Ev.var rfl) ga (by rw [List.length_map, runL_len]; simp; omega) (fun s6 x6 g6 => ?_)
    have hl6 := (List.getElem?_eq_some_iff.mp g6).1
    refine ⟨_, _, _, _, rfl, (xs4.trans x6).set (by omega), ?_, ?_⟩
    · rw [List.getElem?_set_ne (by omega)]; exact x6.at gs
    · rw [List.getElem?_set_self hl6, et, runL_app]
      simp [runL]
  · rintro σ s ⟨x4, x5, x6, x7, rfl, xs, g1, g2⟩
    rw [enumD_lenQ, List.length_map, List.take_length] at g1 g2
    exact wp_retE (Ev.tup (xs := [.loc s1.length, .loc (s1.length + 1)]) (Ea.cons (Ev.var rfl) (Ea.cons (Ev.var rfl) Ea.nil)) rfl) (fun s2 x2 => ⟨_, _, rfl, xs.trans x2, x2.getL (getL_of g1), x2.getL (getL_of g2), h1, by omega⟩)
theorem run_ok {dep : Nat} {p : Prog} (hp : PW dep p) {pf pe pm : Fx} (hf : SpFirst p pf) (hen : SpEnabled p pe) (hms : SpMakeStep p pm) {sch : List Nat} (ok : okR p p.first sch) (hl : sch.length ≤ 1000) (s : Sto) :
    Rt s (f_run (f_walk pf pe pm)) [p.d, .tup (sch.map natD)] (.tup [(runS p p.first sch).d p, .tup ((runL p p.first sch).map Stp.d)]) := by
  intro st ks
  obtain ⟨a, b, s2, e, x, g1, g2, _, _⟩ := walk_ok hp hf hen hms ok hl st
  rw [List.map_append] at g1
  obtain ⟨s3, e3, x3⟩ := (show Es s2 (retS (tupF (consF (binF ixO (varF 2) (unF negO (cstF (.int 1)))) (consF (appF tupleO (consF (varF 3) nilF)) nilF)))) [some p.d, some (.tup (sch.map natD)), some (.loc a), some (.loc b)] (.ret (.tup [(runS p p.first sch).d p, .tup ((runL p p.first sch).map Stp.d)])) from
    Es.ret (Ev.tup (Ea.cons (Ev.bin (Ev.var rfl) (Ev.un Ev.cst o_neg1) (o_lastL g1)) (Ea.cons (Ev.app (Ea.cons (Ev.var rfl) Ea.nil) (o_tupleL g2)) Ea.nil)) rfl)) s2 Ext.refl
  refine ⟨s3, run_ret rfl ?_, x.trans x3⟩
  unfold b_run
  have hsl : List.map some [p.d, D.tup (sch.map natD)] ++ List.replicate (4 - 2) none = [some p.d, some (.tup (sch.map natD)), none, none] := rfl
  rw [hsl, seq_nx (σ1 := [some p.d, some (.tup (sch.map natD)), some (.loc a), some (.loc b)]) (st1 := s2) (by simp only [asgS_eq, callF_eq, consF_eq, nilF_eq, varF_eq, bnd_some, List.getElem?_cons_zero, List.getElem?_cons_succ, e]; rfl)]
  exact e3
/-! Q3.lean -/
/-! ### drawn programs of the laws k36 to k60 -/
def addQ : Tr := .op "+" (.reg 0) (.num 1)
def lessQ : Tr := .op "<" (.reg 0) (.num 2)
theorem addQ_ok : addQ.wf ∧ addQ.dep ≤ 1 := ⟨⟨.inl rfl, by show 0 < 4; decide, by decide, by decide⟩, by decide⟩
theorem lessQ_ok : lessQ.wf ∧ lessQ.dep ≤ 1 := ⟨⟨by unfold isSign; simp [ofs_inj], by show 0 < 4; decide, by decide, by decide⟩, by decide⟩
theorem num_ok {n : Int} (h : 0 ≤ n ∧ n ≤ 99) : (Tr.num n).wf ∧ (Tr.num n).dep ≤ 1 := ⟨h, by show 0 ≤ 1; decide⟩
theorem rega_ok : (Tr.reg 0).wf ∧ (Tr.reg 0).dep ≤ 1 := ⟨by show 0 < 4; decide, by show 0 ≤ 1; decide⟩
theorem xQ : ("x" : Str) ∈ kindNames thQ "var" := by rw [kn_var]; decide +kernel
theorem yQ : ("y" : Str) ∈ kindNames thQ "var" := by rw [kn_var]; decide +kernel
theorem mQ : ("m" : Str) ∈ kindNames thQ "lock" := by rw [kn_lock]; decide +kernel
theorem nQ : ("n" : Str) ∈ kindNames thQ "lock" := by rw [kn_lock]; decide +kernel
theorem wQ : ("w" : Str) ∈ kindNames thQ "cond" := by rw [kn_cond]; decide +kernel
theorem qQ : ("q" : Str) ∈ kindNames thQ "queue" := by rw [kn_queue]; decide +kernel
theorem good_nil {n : Nat} : goodC n [] := fun I h => by cases h
theorem good_cons {n : Nat} {I : Ins} {l : List Ins} (h : ∀ size, n + l.length + 1 ≤ size → I.wf thQ size 1) (hl : ∀ J ∈ l, ∀ size, n + l.length + 1 ≤ size → J.wf thQ size 1) : goodC n (I :: l) := fun J hJ size hs => by
  rw [List.length_cons] at hs
  rcases List.mem_cons.mp hJ with rfl | h
  · exact h size (by omega)
  · exact hl J h size (by omega)
/-- the sizes of the threads are drawn, then the program -/
theorem drawn_okQ {prog cell : Fx} (hcl : CellOk cell) {most : Nat} {szs : List (List Nat)}
    (hprog : ∀ {st : Sto} {n m : Nat} {ns : List Int}, getL st n = some (ns.map .int) → ∀ {sz : List Nat}, getL st m = some (sz.map natD) → sz ∈ szs → ∃ (p : Prog) (st2 : Sto), prog [.loc n, .loc m] st = some (p.d, st2) ∧ Ext st st2 ∧ ProgQ most p)
    {G : SA} (hG : ∀ σ, LitQ σ G (szs.map fun l => l.map natD)) (h4 : szs.length = 4) {st : Sto} {n : Nat} {ns : List Int} (hn : getL st n = some (ns.map .int)) :
    ∃ (p : Prog) (st2 : Sto), runF 1 1 (retS (callF prog (consF (varF 0) (consF (binF ixO (lstF G) (binF modO (appF intOf (consF (callF cell (consF (varF 0) (consF (cstF (.int 9)) nilF))) nilF)) (cstF (.int 4)))) nilF)))) [.loc n] st = some (p.d, st2) ∧ Ext st st2 ∧ ProgQ most p := by
  obtain ⟨s2, ms, e, x, hm, hi⟩ := hG [some (.loc n)] st
  rw [List.length_map, h4] at hm
  have hl : (ms.map D.loc).length ≤ LIM := by rw [List.length_map, hm]; decide
  have b0 : 0 ≤ ns.getD 9 0 % 4 := Int.emod_nonneg _ (by decide)
  have b1 : ns.getD 9 0 % 4 < 4 := Int.emod_lt_of_pos _ (by decide)
  obtain ⟨k, hk⟩ : ∃ k : Nat, (k : Int) = ns.getD 9 0 % 4 := ⟨(ns.getD 9 0 % 4).toNat, by omega⟩
  have hkm : k < ms.length := by omega
  have hks : k < szs.length := by omega
  obtain ⟨g1, _⟩ := hi k ms[k] _ (List.getElem?_eq_getElem hkm) (by rw [List.getElem?_map, List.getElem?_eq_getElem hks]; rfl)
  have x2 : Ext s2 (s2 ++ [OB.lst (ms.map .loc)]) := Ext.app _
  have gl : getL (s2 ++ [OB.lst (ms.map .loc)]) s2.length = some (ms.map .loc) := new_get _ _
  have e2 : lstF G [some (.loc n)] st = some (.loc s2.length, s2 ++ [.lst (ms.map .loc)]) := by rw [lstF_eq, e, bnd_some, if_pos hl]
  generalize s2 ++ [OB.lst (ms.map .loc)] = s3 at x2 gl e2
  have xx := x.trans x2
  obtain ⟨p, s4, e4, x4, hp⟩ := hprog (xx.getL hn) (x2.getL (getL_of g1)) (List.getElem_mem hks)
  refine ⟨p, s4, ?_, xx.trans x4, hp⟩
  refine run_ret rfl ?_
  have c9 := hcl s3 n ns (xx.getL hn) 9
  have c9' : cell [.loc n, .int 9] s3 = some (.int (ns.getD 9 0), s3) := c9
  have cp : cPos (ns.getD 9 0) 4 = true := rfl
  have ii : intOf [.int (ns.getD 9 0)] s3 = some (.int (ns.getD 9 0), s3) := rfl
  have mm : modO (.int (ns.getD 9 0)) (.int 4) s3 = some (.int (k : Int), s3) := by rw [modO_int, if_pos cp, hk]
  have ix : ixO (.loc s2.length) (.int (k : Int)) s3 = some (.loc ms[k], s3) := by
    rw [ixO_loc, gl]
    simp only
    rw [atI_nat (by rw [List.getElem?_map, List.getElem?_eq_getElem hkm]; rfl)]
    rfl
  have v0 : varF 0 [some (.loc n)] st = some (.loc n, st) := rfl
  have v3 : varF 0 [some (.loc n)] s3 = some (.loc n, s3) := rfl
  show retS _ [some (.loc n)] st = _
  rw [retS_eq, callF_eq, consF_eq, v0, bnd_some, consF_eq, binF_eq, e2, bnd_some]
  simp only [binF_eq, appF_eq, consF_eq, callF_eq, nilF_eq, cstF_eq, v3, bnd_some, c9', ii, mm, ix, e4]
/-! C1.lean -/
/-! ### the pieces that most laws from k36 on draw -/
def pcsS (n : Nat) : List (List Ins) := [
  [.get 0 "x", .put "x" addQ],
  [.add "x" (.num 1)],
  [.put "x" (.num 2)],
  [.get 1 "y"],
  [.lock "m", .add "y" (.num 1), .unlock "m"],
  [.lock "m", .lock "n"],
  [.lock "n", .lock "m"],
  [.lock "m", .wait "w", .unlock "m"],
  [.notify "w"],
  [.lock "m", .notifyall "w", .unlock "m"],
  [.send "q" (.num 3)],
  [.take 0 "q"],
  [.get 0 "x", .check lessQ],
  [.begin_, .get 0 "x", .put "y" addQ, .end_],
  [.unlock "m"],
  [.add "y" (.num 99)],
  [.leti 0 addQ],
  [.go (n + 2) (some (.reg 0)), .put "y" addQ],
  [.begin_, .add "x" (.num 1), .add "y" (.num 1), .end_],
  [.put "y" (.reg 0)]]
theorem pcsS_good (n : Nat) : ∀ l ∈ pcsS n, l.length ≤ 5 ∧ goodC n l := by
  intro l hl
  simp only [pcsS, List.mem_cons, List.not_mem_nil, or_false] at hl
  rcases hl with rfl | rfl | rfl | rfl | rfl | rfl | rfl | rfl | rfl | rfl | rfl | rfl | rfl | rfl | rfl | rfl | rfl | rfl | rfl | rfl <;> (refine ⟨by simp, fun I hI size hs => ?_⟩; simp only [List.length_cons, List.length_nil] at hs; simp only [List.mem_cons, List.not_mem_nil, or_false] at hI)
  · rcases hI with rfl | rfl
    · exact ⟨by decide, xQ⟩
    · exact ⟨xQ, addQ_ok⟩
  · subst hI; exact ⟨xQ, num_ok (by decide)⟩
  · subst hI; exact ⟨xQ, num_ok (by decide)⟩
  · subst hI; exact ⟨by decide, yQ⟩
  · rcases hI with rfl | rfl | rfl
    · exact mQ
    · exact ⟨yQ, num_ok (by decide)⟩
    · exact mQ
  · rcases hI with rfl | rfl
    · exact mQ
    · exact nQ
  · rcases hI with rfl | rfl
    · exact nQ
    · exact mQ
  · rcases hI with rfl | rfl | rfl
    · exact mQ
    · exact wQ
    · exact mQ
  · subst hI; exact wQ
  · rcases hI with rfl | rfl | rfl
    · exact mQ
    · exact wQ
    · exact mQ
  · subst hI; exact ⟨qQ, num_ok (by decide)⟩
  · subst hI; exact ⟨by decide, qQ⟩
  · rcases hI with rfl | rfl
    · exact ⟨by decide, xQ⟩
    · exact lessQ_ok
  · rcases hI with rfl | rfl | rfl | rfl
    · trivial
    · exact ⟨by decide, xQ⟩
    · exact ⟨yQ, addQ_ok⟩
    · trivial
  · subst hI; exact mQ
  · subst hI; exact ⟨yQ, num_ok (by decide)⟩
  · subst hI; exact ⟨by decide, addQ_ok⟩
  · rcases hI with rfl | rfl
    · exact ⟨by omega, fun u hu => by cases hu; exact rega_ok⟩
    · exact ⟨yQ, addQ_ok⟩
  · rcases hI with rfl | rfl | rfl | rfl
    · trivial
    · exact ⟨xQ, num_ok (by decide)⟩
    · exact ⟨yQ, num_ok (by decide)⟩
    · trivial
  · subst hI; exact ⟨yQ, rega_ok⟩
theorem pieceS_ok : SpPiece f__law_piece := by
  intro v n st
  suffices w : ∃ d s, f__law_piece [.int v, .int n] st = some (d, s) ∧ ∃ (m : Nat) (l : List Ins), d = .loc m ∧ Ext st s ∧ l ∈ pcsS n ∧ s[m]? = some (.lst (l.map Ins.d)) ∧ st.length ≤ m by
    obtain ⟨d, s, e, m, l, rfl, x, hl, g, hm⟩ := w
    exact ⟨m, l, s, e, x, g, hm, pcsS_good n l hl⟩
  refine wp_run rfl ?_
  have hsl : List.map some [D.int v, D.int n] ++ List.replicate (5 - 2) none = [some (.int v), some (.int n), none, none, none] := rfl
  rw [hsl]
  unfold b__law_piece
  refine wp_nx (σ1 := [some (.int v), some (.int n), some addQ.d, none, none]) (st1 := st) rfl ?_
  refine wp_nx (σ1 := [some (.int v), some (.int n), some addQ.d, some lessQ.d, none]) (st1 := st) rfl ?_
  refine litq_wp (pcsS n) 20 v ?_ rfl (by decide) (by decide) (fun d s => by simp [cPos]) (by simp) (fun m l s x hl g hm => ⟨m, l, rfl, x, hl, g, hm⟩)
  show LitQ _ _ [_, _, _, _, _, _, _, _, _, _, _, _, _, _, _, _, _, _, _, _]
  iterate 17 (refine litq_cons (fun s => rfl) (by decide) ?_)
  refine litq_cons (fun s => by simp [LIM, addQ, Ins.d, oTr, Tr.d, regS]) (by simp) ?_
  iterate 2 (refine litq_cons (fun s => rfl) (by decide) ?_)
  exact litq_nil
theorem drawnS_ok {pad cell piece things : Fx} (hcl : CellOk cell) (hpd : PadOk pad) (hpc : SpPiece piece) (hth : SpThings things) {cell2 : Fx} (hcl2 : CellOk cell2) {st : Sto} {n : Nat} {ns : List Int} (hn : getL st n = some (ns.map .int)) :
    ∃ (p : Prog) (st2 : Sto), f__law_drawn (f__law_program pad cell piece things) cell2 [.loc n] st = some (p.d, st2) ∧ Ext st st2 ∧ ProgQ 4 p :=
  drawn_okQ hcl2 (szs := [[4, 2], [3, 3], [2, 4], [2, 2, 1]]) (most := 4) (fun hn sz hm hz => program_okQ hcl hpd hpc hth hn hm (by
      simp only [List.mem_cons, List.not_mem_nil, or_false] at hz
      rcases hz with rfl | rfl | rfl | rfl <;> decide) (most := 4) (by
      simp only [List.mem_cons, List.not_mem_nil, or_false] at hz
      rcases hz with rfl | rfl | rfl | rfl <;> decide) (by decide))
    (fun σ => litq_cons (fun s => rfl) (by decide) (litq_cons (fun s => rfl) (by decide) (litq_cons (fun s => rfl) (by decide) (litq_cons (fun s => rfl) (by decide) litq_nil)))) rfl hn
/-! R2.lean -/
/-! ### schedules that may not be possible -/
/-- either each thread is enabled in its turn, or there is a first one that is not -/
theorem ok_or_bad (p : Prog) : ∀ (l : List Nat) (st : Sta), (∀ k ∈ l, k < p.T.length) → okR p st l ∨ ∃ l1 k l2, l = l1 ++ k :: l2 ∧ okR p st l1 ∧ k < p.T.length ∧ p.ena (runS p st l1) k = false
  | [], _, _ => .inl trivial
  | k :: l, st, h => by
    have hk := h k (List.mem_cons_self ..)
    cases e : p.ena st k with
    | false => exact .inr ⟨[], k, l, rfl, trivial, hk, e⟩
    | true =>
      rcases ok_or_bad p l (p.step st k).1 (fun j hj => h j (List.mem_cons_of_mem _ hj)) with h1 | ⟨l1, j, l2, rfl, h2, h3, h4⟩
      · exact .inl ⟨hk, e, h1⟩
      · exact .inr ⟨k :: l1, j, l2, rfl, ⟨hk, e, h2⟩, h3, h4⟩
section
variable {dep : Nat} {p : Prog} {pf pe pm : Fx}
/-- the loop of walk, up to a thread that is not enabled or the end -/
theorem walkY {sch : List Nat} (hp : PW dep p) (hf : SpFirst p pf) (hen : SpEnabled p pe) (hms : SpMakeStep p pm) (hl : sch.length ≤ 1000) (st : Sto) :
    (okR p p.first sch → ∃ (a b : Nat) (st2 : Sto), fx_walk pf pe pm true [p.d, .tup (sch.map natD)] st = some (.ok (.tup [.loc a, .loc b]), st2) ∧ Ext st st2 ∧ getL st2 a = some ((runB p p.first sch ++ [runS p p.first sch]).map (Sta.d p)) ∧ getL st2 b = some ((runL p p.first sch).map Stp.d)) ∧
    (∀ l1 k l2, sch = l1 ++ k :: l2 → okR p p.first l1 → k < p.T.length → p.ena (runS p p.first l1) k = false → ∃ st2, fx_walk pf pe pm true [p.d, .tup (sch.map natD)] st = some (.exc "NotEnabled" [.int l1.length], st2) ∧ Ext st st2) := by
  -- what the loop keeps
  have key : ∀ (Q : DX → Sto → Prop) (good : Nat → Prop), (∀ i, i ≤ sch.length → good i → okR p p.first (sch.take i)) → good 0 →
      (∀ i k, sch[i]? = some k → good i → k < p.T.length ∧ (p.ena (runS p p.first (sch.take i)) k = true → good (i + 1)) ∧ (p.ena (runS p p.first (sch.take i)) k = false → ∀ s, Ext st s → Q (.exc "NotEnabled" [.int (i : Nat)]) s)) →
      (∀ (a b : Nat) (s : Sto), good sch.length → Ext st s → getL s a = some ((runB p p.first sch ++ [runS p p.first sch]).map (Sta.d p)) → getL s b = some ((runL p p.first sch).map Stp.d) → Q (.ok (.tup [.loc a, .loc b])) s) →
      ∃ d s, fx_walk pf pe pm true [p.d, .tup (sch.map natD)] st = some (d, s) ∧ Q d s := by
    intro Q good hgood h0 hstep hend
    refine wpx_run rfl ?_
    unfold bx_walk
    obtain ⟨s1, e1, x1⟩ := hf st st Ext.refl
    refine wpx_nx (σ1 := [some p.d, some (.tup (sch.map natD)), some (.loc s1.length), none, none, none, none, none]) (st1 := s1 ++ [.lst [p.first.d p]]) (by simp [e1, LIM]) ?_
    refine wpx_nx (σ1 := [some p.d, some (.tup (sch.map natD)), some (.loc s1.length), some (.loc (s1.length + 1)), none, none, none, none]) (st1 := s1 ++ [.lst [p.first.d p]] ++ [.lst []]) (by simp) ?_
    have h1 := x1.1
    have xb : Ext st (s1 ++ [.lst [p.first.d p]] ++ [OB.lst []]) := (x1.trans (Ext.app _)).trans (Ext.app _)
    refine wpx_seq (wpx_for (J := .cns (enumD 0 (sch.map natD))) (xs := enumD 0 (sch.map natD)) (st1 := s1 ++ [.lst [p.first.d p]] ++ [.lst []]) (fun i σ s => ∃ x4 x5 x6 x7, σ = [some p.d, some (.tup (sch.map natD)), some (.loc s1.length), some (.loc (s1.length + 1)), x4, x5, x6, x7] ∧ i ≤ sch.length ∧ good i ∧ Ext st s ∧ s[s1.length]? = some (.lst ((runB p p.first (sch.take i) ++ [runS p p.first (sch.take i)]).map (Sta.d p))) ∧ s[s1.length + 1]? = some (.lst ((runL p p.first (sch.take i)).map Stp.d)))
      (by simp) rfl ⟨_, _, _, _, rfl, Nat.zero_le _, h0, xb, by simp [runB, runS], by simp [runL]⟩ (fun _ _ _ _ => rfl) ?_ ?_)
    · rintro i σ s d hd ⟨x4, x5, x6, x7, rfl, hle, hg, xs, g1, g2⟩
      obtain ⟨y, hy, rfl⟩ := enumD_atQ hd
      rw [List.getElem?_map] at hy
      cases ek : sch[i]? with
      | none => rw [ek] at hy; cases hy
      | some k =>
      rw [ek] at hy; cases hy
      have hi := (List.getElem?_eq_some_iff.mp ek).1
      have et : sch.take (i + 1) = sch.take i ++ [k] := by rw [List.take_add_one, ek]; rfl
      obtain ⟨hk1, st1, st2⟩ := hstep i k ek hg
      have oki := hgood i hle hg
      have inv := run_inv hp _ (first_inv hp) oki
      refine ⟨[some p.d, some (.tup (sch.map natD)), some (.loc s1.length), some (.loc (s1.length + 1)), some (.int (i : Nat)), some (.int (k : Nat)), x6, x7], rfl, ?_⟩
      have gl1 : getL s s1.length = some ((runB p p.first (sch.take i)).map (Sta.d p) ++ [(runS p p.first (sch.take i)).d p]) := by rw [getL_of g1, List.map_append]; rfl
      have hin : decide (k ∈ p.enL (runS p p.first (sch.take i))) = p.ena (runS p p.first (sch.take i)) k := by
        rw [Bool.eq_iff_iff, decide_eq_true_eq, ena_mem]; exact ⟨fun h => h.2, fun h => ⟨hk1, h⟩⟩
      refine wpx_seq (wpx_ifE (b := !p.ena (runS p p.first (sch.take i)) k) (Et.of (Et.cmp (Ev.var rfl) (Ev.call (xs := [p.d, (runS p p.first (sch.take i)).d p]) (Ea.cons (Ev.var rfl) (Ea.cons (Ev.bin (Ev.var rfl) (Ev.un Ev.cst o_neg1) (o_lastL gl1)) Ea.nil)) (hen _ inv s)) o_ninN) (by rw [hin])) (fun h s2 x2 => ?_) (fun h s2 x2 => ?_))
      · have hb : p.ena (runS p p.first (sch.take i)) k = false := by simpa using h
        have hz : fmtD (.int ((i : Nat) : Int)) = true := by
          have : ∀ i : Fin 1001, fmtD (.int ((i : Nat) : Int)) = true := by decide +kernel
          exact this ⟨i, by omega⟩
        exact wpx_raise (ds := [.int (i : Nat)]) (st1 := s2) rfl rfl rfl (by simp [hz]) (st2 hb s2 (xs.trans x2))
      · have hb : p.ena (runS p p.first (sch.take i)) k = true := by simpa using h
        refine wpx_lift (wp_skip ?_)
        have gl2 := x2.getL gl1
        have hst := hms _ k inv hk1 hb s2
        refine wpx_esE (Es.asg2 (Ev.call (xs := [p.d, (runS p p.first (sch.take i)).d p, .int k]) (Ea.cons (Ev.var rfl) (Ea.cons (Ev.bin (Ev.var rfl) (Ev.un Ev.cst o_neg1) (o_lastL gl2)) (Ea.cons (Ev.var rfl) Ea.nil))) hst)) (fun s3 x3 => ?_)
        have g1' := x3.at (x2.at g1)
        have g2' := x3.at (x2.at g2)
        refine wpx_seq (wpx_lift (wp_pushE (i := 2) (d := (p.step (runS p p.first (sch.take i)) k).1.d p) rfl (Ev.var rfl) g1' (by rw [List.length_map, List.length_append, runB_len]; simp; omega) (fun s4 x4 g4 => ?_)))
        have g2'' := x4.at g2'
        have hl4 := (List.getElem?_eq_some_iff.mp g4).1
        have ga : (s4.set s1.length (.lst ((runB p p.first (sch.take i) ++ [runS p p.first (sch.take i)]).map (Sta.d p) ++ [(p.step (runS p p.first (sch.take i)) k).1.d p])))[s1.length + 1]? = some (.lst ((runL p p.first (sch.take i)).map Stp.d)) := by
          rw [List.getElem?_set_ne (by omega)]; exact g2''
        have gs : (s4.set s1.length (.lst ((runB p p.first (sch.take i) ++ [runS p p.first (sch.take i)]).map (Sta.d p) ++ [(p.step (runS p p.first (sch.take i)) k).1.d p])))[s1.length]? = some (.lst ((runB p p.first (sch.take (i + 1)) ++ [runS p p.first (sch.take (i + 1))]).map (Sta.d p))) := by
          rw [List.getElem?_set_self hl4, et, runB_app, runS_app]
          simp [runB, runS]
        have xs4 : Ext st (s4.set s1.length (.lst ((runB p p.first (sch.take i) ++ [runS p p.first (sch.take i)]).map (Sta.d p) ++ [(p.step (runS p p.first (sch.take i)) k).1.d p]))) := (((xs.trans x2).trans x3).trans x4).set (by omega)
        generalize s4.set s1.length (.lst ((runB p p.first (sch.take i) ++ [runS p p.first (sch.take i)]).map (Sta.d p) ++ [(p.step (runS p p.first (sch.take i)) k).1.d p])) = s5 at ga gs xs4
        refine wpx_lift (wp_pushE (i := 3) (d := (p.step (runS p p.first (sch.take i)) k).2.d) rfl (Ev.var rfl) ga (by rw [List.length_map, runL_len]; simp; omega) (fun s6 x6 g6 => ?_))
        have hl6 := (List.getElem?_eq_some_iff.mp g6).1
        refine ⟨_, _, _, _, rfl, hi, st1 hb, (xs4.trans x6).set (by omega), ?_, ?_⟩
        · rw [List.getElem?_set_ne (by omega)]; exact x6.at gs
        · rw [List.getElem?_set_self hl6, et, runL_app]
          simp [runL]
    · rintro σ s ⟨x4, x5, x6, x7, rfl, hle, hg, xs, g1, g2⟩
      rw [enumD_lenQ, List.length_map] at g1 g2 hg
      rw [List.take_length] at g1 g2
      exact wpx_lift (wp_retE (Ev.tup (xs := [.loc s1.length, .loc (s1.length + 1)]) (Ea.cons (Ev.var rfl) (Ea.cons (Ev.var rfl) Ea.nil)) rfl) (fun s2 x2 => hend _ _ _ hg (xs.trans x2) (x2.getL (getL_of g1)) (x2.getL (getL_of g2))))
  refine ⟨fun ok => ?_, fun l1 k l2 e ok hkl hb => ?_⟩
  · obtain ⟨d, s, e, a, b, rfl, r⟩ := key (fun d s => ∃ a b : Nat, d = .ok (.tup [.loc a, .loc b]) ∧ Ext st s ∧ getL s a = some ((runB p p.first sch ++ [runS p p.first sch]).map (Sta.d p)) ∧ getL s b = some ((runL p p.first sch).map Stp.d)) (fun i => True) (fun i _ _ => okR_take i ok) trivial (fun i k ek _ => by
      have et : sch.take (i + 1) = sch.take i ++ [k] := by rw [List.take_add_one, ek]; rfl
      have ok2 : okR p p.first (sch.take i ++ [k]) := et ▸ okR_take (i + 1) ok
      rw [okR_app] at ok2
      exact ⟨ok2.2.1, fun _ => trivial, fun hf => by
        rw [ok2.2.2.1] at hf
        cases hf⟩) (fun a b s _ x g1 g2 => ⟨a, b, rfl, x, g1, g2⟩)
    exact ⟨a, b, s, e, r⟩
  · subst e
    have take1 : ∀ i, i ≤ l1.length → (l1 ++ k :: l2).take i = l1.take i := fun i hi => List.take_append_of_le_length hi
    obtain ⟨d, s, e, rfl, r⟩ := key (fun d s => d = .exc "NotEnabled" [.int l1.length] ∧ Ext st s) (fun i => i ≤ l1.length) (fun i _ hi => by rw [take1 i hi]; exact okR_take i ok) (Nat.zero_le _) (fun i j ej hi => by
      rw [take1 i hi]
      by_cases hlt : i < l1.length
      · have et : l1.take (i + 1) = l1.take i ++ [j] := by
          rw [List.getElem?_append_left hlt] at ej
          rw [List.take_add_one, ej]; rfl
        have ok2 : okR p p.first (l1.take i ++ [j]) := et ▸ okR_take (i + 1) ok
        rw [okR_app] at ok2
        exact ⟨ok2.2.1, fun _ => hlt, fun hf => by rw [ok2.2.2.1] at hf; cases hf⟩
      · have ei : i = l1.length := by omega
        subst ei
        rw [List.getElem?_append_right (Nat.le_refl _), Nat.sub_self] at ej
        cases ej
        rw [List.take_length]
        exact ⟨hkl, fun ht => (by rw [hb] at ht; cases ht), fun _ s x => ⟨rfl, x⟩⟩) (fun a b s hg _ _ _ => absurd hg (by simp))
    exact ⟨s, e, r⟩
theorem walkX {sch : List Nat} (hp : PW dep p) (hf : SpFirst p pf) (hen : SpEnabled p pe) (hms : SpMakeStep p pm) (hs : ∀ k ∈ sch, k < p.T.length) (hl : sch.length ≤ 1000) (st : Sto) :
    (okR p p.first sch → ∃ (a b : Nat) (st2 : Sto), fx_walk pf pe pm true [p.d, .tup (sch.map natD)] st = some (.ok (.tup [.loc a, .loc b]), st2) ∧ Ext st st2 ∧ getL st2 a = some ((runB p p.first sch ++ [runS p p.first sch]).map (Sta.d p)) ∧ getL st2 b = some ((runL p p.first sch).map Stp.d)) ∧
    (∀ l1 k l2, sch = l1 ++ k :: l2 → okR p p.first l1 → p.ena (runS p p.first l1) k = false → ∃ st2, fx_walk pf pe pm true [p.d, .tup (sch.map natD)] st = some (.exc "NotEnabled" [.int l1.length], st2) ∧ Ext st st2) := by
  obtain ⟨h1, h2⟩ := walkY (sch := sch) hp hf hen hms hl st
  exact ⟨h1, fun l1 k l2 e ok hb => h2 l1 k l2 e ok (hs k (by rw [e]; simp)) hb⟩
/-- run, raising -/
theorem runX_ok {sch : List Nat} {w : Fy} {st : Sto} {a b : Nat} {s2 : Sto} (h : w [p.d, .tup (sch.map natD)] st = some (.ok (.tup [.loc a, .loc b]), s2)) (g1 : getL s2 a = some ((runB p p.first sch ++ [runS p p.first sch]).map (Sta.d p))) (g2 : getL s2 b = some ((runL p p.first sch).map Stp.d)) :
    ∃ s3, fx_run w [p.d, .tup (sch.map natD)] st = some (.ok (.tup [(runS p p.first sch).d p, .tup ((runL p p.first sch).map Stp.d)]), s3) ∧ Ext s2 s3 := by
  suffices q : ∃ d s3, fx_run w [p.d, .tup (sch.map natD)] st = some (d, s3) ∧ d = .ok (.tup [(runS p p.first sch).d p, .tup ((runL p p.first sch).map Stp.d)]) ∧ Ext s2 s3 by
    obtain ⟨d, s3, e, rfl, x⟩ := q
    exact ⟨s3, e, x⟩
  rw [List.map_append] at g1
  refine wpx_run rfl ?_
  unfold bx_run
  refine wpx_seq (wpx_asg (d := .ok (.tup [.loc a, .loc b])) (st1 := s2) (by
    simp only [callX, consF_eq, nilF_eq, varF_eq, bnd_some, List.map_cons, List.cons_append, List.getElem?_cons_zero, List.getElem?_cons_succ, h]) ⟨[some p.d, some (.tup (sch.map natD)), some (.loc a), some (.loc b)], rfl, ?_⟩)
  exact wpx_lift (wp_retE (Ev.tup (Ea.cons (Ev.bin (Ev.var rfl) (Ev.un Ev.cst o_neg1) (o_lastL g1)) (Ea.cons (Ev.app (Ea.cons (Ev.var rfl) Ea.nil) (o_tupleL g2)) Ea.nil)) rfl) fun s3 x3 => ⟨rfl, x3⟩)
theorem runX_bad {sch : D} {w : Fy} {st s2 : Sto} {c : Str} {ds : List D} (h : w [p.d, sch] st = some (.exc c ds, s2)) : fx_run w [p.d, sch] st = some (.exc c ds, s2) := by
  suffices q : ∃ d s3, fx_run w [p.d, sch] st = some (d, s3) ∧ d = .exc c ds ∧ s3 = s2 by
    obtain ⟨d, s3, e, rfl, rfl⟩ := q
    exact e
  refine wpx_run rfl ?_
  unfold bx_run
  exact wpx_seq (wpx_asg (d := .exc c ds) (st1 := s2) (by
    simp only [callX, consF_eq, nilF_eq, varF_eq, bnd_some, List.map_cons, List.cons_append, List.getElem?_cons_zero, List.getElem?_cons_succ, h]) ⟨rfl, rfl⟩)
end
/-! U3.lean -/
section
variable {s : Sto} {σ : Sl} {f e : SE} {w : Str} {l : List Str} {n : Nat}
theorem inF_tx (w : Str) : ∀ l : List Str, inF (.str w) (l.map .str) = decide (w ∈ l)
  | [] => rfl
  | x :: l => by
    have ih := inF_tx w l
    unfold inF at ih ⊢
    simp only [List.map_cons, List.any_cons, ih, List.mem_cons]
    have : eqF (.str x) (.str w) = decide (w = x) := by
      rw [show eqF (.str x) (.str w) = decide (x = w) by unfold eqF; rw [← Bool.beq_eq_decide_eq]]
      by_cases h : w = x
      · rw [h]
      · rw [decide_eq_false h, decide_eq_false (fun e => h e.symm)]
    rw [this]
    by_cases h : w = x <;> simp [h]
theorem in_txL {st : Sto} (g : getL st n = some (l.map .str)) (neg : Bool) : inO neg (.str w) (.loc n) st = some (.bl (decide (w ∈ l) != neg), st) := by
  have sc : ∀ l : List Str, (l.map D.str).all scalD = true := fun l => by
    induction l with
    | nil => rfl
    | cons x l ih => simp [scalD, ih]
  unfold inO
  simp only [g]
  rw [if_pos ⟨rfl, sc l⟩, inF_tx]
/-- a text in a list of texts that is made on the spot -/
theorem et_inL (neg : Bool) (hf : Ev s f σ (.str w)) (h : ∀ st, Ext s st → ∃ st2 n, e σ st = some (.loc n, st2) ∧ Ext st st2 ∧ getL st2 n = some (l.map .str)) : Et s (cmpT (inO neg) f e) σ (decide (w ∈ l) != neg) := fun st k => by
  obtain ⟨s1, e1, x1⟩ := hf st k
  obtain ⟨s2, n, e2, x2, g2⟩ := h s1 (k.trans x1)
  exact ⟨s2, by rw [cmpT_eq, binF_eq, e1, bnd_some, e2, bnd_some, in_txL g2]; rfl, x1.trans x2⟩
end
/-! ### clean data: no places, all texts can be laid, of a known depth -/
def clN : Nat → D → Bool
  | _, .non => true
  | _, .int _ => true
  | _, .bl _ => true
  | _, .str x => PyData.strOk x
  | k + 1, .tup xs => xs.all (clN k)
  | _, _ => false
theorem clN_pu : ∀ (k : Nat) (d : D), clN k d = true → ∃ p, Pu k d p ∧ PyData.eqv p p = true
  | k, .non, _ => ⟨.none, pu_non, by simp [PyData.eqv]⟩
  | k, .int i, _ => ⟨.int i, pu_int, by simp [PyData.eqv]⟩
  | k, .bl b, _ => ⟨.bool b, ⟨fun st n => by simp only [py], by simp only [PyData.canLay0], by simp only [PyData.depth]; omega⟩, by simp [PyData.eqv]⟩
  | k, .str x, h => ⟨.str x, pu_str (by cases k <;> exact h), by simp [PyData.eqv]⟩
  | 0, .tup xs, h => by simp [clN] at h
  | 0, .loc n, h => by simp [clN] at h
  | k + 1, .loc n, h => by simp [clN] at h
  | k + 1, .tup xs, h => by
    have q : ∀ xs : List D, xs.all (clN k) = true → ∃ ps, Pus k xs ps ∧ PyData.eqvAll ps ps = true := by
      intro xs
      induction xs with
      | nil => exact fun _ => ⟨[], pus_nil, by simp [PyData.eqvAll]⟩
      | cons x xs ih =>
        intro h
        rw [List.all_cons, Bool.and_eq_true] at h
        obtain ⟨p, h1, h2⟩ := clN_pu k x h.1
        obtain ⟨ps, h3, h4⟩ := ih h.2
        exact ⟨p :: ps, pus_cons h1 h3, by rw [PyData.eqvAll, h2, h4]; rfl⟩
    obtain ⟨ps, h1, h2⟩ := q xs (by simpa only [clN] using h)
    exact ⟨.tuple ps, pu_tup h1, by rw [PyData.eqv]; exact h2⟩
theorem clN_up : ∀ {k m : Nat} {d : D}, clN k d = true → k ≤ m → clN m d = true
  | k, m, .non, _, _ => by cases m <;> rfl
  | k, m, .int i, _, _ => by cases m <;> rfl
  | k, m, .bl i, _, _ => by cases m <;> rfl
  | k, m, .str x, h, _ => by
    have : PyData.strOk x = true := by cases k <;> exact h
    cases m <;> exact this
  | 0, m, .tup xs, h, _ => by simp [clN] at h
  | 0, m, .loc xs, h, _ => by simp [clN] at h
  | k + 1, m, .loc xs, h, _ => by simp [clN] at h
  | k + 1, 0, .tup xs, h, l => absurd l (by omega)
  | k + 1, m + 1, .tup xs, h, l => by
    simp only [clN, List.all_eq_true] at h ⊢
    exact fun x hx => clN_up (h x hx) (by omega)
/-- clean data is the same as itself -/
theorem ne_self {xs : List D} {k : Nat} (h : clN k (.tup xs) = true) (hk : k ≤ 60) (neg : Bool) (st : Sto) : eqO neg (.tup xs) (.tup xs) st = some (.bl (!neg), st) := by
  obtain ⟨p, hp, he⟩ := clN_pu k _ h
  unfold eqO
  simp only [eqS, hp.1, pu_shaped hp (by omega), and_self, if_true, he]
  cases neg <;> rfl
/-! K59l.lean -/
/-! ### k59: schedules that are not possible -/
/-- a def that raises NotEnabled at n -/
def Rz (φ : Fy) (ds : List D) (n : Nat) : Prop := ∀ st, ∃ s2, φ ds st = some (.exc "NotEnabled" [.int n], s2) ∧ Ext st s2
section
variable {p : Prog} {S : D} {n : Nat} {w : Fy}
theorem run_rz (h : Rz w [p.d, S] n) : Rz (fx_run w) [p.d, S] n := fun st => by
  obtain ⟨s2, e, x⟩ := h st
  exact ⟨s2, runX_bad e, x⟩
theorem lost_rz {pe pn pa : Fx} (h : Rz w [p.d, S] n) : Rz (fx_lost_notices pe pn pa w) [p.d, S] n := fun st => by
  obtain ⟨s2, e, x⟩ := h st
  suffices q : ∃ d s3, fx_lost_notices pe pn pa w [p.d, S] st = some (d, s3) ∧ d = .exc "NotEnabled" [.int n] ∧ s3 = s2 by
    obtain ⟨d, s3, e3, rfl, rfl⟩ := q
    exact ⟨_, e3, x⟩
  refine wpx_run rfl ?_
  unfold bx_lost_notices
  exact wpx_seq (wpx_asg (d := .exc "NotEnabled" [.int n]) (st1 := s2) (by
    simp only [callX, consF_eq, nilF_eq, varF_eq, bnd_some, List.map_cons, List.cons_append, List.getElem?_cons_zero, List.getElem?_cons_succ, e]) ⟨rfl, rfl⟩)
theorem faults_rz {pi pf : Fx} (h : Rz w [p.d, S] n) : Rz (fx_faults_of pi pf w) [p.d, S] n := fun st => by
  obtain ⟨s2, e, x⟩ := h st
  suffices q : ∃ d s3, fx_faults_of pi pf w [p.d, S] st = some (d, s3) ∧ d = .exc "NotEnabled" [.int n] ∧ s3 = s2 by
    obtain ⟨d, s3, e3, rfl, rfl⟩ := q
    exact ⟨_, e3, x⟩
  refine wpx_run rfl ?_
  unfold bx_faults_of
  exact wpx_seq (wpx_asg (d := .exc "NotEnabled" [.int n]) (st1 := s2) (by
    simp only [callX, consF_eq, nilF_eq, varF_eq, bnd_some, List.map_cons, List.cons_append, List.getElem?_cons_zero, List.getElem?_cons_succ, e]) ⟨rfl, rfl⟩)
theorem outcome_rz {po : Fx} (h : Rz w [p.d, S] n) : Rz (fx_outcome po w) [p.d, S] n := fun st => by
  obtain ⟨s2, e, x⟩ := h st
  suffices q : ∃ d s3, fx_outcome po w [p.d, S] st = some (d, s3) ∧ d = .exc "NotEnabled" [.int n] ∧ s3 = s2 by
    obtain ⟨d, s3, e3, rfl, rfl⟩ := q
    exact ⟨_, e3, x⟩
  refine wpx_run rfl ?_
  unfold bx_outcome
  exact wpx_ret (d := .exc "NotEnabled" [.int n]) (st1 := s2) (by
    simp only [callAX, consAX, consX, ixX, bndX, callX, consF_eq, nilF_eq, varF_eq, bnd_some, List.map_cons, List.cons_append, List.getElem?_cons_zero, List.getElem?_cons_succ, e]) ⟨rfl, rfl⟩
theorem history_in_rz {pc : Fx} {x : D} (h : Rz w [p.d, S] n) : Rz (fx__history_in pc w) [p.d, S, x] n := fun st => by
  obtain ⟨s2, e, x'⟩ := h st
  suffices q : ∃ d s3, fx__history_in pc w [p.d, S, x] st = some (d, s3) ∧ d = .exc "NotEnabled" [.int n] ∧ s3 = s2 by
    obtain ⟨d, s3, e3, rfl, rfl⟩ := q
    exact ⟨_, e3, x'⟩
  refine wpx_run rfl ?_
  unfold bx__history_in
  exact wpx_seq (wpx_asg (d := .exc "NotEnabled" [.int n]) (st1 := s2) (by
    simp only [callX, consF_eq, nilF_eq, varF_eq, bnd_some, List.map_cons, List.cons_append, List.getElem?_cons_zero, List.getElem?_cons_succ, e]) ⟨rfl, rfl⟩)
theorem in_txT {x : Str} {l : List Str} (neg : Bool) (st : Sto) : inO neg (.str x) (.tup (l.map .str)) st = some (.bl (decide (x ∈ l) != neg), st) := by
  have sc : ∀ l : List Str, (l.map D.str).all scalD = true := fun l => by
    induction l with
    | nil => rfl
    | cons x l ih => simp [scalD, ih]
  show (if scalD (.str x) = true ∧ (l.map D.str).all scalD = true then some (D.bl (inF (.str x) (l.map .str) != neg), st) else none) = _
  rw [if_pos ⟨rfl, sc l⟩, inF_tx]
theorem check_ok {pn : Fx} {rz : Bool} (hn : SpNamesOf p pn) {x : Str} (hx : x ∈ p.nm .var) (st : Sto) : ∃ s2, fx__check_variable pn rz [p.d, .str x] st = some (.ok .non, s2) ∧ Ext st s2 := by
  suffices q : ∃ d s3, fx__check_variable pn rz [p.d, .str x] st = some (d, s3) ∧ d = .ok .non ∧ Ext st s3 by
    obtain ⟨d, s3, e, rfl, x⟩ := q
    exact ⟨s3, e, x⟩
  refine wpx_run rfl ?_
  unfold bx__check_variable
  refine wpx_ifE (b := false) (Et.of (Et.cmp (Ev.var rfl) (Ev.call (Ea.cons (Ev.var rfl) (Ea.cons Ev.cst Ea.nil)) (hn .var st)) (O2.pure fun st => in_txT (x := x) true st)) (by rw [decide_eq_true hx]; rfl)) (fun h => by cases h) (fun _ s2 x2 => wpx_lift (wp_skip ⟨rfl, x2⟩))
theorem history_rz {pn pc : Fx} {rz : Bool} (hn : SpNamesOf p pn) {x : Str} (hx : x ∈ p.nm .var) (h : Rz w [p.d, S] n) : Rz (fx_history (fx__check_variable pn rz) (fx__history_in pc w)) [p.d, S, .str x] n := fun st => by
  obtain ⟨s1, e1, x1⟩ := check_ok hn hx (rz := rz) st
  obtain ⟨s2, e2, x2⟩ := history_in_rz (pc := pc) (x := .str x) h s1
  suffices q : ∃ d s3, fx_history (fx__check_variable pn rz) (fx__history_in pc w) [p.d, S, .str x] st = some (d, s3) ∧ d = .exc "NotEnabled" [.int n] ∧ s3 = s2 by
    obtain ⟨d, s3, e3, rfl, rfl⟩ := q
    exact ⟨_, e3, x1.trans x2⟩
  refine wpx_run rfl ?_
  unfold bx_history
  refine wpx_seq (wpx_ex (d := .ok .non) (st1 := s1) (by
    simp only [callX, consF_eq, nilF_eq, varF_eq, bnd_some, List.map_cons, List.cons_append, List.getElem?_cons_zero, List.getElem?_cons_succ, e1]) ?_)
  exact wpx_ret (d := .exc "NotEnabled" [.int n]) (st1 := s2) (by
    simp only [callX, consF_eq, nilF_eq, varF_eq, bnd_some, List.map_cons, List.cons_append, List.getElem?_cons_zero, List.getElem?_cons_succ, e2]) ⟨rfl, rfl⟩
theorem refused_ok {xl xf xo xh : Fy} (hl : Rz xl [p.d, S] n) (hf : Rz xf [p.d, S] n) (ho : Rz xo [p.d, S] n) (hh : Rz xh [p.d, S, .str "y"] n) {k : Nat} (hk : k < 4) (s : Sto) :
    Rt s (f__law_refused xl xf xo xh) [.int k, p.d, S, .int n] (.bl true) := fun st _ => by
  suffices q : ∃ d s3, f__law_refused xl xf xo xh [.int k, p.d, S, .int n] st = some (d, s3) ∧ d = .bl true ∧ Ext st s3 by
    obtain ⟨d, s3, e, rfl, x⟩ := q
    exact ⟨s3, e, x⟩
  refine wp_run rfl ?_
  have hsl : List.map some [D.int k, p.d, S, .int n] ++ List.replicate (5 - 4) none = [some (.int k), some p.d, some S, some (.int n), none] := rfl
  rw [hsl]
  unfold b__law_refused
  refine wp_seq (wp_try ?_)
  have fin : ∀ s2, Ext st s2 → ∃ r s3, (retS (binF (eqO false) (fldF 0 [D.int n]) (varF 3))) ([some (.int k), some p.d, some S, some (.int n), none].set 4 none) s2 = some (r, s3) ∧ (match clrR 4 r with
      | .ret d => d = .bl true ∧ Ext st s3
      | _ => False) := fun s2 x2 => by
    refine ⟨.ret (.bl true), s2, ?_, rfl, x2⟩
    simp [fldF]
  have pass : ∀ (m : Nat) (q r : SX) (s2 : Sto) (Q : RX → Sto → Prop), k ≠ m → WpX (r [some (.int k), some p.d, some S, some (.int n), none] s2) Q → WpX (seqX (ifX (cmpT (eqO false) (varF 0) (cstF (.int m))) q (liftX nxS)) r [some (.int k), some p.d, some S, some (.int n), none] s2) Q := fun m q r s2 Q hm h =>
    wpx_seq (wpx_if (t := false) (st1 := s2) (by simp; omega) (fun h => by cases h) (fun _ => wpx_lift (wp_skip h)))
  have hit : ∀ (f : SEX) (s2 : Sto) (Q : RX → Sto → Prop), (∃ s3, f [some (.int k), some p.d, some S, some (.int n), none] s2 = some (.exc "NotEnabled" [.int n], s3) ∧ Q (.exc [some (.int k), some p.d, some S, some (.int n), none] "NotEnabled" [.int n]) s3) → WpX (ifX (cmpT (eqO false) (varF 0) (cstF (.int k))) (exX f) (liftX nxS) [some (.int k), some p.d, some S, some (.int n), none] s2) Q := fun f s2 Q ⟨s3, e, q⟩ =>
    wpx_if (t := true) (st1 := s2) (by simp) (fun _ => wpx_ex e q) (fun h => by cases h)
  have c2 : ∀ {φ : Fy}, Rz φ [p.d, S] n → ∃ s3, callX φ (consF (varF 1) (consF (varF 2) nilF)) [some (.int k), some p.d, some S, some (.int n), none] st = some (.exc "NotEnabled" [.int n], s3) ∧ Ext st s3 := fun {φ} h => by
    obtain ⟨s3, e, x⟩ := h st
    exact ⟨s3, by simp only [callX, consF_eq, nilF_eq, varF_eq, bnd_some, List.getElem?_cons_zero, List.getElem?_cons_succ, e], x⟩
  have fin2 : ∀ s2, Ext st s2 → (("NotEnabled" : Str) = "NotEnabled" ∧ 4 < [some (D.int k), some p.d, some S, some (.int n), none].length ∧ Wp ((retS (binF (eqO false) (fldF 0 [D.int n]) (varF 3))) ([some (.int k), some p.d, some S, some (.int n), none].set 4 none) s2) fun r s3 => (match clrR 4 r with
      | .ret d => d = .bl true ∧ Ext st s3
      | _ => False)) := fun s2 x2 => ⟨rfl, by simp, fin s2 x2⟩
  rcases (show k = 0 ∨ k = 1 ∨ k = 2 ∨ k = 3 by omega) with rfl | rfl | rfl | rfl
  · obtain ⟨s3, e, x⟩ := c2 hl
    exact wpx_seq (hit _ st _ ⟨s3, e, rfl, by simp, wp_mono (fin s3 x) fun r s h => by cases r <;> first | exact h | exact h.elim⟩)
  · obtain ⟨s3, e, x⟩ := c2 hf
    refine pass 0 _ _ st _ (by decide) ?_
    exact wpx_seq (hit _ st _ ⟨s3, e, rfl, by simp, wp_mono (fin s3 x) fun r s h => by cases r <;> first | exact h | exact h.elim⟩)
  · obtain ⟨s3, e, x⟩ := c2 ho
    refine pass 0 _ _ st _ (by decide) (pass 1 _ _ st _ (by decide) ?_)
    exact wpx_seq (hit _ st _ ⟨s3, e, rfl, by simp, wp_mono (fin s3 x) fun r s h => by cases r <;> first | exact h | exact h.elim⟩)
  · obtain ⟨s3, e, x⟩ := hh st
    refine pass 0 _ _ st _ (by decide) (pass 1 _ _ st _ (by decide) (pass 2 _ _ st _ (by decide) ?_))
    exact hit _ st _ ⟨s3, by simp only [callX, consF_eq, nilF_eq, varF_eq, cstF_eq, bnd_some, List.getElem?_cons_zero, List.getElem?_cons_succ, e], rfl, by simp, wp_mono (fin s3 x) fun r s h => by cases r <;> first | exact h | exact h.elim⟩
end
theorem k59_law {drawn walk cell run enab refused : Fx} (hcl : CellOk cell)
    (hdr : ∀ {st : Sto} {n : Nat} {ns : List Int}, getL st n = some (ns.map .int) → ∃ (p : Prog) (st2 : Sto), drawn [.loc n] st = some (p.d, st2) ∧ Ext st st2 ∧ ProgQ 4 p)
    (hwk : ∀ {p : Prog}, PW 1 p → ∀ {st : Sto} {n : Nat} {ns : List Int}, getL st n = some (ns.map .int) → ∀ first most : Nat, most ≤ 1000 → ∃ (sch : List Nat) (st2 : Sto), walk [p.d, .loc n, .int (first : Nat), .int (most : Nat)] st = some (.tup (sch.map natD), st2) ∧ Ext st st2 ∧ okR p p.first sch ∧ sch.length ≤ most)
    (hrun : ∀ {p : Prog}, PW 1 p → ∀ {sch : List Nat}, okR p p.first sch → sch.length ≤ 1000 → ∀ s : Sto, Rt s run [p.d, .tup (sch.map natD)] (.tup [(runS p p.first sch).d p, .tup ((runL p p.first sch).map Stp.d)]))
    (hen : ∀ {p : Prog}, PW 1 p → SpEnabled p enab)
    (href : ∀ {p : Prog}, ProgQ 4 p → ∀ (l1 : List Nat) (k : Nat) (l2 : List Nat), okR p p.first l1 → k < p.T.length → p.ena (runS p p.first l1) k = false → (l1 ++ k :: l2).length ≤ 1000 → ∀ m : Nat, m < 4 → ∀ s : Sto, Rt s refused [.int m, p.d, .tup ((l1 ++ k :: l2).map natD), .int l1.length] (.bl true)) :
    ∀ ns : List Int, ns.length ≤ 63 → ∃ st', runF 7 1 (b_law drawn walk cell run enab refused) [.loc 0] [.frz (ns.map .int)] = some (.bl true, st') := by
  intro ns hns
  suffices q : ∃ d s, runF 7 1 (b_law drawn walk cell run enab refused) [.loc 0] [.frz (ns.map .int)] = some (d, s) ∧ d = .bl true by
    obtain ⟨d, s, e, rfl⟩ := q
    exact ⟨s, e⟩
  have g0 : getL [OB.frz (ns.map .int)] 0 = some (ns.map .int) := rfl
  obtain ⟨p, s1, e1, x1, hq⟩ := hdr g0
  have hp := hq.pw (by decide)
  refine wp_run rfl ?_
  unfold b_law
  have hsl : List.map some [D.loc 0] ++ List.replicate (7 - 1) none = [some (.loc 0), none, none, none, none, none, none] := rfl
  rw [hsl]
  refine wp_nx (σ1 := [some (.loc 0), some p.d, none, none, none, none, none]) (st1 := s1) (by simp only [asgS_eq, callF_eq, consF_eq, nilF_eq, varF_eq, bnd_some, List.getElem?_cons_zero, e1]; rfl) ?_
  have g1 := x1.getL g0
  obtain ⟨m, hm, hm7⟩ : ∃ m : Nat, ns.getD 20 0 % 7 = m ∧ m < 7 := ⟨(ns.getD 20 0 % 7).toNat, by omega, by omega⟩
  obtain ⟨sch, s2, e2, x2, ok, hl6⟩ := hwk hp g1 10 m (by omega)
  have e2' : walk [p.d, .loc 0, .int 10, .int (m : Nat)] s1 = some (.tup (sch.map natD), s2) := e2
  have ec : cell [.loc 0, .int 20] s1 = some (.int (ns.getD 20 0), s1) := hcl s1 0 ns g1 20
  have em : modO (.int (ns.getD 20 0)) (.int 7) s1 = some (.int (m : Nat), s1) := by rw [modO_int, if_pos (show cPos (ns.getD 20 0) 7 = true from rfl), hm]
  refine wp_nx (σ1 := [some (.loc 0), some p.d, some (.tup (sch.map natD)), none, none, none, none]) (st1 := s2) (by
    simp only [asgS_eq, callF_eq, consF_eq, nilF_eq, varF_eq, cstF_eq, binF_eq, appF_eq, bnd_some, List.getElem?_cons_zero, List.getElem?_cons_succ, ec, intOf_int, em, e2']; rfl) ?_
  refine wp_asE (d := (runS p p.first sch).d p) (Ev.bin (Ev.call (Ea.cons (Ev.var rfl) (Ea.cons (Ev.var rfl) Ea.nil)) (hrun hp ok (by omega) s2)) Ev.cst o_ix0) fun s3 x3 => ?_
  have inv := run_inv hp sch (first_inv hp) ok
  let mores : List (List Nat) := [[], [0], [1, 0]]
  let mD : List Nat → D := fun l => .tup (l.map natD)
  have hlp : ∀ s, ON s lenO [.tup (p.T.map thrD)] (.int p.T.length) := fun s => by
    have := o_len (s := s) (xs := p.T.map thrD)
    rwa [List.length_map] at this
  refine wp_seq (wp_forR (v := p.T.length) (fun j σ s => ∃ y4 y5 y6, σ = [some (.loc 0), some p.d, some (.tup (sch.map natD)), some ((runS p p.first sch).d p), y4, y5, y6]) (Ea.cons (Ev.app (Ea.cons (Ev.bin (Ev.var rfl) Ev.cst o_p1) Ea.nil) (hlp _)) Ea.nil) (by have := hq.few; omega) (fun s4 x4 => ⟨_, _, _, rfl⟩) ?_ ?_)
  · rintro k σ s hk ⟨y4, y5, y6, rfl⟩
    refine ⟨[some (.loc 0), some p.d, some (.tup (sch.map natD)), some ((runS p p.first sch).d p), some (.int (k : Nat)), y5, y6], rfl, ?_⟩
    have hin : decide (k ∈ p.enL (runS p p.first sch)) = p.ena (runS p p.first sch) k := by
      rw [Bool.eq_iff_iff, decide_eq_true_eq, ena_mem]; exact ⟨fun h => h.2, fun h => ⟨hk, h⟩⟩
    refine wp_ifE (b := !p.ena (runS p p.first sch) k) (Et.of (Et.cmp (Ev.var rfl) (Ev.call (xs := [p.d, (runS p p.first sch).d p]) (Ea.cons (Ev.var rfl) (Ea.cons (Ev.var rfl) Ea.nil)) (hen hp _ inv s)) o_ninN) (by rw [hin])) (fun hb s4 x4 => ?_) (fun _ s4 x4 => wp_skip ⟨_, _, _, rfl⟩)
    have hb : p.ena (runS p p.first sch) k = false := by simpa using hb
    obtain ⟨s5, n5, e5, x5, g5⟩ := (Lv.lst (xs := mores.map mD) (σ := [some (.loc 0), some p.d, some (.tup (sch.map natD)), some ((runS p p.first sch).d p), some (.int (k : Nat)), y5, y6]) (a := consF (tupF nilF) (consF (tupF (consF (cstF (.int 0)) nilF)) (consF (tupF (consF (cstF (.int 1)) (consF (cstF (.int 0)) nilF))) nilF))) (Ea.cons (Ev.tup Ea.nil rfl) (Ea.cons (Ev.tup (Ea.cons Ev.cst Ea.nil) rfl) (Ea.cons (Ev.tup (Ea.cons Ev.cst (Ea.cons Ev.cst Ea.nil)) rfl) Ea.nil))) (by show 3 ≤ 1000000; decide)) s4 Ext.refl
    refine wp_forL (n := n5) (st1 := s5) (xs := mores.map mD) (fun j σ s => Ext s5 s ∧ ∃ y5 y6, σ = [some (.loc 0), some p.d, some (.tup (sch.map natD)), some ((runS p p.first sch).d p), some (.int (k : Nat)), y5, y6]) (by simp only [anyI_eq, e5, bnd_some, getL_of g5, Option.map_some]) (getL_of g5) ⟨Ext.refl, _, _, rfl⟩ (fun j σ s h => h.1.getL (getL_of g5)) ?_ ?_
    · rintro j σ s6 d hd ⟨x6, z5, z6, rfl⟩
      rw [List.getElem?_map] at hd
      cases em : mores[j]? with
      | none => rw [em] at hd; cases hd
      | some l2 =>
      rw [em] at hd
      cases hd
      have hl2 : l2.length ≤ 2 := by
        have := List.mem_of_getElem? em
        simp only [mores, List.mem_cons, List.not_mem_nil, or_false] at this
        rcases this with rfl | rfl | rfl <;> decide
      refine ⟨[some (.loc 0), some p.d, some (.tup (sch.map natD)), some ((runS p p.first sch).d p), some (.int (k : Nat)), some (mD l2), z6], rfl, ?_⟩
      refine wp_forR (v := 4) (fun i σ s => Ext s5 s ∧ ∃ z6, σ = [some (.loc 0), some p.d, some (.tup (sch.map natD)), some ((runS p p.first sch).d p), some (.int (k : Nat)), some (mD l2), z6]) (Ea.cons Ev.cst Ea.nil) (by decide) (fun s7 x7 => ⟨x6.trans x7, _, rfl⟩) ?_ ?_
      · rintro i σ s7 hi ⟨x7, z6, rfl⟩
        refine ⟨[some (.loc 0), some p.d, some (.tup (sch.map natD)), some ((runS p p.first sch).d p), some (.int (k : Nat)), some (mD l2), some (.int (i : Nat))], rfl, ?_⟩
        have hr := href hq sch k l2 ok hk hb (by simp; omega) i hi s7
        have nN : ∀ l : List Nat, nst (l.map natD) = false := fun l => by
          cases l with
          | nil => rfl
          | cons a l => simp [nst, natD, strD]
        have esch : Ev s7 (binF addO (binF addO (varF 2) (tupF (consF (varF 4) nilF))) (varF 5)) [some (.loc 0), some p.d, some (.tup (sch.map natD)), some ((runS p p.first sch).d p), some (.int (k : Nat)), some (mD l2), some (.int (i : Nat))] (.tup ((sch ++ k :: l2).map natD)) := by
          have q : ((sch ++ k :: l2).map natD) = (sch.map natD ++ [natD k]) ++ l2.map natD := by simp
          rw [q]
          refine Ev.bin (Ev.bin (Ev.var rfl) (Ev.tup (Ea.cons (Ev.var rfl) Ea.nil) rfl) (o_cat (by simp; omega) ?_)) (Ev.var rfl) (o_cat (by simp; omega) ?_)
          · have := nN (sch ++ [k]); rwa [List.map_append] at this
          · have := nN (sch ++ [k] ++ l2); rwa [List.map_append, List.map_append] at this
        have elen : Ev s7 (appF lenO (consF (varF 2) nilF)) [some (.loc 0), some p.d, some (.tup (sch.map natD)), some ((runS p p.first sch).d p), some (.int (k : Nat)), some (mD l2), some (.int (i : Nat))] (.int sch.length) := by
          have := Ev.app (Ea.cons (Ev.var (s := s7) (σ := [some (.loc 0), some p.d, some (.tup (sch.map natD)), some ((runS p p.first sch).d p), some (.int (k : Nat)), some (mD l2), some (.int (i : Nat))]) (i := 2) rfl) Ea.nil) (o_len (s := s7) (xs := sch.map natD))
          rwa [List.length_map] at this
        refine wp_ifE (b := false) (Et.not (b := true) (Et.tru (Ev.call (Ea.cons (Ev.var rfl) (Ea.cons (Ev.var rfl) (Ea.cons esch (Ea.cons elen Ea.nil)))) hr) fun _ => rfl)) (fun h => by cases h) (fun _ s8 x8 => wp_skip ⟨x7.trans x8, _, rfl⟩)
      · rintro σ s7 ⟨x7, z6, rfl⟩
        exact ⟨x7, _, _, rfl⟩
    · rintro σ s6 ⟨x6, z5, z6, rfl⟩
      exact ⟨_, _, _, rfl⟩
  · rintro σ s ⟨y4, y5, y6, rfl⟩
    exact wp_ret (d := .bl true) (st1 := s) rfl rfl
abbrev top (i : Nat) : Stmt := PySem.Challenge.pw_everyturn_k59_schedules_that_are_not_pos.main.body.getD i (.Pass ⟨0, 0, 0, 0⟩)
def clsInit (s : Stmt) : Stmt := match s with
  | .ClassDef _ _ _ b _ _ _ _ _ _ _ => b.getD 0 (.Pass ⟨0, 0, 0, 0⟩)
  | s => s
abbrev s_is_value : Stmt := top 3
abbrev N_is_value : List Str := ["n"]
theorem sc_is_value : FnScope N_is_value ["n"] (defScope s_is_value) := ⟨rfl, rfl, rfl, by decide +kernel, rfl, by decide +kernel, by decide +kernel⟩
abbrev s_operate : Stmt := top 4
abbrev N_operate : List Str := ["sign", "x", "y", "result"]
theorem sc_operate : FnScope N_operate ["sign", "x", "y"] (defScope s_operate) := ⟨rfl, rfl, rfl, by decide +kernel, rfl, by decide +kernel, by decide +kernel⟩
abbrev s__holds : Stmt := top 5
abbrev N__holds : List Str := ["sign", "x", "y"]
theorem sc__holds : FnScope N__holds ["sign", "x", "y"] (defScope s__holds) := ⟨rfl, rfl, rfl, by decide +kernel, rfl, by decide +kernel, by decide +kernel⟩
abbrev s_evaluate : Stmt := top 9
abbrev N_evaluate : List Str := ["tree", "registers", "operands", "values", "operand", "result"]
theorem sc_evaluate : FnScope N_evaluate ["tree", "registers"] (defScope s_evaluate) := ⟨rfl, rfl, rfl, by decide +kernel, rfl, by decide +kernel, by decide +kernel⟩
abbrev s_expression_of : Stmt := top 14
abbrev N_expression_of : List Str := ["instruction", "at"]
theorem sc_expression_of : FnScope N_expression_of ["instruction"] (defScope s_expression_of) := ⟨rfl, rfl, rfl, by decide +kernel, rfl, by decide +kernel, by decide +kernel⟩
abbrev s_thing_of : Stmt := top 15
abbrev N_thing_of : List Str := ["instruction", "at"]
theorem sc_thing_of : FnScope N_thing_of ["instruction"] (defScope s_thing_of) := ⟨rfl, rfl, rfl, by decide +kernel, rfl, by decide +kernel, by decide +kernel⟩
abbrev s_kind_needed : Stmt := top 16
abbrev N_kind_needed : List Str := ["instruction"]
theorem sc_kind_needed : FnScope N_kind_needed ["instruction"] (defScope s_kind_needed) := ⟨rfl, rfl, rfl, by decide +kernel, rfl, by decide +kernel, by decide +kernel⟩
abbrev s_kind_of : Stmt := top 22
abbrev N_kind_of : List Str := ["program", "name", "thing"]
theorem sc_kind_of : FnScope N_kind_of ["program", "name"] (defScope s_kind_of) := ⟨rfl, rfl, rfl, by decide +kernel, rfl, by decide +kernel, by decide +kernel⟩
abbrev s_names_of : Stmt := top 23
abbrev N_names_of : List Str := ["program", "kind", "thing"]
theorem sc_names_of : FnScope N_names_of ["program", "kind"] (defScope s_names_of) := ⟨rfl, rfl, rfl, by decide +kernel, rfl, by decide +kernel, by decide +kernel⟩
abbrev s_lock_of : Stmt := top 24
abbrev N_lock_of : List Str := ["program", "cond", "thing"]
theorem sc_lock_of : FnScope N_lock_of ["program", "cond"] (defScope s_lock_of) := ⟨rfl, rfl, rfl, by decide +kernel, rfl, by decide +kernel, by decide +kernel⟩
abbrev s_first_state : Stmt := top 28
abbrev N_first_state : List Str := ["program", "shared", "threads", "thing", "instructions"]
theorem sc_first_state : FnScope N_first_state ["program"] (defScope s_first_state) := ⟨rfl, rfl, rfl, by decide +kernel, rfl, by decide +kernel, by decide +kernel⟩
abbrev s_enabled : Stmt := top 29
abbrev N_enabled : List Str := ["program", "state", "threads", "thread"]
theorem sc_enabled : FnScope N_enabled ["program", "state"] (defScope s_enabled) := ⟨rfl, rfl, rfl, by decide +kernel, rfl, by decide +kernel, by decide +kernel⟩
abbrev s__is_at_work : Stmt := top 32
abbrev N__is_at_work : List Str := ["program", "state", "thread", "pc", "_", "mode"]
theorem sc__is_at_work : FnScope N__is_at_work ["program", "state", "thread"] (defScope s__is_at_work) := ⟨rfl, rfl, rfl, by decide +kernel, rfl, by decide +kernel, by decide +kernel⟩
abbrev s__hindrance : Stmt := top 33
abbrev N__hindrance : List Str := ["program", "state", "thread", "pc", "registers", "mode", "_", "instruction", "name", "hinders"]
theorem sc__hindrance : FnScope N__hindrance ["program", "state", "thread"] (defScope s__hindrance) := ⟨rfl, rfl, rfl, by decide +kernel, rfl, by decide +kernel, by decide +kernel⟩
abbrev s__is_full : Stmt := top 34
abbrev N__is_full : List Str := ["program", "state", "queue", "sizes", "thing"]
theorem sc__is_full : FnScope N__is_full ["program", "state", "queue"] (defScope s__is_full) := ⟨rfl, rfl, rfl, by decide +kernel, rfl, by decide +kernel, by decide +kernel⟩
abbrev s_content_of : Stmt := top 35
abbrev N_content_of : List Str := ["program", "state", "name", "kind"]
theorem sc_content_of : FnScope N_content_of ["program", "state", "name"] (defScope s_content_of) := ⟨rfl, rfl, rfl, by decide +kernel, rfl, by decide +kernel, by decide +kernel⟩
abbrev s__with_content : Stmt := top 36
abbrev N__with_content : List Str := ["program", "state", "name", "content", "kind", "part"]
theorem sc__with_content : FnScope N__with_content ["program", "state", "name", "content"] (defScope s__with_content) := ⟨rfl, rfl, rfl, by decide +kernel, rfl, by decide +kernel, by decide +kernel⟩
abbrev s__with_thread : Stmt := top 37
abbrev N__with_thread : List Str := ["state", "thread", "entry"]
theorem sc__with_thread : FnScope N__with_thread ["state", "thread", "entry"] (defScope s__with_thread) := ⟨rfl, rfl, rfl, by decide +kernel, rfl, by decide +kernel, by decide +kernel⟩
abbrev s__with_mode : Stmt := top 38
abbrev N__with_mode : List Str := ["state", "thread", "mode", "pc", "registers", "_", "word"]
theorem sc__with_mode : FnScope N__with_mode ["state", "thread", "mode"] (defScope s__with_mode) := ⟨rfl, rfl, rfl, by decide +kernel, rfl, by decide +kernel, by decide +kernel⟩
abbrev s__with_register : Stmt := top 39
abbrev N__with_register : List Str := ["state", "thread", "letter", "value", "pc", "registers", "mode", "word", "changed"]
theorem sc__with_register : FnScope N__with_register ["state", "thread", "letter", "value"] (defScope s__with_register) := ⟨rfl, rfl, rfl, by decide +kernel, rfl, by decide +kernel, by decide +kernel⟩
abbrev s__replaced : Stmt := top 40
abbrev N__replaced : List Str := ["row", "at", "item"]
theorem sc__replaced : FnScope N__replaced ["row", "at", "item"] (defScope s__replaced) := ⟨rfl, rfl, rfl, by decide +kernel, rfl, by decide +kernel, by decide +kernel⟩
abbrev s_make_step : Stmt := top 41
abbrev N_make_step : List Str := ["program", "state", "thread", "pc", "registers", "mode", "_", "instruction", "tree", "value", "changed", "word", "behind"]
theorem sc_make_step : FnScope N_make_step ["program", "state", "thread"] (defScope s_make_step) := ⟨rfl, rfl, rfl, by decide +kernel, rfl, by decide +kernel, by decide +kernel⟩
abbrev s__take_lock_again : Stmt := top 42
abbrev N__take_lock_again : List Str := ["program", "state", "thread", "pc", "cond", "lock", "owned"]
theorem sc__take_lock_again : FnScope N__take_lock_again ["program", "state", "thread"] (defScope s__take_lock_again) := ⟨rfl, rfl, rfl, by decide +kernel, rfl, by decide +kernel, by decide +kernel⟩
abbrev s__failed : Stmt := top 43
abbrev N__failed : List Str := ["state", "thread", "word", "pc", "registers", "_"]
theorem sc__failed : FnScope N__failed ["state", "thread", "word"] (defScope s__failed) := ⟨rfl, rfl, rfl, by decide +kernel, rfl, by decide +kernel, by decide +kernel⟩
abbrev s__touches : Stmt := top 44
abbrev N__touches : List Str := ["program", "instruction", "name"]
theorem sc__touches : FnScope N__touches ["program", "instruction"] (defScope s__touches) := ⟨rfl, rfl, rfl, by decide +kernel, rfl, by decide +kernel, by decide +kernel⟩
abbrev s__moved_on : Stmt := top 45
abbrev N__moved_on : List Str := ["program", "state", "thread", "value", "pc", "instruction", "moved"]
theorem sc__moved_on : FnScope N__moved_on ["program", "state", "thread", "value"] (defScope s__moved_on) := ⟨rfl, rfl, rfl, by decide +kernel, rfl, by decide +kernel, by decide +kernel⟩
abbrev s__moved_to : Stmt := top 46
abbrev N__moved_to : List Str := ["program", "state", "thread", "pc", "_", "registers", "mode", "word", "at_end"]
theorem sc__moved_to : FnScope N__moved_to ["program", "state", "thread", "pc"] (defScope s__moved_to) := ⟨rfl, rfl, rfl, by decide +kernel, rfl, by decide +kernel, by decide +kernel⟩
abbrev s__effect : Stmt := top 47
abbrev N__effect : List Str := ["program", "state", "thread", "value", "instruction", "kind"]
theorem sc__effect : FnScope N__effect ["program", "state", "thread", "value"] (defScope s__effect) := ⟨rfl, rfl, rfl, by decide +kernel, rfl, by decide +kernel, by decide +kernel⟩
abbrev s__use_variable : Stmt := top 48
abbrev N__use_variable : List Str := ["program", "state", "thread", "instruction", "value", "name", "held", "result"]
theorem sc__use_variable : FnScope N__use_variable ["program", "state", "thread", "instruction", "value"] (defScope s__use_variable) := ⟨rfl, rfl, rfl, by decide +kernel, rfl, by decide +kernel, by decide +kernel⟩
abbrev s__use_lock : Stmt := top 49
abbrev N__use_lock : List Str := ["program", "state", "thread", "instruction", "name"]
theorem sc__use_lock : FnScope N__use_lock ["program", "state", "thread", "instruction"] (defScope s__use_lock) := ⟨rfl, rfl, rfl, by decide +kernel, rfl, by decide +kernel, by decide +kernel⟩
abbrev s__use_condition : Stmt := top 50
abbrev N__use_condition : List Str := ["program", "state", "thread", "instruction", "name", "waiting", "lock", "free", "many", "changed", "other"]
theorem sc__use_condition : FnScope N__use_condition ["program", "state", "thread", "instruction"] (defScope s__use_condition) := ⟨rfl, rfl, rfl, by decide +kernel, rfl, by decide +kernel, by decide +kernel⟩
abbrev s__use_queue : Stmt := top 51
abbrev N__use_queue : List Str := ["program", "state", "thread", "instruction", "value", "name", "items", "taken"]
theorem sc__use_queue : FnScope N__use_queue ["program", "state", "thread", "instruction", "value"] (defScope s__use_queue) := ⟨rfl, rfl, rfl, by decide +kernel, rfl, by decide +kernel, by decide +kernel⟩
abbrev s_run : Stmt := top 53
abbrev N_run : List Str := ["program", "schedule", "states", "steps"]
theorem sc_run : FnScope N_run ["program", "schedule"] (defScope s_run) := ⟨rfl, rfl, rfl, by decide +kernel, rfl, by decide +kernel, by decide +kernel⟩
abbrev s_walk : Stmt := top 54
abbrev N_walk : List Str := ["program", "schedule", "states", "steps", "at", "thread", "state", "step"]
theorem sc_walk : FnScope N_walk ["program", "schedule"] (defScope s_walk) := ⟨rfl, rfl, rfl, by decide +kernel, rfl, by decide +kernel, by decide +kernel⟩
abbrev s_lost_notices : Stmt := top 57
abbrev N_lost_notices : List Str := ["program", "schedule", "states", "steps", "last", "found", "state", "step", "name"]
theorem sc_lost_notices : FnScope N_lost_notices ["program", "schedule"] (defScope s_lost_notices) := ⟨rfl, rfl, rfl, by decide +kernel, rfl, by decide +kernel, by decide +kernel⟩
abbrev s__noticed : Stmt := top 58
abbrev N__noticed : List Str := ["program", "step", "instruction"]
theorem sc__noticed : FnScope N__noticed ["program", "step"] (defScope s__noticed) := ⟨rfl, rfl, rfl, by decide +kernel, rfl, by decide +kernel, by decide +kernel⟩
abbrev s__is_awaited : Stmt := top 59
abbrev N__is_awaited : List Str := ["program", "state", "cond"]
theorem sc__is_awaited : FnScope N__is_awaited ["program", "state", "cond"] (defScope s__is_awaited) := ⟨rfl, rfl, rfl, by decide +kernel, rfl, by decide +kernel, by decide +kernel⟩
abbrev s_faults_of : Stmt := top 83
abbrev N_faults_of : List Str := ["program", "schedule", "state", "steps"]
theorem sc_faults_of : FnScope N_faults_of ["program", "schedule"] (defScope s_faults_of) := ⟨rfl, rfl, rfl, by decide +kernel, rfl, by decide +kernel, by decide +kernel⟩
abbrev s__faults_in : Stmt := top 84
abbrev N__faults_in : List Str := ["program", "schedule", "steps", "state", "of_steps"]
theorem sc__faults_in : FnScope N__faults_in ["program", "schedule", "steps", "state"] (defScope s__faults_in) := ⟨rfl, rfl, rfl, by decide +kernel, rfl, by decide +kernel, by decide +kernel⟩
abbrev s__in_order : Stmt := top 85
abbrev N__in_order : List Str := ["faults", "fault"]
theorem sc__in_order : FnScope N__in_order ["faults"] (defScope s__in_order) := ⟨rfl, rfl, rfl, by decide +kernel, rfl, by decide +kernel, by decide +kernel⟩
abbrev s_outcome : Stmt := top 88
abbrev N_outcome : List Str := ["program", "schedule"]
theorem sc_outcome : FnScope N_outcome ["program", "schedule"] (defScope s_outcome) := ⟨rfl, rfl, rfl, by decide +kernel, rfl, by decide +kernel, by decide +kernel⟩
abbrev s__outcome_in : Stmt := top 89
abbrev N__outcome_in : List Str := ["program", "state", "entry"]
theorem sc__outcome_in : FnScope N__outcome_in ["program", "state"] (defScope s__outcome_in) := ⟨rfl, rfl, rfl, by decide +kernel, rfl, by decide +kernel, by decide +kernel⟩
abbrev s_history : Stmt := top 91
abbrev N_history : List Str := ["program", "schedule", "name"]
theorem sc_history : FnScope N_history ["program", "schedule", "name"] (defScope s_history) := ⟨rfl, rfl, rfl, by decide +kernel, rfl, by decide +kernel, by decide +kernel⟩
abbrev s__check_variable : Stmt := top 92
abbrev N__check_variable : List Str := ["program", "name"]
theorem sc__check_variable : FnScope N__check_variable ["program", "name"] (defScope s__check_variable) := ⟨rfl, rfl, rfl, by decide +kernel, rfl, by decide +kernel, by decide +kernel⟩
abbrev s__history_in : Stmt := top 93
abbrev N__history_in : List Str := ["program", "schedule", "name", "states", "steps", "found", "behind", "step"]
theorem sc__history_in : FnScope N__history_in ["program", "schedule", "name"] (defScope s__history_in) := ⟨rfl, rfl, rfl, by decide +kernel, rfl, by decide +kernel, by decide +kernel⟩
abbrev s__law_cell : Stmt := top 95
abbrev N__law_cell : List Str := ["script", "k"]
theorem sc__law_cell : FnScope N__law_cell ["script", "k"] (defScope s__law_cell) := ⟨rfl, rfl, rfl, by decide +kernel, rfl, by decide +kernel, by decide +kernel⟩
abbrev s__law_digits : Stmt := top 96
abbrev N__law_digits : List Str := ["cell", "k", "most", "digits", "turn", "seed"]
theorem sc__law_digits : FnScope N__law_digits ["cell", "k", "most"] (defScope s__law_digits) := ⟨rfl, rfl, rfl, by decide +kernel, rfl, by decide +kernel, by decide +kernel⟩
abbrev s__law_padded : Stmt := top 97
abbrev N__law_padded : List Str := ["cell", "k", "d", "turn"]
theorem sc__law_padded : FnScope N__law_padded ["cell", "k"] (defScope s__law_padded) := ⟨rfl, rfl, rfl, by decide +kernel, rfl, by decide +kernel, by decide +kernel⟩
abbrev s__law_things : Stmt := top 98
abbrev N__law_things : List Str := []
theorem sc__law_things : FnScope N__law_things [] (defScope s__law_things) := ⟨rfl, rfl, rfl, by decide +kernel, rfl, by decide +kernel, by decide +kernel⟩
abbrev s__law_piece : Stmt := top 99
abbrev N__law_piece : List Str := ["digit", "pc", "add", "less", "pieces"]
theorem sc__law_piece : FnScope N__law_piece ["digit", "pc"] (defScope s__law_piece) := ⟨rfl, rfl, rfl, by decide +kernel, rfl, by decide +kernel, by decide +kernel⟩
abbrev s__law_program : Stmt := top 100
abbrev N__law_program : List Str := ["script", "sizes", "found", "k", "d", "code", "j", "piece"]
theorem sc__law_program : FnScope N__law_program ["script", "sizes"] (defScope s__law_program) := ⟨rfl, rfl, rfl, by decide +kernel, rfl, by decide +kernel, by decide +kernel⟩
abbrev s__law_drawn : Stmt := top 101
abbrev N__law_drawn : List Str := ["script"]
theorem sc__law_drawn : FnScope N__law_drawn ["script"] (defScope s__law_drawn) := ⟨rfl, rfl, rfl, by decide +kernel, rfl, by decide +kernel, by decide +kernel⟩
abbrev s__law_walk : Stmt := top 102
abbrev N__law_walk : List Str := ["program", "script", "first", "most", "state", "schedule", "k", "threads", "thread"]
theorem sc__law_walk : FnScope N__law_walk ["program", "script", "first", "most"] (defScope s__law_walk) := ⟨rfl, rfl, rfl, by decide +kernel, rfl, by decide +kernel, by decide +kernel⟩
abbrev s__law_refused : Stmt := top 103
abbrev N__law_refused : List Str := ["kind", "program", "schedule", "at", "e"]
theorem sc__law_refused : FnScope N__law_refused ["kind", "program", "schedule", "at"] (defScope s__law_refused) := ⟨rfl, rfl, rfl, by decide +kernel, rfl, by decide +kernel, by decide +kernel⟩
abbrev s_law : Stmt := top 104
abbrev N_law : List Str := ["script", "program", "schedule", "state", "thread", "more", "kind"]
theorem sc_law : FnScope N_law ["script"] (defScope s_law) := ⟨rfl, rfl, rfl, by decide +kernel, rfl, by decide +kernel, by decide +kernel⟩
abbrev s_init_NotEnabled : Stmt := clsInit (top 19)
theorem sc_init_NotEnabled : FnScope ("self" :: flds "NotEnabled") ("self" :: flds "NotEnabled") (defScope s_init_NotEnabled) := ⟨rfl, rfl, rfl, by decide +kernel, rfl, by decide +kernel, by decide +kernel⟩
abbrev s_init_NoSuchPlace : Stmt := clsInit (top 20)
theorem sc_init_NoSuchPlace : FnScope ("self" :: flds "NoSuchPlace") ("self" :: flds "NoSuchPlace") (defScope s_init_NoSuchPlace) := ⟨rfl, rfl, rfl, by decide +kernel, rfl, by decide +kernel, by decide +kernel⟩
theorem d_is_value {P : Program} {w : World} {K : PySem.W.Frag} {mg : Str → Option Value} {base : Heap} {k : Nat}     (k_LEAST : Con K mg "LEAST" c_LEAST) (k_GREATEST : Con K mg "GREATEST" c_GREATEST)  (f : Addr) (cdv : Value) (A : Around) (outer : List PySem.Env) (s : Shared) (H : Hp) (E : XK) (hr : Room k (A.deeper (PyProof.Rows.envOfC "is_value" (defScope s_is_value) s.heap.objs.size f cdv))) :
    PSs (cxOf CX0 P w K mg base N_is_value "is_value" (defScope s_is_value) f cdv A outer s H E).nox (defBody s_is_value) (rdS K w (b_is_value )) := by
  have nd := sc_is_value.nd
  exact (ss_one (ss_ret (e_chain cm_le cm_le (e_con k_LEAST rfl) (se_var (pv 0)) (e_con k_GREATEST rfl))))
theorem d_operate {P : Program} {w : World} {K : PySem.W.Frag} {mg : Str → Option Value} {base : Heap} {k : Nat} {p__holds : Fx} (C__holds : Cal P w K mg base k "_holds" ["sign", "x", "y"] p__holds) {p_is_value : Fx} (C_is_value : Cal P w K mg base k "is_value" ["n"] p_is_value)     (z_int : mg "int" = none) (f : Addr) (cdv : Value) (A : Around) (outer : List PySem.Env) (s : Shared) (H : Hp) (E : XK) (hr : Room k (A.deeper (PyProof.Rows.envOfC "operate" (defScope s_operate) s.heap.objs.size f cdv))) :
    PSs (cxOf CX0 P w K mg base N_operate "operate" (defScope s_operate) f cdv A outer s H E).nox (defBody s_operate) (rdS K w (b_operate p__holds p_is_value)) := by
  have nd := sc_operate.nd
  exact (ss_cons (ss_if (t_cmp (cm_eq (r64 hr)) (se_var (pv 0)) se_str) (ss_one (ss_set (i := 3) nd rfl (by first | exact Or.inl rfl | exact Or.inr rfl) (e_add (se_var (pv 1)) (se_var (pv 2))))) (ss_one (ss_if (t_cmp (cm_eq (r64 hr)) (se_var (pv 0)) se_str) (ss_one (ss_set (i := 3) nd rfl (by first | exact Or.inl rfl | exact Or.inr rfl) (e_sub (se_var (pv 1)) (se_var (pv 2))))) (ss_one (ss_if (t_cmp (cm_eq (r64 hr)) (se_var (pv 0)) se_str) (ss_one (ss_set (i := 3) nd rfl (by first | exact Or.inl rfl | exact Or.inr rfl) (e_mul (se_var (pv 1)) (se_var (pv 2))))) (ss_one (ss_set (i := 3) nd rfl (by first | exact Or.inl rfl | exact Or.inr rfl) (e_int rfl z_int (sa_cons (e_call C__holds hr rfl (sa_cons (se_var (pv 0)) (sa_cons (se_var (pv 1)) (sa_cons (se_var (pv 2)) sa_nil)))) sa_nil)))))))))
  (ss_one (ss_ret (se_if (st_tru (e_call C_is_value hr rfl (sa_cons (se_var (pv 3)) sa_nil))) (se_var (pv 3)) se_non))))
theorem d__holds {P : Program} {w : World} {K : PySem.W.Frag} {mg : Str → Option Value} {base : Heap} {k : Nat}       (f : Addr) (cdv : Value) (A : Around) (outer : List PySem.Env) (s : Shared) (H : Hp) (E : XK) (hr : Room k (A.deeper (PyProof.Rows.envOfC "_holds" (defScope s__holds) s.heap.objs.size f cdv))) :
    PSs (cxOf CX0 P w K mg base N__holds "_holds" (defScope s__holds) f cdv A outer s H E).nox (defBody s__holds) (rdS K w (b__holds )) := by
  have nd := sc__holds.nd
  exact (ss_cons (ss_if (t_cmp (cm_eq (r64 hr)) (se_var (pv 0)) se_str) (ss_one (ss_ret (e_cmp (cm_eq (r64 hr)) (se_var (pv 1)) (se_var (pv 2))))) ss_nil)
  (ss_cons (ss_if (t_cmp (cm_eq (r64 hr)) (se_var (pv 0)) se_str) (ss_one (ss_ret (e_cmp cm_lt (se_var (pv 1)) (se_var (pv 2))))) ss_nil)
  (ss_cons (ss_if (t_cmp (cm_eq (r64 hr)) (se_var (pv 0)) se_str) (ss_one (ss_ret (se_and (e_cmp (cm_ne (r64 hr)) (se_var (pv 1)) se_int) (se_one (e_cmp (cm_ne (r64 hr)) (se_var (pv 2)) se_int))))) ss_nil)
  (ss_one (ss_ret (se_or (e_cmp (cm_ne (r64 hr)) (se_var (pv 1)) se_int) (se_one (e_cmp (cm_ne (r64 hr)) (se_var (pv 2)) se_int))))))))
theorem d_evaluate {P : Program} {w : World} {K : PySem.W.Frag} {mg : Str → Option Value} {base : Heap} {k : Nat} {p_evaluate : Fx} (C_evaluate : Cal P w K mg base k "evaluate" ["tree", "registers"] p_evaluate) {p_operate : Fx} (C_operate : Cal P w K mg base k "operate" ["sign", "x", "y"] p_operate)    (k_REGISTERS : Con K mg "REGISTERS" c_REGISTERS) (t_REGISTERS : ConT K mg "REGISTERS" c_REGISTERS) (k_RANGE : Con K mg "RANGE" c_RANGE) (z_int : mg "int" = none) (f : Addr) (cdv : Value) (A : Around) (outer : List PySem.Env) (s : Shared) (H : Hp) (E : XK) (hr : Room k (A.deeper (PyProof.Rows.envOfC "evaluate" (defScope s_evaluate) s.heap.objs.size f cdv))) :
    PSs (cxOf CX0 P w K mg base N_evaluate "evaluate" (defScope s_evaluate) f cdv A outer s H E).nox (defBody s_evaluate) (rdS K w (b_evaluate p_evaluate p_operate)) := by
  have nd := sc_evaluate.nd
  exact (ss_cons (ss_if (t_cmp (cm_eq (r64 hr)) (e_ix (se_var (pv 0)) se_int) se_str) (ss_one (ss_ret (e_ix (se_var (pv 0)) se_int))) ss_nil)
  (ss_cons (ss_if (t_cmp (cm_eq (r64 hr)) (e_ix (se_var (pv 0)) se_int) se_str) (ss_one (ss_ret (e_ix (se_var (pv 1)) (e_indexC t_REGISTERS rfl (sa_cons (e_ix (se_var (pv 0)) se_int) sa_nil))))) ss_nil)
  (ss_cons (ss_set (i := 2) nd rfl (by first | exact Or.inl rfl | exact Or.inr rfl) (se_if (t_cmp (cm_eq (r64 hr)) (e_ix (se_var (pv 0)) se_int) se_str) (e_slice (se_var (pv 0)) (so_some se_int) so_none) (e_slice (se_var (pv 0)) (so_some se_int) so_none)))
  (ss_cons (s_setLc (i := 3) (own := [("operand", 4)]) (g := (nmG 4)) rfl nd (si_any (se_var (pv 2))) (blkOk_by (N := N_evaluate) (sc := defScope s_evaluate) (by decide +kernel)) (fun _ _ _ _ _ => (pg_name (i := 4) nd rfl (by first | exact Or.inl rfl | exact Or.inr rfl))) ok_name (own_name (by decide)) (fun _ _ _ _ _ => ts_nil) (fun _ _ _ _ _ => (e_call C_evaluate hr rfl (sa_cons (se_var (pv 4)) (sa_cons (se_var (pv 1)) sa_nil)))))
  (ss_cons (ss_if (t_cmp (cm_in (r65 hr)) (e_con k_RANGE rfl) (se_var (pv 3))) (ss_one (ss_ret (e_con k_RANGE rfl))) ss_nil)
  (ss_cons (ss_if (t_cmp (cm_eq (r64 hr)) (e_ix (se_var (pv 0)) se_int) se_str) (ss_one (ss_ret (e_neg (e_ix (se_var (pv 3)) se_int)))) ss_nil)
  (ss_cons (ss_if (t_cmp (cm_eq (r64 hr)) (e_ix (se_var (pv 0)) se_int) se_str) (ss_one (ss_ret (e_int rfl z_int (sa_cons (e_cmp (cm_eq (r64 hr)) (e_ix (se_var (pv 3)) se_int) se_int) sa_nil)))) ss_nil)
  (ss_cons (ss_set (i := 5) nd rfl (by first | exact Or.inl rfl | exact Or.inr rfl) (e_call C_operate hr rfl (sa_cons (e_ix (se_var (pv 0)) se_int) (sa_cons (e_ix (se_var (pv 3)) se_int) (sa_cons (e_ix (se_var (pv 3)) se_int) sa_nil)))))
  (ss_one (ss_ret (se_if (t_cmp cm_isN (se_var (pv 5)) se_non) (e_con k_RANGE rfl) (se_var (pv 5)))))))))))))
theorem d_expression_of {P : Program} {w : World} {K : PySem.W.Frag} {mg : Str → Option Value} {base : Heap} {k : Nat}     (kd_EXPRESSION_AT : ConD K w mg "EXPRESSION_AT" c_EXPRESSION_AT)  (f : Addr) (cdv : Value) (A : Around) (outer : List PySem.Env) (s : Shared) (H : Hp) (E : XK) (hr : Room k (A.deeper (PyProof.Rows.envOfC "expression_of" (defScope s_expression_of) s.heap.objs.size f cdv))) :
    PSs (cxOf CX0 P w K mg base N_expression_of "expression_of" (defScope s_expression_of) f cdv A outer s H E).nox (defBody s_expression_of) (rdS K w (b_expression_of )) := by
  have nd := sc_expression_of.nd
  exact (ss_cons (ss_set (i := 1) nd rfl (by first | exact Or.inl rfl | exact Or.inr rfl) (e_dget kd_EXPRESSION_AT rfl (sa_cons (e_ix (se_var (pv 0)) se_int) sa_nil)))
  (ss_one (ss_ret (se_if (t_cmp cm_isN (se_var (pv 1)) se_non) se_non (e_ix (se_var (pv 0)) (se_var (pv 1)))))))
theorem d_thing_of {P : Program} {w : World} {K : PySem.W.Frag} {mg : Str → Option Value} {base : Heap} {k : Nat}     (kd_NAME_AT : ConD K w mg "NAME_AT" c_NAME_AT)  (f : Addr) (cdv : Value) (A : Around) (outer : List PySem.Env) (s : Shared) (H : Hp) (E : XK) (hr : Room k (A.deeper (PyProof.Rows.envOfC "thing_of" (defScope s_thing_of) s.heap.objs.size f cdv))) :
    PSs (cxOf CX0 P w K mg base N_thing_of "thing_of" (defScope s_thing_of) f cdv A outer s H E).nox (defBody s_thing_of) (rdS K w (b_thing_of )) := by
  have nd := sc_thing_of.nd
  exact (ss_cons (ss_set (i := 1) nd rfl (by first | exact Or.inl rfl | exact Or.inr rfl) (e_dget kd_NAME_AT rfl (sa_cons (e_ix (se_var (pv 0)) se_int) sa_nil)))
  (ss_one (ss_ret (se_if (t_cmp cm_isN (se_var (pv 1)) se_non) se_non (e_ix (se_var (pv 0)) (se_var (pv 1)))))))
theorem d_kind_needed {P : Program} {w : World} {K : PySem.W.Frag} {mg : Str → Option Value} {base : Heap} {k : Nat}     (kd_KINDS_instructions : ConD K w mg "KINDS_instructions" c_KINDS)  (f : Addr) (cdv : Value) (A : Around) (outer : List PySem.Env) (s : Shared) (H : Hp) (E : XK) (hr : Room k (A.deeper (PyProof.Rows.envOfC "kind_needed" (defScope s_kind_needed) s.heap.objs.size f cdv))) :
    PSs (cxOf CX0 P w K mg base N_kind_needed "kind_needed" (defScope s_kind_needed) f cdv A outer s H E).nox (defBody s_kind_needed) (rdS K w (b_kind_needed )) := by
  have nd := sc_kind_needed.nd
  exact (ss_one (ss_ret (e_dget kd_KINDS_instructions rfl (sa_cons (e_ix (se_var (pv 0)) se_int) sa_nil))))
theorem d_kind_of {P : Program} {w : World} {K : PySem.W.Frag} {mg : Str → Option Value} {base : Heap} {k : Nat}       (f : Addr) (cdv : Value) (A : Around) (outer : List PySem.Env) (s : Shared) (H : Hp) (E : XK) (hr : Room k (A.deeper (PyProof.Rows.envOfC "kind_of" (defScope s_kind_of) s.heap.objs.size f cdv))) :
    PSs (cxOf CX0 P w K mg base N_kind_of "kind_of" (defScope s_kind_of) f cdv A outer s H E).nox (defBody s_kind_of) (rdS K w (b_kind_of )) := by
  have nd := sc_kind_of.nd
  exact (ss_cons (ss_for PassesOwn.never rfl (si_any (e_ix (se_var (pv 0)) se_int)) (pg_name (i := 2) nd rfl (by first | exact Or.inl rfl | exact Or.inr rfl)) ok_name (ss_one (ss_if (t_cmp (cm_eq (r64 hr)) (e_ix (se_var (pv 2)) se_int) (se_var (pv 1))) (ss_one (ss_ret (e_ix (se_var (pv 2)) se_int))) ss_nil)))
  (ss_one ss_never))
theorem d_names_of {P : Program} {w : World} {K : PySem.W.Frag} {mg : Str → Option Value} {base : Heap} {k : Nat}      (z_tuple : mg "tuple" = none) (f : Addr) (cdv : Value) (A : Around) (outer : List PySem.Env) (s : Shared) (H : Hp) (E : XK) (hr : Room k (A.deeper (PyProof.Rows.envOfC "names_of" (defScope s_names_of) s.heap.objs.size f cdv))) :
    PSs (cxOf CX0 P w K mg base N_names_of "names_of" (defScope s_names_of) f cdv A outer s H E).nox (defBody s_names_of) (rdS K w (b_names_of )) := by
  have nd := sc_names_of.nd
  exact (ss_one (ss_ret (e_tuple rfl z_tuple (sa_cons (se_comp (own := [("thing", 2)]) (g := (nmG 2)) rfl nd (si_any (e_ix (se_var (pv 0)) se_int)) (blkOk_by (N := N_names_of) (sc := defScope s_names_of) (by decide +kernel)) (fun _ _ _ _ _ => (pg_name (i := 2) nd rfl (by first | exact Or.inl rfl | exact Or.inr rfl))) ok_name (own_name (by decide)) (fun _ _ _ _ _ => (ts_one (t_cmp (cm_eq (r64 hr)) (e_ix (se_var (pv 2)) se_int) (se_var (pv 1))))) (fun _ _ _ _ _ => (e_ix (se_var (pv 2)) se_int))) sa_nil))))
theorem d_lock_of {P : Program} {w : World} {K : PySem.W.Frag} {mg : Str → Option Value} {base : Heap} {k : Nat}       (f : Addr) (cdv : Value) (A : Around) (outer : List PySem.Env) (s : Shared) (H : Hp) (E : XK) (hr : Room k (A.deeper (PyProof.Rows.envOfC "lock_of" (defScope s_lock_of) s.heap.objs.size f cdv))) :
    PSs (cxOf CX0 P w K mg base N_lock_of "lock_of" (defScope s_lock_of) f cdv A outer s H E).nox (defBody s_lock_of) (rdS K w (b_lock_of )) := by
  have nd := sc_lock_of.nd
  exact (ss_one (ss_ret (e_ix (se_comp (own := [("thing", 2)]) (g := (nmG 2)) rfl nd (si_any (e_ix (se_var (pv 0)) se_int)) (blkOk_by (N := N_lock_of) (sc := defScope s_lock_of) (by decide +kernel)) (fun _ _ _ _ _ => (pg_name (i := 2) nd rfl (by first | exact Or.inl rfl | exact Or.inr rfl))) ok_name (own_name (by decide)) (fun _ _ _ _ _ => (ts_one (PW.pt (sw_and (t_cmp (cm_eq (r64 hr)) (e_ix (se_var (pv 2)) se_int) se_str) (sw_and1 (t_cmp (cm_eq (r64 hr)) (e_ix (se_var (pv 2)) se_int) (se_var (pv 1)))))))) (fun _ _ _ _ _ => (e_ix (se_var (pv 2)) se_int))) se_int)))
theorem d_first_state {P : Program} {w : World} {K : PySem.W.Frag} {mg : Str → Option Value} {base : Heap} {k : Nat}      (z_tuple : mg "tuple" = none) (f : Addr) (cdv : Value) (A : Around) (outer : List PySem.Env) (s : Shared) (H : Hp) (E : XK) (hr : Room k (A.deeper (PyProof.Rows.envOfC "first_state" (defScope s_first_state) s.heap.objs.size f cdv))) :
    PSs (cxOf CX0 P w K mg base N_first_state "first_state" (defScope s_first_state) f cdv A outer s H E).nox (defBody s_first_state) (rdS K w (b_first_state )) := by
  have nd := sc_first_state.nd
  exact (ss_cons (ss_asg (se_var (pv 0)) (pg_tup rfl (pgs_cons (pg_name (i := 1) nd rfl (by first | exact Or.inl rfl | exact Or.inr rfl)) (pgs_cons (pg_name (i := 2) nd rfl (by first | exact Or.inl rfl | exact Or.inr rfl)) pgs_nil))) (ok_tup (n := 2) (ok_gcons (i := 1) (ok_gcons (i := 2) ok_gnil)) rfl))
  (ss_one (ss_ret (se_tup (sa_cons (e_tuple rfl z_tuple (sa_cons (se_comp (own := [("thing", 3)]) (g := (nmG 3)) rfl nd (si_any (se_var (pv 1))) (blkOk_by (N := N_first_state) (sc := defScope s_first_state) (by decide +kernel)) (fun _ _ _ _ _ => (pg_name (i := 3) nd rfl (by first | exact Or.inl rfl | exact Or.inr rfl))) ok_name (own_name (by decide)) (fun _ _ _ _ _ => (ts_one (t_cmp (cm_eq (r64 hr)) (e_ix (se_var (pv 3)) se_int) se_str))) (fun _ _ _ _ _ => (e_ix (se_var (pv 3)) se_int))) sa_nil)) (sa_cons (e_tuple rfl z_tuple (sa_cons (se_comp (own := [("thing", 3)]) (g := (nmG 3)) rfl nd (si_any (se_var (pv 1))) (blkOk_by (N := N_first_state) (sc := defScope s_first_state) (by decide +kernel)) (fun _ _ _ _ _ => (pg_name (i := 3) nd rfl (by first | exact Or.inl rfl | exact Or.inr rfl))) ok_name (own_name (by decide)) (fun _ _ _ _ _ => (ts_one (t_cmp (cm_eq (r64 hr)) (e_ix (se_var (pv 3)) se_int) se_str))) (fun _ _ _ _ _ => se_non)) sa_nil)) (sa_cons (e_tuple rfl z_tuple (sa_cons (se_comp (own := [("thing", 3)]) (g := (nmG 3)) rfl nd (si_any (se_var (pv 1))) (blkOk_by (N := N_first_state) (sc := defScope s_first_state) (by decide +kernel)) (fun _ _ _ _ _ => (pg_name (i := 3) nd rfl (by first | exact Or.inl rfl | exact Or.inr rfl))) ok_name (own_name (by decide)) (fun _ _ _ _ _ => (ts_one (t_cmp (cm_eq (r64 hr)) (e_ix (se_var (pv 3)) se_int) se_str))) (fun _ _ _ _ _ => (se_tup sa_nil))) sa_nil)) (sa_cons (e_tuple rfl z_tuple (sa_cons (se_comp (own := [("thing", 3)]) (g := (nmG 3)) rfl nd (si_any (se_var (pv 1))) (blkOk_by (N := N_first_state) (sc := defScope s_first_state) (by decide +kernel)) (fun _ _ _ _ _ => (pg_name (i := 3) nd rfl (by first | exact Or.inl rfl | exact Or.inr rfl))) ok_name (own_name (by decide)) (fun _ _ _ _ _ => (ts_one (t_cmp (cm_eq (r64 hr)) (e_ix (se_var (pv 3)) se_int) se_str))) (fun _ _ _ _ _ => (se_tup sa_nil))) sa_nil)) (sa_cons (e_tuple rfl z_tuple (sa_cons (se_comp (own := [("instructions", 4)]) (g := (nmG 4)) rfl nd (si_any (se_var (pv 2))) (blkOk_by (N := N_first_state) (sc := defScope s_first_state) (by decide +kernel)) (fun _ _ _ _ _ => (pg_name (i := 4) nd rfl (by first | exact Or.inl rfl | exact Or.inr rfl))) ok_name (own_name (by decide)) (fun _ _ _ _ _ => ts_nil) (fun _ _ _ _ _ => (se_tup (sa_cons se_int (sa_cons (se_tup (sa_cons se_int (sa_cons se_int (sa_cons se_int (sa_cons se_int sa_nil))))) (sa_cons se_str (sa_cons se_non sa_nil))))))) sa_nil)) sa_nil)))))))))
theorem d_enabled {P : Program} {w : World} {K : PySem.W.Frag} {mg : Str → Option Value} {base : Heap} {k : Nat} {p__is_at_work : Fx} (C__is_at_work : Cal P w K mg base k "_is_at_work" ["program", "state", "thread"] p__is_at_work) {p__hindrance : Fx} (C__hindrance : Cal P w K mg base k "_hindrance" ["program", "state", "thread"] p__hindrance)     (z_range : mg "range" = none) (z_len : mg "len" = none) (z_tuple : mg "tuple" = none) (f : Addr) (cdv : Value) (A : Around) (outer : List PySem.Env) (s : Shared) (H : Hp) (E : XK) (hr : Room k (A.deeper (PyProof.Rows.envOfC "enabled" (defScope s_enabled) s.heap.objs.size f cdv))) :
    PSs (cxOf CX0 P w K mg base N_enabled "enabled" (defScope s_enabled) f cdv A outer s H E).nox (defBody s_enabled) (rdS K w (b_enabled p__is_at_work p__hindrance)) := by
  have nd := sc_enabled.nd
  exact (ss_cons (s_setLc (i := 2) (own := [("thread", 3)]) (g := (nmG 3)) rfl nd (si_rng1 rfl z_range (sa_cons (e_len rfl z_len (sa_cons (e_ix (se_var (pv 0)) se_int) sa_nil)) sa_nil)) (blkOk_by (N := N_enabled) (sc := defScope s_enabled) (by decide +kernel)) (fun _ _ _ _ _ => (pg_name (i := 3) nd rfl (by first | exact Or.inl rfl | exact Or.inr rfl))) ok_name (own_name (by decide)) (fun _ _ _ _ _ => (ts_one (st_tru (e_call C__is_at_work hr rfl (sa_cons (se_var (pv 0)) (sa_cons (se_var (pv 1)) (sa_cons (se_var (pv 3)) sa_nil))))))) (fun _ _ _ _ _ => (se_var (pv 3))))
  (ss_one (ss_ret (e_tuple rfl z_tuple (sa_cons (se_comp (own := [("thread", 3)]) (g := (nmG 3)) rfl nd (si_any (se_var (pv 2))) (blkOk_by (N := N_enabled) (sc := defScope s_enabled) (by decide +kernel)) (fun _ _ _ _ _ => (pg_name (i := 3) nd rfl (by first | exact Or.inl rfl | exact Or.inr rfl))) ok_name (own_name (by decide)) (fun _ _ _ _ _ => (ts_one (t_cmp cm_isN (e_call C__hindrance hr rfl (sa_cons (se_var (pv 0)) (sa_cons (se_var (pv 1)) (sa_cons (se_var (pv 3)) sa_nil)))) se_non))) (fun _ _ _ _ _ => (se_var (pv 3)))) sa_nil)))))
theorem d__is_at_work {P : Program} {w : World} {K : PySem.W.Frag} {mg : Str → Option Value} {base : Heap} {k : Nat}     (k_THREADS : Con K mg "THREADS" c_THREADS) (z_len : mg "len" = none) (f : Addr) (cdv : Value) (A : Around) (outer : List PySem.Env) (s : Shared) (H : Hp) (E : XK) (hr : Room k (A.deeper (PyProof.Rows.envOfC "_is_at_work" (defScope s__is_at_work) s.heap.objs.size f cdv))) :
    PSs (cxOf CX0 P w K mg base N__is_at_work "_is_at_work" (defScope s__is_at_work) f cdv A outer s H E).nox (defBody s__is_at_work) (rdS K w (b__is_at_work )) := by
  have nd := sc__is_at_work.nd
  exact (ss_cons (ss_asg (e_ix (e_ix (se_var (pv 1)) (e_con k_THREADS rfl)) (se_var (pv 2))) (pg_tup rfl (pgs_cons (pg_name (i := 3) nd rfl (by first | exact Or.inl rfl | exact Or.inr rfl)) (pgs_cons (pg_name (i := 4) nd rfl (by first | exact Or.inl rfl | exact Or.inr rfl)) (pgs_cons (pg_name (i := 5) nd rfl (by first | exact Or.inl rfl | exact Or.inr rfl)) (pgs_cons (pg_name (i := 4) nd rfl (by first | exact Or.inl rfl | exact Or.inr rfl)) pgs_nil))))) (ok_tup (n := 4) (ok_gcons (i := 3) (ok_gcons (i := 4) (ok_gcons (i := 5) (ok_gcons (i := 4) ok_gnil)))) rfl))
  (ss_one (ss_ret (se_and (e_cmp (cm_ne (r64 hr)) (se_var (pv 5)) se_str) (se_one (e_cmp cm_lt (se_var (pv 3)) (e_len rfl z_len (sa_cons (e_ix (e_ix (se_var (pv 0)) se_int) (se_var (pv 2))) sa_nil))))))))
theorem d__hindrance {P : Program} {w : World} {K : PySem.W.Frag} {mg : Str → Option Value} {base : Heap} {k : Nat} {p_thing_of : Fx} (C_thing_of : Cal P w K mg base k "thing_of" ["instruction"] p_thing_of) {p_lock_of : Fx} (C_lock_of : Cal P w K mg base k "lock_of" ["program", "cond"] p_lock_of) {p_content_of : Fx} (C_content_of : Cal P w K mg base k "content_of" ["program", "state", "name"] p_content_of) {p__is_full : Fx} (C__is_full : Cal P w K mg base k "_is_full" ["program", "state", "queue"] p__is_full) {p_evaluate : Fx} (C_evaluate : Cal P w K mg base k "evaluate" ["tree", "registers"] p_evaluate)    (k_THREADS : Con K mg "THREADS" c_THREADS) (k_RANGE : Con K mg "RANGE" c_RANGE)  (f : Addr) (cdv : Value) (A : Around) (outer : List PySem.Env) (s : Shared) (H : Hp) (E : XK) (hr : Room k (A.deeper (PyProof.Rows.envOfC "_hindrance" (defScope s__hindrance) s.heap.objs.size f cdv))) :
    PSs (cxOf CX0 P w K mg base N__hindrance "_hindrance" (defScope s__hindrance) f cdv A outer s H E).nox (defBody s__hindrance) (rdS K w (b__hindrance p_thing_of p_lock_of p_content_of p__is_full p_evaluate)) := by
  have nd := sc__hindrance.nd
  exact (ss_cons (ss_asg (e_ix (e_ix (se_var (pv 1)) (e_con k_THREADS rfl)) (se_var (pv 2))) (pg_tup rfl (pgs_cons (pg_name (i := 3) nd rfl (by first | exact Or.inl rfl | exact Or.inr rfl)) (pgs_cons (pg_name (i := 4) nd rfl (by first | exact Or.inl rfl | exact Or.inr rfl)) (pgs_cons (pg_name (i := 5) nd rfl (by first | exact Or.inl rfl | exact Or.inr rfl)) (pgs_cons (pg_name (i := 6) nd rfl (by first | exact Or.inl rfl | exact Or.inr rfl)) pgs_nil))))) (ok_tup (n := 4) (ok_gcons (i := 3) (ok_gcons (i := 4) (ok_gcons (i := 5) (ok_gcons (i := 6) ok_gnil)))) rfl))
  (ss_cons (ss_set (i := 7) nd rfl (by first | exact Or.inl rfl | exact Or.inr rfl) (e_ix (e_ix (e_ix (se_var (pv 0)) se_int) (se_var (pv 2))) (se_var (pv 3))))
  (ss_cons (ss_set (i := 8) nd rfl (by first | exact Or.inl rfl | exact Or.inr rfl) (e_call C_thing_of hr rfl (sa_cons (se_var (pv 7)) sa_nil)))
  (ss_cons (ss_if (t_cmp (cm_eq (r64 hr)) (se_var (pv 5)) se_str) (ss_one (ss_ret (se_var (pv 8)))) ss_nil)
  (ss_cons (ss_if (t_cmp (cm_eq (r64 hr)) (se_var (pv 5)) se_str) (ss_one (ss_set (i := 8) nd rfl (by first | exact Or.inl rfl | exact Or.inr rfl) (e_call C_lock_of hr rfl (sa_cons (se_var (pv 0)) (sa_cons (se_var (pv 8)) sa_nil))))) ss_nil)
  (ss_cons (ss_if (PW.pt (sw_or (t_cmp (cm_eq (r64 hr)) (se_var (pv 5)) se_str) (sw_or1 (t_cmp (cm_eq (r64 hr)) (e_ix (se_var (pv 7)) se_int) se_str)))) (ss_one (ss_set (i := 9) nd rfl (by first | exact Or.inl rfl | exact Or.inr rfl) (e_cmp cm_notN (e_call C_content_of hr rfl (sa_cons (se_var (pv 0)) (sa_cons (se_var (pv 1)) (sa_cons (se_var (pv 8)) sa_nil)))) se_non))) (ss_one (ss_if (t_cmp (cm_eq (r64 hr)) (e_ix (se_var (pv 7)) se_int) se_str) (ss_one (ss_set (i := 9) nd rfl (by first | exact Or.inl rfl | exact Or.inr rfl) (se_and (e_call C__is_full hr rfl (sa_cons (se_var (pv 0)) (sa_cons (se_var (pv 1)) (sa_cons (se_var (pv 8)) sa_nil)))) (se_one (e_cmp (cm_ne (r64 hr)) (e_call C_evaluate hr rfl (sa_cons (e_ix (se_var (pv 7)) se_int) (sa_cons (se_var (pv 4)) sa_nil))) (e_con k_RANGE rfl)))))) (ss_one (ss_set (i := 9) nd rfl (by first | exact Or.inl rfl | exact Or.inr rfl) (se_and (e_cmp (cm_eq (r64 hr)) (e_ix (se_var (pv 7)) se_int) se_str) (se_one (e_cmp (cm_eq (r64 hr)) (e_call C_content_of hr rfl (sa_cons (se_var (pv 0)) (sa_cons (se_var (pv 1)) (sa_cons (se_var (pv 8)) sa_nil)))) (se_tup sa_nil)))))))))
  (ss_one (ss_ret (se_if (st_tru (se_var (pv 9))) (se_var (pv 8)) se_non)))))))))
theorem d__is_full {P : Program} {w : World} {K : PySem.W.Frag} {mg : Str → Option Value} {base : Heap} {k : Nat} {p_content_of : Fx} (C_content_of : Cal P w K mg base k "content_of" ["program", "state", "name"] p_content_of)     (z_len : mg "len" = none) (f : Addr) (cdv : Value) (A : Around) (outer : List PySem.Env) (s : Shared) (H : Hp) (E : XK) (hr : Room k (A.deeper (PyProof.Rows.envOfC "_is_full" (defScope s__is_full) s.heap.objs.size f cdv))) :
    PSs (cxOf CX0 P w K mg base N__is_full "_is_full" (defScope s__is_full) f cdv A outer s H E).nox (defBody s__is_full) (rdS K w (b__is_full p_content_of)) := by
  have nd := sc__is_full.nd
  exact (ss_cons (s_setLc (i := 3) (own := [("thing", 4)]) (g := (nmG 4)) rfl nd (si_any (e_ix (se_var (pv 0)) se_int)) (blkOk_by (N := N__is_full) (sc := defScope s__is_full) (by decide +kernel)) (fun _ _ _ _ _ => (pg_name (i := 4) nd rfl (by first | exact Or.inl rfl | exact Or.inr rfl))) ok_name (own_name (by decide)) (fun _ _ _ _ _ => (ts_one (t_cmp (cm_eq (r64 hr)) (e_ix (se_var (pv 4)) se_int) (se_var (pv 2))))) (fun _ _ _ _ _ => (e_ix (se_var (pv 4)) se_int)))
  (ss_one (ss_ret (e_cmp cm_ge (e_len rfl z_len (sa_cons (e_call C_content_of hr rfl (sa_cons (se_var (pv 0)) (sa_cons (se_var (pv 1)) (sa_cons (se_var (pv 2)) sa_nil)))) sa_nil)) (e_ix (se_var (pv 3)) se_int)))))
theorem d_content_of {P : Program} {w : World} {K : PySem.W.Frag} {mg : Str → Option Value} {base : Heap} {k : Nat} {p_kind_of : Fx} (C_kind_of : Cal P w K mg base k "kind_of" ["program", "name"] p_kind_of) {p_names_of : Fx} (C_names_of : Cal P w K mg base k "names_of" ["program", "kind"] p_names_of)    (kd_PART_OF_KIND : ConD K w mg "PART_OF_KIND" c_PART_OF_KIND)  (f : Addr) (cdv : Value) (A : Around) (outer : List PySem.Env) (s : Shared) (H : Hp) (E : XK) (hr : Room k (A.deeper (PyProof.Rows.envOfC "content_of" (defScope s_content_of) s.heap.objs.size f cdv))) :
    PSs (cxOf CX0 P w K mg base N_content_of "content_of" (defScope s_content_of) f cdv A outer s H E).nox (defBody s_content_of) (rdS K w (b_content_of p_kind_of p_names_of)) := by
  have nd := sc_content_of.nd
  exact (ss_cons (ss_set (i := 3) nd rfl (by first | exact Or.inl rfl | exact Or.inr rfl) (e_call C_kind_of hr rfl (sa_cons (se_var (pv 0)) (sa_cons (se_var (pv 2)) sa_nil))))
  (ss_one (ss_ret (e_ix (e_ix (se_var (pv 1)) (e_dit kd_PART_OF_KIND rfl (se_var (pv 3)))) (e_tix (e_call C_names_of hr rfl (sa_cons (se_var (pv 0)) (sa_cons (se_var (pv 3)) sa_nil))) (sa_cons (se_var (pv 2)) sa_nil))))))
theorem d__with_content {P : Program} {w : World} {K : PySem.W.Frag} {mg : Str → Option Value} {base : Heap} {k : Nat} {p_kind_of : Fx} (C_kind_of : Cal P w K mg base k "kind_of" ["program", "name"] p_kind_of) {p__replaced : Fx} (C__replaced : Cal P w K mg base k "_replaced" ["row", "at", "item"] p__replaced) {p_names_of : Fx} (C_names_of : Cal P w K mg base k "names_of" ["program", "kind"] p_names_of)    (kd_PART_OF_KIND : ConD K w mg "PART_OF_KIND" c_PART_OF_KIND)  (f : Addr) (cdv : Value) (A : Around) (outer : List PySem.Env) (s : Shared) (H : Hp) (E : XK) (hr : Room k (A.deeper (PyProof.Rows.envOfC "_with_content" (defScope s__with_content) s.heap.objs.size f cdv))) :
    PSs (cxOf CX0 P w K mg base N__with_content "_with_content" (defScope s__with_content) f cdv A outer s H E).nox (defBody s__with_content) (rdS K w (b__with_content p_kind_of p__replaced p_names_of)) := by
  have nd := sc__with_content.nd
  exact (ss_cons (ss_set (i := 4) nd rfl (by first | exact Or.inl rfl | exact Or.inr rfl) (e_call C_kind_of hr rfl (sa_cons (se_var (pv 0)) (sa_cons (se_var (pv 2)) sa_nil))))
  (ss_cons (ss_set (i := 5) nd rfl (by first | exact Or.inl rfl | exact Or.inr rfl) (e_dit kd_PART_OF_KIND rfl (se_var (pv 4))))
  (ss_one (ss_ret (e_call C__replaced hr rfl (sa_cons (se_var (pv 1)) (sa_cons (se_var (pv 5)) (sa_cons (e_call C__replaced hr rfl (sa_cons (e_ix (se_var (pv 1)) (se_var (pv 5))) (sa_cons (e_tix (e_call C_names_of hr rfl (sa_cons (se_var (pv 0)) (sa_cons (se_var (pv 4)) sa_nil))) (sa_cons (se_var (pv 2)) sa_nil)) (sa_cons (se_var (pv 3)) sa_nil)))) sa_nil))))))))
theorem d__with_thread {P : Program} {w : World} {K : PySem.W.Frag} {mg : Str → Option Value} {base : Heap} {k : Nat} {p__replaced : Fx} (C__replaced : Cal P w K mg base k "_replaced" ["row", "at", "item"] p__replaced)    (k_THREADS : Con K mg "THREADS" c_THREADS)  (f : Addr) (cdv : Value) (A : Around) (outer : List PySem.Env) (s : Shared) (H : Hp) (E : XK) (hr : Room k (A.deeper (PyProof.Rows.envOfC "_with_thread" (defScope s__with_thread) s.heap.objs.size f cdv))) :
    PSs (cxOf CX0 P w K mg base N__with_thread "_with_thread" (defScope s__with_thread) f cdv A outer s H E).nox (defBody s__with_thread) (rdS K w (b__with_thread p__replaced)) := by
  have nd := sc__with_thread.nd
  exact (ss_one (ss_ret (e_call C__replaced hr rfl (sa_cons (se_var (pv 0)) (sa_cons (e_con k_THREADS rfl) (sa_cons (e_call C__replaced hr rfl (sa_cons (e_ix (se_var (pv 0)) (e_con k_THREADS rfl)) (sa_cons (se_var (pv 1)) (sa_cons (se_var (pv 2)) sa_nil)))) sa_nil))))))
theorem d__with_mode {P : Program} {w : World} {K : PySem.W.Frag} {mg : Str → Option Value} {base : Heap} {k : Nat} {p__with_thread : Fx} (C__with_thread : Cal P w K mg base k "_with_thread" ["state", "thread", "entry"] p__with_thread)    (k_THREADS : Con K mg "THREADS" c_THREADS)  (f : Addr) (cdv : Value) (A : Around) (outer : List PySem.Env) (s : Shared) (H : Hp) (E : XK) (hr : Room k (A.deeper (PyProof.Rows.envOfC "_with_mode" (defScope s__with_mode) s.heap.objs.size f cdv))) :
    PSs (cxOf CX0 P w K mg base N__with_mode "_with_mode" (defScope s__with_mode) f cdv A outer s H E).nox (defBody s__with_mode) (rdS K w (b__with_mode p__with_thread)) := by
  have nd := sc__with_mode.nd
  exact (ss_cons (ss_asg (e_ix (e_ix (se_var (pv 0)) (e_con k_THREADS rfl)) (se_var (pv 1))) (pg_tup rfl (pgs_cons (pg_name (i := 3) nd rfl (by first | exact Or.inl rfl | exact Or.inr rfl)) (pgs_cons (pg_name (i := 4) nd rfl (by first | exact Or.inl rfl | exact Or.inr rfl)) (pgs_cons (pg_name (i := 5) nd rfl (by first | exact Or.inl rfl | exact Or.inr rfl)) (pgs_cons (pg_name (i := 6) nd rfl (by first | exact Or.inl rfl | exact Or.inr rfl)) pgs_nil))))) (ok_tup (n := 4) (ok_gcons (i := 3) (ok_gcons (i := 4) (ok_gcons (i := 5) (ok_gcons (i := 6) ok_gnil)))) rfl))
  (ss_one (ss_ret (e_call C__with_thread hr rfl (sa_cons (se_var (pv 0)) (sa_cons (se_var (pv 1)) (sa_cons (se_tup (sa_cons (se_var (pv 3)) (sa_cons (se_var (pv 4)) (sa_cons (se_var (pv 2)) (sa_cons (se_var (pv 6)) sa_nil))))) sa_nil)))))))
theorem d__with_register {P : Program} {w : World} {K : PySem.W.Frag} {mg : Str → Option Value} {base : Heap} {k : Nat} {p__replaced : Fx} (C__replaced : Cal P w K mg base k "_replaced" ["row", "at", "item"] p__replaced) {p__with_thread : Fx} (C__with_thread : Cal P w K mg base k "_with_thread" ["state", "thread", "entry"] p__with_thread)    (k_THREADS : Con K mg "THREADS" c_THREADS) (k_REGISTERS : Con K mg "REGISTERS" c_REGISTERS) (t_REGISTERS : ConT K mg "REGISTERS" c_REGISTERS)  (f : Addr) (cdv : Value) (A : Around) (outer : List PySem.Env) (s : Shared) (H : Hp) (E : XK) (hr : Room k (A.deeper (PyProof.Rows.envOfC "_with_register" (defScope s__with_register) s.heap.objs.size f cdv))) :
    PSs (cxOf CX0 P w K mg base N__with_register "_with_register" (defScope s__with_register) f cdv A outer s H E).nox (defBody s__with_register) (rdS K w (b__with_register p__replaced p__with_thread)) := by
  have nd := sc__with_register.nd
  exact (ss_cons (ss_asg (e_ix (e_ix (se_var (pv 0)) (e_con k_THREADS rfl)) (se_var (pv 1))) (pg_tup rfl (pgs_cons (pg_name (i := 4) nd rfl (by first | exact Or.inl rfl | exact Or.inr rfl)) (pgs_cons (pg_name (i := 5) nd rfl (by first | exact Or.inl rfl | exact Or.inr rfl)) (pgs_cons (pg_name (i := 6) nd rfl (by first | exact Or.inl rfl | exact Or.inr rfl)) (pgs_cons (pg_name (i := 7) nd rfl (by first | exact Or.inl rfl | exact Or.inr rfl)) pgs_nil))))) (ok_tup (n := 4) (ok_gcons (i := 4) (ok_gcons (i := 5) (ok_gcons (i := 6) (ok_gcons (i := 7) ok_gnil)))) rfl))
  (ss_cons (ss_set (i := 8) nd rfl (by first | exact Or.inl rfl | exact Or.inr rfl) (e_call C__replaced hr rfl (sa_cons (se_var (pv 5)) (sa_cons (e_indexC t_REGISTERS rfl (sa_cons (se_var (pv 2)) sa_nil)) (sa_cons (se_var (pv 3)) sa_nil)))))
  (ss_one (ss_ret (e_call C__with_thread hr rfl (sa_cons (se_var (pv 0)) (sa_cons (se_var (pv 1)) (sa_cons (se_tup (sa_cons (se_var (pv 4)) (sa_cons (se_var (pv 8)) (sa_cons (se_var (pv 6)) (sa_cons (se_var (pv 7)) sa_nil))))) sa_nil))))))))
theorem d__replaced {P : Program} {w : World} {K : PySem.W.Frag} {mg : Str → Option Value} {base : Heap} {k : Nat}       (f : Addr) (cdv : Value) (A : Around) (outer : List PySem.Env) (s : Shared) (H : Hp) (E : XK) (hr : Room k (A.deeper (PyProof.Rows.envOfC "_replaced" (defScope s__replaced) s.heap.objs.size f cdv))) :
    PSs (cxOf CX0 P w K mg base N__replaced "_replaced" (defScope s__replaced) f cdv A outer s H E).nox (defBody s__replaced) (rdS K w (b__replaced )) := by
  have nd := sc__replaced.nd
  exact (ss_one (ss_ret (e_add (e_add (e_slice (se_var (pv 0)) so_none (so_some (se_var (pv 1)))) (se_tup (sa_cons (se_var (pv 2)) sa_nil))) (e_slice (se_var (pv 0)) (so_some (e_add (se_var (pv 1)) se_int)) so_none))))
theorem d_make_step {P : Program} {w : World} {K : PySem.W.Frag} {mg : Str → Option Value} {base : Heap} {k : Nat} {p__take_lock_again : Fx} (C__take_lock_again : Cal P w K mg base k "_take_lock_again" ["program", "state", "thread"] p__take_lock_again) {p_expression_of : Fx} (C_expression_of : Cal P w K mg base k "expression_of" ["instruction"] p_expression_of) {p_evaluate : Fx} (C_evaluate : Cal P w K mg base k "evaluate" ["tree", "registers"] p_evaluate) {p__failed : Fx} (C__failed : Cal P w K mg base k "_failed" ["state", "thread", "word"] p__failed) {p__effect : Fx} (C__effect : Cal P w K mg base k "_effect" ["program", "state", "thread", "value"] p__effect) {p__moved_on : Fx} (C__moved_on : Cal P w K mg base k "_moved_on" ["program", "state", "thread", "value"] p__moved_on) {p__touches : Fx} (C__touches : Cal P w K mg base k "_touches" ["program", "instruction"] p__touches)    (k_THREADS : Con K mg "THREADS" c_THREADS) (k_RANGE : Con K mg "RANGE" c_RANGE)  (f : Addr) (cdv : Value) (A : Around) (outer : List PySem.Env) (s : Shared) (H : Hp) (E : XK) (hr : Room k (A.deeper (PyProof.Rows.envOfC "make_step" (defScope s_make_step) s.heap.objs.size f cdv))) :
    PSs (cxOf CX0 P w K mg base N_make_step "make_step" (defScope s_make_step) f cdv A outer s H E).nox (defBody s_make_step) (rdS K w (b_make_step p__take_lock_again p_expression_of p_evaluate p__failed p__effect p__moved_on p__touches)) := by
  have nd := sc_make_step.nd
  exact (ss_cons (ss_asg (e_ix (e_ix (se_var (pv 1)) (e_con k_THREADS rfl)) (se_var (pv 2))) (pg_tup rfl (pgs_cons (pg_name (i := 3) nd rfl (by first | exact Or.inl rfl | exact Or.inr rfl)) (pgs_cons (pg_name (i := 4) nd rfl (by first | exact Or.inl rfl | exact Or.inr rfl)) (pgs_cons (pg_name (i := 5) nd rfl (by first | exact Or.inl rfl | exact Or.inr rfl)) (pgs_cons (pg_name (i := 6) nd rfl (by first | exact Or.inl rfl | exact Or.inr rfl)) pgs_nil))))) (ok_tup (n := 4) (ok_gcons (i := 3) (ok_gcons (i := 4) (ok_gcons (i := 5) (ok_gcons (i := 6) ok_gnil)))) rfl))
  (ss_cons (ss_set (i := 7) nd rfl (by first | exact Or.inl rfl | exact Or.inr rfl) (e_ix (e_ix (e_ix (se_var (pv 0)) se_int) (se_var (pv 2))) (se_var (pv 3))))
  (ss_cons (ss_if (t_cmp (cm_eq (r64 hr)) (se_var (pv 5)) se_str) (ss_one (ss_ret (e_call C__take_lock_again hr rfl (sa_cons (se_var (pv 0)) (sa_cons (se_var (pv 1)) (sa_cons (se_var (pv 2)) sa_nil)))))) ss_nil)
  (ss_cons (ss_set (i := 8) nd rfl (by first | exact Or.inl rfl | exact Or.inr rfl) (e_call C_expression_of hr rfl (sa_cons (se_var (pv 7)) sa_nil)))
  (ss_cons (ss_set (i := 9) nd rfl (by first | exact Or.inl rfl | exact Or.inr rfl) (se_if (t_cmp cm_isN (se_var (pv 8)) se_non) se_non (e_call C_evaluate hr rfl (sa_cons (se_var (pv 8)) (sa_cons (se_var (pv 4)) sa_nil)))))
  (ss_cons (ss_if (t_cmp (cm_eq (r64 hr)) (se_var (pv 9)) (e_con k_RANGE rfl)) (ss_one (ss_ret (se_tup (sa_cons (e_call C__failed hr rfl (sa_cons (se_var (pv 1)) (sa_cons (se_var (pv 2)) (sa_cons (e_con k_RANGE rfl) sa_nil)))) (sa_cons (se_tup (sa_cons (se_var (pv 2)) (sa_cons (se_var (pv 3)) (sa_cons (se_tup sa_nil) (sa_cons (e_con k_RANGE rfl) sa_nil))))) sa_nil))))) ss_nil)
  (ss_cons (ss_asg (e_call C__effect hr rfl (sa_cons (se_var (pv 0)) (sa_cons (se_var (pv 1)) (sa_cons (se_var (pv 2)) (sa_cons (se_var (pv 9)) sa_nil))))) (pg_tup rfl (pgs_cons (pg_name (i := 10) nd rfl (by first | exact Or.inl rfl | exact Or.inr rfl)) (pgs_cons (pg_name (i := 11) nd rfl (by first | exact Or.inl rfl | exact Or.inr rfl)) pgs_nil))) (ok_tup (n := 2) (ok_gcons (i := 10) (ok_gcons (i := 11) ok_gnil)) rfl))
  (ss_cons (ss_if (t_cmp cm_isN (se_var (pv 11)) se_non) (ss_one (ss_set (i := 12) nd rfl (by first | exact Or.inl rfl | exact Or.inr rfl) (e_call C__moved_on hr rfl (sa_cons (se_var (pv 0)) (sa_cons (se_var (pv 10)) (sa_cons (se_var (pv 2)) (sa_cons (se_var (pv 9)) sa_nil))))))) (ss_one (ss_set (i := 12) nd rfl (by first | exact Or.inl rfl | exact Or.inr rfl) (e_call C__failed hr rfl (sa_cons (se_var (pv 1)) (sa_cons (se_var (pv 2)) (sa_cons (se_var (pv 11)) sa_nil)))))))
  (ss_one (ss_ret (se_tup (sa_cons (se_var (pv 12)) (sa_cons (se_tup (sa_cons (se_var (pv 2)) (sa_cons (se_var (pv 3)) (sa_cons (e_call C__touches hr rfl (sa_cons (se_var (pv 0)) (sa_cons (se_var (pv 7)) sa_nil))) (sa_cons (se_var (pv 11)) sa_nil))))) sa_nil)))))))))))))
theorem d__take_lock_again {P : Program} {w : World} {K : PySem.W.Frag} {mg : Str → Option Value} {base : Heap} {k : Nat} {p_lock_of : Fx} (C_lock_of : Cal P w K mg base k "lock_of" ["program", "cond"] p_lock_of) {p__with_mode : Fx} (C__with_mode : Cal P w K mg base k "_with_mode" ["state", "thread", "mode"] p__with_mode) {p__with_content : Fx} (C__with_content : Cal P w K mg base k "_with_content" ["program", "state", "name", "content"] p__with_content) {p__moved_to : Fx} (C__moved_to : Cal P w K mg base k "_moved_to" ["program", "state", "thread", "pc"] p__moved_to)    (k_THREADS : Con K mg "THREADS" c_THREADS)  (f : Addr) (cdv : Value) (A : Around) (outer : List PySem.Env) (s : Shared) (H : Hp) (E : XK) (hr : Room k (A.deeper (PyProof.Rows.envOfC "_take_lock_again" (defScope s__take_lock_again) s.heap.objs.size f cdv))) :
    PSs (cxOf CX0 P w K mg base N__take_lock_again "_take_lock_again" (defScope s__take_lock_again) f cdv A outer s H E).nox (defBody s__take_lock_again) (rdS K w (b__take_lock_again p_lock_of p__with_mode p__with_content p__moved_to)) := by
  have nd := sc__take_lock_again.nd
  exact (ss_cons (ss_set (i := 3) nd rfl (by first | exact Or.inl rfl | exact Or.inr rfl) (e_ix (e_ix (e_ix (se_var (pv 1)) (e_con k_THREADS rfl)) (se_var (pv 2))) se_int))
  (ss_cons (ss_set (i := 4) nd rfl (by first | exact Or.inl rfl | exact Or.inr rfl) (e_ix (e_ix (e_ix (e_ix (se_var (pv 0)) se_int) (se_var (pv 2))) (se_var (pv 3))) se_int))
  (ss_cons (ss_set (i := 5) nd rfl (by first | exact Or.inl rfl | exact Or.inr rfl) (e_call C_lock_of hr rfl (sa_cons (se_var (pv 0)) (sa_cons (se_var (pv 4)) sa_nil))))
  (ss_cons (ss_set (i := 6) nd rfl (by first | exact Or.inl rfl | exact Or.inr rfl) (e_call C__with_mode hr rfl (sa_cons (e_call C__with_content hr rfl (sa_cons (se_var (pv 0)) (sa_cons (se_var (pv 1)) (sa_cons (se_var (pv 5)) (sa_cons (se_var (pv 2)) sa_nil))))) (sa_cons (se_var (pv 2)) (sa_cons se_str sa_nil)))))
  (ss_one (ss_ret (se_tup (sa_cons (e_call C__moved_to hr rfl (sa_cons (se_var (pv 0)) (sa_cons (se_var (pv 6)) (sa_cons (se_var (pv 2)) (sa_cons (e_add (se_var (pv 3)) se_int) sa_nil))))) (sa_cons (se_tup (sa_cons (se_var (pv 2)) (sa_cons (se_var (pv 3)) (sa_cons (se_tup (sa_cons (se_tup (sa_cons (se_var (pv 5)) (sa_cons se_bl sa_nil))) (sa_cons (se_tup (sa_cons (se_var (pv 4)) (sa_cons se_bl sa_nil))) sa_nil))) (sa_cons se_non sa_nil))))) sa_nil)))))))))
theorem d__failed {P : Program} {w : World} {K : PySem.W.Frag} {mg : Str → Option Value} {base : Heap} {k : Nat} {p__with_thread : Fx} (C__with_thread : Cal P w K mg base k "_with_thread" ["state", "thread", "entry"] p__with_thread)    (k_THREADS : Con K mg "THREADS" c_THREADS)  (f : Addr) (cdv : Value) (A : Around) (outer : List PySem.Env) (s : Shared) (H : Hp) (E : XK) (hr : Room k (A.deeper (PyProof.Rows.envOfC "_failed" (defScope s__failed) s.heap.objs.size f cdv))) :
    PSs (cxOf CX0 P w K mg base N__failed "_failed" (defScope s__failed) f cdv A outer s H E).nox (defBody s__failed) (rdS K w (b__failed p__with_thread)) := by
  have nd := sc__failed.nd
  exact (ss_cons (ss_asg (e_ix (e_ix (se_var (pv 0)) (e_con k_THREADS rfl)) (se_var (pv 1))) (pg_tup rfl (pgs_cons (pg_name (i := 3) nd rfl (by first | exact Or.inl rfl | exact Or.inr rfl)) (pgs_cons (pg_name (i := 4) nd rfl (by first | exact Or.inl rfl | exact Or.inr rfl)) (pgs_cons (pg_name (i := 5) nd rfl (by first | exact Or.inl rfl | exact Or.inr rfl)) (pgs_cons (pg_name (i := 5) nd rfl (by first | exact Or.inl rfl | exact Or.inr rfl)) pgs_nil))))) (ok_tup (n := 4) (ok_gcons (i := 3) (ok_gcons (i := 4) (ok_gcons (i := 5) (ok_gcons (i := 5) ok_gnil)))) rfl))
  (ss_one (ss_ret (e_call C__with_thread hr rfl (sa_cons (se_var (pv 0)) (sa_cons (se_var (pv 1)) (sa_cons (se_tup (sa_cons (se_var (pv 3)) (sa_cons (se_var (pv 4)) (sa_cons se_str (sa_cons (se_var (pv 2)) sa_nil))))) sa_nil)))))))
theorem d__touches {P : Program} {w : World} {K : PySem.W.Frag} {mg : Str → Option Value} {base : Heap} {k : Nat} {p_thing_of : Fx} (C_thing_of : Cal P w K mg base k "thing_of" ["instruction"] p_thing_of) {p_lock_of : Fx} (C_lock_of : Cal P w K mg base k "lock_of" ["program", "cond"] p_lock_of)      (f : Addr) (cdv : Value) (A : Around) (outer : List PySem.Env) (s : Shared) (H : Hp) (E : XK) (hr : Room k (A.deeper (PyProof.Rows.envOfC "_touches" (defScope s__touches) s.heap.objs.size f cdv))) :
    PSs (cxOf CX0 P w K mg base N__touches "_touches" (defScope s__touches) f cdv A outer s H E).nox (defBody s__touches) (rdS K w (b__touches p_thing_of p_lock_of)) := by
  have nd := sc__touches.nd
  exact (ss_cons (ss_set (i := 2) nd rfl (by first | exact Or.inl rfl | exact Or.inr rfl) (e_call C_thing_of hr rfl (sa_cons (se_var (pv 1)) sa_nil)))
  (ss_cons (ss_if (t_cmp cm_isN (se_var (pv 2)) se_non) (ss_one (ss_ret (se_tup sa_nil))) ss_nil)
  (ss_cons (ss_if (t_cmp (cm_eq (r64 hr)) (e_ix (se_var (pv 1)) se_int) se_str) (ss_one (ss_ret (se_tup (sa_cons (se_tup (sa_cons (e_call C_lock_of hr rfl (sa_cons (se_var (pv 0)) (sa_cons (se_var (pv 2)) sa_nil))) (sa_cons se_bl sa_nil))) (sa_cons (se_tup (sa_cons (se_var (pv 2)) (sa_cons se_bl sa_nil))) sa_nil))))) ss_nil)
  (ss_one (ss_ret (se_tup (sa_cons (se_tup (sa_cons (se_var (pv 2)) (sa_cons (e_cmp (cm_ne (r64 hr)) (e_ix (se_var (pv 1)) se_int) se_str) sa_nil))) sa_nil)))))))
theorem d__moved_on {P : Program} {w : World} {K : PySem.W.Frag} {mg : Str → Option Value} {base : Heap} {k : Nat} {p__with_mode : Fx} (C__with_mode : Cal P w K mg base k "_with_mode" ["state", "thread", "mode"] p__with_mode) {p__moved_to : Fx} (C__moved_to : Cal P w K mg base k "_moved_to" ["program", "state", "thread", "pc"] p__moved_to)    (k_THREADS : Con K mg "THREADS" c_THREADS)  (f : Addr) (cdv : Value) (A : Around) (outer : List PySem.Env) (s : Shared) (H : Hp) (E : XK) (hr : Room k (A.deeper (PyProof.Rows.envOfC "_moved_on" (defScope s__moved_on) s.heap.objs.size f cdv))) :
    PSs (cxOf CX0 P w K mg base N__moved_on "_moved_on" (defScope s__moved_on) f cdv A outer s H E).nox (defBody s__moved_on) (rdS K w (b__moved_on p__with_mode p__moved_to)) := by
  have nd := sc__moved_on.nd
  exact (ss_cons (ss_set (i := 4) nd rfl (by first | exact Or.inl rfl | exact Or.inr rfl) (e_ix (e_ix (e_ix (se_var (pv 1)) (e_con k_THREADS rfl)) (se_var (pv 2))) se_int))
  (ss_cons (ss_set (i := 5) nd rfl (by first | exact Or.inl rfl | exact Or.inr rfl) (e_ix (e_ix (e_ix (se_var (pv 0)) se_int) (se_var (pv 2))) (se_var (pv 4))))
  (ss_cons (ss_if (t_cmp (cm_eq (r64 hr)) (e_ix (se_var (pv 5)) se_int) se_str) (ss_one (ss_ret (e_call C__with_mode hr rfl (sa_cons (se_var (pv 1)) (sa_cons (se_var (pv 2)) (sa_cons se_str sa_nil)))))) ss_nil)
  (ss_cons (ss_if (PW.pt (sw_and (t_cmp (cm_eq (r64 hr)) (e_ix (se_var (pv 5)) se_int) se_str) (sw_and1 (t_cmp (cm_ne (r64 hr)) (se_var (pv 3)) se_int)))) (ss_one (ss_ret (e_call C__moved_to hr rfl (sa_cons (se_var (pv 0)) (sa_cons (se_var (pv 1)) (sa_cons (se_var (pv 2)) (sa_cons (e_ix (se_var (pv 5)) se_int) sa_nil))))))) ss_nil)
  (ss_cons (ss_set (i := 6) nd rfl (by first | exact Or.inl rfl | exact Or.inr rfl) (e_call C__moved_to hr rfl (sa_cons (se_var (pv 0)) (sa_cons (se_var (pv 1)) (sa_cons (se_var (pv 2)) (sa_cons (e_add (se_var (pv 4)) se_int) sa_nil))))))
  (ss_one (ss_ret (se_if (t_cmp (cm_eq (r64 hr)) (e_ix (se_var (pv 5)) se_int) se_str) (e_call C__with_mode hr rfl (sa_cons (se_var (pv 6)) (sa_cons (se_var (pv 2)) (sa_cons se_str sa_nil)))) (se_var (pv 6))))))))))
theorem d__moved_to {P : Program} {w : World} {K : PySem.W.Frag} {mg : Str → Option Value} {base : Heap} {k : Nat} {p__with_thread : Fx} (C__with_thread : Cal P w K mg base k "_with_thread" ["state", "thread", "entry"] p__with_thread)    (k_THREADS : Con K mg "THREADS" c_THREADS) (z_len : mg "len" = none) (f : Addr) (cdv : Value) (A : Around) (outer : List PySem.Env) (s : Shared) (H : Hp) (E : XK) (hr : Room k (A.deeper (PyProof.Rows.envOfC "_moved_to" (defScope s__moved_to) s.heap.objs.size f cdv))) :
    PSs (cxOf CX0 P w K mg base N__moved_to "_moved_to" (defScope s__moved_to) f cdv A outer s H E).nox (defBody s__moved_to) (rdS K w (b__moved_to p__with_thread)) := by
  have nd := sc__moved_to.nd
  exact (ss_cons (ss_asg (e_ix (e_ix (se_var (pv 1)) (e_con k_THREADS rfl)) (se_var (pv 2))) (pg_tup rfl (pgs_cons (pg_name (i := 4) nd rfl (by first | exact Or.inl rfl | exact Or.inr rfl)) (pgs_cons (pg_name (i := 5) nd rfl (by first | exact Or.inl rfl | exact Or.inr rfl)) (pgs_cons (pg_name (i := 6) nd rfl (by first | exact Or.inl rfl | exact Or.inr rfl)) (pgs_cons (pg_name (i := 7) nd rfl (by first | exact Or.inl rfl | exact Or.inr rfl)) pgs_nil))))) (ok_tup (n := 4) (ok_gcons (i := 4) (ok_gcons (i := 5) (ok_gcons (i := 6) (ok_gcons (i := 7) ok_gnil)))) rfl))
  (ss_cons (ss_set (i := 8) nd rfl (by first | exact Or.inl rfl | exact Or.inr rfl) (e_cmp (cm_eq (r64 hr)) (se_var (pv 3)) (e_len rfl z_len (sa_cons (e_ix (e_ix (se_var (pv 0)) se_int) (se_var (pv 2))) sa_nil))))
  (ss_one (ss_ret (e_call C__with_thread hr rfl (sa_cons (se_var (pv 1)) (sa_cons (se_var (pv 2)) (sa_cons (se_tup (sa_cons (se_var (pv 3)) (sa_cons (se_var (pv 5)) (sa_cons (se_if (st_tru (se_var (pv 8))) se_str (se_var (pv 6))) (sa_cons (se_var (pv 7)) sa_nil))))) sa_nil))))))))
theorem d__effect {P : Program} {w : World} {K : PySem.W.Frag} {mg : Str → Option Value} {base : Heap} {k : Nat} {p_kind_needed : Fx} (C_kind_needed : Cal P w K mg base k "kind_needed" ["instruction"] p_kind_needed) {p__use_variable : Fx} (C__use_variable : Cal P w K mg base k "_use_variable" ["program", "state", "thread", "instruction", "value"] p__use_variable) {p__use_lock : Fx} (C__use_lock : Cal P w K mg base k "_use_lock" ["program", "state", "thread", "instruction"] p__use_lock) {p__use_condition : Fx} (C__use_condition : Cal P w K mg base k "_use_condition" ["program", "state", "thread", "instruction"] p__use_condition) {p__use_queue : Fx} (C__use_queue : Cal P w K mg base k "_use_queue" ["program", "state", "thread", "instruction", "value"] p__use_queue) {p__with_register : Fx} (C__with_register : Cal P w K mg base k "_with_register" ["state", "thread", "letter", "value"] p__with_register)    (k_THREADS : Con K mg "THREADS" c_THREADS)  (f : Addr) (cdv : Value) (A : Around) (outer : List PySem.Env) (s : Shared) (H : Hp) (E : XK) (hr : Room k (A.deeper (PyProof.Rows.envOfC "_effect" (defScope s__effect) s.heap.objs.size f cdv))) :
    PSs (cxOf CX0 P w K mg base N__effect "_effect" (defScope s__effect) f cdv A outer s H E).nox (defBody s__effect) (rdS K w (b__effect p_kind_needed p__use_variable p__use_lock p__use_condition p__use_queue p__with_register)) := by
  have nd := sc__effect.nd
  exact (ss_cons (ss_set (i := 4) nd rfl (by first | exact Or.inl rfl | exact Or.inr rfl) (e_ix (e_ix (e_ix (se_var (pv 0)) se_int) (se_var (pv 2))) (e_ix (e_ix (e_ix (se_var (pv 1)) (e_con k_THREADS rfl)) (se_var (pv 2))) se_int)))
  (ss_cons (ss_set (i := 5) nd rfl (by first | exact Or.inl rfl | exact Or.inr rfl) (e_call C_kind_needed hr rfl (sa_cons (se_var (pv 4)) sa_nil)))
  (ss_cons (ss_if (t_cmp (cm_eq (r64 hr)) (se_var (pv 5)) se_str) (ss_one (ss_ret (e_call C__use_variable hr rfl (sa_cons (se_var (pv 0)) (sa_cons (se_var (pv 1)) (sa_cons (se_var (pv 2)) (sa_cons (se_var (pv 4)) (sa_cons (se_var (pv 3)) sa_nil)))))))) ss_nil)
  (ss_cons (ss_if (t_cmp (cm_eq (r64 hr)) (se_var (pv 5)) se_str) (ss_one (ss_ret (e_call C__use_lock hr rfl (sa_cons (se_var (pv 0)) (sa_cons (se_var (pv 1)) (sa_cons (se_var (pv 2)) (sa_cons (se_var (pv 4)) sa_nil))))))) ss_nil)
  (ss_cons (ss_if (t_cmp (cm_eq (r64 hr)) (se_var (pv 5)) se_str) (ss_one (ss_ret (e_call C__use_condition hr rfl (sa_cons (se_var (pv 0)) (sa_cons (se_var (pv 1)) (sa_cons (se_var (pv 2)) (sa_cons (se_var (pv 4)) sa_nil))))))) ss_nil)
  (ss_cons (ss_if (t_cmp (cm_eq (r64 hr)) (se_var (pv 5)) se_str) (ss_one (ss_ret (e_call C__use_queue hr rfl (sa_cons (se_var (pv 0)) (sa_cons (se_var (pv 1)) (sa_cons (se_var (pv 2)) (sa_cons (se_var (pv 4)) (sa_cons (se_var (pv 3)) sa_nil)))))))) ss_nil)
  (ss_cons (ss_if (t_cmp (cm_eq (r64 hr)) (e_ix (se_var (pv 4)) se_int) se_str) (ss_one (ss_ret (se_tup (sa_cons (e_call C__with_register hr rfl (sa_cons (se_var (pv 1)) (sa_cons (se_var (pv 2)) (sa_cons (e_ix (se_var (pv 4)) se_int) (sa_cons (se_var (pv 3)) sa_nil))))) (sa_cons se_non sa_nil))))) ss_nil)
  (ss_cons (ss_if (PW.pt (sw_and (t_cmp (cm_eq (r64 hr)) (e_ix (se_var (pv 4)) se_int) se_str) (sw_and1 (t_cmp (cm_eq (r64 hr)) (se_var (pv 3)) se_int)))) (ss_one (ss_ret (se_tup (sa_cons (se_var (pv 1)) (sa_cons se_str sa_nil))))) ss_nil)
  (ss_one (ss_ret (se_tup (sa_cons (se_var (pv 1)) (sa_cons se_non sa_nil)))))))))))))
theorem d__use_variable {P : Program} {w : World} {K : PySem.W.Frag} {mg : Str → Option Value} {base : Heap} {k : Nat} {p_thing_of : Fx} (C_thing_of : Cal P w K mg base k "thing_of" ["instruction"] p_thing_of) {p_content_of : Fx} (C_content_of : Cal P w K mg base k "content_of" ["program", "state", "name"] p_content_of) {p__with_register : Fx} (C__with_register : Cal P w K mg base k "_with_register" ["state", "thread", "letter", "value"] p__with_register) {p_operate : Fx} (C_operate : Cal P w K mg base k "operate" ["sign", "x", "y"] p_operate) {p__with_content : Fx} (C__with_content : Cal P w K mg base k "_with_content" ["program", "state", "name", "content"] p__with_content)    (k_RANGE : Con K mg "RANGE" c_RANGE)  (f : Addr) (cdv : Value) (A : Around) (outer : List PySem.Env) (s : Shared) (H : Hp) (E : XK) (hr : Room k (A.deeper (PyProof.Rows.envOfC "_use_variable" (defScope s__use_variable) s.heap.objs.size f cdv))) :
    PSs (cxOf CX0 P w K mg base N__use_variable "_use_variable" (defScope s__use_variable) f cdv A outer s H E).nox (defBody s__use_variable) (rdS K w (b__use_variable p_thing_of p_content_of p__with_register p_operate p__with_content)) := by
  have nd := sc__use_variable.nd
  exact (ss_cons (ss_set (i := 5) nd rfl (by first | exact Or.inl rfl | exact Or.inr rfl) (e_call C_thing_of hr rfl (sa_cons (se_var (pv 3)) sa_nil)))
  (ss_cons (ss_set (i := 6) nd rfl (by first | exact Or.inl rfl | exact Or.inr rfl) (e_call C_content_of hr rfl (sa_cons (se_var (pv 0)) (sa_cons (se_var (pv 1)) (sa_cons (se_var (pv 5)) sa_nil)))))
  (ss_cons (ss_if (t_cmp (cm_eq (r64 hr)) (e_ix (se_var (pv 3)) se_int) se_str) (ss_one (ss_ret (se_tup (sa_cons (e_call C__with_register hr rfl (sa_cons (se_var (pv 1)) (sa_cons (se_var (pv 2)) (sa_cons (e_ix (se_var (pv 3)) se_int) (sa_cons (se_var (pv 6)) sa_nil))))) (sa_cons se_non sa_nil))))) ss_nil)
  (ss_cons (ss_set (i := 7) nd rfl (by first | exact Or.inl rfl | exact Or.inr rfl) (se_if (t_cmp (cm_eq (r64 hr)) (e_ix (se_var (pv 3)) se_int) se_str) (se_var (pv 4)) (e_call C_operate hr rfl (sa_cons se_str (sa_cons (se_var (pv 6)) (sa_cons (se_var (pv 4)) sa_nil))))))
  (ss_cons (ss_if (t_cmp cm_isN (se_var (pv 7)) se_non) (ss_one (ss_ret (se_tup (sa_cons (se_var (pv 1)) (sa_cons (e_con k_RANGE rfl) sa_nil))))) ss_nil)
  (ss_one (ss_ret (se_tup (sa_cons (e_call C__with_content hr rfl (sa_cons (se_var (pv 0)) (sa_cons (se_var (pv 1)) (sa_cons (se_var (pv 5)) (sa_cons (se_var (pv 7)) sa_nil))))) (sa_cons se_non sa_nil))))))))))
theorem d__use_lock {P : Program} {w : World} {K : PySem.W.Frag} {mg : Str → Option Value} {base : Heap} {k : Nat} {p_thing_of : Fx} (C_thing_of : Cal P w K mg base k "thing_of" ["instruction"] p_thing_of) {p__with_content : Fx} (C__with_content : Cal P w K mg base k "_with_content" ["program", "state", "name", "content"] p__with_content) {p_content_of : Fx} (C_content_of : Cal P w K mg base k "content_of" ["program", "state", "name"] p_content_of)      (f : Addr) (cdv : Value) (A : Around) (outer : List PySem.Env) (s : Shared) (H : Hp) (E : XK) (hr : Room k (A.deeper (PyProof.Rows.envOfC "_use_lock" (defScope s__use_lock) s.heap.objs.size f cdv))) :
    PSs (cxOf CX0 P w K mg base N__use_lock "_use_lock" (defScope s__use_lock) f cdv A outer s H E).nox (defBody s__use_lock) (rdS K w (b__use_lock p_thing_of p__with_content p_content_of)) := by
  have nd := sc__use_lock.nd
  exact (ss_cons (ss_set (i := 4) nd rfl (by first | exact Or.inl rfl | exact Or.inr rfl) (e_call C_thing_of hr rfl (sa_cons (se_var (pv 3)) sa_nil)))
  (ss_cons (ss_if (t_cmp (cm_eq (r64 hr)) (e_ix (se_var (pv 3)) se_int) se_str) (ss_one (ss_ret (se_tup (sa_cons (e_call C__with_content hr rfl (sa_cons (se_var (pv 0)) (sa_cons (se_var (pv 1)) (sa_cons (se_var (pv 4)) (sa_cons (se_var (pv 2)) sa_nil))))) (sa_cons se_non sa_nil))))) ss_nil)
  (ss_cons (ss_if (t_cmp (cm_ne (r64 hr)) (e_call C_content_of hr rfl (sa_cons (se_var (pv 0)) (sa_cons (se_var (pv 1)) (sa_cons (se_var (pv 4)) sa_nil)))) (se_var (pv 2))) (ss_one (ss_ret (se_tup (sa_cons (se_var (pv 1)) (sa_cons se_str sa_nil))))) ss_nil)
  (ss_one (ss_ret (se_tup (sa_cons (e_call C__with_content hr rfl (sa_cons (se_var (pv 0)) (sa_cons (se_var (pv 1)) (sa_cons (se_var (pv 4)) (sa_cons se_non sa_nil))))) (sa_cons se_non sa_nil))))))))
theorem d__use_condition {P : Program} {w : World} {K : PySem.W.Frag} {mg : Str → Option Value} {base : Heap} {k : Nat} {p_thing_of : Fx} (C_thing_of : Cal P w K mg base k "thing_of" ["instruction"] p_thing_of) {p_content_of : Fx} (C_content_of : Cal P w K mg base k "content_of" ["program", "state", "name"] p_content_of) {p_lock_of : Fx} (C_lock_of : Cal P w K mg base k "lock_of" ["program", "cond"] p_lock_of) {p__with_content : Fx} (C__with_content : Cal P w K mg base k "_with_content" ["program", "state", "name", "content"] p__with_content) {p__with_mode : Fx} (C__with_mode : Cal P w K mg base k "_with_mode" ["state", "thread", "mode"] p__with_mode)     (z_len : mg "len" = none) (f : Addr) (cdv : Value) (A : Around) (outer : List PySem.Env) (s : Shared) (H : Hp) (E : XK) (hr : Room k (A.deeper (PyProof.Rows.envOfC "_use_condition" (defScope s__use_condition) s.heap.objs.size f cdv))) :
    PSs (cxOf CX0 P w K mg base N__use_condition "_use_condition" (defScope s__use_condition) f cdv A outer s H E).nox (defBody s__use_condition) (rdS K w (b__use_condition p_thing_of p_content_of p_lock_of p__with_content p__with_mode)) := by
  have nd := sc__use_condition.nd
  exact (ss_cons (ss_set (i := 4) nd rfl (by first | exact Or.inl rfl | exact Or.inr rfl) (e_call C_thing_of hr rfl (sa_cons (se_var (pv 3)) sa_nil)))
  (ss_cons (ss_set (i := 5) nd rfl (by first | exact Or.inl rfl | exact Or.inr rfl) (e_call C_content_of hr rfl (sa_cons (se_var (pv 0)) (sa_cons (se_var (pv 1)) (sa_cons (se_var (pv 4)) sa_nil)))))
  (ss_cons (ss_if (t_cmp (cm_eq (r64 hr)) (e_ix (se_var (pv 3)) se_int) se_str) (ss_cons (ss_set (i := 6) nd rfl (by first | exact Or.inl rfl | exact Or.inr rfl) (e_call C_lock_of hr rfl (sa_cons (se_var (pv 0)) (sa_cons (se_var (pv 4)) sa_nil))))
  (ss_cons (ss_if (t_cmp (cm_ne (r64 hr)) (e_call C_content_of hr rfl (sa_cons (se_var (pv 0)) (sa_cons (se_var (pv 1)) (sa_cons (se_var (pv 6)) sa_nil)))) (se_var (pv 2))) (ss_one (ss_ret (se_tup (sa_cons (se_var (pv 1)) (sa_cons se_str sa_nil))))) ss_nil)
  (ss_cons (ss_set (i := 7) nd rfl (by first | exact Or.inl rfl | exact Or.inr rfl) (e_call C__with_content hr rfl (sa_cons (se_var (pv 0)) (sa_cons (se_var (pv 1)) (sa_cons (se_var (pv 6)) (sa_cons se_non sa_nil))))))
  (ss_one (ss_ret (se_tup (sa_cons (e_call C__with_content hr rfl (sa_cons (se_var (pv 0)) (sa_cons (se_var (pv 7)) (sa_cons (se_var (pv 4)) (sa_cons (e_add (se_var (pv 5)) (se_tup (sa_cons (se_var (pv 2)) sa_nil))) sa_nil))))) (sa_cons se_non sa_nil)))))))) ss_nil)
  (ss_cons (ss_set (i := 8) nd rfl (by first | exact Or.inl rfl | exact Or.inr rfl) (se_if (t_cmp (cm_eq (r64 hr)) (e_ix (se_var (pv 3)) se_int) se_str) se_int (e_len rfl z_len (sa_cons (se_var (pv 5)) sa_nil))))
  (ss_cons (ss_set (i := 9) nd rfl (by first | exact Or.inl rfl | exact Or.inr rfl) (e_call C__with_content hr rfl (sa_cons (se_var (pv 0)) (sa_cons (se_var (pv 1)) (sa_cons (se_var (pv 4)) (sa_cons (e_slice (se_var (pv 5)) (so_some (se_var (pv 8))) so_none) sa_nil))))))
  (ss_cons (ss_for PassesOwn.never rfl (si_any (e_slice (se_var (pv 5)) so_none (so_some (se_var (pv 8))))) (pg_name (i := 10) nd rfl (by first | exact Or.inl rfl | exact Or.inr rfl)) ok_name (ss_one (ss_set (i := 9) nd rfl (by first | exact Or.inl rfl | exact Or.inr rfl) (e_call C__with_mode hr rfl (sa_cons (se_var (pv 9)) (sa_cons (se_var (pv 10)) (sa_cons se_str sa_nil)))))))
  (ss_one (ss_ret (se_tup (sa_cons (se_var (pv 9)) (sa_cons se_non sa_nil)))))))))))
theorem d__use_queue {P : Program} {w : World} {K : PySem.W.Frag} {mg : Str → Option Value} {base : Heap} {k : Nat} {p_thing_of : Fx} (C_thing_of : Cal P w K mg base k "thing_of" ["instruction"] p_thing_of) {p_content_of : Fx} (C_content_of : Cal P w K mg base k "content_of" ["program", "state", "name"] p_content_of) {p__with_content : Fx} (C__with_content : Cal P w K mg base k "_with_content" ["program", "state", "name", "content"] p__with_content) {p__with_register : Fx} (C__with_register : Cal P w K mg base k "_with_register" ["state", "thread", "letter", "value"] p__with_register)      (f : Addr) (cdv : Value) (A : Around) (outer : List PySem.Env) (s : Shared) (H : Hp) (E : XK) (hr : Room k (A.deeper (PyProof.Rows.envOfC "_use_queue" (defScope s__use_queue) s.heap.objs.size f cdv))) :
    PSs (cxOf CX0 P w K mg base N__use_queue "_use_queue" (defScope s__use_queue) f cdv A outer s H E).nox (defBody s__use_queue) (rdS K w (b__use_queue p_thing_of p_content_of p__with_content p__with_register)) := by
  have nd := sc__use_queue.nd
  exact (ss_cons (ss_set (i := 5) nd rfl (by first | exact Or.inl rfl | exact Or.inr rfl) (e_call C_thing_of hr rfl (sa_cons (se_var (pv 3)) sa_nil)))
  (ss_cons (ss_set (i := 6) nd rfl (by first | exact Or.inl rfl | exact Or.inr rfl) (e_call C_content_of hr rfl (sa_cons (se_var (pv 0)) (sa_cons (se_var (pv 1)) (sa_cons (se_var (pv 5)) sa_nil)))))
  (ss_cons (ss_if (t_cmp (cm_eq (r64 hr)) (e_ix (se_var (pv 3)) se_int) se_str) (ss_one (ss_ret (se_tup (sa_cons (e_call C__with_content hr rfl (sa_cons (se_var (pv 0)) (sa_cons (se_var (pv 1)) (sa_cons (se_var (pv 5)) (sa_cons (e_add (se_var (pv 6)) (se_tup (sa_cons (se_var (pv 4)) sa_nil))) sa_nil))))) (sa_cons se_non sa_nil))))) ss_nil)
  (ss_cons (ss_set (i := 7) nd rfl (by first | exact Or.inl rfl | exact Or.inr rfl) (e_call C__with_content hr rfl (sa_cons (se_var (pv 0)) (sa_cons (se_var (pv 1)) (sa_cons (se_var (pv 5)) (sa_cons (e_slice (se_var (pv 6)) (so_some se_int) so_none) sa_nil))))))
  (ss_one (ss_ret (se_tup (sa_cons (e_call C__with_register hr rfl (sa_cons (se_var (pv 7)) (sa_cons (se_var (pv 2)) (sa_cons (e_ix (se_var (pv 3)) se_int) (sa_cons (e_ix (se_var (pv 6)) se_int) sa_nil))))) (sa_cons se_non sa_nil)))))))))
theorem d_run {P : Program} {w : World} {K : PySem.W.Frag} {mg : Str → Option Value} {base : Heap} {k : Nat} {p_walk : Fx} (C_walk : Cal P w K mg base k "walk" ["program", "schedule"] p_walk)     (z_tuple : mg "tuple" = none) (f : Addr) (cdv : Value) (A : Around) (outer : List PySem.Env) (s : Shared) (H : Hp) (E : XK) (hr : Room k (A.deeper (PyProof.Rows.envOfC "run" (defScope s_run) s.heap.objs.size f cdv))) :
    PSs (cxOf CX0 P w K mg base N_run "run" (defScope s_run) f cdv A outer s H E).nox (defBody s_run) (rdS K w (b_run p_walk)) := by
  have nd := sc_run.nd
  exact (ss_cons (ss_asg (e_call C_walk hr rfl (sa_cons (se_var (pv 0)) (sa_cons (se_var (pv 1)) sa_nil))) (pg_tup rfl (pgs_cons (pg_name (i := 2) nd rfl (by first | exact Or.inl rfl | exact Or.inr rfl)) (pgs_cons (pg_name (i := 3) nd rfl (by first | exact Or.inl rfl | exact Or.inr rfl)) pgs_nil))) (ok_tup (n := 2) (ok_gcons (i := 2) (ok_gcons (i := 3) ok_gnil)) rfl))
  (ss_one (ss_ret (se_tup (sa_cons (e_ix (se_var (pv 2)) (e_neg se_int)) (sa_cons (e_tuple rfl z_tuple (sa_cons (se_var (pv 3)) sa_nil)) sa_nil))))))
theorem dx_run {P : Program} {w : World} {K : PySem.W.Frag} {mg : Str → Option Value} {base : Heap} {k : Nat}  {px_walk : Fy} (CX_walk : CalX P w K mg base k "walk" ["program", "schedule"] px_walk)    (z_tuple : mg "tuple" = none) (f : Addr) (cdv : Value) (A : Around) (outer : List PySem.Env) (s : Shared) (H : Hp) (E : XK) (hr : Room k (A.deeper (PyProof.Rows.envOfC "run" (defScope s_run) s.heap.objs.size f cdv))) :
    PSs (cxOf (L2N.CX P w) P w K mg base N_run "run" (defScope s_run) f cdv A outer s H E) (defBody s_run) (rdX K w mg (fun cls d _ H => E cls d H) (bx_run px_walk)) := by
  have nd := sc_run.nd
  exact (sx_cons (sx_asg (ex_call CX_walk (L2N.takes_of rfl rfl rfl rfl) hr rfl (sa_cons (se_var (pv 0)) (sa_cons (se_var (pv 1)) sa_nil))) (pg_tup rfl (pgs_cons (pg_name (i := 2) nd rfl (by first | exact Or.inl rfl | exact Or.inr rfl)) (pgs_cons (pg_name (i := 3) nd rfl (by first | exact Or.inl rfl | exact Or.inr rfl)) pgs_nil))) (ok_tup (n := 2) (ok_gcons (i := 2) (ok_gcons (i := 3) ok_gnil)) rfl))
  (sx_one (sx_lift (ss_ret (se_tup (sa_cons (e_ix (se_var (pv 2)) (e_neg se_int)) (sa_cons (e_tuple rfl z_tuple (sa_cons (se_var (pv 3)) sa_nil)) sa_nil)))))))
theorem d_walk {P : Program} {w : World} {K : PySem.W.Frag} {mg : Str → Option Value} {base : Heap} {k : Nat} {p_first_state : Fx} (C_first_state : Cal P w K mg base k "first_state" ["program"] p_first_state) {p_enabled : Fx} (C_enabled : Cal P w K mg base k "enabled" ["program", "state"] p_enabled) {p_make_step : Fx} (C_make_step : Cal P w K mg base k "make_step" ["program", "state", "thread"] p_make_step)     (z_enumerate : mg "enumerate" = none) (f : Addr) (cdv : Value) (A : Around) (outer : List PySem.Env) (s : Shared) (H : Hp) (E : XK) (hr : Room k (A.deeper (PyProof.Rows.envOfC "walk" (defScope s_walk) s.heap.objs.size f cdv))) :
    PSs (cxOf CX0 P w K mg base N_walk "walk" (defScope s_walk) f cdv A outer s H E).nox (defBody s_walk) (rdS K w (b_walk p_first_state p_enabled p_make_step)) := by
  have nd := sc_walk.nd
  exact (ss_cons (ss_set (i := 2) nd rfl (by first | exact Or.inl rfl | exact Or.inr rfl) (se_lst (sa_cons (e_call C_first_state hr rfl (sa_cons (se_var (pv 0)) sa_nil)) sa_nil)))
  (ss_cons (ss_set (i := 3) nd rfl (by first | exact Or.inl rfl | exact Or.inr rfl) (se_lst sa_nil))
  (ss_cons (ss_for PassesOwn.never rfl (si_enumU rfl z_enumerate (sa_cons (se_var (pv 1)) sa_nil)) (pg_tup rfl (pgs_cons (pg_name (i := 4) nd rfl (by first | exact Or.inl rfl | exact Or.inr rfl)) (pgs_cons (pg_name (i := 5) nd rfl (by first | exact Or.inl rfl | exact Or.inr rfl)) pgs_nil))) (ok_tup (n := 2) (ok_gcons (i := 4) (ok_gcons (i := 5) ok_gnil)) rfl) (ss_cons (ss_if (t_cmp (cm_notin (r65 hr)) (se_var (pv 5)) (e_call C_enabled hr rfl (sa_cons (se_var (pv 0)) (sa_cons (e_ix (se_var (pv 2)) (e_neg se_int)) sa_nil)))) (ss_one ss_never) ss_nil)
  (ss_cons (ss_asg (e_call C_make_step hr rfl (sa_cons (se_var (pv 0)) (sa_cons (e_ix (se_var (pv 2)) (e_neg se_int)) (sa_cons (se_var (pv 5)) sa_nil)))) (pg_tup rfl (pgs_cons (pg_name (i := 6) nd rfl (by first | exact Or.inl rfl | exact Or.inr rfl)) (pgs_cons (pg_name (i := 7) nd rfl (by first | exact Or.inl rfl | exact Or.inr rfl)) pgs_nil))) (ok_tup (n := 2) (ok_gcons (i := 6) (ok_gcons (i := 7) ok_gnil)) rfl))
  (ss_cons (ss_expr (e_append (se_var (pv 2)) (sa_cons (se_var (pv 6)) sa_nil)))
  (ss_one (ss_expr (e_append (se_var (pv 3)) (sa_cons (se_var (pv 7)) sa_nil))))))))
  (ss_one (ss_ret (se_tup (sa_cons (se_var (pv 2)) (sa_cons (se_var (pv 3)) sa_nil))))))))
theorem dx_walk {P : Program} {w : World} {K : PySem.W.Frag} {mg : Str → Option Value} {base : Heap} {k : Nat} {p_first_state : Fx} (C_first_state : Cal P w K mg base k "first_state" ["program"] p_first_state) {p_enabled : Fx} (C_enabled : Cal P w K mg base k "enabled" ["program", "state"] p_enabled) {p_make_step : Fx} (C_make_step : Cal P w K mg base k "make_step" ["program", "state", "thread"] p_make_step)   (M_NotEnabled : MkC P w K mg base "NotEnabled") {p_rz : Bool} (C_rz : p_rz = true → 2 ≤ k)  (z_enumerate : mg "enumerate" = none) (f : Addr) (cdv : Value) (A : Around) (outer : List PySem.Env) (s : Shared) (H : Hp) (E : XK) (hr : Room k (A.deeper (PyProof.Rows.envOfC "walk" (defScope s_walk) s.heap.objs.size f cdv))) :
    PSs (cxOf (L2N.CX P w) P w K mg base N_walk "walk" (defScope s_walk) f cdv A outer s H E) (defBody s_walk) (rdX K w mg (fun cls d _ H => E cls d H) (bx_walk p_first_state p_enabled p_make_step p_rz)) := by
  have nd := sc_walk.nd
  exact (sx_cons (sx_lift (ss_set (i := 2) nd rfl (by first | exact Or.inl rfl | exact Or.inr rfl) (se_lst (sa_cons (e_call C_first_state hr rfl (sa_cons (se_var (pv 0)) sa_nil)) sa_nil))))
  (sx_cons (sx_lift (ss_set (i := 3) nd rfl (by first | exact Or.inl rfl | exact Or.inr rfl) (se_lst sa_nil)))
  (sx_cons (sx_for (passes_of rfl) rfl (si_enumU rfl z_enumerate (sa_cons (se_var (pv 1)) sa_nil)) (pg_tup rfl (pgs_cons (pg_name (i := 4) nd rfl (by first | exact Or.inl rfl | exact Or.inr rfl)) (pgs_cons (pg_name (i := 5) nd rfl (by first | exact Or.inl rfl | exact Or.inr rfl)) pgs_nil))) (ok_tup (n := 2) (ok_gcons (i := 4) (ok_gcons (i := 5) ok_gnil)) rfl) (sx_cons (sx_if (t_cmp (cm_notin (r65 hr)) (se_var (pv 5)) (e_call C_enabled hr rfl (sa_cons (se_var (pv 0)) (sa_cons (e_ix (se_var (pv 2)) (e_neg se_int)) sa_nil)))) (sx_one (sx_raise rfl M_NotEnabled (L2N.takes_of rfl rfl rfl rfl) hr C_rz rfl (sa_cons (se_var (pv 4)) sa_nil))) sx_nil)
  (sx_cons (sx_lift (ss_asg (e_call C_make_step hr rfl (sa_cons (se_var (pv 0)) (sa_cons (e_ix (se_var (pv 2)) (e_neg se_int)) (sa_cons (se_var (pv 5)) sa_nil)))) (pg_tup rfl (pgs_cons (pg_name (i := 6) nd rfl (by first | exact Or.inl rfl | exact Or.inr rfl)) (pgs_cons (pg_name (i := 7) nd rfl (by first | exact Or.inl rfl | exact Or.inr rfl)) pgs_nil))) (ok_tup (n := 2) (ok_gcons (i := 6) (ok_gcons (i := 7) ok_gnil)) rfl)))
  (sx_cons (sx_lift (ss_expr (e_append (se_var (pv 2)) (sa_cons (se_var (pv 6)) sa_nil))))
  (sx_one (sx_lift (ss_expr (e_append (se_var (pv 3)) (sa_cons (se_var (pv 7)) sa_nil)))))))))
  (sx_one (sx_lift (ss_ret (se_tup (sa_cons (se_var (pv 2)) (sa_cons (se_var (pv 3)) sa_nil)))))))))
theorem dx_lost_notices {P : Program} {w : World} {K : PySem.W.Frag} {mg : Str → Option Value} {base : Heap} {k : Nat} {p_enabled : Fx} (C_enabled : Cal P w K mg base k "enabled" ["program", "state"] p_enabled) {p__noticed : Fx} (C__noticed : Cal P w K mg base k "_noticed" ["program", "step"] p__noticed) {p__is_awaited : Fx} (C__is_awaited : Cal P w K mg base k "_is_awaited" ["program", "state", "cond"] p__is_awaited) {px_walk : Fy} (CX_walk : CalX P w K mg base k "walk" ["program", "schedule"] px_walk)    (z_zip : mg "zip" = none) (f : Addr) (cdv : Value) (A : Around) (outer : List PySem.Env) (s : Shared) (H : Hp) (E : XK) (hr : Room k (A.deeper (PyProof.Rows.envOfC "lost_notices" (defScope s_lost_notices) s.heap.objs.size f cdv))) :
    PSs (cxOf (L2N.CX P w) P w K mg base N_lost_notices "lost_notices" (defScope s_lost_notices) f cdv A outer s H E) (defBody s_lost_notices) (rdX K w mg (fun cls d _ H => E cls d H) (bx_lost_notices p_enabled p__noticed p__is_awaited px_walk)) := by
  have nd := sc_lost_notices.nd
  exact (sx_cons (sx_asg (ex_call CX_walk (L2N.takes_of rfl rfl rfl rfl) hr rfl (sa_cons (se_var (pv 0)) (sa_cons (se_var (pv 1)) sa_nil))) (pg_tup rfl (pgs_cons (pg_name (i := 2) nd rfl (by first | exact Or.inl rfl | exact Or.inr rfl)) (pgs_cons (pg_name (i := 3) nd rfl (by first | exact Or.inl rfl | exact Or.inr rfl)) pgs_nil))) (ok_tup (n := 2) (ok_gcons (i := 2) (ok_gcons (i := 3) ok_gnil)) rfl))
  (sx_cons (sx_lift (ss_set (i := 4) nd rfl (by first | exact Or.inl rfl | exact Or.inr rfl) (e_ix (se_var (pv 2)) (e_neg se_int))))
  (sx_cons (sx_lift (ss_if (t_cmp (cm_ne (r64 hr)) (e_call C_enabled hr rfl (sa_cons (se_var (pv 0)) (sa_cons (se_var (pv 4)) sa_nil))) (se_tup sa_nil)) (ss_one (ss_ret (se_lst sa_nil))) ss_nil))
  (sx_cons (sx_lift (ss_set (i := 5) nd rfl (by first | exact Or.inl rfl | exact Or.inr rfl) (se_lst sa_nil)))
  (sx_cons (sx_lift (ss_for (passes_of rfl) rfl (si_zip rfl z_zip (sa_cons (se_var (pv 2)) (sa_cons (se_var (pv 3)) sa_nil))) (pg_tup rfl (pgs_cons (pg_name (i := 6) nd rfl (by first | exact Or.inl rfl | exact Or.inr rfl)) (pgs_cons (pg_name (i := 7) nd rfl (by first | exact Or.inl rfl | exact Or.inr rfl)) pgs_nil))) (ok_tup (n := 2) (ok_gcons (i := 6) (ok_gcons (i := 7) ok_gnil)) rfl) (ss_cons (ss_set (i := 8) nd rfl (by first | exact Or.inl rfl | exact Or.inr rfl) (e_call C__noticed hr rfl (sa_cons (se_var (pv 0)) (sa_cons (se_var (pv 7)) sa_nil))))
  (ss_one (ss_if (PW.pt (sw_and (t_cmp cm_notN (se_var (pv 8)) se_non) (sw_and (st_not (st_tru (e_call C__is_awaited hr rfl (sa_cons (se_var (pv 0)) (sa_cons (se_var (pv 6)) (sa_cons (se_var (pv 8)) sa_nil)))))) (sw_and1 (st_tru (e_call C__is_awaited hr rfl (sa_cons (se_var (pv 0)) (sa_cons (se_var (pv 4)) (sa_cons (se_var (pv 8)) sa_nil))))))))) (ss_one (ss_expr (e_append (se_var (pv 5)) (sa_cons (se_tup (sa_cons se_str (sa_cons (e_ix (se_var (pv 7)) se_int) (sa_cons (e_ix (se_var (pv 7)) se_int) (sa_cons (se_var (pv 8)) sa_nil))))) sa_nil)))) ss_nil)))))
  (sx_one (sx_lift (ss_ret (se_var (pv 5))))))))))
theorem d__noticed {P : Program} {w : World} {K : PySem.W.Frag} {mg : Str → Option Value} {base : Heap} {k : Nat}       (f : Addr) (cdv : Value) (A : Around) (outer : List PySem.Env) (s : Shared) (H : Hp) (E : XK) (hr : Room k (A.deeper (PyProof.Rows.envOfC "_noticed" (defScope s__noticed) s.heap.objs.size f cdv))) :
    PSs (cxOf CX0 P w K mg base N__noticed "_noticed" (defScope s__noticed) f cdv A outer s H E).nox (defBody s__noticed) (rdS K w (b__noticed )) := by
  have nd := sc__noticed.nd
  exact (ss_cons ss_never
  (ss_one ss_never))
theorem d__is_awaited {P : Program} {w : World} {K : PySem.W.Frag} {mg : Str → Option Value} {base : Heap} {k : Nat}       (f : Addr) (cdv : Value) (A : Around) (outer : List PySem.Env) (s : Shared) (H : Hp) (E : XK) (hr : Room k (A.deeper (PyProof.Rows.envOfC "_is_awaited" (defScope s__is_awaited) s.heap.objs.size f cdv))) :
    PSs (cxOf CX0 P w K mg base N__is_awaited "_is_awaited" (defScope s__is_awaited) f cdv A outer s H E).nox (defBody s__is_awaited) (rdS K w (b__is_awaited )) := by
  have nd := sc__is_awaited.nd
  exact (ss_one ss_never)
theorem dx_faults_of {P : Program} {w : World} {K : PySem.W.Frag} {mg : Str → Option Value} {base : Heap} {k : Nat} {p__in_order : Fx} (C__in_order : Cal P w K mg base k "_in_order" ["faults"] p__in_order) {p__faults_in : Fx} (C__faults_in : Cal P w K mg base k "_faults_in" ["program", "schedule", "steps", "state"] p__faults_in) {px_run : Fy} (CX_run : CalX P w K mg base k "run" ["program", "schedule"] px_run)     (f : Addr) (cdv : Value) (A : Around) (outer : List PySem.Env) (s : Shared) (H : Hp) (E : XK) (hr : Room k (A.deeper (PyProof.Rows.envOfC "faults_of" (defScope s_faults_of) s.heap.objs.size f cdv))) :
    PSs (cxOf (L2N.CX P w) P w K mg base N_faults_of "faults_of" (defScope s_faults_of) f cdv A outer s H E) (defBody s_faults_of) (rdX K w mg (fun cls d _ H => E cls d H) (bx_faults_of p__in_order p__faults_in px_run)) := by
  have nd := sc_faults_of.nd
  exact (sx_cons (sx_asg (ex_call CX_run (L2N.takes_of rfl rfl rfl rfl) hr rfl (sa_cons (se_var (pv 0)) (sa_cons (se_var (pv 1)) sa_nil))) (pg_tup rfl (pgs_cons (pg_name (i := 2) nd rfl (by first | exact Or.inl rfl | exact Or.inr rfl)) (pgs_cons (pg_name (i := 3) nd rfl (by first | exact Or.inl rfl | exact Or.inr rfl)) pgs_nil))) (ok_tup (n := 2) (ok_gcons (i := 2) (ok_gcons (i := 3) ok_gnil)) rfl))
  (sx_one (sx_lift (ss_ret (e_call C__in_order hr rfl (sa_cons (e_call C__faults_in hr rfl (sa_cons (se_var (pv 0)) (sa_cons (se_var (pv 1)) (sa_cons (se_var (pv 3)) (sa_cons (se_var (pv 2)) sa_nil))))) sa_nil))))))
theorem d__faults_in {P : Program} {w : World} {K : PySem.W.Frag} {mg : Str → Option Value} {base : Heap} {k : Nat}       (f : Addr) (cdv : Value) (A : Around) (outer : List PySem.Env) (s : Shared) (H : Hp) (E : XK) (hr : Room k (A.deeper (PyProof.Rows.envOfC "_faults_in" (defScope s__faults_in) s.heap.objs.size f cdv))) :
    PSs (cxOf CX0 P w K mg base N__faults_in "_faults_in" (defScope s__faults_in) f cdv A outer s H E).nox (defBody s__faults_in) (rdS K w (b__faults_in )) := by
  have nd := sc__faults_in.nd
  exact (ss_cons ss_never
  (ss_one ss_never))
theorem d__in_order {P : Program} {w : World} {K : PySem.W.Frag} {mg : Str → Option Value} {base : Heap} {k : Nat}       (f : Addr) (cdv : Value) (A : Around) (outer : List PySem.Env) (s : Shared) (H : Hp) (E : XK) (hr : Room k (A.deeper (PyProof.Rows.envOfC "_in_order" (defScope s__in_order) s.heap.objs.size f cdv))) :
    PSs (cxOf CX0 P w K mg base N__in_order "_in_order" (defScope s__in_order) f cdv A outer s H E).nox (defBody s__in_order) (rdS K w (b__in_order )) := by
  have nd := sc__in_order.nd
  exact (ss_one ss_never)
theorem dx_outcome {P : Program} {w : World} {K : PySem.W.Frag} {mg : Str → Option Value} {base : Heap} {k : Nat} {p__outcome_in : Fx} (C__outcome_in : Cal P w K mg base k "_outcome_in" ["program", "state"] p__outcome_in) {px_run : Fy} (CX_run : CalX P w K mg base k "run" ["program", "schedule"] px_run)     (f : Addr) (cdv : Value) (A : Around) (outer : List PySem.Env) (s : Shared) (H : Hp) (E : XK) (hr : Room k (A.deeper (PyProof.Rows.envOfC "outcome" (defScope s_outcome) s.heap.objs.size f cdv))) :
    PSs (cxOf (L2N.CX P w) P w K mg base N_outcome "outcome" (defScope s_outcome) f cdv A outer s H E) (defBody s_outcome) (rdX K w mg (fun cls d _ H => E cls d H) (bx_outcome p__outcome_in px_run)) := by
  have nd := sc_outcome.nd
  exact (sx_one (sx_ret (ex_callA C__outcome_in hr rfl (ax_consA (se_var (pv 0)) (ax_cons (ex_ix (ex_call CX_run (L2N.takes_of rfl rfl rfl rfl) hr rfl (sa_cons (se_var (pv 0)) (sa_cons (se_var (pv 1)) sa_nil))) se_int) sa_nil)))))
theorem d__outcome_in {P : Program} {w : World} {K : PySem.W.Frag} {mg : Str → Option Value} {base : Heap} {k : Nat}       (f : Addr) (cdv : Value) (A : Around) (outer : List PySem.Env) (s : Shared) (H : Hp) (E : XK) (hr : Room k (A.deeper (PyProof.Rows.envOfC "_outcome_in" (defScope s__outcome_in) s.heap.objs.size f cdv))) :
    PSs (cxOf CX0 P w K mg base N__outcome_in "_outcome_in" (defScope s__outcome_in) f cdv A outer s H E).nox (defBody s__outcome_in) (rdS K w (b__outcome_in )) := by
  have nd := sc__outcome_in.nd
  exact (ss_cons ss_never
  (ss_one ss_never))
theorem dx_history {P : Program} {w : World} {K : PySem.W.Frag} {mg : Str → Option Value} {base : Heap} {k : Nat}  {px__check_variable : Fy} (CX__check_variable : CalX P w K mg base k "_check_variable" ["program", "name"] px__check_variable) {px__history_in : Fy} (CX__history_in : CalX P w K mg base k "_history_in" ["program", "schedule", "name"] px__history_in)     (f : Addr) (cdv : Value) (A : Around) (outer : List PySem.Env) (s : Shared) (H : Hp) (E : XK) (hr : Room k (A.deeper (PyProof.Rows.envOfC "history" (defScope s_history) s.heap.objs.size f cdv))) :
    PSs (cxOf (L2N.CX P w) P w K mg base N_history "history" (defScope s_history) f cdv A outer s H E) (defBody s_history) (rdX K w mg (fun cls d _ H => E cls d H) (bx_history px__check_variable px__history_in)) := by
  have nd := sc_history.nd
  exact (sx_cons (sx_expr (ex_call CX__check_variable (L2N.takes_of rfl rfl rfl rfl) hr rfl (sa_cons (se_var (pv 0)) (sa_cons (se_var (pv 2)) sa_nil))))
  (sx_one (sx_ret (ex_call CX__history_in (L2N.takes_of rfl rfl rfl rfl) hr rfl (sa_cons (se_var (pv 0)) (sa_cons (se_var (pv 1)) (sa_cons (se_var (pv 2)) sa_nil)))))))
theorem dx__check_variable {P : Program} {w : World} {K : PySem.W.Frag} {mg : Str → Option Value} {base : Heap} {k : Nat} {p_names_of : Fx} (C_names_of : Cal P w K mg base k "names_of" ["program", "kind"] p_names_of)   (M_NoSuchPlace : MkC P w K mg base "NoSuchPlace") {p_rz : Bool} (C_rz : p_rz = true → 2 ≤ k)   (f : Addr) (cdv : Value) (A : Around) (outer : List PySem.Env) (s : Shared) (H : Hp) (E : XK) (hr : Room k (A.deeper (PyProof.Rows.envOfC "_check_variable" (defScope s__check_variable) s.heap.objs.size f cdv))) :
    PSs (cxOf (L2N.CX P w) P w K mg base N__check_variable "_check_variable" (defScope s__check_variable) f cdv A outer s H E) (defBody s__check_variable) (rdX K w mg (fun cls d _ H => E cls d H) (bx__check_variable p_names_of p_rz)) := by
  have nd := sc__check_variable.nd
  exact (sx_one (sx_if (t_cmp (cm_notin (r65 hr)) (se_var (pv 1)) (e_call C_names_of hr rfl (sa_cons (se_var (pv 0)) (sa_cons se_str sa_nil)))) (sx_one (sx_raise rfl M_NoSuchPlace (L2N.takes_of rfl rfl rfl rfl) hr C_rz rfl (sa_cons se_str sa_nil))) sx_nil))
theorem dx__history_in {P : Program} {w : World} {K : PySem.W.Frag} {mg : Str → Option Value} {base : Heap} {k : Nat} {p_content_of : Fx} (C_content_of : Cal P w K mg base k "content_of" ["program", "state", "name"] p_content_of) {px_walk : Fy} (CX_walk : CalX P w K mg base k "walk" ["program", "schedule"] px_walk)    (z_zip : mg "zip" = none) (z_tuple : mg "tuple" = none) (f : Addr) (cdv : Value) (A : Around) (outer : List PySem.Env) (s : Shared) (H : Hp) (E : XK) (hr : Room k (A.deeper (PyProof.Rows.envOfC "_history_in" (defScope s__history_in) s.heap.objs.size f cdv))) :
    PSs (cxOf (L2N.CX P w) P w K mg base N__history_in "_history_in" (defScope s__history_in) f cdv A outer s H E) (defBody s__history_in) (rdX K w mg (fun cls d _ H => E cls d H) (bx__history_in p_content_of px_walk)) := by
  have nd := sc__history_in.nd
  exact (sx_cons (sx_asg (ex_call CX_walk (L2N.takes_of rfl rfl rfl rfl) hr rfl (sa_cons (se_var (pv 0)) (sa_cons (se_var (pv 1)) sa_nil))) (pg_tup rfl (pgs_cons (pg_name (i := 3) nd rfl (by first | exact Or.inl rfl | exact Or.inr rfl)) (pgs_cons (pg_name (i := 4) nd rfl (by first | exact Or.inl rfl | exact Or.inr rfl)) pgs_nil))) (ok_tup (n := 2) (ok_gcons (i := 3) (ok_gcons (i := 4) ok_gnil)) rfl))
  (sx_cons (sx_lift (ss_set (i := 5) nd rfl (by first | exact Or.inl rfl | exact Or.inr rfl) (se_lst (sa_cons (e_call C_content_of hr rfl (sa_cons (se_var (pv 0)) (sa_cons (e_ix (se_var (pv 3)) se_int) (sa_cons (se_var (pv 2)) sa_nil)))) sa_nil))))
  (sx_cons (sx_lift (ss_for (passes_of rfl) rfl (si_zip rfl z_zip (sa_cons (e_slice (se_var (pv 3)) (so_some se_int) so_none) (sa_cons (se_var (pv 4)) sa_nil))) (pg_tup rfl (pgs_cons (pg_name (i := 6) nd rfl (by first | exact Or.inl rfl | exact Or.inr rfl)) (pgs_cons (pg_name (i := 7) nd rfl (by first | exact Or.inl rfl | exact Or.inr rfl)) pgs_nil))) (ok_tup (n := 2) (ok_gcons (i := 6) (ok_gcons (i := 7) ok_gnil)) rfl) (ss_one (ss_if (PW.pt (sw_and (t_cmp (cm_inT (r65 hr)) (se_tup (sa_cons (se_var (pv 2)) (sa_cons se_bl sa_nil))) (e_ix (se_var (pv 7)) se_int)) (sw_and1 (t_cmp cm_isN (e_ix (se_var (pv 7)) se_int) se_non)))) (ss_one (ss_expr (e_append (se_var (pv 5)) (sa_cons (e_call C_content_of hr rfl (sa_cons (se_var (pv 0)) (sa_cons (se_var (pv 6)) (sa_cons (se_var (pv 2)) sa_nil)))) sa_nil)))) ss_nil))))
  (sx_one (sx_lift (ss_ret (e_tuple rfl z_tuple (sa_cons (se_var (pv 5)) sa_nil))))))))
theorem d__law_cell {P : Program} {w : World} {K : PySem.W.Frag} {mg : Str → Option Value} {base : Heap} {k : Nat}      (z_len : mg "len" = none) (f : Addr) (cdv : Value) (A : Around) (outer : List PySem.Env) (s : Shared) (H : Hp) (E : XK) (hr : Room k (A.deeper (PyProof.Rows.envOfC "_law_cell" (defScope s__law_cell) s.heap.objs.size f cdv))) :
    PSs (cxOf CX0 P w K mg base N__law_cell "_law_cell" (defScope s__law_cell) f cdv A outer s H E).nox (defBody s__law_cell) (rdS K w (b__law_cell )) := by
  have nd := sc__law_cell.nd
  exact (ss_cons (ss_if (t_cmp cm_lt (se_var (pv 1)) (e_len rfl z_len (sa_cons (se_var (pv 0)) sa_nil))) (ss_one (ss_ret (e_ix (se_var (pv 0)) (se_var (pv 1))))) ss_nil)
  (ss_one (ss_ret se_int)))
theorem d__law_digits {P : Program} {w : World} {K : PySem.W.Frag} {mg : Str → Option Value} {base : Heap} {k : Nat}      (z_range : mg "range" = none) (z_len : mg "len" = none) (z_int : mg "int" = none) (f : Addr) (cdv : Value) (A : Around) (outer : List PySem.Env) (s : Shared) (H : Hp) (E : XK) (hr : Room k (A.deeper (PyProof.Rows.envOfC "_law_digits" (defScope s__law_digits) s.heap.objs.size f cdv))) :
    PSs (cxOf CX0 P w K mg base N__law_digits "_law_digits" (defScope s__law_digits) f cdv A outer s H E).nox (defBody s__law_digits) (rdS K w (b__law_digits )) := by
  have nd := sc__law_digits.nd
  exact (ss_cons (ss_set (i := 3) nd rfl (by first | exact Or.inl rfl | exact Or.inr rfl) (se_lst sa_nil))
  (ss_cons (ss_if (t_cmp cm_lt (se_var (pv 0)) se_int) (ss_one (ss_set (i := 0) nd rfl (by first | exact Or.inl rfl | exact Or.inr rfl) (e_sub (e_neg se_int) (se_var (pv 0))))) ss_nil)
  (ss_cons (ss_if (t_cmp cm_ge (se_var (pv 0)) (e_pow se_int se_int)) (ss_one (ss_for PassesOwn.never rfl (si_rng1 rfl z_range (sa_cons se_int sa_nil)) (pg_name (i := 4) nd rfl (by first | exact Or.inl rfl | exact Or.inr rfl)) ok_name (ss_one (ss_if (PW.pt (sw_and (t_cmp cm_gt (se_var (pv 0)) se_int) (sw_and1 (t_cmp cm_lt (e_len rfl z_len (sa_cons (se_var (pv 3)) sa_nil)) (se_var (pv 2)))))) (ss_cons (ss_expr (e_append (se_var (pv 3)) (sa_cons (e_mod (e_int rfl z_int (sa_cons (se_var (pv 0)) sa_nil)) se_int) sa_nil)))
  (ss_one (ss_set (i := 0) nd rfl (by first | exact Or.inl rfl | exact Or.inr rfl) (e_fdiv (se_var (pv 0)) se_int)))) ss_nil)))) (ss_cons (ss_set (i := 5) nd rfl (by first | exact Or.inl rfl | exact Or.inr rfl) (e_mod (e_int rfl z_int (sa_cons (e_add (e_add (e_mul (se_var (pv 0)) se_int) (e_mul (se_var (pv 1)) se_int)) se_int) sa_nil)) se_int))
  (ss_one (ss_for PassesOwn.never rfl (si_rng1 rfl z_range (sa_cons (se_var (pv 2)) sa_nil)) (pg_name (i := 4) nd rfl (by first | exact Or.inl rfl | exact Or.inr rfl)) ok_name (ss_cons (ss_set (i := 5) nd rfl (by first | exact Or.inl rfl | exact Or.inr rfl) (e_mod (e_int rfl z_int (sa_cons (e_add (e_add (e_mul (se_var (pv 5)) se_int) (e_mul se_int (se_var (pv 4)))) se_int) sa_nil)) se_int))
  (ss_one (ss_expr (e_append (se_var (pv 3)) (sa_cons (e_mod (e_int rfl z_int (sa_cons (e_fdiv (se_var (pv 5)) se_int) sa_nil)) se_int) sa_nil)))))))))
  (ss_one (ss_ret (se_var (pv 3)))))))
theorem d__law_padded {P : Program} {w : World} {K : PySem.W.Frag} {mg : Str → Option Value} {base : Heap} {k : Nat} {p__law_digits : Fx} (C__law_digits : Cal P w K mg base k "_law_digits" ["cell", "k", "most"] p__law_digits)     (z_range : mg "range" = none) (f : Addr) (cdv : Value) (A : Around) (outer : List PySem.Env) (s : Shared) (H : Hp) (E : XK) (hr : Room k (A.deeper (PyProof.Rows.envOfC "_law_padded" (defScope s__law_padded) s.heap.objs.size f cdv))) :
    PSs (cxOf CX0 P w K mg base N__law_padded "_law_padded" (defScope s__law_padded) f cdv A outer s H E).nox (defBody s__law_padded) (rdS K w (b__law_padded p__law_digits)) := by
  have nd := sc__law_padded.nd
  exact (ss_cons (ss_set (i := 2) nd rfl (by first | exact Or.inl rfl | exact Or.inr rfl) (e_call C__law_digits hr rfl (sa_cons (se_var (pv 0)) (sa_cons (se_var (pv 1)) (sa_cons se_int sa_nil)))))
  (ss_cons (ss_for PassesOwn.never rfl (si_rng1 rfl z_range (sa_cons se_int sa_nil)) (pg_name (i := 3) nd rfl (by first | exact Or.inl rfl | exact Or.inr rfl)) ok_name (ss_one (ss_expr (e_append (se_var (pv 2)) (sa_cons (se_var (pv 3)) sa_nil)))))
  (ss_one (ss_ret (se_var (pv 2))))))
theorem d__law_things {P : Program} {w : World} {K : PySem.W.Frag} {mg : Str → Option Value} {base : Heap} {k : Nat}       (f : Addr) (cdv : Value) (A : Around) (outer : List PySem.Env) (s : Shared) (H : Hp) (E : XK) (hr : Room k (A.deeper (PyProof.Rows.envOfC "_law_things" (defScope s__law_things) s.heap.objs.size f cdv))) :
    PSs (cxOf CX0 P w K mg base N__law_things "_law_things" (defScope s__law_things) f cdv A outer s H E).nox (defBody s__law_things) (rdS K w (b__law_things )) := by
  have nd := sc__law_things.nd
  exact (ss_one (ss_ret (se_tup (sa_cons (se_tup (sa_cons se_str (sa_cons se_str sa_nil))) (sa_cons (se_tup (sa_cons se_str (sa_cons se_str (sa_cons se_int sa_nil)))) (sa_cons (se_tup (sa_cons se_str (sa_cons se_str (sa_cons se_str sa_nil)))) (sa_cons (se_tup (sa_cons se_str (sa_cons se_str (sa_cons se_int sa_nil)))) (sa_cons (se_tup (sa_cons se_str (sa_cons se_str (sa_cons se_int sa_nil)))) (sa_cons (se_tup (sa_cons se_str (sa_cons se_str sa_nil))) sa_nil)))))))))
theorem d__law_piece {P : Program} {w : World} {K : PySem.W.Frag} {mg : Str → Option Value} {base : Heap} {k : Nat}      (z_int : mg "int" = none) (f : Addr) (cdv : Value) (A : Around) (outer : List PySem.Env) (s : Shared) (H : Hp) (E : XK) (hr : Room k (A.deeper (PyProof.Rows.envOfC "_law_piece" (defScope s__law_piece) s.heap.objs.size f cdv))) :
    PSs (cxOf CX0 P w K mg base N__law_piece "_law_piece" (defScope s__law_piece) f cdv A outer s H E).nox (defBody s__law_piece) (rdS K w (b__law_piece )) := by
  have nd := sc__law_piece.nd
  exact (ss_cons (ss_set (i := 2) nd rfl (by first | exact Or.inl rfl | exact Or.inr rfl) (se_tup (sa_cons se_str (sa_cons se_str (sa_cons (se_tup (sa_cons se_str (sa_cons se_str sa_nil))) (sa_cons (se_tup (sa_cons se_str (sa_cons se_int sa_nil))) sa_nil))))))
  (ss_cons (ss_set (i := 3) nd rfl (by first | exact Or.inl rfl | exact Or.inr rfl) (se_tup (sa_cons se_str (sa_cons se_str (sa_cons (se_tup (sa_cons se_str (sa_cons se_str sa_nil))) (sa_cons (se_tup (sa_cons se_str (sa_cons se_int sa_nil))) sa_nil))))))
  (ss_cons (ss_set (i := 4) nd rfl (by first | exact Or.inl rfl | exact Or.inr rfl) (se_lst (sa_cons (se_lst (sa_cons (se_tup (sa_cons se_str (sa_cons se_str (sa_cons se_str sa_nil)))) (sa_cons (se_tup (sa_cons se_str (sa_cons se_str (sa_cons (se_var (pv 2)) sa_nil)))) sa_nil))) (sa_cons (se_lst (sa_cons (se_tup (sa_cons se_str (sa_cons se_str (sa_cons (se_tup (sa_cons se_str (sa_cons se_int sa_nil))) sa_nil)))) sa_nil)) (sa_cons (se_lst (sa_cons (se_tup (sa_cons se_str (sa_cons se_str (sa_cons (se_tup (sa_cons se_str (sa_cons se_int sa_nil))) sa_nil)))) sa_nil)) (sa_cons (se_lst (sa_cons (se_tup (sa_cons se_str (sa_cons se_str (sa_cons se_str sa_nil)))) sa_nil)) (sa_cons (se_lst (sa_cons (se_tup (sa_cons se_str (sa_cons se_str sa_nil))) (sa_cons (se_tup (sa_cons se_str (sa_cons se_str (sa_cons (se_tup (sa_cons se_str (sa_cons se_int sa_nil))) sa_nil)))) (sa_cons (se_tup (sa_cons se_str (sa_cons se_str sa_nil))) sa_nil)))) (sa_cons (se_lst (sa_cons (se_tup (sa_cons se_str (sa_cons se_str sa_nil))) (sa_cons (se_tup (sa_cons se_str (sa_cons se_str sa_nil))) sa_nil))) (sa_cons (se_lst (sa_cons (se_tup (sa_cons se_str (sa_cons se_str sa_nil))) (sa_cons (se_tup (sa_cons se_str (sa_cons se_str sa_nil))) sa_nil))) (sa_cons (se_lst (sa_cons (se_tup (sa_cons se_str (sa_cons se_str sa_nil))) (sa_cons (se_tup (sa_cons se_str (sa_cons se_str sa_nil))) (sa_cons (se_tup (sa_cons se_str (sa_cons se_str sa_nil))) sa_nil)))) (sa_cons (se_lst (sa_cons (se_tup (sa_cons se_str (sa_cons se_str sa_nil))) sa_nil)) (sa_cons (se_lst (sa_cons (se_tup (sa_cons se_str (sa_cons se_str sa_nil))) (sa_cons (se_tup (sa_cons se_str (sa_cons se_str sa_nil))) (sa_cons (se_tup (sa_cons se_str (sa_cons se_str sa_nil))) sa_nil)))) (sa_cons (se_lst (sa_cons (se_tup (sa_cons se_str (sa_cons se_str (sa_cons (se_tup (sa_cons se_str (sa_cons se_int sa_nil))) sa_nil)))) sa_nil)) (sa_cons (se_lst (sa_cons (se_tup (sa_cons se_str (sa_cons se_str (sa_cons se_str sa_nil)))) sa_nil)) (sa_cons (se_lst (sa_cons (se_tup (sa_cons se_str (sa_cons se_str (sa_cons se_str sa_nil)))) (sa_cons (se_tup (sa_cons se_str (sa_cons (se_var (pv 3)) sa_nil))) sa_nil))) (sa_cons (se_lst (sa_cons (se_tup (sa_cons se_str sa_nil)) (sa_cons (se_tup (sa_cons se_str (sa_cons se_str (sa_cons se_str sa_nil)))) (sa_cons (se_tup (sa_cons se_str (sa_cons se_str (sa_cons (se_var (pv 2)) sa_nil)))) (sa_cons (se_tup (sa_cons se_str sa_nil)) sa_nil))))) (sa_cons (se_lst (sa_cons (se_tup (sa_cons se_str (sa_cons se_str sa_nil))) sa_nil)) (sa_cons (se_lst (sa_cons (se_tup (sa_cons se_str (sa_cons se_str (sa_cons (se_tup (sa_cons se_str (sa_cons se_int sa_nil))) sa_nil)))) sa_nil)) (sa_cons (se_lst (sa_cons (se_tup (sa_cons se_str (sa_cons se_str (sa_cons (se_var (pv 2)) sa_nil)))) sa_nil)) (sa_cons (se_lst (sa_cons (se_tup (sa_cons se_str (sa_cons (e_add (se_var (pv 1)) se_int) (sa_cons (se_tup (sa_cons se_str (sa_cons se_str sa_nil))) sa_nil)))) (sa_cons (se_tup (sa_cons se_str (sa_cons se_str (sa_cons (se_var (pv 2)) sa_nil)))) sa_nil))) (sa_cons (se_lst (sa_cons (se_tup (sa_cons se_str sa_nil)) (sa_cons (se_tup (sa_cons se_str (sa_cons se_str (sa_cons (se_tup (sa_cons se_str (sa_cons se_int sa_nil))) sa_nil)))) (sa_cons (se_tup (sa_cons se_str (sa_cons se_str (sa_cons (se_tup (sa_cons se_str (sa_cons se_int sa_nil))) sa_nil)))) (sa_cons (se_tup (sa_cons se_str sa_nil)) sa_nil))))) (sa_cons (se_lst (sa_cons (se_tup (sa_cons se_str (sa_cons se_str (sa_cons (se_tup (sa_cons se_str (sa_cons se_str sa_nil))) sa_nil)))) sa_nil)) sa_nil))))))))))))))))))))))
  (ss_one (ss_ret (e_ix (se_var (pv 4)) (e_mod (e_int rfl z_int (sa_cons (se_var (pv 0)) sa_nil)) se_int)))))))
theorem d__law_program {P : Program} {w : World} {K : PySem.W.Frag} {mg : Str → Option Value} {base : Heap} {k : Nat} {p__law_padded : Fx} (C__law_padded : Cal P w K mg base k "_law_padded" ["cell", "k"] p__law_padded) {p__law_cell : Fx} (C__law_cell : Cal P w K mg base k "_law_cell" ["script", "k"] p__law_cell) {p__law_piece : Fx} (C__law_piece : Cal P w K mg base k "_law_piece" ["digit", "pc"] p__law_piece) {p__law_things : Fx} (C__law_things : Cal P w K mg base k "_law_things" [] p__law_things)     (z_range : mg "range" = none) (z_len : mg "len" = none) (z_tuple : mg "tuple" = none) (f : Addr) (cdv : Value) (A : Around) (outer : List PySem.Env) (s : Shared) (H : Hp) (E : XK) (hr : Room k (A.deeper (PyProof.Rows.envOfC "_law_program" (defScope s__law_program) s.heap.objs.size f cdv))) :
    PSs (cxOf CX0 P w K mg base N__law_program "_law_program" (defScope s__law_program) f cdv A outer s H E).nox (defBody s__law_program) (rdS K w (b__law_program p__law_padded p__law_cell p__law_piece p__law_things)) := by
  have nd := sc__law_program.nd
  exact (ss_cons (ss_set (i := 2) nd rfl (by first | exact Or.inl rfl | exact Or.inr rfl) (se_lst sa_nil))
  (ss_cons (ss_for PassesOwn.never rfl (si_rng1 rfl z_range (sa_cons (e_len rfl z_len (sa_cons (se_var (pv 1)) sa_nil)) sa_nil)) (pg_name (i := 3) nd rfl (by first | exact Or.inl rfl | exact Or.inr rfl)) ok_name (ss_cons (ss_set (i := 4) nd rfl (by first | exact Or.inl rfl | exact Or.inr rfl) (e_call C__law_padded hr rfl (sa_cons (e_call C__law_cell hr rfl (sa_cons (se_var (pv 0)) (sa_cons (se_var (pv 3)) sa_nil))) (sa_cons (se_var (pv 3)) sa_nil))))
  (ss_cons (ss_set (i := 5) nd rfl (by first | exact Or.inl rfl | exact Or.inr rfl) (se_lst sa_nil))
  (ss_cons (ss_for PassesOwn.never rfl (si_rng1 rfl z_range (sa_cons se_int sa_nil)) (pg_name (i := 6) nd rfl (by first | exact Or.inl rfl | exact Or.inr rfl)) ok_name (ss_cons (ss_set (i := 7) nd rfl (by first | exact Or.inl rfl | exact Or.inr rfl) (e_call C__law_piece hr rfl (sa_cons (e_ix (se_var (pv 4)) (se_var (pv 6))) (sa_cons (e_len rfl z_len (sa_cons (se_var (pv 5)) sa_nil)) sa_nil))))
  (ss_one (ss_if (t_cmp cm_le (e_add (e_len rfl z_len (sa_cons (se_var (pv 5)) sa_nil)) (e_len rfl z_len (sa_cons (se_var (pv 7)) sa_nil))) (e_ix (se_var (pv 1)) (se_var (pv 3)))) (ss_one (ss_set (i := 5) nd rfl (by first | exact Or.inl rfl | exact Or.inr rfl) (e_add (se_var (pv 5)) (se_var (pv 7))))) ss_nil))))
  (ss_cons (ss_if (t_cmp (cm_eq (r64 hr)) (e_len rfl z_len (sa_cons (se_var (pv 5)) sa_nil)) se_int) (ss_one (ss_set (i := 5) nd rfl (by first | exact Or.inl rfl | exact Or.inr rfl) (se_lst (sa_cons (se_tup (sa_cons se_str (sa_cons se_str (sa_cons se_str sa_nil)))) sa_nil)))) ss_nil)
  (ss_one (ss_expr (e_append (se_var (pv 2)) (sa_cons (e_tuple rfl z_tuple (sa_cons (se_var (pv 5)) sa_nil)) sa_nil)))))))))
  (ss_one (ss_ret (se_tup (sa_cons (e_call0 C__law_things hr rfl) (sa_cons (e_tuple rfl z_tuple (sa_cons (se_var (pv 2)) sa_nil)) sa_nil)))))))
theorem d__law_drawn {P : Program} {w : World} {K : PySem.W.Frag} {mg : Str → Option Value} {base : Heap} {k : Nat} {p__law_program : Fx} (C__law_program : Cal P w K mg base k "_law_program" ["script", "sizes"] p__law_program) {p__law_cell : Fx} (C__law_cell : Cal P w K mg base k "_law_cell" ["script", "k"] p__law_cell)     (z_int : mg "int" = none) (f : Addr) (cdv : Value) (A : Around) (outer : List PySem.Env) (s : Shared) (H : Hp) (E : XK) (hr : Room k (A.deeper (PyProof.Rows.envOfC "_law_drawn" (defScope s__law_drawn) s.heap.objs.size f cdv))) :
    PSs (cxOf CX0 P w K mg base N__law_drawn "_law_drawn" (defScope s__law_drawn) f cdv A outer s H E).nox (defBody s__law_drawn) (rdS K w (b__law_drawn p__law_program p__law_cell)) := by
  have nd := sc__law_drawn.nd
  exact (ss_one (ss_ret (e_call C__law_program hr rfl (sa_cons (se_var (pv 0)) (sa_cons (e_ix (se_lst (sa_cons (se_lst (sa_cons se_int (sa_cons se_int sa_nil))) (sa_cons (se_lst (sa_cons se_int (sa_cons se_int sa_nil))) (sa_cons (se_lst (sa_cons se_int (sa_cons se_int sa_nil))) (sa_cons (se_lst (sa_cons se_int (sa_cons se_int (sa_cons se_int sa_nil)))) sa_nil))))) (e_mod (e_int rfl z_int (sa_cons (e_call C__law_cell hr rfl (sa_cons (se_var (pv 0)) (sa_cons se_int sa_nil))) sa_nil)) se_int)) sa_nil)))))
theorem d__law_walk {P : Program} {w : World} {K : PySem.W.Frag} {mg : Str → Option Value} {base : Heap} {k : Nat} {p_first_state : Fx} (C_first_state : Cal P w K mg base k "first_state" ["program"] p_first_state) {p_enabled : Fx} (C_enabled : Cal P w K mg base k "enabled" ["program", "state"] p_enabled) {p__law_cell : Fx} (C__law_cell : Cal P w K mg base k "_law_cell" ["script", "k"] p__law_cell) {p_make_step : Fx} (C_make_step : Cal P w K mg base k "make_step" ["program", "state", "thread"] p_make_step)     (z_range : mg "range" = none) (z_len : mg "len" = none) (z_int : mg "int" = none) (f : Addr) (cdv : Value) (A : Around) (outer : List PySem.Env) (s : Shared) (H : Hp) (E : XK) (hr : Room k (A.deeper (PyProof.Rows.envOfC "_law_walk" (defScope s__law_walk) s.heap.objs.size f cdv))) :
    PSs (cxOf CX0 P w K mg base N__law_walk "_law_walk" (defScope s__law_walk) f cdv A outer s H E).nox (defBody s__law_walk) (rdS K w (b__law_walk p_first_state p_enabled p__law_cell p_make_step)) := by
  have nd := sc__law_walk.nd
  exact (ss_cons (ss_set (i := 4) nd rfl (by first | exact Or.inl rfl | exact Or.inr rfl) (e_call C_first_state hr rfl (sa_cons (se_var (pv 0)) sa_nil)))
  (ss_cons (ss_set (i := 5) nd rfl (by first | exact Or.inl rfl | exact Or.inr rfl) (se_tup sa_nil))
  (ss_cons (ss_for PassesOwn.never rfl (si_rng1 rfl z_range (sa_cons (se_var (pv 3)) sa_nil)) (pg_name (i := 6) nd rfl (by first | exact Or.inl rfl | exact Or.inr rfl)) ok_name (ss_cons (ss_set (i := 7) nd rfl (by first | exact Or.inl rfl | exact Or.inr rfl) (e_call C_enabled hr rfl (sa_cons (se_var (pv 0)) (sa_cons (se_var (pv 4)) sa_nil))))
  (ss_one (ss_if (t_cmp cm_gt (e_len rfl z_len (sa_cons (se_var (pv 7)) sa_nil)) se_int) (ss_cons (ss_set (i := 8) nd rfl (by first | exact Or.inl rfl | exact Or.inr rfl) (e_ix (se_var (pv 7)) (e_mod (e_int rfl z_int (sa_cons (e_call C__law_cell hr rfl (sa_cons (se_var (pv 1)) (sa_cons (e_add (se_var (pv 2)) (se_var (pv 6))) sa_nil))) sa_nil)) (e_len rfl z_len (sa_cons (se_var (pv 7)) sa_nil)))))
  (ss_cons (ss_set (i := 5) nd rfl (by first | exact Or.inl rfl | exact Or.inr rfl) (e_add (se_var (pv 5)) (se_tup (sa_cons (se_var (pv 8)) sa_nil))))
  (ss_one (ss_set (i := 4) nd rfl (by first | exact Or.inl rfl | exact Or.inr rfl) (e_ix (e_call C_make_step hr rfl (sa_cons (se_var (pv 0)) (sa_cons (se_var (pv 4)) (sa_cons (se_var (pv 8)) sa_nil)))) se_int))))) ss_nil))))
  (ss_one (ss_ret (se_var (pv 5)))))))
theorem d__law_refused {P : Program} {w : World} {K : PySem.W.Frag} {mg : Str → Option Value} {base : Heap} {k : Nat}  {px_lost_notices : Fy} (CX_lost_notices : CalX P w K mg base k "lost_notices" ["program", "schedule"] px_lost_notices) {px_faults_of : Fy} (CX_faults_of : CalX P w K mg base k "faults_of" ["program", "schedule"] px_faults_of) {px_outcome : Fy} (CX_outcome : CalX P w K mg base k "outcome" ["program", "schedule"] px_outcome) {px_history : Fy} (CX_history : CalX P w K mg base k "history" ["program", "schedule", "name"] px_history)  (M_NotEnabled : MkC P w K mg base "NotEnabled")   (f : Addr) (cdv : Value) (A : Around) (outer : List PySem.Env) (s : Shared) (H : Hp) (E : XK) (hr : Room k (A.deeper (PyProof.Rows.envOfC "_law_refused" (defScope s__law_refused) s.heap.objs.size f cdv))) :
    PSs (cxOf CX0 P w K mg base N__law_refused "_law_refused" (defScope s__law_refused) f cdv A outer s H E).nox (defBody s__law_refused) (rdS K w (b__law_refused px_lost_notices px_faults_of px_outcome px_history)) := by
  have nd := sc__law_refused.nd
  exact (ss_cons (ss_try M_NotEnabled rfl rfl nd rfl rfl rfl (by decide) (fun W pn xe tk hp => (sx_cons (sx_if (t_cmp (cm_eq (r64 hr)) (se_var (pv 0)) se_int) (sx_one (sx_expr (ex_call CX_lost_notices tk hr rfl (sa_cons (se_var (pv 1)) (sa_cons (se_var (pv 2)) sa_nil))))) sx_nil)
  (sx_cons (sx_if (t_cmp (cm_eq (r64 hr)) (se_var (pv 0)) se_int) (sx_one (sx_expr (ex_call CX_faults_of tk hr rfl (sa_cons (se_var (pv 1)) (sa_cons (se_var (pv 2)) sa_nil))))) sx_nil)
  (sx_cons (sx_if (t_cmp (cm_eq (r64 hr)) (se_var (pv 0)) se_int) (sx_one (sx_expr (ex_call CX_outcome tk hr rfl (sa_cons (se_var (pv 1)) (sa_cons (se_var (pv 2)) sa_nil))))) sx_nil)
  (sx_one (sx_if (t_cmp (cm_eq (r64 hr)) (se_var (pv 0)) se_int) (sx_one (sx_expr (ex_call CX_history tk hr rfl (sa_cons (se_var (pv 1)) (sa_cons (se_var (pv 2)) (sa_cons se_str sa_nil)))))) sx_nil)))))) (fun a oe cls d pn hz hf => (su_ret (f := fun ds => (binF (eqO false) (fldF 0 ds) (varF 3))) (ue_cmp (f := fun ds => (fldF 0 ds)) (g := fun ds => (varF 3)) (cm_eq (rh64 (L2H.roomH_mark hr _))) (ue_fld M_NotEnabled rfl hz.zc hf (pv 4)) (ue_plain (se_var (pv 3)))))))
  (ss_one (ss_ret se_bl)))
theorem d_law {P : Program} {w : World} {K : PySem.W.Frag} {mg : Str → Option Value} {base : Heap} {k : Nat} {p__law_drawn : Fx} (C__law_drawn : Cal P w K mg base k "_law_drawn" ["script"] p__law_drawn) {p__law_walk : Fx} (C__law_walk : Cal P w K mg base k "_law_walk" ["program", "script", "first", "most"] p__law_walk) {p__law_cell : Fx} (C__law_cell : Cal P w K mg base k "_law_cell" ["script", "k"] p__law_cell) {p_run : Fx} (C_run : Cal P w K mg base k "run" ["program", "schedule"] p_run) {p_enabled : Fx} (C_enabled : Cal P w K mg base k "enabled" ["program", "state"] p_enabled) {p__law_refused : Fx} (C__law_refused : Cal P w K mg base k "_law_refused" ["kind", "program", "schedule", "at"] p__law_refused)     (z_int : mg "int" = none) (z_range : mg "range" = none) (z_len : mg "len" = none) (f : Addr) (cdv : Value) (A : Around) (outer : List PySem.Env) (s : Shared) (H : Hp) (E : XK) (hr : Room k (A.deeper (PyProof.Rows.envOfC "law" (defScope s_law) s.heap.objs.size f cdv))) :
    PSs (cxOf CX0 P w K mg base N_law "law" (defScope s_law) f cdv A outer s H E).nox (defBody s_law) (rdS K w (b_law p__law_drawn p__law_walk p__law_cell p_run p_enabled p__law_refused)) := by
  have nd := sc_law.nd
  exact (ss_cons (ss_set (i := 1) nd rfl (by first | exact Or.inl rfl | exact Or.inr rfl) (e_call C__law_drawn hr rfl (sa_cons (se_var (pv 0)) sa_nil)))
  (ss_cons (ss_set (i := 2) nd rfl (by first | exact Or.inl rfl | exact Or.inr rfl) (e_call C__law_walk hr rfl (sa_cons (se_var (pv 1)) (sa_cons (se_var (pv 0)) (sa_cons se_int (sa_cons (e_mod (e_int rfl z_int (sa_cons (e_call C__law_cell hr rfl (sa_cons (se_var (pv 0)) (sa_cons se_int sa_nil))) sa_nil)) se_int) sa_nil))))))
  (ss_cons (ss_set (i := 3) nd rfl (by first | exact Or.inl rfl | exact Or.inr rfl) (e_ix (e_call C_run hr rfl (sa_cons (se_var (pv 1)) (sa_cons (se_var (pv 2)) sa_nil))) se_int))
  (ss_cons (ss_for PassesOwn.never rfl (si_rng1 rfl z_range (sa_cons (e_len rfl z_len (sa_cons (e_ix (se_var (pv 1)) se_int) sa_nil)) sa_nil)) (pg_name (i := 4) nd rfl (by first | exact Or.inl rfl | exact Or.inr rfl)) ok_name (ss_one (ss_if (t_cmp (cm_notin (r65 hr)) (se_var (pv 4)) (e_call C_enabled hr rfl (sa_cons (se_var (pv 1)) (sa_cons (se_var (pv 3)) sa_nil)))) (ss_one (ss_for PassesOwn.never rfl (si_any (se_lst (sa_cons (se_tup sa_nil) (sa_cons (se_tup (sa_cons se_int sa_nil)) (sa_cons (se_tup (sa_cons se_int (sa_cons se_int sa_nil))) sa_nil))))) (pg_name (i := 5) nd rfl (by first | exact Or.inl rfl | exact Or.inr rfl)) ok_name (ss_one (ss_for PassesOwn.never rfl (si_rng1 rfl z_range (sa_cons se_int sa_nil)) (pg_name (i := 6) nd rfl (by first | exact Or.inl rfl | exact Or.inr rfl)) ok_name (ss_one (ss_if (st_not (st_tru (e_call C__law_refused hr rfl (sa_cons (se_var (pv 6)) (sa_cons (se_var (pv 1)) (sa_cons (e_add (e_add (se_var (pv 2)) (se_tup (sa_cons (se_var (pv 4)) sa_nil))) (se_var (pv 5))) (sa_cons (e_len rfl z_len (sa_cons (se_var (pv 2)) sa_nil)) sa_nil))))))) (ss_one (ss_ret se_bl)) ss_nil)))))) ss_nil)))
  (ss_one (ss_ret se_bl))))))
inductive Nm where
  | n_is_value | n_operate | n__holds | n_evaluate | n_expression_of | n_thing_of | n_kind_needed | n_kind_of | n_names_of | n_lock_of | n_first_state | n_enabled | n__is_at_work | n__hindrance | n__is_full | n_content_of | n__with_content | n__with_thread | n__with_mode | n__with_register | n__replaced | n_make_step | n__take_lock_again | n__failed | n__touches | n__moved_on | n__moved_to | n__effect | n__use_variable | n__use_lock | n__use_condition | n__use_queue | n_run | n_walk | n__noticed | n__is_awaited | n__faults_in | n__in_order | n__outcome_in | n__law_cell | n__law_digits | n__law_padded | n__law_things | n__law_piece | n__law_program | n__law_drawn | n__law_walk | n__law_refused
inductive Ny where
  | y_run | y_walk | y_lost_notices | y_faults_of | y_outcome | y_history | y__check_variable | y__history_in
def rz (n : Nat) : Bool := decide (2 ≤ n)
def TT : Nat → (Nm → Fx) × (Ny → Fy)
  | 0 => (fun _ _ _ => none, fun _ _ _ => none)
  | n + 1 => (fun x => match x with
    | .n_is_value => f_is_value 
    | .n_operate => f_operate ((TT n).1 .n__holds) ((TT n).1 .n_is_value)
    | .n__holds => f__holds 
    | .n_evaluate => f_evaluate ((TT n).1 .n_evaluate) ((TT n).1 .n_operate)
    | .n_expression_of => f_expression_of 
    | .n_thing_of => f_thing_of 
    | .n_kind_needed => f_kind_needed 
    | .n_kind_of => f_kind_of 
    | .n_names_of => f_names_of 
    | .n_lock_of => f_lock_of 
    | .n_first_state => f_first_state 
    | .n_enabled => f_enabled ((TT n).1 .n__is_at_work) ((TT n).1 .n__hindrance)
    | .n__is_at_work => f__is_at_work 
    | .n__hindrance => f__hindrance ((TT n).1 .n_thing_of) ((TT n).1 .n_lock_of) ((TT n).1 .n_content_of) ((TT n).1 .n__is_full) ((TT n).1 .n_evaluate)
    | .n__is_full => f__is_full ((TT n).1 .n_content_of)
    | .n_content_of => f_content_of ((TT n).1 .n_kind_of) ((TT n).1 .n_names_of)
    | .n__with_content => f__with_content ((TT n).1 .n_kind_of) ((TT n).1 .n__replaced) ((TT n).1 .n_names_of)
    | .n__with_thread => f__with_thread ((TT n).1 .n__replaced)
    | .n__with_mode => f__with_mode ((TT n).1 .n__with_thread)
    | .n__with_register => f__with_register ((TT n).1 .n__replaced) ((TT n).1 .n__with_thread)
    | .n__replaced => f__replaced 
    | .n_make_step => f_make_step ((TT n).1 .n__take_lock_again) ((TT n).1 .n_expression_of) ((TT n).1 .n_evaluate) ((TT n).1 .n__failed) ((TT n).1 .n__effect) ((TT n).1 .n__moved_on) ((TT n).1 .n__touches)
    | .n__take_lock_again => f__take_lock_again ((TT n).1 .n_lock_of) ((TT n).1 .n__with_mode) ((TT n).1 .n__with_content) ((TT n).1 .n__moved_to)
    | .n__failed => f__failed ((TT n).1 .n__with_thread)
    | .n__touches => f__touches ((TT n).1 .n_thing_of) ((TT n).1 .n_lock_of)
    | .n__moved_on => f__moved_on ((TT n).1 .n__with_mode) ((TT n).1 .n__moved_to)
    | .n__moved_to => f__moved_to ((TT n).1 .n__with_thread)
    | .n__effect => f__effect ((TT n).1 .n_kind_needed) ((TT n).1 .n__use_variable) ((TT n).1 .n__use_lock) ((TT n).1 .n__use_condition) ((TT n).1 .n__use_queue) ((TT n).1 .n__with_register)
    | .n__use_variable => f__use_variable ((TT n).1 .n_thing_of) ((TT n).1 .n_content_of) ((TT n).1 .n__with_register) ((TT n).1 .n_operate) ((TT n).1 .n__with_content)
    | .n__use_lock => f__use_lock ((TT n).1 .n_thing_of) ((TT n).1 .n__with_content) ((TT n).1 .n_content_of)
    | .n__use_condition => f__use_condition ((TT n).1 .n_thing_of) ((TT n).1 .n_content_of) ((TT n).1 .n_lock_of) ((TT n).1 .n__with_content) ((TT n).1 .n__with_mode)
    | .n__use_queue => f__use_queue ((TT n).1 .n_thing_of) ((TT n).1 .n_content_of) ((TT n).1 .n__with_content) ((TT n).1 .n__with_register)
    | .n_run => f_run ((TT n).1 .n_walk)
    | .n_walk => f_walk ((TT n).1 .n_first_state) ((TT n).1 .n_enabled) ((TT n).1 .n_make_step)
    | .n__noticed => f__noticed 
    | .n__is_awaited => f__is_awaited 
    | .n__faults_in => f__faults_in 
    | .n__in_order => f__in_order 
    | .n__outcome_in => f__outcome_in 
    | .n__law_cell => f__law_cell 
    | .n__law_digits => f__law_digits 
    | .n__law_padded => f__law_padded ((TT n).1 .n__law_digits)
    | .n__law_things => f__law_things 
    | .n__law_piece => f__law_piece 
    | .n__law_program => f__law_program ((TT n).1 .n__law_padded) ((TT n).1 .n__law_cell) ((TT n).1 .n__law_piece) ((TT n).1 .n__law_things)
    | .n__law_drawn => f__law_drawn ((TT n).1 .n__law_program) ((TT n).1 .n__law_cell)
    | .n__law_walk => f__law_walk ((TT n).1 .n_first_state) ((TT n).1 .n_enabled) ((TT n).1 .n__law_cell) ((TT n).1 .n_make_step)
    | .n__law_refused => f__law_refused ((TT n).2 .y_lost_notices) ((TT n).2 .y_faults_of) ((TT n).2 .y_outcome) ((TT n).2 .y_history),
   fun y => match y with
    | .y_run => fx_run ((TT n).2 .y_walk)
    | .y_walk => fx_walk ((TT n).1 .n_first_state) ((TT n).1 .n_enabled) ((TT n).1 .n_make_step) (rz n)
    | .y_lost_notices => fx_lost_notices ((TT n).1 .n_enabled) ((TT n).1 .n__noticed) ((TT n).1 .n__is_awaited) ((TT n).2 .y_walk)
    | .y_faults_of => fx_faults_of ((TT n).1 .n__in_order) ((TT n).1 .n__faults_in) ((TT n).2 .y_run)
    | .y_outcome => fx_outcome ((TT n).1 .n__outcome_in) ((TT n).2 .y_run)
    | .y_history => fx_history ((TT n).2 .y__check_variable) ((TT n).2 .y__history_in)
    | .y__check_variable => fx__check_variable ((TT n).1 .n_names_of) (rz n)
    | .y__history_in => fx__history_in ((TT n).1 .n_content_of) ((TT n).2 .y_walk))
abbrev T (n : Nat) : Nm → Fx := (TT n).1
abbrev Y (n : Nat) : Ny → Fy := (TT n).2
structure Tops (w : World) (K : PySem.W.Frag) (mg : Str → Option Value) : Prop where
  o_is_value : Def K mg "is_value" s_is_value ["n"]
  o_operate : Def K mg "operate" s_operate ["sign", "x", "y"]
  o__holds : Def K mg "_holds" s__holds ["sign", "x", "y"]
  o_evaluate : Def K mg "evaluate" s_evaluate ["tree", "registers"]
  o_expression_of : Def K mg "expression_of" s_expression_of ["instruction"]
  o_thing_of : Def K mg "thing_of" s_thing_of ["instruction"]
  o_kind_needed : Def K mg "kind_needed" s_kind_needed ["instruction"]
  o_kind_of : Def K mg "kind_of" s_kind_of ["program", "name"]
  o_names_of : Def K mg "names_of" s_names_of ["program", "kind"]
  o_lock_of : Def K mg "lock_of" s_lock_of ["program", "cond"]
  o_first_state : Def K mg "first_state" s_first_state ["program"]
  o_enabled : Def K mg "enabled" s_enabled ["program", "state"]
  o__is_at_work : Def K mg "_is_at_work" s__is_at_work ["program", "state", "thread"]
  o__hindrance : Def K mg "_hindrance" s__hindrance ["program", "state", "thread"]
  o__is_full : Def K mg "_is_full" s__is_full ["program", "state", "queue"]
  o_content_of : Def K mg "content_of" s_content_of ["program", "state", "name"]
  o__with_content : Def K mg "_with_content" s__with_content ["program", "state", "name", "content"]
  o__with_thread : Def K mg "_with_thread" s__with_thread ["state", "thread", "entry"]
  o__with_mode : Def K mg "_with_mode" s__with_mode ["state", "thread", "mode"]
  o__with_register : Def K mg "_with_register" s__with_register ["state", "thread", "letter", "value"]
  o__replaced : Def K mg "_replaced" s__replaced ["row", "at", "item"]
  o_make_step : Def K mg "make_step" s_make_step ["program", "state", "thread"]
  o__take_lock_again : Def K mg "_take_lock_again" s__take_lock_again ["program", "state", "thread"]
  o__failed : Def K mg "_failed" s__failed ["state", "thread", "word"]
  o__touches : Def K mg "_touches" s__touches ["program", "instruction"]
  o__moved_on : Def K mg "_moved_on" s__moved_on ["program", "state", "thread", "value"]
  o__moved_to : Def K mg "_moved_to" s__moved_to ["program", "state", "thread", "pc"]
  o__effect : Def K mg "_effect" s__effect ["program", "state", "thread", "value"]
  o__use_variable : Def K mg "_use_variable" s__use_variable ["program", "state", "thread", "instruction", "value"]
  o__use_lock : Def K mg "_use_lock" s__use_lock ["program", "state", "thread", "instruction"]
  o__use_condition : Def K mg "_use_condition" s__use_condition ["program", "state", "thread", "instruction"]
  o__use_queue : Def K mg "_use_queue" s__use_queue ["program", "state", "thread", "instruction", "value"]
  o_run : Def K mg "run" s_run ["program", "schedule"]
  o_walk : Def K mg "walk" s_walk ["program", "schedule"]
  o__noticed : Def K mg "_noticed" s__noticed ["program", "step"]
  o__is_awaited : Def K mg "_is_awaited" s__is_awaited ["program", "state", "cond"]
  o__faults_in : Def K mg "_faults_in" s__faults_in ["program", "schedule", "steps", "state"]
  o__in_order : Def K mg "_in_order" s__in_order ["faults"]
  o__outcome_in : Def K mg "_outcome_in" s__outcome_in ["program", "state"]
  o__law_cell : Def K mg "_law_cell" s__law_cell ["script", "k"]
  o__law_digits : Def K mg "_law_digits" s__law_digits ["cell", "k", "most"]
  o__law_padded : Def K mg "_law_padded" s__law_padded ["cell", "k"]
  o__law_things : Def K mg "_law_things" s__law_things []
  o__law_piece : Def K mg "_law_piece" s__law_piece ["digit", "pc"]
  o__law_program : Def K mg "_law_program" s__law_program ["script", "sizes"]
  o__law_drawn : Def K mg "_law_drawn" s__law_drawn ["script"]
  o__law_walk : Def K mg "_law_walk" s__law_walk ["program", "script", "first", "most"]
  o__law_refused : Def K mg "_law_refused" s__law_refused ["kind", "program", "schedule", "at"]
  o_lost_notices : Def K mg "lost_notices" s_lost_notices ["program", "schedule"]
  o_faults_of : Def K mg "faults_of" s_faults_of ["program", "schedule"]
  o_outcome : Def K mg "outcome" s_outcome ["program", "schedule"]
  o_history : Def K mg "history" s_history ["program", "schedule", "name"]
  o__check_variable : Def K mg "_check_variable" s__check_variable ["program", "name"]
  o__history_in : Def K mg "_history_in" s__history_in ["program", "schedule", "name"]
  er_NotEnabled : ErT K mg "NotEnabled" "NotEnabled.__init__" s_init_NotEnabled
  er_NoSuchPlace : ErT K mg "NoSuchPlace" "NoSuchPlace.__init__" s_init_NoSuchPlace
  tur : TurT K mg
  k_LEAST : Con K mg "LEAST" c_LEAST
  k_GREATEST : Con K mg "GREATEST" c_GREATEST
  k_REGISTERS : Con K mg "REGISTERS" c_REGISTERS
  t_REGISTERS : ConT K mg "REGISTERS" c_REGISTERS
  k_RANGE : Con K mg "RANGE" c_RANGE
  kd_EXPRESSION_AT : ConD K w mg "EXPRESSION_AT" c_EXPRESSION_AT
  kd_NAME_AT : ConD K w mg "NAME_AT" c_NAME_AT
  kd_KINDS_instructions : ConD K w mg "KINDS_instructions" c_KINDS
  k_THREADS : Con K mg "THREADS" c_THREADS
  kd_PART_OF_KIND : ConD K w mg "PART_OF_KIND" c_PART_OF_KIND
  z_int : mg "int" = none
  z_tuple : mg "tuple" = none
  z_range : mg "range" = none
  z_len : mg "len" = none
  z_enumerate : mg "enumerate" = none
  z_zip : mg "zip" = none
theorem mk_NotEnabled {P : Program} {w : World} {K : PySem.W.Frag} {mg : Str → Option Value} {base : Heap} (t : Tops w K mg) : MkC P w K mg base "NotEnabled" := by
  obtain ⟨C, fI, fd, E1, F, hb⟩ := t.er_NotEnabled
  obtain ⟨Ta, Tu⟩ := t.tur
  refine ⟨⟨C, fI, fd, E1, F.ok sc_init_NotEnabled (fun vs H Q E h => ?_) (fun cdv A outer s H vs Q E hr h => ⟨_, pss_cons (ps_expr (pe_teinit Tu rfl (pa_cons (pv 0) (pa_cons (pe_joined (.cons pe_str (.cons (pe_fmt (pv 1)) (.cons pe_str .nil)))) pa_nil)))) (pss_one (ps_ost (pv 0) (pv 1))), init1b (X := cxOf CX0 P w K mg base ("self" :: flds "NotEnabled") "NotEnabled.__init__" (defScope s_init_NotEnabled) fI cdv A outer s H E) E1.o (E1.no _ (by decide)) (by decide) (by decide) h⟩), hb⟩, fun H μ ds vs r hl => xf1 (f := "at") rfl r hl⟩
  obtain ⟨a, ws, rfl, hl, _⟩ := h
  exact congrArg Nat.succ hl
theorem mk_NoSuchPlace {P : Program} {w : World} {K : PySem.W.Frag} {mg : Str → Option Value} {base : Heap} (t : Tops w K mg) : MkC P w K mg base "NoSuchPlace" := by
  obtain ⟨C, fI, fd, E1, F, hb⟩ := t.er_NoSuchPlace
  obtain ⟨Ta, Tu⟩ := t.tur
  refine ⟨⟨C, fI, fd, E1, F.ok sc_init_NoSuchPlace (fun vs H Q E h => ?_) (fun cdv A outer s H vs Q E hr h => ⟨_, pss_cons (ps_expr (pe_teinit Tu rfl (pa_cons (pv 0) (pa_cons (pe_joined (.cons pe_str (.cons (pe_fmt (pv 1)) .nil))) pa_nil)))) (pss_one (ps_ost (pv 0) (pv 1))), init1 (X := cxOf CX0 P w K mg base ("self" :: flds "NoSuchPlace") "NoSuchPlace.__init__" (defScope s_init_NoSuchPlace) fI cdv A outer s H E) E1.o (E1.no _ (by decide)) (by decide) h⟩), hb⟩, fun H μ ds vs r hl => xf1 (f := "word") rfl r hl⟩
  obtain ⟨a, ws, rfl, hl, _⟩ := h
  exact congrArg Nat.succ hl
structure All (P : Program) (w : World) (K : PySem.W.Frag) (mg : Str → Option Value) (base : Heap) (n : Nat) : Prop where
  a_is_value : Cal P w K mg base n "is_value" ["n"] (T n .n_is_value)
  a_operate : Cal P w K mg base n "operate" ["sign", "x", "y"] (T n .n_operate)
  a__holds : Cal P w K mg base n "_holds" ["sign", "x", "y"] (T n .n__holds)
  a_evaluate : Cal P w K mg base n "evaluate" ["tree", "registers"] (T n .n_evaluate)
  a_expression_of : Cal P w K mg base n "expression_of" ["instruction"] (T n .n_expression_of)
  a_thing_of : Cal P w K mg base n "thing_of" ["instruction"] (T n .n_thing_of)
  a_kind_needed : Cal P w K mg base n "kind_needed" ["instruction"] (T n .n_kind_needed)
  a_kind_of : Cal P w K mg base n "kind_of" ["program", "name"] (T n .n_kind_of)
  a_names_of : Cal P w K mg base n "names_of" ["program", "kind"] (T n .n_names_of)
  a_lock_of : Cal P w K mg base n "lock_of" ["program", "cond"] (T n .n_lock_of)
  a_first_state : Cal P w K mg base n "first_state" ["program"] (T n .n_first_state)
  a_enabled : Cal P w K mg base n "enabled" ["program", "state"] (T n .n_enabled)
  a__is_at_work : Cal P w K mg base n "_is_at_work" ["program", "state", "thread"] (T n .n__is_at_work)
  a__hindrance : Cal P w K mg base n "_hindrance" ["program", "state", "thread"] (T n .n__hindrance)
  a__is_full : Cal P w K mg base n "_is_full" ["program", "state", "queue"] (T n .n__is_full)
  a_content_of : Cal P w K mg base n "content_of" ["program", "state", "name"] (T n .n_content_of)
  a__with_content : Cal P w K mg base n "_with_content" ["program", "state", "name", "content"] (T n .n__with_content)
  a__with_thread : Cal P w K mg base n "_with_thread" ["state", "thread", "entry"] (T n .n__with_thread)
  a__with_mode : Cal P w K mg base n "_with_mode" ["state", "thread", "mode"] (T n .n__with_mode)
  a__with_register : Cal P w K mg base n "_with_register" ["state", "thread", "letter", "value"] (T n .n__with_register)
  a__replaced : Cal P w K mg base n "_replaced" ["row", "at", "item"] (T n .n__replaced)
  a_make_step : Cal P w K mg base n "make_step" ["program", "state", "thread"] (T n .n_make_step)
  a__take_lock_again : Cal P w K mg base n "_take_lock_again" ["program", "state", "thread"] (T n .n__take_lock_again)
  a__failed : Cal P w K mg base n "_failed" ["state", "thread", "word"] (T n .n__failed)
  a__touches : Cal P w K mg base n "_touches" ["program", "instruction"] (T n .n__touches)
  a__moved_on : Cal P w K mg base n "_moved_on" ["program", "state", "thread", "value"] (T n .n__moved_on)
  a__moved_to : Cal P w K mg base n "_moved_to" ["program", "state", "thread", "pc"] (T n .n__moved_to)
  a__effect : Cal P w K mg base n "_effect" ["program", "state", "thread", "value"] (T n .n__effect)
  a__use_variable : Cal P w K mg base n "_use_variable" ["program", "state", "thread", "instruction", "value"] (T n .n__use_variable)
  a__use_lock : Cal P w K mg base n "_use_lock" ["program", "state", "thread", "instruction"] (T n .n__use_lock)
  a__use_condition : Cal P w K mg base n "_use_condition" ["program", "state", "thread", "instruction"] (T n .n__use_condition)
  a__use_queue : Cal P w K mg base n "_use_queue" ["program", "state", "thread", "instruction", "value"] (T n .n__use_queue)
  a_run : Cal P w K mg base n "run" ["program", "schedule"] (T n .n_run)
  a_walk : Cal P w K mg base n "walk" ["program", "schedule"] (T n .n_walk)
  a__noticed : Cal P w K mg base n "_noticed" ["program", "step"] (T n .n__noticed)
  a__is_awaited : Cal P w K mg base n "_is_awaited" ["program", "state", "cond"] (T n .n__is_awaited)
  a__faults_in : Cal P w K mg base n "_faults_in" ["program", "schedule", "steps", "state"] (T n .n__faults_in)
  a__in_order : Cal P w K mg base n "_in_order" ["faults"] (T n .n__in_order)
  a__outcome_in : Cal P w K mg base n "_outcome_in" ["program", "state"] (T n .n__outcome_in)
  a__law_cell : Cal P w K mg base n "_law_cell" ["script", "k"] (T n .n__law_cell)
  a__law_digits : Cal P w K mg base n "_law_digits" ["cell", "k", "most"] (T n .n__law_digits)
  a__law_padded : Cal P w K mg base n "_law_padded" ["cell", "k"] (T n .n__law_padded)
  a__law_things : Cal P w K mg base n "_law_things" [] (T n .n__law_things)
  a__law_piece : Cal P w K mg base n "_law_piece" ["digit", "pc"] (T n .n__law_piece)
  a__law_program : Cal P w K mg base n "_law_program" ["script", "sizes"] (T n .n__law_program)
  a__law_drawn : Cal P w K mg base n "_law_drawn" ["script"] (T n .n__law_drawn)
  a__law_walk : Cal P w K mg base n "_law_walk" ["program", "script", "first", "most"] (T n .n__law_walk)
  a__law_refused : Cal P w K mg base n "_law_refused" ["kind", "program", "schedule", "at"] (T n .n__law_refused)
  ax_run : CalX P w K mg base n "run" ["program", "schedule"] (Y n .y_run)
  ax_walk : CalX P w K mg base n "walk" ["program", "schedule"] (Y n .y_walk)
  ax_lost_notices : CalX P w K mg base n "lost_notices" ["program", "schedule"] (Y n .y_lost_notices)
  ax_faults_of : CalX P w K mg base n "faults_of" ["program", "schedule"] (Y n .y_faults_of)
  ax_outcome : CalX P w K mg base n "outcome" ["program", "schedule"] (Y n .y_outcome)
  ax_history : CalX P w K mg base n "history" ["program", "schedule", "name"] (Y n .y_history)
  ax__check_variable : CalX P w K mg base n "_check_variable" ["program", "name"] (Y n .y__check_variable)
  ax__history_in : CalX P w K mg base n "_history_in" ["program", "schedule", "name"] (Y n .y__history_in)
theorem all_ok {P : Program} {w : World} {K : PySem.W.Frag} {mg : Str → Option Value} {base : Heap} (t : Tops w K mg) : ∀ n, All P w K mg base n
  | 0 => ⟨cal_zero t.o_is_value, cal_zero t.o_operate, cal_zero t.o__holds, cal_zero t.o_evaluate, cal_zero t.o_expression_of, cal_zero t.o_thing_of, cal_zero t.o_kind_needed, cal_zero t.o_kind_of, cal_zero t.o_names_of, cal_zero t.o_lock_of, cal_zero t.o_first_state, cal_zero t.o_enabled, cal_zero t.o__is_at_work, cal_zero t.o__hindrance, cal_zero t.o__is_full, cal_zero t.o_content_of, cal_zero t.o__with_content, cal_zero t.o__with_thread, cal_zero t.o__with_mode, cal_zero t.o__with_register, cal_zero t.o__replaced, cal_zero t.o_make_step, cal_zero t.o__take_lock_again, cal_zero t.o__failed, cal_zero t.o__touches, cal_zero t.o__moved_on, cal_zero t.o__moved_to, cal_zero t.o__effect, cal_zero t.o__use_variable, cal_zero t.o__use_lock, cal_zero t.o__use_condition, cal_zero t.o__use_queue, cal_zero t.o_run, cal_zero t.o_walk, cal_zero t.o__noticed, cal_zero t.o__is_awaited, cal_zero t.o__faults_in, cal_zero t.o__in_order, cal_zero t.o__outcome_in, cal_zero t.o__law_cell, cal_zero t.o__law_digits, cal_zero t.o__law_padded, cal_zero t.o__law_things, cal_zero t.o__law_piece, cal_zero t.o__law_program, cal_zero t.o__law_drawn, cal_zero t.o__law_walk, cal_zero t.o__law_refused, calX_zero t.o_run, calX_zero t.o_walk, calX_zero t.o_lost_notices, calX_zero t.o_faults_of, calX_zero t.o_outcome, calX_zero t.o_history, calX_zero t.o__check_variable, calX_zero t.o__history_in⟩
  | n + 1 => by
    have a : All P w K mg base n := all_ok t n
    exact ⟨cal_ok (N := N_is_value) t.o_is_value sc_is_value (by decide) (d_is_value t.k_LEAST t.k_GREATEST),
      cal_ok (N := N_operate) t.o_operate sc_operate (by decide) (d_operate a.a__holds a.a_is_value t.z_int),
      cal_ok (N := N__holds) t.o__holds sc__holds (by decide) (d__holds ),
      cal_ok (N := N_evaluate) t.o_evaluate sc_evaluate (by decide) (d_evaluate a.a_evaluate a.a_operate t.k_REGISTERS t.t_REGISTERS t.k_RANGE t.z_int),
      cal_ok (N := N_expression_of) t.o_expression_of sc_expression_of (by decide) (d_expression_of t.kd_EXPRESSION_AT),
      cal_ok (N := N_thing_of) t.o_thing_of sc_thing_of (by decide) (d_thing_of t.kd_NAME_AT),
      cal_ok (N := N_kind_needed) t.o_kind_needed sc_kind_needed (by decide) (d_kind_needed t.kd_KINDS_instructions),
      cal_ok (N := N_kind_of) t.o_kind_of sc_kind_of (by decide) (d_kind_of ),
      cal_ok (N := N_names_of) t.o_names_of sc_names_of (by decide) (d_names_of t.z_tuple),
      cal_ok (N := N_lock_of) t.o_lock_of sc_lock_of (by decide) (d_lock_of ),
      cal_ok (N := N_first_state) t.o_first_state sc_first_state (by decide) (d_first_state t.z_tuple),
      cal_ok (N := N_enabled) t.o_enabled sc_enabled (by decide) (d_enabled a.a__is_at_work a.a__hindrance t.z_range t.z_len t.z_tuple),
      cal_ok (N := N__is_at_work) t.o__is_at_work sc__is_at_work (by decide) (d__is_at_work t.k_THREADS t.z_len),
      cal_ok (N := N__hindrance) t.o__hindrance sc__hindrance (by decide) (d__hindrance a.a_thing_of a.a_lock_of a.a_content_of a.a__is_full a.a_evaluate t.k_THREADS t.k_RANGE),
      cal_ok (N := N__is_full) t.o__is_full sc__is_full (by decide) (d__is_full a.a_content_of t.z_len),
      cal_ok (N := N_content_of) t.o_content_of sc_content_of (by decide) (d_content_of a.a_kind_of a.a_names_of t.kd_PART_OF_KIND),
      cal_ok (N := N__with_content) t.o__with_content sc__with_content (by decide) (d__with_content a.a_kind_of a.a__replaced a.a_names_of t.kd_PART_OF_KIND),
      cal_ok (N := N__with_thread) t.o__with_thread sc__with_thread (by decide) (d__with_thread a.a__replaced t.k_THREADS),
      cal_ok (N := N__with_mode) t.o__with_mode sc__with_mode (by decide) (d__with_mode a.a__with_thread t.k_THREADS),
      cal_ok (N := N__with_register) t.o__with_register sc__with_register (by decide) (d__with_register a.a__replaced a.a__with_thread t.k_THREADS t.k_REGISTERS t.t_REGISTERS),
      cal_ok (N := N__replaced) t.o__replaced sc__replaced (by decide) (d__replaced ),
      cal_ok (N := N_make_step) t.o_make_step sc_make_step (by decide) (d_make_step a.a__take_lock_again a.a_expression_of a.a_evaluate a.a__failed a.a__effect a.a__moved_on a.a__touches t.k_THREADS t.k_RANGE),
      cal_ok (N := N__take_lock_again) t.o__take_lock_again sc__take_lock_again (by decide) (d__take_lock_again a.a_lock_of a.a__with_mode a.a__with_content a.a__moved_to t.k_THREADS),
      cal_ok (N := N__failed) t.o__failed sc__failed (by decide) (d__failed a.a__with_thread t.k_THREADS),
      cal_ok (N := N__touches) t.o__touches sc__touches (by decide) (d__touches a.a_thing_of a.a_lock_of),
      cal_ok (N := N__moved_on) t.o__moved_on sc__moved_on (by decide) (d__moved_on a.a__with_mode a.a__moved_to t.k_THREADS),
      cal_ok (N := N__moved_to) t.o__moved_to sc__moved_to (by decide) (d__moved_to a.a__with_thread t.k_THREADS t.z_len),
      cal_ok (N := N__effect) t.o__effect sc__effect (by decide) (d__effect a.a_kind_needed a.a__use_variable a.a__use_lock a.a__use_condition a.a__use_queue a.a__with_register t.k_THREADS),
      cal_ok (N := N__use_variable) t.o__use_variable sc__use_variable (by decide) (d__use_variable a.a_thing_of a.a_content_of a.a__with_register a.a_operate a.a__with_content t.k_RANGE),
      cal_ok (N := N__use_lock) t.o__use_lock sc__use_lock (by decide) (d__use_lock a.a_thing_of a.a__with_content a.a_content_of),
      cal_ok (N := N__use_condition) t.o__use_condition sc__use_condition (by decide) (d__use_condition a.a_thing_of a.a_content_of a.a_lock_of a.a__with_content a.a__with_mode t.z_len),
      cal_ok (N := N__use_queue) t.o__use_queue sc__use_queue (by decide) (d__use_queue a.a_thing_of a.a_content_of a.a__with_content a.a__with_register),
      cal_ok (N := N_run) t.o_run sc_run (by decide) (d_run a.a_walk t.z_tuple),
      cal_ok (N := N_walk) t.o_walk sc_walk (by decide) (d_walk a.a_first_state a.a_enabled a.a_make_step t.z_enumerate),
      cal_ok (N := N__noticed) t.o__noticed sc__noticed (by decide) (d__noticed ),
      cal_ok (N := N__is_awaited) t.o__is_awaited sc__is_awaited (by decide) (d__is_awaited ),
      cal_ok (N := N__faults_in) t.o__faults_in sc__faults_in (by decide) (d__faults_in ),
      cal_ok (N := N__in_order) t.o__in_order sc__in_order (by decide) (d__in_order ),
      cal_ok (N := N__outcome_in) t.o__outcome_in sc__outcome_in (by decide) (d__outcome_in ),
      cal_ok (N := N__law_cell) t.o__law_cell sc__law_cell (by decide) (d__law_cell t.z_len),
      cal_ok (N := N__law_digits) t.o__law_digits sc__law_digits (by decide) (d__law_digits t.z_range t.z_len t.z_int),
      cal_ok (N := N__law_padded) t.o__law_padded sc__law_padded (by decide) (d__law_padded a.a__law_digits t.z_range),
      cal_ok (N := N__law_things) t.o__law_things sc__law_things (by decide) (d__law_things ),
      cal_ok (N := N__law_piece) t.o__law_piece sc__law_piece (by decide) (d__law_piece t.z_int),
      cal_ok (N := N__law_program) t.o__law_program sc__law_program (by decide) (d__law_program a.a__law_padded a.a__law_cell a.a__law_piece a.a__law_things t.z_range t.z_len t.z_tuple),
      cal_ok (N := N__law_drawn) t.o__law_drawn sc__law_drawn (by decide) (d__law_drawn a.a__law_program a.a__law_cell t.z_int),
      cal_ok (N := N__law_walk) t.o__law_walk sc__law_walk (by decide) (d__law_walk a.a_first_state a.a_enabled a.a__law_cell a.a_make_step t.z_range t.z_len t.z_int),
      cal_ok (N := N__law_refused) t.o__law_refused sc__law_refused (by decide) (d__law_refused a.ax_lost_notices a.ax_faults_of a.ax_outcome a.ax_history (mk_NotEnabled t)),
      calX_ok (N := N_run) t.o_run sc_run (by decide) (dx_run a.ax_walk t.z_tuple),
      calX_ok (N := N_walk) t.o_walk sc_walk (by decide) (dx_walk a.a_first_state a.a_enabled a.a_make_step (mk_NotEnabled t) of_decide_eq_true t.z_enumerate),
      calX_ok (N := N_lost_notices) t.o_lost_notices sc_lost_notices (by decide) (dx_lost_notices a.a_enabled a.a__noticed a.a__is_awaited a.ax_walk t.z_zip),
      calX_ok (N := N_faults_of) t.o_faults_of sc_faults_of (by decide) (dx_faults_of a.a__in_order a.a__faults_in a.ax_run),
      calX_ok (N := N_outcome) t.o_outcome sc_outcome (by decide) (dx_outcome a.a__outcome_in a.ax_run),
      calX_ok (N := N_history) t.o_history sc_history (by decide) (dx_history a.ax__check_variable a.ax__history_in),
      calX_ok (N := N__check_variable) t.o__check_variable sc__check_variable (by decide) (dx__check_variable a.a_names_of (mk_NoSuchPlace t) of_decide_eq_true),
      calX_ok (N := N__history_in) t.o__history_in sc__history_in (by decide) (dx__history_in a.a_content_of a.ax_walk t.z_zip t.z_tuple)⟩
abbrev FUEL : Nat := 20
theorem fin_ok {P : Program} {w : World} {h : Heap} {K : PySem.W.Frag} {mg : Str → Option Value} (X : K.In h) (G : h.Ns mainGlobals mg) (t : Tops w K mg) (ld : LawDef K mg s_law) : LawDef K mg s_law ∧ ∀ (base : Heap) (f : Addr) (cdv : Value) (A : Around) (outer : List PySem.Env) (s : Shared) (H : Hp) (E : XK), Room FUEL (A.deeper (PyProof.Rows.envOfC "law" (defScope s_law) s.heap.objs.size f cdv)) →
      PSs (cxOf CX0 P w K mg base N_law "law" (defScope s_law) f cdv A outer s H E).nox (defBody s_law) (rdS K w (b_law (T FUEL .n__law_drawn) (T FUEL .n__law_walk) (T FUEL .n__law_cell) (T FUEL .n_run) (T FUEL .n_enabled) (T FUEL .n__law_refused))) :=
  ⟨ld, fun base f cdv A outer s H E hr => d_law (all_ok t FUEL).a__law_drawn (all_ok t FUEL).a__law_walk (all_ok t FUEL).a__law_cell (all_ok t FUEL).a_run (all_ok t FUEL).a_enabled (all_ok t FUEL).a__law_refused t.z_int t.z_range t.z_len f cdv A outer s H E hr⟩
theorem law_true : ∀ ns : List Int, ns.length ≤ 63 → ∃ st', runF N_law.length 1 (b_law (T FUEL .n__law_drawn) (T FUEL .n__law_walk) (T FUEL .n__law_cell) (T FUEL .n_run) (T FUEL .n_enabled) (T FUEL .n__law_refused)) [.loc 0] [.frz (ns.map .int)] = some (.bl true, st') :=
  k59_law (fun st n ns h k => cell_ok h k)
    (fun {st n ns} h => drawnS_ok (pad := T 18 .n__law_padded) (cell := T 18 .n__law_cell) (piece := T 18 .n__law_piece) (things := T 18 .n__law_things) (cell2 := T 19 .n__law_cell) (fun st n ns h k => cell_ok h k) (padded_ok (fun c k m hm st => digits_ok c k m hm st)) pieceS_ok things_okQ (fun st n ns h k => cell_ok h k) h)
    (fun {p} hp {st n ns} h first most hm => walk_okQ hp (pf := T 19 .n_first_state) (pe := T 19 .n_enabled) (cell := T 19 .n__law_cell) (pm := T 19 .n_make_step) (sp_first hp) (xen hp (xeval (dep := 1) (F := fun n => T (n + 5) .n_evaluate) (fun _ => rfl) (m := 11) (by decide))) (fun st n ns h k => cell_ok h k) (xstep hp (xeval (dep := 1) (F := fun n => T (n + 5) .n_evaluate) (fun _ => rfl) (m := 12) (by decide))) h first most hm)
    (fun {p} hp {sch} ok hl s => run_ok hp (pf := T 18 .n_first_state) (pe := T 18 .n_enabled) (pm := T 18 .n_make_step) (sp_first hp) (xen hp (xeval (dep := 1) (F := fun n => T (n + 5) .n_evaluate) (fun _ => rfl) (m := 10) (by decide))) (xstep hp (xeval (dep := 1) (F := fun n => T (n + 5) .n_evaluate) (fun _ => rfl) (m := 11) (by decide))) ok hl s)
    (fun {p} hp => (xen hp (xeval (dep := 1) (F := fun n => T (n + 5) .n_evaluate) (fun _ => rfl) (m := 12) (by decide))))
    (fun {p} hq l1 k l2 ok hk hb hl m hm s => by
      have hp := hq.pw (by decide)
      have hy : ("y" : Str) ∈ p.nm .var := by exact mem_nm.mpr ⟨.var "y" 1, by rw [hq.S]; simp [thQ], rfl, rfl⟩
      exact refused_ok (lost_rz (fun st => (walkY (sch := l1 ++ k :: l2) hp (pf := T 17 .n_first_state) (pe := T 17 .n_enabled) (pm := T 17 .n_make_step) (sp_first hp) (xen hp (xeval (dep := 1) (F := fun n => T (n + 5) .n_evaluate) (fun _ => rfl) (m := 9) (by decide))) (xstep hp (xeval (dep := 1) (F := fun n => T (n + 5) .n_evaluate) (fun _ => rfl) (m := 10) (by decide))) hl st).2 l1 k l2 rfl ok hk hb)) (faults_rz (run_rz (fun st => (walkY (sch := l1 ++ k :: l2) hp (pf := T 16 .n_first_state) (pe := T 16 .n_enabled) (pm := T 16 .n_make_step) (sp_first hp) (xen hp (xeval (dep := 1) (F := fun n => T (n + 5) .n_evaluate) (fun _ => rfl) (m := 8) (by decide))) (xstep hp (xeval (dep := 1) (F := fun n => T (n + 5) .n_evaluate) (fun _ => rfl) (m := 9) (by decide))) hl st).2 l1 k l2 rfl ok hk hb))) (outcome_rz (run_rz (fun st => (walkY (sch := l1 ++ k :: l2) hp (pf := T 16 .n_first_state) (pe := T 16 .n_enabled) (pm := T 16 .n_make_step) (sp_first hp) (xen hp (xeval (dep := 1) (F := fun n => T (n + 5) .n_evaluate) (fun _ => rfl) (m := 8) (by decide))) (xstep hp (xeval (dep := 1) (F := fun n => T (n + 5) .n_evaluate) (fun _ => rfl) (m := 9) (by decide))) hl st).2 l1 k l2 rfl ok hk hb))) (history_rz (sp_names_of hp.few) hy (fun st => (walkY (sch := l1 ++ k :: l2) hp (pf := T 16 .n_first_state) (pe := T 16 .n_enabled) (pm := T 16 .n_make_step) (sp_first hp) (xen hp (xeval (dep := 1) (F := fun n => T (n + 5) .n_evaluate) (fun _ => rfl) (m := 8) (by decide))) (xstep hp (xeval (dep := 1) (F := fun n => T (n + 5) .n_evaluate) (fun _ => rfl) (m := 9) (by decide))) hl st).2 l1 k l2 rfl ok hk hb)) hm s)
end Lw
open PySem PySem.W PyProof.Rows in
set_option maxRecDepth 100000 in
set_option maxHeartbeats 0 in
theorem PySem.Challenge.cw_everyturn_k59_schedules_that_are_not_pos_holds : PySem.Challenge.rw_everyturn_k59_schedules_that_are_not_pos.Holds := by
  w_on; o_law; k_head; (case hw => w_witness2)
  k_fill
  refine Iv.walk (l := PySem.Challenge.rw_everyturn_k59_schedules_that_are_not_pos) (k := Lw.FUEL) (N := Lw.N_law) (st := Lw.s_law) (body := Lw.b_law (Lw.T Lw.FUEL .n__law_drawn) (Lw.T Lw.FUEL .n__law_walk) (Lw.T Lw.FUEL .n__law_cell) (Lw.T Lw.FUEL .n_run) (Lw.T Lw.FUEL .n_enabled) (Lw.T Lw.FUEL .n__law_refused)) rfl rfl rfl ⟨rfl, by decide, by decide⟩ Lw.sc_law (by decide) (fun w h Y => PySem.W.kIn_of Y) Lw.law_true ?B
  case B =>
    intro w mg h KX G
    refine' Lw.fin_ok KX G ⟨?o_is_value, ?o_operate, ?o__holds, ?o_evaluate, ?o_expression_of, ?o_thing_of, ?o_kind_needed, ?o_kind_of, ?o_names_of, ?o_lock_of, ?o_first_state, ?o_enabled, ?o__is_at_work, ?o__hindrance, ?o__is_full, ?o_content_of, ?o__with_content, ?o__with_thread, ?o__with_mode, ?o__with_register, ?o__replaced, ?o_make_step, ?o__take_lock_again, ?o__failed, ?o__touches, ?o__moved_on, ?o__moved_to, ?o__effect, ?o__use_variable, ?o__use_lock, ?o__use_condition, ?o__use_queue, ?o_run, ?o_walk, ?o__noticed, ?o__is_awaited, ?o__faults_in, ?o__in_order, ?o__outcome_in, ?o__law_cell, ?o__law_digits, ?o__law_padded, ?o__law_things, ?o__law_piece, ?o__law_program, ?o__law_drawn, ?o__law_walk, ?o__law_refused, ?o_lost_notices, ?o_faults_of, ?o_outcome, ?o_history, ?o__check_variable, ?o__history_in, ?er_NotEnabled, ?er_NoSuchPlace, ?tur, ?k_LEAST, ?k_GREATEST, ?k_REGISTERS, ?t_REGISTERS, ?k_RANGE, ?kd_EXPRESSION_AT, ?kd_NAME_AT, ?kd_KINDS_instructions, ?k_THREADS, ?kd_PART_OF_KIND, ?z_int, ?z_tuple, ?z_range, ?z_len, ?z_enumerate, ?z_zip⟩ ?ld
    case o_is_value =>
      refine' Iv.def_mk KX G ?a ?l ?c ?k (fun _ _ _ _ _ _ us hl => match us, hl with | [_], _ => rfl)
      (case a => k_is)
      (case l => k_is)
      (case c => k_is)
      (case k => k_is)
    case o_operate =>
      refine' Iv.def_mk KX G ?a ?l ?c ?k (fun _ _ _ _ _ _ us hl => match us, hl with | [_, _, _], _ => rfl)
      (case a => k_is)
      (case l => k_is)
      (case c => k_is)
      (case k => k_is)
    case o__holds =>
      refine' Iv.def_mk KX G ?a ?l ?c ?k (fun _ _ _ _ _ _ us hl => match us, hl with | [_, _, _], _ => rfl)
      (case a => k_is)
      (case l => k_is)
      (case c => k_is)
      (case k => k_is)
    case o_evaluate =>
      refine' Iv.def_mk KX G ?a ?l ?c ?k (fun _ _ _ _ _ _ us hl => match us, hl with | [_, _], _ => rfl)
      (case a => k_is)
      (case l => k_is)
      (case c => k_is)
      (case k => k_is)
    case o_expression_of =>
      refine' Iv.def_mk KX G ?a ?l ?c ?k (fun _ _ _ _ _ _ us hl => match us, hl with | [_], _ => rfl)
      (case a => k_is)
      (case l => k_is)
      (case c => k_is)
      (case k => k_is)
    case o_thing_of =>
      refine' Iv.def_mk KX G ?a ?l ?c ?k (fun _ _ _ _ _ _ us hl => match us, hl with | [_], _ => rfl)
      (case a => k_is)
      (case l => k_is)
      (case c => k_is)
      (case k => k_is)
    case o_kind_needed =>
      refine' Iv.def_mk KX G ?a ?l ?c ?k (fun _ _ _ _ _ _ us hl => match us, hl with | [_], _ => rfl)
      (case a => k_is)
      (case l => k_is)
      (case c => k_is)
      (case k => k_is)
    case o_kind_of =>
      refine' Iv.def_mk KX G ?a ?l ?c ?k (fun _ _ _ _ _ _ us hl => match us, hl with | [_, _], _ => rfl)
      (case a => k_is)
      (case l => k_is)
      (case c => k_is)
      (case k => k_is)
    case o_names_of =>
      refine' Iv.def_mk KX G ?a ?l ?c ?k (fun _ _ _ _ _ _ us hl => match us, hl with | [_, _], _ => rfl)
      (case a => k_is)
      (case l => k_is)
      (case c => k_is)
      (case k => k_is)
    case o_lock_of =>
      refine' Iv.def_mk KX G ?a ?l ?c ?k (fun _ _ _ _ _ _ us hl => match us, hl with | [_, _], _ => rfl)
      (case a => k_is)
      (case l => k_is)
      (case c => k_is)
      (case k => k_is)
    case o_first_state =>
      refine' Iv.def_mk KX G ?a ?l ?c ?k (fun _ _ _ _ _ _ us hl => match us, hl with | [_], _ => rfl)
      (case a => k_is)
      (case l => k_is)
      (case c => k_is)
      (case k => k_is)
    case o_enabled =>
      refine' Iv.def_mk KX G ?a ?l ?c ?k (fun _ _ _ _ _ _ us hl => match us, hl with | [_, _], _ => rfl)
      (case a => k_is)
      (case l => k_is)
      (case c => k_is)
      (case k => k_is)
    case o__is_at_work =>
      refine' Iv.def_mk KX G ?a ?l ?c ?k (fun _ _ _ _ _ _ us hl => match us, hl with | [_, _, _], _ => rfl)
      (case a => k_is)
      (case l => k_is)
      (case c => k_is)
      (case k => k_is)
    case o__hindrance =>
      refine' Iv.def_mk KX G ?a ?l ?c ?k (fun _ _ _ _ _ _ us hl => match us, hl with | [_, _, _], _ => rfl)
      (case a => k_is)
      (case l => k_is)
      (case c => k_is)
      (case k => k_is)
    case o__is_full =>
      refine' Iv.def_mk KX G ?a ?l ?c ?k (fun _ _ _ _ _ _ us hl => match us, hl with | [_, _, _], _ => rfl)
      (case a => k_is)
      (case l => k_is)
      (case c => k_is)
      (case k => k_is)
    case o_content_of =>
      refine' Iv.def_mk KX G ?a ?l ?c ?k (fun _ _ _ _ _ _ us hl => match us, hl with | [_, _, _], _ => rfl)
      (case a => k_is)
      (case l => k_is)
      (case c => k_is)
      (case k => k_is)
    case o__with_content =>
      refine' Iv.def_mk KX G ?a ?l ?c ?k (fun _ _ _ _ _ _ us hl => match us, hl with | [_, _, _, _], _ => rfl)
      (case a => k_is)
      (case l => k_is)
      (case c => k_is)
      (case k => k_is)
    case o__with_thread =>
      refine' Iv.def_mk KX G ?a ?l ?c ?k (fun _ _ _ _ _ _ us hl => match us, hl with | [_, _, _], _ => rfl)
      (case a => k_is)
      (case l => k_is)
      (case c => k_is)
      (case k => k_is)
    case o__with_mode =>
      refine' Iv.def_mk KX G ?a ?l ?c ?k (fun _ _ _ _ _ _ us hl => match us, hl with | [_, _, _], _ => rfl)
      (case a => k_is)
      (case l => k_is)
      (case c => k_is)
      (case k => k_is)
    case o__with_register =>
      refine' Iv.def_mk KX G ?a ?l ?c ?k (fun _ _ _ _ _ _ us hl => match us, hl with | [_, _, _, _], _ => rfl)
      (case a => k_is)
      (case l => k_is)
      (case c => k_is)
      (case k => k_is)
    case o__replaced =>
      refine' Iv.def_mk KX G ?a ?l ?c ?k (fun _ _ _ _ _ _ us hl => match us, hl with | [_, _, _], _ => rfl)
      (case a => k_is)
      (case l => k_is)
      (case c => k_is)
      (case k => k_is)
    case o_make_step =>
      refine' Iv.def_mk KX G ?a ?l ?c ?k (fun _ _ _ _ _ _ us hl => match us, hl with | [_, _, _], _ => rfl)
      (case a => k_is)
      (case l => k_is)
      (case c => k_is)
      (case k => k_is)
    case o__take_lock_again =>
      refine' Iv.def_mk KX G ?a ?l ?c ?k (fun _ _ _ _ _ _ us hl => match us, hl with | [_, _, _], _ => rfl)
      (case a => k_is)
      (case l => k_is)
      (case c => k_is)
      (case k => k_is)
    case o__failed =>
      refine' Iv.def_mk KX G ?a ?l ?c ?k (fun _ _ _ _ _ _ us hl => match us, hl with | [_, _, _], _ => rfl)
      (case a => k_is)
      (case l => k_is)
      (case c => k_is)
      (case k => k_is)
    case o__touches =>
      refine' Iv.def_mk KX G ?a ?l ?c ?k (fun _ _ _ _ _ _ us hl => match us, hl with | [_, _], _ => rfl)
      (case a => k_is)
      (case l => k_is)
      (case c => k_is)
      (case k => k_is)
    case o__moved_on =>
      refine' Iv.def_mk KX G ?a ?l ?c ?k (fun _ _ _ _ _ _ us hl => match us, hl with | [_, _, _, _], _ => rfl)
      (case a => k_is)
      (case l => k_is)
      (case c => k_is)
      (case k => k_is)
    case o__moved_to =>
      refine' Iv.def_mk KX G ?a ?l ?c ?k (fun _ _ _ _ _ _ us hl => match us, hl with | [_, _, _, _], _ => rfl)
      (case a => k_is)
      (case l => k_is)
      (case c => k_is)
      (case k => k_is)
    case o__effect =>
      refine' Iv.def_mk KX G ?a ?l ?c ?k (fun _ _ _ _ _ _ us hl => match us, hl with | [_, _, _, _], _ => rfl)
      (case a => k_is)
      (case l => k_is)
      (case c => k_is)
      (case k => k_is)
    case o__use_variable =>
      refine' Iv.def_mk KX G ?a ?l ?c ?k (fun _ _ _ _ _ _ us hl => match us, hl with | [_, _, _, _, _], _ => rfl)
      (case a => k_is)
      (case l => k_is)
      (case c => k_is)
      (case k => k_is)
    case o__use_lock =>
      refine' Iv.def_mk KX G ?a ?l ?c ?k (fun _ _ _ _ _ _ us hl => match us, hl with | [_, _, _, _], _ => rfl)
      (case a => k_is)
      (case l => k_is)
      (case c => k_is)
      (case k => k_is)
    case o__use_condition =>
      refine' Iv.def_mk KX G ?a ?l ?c ?k (fun _ _ _ _ _ _ us hl => match us, hl with | [_, _, _, _], _ => rfl)
      (case a => k_is)
      (case l => k_is)
      (case c => k_is)
      (case k => k_is)
    case o__use_queue =>
      refine' Iv.def_mk KX G ?a ?l ?c ?k (fun _ _ _ _ _ _ us hl => match us, hl with | [_, _, _, _, _], _ => rfl)
      (case a => k_is)
      (case l => k_is)
      (case c => k_is)
      (case k => k_is)
    case o_run =>
      refine' Iv.def_mk KX G ?a ?l ?c ?k (fun _ _ _ _ _ _ us hl => match us, hl with | [_, _], _ => rfl)
      (case a => k_is)
      (case l => k_is)
      (case c => k_is)
      (case k => k_is)
    case o_walk =>
      refine' Iv.def_mk KX G ?a ?l ?c ?k (fun _ _ _ _ _ _ us hl => match us, hl with | [_, _], _ => rfl)
      (case a => k_is)
      (case l => k_is)
      (case c => k_is)
      (case k => k_is)
    case o__noticed =>
      refine' Iv.def_mk KX G ?a ?l ?c ?k (fun _ _ _ _ _ _ us hl => match us, hl with | [_, _], _ => rfl)
      (case a => k_is)
      (case l => k_is)
      (case c => k_is)
      (case k => k_is)
    case o__is_awaited =>
      refine' Iv.def_mk KX G ?a ?l ?c ?k (fun _ _ _ _ _ _ us hl => match us, hl with | [_, _, _], _ => rfl)
      (case a => k_is)
      (case l => k_is)
      (case c => k_is)
      (case k => k_is)
    case o__faults_in =>
      refine' Iv.def_mk KX G ?a ?l ?c ?k (fun _ _ _ _ _ _ us hl => match us, hl with | [_, _, _, _], _ => rfl)
      (case a => k_is)
      (case l => k_is)
      (case c => k_is)
      (case k => k_is)
    case o__in_order =>
      refine' Iv.def_mk KX G ?a ?l ?c ?k (fun _ _ _ _ _ _ us hl => match us, hl with | [_], _ => rfl)
      (case a => k_is)
      (case l => k_is)
      (case c => k_is)
      (case k => k_is)
    case o__outcome_in =>
      refine' Iv.def_mk KX G ?a ?l ?c ?k (fun _ _ _ _ _ _ us hl => match us, hl with | [_, _], _ => rfl)
      (case a => k_is)
      (case l => k_is)
      (case c => k_is)
      (case k => k_is)
    case o__law_cell =>
      refine' Iv.def_mk KX G ?a ?l ?c ?k (fun _ _ _ _ _ _ us hl => match us, hl with | [_, _], _ => rfl)
      (case a => k_is)
      (case l => k_is)
      (case c => k_is)
      (case k => k_is)
    case o__law_digits =>
      refine' Iv.def_mk KX G ?a ?l ?c ?k (fun _ _ _ _ _ _ us hl => match us, hl with | [_, _, _], _ => rfl)
      (case a => k_is)
      (case l => k_is)
      (case c => k_is)
      (case k => k_is)
    case o__law_padded =>
      refine' Iv.def_mk KX G ?a ?l ?c ?k (fun _ _ _ _ _ _ us hl => match us, hl with | [_, _], _ => rfl)
      (case a => k_is)
      (case l => k_is)
      (case c => k_is)
      (case k => k_is)
    case o__law_things =>
      refine' Iv.def_mk KX G ?a ?l ?c ?k (fun _ _ _ _ _ _ us hl => match us, hl with | [], _ => rfl)
      (case a => k_is)
      (case l => k_is)
      (case c => k_is)
      (case k => k_is)
    case o__law_piece =>
      refine' Iv.def_mk KX G ?a ?l ?c ?k (fun _ _ _ _ _ _ us hl => match us, hl with | [_, _], _ => rfl)
      (case a => k_is)
      (case l => k_is)
      (case c => k_is)
      (case k => k_is)
    case o__law_program =>
      refine' Iv.def_mk KX G ?a ?l ?c ?k (fun _ _ _ _ _ _ us hl => match us, hl with | [_, _], _ => rfl)
      (case a => k_is)
      (case l => k_is)
      (case c => k_is)
      (case k => k_is)
    case o__law_drawn =>
      refine' Iv.def_mk KX G ?a ?l ?c ?k (fun _ _ _ _ _ _ us hl => match us, hl with | [_], _ => rfl)
      (case a => k_is)
      (case l => k_is)
      (case c => k_is)
      (case k => k_is)
    case o__law_walk =>
      refine' Iv.def_mk KX G ?a ?l ?c ?k (fun _ _ _ _ _ _ us hl => match us, hl with | [_, _, _, _], _ => rfl)
      (case a => k_is)
      (case l => k_is)
      (case c => k_is)
      (case k => k_is)
    case o__law_refused =>
      refine' Iv.def_mk KX G ?a ?l ?c ?k (fun _ _ _ _ _ _ us hl => match us, hl with | [_, _, _, _], _ => rfl)
      (case a => k_is)
      (case l => k_is)
      (case c => k_is)
      (case k => k_is)
    case o_lost_notices =>
      refine' Iv.def_mk KX G ?a ?l ?c ?k (fun _ _ _ _ _ _ us hl => match us, hl with | [_, _], _ => rfl)
      (case a => k_is)
      (case l => k_is)
      (case c => k_is)
      (case k => k_is)
    case o_faults_of =>
      refine' Iv.def_mk KX G ?a ?l ?c ?k (fun _ _ _ _ _ _ us hl => match us, hl with | [_, _], _ => rfl)
      (case a => k_is)
      (case l => k_is)
      (case c => k_is)
      (case k => k_is)
    case o_outcome =>
      refine' Iv.def_mk KX G ?a ?l ?c ?k (fun _ _ _ _ _ _ us hl => match us, hl with | [_, _], _ => rfl)
      (case a => k_is)
      (case l => k_is)
      (case c => k_is)
      (case k => k_is)
    case o_history =>
      refine' Iv.def_mk KX G ?a ?l ?c ?k (fun _ _ _ _ _ _ us hl => match us, hl with | [_, _, _], _ => rfl)
      (case a => k_is)
      (case l => k_is)
      (case c => k_is)
      (case k => k_is)
    case o__check_variable =>
      refine' Iv.def_mk KX G ?a ?l ?c ?k (fun _ _ _ _ _ _ us hl => match us, hl with | [_, _], _ => rfl)
      (case a => k_is)
      (case l => k_is)
      (case c => k_is)
      (case k => k_is)
    case o__history_in =>
      refine' Iv.def_mk KX G ?a ?l ?c ?k (fun _ _ _ _ _ _ us hl => match us, hl with | [_, _, _], _ => rfl)
      (case a => k_is)
      (case l => k_is)
      (case c => k_is)
      (case k => k_is)
    case er_NotEnabled =>
      refine' Iv.er_mk KX G ?aC ?xL ?hbm ?sa ?ga ?gg ?no ?a1 ?t1 ?l1 ?c1 ?k1 ?kC ?eC ?tC ?hC ?iC ?sC (fun _ _ _ _ _ _ us hl => match us, hl with | [_, _], _ => rfl)
      (case aC => k_is)
      (case xL => k_is)
      (case hbm => decide +kernel)
      (case sa => k_is)
      (case ga => k_is)
      (case gg => k_is)
      (case no =>
        intro f hf
        rw [show Iv.flds "NotEnabled" = (["at"] : List Str) from rfl] at hf
        rcases List.mem_singleton.mp hf with rfl; k_is)
      (case a1 => k_is)
      (case t1 => k_is)
      (case l1 => k_is)
      (case c1 => k_is)
      (case k1 => k_is)
      (case kC => k_is)
      (case eC => k_is)
      (case tC => k_is)
      (case hC => k_is)
      (case iC => k_is)
      (case sC => k_is)
    case er_NoSuchPlace =>
      refine' Iv.er_mk KX G ?aC ?xL ?hbm ?sa ?ga ?gg ?no ?a1 ?t1 ?l1 ?c1 ?k1 ?kC ?eC ?tC ?hC ?iC ?sC (fun _ _ _ _ _ _ us hl => match us, hl with | [_, _], _ => rfl)
      (case aC => k_is)
      (case xL => k_is)
      (case hbm => decide +kernel)
      (case sa => k_is)
      (case ga => k_is)
      (case gg => k_is)
      (case no =>
        intro f hf
        rw [show Iv.flds "NoSuchPlace" = (["word"] : List Str) from rfl] at hf
        rcases List.mem_singleton.mp hf with rfl; k_is)
      (case a1 => k_is)
      (case t1 => k_is)
      (case l1 => k_is)
      (case c1 => k_is)
      (case k1 => k_is)
      (case kC => k_is)
      (case eC => k_is)
      (case tC => k_is)
      (case hC => k_is)
      (case iC => k_is)
      (case sC => k_is)
    case tur =>
      refine' Iv.tur_mk KX G ?a ?rd ?ga ?at_
      (case a => k_is)
      (case rd => k_is)
      (case ga => k_is)
      (case at_ => k_is)
    case k_LEAST =>
      refine' Iv.con_mk KX G ?a ?c
      (case a => k_is)
      (case c => (exact Iv.CV.int))
    case k_GREATEST =>
      refine' Iv.con_mk KX G ?a ?c
      (case a => k_is)
      (case c => (exact Iv.CV.int))
    case k_REGISTERS =>
      refine' Iv.con_mk KX G ?a ?c
      (case a => k_is)
      (case c => (refine' Iv.CV.tup ?l1 ?z1 ?h1; (case l1 => k_is); (case z1 => decide); (case h1 => (refine Iv.CVs.cons ?_ ?_; exact Iv.CV.str; refine Iv.CVs.cons ?_ ?_; exact Iv.CV.str; refine Iv.CVs.cons ?_ ?_; exact Iv.CV.str; refine Iv.CVs.cons ?_ ?_; exact Iv.CV.str; exact Iv.CVs.nil))))
    case t_REGISTERS =>
      refine' Iv.conT_mk KX G ?a ?l ?z ?c
      (case a => k_is)
      (case l => k_is)
      (case z => decide)
      (case c => (refine Iv.CVs.cons ?_ ?_; exact Iv.CV.str; refine Iv.CVs.cons ?_ ?_; exact Iv.CV.str; refine Iv.CVs.cons ?_ ?_; exact Iv.CV.str; refine Iv.CVs.cons ?_ ?_; exact Iv.CV.str; exact Iv.CVs.nil))
    case k_RANGE =>
      refine' Iv.con_mk KX G ?a ?c
      (case a => k_is)
      (case c => (exact Iv.CV.str))
    case kd_EXPRESSION_AT =>
      refine' Iv.conD_mk KX G ?a ?l ?z ?c
      (case a => k_is)
      (case l => k_is)
      (case z => decide)
      (case c => (refine Iv.DVs.cons rfl ?_ ?_; exact Iv.CV.int; refine Iv.DVs.cons rfl ?_ ?_; exact Iv.CV.int; refine Iv.DVs.cons rfl ?_ ?_; exact Iv.CV.int; refine Iv.DVs.cons rfl ?_ ?_; exact Iv.CV.int; refine Iv.DVs.cons rfl ?_ ?_; exact Iv.CV.int; refine Iv.DVs.cons rfl ?_ ?_; exact Iv.CV.int; exact Iv.DVs.nil))
    case kd_NAME_AT =>
      refine' Iv.conD_mk KX G ?a ?l ?z ?c
      (case a => k_is)
      (case l => k_is)
      (case z => decide)
      (case c => (refine Iv.DVs.cons rfl ?_ ?_; exact Iv.CV.int; refine Iv.DVs.cons rfl ?_ ?_; exact Iv.CV.int; refine Iv.DVs.cons rfl ?_ ?_; exact Iv.CV.int; refine Iv.DVs.cons rfl ?_ ?_; exact Iv.CV.int; refine Iv.DVs.cons rfl ?_ ?_; exact Iv.CV.int; refine Iv.DVs.cons rfl ?_ ?_; exact Iv.CV.int; refine Iv.DVs.cons rfl ?_ ?_; exact Iv.CV.int; refine Iv.DVs.cons rfl ?_ ?_; exact Iv.CV.int; refine Iv.DVs.cons rfl ?_ ?_; exact Iv.CV.int; refine Iv.DVs.cons rfl ?_ ?_; exact Iv.CV.int; exact Iv.DVs.nil))
    case kd_KINDS_instructions =>
      refine' Iv.conD_mk KX G ?a ?l ?z ?c
      (case a => k_is)
      (case l => k_is)
      (case z => decide)
      (case c => (refine Iv.DVs.cons rfl ?_ ?_; exact Iv.CV.str; refine Iv.DVs.cons rfl ?_ ?_; exact Iv.CV.str; refine Iv.DVs.cons rfl ?_ ?_; exact Iv.CV.str; refine Iv.DVs.cons rfl ?_ ?_; exact Iv.CV.str; refine Iv.DVs.cons rfl ?_ ?_; exact Iv.CV.str; refine Iv.DVs.cons rfl ?_ ?_; exact Iv.CV.str; refine Iv.DVs.cons rfl ?_ ?_; exact Iv.CV.str; refine Iv.DVs.cons rfl ?_ ?_; exact Iv.CV.str; refine Iv.DVs.cons rfl ?_ ?_; exact Iv.CV.str; refine Iv.DVs.cons rfl ?_ ?_; exact Iv.CV.str; exact Iv.DVs.nil))
    case k_THREADS =>
      refine' Iv.con_mk KX G ?a ?c
      (case a => k_is)
      (case c => (exact Iv.CV.int))
    case kd_PART_OF_KIND =>
      refine' Iv.conD_mk KX G ?a ?l ?z ?c
      (case a => k_is)
      (case l => k_is)
      (case z => decide)
      (case c => (refine Iv.DVs.cons rfl ?_ ?_; exact Iv.CV.int; refine Iv.DVs.cons rfl ?_ ?_; exact Iv.CV.int; refine Iv.DVs.cons rfl ?_ ?_; exact Iv.CV.int; refine Iv.DVs.cons rfl ?_ ?_; exact Iv.CV.int; exact Iv.DVs.nil))
    case z_int =>
      refine' PySem.W.mg_none_of KX G ?c
      (case c => k_is)
    case z_tuple =>
      refine' PySem.W.mg_none_of KX G ?c
      (case c => k_is)
    case z_range =>
      refine' PySem.W.mg_none_of KX G ?c
      (case c => k_is)
    case z_len =>
      refine' PySem.W.mg_none_of KX G ?c
      (case c => k_is)
    case z_enumerate =>
      refine' PySem.W.mg_none_of KX G ?c
      (case c => k_is)
    case z_zip =>
      refine' PySem.W.mg_none_of KX G ?c
      (case c => k_is)
    case ld =>
      refine' Iv.lawdef_mk KX G ?a ?l ?c ?k ?b
      (case a => k_is)
      (case l => k_is)
      (case c => k_is)
      (case k => k_is)
      (case b => intro _ _ _ _ _ _ u; rfl)
