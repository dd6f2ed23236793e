import PyProof.Rows.All
import Wide.All
import OpenK.AllK
import Wide.FinOn
import HandS.ForMost
import HandS.Flow
import HandS.Wide
import HandS.IsInst
import HandS.TupAny
import HandS.Deep
import HandS.Strs
import HandS.StrMore
import HandS.More
import HandS.FStr
import HandS.Star
import HandS.RaiseMore
import HandS.ReCall
import HandS.Set
import HandS.SetBool
import PyProof.Rows.SortShellAny
import HandS.Zip
import HandS.RevRange
import HandS.SetFor
import HandS.SortInts
import PyProof.Rows.StrMeet
import KE.GoesMore
import PySem.Challenge.RW_everyturn_k52_spans
set_option Elab.async false
set_option linter.all false
set_option maxRecDepth 100000
set_option maxHeartbeats 4000000
/-! Iv: sets whose members are ints and texts, in the machine's heap, their table rising so that they can be walked. -/
namespace Iv
open PySem L2 PySem.Spec PyProof.Rows

def kyOf : Value → Key
  | .int k _ => .inl k
  | .str x _ => .inr x
  | _ => .inl 0
def Ent (w : World) (e : Int × Value) : Prop := keyIs (kyOf e.2) e.2 = true ∧ e.1 = keyH w (kyOf e.2)
def hasK (ks : List Key) (k : Key) : Bool := ks.any fun j => decide (j = k)
theorem hasK_iff {ks : List Key} {k : Key} : hasK ks k = true ↔ k ∈ ks := by
  unfold hasK
  rw [List.any_eq_true]
  exact ⟨fun ⟨j, h1, h2⟩ => by rw [← of_decide_eq_true h2]; exact h1, fun h => ⟨k, h, decide_eq_true rfl⟩⟩
def addK (ks : List Key) (k : Key) : List Key := if hasK ks k = true then ks else ks ++ [k]
def kyE (e : Int × Value) : Key := kyOf e.2
/-- the set at a holds just these keys, in some order -/
def KSet (w : World) (h : Heap) (a : Addr) (ks : List Key) : Prop :=
  ∃ ob es ep tb, (h.get? a = some ob ∧ ob.ExactSet ∧ ob.data = .set es ep tb) ∧ ((∀ x ∈ es.toList, Ent w x) ∧ (es.toList.map kyE).Perm ks ∧ ks.Nodup) ∧
    es.size < scanBound ∧ tb.fits es.size = true ∧ Ris tb.place.toList ∧ (w.params.followText "set-order" = true ∨ tb.led = true)
theorem kyOf_of {k : Key} {u : Value} (h : keyIs k u = true) : kyOf u = k := by
  rcases keyIs_shape h with ⟨i, t, rfl, rfl⟩ | ⟨x, t, rfl, rfl⟩ <;> rfl
theorem key_scannable {k : Key} {u : Value} (h : keyIs k u = true) : u.scannable = true := by
  rcases keyIs_shape h with ⟨i, t, rfl, rfl⟩ | ⟨x, t, rfl, rfl⟩ <;> rfl
theorem ent_is {w : World} {x : Int × Value} (g : Ent w x) (k : Key) : keyIs k x.2 = true ↔ kyE x = k :=
  ⟨fun h => kyOf_of h, fun h => by rw [← h]; exact g.1⟩
theorem ent_elems {P : Program} {w : World} {l : List (Int × Value)} (g : ∀ x ∈ l, Ent w x) : ElemsOf (mixKind P w) l :=
  fun x hx => ⟨⟨kyE x, (g x hx).1, (g x hx).2⟩, key_scannable (g x hx).1⟩
theorem ent_mem {w : World} {l : List (Int × Value)} (g : ∀ x ∈ l, Ent w x) (k : Key) : k ∈ l.map kyE ↔ ∃ x ∈ l, keyIs k x.2 = true := by
  rw [List.mem_map]
  exact ⟨fun ⟨x, hx, q⟩ => ⟨x, hx, (ent_is (g x hx) k).2 q⟩, fun ⟨x, hx, q⟩ => ⟨x, hx, (ent_is (g x hx) k).1 q⟩⟩
section
variable {P : Program} {w : World} {h h' : Heap} {a : Addr} {ks : List Key}
theorem KSet.keep (R : KSet w h a ks) (k : ∀ o, h.get? a = some o → h'.get? a = some o) : KSet w h' a ks := by
  obtain ⟨ob, es, ep, tb, ⟨e1, e2⟩, r⟩ := R
  exact ⟨ob, es, ep, tb, ⟨k ob e1, e2⟩, r⟩
theorem KSet.size {es : Array (Int × Value)} (p : (es.toList.map kyE).Perm ks) : es.size = ks.length := by
  have := p.length_eq
  rw [List.length_map, Array.length_toList] at this
  exact this
theorem KSet.setOf (R : KSet w h a ks) : h.SetOf (mixKind P w) a (hasK ks) ks.length := by
  obtain ⟨ob, es, ep, tb, ⟨e1, e2, e3⟩, ⟨g, p, _⟩, b, f, _⟩ := R
  refine ⟨ob, es, ep, tb, e1, e2, e3, ent_elems g, fun k => ?_, b, f, KSet.size p⟩
  rw [hasK_iff, ← p.mem_iff, ent_mem g]
  exact Iff.rfl
theorem KSet.perm {ls : List Key} (R : KSet w h a ks) (p : ks.Perm ls) : KSet w h a ls := by
  obtain ⟨ob, es, ep, tb, r, ⟨g, q, n⟩, z⟩ := R
  exact ⟨ob, es, ep, tb, r, ⟨g, q.trans p, p.nodup_iff.mp n⟩, z⟩
end
section
variable {P : Program} {w : World} {A : Around} {E : Value → Shared → Prop} {s : Shared} {a : Addr} {ks : List Key}
theorem put_at {h : Heap} {ob : Obj} {es es2 : Array (Int × Value)} {ep : Nat} {tb tb2 : SetTable} (e1 : h.get? a = some ob) (e3 : ob.data = .set es ep tb) :
    (h.update a (Obj.putSet es2 tb2)).get? a = some { ob with data := .set es2 (ep + 1) tb2 } := by
  have z := putSet_of es2 tb2 e3
  have q := Heap.get?_update_self (Obj.putSet es2 tb2) e1 (by rw [z]; rfl)
  rwa [z] at q
/-- what stands behind the new member's place: the table laid again if it is too full -/
theorem kset_tail {gv : Bool → Sem Unit} (hgv : ∀ (b : Bool) (s1 : Shared) (Z : Unit → Shared → Prop), Z () s1 → wpAny (model P w) A (gv b) Z E s1)
    {ob : Obj} {es : Array (Int × Value)} {ep : Nat} {tb : SetTable} (e1 : s.heap.get? a = some ob) (e2 : ob.ExactSet) (e3 : ob.data = .set es ep tb)
    {es2 : Array (Int × Value)} {tb2 : SetTable} (g : ∀ x ∈ es2.toList, Ent w x) (p : (es2.toList.map kyE).Perm ks) (nd : ks.Nodup)
    (b2 : es2.size < scanBound) (f2 : tb2.fits es2.size = true) (r2 : Ris tb2.place.toList) (l2 : w.params.followText "set-order" = true ∨ tb2.led = true) {wd : Bool} {R : Option Bool → Shared → Prop}
    (hR : ∀ h', Heap.SameBut a s.heap h' → KSet w h' a ks → R (some true) { s with heap := h' }) :
    wpAny (model P w) A (storeSet a es2 tb2 >>= fun _ => if (!wd && tb2.tooFull) = true then
        gv (relayAll tb2 es2 (SetTable.grown es2.size)).2.2 >>= fun _ => storeSet a (relayAll tb2 es2 (SetTable.grown es2.size)).1 (relayAll tb2 es2 (SetTable.grown es2.size)).2.1 >>= fun _ => pure (some true)
      else pure (some true)) R E s := by
  refine wpAny_bind (wpAny_storeSet_of e1 e3 ?_ (fits_of_scanBound b2))
  have at1 := put_at (a := a) (es2 := es2) (tb2 := tb2) e1 e3
  have sb := Heap.SameBut.update s.heap a (Obj.putSet es2 tb2)
  split
  · have pm := relayAll_perm tb2 es2 (SetTable.grown es2.size)
    have f3 := relayAll_fits tb2 es2 (SetTable.grown es2.size)
    have r3 := relayAll_ris tb2 es2 (SetTable.grown es2.size)
    have l3 := relayAll_led tb2 es2 (SetTable.grown es2.size)
    revert pm f3 r3 l3
    generalize relayAll tb2 es2 (SetTable.grown es2.size) = Z
    obtain ⟨es3, tb3, gave⟩ := Z
    intro pm f3 r3 l3
    have sz : es3.size = es2.size := by simpa using pm.length_eq
    have b3 : es3.size < scanBound := sz ▸ b2
    refine wpAny_bind (hgv _ _ _ (wpAny_bind (wpAny_storeSet_of at1 rfl ?_ (fits_of_scanBound b3))))
    refine wpAny_pure (hR _ (sb.trans (Heap.SameBut.update _ a _)) ?_)
    refine ⟨_, es3, _, tb3, ⟨put_at at1 rfl, e2, rfl⟩, ⟨fun x hx => g x (pm.mem_iff.mp hx), (pm.map kyE).trans p, nd⟩, b3, f3, r3, ?_⟩
    rcases l2 with z | z
    · exact .inl z
    · exact .inr (l3.trans z)
  · exact wpAny_pure (hR _ sb ⟨_, es2, _, tb2, ⟨at1, e2, rfl⟩, ⟨g, p, nd⟩, b2, f2, r2, l2⟩)
theorem kset_hashed {k : Key} {u : Value} {Q : Bool → Shared → Prop} (hu : keyIs k u = true) (R : KSet w s.heap a ks) (room : ks.length + 1 < scanBound)
    (hQ : ∀ b h', Heap.SameBut a s.heap h' → KSet w h' a (addK ks k) → Q b { s with heap := h' }) :
    wpAny (model P w) A (setAddHashed a u ((mixKind P w).hash k)) Q E s := by
  have R0 := R
  obtain ⟨ob, es, ep, tb, ⟨e1, e2, e3⟩, ⟨g, p, nd⟩, bz, f, r, l⟩ := R
  have hk : (mixKind P w).is k u = true := hu
  have sc := key_scannable hu
  have el : ElemsOf (mixKind P w) es.toList := ent_elems g
  have hn := KSet.size p
  unfold setAddHashed setAddHashedIn
  refine wpAny_holding (wpAny_bind (wpAny_setState_of e1 e3 f ?_))
  dsimp only
  rw [byScan_of sc bz el]
  simp only [↓reduceIte]
  unfold setAddByScan
  refine wpAny_bind (wpAny_bind (wpAny_rule (wpAny_bind (wpAny_setScan_of hk e1 e3 f el ?_))))
  cases fi : List.findIdx? (fun x => (mixKind P w).is k x.2) es.toList with
  | some j =>
    dsimp only
    obtain ⟨hj, pj, _⟩ := List.findIdx?_eq_some_iff_getElem.mp fi
    have mem : k ∈ ks := p.mem_iff.mp ((ent_mem g k).2 ⟨es.toList[j], List.getElem_mem hj, pj⟩)
    refine wpAny_pure (wpAny_pure ?_)
    have q := hQ false s.heap (Heap.SameBut.refl a s.heap)
    rw [addK, if_pos (hasK_iff.mpr mem)] at q
    exact q R0
  | none =>
    dsimp only
    have nmem : k ∉ ks := fun z => by
      obtain ⟨x, hx, q⟩ := (ent_mem g k).1 (p.mem_iff.mpr z)
      have c := List.findIdx?_eq_none_iff.mp fi x hx
      rw [show (mixKind P w).is k x.2 = true from q] at c
      cases c
    rw [addK, if_neg (fun z => nmem (hasK_iff.mp z))] at hQ
    have gw : ∀ (b : Bool) {s1 : Shared} {Z : Unit → Shared → Prop}, Z () s1 → wpAny (model P w) A (match b with | true => rule "set.scan.the-table-gave-way" | false => pure ()) Z E s1 := by
      intro b s1 Z q
      cases b
      · exact wpAny_pure q
      · exact wpAny_rule q
    have pm := layNew_perm tb es ((mixKind P w).hash k) u
    have f1 := layNew_fits tb es ((mixKind P w).hash k) u
    have r1 := layNew_ris tb es ((mixKind P w).hash k) u r
    have l1 := layNew_led tb es ((mixKind P w).hash k) u
    revert pm f1 r1 l1
    generalize layNew tb es ((mixKind P w).hash k) u = Z
    obtain ⟨es1, tb1, wd, gave⟩ := Z
    intro pm f1 r1 l1
    dsimp only at pm f1 r1 l1 ⊢
    rw [Array.toList_push] at pm
    have g1 : ∀ x ∈ es1.toList, Ent w x := fun x hx => by
      rcases List.mem_append.mp (pm.mem_iff.mp hx) with z | z
      · exact g x z
      · rw [List.mem_singleton.mp z]
        exact ⟨by rw [kyOf_of hu]; exact hu, by rw [kyOf_of hu] <;> rfl⟩
    have p1 : (es1.toList.map kyE).Perm (ks ++ [k]) := by
      have q := pm.map kyE
      rw [List.map_append] at q
      have ek : [((mixKind P w).hash k, u)].map kyE = [k] := by
        show [kyOf u] = [k]
        rw [kyOf_of hu]
      rw [ek] at q
      exact q.trans (p.append_right [k])
    have nd1 : (ks ++ [k]).Nodup := by
      rw [(List.perm_append_singleton k ks).nodup_iff]
      exact List.nodup_cons.mpr ⟨nmem, nd⟩
    have b1 : es1.size < scanBound := by
      rw [KSet.size p1, List.length_append]
      exact room
    have led1 : w.params.followText "set-order" = true ∨ tb1.led = true := by
      rcases l with z | z
      · exact .inl z
      · exact .inr (l1.trans z)
    refine wpAny_bind (gw _ ?_)
    split
    · refine wpAny_bind ?_
      rw [hashByValue_scannable 8 sc]
      refine wpAny_pure (kset_tail (fun b s1 Z q => gw b q) e1 e2 e3 g1 p1 nd1 b1 ?_ ?_ ?_ fun h' sb q => ?_)
      · first | (split <;> first | exact f1 | exact SetTable.fits_plain_off f1) | exact f1
      · first | (split <;> exact r1) | exact r1
      · first | (split <;> exact led1) | exact led1
      · dsimp only
        exact wpAny_pure (hQ true h' sb q)
    · refine wpAny_bind (wpAny_pure ?_)
      simp only [↓reduceIte]
      refine kset_tail (fun b s1 Z q => gw b q) e1 e2 e3 g1 p1 nd1 b1 f1 r1 led1 fun h' sb q => ?_
      dsimp only
      exact wpAny_pure (hQ true h' sb q)
/-- s.add(k) -/
theorem kset_add {k : Key} {u : Value} {Q : Value → Shared → Prop} (hu : keyIs k u = true) (R : KSet w s.heap a ks) (room : ks.length + 1 < scanBound)
    (hQ : ∀ h', Heap.SameBut a s.heap h' → KSet w h' a (addK ks k) → Q .none { s with heap := h', toks := s.toks + 1 }) :
    wpAny (model P w) A (call (.builtin "set.add") [.ref a, u]) Q E s := by
  refine wpAny_call_entry F.slot_set_add (R.setOf (P := P)).typeIs F.entry_set_add ?_ (F.args_set_add_2 _ _)
  unfold Builtin.«set.add» Builtin.Frozenset.oneOther
  simp only [List.isEmpty_nil, bind_assoc]
  unfold Builtin.Frozenset.addrOf setAdd
  refine wpAny_bind (wpAny_pure ?_)
  try dsimp only
  refine wpAny_bind (wpAny_pure ?_)
  try dsimp only
  refine wpAny_bind (wpAny_holding (wpAny_bind ((mixKind P w).pyHash (k := k) hu ?_)))
  refine kset_hashed (s := { s with toks := s.toks + 1 }) hu R room fun b h' sb q => ?_
  show wpAny _ _ (ret Value.none) _ _ _
  exact wpAny_pure ⟨_, rfl, hQ h' sb q⟩
/-- an empty one, as it is made -/
abbrev newSetObj (w : World) : Obj := { cls := .type "set", dict := none, data := .set #[] 0 (.fresh 0 0 (!w.params.followText "set-order")) }
theorem kset_fresh (h : Heap) (w : World) : KSet w (h.push (newSetObj w)) h.objs.size [] := by
  refine ⟨_, #[], 0, _, ⟨Heap.get?_push_size _ rfl, ⟨rfl, rfl, rfl⟩, rfl⟩, ⟨fun x hx => by simp at hx, List.Perm.refl _, List.Pairwise.nil⟩, by decide, by rfl, List.Pairwise.nil, ?_⟩
  show _ ∨ (!w.params.followText "set-order") = true
  cases w.params.followText "set-order"
  · exact .inr rfl
  · exact .inl rfl
/-- what sorted() makes of a set of ints, of texts -/
theorem kset_sortedI {ns : List Int} {Q : Value → Shared → Prop} (R : KSet w s.heap a (ns.map Sum.inl)) (hh : A.handled = none)
    (hQ : ∀ s2 q (out : Array Value) (c : Nat) (ms : List Int), (∀ b o, s.heap.get? b = some o → s2.heap.get? b = some o) → s2.gens = s.gens → s2.os = s.os → s.heap.objs.size ≤ q →
      s2.heap.get? q = some (seqObj "list" out c) → IntsAre out.toList ms → ms.Pairwise (· ≤ ·) → ms.Perm ns → Q (.ref q) s2) :
    wpAny (model P w) A (call (.builtin "sorted") [.ref a]) Q E s := by
  obtain ⟨ob, es, ep, tb, ⟨e1, e2, e3⟩, ⟨g, p, nd⟩, bz, f, r, l⟩ := R
  refine Calls.call_function_entry kind_sorted plain_sorted entry_sorted (args_sorted1 _) ?_
  unfold Builtin.«sorted»
  refine wpAny_bind (m := checkCount "sorted" 1 1 _) (wpAny_pure (wpAny_bind (collect_set (A := A.in1) hh ⟨ob, e1, e2.1, e3⟩ f bz r l fun s1 vs k1 z1 g1 o1 pm => ?_)))
  have kv : (vs.map kyOf).Perm (ns.map Sum.inl) := by
    have q := pm.map kyOf
    rw [List.map_map] at q
    exact q.trans p
  have lv : vs.length ≤ sizeLine := by
    rw [pm.length_eq, List.length_map, Array.length_toList]
    exact fits_of_scanBound bz
  have hI : IntsAre vs (vs.map Builtin.Re.reRawOf) := ints_of vs fun v hv => by
    obtain ⟨x, hx, rfl⟩ := List.mem_map.mp (pm.mem_iff.mp hv)
    have m1 := kv.mem_iff.mp (List.mem_map_of_mem hv)
    obtain ⟨i, _, ei⟩ := List.mem_map.mp m1
    have q := (g x hx).1
    rw [← ei] at q
    exact Value.isInt_shape (k := i) q |>.elim fun t et => ⟨i, t, et⟩
  have pr : (vs.map Builtin.Re.reRawOf).Perm ns := by
    have inj : ∀ (xs ys : List Int), (xs.map (Sum.inl : Int → Key)).Perm (ys.map Sum.inl) → xs.Perm ys := fun xs ys q => by
      have q2 := q.map (fun k : Key => match k with | .inl i => i | .inr _ => (0 : Int))
      rw [List.map_map, List.map_map] at q2
      have e : ((fun k : Key => match k with | .inl i => i | .inr _ => (0 : Int)) ∘ Sum.inl) = (id : Int → Int) := rfl
      rwa [e, List.map_id, List.map_id] at q2
    refine inj _ _ ?_
    have e : (vs.map Builtin.Re.reRawOf).map (Sum.inl : Int → Key) = vs.map kyOf := by
      clear pm kv lv
      generalize hms : vs.map Builtin.Re.reRawOf = ms at hI
      clear hms
      induction hI with
      | nil => rfl
      | cons i t _ ih => rw [List.map_cons, List.map_cons, ih]; rfl
    rw [e]
    exact kv
  refine wpAny_bind (wpAny_newList ?_ lv)
  have hoL : (s1.heap.push (seqObj "list" vs.toArray 0)).get? s1.heap.objs.size = some (seqObj "list" vs.toArray 0) := Heap.get?_push_size _ rfl
  refine wpAny_bind (wpAny_holding (wpAny_call_entry slot_list_sort ⟨_, hoL, rfl⟩ entry_list_sort (list_sort_treeAny hoL hI lv fun out ms a1 a2 a3 => ⟨_, rfl, ?_⟩) (args_list_sort _)))
  obtain ⟨c, hc⟩ := sortedHeap_at (vs := vs) (out := out) hoL
  refine wpAny_pure ⟨_, rfl, hQ _ s1.heap.objs.size out c ms (fun b u q => ?_) g1 o1 z1 hc a1 a3 (a2.trans pr)⟩
  have q2 := k1 b u q
  have lt := Heap.lt_size q2
  show (sortedHeap (s1.heap.push (seqObj "list" vs.toArray 0)) s1.heap.objs.size vs out).get? b = some u
  rw [sortedHeap_old (Nat.ne_of_lt lt) (by rw [size_push']; exact Nat.lt_succ_of_lt lt)]
  exact Heap.get?_push_of_some _ q2
end
end Iv

/-! Iv: what the text means, as plain functions over data and a store of lists; and that the machine does just this. -/
namespace Iv
open PySem L2

inductive D where
  | non | bl (b : Bool) | int (i : Int) | str (x : Str) | tup (xs : List D) | loc (n : Nat)
  deriving Inhabited
/-- what stands at a place of the store: a list that may change, one that is only read -/
inductive OB where
  | lst (xs : List D) | frz (xs : List D) | set (xs : List D) | dic (kvs : List (D × D))
/-- may it change? -/
def mutO : OB → Bool
  | .frz _ => false
  | _ => true
abbrev Sto := List OB
abbrev Sl := List (Option D)
inductive R where
  | nx (s : Sl) | brk (s : Sl) | cnt (s : Sl) | ret (d : D)
abbrev SE := Sl → Sto → Option (D × Sto)
abbrev ST := Sl → Sto → Option (Bool × Sto)
abbrev SA := Sl → Sto → Option (List D × Sto)
abbrev SS := Sl → Sto → Option (R × Sto)
abbrev LIM : Nat := 1000000
theorem lim_ok {n : Nat} (h : n ≤ LIM) : n ≤ sizeLine := Nat.le_trans h (by rw [sizeLine_eq]; decide)
theorem lim_lt {n : Nat} (h : n < LIM) : n < sizeLine := Nat.lt_of_lt_of_le h (by rw [sizeLine_eq]; decide)

def bnd {α β : Type} (x : Option (α × Sto)) (k : α → Sto → Option β) : Option β := match x with
  | some (a, st) => k a st
  | none => none
@[simp] theorem bnd_some {α β : Type} (a : α) (st : Sto) (k : α → Sto → Option β) : bnd (some (a, st)) k = k a st := rfl
@[simp] theorem bnd_none {α β : Type} (k : α → Sto → Option β) : bnd none k = none := rfl
theorem bnd_eq {α β : Type} {x : Option (α × Sto)} {k : α → Sto → Option β} {b : β} (h : bnd x k = some b) : ∃ a st, x = some (a, st) ∧ k a st = some b := by
  cases x with
  | none => cases h
  | some p => exact ⟨p.1, p.2, rfl, h⟩

def getL (st : Sto) (n : Nat) : Option (List D) := match st[n]? with
  | some (.lst xs) => some xs
  | some (.frz xs) => some xs
  | _ => none
def getM (st : Sto) (n : Nat) : Option (List D) := match st[n]? with
  | some (.lst xs) => some xs
  | _ => none

/-! ### how data stand in the machine's heap -/
def strD : D → Bool
  | .str _ => true
  | _ => false
/-- texts alone, one or more -/
def nst (ds : List D) : Bool := !ds.isEmpty && ds.all strD
/-- a tuple on which no dict hangs -/
def NoD (K : PySem.W.Frag) (H : Hp) (p : Addr) : Prop := (∃ o u, H p = some (.frz o u) ∧ o.cls = .type "tuple" ∧ o.dict = none) ∨ ∃ o, K.lookup p = some o ∧ o.cls = .type "tuple" ∧ o.dict = none
def SqN (K : PySem.W.Frag) (H : Hp) (p : Addr) (ds : List D) (vs : List V) : Prop := SqT K H p vs ∧ (nst ds = true → NoD K H p)
mutual
def Rep (K : PySem.W.Frag) (H : Hp) (μ : List Addr) : D → V → Prop
  | .non, v => v = .non
  | .bl b, v => v = .bl b
  | .int i, v => v = .int i
  | .str x, v => v = .str x
  | .loc n, v => ∃ p, v = .ref p ∧ μ[n]? = some p
  | .tup ds, v => ∃ p vs, v = .ref p ∧ SqN K H p ds vs ∧ Reps K H μ ds vs
def Reps (K : PySem.W.Frag) (H : Hp) (μ : List Addr) : List D → List V → Prop
  | [], vs => vs = []
  | d :: ds, vs => ∃ v ws, vs = v :: ws ∧ Rep K H μ d v ∧ Reps K H μ ds ws
end
def Keeps (H H' : Hp) : Prop := (∀ b xs, H b = some (.tup xs) → H' b = some (.tup xs)) ∧ ∀ b o u, H b = some (.frz o u) → H' b = some (.frz o u)
theorem Keeps.refl (H : Hp) : Keeps H H := ⟨fun _ _ h => h, fun _ _ _ h => h⟩
theorem Keeps.trans {H H1 H2 : Hp} (a : Keeps H H1) (b : Keeps H1 H2) : Keeps H H2 := ⟨fun x y h => b.1 x y (a.1 x y h), fun x y z h => b.2 x y z (a.2 x y z h)⟩
theorem Keeps.same {H H' : Hp} (e : Same H H') : Keeps H H' := ⟨fun _ _ h => e _ _ h, fun _ _ _ h => e _ _ h⟩
theorem Keeps.sqT {K : PySem.W.Frag} {H H' : Hp} {p : Addr} {vs : List V} (e : Keeps H H') (h : SqT K H p vs) : SqT K H' p vs := by
  rcases h with (h | ⟨o, h⟩) | h
  · exact .inl (.inl (e.1 _ _ h))
  · exact .inl (.inr ⟨o, e.2 _ _ _ h⟩)
  · exact .inr h
theorem Keeps.sqN {K : PySem.W.Frag} {H H' : Hp} {p : Addr} {ds : List D} {vs : List V} (e : Keeps H H') (h : SqN K H p ds vs) : SqN K H' p ds vs := ⟨e.sqT h.1, fun z => by
  rcases h.2 z with ⟨o, u, h1, h2⟩ | h1
  · exact .inl ⟨o, u, e.2 _ _ _ h1, h2⟩
  · exact .inr h1⟩
def Gr (H : Hp) (μ : List Addr) (H' : Hp) (μ' : List Addr) : Prop := Keeps H H' ∧ ∃ l, μ' = μ ++ l
theorem Gr.refl (H : Hp) (μ : List Addr) : Gr H μ H μ := ⟨Keeps.refl H, [], by simp⟩
theorem Gr.trans {H H1 H2 : Hp} {μ μ1 μ2 : List Addr} (a : Gr H μ H1 μ1) (b : Gr H1 μ1 H2 μ2) : Gr H μ H2 μ2 := by
  obtain ⟨k, l, e⟩ := a
  obtain ⟨k2, l2, e2⟩ := b
  exact ⟨k.trans k2, l ++ l2, by rw [e2, e, List.append_assoc]⟩
theorem Gr.get {H H' : Hp} {μ μ' : List Addr} (g : Gr H μ H' μ') {n : Nat} {p : Addr} (h : μ[n]? = some p) : μ'[n]? = some p := by
  obtain ⟨_, l, e⟩ := g
  rw [e, List.getElem?_append_left (List.getElem?_eq_some_iff.mp h).1]
  exact h
mutual
theorem Rep.mono {K : PySem.W.Frag} {H H' : Hp} {μ μ' : List Addr} (g : Gr H μ H' μ') : ∀ (d : D) (v : V), Rep K H μ d v → Rep K H' μ' d v
  | .non, _, h => h
  | .bl _, _, h => h
  | .int _, _, h => h
  | .str _, _, h => h
  | .loc n, v, h => by
    simp only [Rep] at h ⊢
    obtain ⟨p, e, m⟩ := h
    exact ⟨p, e, g.get m⟩
  | .tup ds, v, h => by
    simp only [Rep] at h ⊢
    obtain ⟨p, vs, e, s, r⟩ := h
    exact ⟨p, vs, e, g.1.sqN s, Reps.mono g ds vs r⟩
theorem Reps.mono {K : PySem.W.Frag} {H H' : Hp} {μ μ' : List Addr} (g : Gr H μ H' μ') : ∀ (ds : List D) (vs : List V), Reps K H μ ds vs → Reps K H' μ' ds vs
  | [], _, h => h
  | d :: ds, vs, h => by
    simp only [Reps] at h ⊢
    obtain ⟨v, ws, e, r, s⟩ := h
    exact ⟨v, ws, e, Rep.mono g d v r, Reps.mono g ds ws s⟩
end
section
variable {K : PySem.W.Frag} {ww : World} {H H' : Hp} {μ μ' : List Addr}
theorem Rep.m {d : D} {v : V} (h : Rep K H μ d v) (g : Gr H μ H' μ') : Rep K H' μ' d v := Rep.mono g d v h
theorem Reps.m {d : List D} {v : List V} (h : Reps K H μ d v) (g : Gr H μ H' μ') : Reps K H' μ' d v := Reps.mono g d v h
theorem reps_nil : Reps K H μ [] [] := by simp only [Reps]
theorem reps_cons {d : D} {v : V} {ds : List D} {vs : List V} (h : Rep K H μ d v) (r : Reps K H μ ds vs) : Reps K H μ (d :: ds) (v :: vs) := by
  simp only [Reps]
  exact ⟨v, vs, rfl, h, r⟩
theorem Reps.len : ∀ {ds : List D} {vs : List V}, Reps K H μ ds vs → ds.length = vs.length
  | [], vs, h => by simp only [Reps] at h; rw [h]; rfl
  | d :: ds, vs, h => by
    simp only [Reps] at h
    obtain ⟨v, ws, rfl, _, r⟩ := h
    rw [List.length_cons, List.length_cons, Reps.len r]
theorem Reps.get : ∀ {ds : List D} {vs : List V} {i : Nat} {d : D}, Reps K H μ ds vs → ds[i]? = some d → ∃ v, vs[i]? = some v ∧ Rep K H μ d v
  | [], _, i, _, _, e => by simp at e
  | x :: ds, vs, 0, d, h, e => by
    simp only [Reps] at h
    obtain ⟨v, ws, rfl, r, _⟩ := h
    simp at e; subst e
    exact ⟨v, rfl, r⟩
  | x :: ds, vs, i + 1, d, h, e => by
    simp only [Reps] at h
    obtain ⟨v, ws, rfl, _, r⟩ := h
    obtain ⟨u, h1, h2⟩ := Reps.get r (by simpa using e)
    exact ⟨u, by simpa using h1, h2⟩
theorem Reps.get' : ∀ {ds : List D} {vs : List V} {i : Nat} {v : V}, Reps K H μ ds vs → vs[i]? = some v → ∃ d, ds[i]? = some d ∧ Rep K H μ d v := by
  intro ds vs i v h e
  have hl := h.len
  have hi := (List.getElem?_eq_some_iff.mp e).1
  have e2 : ds[i]? = some ds[i] := List.getElem?_eq_getElem (by omega)
  obtain ⟨u, h1, h2⟩ := h.get e2
  rw [e] at h1; cases h1
  exact ⟨_, e2, h2⟩
theorem Reps.app : ∀ {ds : List D} {vs : List V} {es : List D} {ws : List V}, Reps K H μ ds vs → Reps K H μ es ws → Reps K H μ (ds ++ es) (vs ++ ws)
  | [], vs, es, ws, h, r => by simp only [Reps] at h; subst h; exact r
  | x :: ds, vs, es, ws, h, r => by
    simp only [Reps] at h
    obtain ⟨v, us, rfl, r1, r2⟩ := h
    exact reps_cons r1 (Reps.app r2 r)
theorem Reps.set : ∀ {ds : List D} {vs : List V} {i : Nat} {d : D} {v : V}, Reps K H μ ds vs → Rep K H μ d v → Reps K H μ (ds.set i d) (vs.set i v)
  | [], vs, i, d, v, h, r => by simp only [Reps] at h; subst h; exact reps_nil
  | x :: ds, vs, 0, d, v, h, r => by
    simp only [Reps] at h
    obtain ⟨u, us, rfl, r1, r2⟩ := h
    exact reps_cons r r2
  | x :: ds, vs, i + 1, d, v, h, r => by
    simp only [Reps] at h
    obtain ⟨u, us, rfl, r1, r2⟩ := h
    exact reps_cons r1 (Reps.set r2 r)
theorem Reps.take : ∀ {ds : List D} {vs : List V} (n : Nat), Reps K H μ ds vs → Reps K H μ (ds.take n) (vs.take n)
  | _, _, 0, _ => reps_nil
  | [], vs, _ + 1, h => by simp only [Reps] at h; subst h; exact reps_nil
  | x :: ds, vs, n + 1, h => by
    simp only [Reps] at h
    obtain ⟨u, us, rfl, r1, r2⟩ := h
    exact reps_cons r1 (Reps.take n r2)
theorem Reps.drop : ∀ {ds : List D} {vs : List V} (n : Nat), Reps K H μ ds vs → Reps K H μ (ds.drop n) (vs.drop n)
  | _, _, 0, r => r
  | [], vs, _ + 1, h => by simp only [Reps] at h; subst h; exact reps_nil
  | x :: ds, vs, n + 1, h => by
    simp only [Reps] at h
    obtain ⟨u, us, rfl, r1, r2⟩ := h
    exact Reps.drop n r2
end
/-- a datum as a member of a set, a key of a dict -/
def keyD : D → Option Key
  | .int i => some (.inl i)
  | .str x => some (.inr x)
  | _ => none
def keysD : List D → Option (List Key)
  | [] => some []
  | d :: ds => (keyD d).bind fun k => (keysD ds).map fun ks => k :: ks
def KSetO (w : World) (p : Addr) (ks : List Key) : HO := .ext fun h => KSet w h p ks
def RepO (K : PySem.W.Frag) (ww : World) (H : Hp) (μ : List Addr) (p : Addr) : OB → Prop
  | .set xs => ∃ ks, keysD xs = some ks ∧ H p = some (KSetO ww p ks)
  | .dic kvs => ∃ ws : List (Key × V), H p = some (.dK ws) ∧ keysD (kvs.map Prod.fst) = some (ws.map Prod.fst) ∧ Reps K H μ (kvs.map Prod.snd) (ws.map Prod.snd)
  | .lst xs => ∃ vs, H p = some (.lst vs) ∧ Reps K H μ xs vs
  | .frz xs => ∃ vs, (∀ H', Keeps H H' → SqL K H' p vs) ∧ Reps K H μ xs vs
structure Gd (K : PySem.W.Frag) (ww : World) (H : Hp) (μ : List Addr) (st : Sto) : Prop where
  len : μ.length = st.length
  nd : ∀ (n m : Nat) (p : Addr) (o o2 : OB), μ[n]? = some p → μ[m]? = some p → st[n]? = some o → st[m]? = some o2 → mutO o = true → mutO o2 = true → n = m
  ob : ∀ (n : Nat) (p : Addr) (o : OB), μ[n]? = some p → st[n]? = some o → RepO K ww H μ p o
def EnvR (K : PySem.W.Frag) (H : Hp) (μ : List Addr) (σ : Sl) (τ : L2.St) : Prop := σ.length = τ.length ∧ ∀ (i : Nat) (d : D), σ[i]? = some (some d) → ∃ v, τ[i]? = some (some v) ∧ Rep K H μ d v
section
variable {K : PySem.W.Frag} {ww : World} {H H' : Hp} {μ μ' : List Addr} {st st' : Sto} {σ : Sl} {τ : L2.St}
theorem RepO.m {p : Addr} {o : OB} (h : RepO K ww H μ p o) (hm : mutO o = true → H p ≠ none → H' p = H p) (g : Gr H μ H' μ') : RepO K ww H' μ' p o := by
  cases o with
  | lst xs =>
    obtain ⟨vs, h1, h2⟩ := h
    exact ⟨vs, (hm rfl (by rw [h1]; simp)).trans h1, h2.m g⟩
  | frz xs =>
    obtain ⟨vs, h1, h2⟩ := h
    exact ⟨vs, fun H2 k => h1 H2 (g.1.trans k), h2.m g⟩
  | set xs =>
    obtain ⟨ks, h1, h2⟩ := h
    exact ⟨ks, h1, (hm rfl (by rw [h2]; simp)).trans h2⟩
  | dic kvs =>
    obtain ⟨vs, h1, h2, h3⟩ := h
    exact ⟨vs, (hm rfl (by rw [h1]; simp)).trans h1, h2, h3.m g⟩
/-- what may change is not a thing that is only read -/
theorem RepO.at {p : Addr} {o : OB} (h : RepO K ww H μ p o) (hm : mutO o = true) : ∃ u, H p = some u ∧ (∀ b i, u ≠ .frz b i) ∧ ∀ xs, u ≠ .tup xs := by
  cases o with
  | lst xs =>
    obtain ⟨vs, h1, h2⟩ := h
    exact ⟨_, h1, (fun _ _ e => nomatch e), (fun _ e => nomatch e)⟩
  | frz xs => cases hm
  | set xs =>
    obtain ⟨ks, h1, h2⟩ := h
    exact ⟨_, h2, (fun _ _ e => nomatch e), (fun _ e => nomatch e)⟩
  | dic kvs =>
    obtain ⟨vs, h1, h2, h3⟩ := h
    exact ⟨_, h1, (fun _ _ e => nomatch e), (fun _ e => nomatch e)⟩
theorem EnvR.m (e : EnvR K H μ σ τ) (g : Gr H μ H' μ') : EnvR K H' μ' σ τ := ⟨e.1, fun i d h => by
  obtain ⟨v, h1, h2⟩ := e.2 i d h
  exact ⟨v, h1, h2.m g⟩⟩
theorem EnvR.set {d : D} {v : V} (e : EnvR K H μ σ τ) (i : Nat) (r : Rep K H μ d v) : EnvR K H μ (σ.set i (some d)) (τ.set i (some v)) := by
  refine ⟨by rw [List.length_set, List.length_set]; exact e.1, fun j x h => ?_⟩
  by_cases hj : i = j
  · subst hj
    by_cases hl : i < σ.length
    · rw [List.getElem?_set_self hl] at h
      have h' := Option.some.inj (Option.some.inj h)
      subst h'
      exact ⟨v, List.getElem?_set_self (by rw [← e.1]; exact hl), r⟩
    · rw [List.getElem?_eq_none (by rw [List.length_set]; omega)] at h
      cases h
  · rw [List.getElem?_set_ne hj] at h
    obtain ⟨u, h1, h2⟩ := e.2 j x h
    exact ⟨u, by rw [List.getElem?_set_ne hj]; exact h1, h2⟩
theorem Gd.getL (g : Gd K ww H μ st) {n : Nat} {p : Addr} {xs : List D} (hp : μ[n]? = some p) (h : getL st n = some xs) : ∃ vs, SqL K H p vs ∧ Reps K H μ xs vs := by
  unfold Iv.getL at h
  cases e : st[n]? with
  | none => rw [e] at h; cases h
  | some o =>
    rw [e] at h
    have q := g.ob n p o hp e
    cases o with
    | lst ys =>
      cases h
      obtain ⟨vs, h1, h2⟩ := q
      exact ⟨vs, .inl (.inl h1), h2⟩
    | frz ys =>
      cases h
      obtain ⟨vs, h1, h2⟩ := q
      exact ⟨vs, h1 H (Keeps.refl H), h2⟩
    | set _ => cases h
    | dic _ => cases h
theorem Gd.getM (g : Gd K ww H μ st) {n : Nat} {p : Addr} {xs : List D} (hp : μ[n]? = some p) (h : getM st n = some xs) : ∃ vs, H p = some (.lst vs) ∧ Reps K H μ xs vs := by
  unfold Iv.getM at h
  cases e : st[n]? with
  | none => rw [e] at h; cases h
  | some o =>
    rw [e] at h
    have q := g.ob n p o hp e
    cases o with
    | lst ys => cases h; exact q
    | _ => cases h
theorem getM_get {n : Nat} {xs : List D} (h : getM st n = some xs) : st[n]? = some (.lst xs) := by
  unfold Iv.getM at h
  cases e : st[n]? with
  | none => rw [e] at h; cases h
  | some o =>
    rw [e] at h
    cases o with
    | lst ys => cases h; rfl
    | _ => cases h
theorem Gd.lt (g : Gd K ww H μ st) {n : Nat} {p : Addr} (hp : μ[n]? = some p) : n < st.length := by
  rw [← g.len]
  exact (List.getElem?_eq_some_iff.mp hp).1
theorem Gd.adr (g : Gd K ww H μ st) {n : Nat} {o : OB} (h : st[n]? = some o) : ∃ p, μ[n]? = some p := by
  have hn := (List.getElem?_eq_some_iff.mp h).1
  exact ⟨μ[n]'(by rw [g.len]; exact hn), List.getElem?_eq_getElem _⟩
/-- the heap grows, nothing that was tracked changes -/
theorem Gd.same (g : Gd K ww H μ st) (s : Same H H') : Gd K ww H' μ st :=
  ⟨g.len, g.nd, fun n p o h1 h2 => (g.ob n p o h1 h2).m (fun _ z => by cases e : H p with | none => exact absurd e z | some u => exact s _ _ e) ⟨Keeps.same s, [], by simp⟩⟩
theorem same_upd {p : Addr} {o : HO} (h : H p = none) : Same H (upd H p o) := fun b u q => by rw [upd_ne (ne_of_none q h)]; exact q
theorem gr_tup {p : Addr} {vs : List V} (h : H p = none) : Gr H μ (upd H p (.tup vs)) μ := ⟨Keeps.same (same_upd h), [], by simp⟩
theorem gr_any {p : Addr} {o : HO} (h : H p = none) : Gr H μ (upd H p o) μ := ⟨Keeps.same (same_upd h), [], by simp⟩
theorem gr_new {p : Addr} {o : HO} (h : H p = none) : Gr H μ (upd H p o) (μ ++ [p]) := ⟨Keeps.same (same_upd h), [p], rfl⟩
/-- a new thing -/
theorem Gd.newO (g : Gd K ww H μ st) {p : Addr} {u : HO} {o : OB} (h : H p = none) (r : RepO K ww (upd H p u) (μ ++ [p]) p o) : Gd K ww (upd H p u) (μ ++ [p]) (st ++ [o]) := by
  have gr : Gr H μ (upd H p u) (μ ++ [p]) := gr_new h
  have old : ∀ (n : Nat) (q : Addr) (o2 : OB), (μ ++ [p])[n]? = some q → (st ++ [o])[n]? = some o2 → n < μ.length → μ[n]? = some q ∧ st[n]? = some o2 ∧ (mutO o2 = true → q ≠ p) := by
    intro n q o2 h1 h2 hn
    rw [List.getElem?_append_left hn] at h1
    rw [List.getElem?_append_left (by rw [← g.len]; exact hn)] at h2
    refine ⟨h1, h2, fun hm => ?_⟩
    obtain ⟨v, h3, _⟩ := (g.ob n q _ h1 h2).at hm
    exact ne_of_none h3 h
  have hlast : ∀ (n : Nat) (q : Addr), (μ ++ [p])[n]? = some q → ¬ n < μ.length → n = μ.length ∧ q = p := by
    intro n q h1 hn
    have h2 := (List.getElem?_eq_some_iff.mp h1).1
    rw [List.length_append, List.length_singleton] at h2
    have e : n = μ.length := by omega
    subst e
    rw [List.getElem?_append_right (Nat.le_refl _), Nat.sub_self] at h1
    exact ⟨rfl, (Option.some.inj h1).symm⟩
  refine ⟨by rw [List.length_append, List.length_append, g.len]; rfl, fun n m q o1 o2 h1 h2 h3 h4 m1 m2 => ?_, fun n q o1 h1 h2 => ?_⟩
  · by_cases hn : n < μ.length
    · obtain ⟨a1, a2, a3⟩ := old n q o1 h1 h3 hn
      by_cases hm : m < μ.length
      · obtain ⟨b1, b2, _⟩ := old m q o2 h2 h4 hm
        exact g.nd n m q o1 o2 a1 b1 a2 b2 m1 m2
      · exact absurd (hlast m q h2 hm).2 (a3 m1)
    · obtain ⟨rfl, rfl⟩ := hlast n q h1 hn
      by_cases hm : m < μ.length
      · exact absurd rfl ((old m q o2 h2 h4 hm).2.2 m2)
      · exact (hlast m q h2 hm).1.symm
  · by_cases hn : n < μ.length
    · rw [List.getElem?_append_left hn] at h1
      rw [List.getElem?_append_left (by rw [← g.len]; exact hn)] at h2
      refine (g.ob n q o1 h1 h2).m (fun _ z => ?_) gr
      exact upd_ne (fun e => z (by rw [e]; exact h))
    · obtain ⟨rfl, rfl⟩ := hlast n q h1 hn
      rw [g.len, List.getElem?_append_right (Nat.le_refl _), Nat.sub_self] at h2
      cases h2
      exact r
/-- a new list -/
theorem Gd.new (g : Gd K ww H μ st) {p : Addr} {xs : List D} {vs : List V} (h : H p = none) (r : Reps K H μ xs vs) : Gd K ww (upd H p (.lst vs)) (μ ++ [p]) (st ++ [.lst xs]) :=
  g.newO (o := .lst xs) (u := .lst vs) h ⟨vs, upd_same, r.m (gr_new h)⟩
/-- a list is written -/
theorem gr_write {p : Addr} {vs ws : List V} (h : H p = some (.lst vs)) : Gr H μ (upd H p (.lst ws)) μ := ⟨⟨fun b xs e => by rw [upd_ne (by rintro rfl; rw [h] at e; cases e)]; exact e, fun b o u e => by rw [upd_ne (by rintro rfl; rw [h] at e; cases e)]; exact e⟩, [], by simp⟩
theorem gr_over {p : Addr} {v u : HO} (h : H p = some v) (h1 : ∀ b i, v ≠ .frz b i) (h2 : ∀ xs, v ≠ .tup xs) : Gr H μ (upd H p u) μ :=
  ⟨⟨fun b xs e => by rw [upd_ne (by rintro rfl; rw [h] at e; exact h2 xs (Option.some.inj e))]; exact e, fun b o i e => by rw [upd_ne (by rintro rfl; rw [h] at e; exact h1 o i (Option.some.inj e))]; exact e⟩, [], by simp⟩
/-- a thing is changed -/
theorem Gd.writeO (g : Gd K ww H μ st) {n : Nat} {p : Addr} {o o2 : OB} {u : HO} (hp : μ[n]? = some p) (hs : st[n]? = some o) (m1 : mutO o = true) (m2 : mutO o2 = true) (r : Gr H μ (upd H p u) μ → RepO K ww (upd H p u) μ p o2) : Gr H μ (upd H p u) μ ∧ Gd K ww (upd H p u) μ (st.set n o2) := by
  obtain ⟨v, hv, n1, n2⟩ := (g.ob n p o hp hs).at m1
  have gr : Gr H μ (upd H p u) μ := gr_over hv n1 n2
  have hn := (List.getElem?_eq_some_iff.mp hs).1
  have isl : ∀ (m : Nat) (z : OB), (st.set n o2)[m]? = some z → mutO z = true → ∃ z2, st[m]? = some z2 ∧ mutO z2 = true := by
    intro m z e em
    by_cases hm : n = m
    · subst hm; exact ⟨o, hs, m1⟩
    · rw [List.getElem?_set_ne hm] at e; exact ⟨z, e, em⟩
  refine ⟨gr, by rw [List.length_set]; exact g.len, fun a b q y z h1 h2 h3 h4 k1 k2 => ?_, fun m q z h1 h2 => ?_⟩
  · obtain ⟨y', h3, k3⟩ := isl a y h3 k1
    obtain ⟨z', h4, k4⟩ := isl b z h4 k2
    exact g.nd a b q y' z' h1 h2 h3 h4 k3 k4
  · by_cases hm : n = m
    · subst hm
      rw [List.getElem?_set_self hn] at h2
      cases h2
      rw [hp] at h1; cases h1
      exact r gr
    · rw [List.getElem?_set_ne hm] at h2
      refine (g.ob m q z h1 h2).m (fun em _ => upd_ne ?_) gr
      rintro rfl
      exact hm (g.nd n m q o z hp h1 hs h2 m1 em)
theorem Gd.write (g : Gd K ww H μ st) {n : Nat} {p : Addr} {xs ys : List D} {vs ws : List V} (hp : μ[n]? = some p) (hs : st[n]? = some (.lst xs)) (h : H p = some (.lst vs)) (r : Reps K H μ ys ws) : Gd K ww (upd H p (.lst ws)) μ (st.set n (.lst ys)) :=
  (g.writeO (o2 := .lst ys) (u := .lst ws) hp hs rfl rfl fun gr => ⟨ws, upd_same, r.m gr⟩).2
end
end Iv

namespace Iv
open PySem L2
/-! ### readings -/
def rdE (K : PySem.W.Frag) (ww : World) (f : SE) : TE := fun τ H Q => ∃ μ st σ d st', Gd K ww H μ st ∧ EnvR K H μ σ τ ∧ f σ st = some (d, st') ∧ ∀ μ' H' v, Gr H μ H' μ' → Gd K ww H' μ' st' → Rep K H' μ' d v → Q v H'
def rdT (K : PySem.W.Frag) (ww : World) (f : ST) : TT := fun τ H Q => ∃ μ st σ b st', Gd K ww H μ st ∧ EnvR K H μ σ τ ∧ f σ st = some (b, st') ∧ ∀ μ' H', Gr H μ H' μ' → Gd K ww H' μ' st' → Q b H'
def rdA (K : PySem.W.Frag) (ww : World) (f : SA) : TA := fun τ H Q => ∃ μ st σ ds st', Gd K ww H μ st ∧ EnvR K H μ σ τ ∧ f σ st = some (ds, st') ∧ ∀ μ' H' vs, Gr H μ H' μ' → Gd K ww H' μ' st' → Reps K H' μ' ds vs → Q vs H'
def Fin (K : PySem.W.Frag) (ww : World) (H : Hp) (μ : List Addr) (st' : Sto) (Dn : Ends) (r : R) : Prop :=
  ∀ μ' H', Gr H μ H' μ' → Gd K ww H' μ' st' → match r with
    | .nx σ' => ∀ τ', EnvR K H' μ' σ' τ' → Dn.nx τ' H'
    | .brk σ' => ∀ τ', EnvR K H' μ' σ' τ' → Dn.bk τ' H'
    | .cnt σ' => ∀ τ', EnvR K H' μ' σ' τ' → Dn.ct τ' H'
    | .ret d => ∀ v, Rep K H' μ' d v → Dn.rt v H'
def rdS (K : PySem.W.Frag) (ww : World) (f : SS) : TS := fun Dn τ H => ∃ μ st σ r st', Gd K ww H μ st ∧ EnvR K H μ σ τ ∧ f σ st = some (r, st') ∧ Fin K ww H μ st' Dn r
theorem Fin.m {K : PySem.W.Frag} {ww : World} {H H' : Hp} {μ μ' : List Addr} {st' : Sto} {Dn : Ends} {r : R} (h : Fin K ww H μ st' Dn r) (g : Gr H μ H' μ') : Fin K ww H' μ' st' Dn r := fun μ2 H2 g2 gd => h μ2 H2 (g.trans g2) gd

/-! ### weakening -/
theorem _root_.L2.PE.weak {X : Cx} {e : Expr} {t u : TE} (h : PE X e t) (w : ∀ τ H Q, u τ H Q → t τ H Q) : PE X e u := ⟨fun pins s σ H Q I q => h.run pins s σ H Q I (w σ H Q q)⟩
theorem _root_.L2.PT.weak {X : Cx} {e : Expr} {t u : TT} (h : PT X e t) (w : ∀ τ H Q, u τ H Q → t τ H Q) : PT X e u := ⟨fun pins s σ H Q I q => h.run pins s σ H Q I (w σ H Q q)⟩
theorem _root_.L2.PW.weak {X : Cx} {e : Expr} {t u : TT} (h : PW X e t) (w : ∀ τ H Q, u τ H Q → t τ H Q) : PW X e u := ⟨fun wh pins s σ H Q I q => h.run wh pins s σ H Q I (w σ H Q q)⟩
theorem _root_.L2.PA.weak {X : Cx} {e : List Expr} {t u : TA} (h : PA X e t) (w : ∀ τ H Q, u τ H Q → t τ H Q) : PA X e u := ⟨fun p pins s σ H Q I q => h.run p pins s σ H Q I (w σ H Q q)⟩
theorem _root_.L2.PS.weak {X : Cx} {e : Stmt} {t u : TS} (h : PS X e t) (w : ∀ Dn τ H, u Dn τ H → t Dn τ H) : PS X e u := ⟨fun pins s σ H Dn I q => h.run pins s σ H Dn I (w Dn σ H q)⟩
theorem _root_.L2.PSs.weak {X : Cx} {e : List Stmt} {t u : TS} (h : PSs X e t) (w : ∀ Dn τ H, u Dn τ H → t Dn τ H) : PSs X e u := ⟨fun pins s σ H Dn I q => h.run pins s σ H Dn I (w Dn σ H q)⟩
theorem _root_.L2.PTs.weak {X : Cx} {e : List Expr} {t u : TT} (h : PTs X e t) (w : ∀ τ H Q, u τ H Q → t τ H Q) : PTs X e u := ⟨fun pins s σ H Q I q => h.run pins s σ H Q I (w σ H Q q)⟩

section
variable {X : Cx} {K : PySem.W.Frag} {ww : World}
/-! ### names, constants -/
def varF (i : Nat) : SE := fun σ st => match σ[i]? with
  | some (some d) => some (d, st)
  | _ => none
def cstF (d : D) : SE := fun _ st => some (d, st)
theorem se_var {i : Nat} {e : Expr} (h : PE X e (tVar i)) : PE X e (rdE K ww (varF i)) := h.weak fun τ H Q ⟨μ, st, σ, d, st', g, er, hv, k⟩ => by
  unfold varF at hv
  split at hv
  · rename_i d' e'
    cases hv
    obtain ⟨v, h1, h2⟩ := er.2 i _ e'
    exact ⟨v, h1, k μ H v (Gr.refl H μ) g h2⟩
  · cases hv
/-- a constant of the text: whatever stands in the heap it is d -/
theorem se_cst {d : D} {e : Expr} {v : V} (h : PE X e (tC v)) (r : ∀ H μ, Rep K H μ d v) : PE X e (rdE K ww (cstF d)) := h.weak fun τ H Q ⟨μ, st, σ, d', st', g, er, hv, k⟩ => by
  cases hv
  exact k μ H v (Gr.refl H μ) g (r H μ)
theorem se_int {i : Int} {j pos} : PE X (.Constant (.int i) j pos) (rdE K ww (cstF (.int i))) := se_cst pe_int fun _ _ => by simp only [Rep]
theorem se_bl {i : Bool} {j pos} : PE X (.Constant (.bool i) j pos) (rdE K ww (cstF (.bl i))) := se_cst pe_bl fun _ _ => by simp only [Rep]
theorem se_non {j pos} : PE X (.Constant .none j pos) (rdE K ww (cstF .non)) := se_cst pe_non fun _ _ => by simp only [Rep]
theorem se_str {x j pos} : PE X (.Constant (.str x) j pos) (rdE K ww (cstF (.str x))) := se_cst pe_str fun _ _ => by simp only [Rep]

/-! ### two-place operations by values -/
abbrev Op2 := D → D → Sto → Option (D × Sto)
abbrev Op1 := D → Sto → Option (D × Sto)
abbrev OpN := List D → Sto → Option (D × Sto)
def binF (o : Op2) (f g : SE) : SE := fun σ st => bnd (f σ st) fun x st1 => bnd (g σ st1) fun y st2 => o x y st2
def unF (o : Op1) (f : SE) : SE := fun σ st => bnd (f σ st) fun x st1 => o x st1
def Ok2 (K : PySem.W.Frag) (ww : World) (r : R2) (o : Op2) : Prop := ∀ H μ st x y vx vy d st' (Q : VK), Gd K ww H μ st → Rep K H μ x vx → Rep K H μ y vy → o x y st = some (d, st') →
  (∀ μ' H' v, Gr H μ H' μ' → Gd K ww H' μ' st' → Rep K H' μ' d v → Q v H') → r vx vy H Q
def Ok1 (K : PySem.W.Frag) (ww : World) (r : V → Hp → VK → Prop) (o : Op1) : Prop := ∀ H μ st x vx d st' (Q : VK), Gd K ww H μ st → Rep K H μ x vx → o x st = some (d, st') →
  (∀ μ' H' v, Gr H μ H' μ' → Gd K ww H' μ' st' → Rep K H' μ' d v → Q v H') → r vx H Q
def OkN (K : PySem.W.Frag) (ww : World) (r : List V → Hp → VK → Prop) (o : OpN) : Prop := ∀ H μ st xs vs d st' (Q : VK), Gd K ww H μ st → Reps K H μ xs vs → o xs st = some (d, st') →
  (∀ μ' H' v, Gr H μ H' μ' → Gd K ww H' μ' st' → Rep K H' μ' d v → Q v H') → r vs H Q
theorem rd_op {r : R2} {o : Op2} {f g : SE} (h : Ok2 K ww r o) : ∀ τ H Q, rdE K ww (binF o f g) τ H Q → tOp r (rdE K ww f) (rdE K ww g) τ H Q := fun τ H Q ⟨μ, st, σ, d, st', gd, er, hv, k⟩ => by
  obtain ⟨x, s1, h1, hv⟩ := bnd_eq hv
  obtain ⟨y, s2, h2, hv⟩ := bnd_eq hv
  refine ⟨μ, st, σ, x, s1, gd, er, h1, fun μ1 H1 vx g1 d1 r1 => ?_⟩
  refine ⟨μ1, s1, σ, y, s2, d1, er.m g1, h2, fun μ2 H2 vy g2 d2 r2 => ?_⟩
  exact h H2 μ2 s2 x y vx vy d st' Q d2 (r1.m g2) r2 hv fun μ3 H3 v g3 d3 r3 => k μ3 H3 v ((g1.trans g2).trans g3) d3 r3
theorem se_bin {op : Operator} {r : R2} {o : Op2} {a b : Expr} {f g : SE} {pos : Pos} (ho : OpR X (binaryOp op) r) (h : Ok2 K ww r o) (ha : PE X a (rdE K ww f)) (hb : PE X b (rdE K ww g)) : PE X (.BinOp a op b pos) (rdE K ww (binF o f g)) := (pe_op ho ha hb).weak (rd_op h)
theorem se_cmp {op : CmpOp} {r : R2} {o : Op2} {a b : Expr} {f g : SE} {pos : Pos} (ho : OpR X (compareOp op) r) (h : Ok2 K ww r o) (ha : PE X a (rdE K ww f)) (hb : PE X b (rdE K ww g)) (hm : behindInMarks op b = false) : PE X (.Compare a [op] [b] pos) (rdE K ww (binF o f g)) := (pe_cmpR ho ha hb hm).weak (rd_op h)
theorem se_ix {r : R2} {o : Op2} {a b : Expr} {f g : SE} {pos : Pos} (ho : IxR X r) (h : Ok2 K ww r o) (ha : PE X a (rdE K ww f)) (hb : PE X b (rdE K ww g)) (hs : PlainIx b) : PE X (.Subscript a b pos) (rdE K ww (binF o f g)) := (pe_ix ho ha hb hs).weak (rd_op h)
theorem se_un {op : UnaryOp} {r : V → Hp → VK → Prop} {o : Op1} {a : Expr} {f : SE} {pos : Pos} (ho : UnR X (unaryOp op) r) (h : Ok1 K ww r o) (ha : PE X a (rdE K ww f)) : PE X (.UnaryOp op a pos) (rdE K ww (unF o f)) := (pe_un ho ha).weak fun τ H Q ⟨μ, st, σ, d, st', gd, er, hv, k⟩ => by
  obtain ⟨x, s1, h1, hv⟩ := bnd_eq hv
  refine ⟨μ, st, σ, x, s1, gd, er, h1, fun μ1 H1 vx g1 d1 r1 => ?_⟩
  exact h H1 μ1 s1 x vx d st' Q d1 r1 hv fun μ3 H3 v g3 d3 r3 => k μ3 H3 v (g1.trans g3) d3 r3

/-! ### arguments -/
def nilF : SA := fun _ st => some ([], st)
def consF (f : SE) (g : SA) : SA := fun σ st => bnd (f σ st) fun x st1 => bnd (g σ st1) fun xs st2 => some (x :: xs, st2)
theorem sa_nil : PA X [] (rdA K ww nilF) := pa_nil.weak fun τ H Q ⟨μ, st, σ, d, st', gd, er, hv, k⟩ => by
  cases hv
  exact k μ H [] (Gr.refl H μ) gd reps_nil
theorem sa_cons {e : Expr} {es : List Expr} {f : SE} {g : SA} (ha : PE X e (rdE K ww f)) (hr : PA X es (rdA K ww g)) (hs : starEach (e :: es) X.env = (false, eval e X.env) :: starEach es X.env := by rfl) : PA X (e :: es) (rdA K ww (consF f g)) := (pa_cons ha hr hs).weak fun τ H Q ⟨μ, st, σ, d, st', gd, er, hv, k⟩ => by
  obtain ⟨x, s1, h1, hv⟩ := bnd_eq hv
  obtain ⟨xs, s2, h2, hv⟩ := bnd_eq hv
  cases hv
  refine ⟨μ, st, σ, x, s1, gd, er, h1, fun μ1 H1 vx g1 d1 r1 => ?_⟩
  refine ⟨μ1, s1, σ, xs, _, d1, er.m g1, h2, fun μ2 H2 vs g2 d2 r2 => ?_⟩
  exact k μ2 H2 _ (g1.trans g2) d2 (reps_cons (r1.m g2) r2)
def appF (o : OpN) (f : SA) : SE := fun σ st => bnd (f σ st) fun xs st1 => o xs st1
def mapp (o : Op2) (f : SE) (g : SE) : SE := binF o f g
theorem rd_app {r : List V → Hp → VK → Prop} {o : OpN} {f : SA} (h : OkN K ww r o) : ∀ τ H Q, rdE K ww (appF o f) τ H Q → tCB r (rdA K ww f) τ H Q := fun τ H Q ⟨μ, st, σ, d, st', gd, er, hv, k⟩ => by
  obtain ⟨x, s1, h1, hv⟩ := bnd_eq hv
  refine ⟨μ, st, σ, x, s1, gd, er, h1, fun μ1 H1 vx g1 d1 r1 => ?_⟩
  exact h H1 μ1 s1 x vx d st' Q d1 r1 hv fun μ3 H3 v g3 d3 r3 => k μ3 H3 v (g1.trans g3) d3 r3
theorem se_callB {x : Str} {p pos : Pos} {e : Expr} {es : List Expr} {id : String} {r : List V → Hp → VK → Prop} {o : OpN} {f : SA} (hc : CallR X (.builtin id) r) (h : OkN K ww r o) (hg : Gl X x) (hm : X.mg x = none) (hv : bootBuiltins x = some (.builtin id)) (ha : PA X (e :: es) (rdA K ww f)) (hn : x ≠ "__name__" := by decide) (hdb : (x == ("__debug__" : Str)) = false := by decide)
    (he : starEach (e :: es) X.env = (false, eval e X.env) :: starEach es X.env := by rfl) (hpl : (backTo pos (starEach es X.env)).any (·.1) = false := by rfl) :
    PE X (.Call (.Name x p) (e :: es) [] pos) (rdE K ww (appF o f)) := (pe_callB hc hg hm hv ha hn hdb he hpl).weak (rd_app h)
theorem se_callTy {x : Str} {p pos : Pos} {e : Expr} {es : List Expr} {T : String} {r : List V → Hp → VK → Prop} {o : OpN} {f : SA} (hc : CallR X (.type T) r) (h : OkN K ww r o) (hg : Gl X x) (hm : X.mg x = none) (hv : bootBuiltins x = some (.type T)) (ha : PA X (e :: es) (rdA K ww f)) (hn : x ≠ "__name__" := by decide) (hdb : (x == ("__debug__" : Str)) = false := by decide)
    (he : starEach (e :: es) X.env = (false, eval e X.env) :: starEach es X.env := by rfl) (hpl : (backTo pos (starEach es X.env)).any (·.1) = false := by rfl) :
    PE X (.Call (.Name x p) (e :: es) [] pos) (rdE K ww (appF o f)) := (pe_callTy hc hg hm hv ha hn hdb he hpl).weak (rd_app h)
/-- a method of a built-in type -/
abbrev OpM := D → List D → Sto → Option (D × Sto)
def OkM (K : PySem.W.Frag) (ww : World) (r : V → List V → Hp → VK → Prop) (o : OpM) : Prop := ∀ H μ st x xs vx vs d st' (Q : VK), Gd K ww H μ st → Rep K H μ x vx → Reps K H μ xs vs → o x xs st = some (d, st') →
  (∀ μ' H' v, Gr H μ H' μ' → Gd K ww H' μ' st' → Rep K H' μ' d v → Q v H') → r vx vs H Q
def isTy (T : String) (d : D) (st : Sto) : Bool := match T, d with
  | "list", .loc n => (getL st n).isSome
  | "str", .str _ => true
  | _, _ => false
def bmF (T : String) (o : OpM) (f : SE) (g : SA) : SE := fun σ st => bnd (f σ st) fun x st1 => if isTy T x st1 = true then bnd (g σ st1) fun xs st2 => o x xs st2 else none
def bm0F (T : String) (o : OpM) (f : SE) : SE := fun σ st => bnd (f σ st) fun x st1 => if isTy T x st1 = true then o x [] st1 else none

/-! ### tuples, lists -/
def tupF (f : SA) : SE := fun σ st => bnd (f σ st) fun xs st1 => if xs.length ≤ LIM then some (.tup xs, st1) else none
def lstF (f : SA) : SE := fun σ st => bnd (f σ st) fun xs st1 => if xs.length ≤ LIM then some (.loc st1.length, st1 ++ [.lst xs]) else none
theorem rep_tup {H : Hp} {μ : List Addr} {p : Addr} {ds : List D} {vs : List V} (h : SqT K H p vs) (nd : nst ds = true → NoD K H p) (r : Reps K H μ ds vs) : Rep K H μ (.tup ds) (.ref p) := by
  simp only [Rep]
  exact ⟨p, vs, rfl, ⟨h, nd⟩, r⟩
theorem rep_loc {H : Hp} {μ : List Addr} {p : Addr} {n : Nat} (h : μ[n]? = some p) : Rep K H μ (.loc n) (.ref p) := by
  simp only [Rep]
  exact ⟨p, rfl, h⟩
theorem new_tup {H : Hp} {μ : List Addr} {st : Sto} {ds : List D} {vs : List V} {Q : VK} (gd : Gd K ww H μ st) (r : Reps K H μ ds vs) (k : ∀ μ' H' v, Gr H μ H' μ' → Gd K ww H' μ' st → Rep K H' μ' (.tup ds) v → Q v H') :
    ∀ (p : Addr) (o : Obj), H p = none → o.cls = .type "tuple" → o.dict = none → Q (.ref p) (upd H p (.frz o (.tup vs))) := fun p o hp hc hd => by
  have g : Gr H μ (upd H p (.frz o (.tup vs))) μ := gr_any hp
  exact k μ _ _ g (gd.same (same_upd hp)) (rep_tup (.inl (.inr ⟨o, upd_same⟩)) (fun _ => .inl ⟨o, _, upd_same, hc, hd⟩) (r.m g))
/-- one that is not of texts alone -/
theorem new_tupP {H : Hp} {μ : List Addr} {st : Sto} {ds : List D} {vs : List V} {Q : VK} (gd : Gd K ww H μ st) (hn : nst ds = false) (r : Reps K H μ ds vs) (k : ∀ μ' H' v, Gr H μ H' μ' → Gd K ww H' μ' st → Rep K H' μ' (.tup ds) v → Q v H') :
    ∀ p, H p = none → Q (.ref p) (upd H p (.tup vs)) := fun p hp => by
  have g : Gr H μ (upd H p (.tup vs)) μ := gr_tup hp
  exact k μ _ _ g (gd.same (same_upd hp)) (rep_tup (.inl (.inl upd_same)) (fun z => by rw [hn] at z; cases z) (r.m g))
/-- a tuple display, the object told -/
def tTupN (t : TA) : TE := fun τ H Q => t τ H fun xs H1 => xs.length ≤ sizeLine ∧ ∀ (p : Addr) (o : Obj), H1 p = none → o.cls = .type "tuple" → o.dict = none → Q (.ref p) (upd H1 p (.frz o (.tup xs)))
theorem pe_tupN {es : List Expr} {x1} {pos : Pos} {t : TA} (h : PA X es t) : PE X (.Tuple es x1 pos) (tTupN t) :=
  ⟨fun pins s σ H Q I hq => wpAny_Tuple_spliced (thn (h.run pos pins s σ H _ I hq) fun us s1 ⟨xs, H1, I1, r, z, q⟩ => ⟨by rw [← r.length]; exact z,
    .ref s1.heap.objs.size, upd H1 s1.heap.objs.size (.frz _ (.tup xs)), I1.laid (t' := s1.toks) (fun b u e => Heap.get?_push_of_some _ e) (Nat.le_refl _) ⟨Heap.get?_push_size _ rfl, z, us, r, ⟨_, Heap.get?_push_size _ rfl, rfl, _, rfl⟩⟩, rfl, q _ _ (I1.hok.fresh (Nat.le_refl _)) rfl rfl⟩)⟩
theorem new_lst {H : Hp} {μ : List Addr} {st : Sto} {ds : List D} {vs : List V} {Q : VK} (gd : Gd K ww H μ st) (r : Reps K H μ ds vs) (k : ∀ μ' H' v, Gr H μ H' μ' → Gd K ww H' μ' (st ++ [.lst ds]) → Rep K H' μ' (.loc st.length) v → Q v H') :
    ∀ p, H p = none → Q (.ref p) (upd H p (.lst vs)) := fun p hp => by
  have g : Gr H μ (upd H p (.lst vs)) (μ ++ [p]) := gr_new hp
  refine k _ _ _ g (gd.new hp r) (rep_loc ?_)
  rw [← gd.len, List.getElem?_append_right (Nat.le_refl _), Nat.sub_self]
  rfl
theorem se_tup {es : List Expr} {x1} {pos : Pos} {f : SA} (h : PA X es (rdA K ww f)) : PE X (.Tuple es x1 pos) (rdE K ww (tupF f)) := (pe_tupN h).weak fun τ H Q ⟨μ, st, σ, d, st', gd, er, hv, k⟩ => by
  obtain ⟨x, s1, h1, hv⟩ := bnd_eq hv
  split at hv
  · rename_i hl
    cases hv
    refine ⟨μ, st, σ, x, _, gd, er, h1, fun μ1 H1 vs g1 d1 r1 => ⟨lim_ok (by rw [← r1.len]; exact hl), ?_⟩⟩
    exact new_tup d1 r1 fun μ3 H3 v g3 d3 r3 => k μ3 H3 v (g1.trans g3) d3 r3
  · cases hv
theorem se_lst {es : List Expr} {pos : Pos} {f : SA} (h : PA X es (rdA K ww f)) : PE X (.List es pos) (rdE K ww (lstF f)) := (pe_lst h).weak fun τ H Q ⟨μ, st, σ, d, st', gd, er, hv, k⟩ => by
  obtain ⟨x, s1, h1, hv⟩ := bnd_eq hv
  split at hv
  · rename_i hl
    cases hv
    refine ⟨μ, st, σ, x, _, gd, er, h1, fun μ1 H1 vs g1 d1 r1 => ⟨lim_ok (by rw [← r1.len]; exact hl), ?_⟩⟩
    exact new_lst d1 r1 fun μ3 H3 v g3 d3 r3 => k μ3 H3 v (g1.trans g3) d3 r3
  · cases hv

/-! ### truth, tests -/
def truth (d : D) (st : Sto) : Option Bool := match d with
  | .non => some false
  | .bl b => some b
  | .int i => some (i != 0)
  | .str x => if x.length ≤ LIM then some ((x.length : Int) != 0) else none
  | .tup xs => some (!xs.isEmpty)
  | .loc n => (getL st n).map fun xs => !xs.isEmpty
theorem empty_of {H : Hp} {μ : List Addr} : ∀ {ds : List D} {vs : List V}, Reps K H μ ds vs → (!ds.isEmpty) = !vs.isEmpty
  | [], vs, h => by simp only [Reps] at h; rw [h]; rfl
  | d :: ds, vs, h => by simp only [Reps] at h; obtain ⟨v, ws, rfl, _, _⟩ := h; rfl
theorem tru_of {H : Hp} {μ : List Addr} {st : Sto} {d : D} {v : V} {b : Bool} (g : Gd K ww H μ st) (r : Rep K H μ d v) (h : truth d st = some b) : TruV K v H b := by
  cases d with
  | non => simp only [Rep] at r; subst r; exact (Option.some.inj h).symm
  | bl c => simp only [Rep] at r; subst r; exact (Option.some.inj h).symm
  | int i => simp only [Rep] at r; subst r; exact (Option.some.inj h).symm
  | str x =>
    simp only [Rep] at r; subst r
    unfold truth at h
    simp only at h
    split at h
    · rename_i hl
      exact ⟨lim_ok hl, (Option.some.inj h).symm⟩
    · cases h
  | tup xs =>
    simp only [Rep] at r
    obtain ⟨p, vs, rfl, ⟨s, _⟩, rs⟩ := r
    exact .inr (.inl ⟨vs, s, by rw [← empty_of rs]; exact (Option.some.inj h).symm⟩)
  | loc n =>
    simp only [Rep] at r
    obtain ⟨p, rfl, hp⟩ := r
    unfold truth at h
    simp only at h
    cases e : getL st n with
    | none => rw [e] at h; cases h
    | some xs =>
      rw [e] at h
      obtain ⟨vs, s, rs⟩ := g.getL hp e
      exact .inl ⟨vs, s, by rw [← empty_of rs]; exact (Option.some.inj h).symm⟩
def truF (f : SE) : ST := fun σ st => bnd (f σ st) fun x st1 => (truth x st1).map fun b => (b, st1)
def cmpT (o : Op2) (f g : SE) : ST := truF (binF o f g)
theorem rd_tru {f : SE} {τ : L2.St} {H : Hp} {Q : Bool → Hp → Prop} (h : rdT K ww (truF f) τ H Q) : rdE K ww f τ H fun x H' => ∃ k, TruV K x H' k ∧ Q k H' := by
  obtain ⟨μ, st, σ, b, st', gd, er, hv, k⟩ := h
  obtain ⟨x, s1, h1, hv⟩ := bnd_eq hv
  cases e : truth x s1 with
  | none => rw [e] at hv; cases hv
  | some c =>
    rw [e] at hv
    cases hv
    exact ⟨μ, st, σ, x, _, gd, er, h1, fun μ1 H1 v g1 d1 r1 => ⟨b, tru_of d1 r1 e, k μ1 H1 g1 d1⟩⟩
theorem st_tru {a : Expr} {f : SE} (ha : PE X a (rdE X.K X.w f)) (he : ∀ whole, isTrue a X.env whole = (do let v ← whole; standAt a.pos; holding [v] (truthy v)) := by intro _; rfl) : PT X a (rdT X.K X.w (truF f)) :=
  (pt_truth ha he).weak fun τ H Q h => rd_tru h
/-- a comparison as a test -/
theorem st_cmp {op : CmpOp} {r : R2} {o : Op2} {a b : Expr} {f g : SE} {pos : Pos} (ho : OpR X (compareOp op) r) (h : Ok2 K ww r o) (hb' : ∀ x y st d st', o x y st = some (d, st') → ∃ b, d = .bl b) (ha : PE X a (rdE K ww f)) (hb : PE X b (rdE K ww g)) (hm : behindInMarks op b = false) : PT X (.Compare a [op] [b] pos) (rdT K ww (cmpT o f g)) :=
  (pt_cmpR ho ha hb hm).weak fun τ H Q ⟨μ, st, σ, b, st', gd, er, hv, k⟩ => by
    obtain ⟨x, s1, h1, hv⟩ := bnd_eq hv
    cases e : truth x s1 with
    | none => rw [e] at hv; cases hv
    | some c =>
      rw [e] at hv
      cases hv
      refine rd_op h τ H _ ⟨μ, st, σ, x, _, gd, er, h1, fun μ1 H1 v g1 d1 r1 => ?_⟩
      unfold binF at h1
      obtain ⟨_, _, _, h1⟩ := bnd_eq h1
      obtain ⟨_, _, _, h1⟩ := bnd_eq h1
      obtain ⟨c, rfl⟩ := hb' _ _ _ _ _ h1
      simp only [Rep] at r1
      cases e
      exact ⟨_, r1, k μ1 H1 g1 d1⟩
def andT (f g : ST) : ST := fun σ st => bnd (f σ st) fun b st1 => if b = true then g σ st1 else some (false, st1)
def orT (f g : ST) : ST := fun σ st => bnd (f σ st) fun b st1 => if b = true then some (true, st1) else g σ st1
def notT (f : ST) : ST := fun σ st => bnd (f σ st) fun b st1 => some (!b, st1)
theorem rd_andT {f g : ST} : ∀ τ H Q, rdT K ww (andT f g) τ H Q → tAnd (rdT K ww f) (rdT K ww g) τ H Q := fun τ H Q ⟨μ, st, σ, b, st', gd, er, hv, k⟩ => by
  obtain ⟨c, s1, h1, hv⟩ := bnd_eq hv
  refine ⟨μ, st, σ, c, s1, gd, er, h1, fun μ1 H1 g1 d1 => ?_⟩
  cases c with
  | true => exact ⟨μ1, s1, σ, b, st', d1, er.m g1, hv, fun μ2 H2 g2 d2 => k μ2 H2 (g1.trans g2) d2⟩
  | false =>
    cases hv
    exact k μ1 H1 g1 d1
theorem rd_orT {f g : ST} : ∀ τ H Q, rdT K ww (orT f g) τ H Q → tOr (rdT K ww f) (rdT K ww g) τ H Q := fun τ H Q ⟨μ, st, σ, b, st', gd, er, hv, k⟩ => by
  obtain ⟨c, s1, h1, hv⟩ := bnd_eq hv
  refine ⟨μ, st, σ, c, s1, gd, er, h1, fun μ1 H1 g1 d1 => ?_⟩
  cases c with
  | false => exact ⟨μ1, s1, σ, b, st', d1, er.m g1, hv, fun μ2 H2 g2 d2 => k μ2 H2 (g1.trans g2) d2⟩
  | true =>
    cases hv
    exact k μ1 H1 g1 d1
section
variable {a b : Expr} {rest : List Expr} {f g : ST} {pos : Pos}
theorem sw_and1 (ha : PT X a (rdT K ww f)) : PW X (.BoolOp .And [a] pos) (rdT K ww f) := pw_and1 ha
theorem sw_or1 (ha : PT X a (rdT K ww f)) : PW X (.BoolOp .Or [a] pos) (rdT K ww f) := pw_or1 ha
theorem sw_and (ha : PT X a (rdT K ww f)) (hb : PW X (.BoolOp .And (b :: rest) pos) (rdT K ww g)) : PW X (.BoolOp .And (a :: b :: rest) pos) (rdT K ww (andT f g)) := (pw_and ha hb).weak rd_andT
theorem sw_or (ha : PT X a (rdT K ww f)) (hb : PW X (.BoolOp .Or (b :: rest) pos) (rdT K ww g)) : PW X (.BoolOp .Or (a :: b :: rest) pos) (rdT K ww (orT f g)) := (pw_or ha hb).weak rd_orT
theorem st_not (ha : PT X a (rdT K ww f)) : PT X (.UnaryOp .Not a pos) (rdT K ww (notT f)) := (pt_not ha).weak fun τ H Q ⟨μ, st, σ, b, st', gd, er, hv, k⟩ => by
  obtain ⟨c, s1, h1, hv⟩ := bnd_eq hv
  cases hv
  exact ⟨μ, st, σ, c, _, gd, er, h1, fun μ1 H1 g1 d1 => k μ1 H1 g1 d1⟩
end
/-! and, or, not as values -/
def andF (f g : SE) : SE := fun σ st => bnd (f σ st) fun x st1 => (truth x st1).bind fun b => if b = true then g σ st1 else some (x, st1)
def orF (f g : SE) : SE := fun σ st => bnd (f σ st) fun x st1 => (truth x st1).bind fun b => if b = true then some (x, st1) else g σ st1
def notF (f : SE) : SE := fun σ st => bnd (f σ st) fun x st1 => (truth x st1).map fun b => (.bl (!b), st1)
def ifF (c : ST) (f g : SE) : SE := fun σ st => bnd (c σ st) fun b st1 => if b = true then f σ st1 else g σ st1
section
variable {a b c : Expr} {rest : List Expr} {f g : SE} {t : ST} {pos : Pos}
theorem se_one {op} (ha : PE X a (rdE K ww f)) : PE X (.BoolOp op [a] pos) (rdE K ww f) := pe_one ha
theorem se_and (ha : PE X a (rdE X.K X.w f)) (hb : PE X (.BoolOp .And (b :: rest) pos) (rdE X.K X.w g)) : PE X (.BoolOp .And (a :: b :: rest) pos) (rdE X.K X.w (andF f g)) := (pe_andT ha hb).weak fun τ H Q ⟨μ, st, σ, d, st', gd, er, hv, k⟩ => by
  obtain ⟨x, s1, h1, hv⟩ := bnd_eq hv
  cases e : truth x s1 with
  | none => rw [e] at hv; cases hv
  | some y =>
    rw [e] at hv
    refine ⟨μ, st, σ, x, s1, gd, er, h1, fun μ1 H1 v g1 d1 r1 => ⟨y, tru_of d1 r1 e, ?_⟩⟩
    cases y with
    | true => exact ⟨μ1, s1, σ, d, st', d1, er.m g1, hv, fun μ2 H2 v2 g2 d2 r2 => k μ2 H2 v2 (g1.trans g2) d2 r2⟩
    | false =>
      cases hv
      exact k μ1 H1 v g1 d1 r1
theorem se_or (ha : PE X a (rdE X.K X.w f)) (hb : PE X (.BoolOp .Or (b :: rest) pos) (rdE X.K X.w g)) : PE X (.BoolOp .Or (a :: b :: rest) pos) (rdE X.K X.w (orF f g)) := (pe_orT ha hb).weak fun τ H Q ⟨μ, st, σ, d, st', gd, er, hv, k⟩ => by
  obtain ⟨x, s1, h1, hv⟩ := bnd_eq hv
  cases e : truth x s1 with
  | none => rw [e] at hv; cases hv
  | some y =>
    rw [e] at hv
    refine ⟨μ, st, σ, x, s1, gd, er, h1, fun μ1 H1 v g1 d1 r1 => ⟨y, tru_of d1 r1 e, ?_⟩⟩
    cases y with
    | false => exact ⟨μ1, s1, σ, d, st', d1, er.m g1, hv, fun μ2 H2 v2 g2 d2 r2 => k μ2 H2 v2 (g1.trans g2) d2 r2⟩
    | true =>
      cases hv
      exact k μ1 H1 v g1 d1 r1
theorem se_not (ha : PE X a (rdE X.K X.w f)) : PE X (.UnaryOp .Not a pos) (rdE X.K X.w (notF f)) := (pe_notT ha).weak fun τ H Q ⟨μ, st, σ, d, st', gd, er, hv, k⟩ => by
  obtain ⟨x, s1, h1, hv⟩ := bnd_eq hv
  cases e : truth x s1 with
  | none => rw [e] at hv; cases hv
  | some y =>
    rw [e] at hv
    cases hv
    refine ⟨μ, st, σ, x, _, gd, er, h1, fun μ1 H1 v g1 d1 r1 => ⟨y, tru_of d1 r1 e, k μ1 H1 _ g1 d1 (by simp only [Rep])⟩⟩
theorem se_if (hc : PT X c (rdT K ww t)) (ha : PE X a (rdE K ww f)) (hb : PE X b (rdE K ww g)) : PE X (.IfExp c a b pos) (rdE K ww (ifF t f g)) := (pe_ifExp hc ha hb).weak fun τ H Q ⟨μ, st, σ, d, st', gd, er, hv, k⟩ => by
  obtain ⟨y, s1, h1, hv⟩ := bnd_eq hv
  refine ⟨μ, st, σ, y, s1, gd, er, h1, fun μ1 H1 g1 d1 => ?_⟩
  cases y with
  | true => exact ⟨μ1, s1, σ, d, st', d1, er.m g1, hv, fun μ2 H2 v2 g2 d2 r2 => k μ2 H2 v2 (g1.trans g2) d2 r2⟩
  | false => exact ⟨μ1, s1, σ, d, st', d1, er.m g1, hv, fun μ2 H2 v2 g2 d2 r2 => k μ2 H2 v2 (g1.trans g2) d2 r2⟩
end
end
end Iv

namespace Iv
open PySem L2
section
variable {X : Cx} {K : PySem.W.Frag} {ww : World}
/-! ### methods of built-in types -/
theorem ty_of {H : Hp} {μ : List Addr} {st : Sto} {T : String} {d : D} {v : V} (gd : Gd K ww H μ st) (r : Rep K H μ d v) (h : isTy T d st = true) : tyV K T v H := by
  unfold isTy at h
  split at h
  · rename_i n
    cases e : getL st n with
    | none => rw [e] at h; cases h
    | some xs =>
      simp only [Rep] at r
      obtain ⟨p, rfl, hp⟩ := r
      obtain ⟨vs, h1, _⟩ := gd.getL hp e
      exact .inl ⟨rfl, vs, h1⟩
  · simp only [Rep] at r
    subst r
    rfl
  · cases h
theorem se_bm {o e : Expr} {es : List Expr} {name : Str} {apos cpos : Pos} {T id : String} {r : V → List V → Hp → VK → Prop} {op : OpM} {f : SE} {g : SA}
    (pa : PlainAttrs T) (slot : Slot T name id) (hty : typeOf (.builtin id) = pure (.type "method_descriptor")) (hm : MtR X id r) (h : OkM X.K X.w r op) (ho : PE X o (rdE X.K X.w f)) (ha : PA X (e :: es) (rdA X.K X.w g))
    (hbase : attributeBase o name X.env (eval o X.env) = eval o X.env := by rfl)
    (hfew : ((backTo cpos (starEach (e :: es) X.env)).all (fun x => !x.1) && (backToKw cpos (keywordEach [] X.env)).all (fun x => x.1.isSome)
      && decide ((e :: es).length + ([] : List Keyword).length + (if ([] : List Keyword).isEmpty then 0 else 1) < 30)) = true := by rfl)
    (hline : (apos.endLine == cpos.line) = true := by rfl) (hs : starEach (e :: es) X.env = (false, eval e X.env) :: starEach es X.env := by rfl) (hplain : (backTo cpos (starEach es X.env)).any (·.1) = false := by rfl) :
    PE X (.Call (.Attribute o name apos) (e :: es) [] cpos) (rdE X.K X.w (bmF T op f g)) :=
  (pe_bm pa slot hty hm ho ha hbase hfew hline hs hplain).weak fun τ H Q ⟨μ, st, σ, d, st', gd, er, hv, k⟩ => by
    obtain ⟨x, s1, h1, hv⟩ := bnd_eq hv
    split at hv
    · rename_i ht
      obtain ⟨xs, s2, h2, hv⟩ := bnd_eq hv
      refine ⟨μ, st, σ, x, s1, gd, er, h1, fun μ1 H1 v g1 d1 r1 => ⟨ty_of d1 r1 ht, ?_⟩⟩
      refine ⟨μ1, s1, σ, xs, s2, d1, er.m g1, h2, fun μ2 H2 vs g2 d2 r2 => ?_⟩
      exact h H2 μ2 s2 x xs v vs d st' Q d2 (r1.m g2) r2 hv fun μ3 H3 v3 g3 d3 r3 => k μ3 H3 v3 ((g1.trans g2).trans g3) d3 r3
    · cases hv
theorem se_bm0 {o : Expr} {name : Str} {apos cpos : Pos} {T id : String} {r : V → List V → Hp → VK → Prop} {op : OpM} {f : SE}
    (pa : PlainAttrs T) (slot : Slot T name id) (hty : typeOf (.builtin id) = pure (.type "method_descriptor")) (hm : MtR X id r) (h : OkM X.K X.w r op) (ho : PE X o (rdE X.K X.w f))
    (hbase : attributeBase o name X.env (eval o X.env) = eval o X.env := by rfl) (hline : (apos.endLine == cpos.line) = true := by rfl) :
    PE X (.Call (.Attribute o name apos) [] [] cpos) (rdE X.K X.w (bm0F T op f)) :=
  (pe_bm0 pa slot hty hm ho hbase hline).weak fun τ H Q ⟨μ, st, σ, d, st', gd, er, hv, k⟩ => by
    obtain ⟨x, s1, h1, hv⟩ := bnd_eq hv
    split at hv
    · rename_i ht
      refine ⟨μ, st, σ, x, s1, gd, er, h1, fun μ1 H1 v g1 d1 r1 => ⟨ty_of d1 r1 ht, ?_⟩⟩
      exact h H1 μ1 s1 x [] v [] d st' Q d1 r1 reps_nil hv fun μ3 H3 v3 g3 d3 r3 => k μ3 H3 v3 (g1.trans g3) d3 r3
    · cases hv
/-! ### slices -/
abbrev SO := Sl → Sto → Option (Option Int × Sto)
def noneO : SO := fun _ st => some (none, st)
def someO (f : SE) : SO := fun σ st => bnd (f σ st) fun x st1 => match x with
  | .int i => some (some i, st1)
  | _ => none
def rdO (K : PySem.W.Frag) (ww : World) (f : SO) : TO := fun τ H Q => ∃ μ st σ o st', Gd K ww H μ st ∧ EnvR K H μ σ τ ∧ f σ st = some (o, st') ∧ ∀ μ' H', Gr H μ H' μ' → Gd K ww H' μ' st' → Q o H'
theorem _root_.L2.PO.weak {X : Cx} {e : Option Expr} {t u : TO} (h : PO X e t) (w : ∀ τ H Q, u τ H Q → t τ H Q) : PO X e u := ⟨fun pins s σ H Q I q => h.run pins s σ H Q I (w σ H Q q)⟩
theorem so_none : PO X none (rdO K ww noneO) := po_none.weak fun τ H Q ⟨μ, st, σ, o, st', gd, er, hv, k⟩ => by
  cases hv
  exact k μ H (Gr.refl H μ) gd
theorem so_some {e : Expr} {f : SE} (h : PE X e (rdE K ww f)) : PO X (some e) (rdO K ww (someO f)) := (po_some h).weak fun τ H Q ⟨μ, st, σ, o, st', gd, er, hv, k⟩ => by
  obtain ⟨x, s1, h1, hv⟩ := bnd_eq hv
  split at hv
  · rename_i i
    cases hv
    refine ⟨μ, st, σ, _, _, gd, er, h1, fun μ1 H1 v g1 d1 r1 => ?_⟩
    simp only [Rep] at r1
    exact ⟨i, r1, k μ1 H1 g1 d1⟩
  · cases hv
abbrev OpS := D → Option Int → Option Int → Sto → Option (D × Sto)
def OkS (K : PySem.W.Frag) (ww : World) (r : V → Option Int → Option Int → Hp → VK → Prop) (o : OpS) : Prop := ∀ H μ st x vx lo hi d st' (Q : VK), Gd K ww H μ st → Rep K H μ x vx → o x lo hi st = some (d, st') →
  (∀ μ' H' v, Gr H μ H' μ' → Gd K ww H' μ' st' → Rep K H' μ' d v → Q v H') → r vx lo hi H Q
def slF (o : OpS) (f : SE) (lo hi : SO) : SE := fun σ st => bnd (f σ st) fun x s1 => bnd (lo σ s1) fun l s2 => bnd (hi σ s2) fun h s3 => o x l h s3
theorem se_slice {e : Expr} {lo hi : Option Expr} {p2 pos : Pos} {r : V → Option Int → Option Int → Hp → VK → Prop} {op : OpS} {f : SE} {l h : SO} (hr : SlR X r) (ok : OkS K ww r op) (he : PE X e (rdE K ww f)) (hl : PO X lo (rdO K ww l)) (hh : PO X hi (rdO K ww h)) :
    PE X (.Subscript e (.Slice lo hi none p2) pos) (rdE K ww (slF op f l h)) := (pe_slice hr he hl hh).weak fun τ H Q ⟨μ, st, σ, d, st', gd, er, hv, k⟩ => by
  obtain ⟨x, s1, h1, hv⟩ := bnd_eq hv
  obtain ⟨a, s2, h2, hv⟩ := bnd_eq hv
  obtain ⟨b, s3, h3, hv⟩ := bnd_eq hv
  refine ⟨μ, st, σ, x, s1, gd, er, h1, fun μ1 H1 v g1 d1 r1 => ?_⟩
  refine ⟨μ1, s1, σ, a, s2, d1, er.m g1, h2, fun μ2 H2 g2 d2 => ?_⟩
  refine ⟨μ2, s2, σ, b, s3, d2, er.m (g1.trans g2), h3, fun μ3 H3 g3 d3 => ?_⟩
  exact ok H3 μ3 s3 x v a b d st' Q d3 (r1.m (g2.trans g3)) hv fun μ4 H4 v4 g4 d4 r4 => k μ4 H4 v4 (((g1.trans g2).trans g3).trans g4) d4 r4

/-! ### statements -/
def nxS : SS := fun σ st => some (.nx σ, st)
def seqS (f g : SS) : SS := fun σ st => match f σ st with
  | some (.nx σ', st1) => g σ' st1
  | r => r
theorem ss_nil : PSs X [] (rdS K ww nxS) := pss_nil.weak fun Dn τ H ⟨μ, st, σ, r, st', gd, er, hv, k⟩ => by
  cases hv
  exact k μ H (Gr.refl H μ) gd τ er
theorem ss_one {s : Stmt} {f : SS} (h : PS X s (rdS K ww f)) : PSs X [s] (rdS K ww f) := pss_one h
theorem ss_cons {s : Stmt} {rest : List Stmt} {f g : SS} (h : PS X s (rdS K ww f)) (h2 : PSs X rest (rdS K ww g)) : PSs X (s :: rest) (rdS K ww (seqS f g)) := (pss_cons h h2).weak fun Dn τ H ⟨μ, st, σ, r, st', gd, er, hv, k⟩ => by
  unfold seqS at hv
  cases e : f σ st with
  | none => rw [e] at hv; cases hv
  | some p =>
    obtain ⟨r1, s1⟩ := p
    rw [e] at hv
    cases r1 with
    | nx σ1 =>
      refine ⟨μ, st, σ, _, s1, gd, er, e, fun μ1 H1 g1 d1 τ1 e1 => ?_⟩
      exact ⟨μ1, s1, σ1, r, st', d1, e1, hv, k.m g1⟩
    | brk σ1 =>
      cases hv
      exact ⟨μ, st, σ, _, _, gd, er, e, k⟩
    | cnt σ1 =>
      cases hv
      exact ⟨μ, st, σ, _, _, gd, er, e, k⟩
    | ret d =>
      cases hv
      exact ⟨μ, st, σ, _, _, gd, er, e, k⟩
theorem ss_pass {pos : Pos} : PS X (.Pass pos) (rdS K ww nxS) := ps_pass.weak fun Dn τ H ⟨μ, st, σ, r, st', gd, er, hv, k⟩ => by
  cases hv
  exact k μ H (Gr.refl H μ) gd τ er
def brkS : SS := fun σ st => some (.brk σ, st)
def cntS : SS := fun σ st => some (.cnt σ, st)
def retNS : SS := fun _ st => some (.ret .non, st)
def neverS : SS := fun _ _ => none
theorem ss_break {pos : Pos} : PS X (.Break pos) (rdS K ww brkS) := ps_break.weak fun Dn τ H ⟨μ, st, σ, r, st', gd, er, hv, k⟩ => by
  cases hv
  exact k μ H (Gr.refl H μ) gd τ er
theorem ss_continue {pos : Pos} : PS X (.Continue pos) (rdS K ww cntS) := ps_continue.weak fun Dn τ H ⟨μ, st, σ, r, st', gd, er, hv, k⟩ => by
  cases hv
  exact k μ H (Gr.refl H μ) gd τ er
theorem ss_retN {pos : Pos} : PS X (.Return none pos) (rdS K ww retNS) := ps_retN.weak fun Dn τ H ⟨μ, st, σ, r, st', gd, er, hv, k⟩ => by
  cases hv
  exact k μ H (Gr.refl H μ) gd .non (by simp only [Rep])
theorem ss_never {s : Stmt} : PS X s (rdS K ww neverS) := ps_never.weak fun Dn τ H ⟨μ, st, σ, r, st', gd, er, hv, k⟩ => by cases hv
def exS (f : SE) : SS := fun σ st => bnd (f σ st) fun _ st1 => some (.nx σ, st1)
theorem ss_expr {e : Expr} {f : SE} {pos : Pos} (he : PE X e (rdE K ww f)) (hs : swapsWith e none pos.line X.env = pure false := by rfl) : PS X (.Expr e pos) (rdS K ww (exS f)) := (ps_expr he hs).weak fun Dn τ H ⟨μ, st, σ, r, st', gd, er, hv, k⟩ => by
  obtain ⟨x, s1, h1, hv⟩ := bnd_eq hv
  cases hv
  exact ⟨μ, st, σ, x, _, gd, er, h1, fun μ1 H1 v g1 d1 r1 => k μ1 H1 g1 d1 τ (er.m g1)⟩
def retS (f : SE) : SS := fun σ st => bnd (f σ st) fun d st1 => some (.ret d, st1)
theorem ss_ret {e : Expr} {f : SE} {pos : Pos} (he : PE X e (rdE K ww f)) : PS X (.Return (some e) pos) (rdS K ww (retS f)) := (ps_ret he).weak fun Dn τ H ⟨μ, st, σ, r, st', gd, er, hv, k⟩ => by
  obtain ⟨x, s1, h1, hv⟩ := bnd_eq hv
  cases hv
  exact ⟨μ, st, σ, x, _, gd, er, h1, fun μ1 H1 v g1 d1 r1 => k μ1 H1 g1 d1 v r1⟩
def ifS (c : ST) (f g : SS) : SS := fun σ st => bnd (c σ st) fun b st1 => if b = true then f σ st1 else g σ st1
theorem ss_if {c : Expr} {a b : List Stmt} {t : ST} {f g : SS} {pos : Pos} (hc : PT X c (rdT K ww t)) (ha : PSs X a (rdS K ww f)) (hb : PSs X b (rdS K ww g)) : PS X (.If c a b pos) (rdS K ww (ifS t f g)) := (ps_if hc ha hb).weak fun Dn τ H ⟨μ, st, σ, r, st', gd, er, hv, k⟩ => by
  obtain ⟨y, s1, h1, hv⟩ := bnd_eq hv
  refine ⟨μ, st, σ, y, s1, gd, er, h1, fun μ1 H1 g1 d1 => ?_⟩
  cases y with
  | true => exact ⟨μ1, s1, σ, r, st', d1, er.m g1, hv, k.m g1⟩
  | false => exact ⟨μ1, s1, σ, r, st', d1, er.m g1, hv, k.m g1⟩

/-! ### targets -/
abbrev Tg := D → Sl → Option Sl
def nmG (i : Nat) : Tg := fun d σ => some (σ.set i (some d))
def nmsG : List Nat → List D → Sl → Option Sl
  | [], [], σ => some σ
  | i :: is, d :: ds, σ => nmsG is ds (σ.set i (some d))
  | _, _, _ => none
def tupG (is : List Nat) : Tg := fun d σ => match d with
  | .tup ds => nmsG is ds σ
  | _ => none
def OkG (K : PySem.W.Frag) (gg : TG) (g : Tg) : Prop := ∀ H μ σ τ d v σ1 (Q : L2.St → Hp → Prop), EnvR K H μ σ τ → Rep K H μ d v → g d σ = some σ1 → (∀ τ1, EnvR K H μ σ1 τ1 → Q τ1 H) → gg v τ H Q
def OkGs (K : PySem.W.Frag) (gg : TGs) (is : List Nat) : Prop := ∀ H μ σ τ ds vs σ1 (Q : L2.St → Hp → Prop), EnvR K H μ σ τ → Reps K H μ ds vs → nmsG is ds σ = some σ1 → (∀ τ1, EnvR K H μ σ1 τ1 → Q τ1 H) → gg vs τ H Q
theorem ok_name {i : Nat} : OkG K (gName i) (nmG i) := fun H μ σ τ d v σ1 Q er r e k => by
  cases e
  exact k _ (er.set i r)
theorem ok_gnil : OkGs K gNil [] := fun H μ σ τ ds vs σ1 Q er r e k => by
  cases ds with
  | nil =>
    cases e
    simp only [Reps] at r
    exact ⟨r, k τ er⟩
  | cons _ _ => cases e
theorem ok_gcons {i : Nat} {is : List Nat} {u : TGs} (h : OkGs K u is) : OkGs K (gCons (gName i) u) (i :: is) := fun H μ σ τ ds vs σ1 Q er r e k => by
  cases ds with
  | nil => cases e
  | cons d ds =>
    simp only [Reps] at r
    obtain ⟨v, ws, rfl, r1, r2⟩ := r
    exact ⟨v, ws, rfl, h H μ _ _ ds ws σ1 Q (er.set i r1) r2 e k⟩
theorem nms_len : ∀ {is : List Nat} {ds : List D} {σ σ1 : Sl}, nmsG is ds σ = some σ1 → ds.length = is.length
  | [], [], _, _, _ => rfl
  | i :: is, d :: ds, σ, σ1, h => by rw [List.length_cons, List.length_cons, nms_len (is := is) (ds := ds) h]
  | [], _ :: _, _, _, h => by cases h
  | _ :: _, [], _, _, h => by cases h
theorem ok_tup {is : List Nat} {n : Nat} {u : TGs} (h : OkGs K u is) (hn : is.length = n) : OkG K (gTup K n u) (tupG is) := fun H μ σ τ d v σ1 Q er r e k => by
  cases d with
  | tup ds =>
    simp only [Rep] at r
    obtain ⟨p, vs, rfl, ⟨s, _⟩, rs⟩ := r
    exact ⟨p, vs, rfl, s, by rw [← rs.len, nms_len e, hn], h H μ σ τ ds vs σ1 Q er rs e k⟩
  | non => cases e
  | bl _ => cases e
  | int _ => cases e
  | str _ => cases e
  | loc _ => cases e
def asgS (g : Tg) (f : SE) : SS := fun σ st => bnd (f σ st) fun d st1 => (g d σ).map fun σ1 => (.nx σ1, st1)
theorem rd_asg {g : Tg} {gg : TG} {f : SE} (hg : OkG K gg g) : ∀ Dn τ H, rdS K ww (asgS g f) Dn τ H → tAsg (rdE K ww f) gg Dn τ H := fun Dn τ H ⟨μ, st, σ, r, st', gd, er, hv, k⟩ => by
  obtain ⟨x, s1, h1, hv⟩ := bnd_eq hv
  cases e : g x σ with
  | none => rw [e] at hv; cases hv
  | some σ1 =>
    rw [e] at hv
    cases hv
    exact ⟨μ, st, σ, x, _, gd, er, h1, fun μ1 H1 v g1 d1 r1 => hg H1 μ1 σ τ x v σ1 _ (er.m g1) r1 e fun τ1 e1 => k μ1 H1 g1 d1 τ1 e1⟩
theorem ss_set {i : Nat} {x : Str} {e : Expr} {f : SE} {pos pos' : Pos} (hN : X.N.Nodup) (hi : X.N[i]? = some x) (hx : Loc X.env.scope x) (he : PE X e (rdE K ww f)) (hs : swapsWith e (some (.Name x pos')) pos.line X.env = pure false := by rfl) (hf : X.fn x = true ∨ X.env.scope.names.lookup x = some .local := by first | exact .inl rfl | exact .inr rfl | assumption) :
    PS X (.Assign [.Name x pos'] e pos) (rdS K ww (asgS (nmG i) f)) := (ps_set hN hi hx he hs hf).weak (rd_asg ok_name)
theorem ss_asg {tg e : Expr} {gg : TG} {g : Tg} {f : SE} {pos : Pos} (he : PE X e (rdE K ww f)) (hg : PG X tg gg) (ok : OkG K gg g) (hs : swapsWithSole [tg] e pos.line X.env = pure false := by rfl) (hw : swappedStores [tg] e X.env = pure none := by rfl)
    (ha : List.map (fun x => x.2) (assignEach [tg] X.env) = [assign tg X.env] := by rfl) : PS X (.Assign [tg] e pos) (rdS K ww (asgS g f)) := (ps_asg he hg hs hw ha).weak (rd_asg ok)
/-- o[i] = e, o a list -/
def setS (fo fi f : SE) : SS := fun σ st => bnd (f σ st) fun d s1 => bnd (fo σ s1) fun o s2 => bnd (fi σ s2) fun i s3 => match o, i with
  | .loc n, .int k => (getM s3 n).bind fun xs => (ixN xs.length k).map fun j => (.nx σ, s3.set n (.lst (xs.set j d)))
  | _, _ => none
theorem ss_setIx {o i e : Expr} {f fo fi : SE} {pos p1 : Pos} (he : PE X e (rdE K ww f)) (ho : PE X o (rdE K ww fo)) (hi : PE X i (rdE K ww fi)) (hs : swapsWithSole [.Subscript o i p1] e pos.line X.env = pure false := by rfl) (hw : swappedStores [.Subscript o i p1] e X.env = pure none := by rfl)
    (ha : List.map (fun x => x.2) (assignEach [.Subscript o i p1] X.env) = [assign (.Subscript o i p1) X.env] := by rfl) (hpg : PG X (.Subscript o i p1) (gSub (rdE K ww fo) (rdE K ww fi) rSetL)) : PS X (.Assign [.Subscript o i p1] e pos) (rdS K ww (setS fo fi f)) := (ps_asg he hpg hs hw ha).weak fun Dn τ H ⟨μ, st, σ, r, st', gd, er, hv, k⟩ => by
  obtain ⟨x, s1, h1, hv⟩ := bnd_eq hv
  obtain ⟨y, s2, h2, hv⟩ := bnd_eq hv
  obtain ⟨z, s3, h3, hv⟩ := bnd_eq hv
  refine ⟨μ, st, σ, x, s1, gd, er, h1, fun μ1 H1 v g1 d1 r1 => ?_⟩
  refine ⟨μ1, s1, σ, y, s2, d1, er.m g1, h2, fun μ2 H2 vo g2 d2 r2 => ?_⟩
  refine ⟨μ2, s2, σ, z, s3, d2, er.m (g1.trans g2), h3, fun μ3 H3 vi g3 d3 r3 => ?_⟩
  cases y with
  | loc n =>
    cases z with
    | int kk =>
      cases e1 : getM s3 n with
      | none => simp only [e1, Option.bind_none] at hv; cases hv
      | some xs =>
        simp only [e1, Option.bind_some] at hv
        cases e2 : ixN xs.length kk with
        | none => rw [e2] at hv; cases hv
        | some j =>
          rw [e2] at hv
          cases hv
          have r2' := r2.m g3
          simp only [Rep] at r2' r3
          obtain ⟨p, rfl, hp⟩ := r2'
          obtain ⟨vs, hH, rs⟩ := d3.getM hp e1
          have gw : Gr H3 μ3 (upd H3 p (.lst (vs.set j v))) μ3 := gr_write hH
          exact ⟨p, vs, kk, j, rfl, r3, hH, by rw [← rs.len]; exact e2, k μ3 _ (((g1.trans g2).trans g3).trans gw) (d3.write hp (getM_get e1) hH (rs.set (r1.m (g2.trans g3)))) τ (er.m (((g1.trans g2).trans g3).trans gw))⟩
    | _ => cases hv
  | _ => cases hv
def augS (i : Nat) (o : Op2) (f : SE) : SS := fun σ st => match σ[i]? with
  | some (some x) => bnd (f σ st) fun y s1 => bnd (o x y s1) fun z s2 => some (.nx (σ.set i (some z)), s2)
  | _ => none
theorem ss_aug {i : Nat} {x : Str} {e : Expr} {f : SE} {op : Operator} {ti : TIp} {o : Op2} {pos pos' : Pos} (hN : X.N.Nodup) (hi : X.N[i]? = some x) (hx : Loc X.env.scope x) (he : PE X e (rdE K ww f)) (ho : PIp X op ti) (ok : Ok2 K ww ti o) (hf : X.fn x = true ∨ X.env.scope.names.lookup x = some .local := by first | exact .inl rfl | exact .inr rfl | assumption) :
    PS X (.AugAssign (.Name x pos') op e pos) (rdS K ww (augS i o f)) := (ps_aug hN hi hx he ho hf).weak fun Dn τ H ⟨μ, st, σ, r, st', gd, er, hv, k⟩ => by
  unfold augS at hv
  split at hv
  · rename_i d e1
    obtain ⟨y, s1, h1, hv⟩ := bnd_eq hv
    obtain ⟨z, s2, h2, hv⟩ := bnd_eq hv
    cases hv
    obtain ⟨v, hv1, r1⟩ := er.2 i d e1
    refine ⟨v, hv1, μ, st, σ, y, s1, gd, er, h1, fun μ1 H1 w g1 d1 r2 => ?_⟩
    exact ok H1 μ1 s1 d y v w z _ _ d1 (r1.m g1) r2 h2 fun μ3 H3 v3 g3 d3 r3 => k μ3 H3 (g1.trans g3) d3 _ ((er.m (g1.trans g3)).set i r3)
  · cases hv
end
end Iv

namespace Iv
open PySem L2
section
variable {X : Cx} {K : PySem.W.Frag} {ww : World}
/-! ### while -/
def whlV (c : ST) (b : SS) : Nat → Sl → Sto → Option (R × Sto)
  | 0, _, _ => none
  | m + 1, σ, st => bnd (c σ st) fun t s1 => if t = true then (match b σ s1 with
      | some (.nx σ2, s2) => whlV c b m σ2 s2
      | some (.cnt σ2, s2) => whlV c b m σ2 s2
      | some (.brk σ2, s2) => some (.nx σ2, s2)
      | some (.ret d, s2) => some (.ret d, s2)
      | none => none) else some (.nx σ, s1)
def whlS (n : Nat) (c : ST) (b : SS) : SS := fun σ st => whlV c b n σ st
theorem ss_while {n : Nat} {c : Expr} {body : List Stmt} {t : ST} {b : SS} {pos : Pos} (hp : PassesOwn (model X.prog X.w) X.A X.env X.xe) (hc : PT X c (rdT K ww t)) (hb : PSs X body (rdS K ww b)) : PS X (.While c body [] pos) (rdS K ww (whlS n t b)) :=
  (ps_while hp hc hb).weak fun Dn τ H ⟨μ, st, σ, r, st', gd, er, hv, k⟩ => by
    refine ⟨fun m τ1 H1 => ∃ μ1 s1 σ1, Gd K ww H1 μ1 s1 ∧ EnvR K H1 μ1 σ1 τ1 ∧ whlV t b m σ1 s1 = some (r, st') ∧ Fin K ww H1 μ1 st' Dn r, ⟨n, μ, st, σ, gd, er, hv, k⟩, ?_⟩
    rintro m τ1 H1 ⟨μ1, s1, σ1, d1, e1, hv1, k1⟩
    cases m with
    | zero => cases hv1
    | succ m =>
      unfold whlV at hv1
      obtain ⟨y, s2, h2, hv1⟩ := bnd_eq hv1
      refine ⟨μ1, s1, σ1, y, s2, d1, e1, h2, fun μ2 H2 g2 d2 => ?_⟩
      cases y with
      | false =>
        cases hv1
        exact k1 μ2 H2 g2 d2 τ1 (e1.m g2)
      | true =>
        rw [if_pos rfl] at hv1 ⊢
        refine ⟨fun τ3 H3 => ∃ μ3 s3 σ3, Gd K ww H3 μ3 s3 ∧ EnvR K H3 μ3 σ3 τ3 ∧ whlV t b m σ3 s3 = some (r, st') ∧ Fin K ww H3 μ3 st' Dn r, fun τ3 H3 q => ⟨m, Nat.lt_succ_self m, q⟩, ?_⟩
        cases eb : b σ1 s2 with
        | none => rw [eb] at hv1; cases hv1
        | some p =>
          obtain ⟨r3, s3⟩ := p
          rw [eb] at hv1
          refine ⟨μ2, s2, σ1, r3, s3, d2, e1.m g2, eb, fun μ4 H4 g4 d4 => ?_⟩
          cases r3 with
          | nx σ3 => exact fun τ4 e4 => ⟨μ4, s3, σ3, d4, e4, hv1, k1.m (g2.trans g4)⟩
          | cnt σ3 => exact fun τ4 e4 => ⟨μ4, s3, σ3, d4, e4, hv1, k1.m (g2.trans g4)⟩
          | brk σ3 =>
            cases hv1
            exact fun τ4 e4 => k1 μ4 H4 (g2.trans g4) d4 τ4 e4
          | ret d =>
            cases hv1
            exact fun v rv => k1 μ4 H4 (g2.trans g4) d4 v rv

/-! ### what a loop walks -/
def enumD : Nat → List D → List D
  | _, [] => []
  | i, d :: ds => .tup [.int (i : Int), d] :: enumD (i + 1) ds
inductive It where
  | cns (xs : List D) | lst (n : Nat) | enm (n : Nat)
def items : It → Sto → Option (List D)
  | .cns xs, _ => some xs
  | .lst n, st => getL st n
  | .enm n, st => (getL st n).map (enumD 0)
abbrev SJ := Sl → Sto → Option (It × Sto)
def ItR (K : PySem.W.Frag) (ww : World) (H : Hp) (μ : List Addr) (J : It) (J' : L2.It) : Prop := ∀ μ2 H2 st2 xs, Gr H μ H2 μ2 → Gd K ww H2 μ2 st2 → items J st2 = some xs →
  (∀ i, xs.length ≤ i → J'.stop i H2) ∧ ∀ (i : Nat) (d : D), xs[i]? = some d → J'.go i H2 ∧ ∀ x H3, J'.yld i H2 x H3 → Same H2 H3 ∧ Rep K H3 μ2 d x
def rdI (K : PySem.W.Frag) (ww : World) (f : SJ) : TI := fun τ H R => ∃ μ st σ J st', Gd K ww H μ st ∧ EnvR K H μ σ τ ∧ f σ st = some (J, st') ∧ ∀ μ' H' J', Gr H μ H' μ' → Gd K ww H' μ' st' → ItR K ww H' μ' J J' → R J' H'
def charsD (x : Str) : List D := x.cps.toList.map fun c => .str ⟨#[c]⟩
def anyI (f : SE) : SJ := fun σ st => bnd (f σ st) fun d s1 => match d with
  | .loc n => (getL s1 n).map fun _ => (.lst n, s1)
  | .tup xs => some (.cns xs, s1)
  | .str x => some (.cns (charsD x), s1)
  | _ => none
theorem sql_inj {H : Hp} {p : Addr} {xs ys : List V} {h1 : Prop} (_ : h1) (a : SqL K H p xs) (b : SqL K H p ys) (inj : ∀ {a b}, SqL K H p a → SqL K H p b → a = b) : xs = ys := inj a b
theorem si_any {tg e : Expr} {f : SE} (h : PE X e (rdE X.K X.w f)) : PI X tg e (rdI X.K X.w (anyI f)) := ⟨fun pins s τ H R I hw => by
  obtain ⟨μ, st, σ, J, st', gd, er, hv, k⟩ := hw
  obtain ⟨d, s1, h1, hv⟩ := bnd_eq hv
  cases d with
  | loc n =>
    cases e1 : getL s1 n with
    | none => simp only [e1, Option.map_none] at hv; cases hv
    | some xs =>
      simp only [e1, Option.map_some] at hv
      cases hv
      refine (pi_list h).run pins s τ H R I ⟨μ, st, σ, _, _, gd, er, h1, fun μ1 H1 v g1 d1 r1 => ?_⟩
      simp only [Rep] at r1
      obtain ⟨p, rfl, hp⟩ := r1
      obtain ⟨vs, hs, rs⟩ := d1.getL hp e1
      refine ⟨p, rfl, ⟨vs, hs⟩, k μ1 H1 _ g1 d1 fun μ2 H2 st2 ys g2 d2 e2 => ?_⟩
      obtain ⟨ws, hs2, rs2⟩ := d2.getL (g2.get hp) e2
      refine ⟨fun i hi => ⟨ws, hs2, by rw [← rs2.len]; exact hi⟩, fun i d hd => ?_⟩
      obtain ⟨v, hv1, rv⟩ := rs2.get hd
      exact ⟨⟨ws, v, hs2, hv1⟩, fun x H3 ⟨e3, y⟩ => by
        subst e3
        have e4 := y ws hs2
        rw [hv1] at e4
        cases e4
        exact ⟨Same.refl _, rv⟩⟩
  | tup xs =>
    cases hv
    refine (pi_tup h).run pins s τ H R I ⟨μ, st, σ, _, _, gd, er, h1, fun μ1 H1 v g1 d1 r1 => ?_⟩
    have r1' := r1
    simp only [Rep] at r1
    obtain ⟨p, vs, rfl, ⟨hs, _⟩, rs⟩ := r1
    refine ⟨p, rfl, ⟨vs, hs⟩, k μ1 H1 _ g1 d1 fun μ2 H2 st2 ys g2 d2 e2 => ?_⟩
    cases e2
    have hs2 := g2.1.sqT hs
    have rs2 := rs.m g2
    refine ⟨fun i hi => ⟨vs, hs2, by rw [← rs2.len]; exact hi⟩, fun i d hd => ?_⟩
    obtain ⟨v, hv1, rv⟩ := rs2.get hd
    exact ⟨⟨vs, v, hs2, hv1⟩, fun x H3 ⟨e3, y⟩ => by
      subst e3
      have e4 := y vs hs2
      rw [hv1] at e4
      cases e4
      exact ⟨Same.refl _, rv⟩⟩
  | str x =>
    cases hv
    refine (pi_str h).run pins s τ H R I ⟨μ, st, σ, _, _, gd, er, h1, fun μ1 H1 v g1 d1 r1 => ?_⟩
    simp only [Rep] at r1
    refine ⟨x, r1, k μ1 H1 _ g1 d1 fun μ2 H2 st2 ys g2 d2 e2 => ?_⟩
    cases e2
    refine ⟨fun i hi => (show x.cps.size ≤ i by simpa [charsD] using hi), fun i d hd => ?_⟩
    unfold charsD at hd
    rw [List.getElem?_map] at hd
    cases e5 : x.cps.toList[i]? with
    | none => rw [e5] at hd; cases hd
    | some c =>
      rw [e5] at hd
      cases hd
      have e6 : x.cps[i]? = some c := by simpa using e5
      refine ⟨(Array.getElem?_eq_some_iff.mp e6).1, fun z H3 ⟨e3, c', e7, e8⟩ => ?_⟩
      subst e3
      rw [e6] at e7
      cases e7
      exact ⟨Same.refl _, by simp only [Rep]; exact e8⟩
  | non => cases hv
  | bl _ => cases hv
  | int _ => cases hv⟩
def rngD (lo : Int) : Nat → List D
  | n => (List.range n).map fun i => .int (lo + (i : Nat))
def rngI1 (f : SA) : SJ := fun σ st => bnd (f σ st) fun ds s1 => match ds with
  | [.int j] => if -(2 ^ 62) ≤ j ∧ j < 2 ^ 62 then some (.cns (rngD 0 j.toNat), s1) else none
  | _ => none
def rngI2 (f : SA) : SJ := fun σ st => bnd (f σ st) fun ds s1 => match ds with
  | [.int i, .int j] => if -(2 ^ 62) ≤ i ∧ i < 2 ^ 62 ∧ -(2 ^ 62) ≤ j ∧ j < 2 ^ 62 then some (.cns (rngD i (j - i).toNat), s1) else none
  | _ => none
theorem itr_rng {H : Hp} {μ : List Addr} {lo : Int} {n : Nat} : ItR K ww H μ (.cns (rngD lo n)) (Itr lo n) := fun μ2 H2 st2 xs g2 d2 e2 => by
  cases e2
  refine ⟨fun i hi => (show n ≤ i by simpa [rngD] using hi), fun i d hd => ?_⟩
  unfold rngD at hd
  rw [List.getElem?_map] at hd
  by_cases hi : i < n
  · rw [List.getElem?_range hi] at hd
    cases hd
    exact ⟨hi, fun x H3 ⟨e3, e4⟩ => by subst e3; exact ⟨Same.refl _, by simp only [Rep]; exact e4⟩⟩
  · rw [List.getElem?_eq_none (by simpa using hi)] at hd
    cases hd
theorem reps1 {H : Hp} {μ : List Addr} {d : D} {vs : List V} (h : Reps K H μ [d] vs) : ∃ v, vs = [v] ∧ Rep K H μ d v := by
  simp only [Reps] at h
  obtain ⟨v, ws, rfl, r, rfl⟩ := h
  exact ⟨v, rfl, r⟩
theorem reps2 {H : Hp} {μ : List Addr} {d e : D} {vs : List V} (h : Reps K H μ [d, e] vs) : ∃ v w, vs = [v, w] ∧ Rep K H μ d v ∧ Rep K H μ e w := by
  simp only [Reps] at h
  obtain ⟨v, ws, rfl, r, w, us, rfl, r2, rfl⟩ := h
  exact ⟨v, w, rfl, r, r2⟩
theorem si_rng1 {tg a : Expr} {f : SA} {p pos : Pos} (hg : Gl X "range") (hm : X.mg "range" = none) (ha : PA X [a] (rdA K ww f)) (hs : starEach [a] X.env = [(false, eval a X.env)] := by rfl) : PI X tg (.Call (.Name "range" p) [a] [] pos) (rdI K ww (rngI1 f)) := ⟨fun pins s τ H R I hw => by
  obtain ⟨μ, st, σ, J, st', gd, er, hv, k⟩ := hw
  obtain ⟨ds, s1, h1, hv⟩ := bnd_eq hv
  split at hv
  · split at hv
    · rename_i j hj
      cases hv
      refine (pi_range1 hg hm ha hs).run pins s τ H R I ⟨μ, st, σ, _, _, gd, er, h1, fun μ1 H1 vs g1 d1 r1 => ?_⟩
      obtain ⟨v, rfl, rv⟩ := reps1 r1
      simp only [Rep] at rv
      subst rv
      exact ⟨_, rfl, hj.1, hj.2, k μ1 H1 _ g1 d1 itr_rng⟩
    · cases hv
  · cases hv⟩
theorem si_rng2 {tg a b : Expr} {f : SA} {p pos : Pos} (hg : Gl X "range") (hm : X.mg "range" = none) (ha : PA X [a, b] (rdA K ww f)) (hs : starEach [a, b] X.env = [(false, eval a X.env), (false, eval b X.env)] := by rfl) (hs2 : starEach [b] X.env = [(false, eval b X.env)] := by rfl) : PI X tg (.Call (.Name "range" p) [a, b] [] pos) (rdI K ww (rngI2 f)) := ⟨fun pins s τ H R I hw => by
  obtain ⟨μ, st, σ, J, st', gd, er, hv, k⟩ := hw
  obtain ⟨ds, s1, h1, hv⟩ := bnd_eq hv
  split at hv
  · split at hv
    · rename_i i j hj
      cases hv
      refine (pi_range2 hg hm ha hs hs2).run pins s τ H R I ⟨μ, st, σ, _, _, gd, er, h1, fun μ1 H1 vs g1 d1 r1 => ?_⟩
      obtain ⟨v, w, rfl, rv, rw'⟩ := reps2 r1
      simp only [Rep] at rv rw'
      subst rv rw'
      exact ⟨_, _, rfl, hj, k μ1 H1 _ g1 d1 itr_rng⟩
    · cases hv
  · cases hv⟩
theorem enumD_get : ∀ (xs : List D) (k i : Nat), (enumD k xs)[i]? = xs[i]?.map fun d => .tup [.int ((k + i : Nat) : Int), d]
  | [], _, _ => by simp [enumD]
  | x :: xs, k, 0 => by simp [enumD]
  | x :: xs, k, i + 1 => by
    simp only [enumD, List.getElem?_cons_succ]
    rw [enumD_get xs (k + 1) i]
    congr 1
    funext d
    congr 4
    omega
theorem enumD_len : ∀ (xs : List D) (k : Nat), (enumD k xs).length = xs.length
  | [], _ => rfl
  | x :: xs, k => by simp only [enumD, List.length_cons, enumD_len xs (k + 1)]
def enmI (f : SA) : SJ := fun σ st => bnd (f σ st) fun ds s1 => match ds with
  | [.loc n] => (getL s1 n).map fun _ => (.enm n, s1)
  | _ => none
theorem si_enum {e : Expr} {f : SA} {p pos tpos : Pos} {elts : List Expr} {kk : Nat} (hg : Gl X "enumerate") (hm : X.mg "enumerate" = none) (ha : PA X [e] (rdA X.K X.w f)) (hs : starEach [e] X.env = [(false, eval e X.env)] := by rfl) :
    PI X (.Tuple elts kk tpos) (.Call (.Name "enumerate" p) [e] [] pos) (rdI X.K X.w (enmI f)) := ⟨fun pins s τ H R I hw => by
  obtain ⟨μ, st, σ, J, st', gd, er, hv, k⟩ := hw
  obtain ⟨ds, s1, h1, hv⟩ := bnd_eq hv
  split at hv
  · rename_i n
    cases e1 : getL s1 n with
    | none => rw [e1] at hv; cases hv
    | some xs =>
      rw [e1] at hv
      cases hv
      refine (pi_enum hg hm ha hs).run pins s τ H R I ⟨μ, st, σ, _, _, gd, er, h1, fun μ1 H1 vs g1 d1 r1 => ?_⟩
      obtain ⟨v, rfl, rv⟩ := reps1 r1
      simp only [Rep] at rv
      obtain ⟨p, rfl, hp⟩ := rv
      obtain ⟨ws, hs, rs⟩ := d1.getL hp e1
      refine ⟨p, ws, rfl, hs, k μ1 H1 _ g1 d1 fun μ2 H2 st2 ys g2 d2 e2 => ?_⟩
      simp only [items] at e2
      cases e3 : getL st2 n with
      | none => rw [e3] at e2; cases e2
      | some zs =>
        rw [e3] at e2
        cases e2
        obtain ⟨us, hs2, rs2⟩ := d2.getL (g2.get hp) e3
        refine ⟨fun i hi => ⟨us, hs2, by rw [← rs2.len, ← enumD_len zs 0]; exact hi⟩, fun i d hd => ?_⟩
        rw [enumD_get] at hd
        cases e4 : zs[i]? with
        | none => rw [e4] at hd; cases hd
        | some z =>
          rw [e4] at hd
          cases hd
          obtain ⟨v, hv1, rv⟩ := rs2.get e4
          refine ⟨⟨us, v, hs2, hv1⟩, fun x H3 ⟨T, y, e5, e6, e7, e8⟩ => ?_⟩
          subst e5 e7
          have e9 := e8 us hs2
          rw [hv1] at e9
          cases e9
          have gt : Gr H2 μ2 (upd H2 T (.tup [.int (i : Nat), v])) μ2 := gr_tup e6
          refine ⟨same_upd e6, rep_tup (.inl (.inl upd_same)) (fun z => by cases z) (reps_cons ?_ (reps_cons (rv.m gt) reps_nil))⟩
          simp only [Rep, Nat.zero_add]
  · cases hv⟩

/-! ### for -/
def forV (J : It) (g : Tg) (b : SS) : Nat → Nat → Sl → Sto → Option (R × Sto)
  | 0, _, _, _ => none
  | m + 1, i, σ, st => match items J st with
    | none => none
    | some xs => match xs[i]? with
      | none => some (.nx σ, st)
      | some d => match g d σ with
        | none => none
        | some σ1 => match b σ1 st with
          | some (.nx σ2, s2) => forV J g b m (i + 1) σ2 s2
          | some (.cnt σ2, s2) => forV J g b m (i + 1) σ2 s2
          | some (.brk σ2, s2) => some (.nx σ2, s2)
          | some (.ret d, s2) => some (.ret d, s2)
          | none => none
def forS (i : SJ) (g : Tg) (b : SS) : SS := fun σ st => bnd (i σ st) fun J s1 => match items J s1 with
  | none => none
  | some xs => forV J g b (xs.length + 1) 0 σ s1
theorem ss_for {tg iter : Expr} {body : List Stmt} {i : SJ} {gg : TG} {g : Tg} {b : SS} {pos : Pos} (hp : PassesOwn (model X.prog X.w) X.A X.env X.xe) (hc : X.calm = true) (hi : PI X tg iter (rdI K ww i)) (hg : PG X tg gg) (ok : OkG K gg g) (hb : PSs X body (rdS K ww b))
    (hs : ∀ x, foldedSetIterable iter X.env x = pure x := by intro _; rfl) : PS X (.For tg iter body [] pos) (rdS K ww (forS i g b)) :=
  (ps_for hp hc hi hg hb hs).weak fun Dn τ H ⟨μ, st, σ, r, st', gd, er, hv, k⟩ => by
    obtain ⟨J, s1, h1, hv⟩ := bnd_eq hv
    cases ei : items J s1 with
    | none => simp only [ei] at hv; cases hv
    | some xs =>
      simp only [ei] at hv
      refine ⟨μ, st, σ, J, s1, gd, er, h1, fun μ0 H0 J' g0 d0 iR => ?_⟩
      refine ⟨fun i m τ1 H1 => ∃ μ1 s1 σ1, Gr H0 μ0 H1 μ1 ∧ Gd K ww H1 μ1 s1 ∧ EnvR K H1 μ1 σ1 τ1 ∧ forV J g b m i σ1 s1 = some (r, st') ∧ Fin K ww H1 μ1 st' Dn r, ⟨_, μ0, s1, σ, Gr.refl _ _, d0, er.m g0, hv, k.m g0⟩, ?_⟩
      rintro i m τ1 H1 ⟨μ1, s2, σ1, g1, d1, e1, hv1, k1⟩
      cases m with
      | zero => cases hv1
      | succ m =>
        unfold forV at hv1
        cases e2 : items J s2 with
        | none => simp only [e2] at hv1; cases hv1
        | some ys =>
          simp only [e2] at hv1
          obtain ⟨q1, q2⟩ := iR μ1 H1 s2 ys g1 d1 e2
          cases e3 : ys[i]? with
          | none =>
            simp only [e3] at hv1
            cases hv1
            exact .inl ⟨q1 i (by simpa using e3), k1 μ1 H1 (Gr.refl _ _) d1 τ1 e1⟩
          | some d =>
            simp only [e3] at hv1
            obtain ⟨q3, q4⟩ := q2 i d e3
            refine .inr ⟨q3, fun τ3 H3 => ∃ μ3 s3 σ3, Gr H0 μ0 H3 μ3 ∧ Gd K ww H3 μ3 s3 ∧ EnvR K H3 μ3 σ3 τ3 ∧ forV J g b m (i + 1) σ3 s3 = some (r, st') ∧ Fin K ww H3 μ3 st' Dn r, fun τ3 H3 q => ⟨m, Nat.lt_succ_self m, q⟩, fun x H2 y => ?_⟩
            obtain ⟨sm, rx⟩ := q4 x H2 y
            have gs : Gr H1 μ1 H2 μ1 := ⟨Keeps.same sm, [], by simp⟩
            have d2 := d1.same sm
            cases e4 : g d σ1 with
            | none => simp only [e4] at hv1; cases hv1
            | some σ2 =>
              simp only [e4] at hv1
              refine ok H2 μ1 σ1 τ1 d x σ2 _ (e1.m gs) rx e4 fun τ2 e5 => ?_
              cases eb : b σ2 s2 with
              | none => simp only [eb] at hv1; cases hv1
              | some p =>
                obtain ⟨r3, s3⟩ := p
                simp only [eb] at hv1
                refine ⟨μ1, s2, σ2, r3, s3, d2, e5, eb, fun μ4 H4 g4 d4 => ?_⟩
                have g5 : Gr H1 μ1 H4 μ4 := gs.trans g4
                cases r3 with
                | nx σ3 => exact fun τ4 e4 => ⟨μ4, s3, σ3, g1.trans g5, d4, e4, hv1, k1.m g5⟩
                | cnt σ3 => exact fun τ4 e4 => ⟨μ4, s3, σ3, g1.trans g5, d4, e4, hv1, k1.m g5⟩
                | brk σ3 =>
                  cases hv1
                  exact fun τ4 e4 => k1 μ4 H4 g5 d4 τ4 e4
                | ret d =>
                  cases hv1
                  exact fun v rv => k1 μ4 H4 g5 d4 v rv
end
end Iv

namespace Iv
open PySem L2 PySem.Spec
/-! ### a comprehension's own slots -/
def wipeD (σ : Sl) : List Nat → Sl
  | [] => σ
  | v :: vs => (wipeD σ vs).set v none
theorem wipeD_len (σ : Sl) : ∀ vs : List Nat, (wipeD σ vs).length = σ.length
  | [] => rfl
  | v :: vs => by unfold wipeD; rw [List.length_set, wipeD_len σ vs]
theorem wipe_get (τ : L2.St) : ∀ (vs : List Nat) (j : Nat), (wipe τ vs)[j]? = if j ∈ vs then (if j < τ.length then some none else none) else τ[j]?
  | [], j => by simp [wipe]
  | v :: vs, j => by
    unfold wipe
    by_cases hj : v = j
    · subst hj
      rw [List.getElem?_set]
      simp [wipe_length]
    · rw [List.getElem?_set_ne hj, wipe_get τ vs j]
      have e : (j ∈ v :: vs) = (j ∈ vs) := by simp [Ne.symm hj]
      simp only [e]
theorem wipe_set {τ : L2.St} {vs : List Nat} {i : Nat} {y : Option V} (h : i ∈ vs) : wipe (τ.set i y) vs = wipe τ vs := by
  apply List.ext_getElem?
  intro j
  rw [wipe_get, wipe_get, List.length_set]
  by_cases hj : j ∈ vs
  · simp [hj]
  · rw [if_neg hj, if_neg hj, List.getElem?_set_ne (by rintro rfl; exact hj h)]
theorem wipe_wipe {τ : L2.St} {vs : List Nat} : wipe (wipe τ vs) vs = wipe τ vs := by
  apply List.ext_getElem?
  intro j
  rw [wipe_get, wipe_get, wipe_length]
  by_cases hj : j ∈ vs
  · simp [hj]
  · rw [if_neg hj, if_neg hj]
section
variable {X : Cx} {K : PySem.W.Frag} {ww : World}
theorem envr_wipe {H : Hp} {μ : List Addr} {σ : Sl} {τ : L2.St} (er : EnvR K H μ σ τ) : ∀ vs : List Nat, EnvR K H μ (wipeD σ vs) (wipe τ vs)
  | [] => er
  | v :: vs => by
    have h := envr_wipe er vs
    unfold wipeD wipe
    refine ⟨by rw [List.length_set, List.length_set]; exact h.1, fun j d e => ?_⟩
    by_cases hj : v = j
    · subst hj
      by_cases hl : v < (wipeD σ vs).length
      · rw [List.getElem?_set_self hl] at e; cases e
      · rw [List.getElem?_eq_none (by rw [List.length_set]; omega)] at e; cases e
    · rw [List.getElem?_set_ne hj] at e ⊢
      exact h.2 j d e
/-- a target that stores into the block's own slots alone -/
def OwnG (vs : List Nat) (gg : TG) : Prop := ∀ x τ H (Q : L2.St → Hp → Prop), gg x τ H Q → gg x τ H fun τ2 H2 => wipe τ2 vs = wipe τ vs ∧ Q τ2 H2
def OwnGs (vs : List Nat) (gg : TGs) : Prop := ∀ xs τ H (Q : L2.St → Hp → Prop), gg xs τ H Q → gg xs τ H fun τ2 H2 => wipe τ2 vs = wipe τ vs ∧ Q τ2 H2
theorem own_name {vs : List Nat} {i : Nat} (h : i ∈ vs) : OwnG vs (gName i) := fun x τ H Q q => ⟨wipe_set h, q⟩
theorem own_nil {vs : List Nat} : OwnGs vs gNil := fun xs τ H Q q => ⟨q.1, rfl, q.2⟩
theorem own_cons {vs : List Nat} {i : Nat} {u : TGs} (h : i ∈ vs) (hu : OwnGs vs u) : OwnGs vs (gCons (gName i) u) := fun xs τ H Q ⟨v, r, e, q⟩ => ⟨v, r, e, by
  have q' := hu r _ _ _ q
  rw [wipe_set h] at q'
  exact q'⟩
theorem own_tup {vs : List Nat} {K : PySem.W.Frag} {n : Nat} {u : TGs} (hu : OwnGs vs u) : OwnG vs (gTup K n u) := fun x τ H Q ⟨a, xs, e, s, l, q⟩ => ⟨a, xs, e, s, l, hu xs _ _ _ q⟩
/-! ### comprehensions -/
def compV (J : It) (g : Tg) (c : ST) (e : SE) (n : Nat) (σ0 : Sl) : Nat → Nat → Sto → Option Sto
  | 0, _, _ => none
  | m + 1, i, st => match items J st with
    | none => none
    | some xs => match xs[i]? with
      | none => some st
      | some d => match g d σ0 with
        | none => none
        | some σ1 => bnd (c σ1 st) fun b s1 => if b = true then bnd (e σ1 s1) fun y s2 => (match getM s2 n with
            | none => none
            | some acc => if acc.length < LIM then compV J g c e n σ0 m (i + 1) (s2.set n (.lst (acc ++ [y]))) else none) else compV J g c e n σ0 m (i + 1) s1
def compF (vs : List Nat) (i : SJ) (g : Tg) (c : ST) (e : SE) : SE := fun σ st => bnd (i σ st) fun J s1 => match items J s1 with
  | none => none
  | some xs => (compV J g c e s1.length (wipeD σ vs) (xs.length + 1) 0 (s1 ++ [.lst []])).map fun s2 => (.loc s1.length, s2)
def yesT : ST := fun _ st => some (true, st)
theorem ts_nil : PTs X [] (rdT K ww yesT) := pts_nil.weak fun τ H Q ⟨μ, st, σ, b, st', gd, er, hv, k⟩ => by
  cases hv
  exact k μ H (Gr.refl H μ) gd
theorem ts_one {c : Expr} {t : ST} (h : PT X c (rdT K ww t)) : PTs X [c] (rdT K ww t) := pts_one h
theorem items_new {J : It} {st : Sto} {xs : List D} (h : items J st = some xs) (o : OB) : items J (st ++ [o]) = some xs := by
  have q : ∀ (n : Nat) (ys : List D), getL st n = some ys → getL (st ++ [o]) n = some ys := fun n ys h => by
    unfold getL at h ⊢
    cases e : st[n]? with
    | none => rw [e] at h; cases h
    | some p =>
      rw [List.getElem?_append_left (List.getElem?_eq_some_iff.mp e).1, e]
      rw [e] at h
      exact h
  cases J with
  | cns ys => exact h
  | lst n => exact q n xs h
  | enm n =>
    simp only [items] at h ⊢
    cases e : getL st n with
    | none => rw [e] at h; cases h
    | some ys => rw [q n ys e, ← e]; exact h
theorem rd_comp {vs : List Nat} {i : SJ} {gg : TG} {g : Tg} {c : ST} {e : SE} (ok : OkG K gg g) (ow : OwnG vs gg) : ∀ τ H Q, rdE K ww (compF vs i g c e) τ H Q → tLc (rdI K ww i) gg (rdT K ww c) (rdE K ww e) vs τ H Q :=
  fun τ H Q ⟨μ, st, σ, d, st', gd, er, hv, k⟩ => by
    obtain ⟨J, s1, h1, hv⟩ := bnd_eq hv
    cases ei : items J s1 with
    | none => simp only [ei] at hv; cases hv
    | some xs =>
      simp only [ei] at hv
      cases ec : compV J g c e s1.length (wipeD σ vs) (xs.length + 1) 0 (s1 ++ [.lst []]) with
      | none => rw [ec] at hv; cases hv
      | some s9 =>
        rw [ec] at hv
        cases hv
        refine ⟨μ, st, σ, J, s1, gd, er, h1, fun μ0 H0 J' g0 d0 iR Dp hD => ?_⟩
        have gn : Gr H0 μ0 (upd H0 Dp (.lst [])) (μ0 ++ [Dp]) := gr_new hD
        have dn := d0.new hD (reps_nil (K := K) (H := H0) (μ := μ0))
        have hDp : (μ0 ++ [Dp])[s1.length]? = some Dp := by
          rw [← d0.len, List.getElem?_append_right (Nat.le_refl _), Nat.sub_self]
          rfl
        have ew : EnvR K H0 μ0 (wipeD σ vs) (wipe τ vs) := envr_wipe (er.m g0) vs
        refine ⟨fun j m H1 => ∃ μ1 s2, Gr (upd H0 Dp (.lst [])) (μ0 ++ [Dp]) H1 μ1 ∧ Gd K ww H1 μ1 s2 ∧ compV J g c e s1.length (wipeD σ vs) m j s2 = some st', ⟨_, μ0 ++ [Dp], _, Gr.refl _ _, dn, ec⟩, ?_⟩
        rintro j m H1 ⟨μ1, s2, g1, d1, hv1⟩
        cases m with
        | zero => cases hv1
        | succ m =>
          unfold compV at hv1
          cases e2 : items J s2 with
          | none => simp only [e2] at hv1; cases hv1
          | some ys =>
            simp only [e2] at hv1
            have g01 := gn.trans g1
            obtain ⟨q1, q2⟩ := iR μ1 H1 s2 ys g01 d1 e2
            cases e3 : ys[j]? with
            | none =>
              simp only [e3] at hv1
              cases hv1
              exact .inl ⟨q1 j (by simpa using e3), k μ1 H1 _ (g0.trans g01) d1 (rep_loc (g1.get hDp))⟩
            | some y =>
              simp only [e3] at hv1
              obtain ⟨q3, q4⟩ := q2 j y e3
              refine .inr ⟨q3, fun H3 => ∃ μ3 s3, Gr (upd H0 Dp (.lst [])) (μ0 ++ [Dp]) H3 μ3 ∧ Gd K ww H3 μ3 s3 ∧ compV J g c e s1.length (wipeD σ vs) m (j + 1) s3 = some st', fun H3 q => ⟨m, Nat.lt_succ_self m, q⟩, fun x H2 hy => ?_⟩
              obtain ⟨sm, rx⟩ := q4 x H2 hy
              have gs : Gr H1 μ1 H2 μ1 := ⟨Keeps.same sm, [], by simp⟩
              have d2 := d1.same sm
              cases e4 : g y (wipeD σ vs) with
              | none => simp only [e4] at hv1; cases hv1
              | some σ2 =>
                simp only [e4] at hv1
                obtain ⟨b, s3, h3, hv1⟩ := bnd_eq hv1
                have hq : gg x (wipe τ vs) H2 fun τ2 H2 => rdT K ww c τ2 H2 fun b H3 => if b = true then rdE K ww e τ2 H3 fun y H4 => ∃ acc, H4 Dp = some (.lst acc) ∧ acc.length < sizeLine ∧ (fun H3 => ∃ μ3 s3, Gr (upd H0 Dp (.lst [])) (μ0 ++ [Dp]) H3 μ3 ∧ Gd K ww H3 μ3 s3 ∧ compV J g c e s1.length (wipeD σ vs) m (j + 1) s3 = some st') (upd H4 Dp (.lst (acc ++ [y]))) else (fun H3 => ∃ μ3 s3, Gr (upd H0 Dp (.lst [])) (μ0 ++ [Dp]) H3 μ3 ∧ Gd K ww H3 μ3 s3 ∧ compV J g c e s1.length (wipeD σ vs) m (j + 1) s3 = some st') H3 := by
                  refine ok H2 μ1 _ _ y x σ2 _ (ew.m (g01.trans gs)) rx e4 fun τ2 e5 => ?_
                  refine ⟨μ1, s2, σ2, b, s3, d2, e5, h3, fun μ4 H4 g4 d4 => ?_⟩
                  have g5 := (g1.trans gs).trans g4
                  cases b with
                  | false => exact ⟨μ4, s3, g5, d4, hv1⟩
                  | true =>
                    rw [if_pos rfl] at hv1
                    show rdE K ww e τ2 H4 _
                    obtain ⟨z, s4, h4, hv1⟩ := bnd_eq hv1
                    refine ⟨μ4, s3, σ2, z, s4, d4, e5.m g4, h4, fun μ5 H5 w g6 d5 r5 => ?_⟩
                    cases e6 : getM s4 s1.length with
                    | none => simp only [e6] at hv1; cases hv1
                    | some acc =>
                      simp only [e6] at hv1
                      split at hv1
                      · rename_i hl
                        have hp5 := (g5.trans g6).get hDp
                        obtain ⟨us, hH, rs⟩ := d5.getM hp5 e6
                        have gw : Gr H5 μ5 (upd H5 Dp (.lst (us ++ [w]))) μ5 := gr_write hH
                        exact ⟨us, hH, lim_lt (by rw [← rs.len]; exact hl), μ5, _, (g5.trans g6).trans gw, d5.write hp5 (getM_get e6) hH (rs.app (reps_cons r5 reps_nil)), hv1⟩
                      · cases hv1
                have hq2 := ow x _ _ _ hq
                rw [wipe_wipe] at hq2
                exact hq2
theorem se_comp {elt tg iter : Expr} {ifs : List Expr} {scope : Scope} {own : List (Str × Nat)} {pos : Pos} {i : SJ} {gg : TG} {g : Tg} {c : ST} {e : SE} (hc : X.calm = true) (hN : X.N.Nodup) (hi : PI X tg iter (rdI X.K X.w i)) (ok : BlkOk X.N X.env.scope scope own)
    (hg : ∀ (s : Shared) (H : Hp) (C : Addr) (cl : List (Str × Addr)) (fp : List Addr), PG (X.blk s H scope (compEnvC scope cl C X.env) fp) tg gg) (okg : OkG X.K gg g) (ow : OwnG (own.map (·.2)) gg)
    (ht : ∀ (s : Shared) (H : Hp) (C : Addr) (cl : List (Str × Addr)) (fp : List Addr), PTs (X.blk s H scope (compEnvC scope cl C X.env) fp) ifs (rdT X.K X.w c))
    (he : ∀ (s : Shared) (H : Hp) (C : Addr) (cl : List (Str × Addr)) (fp : List Addr), PE (X.blk s H scope (compEnvC scope cl C X.env) fp) elt (rdE X.K X.w e)) (hs : ∀ x, foldedSetIterable iter X.env x = pure x := by intro _; rfl) :
    PE X (.ListComp elt [⟨tg, iter, ifs, 0⟩] scope pos) (rdE X.K X.w (compF (own.map (·.2)) i g c e)) := (pe_lc hc hN hi ok hg ht he hs).weak (rd_comp okg ow)

/-! ### own functions -/
abbrev Fx := List D → Sto → Option (D × Sto)
def callF (φ : Fx) (f : SA) : SE := fun σ st => bnd (f σ st) fun ds s1 => φ ds s1
def spF (K : PySem.W.Frag) (ww : World) (np : Nat) (φ : Fx) : Sp := fun vs H Q E => vs.length = np ∧ ∃ μ st ds d st', Gd K ww H μ st ∧ Reps K H μ ds vs ∧ φ ds st = some (d, st') ∧ ∀ μ' H' v, Gr H μ H' μ' → Gd K ww H' μ' st' → Rep K H' μ' d v → Q v H'
def runF (ns np : Nat) (body : SS) : Fx := fun ds st => if ds.length = np then (match body (ds.map some ++ List.replicate (ns - np) none) st with
  | some (.nx _, s) => some (.non, s)
  | some (.ret d, s) => some (d, s)
  | _ => none) else none
theorem envr_start {H : Hp} {μ : List Addr} {ds : List D} {vs : List V} (r : Reps K H μ ds vs) (k : Nat) : EnvR K H μ (ds.map some ++ List.replicate k none) (vs.map some ++ List.replicate k none) := by
  have hl := r.len
  refine ⟨by simp [hl], fun i d e => ?_⟩
  by_cases hi : i < ds.length
  · rw [List.getElem?_append_left (by simpa using hi), List.getElem?_map] at e
    rw [List.getElem?_append_left (by rw [List.length_map, ← hl]; exact hi), List.getElem?_map]
    cases e1 : ds[i]? with
    | none => rw [e1] at e; cases e
    | some x =>
      rw [e1] at e
      cases e
      obtain ⟨v, h1, h2⟩ := r.get e1
      exact ⟨v, by rw [h1]; rfl, h2⟩
  · rw [List.getElem?_append_right (by simpa using hi)] at e
    have := List.mem_of_getElem? e
    rw [List.mem_replicate] at this
    cases this.2
section
variable {P : Program} {w : World} {mg : Str → Option Value} {base : Heap} {n k : Nat} {f : Addr} {fd : FuncData} {ps : List Str}
theorem se_call {x : Str} {p pos : Pos} {e : Expr} {es : List Expr} {φ : Fx} {np : Nat} {g : SA} (G : FnOk X.prog X.w X.K X.mg X.base CX0 n f fd ps (spF X.K X.w np φ)) (hr : Room n X.A) (hg : Gl X x) (hm : X.mg x = some (.ref f)) (hk : PySem.W.keepIn X.K (.ref f) = true) (hb : Binds X.K fd ps [])
    (ha : PA X (e :: es) (rdA X.K X.w g)) (hnp : ∀ ds st d st', φ ds st = some (d, st') → ds.length = np) (hdb : (x == ("__debug__" : Str)) = false := by decide) (he : starEach (e :: es) X.env = (false, eval e X.env) :: starEach es X.env := by rfl) (hpl : (backTo pos (starEach es X.env)).any (·.1) = false := by rfl) :
    PE X (.Call (.Name x p) (e :: es) [] pos) (rdE X.K X.w (callF φ g)) := (pe_call G hr hg hm hk hb .nil pass0 ha hdb he hpl).weak fun τ H Q ⟨μ, st, σ, d, st', gd, er, hv, kk⟩ => by
  obtain ⟨ds, s1, h1, hv⟩ := bnd_eq hv
  refine ⟨μ, st, σ, ds, s1, gd, er, h1, fun μ1 H1 vs g1 d1 r1 => ?_⟩
  show spF X.K X.w np φ (vs ++ []) H1 Q E0
  rw [List.append_nil]
  exact ⟨by rw [← r1.len]; exact hnp _ _ _ _ hv, μ1, s1, ds, d, st', d1, r1, hv, fun μ2 H2 v g2 d2 r2 => kk μ2 H2 v (g1.trans g2) d2 r2⟩
theorem runF_np {ns np : Nat} {body : SS} : ∀ ds st d st', runF ns np body ds st = some (d, st') → ds.length = np := fun ds st d st' h => by
  unfold runF at h
  split at h
  · assumption
  · cases h
theorem fn_zero {φ : Fx} {np : Nat} (h : ∀ ds st, φ ds st = none) : FnOk P w K mg base CX0 0 f fd ps (spF K w np φ) := by
  have no : ∀ vs H Q E, ¬ spF K w np φ vs H Q E := fun vs H Q E ⟨_, _, st, ds, _, _, _, _, e, _⟩ => by rw [h] at e; cases e
  exact ⟨fun vs H Q E h => absurd h (no vs H Q E), fun A outer s H args us vs Q E _ _ _ _ h => absurd h (no vs H Q E)⟩
theorem fn_ok {x qual : Str} {st : Stmt} {N : List Str} {body : SS} (F : Fun K x qual st f fd) (S : FnScope N ps (defScope st)) (hns : ps.length ≤ N.length)
    (hb : ∀ (cdv : Value) (A : Around) (outer : List Env) (s : Shared) (H : Hp) (E : XK), Room k (A.deeper (PyProof.Rows.envOfC qual (defScope st) s.heap.objs.size f cdv)) →
      PSs (cxOf CX0 P w K mg base N qual (defScope st) f cdv A outer s H E).nox (defBody st) (rdS K w body)) :
    FnOk P w K mg base CX0 (k + 1) f fd ps (spF K w ps.length (runF N.length ps.length body)) := by
  refine F.ok S (fun vs H Q E h => h.1) (fun cdv A outer s H vs Q E hr h => ⟨_, hb cdv A outer s H E hr, ?_⟩)
  obtain ⟨hlen, μ, st, ds, d, st', gd, r, hv, q⟩ := h
  unfold runF at hv
  split at hv
  · rename_i hl
    unfold L2.start
    rw [hlen]
    have er := envr_start r (N.length - ps.length)
    cases e : body (ds.map some ++ List.replicate (N.length - ps.length) none) st with
    | none => rw [e] at hv; cases hv
    | some p =>
      obtain ⟨r1, s1⟩ := p
      rw [e] at hv
      refine ⟨μ, st, _, r1, s1, gd, er, e, fun μ1 H1 g1 d1 => ?_⟩
      cases r1 with
      | nx σ1 =>
        cases hv
        exact fun τ1 _ => q μ1 H1 .non g1 d1 (by simp only [Rep])
      | ret x =>
        cases hv
        exact fun v rv => q μ1 H1 v g1 d1 rv
      | brk σ1 => cases hv
      | cnt σ1 => cases hv
  · cases hv
end
/-! ### the law's own end -/
def spLaw (K : PySem.W.Frag) : Sp := fun vs H Q _ => ∃ (a : Addr) (ns : List Int), vs = [.ref a] ∧ (∀ H', Keeps H H' → SqL K H' a (ns.map V.int)) ∧ ns.length ≤ 63 ∧ ∀ H', Q (.bl true) H'
theorem reps_ints {H : Hp} {μ : List Addr} : ∀ ns : List Int, Reps K H μ (ns.map D.int) (ns.map V.int)
  | [] => reps_nil
  | n :: ns => reps_cons (by simp only [Rep]) (reps_ints ns)
theorem law_ok {P : Program} {w : World} {mg : Str → Option Value} {base : Heap} {n : Nat} {f : Addr} {fd : FuncData} {φ : Fx} (G : FnOk P w K mg base CX0 n f fd ["script"] (spF K w 1 φ))
    (h : ∀ ns : List Int, ns.length ≤ 63 → ∃ st', φ [.loc 0] [.frz (ns.map .int)] = some (.bl true, st')) : FnOk P w K mg base CX0 n f fd ["script"] (spLaw K) := by
  refine G.imp (fun vs H Q E q => ?_)
  obtain ⟨a, ns, rfl, hS, hl, q⟩ := q
  obtain ⟨st', e⟩ := h ns hl
  refine ⟨rfl, [a], [.frz (ns.map .int)], [.loc 0], _, st', ⟨rfl, fun n m p xs ys h1 h2 h3 h4 k1 k2 => ?_, fun n p o h1 h2 => ?_⟩, reps_cons (rep_loc rfl) reps_nil, e, fun μ' H' v g d r => ?_⟩
  · cases n with
    | zero => cases h3; cases k1
    | succ n => simp at h3
  · cases n with
    | zero =>
      cases h1
      cases h2
      exact ⟨_, hS, reps_ints ns⟩
    | succ n => simp at h1
  · simp only [Rep] at r
    subst r
    exact q H'
theorem only_sql {H : Hp} {a : Addr} {xs : List V} (h : Only H) (s : SqL K H a xs) : ∀ H', Keeps H H' → SqL K H' a xs := fun H' k => by
  rcases s with (s | ⟨o, s⟩) | s
  · rcases h a with z | ⟨o, ys, z⟩
    · rw [s] at z; cases z
    · rw [s] at z; cases z
  · exact .inl (.inr ⟨o, k.2 _ _ _ s⟩)
  · exact .inr s
end
end Iv

namespace Iv
open PySem L2
/-! ### the operations -/
def addO : Op2
  | .int i, .int j, st => some (.int (i + j), st)
  | .str a, .str b, st => if a.length + b.length ≤ LIM then some (.str (a ++ b), st) else none
  | .loc n, .loc m, st => match getM st n, getM st m with
    | some xs, some ys => if xs.length + ys.length ≤ LIM then some (.loc st.length, st ++ [.lst (xs ++ ys)]) else none
    | _, _ => none
  | .tup xs, .tup ys, st => if xs.length + ys.length ≤ LIM ∧ nst (xs ++ ys) = false then some (.tup (xs ++ ys), st) else none
  | _, _, _ => none
def intO (C : Int → Int → Bool) (g : Int → Int → Int) : Op2
  | .int i, .int j, st => if C i j = true then some (.int (g i j), st) else none
  | _, _, _ => none
def cT (_ _ : Int) : Bool := true
def cMul (i j : Int) : Bool := (decide (-(2 ^ 64) < i) && decide (i < 2 ^ 64)) || (decide (-(2 ^ 64) < j) && decide (j < 2 ^ 64))
def cDiv (_ j : Int) : Bool := decide (0 < j) && decide (j < 1073741824)
def cPos (_ j : Int) : Bool := decide (0 < j)
def cPow (i j : Int) : Bool := decide (0 ≤ j) && decide (j ≤ 1000000) && decide (i.natAbs < 2 ^ 64)
def subO : Op2 := intO cT fun i j => i - j
def mulO : Op2 := intO cMul fun i j => i * j
def fdivO : Op2 := intO cDiv fun i j => i / j
def modO : Op2 := intO cPos fun i j => i % j
def powO : Op2 := intO cPow fun i j => i ^ j.toNat
def relO (p : Int → Int → Bool) : Op2
  | .int i, .int j, st => some (.bl (p i j), st)
  | _, _, _ => none
def ltO : Op2 := relO fun i j => decide (i < j)
def leO : Op2 := relO fun i j => decide (i ≤ j)
def gtO : Op2 := relO fun i j => decide (j < i)
def geO : Op2 := relO fun i j => decide (j ≤ i)
/-! equality at any depth -/
mutual
def py (st : Sto) : Nat → D → Option PyData
  | _, .non => some .none
  | _, .bl b => some (.bool b)
  | _, .int i => some (.int i)
  | _, .str x => some (.str x)
  | n, .tup xs => (pys st n xs).map .tuple
  | 0, .loc _ => none
  | n + 1, .loc k => match getL st k with
    | none => none
    | some xs => (pys st n xs).map .list
  termination_by n d => (n, sizeOf d)
def pys (st : Sto) : Nat → List D → Option (List PyData)
  | _, [] => some []
  | n, d :: ds => match py st n d, pys st n ds with
    | some p, some ps => some (p :: ps)
    | _, _ => none
  termination_by n d => (n, sizeOf d)
end
def scalD : D → Bool
  | .non => true | .bl _ => true | .int _ => true | .str _ => true | _ => false
def eqS : D → D → Option Bool
  | .non, .non => some true
  | .non, .int _ => some false
  | .int _, .non => some false
  | .non, .bl _ => some false
  | .bl _, .non => some false
  | .non, .str _ => some false
  | .str _, .non => some false
  | .int i, .int j => some (decide (i = j))
  | .bl i, .bl j => some (decide (i = j))
  | .str i, .str j => some (decide (i = j))
  | .int _, .str _ => some false
  | .str _, .int _ => some false
  | .bl _, .str _ => some false
  | .str _, .bl _ => some false
  | _, _ => none
def eqO (neg : Bool) : Op2 := fun x y st => match eqS x y with
  | some b => some (.bl (b != neg), st)
  | none => match py st 60 x, py st 60 y with
    | some p, some q => if SeqAt.shaped p = true ∧ SeqAt.shaped q = true then some (.bl (PyData.eqv p q != neg), st) else none
    | _, _ => none
def isNO (neg : Bool) : Op2 := fun x y st => match y with
  | .non => match x with
    | .non => some (.bl (true != neg), st)
    | _ => some (.bl (false != neg), st)
  | _ => none
def eqF : D → D → Bool
  | .non, .non => true
  | .bl a, .bl b => a == b
  | .bl a, .int b => (if a then 1 else 0) == b
  | .int a, .bl b => a == (if b then 1 else 0)
  | .int a, .int b => a == b
  | .str a, .str b => a == b
  | _, _ => false
def inF (x : D) (xs : List D) : Bool := xs.any fun y => eqF y x
def inO (neg : Bool) : Op2 := fun x y st => match y with
  | .str b => match x with
    | .str a => some (.bl ((!(Builtin.Str.occurrences b a 0 b.length 1).isEmpty) != neg), st)
    | _ => none
  | .tup ys => if scalD x = true ∧ ys.all scalD = true then some (.bl (inF x ys != neg), st) else none
  | .loc n => match getL st n with
    | none => none
    | some ys => if scalD x = true ∧ ys.all scalD = true then some (.bl (inF x ys != neg), st) else
      match py st 60 x, py st 60 y with
      | some p, some (.list qs) => if SeqAt.shaped p = true ∧ SeqAt.shaped (.list qs) = true then some (.bl ((qs.any fun z => PyData.eqv z p) != neg), st) else none
      | _, _ => none
  | _ => none
def ixO : Op2
  | .loc n, .int i, st => match getL st n with
    | none => none
    | some xs => (atI xs i).map fun d => (d, st)
  | .tup xs, .int i, st => (atI xs i).map fun d => (d, st)
  | .str x, .int i, st => if x.length ≤ LIM then (atI x.cps.toList i).map fun c => (.str ⟨#[c]⟩, st) else none
  | _, _, _ => none
def negO : Op1
  | .int i, st => some (.int (-i), st)
  | _, _ => none
def lenO : OpN
  | [.str x], st => if x.length ≤ LIM then some (.int x.length, st) else none
  | [.tup xs], st => some (.int xs.length, st)
  | [.loc n], st => (getL st n).map fun xs => (.int xs.length, st)
  | _, _ => none
def intOf : OpN
  | [.int i], st => some (.int i, st)
  | [.bl b], st => some (.int (if b then 1 else 0), st)
  | [.str a], st => match PySem.intText? a with
    | some n => if a.length ≤ 640 then some (.int n, st) else none
    | none => none
  | _, _ => none
def absO : OpN
  | [.int i], st => some (.int (if i < 0 then -i else i), st)
  | _, _ => none
def strOf : OpN
  | [.int i], st => if i.natAbs.log2 < 1920 then some (.str (toString i), st) else none
  | [.str x], st => some (.str x, st)
  | _, _ => none
def max2O : OpN
  | [.int i, .int j], st => some (.int (if j > i then j else i), st)
  | _, _ => none
def min2O : OpN
  | [.int i, .int j], st => some (.int (if j < i then j else i), st)
  | _, _ => none
def tupleO : OpN
  | [.loc n], st => (getL st n).map fun xs => (.tup xs, st)
  | [.tup xs], st => some (.tup xs, st)
  | _, _ => none
def listO : OpN
  | [.loc n], st => (getL st n).map fun xs => (.loc st.length, st ++ [.lst xs])
  | [.tup xs], st => some (.loc st.length, st ++ [.lst xs])
  | _, _ => none
def blsD : List D → Option (List Bool)
  | [] => some []
  | .bl b :: ds => (blsD ds).map fun bs => b :: bs
  | _ :: _ => none
def anyO (all : Bool) : OpN
  | [.loc n], st => match getL st n with
    | none => none
    | some xs => (blsD xs).map fun bs => (.bl (if all then bs.all id else bs.any id), st)
  | _, _ => none
def isi (T : String) : D → Bool
  | .non => false
  | .bl _ => T == "bool" || T == "int"
  | .int _ => T == "int"
  | .str _ => T == "str"
  | .tup _ => T == "tuple"
  | .loc _ => T == "list"
def isiO (T : String) : Op1 := fun x st => match x with
  | .loc n => (getL st n).map fun _ => (.bl (isi T x), st)
  | _ => some (.bl (isi T x), st)
def appendO : OpM := fun x ys st => match x, ys with
  | .loc n, [y] => match getM st n with
    | none => none
    | some xs => if xs.length < LIM then some (.non, st.set n (.lst (xs ++ [y]))) else none
  | _, _ => none
def extendO : OpM := fun x ys st => match x, ys with
  | .loc n, [.loc m] => if n = m then none else match getM st n, getM st m with
    | some xs, some zs => if xs.length + zs.length ≤ LIM then some (.non, st.set n (.lst (xs ++ zs))) else none
    | _, _ => none
  | _, _ => none
def strsD : List D → Option (List Str)
  | [] => some []
  | .str b :: ds => (strsD ds).map fun bs => b :: bs
  | _ :: _ => none
def joinO : OpM := fun x ys st => match x, ys with
  | .str a, [.loc n] => match getL st n with
    | none => none
    | some xs => match strsD xs with
      | none => none
      | some zs => if (zs.map (·.length)).sum + zs.length * a.length ≤ LIM then some (.str (Txt.join a zs), st) else none
  | _, _ => none
def splitO : OpM := fun x ys st => match x, ys with
  | .str a, [.str b] => if (b.length == 0) = false ∧ a.length + 2 ≤ LIM then some (.loc st.length, st ++ [.lst ((Txt.split a b).map .str)]) else none
  | _, _ => none
def wordsO : OpM := fun x ys st => match x, ys with
  | .str a, [] => if a.length + 2 ≤ LIM then some (.loc st.length, st ++ [.lst ((Txt.words a).map .str)]) else none
  | _, _ => none
def cutD (xs : List D) (lo hi : Option Int) : List D := (xs.drop (HT.sIx xs.length 0 lo)).take (HT.sIx xs.length xs.length hi - HT.sIx xs.length 0 lo)
def cutO : OpS := fun x lo hi st => match x with
  | .loc n => (getL st n).map fun xs => (.loc st.length, st ++ [.lst (cutD xs lo hi)])
  | .tup xs => if nst (cutD xs lo hi) = true then none else some (.tup (cutD xs lo hi), st)
  | .str x => if x.length ≤ LIM then some (.str (cutS x lo hi), st) else none
  | _ => none

/-! ### they are the machine's -/
theorem limc {n : Nat} (h : n ≤ LIM) : n ≤ 16777216 := Nat.le_trans h (by decide)
section
variable {X : Cx}
abbrev RT (K : PySem.W.Frag) (ww : World) (H : Hp) (μ : List Addr) (st : Sto) (d : D) (st' : Sto) (Q : VK) : Prop := ∀ μ' H' v, Gr H μ H' μ' → Gd K ww H' μ' st' → Rep K H' μ' d v → Q v H'
/-- nothing new: the value and the same heap -/
theorem here {K : PySem.W.Frag} {ww : World} {H : Hp} {μ : List Addr} {st : Sto} {d : D} {Q : VK} {v : V} (k : ∀ μ' H' v, Gr H μ H' μ' → Gd K ww H' μ' st → Rep K H' μ' d v → Q v H') (g : Gd K ww H μ st) (r : Rep K H μ d v) : Q v H := k μ H v (Gr.refl H μ) g r
theorem ok_addI {K : PySem.W.Frag} {ww : World} : Ok2 K ww (fun x y H Q => (rI0 fun i j => V.int (i + j)) x y H Q ∨ (fun x y H Q => ∃ i j, x = V.str i ∧ y = .str j ∧ i.length + j.length ≤ sizeLine ∧ Q (.str (i ++ j)) H) x y H Q ∨ rCat x y H Q ∨ rCatA K x y H Q) addO := by
  intro H μ st x y vx vy d st' Q g rx ry hv k
  cases x with
  | int i =>
    cases y with
    | int j =>
      simp only [Rep] at rx ry
      subst rx ry
      cases hv
      exact .inl ⟨i, j, rfl, rfl, here k g (by simp only [Rep])⟩
    | _ => cases hv
  | str a =>
    cases y with
    | str b =>
      simp only [Rep] at rx ry
      subst rx ry
      simp only [addO] at hv
      split at hv
      · rename_i hl
        cases hv
        exact .inr (.inl ⟨a, b, rfl, rfl, lim_ok hl, here k g (by simp only [Rep])⟩)
      · cases hv
    | _ => cases hv
  | loc n =>
    cases y with
    | loc m =>
      simp only [Rep] at rx ry
      obtain ⟨p, rfl, hp⟩ := rx
      obtain ⟨q, rfl, hq⟩ := ry
      simp only [addO] at hv
      split at hv
      · rename_i xs ys e1 e2
        split at hv
        · rename_i hl
          cases hv
          obtain ⟨vs, h1, r1⟩ := g.getM hp e1
          obtain ⟨ws, h2, r2⟩ := g.getM hq e2
          exact .inr (.inr (.inl ⟨p, q, vs, ws, rfl, rfl, h1, h2, lim_ok (by rw [← r1.len, ← r2.len]; exact hl), new_lst g (r1.app r2) k⟩))
        · cases hv
      · cases hv
    | _ => cases hv
  | tup xs =>
    cases y with
    | tup ys =>
      simp only [addO] at hv
      split at hv
      · rename_i hl
        cases hv
        have rx' := rx
        have ry' := ry
        simp only [Rep] at rx ry
        obtain ⟨p, vs, rfl, ⟨h1, _⟩, r1⟩ := rx
        obtain ⟨q, ws, rfl, ⟨h2, _⟩, r2⟩ := ry
        have ev : vs = [] ↔ xs = [] := by rw [← List.length_eq_zero_iff, ← r1.len, List.length_eq_zero_iff]
        have ew : ws = [] ↔ ys = [] := by rw [← List.length_eq_zero_iff, ← r2.len, List.length_eq_zero_iff]
        refine .inr (.inr (.inr ⟨p, q, vs, ws, rfl, rfl, h1, h2, lim_ok (by rw [← r1.len, ← r2.len]; exact hl.1), fun e => ?_, fun _ e => ?_, fun _ _ => new_tupP g hl.2 (r1.app r2) k⟩))
        · rw [ev.mp e] at k
          exact here k g (by simpa using ry')
        · rw [ew.mp e, List.append_nil] at k
          exact here k g rx'
      · cases hv
    | _ => cases hv
  | non => cases hv
  | bl _ => cases hv
theorem op_addA : OpR X (binaryOp .Add) (fun x y H Q => (rI0 fun i j => V.int (i + j)) x y H Q ∨ (fun x y H Q => ∃ i j, x = V.str i ∧ y = .str j ∧ i.length + j.length ≤ sizeLine ∧ Q (.str (i ++ j)) H) x y H Q ∨ rCat x y H Q ∨ rCatA X.K x y H Q) := op_add.or (op_add_str.or (op_cat.or op_catA))
theorem ok_int {K : PySem.W.Frag} {ww : World} {C : Int → Int → Prop} {c : Int → Int → Bool} {g : Int → Int → Int} (hc : ∀ i j, c i j = true → C i j) : Ok2 K ww (rI C fun i j => .int (g i j)) (intO c g) := by
  intro H μ st x y vx vy d st' Q gd rx ry hv k
  cases x with
  | int i =>
    cases y with
    | int j =>
      simp only [Rep] at rx ry
      subst rx ry
      simp only [intO] at hv
      split at hv
      · rename_i h
        cases hv
        exact ⟨i, j, rfl, rfl, hc i j h, here k gd (by simp only [Rep])⟩
      · cases hv
    | _ => cases hv
  | _ => cases hv
theorem ok_int0 {K : PySem.W.Frag} {ww : World} {g : Int → Int → Int} : Ok2 K ww (rI0 fun i j => .int (g i j)) (intO cT g) := by
  intro H μ st x y vx vy d st' Q gd rx ry hv k
  obtain ⟨i, j, h1, h2, _, q⟩ := ok_int (K := K) (C := fun _ _ => True) (c := cT) (g := g) (fun _ _ _ => True.intro) H μ st x y vx vy d st' Q gd rx ry hv k
  exact ⟨i, j, h1, h2, q⟩
theorem ok_rel {K : PySem.W.Frag} {ww : World} {p : Int → Int → Bool} : Ok2 K ww (rI0 fun i j => .bl (p i j)) (relO p) := by
  intro H μ st x y vx vy d st' Q gd rx ry hv k
  cases x with
  | int i =>
    cases y with
    | int j =>
      simp only [Rep] at rx ry
      subst rx ry
      cases hv
      exact ⟨i, j, rfl, rfl, here k gd (by simp only [Rep])⟩
    | _ => cases hv
  | _ => cases hv
section
variable {a b : Expr} {f g : SE} {pos : Pos}
theorem e_add (ha : PE X a (rdE X.K X.w f)) (hb : PE X b (rdE X.K X.w g)) : PE X (.BinOp a .Add b pos) (rdE X.K X.w (binF addO f g)) := se_bin op_addA ok_addI ha hb
theorem e_sub (ha : PE X a (rdE X.K X.w f)) (hb : PE X b (rdE X.K X.w g)) : PE X (.BinOp a .Sub b pos) (rdE X.K X.w (binF subO f g)) := se_bin op_sub ok_int0 ha hb
theorem e_mul (ha : PE X a (rdE X.K X.w f)) (hb : PE X b (rdE X.K X.w g)) : PE X (.BinOp a .Mult b pos) (rdE X.K X.w (binF mulO f g)) := se_bin op_mul (ok_int fun i j h => by
  simp only [cMul, Bool.or_eq_true, Bool.and_eq_true, decide_eq_true_eq] at h
  exact h) ha hb
theorem e_fdiv (ha : PE X a (rdE X.K X.w f)) (hb : PE X b (rdE X.K X.w g)) : PE X (.BinOp a .FloorDiv b pos) (rdE X.K X.w (binF fdivO f g)) := se_bin op_fdiv (ok_int fun i j h => by
  simp only [cDiv, Bool.and_eq_true, decide_eq_true_eq] at h
  exact h) ha hb
theorem e_mod (ha : PE X a (rdE X.K X.w f)) (hb : PE X b (rdE X.K X.w g)) : PE X (.BinOp a .Mod b pos) (rdE X.K X.w (binF modO f g)) := se_bin op_mod (ok_int fun i j h => by
  simp only [cPos, decide_eq_true_eq] at h
  exact h) ha hb
theorem e_pow (ha : PE X a (rdE X.K X.w f)) (hb : PE X b (rdE X.K X.w g)) : PE X (.BinOp a .Pow b pos) (rdE X.K X.w (binF powO f g)) := se_bin op_pow (ok_int fun i j h => by
  simp only [cPow, Bool.and_eq_true, decide_eq_true_eq] at h
  exact ⟨h.1.1, h.1.2, h.2⟩) ha hb
theorem e_neg (ha : PE X a (rdE X.K X.w f)) : PE X (.UnaryOp .USub a pos) (rdE X.K X.w (unF negO f)) := se_un un_neg (by
  intro H μ st x vx d st' Q gd rx hv k
  cases x with
  | int i =>
    simp only [Rep] at rx
    subst rx
    cases hv
    exact ⟨i, rfl, here k gd (by simp only [Rep])⟩
  | _ => cases hv) ha
end
/-! comparisons: the rule, that it fits, that a bool comes back -/
structure Cmp (X : Cx) (op : CmpOp) (o : Op2) : Prop where
  ex : ∃ r, OpR X (compareOp op) r ∧ Ok2 X.K X.w r o
  bl : ∀ x y st d st', o x y st = some (d, st') → ∃ b, d = .bl b
theorem rel_bl {p : Int → Int → Bool} : ∀ x y st d st', relO p x y st = some (d, st') → ∃ b, d = .bl b := fun x y st d st' h => by
  unfold relO at h
  split at h
  · cases h; exact ⟨_, rfl⟩
  · cases h
theorem cm_lt : Cmp X .Lt ltO := ⟨⟨_, op_lt, ok_rel⟩, rel_bl⟩
theorem cm_le : Cmp X .LtE leO := ⟨⟨_, op_le, ok_rel⟩, rel_bl⟩
theorem cm_gt : Cmp X .Gt gtO := ⟨⟨_, op_gt, ok_rel⟩, rel_bl⟩
theorem cm_ge : Cmp X .GtE geO := ⟨⟨_, op_ge, ok_rel⟩, rel_bl⟩
mutual
theorem py_dp {K : PySem.W.Frag} {ww : World} {H : Hp} {μ : List Addr} {st : Sto} (g : Gd K ww H μ st) : ∀ (n : Nat) (d : D) (v : V) (p : PyData), py st n d = some p → Rep K H μ d v → Dp K H v p
  | n, .non, v, p, h, r => by simp only [py] at h; simp only [Rep] at r; cases h; subst r; exact .non
  | n, .bl b, v, p, h, r => by simp only [py] at h; simp only [Rep] at r; cases h; subst r; exact .bl b
  | n, .int b, v, p, h, r => by simp only [py] at h; simp only [Rep] at r; cases h; subst r; exact .int b
  | n, .str b, v, p, h, r => by simp only [py] at h; simp only [Rep] at r; cases h; subst r; exact .str b
  | n, .tup xs, v, p, h, r => by
    simp only [py] at h
    simp only [Rep] at r
    obtain ⟨a, vs, rfl, s, rs⟩ := r
    cases e : pys st n xs with
    | none => rw [e] at h; cases h
    | some ps =>
      rw [e] at h
      cases h
      exact .tup s.1 (pys_dp g n xs vs ps e rs)
  | 0, .loc k, v, p, h, r => by simp only [py] at h; cases h
  | n + 1, .loc k, v, p, h, r => by
    simp only [py] at h
    simp only [Rep] at r
    obtain ⟨a, rfl, ha⟩ := r
    split at h
    · cases h
    · rename_i xs e1
      obtain ⟨vs, s, rs⟩ := g.getL ha e1
      cases e : pys st n xs with
      | none => rw [e] at h; cases h
      | some ps =>
        rw [e] at h
        cases h
        exact .lst s (pys_dp g n xs vs ps e rs)
  termination_by n d => (n, sizeOf d)
theorem pys_dp {K : PySem.W.Frag} {ww : World} {H : Hp} {μ : List Addr} {st : Sto} (g : Gd K ww H μ st) : ∀ (n : Nat) (ds : List D) (vs : List V) (ps : List PyData), pys st n ds = some ps → Reps K H μ ds vs → DpAll K H vs ps
  | n, [], vs, ps, h, r => by simp only [pys] at h; simp only [Reps] at r; cases h; subst r; exact .nil
  | n, d :: ds, vs, ps, h, r => by
    simp only [pys] at h
    simp only [Reps] at r
    obtain ⟨v, ws, rfl, r1, r2⟩ := r
    split at h
    · rename_i p qs e1 e2
      cases h
      exact .cons (py_dp g n d v p e1 r1) (pys_dp g n ds ws qs e2 r2)
    · cases h
  termination_by n d => (n, sizeOf d)
end
theorem eqS_ok {K : PySem.W.Frag} {H : Hp} {μ : List Addr} {x y : D} {vx vy : V} {b : Bool} (rx : Rep K H μ x vx) (ry : Rep K H μ y vy) (h : eqS x y = some b) : scal vx vy = true ∧ decide (vx = vy) = b := by
  cases x <;> cases y <;> first
    | (exfalso; cases h; done)
    | (simp only [Rep] at rx ry; subst rx ry; cases h; exact ⟨rfl, by simp⟩)
theorem cm_eq (hu : X.A.units + 64 < cLine) : Cmp X .Eq (eqO false) := ⟨⟨_, op_eq.or (op_eqD hu), by
  intro H μ st x y vx vy d st' Q g rx ry hv k
  unfold eqO at hv
  split at hv
  · rename_i b e
    cases hv
    obtain ⟨h1, h2⟩ := eqS_ok rx ry e
    refine .inl ⟨h1, ?_⟩
    rw [h2]
    exact here k g (by simp [Rep])
  · split at hv
    · rename_i p q e1 e2
      split at hv
      · rename_i hs
        cases hv
        exact .inr ⟨p, q, py_dp g _ _ _ _ e1 rx, py_dp g _ _ _ _ e2 ry, hs.1, hs.2, here k g (by simp [Rep])⟩
      · cases hv
    · cases hv⟩, fun x y st d st' h => by
  unfold eqO at h
  repeat' split at h
  all_goals first | (cases h; exact ⟨_, rfl⟩) | cases h⟩
theorem cm_ne (hu : X.A.units + 64 < cLine) : Cmp X .NotEq (eqO true) := ⟨⟨_, op_ne.or (op_neD hu), by
  intro H μ st x y vx vy d st' Q g rx ry hv k
  unfold eqO at hv
  split at hv
  · rename_i b e
    cases hv
    obtain ⟨h1, h2⟩ := eqS_ok rx ry e
    refine .inl ⟨h1, ?_⟩
    rw [h2]
    exact here k g (by simp [Rep])
  · split at hv
    · rename_i p q e1 e2
      split at hv
      · rename_i hs
        cases hv
        exact .inr ⟨p, q, py_dp g _ _ _ _ e1 rx, py_dp g _ _ _ _ e2 ry, hs.1, hs.2, here k g (by simp [Rep])⟩
      · cases hv
    · cases hv⟩, fun x y st d st' h => by
  unfold eqO at h
  repeat' split at h
  all_goals first | (cases h; exact ⟨_, rfl⟩) | cases h⟩
def nonD : D → Bool
  | .non => true
  | _ => false
theorem rep_non {K : PySem.W.Frag} {H : Hp} {μ : List Addr} {x : D} {v : V} (r : Rep K H μ x v) : decide (v = .non) = nonD x := by
  cases x with
  | non => simp only [Rep] at r; subst r; rfl
  | bl _ => simp only [Rep] at r; subst r; rfl
  | int _ => simp only [Rep] at r; subst r; rfl
  | str _ => simp only [Rep] at r; subst r; rfl
  | tup _ => simp only [Rep] at r; obtain ⟨_, _, rfl, _⟩ := r; rfl
  | loc _ => simp only [Rep] at r; obtain ⟨_, rfl, _⟩ := r; rfl
theorem isN_eq {x : D} {neg : Bool} {st : Sto} : isNO neg x .non st = some (.bl (nonD x != neg), st) := by cases x <;> rfl
theorem isN_bl {neg : Bool} : ∀ x y st d st', isNO neg x y st = some (d, st') → ∃ b, d = .bl b := fun x y st d st' h => by
  unfold isNO at h
  repeat' split at h
  all_goals first | (cases h; exact ⟨_, rfl⟩) | cases h
theorem cm_isN : Cmp X .Is (isNO false) := ⟨⟨_, op_isN, by
  intro H μ st x y vx vy d st' Q g rx ry hv k
  cases y with
  | non =>
    simp only [Rep] at ry
    rw [isN_eq] at hv
    cases hv
    refine ⟨ry, ?_⟩
    rw [rep_non rx]
    exact here k g (by simp [Rep])
  | _ => cases hv⟩, isN_bl⟩
theorem cm_notN : Cmp X .IsNot (isNO true) := ⟨⟨_, op_notN, by
  intro H μ st x y vx vy d st' Q g rx ry hv k
  cases y with
  | non =>
    simp only [Rep] at ry
    rw [isN_eq] at hv
    cases hv
    refine ⟨ry, ?_⟩
    rw [rep_non rx]
    exact here k g (by simp [Rep])
  | _ => cases hv⟩, isN_bl⟩
theorem flat_of {K : PySem.W.Frag} {H : Hp} {μ : List Addr} {x : D} {v : V} (r : Rep K H μ x v) (h : scalD x = true) : flatV v = true := by
  cases x <;> first | (cases h; done) | (simp only [Rep] at r; subst r; rfl)
theorem flats_of {K : PySem.W.Frag} {H : Hp} {μ : List Addr} : ∀ {xs : List D} {vs : List V}, Reps K H μ xs vs → xs.all scalD = true → vs.all flatV = true
  | [], vs, r, h => by simp only [Reps] at r; subst r; rfl
  | x :: xs, vs, r, h => by
    simp only [Reps] at r
    obtain ⟨v, ws, rfl, r1, r2⟩ := r
    simp only [List.all_cons, Bool.and_eq_true] at h ⊢
    exact ⟨flat_of r1 h.1, flats_of r2 h.2⟩
theorem eqF_of {K : PySem.W.Frag} {H : Hp} {μ : List Addr} {x y : D} {vx vy : V} (rx : Rep K H μ x vx) (ry : Rep K H μ y vy) (hx : scalD x = true) (hy : scalD y = true) : eqV vy vx = eqF y x := by
  cases x <;> cases y <;> first | (cases hx; done) | (cases hy; done) | (simp only [Rep] at rx ry; subst rx ry; rfl)
theorem inF_of {K : PySem.W.Frag} {H : Hp} {μ : List Addr} {x : D} {vx : V} (rx : Rep K H μ x vx) (hx : scalD x = true) : ∀ {xs : List D} {vs : List V}, Reps K H μ xs vs → xs.all scalD = true → inV vx vs = inF x xs
  | [], vs, r, h => by simp only [Reps] at r; subst r; rfl
  | y :: xs, vs, r, h => by
    simp only [Reps] at r
    obtain ⟨v, ws, rfl, r1, r2⟩ := r
    simp only [List.all_cons, Bool.and_eq_true] at h
    have ih := inF_of rx hx r2 h.2
    unfold inV inF at ih ⊢
    rw [List.any_cons, List.any_cons, ih, eqF_of rx r1 hx h.1]
theorem in_bl {neg : Bool} : ∀ x y st d st', inO neg x y st = some (d, st') → ∃ b, d = .bl b := fun x y st d st' h => by
  unfold inO at h
  repeat' split at h
  all_goals first | (cases h; exact ⟨_, rfl⟩) | cases h
theorem ok_in {K : PySem.W.Frag} {ww : World} (neg : Bool) : Ok2 K ww (fun x y H Q => (fun x y H Q => ∃ i j, x = V.str i ∧ y = .str j ∧ Q (.bl ((!(Builtin.Str.occurrences j i 0 j.length 1).isEmpty) != neg)) H) x y H Q ∨ rIn K neg x y H Q ∨ (fun x y H Q => ∃ d ds, Dp K H x d ∧ Dp K H y (.list ds) ∧ SeqAt.shaped d = true ∧ SeqAt.shaped (.list ds) = true ∧ Q (.bl ((ds.any fun z => PyData.eqv z d) != neg)) H) x y H Q) (inO neg) := by
  have nb : ∀ b : Bool, (b != neg) = if neg then !b else b := fun b => by cases b <;> cases neg <;> rfl
  intro H μ st x y vx vy d st' Q g rx ry hv k
  cases y with
  | str b =>
    cases x with
    | str a =>
      cases hv
      simp only [Rep] at rx ry
      subst rx ry
      exact .inl ⟨a, b, rfl, rfl, here k g (by simp only [Rep])⟩
    | _ => cases hv
  | tup ys =>
    simp only [inO] at hv
    split at hv
    · rename_i hs
      cases hv
      simp only [Rep] at ry
      obtain ⟨p, vs, rfl, ⟨s, _⟩, rs⟩ := ry
      refine .inr (.inl ⟨p, vs, rfl, .inr s, flat_of rx hs.1, flats_of rs hs.2, ?_⟩)
      rw [← nb, inF_of rx hs.1 rs hs.2]
      exact here k g (by simp only [Rep])
    · cases hv
  | loc n =>
    simp only [inO] at hv
    split at hv
    · cases hv
    · rename_i ys e1
      split at hv
      · rename_i hs
        cases hv
        simp only [Rep] at ry
        obtain ⟨p, rfl, hp⟩ := ry
        obtain ⟨vs, s, rs⟩ := g.getL hp e1
        refine .inr (.inl ⟨p, vs, rfl, .inl s, flat_of rx hs.1, flats_of rs hs.2, ?_⟩)
        rw [← nb, inF_of rx hs.1 rs hs.2]
        exact here k g (by simp only [Rep])
      · split at hv
        · rename_i p qs e2 e3
          split at hv
          · rename_i hs
            cases hv
            exact .inr (.inr ⟨p, qs, py_dp g _ _ _ _ e2 rx, py_dp g _ _ _ _ e3 ry, hs.1, hs.2, here k g (by simp only [Rep])⟩)
          · cases hv
        · cases hv
  | _ => cases hv
theorem cm_in (hu : X.A.units + 65 < cLine) : Cmp X .In (inO false) := ⟨⟨_, OpR.or (r := fun x y H Q => ∃ i j, x = V.str i ∧ y = .str j ∧ Q (.bl ((!(Builtin.Str.occurrences j i 0 j.length 1).isEmpty) != false)) H)
    (fun pins s σ H x y v u Q I rx ry ⟨i, j, e1, e2, q⟩ => op_in_str pins s σ H x y v u Q I rx ry ⟨i, j, e1, e2, by rw [Bool.bne_false] at q; exact q⟩) (op_in_seq.or fun pins s σ H x y v u Q I rx ry ⟨d, ds, h1, h2, h3, h4, q⟩ => op_inD hu pins s σ H x y v u Q I rx ry ⟨d, ds, h1, h2, h3, h4, by rw [Bool.bne_false] at q; exact q⟩), ok_in false⟩, in_bl⟩
theorem cm_notin (hu : X.A.units + 65 < cLine) : Cmp X .NotIn (inO true) := ⟨⟨_, OpR.or (r := fun x y H Q => ∃ i j, x = V.str i ∧ y = .str j ∧ Q (.bl ((!(Builtin.Str.occurrences j i 0 j.length 1).isEmpty) != true)) H)
    (fun pins s σ H x y v u Q I rx ry ⟨i, j, e1, e2, q⟩ => op_notIn_str pins s σ H x y v u Q I rx ry ⟨i, j, e1, e2, by rw [Bool.bne_true] at q; exact q⟩) (op_notIn_seq.or fun pins s σ H x y v u Q I rx ry ⟨d, ds, h1, h2, h3, h4, q⟩ => op_notInD hu pins s σ H x y v u Q I rx ry ⟨d, ds, h1, h2, h3, h4, by rw [Bool.bne_true] at q; exact q⟩), ok_in true⟩, in_bl⟩
section
variable {a b c : Expr} {f g h : SE} {pos : Pos} {op op' : CmpOp} {o o' : Op2}
theorem e_cmp (hc : Cmp X op o) (ha : PE X a (rdE X.K X.w f)) (hb : PE X b (rdE X.K X.w g)) (hm : behindInMarks op b = false := by first | exact nobehind _ (by decide) (by decide) | rfl) : PE X (.Compare a [op] [b] pos) (rdE X.K X.w (binF o f g)) :=
  let ⟨_, h1, h2⟩ := hc.ex
  se_cmp h1 h2 ha hb hm
theorem t_cmp (hc : Cmp X op o) (ha : PE X a (rdE X.K X.w f)) (hb : PE X b (rdE X.K X.w g)) (hm : behindInMarks op b = false := by first | exact nobehind _ (by decide) (by decide) | rfl) : PT X (.Compare a [op] [b] pos) (rdT X.K X.w (cmpT o f g)) :=
  let ⟨_, h1, h2⟩ := hc.ex
  st_cmp h1 h2 hc.bl ha hb hm
/-- a op b op' c, as a value -/
def chnF (o o' : Op2) (f g h : SE) : SE := fun σ st => bnd (f σ st) fun x s1 => bnd (g σ s1) fun y s2 => bnd (o x y s2) fun z s3 => match z with
  | .bl true => bnd (h σ s3) fun w s4 => o' y w s4
  | .bl false => some (.bl false, s3)
  | _ => none
theorem e_chain (hc : Cmp X op o) (hc' : Cmp X op' o') (ha : PE X a (rdE X.K X.w f)) (hb : PE X b (rdE X.K X.w g)) (h3 : PE X c (rdE X.K X.w h)) (hl : lastMarks [op, op'] [b, c] = false := by rfl) : PE X (.Compare a [op, op'] [b, c] pos) (rdE X.K X.w (chnF o o' f g h)) := by
  obtain ⟨r, p1, p2⟩ := hc.ex
  obtain ⟨r', q1, q2⟩ := hc'.ex
  refine (pe_chain p1 q1 ha hb h3 hl).weak fun τ H Q ⟨μ, st, σ, d, st', gd, er, hv, k⟩ => ?_
  obtain ⟨x, s1, e1, hv⟩ := bnd_eq hv
  obtain ⟨y, s2, e2, hv⟩ := bnd_eq hv
  obtain ⟨z, s3, e3, hv⟩ := bnd_eq hv
  refine ⟨μ, st, σ, x, s1, gd, er, e1, fun μ1 H1 vx g1 d1 r1 => ?_⟩
  refine ⟨μ1, s1, σ, y, s2, d1, er.m g1, e2, fun μ2 H2 vy g2 d2 r2 => ?_⟩
  refine p2 H2 μ2 s2 x y vx vy z s3 _ d2 (r1.m g2) r2 e3 fun μ3 H3 vz g3 d3 r3 => ?_
  obtain ⟨bb, rfl⟩ := hc.bl _ _ _ _ _ e3
  simp only [Rep] at r3
  refine ⟨bb, r3, ?_⟩
  cases bb with
  | false =>
    cases hv
    exact k μ3 H3 _ ((g1.trans g2).trans g3) d3 (by simp only [Rep])
  | true =>
    show rdE X.K X.w h τ H3 _
    obtain ⟨w, s4, e4, hv⟩ := bnd_eq hv
    refine ⟨μ3, s3, σ, w, s4, d3, er.m ((g1.trans g2).trans g3), e4, fun μ4 H4 vw g4 d4 r4 => ?_⟩
    exact q2 H4 μ4 s4 y w vy vw d st' Q d4 (r2.m (g3.trans g4)) r4 hv fun μ5 H5 v g5 d5 r5 => k μ5 H5 v ((((g1.trans g2).trans g3).trans g4).trans g5) d5 r5
end
end
end Iv

namespace Iv
open PySem L2
section
variable {X : Cx} {K : PySem.W.Frag} {ww : World}
/-! ### an item -/
theorem ixN_lt {n : Nat} {i : Int} {j : Nat} (h : ixN n i = some j) : j < n := (ixN_seq h).2.1
theorem atI_rep {H : Hp} {μ : List Addr} {xs : List D} {vs : List V} {i : Int} {d : D} (r : Reps K H μ xs vs) (h : atI xs i = some d) : ∃ v, atI vs i = some v ∧ Rep K H μ d v := by
  unfold atI at h ⊢
  rw [← r.len]
  cases e : ixN xs.length i with
  | none => rw [e] at h; cases h
  | some j =>
    rw [e] at h
    obtain ⟨v, h1, h2⟩ := r.get h
    exact ⟨v, h1, h2⟩
theorem ok_ix : Ok2 K ww (rIx K) ixO := by
  intro H μ st x y vx vy d st' Q g rx ry hv k
  cases y with
  | int i =>
    simp only [Rep] at ry
    subst ry
    cases x with
    | loc n =>
      simp only [Rep] at rx
      obtain ⟨p, rfl, hp⟩ := rx
      simp only [ixO] at hv
      split at hv
      · cases hv
      · rename_i xs e
        obtain ⟨vs, s, rs⟩ := g.getL hp e
        cases e1 : atI xs i with
        | none => rw [e1] at hv; cases hv
        | some z =>
          rw [e1] at hv
          cases hv
          obtain ⟨v, h1, h2⟩ := atI_rep rs e1
          exact .inl ⟨p, vs, i, v, rfl, rfl, s, h1, here k g h2⟩
    | tup xs =>
      simp only [Rep] at rx
      obtain ⟨p, vs, rfl, ⟨s, _⟩, rs⟩ := rx
      simp only [ixO] at hv
      cases e1 : atI xs i with
      | none => rw [e1] at hv; cases hv
      | some z =>
        rw [e1] at hv
        cases hv
        obtain ⟨v, h1, h2⟩ := atI_rep rs e1
        exact .inr (.inl ⟨p, vs, i, v, rfl, rfl, s, h1, here k g h2⟩)
    | str z =>
      simp only [Rep] at rx
      subst rx
      simp only [ixO] at hv
      split at hv
      · rename_i hl
        cases e1 : atI z.cps.toList i with
        | none => rw [e1] at hv; cases hv
        | some c =>
          rw [e1] at hv
          cases hv
          exact .inr (.inr ⟨z, i, c, rfl, rfl, lim_ok hl, e1, here k g (by simp only [Rep])⟩)
      · cases hv
    | _ => cases hv
  | _ => cases x <;> cases hv
theorem e_ix {a b : Expr} {f g : SE} {pos : Pos} (ha : PE X a (rdE X.K X.w f)) (hb : PE X b (rdE X.K X.w g)) (hs : PlainIx b := by exact fun _ _ => rfl) : PE X (.Subscript a b pos) (rdE X.K X.w (binF ixO f g)) := se_ix ix_seq ok_ix ha hb hs
/-! ### built-in functions -/
theorem ok_len : OkN K ww (fun xs H Q => ∃ x n, xs = [x] ∧ LenV K x H n ∧ Q (.int n) H) lenO := by
  intro H μ st xs vs d st' Q g r hv k
  unfold lenO at hv
  split at hv
  · rename_i x st1
    split at hv
    · rename_i hl
      cases hv
      obtain ⟨v, rfl, rv⟩ := reps1 r
      simp only [Rep] at rv
      subst rv
      exact ⟨_, _, rfl, ⟨lim_ok hl, rfl⟩, here k g (by simp only [Rep])⟩
    · cases hv
  · rename_i ys
    cases hv
    obtain ⟨v, rfl, rv⟩ := reps1 r
    simp only [Rep] at rv
    obtain ⟨p, ws, rfl, ⟨s, _⟩, rs⟩ := rv
    exact ⟨_, _, rfl, .inr ⟨ws, s, rs.len⟩, here k g (by simp only [Rep])⟩
  · rename_i n
    obtain ⟨v, rfl, rv⟩ := reps1 r
    simp only [Rep] at rv
    obtain ⟨p, rfl, hp⟩ := rv
    cases e : getL st n with
    | none => rw [e] at hv; cases hv
    | some ys =>
      rw [e] at hv
      cases hv
      obtain ⟨ws, s, rs⟩ := g.getL hp e
      exact ⟨_, ys.length, rfl, .inl ⟨ws, s, rs.len⟩, here k g (by simp only [Rep])⟩
  · cases hv
theorem e_len {p pos : Pos} {e : Expr} {f : SA} (hg : Gl X "len") (hm : X.mg "len" = none) (ha : PA X [e] (rdA X.K X.w f)) (he : starEach [e] X.env = (false, eval e X.env) :: starEach [] X.env := by rfl) : PE X (.Call (.Name "len" p) [e] [] pos) (rdE X.K X.w (appF lenO f)) :=
  se_callB call_len ok_len hg hm PySem.boot_len ha (he := he)
theorem ok_intOf : OkN K ww (fun xs H Q => ((∃ i, xs = [.int i] ∧ Q (.int i) H) ∨ ∃ k, xs = [.bl k] ∧ Q (.int (if k then 1 else 0)) H) ∨ ∃ a n, xs = [.str a] ∧ PySem.intText? a = some n ∧ a.length ≤ 640 ∧ Q (.int n) H) intOf := by
  intro H μ st xs vs d st' Q g r hv k
  unfold intOf at hv
  split at hv
  · cases hv
    obtain ⟨v, rfl, rv⟩ := reps1 r
    simp only [Rep] at rv
    subst rv
    exact .inl (.inl ⟨_, rfl, here k g (by simp only [Rep])⟩)
  · cases hv
    obtain ⟨v, rfl, rv⟩ := reps1 r
    simp only [Rep] at rv
    subst rv
    exact .inl (.inr ⟨_, rfl, here k g (by simp only [Rep])⟩)
  · split at hv
    · rename_i n e
      split at hv
      · rename_i hl
        cases hv
        obtain ⟨v, rfl, rv⟩ := reps1 r
        simp only [Rep] at rv
        subst rv
        exact .inr ⟨_, n, rfl, e, hl, here k g (by simp only [Rep])⟩
      · cases hv
    · cases hv
  · cases hv
theorem e_int {p pos : Pos} {e : Expr} {f : SA} (hg : Gl X "int") (hm : X.mg "int" = none) (ha : PA X [e] (rdA X.K X.w f)) (he : starEach [e] X.env = (false, eval e X.env) :: starEach [] X.env := by rfl) : PE X (.Call (.Name "int" p) [e] [] pos) (rdE X.K X.w (appF intOf f)) :=
  se_callTy (call_int1.or call_int_str) ok_intOf hg hm (by decide +kernel) ha (he := he)
theorem ok_abs : OkN K ww (fun xs H Q => ∃ i, xs = [.int i] ∧ Q (.int (if i < 0 then -i else i)) H) absO := by
  intro H μ st xs vs d st' Q g r hv k
  unfold absO at hv
  split at hv
  · cases hv
    obtain ⟨v, rfl, rv⟩ := reps1 r
    simp only [Rep] at rv
    subst rv
    exact ⟨_, rfl, here k g (by simp only [Rep])⟩
  · cases hv
theorem e_abs {p pos : Pos} {e : Expr} {f : SA} (hg : Gl X "abs") (hm : X.mg "abs" = none) (ha : PA X [e] (rdA X.K X.w f)) (he : starEach [e] X.env = (false, eval e X.env) :: starEach [] X.env := by rfl) : PE X (.Call (.Name "abs" p) [e] [] pos) (rdE X.K X.w (appF absO f)) :=
  se_callB call_abs ok_abs hg hm (by decide +kernel) ha (he := he)
theorem ok_strOf : OkN K ww (fun xs H Q => (∃ i, xs = [.int i] ∧ i.natAbs.log2 < 1920 ∧ Q (.str (toString i)) H) ∨ ∃ a, xs = [.str a] ∧ Q (.str a) H) strOf := by
  intro H μ st xs vs d st' Q g r hv k
  unfold strOf at hv
  split at hv
  · split at hv
    · rename_i hl
      cases hv
      obtain ⟨v, rfl, rv⟩ := reps1 r
      simp only [Rep] at rv
      subst rv
      exact .inl ⟨_, rfl, hl, here k g (by simp only [Rep])⟩
    · cases hv
  · cases hv
    obtain ⟨v, rfl, rv⟩ := reps1 r
    simp only [Rep] at rv
    subst rv
    exact .inr ⟨_, rfl, here k g (by simp only [Rep])⟩
  · cases hv
theorem e_str {p pos : Pos} {e : Expr} {f : SA} (hg : Gl X "str") (hm : X.mg "str" = none) (ha : PA X [e] (rdA X.K X.w f)) (he : starEach [e] X.env = (false, eval e X.env) :: starEach [] X.env := by rfl) : PE X (.Call (.Name "str" p) [e] [] pos) (rdE X.K X.w (appF strOf f)) :=
  se_callTy (call_str_int.or SkE.call_str_str) ok_strOf hg hm (by decide +kernel) ha (he := he)
/-- tuple(l), the object told -/
def rTupN (K : PySem.W.Frag) : List V → Hp → VK → Prop := fun xs H Q => ∃ p ys, xs = [.ref p] ∧ ((SqL K H p ys ∧ ∀ (l : Addr) (o : Obj), H l = none → o.cls = .type "tuple" → o.dict = none → Q (.ref l) (upd H l (.frz o (.tup ys)))) ∨ (SqT K H p ys ∧ Q (.ref p) H))
theorem cr_tupN : CallR X (.type "tuple") (rTupN X.K) := fun pins s σ H xs us Q I r ⟨p, ys, ex, h⟩ => by
  subst ex
  obtain ⟨u, rfl, rx⟩ := vals1 r
  cases rx
  rcases h with ⟨a1, a2⟩ | ⟨a1, a2⟩
  · obtain ⟨its, rv, pl, hz⟩ := I.list a1
    refine call_tuple_list pl.isList (fun h2 kp => ?_) (by have := rv.length; simp only [List.size_toArray] <;> omega)
    have J := I.kept (t' := s.toks) kp
    exact ⟨.ref h2.objs.size, _, J.laid (t' := s.toks) (h' := h2.push { cls := .type "tuple", data := .seq its.toArray }) (o := .frz _ (.tup ys)) (fun b o e => Heap.get?_push_of_some _ e) (Nat.le_refl _) ⟨Heap.get?_push_size _ rfl, hz, its, rv, ⟨_, Heap.get?_push_size _ rfl, rfl, _, rfl⟩⟩, rfl, a2 _ _ (J.hok.fresh (Nat.le_refl _)) rfl rfl⟩
  · obtain ⟨its, rv, pl, hz⟩ := I.tuple a1
    exact call_tuple_same pl ⟨.ref p, H, I, rfl, a2⟩
theorem ok_tupleO : OkN K ww (rTupN K) tupleO := by
  intro H μ st xs vs d st' Q g r hv k
  unfold tupleO at hv
  split at hv
  · rename_i n
    obtain ⟨v, rfl, rv⟩ := reps1 r
    simp only [Rep] at rv
    obtain ⟨p, rfl, hp⟩ := rv
    cases e : getL st n with
    | none => rw [e] at hv; cases hv
    | some ys =>
      rw [e] at hv
      cases hv
      obtain ⟨ws, s, rs⟩ := g.getL hp e
      exact ⟨p, ws, rfl, .inl ⟨s, new_tup g rs k⟩⟩
  · cases hv
    obtain ⟨v, rfl, rv⟩ := reps1 r
    have rv' := rv
    simp only [Rep] at rv
    obtain ⟨p, ws, rfl, ⟨s, _⟩, rs⟩ := rv
    exact ⟨p, ws, rfl, .inr ⟨s, here k g rv'⟩⟩
  · cases hv
theorem e_tuple {p pos : Pos} {e : Expr} {f : SA} (hg : Gl X "tuple") (hm : X.mg "tuple" = none) (ha : PA X [e] (rdA X.K X.w f)) (he : starEach [e] X.env = (false, eval e X.env) :: starEach [] X.env := by rfl) : PE X (.Call (.Name "tuple" p) [e] [] pos) (rdE X.K X.w (appF tupleO f)) :=
  se_callTy cr_tupN ok_tupleO hg hm (by decide +kernel) ha (he := he)
theorem ok_listO : OkN K ww (fun xs H Q => ∃ p ys, xs = [.ref p] ∧ (SqL K H p ys ∨ SqT K H p ys) ∧ ∀ l, H l = none → Q (.ref l) (upd H l (.lst ys))) listO := by
  intro H μ st xs vs d st' Q g r hv k
  unfold listO at hv
  split at hv
  · rename_i n
    obtain ⟨v, rfl, rv⟩ := reps1 r
    simp only [Rep] at rv
    obtain ⟨p, rfl, hp⟩ := rv
    cases e : getL st n with
    | none => rw [e] at hv; cases hv
    | some ys =>
      rw [e] at hv
      cases hv
      obtain ⟨ws, s, rs⟩ := g.getL hp e
      exact ⟨p, ws, rfl, .inl s, new_lst g rs k⟩
  · cases hv
    obtain ⟨v, rfl, rv⟩ := reps1 r
    simp only [Rep] at rv
    obtain ⟨p, ws, rfl, ⟨s, _⟩, rs⟩ := rv
    exact ⟨p, ws, rfl, .inr s, new_lst g rs k⟩
  · cases hv
theorem e_list {p pos : Pos} {e : Expr} {f : SA} (hg : Gl X "list") (hm : X.mg "list" = none) (ha : PA X [e] (rdA X.K X.w f)) (he : starEach [e] X.env = (false, eval e X.env) :: starEach [] X.env := by rfl) : PE X (.Call (.Name "list" p) [e] [] pos) (rdE X.K X.w (appF listO f)) :=
  se_callTy call_list_of ok_listO hg hm (by decide +kernel) ha (he := he)
theorem bls_of {H : Hp} {μ : List Addr} : ∀ {xs : List D} {vs : List V} {bs : List Bool}, Reps K H μ xs vs → blsD xs = some bs → vs = bs.map V.bl
  | [], vs, bs, r, h => by simp only [Reps] at r; cases h; exact r
  | x :: xs, vs, bs, r, h => by
    simp only [Reps] at r
    obtain ⟨v, ws, rfl, r1, r2⟩ := r
    cases x with
    | bl b =>
      simp only [blsD] at h
      cases e : blsD xs with
      | none => rw [e] at h; cases h
      | some cs =>
        rw [e] at h
        cases h
        simp only [Rep] at r1
        rw [r1, bls_of r2 e]
        rfl
    | _ => cases h
theorem ok_any : OkN K ww (rAny K) (anyO false) := by
  intro H μ st xs vs d st' Q g r hv k
  unfold anyO at hv
  split at hv
  · rename_i n
    obtain ⟨v, rfl, rv⟩ := reps1 r
    simp only [Rep] at rv
    obtain ⟨p, rfl, hp⟩ := rv
    split at hv
    · cases hv
    · rename_i ys e
      cases e2 : blsD ys with
      | none => rw [e2] at hv; cases hv
      | some bs =>
        rw [e2] at hv
        cases hv
        obtain ⟨ws, s, rs⟩ := g.getL hp e
        rw [bls_of rs e2] at s
        exact ⟨p, bs, rfl, s, here k g (by simp [Rep])⟩
  · cases hv
theorem ok_all : OkN K ww (rAll K) (anyO true) := by
  intro H μ st xs vs d st' Q g r hv k
  unfold anyO at hv
  split at hv
  · rename_i n
    obtain ⟨v, rfl, rv⟩ := reps1 r
    simp only [Rep] at rv
    obtain ⟨p, rfl, hp⟩ := rv
    split at hv
    · cases hv
    · rename_i ys e
      cases e2 : blsD ys with
      | none => rw [e2] at hv; cases hv
      | some bs =>
        rw [e2] at hv
        cases hv
        obtain ⟨ws, s, rs⟩ := g.getL hp e
        rw [bls_of rs e2] at s
        exact ⟨p, bs, rfl, s, here k g (by simp [Rep])⟩
  · cases hv
theorem e_any {p pos : Pos} {e : Expr} {f : SA} (hc : X.calm = true) (hg : Gl X "any") (hm : X.mg "any" = none) (ha : PA X [e] (rdA X.K X.w f)) (he : starEach [e] X.env = (false, eval e X.env) :: starEach [] X.env := by rfl) : PE X (.Call (.Name "any" p) [e] [] pos) (rdE X.K X.w (appF (anyO false) f)) :=
  se_callB (cr_any hc) ok_any hg hm (by decide +kernel) ha (he := he)
theorem e_all {p pos : Pos} {e : Expr} {f : SA} (hc : X.calm = true) (hg : Gl X "all") (hm : X.mg "all" = none) (ha : PA X [e] (rdA X.K X.w f)) (he : starEach [e] X.env = (false, eval e X.env) :: starEach [] X.env := by rfl) : PE X (.Call (.Name "all" p) [e] [] pos) (rdE X.K X.w (appF (anyO true) f)) :=
  se_callB (cr_all hc) ok_all hg hm (by decide +kernel) ha (he := he)
theorem ok_max2 : OkN K ww (fun xs H Q => ∃ i j, xs = [.int i, .int j] ∧ Q (.int (if j > i then j else i)) H) max2O := by
  intro H μ st xs vs d st' Q g r hv k
  unfold max2O at hv
  split at hv
  · cases hv
    obtain ⟨v, w, rfl, rv, rw'⟩ := reps2 r
    simp only [Rep] at rv rw'
    subst rv rw'
    exact ⟨_, _, rfl, here k g (by simp only [Rep])⟩
  · cases hv
theorem ok_min2 : OkN K ww (fun xs H Q => ∃ i j, xs = [.int i, .int j] ∧ Q (.int (if j < i then j else i)) H) min2O := by
  intro H μ st xs vs d st' Q g r hv k
  unfold min2O at hv
  split at hv
  · cases hv
    obtain ⟨v, w, rfl, rv, rw'⟩ := reps2 r
    simp only [Rep] at rv rw'
    subst rv rw'
    exact ⟨_, _, rfl, here k g (by simp only [Rep])⟩
  · cases hv
theorem e_max2 {p pos : Pos} {e e2 : Expr} {f : SA} (hc : X.calm = true) (hg : Gl X "max") (hm : X.mg "max" = none) (ha : PA X [e, e2] (rdA X.K X.w f)) (he : starEach [e, e2] X.env = (false, eval e X.env) :: starEach [e2] X.env := by rfl) (hpl : (backTo pos (starEach [e2] X.env)).any (·.1) = false := by rfl) : PE X (.Call (.Name "max" p) [e, e2] [] pos) (rdE X.K X.w (appF max2O f)) :=
  se_callB (call_max2 hc) ok_max2 hg hm (by decide +kernel) ha (he := he) (hpl := hpl)
theorem e_min2 {p pos : Pos} {e e2 : Expr} {f : SA} (hc : X.calm = true) (hg : Gl X "min") (hm : X.mg "min" = none) (ha : PA X [e, e2] (rdA X.K X.w f)) (he : starEach [e, e2] X.env = (false, eval e X.env) :: starEach [e2] X.env := by rfl) (hpl : (backTo pos (starEach [e2] X.env)).any (·.1) = false := by rfl) : PE X (.Call (.Name "min" p) [e, e2] [] pos) (rdE X.K X.w (appF min2O f)) :=
  se_callB (call_min2 hc) ok_min2 hg hm (by decide +kernel) ha (he := he) (hpl := hpl)
/-! ### isinstance -/
theorem tyx_ref {H : Hp} {p : Addr} {vs : List V} (h : SqL K H p vs) : TyX K H (.ref p) (.type "list") := by
  rcases h with (h | ⟨o, h⟩) | ⟨o, its, n, h, c, _⟩
  · exact .base (.lst h)
  · exact .base (.frz h)
  · exact .kList h c
theorem tyx_tup {H : Hp} {p : Addr} {vs : List V} (h : SqT K H p vs) : TyX K H (.ref p) (.type "tuple") := by
  rcases h with (h | ⟨o, h⟩) | ⟨o, its, n, h, c, _⟩
  · exact .base (.tup h)
  · exact .fTuple h
  · exact .kTuple h c
def KitT (T : String) : Prop := kitB "NoneType" T = some false ∧ kitB "bool" T = some (T == "bool" || T == "int") ∧ kitB "int" T = some (T == "int") ∧ kitB "str" T = some (T == "str") ∧ kitB "tuple" T = some (T == "tuple") ∧ kitB "list" T = some (T == "list")
theorem e_isi {p q pos : Pos} {e : Expr} {f : SE} {T : String} {x : Str} (hT : KitT T) (hg : Gl X "isinstance") (hm : X.mg "isinstance" = none) (hgT : Gl X x) (hmT : X.mg x = none) (hvT : bootBuiltins x = some (.type T)) (ha : PE X e (rdE X.K X.w f))
    (hn : x ≠ "__name__" := by decide) (hdb : (x == ("__debug__" : Str)) = false := by decide) (he : starEach [e, .Name x q] X.env = (false, eval e X.env) :: starEach [.Name x q] X.env := by rfl) (hpl : (backTo pos (starEach [.Name x q] X.env)).any (·.1) = false := by rfl) (hs2 : starEach [.Name x q] X.env = (false, eval (.Name x q) X.env) :: starEach [] X.env := by rfl) : PE X (.Call (.Name "isinstance" p) [e, .Name x q] [] pos) (rdE X.K X.w (unF (isiO T) f)) :=
  (pe_callB call_isi hg hm (by decide +kernel) (pa_cons ha (pa_cons (pe_bltn (v := .ty T) hgT hmT hvT rfl hn hdb) pa_nil hs2) he) (by decide) (by decide) he hpl).weak fun τ H Q ⟨μ, st, σ, d, st', gd, er, hv, k⟩ => by
    obtain ⟨x, s1, h1, hv⟩ := bnd_eq hv
    obtain ⟨t1, t2, t3, t4, t5, t6⟩ := hT
    refine ⟨μ, st, σ, x, s1, gd, er, h1, fun μ1 H1 v g1 d1 r1 => ?_⟩
    cases x with
    | non => cases hv; simp only [Rep] at r1; subst r1; exact ⟨_, _, _, _, _, rfl, .ty T, .base .non, kit_ty t1, k μ1 H1 _ g1 d1 (by simp only [Rep, isi])⟩
    | bl b => cases hv; simp only [Rep] at r1; subst r1; exact ⟨_, _, _, _, _, rfl, .ty T, .base (.bl b), kit_ty t2, k μ1 H1 _ g1 d1 (by simp only [Rep, isi])⟩
    | int b => cases hv; simp only [Rep] at r1; subst r1; exact ⟨_, _, _, _, _, rfl, .ty T, .base (.int b), kit_ty t3, k μ1 H1 _ g1 d1 (by simp only [Rep, isi])⟩
    | str b => cases hv; simp only [Rep] at r1; subst r1; exact ⟨_, _, _, _, _, rfl, .ty T, .base (.str b), kit_ty t4, k μ1 H1 _ g1 d1 (by simp only [Rep, isi])⟩
    | tup xs =>
      cases hv
      simp only [Rep] at r1
      obtain ⟨a, vs, rfl, s, _⟩ := r1
      exact ⟨_, _, _, _, _, rfl, .ty T, tyx_tup s.1, kit_ty t5, k μ1 H1 _ g1 d1 (by simp only [Rep, isi])⟩
    | loc n =>
      simp only [isiO] at hv
      cases e9 : getL s1 n with
      | none => rw [e9] at hv; cases hv
      | some xs =>
        rw [e9] at hv
        cases hv
        simp only [Rep] at r1
        obtain ⟨a, rfl, hp⟩ := r1
        obtain ⟨vs, s, _⟩ := d1.getL hp e9
        exact ⟨_, _, _, _, _, rfl, .ty T, tyx_ref s, kit_ty t6, k μ1 H1 _ g1 d1 (by simp only [Rep, isi])⟩
theorem kit_list : KitT "list" := by unfold KitT; decide +kernel
theorem kit_tuple : KitT "tuple" := by unfold KitT; decide +kernel
theorem kit_str : KitT "str" := by unfold KitT; decide +kernel
theorem kit_int : KitT "int" := by unfold KitT; decide +kernel
theorem kit_bool : KitT "bool" := by unfold KitT; decide +kernel
/-! ### methods -/
theorem ok_append : OkM K ww rAppend appendO := by
  intro H μ st x ys vx vs d st' Q g rx r hv k
  cases x with
  | loc n =>
    simp only [appendO] at hv
    split at hv
    · rename_i n' y e9
      cases e9
      split at hv
      · cases hv
      · rename_i xs e
        split at hv
        · rename_i hl
          cases hv
          simp only [Rep] at rx
          obtain ⟨p, rfl, hp⟩ := rx
          obtain ⟨v, rfl, rv⟩ := reps1 r
          obtain ⟨ws, hH, rs⟩ := g.getM hp e
          have gw : Gr H μ (upd H p (.lst (ws ++ [v]))) μ := gr_write hH
          exact ⟨p, ws, v, rfl, rfl, hH, lim_lt (by rw [← rs.len]; exact hl), k μ _ _ gw (g.write hp (getM_get e) hH (rs.app (reps_cons rv reps_nil))) (by simp only [Rep])⟩
        · cases hv
    · cases hv
  | _ => cases hv
theorem e_append {o e : Expr} {apos cpos : Pos} {f : SE} {g : SA} (ho : PE X o (rdE X.K X.w f)) (ha : PA X [e] (rdA X.K X.w g))
    (hbase : attributeBase o "append" X.env (eval o X.env) = eval o X.env := by rfl)
    (hfew : ((backTo cpos (starEach [e] X.env)).all (fun x => !x.1) && (backToKw cpos (keywordEach [] X.env)).all (fun x => x.1.isSome)
      && decide ([e].length + ([] : List Keyword).length + (if ([] : List Keyword).isEmpty then 0 else 1) < 30)) = true := by rfl)
    (hline : (apos.endLine == cpos.line) = true := by rfl) (hs : starEach [e] X.env = (false, eval e X.env) :: starEach [] X.env := by rfl) :
    PE X (.Call (.Attribute o "append" apos) [e] [] cpos) (rdE X.K X.w (bmF "list" appendO f g)) :=
  se_bm PySem.F.plainAttrs_list PySem.F.slot_list_append PySem.F.type_list_append mt_append ok_append ho ha hbase hfew hline hs rfl
end
end Iv

namespace Iv
open PySem L2 PySem.Spec
section
variable {X : Cx} {K : PySem.W.Frag} {ww : World}
/-! ### x op= e -/
def iaddO : Op2
  | .int i, .int j, st => some (.int (i + j), st)
  | .str a, .str b, st => if a.length + b.length ≤ LIM then some (.str (a ++ b), st) else none
  | _, _, _ => none
theorem ok_iadd : Ok2 K ww (fun x y H Q => (rI0 fun i j => V.int (i + j)) x y H Q ∨ (fun x y H Q => ∃ i j, x = V.str i ∧ y = .str j ∧ i.length + j.length ≤ sizeLine ∧ Q (.str (i ++ j)) H) x y H Q) iaddO := by
  intro H μ st x y vx vy d st' Q g rx ry hv k
  cases x with
  | int i =>
    cases y with
    | int j =>
      simp only [Rep] at rx ry
      subst rx ry
      cases hv
      exact .inl ⟨i, j, rfl, rfl, here k g (by simp only [Rep])⟩
    | _ => cases hv
  | str a =>
    cases y with
    | str b =>
      simp only [Rep] at rx ry
      subst rx ry
      simp only [iaddO] at hv
      split at hv
      · rename_i hl
        cases hv
        exact .inr ⟨a, b, rfl, rfl, lim_ok hl, here k g (by simp only [Rep])⟩
      · cases hv
    | _ => cases hv
  | _ => cases hv
theorem s_iadd {i : Nat} {x : Str} {e : Expr} {f : SE} {pos pos' : Pos} (hN : X.N.Nodup) (hi : X.N[i]? = some x) (hx : Loc X.env.scope x) (he : PE X e (rdE X.K X.w f)) (hf : X.fn x = true ∨ X.env.scope.names.lookup x = some .local := by first | exact .inl rfl | exact .inr rfl | assumption) :
    PS X (.AugAssign (.Name x pos') .Add e pos) (rdS X.K X.w (augS i iaddO f)) := ss_aug hN hi hx he (OpR.or iop_add iop_add_str) ok_iadd hf
/-! ### constants of the module -/
def Con (K : PySem.W.Frag) (mg : Str → Option Value) (x : Str) (d : D) : Prop := ∃ u v, mg x = some u ∧ RelV v u ∧ ∀ H μ, Rep K H μ d v
theorem e_con {x : Str} {d : D} {pos : Pos} (C : Con X.K X.mg x d) (hg : Gl X x) (hd : (x == ("__debug__" : Str)) = false := by decide) : PE X (.Name x pos) (rdE X.K X.w (cstF d)) := by
  obtain ⟨u, v, hm, r, q⟩ := C
  exact se_cst (pe_glob hg hm r hd) q
/-! the same, item by item -/
mutual
inductive CV (K : PySem.W.Frag) : Value → D → Prop
  | non : CV K .none .non
  | bl (b : Bool) : CV K (.bool b) (.bl b)
  | int {i : Int} {t : Tok} : CV K (.int i t) (.int i)
  | str {x : Str} {t : Tok} : CV K (.str x t) (.str x)
  | tup {p : Addr}  {its : Array Value} {n : Nat} {sl : Array (Option Value)} {ds : List D} (l : K.lookup p = some ⟨.type "tuple", none, .seq its n, sl⟩) (z : its.size ≤ 1000) (h : CVs K its.toList ds) : CV K (.ref p) (.tup ds)
inductive CVs (K : PySem.W.Frag) : List Value → List D → Prop
  | nil : CVs K [] []
  | cons {u : Value} {us : List Value} {d : D} {ds : List D} (h : CV K u d) (r : CVs K us ds) : CVs K (u :: us) (d :: ds)
end
mutual
theorem cv_ok {K : PySem.W.Frag} : ∀ {u : Value} {d : D}, CV K u d → ∃ v, RelV v u ∧ ∀ H μ, Rep K H μ d v
  | _, _, .non => ⟨.non, rfl, fun _ _ => by simp only [Rep]⟩
  | _, _, .bl b => ⟨.bl b, rfl, fun _ _ => by simp only [Rep]⟩
  | _, _, .int => ⟨.int _, ⟨_, rfl⟩, fun _ _ => by simp only [Rep]⟩
  | _, _, .str => ⟨.str _, ⟨_, rfl⟩, fun _ _ => by simp only [Rep]⟩
  | _, _, .tup l z h => by
    obtain ⟨vs, r, q⟩ := cvs_ok h
    exact ⟨.ref _, rfl, fun H μ => rep_tup (.inr ⟨_, _, _, l, rfl, rfl, Nat.le_trans z (by rw [sizeLine_eq]; decide), r⟩) (fun _ => .inr ⟨_, l, rfl, rfl⟩) (q H μ)⟩
theorem cvs_ok {K : PySem.W.Frag} : ∀ {us : List Value} {ds : List D}, CVs K us ds → ∃ vs, Vals vs us ∧ ∀ H μ, Reps K H μ ds vs
  | _, _, .nil => ⟨[], .nil, fun _ _ => reps_nil⟩
  | _, _, .cons h r => by
    obtain ⟨v, r1, q⟩ := cv_ok h
    obtain ⟨vs, rs, qs⟩ := cvs_ok r
    exact ⟨v :: vs, .cons r1 rs, fun H μ => reps_cons (q H μ) (qs H μ)⟩
end
theorem con_mk {h : Heap} {mg : Str → Option Value} {x : Str} {u : Value} {d : D} (X : K.In h) (G : h.Ns mainGlobals mg) (a : PySem.W.nsIn K mainGlobals x = some (some u)) (c : CV K u d) : Con K mg x d := by
  obtain ⟨v, r, q⟩ := cv_ok c
  exact ⟨u, v, PySem.W.mg_of X G a, r, q⟩
/-! ### defs -/
structure Def (K : PySem.W.Frag) (mg : Str → Option Value) (x : Str) (st : Stmt) (ps : List Str) : Prop where
  ex : ∃ f fd, Fun K x x st f fd ∧ mg x = some (.ref f) ∧ Binds K fd ps []
theorem def_mk {h : Heap} {mg : Str → Option Value} {x : Str} {st : Stmt} {ps : List Str} {f : Addr} {oc kV doc pm cdv ct : Value} {od an : Option Addr} {osl : Array (Option Value)} (X : K.In h) (G : h.Ns mainGlobals mg)
    (a : PySem.W.nsIn K mainGlobals x = some (some (.ref f))) (l : K.lookup f = some ⟨oc, od, .func (PySem.W.fnOf x x (defArgs st) (defBody st) (defScope st) .none kV doc pm an cdv ct), osl⟩) (c : PySem.W.codeIn K cdv x = true) (k : PySem.W.keepIn K (.ref f) = true)
    (b : ∀ (kV doc pm : Value) (an : Option Addr) (cdv ct : Value) (us : List Value), us.length = ps.length → bindArgs (PySem.W.fnOf x x (defArgs st) (defBody st) (defScope st) .none kV doc pm an cdv ct) ⟨us, []⟩ = pure (ps.zip us)) : Def K mg x st ps :=
  ⟨f, _, fun_mk l c k, PySem.W.mg_of X G a, (fun_mk l c k).binds b⟩
structure Cal (P : Program) (w : World) (K : PySem.W.Frag) (mg : Str → Option Value) (base : Heap) (k : Nat) (x : Str) (ps : List Str) (φ : Fx) : Prop where
  ex : ∃ f fd, FnOk P w K mg base CX0 k f fd ps (spF K w ps.length φ) ∧ mg x = some (.ref f) ∧ PySem.W.keepIn K (.ref f) = true ∧ Binds K fd ps []
  np : ∀ ds st d st', φ ds st = some (d, st') → ds.length = ps.length
theorem e_call {n : Nat} {x : Str} {ps : List Str} {φ : Fx} {p pos : Pos} {e : Expr} {es : List Expr} {g : SA} (C : Cal X.prog X.w X.K X.mg X.base n x ps φ) (hr : Room n X.A) (hg : Gl X x)
    (ha : PA X (e :: es) (rdA X.K X.w g)) (hdb : (x == ("__debug__" : Str)) = false := by decide) (he : starEach (e :: es) X.env = (false, eval e X.env) :: starEach es X.env := by rfl) (hpl : (backTo pos (starEach es X.env)).any (·.1) = false := by rfl) :
    PE X (.Call (.Name x p) (e :: es) [] pos) (rdE X.K X.w (callF φ g)) := by
  obtain ⟨f, fd, G, hm, hk, hb⟩ := C.ex
  exact se_call G hr hg hm hk hb ha C.np hdb he hpl
section
variable {P : Program} {w : World} {mg : Str → Option Value} {base : Heap} {k : Nat} {x : Str} {ps N : List Str} {st : Stmt} {body : SS}
theorem cal_ok (Df : Def K mg x st ps) (S : FnScope N ps (defScope st)) (hns : ps.length ≤ N.length)
    (hb : ∀ (f : Addr) (cdv : Value) (A : Around) (outer : List Env) (s : Shared) (H : Hp) (E : XK), Room k (A.deeper (PyProof.Rows.envOfC x (defScope st) s.heap.objs.size f cdv)) →
      PSs (cxOf CX0 P w K mg base N x (defScope st) f cdv A outer s H E).nox (defBody st) (rdS K w body)) :
    Cal P w K mg base (k + 1) x ps (runF N.length ps.length body) := by
  obtain ⟨f, fd, F, hm, hbd⟩ := Df.ex
  exact ⟨⟨f, fd, fn_ok F S hns fun cdv A outer s H E hr => hb f cdv A outer s H E hr, hm, F.kp, hbd⟩, runF_np⟩
theorem cal_zero (Df : Def K mg x st ps) : Cal P w K mg base 0 x ps (fun _ _ => none) := by
  obtain ⟨f, fd, F, hm, hbd⟩ := Df.ex
  exact ⟨⟨f, fd, fn_zero fun _ _ => rfl, hm, F.kp, hbd⟩, fun _ _ _ _ h => by cases h⟩
theorem r64 {n : Nat} {A : Around} (hr : Room n A) : A.units + 64 < cLine := hr.units
theorem r65 {n : Nat} {A : Around} (hr : Room n A) : A.units + 65 < cLine := by have := hr.un; omega
/-- the law's own def -/
structure LawDef (K : PySem.W.Frag) (mg : Str → Option Value) (st : Stmt) : Prop where
  ex : ∃ f fd, Fun K "law" "law" st f fd ∧ mg "law" = some (.ref f) ∧ ∀ (s : Shared) (u : Value), BindsTo s fd ⟨[u], []⟩ [(("script" : Str), u)]
theorem lawdef_mk {h : Heap} {mg : Str → Option Value} {st : Stmt} {f : Addr} {oc kV doc pm cdv ct : Value} {od an : Option Addr} {osl : Array (Option Value)} (X : K.In h) (G : h.Ns mainGlobals mg)
    (a : PySem.W.nsIn K mainGlobals "law" = some (some (.ref f))) (l : K.lookup f = some ⟨oc, od, .func (PySem.W.fnOf "law" "law" (defArgs st) (defBody st) (defScope st) .none kV doc pm an cdv ct), osl⟩) (c : PySem.W.codeIn K cdv "law" = true) (k : PySem.W.keepIn K (.ref f) = true)
    (b : ∀ (kV doc pm : Value) (an : Option Addr) (cdv ct u : Value), bindArgs (PySem.W.fnOf "law" "law" (defArgs st) (defBody st) (defScope st) .none kV doc pm an cdv ct) ⟨[u], []⟩ = pure [(("script" : Str), u)]) : LawDef K mg st :=
  ⟨f, _, fun_mk l c k, PySem.W.mg_of X G a, fun s u => .of_eq (b kV doc pm an cdv ct u)⟩
/-- the law's row, from its def's promise -/
theorem walk {l : PySem.W.OpenLaw} {k : Nat} {q : Program} {loose : List Str} {XP : (Str → Option Value) → Heap → Prop} {YP : World → Heap → Prop} {d : DefRec} {K : Params → PySem.W.Frag} {body : SS} {N : List Str} {st : Stmt} (hn : l.most = some 63) (hdf : d.params.defaults = []) (hdn : d.name = "law") (hr : Room (k + 1) callerA)
    (S : FnScope N ["script"] (defScope st)) (hns : 1 ≤ N.length)
    (hY : ∀ (w : World) (h : Heap), YP w h → (K w.params).In h)
    (law : ∀ ns : List Int, ns.length ≤ 63 → ∃ st', runF N.length 1 body [.loc 0] [.frz (ns.map .int)] = some (.bl true, st'))
    (B : ∀ (w : World) (mg : Str → Option Value) (h : Heap), (K w.params).In h → h.Ns mainGlobals mg → LawDef (K w.params) mg st ∧ ∀ base : Heap, ∀ (f : Addr) (cdv : Value) (A : Around) (outer : List Env) (s : Shared) (H : Hp) (E : XK), Room k (A.deeper (PyProof.Rows.envOfC "law" (defScope st) s.heap.objs.size f cdv)) →
      PSs (cxOf CX0 l.prog w (K w.params) mg base N "law" (defScope st) f cdv A outer s H E).nox (defBody st) (rdS (K w.params) w body)) :
    PySem.W.WalkO q loose XP YP l.row.toRowW d [] (fun f vs => PySem.call f vs) :=
  walk_of (n := 63) (k := k + 1) (x := "script") (CX := fun _ => CX0) (sp := fun w => spLaw (K w.params)) hn (by rw [sizeLine_eq]; decide) hdf hr hY (fun w mg fa h KX G hmg => by
    obtain ⟨⟨f, fd, F, hm, bd⟩, ok⟩ := B w mg h KX G
    rw [hdn, hm] at hmg
    cases hmg
    exact ⟨fd, bd, fun base hb1 hb2 => law_ok (fn_ok F S hns fun cdv A outer s H E hr => ok base _ cdv A outer s H E hr) law⟩) (fun w H a ns hl hO hS => ⟨a, ns, rfl, only_sql hO hS, hl, fun _ => rfl⟩) fun _ _ _ _ _ z => z
end
end
end Iv

namespace Iv
open PySem L2 PySem.Spec
section
variable {X : Cx} {K : PySem.W.Frag} {ww : World}
theorem cut_reps {H : Hp} {μ : List Addr} {xs : List D} {vs : List V} (r : Reps K H μ xs vs) (lo hi : Option Int) : Reps K H μ (cutD xs lo hi) (cutV vs lo hi) := by
  unfold cutD cutV
  rw [← r.len]
  exact (r.drop _).take _
theorem ok_cut : OkS K ww (fun x lo hi H Q => rSlL K x lo hi H Q ∨ rSlA K x lo hi H Q ∨ rSlS x lo hi H Q) cutO := by
  intro H μ st x vx lo hi d st' Q g rx hv k
  cases x with
  | loc n =>
    simp only [Rep] at rx
    obtain ⟨p, rfl, hp⟩ := rx
    simp only [cutO] at hv
    cases e : getL st n with
    | none => rw [e] at hv; cases hv
    | some ys =>
      rw [e] at hv
      cases hv
      obtain ⟨ws, s, rs⟩ := g.getL hp e
      exact .inl ⟨p, ws, rfl, s, new_lst g (cut_reps rs lo hi) k⟩
  | tup xs =>
    simp only [cutO] at hv
    split at hv
    · cases hv
    rename_i hns
    have hns' : nst (cutD xs lo hi) = false := by simpa using hns
    cases hv
    have rx' := rx
    simp only [Rep] at rx
    obtain ⟨p, ws, rfl, ⟨s, _⟩, rs⟩ := rx
    refine .inr (.inl ⟨p, ws, rfl, s, fun ⟨e1, e2⟩ => ?_, fun _ => new_tupP g hns' (cut_reps rs lo hi) k⟩)
    have e : cutD xs lo hi = xs := by
      unfold cutD
      rw [rs.len, e1, e2, List.drop_zero, Nat.sub_zero, ← rs.len, List.take_length]
    rw [e] at k
    exact here k g rx'
  | str x =>
    simp only [Rep] at rx
    subst rx
    simp only [cutO] at hv
    split at hv
    · rename_i hl
      cases hv
      exact .inr (.inr ⟨x, rfl, lim_ok hl, here k g (by simp only [Rep])⟩)
    · cases hv
  | _ => cases hv
theorem e_slice {e : Expr} {lo hi : Option Expr} {p2 pos : Pos} {f : SE} {l h : SO} (he : PE X e (rdE X.K X.w f)) (hl : PO X lo (rdO X.K X.w l)) (hh : PO X hi (rdO X.K X.w h)) :
    PE X (.Subscript e (.Slice lo hi none p2) pos) (rdE X.K X.w (slF cutO f l h)) := se_slice (SlR.or sl_list (SlR.or sl_tupA sl_str)) ok_cut he hl hh
/-- name = [..] -/
theorem rd_asgC {vs : List Nat} {i : SJ} {gg : TG} {g : Tg} {c : ST} {e : SE} {j : Nat} (ok : OkG K gg g) (ow : OwnG vs gg) : ∀ Dn τ H, rdS K ww (asgS (nmG j) (compF vs i g c e)) Dn τ H → tAsg (tLc (rdI K ww i) gg (rdT K ww c) (rdE K ww e) vs) (gName j) Dn τ H := fun Dn τ H h => by
  have h2 := rd_asg (g := nmG j) (gg := gName j) (f := compF vs i g c e) ok_name Dn τ H h
  exact rd_comp ok ow τ H _ h2
theorem s_setLc {i : Nat} {y : Str} {py : Pos} {elt tg iter : Expr} {ifs : List Expr} {scope : Scope} {own : List (Str × Nat)} {pos spos : Pos} {it : SJ} {gg : TG} {g : Tg} {c : ST} {e : SE} (hc : X.calm = true) (hN : X.N.Nodup) (hi : PI X tg iter (rdI X.K X.w it)) (ok : BlkOk X.N X.env.scope scope own)
    (hg : ∀ (s : Shared) (H : Hp) (C : Addr) (cl : List (Str × Addr)) (fp : List Addr), PG (X.blk s H scope (compEnvC scope cl C X.env) fp) tg gg) (okg : OkG X.K gg g) (ow : OwnG (own.map (·.2)) gg)
    (ht : ∀ (s : Shared) (H : Hp) (C : Addr) (cl : List (Str × Addr)) (fp : List Addr), PTs (X.blk s H scope (compEnvC scope cl C X.env) fp) ifs (rdT X.K X.w c))
    (he : ∀ (s : Shared) (H : Hp) (C : Addr) (cl : List (Str × Addr)) (fp : List Addr), PE (X.blk s H scope (compEnvC scope cl C X.env) fp) elt (rdE X.K X.w e))
    (hy : X.N[i]? = some y := by rfl) (hyl : X.env.scope.names.lookup y = some .local := by rfl) (hsw : swapsWith (.ListComp elt [⟨tg, iter, ifs, 0⟩] scope pos) (some (.Name y py)) spos.line X.env = pure true := by exact sw_true rfl rfl rfl (by decide +kernel)) (hs : ∀ x, foldedSetIterable iter X.env x = pure x := by intro _; rfl) :
    PS X (.Assign [.Name y py] (.ListComp elt [⟨tg, iter, ifs, 0⟩] scope pos) spos) (rdS X.K X.w (asgS (nmG i) (compF (own.map (·.2)) it g c e))) := (ps_setLc hc hN hy hyl hsw hi ok hg ht he hs).weak (rd_asgC okg ow)
end
end Iv

namespace Iv
open PySem L2
/-! ### meanings, step by step -/
section
variable {σ σ1 σ2 : Sl} {st st1 st2 : Sto} {d : D} {f g : SE} {o : Op2} {c t : ST} {a b : SS} {i n m : Nat} {r : R}
@[simp] theorem varF_eq : varF i σ st = (match σ[i]? with
  | some (some d) => some (d, st)
  | _ => none) := rfl
@[simp] theorem cstF_eq : cstF d σ st = some (d, st) := rfl
@[simp] theorem binF_eq : binF o f g σ st = bnd (f σ st) fun x st1 => bnd (g σ st1) fun y st2 => o x y st2 := rfl
@[simp] theorem unF_eq {o : Op1} : unF o f σ st = bnd (f σ st) fun x st1 => o x st1 := rfl
@[simp] theorem nilF_eq : nilF σ st = some ([], st) := rfl
@[simp] theorem consF_eq {g : SA} : consF f g σ st = bnd (f σ st) fun x st1 => bnd (g σ st1) fun xs st2 => some (x :: xs, st2) := rfl
@[simp] theorem appF_eq {o : OpN} {g : SA} : appF o g σ st = bnd (g σ st) fun xs st1 => o xs st1 := rfl
@[simp] theorem callF_eq {φ : Fx} {g : SA} : callF φ g σ st = bnd (g σ st) fun xs st1 => φ xs st1 := rfl
@[simp] theorem bmF_eq {T : String} {o : OpM} {g : SA} : bmF T o f g σ st = bnd (f σ st) fun x st1 => if isTy T x st1 = true then bnd (g σ st1) fun xs st2 => o x xs st2 else none := rfl
@[simp] theorem bm0F_eq {T : String} {o : OpM} : bm0F T o f σ st = bnd (f σ st) fun x st1 => if isTy T x st1 = true then o x [] st1 else none := rfl
@[simp] theorem tupF_eq {g : SA} : tupF g σ st = bnd (g σ st) fun xs st1 => if xs.length ≤ LIM then some (.tup xs, st1) else none := rfl
@[simp] theorem lstF_eq {g : SA} : lstF g σ st = bnd (g σ st) fun xs st1 => if xs.length ≤ LIM then some (.loc st1.length, st1 ++ [.lst xs]) else none := rfl
@[simp] theorem truF_eq : truF f σ st = bnd (f σ st) fun x st1 => (truth x st1).map fun b => (b, st1) := rfl
@[simp] theorem cmpT_eq : cmpT o f g σ st = bnd (binF o f g σ st) fun x st1 => (truth x st1).map fun b => (b, st1) := rfl
@[simp] theorem andT_eq : andT c t σ st = bnd (c σ st) fun b st1 => if b = true then t σ st1 else some (false, st1) := rfl
@[simp] theorem orT_eq : orT c t σ st = bnd (c σ st) fun b st1 => if b = true then some (true, st1) else t σ st1 := rfl
@[simp] theorem notT_eq : notT c σ st = bnd (c σ st) fun b st1 => some (!b, st1) := rfl
@[simp] theorem andF_eq : andF f g σ st = bnd (f σ st) fun x st1 => (truth x st1).bind fun b => if b = true then g σ st1 else some (x, st1) := rfl
@[simp] theorem orF_eq : orF f g σ st = bnd (f σ st) fun x st1 => (truth x st1).bind fun b => if b = true then some (x, st1) else g σ st1 := rfl
@[simp] theorem notF_eq : notF f σ st = bnd (f σ st) fun x st1 => (truth x st1).map fun b => (.bl (!b), st1) := rfl
@[simp] theorem ifF_eq : ifF c f g σ st = bnd (c σ st) fun b st1 => if b = true then f σ st1 else g σ st1 := rfl
@[simp] theorem chnF_eq {o o' : Op2} {h : SE} : chnF o o' f g h σ st = bnd (f σ st) fun x s1 => bnd (g σ s1) fun y s2 => bnd (o x y s2) fun z s3 => match z with
  | .bl true => bnd (h σ s3) fun w s4 => o' y w s4
  | .bl false => some (.bl false, s3)
  | _ => none := rfl
@[simp] theorem noneO_eq : noneO σ st = some (none, st) := rfl
@[simp] theorem someO_eq : someO f σ st = bnd (f σ st) fun x st1 => match x with
  | .int i => some (some i, st1)
  | _ => none := rfl
@[simp] theorem slF_eq {o : OpS} {lo hi : SO} : slF o f lo hi σ st = bnd (f σ st) fun x s1 => bnd (lo σ s1) fun l s2 => bnd (hi σ s2) fun h s3 => o x l h s3 := rfl
@[simp] theorem nxS_eq : nxS σ st = some (.nx σ, st) := rfl
@[simp] theorem brkS_eq : brkS σ st = some (.brk σ, st) := rfl
@[simp] theorem cntS_eq : cntS σ st = some (.cnt σ, st) := rfl
@[simp] theorem retNS_eq : retNS σ st = some (.ret .non, st) := rfl
@[simp] theorem exS_eq : exS f σ st = bnd (f σ st) fun _ st1 => some (.nx σ, st1) := rfl
@[simp] theorem retS_eq : retS f σ st = bnd (f σ st) fun d st1 => some (.ret d, st1) := rfl
@[simp] theorem ifS_eq : ifS c a b σ st = bnd (c σ st) fun x st1 => if x = true then a σ st1 else b σ st1 := rfl
@[simp] theorem asgS_eq {g : Tg} : asgS g f σ st = bnd (f σ st) fun d st1 => (g d σ).map fun σ1 => (.nx σ1, st1) := rfl
@[simp] theorem nmG_eq : nmG i d σ = some (σ.set i (some d)) := rfl
@[simp] theorem tupG_eq {is : List Nat} {ds : List D} : tupG is (.tup ds) σ = nmsG is ds σ := rfl
@[simp] theorem nmsG_nil : nmsG [] [] σ = some σ := rfl
@[simp] theorem nmsG_cons {is : List Nat} {ds : List D} : nmsG (i :: is) (d :: ds) σ = nmsG is ds (σ.set i (some d)) := rfl
theorem seqS_eq : seqS a b σ st = (match a σ st with
  | some (.nx σ', st1) => b σ' st1
  | r => r) := rfl
theorem seq_nx (h : a σ st = some (.nx σ1, st1)) : seqS a b σ st = b σ1 st1 := by rw [seqS_eq, h]
theorem seq_ret (h : a σ st = some (.ret d, st1)) : seqS a b σ st = some (.ret d, st1) := by rw [seqS_eq, h]
@[simp] theorem augS_eq : augS i o f σ st = (match σ[i]? with
  | some (some x) => bnd (f σ st) fun y s1 => bnd (o x y s1) fun z s2 => some (.nx (σ.set i (some z)), s2)
  | _ => none) := rfl
@[simp] theorem setS_eq {fo fi : SE} : setS fo fi f σ st = bnd (f σ st) fun d s1 => bnd (fo σ s1) fun o s2 => bnd (fi σ s2) fun i s3 => match o, i with
  | .loc n, .int k => (getM s3 n).bind fun xs => (ixN xs.length k).map fun j => (.nx σ, s3.set n (.lst (xs.set j d)))
  | _, _ => none := rfl
@[simp] theorem anyI_eq : anyI f σ st = bnd (f σ st) fun d s1 => match d with
  | .loc n => (getL s1 n).map fun _ => (.lst n, s1)
  | .tup xs => some (.cns xs, s1)
  | .str x => some (.cns (charsD x), s1)
  | _ => none := rfl
@[simp] theorem rngI1_eq {g : SA} : rngI1 g σ st = bnd (g σ st) fun ds s1 => match ds with
  | [.int j] => if -(2 ^ 62) ≤ j ∧ j < 2 ^ 62 then some (.cns (rngD 0 j.toNat), s1) else none
  | _ => none := rfl
@[simp] theorem rngI2_eq {g : SA} : rngI2 g σ st = bnd (g σ st) fun ds s1 => match ds with
  | [.int i, .int j] => if -(2 ^ 62) ≤ i ∧ i < 2 ^ 62 ∧ -(2 ^ 62) ≤ j ∧ j < 2 ^ 62 then some (.cns (rngD i (j - i).toNat), s1) else none
  | _ => none := rfl
@[simp] theorem enmI_eq {g : SA} : enmI g σ st = bnd (g σ st) fun ds s1 => match ds with
  | [.loc n] => (getL s1 n).map fun _ => (.enm n, s1)
  | _ => none := rfl
theorem forS_eq {i : SJ} {g : Tg} : forS i g b σ st = bnd (i σ st) fun J s1 => match items J s1 with
  | none => none
  | some xs => forV J g b (xs.length + 1) 0 σ s1 := rfl
@[simp] theorem items_cns {xs : List D} : items (.cns xs) st = some xs := rfl
@[simp] theorem items_lst : items (.lst n) st = getL st n := rfl
@[simp] theorem items_enm : items (.enm n) st = (getL st n).map (enumD 0) := rfl
theorem runF_eq {ns np : Nat} {ds : List D} : runF ns np b ds st = if ds.length = np then (match b (ds.map some ++ List.replicate (ns - np) none) st with
  | some (.nx _, s) => some (.non, s)
  | some (.ret d, s) => some (d, s)
  | _ => none) else none := rfl
theorem run_ret {ns np : Nat} {ds : List D} (hl : ds.length = np) (h : b (ds.map some ++ List.replicate (ns - np) none) st = some (.ret d, st1)) : runF ns np b ds st = some (d, st1) := by rw [runF_eq, if_pos hl, h]
theorem run_nx {ns np : Nat} {ds : List D} (hl : ds.length = np) (h : b (ds.map some ++ List.replicate (ns - np) none) st = some (.nx σ1, st1)) : runF ns np b ds st = some (.non, st1) := by rw [runF_eq, if_pos hl, h]
@[simp] theorem addO_int {i j : Int} : addO (.int i) (.int j) st = some (.int (i + j), st) := rfl
@[simp] theorem addO_str {i j : Str} : addO (.str i) (.str j) st = if i.length + j.length ≤ LIM then some (.str (i ++ j), st) else none := rfl
@[simp] theorem addO_tup {i j : List D} : addO (.tup i) (.tup j) st = if i.length + j.length ≤ LIM ∧ nst (i ++ j) = false then some (.tup (i ++ j), st) else none := rfl
@[simp] theorem subO_int {i j : Int} : subO (.int i) (.int j) st = some (.int (i - j), st) := rfl
@[simp] theorem mulO_int {i j : Int} : mulO (.int i) (.int j) st = if cMul i j = true then some (.int (i * j), st) else none := by simp only [mulO, intO]
@[simp] theorem fdivO_int {i j : Int} : fdivO (.int i) (.int j) st = if cDiv i j = true then some (.int (i / j), st) else none := by simp only [fdivO, intO]
@[simp] theorem modO_int {i j : Int} : modO (.int i) (.int j) st = if cPos i j = true then some (.int (i % j), st) else none := by simp only [modO, intO]
@[simp] theorem powO_int {i j : Int} : powO (.int i) (.int j) st = if cPow i j = true then some (.int (i ^ j.toNat), st) else none := by simp only [powO, intO]
@[simp] theorem ltO_int {i j : Int} : ltO (.int i) (.int j) st = some (.bl (decide (i < j)), st) := rfl
@[simp] theorem leO_int {i j : Int} : leO (.int i) (.int j) st = some (.bl (decide (i ≤ j)), st) := rfl
@[simp] theorem gtO_int {i j : Int} : gtO (.int i) (.int j) st = some (.bl (decide (j < i)), st) := rfl
@[simp] theorem geO_int {i j : Int} : geO (.int i) (.int j) st = some (.bl (decide (j ≤ i)), st) := rfl
@[simp] theorem iaddO_int {i j : Int} : iaddO (.int i) (.int j) st = some (.int (i + j), st) := rfl
@[simp] theorem iaddO_str {i j : Str} : iaddO (.str i) (.str j) st = if i.length + j.length ≤ LIM then some (.str (i ++ j), st) else none := rfl
@[simp] theorem negO_int {i : Int} : negO (.int i) st = some (.int (-i), st) := rfl
@[simp] theorem eqO_int {neg : Bool} {i j : Int} : eqO neg (.int i) (.int j) st = some (.bl (decide (i = j) != neg), st) := rfl
@[simp] theorem eqO_str {neg : Bool} {i j : Str} : eqO neg (.str i) (.str j) st = some (.bl (decide (i = j) != neg), st) := rfl
@[simp] theorem eqO_bl {neg : Bool} {i j : Bool} : eqO neg (.bl i) (.bl j) st = some (.bl (decide (i = j) != neg), st) := rfl
@[simp] theorem isNO_non {neg : Bool} {x : D} : isNO neg x .non st = some (.bl (nonD x != neg), st) := isN_eq
@[simp] theorem nonD_non : nonD .non = true := rfl
@[simp] theorem nonD_bl {x : Bool} : nonD (.bl x) = false := rfl
@[simp] theorem nonD_int {x : Int} : nonD (.int x) = false := rfl
@[simp] theorem nonD_str {x : Str} : nonD (.str x) = false := rfl
@[simp] theorem nonD_tup {x : List D} : nonD (.tup x) = false := rfl
@[simp] theorem nonD_loc : nonD (.loc n) = false := rfl
@[simp] theorem truth_bl {x : Bool} : truth (.bl x) st = some x := rfl
@[simp] theorem truth_non : truth .non st = some false := rfl
@[simp] theorem truth_int {x : Int} : truth (.int x) st = some (x != 0) := rfl
@[simp] theorem truth_tup {xs : List D} : truth (.tup xs) st = some (!xs.isEmpty) := rfl
@[simp] theorem truth_loc : truth (.loc n) st = (getL st n).map fun xs => !xs.isEmpty := rfl
@[simp] theorem intOf_int {x : Int} : intOf [.int x] st = some (.int x, st) := rfl
theorem intOf_str {x : Str} {n : Int} (h : PySem.intText? x = some n) (hl : x.length ≤ 640) : intOf [.str x] st = some (.int n, st) := by
  show (match PySem.intText? x with
    | some n => if x.length ≤ 640 then some (D.int n, st) else none
    | none => none) = _
  rw [h]
  exact if_pos hl
@[simp] theorem intOf_bl {x : Bool} : intOf [.bl x] st = some (.int (if x then 1 else 0), st) := rfl
@[simp] theorem absO_int {x : Int} : absO [.int x] st = some (.int (if x < 0 then -x else x), st) := rfl
@[simp] theorem lenO_tup {xs : List D} : lenO [.tup xs] st = some (.int xs.length, st) := rfl
@[simp] theorem lenO_str {x : Str} : lenO [.str x] st = if x.length ≤ LIM then some (.int x.length, st) else none := rfl
@[simp] theorem lenO_loc : lenO [.loc n] st = (getL st n).map fun xs => (.int xs.length, st) := rfl
@[simp] theorem ixO_tup {xs : List D} {i : Int} : ixO (.tup xs) (.int i) st = (atI xs i).map fun d => (d, st) := rfl
@[simp] theorem ixO_loc {i : Int} : ixO (.loc n) (.int i) st = (match getL st n with
  | none => none
  | some xs => (atI xs i).map fun d => (d, st)) := rfl
@[simp] theorem ixO_str {x : Str} {i : Int} : ixO (.str x) (.int i) st = if x.length ≤ LIM then (atI x.cps.toList i).map fun c => (.str ⟨#[c]⟩, st) else none := rfl
@[simp] theorem isiO_non {T : String} : isiO T .non st = some (.bl false, st) := rfl
@[simp] theorem isiO_bl {T : String} {x : Bool} : isiO T (.bl x) st = some (.bl (T == "bool" || T == "int"), st) := rfl
@[simp] theorem isiO_int {T : String} {x : Int} : isiO T (.int x) st = some (.bl (T == "int"), st) := rfl
@[simp] theorem isiO_str {T : String} {x : Str} : isiO T (.str x) st = some (.bl (T == "str"), st) := rfl
@[simp] theorem isiO_tup {T : String} {x : List D} : isiO T (.tup x) st = some (.bl (T == "tuple"), st) := rfl
@[simp] theorem isiO_loc {T : String} : isiO T (.loc n) st = (getL st n).map fun _ => (.bl (T == "list"), st) := rfl
@[simp] theorem isTy_str {x : Str} : isTy "str" (.str x) st = true := rfl
@[simp] theorem isTy_list : isTy "list" (.loc n) st = (getL st n).isSome := rfl
@[simp] theorem appendO_eq {y : D} : appendO (.loc n) [y] st = (match getM st n with
  | none => none
  | some xs => if xs.length < LIM then some (.non, st.set n (.lst (xs ++ [y]))) else none) := rfl
@[simp] theorem tupleO_tup {xs : List D} : tupleO [.tup xs] st = some (.tup xs, st) := rfl
@[simp] theorem tupleO_loc : tupleO [.loc n] st = (getL st n).map fun xs => (.tup xs, st) := rfl
@[simp] theorem listO_tup {xs : List D} : listO [.tup xs] st = some (.loc st.length, st ++ [.lst xs]) := rfl
@[simp] theorem listO_loc : listO [.loc n] st = (getL st n).map fun xs => (.loc st.length, st ++ [.lst xs]) := rfl
@[simp] theorem cutO_tup {xs : List D} {lo hi : Option Int} : cutO (.tup xs) lo hi st = if nst (cutD xs lo hi) = true then none else some (.tup (cutD xs lo hi), st) := rfl
@[simp] theorem cutO_loc {lo hi : Option Int} : cutO (.loc n) lo hi st = (getL st n).map fun xs => (.loc st.length, st ++ [.lst (cutD xs lo hi)]) := rfl
@[simp] theorem cutO_str {x : Str} {lo hi : Option Int} : cutO (.str x) lo hi st = if x.length ≤ LIM then some (.str (cutS x lo hi), st) else none := rfl
end
/-! ### the store -/
section
variable {st st1 st2 : Sto} {n m : Nat} {xs ys : List D}
theorem getL_of (h : st[n]? = some (.lst xs)) : getL st n = some xs := by unfold getL; rw [h]
theorem getL_frz (h : st[n]? = some (.frz xs)) : getL st n = some xs := by unfold getL; rw [h]
theorem getM_of (h : st[n]? = some (.lst xs)) : getM st n = some xs := by unfold getM; rw [h]
theorem getL_eq (h : st2[n]? = st[n]?) : getL st2 n = getL st n := by unfold getL; rw [h]
/-- all but the list at b stands as it stood; there may be more -/
def Up (b : Nat) (st st2 : Sto) : Prop := st.length ≤ st2.length ∧ ∀ n, n ≠ b → n < st.length → st2[n]? = st[n]?
theorem Up.refl {b : Nat} : Up b st st := ⟨Nat.le_refl _, fun _ _ _ => rfl⟩
theorem Up.trans {b : Nat} (h : Up b st st1) (k : Up b st1 st2) : Up b st st2 := ⟨Nat.le_trans h.1 k.1, fun n h1 h2 => (k.2 n h1 (Nat.lt_of_lt_of_le h2 h.1)).trans (h.2 n h1 h2)⟩
theorem Up.app {b : Nat} (o : List OB) : Up b st (st ++ o) := ⟨by simp, fun n _ h => List.getElem?_append_left h⟩
theorem Up.set {b : Nat} (o : OB) : Up b st (st.set b o) := ⟨by simp, fun n h _ => List.getElem?_set_ne (Ne.symm h)⟩
theorem Up.getL {b : Nat} (h : Up b st st2) (hn : n ≠ b) (e : getL st n = some xs) : Iv.getL st2 n = some xs := by
  have hl : n < st.length := by
    unfold Iv.getL at e
    cases q : st[n]? with
    | none => rw [q] at e; cases e
    | some o => exact (List.getElem?_eq_some_iff.mp q).1
  rw [getL_eq (h.2 n hn hl)]
  exact e
theorem Up.at {b : Nat} (h : Up b st st2) (hn : n ≠ b) {o : OB} (e : st[n]? = some o) : st2[n]? = some o := (h.2 n hn (List.getElem?_eq_some_iff.mp e).1).trans e
theorem Up.new {b k : Nat} (h : Up b st st2) (hb : b < st.length) (hk : st.length ≤ k) {o : OB} : Up b st (st2.set k o) := ⟨by rw [List.length_set]; exact h.1, fun n h1 h2 => by rw [List.getElem?_set_ne (by omega)]; exact h.2 n h1 h2⟩
/-- nothing changes; there may be more -/
def Ext (st st2 : Sto) : Prop := st.length ≤ st2.length ∧ ∀ n, n < st.length → st2[n]? = st[n]?
theorem Ext.refl : Ext st st := ⟨Nat.le_refl _, fun _ _ => rfl⟩
theorem Ext.trans (h : Ext st st1) (k : Ext st1 st2) : Ext st st2 := ⟨Nat.le_trans h.1 k.1, fun n h2 => (k.2 n (Nat.lt_of_lt_of_le h2 h.1)).trans (h.2 n h2)⟩
theorem Ext.app (o : List OB) : Ext st (st ++ o) := ⟨by simp, fun n h => List.getElem?_append_left h⟩
theorem Ext.up {b : Nat} (h : Ext st st2) : Up b st st2 := ⟨h.1, fun n _ h2 => h.2 n h2⟩
theorem Ext.at (h : Ext st st2) {o : OB} (e : st[n]? = some o) : st2[n]? = some o := (h.2 n (List.getElem?_eq_some_iff.mp e).1).trans e
theorem Ext.getL (h : Ext st st2) (e : getL st n = some xs) : Iv.getL st2 n = some xs := by
  have hl : n < st.length := by
    unfold Iv.getL at e
    cases q : st[n]? with
    | none => rw [q] at e; cases e
    | some o => exact (List.getElem?_eq_some_iff.mp q).1
  rw [getL_eq (h.2 n hl)]
  exact e
theorem Ext.set {k : Nat} (h : Ext st st2) (hk : st.length ≤ k) {o : OB} : Ext st (st2.set k o) := ⟨by rw [List.length_set]; exact h.1, fun n h2 => by rw [List.getElem?_set_ne (by omega)]; exact h.2 n h2⟩
end
/-! ### loops -/
section
variable {g : Tg} {b : SS} {xs : List D}
/-- over a fixed row: P by the turn; a turn may leave -/
theorem for_cns (P : Nat → Sl → Sto → Prop) (QB : Sl → Sto → Prop) (QR : D → Sto → Prop)
    (h : ∀ (i : Nat) (σ : Sl) (st : Sto) (d : D), xs[i]? = some d → P i σ st → ∃ σ1 r st2, g d σ = some σ1 ∧ b σ1 st = some (r, st2) ∧ match r with
      | .nx σ2 => P (i + 1) σ2 st2
      | .cnt σ2 => P (i + 1) σ2 st2
      | .brk σ2 => QB σ2 st2
      | .ret d => QR d st2) :
    ∀ (m i : Nat) (σ : Sl) (st : Sto), P i σ st → i ≤ xs.length → xs.length - i < m → ∃ r st2, forV (.cns xs) g b m i σ st = some (r, st2) ∧ match r with
      | .nx σ2 => P xs.length σ2 st2 ∨ QB σ2 st2
      | .ret d => QR d st2
      | _ => False
  | 0, i, σ, st, p, hi, hm => by omega
  | m + 1, i, σ, st, p, hi, hm => by
    unfold forV
    simp only [items_cns]
    cases e : xs[i]? with
    | none =>
      have e2 : i = xs.length := by
        have := List.getElem?_eq_none_iff.mp e
        omega
      subst e2
      exact ⟨.nx σ, st, rfl, .inl p⟩
    | some d =>
      obtain ⟨σ1, r, st2, h1, h2, h3⟩ := h i σ st d e p
      have hlt := (List.getElem?_eq_some_iff.mp e).1
      simp only [h1, h2]
      cases r with
      | nx σ2 => exact for_cns P QB QR h m (i + 1) σ2 st2 h3 (by omega) (by omega)
      | cnt σ2 => exact for_cns P QB QR h m (i + 1) σ2 st2 h3 (by omega) (by omega)
      | brk σ2 => exact ⟨.nx σ2, st2, rfl, .inr h3⟩
      | ret d => exact ⟨.ret d, st2, rfl, h3⟩
/-- .. where no turn leaves -/
theorem for_all (P : Nat → Sl → Sto → Prop)
    (h : ∀ (i : Nat) (σ : Sl) (st : Sto) (d : D), xs[i]? = some d → P i σ st → ∃ σ1 σ2 st2, g d σ = some σ1 ∧ b σ1 st = some (.nx σ2, st2) ∧ P (i + 1) σ2 st2)
    {m : Nat} {σ : Sl} {st : Sto} (p : P 0 σ st) (hm : xs.length < m) : ∃ σ2 st2, forV (.cns xs) g b m 0 σ st = some (.nx σ2, st2) ∧ P xs.length σ2 st2 := by
  obtain ⟨r, st2, h1, h2⟩ := for_cns P (fun _ _ => False) (fun _ _ => False) (fun i σ st d e p => by
    obtain ⟨σ1, σ2, st2, h1, h2, h3⟩ := h i σ st d e p
    exact ⟨σ1, .nx σ2, st2, h1, h2, h3⟩) m 0 σ st p (Nat.zero_le _) (by omega)
  cases r with
  | nx σ2 => exact ⟨σ2, st2, h1, h2.resolve_right id⟩
  | brk _ => exact h2.elim
  | cnt _ => exact h2.elim
  | ret _ => exact h2.elim
/-- over a list that stays -/
theorem for_lst {n : Nat} (P : Nat → Sl → Sto → Prop) (QB : Sl → Sto → Prop) (QR : D → Sto → Prop) (hg : ∀ i σ st, P i σ st → getL st n = some xs)
    (h : ∀ (i : Nat) (σ : Sl) (st : Sto) (d : D), xs[i]? = some d → P i σ st → ∃ σ1 r st2, g d σ = some σ1 ∧ b σ1 st = some (r, st2) ∧ match r with
      | .nx σ2 => P (i + 1) σ2 st2
      | .cnt σ2 => P (i + 1) σ2 st2
      | .brk σ2 => QB σ2 st2
      | .ret d => QR d st2) :
    ∀ (m i : Nat) (σ : Sl) (st : Sto), P i σ st → i ≤ xs.length → xs.length - i < m → ∃ r st2, forV (.lst n) g b m i σ st = some (r, st2) ∧ match r with
      | .nx σ2 => P xs.length σ2 st2 ∨ QB σ2 st2
      | .ret d => QR d st2
      | _ => False
  | 0, i, σ, st, p, hi, hm => by omega
  | m + 1, i, σ, st, p, hi, hm => by
    unfold forV
    simp only [items_lst, hg i σ st p]
    cases e : xs[i]? with
    | none =>
      have e2 : i = xs.length := by
        have := List.getElem?_eq_none_iff.mp e
        omega
      subst e2
      exact ⟨.nx σ, st, rfl, .inl p⟩
    | some d =>
      obtain ⟨σ1, r, st2, h1, h2, h3⟩ := h i σ st d e p
      have hlt := (List.getElem?_eq_some_iff.mp e).1
      simp only [h1, h2]
      cases r with
      | nx σ2 => exact for_lst P QB QR hg h m (i + 1) σ2 st2 h3 (by omega) (by omega)
      | cnt σ2 => exact for_lst P QB QR hg h m (i + 1) σ2 st2 h3 (by omega) (by omega)
      | brk σ2 => exact ⟨.nx σ2, st2, rfl, .inr h3⟩
      | ret d => exact ⟨.ret d, st2, rfl, h3⟩
theorem for_lst_all {n : Nat} (P : Nat → Sl → Sto → Prop) (hg : ∀ i σ st, P i σ st → getL st n = some xs)
    (h : ∀ (i : Nat) (σ : Sl) (st : Sto) (d : D), xs[i]? = some d → P i σ st → ∃ σ1 σ2 st2, g d σ = some σ1 ∧ b σ1 st = some (.nx σ2, st2) ∧ P (i + 1) σ2 st2)
    {m : Nat} {σ : Sl} {st : Sto} (p : P 0 σ st) (hm : xs.length < m) : ∃ σ2 st2, forV (.lst n) g b m 0 σ st = some (.nx σ2, st2) ∧ P xs.length σ2 st2 := by
  obtain ⟨r, st2, h1, h2⟩ := for_lst P (fun _ _ => False) (fun _ _ => False) hg (fun i σ st d e p => by
    obtain ⟨σ1, σ2, st2, h1, h2, h3⟩ := h i σ st d e p
    exact ⟨σ1, .nx σ2, st2, h1, h2, h3⟩) m 0 σ st p (Nat.zero_le _) (by omega)
  cases r with
  | nx σ2 => exact ⟨σ2, st2, h1, h2.resolve_right id⟩
  | brk _ => exact h2.elim
  | cnt _ => exact h2.elim
  | ret _ => exact h2.elim
theorem rngD_len {lo : Int} {n : Nat} : (rngD lo n).length = n := by simp [rngD]
theorem rngD_get {lo : Int} {n i : Nat} {d : D} (h : (rngD lo n)[i]? = some d) : i < n ∧ d = .int (lo + (i : Nat)) := by
  have hi := (List.getElem?_eq_some_iff.mp h).1
  rw [rngD_len] at hi
  unfold rngD at h
  rw [List.getElem?_map, List.getElem?_range hi] at h
  exact ⟨hi, (Option.some.inj h).symm⟩
/-- while: an invariant and a number that falls -/
theorem whl_inv {c : ST} (P : Sl → Sto → Prop) (μ : Sl → Sto → Nat) (Q : R → Sto → Prop)
    (h : ∀ σ st, P σ st → ∃ t st1, c σ st = some (t, st1) ∧ if t = true then ∃ r st2, b σ st1 = some (r, st2) ∧ match r with
      | .nx σ2 => P σ2 st2 ∧ μ σ2 st2 < μ σ st
      | .cnt σ2 => P σ2 st2 ∧ μ σ2 st2 < μ σ st
      | .brk σ2 => Q (.nx σ2) st2
      | .ret d => Q (.ret d) st2 else Q (.nx σ) st1) :
    ∀ (m : Nat) (σ : Sl) (st : Sto), P σ st → μ σ st < m → ∃ r st2, whlV c b m σ st = some (r, st2) ∧ Q r st2
  | 0, σ, st, p, hm => by omega
  | m + 1, σ, st, p, hm => by
    obtain ⟨t, st1, h1, h2⟩ := h σ st p
    unfold whlV
    simp only [h1, bnd_some]
    cases t with
    | false => exact ⟨.nx σ, st1, rfl, h2⟩
    | true =>
      simp only [if_pos] at h2 ⊢
      obtain ⟨r, st2, h3, h4⟩ := h2
      simp only [h3]
      cases r with
      | nx σ2 => exact whl_inv P μ Q h m σ2 st2 h4.1 (by omega)
      | cnt σ2 => exact whl_inv P μ Q h m σ2 st2 h4.1 (by omega)
      | brk σ2 => exact ⟨.nx σ2, st2, rfl, h4⟩
      | ret d => exact ⟨.ret d, st2, rfl, h4⟩
end
end Iv

namespace Iv
open PySem L2 PySem.Spec
section
variable {X : Cx} {K : PySem.W.Frag} {ww : World}
/-! ### T.index(e), T a written tuple of texts -/
def idxS : List Str → Str → Option Nat
  | [], _ => none
  | y :: ys, z => if y = z then some 0 else (idxS ys z).map (· + 1)
theorem idxS_ok : ∀ {ys : List Str} {z : Str} {j : Nat}, idxS ys z = some j → ys[j]? = some z ∧ ∀ m, m < j → ys[m]? ≠ some z
  | [], z, j, h => by cases h
  | y :: ys, z, j, h => by
    unfold idxS at h
    by_cases e : y = z
    · rw [if_pos e] at h
      cases h
      exact ⟨by simp [e], fun m hm => absurd hm (Nat.not_lt_zero _)⟩
    · rw [if_neg e] at h
      cases e2 : idxS ys z with
      | none => rw [e2] at h; cases h
      | some i =>
        rw [e2] at h
        cases h
        obtain ⟨h1, h2⟩ := idxS_ok e2
        refine ⟨by simpa using h1, fun m hm => ?_⟩
        have hm' : m < i + 1 := hm
        cases m with
        | zero => simpa using e
        | succ m => simpa using h2 m (by omega)
def ConT (K : PySem.W.Frag) (mg : Str → Option Value) (x : Str) (d : D) : Prop := ∃ p ds, d = .tup ds ∧ mg x = some (.ref p) ∧ (∃ o, K.lookup p = some o ∧ o.cls = .type "tuple" ∧ o.dict = none) ∧ ∀ H μ, Rep K H μ d (.ref p)
def indexC (d : D) : OpN := fun ys st => match d, ys with
  | .tup xs, [.str z] => match strsD xs with
    | none => none
    | some zs => match idxS zs z with
      | none => none
      | some j => some (.int (j : Nat), st)
  | _, _ => none
theorem strs_of {H : Hp} {μ : List Addr} : ∀ {xs : List D} {vs : List V} {bs : List Str}, Reps K H μ xs vs → strsD xs = some bs → vs = bs.map V.str
  | [], vs, bs, r, h => by simp only [Reps] at r; cases h; exact r
  | x :: xs, vs, bs, r, h => by
    simp only [Reps] at r
    obtain ⟨v, ws, rfl, r1, r2⟩ := r
    cases x with
    | str b =>
      simp only [strsD] at h
      cases e : strsD xs with
      | none => rw [e] at h; cases h
      | some cs =>
        rw [e] at h
        cases h
        simp only [Rep] at r1
        rw [r1, strs_of r2 e]
        rfl
    | _ => cases h
theorem e_indexC {x : Str} {d : D} {p : Pos} {e : Expr} {apos cpos : Pos} {g : SA} (C : ConT X.K X.mg x d) (hg : Gl X x) (ha : PA X [e] (rdA X.K X.w g))
    (hbase : attributeBase (.Name x p) "index" X.env (eval (.Name x p) X.env) = eval (.Name x p) X.env := by rfl)
    (hfew : ((backTo cpos (starEach [e] X.env)).all (fun x => !x.1) && (backToKw cpos (keywordEach [] X.env)).all (fun x => x.1.isSome)
      && decide ([e].length + ([] : List Keyword).length + (if ([] : List Keyword).isEmpty then 0 else 1) < 30)) = true := by rfl)
    (hline : (apos.endLine == cpos.line) = true := by rfl) (hs : starEach [e] X.env = (false, eval e X.env) :: starEach [] X.env := by rfl) (hd : (x == ("__debug__" : Str)) = false := by decide) :
    PE X (.Call (.Attribute (.Name x p) "index" apos) [e] [] cpos) (rdE X.K X.w (appF (indexC d) g)) := by
  obtain ⟨a, ds, rfl, hm, hk, hr⟩ := C
  refine (pe_bm PySem.F.plainAttrs_tuple PySem.F.slot_tuple_index PySem.F.type_tuple_index mt_tup_index (pe_glob (v := .ref a) hg hm rfl hd) ha hbase hfew hline hs rfl).weak fun τ H Q ⟨μ, st, σ, d', st', gd, er, hv, k⟩ => ?_
  refine ⟨.inr (.inl ⟨rfl, hk⟩), ?_⟩
  obtain ⟨ys, s1, h1, hv⟩ := bnd_eq hv
  refine ⟨μ, st, σ, ys, s1, gd, er, h1, fun μ1 H1 vs g1 d1 r1 => ?_⟩
  unfold indexC at hv
  split at hv
  · rename_i xs z e1
    cases e1
    split at hv
    · cases hv
    · rename_i zs e2
      split at hv
      · cases hv
      · rename_i j e3
        cases hv
        obtain ⟨v, rfl, rv⟩ := reps1 r1
        simp only [Rep] at rv
        have hr1 := hr H1 μ1
        simp only [Rep] at hr1
        obtain ⟨p1, ws, e4, ⟨s, _⟩, rs⟩ := hr1
        cases e4
        obtain ⟨q1, q2⟩ := idxS_ok e3
        exact ⟨a, zs, z, j, rfl, by rw [rv], by rw [← strs_of rs e2]; exact s, q1, q2, k μ1 H1 _ g1 d1 (by simp only [Rep])⟩
  · cases hv
theorem conT_mk {h : Heap} {mg : Str → Option Value} {x : Str} {p : Addr} {ds : List D} {its : Array Value} {n : Nat} {sl : Array (Option Value)} (X : K.In h) (G : h.Ns mainGlobals mg) (a : PySem.W.nsIn K mainGlobals x = some (some (.ref p))) (l : K.lookup p = some ⟨.type "tuple", none, .seq its n, sl⟩) (z : its.size ≤ 1000) (c : CVs K its.toList ds) : ConT K mg x (.tup ds) := by
  obtain ⟨vs, r, q⟩ := cvs_ok c
  exact ⟨p, ds, rfl, PySem.W.mg_of X G a, ⟨_, l, rfl, rfl⟩, fun H μ => rep_tup (.inr ⟨_, _, _, l, rfl, rfl, Nat.le_trans z (by rw [sizeLine_eq]; decide), r⟩) (fun _ => .inr ⟨_, l, rfl, rfl⟩) (q H μ)⟩
end
end Iv

namespace Iv
open PySem L2
theorem cMul_r {i j : Int} (h : (decide (-18446744073709551616 < j) && decide (j < 18446744073709551616)) = true) : cMul i j = true := by
  have h2 : (decide (-(2 ^ 64) < j) && decide (j < 2 ^ 64)) = true := h
  unfold cMul
  rw [h2, Bool.or_true]
theorem cMul_l {i j : Int} (h : (decide (-18446744073709551616 < i) && decide (i < 18446744073709551616)) = true) : cMul i j = true := by
  have h2 : (decide (-(2 ^ 64) < i) && decide (i < 2 ^ 64)) = true := h
  unfold cMul
  rw [h2, Bool.true_or]
theorem small62 (k : Int) (h0 : 0 ≤ k) (h1 : k ≤ 1000000) : -(2 ^ 62) ≤ k ∧ k < 2 ^ 62 := by omega
theorem rng1_ok {g : SA} {σ : Sl} {st st1 : Sto} {k : Int} (h : g σ st = some ([.int k], st1)) (h0 : 0 ≤ k) (h1 : k ≤ 1000000) : rngI1 g σ st = some (.cns (rngD 0 k.toNat), st1) := by
  rw [rngI1_eq, h, bnd_some]
  exact if_pos (small62 k h0 h1)
theorem rng2_ok {g : SA} {σ : Sl} {st st1 : Sto} {i k : Int} (h : g σ st = some ([.int i, .int k], st1)) (h0 : 0 ≤ i) (h1 : i ≤ 1000000) (h2 : 0 ≤ k) (h3 : k ≤ 1000000) : rngI2 g σ st = some (.cns (rngD i (k - i).toNat), st1) := by
  rw [rngI2_eq, h, bnd_some]
  have a := small62 i h0 h1
  have b := small62 k h2 h3
  exact if_pos ⟨a.1, a.2, b.1, b.2⟩
theorem rng1_nat {g : SA} {σ : Sl} {st st1 : Sto} {n : Nat} (h : g σ st = some ([.int (n : Int)], st1)) (h1 : n ≤ LIM) : rngI1 g σ st = some (.cns (rngD 0 n), st1) := by
  have q : ∀ k : Int, k = (n : Int) → rngI1 g σ st = some (.cns (rngD 0 n), st1) := fun k hk => by
    have h1' : n ≤ 1000000 := h1
    have e := rng1_ok (k := k) (by rw [hk]; exact h) (by omega) (by omega)
    rw [e, hk, Int.toNat_natCast]
  exact q _ rfl
/-! ### written texts -/
theorem map_inj {α β : Type} {f : α → β} (hf : ∀ x y, f x = f y → x = y) : ∀ {l m : List α}, l.map f = m.map f → l = m
  | [], [], _ => rfl
  | [], _ :: _, h => by cases h
  | _ :: _, [], h => by cases h
  | x :: l, y :: m, h => by
    simp only [List.map_cons, List.cons.injEq] at h
    rw [hf x y h.1, map_inj hf h.2]
theorem ofs_codes (a : String) : (Str.ofString a).cps.toList = a.toList.map Char.toNat := by rw [Str.ofString_eq_toList]
theorem ofs_inj (a b : String) : (Str.ofString a = Str.ofString b) = (a = b) := by
  apply propext
  constructor
  · intro h
    have h2 := congrArg (fun s : Str => s.cps.toList) h
    simp only [ofs_codes] at h2
    have h3 := map_inj (fun x y e => Char.toNat_inj.mp e) h2
    exact String.toList_inj.mp h3
  · rintro rfl; rfl
/-! ### what a meaning comes to, with what is wanted of it -/
def Wp (x : Option (R × Sto)) (Q : R → Sto → Prop) : Prop := ∃ r st, x = some (r, st) ∧ Q r st
section
variable {σ σ1 σ2 : Sl} {st st1 st2 : Sto} {d : D} {f : SE} {c : ST} {a b : SS} {i n m : Nat} {r : R} {Q Q' : R → Sto → Prop} {g : Tg} {xs : List D}
theorem wp_ok {x : Option (R × Sto)} (h : x = some (r, st)) (q : Q r st) : Wp x Q := ⟨r, st, h, q⟩
theorem wp_mono {x : Option (R × Sto)} (h : Wp x Q) (k : ∀ r s, Q r s → Q' r s) : Wp x Q' := let ⟨r, s, e, q⟩ := h; ⟨r, s, e, k r s q⟩
theorem wp_seq (h : Wp (a σ st) fun r s => match r with
    | .nx σ' => Wp (b σ' s) Q
    | r => Q r s) : Wp (seqS a b σ st) Q := by
  obtain ⟨r, s, e, q⟩ := h
  unfold Wp
  rw [seqS_eq, e]
  cases r with
  | nx σ' => exact q
  | brk σ' => exact ⟨_, _, rfl, q⟩
  | cnt σ' => exact ⟨_, _, rfl, q⟩
  | ret d => exact ⟨_, _, rfl, q⟩
/-- a step that goes on -/
theorem wp_nx (h : a σ st = some (.nx σ1, st1)) (q : Wp (b σ1 st1) Q) : Wp (seqS a b σ st) Q := wp_seq ⟨_, _, h, q⟩
theorem wp_ret (h : f σ st = some (d, st1)) (q : Q (.ret d) st1) : Wp (retS f σ st) Q := ⟨_, _, by rw [retS_eq, h, bnd_some], q⟩
theorem wp_asg (h : f σ st = some (d, st1)) (h2 : g d σ = some σ1) (q : Q (.nx σ1) st1) : Wp (asgS g f σ st) Q := ⟨_, _, by rw [asgS_eq, h, bnd_some, h2]; rfl, q⟩
theorem wp_ex (h : f σ st = some (d, st1)) (q : Q (.nx σ) st1) : Wp (exS f σ st) Q := ⟨_, _, by rw [exS_eq, h, bnd_some], q⟩
theorem wp_skip (q : Q (.nx σ) st) : Wp (nxS σ st) Q := ⟨_, _, rfl, q⟩
theorem wp_if {t : Bool} (h : c σ st = some (t, st1)) (h1 : t = true → Wp (a σ st1) Q) (h2 : t = false → Wp (b σ st1) Q) : Wp (ifS c a b σ st) Q := by
  unfold Wp
  rw [ifS_eq, h, bnd_some]
  cases t with
  | true => exact h1 rfl
  | false => exact h2 rfl
theorem wp_for {i : SJ} (P : Nat → Sl → Sto → Prop) (hi : i σ st = some (.cns xs, st1)) (h0 : P 0 σ st1)
    (h : ∀ (j : Nat) (σ : Sl) (st : Sto) (d : D), xs[j]? = some d → P j σ st → ∃ σ1, g d σ = some σ1 ∧ Wp (b σ1 st) fun r s => match r with
      | .nx σ2 => P (j + 1) σ2 s
      | .cnt σ2 => P (j + 1) σ2 s
      | .brk σ2 => Q (.nx σ2) s
      | .ret d => Q (.ret d) s)
    (he : ∀ σ s, P xs.length σ s → Q (.nx σ) s) : Wp (forS i g b σ st) Q := by
  obtain ⟨r, s, e, q⟩ := for_cns (g := g) (b := b) P (fun σ s => Q (.nx σ) s) (fun d s => Q (.ret d) s) (fun j σ st d e p => by
    obtain ⟨σ1, h1, r, s, h2, h3⟩ := h j σ st d e p
    exact ⟨σ1, r, s, h1, h2, by cases r <;> exact h3⟩) (xs.length + 1) 0 σ st1 h0 (Nat.zero_le _) (by omega)
  refine ⟨r, s, by rw [forS_eq, hi, bnd_some]; exact e, ?_⟩
  cases r with
  | nx σ' => exact q.elim (he σ' s) id
  | ret d => exact q
  | brk σ' => exact q.elim
  | cnt σ' => exact q.elim
theorem wp_forL {i : SJ} (P : Nat → Sl → Sto → Prop) (hi : i σ st = some (.lst n, st1)) (hx : getL st1 n = some xs) (h0 : P 0 σ st1) (hg : ∀ j σ s, P j σ s → getL s n = some xs)
    (h : ∀ (j : Nat) (σ : Sl) (st : Sto) (d : D), xs[j]? = some d → P j σ st → ∃ σ1, g d σ = some σ1 ∧ Wp (b σ1 st) fun r s => match r with
      | .nx σ2 => P (j + 1) σ2 s
      | .cnt σ2 => P (j + 1) σ2 s
      | .brk σ2 => Q (.nx σ2) s
      | .ret d => Q (.ret d) s)
    (he : ∀ σ s, P xs.length σ s → Q (.nx σ) s) : Wp (forS i g b σ st) Q := by
  obtain ⟨r, s, e, q⟩ := for_lst (g := g) (b := b) (n := n) P (fun σ s => Q (.nx σ) s) (fun d s => Q (.ret d) s) hg (fun j σ st d e p => by
    obtain ⟨σ1, h1, r, s, h2, h3⟩ := h j σ st d e p
    exact ⟨σ1, r, s, h1, h2, by cases r <;> exact h3⟩) (xs.length + 1) 0 σ st1 h0 (Nat.zero_le _) (by omega)
  refine ⟨r, s, by rw [forS_eq, hi, bnd_some]; simp only [items_lst, hx]; exact e, ?_⟩
  cases r with
  | nx σ' => exact q.elim (he σ' s) id
  | ret d => exact q
  | brk σ' => exact q.elim
  | cnt σ' => exact q.elim
theorem wp_while {k : Nat} (P : Sl → Sto → Prop) (μ : Sl → Sto → Nat) (h0 : P σ st) (hk : μ σ st < k)
    (h : ∀ σ st, P σ st → ∃ t st1, c σ st = some (t, st1) ∧ (t = true → Wp (b σ st1) fun r s => match r with
      | .nx σ2 => P σ2 s ∧ μ σ2 s < μ σ st
      | .cnt σ2 => P σ2 s ∧ μ σ2 s < μ σ st
      | .brk σ2 => Q (.nx σ2) s
      | .ret d => Q (.ret d) s) ∧ (t = false → Q (.nx σ) st1)) : Wp (whlS k c b σ st) Q := by
  obtain ⟨r, s, e, q⟩ := whl_inv (c := c) (b := b) P μ Q (fun σ st p => by
    obtain ⟨t, s1, h1, h2, h3⟩ := h σ st p
    refine ⟨t, s1, h1, ?_⟩
    cases t with
    | true =>
      obtain ⟨r, s, h4, h5⟩ := h2 rfl
      exact ⟨r, s, h4, by cases r <;> exact h5⟩
    | false => exact h3 rfl) k σ st h0 hk
  exact ⟨r, s, e, q⟩
/-- a def's own end -/
theorem wp_run {ns np : Nat} {ds : List D} {Q : D → Sto → Prop} (hl : ds.length = np) (h : Wp (b (ds.map some ++ List.replicate (ns - np) none) st) fun r s => match r with
    | .nx _ => Q .non s
    | .ret d => Q d s
    | _ => False) : ∃ d s, runF ns np b ds st = some (d, s) ∧ Q d s := by
  obtain ⟨r, s, e, q⟩ := h
  rw [runF_eq, if_pos hl, e]
  cases r with
  | nx _ => exact ⟨_, _, rfl, q⟩
  | ret d => exact ⟨_, _, rfl, q⟩
  | brk _ => exact q.elim
  | cnt _ => exact q.elim
end
end Iv

namespace Iv
open PySem L2 PySem.Spec
section
variable {X : Cx} {K : PySem.W.Frag} {ww : World}
/-! ### s.index(e), the sign is there -/
def sindexO : OpM := fun x ys st => match x, ys with
  | .str a, [.str b] => match Txt.index0 a b with
    | some k => some (.int (k : Nat), st)
    | none => none
  | _, _ => none
@[simp] theorem sindexO_eq {a b : Str} {st : Sto} : sindexO (.str a) [.str b] st = (match Txt.index0 a b with
    | some k => some (.int (k : Nat), st)
    | none => none) := rfl
theorem e_sindex {o e : Expr} {apos cpos : Pos} {f : SE} {g : SA} (hc : X.calm = true) (ho : PE X o (rdE X.K X.w f)) (ha : PA X [e] (rdA X.K X.w g))
    (hbase : attributeBase o "index" X.env (eval o X.env) = eval o X.env := by rfl)
    (hfew : ((backTo cpos (starEach [e] X.env)).all (fun x => !x.1) && (backToKw cpos (keywordEach [] X.env)).all (fun x => x.1.isSome)
      && decide ([e].length + ([] : List Keyword).length + (if ([] : List Keyword).isEmpty then 0 else 1) < 30)) = true := by rfl)
    (hline : (apos.endLine == cpos.line) = true := by rfl) (hs : starEach [e] X.env = (false, eval e X.env) :: starEach [] X.env := by rfl) :
    PE X (.Call (.Attribute o "index" apos) [e] [] cpos) (rdE X.K X.w (bmF "str" sindexO f g)) :=
  (pe_bmS PySem.F.plainAttrs_str PySem.F.slot_str_index PySem.F.type_str_index (mt_indexX (W := fun _ _ _ _ => False) hc (fun u s' h => by
    obtain ⟨_, _, _, _, _, _, _, _, _, _, _, _, _, _, _, _, w⟩ := h
    exact w.elim)) ho ha hbase hfew hline hs rfl).weak fun τ H Q ⟨μ, st, σ, d, st', gd, er, hv, k⟩ => by
    obtain ⟨x, s1, h1, hv⟩ := bnd_eq hv
    split at hv
    · rename_i ht
      obtain ⟨xs, s2, h2, hv⟩ := bnd_eq hv
      refine ⟨μ, st, σ, x, s1, gd, er, h1, fun μ1 H1 v g1 d1 r1 => ⟨ty_of d1 r1 ht, ?_⟩⟩
      refine ⟨μ1, s1, σ, xs, s2, d1, er.m g1, h2, fun μ2 H2 vs g2 d2 r2 => ?_⟩
      cases x with
      | str a =>
        cases xs with
        | nil => cases hv
        | cons y ys =>
          cases ys with
          | cons _ _ => cases y <;> cases hv
          | nil =>
            cases y with
            | str b =>
              rw [sindexO_eq] at hv
              split at hv
              · rename_i j e1
                cases hv
                obtain ⟨w, rfl, rw'⟩ := reps1 r2
                simp only [Rep] at r1 rw'
                subst r1 rw'
                refine ⟨a, b, rfl, rfl, fun k' e2 => ?_, fun e2 => ?_⟩
                · rw [e1] at e2
                  cases e2
                  exact k μ2 H2 _ (g1.trans g2) d2 (by simp only [Rep])
                · rw [e1] at e2
                  cases e2
              · cases hv
            | _ => cases hv
      | _ => cases hv
    · cases hv
end
end Iv

namespace Iv
open PySem L2
/-! ### comprehensions: each item's own value, in order -/
theorem comp_loop {J : It} {g : Tg} {e : SE} {σ0 : Sl} {st1 : Sto} {xs ys : List D} {n : Nat} (hn : st1.length ≤ n) (hz : xs.length ≤ LIM) (hy : ys.length = xs.length) (hJ : ∀ s, Ext st1 s → items J s = some xs)
    (h : ∀ (i : Nat) (x y : D), xs[i]? = some x → ys[i]? = some y → ∀ st, Ext st1 st → ∃ σ1 st2, g x σ0 = some σ1 ∧ e σ1 st = some (y, st2) ∧ Ext st st2) :
    ∀ (m i : Nat) (s : Sto), Ext st1 s → s[n]? = some (.lst (ys.take i)) → i ≤ xs.length → xs.length - i < m → ∃ s2, compV J g yesT e n σ0 m i s = some s2 ∧ Ext st1 s2 ∧ s2[n]? = some (.lst ys)
  | 0, i, s, _, _, _, hm => by omega
  | m + 1, i, s, hs, ha, hi, hm => by
    unfold compV
    simp only [hJ s hs]
    cases ex : xs[i]? with
    | none =>
      have e2 : i = xs.length := by
        have := List.getElem?_eq_none_iff.mp ex
        omega
      subst e2
      rw [← hy, List.take_length] at ha
      exact ⟨s, rfl, hs, ha⟩
    | some x =>
      have hlt := (List.getElem?_eq_some_iff.mp ex).1
      have ey : ys[i]? = some (ys[i]'(by omega)) := List.getElem?_eq_getElem (by omega)
      obtain ⟨σ1, s2, e1, e2, x2⟩ := h i x _ ex ey s hs
      have ga : getM s2 n = some (ys.take i) := getM_of (x2.at ha)
      have hl : (ys.take i).length < LIM := by
        rw [List.length_take]
        exact Nat.lt_of_lt_of_le (by omega) hz
      have hs2 := hs.trans x2
      have hn2 : n < s2.length := by
        obtain ⟨q, _⟩ := List.getElem?_eq_some_iff.mp (x2.at ha)
        exact q
      simp only [e1, yesT, bnd_some, if_true, e2, ga, hl]
      refine comp_loop hn hz hy hJ h m (i + 1) _ (hs2.set hn) ?_ hlt (by omega)
      rw [List.getElem?_set_self hn2, List.take_add_one, ey]
      rfl
theorem comp_ok {vs : List Nat} {i : SJ} {g : Tg} {e : SE} {σ : Sl} {st st1 : Sto} {J : It} {xs : List D} (ys : List D) (hi : i σ st = some (J, st1)) (hz : xs.length ≤ LIM) (hy : ys.length = xs.length) (hJ : ∀ s, Ext st1 s → items J s = some xs)
    (h : ∀ (i : Nat) (x y : D), xs[i]? = some x → ys[i]? = some y → ∀ st, Ext st1 st → ∃ σ1 st2, g x (wipeD σ vs) = some σ1 ∧ e σ1 st = some (y, st2) ∧ Ext st st2) :
    ∃ s2, compF vs i g yesT e σ st = some (.loc st1.length, s2) ∧ Ext st1 s2 ∧ s2[st1.length]? = some (.lst ys) := by
  obtain ⟨s2, e2, x2, g2⟩ := comp_loop (n := st1.length) (σ0 := wipeD σ vs) (Nat.le_refl _) hz hy hJ h (xs.length + 1) 0 (st1 ++ [.lst []]) (Ext.app _) (by simp) (Nat.zero_le _) (by omega)
  refine ⟨s2, ?_, x2, g2⟩
  unfold compF
  simp only [hi, bnd_some, hJ st1 Ext.refl, e2, Option.map_some]
end Iv

namespace Iv
open PySem L2 PySem.Spec
section
variable {X : Cx} {K : PySem.W.Frag} {ww : World}
/-! ### s * n for n up to 1 -/
def smulO : Op2
  | .str a, .int n, st => if n = 1 then some (.str a, st) else if n < 1 ∧ -1000000 < n then some (.str Str.empty, st) else none
  | _, _, _ => none
@[simp] theorem smulO_eq {a : Str} {n : Int} {st : Sto} : smulO (.str a) (.int n) st = if n = 1 then some (.str a, st) else if n < 1 ∧ -1000000 < n then some (.str Str.empty, st) else none := rfl
def rSmul : R2 := fun x y H Q => ∃ a n, x = V.str a ∧ y = .int n ∧ ((n = 1 ∧ Q (.str a) H) ∨ (n < 1 ∧ -1000000 < n ∧ Q (.str Str.empty) H))
theorem op_smul : OpR X (binaryOp .Mult) rSmul := by
  intro pins s σ H x y v u Q I rx ry h
  obtain ⟨a, n, rfl, rfl, h⟩ := h
  obtain ⟨t, rfl⟩ := rx
  obtain ⟨t', rfl⟩ := ry
  rcases h with ⟨rfl, q⟩ | ⟨h1, h2, q⟩
  · refine PySem.P.mul_str (by decide) (fun _ h => by cases h) (fun _ h => by cases h) ?_
    exact ⟨.str a, H, I, ⟨t, rfl⟩, q⟩
  · exact PySem.P.mul_str_none h1 (by omega) ⟨.str Str.empty, H, I.tok _, ⟨_, rfl⟩, q⟩
theorem ok_smul : Ok2 K ww rSmul smulO := by
  intro H μ st x y vx vy d st' Q g rx ry hv k
  cases x with
  | str a =>
    cases y with
    | int n =>
      simp only [Rep] at rx ry
      subst rx ry
      rw [smulO_eq] at hv
      split at hv
      · rename_i h
        cases hv
        exact ⟨a, n, rfl, rfl, .inl ⟨h, here k g (by simp only [Rep])⟩⟩
      · split at hv
        · rename_i h
          cases hv
          exact ⟨a, n, rfl, rfl, .inr ⟨h.1, h.2, here k g (by simp only [Rep])⟩⟩
        · cases hv
    | _ => cases hv
  | _ => cases hv
theorem e_smul {a b : Expr} {f g : SE} {pos : Pos} (ha : PE X a (rdE X.K X.w f)) (hb : PE X b (rdE X.K X.w g)) : PE X (.BinOp a .Mult b pos) (rdE X.K X.w (binF smulO f g)) := se_bin op_smul ok_smul ha hb
end
end Iv

namespace Iv
open PySem L2 PySem.Spec
/-! ### a dict of the module with text keys -/
inductive DVs (K : PySem.W.Frag) (P : Params) : List DictEntry → List (Str × D) → Prop
  | nil : DVs K P [] []
  | cons {h : Int} {x : Str} {t : Tok} {u : Value} {d : D} {es : List DictEntry} {kvs : List (Str × D)} (hh : h = PyData.keyHash P x) (hv : CV K u d) (r : DVs K P es kvs) : DVs K P (⟨h, .str x t, u⟩ :: es) ((x, d) :: kvs)
def lkp : List (Str × D) → Str → Option D
  | [], _ => none
  | (k, d) :: r, z => if (k == z) = true then some d else lkp r z
def ConD (K : PySem.W.Frag) (w : World) (mg : Str → Option Value) (x : Str) (kvs : List (Str × D)) : Prop := ∃ a es n, mg x = some (.ref a) ∧ KDict K w a es n ∧ DVs K w.params es.toList kvs
theorem dvs_lit {K : PySem.W.Frag} {P : Params} : ∀ {es : List DictEntry} {kvs : List (Str × D)}, DVs K P es kvs → PySem.W.KeysLit P es
  | _, _, .nil => trivial
  | _, _, .cons hh _ r => ⟨⟨_, _, rfl, hh⟩, dvs_lit r⟩
theorem dvs_find {K : PySem.W.Frag} {P : Params} (z : Str) : ∀ {es : List DictEntry} {kvs : List (Str × D)}, DVs K P es kvs →
    es.any (·.refKey) = false ∧ ((∃ d e, lkp kvs z = some d ∧ es.find? (·.key.isStr z) = some e ∧ CV K e.val d) ∨ (lkp kvs z = none ∧ es.find? (·.key.isStr z) = none))
  | _, _, .nil => ⟨rfl, .inr ⟨rfl, rfl⟩⟩
  | _, _, .cons (h := h) (x := x) (t := t) (u := u) (d := d) (es := es) (kvs := kvs) hh hv r => by
    obtain ⟨h1, h2⟩ := dvs_find z r
    refine ⟨by rw [List.any_cons, h1]; rfl, ?_⟩
    by_cases q : (x == z) = true
    · exact .inl ⟨d, ⟨h, .str x t, u⟩, by unfold lkp; rw [if_pos q], by
        rw [List.find?_cons]
        have : (DictEntry.mk h (.str x t) u).key.isStr z = true := q
        rw [this], hv⟩
    · have q' : (DictEntry.mk h (.str x t) u).key.isStr z = false := Bool.eq_false_iff.mpr q
      rcases h2 with ⟨d2, e2, a1, a2, a3⟩ | ⟨a1, a2⟩
      · exact .inl ⟨d2, e2, by unfold lkp; rw [if_neg q]; exact a1, by rw [List.find?_cons, q']; exact a2, a3⟩
      · exact .inr ⟨by unfold lkp; rw [if_neg q]; exact a1, by rw [List.find?_cons, q']; exact a2⟩
theorem dvs_ns {K : PySem.W.Frag} {w : World} {a : Addr} {es : Array DictEntry} {n : Nat} {kvs : List (Str × D)} (D' : KDict K w a es n) (h : DVs K w.params es.toList kvs) (z : Str) :
    (∃ d u, lkp kvs z = some d ∧ PySem.W.nsIn K a z = some (some u) ∧ CV K u d) ∨ (lkp kvs z = none ∧ PySem.W.nsIn K a z = some none) := by
  obtain ⟨h1, h2⟩ := dvs_find z h
  unfold PySem.W.nsIn
  rw [D'.at_]
  dsimp only
  rcases h2 with ⟨d, e, a1, a2, a3⟩ | ⟨a1, a2⟩
  · exact .inl ⟨d, e.val, a1, by rw [a2], a3⟩
  · exact .inr ⟨a1, by rw [a2]; dsimp only; rw [h1]; rfl⟩
theorem conD_mk {h : Heap} {K : PySem.W.Frag} {w : World} {mg : Str → Option Value} {x : Str} {p : Addr} {es : Array DictEntry} {n : Nat} {kvs : List (Str × D)} (X : K.In h) (G : h.Ns mainGlobals mg) (a : PySem.W.nsIn K mainGlobals x = some (some (.ref p))) (l : K.lookup p = some ⟨.type "dict", none, .dict es n, #[]⟩) (z : (p == sysModules) = false) (c : DVs K w.params es.toList kvs) : ConD K w mg x kvs :=
  ⟨p, es, n, PySem.W.mg_of X G a, ⟨l, dvs_lit c, z⟩, c⟩
/-! ### k in NAME, NAME[k], NAME.get(k), NAME.get(k, d) -/
def dinO (kvs : List (Str × D)) (neg : Bool) : Op1 := fun x st => match x with
  | .str z => some (.bl ((lkp kvs z).isSome != neg), st)
  | _ => none
def ditO (kvs : List (Str × D)) : Op1 := fun x st => match x with
  | .str z => (lkp kvs z).map fun d => (d, st)
  | _ => none
def dgetO (kvs : List (Str × D)) : OpN := fun xs st => match xs with
  | [.str z] => some ((lkp kvs z).getD .non, st)
  | [.str z, d] => some ((lkp kvs z).getD d, st)
  | _ => none
@[simp] theorem dinO_str {kvs : List (Str × D)} {neg : Bool} {z : Str} {st : Sto} : dinO kvs neg (.str z) st = some (.bl ((lkp kvs z).isSome != neg), st) := rfl
@[simp] theorem ditO_str {kvs : List (Str × D)} {z : Str} {st : Sto} : ditO kvs (.str z) st = (lkp kvs z).map fun d => (d, st) := rfl
@[simp] theorem dgetO_1 {kvs : List (Str × D)} {z : Str} {st : Sto} : dgetO kvs [.str z] st = some ((lkp kvs z).getD .non, st) := rfl
@[simp] theorem dgetO_2 {kvs : List (Str × D)} {z : Str} {d : D} {st : Sto} : dgetO kvs [.str z, d] st = some ((lkp kvs z).getD d, st) := by cases d <;> rfl
section
variable {X : Cx} {x : Str} {kvs : List (Str × D)} {p pos : Pos} {e : Expr} {f : SE}
theorem e_din (C : ConD X.K X.w X.mg x kvs) (hg : Gl X x) (ha : PE X e (rdE X.K X.w f)) (hm : behindInMarks .In (.Name x p) = false := by first | exact nobehind _ (by decide) (by decide) | rfl) (hd : (x == ("__debug__" : Str)) = false := by decide) : PE X (.Compare e [.In] [.Name x p] pos) (rdE X.K X.w (unF (dinO kvs false) f)) := by
  obtain ⟨a, es, n, hx, D', dv⟩ := C
  refine (pe_cmpR (op_in_kd D') ha (pe_glob hg hx (v := .ref a) rfl hd) hm).weak ?_
  rintro τ H Q ⟨μ, st, σ, d, st', gd, er, hv, k⟩
  obtain ⟨y, s1, h1, hv⟩ := bnd_eq hv
  refine ⟨μ, st, σ, y, s1, gd, er, h1, fun μ1 H1 vx g1 d1 r1 => ?_⟩
  cases y with
  | str z =>
    simp only [Rep] at r1
    subst r1
    cases hv
    rcases dvs_ns D' dv z with ⟨d, u, a1, a2, _⟩ | ⟨a1, a2⟩
    · refine ⟨z, some u, rfl, rfl, a2, k μ1 H1 _ g1 d1 ?_⟩
      rw [a1]; simp only [Rep]; rfl
    · refine ⟨z, none, rfl, rfl, a2, k μ1 H1 _ g1 d1 ?_⟩
      rw [a1]; simp only [Rep]; rfl
  | _ => cases hv
theorem e_dnin (C : ConD X.K X.w X.mg x kvs) (hg : Gl X x) (ha : PE X e (rdE X.K X.w f)) (hm : behindInMarks .NotIn (.Name x p) = false := by first | exact nobehind _ (by decide) (by decide) | rfl) (hd : (x == ("__debug__" : Str)) = false := by decide) : PE X (.Compare e [.NotIn] [.Name x p] pos) (rdE X.K X.w (unF (dinO kvs true) f)) := by
  obtain ⟨a, es, n, hx, D', dv⟩ := C
  refine (pe_cmpR (op_notIn_kd D') ha (pe_glob hg hx (v := .ref a) rfl hd) hm).weak ?_
  rintro τ H Q ⟨μ, st, σ, d, st', gd, er, hv, k⟩
  obtain ⟨y, s1, h1, hv⟩ := bnd_eq hv
  refine ⟨μ, st, σ, y, s1, gd, er, h1, fun μ1 H1 vx g1 d1 r1 => ?_⟩
  cases y with
  | str z =>
    simp only [Rep] at r1
    subst r1
    cases hv
    rcases dvs_ns D' dv z with ⟨d, u, a1, a2, _⟩ | ⟨a1, a2⟩
    · refine ⟨z, some u, rfl, rfl, a2, k μ1 H1 _ g1 d1 ?_⟩
      rw [a1]; simp only [Rep]; rfl
    · refine ⟨z, none, rfl, rfl, a2, k μ1 H1 _ g1 d1 ?_⟩
      rw [a1]; simp only [Rep]; rfl
  | _ => cases hv
theorem t_din (C : ConD X.K X.w X.mg x kvs) (hg : Gl X x) (ha : PE X e (rdE X.K X.w f)) (hm : behindInMarks .In (.Name x p) = false := by first | exact nobehind _ (by decide) (by decide) | rfl) (hd : (x == ("__debug__" : Str)) = false := by decide) : PT X (.Compare e [.In] [.Name x p] pos) (rdT X.K X.w (truF (unF (dinO kvs false) f))) := by
  obtain ⟨a, es, n, hx, D', dv⟩ := C
  refine (pt_cmpR (op_in_kd D') ha (pe_glob hg hx (v := .ref a) rfl hd) hm).weak ?_
  rintro τ H Q ⟨μ, st, σ, b, st', gd, er, hv, k⟩
  obtain ⟨y0, s0, h0, hv⟩ := bnd_eq hv
  obtain ⟨y, s1, h1, h2⟩ := bnd_eq h0
  refine ⟨μ, st, σ, y, s1, gd, er, h1, fun μ1 H1 vx g1 d1 r1 => ?_⟩
  cases y with
  | str z =>
    simp only [Rep] at r1
    subst r1
    cases h2
    cases hv
    rcases dvs_ns D' dv z with ⟨d, u, a1, a2, _⟩ | ⟨a1, a2⟩
    · refine ⟨z, some u, rfl, rfl, a2, true, rfl, ?_⟩
      have := k μ1 H1 g1 d1
      rw [a1] at this; exact this
    · refine ⟨z, none, rfl, rfl, a2, false, rfl, ?_⟩
      have := k μ1 H1 g1 d1
      rw [a1] at this; exact this
  | _ => cases h2
theorem t_dnin (C : ConD X.K X.w X.mg x kvs) (hg : Gl X x) (ha : PE X e (rdE X.K X.w f)) (hm : behindInMarks .NotIn (.Name x p) = false := by first | exact nobehind _ (by decide) (by decide) | rfl) (hd : (x == ("__debug__" : Str)) = false := by decide) : PT X (.Compare e [.NotIn] [.Name x p] pos) (rdT X.K X.w (truF (unF (dinO kvs true) f))) := by
  obtain ⟨a, es, n, hx, D', dv⟩ := C
  refine (pt_cmpR (op_notIn_kd D') ha (pe_glob hg hx (v := .ref a) rfl hd) hm).weak ?_
  rintro τ H Q ⟨μ, st, σ, b, st', gd, er, hv, k⟩
  obtain ⟨y0, s0, h0, hv⟩ := bnd_eq hv
  obtain ⟨y, s1, h1, h2⟩ := bnd_eq h0
  refine ⟨μ, st, σ, y, s1, gd, er, h1, fun μ1 H1 vx g1 d1 r1 => ?_⟩
  cases y with
  | str z =>
    simp only [Rep] at r1
    subst r1
    cases h2
    cases hv
    rcases dvs_ns D' dv z with ⟨d, u, a1, a2, _⟩ | ⟨a1, a2⟩
    · refine ⟨z, some u, rfl, rfl, a2, false, rfl, ?_⟩
      have := k μ1 H1 g1 d1
      rw [a1] at this; exact this
    · refine ⟨z, none, rfl, rfl, a2, true, rfl, ?_⟩
      have := k μ1 H1 g1 d1
      rw [a1] at this; exact this
  | _ => cases h2
theorem e_dit (C : ConD X.K X.w X.mg x kvs) (hg : Gl X x) (ha : PE X e (rdE X.K X.w f)) (hs : PlainIx e := by exact fun _ _ => rfl) (hd : (x == ("__debug__" : Str)) = false := by decide) : PE X (.Subscript (.Name x p) e pos) (rdE X.K X.w (unF (ditO kvs) f)) := by
  obtain ⟨a, es, n, hx, D', dv⟩ := C
  refine (pe_ix ix_kdict (pe_glob hg hx (v := .ref a) rfl hd) ha hs).weak ?_
  rintro τ H Q ⟨μ, st, σ, d, st', gd, er, hv, k⟩
  obtain ⟨y, s1, h1, hv⟩ := bnd_eq hv
  refine ⟨μ, st, σ, y, s1, gd, er, h1, fun μ1 H1 vx g1 d1 r1 => ?_⟩
  cases y with
  | str z =>
    simp only [Rep] at r1
    subst r1
    rw [ditO_str] at hv
    rcases dvs_ns D' dv z with ⟨d2, u, a1, a2, c⟩ | ⟨a1, a2⟩
    · rw [a1] at hv
      cases hv
      obtain ⟨v, rv, rp⟩ := cv_ok c
      exact ⟨a, z, v, rfl, rfl, ⟨es, n, u, D'.at_, D'.lit, a2, rv⟩, k μ1 H1 v g1 d1 (rp H1 μ1)⟩
    · rw [a1] at hv; cases hv
  | _ => cases hv
/-- the call by values -/
theorem mt_dget {a : Addr} {es : Array DictEntry} {n : Nat} (D' : KDict X.K X.w a es n) : MtR X "dict.get" (fun x vs H Q => x = .ref a ∧ ∃ (z : Str) (r : Option Value), PySem.W.nsIn X.K a z = some r ∧
    ((vs = [.str z] ∧ ∃ v, (∀ u, r = some u → RelV v u) ∧ (r = none → v = .non) ∧ Q v H) ∨ (∃ dv v, vs = [.str z, dv] ∧ (∀ u, r = some u → RelV v u) ∧ (r = none → v = dv) ∧ Q v H))) := by
  intro pins s σ H x vs v us Q I rx rv h
  obtain ⟨rfl, z, r, e, h⟩ := h
  obtain rfl : v = Value.ref a := rx
  have hm := PySem.W.mapOf_K (prog := X.prog) (w := X.w) I.kIn D'.at_ D'.lit
  have hf := PySem.W.find_K D'.at_ e
  rcases h with ⟨rfl, v, h1, h2, q⟩ | ⟨dv, v, rfl, h1, h2, q⟩
  · obtain ⟨u, rfl, t, rfl⟩ := rv.one
    refine call_meetsIn PySem.F.slot_dict_get hm.typeIs PySem.F.entry_dict_get (PySem.F.args_dict_get_2 _ _) (meets_dict_get (knd := PySem.strKind X.prog X.w) (d := a) (k := z) (PySem.strKind_is X.prog X.w z t) D'.low) ⟨_, hm, ?_⟩
    show EP X pins σ Q _ _
    rw [hf]
    refine ⟨v, H, I.tok _, ?_, q⟩
    cases r with
    | none => rw [h2 rfl]; rfl
    | some u => exact h1 u rfl
  · obtain ⟨u, u2, rfl, ⟨t, rfl⟩, r2⟩ := rv.two
    refine call_meetsIn PySem.F.slot_dict_get hm.typeIs PySem.F.entry_dict_get (PySem.F.args_dict_get_3 _ _ _) (meets_dict_get_default (knd := PySem.strKind X.prog X.w) (d := a) (k := z) (PySem.strKind_is X.prog X.w z t) D'.low u2) ⟨_, hm, ?_⟩
    show EP X pins σ Q _ _
    rw [hf]
    refine ⟨v, H, I.tok _, ?_, q⟩
    cases r with
    | none => rw [h2 rfl]; exact r2
    | some u => exact h1 u rfl
theorem e_dget {es : List Expr} {apos : Pos} {g : SA} (C : ConD X.K X.w X.mg x kvs) (hg : Gl X x) (ha : PA X (e :: es) (rdA X.K X.w g)) (hd : (x == ("__debug__" : Str)) = false := by decide)
    (hbase : attributeBase (.Name x p) "get" X.env (eval (.Name x p) X.env) = eval (.Name x p) X.env := by rfl)
    (hfew : ((backTo pos (starEach (e :: es) X.env)).all (fun x => !x.1) && (backToKw pos (keywordEach [] X.env)).all (fun x => x.1.isSome)
      && decide ((e :: es).length + ([] : List Keyword).length + (if ([] : List Keyword).isEmpty then 0 else 1) < 30)) = true := by rfl)
    (hline : (apos.endLine == pos.line) = true := by rfl) (hs : starEach (e :: es) X.env = (false, eval e X.env) :: starEach es X.env := by rfl) (hplain : (backTo pos (starEach es X.env)).any (·.1) = false := by rfl) :
    PE X (.Call (.Attribute (.Name x p) "get" apos) (e :: es) [] pos) (rdE X.K X.w (appF (dgetO kvs) g)) := by
  obtain ⟨a, ents, n, hx, D', dv⟩ := C
  refine ⟨fun pins s σ H Q I h => ?_⟩
  refine wpAny_Call_method_late hbase hfew hline rfl (thn ((pe_glob hg hx (v := .ref a) rfl hd).run pins s σ H (fun x H1 => x = .ref a ∧ rdE X.K X.w (appF (dgetO kvs) g) σ H1 Q) I ⟨rfl, h⟩) fun v s1 ⟨x', H1, I1, r1, ex, q1⟩ => ?_)
  subst ex
  obtain rfl : v = Value.ref a := r1
  obtain ⟨μ, st, σ1, d, st', gd, er, hv, k⟩ := q1
  obtain ⟨xs, s3, h1, hv⟩ := bnd_eq hv
  refine ⟨"dict", "dict.get", PySem.F.plainAttrs_dict, PySem.F.slot_dict_get, PySem.F.type_dict_get, kd_type D' I1, ?_, ?_⟩
  · intro b eb
    cases eb
    exact ⟨_, I1.kIn _ _ D'.at_, rfl⟩
  have hA := ha.run pos pins s1 σ H1 (fun vs H2 => ∃ μ2, Gr H1 μ H2 μ2 ∧ Gd X.K X.w H2 μ2 s3 ∧ Reps X.K H2 μ2 xs vs) I1 ⟨μ, st, σ1, xs, s3, gd, er, h1, fun μ' H' vs g' d' r' => ⟨μ', g', d', r'⟩⟩
  rw [hs] at hA ⊢
  refine Calls.callWith_builtin (by show (false || (backTo pos (starEach es X.env)).any (·.1)) = false; rw [hplain] <;> rfl) (Calls.evalArgs_plain ?_)
  refine thn hA fun us s2 ⟨vs, H2, I2, r2, μ2, g2, gd2, rp⟩ => mt_dget D' pins s2 σ H2 (.ref a) vs (.ref a) us Q I2 rfl r2 ⟨rfl, ?_⟩
  unfold dgetO at hv
  split at hv
  · rename_i z _
    cases hv
    obtain ⟨v, rfl, rz⟩ := reps1 rp
    simp only [Rep] at rz
    subst rz
    rcases dvs_ns D' dv z with ⟨d2, u, a1, a2, c⟩ | ⟨a1, a2⟩
    · obtain ⟨v, rv, rpv⟩ := cv_ok c
      refine ⟨z, some u, a2, .inl ⟨rfl, v, (fun u' h => by cases h; exact rv), (fun h => by cases h), k μ2 H2 v g2 gd2 ?_⟩⟩
      rw [a1]; exact rpv H2 μ2
    · refine ⟨z, none, a2, .inl ⟨rfl, .non, (fun u' h => by cases h), (fun h => rfl), k μ2 H2 _ g2 gd2 ?_⟩⟩
      rw [a1]; simp only [Option.getD_none, Rep]
  · rename_i z dd _
    cases hv
    obtain ⟨v, v2, rfl, rz, rd⟩ := reps2 rp
    simp only [Rep] at rz
    subst rz
    rcases dvs_ns D' dv z with ⟨d2, u, a1, a2, c⟩ | ⟨a1, a2⟩
    · obtain ⟨v, rv, rpv⟩ := cv_ok c
      refine ⟨z, some u, a2, .inr ⟨v2, v, rfl, (fun u' h => by cases h; exact rv), (fun h => by cases h), k μ2 H2 v g2 gd2 ?_⟩⟩
      rw [a1]; exact rpv H2 μ2
    · refine ⟨z, none, a2, .inr ⟨v2, v2, rfl, (fun u' h => by cases h), (fun h => rfl), k μ2 H2 _ g2 gd2 ?_⟩⟩
      rw [a1]; exact rd
  · cases hv
end
end Iv

namespace Iv
open PySem L2 PySem.Spec
/-! ### f-strings of texts and ints, two parts or more -/
def fmtO : Op1 := fun x st => match x with
  | .str y => if y.length ≤ LIM then some (.str y, st) else none
  | .int i => if i.natAbs.log2 < 1920 then some (.str (toString i), st) else none
  | _ => none
def jsF : List SE → Str → Sl → Sto → Option (Str × Sto)
  | [], acc, _, st => some (acc, st)
  | f :: fs, acc, σ, st => bnd (f σ st) fun x st1 => match x with
    | .str y => if (acc ++ y).length ≤ LIM then jsF fs (acc ++ y) σ st1 else none
    | _ => none
def fstrF (fs : List SE) : SE := fun σ st => bnd (jsF fs Str.empty σ st) fun x st1 => some (.str x, st1)
theorem fstrF_eq {fs : List SE} {σ : Sl} {st : Sto} : fstrF fs σ st = bnd (jsF fs Str.empty σ st) fun x st1 => some (.str x, st1) := rfl
section
variable {K : PySem.W.Frag} {ww : World}
theorem js_rd : ∀ (fs : List SE) (acc : Str) (τ : St) (H : Hp) (Q : Str → Hp → Prop), (∃ μ st σ x st', Gd K ww H μ st ∧ EnvR K H μ σ τ ∧ jsF fs acc σ st = some (x, st') ∧ ∀ μ' H', Gr H μ H' μ' → Gd K ww H' μ' st' → Q x H') → tJs (fs.map (rdE K ww)) acc τ H Q
  | [], acc, τ, H, Q, ⟨μ, st, σ, x, st', gd, er, hv, k⟩ => by
    cases hv
    exact k μ H (Gr.refl H μ) gd
  | f :: fs, acc, τ, H, Q, ⟨μ, st, σ, x, st', gd, er, hv, k⟩ => by
    unfold jsF at hv
    obtain ⟨y, s1, h1, hv⟩ := bnd_eq hv
    refine ⟨μ, st, σ, y, s1, gd, er, h1, fun μ1 H1 v g1 d1 r1 => ?_⟩
    cases y with
    | str z =>
      simp only [Rep] at r1
      subst r1
      dsimp only at hv
      split at hv
      · rename_i hl
        exact ⟨z, rfl, lim_ok hl, js_rd fs (acc ++ z) τ H1 Q ⟨μ1, s1, σ, x, st', d1, er.m g1, hv, fun μ' H' g' d' => k μ' H' (g1.trans g') d'⟩⟩
      · cases hv
    | _ => cases hv
end
section
variable {X : Cx}
theorem sj_nil : PJ X [] (([] : List SE).map (rdE X.K X.w)) := .nil
theorem sj_cons {e : Expr} {es : List Expr} {f : SE} {fs : List SE} (h : PE X e (rdE X.K X.w f)) (r : PJ X es (fs.map (rdE X.K X.w))) : PJ X (e :: es) ((f :: fs).map (rdE X.K X.w)) := .cons h r
theorem e_fmt {e : Expr} {f : SE} {pos : Pos} (h : PE X e (rdE X.K X.w f)) : PE X (.FormattedValue e (-1) none pos) (rdE X.K X.w (unF fmtO f)) := (pe_fmt h).weak fun τ H Q ⟨μ, st, σ, d, st', gd, er, hv, k⟩ => by
  obtain ⟨y, s1, h1, hv⟩ := bnd_eq hv
  refine ⟨μ, st, σ, y, s1, gd, er, h1, fun μ1 H1 vx g1 d1 r1 => ?_⟩
  cases y with
  | str z =>
    simp only [Rep] at r1
    subst r1
    simp only [fmtO] at hv
    split at hv
    · rename_i hl
      cases hv
      exact .inl ⟨z, rfl, lim_ok hl, k μ1 H1 _ g1 d1 (by simp only [Rep])⟩
    · cases hv
  | int i =>
    simp only [Rep] at r1
    subst r1
    simp only [fmtO] at hv
    split at hv
    · rename_i hl
      cases hv
      exact .inr ⟨i, rfl, hl, k μ1 H1 _ g1 d1 (by simp only [Rep])⟩
    · cases hv
  | _ => cases hv
theorem e_fstr {v1 v2 : Expr} {rest : List Expr} {f1 f2 : SE} {fs : List SE} {pos : Pos} (h : PJ X (v1 :: v2 :: rest) ((f1 :: f2 :: fs).map (rdE X.K X.w))) : PE X (.JoinedStr (v1 :: v2 :: rest) pos) (rdE X.K X.w (fstrF (f1 :: f2 :: fs))) :=
  (pe_joined h).weak fun τ H Q ⟨μ, st, σ, d, st', gd, er, hv, k⟩ => by
    obtain ⟨y, s2, h1, hv⟩ := bnd_eq hv
    cases hv
    exact js_rd _ _ τ H _ ⟨μ, st, σ, y, _, gd, er, h1, fun μ' H' g' d' => k μ' H' _ g' d' (by simp only [Rep])⟩
end
end Iv

namespace Iv
open PySem L2 PySem.Spec
/-! ### l.pop() -/
def popO : OpM := fun x ys st => match x, ys with
  | .loc n, [] => match getM st n with
    | none => none
    | some xs => if xs.length ≤ LIM then (xs.getLast?).map fun d => (d, st.set n (.lst xs.dropLast)) else none
  | _, _ => none
@[simp] theorem popO_eq {n : Nat} {st : Sto} : popO (.loc n) [] st = (match getM st n with
    | none => none
    | some xs => if xs.length ≤ LIM then (xs.getLast?).map fun d => (d, st.set n (.lst xs.dropLast)) else none) := rfl
section
variable {X : Cx} {K : PySem.W.Frag} {ww : World}
theorem ok_pop : OkM K ww rPop popO := by
  intro H μ st x ys vx vs d st' Q g rx r hv k
  cases x with
  | loc n =>
    simp only [popO] at hv
    split at hv
    · rename_i n' e9
      cases e9
      split at hv
      · cases hv
      · rename_i xs e
        split at hv
        · rename_i hl
          cases hd : xs.getLast? with
          | none => rw [hd] at hv; cases hv
          | some y =>
            rw [hd] at hv
            cases hv
            simp only [Rep] at rx
            obtain ⟨p, rfl, hp⟩ := rx
            obtain rfl : vs = [] := by
              have := r.len
              cases vs with
              | nil => rfl
              | cons _ _ => cases this
            obtain ⟨ws, hH, rs⟩ := g.getM hp e
            rw [List.getLast?_eq_getElem?] at hd
            obtain ⟨v, hw, rv⟩ := rs.get hd
            have gw : Gr H μ (upd H p (.lst ws.dropLast)) μ := gr_write hH
            have rd : Reps K H μ xs.dropLast ws.dropLast := by
              rw [List.dropLast_eq_take, List.dropLast_eq_take, ← rs.len]
              exact rs.take _
            exact ⟨p, ws, v, rfl, rfl, hH, by rw [← rs.len]; exact hw, k μ _ _ gw (g.write hp (getM_get e) hH rd) (rv.m gw)⟩
        · cases hv
    · cases hv
  | _ => cases hv
theorem e_pop {o : Expr} {apos cpos : Pos} {f : SE} (ho : PE X o (rdE X.K X.w f)) (hbase : attributeBase o "pop" X.env (eval o X.env) = eval o X.env := by rfl) (hline : (apos.endLine == cpos.line) = true := by rfl) :
    PE X (.Call (.Attribute o "pop" apos) [] [] cpos) (rdE X.K X.w (bm0F "list" popO f)) :=
  se_bm0 PySem.F.plainAttrs_list PySem.F.slot_list_pop PySem.F.type_list_pop mt_pop ok_pop ho hbase hline
/-! ### l.extend(m) -/
theorem ok_extend : OkM K ww rExtend extendO := by
  intro H μ st x ys vx vs d st' Q g rx r hv k
  cases x with
  | loc n =>
    simp only [extendO] at hv
    split at hv
    · rename_i n' m e9
      cases e9
      split at hv
      · cases hv
      · split at hv
        · rename_i xs zs e1 e2
          split at hv
          · rename_i hl
            cases hv
            simp only [Rep] at rx
            obtain ⟨p, rfl, hp⟩ := rx
            obtain ⟨v, rfl, rv⟩ := reps1 r
            simp only [Rep] at rv
            obtain ⟨q, rfl, hq⟩ := rv
            obtain ⟨ws, hH, rs⟩ := g.getM hp e1
            obtain ⟨us, hH2, rs2⟩ := g.getM hq e2
            have gw : Gr H μ (upd H p (.lst (ws ++ us))) μ := gr_write hH
            exact ⟨p, q, ws, us, rfl, rfl, hH, hH2, lim_ok (by rw [← rs.len, ← rs2.len]; exact hl), k μ _ _ gw (g.write hp (getM_get e1) hH (rs.app rs2)) (by simp only [Rep])⟩
          · cases hv
        · cases hv
    · cases hv
  | _ => cases hv
theorem e_extend {o e : Expr} {apos cpos : Pos} {f : SE} {g : SA} (ho : PE X o (rdE X.K X.w f)) (ha : PA X [e] (rdA X.K X.w g))
    (hbase : attributeBase o "extend" X.env (eval o X.env) = eval o X.env := by rfl)
    (hfew : ((backTo cpos (starEach [e] X.env)).all (fun x => !x.1) && (backToKw cpos (keywordEach [] X.env)).all (fun x => x.1.isSome)
      && decide ([e].length + ([] : List Keyword).length + (if ([] : List Keyword).isEmpty then 0 else 1) < 30)) = true := by rfl)
    (hline : (apos.endLine == cpos.line) = true := by rfl) (hs : starEach [e] X.env = (false, eval e X.env) :: starEach [] X.env := by rfl) :
    PE X (.Call (.Attribute o "extend" apos) [e] [] cpos) (rdE X.K X.w (bmF "list" extendO f g)) :=
  se_bm PySem.F.plainAttrs_list PySem.F.slot_list_extend PySem.F.type_list_extend mt_extend ok_extend ho ha hbase hfew hline hs rfl
/-! ### a.split(b), a.split(), a.join(l) -/
theorem reps_strs {H : Hp} {μ : List Addr} : ∀ (ys : List Str), Reps K H μ (ys.map .str) (ys.map V.str)
  | [] => reps_nil
  | y :: ys => reps_cons (by simp only [Rep]) (reps_strs ys)
theorem strsD_eq : ∀ {xs : List D} {ys : List Str}, strsD xs = some ys → xs = ys.map .str
  | [], _, h => by cases h; rfl
  | .str b :: ds, ys, h => by
    unfold strsD at h
    cases e : strsD ds with
    | none => rw [e] at h; cases h
    | some bs =>
      rw [e] at h
      cases h
      rw [strsD_eq e]; rfl
  | .non :: _, _, h => by cases h
  | .bl _ :: _, _, h => by cases h
  | .int _ :: _, _, h => by cases h
  | .tup _ :: _, _, h => by cases h
  | .loc _ :: _, _, h => by cases h
theorem strs_reps {H : Hp} {μ : List Addr} : ∀ {ys : List Str} {vs : List V}, Reps K H μ (ys.map .str) vs → vs = ys.map V.str
  | [], _, h => by simp only [List.map_nil, Reps] at h; exact h
  | y :: ys, vs, h => by
    simp only [List.map_cons, Reps] at h
    obtain ⟨v, ws, rfl, h1, h2⟩ := h
    simp only [Rep] at h1
    rw [h1, strs_reps h2]; rfl
theorem ok_split : OkM K ww (fun x xs H Q => ∃ a b, x = .str a ∧ xs = [.str b] ∧ (b.length == 0) = false ∧ a.length + 2 ≤ sizeLine ∧ rNewStrs (Txt.split a b) H Q) splitO := by
  intro H μ st x ys vx vs d st' Q g rx r hv k
  unfold splitO at hv
  split at hv
  · rename_i a b
    split at hv
    · rename_i hl
      cases hv
      simp only [Rep] at rx
      subst rx
      obtain ⟨v, rfl, rv⟩ := reps1 r
      simp only [Rep] at rv
      subst rv
      exact ⟨a, b, rfl, rfl, hl.1, lim_ok hl.2, fun p hp => new_lst g (reps_strs _) k p hp⟩
    · cases hv
  · cases hv
theorem e_split {o e : Expr} {apos cpos : Pos} {f : SE} {g : SA} (ho : PE X o (rdE X.K X.w f)) (ha : PA X [e] (rdA X.K X.w g))
    (hbase : attributeBase o "split" X.env (eval o X.env) = eval o X.env := by rfl)
    (hfew : ((backTo cpos (starEach [e] X.env)).all (fun x => !x.1) && (backToKw cpos (keywordEach [] X.env)).all (fun x => x.1.isSome)
      && decide ([e].length + ([] : List Keyword).length + (if ([] : List Keyword).isEmpty then 0 else 1) < 30)) = true := by rfl)
    (hline : (apos.endLine == cpos.line) = true := by rfl) (hs : starEach [e] X.env = (false, eval e X.env) :: starEach [] X.env := by rfl) :
    PE X (.Call (.Attribute o "split" apos) [e] [] cpos) (rdE X.K X.w (bmF "str" splitO f g)) :=
  se_bm PySem.F.plainAttrs_str PySem.F.slot_str_split PySem.F.type_str_split mt_split ok_split ho ha hbase hfew hline hs rfl
theorem ok_words : OkM K ww (fun x xs H Q => ∃ a, x = .str a ∧ xs = [] ∧ a.length + 2 ≤ sizeLine ∧ rNewStrs (Txt.words a) H Q) wordsO := by
  intro H μ st x ys vx vs d st' Q g rx r hv k
  unfold wordsO at hv
  split at hv
  · rename_i a
    split at hv
    · rename_i hl
      cases hv
      simp only [Rep] at rx
      subst rx
      obtain rfl : vs = [] := by
        have := r.len
        cases vs with
        | nil => rfl
        | cons _ _ => cases this
      exact ⟨a, rfl, rfl, lim_ok hl, fun p hp => new_lst g (reps_strs _) k p hp⟩
    · cases hv
  · cases hv
theorem e_words {o : Expr} {apos cpos : Pos} {f : SE} (ho : PE X o (rdE X.K X.w f)) (hbase : attributeBase o "split" X.env (eval o X.env) = eval o X.env := by rfl) (hline : (apos.endLine == cpos.line) = true := by rfl) :
    PE X (.Call (.Attribute o "split" apos) [] [] cpos) (rdE X.K X.w (bm0F "str" wordsO f)) :=
  se_bm0 PySem.F.plainAttrs_str PySem.F.slot_str_split PySem.F.type_str_split mt_words ok_words ho hbase hline
theorem ok_join : OkM K ww (fun x xs H Q => ∃ a p, ∃ ys : List Str, x = .str a ∧ xs = [.ref p] ∧ (SqL K H p (ys.map V.str) ∨ SqT K H p (ys.map V.str)) ∧
    (ys.map (·.length)).sum + ys.length * a.length ≤ 16777216 ∧ Q (.str (Txt.join a ys)) H) joinO := by
  intro H μ st x ys vx vs d st' Q g rx r hv k
  unfold joinO at hv
  split at hv
  · rename_i a n
    split at hv
    · cases hv
    · rename_i xs e
      split at hv
      · cases hv
      · rename_i zs e2
        split at hv
        · rename_i hl
          cases hv
          simp only [Rep] at rx
          subst rx
          obtain ⟨v, rfl, rv⟩ := reps1 r
          simp only [Rep] at rv
          obtain ⟨p, rfl, hp⟩ := rv
          obtain ⟨ws, s, rs⟩ := g.getL hp e
          rw [strsD_eq e2] at rs
          rw [strs_reps rs] at s
          exact ⟨a, p, zs, rfl, rfl, .inl s, limc hl, here k g (by simp only [Rep])⟩
        · cases hv
  · cases hv
theorem e_join {o e : Expr} {apos cpos : Pos} {f : SE} {g : SA} (ho : PE X o (rdE X.K X.w f)) (ha : PA X [e] (rdA X.K X.w g))
    (hbase : attributeBase o "join" X.env (eval o X.env) = eval o X.env := by rfl)
    (hfew : ((backTo cpos (starEach [e] X.env)).all (fun x => !x.1) && (backToKw cpos (keywordEach [] X.env)).all (fun x => x.1.isSome)
      && decide ([e].length + ([] : List Keyword).length + (if ([] : List Keyword).isEmpty then 0 else 1) < 30)) = true := by rfl)
    (hline : (apos.endLine == cpos.line) = true := by rfl) (hs : starEach [e] X.env = (false, eval e X.env) :: starEach [] X.env := by rfl) :
    PE X (.Call (.Attribute o "join" apos) [e] [] cpos) (rdE X.K X.w (bmF "str" joinO f g)) :=
  se_bm PySem.F.plainAttrs_str PySem.F.slot_str_join PySem.F.type_str_join mt_join ok_join ho ha hbase hfew hline hs rfl
/-! ### *x among arguments and items -/
def starF (f : SE) (g : SA) : SA := fun σ st => bnd (f σ st) fun x st1 => match x with
  | .tup xs => bnd (g σ st1) fun ys st2 => some (xs ++ ys, st2)
  | .loc n => match getL st1 n with
    | some xs => bnd (g σ st1) fun ys st2 => some (xs ++ ys, st2)
    | none => none
  | _ => none
theorem starF_eq {f : SE} {g : SA} {σ : Sl} {st : Sto} : starF f g σ st = bnd (f σ st) fun x st1 => match x with
  | .tup xs => bnd (g σ st1) fun ys st2 => some (xs ++ ys, st2)
  | .loc n => match getL st1 n with
    | some xs => bnd (g σ st1) fun ys st2 => some (xs ++ ys, st2)
    | none => none
  | _ => none := rfl
theorem sa_star {e : Expr} {es : List Expr} {p : Pos} {f : SE} {g : SA} (ha : PE X e (rdE X.K X.w f)) (hr : PA X es (rdA X.K X.w g)) (hs : starEach (.Starred e p :: es) X.env = (true, eval e X.env) :: starEach es X.env := by rfl) : PA X (.Starred e p :: es) (rdA X.K X.w (starF f g)) := (StX.pa_star ha hr hs).weak fun τ H Q ⟨μ, st, σ, d, st', gd, er, hv, k⟩ => by
  obtain ⟨x, s1, h1, hv⟩ := bnd_eq hv
  refine ⟨μ, st, σ, x, s1, gd, er, h1, fun μ1 H1 vx g1 d1 r1 => ?_⟩
  cases x with
  | tup xs =>
    obtain ⟨ys, s2, h2, hv⟩ := bnd_eq hv
    cases hv
    simp only [Rep] at r1
    obtain ⟨a, ws, rfl, s, rs⟩ := r1
    refine ⟨a, ws, rfl, .inl s.1, μ1, s1, σ, ys, _, d1, er.m g1, h2, fun μ2 H2 vs g2 d2 r2 => ?_⟩
    exact k μ2 H2 _ (g1.trans g2) d2 ((rs.m g2).app r2)
  | loc n =>
    dsimp only at hv
    split at hv
    · rename_i xs e2
      obtain ⟨ys, s2, h2, hv⟩ := bnd_eq hv
      cases hv
      simp only [Rep] at r1
      obtain ⟨a, rfl, hp⟩ := r1
      obtain ⟨ws, s, rs⟩ := d1.getL hp e2
      refine ⟨a, ws, rfl, .inr s, μ1, s1, σ, ys, _, d1, er.m g1, h2, fun μ2 H2 vs g2 d2 r2 => ?_⟩
      exact k μ2 H2 _ (g1.trans g2) d2 ((rs.m g2).app r2)
    · cases hv
  | _ => cases hv
end
end Iv

namespace Iv
open PySem L2
/-! ### a list times an int -/
def lmulO : Op2 := fun x y st => match x, y with
  | .loc n, .int k => match getM st n with
    | none => none
    | some xs => if -1000000 < k ∧ k < 1000000 ∧ xs.length * k.toNat ≤ LIM then some (.loc st.length, st ++ [.lst (List.replicate k.toNat xs).flatten]) else none
  | _, _ => none
@[simp] theorem lmulO_eq {n : Nat} {k : Int} {st : Sto} : lmulO (.loc n) (.int k) st = (match getM st n with
    | none => none
    | some xs => if -1000000 < k ∧ k < 1000000 ∧ xs.length * k.toNat ≤ LIM then some (.loc st.length, st ++ [.lst (List.replicate k.toNat xs).flatten]) else none) := rfl
section
variable {X : Cx} {K : PySem.W.Frag} {ww : World}
theorem reps_rep {H : Hp} {μ : List Addr} {xs : List D} {vs : List V} (r : Reps K H μ xs vs) : ∀ k : Nat, Reps K H μ (List.replicate k xs).flatten (List.replicate k vs).flatten
  | 0 => reps_nil
  | k + 1 => by
    rw [List.replicate_succ, List.replicate_succ, List.flatten_cons, List.flatten_cons]
    exact r.app (reps_rep r k)
theorem ok_lmul : Ok2 K ww rRep lmulO := by
  intro H μ st x y vx vy d st' Q g rx ry hv k
  cases x with
  | loc n =>
    cases y with
    | int j =>
      simp only [Rep] at rx ry
      subst ry
      obtain ⟨p, rfl, hp⟩ := rx
      rw [lmulO_eq] at hv
      cases e : getM st n with
      | none => rw [e] at hv; cases hv
      | some xs =>
        rw [e] at hv
        dsimp only at hv
        split at hv
        · rename_i hc
          cases hv
          obtain ⟨vs, hH, r⟩ := g.getM hp e
          refine ⟨p, j, vs, rfl, rfl, hH, by omega, by omega, by rw [← r.len]; exact lim_ok hc.2.2, fun q hq => ?_⟩
          exact k _ _ _ (gr_new hq) (g.new hq (reps_rep r _)) (by simp only [Rep]; exact ⟨q, rfl, by rw [← g.len]; simp⟩)
        · cases hv
    | _ => cases hv
  | _ => cases hv
theorem e_lmul {a b : Expr} {f g : SE} {pos : Pos} (ha : PE X a (rdE X.K X.w f)) (hb : PE X b (rdE X.K X.w g)) : PE X (.BinOp a .Mult b pos) (rdE X.K X.w (binF lmulO f g)) := se_bin op_rep ok_lmul ha hb
end
/-! ### comprehensions with a test: what is kept of each item -/
theorem compF_loop {J : It} {g : Tg} {c : ST} {e : SE} {σ0 : Sl} {st1 : Sto} {xs : List D} {n : Nat} (φ : D → Option D) (hn : st1.length ≤ n) (hz : xs.length ≤ LIM) (hJ : ∀ s, Ext st1 s → items J s = some xs)
    (h : ∀ (i : Nat) (x : D), xs[i]? = some x → ∀ st, Ext st1 st → ∃ σ1 st2, g x σ0 = some σ1 ∧ c σ1 st = some ((φ x).isSome, st2) ∧ Ext st st2 ∧ ∀ y, φ x = some y → ∃ st3, e σ1 st2 = some (y, st3) ∧ Ext st2 st3) :
    ∀ (m i : Nat) (s : Sto), Ext st1 s → s[n]? = some (.lst ((xs.take i).filterMap φ)) → i ≤ xs.length → xs.length - i < m → ∃ s2, compV J g c e n σ0 m i s = some s2 ∧ Ext st1 s2 ∧ s2[n]? = some (.lst (xs.filterMap φ))
  | 0, i, s, _, _, _, hm => by omega
  | m + 1, i, s, hs, ha, hi, hm => by
    unfold compV
    simp only [hJ s hs]
    cases ex : xs[i]? with
    | none =>
      have e2 : i = xs.length := by
        have := List.getElem?_eq_none_iff.mp ex
        omega
      subst e2
      rw [List.take_length] at ha
      exact ⟨s, rfl, hs, ha⟩
    | some x =>
      have hlt := (List.getElem?_eq_some_iff.mp ex).1
      obtain ⟨σ1, s2, e1, e2, x2, e3⟩ := h i x ex s hs
      have ht : (xs.take (i + 1)).filterMap φ = (xs.take i).filterMap φ ++ (match φ x with
        | some y => [y]
        | none => []) := by
        rw [List.take_add_one, ex, List.filterMap_append]
        cases hx : φ x <;> simp [hx]
      cases hx : φ x with
      | none =>
        rw [hx] at e2 ht
        simp only [e1, e2, bnd_some, Option.isSome_none, Bool.false_eq_true, if_false]
        exact compF_loop φ hn hz hJ h m (i + 1) _ (hs.trans x2) (by rw [ht, List.append_nil]; exact x2.at ha) hlt (by omega)
      | some y =>
        obtain ⟨s3, e4, x3⟩ := e3 y hx
        rw [hx] at e2 ht
        have hs3 := (hs.trans x2).trans x3
        have ha3 := x3.at (x2.at ha)
        have ga : getM s3 n = some ((xs.take i).filterMap φ) := getM_of ha3
        have hl : ((xs.take i).filterMap φ).length < LIM := by
          have h1 := List.length_filterMap_le φ (xs.take i)
          rw [List.length_take] at h1
          exact Nat.lt_of_lt_of_le (by omega) hz
        have hn2 : n < s3.length := (List.getElem?_eq_some_iff.mp ha3).1
        simp only [e1, e2, bnd_some, Option.isSome_some, if_true, e4, ga, hl]
        refine compF_loop φ hn hz hJ h m (i + 1) _ (hs3.set hn) ?_ hlt (by omega)
        rw [List.getElem?_set_self hn2, ht]
theorem compF_ok {vs : List Nat} {i : SJ} {g : Tg} {c : ST} {e : SE} {σ : Sl} {st st1 : Sto} {J : It} {xs : List D} (φ : D → Option D) (hi : i σ st = some (J, st1)) (hz : xs.length ≤ LIM) (hJ : ∀ s, Ext st1 s → items J s = some xs)
    (h : ∀ (i : Nat) (x : D), xs[i]? = some x → ∀ st, Ext st1 st → ∃ σ1 st2, g x (wipeD σ vs) = some σ1 ∧ c σ1 st = some ((φ x).isSome, st2) ∧ Ext st st2 ∧ ∀ y, φ x = some y → ∃ st3, e σ1 st2 = some (y, st3) ∧ Ext st2 st3) :
    ∃ s2, compF vs i g c e σ st = some (.loc st1.length, s2) ∧ Ext st1 s2 ∧ s2[st1.length]? = some (.lst (xs.filterMap φ)) := by
  obtain ⟨s2, e2, x2, g2⟩ := compF_loop (n := st1.length) (σ0 := wipeD σ vs) φ (Nat.le_refl _) hz hJ h (xs.length + 1) 0 (st1 ++ [.lst []]) (Ext.app _) (by simp) (Nat.zero_le _) (by omega)
  refine ⟨s2, ?_, x2, g2⟩
  unfold compF
  simp only [hi, bnd_some, hJ st1 Ext.refl, e2, Option.map_some]
end Iv

namespace Iv
open PySem L2
/-! ### comprehensions over a range whose items change what stands before (a box) -/
theorem compI_loop {g : Tg} {e : SE} {σ0 : Sl} {xs : List D} {n : Nat} (P : Nat → List D → Sto → Prop) (hz : xs.length < LIM)
    (hP : ∀ i acc s, P i acc s → s[n]? = some (.lst acc) ∧ acc.length = i)
    (h : ∀ (i : Nat) (x : D) (acc : List D) (s : Sto), xs[i]? = some x → P i acc s → ∃ σ1 y s2, g x σ0 = some σ1 ∧ e σ1 s = some (y, s2) ∧ s2[n]? = some (.lst acc) ∧ P (i + 1) (acc ++ [y]) (s2.set n (.lst (acc ++ [y])))) :
    ∀ (m i : Nat) (acc : List D) (s : Sto), P i acc s → i ≤ xs.length → xs.length - i < m → ∃ acc2 s2, compV (.cns xs) g yesT e n σ0 m i s = some s2 ∧ P xs.length acc2 s2
  | 0, i, acc, s, _, _, hm => by omega
  | m + 1, i, acc, s, hp, hi, hm => by
    unfold compV
    simp only [items_cns]
    cases ex : xs[i]? with
    | none =>
      have e2 : i = xs.length := by
        have := List.getElem?_eq_none_iff.mp ex
        omega
      subst e2
      exact ⟨acc, s, rfl, hp⟩
    | some x =>
      have hlt := (List.getElem?_eq_some_iff.mp ex).1
      obtain ⟨σ1, y, s2, e1, e2, ga, hp2⟩ := h i x acc s ex hp
      have hl : acc.length < LIM := by rw [(hP i acc s hp).2]; exact Nat.lt_trans hlt hz
      simp only [e1, yesT, bnd_some, if_true, e2, getM_of ga, hl]
      exact compI_loop P hz hP h m (i + 1) _ _ hp2 hlt (by omega)
theorem compI_ok {vs : List Nat} {i : SJ} {g : Tg} {e : SE} {σ : Sl} {st st1 : Sto} {xs : List D} (P : Nat → List D → Sto → Prop) (hi : i σ st = some (.cns xs, st1)) (hz : xs.length < LIM)
    (hP : ∀ i acc s, P i acc s → s[st1.length]? = some (.lst acc) ∧ acc.length = i) (h0 : P 0 [] (st1 ++ [.lst []]))
    (h : ∀ (i : Nat) (x : D) (acc : List D) (s : Sto), xs[i]? = some x → P i acc s → ∃ σ1 y s2, g x (wipeD σ vs) = some σ1 ∧ e σ1 s = some (y, s2) ∧ s2[st1.length]? = some (.lst acc) ∧ P (i + 1) (acc ++ [y]) (s2.set st1.length (.lst (acc ++ [y])))) :
    ∃ acc s2, compF vs i g yesT e σ st = some (.loc st1.length, s2) ∧ P xs.length acc s2 := by
  obtain ⟨acc, s2, e2, p⟩ := compI_loop (n := st1.length) (σ0 := wipeD σ vs) P hz hP h (xs.length + 1) 0 [] (st1 ++ [.lst []]) h0 (Nat.zero_le _) (by omega)
  refine ⟨acc, s2, ?_, p⟩
  unfold compF
  simp only [hi, bnd_some, items_cns, e2, Option.map_some]
end Iv

namespace Iv
open PySem L2
/-! ### t.index(x), t a tuple of texts that was made while the program ran -/
def tixF (f : SE) (g : SA) : SE := fun σ st => bnd (f σ st) fun x s1 => match x with
  | .tup ds => if nst ds = true then bnd (g σ s1) fun ys s2 => indexC (.tup ds) ys s2 else none
  | _ => none
theorem tixF_eq {f : SE} {g : SA} {σ : Sl} {st : Sto} : tixF f g σ st = bnd (f σ st) fun x s1 => match x with
  | .tup ds => if nst ds = true then bnd (g σ s1) fun ys s2 => indexC (.tup ds) ys s2 else none
  | _ => none := rfl
section
variable {X : Cx} {K : PySem.W.Frag} {ww : World}
def tyTup (K : PySem.W.Frag) (x : V) (H : Hp) : Prop := ∃ p, x = .ref p ∧ NoD K H p
theorem ty_tup : TyOk X "tuple" (tyTup X.K) := fun pins σ H s x v I r ⟨p, ex, h⟩ => by
  subst ex
  cases r
  have q : ∃ o, s.heap.get? p = some o ∧ o.cls = .type "tuple" ∧ o.dict = none := by
    rcases h with ⟨o, u, h1, h2, h3⟩ | ⟨o, h1, h2, h3⟩
    · exact ⟨o, (I.hok p _ h1).1, h2, h3⟩
    · exact ⟨o, I.kIn p o h1, h2, h3⟩
  obtain ⟨o, e, ec, ed⟩ := q
  exact ⟨⟨o, e, ec⟩, fun b eb => by cases eb; exact ⟨o, e, ed⟩⟩
theorem e_tix {o e : Expr} {apos cpos : Pos} {f : SE} {g : SA} (ho : PE X o (rdE X.K X.w f)) (ha : PA X [e] (rdA X.K X.w g))
    (hbase : attributeBase o "index" X.env (eval o X.env) = eval o X.env := by rfl)
    (hfew : ((backTo cpos (starEach [e] X.env)).all (fun x => !x.1) && (backToKw cpos (keywordEach [] X.env)).all (fun x => x.1.isSome)
      && decide ([e].length + ([] : List Keyword).length + (if ([] : List Keyword).isEmpty then 0 else 1) < 30)) = true := by rfl)
    (hline : (apos.endLine == cpos.line) = true := by rfl) (hs : starEach [e] X.env = (false, eval e X.env) :: starEach [] X.env := by rfl) :
    PE X (.Call (.Attribute o "index" apos) [e] [] cpos) (rdE X.K X.w (tixF f g)) :=
  (pe_mG ty_tup PySem.F.plainAttrs_tuple PySem.F.slot_tuple_index PySem.F.type_tuple_index mt_tup_index ho ha hbase hfew hline hs rfl).weak fun τ H Q ⟨μ, st, σ, d', st', gd, er, hv, k⟩ => by
    rw [tixF_eq] at hv
    obtain ⟨x, s1, h1, hv⟩ := bnd_eq hv
    refine ⟨μ, st, σ, x, s1, gd, er, h1, fun μ1 H1 v g1 d1 r1 => ?_⟩
    split at hv
    · rename_i ds
      split at hv
      · rename_i hns
        obtain ⟨ys, s2, h2, hv⟩ := bnd_eq hv
        have r1' := r1
        simp only [Rep] at r1
        obtain ⟨p, vs, rfl, ⟨s, nd⟩, rs⟩ := r1
        refine ⟨⟨p, rfl, nd hns⟩, μ1, s1, σ, ys, s2, d1, er.m g1, h2, fun μ2 H2 ws g2 d2 r2 => ?_⟩
        have rx := r1'.m g2
        simp only [Rep] at rx
        obtain ⟨p2, vs2, e2, ⟨t, _⟩, rs2⟩ := rx
        cases e2
        unfold indexC at hv
        split at hv
        · rename_i xs z e1
          cases e1
          split at hv
          · cases hv
          · rename_i zs e2
            split at hv
            · cases hv
            · rename_i j e3
              cases hv
              obtain ⟨v, rfl, rv⟩ := reps1 r2
              simp only [Rep] at rv
              obtain ⟨q1, q2⟩ := idxS_ok e3
              exact ⟨p, zs, z, j, rfl, by rw [rv], by rw [← strs_of rs2 e2]; exact t, q1, q2, k μ2 H2 _ (g1.trans g2) d2 (by simp only [Rep])⟩
        · cases hv
      · cases hv
    · cases hv
end
end Iv

namespace Iv
open PySem L2
/-! ### l.count(x), l a list of texts -/
theorem cnt_strs {z : Str} : ∀ {xs : List Str} {us : List Value}, Vals (xs.map V.str) us → us.countP (eqU (.str z)) = xs.count z
  | [], us, r => by cases r; rfl
  | x :: xs, us, r => by
    cases r with
    | cons ru rt =>
      obtain ⟨t, rfl⟩ := ru
      rw [List.countP_cons, List.count_cons, cnt_strs rt]
      rfl
def rCntS (K : PySem.W.Frag) : V → List V → Hp → VK → Prop := fun x ys H Q => ∃ (p : Addr) (xs : List Str) (z : Str), x = .ref p ∧ ys = [.str z] ∧ SqL K H p (xs.map V.str) ∧ Q (.int (xs.count z : Nat)) H
section
variable {X : Cx} {K : PySem.W.Frag} {ww : World}
theorem mt_cntS : MtR X "list.count" (rCntS X.K) := fun pins s σ H x ys v us Q I rx ry ⟨p, xs, z, ex, ey, hq, q⟩ => by
  subst ex ey
  cases rx
  obtain ⟨u, rfl, t, rfl⟩ := vals1 ry
  obtain ⟨its, r, ⟨⟨c, dd, da, sl⟩, n, ho, hc, hdn, hd⟩, hz⟩ := I.list hq
  simp only at hc hd
  subst hc hd
  refine call_meets PySem.F.slot_list_count ⟨_, ho, rfl⟩ PySem.F.entry_list_count (PySem.F.args_list_count_2 _ _) (SeqAt.list_countAt p its.toArray n dd sl (.str z t) (eqU (.str z)))
    ⟨ho, fun w hw => mem_eqAt (x := .str z) ⟨t, rfl⟩ rfl r (flat_strs xs) w (by simpa using hw), .int (xs.count z : Nat), H, I.tok _, ⟨s.toks, ?_⟩, q⟩
  show Value.int ((its.toArray.toList.countP (eqU (.str z)) : Nat) : Int) s.toks = _
  rw [show its.toArray.toList.countP (eqU (.str z)) = xs.count z from cnt_strs r]
def intsD : List D → Option (List Int)
  | [] => some []
  | .int i :: ds => (intsD ds).map fun is => i :: is
  | _ :: _ => none
theorem intsD_map : ∀ ns : List Int, intsD (ns.map .int) = some ns
  | [] => rfl
  | n :: ns => by rw [List.map_cons, intsD, intsD_map ns]; rfl
theorem ints_are {H : Hp} {μ : List Addr} : ∀ {xs : List D} {vs : List V} {is : List Int}, Reps K H μ xs vs → intsD xs = some is → vs = is.map V.int
  | [], vs, is, r, h => by simp only [Reps] at r; cases h; exact r
  | x :: xs, vs, is, r, h => by
    simp only [Reps] at r
    obtain ⟨v, ws, rfl, r1, r2⟩ := r
    cases x with
    | int i =>
      simp only [intsD] at h
      cases e : intsD xs with
      | none => rw [e] at h; cases h
      | some cs =>
        rw [e] at h
        cases h
        simp only [Rep] at r1
        rw [r1, ints_are r2 e]
        rfl
    | _ => cases h
def countO : OpM := fun x ys st => match x, ys with
  | .loc n, [.int k] => match getL st n with
    | none => none
    | some xs => (intsD xs).map fun zs => (.int (zs.count k : Nat), st)
  | .loc n, [.str z] => match getL st n with
    | none => none
    | some xs => (strsD xs).map fun zs => (.int (zs.count z : Nat), st)
  | _, _ => none
@[simp] theorem countO_eq {n : Nat} {z : Str} {st : Sto} : countO (.loc n) [.str z] st = (match getL st n with
    | none => none
    | some xs => (strsD xs).map fun zs => (.int (zs.count z : Nat), st)) := rfl
theorem countO_int {n : Nat} {k : Int} {st : Sto} : countO (.loc n) [.int k] st = (match getL st n with
    | none => none
    | some xs => (intsD xs).map fun zs => (.int (zs.count k : Nat), st)) := rfl
theorem ok_count : OkM K ww (fun x xs H Q => rCntS K x xs H Q ∨ rCntI K x xs H Q) countO := by
  intro H μ st x ys vx vs d st' Q g rx r hv k
  unfold countO at hv
  split at hv
  · rename_i n z
    simp only [Rep] at rx
    obtain ⟨p, rfl, hp⟩ := rx
    obtain ⟨v, rfl, rv⟩ := reps1 r
    simp only [Rep] at rv
    cases e : getL st n with
    | none => rw [e] at hv; cases hv
    | some xs =>
      rw [e] at hv
      obtain ⟨ws, s, rs⟩ := g.getL hp e
      cases e2 : intsD xs with
      | none => simp only [e2] at hv; cases hv
      | some zs =>
        simp only [e2] at hv
        cases hv
        exact .inr ⟨p, zs, z, rfl, by rw [rv], by rw [← ints_are rs e2]; exact s, here k g (by simp only [Rep])⟩
  · rename_i n z
    simp only [Rep] at rx
    obtain ⟨p, rfl, hp⟩ := rx
    obtain ⟨v, rfl, rv⟩ := reps1 r
    simp only [Rep] at rv
    cases e : getL st n with
    | none => rw [e] at hv; cases hv
    | some xs =>
      rw [e] at hv
      obtain ⟨ws, s, rs⟩ := g.getL hp e
      cases e2 : strsD xs with
      | none => simp only [e2] at hv; cases hv
      | some zs =>
        simp only [e2] at hv
        cases hv
        exact .inl ⟨p, zs, z, rfl, by rw [rv], by rw [← strs_of rs e2]; exact s, here k g (by simp only [Rep])⟩
  · cases hv
theorem e_count {o e : Expr} {apos cpos : Pos} {f : SE} {g : SA} (ho : PE X o (rdE X.K X.w f)) (ha : PA X [e] (rdA X.K X.w g))
    (hbase : attributeBase o "count" X.env (eval o X.env) = eval o X.env := by rfl)
    (hfew : ((backTo cpos (starEach [e] X.env)).all (fun x => !x.1) && (backToKw cpos (keywordEach [] X.env)).all (fun x => x.1.isSome)
      && decide ([e].length + ([] : List Keyword).length + (if ([] : List Keyword).isEmpty then 0 else 1) < 30)) = true := by rfl)
    (hline : (apos.endLine == cpos.line) = true := by rfl) (hs : starEach [e] X.env = (false, eval e X.env) :: starEach [] X.env := by rfl) :
    PE X (.Call (.Attribute o "count" apos) [e] [] cpos) (rdE X.K X.w (bmF "list" countO f g)) :=
  se_bm PySem.F.plainAttrs_list PySem.F.slot_list_count PySem.F.type_list_count (MtR.or mt_cntS mt_lcount) ok_count ho ha hbase hfew hline hs rfl
/-! ### e == NAME, NAME a list of the module -/
def ConL (K : PySem.W.Frag) (mg : Str → Option Value) (x : Str) (ps : List PyData) : Prop := ∃ a, mg x = some (.ref a) ∧ ∀ H, Dp K H (.ref a) (.list ps)
theorem gd0 (H : Hp) : Gd K ww H [] [] := ⟨rfl, fun n m p xs ys h => (by cases h), fun n p o h => (by cases h)⟩
theorem conL_mk (w0 : World) {h : Heap} {mg : Str → Option Value} {x : Str} {p : Addr} {ds : List D} {ps : List PyData} {its : Array Value} {n : Nat} {sl : Array (Option Value)} (X : K.In h) (G : h.Ns mainGlobals mg) (a : PySem.W.nsIn K mainGlobals x = some (some (.ref p))) (l : K.lookup p = some ⟨.type "list", none, .seq its n, sl⟩) (z : its.size ≤ 1000) (c : CVs K its.toList ds) (e : pys [] 60 ds = some ps) : ConL K mg x ps := by
  obtain ⟨vs, r, q⟩ := cvs_ok c
  exact ⟨p, PySem.W.mg_of X G a, fun H => .lst (.inr ⟨_, _, _, l, rfl, rfl, rfl, Nat.le_trans z (by rw [sizeLine_eq]; decide), r⟩) (pys_dp (gd0 (ww := w0) H) 60 ds vs ps e (q H []))⟩
def eqLO (ps : List PyData) (neg : Bool) : Op1 := fun x st => match py st 60 x with
  | none => none
  | some p => if SeqAt.shaped p = true ∧ SeqAt.shaped (.list ps) = true then some (.bl (PyData.eqv p (.list ps) != neg), st) else none
theorem eqLO_eq {ps : List PyData} {neg : Bool} {x : D} {st : Sto} : eqLO ps neg x st = (match py st 60 x with
  | none => none
  | some p => if SeqAt.shaped p = true ∧ SeqAt.shaped (.list ps) = true then some (.bl (PyData.eqv p (.list ps) != neg), st) else none) := rfl
variable {x : Str} {ps : List PyData} {p pos : Pos} {e : Expr} {f : SE}
theorem e_eqL (hu : X.A.units + 64 < cLine) (C : ConL X.K X.mg x ps) (hg : Gl X x) (ha : PE X e (rdE X.K X.w f)) (hm : behindInMarks .Eq (.Name x p) = false := by first | exact nobehind _ (by decide) (by decide) | rfl) (hd : (x == ("__debug__" : Str)) = false := by decide) : PE X (.Compare e [.Eq] [.Name x p] pos) (rdE X.K X.w (unF (eqLO ps false) f)) := by
  obtain ⟨a, hx, hD⟩ := C
  refine (pe_cmpR (op_eqD hu) ha (pe_glob hg hx (v := .ref a) rfl hd) hm).weak ?_
  rintro τ H Q ⟨μ, st, σ, d, st', gd, er, hv, k⟩
  obtain ⟨y, s1, h1, hv⟩ := bnd_eq hv
  refine ⟨μ, st, σ, y, s1, gd, er, h1, fun μ1 H1 vx g1 d1 r1 => ?_⟩
  rw [eqLO_eq] at hv
  split at hv
  · cases hv
  · rename_i q e1
    split at hv
    · rename_i hs
      cases hv
      exact ⟨q, _, py_dp d1 _ _ _ _ e1 r1, hD H1, hs.1, hs.2, k μ1 H1 _ g1 d1 (by simp [Rep])⟩
    · cases hv
theorem t_eqL (hu : X.A.units + 64 < cLine) (C : ConL X.K X.mg x ps) (hg : Gl X x) (ha : PE X e (rdE X.K X.w f)) (hm : behindInMarks .Eq (.Name x p) = false := by first | exact nobehind _ (by decide) (by decide) | rfl) (hd : (x == ("__debug__" : Str)) = false := by decide) : PT X (.Compare e [.Eq] [.Name x p] pos) (rdT X.K X.w (truF (unF (eqLO ps false) f))) := by
  obtain ⟨a, hx, hD⟩ := C
  refine (pt_cmpR (op_eqD hu) ha (pe_glob hg hx (v := .ref a) rfl hd) hm).weak ?_
  rintro τ H Q ⟨μ, st, σ, b, st', gd, er, hv, k⟩
  obtain ⟨y0, s0, h0, hv⟩ := bnd_eq hv
  obtain ⟨y, s1, h1, h2⟩ := bnd_eq h0
  refine ⟨μ, st, σ, y, s1, gd, er, h1, fun μ1 H1 vx g1 d1 r1 => ?_⟩
  rw [eqLO_eq] at h2
  split at h2
  · cases h2
  · rename_i q e1
    split at h2
    · rename_i hs
      cases h2
      cases hv
      exact ⟨q, _, py_dp d1 _ _ _ _ e1 r1, hD H1, hs.1, hs.2, _, rfl, by simpa using k μ1 H1 g1 d1⟩
    · cases h2
end
end Iv

namespace Iv
open PySem L2
section
variable {X : Cx} {K : PySem.W.Frag} {ww : World}
/-! ### s * n for n up to 2 -/
def smul2O : Op2
  | .str a, .int n, st => if n = 1 then some (.str a, st) else if n < 1 ∧ -1000000 < n then some (.str Str.empty, st) else if n = 2 ∧ 1 ≤ a.length ∧ a.length ≤ 1000 then some (.str (a ++ a), st) else none
  | _, _, _ => none
@[simp] theorem smul2O_eq {a : Str} {n : Int} {st : Sto} : smul2O (.str a) (.int n) st = if n = 1 then some (.str a, st) else if n < 1 ∧ -1000000 < n then some (.str Str.empty, st) else if n = 2 ∧ 1 ≤ a.length ∧ a.length ≤ 1000 then some (.str (a ++ a), st) else none := rfl
def rSmul2 : R2 := fun x y H Q => ∃ a n, x = V.str a ∧ y = .int n ∧ ((n = 1 ∧ Q (.str a) H) ∨ (n < 1 ∧ -1000000 < n ∧ Q (.str Str.empty) H) ∨ (n = 2 ∧ 1 ≤ a.length ∧ a.length ≤ 1000 ∧ Q (.str (a ++ a)) H))
theorem twice (a : Str) : (⟨(List.replicate (2 : Int).toNat a.cps).foldl (· ++ ·) #[]⟩ : Str) = a ++ a := by
  show (⟨#[] ++ a.cps ++ a.cps⟩ : Str) = ⟨a.cps ++ a.cps⟩
  rw [Array.empty_append]
theorem op_smul2 : OpR X (binaryOp .Mult) rSmul2 := by
  intro pins s σ H x y v u Q I rx ry h
  obtain ⟨a, n, rfl, rfl, h⟩ := h
  obtain ⟨t, rfl⟩ := rx
  obtain ⟨t', rfl⟩ := ry
  rcases h with ⟨rfl, q⟩ | ⟨h1, h2, q⟩ | ⟨rfl, h1, h2, q⟩
  · refine PySem.P.mul_str (by decide) (fun _ h => by cases h) (fun _ h => by cases h) ?_
    exact ⟨.str a, H, I, ⟨t, rfl⟩, q⟩
  · exact PySem.P.mul_str_none h1 (by omega) ⟨.str Str.empty, H, I.tok _, ⟨_, rfl⟩, q⟩
  · have hn : ((2 : Int) == 1 || a.length == 0) = false := by
      have : ¬ a.length = 0 := by omega
      simp [this]
    have sl : 2000 ≤ sizeLine := by rw [sizeLine_eq]; decide
    have big : PySem.Builtin.Str.tooLong (a.length * (2 : Int).toNat) = false := by
      show PySem.Builtin.Str.tooLong (a.length * 2) = false
      unfold PySem.Builtin.Str.tooLong
      simp only [decide_eq_false_iff_not]
      omega
    refine PySem.P.mul_str (by decide) (fun _ _ => by
      have : (9223372036854775807 : Int) / 2 = 4611686018427387903 := by decide
      show ¬ ((a.length : Int) > (2 ^ 63 - 1) / 2)
      omega) (fun _ _ => big) ?_
    rw [if_neg (by decide), hn]
    simp only [Bool.false_eq_true, if_false]
    rw [twice]
    refine ⟨?_, .str (a ++ a), H, I.tok _, ⟨_, rfl⟩, q⟩
    have hl : (a ++ a).length = a.length + a.length := by show (a.cps ++ a.cps).size = _; rw [Array.size_append]; rfl
    omega
theorem ok_smul2 : Ok2 K ww rSmul2 smul2O := by
  intro H μ st x y vx vy d st' Q g rx ry hv k
  cases x with
  | str a =>
    cases y with
    | int n =>
      simp only [Rep] at rx ry
      subst rx ry
      rw [smul2O_eq] at hv
      split at hv
      · rename_i h
        cases hv
        exact ⟨a, n, rfl, rfl, .inl ⟨h, here k g (by simp only [Rep])⟩⟩
      · split at hv
        · rename_i h
          cases hv
          exact ⟨a, n, rfl, rfl, .inr (.inl ⟨h.1, h.2, here k g (by simp only [Rep])⟩)⟩
        · split at hv
          · rename_i h
            cases hv
            exact ⟨a, n, rfl, rfl, .inr (.inr ⟨h.1, h.2.1, h.2.2, here k g (by simp only [Rep])⟩)⟩
          · cases hv
    | _ => cases hv
  | _ => cases hv
theorem e_smul2 {a b : Expr} {f g : SE} {pos : Pos} (ha : PE X a (rdE X.K X.w f)) (hb : PE X b (rdE X.K X.w g)) : PE X (.BinOp a .Mult b pos) (rdE X.K X.w (binF smul2O f g)) := se_bin op_smul2 ok_smul2 ha hb
end
end Iv

namespace Iv
open PySem L2 PySem.Spec
section
variable {X : Cx} {K : PySem.W.Frag} {ww : World}
/-! ### sum(xs), ints -/
def sumO : OpN
  | [.loc n], st => match getL st n with
    | none => none
    | some xs => (intsD xs).map fun is => (.int is.sum, st)
  | _, _ => none
theorem sumO_loc {n : Nat} {st : Sto} {is : List Int} (h : getL st n = some (is.map .int)) : sumO [.loc n] st = some (.int is.sum, st) := by
  simp only [sumO, h, intsD_map, Option.map_some]
theorem ok_sum : OkN K ww (rSum K) sumO := by
  intro H μ st xs vs d st' Q g r hv k
  unfold sumO at hv
  split at hv
  · rename_i n
    obtain ⟨v, rfl, rv⟩ := reps1 r
    simp only [Rep] at rv
    obtain ⟨p, rfl, hp⟩ := rv
    split at hv
    · cases hv
    · rename_i ys e
      cases e2 : intsD ys with
      | none => rw [e2] at hv; cases hv
      | some is =>
        rw [e2] at hv
        cases hv
        obtain ⟨ws, s, rs⟩ := g.getL hp e
        rw [ints_are rs e2] at s
        exact ⟨p, is, rfl, s, here k g (by simp [Rep])⟩
  · cases hv
theorem e_sum {p pos : Pos} {e : Expr} {f : SA} (hc : X.calm = true) (hg : Gl X "sum") (hm : X.mg "sum" = none) (ha : PA X [e] (rdA X.K X.w f)) (he : starEach [e] X.env = (false, eval e X.env) :: starEach [] X.env := by rfl) : PE X (.Call (.Name "sum" p) [e] [] pos) (rdE X.K X.w (appF sumO f)) :=
  se_callB (cr_sum hc) ok_sum hg hm (by decide +kernel) ha (he := he)

/-! ### zip(s, t) of two tuples -/
def zipD : List D → List D → List D
  | x :: xs, y :: ys => .tup [x, y] :: zipD xs ys
  | _, _ => []
theorem zipD_len : ∀ xs ys : List D, (zipD xs ys).length = min xs.length ys.length
  | [], _ => by simp [zipD]
  | _ :: _, [] => by simp [zipD]
  | x :: xs, y :: ys => by simp only [zipD, List.length_cons, zipD_len xs ys]; omega
theorem zipD_get : ∀ (xs ys : List D) (i : Nat), (zipD xs ys)[i]? = (match xs[i]?, ys[i]? with
    | some x, some y => some (.tup [x, y])
    | _, _ => none)
  | [], ys, i => by simp [zipD]
  | _ :: _, [], i => by
    simp only [zipD, List.getElem?_nil]
    split <;> rename_i h <;> simp_all
  | x :: xs, y :: ys, 0 => by simp [zipD]
  | x :: xs, y :: ys, i + 1 => by simp only [zipD, List.getElem?_cons_succ]; exact zipD_get xs ys i
/-- a pair that is not of texts alone -/
def notTx : D → Bool
  | .tup ps => !nst ps
  | _ => true
def zipI (f : SA) : SJ := fun σ st => bnd (f σ st) fun ds s1 => match ds with
  | [.tup xs, .tup ys] => if (zipD xs ys).all notTx = true then some (.cns (zipD xs ys), s1) else none
  | _ => none
@[simp] theorem zipI_eq {f : SA} {σ : Sl} {st : Sto} : zipI f σ st = bnd (f σ st) fun ds s1 => match ds with
  | [.tup xs, .tup ys] => if (zipD xs ys).all notTx = true then some (.cns (zipD xs ys), s1) else none
  | _ => none := rfl
theorem si_zip {e e2 : Expr} {f : SA} {p pos tpos : Pos} {elts : List Expr} {kk : Nat} (hg : Gl X "zip") (hm : X.mg "zip" = none) (ha : PA X [e, e2] (rdA X.K X.w f))
    (hs : starEach [e, e2] X.env = (false, eval e X.env) :: starEach [e2] X.env := by rfl) (hpl : (backTo pos (starEach [e2] X.env)).any (·.1) = false := by rfl) :
    PI X (.Tuple elts kk tpos) (.Call (.Name "zip" p) [e, e2] [] pos) (rdI X.K X.w (zipI f)) := ⟨fun pins s τ H R I hw => by
  obtain ⟨μ, st, σ, J, st', gd, er, hv, k⟩ := hw
  obtain ⟨ds, s1, h1, hv⟩ := bnd_eq hv
  split at hv
  · rename_i xs ys
    split at hv
    · rename_i hall
      cases hv
      refine (RZ.pi_zipA hg hm ha hs hpl).run pins s τ H R I ⟨μ, st, σ, _, _, gd, er, h1, fun μ1 H1 vs g1 d1 r1 => ?_⟩
      obtain ⟨v, w, rfl, rv, rw'⟩ := reps2 r1
      simp only [Rep] at rv rw'
      obtain ⟨p, us, rfl, ⟨su, _⟩, ru⟩ := rv
      obtain ⟨q, ws, rfl, ⟨sw, _⟩, rw2⟩ := rw'
      refine ⟨p, q, us, ws, rfl, .inr ⟨su, sw, k μ1 H1 _ g1 d1 fun μ2 H2 st2 zs g2 d2 e2 => ?_⟩⟩
      cases e2
      have su2 := g2.1.sqT su
      have sw2 := g2.1.sqT sw
      have ru2 := ru.m g2
      have rw3 := rw2.m g2
      refine ⟨fun i hi => ⟨us, ws, su2, sw2, by rw [zipD_len] at hi; rw [← ru2.len, ← rw3.len]; omega⟩, fun i d hd => ?_⟩
      have hn : notTx d = true := List.all_eq_true.mp hall d (List.mem_of_getElem? hd)
      rw [zipD_get] at hd
      split at hd
      · rename_i x y ex ey
        cases hd
        obtain ⟨vx, hx, rx⟩ := ru2.get ex
        obtain ⟨vy, hy, ry⟩ := rw3.get ey
        refine ⟨⟨us, ws, vx, vy, su2, sw2, hx, hy⟩, fun z H3 ⟨T, a, b, e5, e6, e7, e8, e9⟩ => ?_⟩
        subst e5 e7
        have q8 := e8 us su2
        rw [hx] at q8
        cases q8
        have q9 := e9 ws sw2
        rw [hy] at q9
        cases q9
        have gt : Gr H2 μ2 (upd H2 T (.tup [vx, vy])) μ2 := gr_tup e6
        exact ⟨same_upd e6, rep_tup (.inl (.inl upd_same)) (fun z => by rw [notTx, z] at hn; cases hn) (reps_cons (rx.m gt) (reps_cons (ry.m gt) reps_nil))⟩
      · cases hd
    · cases hv
  · cases hv⟩

/-! ### comprehensions of two clauses -/
def comp2V (J : It) (g : Tg) (c : ST) (i1 : SJ) (g1 : Tg) (c1 : ST) (e : SE) (vs1 : List Nat) (n : Nat) (σ0 : Sl) : Nat → Nat → Sto → Option Sto
  | 0, _, _ => none
  | m + 1, i, st => match items J st with
    | none => none
    | some xs => match xs[i]? with
      | none => some st
      | some d => match g d σ0 with
        | none => none
        | some σ1 => bnd (c σ1 st) fun b s1 => if b = true then bnd (i1 σ1 s1) fun J1 s2 => (match items J1 s2 with
            | none => none
            | some ys => match compV J1 g1 c1 e n (wipeD σ1 vs1) (ys.length + 1) 0 s2 with
              | none => none
              | some s3 => comp2V J g c i1 g1 c1 e vs1 n σ0 m (i + 1) s3) else comp2V J g c i1 g1 c1 e vs1 n σ0 m (i + 1) s1
def comp2F (vs vs1 : List Nat) (i : SJ) (g : Tg) (c : ST) (i1 : SJ) (g1 : Tg) (c1 : ST) (e : SE) : SE := fun σ st => bnd (i σ st) fun J s1 => match items J s1 with
  | none => none
  | some xs => (comp2V J g c i1 g1 c1 e vs1 s1.length (wipeD σ vs) (xs.length + 1) 0 (s1 ++ [.lst []])).map fun s2 => (.loc s1.length, s2)
theorem rd_comp2 {vs vs1 : List Nat} {i i1 : SJ} {gg gg1 : TG} {g g1 : Tg} {c c1 : ST} {e : SE} (ok : OkG K gg g) (ow : OwnG vs gg) (ok1 : OkG K gg1 g1) (ow1 : OwnG vs1 gg1) :
    ∀ τ H Q, rdE K ww (comp2F vs vs1 i g c i1 g1 c1 e) τ H Q → tLc2 (rdI K ww i) gg (rdT K ww c) (rdI K ww i1) gg1 (rdT K ww c1) (rdE K ww e) vs vs1 τ H Q :=
  fun τ H Q ⟨μ, st, σ, d, st', gd, er, hv, k⟩ => by
    obtain ⟨J, s1, h1, hv⟩ := bnd_eq hv
    cases ei : items J s1 with
    | none => simp only [ei] at hv; cases hv
    | some xs =>
      simp only [ei] at hv
      cases ec : comp2V J g c i1 g1 c1 e vs1 s1.length (wipeD σ vs) (xs.length + 1) 0 (s1 ++ [.lst []]) with
      | none => rw [ec] at hv; cases hv
      | some s9 =>
        rw [ec] at hv
        cases hv
        refine ⟨μ, st, σ, J, s1, gd, er, h1, fun μ0 H0 J' g0 d0 iR Dp hD => ?_⟩
        have gn : Gr H0 μ0 (upd H0 Dp (.lst [])) (μ0 ++ [Dp]) := gr_new hD
        have dn := d0.new hD (reps_nil (K := K) (H := H0) (μ := μ0))
        have hDp : (μ0 ++ [Dp])[s1.length]? = some Dp := by
          rw [← d0.len, List.getElem?_append_right (Nat.le_refl _), Nat.sub_self]
          rfl
        have ew : EnvR K H0 μ0 (wipeD σ vs) (wipe τ vs) := envr_wipe (er.m g0) vs
        refine ⟨fun j m H1 => ∃ μ1 s2, Gr (upd H0 Dp (.lst [])) (μ0 ++ [Dp]) H1 μ1 ∧ Gd K ww H1 μ1 s2 ∧ comp2V J g c i1 g1 c1 e vs1 s1.length (wipeD σ vs) m j s2 = some st', ⟨_, μ0 ++ [Dp], _, Gr.refl _ _, dn, ec⟩, ?_⟩
        rintro j m H1 ⟨μ1, s2, gr1, d1, hv1⟩
        cases m with
        | zero => cases hv1
        | succ m =>
          unfold comp2V at hv1
          cases e2 : items J s2 with
          | none => simp only [e2] at hv1; cases hv1
          | some ys =>
            simp only [e2] at hv1
            have g01 := gn.trans gr1
            obtain ⟨q1, q2⟩ := iR μ1 H1 s2 ys g01 d1 e2
            cases e3 : ys[j]? with
            | none =>
              simp only [e3] at hv1
              cases hv1
              exact .inl ⟨q1 j (by simpa using e3), k μ1 H1 _ (g0.trans g01) d1 (rep_loc (gr1.get hDp))⟩
            | some y =>
              simp only [e3] at hv1
              obtain ⟨q3, q4⟩ := q2 j y e3
              let Nx : Hp → Prop := fun H3 => ∃ μ3 s3, Gr (upd H0 Dp (.lst [])) (μ0 ++ [Dp]) H3 μ3 ∧ Gd K ww H3 μ3 s3 ∧ comp2V J g c i1 g1 c1 e vs1 s1.length (wipeD σ vs) m (j + 1) s3 = some st'
              refine .inr ⟨q3, Nx, fun H3 q => ⟨m, Nat.lt_succ_self m, q⟩, fun x H2 hy => ?_⟩
              obtain ⟨sm, rx⟩ := q4 x H2 hy
              have gs : Gr H1 μ1 H2 μ1 := ⟨Keeps.same sm, [], by simp⟩
              have d2 := d1.same sm
              cases e4 : g y (wipeD σ vs) with
              | none => simp only [e4] at hv1; cases hv1
              | some σ2 =>
                simp only [e4] at hv1
                obtain ⟨b, s3, h3, hv1⟩ := bnd_eq hv1
                have main : gg x (wipe τ vs) H2 fun τ2 H2 => rdT K ww c τ2 H2 fun b H3 => if b = true then rdI K ww i1 τ2 H3 fun J1 H4 => ∃ W1 : Nat → Nat → Hp → Prop, (∃ m, W1 0 m H4) ∧ ∀ j k H, W1 j k H →
                    (J1.stop j H ∧ Nx H) ∨ (J1.go j H ∧ ∃ Nx1 : Hp → Prop, (∀ H', Nx1 H' → ∃ k', k' < k ∧ W1 (j + 1) k' H') ∧ ∀ x H', J1.yld j H x H' → gg1 x (wipe τ2 vs1) H' fun τ3 H5 => wipe τ3 vs1 = wipe τ2 vs1 ∧ rdT K ww c1 τ3 H5 fun b H6 =>
                      if b = true then rdE K ww e τ3 H6 fun y H7 => ∃ acc, H7 Dp = some (.lst acc) ∧ acc.length < sizeLine ∧ Nx1 (upd H7 Dp (.lst (acc ++ [y]))) else Nx1 H6)
                    else Nx H3 := by
                  refine ok H2 μ1 _ _ y x σ2 _ (ew.m (g01.trans gs)) rx e4 fun τ2 e5 => ?_
                  refine ⟨μ1, s2, σ2, b, s3, d2, e5, h3, fun μ4 H4 g4 d4 => ?_⟩
                  have g5 := (gr1.trans gs).trans g4
                  cases b with
                  | false => exact ⟨μ4, s3, g5, d4, hv1⟩
                  | true =>
                    rw [if_pos rfl] at hv1
                    show rdI K ww i1 τ2 H4 _
                    obtain ⟨J1, s4, h4, hv1⟩ := bnd_eq hv1
                    cases e6 : items J1 s4 with
                    | none => simp only [e6] at hv1; cases hv1
                    | some zs =>
                      simp only [e6] at hv1
                      cases e7 : compV J1 g1 c1 e s1.length (wipeD σ2 vs1) (zs.length + 1) 0 s4 with
                      | none => simp only [e7] at hv1; cases hv1
                      | some s5 =>
                        simp only [e7] at hv1
                        refine ⟨μ4, s3, σ2, J1, s4, d4, e5.m g4, h4, fun μ6 H6 J1' g6 d6 iR1 => ?_⟩
                        have g06 := g5.trans g6
                        have ew1 : EnvR K H6 μ6 (wipeD σ2 vs1) (wipe τ2 vs1) := envr_wipe (e5.m (g4.trans g6)) vs1
                        refine ⟨fun j' k' H7 => ∃ μ7 s7, Gr H6 μ6 H7 μ7 ∧ Gd K ww H7 μ7 s7 ∧ compV J1 g1 c1 e s1.length (wipeD σ2 vs1) k' j' s7 = some s5, ⟨_, μ6, s4, Gr.refl _ _, d6, e7⟩, ?_⟩
                        rintro j' k' H7 ⟨μ7, s7, g7, d7, hv7⟩
                        cases k' with
                        | zero => cases hv7
                        | succ k' =>
                          unfold compV at hv7
                          cases f2 : items J1 s7 with
                          | none => simp only [f2] at hv7; cases hv7
                          | some us =>
                            simp only [f2] at hv7
                            obtain ⟨r1, r2⟩ := iR1 μ7 H7 s7 us g7 d7 f2
                            cases f3 : us[j']? with
                            | none =>
                              simp only [f3] at hv7
                              cases hv7
                              exact .inl ⟨r1 j' (by simpa using f3), _, _, g06.trans g7, d7, hv1⟩
                            | some u =>
                              simp only [f3] at hv7
                              obtain ⟨r3, r4⟩ := r2 j' u f3
                              let Ny : Hp → Prop := fun H8 => ∃ μ8 s8, Gr H6 μ6 H8 μ8 ∧ Gd K ww H8 μ8 s8 ∧ compV J1 g1 c1 e s1.length (wipeD σ2 vs1) k' (j' + 1) s8 = some s5
                              refine .inr ⟨r3, Ny, fun H8 q => ⟨k', Nat.lt_succ_self k', q⟩, fun x8 H8 hy8 => ?_⟩
                              obtain ⟨sm8, rx8⟩ := r4 x8 H8 hy8
                              have gs8 : Gr H7 μ7 H8 μ7 := ⟨Keeps.same sm8, [], by simp⟩
                              have d8 := d7.same sm8
                              cases f4 : g1 u (wipeD σ2 vs1) with
                              | none => simp only [f4] at hv7; cases hv7
                              | some σ8 =>
                                simp only [f4] at hv7
                                obtain ⟨b8, s8, h8, hv7⟩ := bnd_eq hv7
                                have inner : gg1 x8 (wipe τ2 vs1) H8 fun τ3 H5 => rdT K ww c1 τ3 H5 fun b H6 => if b = true then rdE K ww e τ3 H6 fun y H7 => ∃ acc, H7 Dp = some (.lst acc) ∧ acc.length < sizeLine ∧ Ny (upd H7 Dp (.lst (acc ++ [y]))) else Ny H6 := by
                                  refine ok1 H8 μ7 _ _ u x8 σ8 _ (ew1.m (g7.trans gs8)) rx8 f4 fun τ8 e8 => ?_
                                  refine ⟨μ7, s7, σ8, b8, s8, d8, e8, h8, fun μ9 H9 g9 d9 => ?_⟩
                                  have g10 := (g7.trans gs8).trans g9
                                  cases b8 with
                                  | false => exact ⟨μ9, s8, g10, d9, hv7⟩
                                  | true =>
                                    rw [if_pos rfl] at hv7
                                    show rdE K ww e τ8 H9 _
                                    obtain ⟨z, s10, h10, hv7⟩ := bnd_eq hv7
                                    refine ⟨μ9, s8, σ8, z, s10, d9, e8.m g9, h10, fun μ11 H11 wv g11 d11 r11 => ?_⟩
                                    cases f6 : getM s10 s1.length with
                                    | none => simp only [f6] at hv7; cases hv7
                                    | some acc =>
                                      simp only [f6] at hv7
                                      split at hv7
                                      · rename_i hl
                                        have hp11 := (g06.trans (g10.trans g11)).get hDp
                                        obtain ⟨us2, hH, rs⟩ := d11.getM hp11 f6
                                        have gw : Gr H11 μ11 (upd H11 Dp (.lst (us2 ++ [wv]))) μ11 := gr_write hH
                                        exact ⟨us2, hH, lim_lt (by rw [← rs.len]; exact hl), μ11, _, (g10.trans g11).trans gw, d11.write hp11 (getM_get f6) hH (rs.app (reps_cons r11 reps_nil)), hv7⟩
                                      · cases hv7
                                have hq := ow1 x8 _ _ _ inner
                                rw [wipe_wipe] at hq
                                exact hq
                have hq2 := ow x _ _ _ main
                rw [wipe_wipe] at hq2
                exact hq2
theorem se_comp2 {elt tg iter tg1 iter1 : Expr} {ifs ifs1 : List Expr} {scope : Scope} {own : List (Str × Nat)} {vs1 : List Nat} {pos : Pos} {i i1 : SJ} {gg gg1 : TG} {g g1 : Tg} {c c1 : ST} {e : SE} (hc : X.calm = true) (hN : X.N.Nodup) (hi : PI X tg iter (rdI X.K X.w i)) (ok : BlkOk X.N X.env.scope scope own) (hv : ∀ i ∈ vs1, i ∈ own.map (·.2))
    (hg : ∀ (s : Shared) (H : Hp) (C : Addr) (cl : List (Str × Addr)) (fp : List Addr), PG (X.blk s H scope (compEnvC scope cl C X.env) fp) tg gg) (okg : OkG X.K gg g) (ow : OwnG (own.map (·.2)) gg)
    (ht : ∀ (s : Shared) (H : Hp) (C : Addr) (cl : List (Str × Addr)) (fp : List Addr), PTs (X.blk s H scope (compEnvC scope cl C X.env) fp) ifs (rdT X.K X.w c))
    (hi1 : ∀ (s : Shared) (H : Hp) (C : Addr) (cl : List (Str × Addr)) (fp : List Addr), PI (X.blk s H scope (compEnvC scope cl C X.env) fp) tg1 iter1 (rdI X.K X.w i1))
    (hg1 : ∀ (s : Shared) (H : Hp) (C : Addr) (cl : List (Str × Addr)) (fp : List Addr), PG (X.blk s H scope (compEnvC scope cl C X.env) fp) tg1 gg1) (okg1 : OkG X.K gg1 g1) (ow1 : OwnG vs1 gg1)
    (ht1 : ∀ (s : Shared) (H : Hp) (C : Addr) (cl : List (Str × Addr)) (fp : List Addr), PTs (X.blk s H scope (compEnvC scope cl C X.env) fp) ifs1 (rdT X.K X.w c1))
    (he : ∀ (s : Shared) (H : Hp) (C : Addr) (cl : List (Str × Addr)) (fp : List Addr), PE (X.blk s H scope (compEnvC scope cl C X.env) fp) elt (rdE X.K X.w e)) (hs : ∀ x, foldedSetIterable iter X.env x = pure x := by intro _; rfl) (hs1 : ∀ env x, foldedSetIterable iter1 env x = pure x := by intro _ _; rfl) :
    PE X (.ListComp elt [⟨tg, iter, ifs, 0⟩, ⟨tg1, iter1, ifs1, 0⟩] scope pos) (rdE X.K X.w (comp2F (own.map (·.2)) vs1 i g c i1 g1 c1 e)) := (pe_lc2 hc hN hi ok hv hg ht hi1 hg1 ht1 he hs hs1).weak (rd_comp2 okg ow okg1 ow1)
theorem rd_asgC2 {vs vs1 : List Nat} {i i1 : SJ} {gg gg1 : TG} {g g1 : Tg} {c c1 : ST} {e : SE} {j : Nat} (ok : OkG K gg g) (ow : OwnG vs gg) (ok1 : OkG K gg1 g1) (ow1 : OwnG vs1 gg1) :
    ∀ Dn τ H, rdS K ww (asgS (nmG j) (comp2F vs vs1 i g c i1 g1 c1 e)) Dn τ H → tAsg (tLc2 (rdI K ww i) gg (rdT K ww c) (rdI K ww i1) gg1 (rdT K ww c1) (rdE K ww e) vs vs1) (gName j) Dn τ H := fun Dn τ H h => by
  have h2 := rd_asg (g := nmG j) (gg := gName j) (f := comp2F vs vs1 i g c i1 g1 c1 e) ok_name Dn τ H h
  exact rd_comp2 ok ow ok1 ow1 τ H _ h2
theorem s_setLc2 {i : Nat} {y : Str} {py : Pos} {elt tg iter tg1 iter1 : Expr} {ifs ifs1 : List Expr} {scope : Scope} {own : List (Str × Nat)} {vs1 : List Nat} {pos spos : Pos} {it it1 : SJ} {gg gg1 : TG} {g g1 : Tg} {c c1 : ST} {e : SE} (hc : X.calm = true) (hN : X.N.Nodup) (hi : PI X tg iter (rdI X.K X.w it)) (ok : BlkOk X.N X.env.scope scope own) (hv : ∀ i ∈ vs1, i ∈ own.map (·.2))
    (hg : ∀ (s : Shared) (H : Hp) (C : Addr) (cl : List (Str × Addr)) (fp : List Addr), PG (X.blk s H scope (compEnvC scope cl C X.env) fp) tg gg) (okg : OkG X.K gg g) (ow : OwnG (own.map (·.2)) gg)
    (ht : ∀ (s : Shared) (H : Hp) (C : Addr) (cl : List (Str × Addr)) (fp : List Addr), PTs (X.blk s H scope (compEnvC scope cl C X.env) fp) ifs (rdT X.K X.w c))
    (hi1 : ∀ (s : Shared) (H : Hp) (C : Addr) (cl : List (Str × Addr)) (fp : List Addr), PI (X.blk s H scope (compEnvC scope cl C X.env) fp) tg1 iter1 (rdI X.K X.w it1))
    (hg1 : ∀ (s : Shared) (H : Hp) (C : Addr) (cl : List (Str × Addr)) (fp : List Addr), PG (X.blk s H scope (compEnvC scope cl C X.env) fp) tg1 gg1) (okg1 : OkG X.K gg1 g1) (ow1 : OwnG vs1 gg1)
    (ht1 : ∀ (s : Shared) (H : Hp) (C : Addr) (cl : List (Str × Addr)) (fp : List Addr), PTs (X.blk s H scope (compEnvC scope cl C X.env) fp) ifs1 (rdT X.K X.w c1))
    (he : ∀ (s : Shared) (H : Hp) (C : Addr) (cl : List (Str × Addr)) (fp : List Addr), PE (X.blk s H scope (compEnvC scope cl C X.env) fp) elt (rdE X.K X.w e))
    (hy : X.N[i]? = some y := by rfl) (hyl : X.env.scope.names.lookup y = some .local := by rfl) (hsw : swapsWith (.ListComp elt [⟨tg, iter, ifs, 0⟩, ⟨tg1, iter1, ifs1, 0⟩] scope pos) (some (.Name y py)) spos.line X.env = pure true := by exact sw_true rfl rfl rfl (by decide +kernel)) (hs : ∀ x, foldedSetIterable iter X.env x = pure x := by intro _; rfl) (hs1 : ∀ env x, foldedSetIterable iter1 env x = pure x := by intro _ _; rfl) :
    PS X (.Assign [.Name y py] (.ListComp elt [⟨tg, iter, ifs, 0⟩, ⟨tg1, iter1, ifs1, 0⟩] scope pos) spos) (rdS X.K X.w (asgS (nmG i) (comp2F (own.map (·.2)) vs1 it g c it1 g1 c1 e))) := (ps_setLc2 hc hN hy hyl hsw hi ok hv hg ht hi1 hg1 ht1 he hs hs1).weak (rd_asgC2 okg ow okg1 ow1)
end
end Iv

namespace Iv
open PySem L2 PySem.Spec
/-! ### sorting, as a function: ints, texts -/
def leI (a b : Int) : Bool := decide (a ≤ b)
def sortI (l : List Int) : List Int := l.mergeSort leI
theorem sortI_perm (l : List Int) : (sortI l).Perm l := List.mergeSort_perm l leI
theorem sortI_le (l : List Int) : (sortI l).Pairwise (· ≤ ·) := by
  have h := List.pairwise_mergeSort (le := leI) (fun a b c h1 h2 => by simp only [leI, decide_eq_true_eq] at *; omega) (fun a b => by simp only [leI, Bool.or_eq_true, decide_eq_true_eq]; omega) l
  exact h.imp fun h => by simpa [leI] using h
theorem sortI_uniq {l m : List Int} (p : m.Perm l) (s : m.Pairwise (· ≤ ·)) : m = sortI l :=
  List.Perm.eq_of_pairwise (le := (· ≤ ·)) (fun a b _ _ h1 h2 => Int.le_antisymm h1 h2) s (sortI_le l) (p.trans (sortI_perm l).symm)
def leS (a b : Str) : Bool := decide (a.cps.toList ≤ b.cps.toList)
def sortT (l : List Str) : List Str := l.mergeSort leS
theorem sortT_perm (l : List Str) : (sortT l).Perm l := List.mergeSort_perm l leS
theorem leS_trans (a b c : Str) (h1 : leS a b = true) (h2 : leS b c = true) : leS a c = true := by
  simp only [leS, decide_eq_true_eq] at *
  exact List.le_trans h1 h2
theorem sortT_le (l : List Str) : (sortT l).Pairwise (fun a b => leS a b = true) :=
  List.pairwise_mergeSort leS_trans (fun a b => by simp only [leS, Bool.or_eq_true, decide_eq_true_eq]; exact List.le_total _ _) l
theorem str_ext {a b : Str} (h : a.cps.toList = b.cps.toList) : a = b := by
  cases a; cases b
  congr 1
  exact Array.toList_inj.mp h
theorem rising_le : ∀ (l : List Str) (p : Str), PyProof.Rows.risingS p l = true → (p :: l).Pairwise (fun a b => leS a b = true)
  | [], p, _ => List.pairwise_singleton _ _
  | x :: l, p, h => by
    simp only [PyProof.Rows.risingS, Bool.and_eq_true] at h
    have h1 : leS p x = true := by
      simp only [leS, decide_eq_true_eq]
      have h0 := h.1
      rw [PyProof.Rows.ltCps_eq] at h0
      exact List.not_lt.mp (by simpa using h0)
    have h2 := rising_le l x h.2
    refine List.pairwise_cons.mpr ⟨fun y hy => ?_, h2⟩
    rcases List.mem_cons.mp hy with z | z
    · rw [z]; exact h1
    · exact leS_trans _ _ _ h1 ((List.pairwise_cons.mp h2).1 y z)
theorem sorted_le {l : List Str} (h : PyProof.Rows.sortedS l = true) : l.Pairwise (fun a b => leS a b = true) := by
  cases l with
  | nil => exact List.Pairwise.nil
  | cons x l => exact rising_le l x h
theorem sortT_uniq {l m : List Str} (p : m.Perm l) (s : PyProof.Rows.sortedS m = true) : m = sortT l :=
  List.Perm.eq_of_pairwise (le := fun a b => leS a b = true) (fun a b _ _ h1 h2 => by
    simp only [leS, decide_eq_true_eq] at h1 h2
    exact str_ext (List.le_antisymm h1 h2)) (sorted_le s) (sortT_le l) (p.trans (sortT_perm l).symm)

/-! ### sets as tracked things -/
theorem ks_ok {w : World} {P : Program} {H : Hp} {h : Heap} {a : Addr} {ks : List Key} (R : KSet w h a ks) : ObjOk P w H h a (KSetO w a ks) := by
  have ⟨ob, _, _, _, ⟨e1, _⟩, _⟩ := R
  exact ⟨R, ⟨ob, e1⟩, fun h1 h2 p k => KSet.keep p k⟩
section
variable {X : Cx} {K : PySem.W.Frag} {ww : World}
theorem ks_get {pins : List (Addr × Obj)} {σ : L2.St} {H : Hp} {s : Shared} {a : Addr} {ks : List Key} (I : Inv X pins σ H s) (ha : H a = some (KSetO X.w a ks)) : KSet X.w s.heap a ks := (I.hok a _ ha).1
theorem key_rel {k : Key} {u : Value} (r : RelV (kV k) u) : keyIs k u = true := by
  cases k with
  | inl i => obtain ⟨t, rfl⟩ := r; exact keyIs_int i t
  | inr x => obtain ⟨t, rfl⟩ := r; exact keyIs_str x t
/-- the members, as data -/
theorem keyD_rep {H : Hp} {μ : List Addr} {d : D} {v : V} {k : Key} (r : Rep K H μ d v) (e : keyD d = some k) : v = kV k := by
  cases d with
  | int i => cases e; simp only [Rep] at r; exact r
  | str x => cases e; simp only [Rep] at r; exact r
  | _ => cases e
def ofKey : Key → D
  | .inl i => .int i
  | .inr x => .str x
theorem keyD_of {d : D} {k : Key} (e : keyD d = some k) : d = ofKey k := by
  cases d with
  | int i => cases e; rfl
  | str x => cases e; rfl
  | _ => cases e
theorem keysD_of : ∀ {ds : List D} {ks : List Key}, keysD ds = some ks → ds = ks.map ofKey
  | [], _, e => by cases e; rfl
  | d :: ds, ks, e => by
    simp only [keysD] at e
    cases e1 : keyD d with
    | none => rw [e1] at e; cases e
    | some k =>
      cases e2 : keysD ds with
      | none => rw [e1, e2] at e; cases e
      | some ls =>
        rw [e1, e2] at e
        cases e
        rw [keyD_of e1, keysD_of e2]
        rfl
theorem keyD_ofKey (k : Key) : keyD (ofKey k) = some k := by cases k <;> rfl
theorem keysD_ofKey : ∀ ks : List Key, keysD (ks.map ofKey) = some ks
  | [] => rfl
  | k :: ks => by rw [List.map_cons, keysD, keyD_ofKey, keysD_ofKey ks]; rfl
/-! set() -/
def rNewSet (w : World) : List V → Hp → VK → Prop := fun xs H Q => xs = [] ∧ ∀ q, H q = none → Q (.ref q) (upd H q (KSetO w q []))
theorem cr_newSet : CallR X (.type "set") (rNewSet X.w) := by
  intro pins s σ H xs us Q I r h
  obtain ⟨rfl, q⟩ := h
  cases r
  refine setR_new fun _ => ?_
  refine ⟨.ref _, _, I.laid (t' := s.toks) (o := KSetO X.w s.heap.objs.size []) (fun b u e => Heap.get?_push_of_some _ e) (Nat.le_refl _) (ks_ok (kset_fresh s.heap X.w)), rfl, q _ (I.hok.fresh (Nat.le_refl _))⟩
def newSetF : SE := fun _ st => some (.loc st.length, st ++ [.set []])
@[simp] theorem newSetF_eq {σ : Sl} {st : Sto} : newSetF σ st = some (.loc st.length, st ++ [.set []]) := rfl
theorem new_set {H : Hp} {μ : List Addr} {st : Sto} {ks : List Key} {Q : VK} (gd : Gd K ww H μ st) (k : ∀ μ' H' v, Gr H μ H' μ' → Gd K ww H' μ' (st ++ [.set (ks.map ofKey)]) → Rep K H' μ' (.loc st.length) v → Q v H') :
    ∀ p, H p = none → Q (.ref p) (upd H p (KSetO ww p ks)) := fun p hp => by
  have gr : Gr H μ (upd H p (KSetO ww p ks)) (μ ++ [p]) := gr_new hp
  refine k _ _ _ gr (gd.newO (o := .set (ks.map ofKey)) hp ⟨ks, keysD_ofKey ks, upd_same⟩) (rep_loc ?_)
  rw [← gd.len, List.getElem?_append_right (Nat.le_refl _), Nat.sub_self]
  rfl
theorem e_newSet {p pos : Pos} (hg : Gl X "set") (hm : X.mg "set" = none) : PE X (.Call (.Name "set" p) [] [] pos) (rdE X.K X.w newSetF) :=
  (pe_callTy0 cr_newSet hg hm (by decide +kernel)).weak fun τ H Q ⟨μ, st, σ, d, st', gd, er, hv, k⟩ => by
    cases hv
    exact ⟨rfl, new_set (ks := []) gd k⟩
/-! s.add(x), x in s -/
def getS (st : Sto) (n : Nat) : Option (List D) := match st[n]? with
  | some (.set xs) => some xs
  | _ => none
theorem getS_get {st : Sto} {n : Nat} {xs : List D} (h : getS st n = some xs) : st[n]? = some (.set xs) := by
  unfold getS at h
  split at h
  · rename_i e; cases h; exact e
  · cases h
theorem getS_of {st : Sto} {n : Nat} {xs : List D} (h : st[n]? = some (.set xs)) : getS st n = some xs := by unfold getS; rw [h]
theorem Gd.getS {H : Hp} {μ : List Addr} {st : Sto} (g : Gd K ww H μ st) {n : Nat} {p : Addr} {xs : List D} (hp : μ[n]? = some p) (h : Iv.getS st n = some xs) : ∃ ks, xs = ks.map ofKey ∧ H p = some (KSetO ww p ks) := by
  obtain ⟨ks, h1, h2⟩ := g.ob n p _ hp (getS_get h)
  exact ⟨ks, keysD_of h1, h2⟩
def rSetAdd (w : World) : V → List V → Hp → VK → Prop := fun x xs H Q => ∃ (a : Addr) (k : Key) (ks : List Key), x = V.ref a ∧ xs = [kV k] ∧ H a = some (KSetO w a ks) ∧ ks.length + 1 < scanBound ∧ Q .non (upd H a (KSetO w a (addK ks k)))
theorem mt_setAdd : MtR X "set.add" (rSetAdd X.w) := by
  intro pins s σ H x xs v us Q I rx rxs h
  obtain ⟨a, k, ks, rfl, rfl, ha, room, q⟩ := h
  cases rx
  cases rxs with
  | cons ry rt =>
    cases rt
    refine kset_add (key_rel ry) (ks_get I ha) room fun h' sb new => ?_
    have he : ∃ u, h'.get? a = some u := by
      have ⟨ob, _, _, _, ⟨e1, _⟩, _⟩ := new
      exact ⟨ob, e1⟩
    exact ⟨.non, _, I.write (e := a) (t' := s.toks + 1) (by rw [ha]; trivial) (.inl rfl) (fun b u hb hu => (sb.2 b hb).trans hu) he (ks_ok new), rfl, q⟩
def tySet (w : World) (x : V) (H : Hp) : Prop := ∃ a ks, x = .ref a ∧ H a = some (KSetO w a ks)
theorem ty_set : TyOk X "set" (tySet X.w) := fun pins σ H s x v I r ⟨a, ks, ex, h⟩ => by
  subst ex
  cases r
  have S := (ks_get I h).setOf (P := X.prog)
  exact ⟨S.typeIs, S.noDict⟩
def saddF (f : SE) (g : SA) : SE := fun σ st => bnd (f σ st) fun x s1 => match x with
  | .loc n => if (Iv.getS s1 n).isSome = true then bnd (g σ s1) fun ys s2 => (match ys, Iv.getS s2 n with
      | [y], some xs => (match keyD y, keysD xs with
        | some k, some ks => if ks.length < 4000 then some (.non, s2.set n (.set ((addK ks k).map ofKey))) else none
        | _, _ => none)
      | _, _ => none) else none
  | _ => none
theorem saddF_eq {f : SE} {g : SA} {σ : Sl} {st : Sto} : saddF f g σ st = bnd (f σ st) fun x s1 => match x with
  | .loc n => if (Iv.getS s1 n).isSome = true then bnd (g σ s1) fun ys s2 => (match ys, Iv.getS s2 n with
      | [y], some xs => (match keyD y, keysD xs with
        | some k, some ks => if ks.length < 4000 then some (.non, s2.set n (.set ((addK ks k).map ofKey))) else none
        | _, _ => none)
      | _, _ => none) else none
  | _ => none := rfl
theorem e_sadd {o e : Expr} {apos cpos : Pos} {f : SE} {g : SA} (ho : PE X o (rdE X.K X.w f)) (ha : PA X [e] (rdA X.K X.w g))
    (hbase : attributeBase o "add" X.env (eval o X.env) = eval o X.env := by rfl)
    (hfew : ((backTo cpos (starEach [e] X.env)).all (fun x => !x.1) && (backToKw cpos (keywordEach [] X.env)).all (fun x => x.1.isSome)
      && decide ([e].length + ([] : List Keyword).length + (if ([] : List Keyword).isEmpty then 0 else 1) < 30)) = true := by rfl)
    (hline : (apos.endLine == cpos.line) = true := by rfl) (hs : starEach [e] X.env = (false, eval e X.env) :: starEach [] X.env := by rfl) :
    PE X (.Call (.Attribute o "add" apos) [e] [] cpos) (rdE X.K X.w (saddF f g)) :=
  (pe_mG ty_set PySem.F.plainAttrs_set PySem.F.slot_set_add PySem.F.type_set_add mt_setAdd ho ha hbase hfew hline hs rfl).weak fun τ H Q ⟨μ, st, σ, d', st', gd, er, hv, k⟩ => by
    rw [saddF_eq] at hv
    obtain ⟨x, s1, h1, hv⟩ := bnd_eq hv
    refine ⟨μ, st, σ, x, s1, gd, er, h1, fun μ1 H1 v g1 d1 r1 => ?_⟩
    split at hv
    · rename_i n
      split at hv
      · rename_i hsm
        obtain ⟨ys, s2, h2, hv⟩ := bnd_eq hv
        simp only [Rep] at r1
        obtain ⟨p, rfl, hp⟩ := r1
        cases e1 : Iv.getS s1 n with
        | none => rw [e1] at hsm; cases hsm
        | some zs =>
          obtain ⟨ks1, _, hH1⟩ := d1.getS hp e1
          refine ⟨⟨p, ks1, rfl, hH1⟩, μ1, s1, σ, ys, s2, d1, er.m g1, h2, fun μ2 H2 vs g2 d2 r2 => ?_⟩
          split at hv
          · rename_i y xs e3
            split at hv
            · rename_i j ks e4 e5
              split at hv
              · rename_i hl
                cases hv
                obtain ⟨ks2, e6, hH2⟩ := d2.getS (g2.get hp) e3
                rw [e6, keysD_ofKey] at e5
                cases e5
                obtain ⟨u, rfl, ru⟩ := reps1 r2
                have eu := keyD_rep ru e4
                have wr := d2.writeO (o := .set xs) (o2 := .set ((addK ks j).map ofKey)) (u := KSetO X.w p (addK ks j)) (g2.get hp) (getS_get e3) rfl rfl fun _ => ⟨_, keysD_ofKey _, upd_same⟩
                exact ⟨p, j, ks, rfl, by rw [eu], hH2, (show ks.length + 1 < 4096 by omega), k μ2 _ _ ((g1.trans g2).trans wr.1) wr.2 (by simp only [Rep])⟩
              · cases hv
            · cases hv
          · cases hv
      · cases hv
    · cases hv
def rSetIn (w : World) (neg : Bool) : V → V → Hp → VK → Prop := fun x y H Q => ∃ (k : Key) (a : Addr) (ks : List Key), x = kV k ∧ y = V.ref a ∧ H a = some (KSetO w a ks) ∧ Q (.bl (hasK ks k != neg)) H
theorem or_setIn : OpR X (compareOp .In) (rSetIn X.w false) := by
  intro pins s σ H x y v u Q I rx ry h
  obtain ⟨k, a, ks, rfl, rfl, ha, q⟩ := h
  cases ry
  rw [Bool.bne_false] at q
  exact PySem.wpAny_inSet_of (kV_is rx) (key_scannable (key_rel rx)) ((ks_get I ha).setOf (P := X.prog)) ⟨.bl (hasK ks k), H, I.tok _, rfl, q⟩
theorem or_setNotIn : OpR X (compareOp .NotIn) (rSetIn X.w true) := by
  intro pins s σ H x y v u Q I rx ry h
  obtain ⟨k, a, ks, rfl, rfl, ha, q⟩ := h
  cases ry
  rw [Bool.bne_true] at q
  exact PySem.wpAny_notInSet_of (kV_is rx) (key_scannable (key_rel rx)) ((ks_get I ha).setOf (P := X.prog)) ⟨.bl (!hasK ks k), H, I.tok _, rfl, q⟩
def sinO (neg : Bool) : Op2 := fun x y st => match y with
  | .loc n => (match keyD x, Iv.getS st n with
    | some k, some xs => (keysD xs).map fun ks => (.bl (hasK ks k != neg), st)
    | _, _ => none)
  | _ => none
theorem sinO_eq {neg : Bool} {x : D} {k : Key} {n : Nat} {st : Sto} {ks : List Key} (e : keyD x = some k) (h : Iv.getS st n = some (ks.map ofKey)) : sinO neg x (.loc n) st = some (.bl (hasK ks k != neg), st) := by
  simp only [sinO, e, h, keysD_ofKey, Option.map_some]
theorem ok_setIn (neg : Bool) : Ok2 K ww (rSetIn ww neg) (sinO neg) := by
  intro H μ st x y vx vy d st' Q g rx ry hv k
  unfold sinO at hv
  split at hv
  · rename_i n
    simp only [Rep] at ry
    obtain ⟨p, rfl, hp⟩ := ry
    split at hv
    · rename_i j xs e1 e2
      obtain ⟨ks, e3, hH⟩ := g.getS hp e2
      rw [e3, keysD_ofKey] at hv
      cases hv
      exact ⟨j, p, ks, keyD_rep rx e1, rfl, hH, here k g (by simp only [Rep])⟩
    · cases hv
  · cases hv
theorem sin_bl {neg : Bool} : ∀ x y st d st', sinO neg x y st = some (d, st') → ∃ b, d = .bl b := fun x y st d st' h => by
  unfold sinO at h
  split at h
  · split at h
    · rename_i n _ _ j xs _ _
      cases e : keysD xs with
      | none => rw [e] at h; cases h
      | some ks => rw [e] at h; cases h; exact ⟨_, rfl⟩
    · cases h
  · cases h
theorem cm_sin : Cmp X .In (sinO false) := ⟨⟨_, or_setIn, ok_setIn false⟩, sin_bl⟩
theorem cm_snotin : Cmp X .NotIn (sinO true) := ⟨⟨_, or_setNotIn, ok_setIn true⟩, sin_bl⟩
/-! ### sorted(..) of a list or a set, of ints, of texts -/
def sortD (xs : List D) : Option (List D) := match intsD xs with
  | some is => some ((sortI is).map .int)
  | none => (strsD xs).map fun ts => (sortT ts).map .str
theorem ints_map : ∀ {xs : List D} {is : List Int}, intsD xs = some is → xs = is.map .int
  | [], _, h => by cases h; rfl
  | x :: xs, is, h => by
    cases x with
    | int i =>
      simp only [intsD] at h
      cases e : intsD xs with
      | none => rw [e] at h; cases h
      | some cs => rw [e] at h; cases h; rw [ints_map e]; rfl
    | _ => cases h
theorem ints_eq {is : List Int} : intsD (is.map .int) = some is := intsD_map is
theorem strsD_map : ∀ ts : List Str, strsD (ts.map .str) = some ts
  | [] => rfl
  | t :: ts => by rw [List.map_cons, strsD, strsD_map ts]; rfl
theorem sortD_ints (is : List Int) : sortD (is.map .int) = some ((sortI is).map .int) := by simp only [sortD, intsD_map]
theorem sortD_strs (ts : List Str) : sortD (ts.map .str) = some ((sortT ts).map .str) := by
  cases ts with
  | nil => simp [sortD, intsD, sortI, sortT]
  | cons t ts =>
    have e : intsD ((t :: ts).map .str) = none := rfl
    simp only [sortD, e, strsD_map, Option.map_some]
end
/-! the machine: texts of a set -/
section
open PyProof.Rows
variable {P : Program} {w : World} {A : Around} {E : Value → Shared → Prop} {s : Shared} {a : Addr}
def txOf : Value → Str
  | .str x _ => x
  | _ => Str.empty
theorem txs_are : ∀ (l : List Value), (∀ v ∈ l, ∃ x t, v = Value.str x t) → StrsAre l (l.map txOf)
  | [], _ => .nil
  | v :: l, h => by
    obtain ⟨x, t, rfl⟩ := h v List.mem_cons_self
    exact .cons x t (txs_are l fun u hu => h u (List.mem_cons_of_mem _ hu))
theorem kset_sortedS {ts : List Str} {Q : Value → Shared → Prop} (R : KSet w s.heap a (ts.map Sum.inr)) (hh : A.handled = none)
    (hQ : ∀ s2 q (out : Array Value) (c : Nat) (us : List Str), (∀ b o, s.heap.get? b = some o → s2.heap.get? b = some o) → s2.gens = s.gens → s2.os = s.os → s.heap.objs.size ≤ q →
      s2.heap.get? q = some (seqObj "list" out c) → StrsAre out.toList us → sortedS us = true → us.Perm ts → Q (.ref q) s2) :
    wpAny (model P w) A (call (.builtin "sorted") [.ref a]) Q E s := by
  obtain ⟨ob, es, ep, tb, ⟨e1, e2, e3⟩, ⟨g, p, nd⟩, bz, f, r, l⟩ := R
  refine Calls.call_function_entry kind_sorted plain_sorted entry_sorted (args_sorted1 _) ?_
  unfold Builtin.«sorted»
  refine wpAny_bind (m := checkCount "sorted" 1 1 _) (wpAny_pure (wpAny_bind (collect_set (A := A.in1) hh ⟨ob, e1, e2.1, e3⟩ f bz r l fun s1 vs k1 z1 g1 o1 pm => ?_)))
  have kv : (vs.map kyOf).Perm (ts.map Sum.inr) := by
    have q := pm.map kyOf
    rw [List.map_map] at q
    exact q.trans p
  have lv : vs.length ≤ sizeLine := by
    rw [pm.length_eq, List.length_map, Array.length_toList]
    exact fits_of_scanBound bz
  have hT : ∀ v ∈ vs, ∃ x t, v = Value.str x t := fun v hv => by
    obtain ⟨x, hx, rfl⟩ := List.mem_map.mp (pm.mem_iff.mp hv)
    obtain ⟨y, _, ei⟩ := List.mem_map.mp (kv.mem_iff.mp (List.mem_map_of_mem hv))
    have q := (g x hx).1
    rw [← ei] at q
    rcases keyIs_shape q with ⟨i, t, z, _⟩ | ⟨y2, t, _, z⟩
    · cases z
    · exact ⟨y2, t, z⟩
  have hS := txs_are vs hT
  have pr : (vs.map txOf).Perm ts := by
    have q2 := kv.map (fun k : Key => match k with | .inl _ => Str.empty | .inr x => x)
    rw [List.map_map, List.map_map] at q2
    have ea : ((fun k : Key => match k with | .inl _ => Str.empty | .inr x => x) ∘ Sum.inr) = (id : Str → Str) := rfl
    rw [ea, List.map_id] at q2
    have eb : vs.map ((fun k : Key => match k with | .inl _ => Str.empty | .inr x => x) ∘ kyOf) = vs.map txOf := List.map_congr_left fun v hv => by
      obtain ⟨x, t, rfl⟩ := hT v hv
      rfl
    rwa [eb] at q2
  refine wpAny_bind (wpAny_newList ?_ lv)
  have hoL : (s1.heap.push (seqObj "list" vs.toArray 0)).get? s1.heap.objs.size = some (seqObj "list" vs.toArray 0) := Heap.get?_push_size _ rfl
  refine wpAny_bind (wpAny_holding (wpAny_call_entry slot_list_sort ⟨_, hoL, rfl⟩ entry_list_sort (list_sort_treeKAny strKind_oneLt hoL hS.keysOf (fun v₁ v₂ rest e => keyKind_strs (by rw [← e]; exact hS)) lv fun st' hp hs => ⟨_, rfl, ?_⟩) (args_list_sort _)))
  obtain ⟨us, a1, a2, a3⟩ := sorted_out_str hS hp hs
  obtain ⟨c, hc⟩ := sortedHeap_at (vs := vs) (out := (arrOf st').map (·.2)) hoL
  refine wpAny_pure ⟨_, rfl, hQ _ s1.heap.objs.size _ c us (fun b u q => ?_) g1 o1 z1 hc a1 a3 (a2.trans pr)⟩
  have q2 := k1 b u q
  have lt := Heap.lt_size q2
  show (sortedHeap (s1.heap.push (seqObj "list" vs.toArray 0)) s1.heap.objs.size vs _).get? b = some u
  rw [sortedHeap_old (Nat.ne_of_lt lt) (by rw [size_push']; exact Nat.lt_succ_of_lt lt)]
  exact Heap.get?_push_of_some _ q2
end
section
variable {X : Cx} {K : PySem.W.Frag} {ww : World}
def rSrtT (K : PySem.W.Frag) : List V → Hp → VK → Prop := fun vs H Q => ∃ (a : Addr) (ts : List Str), vs = [V.ref a] ∧ SqL K H a (ts.map V.str) ∧ ∀ (us : List Str) (p : Addr), us.Perm ts → PyProof.Rows.sortedS us = true → H p = none → Q (.ref p) (upd H p (.lst (us.map V.str)))
theorem cr_srtT : CallR X (.builtin "sorted") (rSrtT X.K) := by
  intro pins s σ H vs us Q I r h
  obtain ⟨a, xs, rfl, hs, q⟩ := h
  obtain ⟨its, rv, hl, hz⟩ := I.list hs
  rw [Vals.ref1 r]
  refine PyProof.Rows.sorted_strsAny hl.isList rv.strs (by rw [← rv.length]; exact hz) fun out ys h1 h2 h3 => ?_
  obtain ⟨ep, he'⟩ := PyProof.Rows.sortedAll_at s.heap its out
  have hlen : (ys.map V.str).length ≤ sizeLine := by rw [List.length_map, h2.length_eq]; rw [List.length_map] at hz; exact hz
  exact ⟨.ref _, upd H (s.heap.objs.size + 1) (.lst (ys.map V.str)), I.laid (t' := s.toks) (fun _ _ => PyProof.Rows.sortedAll_old) (Nat.le_succ _) ⟨hlen, out.toList, ep, vals_of_strs h1, he'⟩, rfl, q ys _ h2 h3 (I.hok.fresh (Nat.le_succ _))⟩
def rSrtSI (w : World) : List V → Hp → VK → Prop := fun vs H Q => ∃ (a : Addr) (ns : List Int), vs = [V.ref a] ∧ H a = some (KSetO w a (ns.map Sum.inl)) ∧ ns.length ≤ LIM ∧ ∀ (ms : List Int) (p : Addr), ms.Perm ns → ms.Pairwise (· ≤ ·) → H p = none → Q (.ref p) (upd H p (.lst (ms.map V.int)))
def rSrtSS (w : World) : List V → Hp → VK → Prop := fun vs H Q => ∃ (a : Addr) (ts : List Str), vs = [V.ref a] ∧ H a = some (KSetO w a (ts.map Sum.inr)) ∧ ts.length ≤ LIM ∧ ∀ (us : List Str) (p : Addr), us.Perm ts → PyProof.Rows.sortedS us = true → H p = none → Q (.ref p) (upd H p (.lst (us.map V.str)))
theorem sh_eta {s s2 : Shared} (o : s2.os = s.os) : s2 = { s with heap := s2.heap, gens := s2.gens, drawn := s2.drawn, toks := s2.toks } := by
  cases s2; cases s; cases o; rfl
theorem cr_srtSI (hc : X.calm = true) : CallR X (.builtin "sorted") (rSrtSI X.w) := by
  intro pins s σ H vs us Q I r h
  obtain ⟨a, ns, rfl, ha, hL, q⟩ := h
  rw [Vals.ref1 r]
  refine kset_sortedI (ks_get I ha) (I.ok.hd hc) fun s2 p out c ms k g o hp hg hi hs hm => ?_
  have hlen : (ms.map V.int).length ≤ sizeLine := by rw [List.length_map, hm.length_eq]; exact lim_ok hL
  have J : Inv X pins σ (upd H p (.lst (ms.map V.int))) { s with heap := s2.heap, gens := s2.gens, drawn := s2.drawn, toks := s2.toks } :=
    I.call (ch := []) (Un.laid k hp (I.hok.fresh hp)) (I.hok.laid k hp ⟨hlen, out.toList, c, vals_of_ints hi, hg⟩) (by rw [g]; exact I.bare) (fun _ z => nomatch z)
  rw [sh_eta o]
  exact ⟨.ref p, _, J, rfl, q ms p hm hs (I.hok.fresh hp)⟩
theorem cr_srtSS (hc : X.calm = true) : CallR X (.builtin "sorted") (rSrtSS X.w) := by
  intro pins s σ H vs us Q I r h
  obtain ⟨a, ts, rfl, ha, hL, q⟩ := h
  rw [Vals.ref1 r]
  refine kset_sortedS (ks_get I ha) (I.ok.hd hc) fun s2 p out c ms k g o hp hg hi hs hm => ?_
  have hlen : (ms.map V.str).length ≤ sizeLine := by rw [List.length_map, hm.length_eq]; exact lim_ok hL
  have J : Inv X pins σ (upd H p (.lst (ms.map V.str))) { s with heap := s2.heap, gens := s2.gens, drawn := s2.drawn, toks := s2.toks } :=
    I.call (ch := []) (Un.laid k hp (I.hok.fresh hp)) (I.hok.laid k hp ⟨hlen, out.toList, c, vals_of_strs hi, hg⟩) (by rw [g]; exact I.bare) (fun _ z => nomatch z)
  rw [sh_eta o]
  exact ⟨.ref p, _, J, rfl, q ms p hm hs (I.hok.fresh hp)⟩
theorem keys_inl : ∀ {ks : List Key} {is : List Int}, ks.map ofKey = is.map D.int → ks = is.map Sum.inl
  | [], [], _ => rfl
  | [], _ :: _, h => by cases h
  | _ :: _, [], h => by cases h
  | k :: ks, i :: is, h => by
    simp only [List.map_cons, List.cons.injEq] at h
    cases k with
    | inl j => cases h.1; rw [List.map_cons, keys_inl h.2]
    | inr x => cases h.1
theorem keys_inr : ∀ {ks : List Key} {is : List Str}, ks.map ofKey = is.map D.str → ks = is.map Sum.inr
  | [], [], _ => rfl
  | [], _ :: _, h => by cases h
  | _ :: _, [], h => by cases h
  | k :: ks, i :: is, h => by
    simp only [List.map_cons, List.cons.injEq] at h
    cases k with
    | inl j => cases h.1
    | inr x => cases h.1; rw [List.map_cons, keys_inr h.2]
theorem reps_ints' {H : Hp} {μ : List Addr} (ns : List Int) : Reps K H μ (ns.map D.int) (ns.map V.int) := reps_ints ns
theorem sortD_cases {xs ys : List D} (h : sortD xs = some ys) : (∃ is, xs = is.map D.int ∧ ys = (sortI is).map .int) ∨ ∃ ts, xs = ts.map D.str ∧ ys = (sortT ts).map .str := by
  unfold sortD at h
  cases e : intsD xs with
  | some is =>
    rw [e] at h
    cases h
    exact .inl ⟨is, ints_map e, rfl⟩
  | none =>
    rw [e] at h
    cases e2 : strsD xs with
    | none => rw [e2] at h; cases h
    | some ts =>
      rw [e2] at h
      cases h
      exact .inr ⟨ts, strsD_eq e2, rfl⟩
def sortedB : OpN
  | [.loc n], st => match st[n]? with
    | some (.lst xs) => (sortD xs).map fun ys => (.loc st.length, st ++ [.lst ys])
    | some (.frz xs) => (sortD xs).map fun ys => (.loc st.length, st ++ [.lst ys])
    | some (.set xs) => if xs.length ≤ LIM then (sortD xs).map fun ys => (.loc st.length, st ++ [.lst ys]) else none
    | _ => none
  | _, _ => none
theorem ok_sorted : OkN K ww (fun vs H Q => (rSortedI K vs H Q ∨ rSrtT K vs H Q) ∨ (rSrtSI ww vs H Q ∨ rSrtSS ww vs H Q)) sortedB := by
  intro H μ st xs vs d st' Q g r hv k
  unfold sortedB at hv
  split at hv
  · rename_i n
    obtain ⟨v, rfl, rv⟩ := reps1 r
    simp only [Rep] at rv
    obtain ⟨p, rfl, hp⟩ := rv
    have list : ∀ xs, getL st n = some xs → (sortD xs).map (fun ys => (D.loc st.length, st ++ [OB.lst ys])) = some (d, st') → rSortedI K [.ref p] H Q ∨ rSrtT K [.ref p] H Q := fun xs e hv => by
      obtain ⟨ws, s, rs⟩ := g.getL hp e
      cases e2 : sortD xs with
      | none => rw [e2] at hv; cases hv
      | some ys =>
        rw [e2] at hv
        cases hv
        rcases sortD_cases e2 with ⟨is, rfl, rfl⟩ | ⟨ts, rfl, rfl⟩
        · rw [ints_are rs (intsD_map is)] at s
          exact .inl ⟨p, is, rfl, s, fun ms q pm ps hq => by rw [sortI_uniq pm ps]; exact new_lst g (reps_ints _) k q hq⟩
        · rw [strs_of rs (strsD_map ts)] at s
          exact .inr ⟨p, ts, rfl, s, fun ms q pm ps hq => by rw [sortT_uniq pm ps]; exact new_lst g (reps_strs _) k q hq⟩
    split at hv
    · rename_i ys e
      exact .inl (list ys (by unfold getL; rw [e]) hv)
    · rename_i ys e
      exact .inl (list ys (by unfold getL; rw [e]) hv)
    · rename_i ys e
      split at hv
      · rename_i hL
        obtain ⟨ks, e1, hH⟩ := g.getS hp (getS_of e)
        cases e2 : sortD ys with
        | none => rw [e2] at hv; cases hv
        | some zs =>
          rw [e2] at hv
          cases hv
          rcases sortD_cases e2 with ⟨is, e3, rfl⟩ | ⟨ts, e3, rfl⟩
          · rw [keys_inl (e1.symm.trans e3)] at hH
            exact .inr (.inl ⟨p, is, rfl, hH, by rw [e3, List.length_map] at hL; exact hL, fun ms q pm ps hq => by rw [sortI_uniq pm ps]; exact new_lst g (reps_ints _) k q hq⟩)
          · rw [keys_inr (e1.symm.trans e3)] at hH
            exact .inr (.inr ⟨p, ts, rfl, hH, by rw [e3, List.length_map] at hL; exact hL, fun ms q pm ps hq => by rw [sortT_uniq pm ps]; exact new_lst g (reps_strs _) k q hq⟩)
      · cases hv
    · cases hv
  · cases hv
theorem e_sorted {p pos : Pos} {e : Expr} {f : SA} (hc : X.calm = true) (hg : Gl X "sorted") (hm : X.mg "sorted" = none) (ha : PA X [e] (rdA X.K X.w f)) (he : starEach [e] X.env = (false, eval e X.env) :: starEach [] X.env := by rfl) : PE X (.Call (.Name "sorted" p) [e] [] pos) (rdE X.K X.w (appF sortedB f)) :=
  se_callB (CallR.or (CallR.or cr_sortedI cr_srtT) (CallR.or (cr_srtSI hc) (cr_srtSS hc))) ok_sorted hg hm (by decide +kernel) ha (he := he)
end
end Iv

namespace Iv
open PySem L2 PySem.Spec
/-! ### {e for x in it if c}: a new set -/
/-- what each turn of such a block owes: U the turn's measure, Z the set -/
def tSet (w : World) (wi : TI) (g : TG) (tt : TT) (te : TE) (vs : List Nat) : TE := fun σ H Q => wi σ H fun J H1 => ∀ Z, H1 Z = none → ∃ U : Nat → Nat → Hp → Prop, (∃ m, U 0 m (upd H1 Z (KSetO w Z []))) ∧ ∀ j m G, U j m G →
  (J.stop j G ∧ Q (.ref Z) G) ∨ (J.go j G ∧ ∃ V' : Hp → Prop, (∀ G', V' G' → ∃ m', m' < m ∧ U (j + 1) m' G') ∧ ∀ x G', J.yld j G x G' → g x (wipe σ vs) G' fun σ2 G2 => wipe σ2 vs = wipe σ vs ∧ tt σ2 G2 fun b G3 =>
    if b = true then te σ2 G3 fun y G4 => ∃ (k : Key) (ks : List Key), y = kV k ∧ G4 Z = some (KSetO w Z ks) ∧ ks.length + 1 < scanBound ∧ V' (upd G4 Z (KSetO w Z (addK ks k))) else V' G3)
section
variable {X : Cx} {K : PySem.W.Frag} {ww : World}
theorem add_key {pins : List (Addr × Obj)} {σ : L2.St} {H : Hp} {s : Shared} {E : Value → Shared → Prop} {Z : Addr} {ks : List Key} {k : Key} {u : Value} {Q : Value → Shared → Prop} (I : Inv X pins σ H s) (hZ : H Z = some (KSetO X.w Z ks)) (ru : RelV (kV k) u) (room : ks.length + 1 < scanBound)
    (h : ∀ s', Inv X pins σ (upd H Z (KSetO X.w Z (addK ks k))) s' → Q .none s') : wpAny (model X.prog X.w) X.A (call (.builtin "set.add") [.ref Z, u]) Q E s := by
  refine kset_add (key_rel ru) (ks_get I hZ) room fun h' sb new => ?_
  have ⟨ob, _, _, _, ⟨e1, _⟩, _⟩ := new
  exact h _ (I.write (e := Z) (t' := s.toks + 1) (by rw [hZ]; trivial) (.inl rfl) (fun b u hb hu => (sb.2 b hb).trans hu) ⟨ob, e1⟩ (ks_ok new))
theorem pe_set {elt tg iter : Expr} {ifs : List Expr} {scope : Scope} {own : List (PySem.Str × Nat)} {pos : Pos} {wi : TI} {g : TG} {tt : TT} {te : TE} (calm : X.calm = true) (nodup : X.N.Nodup) (src : PI X tg iter wi) (blk : BlkOk X.N X.env.scope scope own)
    (tgt : ∀ (s : Shared) (H : Hp) (C : Addr) (cl : List (PySem.Str × Addr)) (fp : List Addr), PG (X.blk s H scope (compEnvC scope cl C X.env) fp) tg g) (tst : ∀ (s : Shared) (H : Hp) (C : Addr) (cl : List (PySem.Str × Addr)) (fp : List Addr), PTs (X.blk s H scope (compEnvC scope cl C X.env) fp) ifs tt)
    (itm : ∀ (s : Shared) (H : Hp) (C : Addr) (cl : List (PySem.Str × Addr)) (fp : List Addr), PE (X.blk s H scope (compEnvC scope cl C X.env) fp) elt te) (fold : ∀ x, foldedSetIterable iter X.env x = pure x := by intro _; rfl) :
    PE X (.SetComp elt [⟨tg, iter, ifs, 0⟩] scope pos) (tSet X.w wi g tt te (own.map (·.2))) := ⟨fun pins s σ H Q I h => by
  rw [PpSet.eval_SetComp]
  have cap : ∀ y ∈ scope.names, y.2 = .free → ∃ c, X.env.cells.lookup y.1 = some c := fun y hy e => (blk.free y hy e).elim (fun k => I.ok.has _ (.inl k)) fun k => I.ok.has _ (.inr k)
  refine wpAny_comprehension_free (use := none) rfl fold (closure_ok cap) blk.kind (fun y hy e => by rw [blk.uniq y hy, e]) (thn (src.run pins s σ H _ I h) fun v0 s0 a0 => thn a0 fun v1 s1 a1 => ?_)
  obtain ⟨it, fp, tn, J, G1, rfl, I1, T, t1, f1, rest⟩ := a1
  refine PpSet.newSet_ok (newEnv_comp ?_)
  obtain ⟨Z, eZ⟩ : ∃ Z, s1.heap.objs.size = Z := ⟨_, rfl⟩
  rw [eZ]
  have zn : G1 Z = none := I1.hok.fresh (Nat.le_of_eq eZ)
  obtain ⟨U, ⟨m0, u0⟩, turn⟩ := rest Z zn
  -- the empty set stands
  obtain ⟨s2, es2⟩ : ∃ s2 : Shared, s2 = { s1 with heap := s1.heap.push (newSetObj X.w) } := ⟨_, rfl⟩
  obtain ⟨G2, eG2⟩ : ∃ G2, G2 = upd G1 Z (KSetO X.w Z []) := ⟨_, rfl⟩
  rw [← eG2] at u0
  have I2 : Inv X pins σ G2 s2 := by
    rw [es2, eG2, ← eZ]
    exact I1.laid (t' := s1.toks) (fun b o e => Heap.get?_push_of_some _ e) (Nat.le_refl _) (ks_ok (kset_fresh s1.heap X.w))
  have hp2 : s2.heap = s1.heap.push (newSetObj X.w) := by rw [es2]
  have old : ∀ b o, s1.heap.get? b = some o → s2.heap.get? b = some o := fun b o e => by rw [hp2]; exact Heap.get?_push_of_some _ e
  have f2 : ∀ b ∈ fp, FpOk X pins G2 b ∧ b < s2.heap.objs.size := fun b hb => by
    obtain ⟨o, e, _⟩ := T.obj _ _ t1 b hb
    have lt := Heap.lt_size e
    refine ⟨⟨?_, (f1 b hb).2⟩, Heap.lt_size (old b o e)⟩
    rw [eG2, upd_ne (by rw [← eZ]; exact Nat.ne_of_lt lt)]
    exact (f1 b hb).1
  have t2 : tn 0 s2.heap := T.keep _ _ _ t1 fun b _ o e => old b o e
  -- the block's own frame
  have I3 := block_start I2 blk nodup f2
  obtain ⟨C, eC⟩ : ∃ C, s2.heap.objs.size = C := ⟨_, rfl⟩
  obtain ⟨cl, ecl⟩ : ∃ cl, cellsFrom (C + 1) scope.names (cloFrom X.env.cells scope.names []) = cl := ⟨_, rfl⟩
  have pg := tgt s2 G2 C cl fp
  have pt := tst s2 G2 C cl fp
  have pe := itm s2 G2 C cl fp
  rw [eC, ecl] at I3
  obtain ⟨s3, es3⟩ : ∃ s3 : Shared, s3 = { s2 with heap := pushCells (s2.heap.push { cls := .type "dict", data := .dict #[] }) scope.names } := ⟨_, rfl⟩
  rw [← es3] at I3
  have t3 : tn 0 s3.heap := T.keep _ _ _ t2 fun b _ o e => by rw [es3]; exact pushCells_keeps _ _ _ _ (Heap.get?_push_of_some _ e)
  obtain ⟨B, eB⟩ : ∃ B, compEnvC scope cl C X.env = B := ⟨_, rfl⟩
  have lB : B.locals = C := by rw [← eB]; rfl
  rw [eB] at I3 pg pt pe
  have still : ∀ {σ' : L2.St} {G : Hp} {s' : Shared}, Inv (X.blk s2 G2 scope B fp) [] σ' G s' → (∀ b ∈ fp, G b = none) → ∀ b ∈ fp, FpOk (X.blk s2 G2 scope B fp) [] G b := fun {σ' G s'} I' hn b hb =>
    ⟨hn b hb, (I'.ok.exf b hb).1, I'.ok.exfs b hb, .inl hb, fun x c e => (I'.ok.exf b hb).2 x c e, fun p hp => by cases (show p ∈ ([] : List (Addr × Obj)) from hp)⟩
  -- all turns
  have all : codeAny (model X.prog X.w) X.A (.compLoop (.SetComp elt [⟨tg, iter, ifs, 0⟩] scope pos) 0 (.ref it) (.ref Z) B) (compPost (model X.prog X.w) X.A X.xe none (fun u s' => ∃ y G, Inv X pins σ G s' ∧ RelV y u ∧ Q y G) (.ref Z) C) s3 := by
    refine PpSet.compLoopS_any (fun m s' => ∃ j G, U j m G ∧ (∀ b ∈ fp, G b = none) ∧ tn j s'.heap ∧ Inv (X.blk s2 G2 scope B fp) [] (wipe σ (own.map (·.2))) G s') ?_ m0 ⟨0, G2, u0, fun b hb => (f2 b hb).1.1, t3, I3⟩
    rintro m s4 ⟨j, G4, u4, n4, t4, I4⟩
    rcases turn j m G4 u4 with ⟨st, qq⟩ | ⟨go, V', nxt, body⟩
    · refine thnF (T.done (X.blk s2 G2 scope B fp) rfl rfl rfl calm j [] s4 _ G4 (fun _ _ => False) I4 (still I4 n4) t4 st) fun r s5 ⟨er, I5⟩ => ?_
      subst er
      have I6 : Inv X pins σ G4 s5 := I2.call' (ch := fp) I5.os I5.base I5.hok I5.bare fun b hb => ⟨(f2 b hb).1.2.2.2.1, (f2 b hb).1.2.1, (f2 b hb).1.2.2.2.2.1, (f2 b hb).1.2.2.2.2.2⟩
      have fC : G4 C = none := by rw [← lB]; exact I5.free
      obtain ⟨mm, hns, _⟩ := I5.loc
      refine ⟨mm, by rw [← lB]; exact hns, fun h'' sb => ?_⟩
      obtain ⟨a0, a1, a2, a3, a4, a5⟩ := I2.fpOk (b := C) (H' := G4) (Nat.le_of_eq eC) fC
      exact ⟨.ref Z, G4, I6.turned (t' := s5.toks) (fun b o hb e => (sb.2 b hb).trans e) a0 a1 a3 a4 a5, rfl, qq⟩
    · refine thnF (T.item (X.blk s2 G2 scope B fp) rfl rfl rfl calm j [] s4 _ G4 (fun _ _ => False) I4 (still I4 n4) t4 go) fun r s5 ⟨u, er, got⟩ => ?_
      subst er
      refine thnF got fun _ s6 ⟨x, G6, I6, r6, y6, t6, n6⟩ => ?_
      have P6 := I6.pinned (still I6 n6) (T.obj _ _ t6)
      refine thnF (pg.run _ s6 _ G6 x u _ P6 r6 (body x G6 y6)) fun _ s7 ⟨σ7, G7, I7, w7, q7⟩ => ?_
      refine thnF (pt.run _ s7 σ7 G7 _ I7 q7) fun b s8 ⟨G8, I8, q8⟩ => ?_
      have back : ∀ {s' : Shared} {G : Hp}, Inv (X.blk s2 G2 scope B fp) ([] ++ pinsAt fp s6.heap) σ7 G s' → V' G → ∃ m', m' < m ∧ ∃ j G, U j m' G ∧ (∀ b ∈ fp, G b = none) ∧ tn j s'.heap ∧ Inv (X.blk s2 G2 scope B fp) [] (wipe σ (own.map (·.2))) G s' := fun {s' G} I' v' => by
        obtain ⟨m', lt, u'⟩ := nxt G v'
        have pinned : ∀ b ∈ fp, ∀ o, s6.heap.get? b = some o → s'.heap.get? b = some o ∧ G b = none := fun b hb o e => by
          have z := I'.pin (b, o) (List.mem_append_right _ (List.mem_append_right _ (mem_pinsAt hb e)))
          exact ⟨z.1, z.2.1⟩
        refine ⟨m', lt, j + 1, G, u', fun b hb => ?_, T.keep _ _ _ t6 fun b hb o e => (pinned b hb o e).1, (I'.unpinned (pins := [])).weak (by rw [← w7, wipe_length]) fun i v e => ?_⟩
        · obtain ⟨o, e, _⟩ := T.obj _ _ t6 b hb
          exact (pinned b hb o e).2
        · rw [← w7] at e
          exact (wipe_some e).1
      cases b with
      | false => simp only [Bool.false_eq_true, if_false] at q8 ⊢; exact back I8 q8
      | true =>
        simp only [if_true] at q8 ⊢
        refine thnF (pe.run _ s8 σ7 G8 _ I8 q8) fun z s9 ⟨y, G9, I9, r9, k, ks, ey, hZ, room, v9⟩ => ?_
        subst ey
        exact add_key (X := X.blk s2 G2 scope B fp) I9 hZ r9 room fun s10 I10 => back I10 v9
  have start := PpSet.codeAny_compStart_set (elt := elt) (target := tg) (iter := iter) (ifs := ifs) (rest := []) (scope := scope) (pos := pos) all (T.self X.A 0 _ _ _ t3 all)
  have e4 : ({ s1 with heap := s1.heap.push (newSetObj X.w) } : Shared) = s2 := es2.symm
  rw [e4, eC, ecl]
  rw [← es3]
  rw [← eB] at start
  exact start⟩
def addD (xs : List D) (y : D) : Option (List D) := match keysD xs, keyD y with
  | some ks, some k => if ks.length < 4000 then some ((addK ks k).map ofKey) else none
  | _, _ => none
theorem addD_of {ks : List Key} {k : Key} (h : ks.length < 4000) : addD (ks.map ofKey) (ofKey k) = some ((addK ks k).map ofKey) := by
  simp only [addD, keysD_ofKey, keyD_ofKey, h, if_true]
def scompV (J : It) (g : Tg) (c : ST) (e : SE) (n : Nat) (σ0 : Sl) : Nat → Nat → Sto → Option Sto
  | 0, _, _ => none
  | m + 1, i, st => match items J st with
    | none => none
    | some xs => match xs[i]? with
      | none => some st
      | some d => match g d σ0 with
        | none => none
        | some σ1 => bnd (c σ1 st) fun b s1 => if b = true then bnd (e σ1 s1) fun y s2 => (match getS s2 n with
            | none => none
            | some acc => match addD acc y with
              | none => none
              | some acc2 => scompV J g c e n σ0 m (i + 1) (s2.set n (.set acc2))) else scompV J g c e n σ0 m (i + 1) s1
def scompF (vs : List Nat) (i : SJ) (g : Tg) (c : ST) (e : SE) : SE := fun σ st => bnd (i σ st) fun J s1 => match items J s1 with
  | none => none
  | some xs => (scompV J g c e s1.length (wipeD σ vs) (xs.length + 1) 0 (s1 ++ [.set []])).map fun s2 => (.loc s1.length, s2)
theorem rd_scomp {vs : List Nat} {i : SJ} {gg : TG} {g : Tg} {c : ST} {e : SE} (ok : OkG K gg g) (ow : OwnG vs gg) : ∀ τ H Q, rdE K ww (scompF vs i g c e) τ H Q → tSet ww (rdI K ww i) gg (rdT K ww c) (rdE K ww e) vs τ H Q :=
  fun τ H Q ⟨μ, st, σ, d, st', gd, er, hv, k⟩ => by
    obtain ⟨J, s1, h1, hv⟩ := bnd_eq hv
    cases ei : items J s1 with
    | none => simp only [ei] at hv; cases hv
    | some xs =>
      simp only [ei] at hv
      cases ec : scompV J g c e s1.length (wipeD σ vs) (xs.length + 1) 0 (s1 ++ [.set []]) with
      | none => rw [ec] at hv; cases hv
      | some s9 =>
        rw [ec] at hv
        cases hv
        refine ⟨μ, st, σ, J, s1, gd, er, h1, fun μ0 H0 J' g0 d0 iR Z hZ => ?_⟩
        have gn : Gr H0 μ0 (upd H0 Z (KSetO ww Z [])) (μ0 ++ [Z]) := gr_new hZ
        have dn : Gd K ww (upd H0 Z (KSetO ww Z [])) (μ0 ++ [Z]) (s1 ++ [.set []]) := d0.newO (o := .set []) hZ ⟨[], rfl, upd_same⟩
        have pZ : (μ0 ++ [Z])[s1.length]? = some Z := by
          rw [← d0.len, List.getElem?_append_right (Nat.le_refl _), Nat.sub_self]
          rfl
        have ew : EnvR K H0 μ0 (wipeD σ vs) (wipe τ vs) := envr_wipe (er.m g0) vs
        refine ⟨fun j m H1 => ∃ μ1 s2, Gr (upd H0 Z (KSetO ww Z [])) (μ0 ++ [Z]) H1 μ1 ∧ Gd K ww H1 μ1 s2 ∧ scompV J g c e s1.length (wipeD σ vs) m j s2 = some st', ⟨_, μ0 ++ [Z], _, Gr.refl _ _, dn, ec⟩, ?_⟩
        rintro j m H1 ⟨μ1, s2, g1, d1, hv1⟩
        cases m with
        | zero => cases hv1
        | succ m =>
          unfold scompV at hv1
          cases e2 : items J s2 with
          | none => simp only [e2] at hv1; cases hv1
          | some ys =>
            simp only [e2] at hv1
            have g01 := gn.trans g1
            obtain ⟨q1, q2⟩ := iR μ1 H1 s2 ys g01 d1 e2
            cases e3 : ys[j]? with
            | none =>
              simp only [e3] at hv1
              cases hv1
              exact .inl ⟨q1 j (by simpa using e3), k μ1 H1 _ (g0.trans g01) d1 (rep_loc (g1.get pZ))⟩
            | some y =>
              simp only [e3] at hv1
              obtain ⟨q3, q4⟩ := q2 j y e3
              let V' : Hp → Prop := fun H3 => ∃ μ3 s3, Gr (upd H0 Z (KSetO ww Z [])) (μ0 ++ [Z]) H3 μ3 ∧ Gd K ww H3 μ3 s3 ∧ scompV J g c e s1.length (wipeD σ vs) m (j + 1) s3 = some st'
              refine .inr ⟨q3, V', fun H3 q => ⟨m, Nat.lt_succ_self m, q⟩, fun x H2 hy => ?_⟩
              obtain ⟨sm, rx⟩ := q4 x H2 hy
              have gs : Gr H1 μ1 H2 μ1 := ⟨Keeps.same sm, [], by simp⟩
              have d2 := d1.same sm
              cases e4 : g y (wipeD σ vs) with
              | none => simp only [e4] at hv1; cases hv1
              | some σ2 =>
                simp only [e4] at hv1
                obtain ⟨b, s3, h3, hv1⟩ := bnd_eq hv1
                have main : gg x (wipe τ vs) H2 fun τ2 H2 => rdT K ww c τ2 H2 fun b H3 => if b = true then rdE K ww e τ2 H3 fun y H4 => ∃ (k : Key) (ks : List Key), y = kV k ∧ H4 Z = some (KSetO ww Z ks) ∧ ks.length + 1 < scanBound ∧ V' (upd H4 Z (KSetO ww Z (addK ks k))) else V' H3 := by
                  refine ok H2 μ1 _ _ y x σ2 _ (ew.m (g01.trans gs)) rx e4 fun τ2 e5 => ?_
                  refine ⟨μ1, s2, σ2, b, s3, d2, e5, h3, fun μ4 H4 g4 d4 => ?_⟩
                  have g5 := (g1.trans gs).trans g4
                  cases b with
                  | false => exact ⟨μ4, s3, g5, d4, hv1⟩
                  | true =>
                    rw [if_pos rfl] at hv1
                    show rdE K ww e τ2 H4 _
                    obtain ⟨z, s4, h4, hv1⟩ := bnd_eq hv1
                    refine ⟨μ4, s3, σ2, z, s4, d4, e5.m g4, h4, fun μ5 H5 w g6 d5 r5 => ?_⟩
                    cases e6 : getS s4 s1.length with
                    | none => simp only [e6] at hv1; cases hv1
                    | some acc =>
                      simp only [e6] at hv1
                      cases e7 : addD acc z with
                      | none => simp only [e7] at hv1; cases hv1
                      | some acc2 =>
                        simp only [e7] at hv1
                        have hp5 := (g5.trans g6).get pZ
                        obtain ⟨ks, ea, hH⟩ := d5.getS hp5 e6
                        subst ea
                        unfold addD at e7
                        rw [keysD_ofKey] at e7
                        cases ez : keyD z with
                        | none => simp only [ez] at e7; cases e7
                        | some kz =>
                          simp only [ez] at e7
                          split at e7
                          · rename_i hl
                            cases e7
                            have wr := d5.writeO (o := .set (ks.map ofKey)) (o2 := .set ((addK ks kz).map ofKey)) (u := KSetO ww Z (addK ks kz)) hp5 (getS_get e6) rfl rfl fun _ => ⟨_, keysD_ofKey _, upd_same⟩
                            exact ⟨kz, ks, keyD_rep r5 ez, hH, (show ks.length + 1 < 4096 by omega), μ5, _, (g5.trans g6).trans wr.1, wr.2, hv1⟩
                          · cases e7
                have hq2 := ow x _ _ _ main
                rw [wipe_wipe] at hq2
                exact hq2
theorem se_scomp {elt tg iter : Expr} {ifs : List Expr} {scope : Scope} {own : List (Str × Nat)} {pos : Pos} {i : SJ} {gg : TG} {g : Tg} {c : ST} {e : SE} (hc : X.calm = true) (hN : X.N.Nodup) (hi : PI X tg iter (rdI X.K X.w i)) (ok : BlkOk X.N X.env.scope scope own)
    (hg : ∀ (s : Shared) (H : Hp) (C : Addr) (cl : List (Str × Addr)) (fp : List Addr), PG (X.blk s H scope (compEnvC scope cl C X.env) fp) tg gg) (okg : OkG X.K gg g) (ow : OwnG (own.map (·.2)) gg)
    (ht : ∀ (s : Shared) (H : Hp) (C : Addr) (cl : List (Str × Addr)) (fp : List Addr), PTs (X.blk s H scope (compEnvC scope cl C X.env) fp) ifs (rdT X.K X.w c))
    (he : ∀ (s : Shared) (H : Hp) (C : Addr) (cl : List (Str × Addr)) (fp : List Addr), PE (X.blk s H scope (compEnvC scope cl C X.env) fp) elt (rdE X.K X.w e)) (hs : ∀ x, foldedSetIterable iter X.env x = pure x := by intro _; rfl) :
    PE X (.SetComp elt [⟨tg, iter, ifs, 0⟩] scope pos) (rdE X.K X.w (scompF (own.map (·.2)) i g c e)) := (pe_set hc hN hi ok hg ht he hs).weak (rd_scomp okg ow)
/-! ### reversed(range(n)) -/
def rrgI (f : SE) : SJ := fun σ st => bnd (f σ st) fun d s1 => match d with
  | .int j => if 0 ≤ j ∧ j ≤ 1000000 then some (.cns (rngD 0 j.toNat).reverse, s1) else none
  | _ => none
@[simp] theorem rrgI_eq {f : SE} {σ : Sl} {st : Sto} : rrgI f σ st = bnd (f σ st) fun d s1 => match d with
  | .int j => if 0 ≤ j ∧ j ≤ 1000000 then some (.cns (rngD 0 j.toNat).reverse, s1) else none
  | _ => none := rfl
theorem si_rrg {tg a : Expr} {f : SE} {p q pos pos2 : Pos} (hg : Gl X "reversed") (hm : X.mg "reversed" = none) (hg2 : Gl X "range") (hm2 : X.mg "range" = none) (ha : PE X a (rdE X.K X.w f))
    (na : starEach [a] X.env = (false, eval a X.env) :: starEach [] X.env := by rfl) (nb : starEach [.Call (.Name "range" q) [a] [] pos2] X.env = (false, eval (.Call (.Name "range" q) [a] [] pos2) X.env) :: starEach [] X.env := by rfl) :
    PI X tg (.Call (.Name "reversed" p) [.Call (.Name "range" q) [a] [] pos2] [] pos) (rdI X.K X.w (rrgI f)) := ⟨fun pins s τ H R I hw => by
  obtain ⟨μ, st, σ, J, st', gd, er, hv, k⟩ := hw
  obtain ⟨d, s1, h1, hv⟩ := bnd_eq hv
  split at hv
  · split at hv
    · rename_i j hj
      cases hv
      refine (pi_revR hg hm (prg_1 hg2 hm2 ha na) nb).run pins s τ H R I ⟨μ, st, σ, _, _, gd, er, h1, fun μ1 H1 v g1 d1 r1 => ?_⟩
      simp only [Rep] at r1
      refine ⟨j, r1, by omega, by omega, by omega, by omega, k μ1 H1 _ g1 d1 fun μ2 H2 st2 xs g2 d2 e2 => ?_⟩
      cases e2
      have el : (rngD 0 j.toNat).reverse.length = j.toNat := by rw [List.length_reverse, rngD_len]
      refine ⟨fun i hi => (show (j - 0).toNat ≤ i by rw [el] at hi; omega), fun i d hd => ?_⟩
      have hi : i < j.toNat := by rw [← el]; exact (List.getElem?_eq_some_iff.mp hd).1
      rw [List.getElem?_reverse (by rw [rngD_len]; exact hi), rngD_len] at hd
      obtain ⟨_, rfl⟩ := rngD_get hd
      refine ⟨(show i < (j - 0).toNat by omega), fun x H3 ⟨e3, e4⟩ => ?_⟩
      subst e3
      refine ⟨Same.refl _, ?_⟩
      rw [e4]
      simp only [Rep]
      congr 1
      omega
    · cases hv
  · cases hv⟩
/-! ### a op b op' c as a test; a op b op' c op'' d -/
theorem rd_chain {o o' : Op2} {op : CmpOp} {f g h : SE} (hc : Cmp X op o) {r r' : R2} (p2 : Ok2 X.K X.w r o) (q2 : Ok2 X.K X.w r' o') : ∀ τ H Q, rdE X.K X.w (chnF o o' f g h) τ H Q → tChain r r' (rdE X.K X.w f) (rdE X.K X.w g) (rdE X.K X.w h) τ H Q := fun τ H Q ⟨μ, st, σ, d, st', gd, er, hv, k⟩ => by
  obtain ⟨x, s1, e1, hv⟩ := bnd_eq hv
  obtain ⟨y, s2, e2, hv⟩ := bnd_eq hv
  obtain ⟨z, s3, e3, hv⟩ := bnd_eq hv
  refine ⟨μ, st, σ, x, s1, gd, er, e1, fun μ1 H1 vx g1 d1 r1 => ?_⟩
  refine ⟨μ1, s1, σ, y, s2, d1, er.m g1, e2, fun μ2 H2 vy g2 d2 r2 => ?_⟩
  refine p2 H2 μ2 s2 x y vx vy z s3 _ d2 (r1.m g2) r2 e3 fun μ3 H3 vz g3 d3 r3 => ?_
  obtain ⟨bb, rfl⟩ := hc.bl _ _ _ _ _ e3
  simp only [Rep] at r3
  refine ⟨bb, r3, ?_⟩
  cases bb with
  | false =>
    cases hv
    exact k μ3 H3 _ ((g1.trans g2).trans g3) d3 (by simp only [Rep])
  | true =>
    show rdE X.K X.w h τ H3 _
    obtain ⟨w, s4, e4, hv⟩ := bnd_eq hv
    refine ⟨μ3, s3, σ, w, s4, d3, er.m ((g1.trans g2).trans g3), e4, fun μ4 H4 vw g4 d4 r4 => ?_⟩
    exact q2 H4 μ4 s4 y w vy vw d st' Q d4 (r2.m (g3.trans g4)) r4 hv fun μ5 H5 v g5 d5 r5 => k μ5 H5 v ((((g1.trans g2).trans g3).trans g4).trans g5) d5 r5
theorem chn_bl {o o' : Op2} {f g h : SE} (h2 : ∀ x y st d st', o' x y st = some (d, st') → ∃ b, d = .bl b) {σ : Sl} {st : Sto} {d : D} {st' : Sto} (hv : chnF o o' f g h σ st = some (d, st')) : ∃ b, d = .bl b := by
  unfold chnF at hv
  obtain ⟨_, _, _, hv⟩ := bnd_eq hv
  obtain ⟨_, _, _, hv⟩ := bnd_eq hv
  obtain ⟨z, _, _, hv⟩ := bnd_eq hv
  split at hv
  · obtain ⟨_, _, _, hv⟩ := bnd_eq hv
    exact h2 _ _ _ _ _ hv
  · cases hv; exact ⟨_, rfl⟩
  · cases hv
theorem rd_test {f : SE} {t : TE} (hb : ∀ σ st d st', f σ st = some (d, st') → ∃ b, d = .bl b) (h : ∀ τ H Q, rdE X.K X.w f τ H Q → t τ H Q) : ∀ τ H Q, rdT X.K X.w (truF f) τ H Q → tTest t τ H Q := fun τ H Q ⟨μ, st, σ, b, st', gd, er, hv, k⟩ => by
  obtain ⟨d, s1, e1, hv⟩ := bnd_eq hv
  obtain ⟨c, rfl⟩ := hb _ _ _ _ e1
  cases hv
  exact h τ H _ ⟨μ, st, σ, .bl b, _, gd, er, e1, fun μ1 H1 v g1 d1 r1 => ⟨b, by simpa only [Rep] using r1, k μ1 H1 g1 d1⟩⟩
theorem t_chain {op op' : CmpOp} {o o' : Op2} {a b c : Expr} {f g h : SE} {pos : Pos} (hc : Cmp X op o) (hc' : Cmp X op' o') (ha : PE X a (rdE X.K X.w f)) (hb : PE X b (rdE X.K X.w g)) (h3 : PE X c (rdE X.K X.w h)) (hl : lastMarks [op, op'] [b, c] = false := by rfl) : PT X (.Compare a [op, op'] [b, c] pos) (rdT X.K X.w (truF (chnF o o' f g h))) := by
  obtain ⟨r, p1, p2⟩ := hc.ex
  obtain ⟨r', q1, q2⟩ := hc'.ex
  exact (pt_chain p1 q1 ha hb h3 hl).weak (rd_test (fun _ _ _ _ e => chn_bl hc'.bl e) (rd_chain hc p2 q2))
def tChain3 (r r' r'' : R2) (ta tb tc td : TE) : TE := fun σ H Q => ta σ H fun x H1 => tb σ H1 fun y H2 => r x y H2 fun z H3 => ∃ k, z = .bl k ∧ (if k = true then tc σ H3 fun v H4 => r' y v H4 fun z2 H5 => ∃ k2, z2 = .bl k2 ∧ (if k2 = true then td σ H5 fun u H6 => r'' v u H6 Q else Q (.bl false) H5) else Q (.bl false) H3)
theorem pe_chain3 {op op' op'' : CmpOp} {r r' r'' : R2} {a b c d : Expr} {ta tb tc td : TE} {pos : Pos} (ho : OpR X (compareOp op) r) (ho' : OpR X (compareOp op') r') (ho'' : OpR X (compareOp op'') r'') (ha : PE X a ta) (hb : PE X b tb) (hc : PE X c tc) (hd : PE X d td)
    (hm : lastMarks [op, op', op''] [b, c, d] = false := by with_unfolding_all rfl) : PE X (.Compare a [op, op', op''] [b, c, d] pos) (tChain3 r r' r'' ta tb tc td) := ⟨fun pins s σ H Q I h =>
  PyProof.Rows.Compare_chain (thn (ha.run pins s σ H _ I h) fun v s1 ⟨x, H1, I1, r1, q1⟩ => PyProof.Rows.chain_link (thn (hb.run pins s1 σ H1 _ I1 q1) fun u s2 ⟨y, H2, I2, r2, q2⟩ =>
    thn (ho pins s2 σ H2 x y v u _ I2 r1 r2 q2) fun e s3 ⟨z, H3, I3, r3, k, ek, q3⟩ => by
      subst ek
      cases r3
      refine wpAny_truthy_bool ?_
      cases k with
      | false => exact PyProof.Rows.ite_ff ⟨.bl false, H3, I3, rfl, q3⟩
      | true =>
        refine PyProof.Rows.ite_tt (PyProof.Rows.chain_link (thn (hc.run pins s3 σ H3 _ I3 q3) fun w4 s4 ⟨z4, H4, I4, r4, q4⟩ => thn (ho' pins s4 σ H4 y z4 u w4 _ I4 r2 r4 q4) fun e2 s5 ⟨z5, H5, I5, r5, k2, ek2, q5⟩ => ?_))
        subst ek2
        cases r5
        refine wpAny_truthy_bool ?_
        cases k2 with
        | false => exact PyProof.Rows.ite_ff ⟨.bl false, H5, I5, rfl, q5⟩
        | true => exact PyProof.Rows.ite_tt (PyProof.Rows.chain_last (thn (hd.run pins s5 σ H5 _ I5 q5) fun w6 s6 ⟨z6, H6, I6, r6, q6⟩ => ho'' pins s6 σ H6 z4 z6 w4 w6 Q I6 r4 r6 q6)))) hm⟩
theorem pt_chain3 {op op' op'' : CmpOp} {r r' r'' : R2} {a b c d : Expr} {ta tb tc td : TE} {pos : Pos} (ho : OpR X (compareOp op) r) (ho' : OpR X (compareOp op') r') (ho'' : OpR X (compareOp op'') r'') (ha : PE X a ta) (hb : PE X b tb) (hc : PE X c tc) (hd : PE X d td)
    (hm : lastMarks [op, op', op''] [b, c, d] = false := by with_unfolding_all rfl) : PT X (.Compare a [op, op', op''] [b, c, d] pos) (tTest (tChain3 r r' r'' ta tb tc td)) := ⟨fun pins s σ H Q I h =>
  PyProof.Rows.isTrue_chain (thn (ha.run pins s σ H _ I h) fun v s1 ⟨x, H1, I1, r1, q1⟩ => PyProof.Rows.test_link (thn (hb.run pins s1 σ H1 _ I1 q1) fun u s2 ⟨y, H2, I2, r2, q2⟩ =>
    thn (ho pins s2 σ H2 x y v u _ I2 r1 r2 q2) fun e s3 ⟨z, H3, I3, r3, k, ek, q3⟩ => by
      subst ek
      cases r3
      refine wpAny_truthy_bool ?_
      cases k with
      | false =>
        obtain ⟨k', e', q'⟩ := q3
        cases e'
        exact PyProof.Rows.ite_ff ⟨H3, I3, q'⟩
      | true =>
        refine PyProof.Rows.ite_tt (PyProof.Rows.test_link (thn (hc.run pins s3 σ H3 _ I3 q3) fun w4 s4 ⟨z4, H4, I4, r4, q4⟩ => thn (ho' pins s4 σ H4 y z4 u w4 _ I4 r2 r4 q4) fun e2 s5 ⟨z5, H5, I5, r5, k2, ek2, q5⟩ => ?_))
        subst ek2
        cases r5
        refine wpAny_truthy_bool ?_
        cases k2 with
        | false =>
          obtain ⟨k', e', q'⟩ := q5
          cases e'
          exact PyProof.Rows.ite_ff ⟨H5, I5, q'⟩
        | true =>
          refine PyProof.Rows.ite_tt (PyProof.Rows.test_last (thn (hd.run pins s5 σ H5 _ I5 q5) fun w6 s6 ⟨z6, H6, I6, r6, q6⟩ => thn (ho'' pins s6 σ H6 z4 z6 w4 w6 _ I6 r4 r6 q6) fun e3 s7 ⟨z7, H7, I7, r7, k3, ek3, q7⟩ => ?_))
          subst ek3
          cases r7
          exact wpAny_truthy_bool ⟨H7, I7, q7⟩)) hm⟩
def chn3F (o o' o'' : Op2) (f g h i : SE) : SE := fun σ st => bnd (f σ st) fun x s1 => bnd (g σ s1) fun y s2 => bnd (o x y s2) fun z s3 => match z with
  | .bl true => bnd (h σ s3) fun w s4 => bnd (o' y w s4) fun z2 s5 => (match z2 with
    | .bl true => bnd (i σ s5) fun u s6 => o'' w u s6
    | .bl false => some (.bl false, s5)
    | _ => none)
  | .bl false => some (.bl false, s3)
  | _ => none
@[simp] theorem chn3F_eq {o o' o'' : Op2} {f g h i : SE} {σ : Sl} {st : Sto} : chn3F o o' o'' f g h i σ st = bnd (f σ st) fun x s1 => bnd (g σ s1) fun y s2 => bnd (o x y s2) fun z s3 => match z with
  | .bl true => bnd (h σ s3) fun w s4 => bnd (o' y w s4) fun z2 s5 => (match z2 with
    | .bl true => bnd (i σ s5) fun u s6 => o'' w u s6
    | .bl false => some (.bl false, s5)
    | _ => none)
  | .bl false => some (.bl false, s3)
  | _ => none := rfl
theorem rd_chain3 {o o' o'' : Op2} {op op' : CmpOp} {f g h i : SE} (hc : Cmp X op o) (hc' : Cmp X op' o') {r r' r'' : R2} (p2 : Ok2 X.K X.w r o) (q2 : Ok2 X.K X.w r' o') (t2 : Ok2 X.K X.w r'' o'') :
    ∀ τ H Q, rdE X.K X.w (chn3F o o' o'' f g h i) τ H Q → tChain3 r r' r'' (rdE X.K X.w f) (rdE X.K X.w g) (rdE X.K X.w h) (rdE X.K X.w i) τ H Q := fun τ H Q ⟨μ, st, σ, d, st', gd, er, hv, k⟩ => by
  obtain ⟨x, s1, e1, hv⟩ := bnd_eq hv
  obtain ⟨y, s2, e2, hv⟩ := bnd_eq hv
  obtain ⟨z, s3, e3, hv⟩ := bnd_eq hv
  refine ⟨μ, st, σ, x, s1, gd, er, e1, fun μ1 H1 vx g1 d1 r1 => ?_⟩
  refine ⟨μ1, s1, σ, y, s2, d1, er.m g1, e2, fun μ2 H2 vy g2 d2 r2 => ?_⟩
  refine p2 H2 μ2 s2 x y vx vy z s3 _ d2 (r1.m g2) r2 e3 fun μ3 H3 vz g3 d3 r3 => ?_
  obtain ⟨bb, rfl⟩ := hc.bl _ _ _ _ _ e3
  simp only [Rep] at r3
  have g03 := (g1.trans g2).trans g3
  refine ⟨bb, r3, ?_⟩
  cases bb with
  | false =>
    cases hv
    exact k μ3 H3 _ g03 d3 (by simp only [Rep])
  | true =>
    show rdE X.K X.w h τ H3 _
    obtain ⟨w, s4, e4, hv⟩ := bnd_eq hv
    obtain ⟨z2, s5, e5, hv⟩ := bnd_eq hv
    refine ⟨μ3, s3, σ, w, s4, d3, er.m g03, e4, fun μ4 H4 vw g4 d4 r4 => ?_⟩
    refine q2 H4 μ4 s4 y w vy vw z2 s5 _ d4 (r2.m (g3.trans g4)) r4 e5 fun μ5 H5 v g5 d5 r5 => ?_
    obtain ⟨b2, rfl⟩ := hc'.bl _ _ _ _ _ e5
    simp only [Rep] at r5
    have g05 := (g03.trans g4).trans g5
    refine ⟨b2, r5, ?_⟩
    cases b2 with
    | false =>
      cases hv
      exact k μ5 H5 _ g05 d5 (by simp only [Rep])
    | true =>
      show rdE X.K X.w i τ H5 _
      obtain ⟨u, s6, e6, hv⟩ := bnd_eq hv
      refine ⟨μ5, s5, σ, u, s6, d5, er.m g05, e6, fun μ6 H6 vu g6 d6 r6 => ?_⟩
      exact t2 H6 μ6 s6 w u vw vu d st' Q d6 (r4.m (g5.trans g6)) r6 hv fun μ7 H7 v g7 d7 r7 => k μ7 H7 v ((g05.trans g6).trans g7) d7 r7
theorem chn3_bl {o o' o'' : Op2} {f g h i : SE} (h2 : ∀ x y st d st', o'' x y st = some (d, st') → ∃ b, d = .bl b) {σ : Sl} {st : Sto} {d : D} {st' : Sto} (hv : chn3F o o' o'' f g h i σ st = some (d, st')) : ∃ b, d = .bl b := by
  unfold chn3F at hv
  obtain ⟨_, _, _, hv⟩ := bnd_eq hv
  obtain ⟨_, _, _, hv⟩ := bnd_eq hv
  obtain ⟨z, _, _, hv⟩ := bnd_eq hv
  split at hv
  · obtain ⟨_, _, _, hv⟩ := bnd_eq hv
    obtain ⟨_, _, _, hv⟩ := bnd_eq hv
    split at hv
    · obtain ⟨_, _, _, hv⟩ := bnd_eq hv
      exact h2 _ _ _ _ _ hv
    · cases hv; exact ⟨_, rfl⟩
    · cases hv
  · cases hv; exact ⟨_, rfl⟩
  · cases hv
section
variable {op op' op'' : CmpOp} {o o' o'' : Op2} {a b c d : Expr} {f g h i : SE} {pos : Pos}
theorem e_chain3 (hc : Cmp X op o) (hc' : Cmp X op' o') (hc'' : Cmp X op'' o'') (ha : PE X a (rdE X.K X.w f)) (hb : PE X b (rdE X.K X.w g)) (h3 : PE X c (rdE X.K X.w h)) (h4 : PE X d (rdE X.K X.w i)) (hl : lastMarks [op, op', op''] [b, c, d] = false := by rfl) : PE X (.Compare a [op, op', op''] [b, c, d] pos) (rdE X.K X.w (chn3F o o' o'' f g h i)) := by
  obtain ⟨r, p1, p2⟩ := hc.ex
  obtain ⟨r', q1, q2⟩ := hc'.ex
  obtain ⟨r'', t1, t2⟩ := hc''.ex
  exact (pe_chain3 p1 q1 t1 ha hb h3 h4 hl).weak (rd_chain3 hc hc' p2 q2 t2)
theorem t_chain3 (hc : Cmp X op o) (hc' : Cmp X op' o') (hc'' : Cmp X op'' o'') (ha : PE X a (rdE X.K X.w f)) (hb : PE X b (rdE X.K X.w g)) (h3 : PE X c (rdE X.K X.w h)) (h4 : PE X d (rdE X.K X.w i)) (hl : lastMarks [op, op', op''] [b, c, d] = false := by rfl) : PT X (.Compare a [op, op', op''] [b, c, d] pos) (rdT X.K X.w (truF (chn3F o o' o'' f g h i))) := by
  obtain ⟨r, p1, p2⟩ := hc.ex
  obtain ⟨r', q1, q2⟩ := hc'.ex
  obtain ⟨r'', t1, t2⟩ := hc''.ex
  exact (pt_chain3 p1 q1 t1 ha hb h3 h4 hl).weak (rd_test (fun _ _ _ _ e => chn3_bl hc''.bl e) (rd_chain3 hc hc' p2 q2 t2))
end
/-! ### f() -/
theorem e_call0 {n : Nat} {x : Str} {φ : Fx} {p pos : Pos} (C : Cal X.prog X.w X.K X.mg X.base n x [] φ) (hr : Room n X.A) (hg : Gl X x) (hdb : (x == ("__debug__" : Str)) = false := by decide) : PE X (.Call (.Name x p) [] [] pos) (rdE X.K X.w (callF φ nilF)) := by
  obtain ⟨f, fd, G, hm, hk, hb⟩ := C.ex
  refine (pe_call0 G hr hg hm hk hb .nil pass0 hdb).weak fun τ H Q ⟨μ, st, σ, d, st', gd, er, hv, kk⟩ => ?_
  have hv2 : φ [] st = some (d, st') := hv
  show spF X.K X.w 0 φ ([] ++ []) H Q E0
  exact ⟨rfl, μ, st, [], d, st', gd, reps_nil, hv2, kk⟩
/-! ### name = [..], the name also used by an inner block -/
theorem sw_cell {elt : Expr} {gs : List Comprehension} {scope : Scope} {pos py : Pos} {y : Str} {l : Nat} {env : Env} (hy : env.scope.names.lookup y = some .cell) : swapsWith (.ListComp elt gs scope pos) (some (.Name y py)) l env = pure false := by
  have ky : env.kindOf y = some .cell := hy
  unfold swapsWith
  simp only [ky]
  have e : ((some NameKind.cell : Option NameKind) == some NameKind.local) = false := rfl
  rw [e, Bool.and_false, Bool.false_and, Bool.false_and]
end
end Iv

namespace Iv
open PySem L2
/-! ### comprehensions of two clauses, of sets, as functions -/
/-- the same loop, with what stands before it in the list -/
theorem compG_loop {J : It} {g : Tg} {c : ST} {e : SE} {σ0 : Sl} {st1 : Sto} {xs : List D} {n : Nat} (pre : List D) (φ : D → Option D) (hn : st1.length ≤ n) (hz : pre.length + xs.length ≤ LIM) (hJ : ∀ s, Ext st1 s → items J s = some xs)
    (h : ∀ (i : Nat) (x : D), xs[i]? = some x → ∀ st, Ext st1 st → ∃ σ1 st2, g x σ0 = some σ1 ∧ c σ1 st = some ((φ x).isSome, st2) ∧ Ext st st2 ∧ ∀ y, φ x = some y → ∃ st3, e σ1 st2 = some (y, st3) ∧ Ext st2 st3) :
    ∀ (m i : Nat) (s : Sto), Ext st1 s → s[n]? = some (.lst (pre ++ (xs.take i).filterMap φ)) → i ≤ xs.length → xs.length - i < m → ∃ s2, compV J g c e n σ0 m i s = some s2 ∧ Ext st1 s2 ∧ s2[n]? = some (.lst (pre ++ xs.filterMap φ))
  | 0, i, s, _, _, _, hm => by omega
  | m + 1, i, s, hs, ha, hi, hm => by
    unfold compV
    simp only [hJ s hs]
    cases ex : xs[i]? with
    | none =>
      have e2 : i = xs.length := by
        have := List.getElem?_eq_none_iff.mp ex
        omega
      subst e2
      rw [List.take_length] at ha
      exact ⟨s, rfl, hs, ha⟩
    | some x =>
      have hlt := (List.getElem?_eq_some_iff.mp ex).1
      obtain ⟨σ1, s2, e1, e2, x2, e3⟩ := h i x ex s hs
      have ht : (xs.take (i + 1)).filterMap φ = (xs.take i).filterMap φ ++ (φ x).toList := by
        rw [List.take_add_one, ex, List.filterMap_append]
        cases hx : φ x <;> simp [hx]
      cases hx : φ x with
      | none =>
        rw [hx] at e2 ht
        simp only [e1, e2, bnd_some, Option.isSome_none, Bool.false_eq_true, if_false]
        exact compG_loop pre φ hn hz hJ h m (i + 1) _ (hs.trans x2) (by rw [ht, Option.toList_none, List.append_nil]; exact x2.at ha) hlt (by omega)
      | some y =>
        obtain ⟨s3, e4, x3⟩ := e3 y hx
        rw [hx] at e2 ht
        have hs3 := (hs.trans x2).trans x3
        have ha3 := x3.at (x2.at ha)
        have ga : getM s3 n = some (pre ++ (xs.take i).filterMap φ) := getM_of ha3
        have hl : (pre ++ (xs.take i).filterMap φ).length < LIM := by
          have h1 := List.length_filterMap_le φ (xs.take i)
          rw [List.length_take] at h1
          rw [List.length_append]
          exact Nat.lt_of_lt_of_le (by omega) hz
        have hn2 : n < s3.length := (List.getElem?_eq_some_iff.mp ha3).1
        simp only [e1, e2, bnd_some, Option.isSome_some, if_true, e4, ga, hl]
        refine compG_loop pre φ hn hz hJ h m (i + 1) _ (hs3.set hn) ?_ hlt (by omega)
        rw [List.getElem?_set_self hn2, ht, Option.toList_some, List.append_assoc]
theorem comp2_loop {J : It} {g : Tg} {i1 : SJ} {g1 : Tg} {c1 : ST} {e : SE} {vs1 : List Nat} {σ0 : Sl} {st1 : Sto} {xs : List D} (ys : D → List D) (φ : D → D → Option D) (hz : ∀ x ∈ xs, (ys x).length ≤ 1000) (hzz : xs.length ≤ 1000) (hJ : ∀ s, Ext st1 s → items J s = some xs)
    (h : ∀ (i : Nat) (x : D), xs[i]? = some x → ∃ σ1, g x σ0 = some σ1 ∧ ∀ st, Ext st1 st → ∃ J1 st2, i1 σ1 st = some (J1, st2) ∧ Ext st st2 ∧ (∀ s, Ext st1 s → items J1 s = some (ys x)) ∧
      ∀ (j : Nat) (y : D), (ys x)[j]? = some y → ∀ st, Ext st1 st → ∃ σ2 st2, g1 y (wipeD σ1 vs1) = some σ2 ∧ c1 σ2 st = some ((φ x y).isSome, st2) ∧ Ext st st2 ∧ ∀ z, φ x y = some z → ∃ st3, e σ2 st2 = some (z, st3) ∧ Ext st2 st3) :
    ∀ (m i : Nat) (s : Sto), Ext st1 s → s[st1.length]? = some (.lst ((xs.take i).flatMap fun x => (ys x).filterMap (φ x))) → i ≤ xs.length → xs.length - i < m →
      ∃ s2, comp2V J g yesT i1 g1 c1 e vs1 st1.length σ0 m i s = some s2 ∧ Ext st1 s2 ∧ s2[st1.length]? = some (.lst (xs.flatMap fun x => (ys x).filterMap (φ x)))
  | 0, i, s, _, _, _, hm => by omega
  | m + 1, i, s, hs, ha, hi, hm => by
    unfold comp2V
    simp only [hJ s hs]
    cases ex : xs[i]? with
    | none =>
      have e2 : i = xs.length := by
        have := List.getElem?_eq_none_iff.mp ex
        omega
      subst e2
      rw [List.take_length] at ha
      exact ⟨s, rfl, hs, ha⟩
    | some x =>
      have hlt := (List.getElem?_eq_some_iff.mp ex).1
      obtain ⟨σ1, e1, h1⟩ := h i x ex
      obtain ⟨J1, s2, e2, x2, hJ1, h2⟩ := h1 s hs
      have len : ((xs.take i).flatMap fun x => (ys x).filterMap (φ x)).length ≤ i * 1000 := by
        have : ∀ (l : List D) (k : Nat), (∀ x ∈ l, (ys x).length ≤ 1000) → l.length ≤ k → (l.flatMap fun x => (ys x).filterMap (φ x)).length ≤ k * 1000 := by
          intro l
          induction l with
          | nil => intro k _ _; simp
          | cons a l ih =>
            intro k ha hk
            rw [List.flatMap_cons, List.length_append]
            have q1 := List.length_filterMap_le (φ a) (ys a)
            have q2 := ha a List.mem_cons_self
            simp only [List.length_cons] at hk
            have q3 := ih (k - 1) (fun x hx => ha x (List.mem_cons_of_mem _ hx)) (by omega)
            omega
        refine this _ i (fun x hx => hz x (List.mem_of_mem_take hx)) (by rw [List.length_take]; omega)
      obtain ⟨s3, e3, x3, a3⟩ := compG_loop (J := J1) (g := g1) (c := c1) (e := e) (σ0 := wipeD σ1 vs1) (st1 := st1) (xs := ys x) (n := st1.length) ((xs.take i).flatMap fun x => (ys x).filterMap (φ x)) (φ x) (Nat.le_refl _)
        (by have := hz x (List.mem_of_getElem? ex); show _ ≤ 1000000; omega) hJ1 (fun j y hy st hst => h2 j y hy st hst) ((ys x).length + 1) 0 s2 (hs.trans x2) (by simpa using x2.at ha) (Nat.zero_le _) (by omega)
      simp only [e1, yesT, bnd_some, if_true, e2, hJ1 s2 (hs.trans x2), e3]
      refine comp2_loop ys φ hz hzz hJ h m (i + 1) s3 x3 ?_ hlt (by omega)
      rw [a3, List.take_add_one, ex, List.flatMap_append]
      simp
theorem comp2_ok {vs vs1 : List Nat} {i i1 : SJ} {g g1 : Tg} {c1 : ST} {e : SE} {σ : Sl} {st st1 : Sto} {J : It} {xs : List D} (ys : D → List D) (φ : D → D → Option D) (hi : i σ st = some (J, st1)) (hz : ∀ x ∈ xs, (ys x).length ≤ 1000) (hzz : xs.length ≤ 1000) (hJ : ∀ s, Ext st1 s → items J s = some xs)
    (h : ∀ (i : Nat) (x : D), xs[i]? = some x → ∃ σ1, g x (wipeD σ vs) = some σ1 ∧ ∀ st, Ext st1 st → ∃ J1 st2, i1 σ1 st = some (J1, st2) ∧ Ext st st2 ∧ (∀ s, Ext st1 s → items J1 s = some (ys x)) ∧
      ∀ (j : Nat) (y : D), (ys x)[j]? = some y → ∀ st, Ext st1 st → ∃ σ2 st2, g1 y (wipeD σ1 vs1) = some σ2 ∧ c1 σ2 st = some ((φ x y).isSome, st2) ∧ Ext st st2 ∧ ∀ z, φ x y = some z → ∃ st3, e σ2 st2 = some (z, st3) ∧ Ext st2 st3) :
    ∃ s2, comp2F vs vs1 i g yesT i1 g1 c1 e σ st = some (.loc st1.length, s2) ∧ Ext st1 s2 ∧ s2[st1.length]? = some (.lst (xs.flatMap fun x => (ys x).filterMap (φ x))) := by
  obtain ⟨s2, e2, x2, g2⟩ := comp2_loop (σ0 := wipeD σ vs) ys φ hz hzz hJ h (xs.length + 1) 0 (st1 ++ [.lst []]) (Ext.app _) (by simp) (Nat.zero_le _) (by omega)
  refine ⟨s2, ?_, x2, g2⟩
  unfold comp2F
  simp only [hi, bnd_some, hJ st1 Ext.refl, e2, Option.map_some]
/-- the members in the order of their coming -/
def setK (l : List Key) : List Key := l.foldl addK []
theorem mem_addK {ks : List Key} {k j : Key} : j ∈ addK ks k ↔ j ∈ ks ∨ j = k := by
  unfold addK
  split
  · rename_i h
    rw [hasK_iff] at h
    constructor
    · exact .inl
    · rintro (z | rfl)
      · exact z
      · exact h
  · simp
theorem nodup_addK {ks : List Key} {k : Key} (h : ks.Nodup) : (addK ks k).Nodup := by
  unfold addK
  split
  · exact h
  · rename_i z
    rw [hasK_iff] at z
    rw [(List.perm_append_singleton k ks).nodup_iff]
    exact List.nodup_cons.mpr ⟨z, h⟩
theorem len_addK {ks : List Key} {k : Key} : (addK ks k).length ≤ ks.length + 1 := by
  unfold addK
  split <;> simp
theorem mem_fold {l : List Key} : ∀ {ks : List Key} {j : Key}, j ∈ l.foldl addK ks ↔ j ∈ ks ∨ j ∈ l := by
  induction l with
  | nil => simp
  | cons k l ih =>
    intro ks j
    rw [List.foldl_cons, ih, mem_addK, List.mem_cons]
    constructor
    · rintro ((z | z) | z)
      · exact .inl z
      · exact .inr (.inl z)
      · exact .inr (.inr z)
    · rintro (z | z | z)
      · exact .inl (.inl z)
      · exact .inl (.inr z)
      · exact .inr z
theorem nodup_fold {l : List Key} : ∀ {ks : List Key}, ks.Nodup → (l.foldl addK ks).Nodup := by
  induction l with
  | nil => exact fun h => h
  | cons k l ih => exact fun h => ih (nodup_addK h)
theorem len_fold {l : List Key} : ∀ {ks : List Key}, (l.foldl addK ks).length ≤ ks.length + l.length := by
  induction l with
  | nil => simp
  | cons k l ih =>
    intro ks
    rw [List.foldl_cons]
    have := @ih (addK ks k)
    have := @len_addK ks k
    simp only [List.length_cons]
    omega
theorem scomp_loop {J : It} {g : Tg} {c : ST} {e : SE} {σ0 : Sl} {st1 : Sto} {xs : List D} {n : Nat} (φ : D → Option Key) (hn : st1.length ≤ n) (hz : xs.length < 4000) (hJ : ∀ s, Ext st1 s → items J s = some xs)
    (h : ∀ (i : Nat) (x : D), xs[i]? = some x → ∀ st, Ext st1 st → ∃ σ1 st2, g x σ0 = some σ1 ∧ c σ1 st = some ((φ x).isSome, st2) ∧ Ext st st2 ∧ ∀ y, φ x = some y → ∃ st3, e σ1 st2 = some (ofKey y, st3) ∧ Ext st2 st3) :
    ∀ (m i : Nat) (s : Sto), Ext st1 s → s[n]? = some (.set ((setK ((xs.take i).filterMap φ)).map ofKey)) → i ≤ xs.length → xs.length - i < m → ∃ s2, scompV J g c e n σ0 m i s = some s2 ∧ Ext st1 s2 ∧ s2[n]? = some (.set ((setK (xs.filterMap φ)).map ofKey))
  | 0, i, s, _, _, _, hm => by omega
  | m + 1, i, s, hs, ha, hi, hm => by
    unfold scompV
    simp only [hJ s hs]
    cases ex : xs[i]? with
    | none =>
      have e2 : i = xs.length := by
        have := List.getElem?_eq_none_iff.mp ex
        omega
      subst e2
      rw [List.take_length] at ha
      exact ⟨s, rfl, hs, ha⟩
    | some x =>
      have hlt := (List.getElem?_eq_some_iff.mp ex).1
      obtain ⟨σ1, s2, e1, e2, x2, e3⟩ := h i x ex s hs
      have ht : (xs.take (i + 1)).filterMap φ = (xs.take i).filterMap φ ++ (φ x).toList := by
        rw [List.take_add_one, ex, List.filterMap_append]
        cases hx : φ x <;> simp [hx]
      cases hx : φ x with
      | none =>
        rw [hx] at e2 ht
        simp only [e1, e2, bnd_some, Option.isSome_none, Bool.false_eq_true, if_false]
        exact scomp_loop φ hn hz hJ h m (i + 1) _ (hs.trans x2) (by rw [ht, Option.toList_none, List.append_nil]; exact x2.at ha) hlt (by omega)
      | some y =>
        obtain ⟨s3, e4, x3⟩ := e3 y hx
        rw [hx] at e2 ht
        have hs3 := (hs.trans x2).trans x3
        have ha3 := x3.at (x2.at ha)
        have ga : getS s3 n = some ((setK ((xs.take i).filterMap φ)).map ofKey) := getS_of ha3
        have hl : (setK ((xs.take i).filterMap φ)).length < 4000 := by
          have h1 := List.length_filterMap_le φ (xs.take i)
          rw [List.length_take] at h1
          have h2 := @len_fold ((xs.take i).filterMap φ) []
          show (List.foldl addK [] _).length < 4000
          simp only [List.length_nil] at h2
          omega
        have hn2 : n < s3.length := (List.getElem?_eq_some_iff.mp ha3).1
        simp only [e1, e2, bnd_some, Option.isSome_some, if_true, e4, ga, addD_of hl]
        refine scomp_loop φ hn hz hJ h m (i + 1) _ (hs3.set hn) ?_ hlt (by omega)
        rw [List.getElem?_set_self hn2, ht, Option.toList_some]
        unfold setK
        rw [List.foldl_append]
        rfl
theorem scomp_ok {vs : List Nat} {i : SJ} {g : Tg} {c : ST} {e : SE} {σ : Sl} {st st1 : Sto} {J : It} {xs : List D} (φ : D → Option Key) (hi : i σ st = some (J, st1)) (hz : xs.length < 4000) (hJ : ∀ s, Ext st1 s → items J s = some xs)
    (h : ∀ (i : Nat) (x : D), xs[i]? = some x → ∀ st, Ext st1 st → ∃ σ1 st2, g x (wipeD σ vs) = some σ1 ∧ c σ1 st = some ((φ x).isSome, st2) ∧ Ext st st2 ∧ ∀ y, φ x = some y → ∃ st3, e σ1 st2 = some (ofKey y, st3) ∧ Ext st2 st3) :
    ∃ s2, scompF vs i g c e σ st = some (.loc st1.length, s2) ∧ Ext st1 s2 ∧ s2[st1.length]? = some (.set ((setK (xs.filterMap φ)).map ofKey)) := by
  obtain ⟨s2, e2, x2, g2⟩ := scomp_loop (n := st1.length) (σ0 := wipeD σ vs) φ (Nat.le_refl _) hz hJ h (xs.length + 1) 0 (st1 ++ [.set []]) (Ext.app _) (by simp [setK]) (Nat.zero_le _) (by omega)
  refine ⟨s2, ?_, x2, g2⟩
  unfold scompF
  simp only [hi, bnd_some, hJ st1 Ext.refl, e2, Option.map_some]
theorem sortedB_lst {n : Nat} {st : Sto} {xs ys : List D} (h : st[n]? = some (.lst xs)) (e : sortD xs = some ys) : sortedB [.loc n] st = some (.loc st.length, st ++ [.lst ys]) := by
  simp only [sortedB, h, e, Option.map_some]
theorem sortedB_set {n : Nat} {st : Sto} {xs ys : List D} (h : st[n]? = some (.set xs)) (hl : xs.length ≤ LIM) (e : sortD xs = some ys) : sortedB [.loc n] st = some (.loc st.length, st ++ [.lst ys]) := by
  simp only [sortedB, h, hl, if_true, e, Option.map_some]
end Iv

namespace Iv
open PySem L2 PySem.Spec
/-! ### t[lo:hi] of a tuple, the object told: texts may stand in it alone -/
section
variable {X : Cx} {K : PySem.W.Frag} {ww : World}
def rSlN (K : PySem.W.Frag) : V → Option Int → Option Int → Hp → VK → Prop := fun x lo hi H Q => ∃ a xs, x = .ref a ∧ SqT K H a xs ∧
  (HT.sIx xs.length 0 lo = 0 ∧ HT.sIx xs.length xs.length hi = xs.length → Q (.ref a) H) ∧ (¬ (HT.sIx xs.length 0 lo = 0 ∧ HT.sIx xs.length xs.length hi = xs.length) → ∀ (p : Addr) (o : Obj), H p = none → o.cls = .type "tuple" → o.dict = none → Q (.ref p) (upd H p (.frz o (.tup (cutV xs lo hi)))))
theorem sl_tupN : SlR X (rSlN X.K) := by
  intro pins s σ H x v vl vu lo hi sl Q I rx hs pl pu h
  obtain ⟨a, xs, rfl, hx, q1, q2⟩ := h
  cases rx
  obtain ⟨its, r, ht, hz⟩ := I.tuple hx
  have hlen : its.toArray.size = xs.length := by rw [List.size_toArray]; exact r.length.symm
  refine ⟨"tuple", _, PyProof.Rows.slot_tuple_getitem.lookup, ht.typeIs, ?_⟩
  by_cases hw : HT.sIx xs.length 0 lo = 0 ∧ HT.sIx xs.length xs.length hi = xs.length
  · exact getItem_tuple_whole ht hs pl pu (by rw [hlen]; exact hw) ⟨.ref a, H, I, rfl, q1 hw⟩
  · refine HT.getItem_tuple_cut ht hs pl pu (by rw [hlen]; exact hw) ?_ (by rw [hlen]; exact hz)
    rw [hlen]
    exact ⟨.ref s.heap.objs.size, _, I.laid (t' := s.toks) (o := .frz _ (.tup (cutV xs lo hi))) (fun b ob q => Heap.get?_push_of_some _ q) (Nat.le_refl _) ⟨Heap.get?_push_size _ rfl, Nat.le_trans (cutV_length xs lo hi) hz, _, (r.drop (HT.sIx xs.length 0 lo)).take (HT.sIx xs.length xs.length hi - HT.sIx xs.length 0 lo), ⟨_, Heap.get?_push_size _ rfl, rfl, _, rfl⟩⟩, rfl, q2 hw _ _ (I.hok.fresh (Nat.le_refl _)) rfl rfl⟩
def cutN : OpS := fun x lo hi st => match x with
  | .tup xs => some (.tup (cutD xs lo hi), st)
  | x => cutO x lo hi st
@[simp] theorem cutN_tup {xs : List D} {lo hi : Option Int} {st : Sto} : cutN (.tup xs) lo hi st = some (.tup (cutD xs lo hi), st) := rfl
theorem ok_cutN : OkS K ww (fun x lo hi H Q => (fun x lo hi H Q => rSlL K x lo hi H Q ∨ rSlA K x lo hi H Q ∨ rSlS x lo hi H Q) x lo hi H Q ∨ rSlN K x lo hi H Q) cutN := by
  intro H μ st x vx lo hi d st' Q g rx hv k
  cases x with
  | tup xs =>
    simp only [cutN_tup] at hv
    cases hv
    have rx' := rx
    simp only [Rep] at rx
    obtain ⟨p, ws, rfl, ⟨s, _⟩, rs⟩ := rx
    refine .inr ⟨p, ws, rfl, s, fun ⟨e1, e2⟩ => ?_, fun _ => new_tup g (cut_reps rs lo hi) k⟩
    have e : cutD xs lo hi = xs := by
      unfold cutD
      rw [rs.len, e1, e2, List.drop_zero, Nat.sub_zero, ← rs.len, List.take_length]
    rw [e] at k
    exact here k g rx'
  | _ => exact .inl (ok_cut _ _ _ _ _ _ _ _ _ _ g rx hv k)
theorem e_sliceN {e : Expr} {lo hi : Option Expr} {p2 pos : Pos} {f : SE} {l h : SO} (he : PE X e (rdE X.K X.w f)) (hl : PO X lo (rdO X.K X.w l)) (hh : PO X hi (rdO X.K X.w h)) :
    PE X (.Subscript e (.Slice lo hi none p2) pos) (rdE X.K X.w (slF cutN f l h)) := se_slice (SlR.or (SlR.or sl_list (SlR.or sl_tupA sl_str)) sl_tupN) ok_cutN he hl hh
end
end Iv

/-! enumerate of a tuple -/
namespace PySem
open Sem (wp)
theorem meets_enum_tup (l : Addr) (items : Array Value) :
    Meets (Builtin.«enumerate.__new__» ⟨[.type "enumerate", .ref l], []⟩) (fun _ R s => s.heap.IsTuple l items ∧
      R (.ok (.ret (.ref (s.heap.push { cls := .type "tuple_iterator", data := .fields #[.ref l, .int 0 0] }).objs.size)))
        { s with heap := (s.heap.push { cls := .type "tuple_iterator", data := .fields #[.ref l, .int 0 0] }).push { cls := .type "enumerate", data := .fields #[.none, .bool false, .ref s.heap.objs.size, rawInt 0, .none, .none] } }) :=
  .of_wp fun prog w A R s h => by
    obtain ⟨hp, g, d, tk, os⟩ := s; obtain ⟨hl, h⟩ := h
    have hsub := sub_enumerate
    have q1 : ∀ {A' : Around} {E : Value → Shared → Prop} {Q : Value → Shared → Prop}, Q (.ref hp.objs.size) ⟨hp.push { cls := .type "tuple_iterator", data := .fields #[.ref l, .int 0 0] }, g, d, tk, os⟩ → wpAny (model prog w) A' (pyIter (.ref l)) Q E ⟨hp, g, d, tk, os⟩ :=
      fun q => wpAny_pyIter_tuple (s := ⟨hp, g, d, tk, os⟩) hl q
    wp_walk using q1
    refine wpAny_stack_any fun st => wpAny_pure ?_
    split
    · rename_i c _ _ _ _ _
      cases (c == Value.type "enumerate")
      · wp_walk using q1
        exact ⟨_, rfl, h⟩
      · wp_walk using q1
        exact ⟨_, rfl, h⟩
    · wp_walk using q1
      exact ⟨_, rfl, h⟩
section
variable {prog : Program} {w : World} {A : Around} {E : Value → Shared → Prop} {s : Shared}
theorem call_enum_tup {l : Addr} {items : Array Value} {Q : Value → Shared → Prop} (hL : s.heap.IsTuple l items)
    (h : ∀ h', IsEnum h' (s.heap.objs.size + 1) s.heap.objs.size 0 .none → h'.IsTupleIter s.heap.objs.size l 0 → h'.objs.size = s.heap.objs.size + 2 →
      (∀ b o, s.heap.get? b = some o → h'.get? b = some o) → Q (.ref (s.heap.objs.size + 1)) { s with heap := h' }) :
    wpAny (model prog w) A (call (.type "enumerate") [.ref l]) Q E s := by
  refine callType_new F.called_enumerate (by decide) (F.typeCall_enumerate_1 _) (F.newCall_enumerate_1 _) (fun obj => F.args_object_init_2 obj _) F.entry_enumerate_new
    (meets_enum_tup l items) ⟨hL, ?_⟩
  have hz : (s.heap.push { cls := .type "tuple_iterator", data := .fields #[.ref l, .int 0 0] }).objs.size = s.heap.objs.size + 1 := Heap.size_push ..
  show _ ∧ _
  rw [hz]
  have he : IsEnum ((s.heap.push { cls := .type "tuple_iterator", data := .fields #[.ref l, .int 0 0] }).push
      { cls := .type "enumerate", data := .fields #[.none, .bool false, .ref s.heap.objs.size, rawInt 0, .none, .none] }) (s.heap.objs.size + 1) s.heap.objs.size 0 .none := by
    have := Heap.get?_push_size (s.heap.push { cls := .type "tuple_iterator", data := .fields #[.ref l, .int 0 0] })
      (o := { cls := .type "enumerate", data := .fields #[.none, .bool false, .ref s.heap.objs.size, rawInt 0, .none, .none] }) rfl
    rw [hz] at this; exact this
  refine ⟨⟨_, he, rfl⟩, h _ he ⟨_, Heap.get?_push_of_some _ (Heap.get?_push_size _ rfl), rfl, rfl⟩ (by rw [Heap.size_push, hz]) fun b o x => Heap.get?_push_of_some _ (Heap.get?_push_of_some _ x)⟩
end
/-- a tuple iterator that is done -/
theorem draws_end {prog : Program} {w : World} {A : Around} (hh : A.handled = none) (it t : Addr) (items : Array Value) (i : Nat) (hx : items[i]? = none) :
    Draws prog w A it [it, t] 0 (fun _ _ => False) (fun _ h => h.IsTupleIter it t i ∧ h.IsTuple t items) where
  live := fun _ _ st => let ⟨o, ho, _⟩ := st.1; ⟨o, ho⟩
  frame := fun _ _ _ st hk => ⟨st.1.at fun o e => hk it (by simp) o e, st.2.at fun o e => hk t (by simp) o e⟩
  item := fun i s Q E hi st hQ => absurd hi (Nat.not_lt_zero _)
  done := fun s Q E st hE => wpAny_nextOf_tuple_end hh st.1 st.2 hx hE
end PySem
namespace L2
open PySem PySem.Spec PyProof.Rows
/-- the tuple at a, each item in a new pair -/
def IteT (K : PySem.W.Frag) (a : Addr) : It :=
  ⟨fun i H => ∃ (xs : List V) (x : V), SqT K H a xs ∧ xs[i]? = some x, fun i H v H' => ∃ T x, v = .ref T ∧ H T = none ∧ H' = upd H T (.tup [.int (i : Nat), x]) ∧ ∀ xs, SqT K H a xs → xs[i]? = some x, fun i H => ∃ xs : List V, SqT K H a xs ∧ xs.length ≤ i⟩
theorem turn_enumT {P : Program} {w : World} {K : PySem.W.Frag} {elts : List Expr} {kk : Nat} {tpos : Pos} (a e it : Addr) :
    Turn P w K (.Tuple elts kk tpos) (IteT K a) [e, it] e (fun i h => (∃ old, IsEnum h e it ((i : Nat) : Int) old) ∧ h.IsTupleIter it a i ∧ e ≠ it ∧ a ≠ it ∧ e ≠ a) where
  mem := by simp
  obj := fun i h st b hb => by
    obtain ⟨⟨old, he⟩, ⟨o, ho, hc, hd⟩, _⟩ := st
    have e' : b = e ∨ b = it := by simpa using hb
    rcases e' with z | z
    · rw [z]; exact ⟨_, he, fun v q => nomatch q⟩
    · rw [z]; exact ⟨o, ho, fun v q => by rw [hd] at q; cases q⟩
  keep := fun i h h' st k => let ⟨⟨old, he⟩, hi, hne⟩ := st; ⟨⟨old, k e (by simp) _ he⟩, hi.at fun o q => k it (by simp) o q, hne⟩
  item := by
    intro X hP hw hK hc i pins s σ H E I hf st hg
    subst hP hw hK
    obtain ⟨⟨old, he⟩, hit, hne, hai, hea⟩ := st
    obtain ⟨xs, x, hq, hx⟩ := hg
    obtain ⟨its, rv, p, hz⟩ := I.tuple hq
    obtain ⟨u, hu, ru⟩ := rv.get hx
    have hel : e < s.heap.objs.size := Heap.lt_size he
    have hil : it < s.heap.objs.size := by obtain ⟨_, q, _⟩ := hit; exact Heap.lt_size q
    have D := Draws.tuple (prog := X.prog) (w := X.w) (A := X.A.in1) (I.ok.hd hc) it a hai its.toArray
    have hlt : i < its.toArray.size := by
      rw [List.size_toArray]
      exact (List.getElem?_eq_some_iff.mp hu).1
    refine wpAny_pyNext_enum_itemD D he ⟨hit, show s.heap.IsTuple a its.toArray from p⟩ hlt hne (by simp [hne, hea]) fun y h' tk hy ho hit' hT hsz hk => ?_
    have hyu : y = u := by
      have h1 : its[i]? = some y := by simpa using hy
      rw [hu] at h1
      exact (Option.some.inj h1).symm
    subst hyu
    refine ⟨_, rfl, wpAny_letOwnedTupleGo_enum (s := { s with heap := h', toks := tk + 1 }) ho fun h'' he' sb => ?_⟩
    have hT2 : h''.get? s.heap.objs.size = some { cls := .type "tuple", data := .seq #[.int i tk, y] } := (sb.2 _ (Nat.ne_of_gt hel)).trans hT
    have new : ObjOk X.prog X.w (upd H s.heap.objs.size (.tup [.int (i : Nat), x])) h'' s.heap.objs.size (.tup [.int (i : Nat), x]) :=
      ⟨by show 2 ≤ sizeLine; decide, [.int i tk, y], .cons ⟨_, rfl⟩ (.cons ru .nil), ⟨_, hT2, rfl, _, rfl⟩⟩
    have I1 : Inv X pins σ (upd H s.heap.objs.size (.tup [.int (i : Nat), x])) { s with heap := h'', toks := tk + 1 } :=
      I.turnedNew (ch := [e, it]) (fun b ob hb q => (sb.2 b (fun z => hb (by simp [z]))).trans (hk b ob (fun z => hb (by simp [z])) (fun z => hb (by simp [z])) q)) hf (Nat.le_refl _) new
    refine ⟨.ref s.heap.objs.size, _, I1, rfl, ⟨_, x, rfl, I.hok.fresh (Nat.le_refl _), rfl, fun ys hy => by rw [I.tuple_inj hy hq]; exact hx⟩, ⟨⟨y, ?_⟩, hit'.1.at fun o q => (sb.2 it (Ne.symm hne)).trans q, hne, hai, hea⟩, fun b hb => ?_⟩
    · have e1 : ((i + 1 : Nat) : Int) = (i : Int) + 1 := by omega
      rw [e1]; exact he'
    · have hb' : b < s.heap.objs.size := by
        have e' : b = e ∨ b = it := by simpa using hb
        rcases e' with z | z
        · rw [z]; exact hel
        · rw [z]; exact hil
      rw [upd_ne (Nat.ne_of_lt hb')]
      exact (hf b hb).1
  done := by
    intro X hP hw hK hc i pins s σ H E I hf st hg
    subst hP hw hK
    obtain ⟨⟨old, he⟩, hit, hne, hai, hea⟩ := st
    obtain ⟨xs, hq, hx⟩ := hg
    obtain ⟨its, rv, p, hz⟩ := I.tuple hq
    obtain ⟨f0, f1, f2, f3, f4, f5⟩ := hf it (by simp)
    have hl := rv.length
    exact wpAny_pyNext_enum_endD (draws_end (prog := X.prog) (w := X.w) (A := X.A.in1) (I.ok.hd hc) it a its.toArray i (by simp; omega)) he ⟨hit, show s.heap.IsTuple a its.toArray from p⟩ fun h' eb => ⟨rfl, I.turned (t' := s.toks) (fun b o hb q => eb b o hb q) f0 f1 f3 f4 f5⟩
  self := fun A i s Q E st h => let ⟨⟨_, he⟩, _⟩ := st; wpAny_pyIter_enum he h
def iEnumU (K : PySem.W.Frag) (ta : TA) : TI := fun σ H R => ta σ H fun vs H1 => ∃ a xs, vs = [.ref a] ∧ ((SqL K H1 a xs ∧ R (Ite K a) H1) ∨ (SqT K H1 a xs ∧ R (IteT K a) H1))
theorem pi_enumU {X : Cx} {e : Expr} {ta : TA} {p pos tpos : Pos} {elts : List Expr} {kk : Nat} (hg : Gl X "enumerate") (hm : X.mg "enumerate" = none) (ha : PA X [e] ta) (hs : starEach [e] X.env = [(false, eval e X.env)] := by rfl) :
    PI X (.Tuple elts kk tpos) (.Call (.Name "enumerate" p) [e] [] pos) (iEnumU X.K ta) := by
  refine ⟨fun pins s σ H R I h => ?_⟩
  refine PyProof.Rows.Call_ (ld_blt I hg hm boot_enumerate (PyProof.Rows.callWith_type1 (thn (ha.run pos pins s σ H _ I h) fun us s1 ⟨vs, H1, I1, r1, q1⟩ => ?_) hs rfl))
  obtain ⟨a, xs, ex, q⟩ := q1
  subst ex
  cases r1 with
  | cons r rr =>
    cases rr
    cases r
    have fpb : ∀ b, b = s1.heap.objs.size + 1 ∨ b = s1.heap.objs.size → FpOk X pins H1 b := fun b e' => by
      have hle : s1.heap.objs.size ≤ b := by
        rcases e' with z | z
        · rw [z]; exact Nat.le_add_right _ _
        · rw [z]; exact Nat.le_refl _
      exact I1.fpOk hle (I1.hok.fresh hle)
    rcases q with ⟨hq, q⟩ | ⟨hq, q⟩
    · obtain ⟨its, rv, p', hz⟩ := I1.list hq
      refine call_enumerate_list p'.isList fun h' he hit hsz hk => wpAny_pyIter_enum he ?_
      have I2 : Inv X pins σ H1 { s1 with heap := h' } := I1.kept (t' := s1.toks) hk
      refine ⟨s1.heap.objs.size + 1, [s1.heap.objs.size + 1, s1.heap.objs.size], _, _, H1, rfl, I2, turn_enum a (s1.heap.objs.size + 1) s1.heap.objs.size, ⟨⟨.none, he⟩, hit, Nat.succ_ne_self _⟩, fun b hb => fpb b (by simpa using hb), q⟩
    · obtain ⟨its, rv, p', hz⟩ := I1.tuple hq
      have hal : a < s1.heap.objs.size := by
        have p2 : s1.heap.IsTuple a its.toArray := p'
        obtain ⟨o, ho, _⟩ := p2
        exact Heap.lt_size ho
      refine call_enum_tup (show s1.heap.IsTuple a its.toArray from p') fun h' he hit hsz hk => wpAny_pyIter_enum he ?_
      have I2 : Inv X pins σ H1 { s1 with heap := h' } := I1.kept (t' := s1.toks) hk
      refine ⟨s1.heap.objs.size + 1, [s1.heap.objs.size + 1, s1.heap.objs.size], _, _, H1, rfl, I2, turn_enumT a (s1.heap.objs.size + 1) s1.heap.objs.size, ⟨⟨.none, he⟩, hit, Nat.succ_ne_self _, Nat.ne_of_lt hal, Nat.ne_of_gt (Nat.lt_succ_of_lt hal)⟩, fun b hb => fpb b (by simpa using hb), q⟩
end L2
namespace Iv
open PySem L2 PySem.Spec
section
variable {X : Cx} {K : PySem.W.Frag} {ww : World}
def enmU (f : SA) : SJ := fun σ st => bnd (f σ st) fun ds s1 => match ds with
  | [.loc n] => (getL s1 n).map fun _ => (.enm n, s1)
  | [.tup xs] => some (.cns (enumD 0 xs), s1)
  | _ => none
@[simp] theorem enmU_eq {f : SA} {σ : Sl} {st : Sto} : enmU f σ st = bnd (f σ st) fun ds s1 => match ds with
  | [.loc n] => (getL s1 n).map fun _ => (.enm n, s1)
  | [.tup xs] => some (.cns (enumD 0 xs), s1)
  | _ => none := rfl
theorem si_enumU {e : Expr} {f : SA} {p pos tpos : Pos} {elts : List Expr} {kk : Nat} (hg : Gl X "enumerate") (hm : X.mg "enumerate" = none) (ha : PA X [e] (rdA X.K X.w f)) (hs : starEach [e] X.env = [(false, eval e X.env)] := by rfl) :
    PI X (.Tuple elts kk tpos) (.Call (.Name "enumerate" p) [e] [] pos) (rdI X.K X.w (enmU f)) := ⟨fun pins s τ H R I hw => by
  obtain ⟨μ, st, σ, J, st', gd, er, hv, k⟩ := hw
  obtain ⟨ds, s1, h1, hv⟩ := bnd_eq hv
  split at hv
  · rename_i n
    refine (si_enum hg hm ha hs).run pins s τ H R I ⟨μ, st, σ, J, st', gd, er, ?_, k⟩
    show bnd (f σ st) _ = _
    rw [h1]
    exact hv
  · rename_i xs
    cases hv
    refine (pi_enumU hg hm ha hs).run pins s τ H R I ⟨μ, st, σ, _, _, gd, er, h1, fun μ1 H1 vs g1 d1 r1 => ?_⟩
    obtain ⟨v, rfl, rv⟩ := reps1 r1
    simp only [Rep] at rv
    obtain ⟨p, us, rfl, ⟨su, _⟩, ru⟩ := rv
    refine ⟨p, us, rfl, .inr ⟨su, k μ1 H1 _ g1 d1 fun μ2 H2 st2 zs g2 d2 e2 => ?_⟩⟩
    cases e2
    have su2 := g2.1.sqT su
    have ru2 := ru.m g2
    refine ⟨fun i hi => ⟨us, su2, by rw [← ru2.len, ← enumD_len xs 0]; exact hi⟩, fun i d hd => ?_⟩
    rw [enumD_get] at hd
    cases e4 : xs[i]? with
    | none => rw [e4] at hd; cases hd
    | some z =>
      rw [e4] at hd
      cases hd
      obtain ⟨v, hv1, rv⟩ := ru2.get e4
      refine ⟨⟨us, v, su2, hv1⟩, fun x H3 ⟨T, y, e5, e6, e7, e8⟩ => ?_⟩
      subst e5 e7
      have e9 := e8 us su2
      rw [hv1] at e9
      cases e9
      have gt : Gr H2 μ2 (upd H2 T (.tup [.int (i : Nat), v])) μ2 := gr_tup e6
      refine ⟨same_upd e6, rep_tup (.inl (.inl upd_same)) (fun z => by cases z) (reps_cons ?_ (reps_cons (rv.m gt) reps_nil))⟩
      simp only [Rep, Nat.zero_add]
  · cases hv⟩
end
end Iv

namespace Lw
open PySem L2 Iv
def c_NAME_AT : List (Str × D) := [("get", .int 2), ("put", .int 1), ("add", .int 1), ("lock", .int 1), ("unlock", .int 1), ("wait", .int 1), ("notify", .int 1), ("notifyall", .int 1), ("send", .int 1), ("take", .int 2)]
def c_INNER : D := .tup [.str "let", .str "get", .str "put", .str "add", .str "check"]
def b_thing_of  : SS :=
  (seqS (asgS (nmG 1) (appF (dgetO c_NAME_AT) (consF (binF ixO (varF 0) (cstF (.int 0))) nilF)))
  (retS (ifF (cmpT (isNO false) (varF 1) (cstF .non)) (cstF .non) (binF ixO (varF 0) (varF 1)))))
def f_thing_of  : Fx := runF 2 1 (b_thing_of )
def b_spans (p_thing_of : Fx) (p__can_be_guarded : Fx) : SS :=
  (seqS (asgS (nmG 3) (binF ixO (binF ixO (varF 0) (cstF (.int 1))) (varF 1)))
  (seqS (asgS (nmG 4) (compF [5, 6] (enmU (consF (varF 3) nilF)) (tupG [5, 6]) (cmpT (eqO false) (callF p_thing_of (consF (varF 6) nilF)) (varF 2)) (varF 5)))
  (seqS (asgS (nmG 7) (comp2F [8, 9] [9] (anyI (varF 4)) (nmG 8) yesT (anyI (varF 4)) (nmG 9) (cmpT leO (varF 8) (varF 9)) (tupF (consF (varF 8) (consF (varF 9) nilF)))))
  (retS (compF [10] (anyI (varF 7)) (nmG 10) (truF (callF p__can_be_guarded (consF (varF 3) (consF (varF 10) nilF)))) (varF 10))))))
def f_spans (p_thing_of : Fx) (p__can_be_guarded : Fx) : Fx := runF 11 3 (b_spans p_thing_of p__can_be_guarded)
def b__can_be_guarded  : SS :=
  (seqS (asgS (tupG [2, 3]) (varF 1))
  (seqS (asgS (nmG 4) (compF [5] (anyI (slF cutO (varF 0) (someO (varF 2)) (someO (binF addO (varF 3) (cstF (.int 1)))))) (nmG 5) yesT (binF (inO false) (binF ixO (varF 5) (cstF (.int 0))) (cstF c_INNER))))
  (seqS (asgS (nmG 6) (compF [5] (anyI (varF 0)) (nmG 5) (cmpT (eqO false) (binF ixO (varF 5) (cstF (.int 0))) (cstF (.str "go"))) (binF ixO (varF 5) (cstF (.int 1)))))
  (retS (andF (appF (anyO true) (consF (varF 4) nilF)) (notF (appF (anyO false) (consF (compF [7] (anyI (varF 6)) (nmG 7) yesT (chnF ltO leO (varF 2) (varF 7) (varF 3))) nilF))))))))
def f__can_be_guarded  : Fx := runF 8 2 (b__can_be_guarded )
def b__law_cell  : SS :=
  (seqS (ifS (cmpT ltO (varF 1) (appF lenO (consF (varF 0) nilF))) (retS (binF ixO (varF 0) (varF 1))) nxS)
  (retS (cstF (.int 0))))
def f__law_cell  : Fx := runF 2 2 (b__law_cell )
def b__law_digits  : SS :=
  (seqS (asgS (nmG 3) (lstF nilF))
  (seqS (ifS (cmpT ltO (varF 0) (cstF (.int 0))) (asgS (nmG 0) (binF subO (unF negO (cstF (.int 1))) (varF 0))) nxS)
  (seqS (ifS (cmpT geO (varF 0) (binF powO (cstF (.int 10)) (cstF (.int 18)))) (forS (rngI1 (consF (cstF (.int 60)) nilF)) (nmG 4) (ifS (andT (cmpT gtO (varF 0) (cstF (.int 0))) (cmpT ltO (appF lenO (consF (varF 3) nilF)) (varF 2))) (seqS (exS (bmF "list" appendO (varF 3) (consF (binF modO (appF intOf (consF (varF 0) nilF)) (cstF (.int 1000))) nilF)))
  (asgS (nmG 0) (binF fdivO (varF 0) (cstF (.int 1000))))) nxS)) (seqS (asgS (nmG 5) (binF modO (appF intOf (consF (binF addO (binF addO (binF mulO (varF 0) (cstF (.int 48271))) (binF mulO (varF 1) (cstF (.int 69621)))) (cstF (.int 11))) nilF)) (cstF (.int 2147483647))))
  (forS (rngI1 (consF (varF 2) nilF)) (nmG 4) (seqS (asgS (nmG 5) (binF modO (appF intOf (consF (binF addO (binF addO (binF mulO (varF 5) (cstF (.int 16807))) (binF mulO (cstF (.int 7)) (varF 4))) (cstF (.int 1))) nilF)) (cstF (.int 2147483647))))
  (exS (bmF "list" appendO (varF 3) (consF (binF modO (appF intOf (consF (binF fdivO (varF 5) (cstF (.int 997))) nilF)) (cstF (.int 1000))) nilF)))))))
  (retS (varF 3)))))
def f__law_digits  : Fx := runF 6 3 (b__law_digits )
def b__law_padded (p__law_digits : Fx) : SS :=
  (seqS (asgS (nmG 2) (callF p__law_digits (consF (varF 0) (consF (varF 1) (consF (cstF (.int 20)) nilF)))))
  (seqS (forS (rngI1 (consF (cstF (.int 20)) nilF)) (nmG 3) (exS (bmF "list" appendO (varF 2) (consF (varF 3) nilF))))
  (retS (varF 2))))
def f__law_padded (p__law_digits : Fx) : Fx := runF 4 2 (b__law_padded p__law_digits)
def b__law_things  : SS :=
  (retS (tupF (consF (tupF (consF (cstF (.str "lock")) (consF (cstF (.str "m")) nilF))) (consF (tupF (consF (cstF (.str "var")) (consF (cstF (.str "x")) (consF (cstF (.int 0)) nilF)))) (consF (tupF (consF (cstF (.str "cond")) (consF (cstF (.str "w")) (consF (cstF (.str "m")) nilF)))) (consF (tupF (consF (cstF (.str "queue")) (consF (cstF (.str "q")) (consF (cstF (.int 1)) nilF)))) (consF (tupF (consF (cstF (.str "var")) (consF (cstF (.str "y")) (consF (cstF (.int 1)) nilF)))) (consF (tupF (consF (cstF (.str "lock")) (consF (cstF (.str "n")) nilF))) nilF))))))))
def f__law_things  : Fx := runF 0 0 (b__law_things )
def b__law_piece  : SS :=
  (seqS (asgS (nmG 2) (tupF (consF (cstF (.str "op")) (consF (cstF (.str "+")) (consF (tupF (consF (cstF (.str "reg")) (consF (cstF (.str "a")) nilF))) (consF (tupF (consF (cstF (.str "num")) (consF (cstF (.int 1)) nilF))) nilF))))))
  (seqS (asgS (nmG 3) (tupF (consF (cstF (.str "op")) (consF (cstF (.str "<")) (consF (tupF (consF (cstF (.str "reg")) (consF (cstF (.str "a")) nilF))) (consF (tupF (consF (cstF (.str "num")) (consF (cstF (.int 2)) nilF))) nilF))))))
  (seqS (asgS (nmG 4) (lstF (consF (lstF (consF (tupF (consF (cstF (.str "get")) (consF (cstF (.str "a")) (consF (cstF (.str "x")) nilF)))) (consF (tupF (consF (cstF (.str "put")) (consF (cstF (.str "x")) (consF (varF 2) nilF)))) nilF))) (consF (lstF (consF (tupF (consF (cstF (.str "add")) (consF (cstF (.str "x")) (consF (tupF (consF (cstF (.str "num")) (consF (cstF (.int 1)) nilF))) nilF)))) nilF)) (consF (lstF (consF (tupF (consF (cstF (.str "put")) (consF (cstF (.str "x")) (consF (tupF (consF (cstF (.str "num")) (consF (cstF (.int 2)) nilF))) nilF)))) nilF)) (consF (lstF (consF (tupF (consF (cstF (.str "get")) (consF (cstF (.str "b")) (consF (cstF (.str "y")) nilF)))) nilF)) (consF (lstF (consF (tupF (consF (cstF (.str "lock")) (consF (cstF (.str "m")) nilF))) (consF (tupF (consF (cstF (.str "add")) (consF (cstF (.str "y")) (consF (tupF (consF (cstF (.str "num")) (consF (cstF (.int 1)) nilF))) nilF)))) (consF (tupF (consF (cstF (.str "unlock")) (consF (cstF (.str "m")) nilF))) nilF)))) (consF (lstF (consF (tupF (consF (cstF (.str "lock")) (consF (cstF (.str "m")) nilF))) (consF (tupF (consF (cstF (.str "lock")) (consF (cstF (.str "n")) nilF))) nilF))) (consF (lstF (consF (tupF (consF (cstF (.str "lock")) (consF (cstF (.str "n")) nilF))) (consF (tupF (consF (cstF (.str "lock")) (consF (cstF (.str "m")) nilF))) nilF))) (consF (lstF (consF (tupF (consF (cstF (.str "lock")) (consF (cstF (.str "m")) nilF))) (consF (tupF (consF (cstF (.str "wait")) (consF (cstF (.str "w")) nilF))) (consF (tupF (consF (cstF (.str "unlock")) (consF (cstF (.str "m")) nilF))) nilF)))) (consF (lstF (consF (tupF (consF (cstF (.str "notify")) (consF (cstF (.str "w")) nilF))) nilF)) (consF (lstF (consF (tupF (consF (cstF (.str "lock")) (consF (cstF (.str "m")) nilF))) (consF (tupF (consF (cstF (.str "notifyall")) (consF (cstF (.str "w")) nilF))) (consF (tupF (consF (cstF (.str "unlock")) (consF (cstF (.str "m")) nilF))) nilF)))) (consF (lstF (consF (tupF (consF (cstF (.str "send")) (consF (cstF (.str "q")) (consF (tupF (consF (cstF (.str "num")) (consF (cstF (.int 3)) nilF))) nilF)))) nilF)) (consF (lstF (consF (tupF (consF (cstF (.str "take")) (consF (cstF (.str "a")) (consF (cstF (.str "q")) nilF)))) nilF)) (consF (lstF (consF (tupF (consF (cstF (.str "get")) (consF (cstF (.str "a")) (consF (cstF (.str "x")) nilF)))) (consF (tupF (consF (cstF (.str "check")) (consF (varF 3) nilF))) nilF))) (consF (lstF (consF (tupF (consF (cstF (.str "begin")) nilF)) (consF (tupF (consF (cstF (.str "get")) (consF (cstF (.str "a")) (consF (cstF (.str "x")) nilF)))) (consF (tupF (consF (cstF (.str "put")) (consF (cstF (.str "y")) (consF (varF 2) nilF)))) (consF (tupF (consF (cstF (.str "end")) nilF)) nilF))))) (consF (lstF (consF (tupF (consF (cstF (.str "unlock")) (consF (cstF (.str "m")) nilF))) nilF)) (consF (lstF (consF (tupF (consF (cstF (.str "add")) (consF (cstF (.str "y")) (consF (tupF (consF (cstF (.str "num")) (consF (cstF (.int 99)) nilF))) nilF)))) nilF)) (consF (lstF (consF (tupF (consF (cstF (.str "let")) (consF (cstF (.str "a")) (consF (varF 2) nilF)))) nilF)) (consF (lstF (consF (tupF (consF (cstF (.str "go")) (consF (binF addO (varF 1) (cstF (.int 2))) (consF (tupF (consF (cstF (.str "reg")) (consF (cstF (.str "a")) nilF))) nilF)))) (consF (tupF (consF (cstF (.str "put")) (consF (cstF (.str "y")) (consF (varF 2) nilF)))) nilF))) (consF (lstF (consF (tupF (consF (cstF (.str "begin")) nilF)) (consF (tupF (consF (cstF (.str "add")) (consF (cstF (.str "x")) (consF (tupF (consF (cstF (.str "num")) (consF (cstF (.int 1)) nilF))) nilF)))) (consF (tupF (consF (cstF (.str "add")) (consF (cstF (.str "y")) (consF (tupF (consF (cstF (.str "num")) (consF (cstF (.int 1)) nilF))) nilF)))) (consF (tupF (consF (cstF (.str "end")) nilF)) nilF))))) (consF (lstF (consF (tupF (consF (cstF (.str "put")) (consF (cstF (.str "y")) (consF (tupF (consF (cstF (.str "reg")) (consF (cstF (.str "a")) nilF))) nilF)))) nilF)) (consF (lstF (consF (tupF (consF (cstF (.str "stop")) nilF)) nilF)) (consF (lstF (consF (tupF (consF (cstF (.str "go")) (consF (cstF (.int 0)) (consF (cstF .non) nilF)))) nilF)) (consF (lstF (consF (tupF (consF (cstF (.str "go")) (consF (cstF (.int 0)) (consF (tupF (consF (cstF (.str "reg")) (consF (cstF (.str "a")) nilF))) nilF)))) nilF)) (consF (lstF (consF (tupF (consF (cstF (.str "go")) (consF (cstF (.int 1)) (consF (tupF (consF (cstF (.str "num")) (consF (cstF (.int 1)) nilF))) nilF)))) (consF (tupF (consF (cstF (.str "get")) (consF (cstF (.str "a")) (consF (cstF (.str "x")) nilF)))) nilF))) nilF))))))))))))))))))))))))))
  (retS (binF ixO (varF 4) (binF modO (appF intOf (consF (varF 0) nilF)) (cstF (.int 24))))))))
def f__law_piece  : Fx := runF 5 2 (b__law_piece )
def b__law_longer (p__law_padded : Fx) (p__law_cell : Fx) (p__law_piece : Fx) (p__law_things : Fx) : SS :=
  (seqS (asgS (nmG 1) (lstF nilF))
  (seqS (forS (rngI1 (consF (cstF (.int 2)) nilF)) (nmG 2) (seqS (asgS (nmG 3) (callF p__law_padded (consF (callF p__law_cell (consF (varF 0) (consF (varF 2) nilF))) (consF (varF 2) nilF))))
  (seqS (asgS (nmG 4) (lstF nilF))
  (seqS (forS (rngI1 (consF (cstF (.int 5)) nilF)) (nmG 5) (seqS (asgS (nmG 6) (callF p__law_piece (consF (binF ixO (varF 3) (varF 5)) (consF (appF lenO (consF (varF 4) nilF)) nilF))))
  (ifS (cmpT leO (binF addO (appF lenO (consF (varF 4) nilF)) (appF lenO (consF (varF 6) nilF))) (cstF (.int 8))) (asgS (nmG 4) (binF addO (varF 4) (varF 6))) nxS)))
  (seqS (ifS (cmpT (eqO false) (appF lenO (consF (varF 4) nilF)) (cstF (.int 0))) (asgS (nmG 4) (lstF (consF (tupF (consF (cstF (.str "get")) (consF (cstF (.str "a")) (consF (cstF (.str "x")) nilF)))) nilF))) nxS)
  (exS (bmF "list" appendO (varF 1) (consF (appF tupleO (consF (varF 4) nilF)) nilF))))))))
  (retS (tupF (consF (callF p__law_things nilF) (consF (appF tupleO (consF (varF 1) nilF)) nilF))))))
def f__law_longer (p__law_padded : Fx) (p__law_cell : Fx) (p__law_piece : Fx) (p__law_things : Fx) : Fx := runF 7 1 (b__law_longer p__law_padded p__law_cell p__law_piece p__law_things)
def b__law_guardable  : SS :=
  (seqS (ifS (notT (truF (chn3F leO leO ltO (cstF (.int 0)) (varF 1) (varF 2) (appF lenO (consF (varF 0) nilF))))) (retS (cstF (.bl false))) nxS)
  (seqS (forS (rngI2 (consF (varF 1) (consF (binF addO (varF 2) (cstF (.int 1))) nilF))) (nmG 3) (ifS (cmpT (inO true) (binF ixO (binF ixO (varF 0) (varF 3)) (cstF (.int 0))) (lstF (consF (cstF (.str "let")) (consF (cstF (.str "get")) (consF (cstF (.str "put")) (consF (cstF (.str "add")) (consF (cstF (.str "check")) nilF))))))) (retS (cstF (.bl false))) nxS))
  (seqS (forS (anyI (varF 0)) (nmG 4) (ifS (andT (cmpT (eqO false) (binF ixO (varF 4) (cstF (.int 0))) (cstF (.str "go"))) (truF (chnF ltO leO (varF 1) (binF ixO (varF 4) (cstF (.int 1))) (varF 2)))) (retS (cstF (.bl false))) nxS))
  (retS (cstF (.bl true))))))
def f__law_guardable  : Fx := runF 5 3 (b__law_guardable )
def b__law_named  : SS :=
  (seqS (ifS (cmpT (eqO false) (binF ixO (varF 0) (cstF (.int 0))) (cstF (.str "get"))) (retS (binF ixO (varF 0) (cstF (.int 2)))) nxS)
  (seqS (ifS (cmpT (inO false) (binF ixO (varF 0) (cstF (.int 0))) (lstF (consF (cstF (.str "put")) (consF (cstF (.str "add")) nilF)))) (retS (binF ixO (varF 0) (cstF (.int 1)))) nxS)
  (retS (cstF .non))))
def f__law_named  : Fx := runF 1 1 (b__law_named )
def b_law (p__law_longer : Fx) (p__law_named : Fx) (p__law_guardable : Fx) (p_spans : Fx) : SS :=
  (seqS (asgS (nmG 1) (callF p__law_longer (consF (varF 0) nilF)))
  (seqS (forS (rngI1 (consF (cstF (.int 2)) nilF)) (nmG 2) (seqS (asgS (nmG 3) (binF ixO (binF ixO (varF 1) (cstF (.int 1))) (varF 2)))
  (forS (anyI (lstF (consF (cstF (.str "x")) (consF (cstF (.str "y")) (consF (cstF (.str "zz")) nilF))))) (nmG 4) (seqS (asgS (nmG 5) (lstF nilF))
  (seqS (forS (rngI1 (consF (appF lenO (consF (varF 3) nilF)) nilF)) (nmG 6) (forS (rngI2 (consF (varF 6) (consF (appF lenO (consF (varF 3) nilF)) nilF))) (nmG 7) (ifS (andT (cmpT (eqO false) (callF p__law_named (consF (binF ixO (varF 3) (varF 6)) nilF)) (varF 4)) (cmpT (eqO false) (callF p__law_named (consF (binF ixO (varF 3) (varF 7)) nilF)) (varF 4))) (ifS (truF (callF p__law_guardable (consF (varF 3) (consF (varF 6) (consF (varF 7) nilF))))) (exS (bmF "list" appendO (varF 5) (consF (tupF (consF (varF 6) (consF (varF 7) nilF))) nilF))) nxS) nxS)))
  (ifS (cmpT (eqO true) (appF listO (consF (callF p_spans (consF (varF 1) (consF (varF 2) (consF (varF 4) nilF)))) nilF)) (varF 5)) (retS (cstF (.bl false))) nxS))))))
  (retS (cstF (.bl true)))))
def f_law (p__law_longer : Fx) (p__law_named : Fx) (p__law_guardable : Fx) (p_spans : Fx) : Fx := runF 8 1 (b_law p__law_longer p__law_named p__law_guardable p_spans)
def b__law_steps (p__law_cell : Fx) (p__law_padded : Fx) : SS :=
  (seqS (asgS (nmG 1) (lstF nilF))
  (seqS (forS (rngI1 (consF (binF modO (appF intOf (consF (callF p__law_cell (consF (varF 0) (consF (cstF (.int 0)) nilF))) nilF)) (cstF (.int 7))) nilF)) (nmG 2) (seqS (asgS (nmG 3) (callF p__law_padded (consF (callF p__law_cell (consF (varF 0) (consF (binF addO (cstF (.int 1)) (varF 2)) nilF))) (consF (binF addO (cstF (.int 1)) (varF 2)) nilF))))
  (seqS (asgS (nmG 4) (lstF nilF))
  (seqS (forS (rngI1 (consF (binF modO (appF intOf (consF (binF ixO (varF 3) (cstF (.int 1))) nilF)) (cstF (.int 3))) nilF)) (nmG 5) (seqS (asgS (nmG 6) (binF ixO (cstF (.str "xyz")) (binF modO (appF intOf (consF (binF ixO (varF 3) (binF addO (cstF (.int 2)) (varF 5))) nilF)) (cstF (.int 3)))))
  (ifS (cmpT (inO true) (varF 6) (compF [7] (anyI (varF 4)) (nmG 7) yesT (binF ixO (varF 7) (cstF (.int 0))))) (exS (bmF "list" appendO (varF 4) (consF (tupF (consF (varF 6) (consF (binF (eqO false) (binF modO (appF intOf (consF (binF ixO (varF 3) (binF addO (cstF (.int 5)) (varF 5))) nilF)) (cstF (.int 2))) (cstF (.int 0))) nilF))) nilF))) nxS)))
  (exS (bmF "list" appendO (varF 1) (consF (tupF (consF (binF modO (appF intOf (consF (binF ixO (varF 3) (cstF (.int 0))) nilF)) (cstF (.int 3))) (consF (binF modO (appF intOf (consF (binF ixO (varF 3) (cstF (.int 8))) nilF)) (cstF (.int 4))) (consF (appF tupleO (consF (varF 4) nilF)) (consF (binF ixO (lstF (consF (cstF .non) (consF (cstF .non) (consF (cstF (.str "check")) nilF)))) (binF modO (appF intOf (consF (binF ixO (varF 3) (cstF (.int 9))) nilF)) (cstF (.int 3)))) nilF))))) nilF)))))))
  (retS (appF tupleO (consF (varF 1) nilF)))))

def f__law_steps (p__law_cell : Fx) (p__law_padded : Fx) : Fx := runF 8 1 (b__law_steps p__law_cell p__law_padded)

end Lw
namespace Lw
open PySem L2 Iv
theorem at0 {α : Type} (x : α) (xs : List α) : atI (x :: xs) 0 = some x := atI_nat (j := 0) rfl
theorem at1 {α : Type} (x y : α) (xs : List α) : atI (x :: y :: xs) 1 = some y := atI_nat (j := 1) rfl
theorem at2 {α : Type} (x y z : α) (xs : List α) : atI (x :: y :: z :: xs) 2 = some z := atI_nat (j := 2) rfl
theorem at3 {α : Type} (x y z u : α) (xs : List α) : atI (x :: y :: z :: u :: xs) 3 = some u := atI_nat (j := 3) rfl
theorem cell_ok {st : Sto} {n : Nat} {ns : List Int} (h : getL st n = some (ns.map .int)) (k : Nat) : f__law_cell [.loc n, .int k] st = some (.int (ns.getD k 0), st) := by
  refine run_ret rfl ?_
  by_cases hk : k < ns.length
  · have e : atI (ns.map D.int) (k : Int) = some (.int ns[k]) := atI_nat (by rw [List.getElem?_map, List.getElem?_eq_getElem hk]; rfl)
    have e2 : ns.getD k 0 = ns[k] := by simp [List.getD, List.getElem?_eq_getElem hk]
    rw [e2]
    simp [b__law_cell, seqS_eq, h, hk, e]
  · have e2 : ns.getD k 0 = 0 := by simp [List.getD, List.getElem?_eq_none (Nat.le_of_not_lt hk)]
    rw [e2]
    simp [b__law_cell, seqS_eq, h, hk]
/-- a new list of ints at the end of the store -/
theorem new_get (st : Sto) (xs : List D) : getL (st ++ [.lst xs]) st.length = some xs := getL_of (by simp)
theorem new_getM (st : Sto) (xs : List D) : getM (st ++ [.lst xs]) st.length = some xs := getM_of (by simp)
theorem new_set' (st : Sto) (xs ys : List D) : (st ++ [OB.lst xs]).set st.length (.lst ys) = st ++ [.lst ys] := by simp
theorem push_ok {st : Sto} {xs : List D} {d : D} (h : xs.length < LIM) : appendO (.loc st.length) [d] (st ++ [.lst xs]) = some (.non, st ++ [.lst (xs ++ [d])]) := by
  simp only [appendO_eq, new_getM, h, if_true, new_set']
theorem digits_ok (c k : Int) (m : Nat) (hm : m ≤ 100) (st : Sto) : ∃ ds : List Int, f__law_digits [.int c, .int k, .int (m : Int)] st = some (.loc st.length, st ++ [.lst (ds.map .int)]) ∧ ds.length ≤ 100 := by
  suffices q : ∃ d s, f__law_digits [.int c, .int k, .int (m : Int)] st = some (d, s) ∧ ∃ ds : List Int, d = .loc st.length ∧ s = st ++ [.lst (ds.map .int)] ∧ ds.length ≤ 100 by
    obtain ⟨d, s, e, ds, rfl, rfl, hl⟩ := q
    exact ⟨ds, e, hl⟩
  refine wp_run rfl ?_
  unfold b__law_digits
  refine wp_nx (σ1 := [some (.int c), some (.int k), some (.int (m : Int)), some (.loc st.length), none, none]) (st1 := st ++ [.lst []]) (by simp) ?_
  refine wp_seq (wp_mono (Q := fun r s => ∃ c : Int, r = .nx [some (.int c), some (.int k), some (.int (m : Int)), some (.loc st.length), none, none] ∧ s = st ++ [.lst []]) ?_ ?_)
  · by_cases hc : c < 0
    · exact wp_ok (r := .nx [some (.int (-1 - c)), some (.int k), some (.int (m : Int)), some (.loc st.length), none, none]) (by simp [hc]) ⟨_, rfl, rfl⟩
    · exact wp_ok (r := .nx [some (.int c), some (.int k), some (.int (m : Int)), some (.loc st.length), none, none]) (by simp [hc]) ⟨_, rfl, rfl⟩
  rintro r s ⟨c, rfl, rfl⟩
  refine wp_seq (wp_mono (Q := fun r s => ∃ (x0 x4 x5 : Option D) (ds : List Int), ds.length ≤ 100 ∧ r = .nx [x0, some (.int k), some (.int (m : Int)), some (.loc st.length), x4, x5] ∧ s = st ++ [.lst (ds.map .int)]) ?_ ?_)
  · refine wp_if (t := decide (10 ^ 18 ≤ c)) (st1 := st ++ [.lst []]) (by simp [cPow]) (fun _ => ?_) (fun _ => ?_)
    · refine wp_for (xs := rngD 0 60) (st1 := st ++ [.lst []]) (fun i σ s => ∃ (c : Int) (x4 : Option D) (ds : List Int), ds.length ≤ i ∧ s = st ++ [.lst (ds.map .int)] ∧ σ = [some (.int c), some (.int k), some (.int (m : Int)), some (.loc st.length), x4, none]) (by simp) ⟨c, none, [], by simp, rfl, rfl⟩ ?_ ?_
      · rintro i σ s d hd ⟨c, x4, ds, hl, rfl, rfl⟩
        obtain ⟨hi, rfl⟩ := rngD_get hd
        refine ⟨_, rfl, ?_⟩
        have hL : (ds.map D.int).length < LIM := by rw [List.length_map]; show ds.length < 1000000; omega
        generalize ((0 : Int) + (i : Nat)) = jj
        refine wp_if (t := decide (0 < c) && decide (((ds.map D.int).length : Int) < m)) (st1 := st ++ [.lst (ds.map .int)]) ?_ (fun _ => ?_) (fun _ => wp_skip ⟨c, some (.int jj), ds, by omega, rfl, rfl⟩)
        · by_cases h0 : 0 < c <;> simp [h0, new_get]
        · refine wp_nx (σ1 := [some (.int c), some (.int k), some (.int (m : Int)), some (.loc st.length), some (.int jj), none]) (st1 := st ++ [.lst ((ds ++ [c % 1000]).map .int)]) ?_ ?_
          · have c1 : cPos c 1000 = true := rfl
            simp only [exS_eq, bmF_eq, varF_eq, bnd_some, List.getElem?_cons_zero, List.getElem?_cons_succ, isTy_list, new_get, Option.isSome_some, if_true, consF_eq, nilF_eq, binF_eq, appF_eq, intOf_int, cstF_eq, modO_int, c1, push_ok hL, List.map_append, List.map_cons, List.map_nil, List.set_cons_succ, List.set_cons_zero]
          · exact wp_asg (d := .int (c / 1000)) (st1 := st ++ [.lst ((ds ++ [c % 1000]).map .int)]) (by simp [cDiv]) rfl ⟨_, some (.int jj), _, by simp; omega, rfl, rfl⟩
      · rintro σ s ⟨c, x4, ds, hl, rfl, rfl⟩
        rw [rngD_len] at hl
        exact ⟨_, _, _, ds, by omega, rfl, rfl⟩
    · refine wp_nx (σ1 := [some (.int c), some (.int k), some (.int (m : Int)), some (.loc st.length), none, some (.int ((c * 48271 + k * 69621 + 11) % 2147483647))]) (st1 := st ++ [.lst []]) (by simp [cMul_r, cPos]) ?_
      generalize (c * 48271 + k * 69621 + 11) % 2147483647 = z
      refine wp_for (xs := rngD 0 m) (st1 := st ++ [.lst []]) (fun i σ s => ∃ (z : Int) (x4 : Option D) (ds : List Int), ds.length = i ∧ s = st ++ [.lst (ds.map .int)] ∧ σ = [some (.int c), some (.int k), some (.int (m : Int)), some (.loc st.length), x4, some (.int z)]) (rng1_nat (by simp) (by show m ≤ 1000000; omega)) ⟨z, none, [], rfl, rfl, rfl⟩ ?_ ?_
      · rintro i σ s d hd ⟨z, x4, ds, hl, rfl, rfl⟩
        obtain ⟨hi, rfl⟩ := rngD_get hd
        refine ⟨_, rfl, ?_⟩
        have hL : (ds.map D.int).length < LIM := by rw [List.length_map]; show ds.length < 1000000; omega
        generalize ((0 : Int) + (i : Nat)) = jj
        refine wp_nx (σ1 := [some (.int c), some (.int k), some (.int (m : Int)), some (.loc st.length), some (.int jj), some (.int ((z * 16807 + 7 * jj + 1) % 2147483647))]) (st1 := st ++ [.lst (ds.map .int)]) (by simp [cMul_r, cMul_l, cPos]) ?_
        generalize (z * 16807 + 7 * jj + 1) % 2147483647 = y
        refine wp_ex (d := .non) (st1 := st ++ [.lst ((ds ++ [y / 997 % 1000]).map .int)]) ?_ ⟨y, some (.int jj), ds ++ [y / 997 % 1000], by simp [hl], rfl, rfl⟩
        have c1 : cPos (y / 997) 1000 = true := rfl
        have c2 : cDiv y 997 = true := rfl
        simp only [bmF_eq, varF_eq, bnd_some, List.getElem?_cons_zero, List.getElem?_cons_succ, isTy_list, new_get, Option.isSome_some, if_true, consF_eq, nilF_eq, binF_eq, appF_eq, intOf_int, cstF_eq, fdivO_int, c2, modO_int, c1, push_ok hL, List.map_append, List.map_cons, List.map_nil]
      · rintro σ s ⟨z, x4, ds, hl, rfl, rfl⟩
        rw [rngD_len] at hl
        exact ⟨_, _, _, ds, by omega, rfl, rfl⟩
  · rintro r s ⟨x0, x4, x5, ds, hl, rfl, rfl⟩
    exact wp_ret (d := .loc st.length) (st1 := st ++ [.lst (ds.map .int)]) (by simp) ⟨ds, rfl, rfl, hl⟩
def DigOk (φ : Fx) : Prop := ∀ (c k : Int) (m : Nat), m ≤ 100 → ∀ st : Sto, ∃ ds : List Int, φ [.int c, .int k, .int (m : Int)] st = some (.loc st.length, st ++ [.lst (ds.map .int)]) ∧ ds.length ≤ 100
def PadOk (φ : Fx) : Prop := ∀ (c k : Int) (st : Sto), ∃ ds : List Int, 20 ≤ ds.length ∧ φ [.int c, .int k] st = some (.loc st.length, st ++ [.lst (ds.map .int)])
def CellOk (φ : Fx) : Prop := ∀ (st : Sto) (n : Nat) (ns : List Int), getL st n = some (ns.map .int) → ∀ k : Nat, φ [.loc n, .int k] st = some (.int (ns.getD k 0), st)
theorem padded_ok {φ : Fx} (hφ : DigOk φ) : PadOk (f__law_padded φ) := by
  intro c k st
  suffices q : ∃ d s, f__law_padded φ [.int c, .int k] st = some (d, s) ∧ ∃ ds : List Int, 20 ≤ ds.length ∧ d = .loc st.length ∧ s = st ++ [.lst (ds.map .int)] by
    obtain ⟨d, s, e, ds, hl, rfl, rfl⟩ := q
    exact ⟨ds, hl, e⟩
  obtain ⟨ds, e, hl⟩ := hφ c k 20 (by omega) st
  have e' : φ [.int c, .int k, .int 20] st = some (.loc st.length, st ++ [.lst (ds.map .int)]) := e
  refine wp_run rfl ?_
  unfold b__law_padded
  refine wp_nx (σ1 := [some (.int c), some (.int k), some (.loc st.length), none]) (st1 := st ++ [.lst (ds.map .int)]) (by simp [e']) ?_
  refine wp_seq (wp_for (xs := rngD 0 20) (st1 := st ++ [.lst (ds.map .int)]) (fun i σ s => ∃ (x3 : Option D) (es : List Int), i ≤ es.length ∧ es.length ≤ 100 + i ∧ s = st ++ [.lst (es.map .int)] ∧ σ = [some (.int c), some (.int k), some (.loc st.length), x3]) (by simp) ⟨none, ds, by omega, by omega, rfl, rfl⟩ ?_ ?_)
  · rintro i σ s d hd ⟨x3, es, h1, h2, rfl, rfl⟩
    obtain ⟨hi, rfl⟩ := rngD_get hd
    refine ⟨_, rfl, ?_⟩
    have hL : (es.map D.int).length < LIM := by rw [List.length_map]; show es.length < 1000000; omega
    generalize ((0 : Int) + (i : Nat)) = jj
    refine wp_ex (d := .non) (st1 := st ++ [.lst ((es ++ [jj]).map .int)]) ?_ ⟨some (.int jj), es ++ [jj], by simp; omega, by simp; omega, rfl, rfl⟩
    simp only [bmF_eq, varF_eq, bnd_some, List.getElem?_cons_zero, List.getElem?_cons_succ, isTy_list, new_get, Option.isSome_some, if_true, consF_eq, nilF_eq, push_ok hL, List.map_append, List.map_cons, List.map_nil, List.set_cons_succ, List.set_cons_zero]
  · rintro σ s ⟨x3, es, h1, h2, rfl, rfl⟩
    rw [rngD_len] at h1
    exact wp_ret (d := .loc st.length) (st1 := st ++ [.lst (es.map .int)]) (by simp) ⟨es, h1, rfl, rfl⟩
end Lw

namespace Lw
open PySem L2 Iv
/-! ### data that hang on no place: what Python's == sees of them -/
def Pu (k : Nat) (d : D) (p : PyData) : Prop := (∀ (st : Sto) (n : Nat), py st n d = some p) ∧ p.canLay0 = true ∧ p.depth ≤ k
def Pus (k : Nat) (ds : List D) (ps : List PyData) : Prop := (∀ (st : Sto) (n : Nat), pys st n ds = some ps) ∧ PyData.canLayAll0 ps = true ∧ PyData.depthAll ps ≤ k
theorem pu_mono {k l : Nat} {d : D} {p : PyData} (h : Pu k d p) (hk : k ≤ l) : Pu l d p := ⟨h.1, h.2.1, Nat.le_trans h.2.2 hk⟩
theorem pu_str {x : Str} (h : PyData.strOk x = true) {k : Nat} : Pu k (.str x) (.str x) := ⟨fun st n => by simp only [py], by simpa only [PyData.canLay0] using h, by simp only [PyData.depth]; omega⟩
theorem pu_int {i : Int} {k : Nat} : Pu k (.int i) (.int i) := ⟨fun st n => by simp only [py], by simp only [PyData.canLay0], by simp only [PyData.depth]; omega⟩
theorem pu_non {k : Nat} : Pu k .non .none := ⟨fun st n => by simp only [py], by simp only [PyData.canLay0], by simp only [PyData.depth]; omega⟩
theorem pus_nil {k : Nat} : Pus k [] [] := ⟨fun st n => by simp only [pys], by simp only [PyData.canLayAll0], by simp only [PyData.depthAll]; omega⟩
theorem pus_cons {k : Nat} {d : D} {p : PyData} {ds : List D} {ps : List PyData} (h : Pu k d p) (hs : Pus k ds ps) : Pus k (d :: ds) (p :: ps) := ⟨fun st n => by simp only [pys, h.1, hs.1], by simp only [PyData.canLayAll0, h.2.1, hs.2.1, Bool.and_self], by
  have a := h.2.2
  have b := hs.2.2
  simp only [PyData.depthAll]
  omega⟩
theorem pu_tup {k : Nat} {ds : List D} {ps : List PyData} (h : Pus k ds ps) : Pu (k + 1) (.tup ds) (.tuple ps) := ⟨fun st n => by simp only [py, h.1, Option.map_some], by simpa only [PyData.canLay0] using h.2.1, by
  have a := h.2.2
  simp only [PyData.depth]
  omega⟩
theorem pus_map {α : Type} {k : Nat} {f : α → D} {g : α → PyData} : ∀ {l : List α}, (∀ x ∈ l, Pu k (f x) (g x)) → Pus k (l.map f) (l.map g)
  | [], _ => pus_nil
  | x :: l, h => pus_cons (h x List.mem_cons_self) (pus_map fun y hy => h y (List.mem_cons_of_mem _ hy))
theorem pu_shaped {k : Nat} {d : D} {p : PyData} (h : Pu k d p) (hk : k ≤ 64) : SeqAt.shaped p = true := by
  unfold SeqAt.shaped
  rw [h.2.1, Bool.true_and]
  exact decide_eq_true (Nat.le_trans h.2.2 hk)
/-! ### lists of such data, and lists of such lists -/
theorem py_list {st : Sto} {k n d : Nat} {ds : List D} {ps : List PyData} (h : getL st k = some ds) (p : Pus d ds ps) : py st (n + 1) (.loc k) = some (.list ps) := by simp only [py, h, p.1, Option.map_some]
theorem list_shaped {d : Nat} {ds : List D} {ps : List PyData} (p : Pus d ds ps) (hd : d + 1 ≤ 64) : SeqAt.shaped (.list ps) = true := by
  have a := p.2.2
  unfold SeqAt.shaped
  rw [Bool.and_eq_true]
  refine ⟨?_, decide_eq_true ?_⟩
  · simpa only [PyData.canLay0] using p.2.1
  · simp only [PyData.depth]; omega
theorem nil_shaped : SeqAt.shaped (.list []) = true := by
  unfold SeqAt.shaped
  simp [PyData.canLay0, PyData.canLayAll0, PyData.depth, PyData.depthAll]
theorem py_nil {st : Sto} {k n : Nat} (h : getL st k = some []) : py st (n + 1) (.loc k) = some (.list []) := by simp only [py, h, pys, Option.map_some]
theorem eqv_nil (ps : List PyData) : PyData.eqv (.list ps) (.list []) = decide (ps = []) := by
  cases ps <;> simp [PyData.eqv, PyData.eqvAll]
/-- a list compared with a new empty one -/
theorem eqO_nil {st : Sto} {k : Nat} {ps : List PyData} (h : py (st ++ [.lst []]) 60 (.loc k) = some (.list ps)) (hs : SeqAt.shaped (.list ps) = true) (neg : Bool) : eqO neg (.loc k) (.loc st.length) (st ++ [.lst []]) = some (.bl (decide (ps = []) != neg), st ++ [.lst []]) := by
  have q : py (st ++ [.lst []]) 60 (.loc st.length) = some (.list []) := py_nil (getL_of (by simp))
  unfold eqO
  simp only [eqS, h, q, hs, nil_shaped, and_self, if_true, eqv_nil]
theorem eqO_nilP {st : Sto} {k d : Nat} {ds : List D} {ps : List PyData} (h : getL st k = some ds) (p : Pus d ds ps) (hd : d + 1 ≤ 64) (neg : Bool) : eqO neg (.loc k) (.loc st.length) (st ++ [.lst []]) = some (.bl (decide (ds = []) != neg), st ++ [.lst []]) := by
  rw [eqO_nil (py_list ((Ext.app _).getL h) p) (list_shaped p hd)]
  have e : decide (ps = []) = decide (ds = []) := by
    have l : ∀ (ds : List D) (ps : List PyData), pys st 60 ds = some ps → (ps = [] ↔ ds = []) := fun ds ps h => by
      cases ds with
      | nil => simp only [pys] at h; cases h; simp
      | cons x r =>
        simp only [pys] at h
        split at h
        · cases h; simp
        · cases h
    exact decide_eq_decide.mpr (l ds ps (p.1 st 60))
  rw [e]
end Lw

namespace Lw
open PySem L2 Iv
structure Stp where
  th : Int
  pc : Int
  tch : List (Str × Bool)
  word : D
def tD (t : Str × Bool) : D := .tup [.str t.1, .bl t.2]
def Stp.d (s : Stp) : D := .tup [.int s.th, .int s.pc, .tup (s.tch.map tD), s.word]
/-- as the laws k31 to k35 draw them -/
structure Stp.ok (s : Stp) : Prop where
  th0 : 0 ≤ s.th
  th3 : s.th < 3
  pc0 : 0 ≤ s.pc
  pc4 : s.pc < 4
  few : s.tch.length ≤ 2
  nd : (s.tch.map Prod.fst).Nodup
  sg : ∀ t ∈ s.tch, PyData.strOk t.1 = true
  wd : s.word = .non ∨ s.word = .str "check"
def xyz : List Str := ["x", "y", "z"]
theorem xyz_at (i : Int) (st : Sto) : ∃ x : Str, ixO (.str "xyz") (.int (i % 3)) st = some (.str x, st) ∧ PyData.strOk x = true := by
  have h3 : (Str.ofString "xyz").length ≤ LIM := by
    have : (Str.ofString "xyz").length = 3 := by decide +kernel
    rw [this]; decide
  have hc : (Str.ofString "xyz").cps.toList = [120, 121, 122] := by decide +kernel
  have hi : i % 3 = ((i % 3).toNat : Nat) := by omega
  have hk : (i % 3).toNat < 3 := by omega
  generalize (i % 3).toNat = k at hi hk
  rw [hi]
  have ha : ∃ c, atI (Str.ofString "xyz").cps.toList (k : Int) = some c ∧ PyData.strOk ⟨#[c]⟩ = true := by
    rw [hc]
    match k, hk with
    | 0, _ => exact ⟨120, at0 _ _, by decide +kernel⟩
    | 1, _ => exact ⟨121, at1 _ _ _, by decide +kernel⟩
    | 2, _ => exact ⟨122, at2 _ _ _ _, by decide +kernel⟩
  obtain ⟨c, hc2, hc3⟩ := ha
  refine ⟨⟨#[c]⟩, ?_, hc3⟩
  show (if (Str.ofString "xyz").length ≤ LIM then (atI (Str.ofString "xyz").cps.toList (k : Int)).map (fun c => (D.str ⟨#[c]⟩, st)) else none) = _
  rw [if_pos h3, hc2]
  rfl
theorem in_strsM {w : Str} {k : Nat} {l : List Str} {st : Sto} (neg : Bool) (h : getL st k = some (l.map .str)) : inO neg (.str w) (.loc k) st = some (.bl (decide (w ∈ l) != neg), st) := by
  have h1 : (l.map D.str).all scalD = true := by simp [scalD]
  have h2 : inF (.str w) (l.map .str) = decide (w ∈ l) := by
    rw [Bool.eq_iff_iff]
    simp [inF, eqF]
  simp only [inO, h]
  rw [if_pos ⟨rfl, h1⟩, h2]
theorem int_at {ds : List Int} {k : Nat} (h : k < ds.length) : atI (ds.map D.int) (k : Int) = some (.int ds[k]) := atI_nat (by rw [List.getElem?_map, List.getElem?_eq_getElem h]; rfl)
theorem ext_set {st s : Sto} (x : Ext st s) {k : Nat} (hk : st.length ≤ k) (o : OB) : Ext st (s.set k o) := x.set hk
theorem getL_set {s : Sto} {k : Nat} {xs ys : List D} (h : getL s k = some xs) : getL (s.set k (.lst ys)) k = some ys := by
  have hk : k < s.length := by
    unfold getL at h
    cases e : s[k]? with
    | none => rw [e] at h; cases h
    | some o => exact (List.getElem?_eq_some_iff.mp e).1
  exact getL_of (List.getElem?_set_self hk)
theorem getL_set_ne {s : Sto} {k m : Nat} {o : OB} (h : m ≠ k) : getL (s.set k o) m = getL s m := getL_eq (List.getElem?_set_ne (Ne.symm h))
theorem getL_lt {s : Sto} {k : Nat} {xs : List D} (h : getL s k = some xs) : k < s.length := by
  unfold getL at h
  cases e : s[k]? with
  | none => rw [e] at h; cases h
  | some o => exact (List.getElem?_eq_some_iff.mp e).1
theorem names_comp {st : Sto} {n : Nat} {tch : List (Str × Bool)} (hn : getL st n = some (tch.map tD)) (hl : tch.length ≤ 1000) {σ : Sl} (hσ : σ[4]? = some (some (.loc n))) (h7 : 7 < σ.length) :
    ∃ s2, compF [7] (anyI (varF 4)) (nmG 7) yesT (binF ixO (varF 7) (cstF (.int 0))) σ st = some (.loc st.length, s2) ∧ Ext st s2 ∧ getL s2 st.length = some ((tch.map Prod.fst).map .str) := by
  obtain ⟨s2, e2, x2, g2⟩ := comp_ok (vs := [7]) (i := anyI (varF 4)) (g := nmG 7) (e := binF ixO (varF 7) (cstF (.int 0))) (σ := σ) (st := st) (st1 := st) (J := .lst n) (xs := tch.map tD) ((tch.map Prod.fst).map .str)
    (by simp [hσ, hn]) (by rw [List.length_map]; show _ ≤ 1000000; omega) (by simp) (fun s x => x.getL hn)
    (fun i x y hx hy s _ => by
      rw [List.getElem?_map] at hx
      rw [List.getElem?_map, List.getElem?_map] at hy
      cases e : tch[i]? with
      | none => rw [e] at hx; cases hx
      | some t =>
        rw [e] at hx hy
        cases hx
        cases hy
        refine ⟨_, s, rfl, ?_, Ext.refl⟩
        have h8 : 7 < (wipeD σ [7]).length := by rw [wipeD_len]; exact h7
        simp only [binF_eq, varF_eq, List.getElem?_set_self h8, bnd_some, cstF_eq, tD, ixO_tup, at0, Option.map_some])
  exact ⟨s2, e2, x2, getL_of g2⟩
theorem getM_of_getL {s : Sto} {k : Nat} {xs : List D} (h : s[k]? = some (.lst xs)) : getM s k = some xs := getM_of h
theorem steps_ok {cell pad : Fx} (hc : CellOk cell) (hp : PadOk pad) {st : Sto} {n : Nat} {ns : List Int} (h : getL st n = some (ns.map .int)) :
    ∃ S : List Stp, S.length ≤ 6 ∧ (∀ s ∈ S, s.ok) ∧ ∃ st2, f__law_steps cell pad [.loc n] st = some (.tup (S.map Stp.d), st2) ∧ Ext st st2 := by
  suffices q : ∃ d s, f__law_steps cell pad [.loc n] st = some (d, s) ∧ ∃ S : List Stp, S.length ≤ 6 ∧ (∀ s ∈ S, s.ok) ∧ d = .tup (S.map Stp.d) ∧ Ext st s by
    obtain ⟨d, s, e, S, h1, h2, rfl, x⟩ := q
    exact ⟨S, h1, h2, s, e, x⟩
  have c0 := hc (st ++ [.lst []]) n ns (Ext.getL (Ext.app _) h) 0
  generalize ns.getD 0 0 = z0 at c0
  have c0' : cell [.loc n, .int 0] (st ++ [.lst []]) = some (.int z0, st ++ [.lst []]) := c0
  have hs : ∃ k : Nat, z0 % 7 = (k : Int) ∧ k ≤ 6 := ⟨(z0 % 7).toNat, by omega, by omega⟩
  obtain ⟨k, hk, hk6⟩ := hs
  refine wp_run rfl ?_
  unfold b__law_steps
  refine wp_nx (σ1 := [some (.loc n), some (.loc st.length), none, none, none, none, none, none]) (st1 := st ++ [.lst []]) (by simp) ?_
  refine wp_seq (wp_for (xs := rngD 0 k) (st1 := st ++ [.lst []]) (fun i σ s => ∃ (S : List Stp) (x2 x3 x4 x5 x6 x7 : Option D), S.length = i ∧ (∀ s ∈ S, s.ok) ∧ Ext st s ∧ s[st.length]? = some (.lst (S.map Stp.d)) ∧ σ = [some (.loc n), some (.loc st.length), x2, x3, x4, x5, x6, x7])
    (rng1_nat (by simp [c0', cPos, hk]) (by show k ≤ 1000000; omega)) ⟨[], none, none, none, none, none, none, rfl, by simp, Ext.app _, by simp, rfl⟩ ?_ ?_)
  · rintro i σ s d hd ⟨S, x2, x3, x4, x5, x6, x7, hl, hok, hx, hS, rfl⟩
    obtain ⟨hi, rfl⟩ := rngD_get hd
    refine ⟨_, rfl, ?_⟩
    have hlt : st.length < s.length := (List.getElem?_eq_some_iff.mp hS).1
    have c1 := hc s n ns (hx.getL h) (1 + i)
    have e1i : (1 : Int) + (0 + (i : Nat)) = ((1 + i : Nat) : Int) := by omega
    obtain ⟨ds, dl, ed⟩ := hp (ns.getD (1 + i) 0) ((1 + i : Nat) : Int) s
    generalize ((0 : Int) + (i : Nat)) = jj at e1i
    generalize ns.getD (1 + i) 0 = cc at c1 ed
    refine wp_nx (σ1 := [some (.loc n), some (.loc st.length), some (.int jj), some (.loc s.length), x4, x5, x6, x7]) (st1 := s ++ [.lst (ds.map .int)])
      (by simp only [asgS_eq, callF_eq, consF_eq, nilF_eq, varF_eq, binF_eq, cstF_eq, bnd_some, List.getElem?_cons_zero, List.getElem?_cons_succ, List.set_cons_succ, List.set_cons_zero, addO_int, e1i, c1, ed, nmG_eq, Option.map_some]) ?_
    have gd : getL (s ++ [.lst (ds.map .int)]) s.length = some (ds.map .int) := new_get _ _
    have xs1 : Ext st (s ++ [.lst (ds.map .int)]) := hx.trans (Ext.app _)
    have hS1 : (s ++ [.lst (ds.map .int)])[st.length]? = some (.lst (S.map Stp.d)) := (Ext.app _).at hS
    have hlen1 : (s ++ [OB.lst (ds.map .int)]).length = s.length + 1 := by simp
    obtain ⟨s1, es1⟩ : ∃ s1, s1 = s ++ [.lst (ds.map .int)] := ⟨_, rfl⟩
    rw [← es1] at gd xs1 hS1 hlen1 ⊢
    refine wp_nx (σ1 := [some (.loc n), some (.loc st.length), some (.int jj), some (.loc s.length), some (.loc s1.length), x5, x6, x7]) (st1 := s1 ++ [.lst []]) (by simp) ?_
    have i1 : ∀ (t : Sto), Ext s1 t → ∀ j : Nat, j < 20 → ixO (.loc s.length) (.int (j : Nat)) t = some (.int (ds.getD j 0), t) := fun t xt j hj => by
      simp only [ixO_loc, xt.getL gd]
      rw [int_at (by omega)]
      simp [List.getD, List.getElem?_eq_getElem (show j < ds.length by omega)]
    have i1a := i1 (s1 ++ [.lst []]) (Ext.app _) 1 (by omega)
    have hm : ∃ m : Nat, ds.getD 1 0 % 3 = (m : Int) ∧ m ≤ 2 := ⟨(ds.getD 1 0 % 3).toNat, by omega, by omega⟩
    obtain ⟨m, hm, hm2⟩ := hm
    have i1a' : ixO (.loc s.length) (.int 1) (s1 ++ [.lst []]) = some (.int (ds.getD 1 0), s1 ++ [.lst []]) := i1a
    refine wp_seq (wp_for (xs := rngD 0 m) (st1 := s1 ++ [.lst []]) (fun j σ t => ∃ (tch : List (Str × Bool)) (x5 x6 x7 : Option D), tch.length ≤ j ∧ (tch.map Prod.fst).Nodup ∧ (∀ q ∈ tch, PyData.strOk q.1 = true) ∧ Ext s1 t ∧ t[s1.length]? = some (.lst (tch.map tD)) ∧ σ = [some (.loc n), some (.loc st.length), some (.int jj), some (.loc s.length), some (.loc s1.length), x5, x6, x7])
      (rng1_nat (by simp only [consF_eq, nilF_eq, binF_eq, appF_eq, varF_eq, cstF_eq, bnd_some, List.getElem?_cons_zero, List.getElem?_cons_succ, i1a', intOf_int, modO_int, show cPos (ds.getD 1 0) 3 = true from rfl, if_true, hm]) (by show m ≤ 1000000; omega))
      ⟨[], x5, x6, x7, by simp, by simp, by simp, Ext.app _, by simp, rfl⟩ ?_ ?_)
    · rintro j σ t d hd ⟨tch, x5, x6, x7, tl, tn, tsg, xt, ht, rfl⟩
      obtain ⟨hj, rfl⟩ := rngD_get hd
      refine ⟨_, rfl, ?_⟩
      have ej : (0 : Int) + (j : Nat) = (j : Int) := by omega
      rw [ej]
      have e2j : (2 : Int) + (j : Int) = ((2 + j : Nat) : Int) := by omega
      have e5j : (5 : Int) + (j : Int) = ((5 + j : Nat) : Int) := by omega
      have i2 := i1 t xt (2 + j) (by omega)
      obtain ⟨x, ex, xl⟩ := xyz_at (ds.getD (2 + j) 0) t
      refine wp_nx (σ1 := [some (.loc n), some (.loc st.length), some (.int jj), some (.loc s.length), some (.loc s1.length), some (.int (j : Int)), some (.str x), x7]) (st1 := t)
        (by simp only [asgS_eq, consF_eq, nilF_eq, binF_eq, appF_eq, varF_eq, cstF_eq, bnd_some, List.getElem?_cons_zero, List.getElem?_cons_succ, List.set_cons_succ, List.set_cons_zero, addO_int, e2j, i2, intOf_int, modO_int, show cPos (ds.getD (2 + j) 0) 3 = true from rfl, if_true, ex, nmG_eq, Option.map_some]) ?_
      obtain ⟨t2, e2, x2', g2⟩ := names_comp (σ := [some (.loc n), some (.loc st.length), some (.int jj), some (.loc s.length), some (.loc s1.length), some (.int (j : Int)), some (.str x), x7]) (getL_of ht) (by omega) rfl (show 7 < 8 by omega)
      refine wp_if (t := !decide (x ∈ tch.map Prod.fst)) (st1 := t2) ?_ (fun hx => ?_) (fun _ => ?_)
      · simp only [cmpT_eq, binF_eq, varF_eq, bnd_some, List.getElem?_cons_zero, List.getElem?_cons_succ, e2, in_strsM true g2, truth_bl, Option.map_some, Bool.bne_true]
      · have hx' : x ∉ tch.map Prod.fst := by simpa using hx
        have i5 := i1 t2 (xt.trans x2') (5 + j) (by omega)
        have ht2 := x2'.at ht
        have hL : (tch.map tD).length < LIM := by rw [List.length_map]; show tch.length < 1000000; omega
        have l2 : ([.str x, .bl (decide (ds.getD (5 + j) 0 % 2 = 0))] : List D).length ≤ LIM := by show 2 ≤ 1000000; omega
        refine wp_ex (d := .non) (st1 := t2.set s1.length (.lst ((tch ++ [(x, decide (ds.getD (5 + j) 0 % 2 = 0))]).map tD))) ?_ ⟨tch ++ [(x, decide (ds.getD (5 + j) 0 % 2 = 0))], some (.int (j : Int)), some (.str x), x7, by simp; omega, ?_, ?_, (xt.trans x2').set (Nat.le_refl _), ?_, rfl⟩
        · simp only [bmF_eq, varF_eq, bnd_some, List.getElem?_cons_zero, List.getElem?_cons_succ, isTy_list, getL_of ht2, Option.isSome_some, if_true, consF_eq, nilF_eq, tupF_eq, binF_eq, appF_eq, cstF_eq, addO_int, e5j, i5, intOf_int, modO_int, show cPos (ds.getD (5 + j) 0) 2 = true from rfl, eqO_int, l2, appendO_eq, getM_of ht2, hL, List.map_append, List.map_cons, List.map_nil, tD, Bool.bne_false]
        · rw [List.map_append, List.nodup_append]
          refine ⟨tn, by simp, fun a ha b hb => ?_⟩
          have : b = x := by simpa using hb
          rintro rfl
          exact hx' (this ▸ ha)
        · intro q hq
          rcases List.mem_append.mp hq with z | z
          · exact tsg q z
          · rw [List.mem_singleton.mp z]; exact xl
        · exact List.getElem?_set_self (List.getElem?_eq_some_iff.mp ht2).1
      · exact wp_skip ⟨tch, some (.int (j : Int)), some (.str x), x7, by omega, tn, tsg, xt.trans x2', x2'.at ht, rfl⟩
    · rintro σ t ⟨tch, x5, x6, x7, tl, tn, tsg, xt, ht, rfl⟩
      rw [rngD_len] at tl
      have j0 := i1 t xt 0 (by omega)
      have j8 := i1 t xt 8 (by omega)
      have j9 := i1 (t ++ [.lst [.non, .non, .str "check"]]) (xt.trans (Ext.app _)) 9 (by omega)
      generalize ds.getD 0 0 = d0 at j0
      generalize ds.getD 8 0 = d8 at j8
      generalize ds.getD 9 0 = d9 at j9
      have j0' : ixO (.loc s.length) (.int 0) t = some (.int d0, t) := j0
      have j8' : ixO (.loc s.length) (.int 8) t = some (.int d8, t) := j8
      have j9' : ixO (.loc s.length) (.int 9) (t ++ [.lst [.non, .non, .str "check"]]) = some (.int d9, t ++ [.lst [.non, .non, .str "check"]]) := j9
      have hw : ∃ w : D, ixO (.loc t.length) (.int (d9 % 3)) (t ++ [.lst [.non, .non, .str "check"]]) = some (w, t ++ [.lst [.non, .non, .str "check"]]) ∧ (w = .non ∨ w = .str "check") := by
        have h3 : d9 % 3 = 0 ∨ d9 % 3 = 1 ∨ d9 % 3 = 2 := by omega
        rcases h3 with z | z | z <;> rw [z]
        · exact ⟨.non, by simp only [ixO_loc, new_get, at0, Option.map_some], .inl rfl⟩
        · exact ⟨.non, by simp only [ixO_loc, new_get, at1, Option.map_some], .inl rfl⟩
        · exact ⟨.str "check", by simp only [ixO_loc, new_get, at2, Option.map_some], .inr rfl⟩
      obtain ⟨w, ew, okw⟩ := hw
      have hSt : (t ++ [OB.lst [.non, .non, .str "check"]])[st.length]? = some (.lst (S.map Stp.d)) := (xt.trans (Ext.app _)).at hS1
      have hL : (S.map Stp.d).length < LIM := by rw [List.length_map]; show S.length < 1000000; omega
      have l3 : ([.non, .non, .str "check"] : List D).length ≤ LIM := by show 3 ≤ 1000000; omega
      have l4 : ([.int (d0 % 3), .int (d8 % 4), .tup (tch.map tD), w] : List D).length ≤ LIM := by show 4 ≤ 1000000; omega
      refine wp_ex (d := .non) (st1 := (t ++ [OB.lst [.non, .non, .str "check"]]).set st.length (.lst ((S ++ [Stp.mk (d0 % 3) (d8 % 4) tch w]).map Stp.d))) ?_ ⟨S ++ [Stp.mk (d0 % 3) (d8 % 4) tch w], _, _, _, _, _, _, by simp [hl], ?_, ((xs1.trans xt).trans (Ext.app _)).set (Nat.le_refl _), List.getElem?_set_self (List.getElem?_eq_some_iff.mp hSt).1, rfl⟩
      · simp only [bmF_eq, varF_eq, bnd_some, List.getElem?_cons_zero, List.getElem?_cons_succ, isTy_list, getL_of (xt.at hS1), Option.isSome_some, if_true, consF_eq, nilF_eq, tupF_eq, lstF_eq, binF_eq, appF_eq, cstF_eq, j0', j8', j9', intOf_int, modO_int, show cPos d0 3 = true from rfl, show cPos d8 4 = true from rfl, show cPos d9 3 = true from rfl, tupleO_loc, getL_of ht, Option.map_some, l3, l4, ew, appendO_eq, getM_of hSt, hL, List.map_append, List.map_cons, List.map_nil, Stp.d]
      · intro q hq
        rcases List.mem_append.mp hq with z | z
        · exact hok q z
        · rw [List.mem_singleton.mp z]
          exact ⟨show 0 ≤ d0 % 3 by omega, show d0 % 3 < 3 by omega, show 0 ≤ d8 % 4 by omega, show d8 % 4 < 4 by omega, show tch.length ≤ 2 by omega, tn, tsg, okw⟩
  · rintro σ s ⟨S, x2, x3, x4, x5, x6, x7, hl, hok, hx, hS, rfl⟩
    rw [rngD_len] at hl
    exact wp_ret (d := .tup (S.map Stp.d)) (st1 := s) (by simp only [appF_eq, consF_eq, nilF_eq, varF_eq, bnd_some, List.getElem?_cons_zero, List.getElem?_cons_succ, tupleO_loc, getL_of hS, Option.map_some]) ⟨S, by omega, hok, rfl, hx⟩
end Lw

namespace Lw
open PySem L2 Iv
/-! ### pieces of code -/
structure I52 where
  w : Str
  r : List D
def I52.d (i : I52) : D := .tup (.str i.w :: i.r)
def addT : D := .tup [.str "op", .str "+", .tup [.str "reg", .str "a"], .tup [.str "num", .int 1]]
def lessT : D := .tup [.str "op", .str "<", .tup [.str "reg", .str "a"], .tup [.str "num", .int 2]]
def pcs (n : Int) : List (List I52) := [
  [⟨"get", [.str "a", .str "x"]⟩, ⟨"put", [.str "x", addT]⟩],
  [⟨"add", [.str "x", .tup [.str "num", .int 1]]⟩],
  [⟨"put", [.str "x", .tup [.str "num", .int 2]]⟩],
  [⟨"get", [.str "b", .str "y"]⟩],
  [⟨"lock", [.str "m"]⟩, ⟨"add", [.str "y", .tup [.str "num", .int 1]]⟩, ⟨"unlock", [.str "m"]⟩],
  [⟨"lock", [.str "m"]⟩, ⟨"lock", [.str "n"]⟩],
  [⟨"lock", [.str "n"]⟩, ⟨"lock", [.str "m"]⟩],
  [⟨"lock", [.str "m"]⟩, ⟨"wait", [.str "w"]⟩, ⟨"unlock", [.str "m"]⟩],
  [⟨"notify", [.str "w"]⟩],
  [⟨"lock", [.str "m"]⟩, ⟨"notifyall", [.str "w"]⟩, ⟨"unlock", [.str "m"]⟩],
  [⟨"send", [.str "q", .tup [.str "num", .int 3]]⟩],
  [⟨"take", [.str "a", .str "q"]⟩],
  [⟨"get", [.str "a", .str "x"]⟩, ⟨"check", [lessT]⟩],
  [⟨"begin", []⟩, ⟨"get", [.str "a", .str "x"]⟩, ⟨"put", [.str "y", addT]⟩, ⟨"end", []⟩],
  [⟨"unlock", [.str "m"]⟩],
  [⟨"add", [.str "y", .tup [.str "num", .int 99]]⟩],
  [⟨"let", [.str "a", addT]⟩],
  [⟨"go", [.int (n + 2), .tup [.str "reg", .str "a"]]⟩, ⟨"put", [.str "y", addT]⟩],
  [⟨"begin", []⟩, ⟨"add", [.str "x", .tup [.str "num", .int 1]]⟩, ⟨"add", [.str "y", .tup [.str "num", .int 1]]⟩, ⟨"end", []⟩],
  [⟨"put", [.str "y", .tup [.str "reg", .str "a"]]⟩],
  [⟨"stop", []⟩],
  [⟨"go", [.int 0, .non]⟩],
  [⟨"go", [.int 0, .tup [.str "reg", .str "a"]]⟩],
  [⟨"go", [.int 1, .tup [.str "num", .int 1]]⟩, ⟨"get", [.str "a", .str "x"]⟩]]
/-- lists that are made one behind the other -/
def Lits (σ : Sl) (g : SA) (xss : List (List D)) : Prop := ∀ s : Sto, ∃ (s2 : Sto) (ns : List Nat), g σ s = some (ns.map .loc, s2) ∧ Ext s s2 ∧ ns.length = xss.length ∧ ∀ (i n : Nat) (xs : List D), ns[i]? = some n → xss[i]? = some xs → s2[n]? = some (.lst xs) ∧ s.length ≤ n
theorem lits_nil {σ : Sl} : Lits σ nilF [] := fun s => ⟨s, [], rfl, Ext.refl, rfl, fun i n xs h => by simp at h⟩
theorem lits_cons {σ : Sl} {g h : SA} {xs : List D} {xss : List (List D)} (hg : ∀ s, g σ s = some (xs, s)) (hl : xs.length ≤ 1000) (hh : Lits σ h xss) : Lits σ (consF (lstF g) h) (xs :: xss) := fun s => by
  obtain ⟨s2, ns, e, x, hn, hi⟩ := hh (s ++ [.lst xs])
  have x1 : Ext s (s ++ [OB.lst xs]) := Ext.app _
  refine ⟨s2, s.length :: ns, ?_, x1.trans x, by simp [hn], fun i n ys h1 h2 => ?_⟩
  · have hl2 : xs.length ≤ LIM := by show xs.length ≤ 1000000; omega
    simp only [consF_eq, lstF_eq, hg, bnd_some, if_pos hl2, e]
    rfl
  · cases i with
    | zero =>
      cases h1; cases h2
      exact ⟨x.at (by simp), Nat.le_refl _⟩
    | succ i =>
      have h3 := hi i n ys (by simpa using h1) (by simpa using h2)
      have h4 := h3.2
      rw [List.length_append] at h4
      exact ⟨h3.1, by omega⟩
def PieceOk (φ : Fx) : Prop := ∀ (v n : Int) (st : Sto), ∃ (k m : Nat) (l : List I52) (st2 : Sto), φ [.int v, .int n] st = some (.loc m, st2) ∧ Ext st st2 ∧ (pcs n)[k]? = some l ∧ st2[m]? = some (.lst (l.map I52.d)) ∧ st.length ≤ m
theorem piece_pick {v n : Int} {st : Sto} {g : SA} {Q : R → Sto → Prop} (hg : Lits [some (.int v), some (.int n), some addT, some lessT, none] g ((pcs n).map fun l => l.map I52.d))
    (hQ : ∀ (k m : Nat) (l : List I52) (s : Sto), Ext st s → (pcs n)[k]? = some l → s[m]? = some (.lst (l.map I52.d)) → st.length ≤ m → Q (.ret (.loc m)) s) :
    Wp (seqS (asgS (nmG 4) (lstF g)) (retS (binF ixO (varF 4) (binF modO (appF intOf (consF (varF 0) nilF)) (cstF (.int 24))))) [some (.int v), some (.int n), some addT, some lessT, none] st) Q := by
  suffices q : ∃ (k m : Nat) (l : List I52) (s : Sto), seqS (asgS (nmG 4) (lstF g)) (retS (binF ixO (varF 4) (binF modO (appF intOf (consF (varF 0) nilF)) (cstF (.int 24))))) [some (.int v), some (.int n), some addT, some lessT, none] st = some (.ret (.loc m), s) ∧ Ext st s ∧ (pcs n)[k]? = some l ∧ s[m]? = some (.lst (l.map I52.d)) ∧ st.length ≤ m by
    obtain ⟨k, m, l, s, e, h1, h2, h3, h4⟩ := q
    exact ⟨_, _, e, hQ k m l s h1 h2 h3 h4⟩
  obtain ⟨s2, ns, e, x, hn, hi⟩ := hg st
  have hn24 : ns.length = 24 := by rw [hn, List.length_map]; rfl
  have hl : (ns.map D.loc).length ≤ LIM := by rw [List.length_map, hn24]; decide
  have h0 : 0 ≤ v % 24 := Int.emod_nonneg _ (by decide)
  have h1 : v % 24 < 24 := Int.emod_lt_of_pos _ (by decide)
  obtain ⟨k, hk⟩ : ∃ k : Nat, (k : Int) = v % 24 := ⟨(v % 24).toNat, by omega⟩
  have hk24 : k < ns.length := by omega
  have hp : k < (pcs n).length := by show k < 24; omega
  have hni : ns[k]? = some ns[k] := List.getElem?_eq_getElem hk24
  have hpi : (pcs n)[k]? = some (pcs n)[k] := List.getElem?_eq_getElem hp
  obtain ⟨g1, g2⟩ := hi k _ _ hni (by rw [List.getElem?_map, hpi]; rfl)
  refine ⟨k, ns[k], (pcs n)[k], s2 ++ [.lst (ns.map .loc)], ?_, x.trans (Ext.app _), hpi, (Ext.app _).at g1, g2⟩
  rw [seq_nx (σ1 := [some (.int v), some (.int n), some addT, some lessT, some (.loc s2.length)]) (st1 := s2 ++ [.lst (ns.map .loc)]) (by rw [asgS_eq, lstF_eq, e, bnd_some, if_pos hl]; rfl)]
  have i4 : ixO (.loc s2.length) (.int (v % 24)) (s2 ++ [.lst (ns.map .loc)]) = some (.loc ns[k], s2 ++ [.lst (ns.map .loc)]) := by
    rw [ixO_loc, new_get, ← hk]
    dsimp only
    rw [atI_nat (by rw [List.getElem?_map, hni]; rfl)]
    rfl
  have cp : cPos v 24 = true := rfl
  simp only [retS_eq, binF_eq, varF_eq, cstF_eq, appF_eq, consF_eq, nilF_eq, bnd_some, List.getElem?_cons_zero, List.getElem?_cons_succ, intOf_int, modO_int, cp, if_true, i4]

theorem piece_ok : PieceOk f__law_piece := by
  intro v n st
  suffices w : ∃ d s, f__law_piece [.int v, .int n] st = some (d, s) ∧ ∃ (k m : Nat) (l : List I52), d = .loc m ∧ Ext st s ∧ (pcs n)[k]? = some l ∧ s[m]? = some (.lst (l.map I52.d)) ∧ st.length ≤ m by
    obtain ⟨d, s, e, k, m, l, rfl, r⟩ := w
    exact ⟨k, m, l, s, e, r⟩
  refine wp_run rfl ?_
  have hsl : List.map some [D.int v, D.int n] ++ List.replicate (5 - 2) none = [some (.int v), some (.int n), none, none, none] := rfl
  rw [hsl]
  unfold b__law_piece
  refine wp_nx (σ1 := [some (.int v), some (.int n), some addT, none, none]) (st1 := st) rfl ?_
  refine wp_nx (σ1 := [some (.int v), some (.int n), some addT, some lessT, none]) (st1 := st) rfl ?_
  refine piece_pick ?_ (fun k m l s h1 h2 h3 h4 => ⟨k, m, l, rfl, h1, h2, h3, h4⟩)
  show Lits _ _ [_, _, _, _, _, _, _, _, _, _, _, _, _, _, _, _, _, _, _, _, _, _, _, _]
  iterate 17 (refine lits_cons (fun s => rfl) (by decide) ?_)
  refine lits_cons (fun s => by simp [LIM, addT, I52.d]) (by simp) ?_
  iterate 6 (refine lits_cons (fun s => rfl) (by decide) ?_)
  exact lits_nil
end Lw

namespace Lw
open PySem L2 Iv
/-! ### what the instructions of the pieces name -/
def vars52 : List Str := ["x", "y", "zz"]
inductive Gd52 : I52 → Prop
  | get (a x : Str) : Gd52 ⟨"get", [.str a, .str x]⟩
  | put (x : Str) (t : D) : Gd52 ⟨"put", [.str x, t]⟩
  | add (x : Str) (t : D) : Gd52 ⟨"add", [.str x, t]⟩
  | one {w x : Str} (h : w ∈ (["lock", "unlock", "wait", "notify", "notifyall"] : List Str)) (hx : x ∉ vars52) : Gd52 ⟨w, [.str x]⟩
  | send {x : Str} (t : D) (hx : x ∉ vars52) : Gd52 ⟨"send", [.str x, t]⟩
  | take (a : Str) {x : Str} (hx : x ∉ vars52) : Gd52 ⟨"take", [.str a, .str x]⟩
  | check (t : D) : Gd52 ⟨"check", [t]⟩
  | leti (a : Str) (t : D) : Gd52 ⟨"let", [.str a, t]⟩
  | go (k : Int) (t : D) : Gd52 ⟨"go", [.int k, t]⟩
  | bare {w : Str} (h : w ∈ (["begin", "end", "stop"] : List Str)) : Gd52 ⟨w, []⟩
theorem pcs_good (n : Int) : ∀ l ∈ pcs n, ∀ i ∈ l, Gd52 i := by
  intro l hl i hi
  unfold pcs at hl
  have o : ∀ {w x : Str}, decide (w ∈ (["lock", "unlock", "wait", "notify", "notifyall"] : List Str)) = true → decide (x ∈ vars52) = false → Gd52 ⟨w, [.str x]⟩ := fun h hx => .one (of_decide_eq_true h) (of_decide_eq_false hx)
  have q : decide (("q" : Str) ∈ vars52) = false := by decide +kernel
  have b : ∀ {w : Str}, decide (w ∈ (["begin", "end", "stop"] : List Str)) = true → Gd52 ⟨w, []⟩ := fun h => .bare (of_decide_eq_true h)
  simp only [List.mem_cons, List.not_mem_nil, or_false] at hl
  rcases hl with rfl | rfl | rfl | rfl | rfl | rfl | rfl | rfl | rfl | rfl | rfl | rfl | rfl | rfl | rfl | rfl | rfl | rfl | rfl | rfl | rfl | rfl | rfl | rfl <;> (
    simp only [List.mem_cons, List.not_mem_nil, or_false] at hi
    first
      | (rcases hi with rfl | rfl | rfl | rfl <;> first
          | exact .get _ _ | exact .put _ _ | exact .add _ _ | exact .check _ | exact .leti _ _ | exact .go _ _ | exact o (by decide +kernel) (by decide +kernel) | exact b (by decide +kernel))
      | (rcases hi with rfl | rfl | rfl <;> first
          | exact .get _ _ | exact .put _ _ | exact .add _ _ | exact .check _ | exact .leti _ _ | exact .go _ _ | exact o (by decide +kernel) (by decide +kernel) | exact b (by decide +kernel))
      | (rcases hi with rfl | rfl <;> first
          | exact .get _ _ | exact .put _ _ | exact .add _ _ | exact .check _ | exact .leti _ _ | exact .go _ _ | exact o (by decide +kernel) (by decide +kernel) | exact b (by decide +kernel))
      | (subst hi; first
          | exact .get _ _ | exact .put _ _ | exact .add _ _ | exact .check _ | exact .leti _ _ | exact .go _ _ | exact o (by decide +kernel) (by decide +kernel) | exact .send _ (of_decide_eq_false q) | exact .take _ (of_decide_eq_false q) | exact b (by decide +kernel)))
/-- the variable that an instruction names -/
def nm52 (i : I52) : Option Str := if i.w = "get" then (match i.r with
    | [_, .str x] => some x
    | _ => none) else if i.w = "put" ∨ i.w = "add" then (match i.r with
    | .str x :: _ => some x
    | _ => none) else none
def oD : Option Str → D
  | none => .non
  | some x => .str x
end Lw

namespace Lw
open PySem L2 Iv
theorem ix0_i (i : I52) (s : Sto) : ixO i.d (.int 0) s = some (.str i.w, s) := by
  unfold I52.d
  rw [ixO_tup, at0]; rfl
theorem named_get {a x : Str} (st : Sto) : f__law_named [I52.d ⟨"get", [.str a, .str x]⟩] st = some (.str x, st) := by
  refine run_ret rfl ?_
  unfold b__law_named
  refine seq_ret ?_
  have i0 := ix0_i ⟨"get", [.str a, .str x]⟩ st
  have i2 : ixO (I52.d ⟨"get", [.str a, .str x]⟩) (.int 2) st = some (.str x, st) := rfl
  have hsl : List.map some [I52.d ⟨"get", [.str a, .str x]⟩] ++ List.replicate (1 - 1) none = [some (I52.d ⟨"get", [.str a, .str x]⟩)] := rfl
  rw [hsl]
  simp only [ifS_eq, cmpT_eq, binF_eq, varF_eq, cstF_eq, bnd_some, List.getElem?_cons_zero, i0, eqO_str, decide_true, Bool.bne_false, truth_bl, Option.map_some, if_true, retS_eq, i2]
def pa : List Str := ["put", "add"]
theorem ne_in {w k : Str} {l : List Str} (h : w ∈ l) (hk : decide (k ∈ l) = false) : w ≠ k := fun e => of_decide_eq_false hk (e ▸ h)
theorem named_head {i : I52} (h : i.w ≠ "get") (st : Sto) : ∃ b : SS, b = seqS (ifS (cmpT (inO false) (binF ixO (varF 0) (cstF (.int 0))) (lstF (consF (cstF (.str "put")) (consF (cstF (.str "add")) nilF)))) (retS (binF ixO (varF 0) (cstF (.int 1)))) nxS) (retS (cstF .non)) ∧ b__law_named [some i.d] st = b [some i.d] st := by
  refine ⟨_, rfl, ?_⟩
  unfold b__law_named
  have hg : decide (i.w = Str.ofString "get") = false := decide_eq_false h
  rw [seq_nx (σ1 := [some i.d]) (st1 := st) (by simp only [ifS_eq, cmpT_eq, binF_eq, varF_eq, cstF_eq, bnd_some, List.getElem?_cons_zero, ix0_i, eqO_str, hg, Bool.bne_false, truth_bl, Option.map_some, Bool.false_eq_true, if_false]; rfl)]
theorem pa_list (i : I52) (st : Sto) : lstF (consF (cstF (.str "put")) (consF (cstF (.str "add")) nilF)) [some i.d] st = some (.loc st.length, st ++ [.lst (pa.map .str)]) := rfl
theorem named_use {i : I52} {x : Str} {t : D} (h : i.w ≠ "get") (hw : decide (i.w ∈ pa) = true) (hr : i.r = [.str x, t]) (st : Sto) : f__law_named [i.d] st = some (.str x, st ++ [.lst (pa.map .str)]) := by
  refine run_ret rfl ?_
  obtain ⟨b, hb, e⟩ := named_head h st
  show b__law_named [some i.d] st = _
  rw [e, hb]
  have q := in_strsM (w := i.w) (l := pa) (st := st ++ [OB.lst (pa.map .str)]) (k := st.length) false (new_get st _)
  have hl := pa_list i st
  rw [hw, Bool.bne_false] at q
  generalize st ++ [OB.lst (pa.map .str)] = s2 at q hl
  refine seq_ret ?_
  have i1 : ixO i.d (.int 1) s2 = some (.str x, s2) := by
    unfold I52.d
    rw [hr, ixO_tup, at1]; rfl
  rw [ifS_eq, cmpT_eq, binF_eq]
  simp only [binF_eq, varF_eq, cstF_eq, bnd_some, List.getElem?_cons_zero, ix0_i, hl, q, truth_bl, Option.map_some, if_true, retS_eq, i1]
theorem named_no {i : I52} (h : i.w ≠ "get") (hw : decide (i.w ∈ pa) = false) (st : Sto) : f__law_named [i.d] st = some (.non, st ++ [.lst (pa.map .str)]) := by
  refine run_ret rfl ?_
  obtain ⟨b, hb, e⟩ := named_head h st
  show b__law_named [some i.d] st = _
  rw [e, hb]
  have q := in_strsM (w := i.w) (l := pa) (st := st ++ [OB.lst (pa.map .str)]) (k := st.length) false (new_get st _)
  have hl := pa_list i st
  rw [hw, Bool.bne_false] at q
  generalize st ++ [OB.lst (pa.map .str)] = s2 at q hl
  rw [seq_nx (σ1 := [some i.d]) (st1 := s2) (by
    rw [ifS_eq, cmpT_eq, binF_eq]
    simp only [binF_eq, varF_eq, cstF_eq, bnd_some, List.getElem?_cons_zero, ix0_i, hl, q, truth_bl, Option.map_some, Bool.false_eq_true, if_false]; rfl)]
  rfl
theorem named_ok {i : I52} (h : Gd52 i) (st : Sto) : ∃ st2, f__law_named [i.d] st = some (oD (nm52 i), st2) ∧ Ext st st2 := by
  have nn : ∀ {w : Str} {r : List D}, w ≠ "get" → decide (w ∈ pa) = false → nm52 ⟨w, r⟩ = none := fun {w r} h1 h2 => by
    have h3 : ¬ (w = "put" ∨ w = "add") := by
      intro e
      apply of_decide_eq_false h2
      rcases e with rfl | rfl <;> decide +kernel
    show (if w = "get" then _ else _) = _
    rw [if_neg h1]
    show (if w = "put" ∨ w = "add" then _ else _) = _
    rw [if_neg h3]
  have no : ∀ {w : Str} {r : List D}, w ≠ "get" → decide (w ∈ pa) = false → ∃ st2, f__law_named [I52.d ⟨w, r⟩] st = some (oD (nm52 ⟨w, r⟩), st2) ∧ Ext st st2 := fun {w r} h1 h2 => ⟨_, by
    rw [nn h1 h2]
    exact named_no (i := ⟨w, r⟩) h1 h2 st, Ext.app _⟩
  cases h with
  | get a x =>
    refine ⟨st, ?_, Ext.refl⟩
    rw [named_get]
    have : nm52 ⟨"get", [.str a, .str x]⟩ = some x := if_pos rfl
    rw [this]; rfl
  | put x t =>
    refine ⟨st ++ [.lst (pa.map .str)], ?_, Ext.app _⟩
    rw [named_use (i := ⟨"put", [.str x, t]⟩) (by show ("put" : Str) ≠ "get"; decide +kernel) (by show decide (("put" : Str) ∈ pa) = true; decide +kernel) rfl]
    have : nm52 ⟨"put", [.str x, t]⟩ = some x := (if_neg (show ¬ ("put" : Str) = "get" by decide +kernel)).trans (if_pos (.inl rfl))
    rw [this]; rfl
  | add x t =>
    refine ⟨st ++ [.lst (pa.map .str)], ?_, Ext.app _⟩
    rw [named_use (i := ⟨"add", [.str x, t]⟩) (by show ("add" : Str) ≠ "get"; decide +kernel) (by show decide (("add" : Str) ∈ pa) = true; decide +kernel) rfl]
    have : nm52 ⟨"add", [.str x, t]⟩ = some x := (if_neg (show ¬ ("add" : Str) = "get" by decide +kernel)).trans (if_pos (.inr rfl))
    rw [this]; rfl
  | one h hx =>
    refine no (ne_in h (by decide +kernel)) (decide_eq_false fun hm => ?_)
    unfold pa at hm
    simp only [List.mem_cons, List.not_mem_nil, or_false] at hm
    rcases hm with e | e
    · exact ne_in h (by decide +kernel) e
    · exact ne_in h (by decide +kernel) e
  | bare h =>
    refine no (ne_in h (by decide +kernel)) (decide_eq_false fun hm => ?_)
    unfold pa at hm
    simp only [List.mem_cons, List.not_mem_nil, or_false] at hm
    rcases hm with e | e
    · exact ne_in h (by decide +kernel) e
    · exact ne_in h (by decide +kernel) e
  | _ => exact no (by decide +kernel) (by decide +kernel)
/-- the program's thing_of, against a variable's name -/
def th52 (i : I52) : D := match lkp c_NAME_AT i.w with
  | some (.int k) => (atI (.str i.w :: i.r) k).getD .non
  | _ => .non
end Lw

namespace Lw
open PySem L2 Iv
theorem lkp_c (k : Str) (d : D) (l : List (Str × D)) (z : Str) : lkp ((k, d) :: l) z = if k = z then some d else lkp l z := by
  show (if (k == z) = true then some d else lkp l z) = _
  by_cases h : k = z
  · subst h; rw [if_pos (by simp), if_pos rfl]
  · rw [if_neg (by simpa using h), if_neg h]
theorem th_run {i : I52} {d e : D} {st : Sto} (hl : (lkp c_NAME_AT i.w).getD .non = d) (h : (d = .non ∧ e = .non) ∨ ∃ k : Int, d = .int k ∧ ixO i.d (.int k) st = some (e, st)) : f_thing_of [i.d] st = some (e, st) := by
  refine run_ret rfl ?_
  unfold b_thing_of
  have hsl : List.map some [i.d] ++ List.replicate (2 - 1) none = [some i.d, none] := rfl
  rw [hsl, seq_nx (σ1 := [some i.d, some d]) (st1 := st) (by
    simp only [asgS_eq, appF_eq, consF_eq, nilF_eq, binF_eq, varF_eq, cstF_eq, bnd_some, List.getElem?_cons_zero, ix0_i, dgetO_1, hl]; rfl)]
  rcases h with ⟨rfl, rfl⟩ | ⟨k, rfl, hx⟩
  · rfl
  · simp only [retS_eq, ifF_eq, cmpT_eq, binF_eq, varF_eq, cstF_eq, bnd_some, List.getElem?_cons_zero, List.getElem?_cons_succ, isNO_non, show (nonD (D.int k) != false) = false from rfl, truth_bl, Option.map_some, Bool.false_eq_true, if_false, hx]
theorem oth_no {x y : Str} (h : x ∉ vars52) (hy : y ∈ vars52) (s : Sto) : eqO false (.str x) (.str y) s = some (.bl false, s) := by
  have e : decide (x = y) = false := decide_eq_false fun e => h (e ▸ hy)
  simp only [eqO_str, e, Bool.bne_false]
theorem non_no {y : Str} (s : Sto) : eqO false .non (.str y) s = some (.bl false, s) := by
  rfl
theorem thing_ok {i : I52} (h : Gd52 i) (st : Sto) : ∃ d : D, f_thing_of [i.d] st = some (d, st) ∧ ∀ y ∈ vars52, ∀ s, eqO false d (.str y) s = some (.bl (decide (nm52 i = some y)), s) := by
  have nn : ∀ {w : Str} {r : List D}, w ≠ "get" → w ≠ "put" → w ≠ "add" → nm52 ⟨w, r⟩ = none := fun {w r} h1 h2 h3 => by
    show (if w = "get" then _ else _) = _
    rw [if_neg h1]
    show (if w = "put" ∨ w = "add" then _ else _) = _
    rw [if_neg (by rintro (e | e); exact h2 e; exact h3 e)]
  have su : ∀ (x y : Str) (s : Sto), eqO false (.str x) (.str y) s = some (.bl (decide (some x = some y)), s) := fun x y s => by
    simp only [eqO_str, Bool.bne_false, Option.some.injEq]
  have no : ∀ {i : I52} {d : D}, nm52 i = none → (∀ y ∈ vars52, ∀ s, eqO false d (.str y) s = some (.bl false, s)) → ∀ y ∈ vars52, ∀ s, eqO false d (.str y) s = some (.bl (decide (nm52 i = some y)), s) := fun {i d} h1 h2 y hy s => by
    rw [h2 y hy s, h1]; rfl
  cases h with
  | get a x =>
    refine ⟨.str x, th_run (d := .int 2) (by simp [c_NAME_AT, lkp_c, lkp, ofs_inj]) (.inr ⟨2, rfl, rfl⟩), fun y hy s => ?_⟩
    rw [show nm52 ⟨"get", [.str a, .str x]⟩ = some x from if_pos rfl]
    exact su x y s
  | put x t =>
    refine ⟨.str x, th_run (d := .int 1) (by simp [c_NAME_AT, lkp_c, lkp, ofs_inj]) (.inr ⟨1, rfl, rfl⟩), fun y hy s => ?_⟩
    rw [show nm52 ⟨"put", [.str x, t]⟩ = some x from (if_neg (show ¬ ("put" : Str) = "get" by decide +kernel)).trans (if_pos (.inl rfl))]
    exact su x y s
  | add x t =>
    refine ⟨.str x, th_run (d := .int 1) (by simp [c_NAME_AT, lkp_c, lkp, ofs_inj]) (.inr ⟨1, rfl, rfl⟩), fun y hy s => ?_⟩
    rw [show nm52 ⟨"add", [.str x, t]⟩ = some x from (if_neg (show ¬ ("add" : Str) = "get" by decide +kernel)).trans (if_pos (.inr rfl))]
    exact su x y s
  | @one w x h hx =>
    refine ⟨.str x, th_run (d := .int 1) ?_ (.inr ⟨1, rfl, rfl⟩), no (nn (ne_in h (by decide +kernel)) (ne_in h (by decide +kernel)) (ne_in h (by decide +kernel))) fun y hy s => oth_no hx hy s⟩
    simp only [List.mem_cons, List.not_mem_nil, or_false] at h
    rcases h with rfl | rfl | rfl | rfl | rfl <;> simp [c_NAME_AT, lkp_c, lkp, ofs_inj]
  | @send x t hx => exact ⟨.str x, th_run (d := .int 1) (by simp [c_NAME_AT, lkp_c, lkp, ofs_inj]) (.inr ⟨1, rfl, rfl⟩), no (nn (by decide +kernel) (by decide +kernel) (by decide +kernel)) fun y hy s => oth_no hx hy s⟩
  | @take a x hx => exact ⟨.str x, th_run (d := .int 2) (by simp [c_NAME_AT, lkp_c, lkp, ofs_inj]) (.inr ⟨2, rfl, rfl⟩), no (nn (by decide +kernel) (by decide +kernel) (by decide +kernel)) fun y hy s => oth_no hx hy s⟩
  | check t => exact ⟨.non, th_run (d := .non) (by simp [c_NAME_AT, lkp_c, lkp, ofs_inj]) (.inl ⟨rfl, rfl⟩), no (nn (by decide +kernel) (by decide +kernel) (by decide +kernel)) fun y hy s => non_no s⟩
  | leti a t => exact ⟨.non, th_run (d := .non) (by simp [c_NAME_AT, lkp_c, lkp, ofs_inj]) (.inl ⟨rfl, rfl⟩), no (nn (by decide +kernel) (by decide +kernel) (by decide +kernel)) fun y hy s => non_no s⟩
  | go k t => exact ⟨.non, th_run (d := .non) (by simp [c_NAME_AT, lkp_c, lkp, ofs_inj]) (.inl ⟨rfl, rfl⟩), no (nn (by decide +kernel) (by decide +kernel) (by decide +kernel)) fun y hy s => non_no s⟩
  | @bare w h =>
    refine ⟨.non, th_run (d := .non) ?_ (.inl ⟨rfl, rfl⟩), no (nn (ne_in h (by decide +kernel)) (ne_in h (by decide +kernel)) (ne_in h (by decide +kernel))) fun y hy s => non_no s⟩
    simp only [List.mem_cons, List.not_mem_nil, or_false] at h
    rcases h with rfl | rfl | rfl <;> simp [c_NAME_AT, lkp_c, lkp, ofs_inj]
end Lw

namespace Lw
open PySem L2 Iv
/-! ### what can be guarded -/
def innL : List Str := ["let", "get", "put", "add", "check"]
def inn (i : I52) : Bool := decide (i.w ∈ innL)
def tgt (i : I52) : Option Int := if i.w = "go" then (match i.r with
  | .int k :: _ => some k
  | _ => none) else none
def hit (f l : Nat) (k : Int) : Bool := decide ((f : Int) < k) && decide (k ≤ (l : Int))
def leads (c : List I52) (f l : Nat) : Bool := (c.filterMap tgt).any (hit f l)
def grd (c : List I52) (f l : Nat) : Bool := ((c.drop f).take (l + 1 - f)).all inn && !leads c f l
def ph52 : D → Option D := fun d => match d with
  | .tup (.str w :: .int k :: _) => if w = "go" then some (.int k) else none
  | _ => none
theorem ph_tgt (i : I52) : ph52 i.d = (tgt i).map .int := by
  obtain ⟨w, r⟩ := i
  unfold tgt
  cases r with
  | nil => by_cases h : w = "go" <;> simp [h, ph52, I52.d]
  | cons a r =>
    cases a with
    | int k =>
      show (if w = "go" then some (D.int k) else none) = (if w = "go" then some k else none).map D.int
      by_cases h : w = "go"
      · rw [if_pos h, if_pos h]; rfl
      · rw [if_neg h, if_neg h]; rfl
    | _ =>
      show none = (if w = "go" then none else none : Option Int).map D.int
      by_cases h : w = "go"
      · rw [if_pos h]; rfl
      · rw [if_neg h]; rfl
theorem ph_map : ∀ c : List I52, (c.map I52.d).filterMap ph52 = (c.filterMap tgt).map .int
  | [] => rfl
  | i :: c => by
    have ih := ph_map c
    rw [List.map_cons, List.filterMap_cons, List.filterMap_cons, ph_tgt]
    cases h : tgt i with
    | none => simpa using ih
    | some k => simp [ih]
theorem go_shape {i : I52} (h : Gd52 i) (hw : i.w = "go") : ∃ k t, i = ⟨"go", [.int k, t]⟩ := by
  cases h with
  | go k t => exact ⟨k, t, rfl⟩
  | one h _ => exact absurd hw (ne_in h (by decide +kernel))
  | bare h => exact absurd hw (ne_in h (by decide +kernel))
  | get a x => exact absurd (show ("get" : Str) = "go" from hw) (by decide +kernel)
  | put x t => exact absurd (show ("put" : Str) = "go" from hw) (by decide +kernel)
  | add x t => exact absurd (show ("add" : Str) = "go" from hw) (by decide +kernel)
  | send t _ => exact absurd (show ("send" : Str) = "go" from hw) (by decide +kernel)
  | take a _ => exact absurd (show ("take" : Str) = "go" from hw) (by decide +kernel)
  | check t => exact absurd (show ("check" : Str) = "go" from hw) (by decide +kernel)
  | leti a t => exact absurd (show ("let" : Str) = "go" from hw) (by decide +kernel)
theorem blsD_map : ∀ l : List Bool, blsD (l.map D.bl) = some l
  | [] => rfl
  | b :: l => by
    show (blsD (l.map D.bl)).map (fun bs => b :: bs) = _
    rw [blsD_map l]; rfl
theorem any_ok {all : Bool} {n : Nat} {s : Sto} {l : List Bool} (g : getL s n = some (l.map .bl)) : anyO all [.loc n] s = some (.bl (if all then l.all id else l.any id), s) := by
  unfold anyO
  simp only [g, blsD_map, Option.map_some]
theorem eqF_strM (x y : Str) : eqF (.str x) (.str y) = decide (x = y) := by
  by_cases h : x = y <;> simp [eqF, h]
theorem inF_l (w : Str) : ∀ l : List Str, inF (.str w) (l.map .str) = decide (w ∈ l)
  | [] => rfl
  | x :: l => by
    have ih := inF_l w l
    unfold inF at ih ⊢
    rw [List.map_cons, List.any_cons, ih, eqF_strM]
    by_cases h : x = w
    · subst h; simp
    · have h2 : ¬ w = x := fun e => h e.symm
      simp [h, h2]
theorem in_inner (i : I52) (s : Sto) : inO false (.str i.w) c_INNER s = some (.bl (inn i), s) := by
  have e : inF (.str i.w) (innL.map .str) = inn i := inF_l i.w innL
  rw [← e]
  show some (D.bl (inF (.str i.w) (innL.map .str) != false), s) = _
  rw [Bool.bne_false]
theorem nst_code (l : List I52) : nst (l.map I52.d) = false := by
  cases l with
  | nil => rfl
  | cons i l => rfl
theorem cut_code {c : List I52} {f l : Nat} (h1 : f ≤ l) (h2 : l < c.length) (s : Sto) : cutO (.tup (c.map I52.d)) (some (f : Int)) (some ((l : Int) + 1)) s = some (.tup (((c.drop f).take (l + 1 - f)).map I52.d), s) := by
  have e : cutD (c.map I52.d) (some (f : Int)) (some ((l : Int) + 1)) = ((c.drop f).take (l + 1 - f)).map I52.d := by
    unfold cutD
    have e1 : ((l : Int) + 1) = ((l + 1 : Nat) : Int) := by omega
    rw [e1, HT.sIx_nat, HT.sIx_nat, List.length_map, Nat.min_eq_left (by omega), Nat.min_eq_left (by omega), ← List.map_drop, ← List.map_take]
  rw [cutO_tup, e, nst_code]
  rfl
theorem can_ok {c : List I52} (hc : ∀ i ∈ c, Gd52 i) {f l : Nat} (h1 : f ≤ l) (h2 : l < c.length) (h3 : c.length ≤ 100) (st : Sto) : ∃ st2, f__can_be_guarded [.tup (c.map I52.d), .tup [.int f, .int l]] st = some (.bl (grd c f l), st2) ∧ Ext st st2 := by
  suffices w : ∃ d s, f__can_be_guarded [.tup (c.map I52.d), .tup [.int f, .int l]] st = some (d, s) ∧ (d = .bl (grd c f l) ∧ Ext st s) by
    obtain ⟨d, s, e, rfl, x⟩ := w
    exact ⟨s, e, x⟩
  refine wp_run rfl ?_
  have hsl : List.map some [D.tup (c.map I52.d), .tup [.int f, .int l]] ++ List.replicate (8 - 2) none = [some (.tup (c.map I52.d)), some (.tup [.int f, .int l]), none, none, none, none, none, none] := rfl
  rw [hsl]
  unfold b__can_be_guarded
  obtain ⟨CD, hCD⟩ : ∃ CD, CD = D.tup (c.map I52.d) := ⟨_, rfl⟩
  have hcut : ∀ s, cutO CD (some (f : Int)) (some ((l : Int) + 1)) s = some (.tup (((c.drop f).take (l + 1 - f)).map I52.d), s) := fun s => by rw [hCD]; exact cut_code h1 h2 s
  have hany : ∀ (σ : Sl) s, σ[0]? = some (some CD) → anyI (varF 0) σ s = some (.cns (c.map I52.d), s) := fun σ s h => by
    simp only [anyI, varF_eq, h, bnd_some, hCD]
  rw [← hCD]
  obtain ⟨PD, hPD⟩ : ∃ PD, PD = D.tup [.int f, .int l] := ⟨_, rfl⟩
  refine wp_nx (σ1 := [some CD, some PD, some (.int f), some (.int l), none, none, none, none]) (st1 := st) (by rw [hPD]; rfl) ?_
  have sl : ((c.drop f).take (l + 1 - f)).length ≤ 100 := by rw [List.length_take, List.length_drop]; omega
  have sm : ∀ i ∈ (c.drop f).take (l + 1 - f), i ∈ c := fun i hi => List.mem_of_mem_drop (List.mem_of_mem_take hi)
  unfold grd
  generalize (c.drop f).take (l + 1 - f) = z at hcut sl sm
  obtain ⟨s2, e2, x2, g2⟩ := comp_ok (vs := [5]) (i := anyI (slF cutO (varF 0) (someO (varF 2)) (someO (binF addO (varF 3) (cstF (.int 1)))))) (g := nmG 5) (e := binF (inO false) (binF ixO (varF 5) (cstF (.int 0))) (cstF c_INNER)) (σ := [some CD, some PD, some (.int f), some (.int l), none, none, none, none]) (st := st) (st1 := st) (J := .cns (z.map I52.d)) (xs := z.map I52.d) ((z.map inn).map .bl)
    (by simp only [anyI, slF_eq, someO_eq, binF_eq, varF_eq, cstF_eq, bnd_some, List.getElem?_cons_zero, List.getElem?_cons_succ, addO_int, hcut]) (by rw [List.length_map]; show z.length ≤ 1000000; omega) (by simp) (fun s _ => rfl)
    (fun i x y ex ey s xs => by
      rw [List.getElem?_map] at ex
      rw [List.getElem?_map, List.getElem?_map] at ey
      cases ei : z[i]? with
      | none => rw [ei] at ex; cases ex
      | some I =>
      rw [ei] at ex ey
      cases ex
      cases ey
      refine ⟨[some CD, some PD, some (.int f), some (.int l), none, some I.d, none, none], s, rfl, ?_, Ext.refl⟩
      simp only [binF_eq, varF_eq, cstF_eq, bnd_some, List.getElem?_cons_zero, List.getElem?_cons_succ, ix0_i, in_inner])
  refine wp_nx (σ1 := [some CD, some PD, some (.int f), some (.int l), some (.loc st.length), none, none, none]) (st1 := s2) (by rw [asgS_eq, e2, bnd_some]; rfl) ?_
  obtain ⟨s3, e3, x3, g3⟩ := compF_ok (vs := [5]) (i := anyI (varF 0)) (g := nmG 5) (c := cmpT (eqO false) (binF ixO (varF 5) (cstF (.int 0))) (cstF (.str "go"))) (e := binF ixO (varF 5) (cstF (.int 1))) (σ := [some CD, some PD, some (.int f), some (.int l), some (.loc st.length), none, none, none]) (st := s2) (st1 := s2) (J := .cns (c.map I52.d)) (xs := c.map I52.d) ph52
    (hany _ _ rfl) (by rw [List.length_map]; show c.length ≤ 1000000; omega) (fun s _ => rfl)
    (fun i x ex s xs => by
      rw [List.getElem?_map] at ex
      cases ei : c[i]? with
      | none => rw [ei] at ex; cases ex
      | some I =>
      rw [ei] at ex
      cases ex
      have hg := hc I (List.mem_of_getElem? ei)
      refine ⟨[some CD, some PD, some (.int f), some (.int l), some (.loc st.length), some I.d, none, none], s, rfl, ?_, Ext.refl, fun y hy => ?_⟩
      · have e : (ph52 I.d).isSome = decide (I.w = "go") := by
          by_cases hw : I.w = "go"
          · obtain ⟨k, t, rfl⟩ := go_shape hg hw
            rw [decide_eq_true hw, ph_tgt]
            rfl
          · rw [decide_eq_false hw, ph_tgt, show tgt I = none from if_neg hw]; rfl
        rw [e]
        simp only [cmpT_eq, binF_eq, varF_eq, cstF_eq, bnd_some, List.getElem?_cons_zero, List.getElem?_cons_succ, ix0_i, eqO_str, Bool.bne_false, truth_bl, Option.map_some]
      · have hw : I.w = "go" := by
          apply Classical.byContradiction
          intro hn
          rw [ph_tgt, show tgt I = none from if_neg hn] at hy
          cases hy
        obtain ⟨k, t, rfl⟩ := go_shape hg hw
        rw [ph_tgt, show tgt ⟨"go", [.int k, t]⟩ = some k from if_pos rfl] at hy
        cases hy
        exact ⟨s, rfl, Ext.refl⟩)
  rw [ph_map] at g3
  refine wp_nx (σ1 := [some CD, some PD, some (.int f), some (.int l), some (.loc st.length), none, some (.loc s2.length), none]) (st1 := s3) (by rw [asgS_eq, e3, bnd_some]; rfl) ?_
  have gA : getL s3 st.length = some ((z.map inn).map .bl) := getL_of (x3.at g2)
  have a1 := any_ok (all := true) gA
  unfold leads
  have ll : (c.filterMap tgt).length ≤ c.length := List.length_filterMap_le _ _
  generalize c.filterMap tgt = ks at g3 ll
  obtain ⟨s4, e4, x4, g4⟩ := comp_ok (vs := [7]) (i := anyI (varF 6)) (g := nmG 7) (e := chnF ltO leO (varF 2) (varF 7) (varF 3)) (σ := [some CD, some PD, some (.int f), some (.int l), some (.loc st.length), none, some (.loc s2.length), none]) (st := s3) (st1 := s3) (J := .lst s2.length) (xs := ks.map .int) ((ks.map (hit f l)).map .bl)
    (by simp only [anyI_eq, varF_eq, bnd_some, List.getElem?_cons_zero, List.getElem?_cons_succ, getL_of g3, Option.map_some]) (by rw [List.length_map]; show ks.length ≤ 1000000; omega) (by simp) (fun s x => by rw [items_lst]; exact getL_of (x.at g3))
    (fun i x y ex ey s xs => by
      rw [List.getElem?_map] at ex
      rw [List.getElem?_map, List.getElem?_map] at ey
      cases ei : ks[i]? with
      | none => rw [ei] at ex; cases ex
      | some k =>
      rw [ei] at ex ey
      cases ex
      cases ey
      refine ⟨[some CD, some PD, some (.int f), some (.int l), some (.loc st.length), none, some (.loc s2.length), some (.int k)], s, rfl, ?_, Ext.refl⟩
      by_cases hk : (f : Int) < k
      · simp only [chnF_eq, varF_eq, bnd_some, List.getElem?_cons_zero, List.getElem?_cons_succ, ltO_int, leO_int, decide_eq_true hk, hit, Bool.true_and]
      · simp only [chnF_eq, varF_eq, bnd_some, List.getElem?_cons_zero, List.getElem?_cons_succ, ltO_int, leO_int, decide_eq_false hk, hit, Bool.false_and])
  have a2 := any_ok (all := false) (getL_of g4)
  have ea : (z.map inn).all id = z.all inn := by rw [List.all_map]; rfl
  have eb : (ks.map (hit f l)).any id = ks.any (hit f l) := by rw [List.any_map]; rfl
  simp only [if_true, Bool.false_eq_true, if_false, ea, eb] at a1 a2
  by_cases hz : z.all inn = true
  · rw [hz] at a1 ⊢
    refine wp_ret (d := .bl (!ks.any (hit f l))) (st1 := s4) ?_ ⟨by rw [Bool.true_and], (x2.trans x3).trans x4⟩
    simp only [andF_eq, appF_eq, consF_eq, nilF_eq, varF_eq, bnd_some, List.getElem?_cons_zero, List.getElem?_cons_succ, a1, truth_bl, Option.bind_some, if_true, notF_eq, e4, a2, Option.map_some]
  · have hz' : z.all inn = false := by simpa using hz
    rw [hz'] at a1 ⊢
    refine wp_ret (d := .bl false) (st1 := s3) ?_ ⟨by rw [Bool.false_and], x2.trans x3⟩
    simp only [andF_eq, appF_eq, consF_eq, nilF_eq, varF_eq, bnd_some, List.getElem?_cons_zero, List.getElem?_cons_succ, a1, truth_bl, Option.bind_some, Bool.false_eq_true, if_false]
end Lw

namespace Lw
open PySem L2 Iv
/-! ### the law's look at a span -/
theorem inn_list (i : I52) (σ : Sl) (s : Sto) : lstF (consF (cstF (.str "let")) (consF (cstF (.str "get")) (consF (cstF (.str "put")) (consF (cstF (.str "add")) (consF (cstF (.str "check")) nilF))))) σ s = some (.loc s.length, s ++ [.lst (innL.map .str)]) := rfl
theorem guardable_ok {c : List I52} (hc : ∀ i ∈ c, Gd52 i) {f l : Nat} (h1 : f ≤ l) (h2 : l < c.length) (h3 : c.length ≤ 100) (st : Sto) : ∃ st2, f__law_guardable [.tup (c.map I52.d), .int f, .int l] st = some (.bl (grd c f l), st2) ∧ Ext st st2 := by
  suffices w : ∃ d s, f__law_guardable [.tup (c.map I52.d), .int f, .int l] st = some (d, s) ∧ (d = .bl (grd c f l) ∧ Ext st s) by
    obtain ⟨d, s, e, rfl, x⟩ := w
    exact ⟨s, e, x⟩
  refine wp_run rfl ?_
  have hsl : List.map some [D.tup (c.map I52.d), .int f, .int l] ++ List.replicate (5 - 3) none = [some (.tup (c.map I52.d)), some (.int f), some (.int l), none, none] := rfl
  rw [hsl]
  unfold b__law_guardable
  obtain ⟨CD, hCD⟩ : ∃ CD, CD = D.tup (c.map I52.d) := ⟨_, rfl⟩
  have hlen : ∀ s, lenO [CD] s = some (.int c.length, s) := fun s => by
    rw [hCD]
    have : (c.map I52.d).length = c.length := List.length_map _
    have q : c.length ≤ LIM := by show c.length ≤ 1000000; omega
    simp [this, q]
  have hix : ∀ (k : Nat) (i : I52) s, c[k]? = some i → ixO CD (.int k) s = some (i.d, s) := fun k i s e => by
    rw [hCD, ixO_tup, atI_nat (by rw [List.getElem?_map, e]; rfl)]
    rfl
  have hany : ∀ (σ : Sl) s, σ[0]? = some (some CD) → anyI (varF 0) σ s = some (.cns (c.map I52.d), s) := fun σ s h => by
    simp only [anyI, varF_eq, h, bnd_some, hCD]
  rw [← hCD]
  have t0 : decide ((0 : Int) ≤ (f : Int)) = true := decide_eq_true (by omega)
  have t1 : decide ((f : Int) ≤ (l : Int)) = true := decide_eq_true (by omega)
  have t2 : decide ((l : Int) < (c.length : Int)) = true := decide_eq_true (by omega)
  refine wp_nx (σ1 := [some CD, some (.int f), some (.int l), none, none]) (st1 := st) (by
    simp only [ifS_eq, notT_eq, truF_eq, chn3F_eq, cstF_eq, varF_eq, appF_eq, consF_eq, nilF_eq, bnd_some, List.getElem?_cons_zero, List.getElem?_cons_succ, leO_int, ltO_int, t0, t1, t2, hlen, truth_bl, Option.map_some, Bool.not_true, Bool.false_eq_true, if_false]
    rfl) ?_
  have hz : ∀ (j : Nat) (i : I52), c[f + j]? = some i → j < l + 1 - f → ((c.drop f).take (l + 1 - f))[j]? = some i := fun j i e hj => by
    rw [List.getElem?_take_of_lt hj, List.getElem?_drop, e]
  have hzl : ((c.drop f).take (l + 1 - f)).length = l + 1 - f := by rw [List.length_take, List.length_drop]; omega
  refine wp_seq (wp_for (st1 := st) (xs := rngD f (l + 1 - f)) (fun j σ s => ∃ x3, σ = [some CD, some (.int f), some (.int l), x3, none] ∧ Ext st s ∧ ((c.drop f).take j).all inn = true)
    (by
      have e := rng2_ok (g := consF (varF 1) (consF (binF addO (varF 2) (cstF (.int 1))) nilF)) (σ := [some CD, some (.int f), some (.int l), none, none]) (st := st) (st1 := st) (i := f) (k := (l : Int) + 1) (by simp only [consF_eq, nilF_eq, binF_eq, varF_eq, cstF_eq, bnd_some, List.getElem?_cons_zero, List.getElem?_cons_succ, addO_int]) (by omega) (by omega) (by omega) (by omega)
      rw [e]
      have : ((l : Int) + 1 - (f : Int)).toNat = l + 1 - f := by omega
      rw [this]) ⟨none, rfl, Ext.refl, by simp⟩ ?_ ?_)
  · rintro j σ s d hd ⟨x3, rfl, xs, ha⟩
    obtain ⟨hj, rfl⟩ := rngD_get hd
    have hfj : f + j < c.length := by omega
    have ei : c[f + j]? = some c[f + j] := List.getElem?_eq_getElem hfj
    generalize c[f + j] = I at ei
    have e0 : ((f : Int) + (j : Nat)) = ((f + j : Nat) : Int) := by omega
    rw [e0]
    have q := in_strsM (w := I.w) (l := innL) (st := s ++ [OB.lst (innL.map .str)]) (k := s.length) true (new_get s _)
    have x1 : Ext s (s ++ [OB.lst (innL.map .str)]) := Ext.app _
    refine ⟨[some CD, some (.int f), some (.int l), some (.int ((f + j : Nat) : Int)), none], rfl, ?_⟩
    have hl := inn_list I [some CD, some (.int f), some (.int l), some (.int ((f + j : Nat) : Int)), none] s
    generalize s ++ [OB.lst (innL.map .str)] = s2 at q x1 hl
    refine wp_if (t := !inn I) (st1 := s2) (by
      rw [cmpT_eq, binF_eq]
      simp only [binF_eq, varF_eq, cstF_eq, bnd_some, List.getElem?_cons_zero, List.getElem?_cons_succ, hix _ I s ei, ix0_i, hl, q, truth_bl, Option.map_some]
      show some (decide (I.w ∈ innL) != true, s2) = some (!inn I, s2)
      unfold inn
      cases decide (I.w ∈ innL) <;> rfl) (fun h => ?_) (fun h => ?_)
    · refine wp_ret (d := .bl false) (st1 := s2) rfl ⟨?_, xs.trans x1⟩
      have : ((c.drop f).take (l + 1 - f)).all inn = false := by
        rw [List.all_eq_false]
        exact ⟨I, List.mem_of_getElem? (hz j I ei hj), by simpa using h⟩
      unfold grd
      rw [this]; rfl
    · refine wp_skip ⟨_, rfl, xs.trans x1, ?_⟩
      have : (c.drop f)[j]? = some I := by rw [List.getElem?_drop]; exact ei
      rw [List.take_add_one, this, List.all_append, ha]
      show (true && [I].all inn) = true
      simpa using h
  · rintro σ s ⟨x3, rfl, xs, ha⟩
    rw [rngD_len] at ha
    refine wp_seq (wp_for (st1 := s) (xs := c.map I52.d) (fun j σ s => ∃ x4, σ = [some CD, some (.int f), some (.int l), x3, x4] ∧ Ext st s ∧ ((c.take j).filterMap tgt).any (hit f l) = false) (hany _ _ rfl) ⟨none, rfl, xs, by simp⟩ ?_ ?_)
    · rintro j σ s d hd ⟨x4, rfl, xs, hn⟩
      rw [List.getElem?_map] at hd
      cases ei : c[j]? with
      | none => rw [ei] at hd; cases hd
      | some I =>
      rw [ei] at hd
      cases hd
      have hg := hc I (List.mem_of_getElem? ei)
      refine ⟨[some CD, some (.int f), some (.int l), x3, some I.d], rfl, ?_⟩
      have tk1 : (c.take (j + 1)).filterMap tgt = (c.take j).filterMap tgt ++ (tgt I).toList := by
        rw [List.take_add_one, ei, List.filterMap_append]
        cases hI : tgt I <;> simp [hI]
      by_cases hw : I.w = "go"
      · obtain ⟨k, t, rfl⟩ := go_shape hg hw
        have ht : tgt ⟨"go", [.int k, t]⟩ = some k := if_pos rfl
        have i0 := ix0_i ⟨"go", [.int k, t]⟩ s
        have i1 : ixO (I52.d ⟨"go", [.int k, t]⟩) (.int 1) s = some (.int k, s) := rfl
        refine wp_if (t := hit f l k) (st1 := s) (by
          rw [andT_eq, cmpT_eq, binF_eq]
          simp only [binF_eq, varF_eq, cstF_eq, bnd_some, List.getElem?_cons_zero, List.getElem?_cons_succ, i0, eqO_str, decide_true, Bool.bne_false, truth_bl, Option.map_some, if_true, truF_eq, chnF_eq, i1, ltO_int]
          by_cases hk : (f : Int) < k
          · simp only [decide_eq_true hk, varF_eq, bnd_some, List.getElem?_cons_zero, List.getElem?_cons_succ, leO_int, truth_bl, Option.map_some, hit, Bool.true_and]
          · simp only [decide_eq_false hk, bnd_some, truth_bl, Option.map_some, hit, Bool.false_and]) (fun h => ?_) (fun h => ?_)
        · refine wp_ret (d := .bl false) (st1 := s) rfl ⟨?_, xs⟩
          have : leads c f l = true := by
            unfold leads
            rw [List.any_eq_true]
            exact ⟨k, List.mem_filterMap.mpr ⟨_, List.mem_of_getElem? ei, ht⟩, h⟩
          unfold grd
          rw [this]; simp
        · refine wp_skip ⟨_, rfl, xs, ?_⟩
          rw [tk1, ht, List.any_append, hn]
          simpa using h
      · have ht : tgt I = none := if_neg hw
        have hd : decide (I.w = Str.ofString "go") = false := decide_eq_false hw
        refine wp_if (t := false) (st1 := s) (by
          rw [andT_eq, cmpT_eq, binF_eq]
          simp only [binF_eq, varF_eq, cstF_eq, bnd_some, List.getElem?_cons_zero, List.getElem?_cons_succ, ix0_i, eqO_str, hd, Bool.bne_false, truth_bl, Option.map_some, Bool.false_eq_true, if_false]) (fun h => by cases h) (fun _ => wp_skip ⟨_, rfl, xs, ?_⟩)
        rw [tk1, ht, List.any_append, hn]; rfl
    · rintro σ s ⟨x4, rfl, xs, hn⟩
      rw [List.length_map, List.take_length] at hn
      refine wp_ret (d := .bl true) (st1 := s) rfl ⟨?_, xs⟩
      unfold grd leads
      rw [ha, hn]; rfl
end Lw

namespace Lw
open PySem L2 Iv
/-! ### the spans -/
def isN (x : Str) (c : List I52) (k : Nat) : Bool := match c[k]? with
  | some i => decide (nm52 i = some x)
  | none => false
def uses (x : Str) (c : List I52) : List Nat := (List.range c.length).filter (isN x c)
def prD (p : Nat × Nat) : D := .tup [.int p.1, .int p.2]
def pairs (us : List Nat) : List (Nat × Nat) := us.flatMap fun a => us.filterMap fun b => if a ≤ b then some (a, b) else none
def spansL (x : Str) (c : List I52) : List (Nat × Nat) := (pairs (uses x c)).filter fun p => grd c p.1 p.2
def row (x : Str) (c : List I52) (a b : Nat) : Option (Nat × Nat) := if isN x c a = true ∧ isN x c b = true ∧ grd c a b = true then some (a, b) else none
def dueL (x : Str) (c : List I52) : List (Nat × Nat) := (List.range c.length).flatMap fun a => (List.range' a (c.length - a)).filterMap (row x c a)
theorem flat_filter {α β : Type} (p : α → Bool) (f : α → List β) : ∀ l : List α, (l.filter p).flatMap f = l.flatMap fun a => if p a = true then f a else []
  | [] => rfl
  | a :: l => by
    have ih := flat_filter p f l
    by_cases h : p a = true
    · rw [List.filter_cons_of_pos h, List.flatMap_cons, List.flatMap_cons, ih, if_pos h]
    · rw [List.filter_cons_of_neg h, List.flatMap_cons, ih, if_neg h]; rfl
theorem filter_flat {α β : Type} (p : β → Bool) (f : α → List β) : ∀ l : List α, (l.flatMap f).filter p = l.flatMap fun a => (f a).filter p
  | [] => rfl
  | a :: l => by rw [List.flatMap_cons, List.flatMap_cons, List.filter_append, filter_flat p f l]
theorem flat_congr {α β : Type} {f g : α → List β} : ∀ {l : List α}, (∀ a ∈ l, f a = g a) → l.flatMap f = l.flatMap g
  | [], _ => rfl
  | a :: l, h => by rw [List.flatMap_cons, List.flatMap_cons, h a (by simp), flat_congr fun b hb => h b (List.mem_cons_of_mem _ hb)]
theorem row_eq (x : Str) (c : List I52) (a : Nat) (ha : isN x c a = true) : ∀ l : List Nat, (((l.filter (isN x c)).filterMap fun b => if a ≤ b then some (a, b) else none).filter fun p => grd c p.1 p.2) = l.filterMap fun b => if a ≤ b then row x c a b else none
  | [] => rfl
  | b :: l => by
    have ih := row_eq x c a ha l
    by_cases hb : isN x c b = true
    · rw [List.filter_cons_of_pos hb, List.filterMap_cons, List.filterMap_cons]
      by_cases hab : a ≤ b
      · simp only [if_pos hab]
        by_cases hg : grd c a b = true
        · rw [List.filter_cons_of_pos (p := fun p : Nat × Nat => grd c p.1 p.2) (a := (a, b)) hg, ih]
          rw [show row x c a b = some (a, b) from if_pos ⟨ha, hb, hg⟩]
        · rw [List.filter_cons_of_neg (p := fun p : Nat × Nat => grd c p.1 p.2) (a := (a, b)) hg, ih]
          rw [show row x c a b = none from if_neg fun z => hg z.2.2]
      · simp only [if_neg hab]
        exact ih
    · rw [List.filter_cons_of_neg hb, List.filterMap_cons, ih]
      unfold row
      by_cases hab : a ≤ b <;> simp [hb, hab]
theorem low_none {x : Str} {c : List I52} {a : Nat} : ∀ {l : List Nat}, (∀ b ∈ l, b < a) → (l.filterMap fun b => if a ≤ b then row x c a b else none) = []
  | [], _ => rfl
  | b :: l, h => by
    rw [List.filterMap_cons, if_neg (by have := h b (by simp); omega), low_none fun d hd => h d (List.mem_cons_of_mem _ hd)]
theorem high_all {x : Str} {c : List I52} {a : Nat} : ∀ {l : List Nat}, (∀ b ∈ l, a ≤ b) → (l.filterMap fun b => if a ≤ b then row x c a b else none) = l.filterMap (row x c a)
  | [], _ => rfl
  | b :: l, h => by
    rw [List.filterMap_cons, List.filterMap_cons, if_pos (h b (by simp)), high_all fun d hd => h d (List.mem_cons_of_mem _ hd)]
theorem spans_due (x : Str) (c : List I52) : spansL x c = dueL x c := by
  unfold spansL pairs
  rw [filter_flat]
  show (((List.range c.length).filter (isN x c)).flatMap _) = _
  rw [flat_filter]
  refine flat_congr fun a ha => ?_
  have hlt := List.mem_range.mp ha
  by_cases h : isN x c a = true
  · rw [if_pos h]
    show (((uses x c).filterMap _).filter _) = _
    unfold uses
    rw [row_eq x c a h]
    have e : List.range c.length = List.range a ++ List.range' a (c.length - a) := by
      rw [List.range_eq_range', List.range_eq_range']
      have := List.range'_append_1 (s := 0) (m := a) (n := c.length - a)
      rw [Nat.zero_add, show a + (c.length - a) = c.length by omega] at this
      exact this.symm
    rw [e, List.filterMap_append, low_none fun b hb => List.mem_range.mp hb, List.nil_append, high_all fun b hb => by
      obtain ⟨i, hi, rfl⟩ := List.mem_range'.mp hb
      omega]
  · rw [if_neg h]
    symm
    rw [List.filterMap_eq_nil_iff]
    intro b _
    unfold row
    rw [if_neg fun z => h z.1]
end Lw

namespace Lw
open PySem L2 Iv
/-! ### spans -/
def useF (x : Str) : D → Option D := fun d => match d with
  | .tup [.int k, .tup (.str w :: r)] => if nm52 ⟨w, r⟩ = some x then some (.int k) else none
  | _ => none
theorem use_enum (x : Str) : ∀ (c : List I52) (n : Nat), (enumD n (c.map I52.d)).filterMap (useF x) = ((List.range' n c.length).filter fun k => match c[k - n]? with
    | some i => decide (nm52 i = some x)
    | none => false).map fun k : Nat => D.int k
  | [], n => rfl
  | i :: c, n => by
    have ih := use_enum x c (n + 1)
    rw [List.map_cons]
    show ((D.tup [.int (n : Nat), i.d]) :: enumD (n + 1) (c.map I52.d)).filterMap (useF x) = _
    rw [List.filterMap_cons, ih, List.length_cons, List.range'_succ]
    have e : useF x (.tup [.int (n : Nat), i.d]) = if nm52 i = some x then some (.int (n : Nat)) else none := rfl
    rw [e]
    have tl : ((List.range' (n + 1) c.length).filter fun k => match c[k - (n + 1)]? with
        | some i => decide (nm52 i = some x)
        | none => false) = (List.range' (n + 1) c.length).filter fun k => match (i :: c)[k - n]? with
        | some i => decide (nm52 i = some x)
        | none => false := by
      apply List.filter_congr
      intro k hk
      obtain ⟨j, hj, rfl⟩ := List.mem_range'.mp hk
      have e1 : n + 1 + 1 * j - (n + 1) = j := by omega
      have e2 : n + 1 + 1 * j - n = j + 1 := by omega
      rw [e1, e2, List.getElem?_cons_succ]
    rw [tl, List.filter_cons]
    have hd : (match (i :: c)[n - n]? with
        | some i => decide (nm52 i = some x)
        | none => false) = decide (nm52 i = some x) := by rw [Nat.sub_self]; rfl
    rw [hd]
    by_cases h : nm52 i = some x <;> simp [h]
theorem use_list (x : Str) (c : List I52) : (enumD 0 (c.map I52.d)).filterMap (useF x) = (uses x c).map fun k : Nat => D.int k := by
  rw [use_enum x c 0]
  unfold uses
  rw [List.range_eq_range']
  rfl
def leF : D → D → Option D := fun d e => match d, e with
  | .int a, .int b => if a ≤ b then some (.tup [.int a, .int b]) else none
  | _, _ => none
theorem pairs_map (us vs : List Nat) : ((us.map fun k : Nat => D.int k).flatMap fun x => (vs.map fun k : Nat => D.int k).filterMap (leF x)) = (us.flatMap fun a => vs.filterMap fun b => if a ≤ b then some (a, b) else none).map prD := by
  have row : ∀ (a : Nat) (l : List Nat), (l.map fun k : Nat => D.int k).filterMap (leF (.int a)) = (l.filterMap fun b => if a ≤ b then some (a, b) else none).map prD := fun a l => by
    induction l with
    | nil => rfl
    | cons b l ih =>
      rw [List.map_cons, List.filterMap_cons, List.filterMap_cons, ih]
      have e : leF (.int a) (.int b) = if (a : Int) ≤ (b : Int) then some (.tup [.int a, .int b]) else none := rfl
      rw [e]
      by_cases h : a ≤ b
      · rw [if_pos h, if_pos (by omega)]; rfl
      · rw [if_neg h, if_neg (by omega)]
  induction us with
  | nil => rfl
  | cons a us ih => rw [List.map_cons, List.flatMap_cons, List.flatMap_cons, List.map_append, ih, row]
theorem uses_lt {x : Str} {c : List I52} : ∀ k ∈ uses x c, k < c.length := fun k hk => List.mem_range.mp (List.mem_filter.mp hk).1
theorem uses_len (x : Str) (c : List I52) : (uses x c).length ≤ c.length := by
  unfold uses
  have := List.length_filter_le (isN x c) (List.range c.length)
  rwa [List.length_range] at this
theorem pairs_in {us : List Nat} {p : Nat × Nat} (h : p ∈ pairs us) : p.1 ≤ p.2 ∧ p.1 ∈ us ∧ p.2 ∈ us := by
  obtain ⟨a, ha, h2⟩ := List.mem_flatMap.mp h
  obtain ⟨b, hb, h3⟩ := List.mem_filterMap.mp h2
  by_cases hab : a ≤ b
  · rw [if_pos hab] at h3; cases h3; exact ⟨hab, ha, hb⟩
  · rw [if_neg hab] at h3; cases h3
theorem pairs_len (us vs : List Nat) : (us.flatMap fun a => vs.filterMap fun b => if a ≤ b then some (a, b) else none).length ≤ us.length * vs.length := by
  induction us with
  | nil => simp
  | cons a us ih =>
    rw [List.flatMap_cons, List.length_append, List.length_cons, Nat.succ_mul]
    have := List.length_filterMap_le (fun b => if a ≤ b then some (a, b) else none) vs
    omega
end Lw

namespace Lw
open PySem L2 Iv
def grF (c : List I52) : D → Option D := fun d => match d with
  | .tup [.int a, .int b] => if grd c a.toNat b.toNat = true then some (.tup [.int a, .int b]) else none
  | _ => none
theorem gr_map (c : List I52) : ∀ ps : List (Nat × Nat), (ps.map prD).filterMap (grF c) = (ps.filter fun p => grd c p.1 p.2).map prD
  | [] => rfl
  | p :: ps => by
    have ih := gr_map c ps
    rw [List.map_cons, List.filterMap_cons, ih]
    have e : grF c (prD p) = if grd c p.1 p.2 = true then some (prD p) else none := rfl
    rw [e]
    by_cases h : grd c p.1 p.2 = true
    · rw [if_pos h, List.filter_cons_of_pos (p := fun p : Nat × Nat => grd c p.1 p.2) h]; rfl
    · rw [if_neg h, List.filter_cons_of_neg (p := fun p : Nat × Nat => grd c p.1 p.2) h]
theorem spans_ok {thing can : Fx} {PD TD : D} {t : Int} {x : Str} {c : List I52} (hx : x ∈ vars52) (hp : ∀ s, ixO PD (.int 1) s = some (TD, s)) (ht : ∀ s, ixO TD (.int t) s = some (.tup (c.map I52.d), s)) (hl : c.length ≤ 20)
    (hth : ∀ i ∈ c, ∀ st : Sto, ∃ d : D, thing [i.d] st = some (d, st) ∧ ∀ y ∈ vars52, ∀ s, eqO false d (.str y) s = some (.bl (decide (nm52 i = some y)), s))
    (hcan : ∀ f l : Nat, f ≤ l → l < c.length → ∀ st : Sto, ∃ st2, can [.tup (c.map I52.d), .tup [.int f, .int l]] st = some (.bl (grd c f l), st2) ∧ Ext st st2) (st : Sto) :
    ∃ (st2 : Sto) (n : Nat), f_spans thing can [PD, .int t, .str x] st = some (.loc n, st2) ∧ Ext st st2 ∧ st2[n]? = some (.lst ((spansL x c).map prD)) ∧ st.length ≤ n := by
  suffices w : ∃ d s, f_spans thing can [PD, .int t, .str x] st = some (d, s) ∧ ∃ n : Nat, d = .loc n ∧ Ext st s ∧ s[n]? = some (.lst ((spansL x c).map prD)) ∧ st.length ≤ n by
    obtain ⟨d, s, e, n, rfl, r⟩ := w
    exact ⟨s, n, e, r⟩
  refine wp_run rfl ?_
  have hsl : List.map some [PD, .int t, .str x] ++ List.replicate (11 - 3) none = [some PD, some (.int t), some (.str x), none, none, none, none, none, none, none, none] := rfl
  rw [hsl]
  unfold b_spans
  obtain ⟨CD, hCD⟩ : ∃ CD, CD = D.tup (c.map I52.d) := ⟨_, rfl⟩
  refine wp_nx (σ1 := [some PD, some (.int t), some (.str x), some CD, none, none, none, none, none, none, none]) (st1 := st) (by
    rw [hCD]
    simp only [asgS_eq, binF_eq, varF_eq, cstF_eq, bnd_some, List.getElem?_cons_zero, List.getElem?_cons_succ, hp, ht]; rfl) ?_
  obtain ⟨s2, e2, x2, g2⟩ := compF_ok (vs := [5, 6]) (i := enmU (consF (varF 3) nilF)) (g := tupG [5, 6]) (c := cmpT (eqO false) (callF thing (consF (varF 6) nilF)) (varF 2)) (e := varF 5) (σ := [some PD, some (.int t), some (.str x), some CD, none, none, none, none, none, none, none]) (st := st) (st1 := st) (J := .cns (enumD 0 (c.map I52.d))) (xs := enumD 0 (c.map I52.d)) (useF x)
    (by simp only [enmU_eq, consF_eq, nilF_eq, varF_eq, bnd_some, List.getElem?_cons_zero, List.getElem?_cons_succ, hCD]) (by rw [enumD_len, List.length_map]; show c.length ≤ 1000000; omega) (fun s _ => rfl)
    (fun i y ex s xs => by
      rw [enumD_get, List.getElem?_map] at ex
      cases ei : c[i]? with
      | none => rw [ei] at ex; cases ex
      | some I =>
      rw [ei] at ex
      cases ex
      obtain ⟨d, ed, hd⟩ := hth I (List.mem_of_getElem? ei) s
      have e : ∀ k : Int, useF x (.tup [.int k, I.d]) = if nm52 I = some x then some (.int k) else none := fun k => rfl
      refine ⟨[some PD, some (.int t), some (.str x), some CD, none, some (.int ((0 : Nat) + i : Nat)), some I.d, none, none, none, none], s, rfl, ?_, Ext.refl, fun y hy => ?_⟩
      · have e2 : (useF x (.tup [.int ((0 : Nat) + i : Nat), I.d])).isSome = decide (nm52 I = some x) := by
          rw [e]; by_cases h : nm52 I = some x <;> simp [h]
        simp only [cmpT_eq, binF_eq, callF_eq, consF_eq, nilF_eq, varF_eq, bnd_some, List.getElem?_cons_zero, List.getElem?_cons_succ, ed, hd x hx, truth_bl, Option.map_some, e2]
      · rw [e] at hy
        by_cases h : nm52 I = some x
        · rw [if_pos h] at hy
          cases hy
          exact ⟨s, rfl, Ext.refl⟩
        · rw [if_neg h] at hy; cases hy)
  rw [use_list] at g2
  refine wp_nx (σ1 := [some PD, some (.int t), some (.str x), some CD, some (.loc st.length), none, none, none, none, none, none]) (st1 := s2) (by rw [asgS_eq, e2, bnd_some]; rfl) ?_
  have ul := uses_len x c
  have ub := fun k hk => uses_lt (x := x) (c := c) k hk
  have hu : ∀ s, Ext s2 s → getL s st.length = some ((uses x c).map fun k : Nat => D.int k) := fun s xs => getL_of (xs.at g2)
  obtain ⟨s3, e3, x3, g3⟩ := comp2_ok (vs := [8, 9]) (vs1 := [9]) (i := anyI (varF 4)) (i1 := anyI (varF 4)) (g := nmG 8) (g1 := nmG 9) (c1 := cmpT leO (varF 8) (varF 9)) (e := tupF (consF (varF 8) (consF (varF 9) nilF))) (σ := [some PD, some (.int t), some (.str x), some CD, some (.loc st.length), none, none, none, none, none, none]) (st := s2) (st1 := s2) (J := .lst st.length) (xs := (uses x c).map fun k : Nat => D.int k) (fun _ => (uses x c).map fun k : Nat => D.int k) leF
    (by simp only [anyI_eq, varF_eq, bnd_some, List.getElem?_cons_zero, List.getElem?_cons_succ, hu s2 Ext.refl, Option.map_some]) (fun y _ => by rw [List.length_map]; omega) (by rw [List.length_map]; omega) (fun s xs => by rw [items_lst]; exact hu s xs)
    (fun i y ex => by
      rw [List.getElem?_map] at ex
      cases ei : (uses x c)[i]? with
      | none => rw [ei] at ex; cases ex
      | some a =>
      rw [ei] at ex
      cases ex
      refine ⟨[some PD, some (.int t), some (.str x), some CD, some (.loc st.length), none, none, none, some (.int a), none, none], rfl, fun s xs => ⟨.lst st.length, s, ?_, Ext.refl, fun s xs => by rw [items_lst]; exact hu s xs, fun j z ez s xs => ?_⟩⟩
      · simp only [anyI_eq, varF_eq, bnd_some, List.getElem?_cons_zero, List.getElem?_cons_succ, hu s xs, Option.map_some]
      · rw [List.getElem?_map] at ez
        cases ej : (uses x c)[j]? with
        | none => rw [ej] at ez; cases ez
        | some b =>
        rw [ej] at ez
        cases ez
        have e : leF (.int a) (.int b) = if (a : Int) ≤ (b : Int) then some (.tup [.int a, .int b]) else none := rfl
        refine ⟨[some PD, some (.int t), some (.str x), some CD, some (.loc st.length), none, none, none, some (.int a), some (.int b), none], s, rfl, ?_, Ext.refl, fun w hw => ?_⟩
        · have e2 : (leF (.int a) (.int b)).isSome = decide ((a : Int) ≤ (b : Int)) := by
            rw [e]; by_cases h : (a : Int) ≤ (b : Int) <;> simp [h]
          simp only [cmpT_eq, binF_eq, varF_eq, bnd_some, List.getElem?_cons_zero, List.getElem?_cons_succ, leO_int, truth_bl, Option.map_some, e2]
        · rw [e] at hw
          by_cases h : (a : Int) ≤ (b : Int)
          · rw [if_pos h] at hw; cases hw
            exact ⟨s, rfl, Ext.refl⟩
          · rw [if_neg h] at hw; cases hw)
  rw [pairs_map] at g3
  have g3' : s3[s2.length]? = some (.lst ((pairs (uses x c)).map prD)) := g3
  have pl : (pairs (uses x c)).length ≤ 400 := by
    have h1 := pairs_len (uses x c) (uses x c)
    have h2 : (uses x c).length * (uses x c).length ≤ 20 * 20 := Nat.mul_le_mul (by omega) (by omega)
    exact Nat.le_trans h1 h2
  refine wp_nx (σ1 := [some PD, some (.int t), some (.str x), some CD, some (.loc st.length), none, none, some (.loc s2.length), none, none, none]) (st1 := s3) (by rw [asgS_eq, e3, bnd_some]; rfl) ?_
  obtain ⟨s4, e4, x4, g4⟩ := compF_ok (vs := [10]) (i := anyI (varF 7)) (g := nmG 10) (c := truF (callF can (consF (varF 3) (consF (varF 10) nilF)))) (e := varF 10) (σ := [some PD, some (.int t), some (.str x), some CD, some (.loc st.length), none, none, some (.loc s2.length), none, none, none]) (st := s3) (st1 := s3) (J := .lst s2.length) (xs := (pairs (uses x c)).map prD) (grF c)
    (by simp only [anyI_eq, varF_eq, bnd_some, List.getElem?_cons_zero, List.getElem?_cons_succ, getL_of g3', Option.map_some]) (by rw [List.length_map]; show _ ≤ 1000000; omega) (fun s xs => by rw [items_lst]; exact getL_of (xs.at g3'))
    (fun i y ex s xs => by
      rw [List.getElem?_map] at ex
      cases ei : (pairs (uses x c))[i]? with
      | none => rw [ei] at ex; cases ex
      | some p =>
      rw [ei] at ex
      cases ex
      obtain ⟨h1, h2, h3⟩ := pairs_in (List.mem_of_getElem? ei)
      obtain ⟨s5, e5, x5⟩ := hcan p.1 p.2 h1 (ub _ h3) s
      rw [← hCD] at e5
      have e5' : can [CD, prD p] s = some (.bl (grd c p.1 p.2), s5) := e5
      have e : grF c (prD p) = if grd c p.1 p.2 = true then some (prD p) else none := rfl
      refine ⟨[some PD, some (.int t), some (.str x), some CD, some (.loc st.length), none, none, some (.loc s2.length), none, none, some (prD p)], s5, rfl, ?_, x5, fun w hw => ?_⟩
      · have e2 : (grF c (prD p)).isSome = grd c p.1 p.2 := by
          rw [e]; cases h : grd c p.1 p.2 <;> simp
        simp only [truF_eq, callF_eq, consF_eq, nilF_eq, varF_eq, bnd_some, List.getElem?_cons_zero, List.getElem?_cons_succ, e5', truth_bl, Option.map_some, e2]
      · rw [e] at hw
        by_cases h : grd c p.1 p.2 = true
        · rw [if_pos h] at hw; cases hw
          exact ⟨s5, rfl, Ext.refl⟩
        · rw [if_neg h] at hw; cases hw)
  rw [gr_map] at g4
  refine wp_ret (d := .loc s3.length) (st1 := s4) e4 ⟨s3.length, rfl, (x2.trans x3).trans x4, g4, ?_⟩
  exact Nat.le_trans x2.1 x3.1
end Lw

namespace Lw
open PySem L2 Iv
/-! ### the drawn code -/
structure Cd (c : List I52) : Prop where
  len : c.length ≤ 8
  good : ∀ i ∈ c, Gd52 i
def cdD (c : List I52) : D := .tup (c.map I52.d)
theorem add_lsts {s : Sto} {n m : Nat} {xs ys : List D} (h1 : s[n]? = some (.lst xs)) (h2 : s[m]? = some (.lst ys)) (hl : xs.length + ys.length ≤ 1000000) : addO (.loc n) (.loc m) s = some (.loc s.length, s ++ [.lst (xs ++ ys)]) := by
  simp only [addO, getM_of h1, getM_of h2, LIM, hl, if_true]
theorem len_lst {s : Sto} {n : Nat} {xs : List D} (h : getL s n = some xs) (hl : xs.length ≤ 1000) : lenO [.loc n] s = some (.int xs.length, s) := by
  have : xs.length ≤ LIM := by show xs.length ≤ 1000000; omega
  simp [h, this]
theorem longer_ok {pad cell piece things : Fx} {TG : D} (hcl : CellOk cell) (hpd : PadOk pad) (hpc : PieceOk piece) (hth : ∀ s, things [] s = some (TG, s)) {st : Sto} {n : Nat} {ns : List Int} (hn : getL st n = some (ns.map .int)) :
    ∃ (c0 c1 : List I52) (st2 : Sto), f__law_longer pad cell piece things [.loc n] st = some (.tup [TG, .tup [cdD c0, cdD c1]], st2) ∧ Cd c0 ∧ Cd c1 := by
  suffices w : ∃ d s, f__law_longer pad cell piece things [.loc n] st = some (d, s) ∧ ∃ c0 c1 : List I52, d = .tup [TG, .tup [cdD c0, cdD c1]] ∧ Cd c0 ∧ Cd c1 by
    obtain ⟨d, s, e, c0, c1, rfl, r⟩ := w
    exact ⟨c0, c1, s, e, r⟩
  refine wp_run rfl ?_
  have hsl : List.map some [D.loc n] ++ List.replicate (7 - 1) none = [some (.loc n), none, none, none, none, none, none] := rfl
  rw [hsl]
  unfold b__law_longer
  refine wp_nx (σ1 := [some (.loc n), some (.loc st.length), none, none, none, none, none]) (st1 := st ++ [.lst []]) (by simp) ?_
  refine wp_seq (wp_for (st1 := st ++ [.lst []]) (xs := rngD 0 2) (fun k σ s => ∃ (cs : List (List I52)) (x2 x3 x4 x5 x6 : Option D), σ = [some (.loc n), some (.loc st.length), x2, x3, x4, x5, x6] ∧ Ext st s ∧ s[st.length]? = some (.lst (cs.map cdD)) ∧ cs.length = k ∧ ∀ c ∈ cs, Cd c) (rng1_nat (by simp) (by decide)) ⟨[], none, none, none, none, none, rfl, Ext.app _, by simp, rfl, fun c hc => by cases hc⟩ ?_ ?_)
  · rintro k σ s d hd ⟨cs, x2, x3, x4, x5, x6, rfl, xs, g, hk, hcs⟩
    obtain ⟨hk2, rfl⟩ := rngD_get hd
    rw [show ((0 : Int) + (k : Nat)) = (k : Nat) by omega]
    have e1 := hcl s n ns (xs.getL hn) k
    obtain ⟨ds, hds, e2⟩ := hpd (ns.getD k 0) k s
    have hsl2 : st.length < s.length := (List.getElem?_eq_some_iff.mp g).1
    refine ⟨[some (.loc n), some (.loc st.length), some (.int (k : Nat)), x3, x4, x5, x6], rfl, ?_⟩
    refine wp_nx (σ1 := [some (.loc n), some (.loc st.length), some (.int (k : Nat)), some (.loc s.length), x4, x5, x6]) (st1 := s ++ [.lst (ds.map .int)]) (by simp only [asgS_eq, callF_eq, consF_eq, nilF_eq, varF_eq, bnd_some, List.getElem?_cons_zero, List.getElem?_cons_succ, e1, e2]; rfl) ?_
    have x1 : Ext s (s ++ [OB.lst (ds.map .int)]) := Ext.app _
    have gd1 : getL (s ++ [OB.lst (ds.map .int)]) s.length = some (ds.map .int) := new_get _ _
    generalize s ++ [OB.lst (ds.map .int)] = s1 at x1 gd1
    have x1' : Ext s1 (s1 ++ [OB.lst []]) := Ext.app _
    refine wp_nx (σ1 := [some (.loc n), some (.loc st.length), some (.int (k : Nat)), some (.loc s.length), some (.loc s1.length), x5, x6]) (st1 := s1 ++ [.lst []]) (by simp [LIM]) ?_
    refine wp_seq (wp_for (st1 := s1 ++ [.lst []]) (xs := rngD 0 5) (fun j σ s2 => ∃ (c : List I52) (m : Nat) (x5 x6 : Option D), σ = [some (.loc n), some (.loc st.length), some (.int (k : Nat)), some (.loc s.length), some (.loc m), x5, x6] ∧ Ext s1 s2 ∧ s2[m]? = some (.lst (c.map I52.d)) ∧ Cd c) (rng1_nat (by simp) (by decide)) ⟨[], s1.length, x5, x6, rfl, Ext.app _, by simp, ⟨by simp, fun i hi => by cases hi⟩⟩ ?_ ?_)
    · rintro j σ s2 d hd ⟨c, m, x5, x6, rfl, xs2, gm, hc⟩
      obtain ⟨hj, rfl⟩ := rngD_get hd
      rw [show ((0 : Int) + (j : Nat)) = (j : Nat) by omega]
      have hjd : j < ds.length := by omega
      have i3 : ixO (.loc s.length) (.int (j : Nat)) s2 = some (.int ds[j], s2) := by
        rw [ixO_loc, xs2.getL gd1]
        dsimp only
        rw [int_at hjd]
        rfl
      have hcl8 := hc.len
      have lc := len_lst (getL_of gm) (by rw [List.length_map]; omega)
      rw [List.length_map] at lc
      obtain ⟨pk, pm, l, s3, e3, x3', hl, gl, _⟩ := hpc ds[j] c.length s2
      have hgl : ∀ i ∈ l, Gd52 i := pcs_good _ l (List.mem_of_getElem? hl)
      have hll : l.length ≤ 100 := by
        have hm := List.mem_of_getElem? hl
        have : ∀ l ∈ pcs (c.length : Int), l.length ≤ 100 := by
          intro l h
          unfold pcs at h
          simp only [List.mem_cons, List.not_mem_nil, or_false] at h
          rcases h with rfl | rfl | rfl | rfl | rfl | rfl | rfl | rfl | rfl | rfl | rfl | rfl | rfl | rfl | rfl | rfl | rfl | rfl | rfl | rfl | rfl | rfl | rfl | rfl <;> simp
        exact this l hm
      have gm3 := x3'.at gm
      have lc3 := len_lst (getL_of gm3) (by rw [List.length_map]; omega)
      have ll3 := len_lst (getL_of gl) (by rw [List.length_map]; omega)
      rw [List.length_map] at lc3 ll3
      refine ⟨[some (.loc n), some (.loc st.length), some (.int (k : Nat)), some (.loc s.length), some (.loc m), some (.int (j : Nat)), x6], rfl, ?_⟩
      refine wp_nx (σ1 := [some (.loc n), some (.loc st.length), some (.int (k : Nat)), some (.loc s.length), some (.loc m), some (.int (j : Nat)), some (.loc pm)]) (st1 := s3) (by simp only [asgS_eq, callF_eq, consF_eq, nilF_eq, binF_eq, appF_eq, varF_eq, bnd_some, List.getElem?_cons_zero, List.getElem?_cons_succ, i3, lc, e3]; rfl) ?_
      refine wp_if (t := decide ((c.length : Int) + (l.length : Int) ≤ 8)) (st1 := s3) (by simp only [cmpT_eq, binF_eq, appF_eq, consF_eq, nilF_eq, varF_eq, cstF_eq, bnd_some, List.getElem?_cons_zero, List.getElem?_cons_succ, lc3, ll3, addO_int, leO_int, truth_bl, Option.map_some]) (fun h => ?_) (fun h => ?_)
      · have h8 : (c.length : Int) + (l.length : Int) ≤ 8 := of_decide_eq_true h
        have ad := add_lsts gm3 gl (by rw [List.length_map, List.length_map]; omega)
        rw [← List.map_append] at ad
        refine wp_asg (d := .loc s3.length) (st1 := s3 ++ [.lst ((c ++ l).map I52.d)]) (by simp only [binF_eq, varF_eq, bnd_some, List.getElem?_cons_zero, List.getElem?_cons_succ, ad]) rfl ⟨c ++ l, s3.length, _, _, rfl, (xs2.trans x3').trans (Ext.app _), by simp, ⟨by rw [List.length_append]; omega, fun i hi => ?_⟩⟩
        rcases List.mem_append.mp hi with h | h
        · exact hc.good i h
        · exact hgl i h
      · exact wp_skip ⟨c, m, _, _, rfl, xs2.trans x3', gm3, hc⟩
    · rintro σ s2 ⟨c, m, x5, x6, rfl, xs2, gm, hc⟩
      have lc := len_lst (getL_of gm) (by rw [List.length_map]; have := hc.len; omega)
      rw [List.length_map] at lc
      -- the code, not empty
      have fin : ∀ (c : List I52) (m : Nat) (s2 : Sto), Ext s1 s2 → s2[m]? = some (.lst (c.map I52.d)) → Cd c → Wp (exS (bmF "list" appendO (varF 1) (consF (appF tupleO (consF (varF 4) nilF)) nilF)) [some (.loc n), some (.loc st.length), some (.int (k : Nat)), some (.loc s.length), some (.loc m), x5, x6] s2) (fun r s => ∃ σ2, r = .nx σ2 ∧ ∃ (cs : List (List I52)) (x2 x3 x4 x5 x6 : Option D), σ2 = [some (.loc n), some (.loc st.length), x2, x3, x4, x5, x6] ∧ Ext st s ∧ s[st.length]? = some (.lst (cs.map cdD)) ∧ cs.length = k + 1 ∧ ∀ c ∈ cs, Cd c) := fun c m s2 xs2 gm hc => by
        have g2 : s2[st.length]? = some (.lst (cs.map cdD)) := (x1.trans xs2).at g
        have hl2 := (List.getElem?_eq_some_iff.mp g2).1
        have gM := getM_of_getL g2
        have tyl : isTy "list" (.loc st.length) s2 = true := by rw [isTy_list, getL_of g2]; rfl
        have tu : tupleO [.loc m] s2 = some (cdD c, s2) := by
          unfold tupleO
          simp only [getL_of gm, Option.map_some]
          rfl
        have hlim : (cs.map cdD).length < LIM := by rw [List.length_map, hk]; show k < 1000000; omega
        refine wp_ex (d := .non) (st1 := s2.set st.length (.lst ((cs ++ [c]).map cdD))) ?_ ⟨_, rfl, cs ++ [c], _, _, _, _, _, rfl, ((xs.trans x1).trans xs2).set (Nat.le_refl _), by rw [List.getElem?_set_self hl2], by simp [hk], fun z hz => ?_⟩
        · simp only [bmF_eq, varF_eq, consF_eq, nilF_eq, appF_eq, bnd_some, List.getElem?_cons_zero, List.getElem?_cons_succ, tyl, if_true, tu, appendO_eq, gM, hlim, List.map_append, List.map_cons, List.map_nil]
        · rcases List.mem_append.mp hz with h | h
          · exact hcs z h
          · rw [List.mem_singleton.mp h]; exact hc
      have gt1 : Cd [⟨"get", [.str "a", .str "x"]⟩] := ⟨by simp, fun i hi => by rw [List.mem_singleton.mp hi]; exact .get _ _⟩
      refine wp_seq (wp_if (t := decide ((c.length : Int) = 0)) (st1 := s2) (by simp only [cmpT_eq, binF_eq, appF_eq, consF_eq, nilF_eq, varF_eq, cstF_eq, bnd_some, List.getElem?_cons_zero, List.getElem?_cons_succ, lc, eqO_int, Bool.bne_false, truth_bl, Option.map_some]) (fun h => ?_) (fun h => ?_))
      · refine wp_asg (d := .loc s2.length) (st1 := s2 ++ [.lst (([⟨"get", [.str "a", .str "x"]⟩] : List I52).map I52.d)]) rfl rfl ?_
        exact wp_mono (fin _ s2.length _ (xs2.trans (Ext.app _)) (by simp) gt1) fun r s h => by
          obtain ⟨σ2, rfl, h⟩ := h
          exact h
      · exact wp_skip (wp_mono (fin c m s2 xs2 gm hc) fun r s h => by
          obtain ⟨σ2, rfl, h⟩ := h
          exact h)
  · rintro σ s ⟨cs, x2, x3, x4, x5, x6, rfl, xs, g, hk, hcs⟩
    rw [rngD_len] at hk
    obtain ⟨c0, c1, rfl⟩ : ∃ c0 c1, cs = [c0, c1] := by
      match cs, hk with
      | [a, b], _ => exact ⟨a, b, rfl⟩
    have tu : tupleO [.loc st.length] s = some (.tup [cdD c0, cdD c1], s) := by
      unfold tupleO
      simp only [getL_of g, Option.map_some]
      rfl
    refine wp_ret (d := .tup [TG, .tup [cdD c0, cdD c1]]) (st1 := s) ?_ ⟨c0, c1, rfl, hcs c0 (by simp), hcs c1 (by simp)⟩
    simp only [tupF_eq, callF_eq, consF_eq, nilF_eq, appF_eq, varF_eq, bnd_some, List.getElem?_cons_zero, List.getElem?_cons_succ, hth, tu]
    rfl
end Lw

namespace Lw
open PySem L2 Iv
def prP (p : Nat × Nat) : PyData := .tuple [.int p.1, .int p.2]
theorem eqv_prs : ∀ ps : List (Nat × Nat), PyData.eqvAll (ps.map prP) (ps.map prP) = true
  | [] => by simp [PyData.eqvAll]
  | p :: ps => by
    rw [List.map_cons, PyData.eqvAll, eqv_prs ps]
    simp [prP, PyData.eqv, PyData.eqvAll]
theorem eq_prs {s : Sto} {a b : Nat} {ps : List (Nat × Nat)} (ga : getL s a = some (ps.map prD)) (gb : getL s b = some (ps.map prD)) : eqO true (.loc a) (.loc b) s = some (.bl false, s) := by
  have p : Pus 2 (ps.map prD) (ps.map prP) := pus_map fun x _ => pu_tup (pus_cons pu_int (pus_cons pu_int pus_nil))
  have h1 := py_list (n := 59) ga p
  have h2 := py_list (n := 59) gb p
  unfold eqO
  simp only [eqS, h1, h2, list_shaped p (by omega), and_self, if_true, PyData.eqv, eqv_prs]
  rfl
theorem nm_eq (o : Option Str) (x : Str) (s : Sto) : eqO false (oD o) (.str x) s = some (.bl (decide (o = some x)), s) := by
  cases o with
  | none => rfl
  | some y =>
    show eqO false (.str y) (.str x) s = _
    simp only [eqO_str, Bool.bne_false, Option.some.injEq]
def rowA (x : Str) (c : List I52) (a : Nat) : List (Nat × Nat) := (List.range' a (c.length - a)).filterMap (row x c a)
theorem k52_law {longer named guardable spans : Fx} {TG : D}
    (hlo : ∀ (st : Sto) (n : Nat) (ns : List Int), getL st n = some (ns.map .int) → ∃ (c0 c1 : List I52) (st2 : Sto), longer [.loc n] st = some (.tup [TG, .tup [cdD c0, cdD c1]], st2) ∧ Cd c0 ∧ Cd c1)
    (hnm : ∀ i, Gd52 i → ∀ st, ∃ st2, named [i.d] st = some (oD (nm52 i), st2) ∧ Ext st st2)
    (hgr : ∀ c, Cd c → ∀ f l : Nat, f ≤ l → l < c.length → ∀ st, ∃ st2, guardable [cdD c, .int f, .int l] st = some (.bl (grd c f l), st2) ∧ Ext st st2)
    (hsp : ∀ (PD TD : D) (t : Int) (x : Str) (c : List I52), x ∈ vars52 → Cd c → (∀ s, ixO PD (.int 1) s = some (TD, s)) → (∀ s, ixO TD (.int t) s = some (cdD c, s)) → ∀ st, ∃ (st2 : Sto) (n : Nat), spans [PD, .int t, .str x] st = some (.loc n, st2) ∧ Ext st st2 ∧ st2[n]? = some (.lst ((spansL x c).map prD))) :
    ∀ ns : List Int, ns.length ≤ 63 → ∃ st', runF 8 1 (b_law longer named guardable spans) [.loc 0] [.frz (ns.map .int)] = some (.bl true, st') := by
  intro ns hns
  suffices q : ∃ d s, runF 8 1 (b_law longer named guardable spans) [.loc 0] [.frz (ns.map .int)] = some (d, s) ∧ d = .bl true by
    obtain ⟨d, s, e, rfl⟩ := q
    exact ⟨s, e⟩
  obtain ⟨c0, c1, s1, e1, h0, h1⟩ := hlo [.frz (ns.map .int)] 0 ns rfl
  refine wp_run rfl ?_
  have hsl : List.map some [D.loc 0] ++ List.replicate (8 - 1) none = [some (.loc 0), none, none, none, none, none, none, none] := rfl
  rw [hsl]
  unfold b_law
  obtain ⟨TD, hTD⟩ : ∃ TD, TD = D.tup [cdD c0, cdD c1] := ⟨_, rfl⟩
  obtain ⟨PD, hPD⟩ : ∃ PD, PD = D.tup [TG, TD] := ⟨_, rfl⟩
  rw [← hTD, ← hPD] at e1
  have p1 : ∀ s, ixO PD (.int 1) s = some (TD, s) := fun s => by rw [hPD]; rfl
  refine wp_nx (σ1 := [some (.loc 0), some PD, none, none, none, none, none, none]) (st1 := s1) (by simp only [asgS_eq, callF_eq, consF_eq, nilF_eq, varF_eq, bnd_some, List.getElem?_cons_zero, e1]; rfl) ?_
  refine wp_seq (wp_for (st1 := s1) (xs := rngD 0 2) (fun k σ s => ∃ (x2 x3 x4 x5 x6 x7 : Option D), σ = [some (.loc 0), some PD, x2, x3, x4, x5, x6, x7]) (rng1_nat (by simp) (by decide)) ⟨_, _, _, _, _, _, rfl⟩ ?_ ?_)
  · rintro k σ s d hd ⟨x2, x3, x4, x5, x6, x7, rfl⟩
    obtain ⟨hk2, rfl⟩ := rngD_get hd
    rw [show ((0 : Int) + (k : Nat)) = (k : Nat) by omega]
    obtain ⟨c, hc, pk⟩ : ∃ c, Cd c ∧ ∀ s, ixO TD (.int (k : Nat)) s = some (cdD c, s) := by
      rcases (show k = 0 ∨ k = 1 by omega) with rfl | rfl
      · exact ⟨c0, h0, fun s => by rw [hTD]; rfl⟩
      · exact ⟨c1, h1, fun s => by rw [hTD]; rfl⟩
    have hc8 := hc.len
    obtain ⟨CD, hCD⟩ : ∃ CD, CD = cdD c := ⟨_, rfl⟩
    have hlen : ∀ s, lenO [CD] s = some (.int c.length, s) := fun s => by
      rw [hCD]
      have : (c.map I52.d).length = c.length := List.length_map _
      show some (D.int ((c.map I52.d).length : Nat), s) = _
      rw [this]
    have hix : ∀ (j : Nat) (i : I52) s, c[j]? = some i → ixO CD (.int j) s = some (i.d, s) := fun j i s e => by
      rw [hCD]
      unfold cdD
      rw [ixO_tup, atI_nat (by rw [List.getElem?_map, e]; rfl)]
      rfl
    refine ⟨[some (.loc 0), some PD, some (.int (k : Nat)), x3, x4, x5, x6, x7], rfl, ?_⟩
    refine wp_nx (σ1 := [some (.loc 0), some PD, some (.int (k : Nat)), some CD, x4, x5, x6, x7]) (st1 := s) (by
      rw [hCD]
      simp only [asgS_eq, binF_eq, varF_eq, cstF_eq, bnd_some, List.getElem?_cons_zero, List.getElem?_cons_succ, p1, pk]; rfl) ?_
    refine wp_forL (n := s.length) (st1 := s ++ [.lst (vars52.map .str)]) (xs := vars52.map .str) (fun j σ s2 => Ext (s ++ [.lst (vars52.map .str)]) s2 ∧ ∃ (x4 x5 x6 x7 : Option D), σ = [some (.loc 0), some PD, some (.int (k : Nat)), some CD, x4, x5, x6, x7]) (by
      have hv : lstF (consF (cstF (.str "x")) (consF (cstF (.str "y")) (consF (cstF (.str "zz")) nilF))) [some (.loc 0), some PD, some (.int (k : Nat)), some CD, x4, x5, x6, x7] s = some (.loc s.length, s ++ [.lst (vars52.map .str)]) := rfl
      simp only [anyI_eq, hv, bnd_some, new_get, Option.map_some]) (new_get _ _) ⟨Ext.refl, _, _, _, _, rfl⟩ (fun j σ s2 h => h.1.getL (new_get _ _)) ?_ ?_
    · rintro j σ s2 d hd ⟨xv, x4, x5, x6, x7, rfl⟩
      rw [List.getElem?_map] at hd
      cases ej : vars52[j]? with
      | none => rw [ej] at hd; cases hd
      | some x =>
      rw [ej] at hd
      cases hd
      have hx : x ∈ vars52 := List.mem_of_getElem? ej
      refine ⟨[some (.loc 0), some PD, some (.int (k : Nat)), some CD, some (.str x), x5, x6, x7], rfl, ?_⟩
      refine wp_nx (σ1 := [some (.loc 0), some PD, some (.int (k : Nat)), some CD, some (.str x), some (.loc s2.length), x6, x7]) (st1 := s2 ++ [.lst []]) (by simp [LIM]) ?_
      have few : ∀ a, ((List.range a).flatMap (rowA x c)).length ≤ 8 * a := fun a => by
        induction a with
        | zero => simp
        | succ a ih =>
          rw [List.range_succ, List.flatMap_append, List.length_append]
          have : (rowA x c a).length ≤ 8 := by
            unfold rowA
            have := List.length_filterMap_le (row x c a) (List.range' a (c.length - a))
            rw [List.length_range'] at this
            omega
          simp only [List.flatMap_cons, List.flatMap_nil, List.append_nil]
          omega
      refine wp_seq (wp_for (st1 := s2 ++ [.lst []]) (xs := rngD 0 c.length) (fun a σ s3 => ∃ (x6 x7 : Option D), σ = [some (.loc 0), some PD, some (.int (k : Nat)), some CD, some (.str x), some (.loc s2.length), x6, x7] ∧ Ext s2 s3 ∧ s3[s2.length]? = some (.lst (((List.range a).flatMap (rowA x c)).map prD))) (rng1_nat (by simp only [appF_eq, consF_eq, nilF_eq, varF_eq, bnd_some, List.getElem?_cons_zero, List.getElem?_cons_succ, hlen]) (by show c.length ≤ 1000000; omega)) ⟨x6, x7, rfl, Ext.app _, by simp⟩ ?_ ?_)
      · rintro a σ s3 d hd ⟨x6, x7, rfl, xa, ga⟩
        obtain ⟨ha, rfl⟩ := rngD_get hd
        rw [show ((0 : Int) + (a : Nat)) = (a : Nat) by omega]
        obtain ⟨ia, eia⟩ : ∃ i, c[a]? = some i := ⟨c[a], List.getElem?_eq_getElem ha⟩
        have nA : isN x c a = decide (nm52 ia = some x) := by unfold isN; rw [eia]
        refine ⟨[some (.loc 0), some PD, some (.int (k : Nat)), some CD, some (.str x), some (.loc s2.length), some (.int (a : Nat)), x7], rfl, ?_⟩
        refine wp_for (st1 := s3) (xs := rngD a (c.length - a)) (fun b σ s4 => ∃ (x7 : Option D), σ = [some (.loc 0), some PD, some (.int (k : Nat)), some CD, some (.str x), some (.loc s2.length), some (.int (a : Nat)), x7] ∧ Ext s2 s4 ∧ s4[s2.length]? = some (.lst (((List.range a).flatMap (rowA x c) ++ (List.range' a b).filterMap (row x c a)).map prD)))
          (by
            have e := rng2_ok (g := consF (varF 6) (consF (appF lenO (consF (varF 3) nilF)) nilF)) (σ := [some (.loc 0), some PD, some (.int (k : Nat)), some CD, some (.str x), some (.loc s2.length), some (.int (a : Nat)), x7]) (st := s3) (st1 := s3) (i := a) (k := c.length) (by simp only [consF_eq, nilF_eq, appF_eq, varF_eq, bnd_some, List.getElem?_cons_zero, List.getElem?_cons_succ, hlen]) (by omega) (by omega) (by omega) (by omega)
            rw [e]
            have : ((c.length : Int) - (a : Int)).toNat = c.length - a := by omega
            rw [this]) ⟨x7, rfl, xa, by simpa using ga⟩ ?_ ?_
        · rintro b σ s4 d hd ⟨x7, rfl, xb, gb⟩
          obtain ⟨hb, rfl⟩ := rngD_get hd
          rw [show ((a : Int) + (b : Nat)) = ((a + b : Nat) : Int) by omega]
          have hab : a + b < c.length := by omega
          obtain ⟨ib, eib⟩ : ∃ i, c[a + b]? = some i := ⟨c[a + b], List.getElem?_eq_getElem hab⟩
          have nB : isN x c (a + b) = decide (nm52 ib = some x) := by unfold isN; rw [eib]
          have rng : List.range' a (b + 1) = List.range' a b ++ [a + b] := by rw [List.range'_concat]; simp
          obtain ⟨s5, e5, x5'⟩ := hnm ia (hc.good ia (List.mem_of_getElem? eia)) s4
          obtain ⟨s6, e6, x6'⟩ := hnm ib (hc.good ib (List.mem_of_getElem? eib)) s5
          refine ⟨[some (.loc 0), some PD, some (.int (k : Nat)), some CD, some (.str x), some (.loc s2.length), some (.int (a : Nat)), some (.int ((a + b : Nat) : Int))], rfl, ?_⟩
          have no : ∀ s7, Ext s2 s7 → s7[s2.length]? = some (.lst (((List.range a).flatMap (rowA x c) ++ (List.range' a b).filterMap (row x c a)).map prD)) → row x c a (a + b) = none → s7[s2.length]? = some (.lst (((List.range a).flatMap (rowA x c) ++ (List.range' a (b + 1)).filterMap (row x c a)).map prD)) := fun s7 _ g7 hr => by
            rw [rng, List.filterMap_append, List.filterMap_cons, hr]
            simpa using g7
          by_cases hA : nm52 ia = some x
          · by_cases hB : nm52 ib = some x
            · refine wp_if (t := true) (st1 := s6) (by
                simp only [andT_eq, cmpT_eq, binF_eq, callF_eq, consF_eq, nilF_eq, varF_eq, bnd_some, List.getElem?_cons_zero, List.getElem?_cons_succ, hix _ _ _ eia, hix _ _ _ eib, e5, e6, nm_eq, decide_eq_true hA, decide_eq_true hB, truth_bl, Option.map_some, if_true]) (fun _ => ?_) (fun h => by cases h)
              obtain ⟨s7, e7, x7'⟩ := hgr c hc a (a + b) (by omega) hab s6
              rw [← hCD] at e7
              have g7 := ((x5'.trans x6').trans x7').at gb
              have xx := ((xb.trans x5').trans x6').trans x7'
              refine wp_if (t := grd c a (a + b)) (st1 := s7) (by simp only [truF_eq, callF_eq, consF_eq, nilF_eq, varF_eq, bnd_some, List.getElem?_cons_zero, List.getElem?_cons_succ, e7, truth_bl, Option.map_some]) (fun hg => ?_) (fun hg => ?_)
              · have hr : row x c a (a + b) = some (a, a + b) := if_pos ⟨by rw [nA]; exact decide_eq_true hA, by rw [nB]; exact decide_eq_true hB, hg⟩
                have hl7 := (List.getElem?_eq_some_iff.mp g7).1
                have tyl : isTy "list" (.loc s2.length) s7 = true := by rw [isTy_list, getL_of g7]; rfl
                have fl : ((List.range' a b).filterMap (row x c a)).length ≤ 8 := by
                  have := List.length_filterMap_le (row x c a) (List.range' a b)
                  rw [List.length_range'] at this
                  omega
                have hlim : (((List.range a).flatMap (rowA x c) ++ (List.range' a b).filterMap (row x c a)).map prD).length < LIM := by
                  rw [List.length_map, List.length_append]
                  have := few a
                  show _ < 1000000
                  omega
                refine wp_ex (d := .non) (st1 := s7.set s2.length (.lst (((List.range a).flatMap (rowA x c) ++ (List.range' a b).filterMap (row x c a)).map prD ++ [prD (a, a + b)]))) ?_ ⟨_, rfl, xx.set (Nat.le_refl _), ?_⟩
                · have pd : prD (a, a + b) = .tup [.int (a : Nat), .int ((a + b : Nat) : Int)] := rfl
                  have t2 : tupF (consF (varF 6) (consF (varF 7) nilF)) [some (.loc 0), some PD, some (.int (k : Nat)), some CD, some (.str x), some (.loc s2.length), some (.int (a : Nat)), some (.int ((a + b : Nat) : Int))] s7 = some (prD (a, a + b), s7) := rfl
                  simp only [bmF_eq, varF_eq, consF_eq, nilF_eq, bnd_some, List.getElem?_cons_zero, List.getElem?_cons_succ, tyl, if_true, t2, appendO_eq, getM_of g7, hlim]
                · rw [List.getElem?_set_self hl7, rng, List.filterMap_append, List.filterMap_cons, hr]
                  simp
              · exact wp_skip ⟨_, rfl, xx, no s7 xx g7 (if_neg fun z => by rw [hg] at z; exact absurd z.2.2 (by decide))⟩
            · refine wp_if (t := false) (st1 := s6) (by
                simp only [andT_eq, cmpT_eq, binF_eq, callF_eq, consF_eq, nilF_eq, varF_eq, bnd_some, List.getElem?_cons_zero, List.getElem?_cons_succ, hix _ _ _ eia, hix _ _ _ eib, e5, e6, nm_eq, decide_eq_true hA, decide_eq_false hB, truth_bl, Option.map_some, if_true]) (fun h => by cases h) (fun _ => ?_)
              have xx := (xb.trans x5').trans x6'
              exact wp_skip ⟨_, rfl, xx, no s6 xx ((x5'.trans x6').at gb) (if_neg fun z => by rw [nB, decide_eq_false hB] at z; exact absurd z.2.1 (by decide))⟩
          · refine wp_if (t := false) (st1 := s5) (by
              simp only [andT_eq, cmpT_eq, binF_eq, callF_eq, consF_eq, nilF_eq, varF_eq, bnd_some, List.getElem?_cons_zero, List.getElem?_cons_succ, hix _ _ _ eia, e5, nm_eq, decide_eq_false hA, truth_bl, Option.map_some, Bool.false_eq_true, if_false]) (fun h => by cases h) (fun _ => ?_)
            have xx := xb.trans x5'
            exact wp_skip ⟨_, rfl, xx, no s5 xx (x5'.at gb) (if_neg fun z => by rw [nA, decide_eq_false hA] at z; exact absurd z.1 (by decide))⟩
        · rintro σ s4 ⟨x7, rfl, xb, gb⟩
          rw [rngD_len] at gb
          refine ⟨_, _, rfl, xb, ?_⟩
          rw [gb, List.range_succ, List.flatMap_append]
          simp [rowA]
      · rintro σ s3 ⟨x6, x7, rfl, xa, ga⟩
        rw [rngD_len] at ga
        have ga' : s3[s2.length]? = some (.lst ((dueL x c).map prD)) := ga
        rw [← spans_due] at ga'
        obtain ⟨s4, n4, e4, x4', g4⟩ := hsp PD TD (k : Nat) x c hx hc p1 pk s3
        have lo : listO [.loc n4] s4 = some (.loc s4.length, s4 ++ [.lst ((spansL x c).map prD)]) := by
          unfold listO
          simp only [getL_of g4, Option.map_some]
        have xl : Ext s4 (s4 ++ [OB.lst ((spansL x c).map prD)]) := Ext.app _
        have q := eq_prs (s := s4 ++ [.lst ((spansL x c).map prD)]) (a := s4.length) (b := s2.length) (new_get _ _) (getL_of ((x4'.trans xl).at ga'))
        refine wp_if (t := false) (st1 := s4 ++ [.lst ((spansL x c).map prD)]) (by
          simp only [cmpT_eq, binF_eq, appF_eq, callF_eq, consF_eq, nilF_eq, varF_eq, bnd_some, List.getElem?_cons_zero, List.getElem?_cons_succ, e4, lo, q, truth_bl, Option.map_some]) (fun h => by cases h) (fun _ => wp_skip ⟨((xv.trans xa).trans x4').trans xl, _, _, _, _, rfl⟩)
    · rintro σ s2 ⟨_, x4, x5, x6, x7, rfl⟩
      exact ⟨_, _, _, _, _, _, rfl⟩
  · rintro σ s ⟨x2, x3, x4, x5, x6, x7, rfl⟩
    exact wp_ret (d := .bl true) (st1 := s) rfl rfl
end Lw

namespace Lw
open PySem L2 Iv
abbrev top (i : Nat) : Stmt := PySem.Challenge.pw_everyturn_k52_spans.main.body.getD i (.Pass ⟨0, 0, 0, 0⟩)
abbrev s_thing_of : Stmt := top 2
abbrev N_thing_of : List Str := ["instruction", "at"]
theorem sc_thing_of : FnScope N_thing_of ["instruction"] (defScope s_thing_of) := ⟨rfl, rfl, rfl, by decide +kernel, rfl, by decide +kernel, by decide +kernel⟩
theorem d_thing_of {P : Program} {w : World} {K : PySem.W.Frag} {mg : Str → Option Value} {base : Heap} {k : Nat}  (kd_NAME_AT : ConD K w mg "NAME_AT" c_NAME_AT)  (f : Addr) (cdv : Value) (A : Around) (outer : List PySem.Env) (s : Shared) (H : Hp) (E : XK) (hr : Room k (A.deeper (PyProof.Rows.envOfC "thing_of" (defScope s_thing_of) s.heap.objs.size f cdv))) :
    PSs (cxOf CX0 P w K mg base N_thing_of "thing_of" (defScope s_thing_of) f cdv A outer s H E).nox (defBody s_thing_of) (rdS K w (b_thing_of )) := by
  have nd := sc_thing_of.nd
  exact (ss_cons (ss_set (i := 1) nd rfl (by first | exact Or.inl rfl | exact Or.inr rfl) (e_dget kd_NAME_AT rfl (sa_cons (e_ix (se_var (pv 0)) se_int) sa_nil)))
  (ss_one (ss_ret (se_if (t_cmp cm_isN (se_var (pv 1)) se_non) se_non (e_ix (se_var (pv 0)) (se_var (pv 1)))))))
abbrev s_spans : Stmt := top 5
abbrev N_spans : List Str := ["program", "thread", "name", "instructions", "uses", "pc", "instruction", "pairs", "first", "last", "span"]
theorem sc_spans : FnScope N_spans ["program", "thread", "name"] (defScope s_spans) := ⟨rfl, rfl, rfl, by decide +kernel, rfl, by decide +kernel, by decide +kernel⟩
theorem d_spans {P : Program} {w : World} {K : PySem.W.Frag} {mg : Str → Option Value} {base : Heap} {k : Nat} {p_thing_of : Fx} (C_thing_of : Cal P w K mg base k "thing_of" ["instruction"] p_thing_of) {p__can_be_guarded : Fx} (C__can_be_guarded : Cal P w K mg base k "_can_be_guarded" ["instructions", "span"] p__can_be_guarded)  (z_enumerate : mg "enumerate" = none) (f : Addr) (cdv : Value) (A : Around) (outer : List PySem.Env) (s : Shared) (H : Hp) (E : XK) (hr : Room k (A.deeper (PyProof.Rows.envOfC "spans" (defScope s_spans) s.heap.objs.size f cdv))) :
    PSs (cxOf CX0 P w K mg base N_spans "spans" (defScope s_spans) f cdv A outer s H E).nox (defBody s_spans) (rdS K w (b_spans p_thing_of p__can_be_guarded)) := by
  have nd := sc_spans.nd
  exact (ss_cons (ss_set (i := 3) nd rfl (by first | exact Or.inl rfl | exact Or.inr rfl) (e_ix (e_ix (se_var (pv 0)) se_int) (se_var (pv 1))))
  (ss_cons (ss_set (i := 4) nd rfl (by first | exact Or.inl rfl | exact Or.inr rfl) (se_comp (own := [("pc", 5), ("instruction", 6)]) (g := (tupG [5, 6])) rfl nd (si_enumU rfl z_enumerate (sa_cons (se_var (pv 3)) sa_nil)) (blkOk_by (N := N_spans) (sc := defScope s_spans) (by decide +kernel)) (fun _ _ _ _ _ => (pg_tup rfl (pgs_cons (pg_name (i := 5) nd rfl (by first | exact Or.inl rfl | exact Or.inr rfl)) (pgs_cons (pg_name (i := 6) nd rfl (by first | exact Or.inl rfl | exact Or.inr rfl)) pgs_nil)))) (ok_tup (n := 2) (ok_gcons (i := 5) (ok_gcons (i := 6) ok_gnil)) rfl) (own_tup (own_cons (i := 5) (by decide) (own_cons (i := 6) (by decide) own_nil))) (fun _ _ _ _ _ => (ts_one (t_cmp (cm_eq (r64 hr)) (e_call C_thing_of hr rfl (sa_cons (se_var (pv 6)) sa_nil)) (se_var (pv 2))))) (fun _ _ _ _ _ => (se_var (pv 5)))) (sw_cell rfl))
  (ss_cons (s_setLc2 (i := 7) (own := [("first", 8), ("last", 9)]) (vs1 := [9]) (g := (nmG 8)) (g1 := (nmG 9)) rfl nd (si_any (se_var (pv 4))) (blkOk_by (N := N_spans) (sc := defScope s_spans) (by decide +kernel)) (by decide) (fun _ _ _ _ _ => (pg_name (i := 8) nd rfl (by first | exact Or.inl rfl | exact Or.inr rfl))) ok_name (own_name (by decide)) (fun _ _ _ _ _ => ts_nil) (fun _ _ _ _ _ => (si_any (se_var (pv 4)))) (fun _ _ _ _ _ => (pg_name (i := 9) nd rfl (by first | exact Or.inl rfl | exact Or.inr rfl))) ok_name (own_name (by decide)) (fun _ _ _ _ _ => (ts_one (t_cmp cm_le (se_var (pv 8)) (se_var (pv 9))))) (fun _ _ _ _ _ => (se_tup (sa_cons (se_var (pv 8)) (sa_cons (se_var (pv 9)) sa_nil)))))
  (ss_one (ss_ret (se_comp (own := [("span", 10)]) (g := (nmG 10)) rfl nd (si_any (se_var (pv 7))) (blkOk_by (N := N_spans) (sc := defScope s_spans) (by decide +kernel)) (fun _ _ _ _ _ => (pg_name (i := 10) nd rfl (by first | exact Or.inl rfl | exact Or.inr rfl))) ok_name (own_name (by decide)) (fun _ _ _ _ _ => (ts_one (st_tru (e_call C__can_be_guarded hr rfl (sa_cons (se_var (pv 3)) (sa_cons (se_var (pv 10)) sa_nil)))))) (fun _ _ _ _ _ => (se_var (pv 10)))))))))
abbrev s__can_be_guarded : Stmt := top 6
abbrev N__can_be_guarded : List Str := ["instructions", "span", "first", "last", "within", "instruction", "led_to", "pc"]
theorem sc__can_be_guarded : FnScope N__can_be_guarded ["instructions", "span"] (defScope s__can_be_guarded) := ⟨rfl, rfl, rfl, by decide +kernel, rfl, by decide +kernel, by decide +kernel⟩
theorem d__can_be_guarded {P : Program} {w : World} {K : PySem.W.Frag} {mg : Str → Option Value} {base : Heap} {k : Nat}  (k_INNER : Con K mg "INNER" c_INNER) (z_all : mg "all" = none) (z_any : mg "any" = none) (f : Addr) (cdv : Value) (A : Around) (outer : List PySem.Env) (s : Shared) (H : Hp) (E : XK) (hr : Room k (A.deeper (PyProof.Rows.envOfC "_can_be_guarded" (defScope s__can_be_guarded) s.heap.objs.size f cdv))) :
    PSs (cxOf CX0 P w K mg base N__can_be_guarded "_can_be_guarded" (defScope s__can_be_guarded) f cdv A outer s H E).nox (defBody s__can_be_guarded) (rdS K w (b__can_be_guarded )) := by
  have nd := sc__can_be_guarded.nd
  exact (ss_cons (ss_asg (se_var (pv 1)) (pg_tup rfl (pgs_cons (pg_name (i := 2) nd rfl (by first | exact Or.inl rfl | exact Or.inr rfl)) (pgs_cons (pg_name (i := 3) nd rfl (by first | exact Or.inl rfl | exact Or.inr rfl)) pgs_nil))) (ok_tup (n := 2) (ok_gcons (i := 2) (ok_gcons (i := 3) ok_gnil)) rfl))
  (ss_cons (s_setLc (i := 4) (own := [("instruction", 5)]) (g := (nmG 5)) rfl nd (si_any (e_slice (se_var (pv 0)) (so_some (se_var (pv 2))) (so_some (e_add (se_var (pv 3)) se_int)))) (blkOk_by (N := N__can_be_guarded) (sc := defScope s__can_be_guarded) (by decide +kernel)) (fun _ _ _ _ _ => (pg_name (i := 5) nd rfl (by first | exact Or.inl rfl | exact Or.inr rfl))) ok_name (own_name (by decide)) (fun _ _ _ _ _ => ts_nil) (fun _ _ _ _ _ => (e_cmp (cm_in (r65 hr)) (e_ix (se_var (pv 5)) se_int) (e_con k_INNER rfl))))
  (ss_cons (s_setLc (i := 6) (own := [("instruction", 5)]) (g := (nmG 5)) rfl nd (si_any (se_var (pv 0))) (blkOk_by (N := N__can_be_guarded) (sc := defScope s__can_be_guarded) (by decide +kernel)) (fun _ _ _ _ _ => (pg_name (i := 5) nd rfl (by first | exact Or.inl rfl | exact Or.inr rfl))) ok_name (own_name (by decide)) (fun _ _ _ _ _ => (ts_one (t_cmp (cm_eq (r64 hr)) (e_ix (se_var (pv 5)) se_int) se_str))) (fun _ _ _ _ _ => (e_ix (se_var (pv 5)) se_int)))
  (ss_one (ss_ret (se_and (e_all rfl rfl z_all (sa_cons (se_var (pv 4)) sa_nil)) (se_one (se_not (e_any rfl rfl z_any (sa_cons (se_comp (own := [("pc", 7)]) (g := (nmG 7)) rfl nd (si_any (se_var (pv 6))) (blkOk_by (N := N__can_be_guarded) (sc := defScope s__can_be_guarded) (by decide +kernel)) (fun _ _ _ _ _ => (pg_name (i := 7) nd rfl (by first | exact Or.inl rfl | exact Or.inr rfl))) ok_name (own_name (by decide)) (fun _ _ _ _ _ => ts_nil) (fun _ _ _ _ _ => (e_chain cm_lt cm_le (se_var (pv 2)) (se_var (pv 7)) (se_var (pv 3))))) sa_nil))))))))))
abbrev s__law_cell : Stmt := top 8
abbrev N__law_cell : List Str := ["script", "k"]
theorem sc__law_cell : FnScope N__law_cell ["script", "k"] (defScope s__law_cell) := ⟨rfl, rfl, rfl, by decide +kernel, rfl, by decide +kernel, by decide +kernel⟩
theorem d__law_cell {P : Program} {w : World} {K : PySem.W.Frag} {mg : Str → Option Value} {base : Heap} {k : Nat}   (z_len : mg "len" = none) (f : Addr) (cdv : Value) (A : Around) (outer : List PySem.Env) (s : Shared) (H : Hp) (E : XK) (hr : Room k (A.deeper (PyProof.Rows.envOfC "_law_cell" (defScope s__law_cell) s.heap.objs.size f cdv))) :
    PSs (cxOf CX0 P w K mg base N__law_cell "_law_cell" (defScope s__law_cell) f cdv A outer s H E).nox (defBody s__law_cell) (rdS K w (b__law_cell )) := by
  have nd := sc__law_cell.nd
  exact (ss_cons (ss_if (t_cmp cm_lt (se_var (pv 1)) (e_len rfl z_len (sa_cons (se_var (pv 0)) sa_nil))) (ss_one (ss_ret (e_ix (se_var (pv 0)) (se_var (pv 1))))) ss_nil)
  (ss_one (ss_ret se_int)))
abbrev s__law_digits : Stmt := top 9
abbrev N__law_digits : List Str := ["cell", "k", "most", "digits", "turn", "seed"]
theorem sc__law_digits : FnScope N__law_digits ["cell", "k", "most"] (defScope s__law_digits) := ⟨rfl, rfl, rfl, by decide +kernel, rfl, by decide +kernel, by decide +kernel⟩
theorem d__law_digits {P : Program} {w : World} {K : PySem.W.Frag} {mg : Str → Option Value} {base : Heap} {k : Nat}   (z_range : mg "range" = none) (z_len : mg "len" = none) (z_int : mg "int" = none) (f : Addr) (cdv : Value) (A : Around) (outer : List PySem.Env) (s : Shared) (H : Hp) (E : XK) (hr : Room k (A.deeper (PyProof.Rows.envOfC "_law_digits" (defScope s__law_digits) s.heap.objs.size f cdv))) :
    PSs (cxOf CX0 P w K mg base N__law_digits "_law_digits" (defScope s__law_digits) f cdv A outer s H E).nox (defBody s__law_digits) (rdS K w (b__law_digits )) := by
  have nd := sc__law_digits.nd
  exact (ss_cons (ss_set (i := 3) nd rfl (by first | exact Or.inl rfl | exact Or.inr rfl) (se_lst sa_nil))
  (ss_cons (ss_if (t_cmp cm_lt (se_var (pv 0)) se_int) (ss_one (ss_set (i := 0) nd rfl (by first | exact Or.inl rfl | exact Or.inr rfl) (e_sub (e_neg se_int) (se_var (pv 0))))) ss_nil)
  (ss_cons (ss_if (t_cmp cm_ge (se_var (pv 0)) (e_pow se_int se_int)) (ss_one (ss_for PassesOwn.never rfl (si_rng1 rfl z_range (sa_cons se_int sa_nil)) (pg_name (i := 4) nd rfl (by first | exact Or.inl rfl | exact Or.inr rfl)) ok_name (ss_one (ss_if (PW.pt (sw_and (t_cmp cm_gt (se_var (pv 0)) se_int) (sw_and1 (t_cmp cm_lt (e_len rfl z_len (sa_cons (se_var (pv 3)) sa_nil)) (se_var (pv 2)))))) (ss_cons (ss_expr (e_append (se_var (pv 3)) (sa_cons (e_mod (e_int rfl z_int (sa_cons (se_var (pv 0)) sa_nil)) se_int) sa_nil)))
  (ss_one (ss_set (i := 0) nd rfl (by first | exact Or.inl rfl | exact Or.inr rfl) (e_fdiv (se_var (pv 0)) se_int)))) ss_nil)))) (ss_cons (ss_set (i := 5) nd rfl (by first | exact Or.inl rfl | exact Or.inr rfl) (e_mod (e_int rfl z_int (sa_cons (e_add (e_add (e_mul (se_var (pv 0)) se_int) (e_mul (se_var (pv 1)) se_int)) se_int) sa_nil)) se_int))
  (ss_one (ss_for PassesOwn.never rfl (si_rng1 rfl z_range (sa_cons (se_var (pv 2)) sa_nil)) (pg_name (i := 4) nd rfl (by first | exact Or.inl rfl | exact Or.inr rfl)) ok_name (ss_cons (ss_set (i := 5) nd rfl (by first | exact Or.inl rfl | exact Or.inr rfl) (e_mod (e_int rfl z_int (sa_cons (e_add (e_add (e_mul (se_var (pv 5)) se_int) (e_mul se_int (se_var (pv 4)))) se_int) sa_nil)) se_int))
  (ss_one (ss_expr (e_append (se_var (pv 3)) (sa_cons (e_mod (e_int rfl z_int (sa_cons (e_fdiv (se_var (pv 5)) se_int) sa_nil)) se_int) sa_nil)))))))))
  (ss_one (ss_ret (se_var (pv 3)))))))
abbrev s__law_padded : Stmt := top 10
abbrev N__law_padded : List Str := ["cell", "k", "d", "turn"]
theorem sc__law_padded : FnScope N__law_padded ["cell", "k"] (defScope s__law_padded) := ⟨rfl, rfl, rfl, by decide +kernel, rfl, by decide +kernel, by decide +kernel⟩
theorem d__law_padded {P : Program} {w : World} {K : PySem.W.Frag} {mg : Str → Option Value} {base : Heap} {k : Nat} {p__law_digits : Fx} (C__law_digits : Cal P w K mg base k "_law_digits" ["cell", "k", "most"] p__law_digits)  (z_range : mg "range" = none) (f : Addr) (cdv : Value) (A : Around) (outer : List PySem.Env) (s : Shared) (H : Hp) (E : XK) (hr : Room k (A.deeper (PyProof.Rows.envOfC "_law_padded" (defScope s__law_padded) s.heap.objs.size f cdv))) :
    PSs (cxOf CX0 P w K mg base N__law_padded "_law_padded" (defScope s__law_padded) f cdv A outer s H E).nox (defBody s__law_padded) (rdS K w (b__law_padded p__law_digits)) := by
  have nd := sc__law_padded.nd
  exact (ss_cons (ss_set (i := 2) nd rfl (by first | exact Or.inl rfl | exact Or.inr rfl) (e_call C__law_digits hr rfl (sa_cons (se_var (pv 0)) (sa_cons (se_var (pv 1)) (sa_cons se_int sa_nil)))))
  (ss_cons (ss_for PassesOwn.never rfl (si_rng1 rfl z_range (sa_cons se_int sa_nil)) (pg_name (i := 3) nd rfl (by first | exact Or.inl rfl | exact Or.inr rfl)) ok_name (ss_one (ss_expr (e_append (se_var (pv 2)) (sa_cons (se_var (pv 3)) sa_nil)))))
  (ss_one (ss_ret (se_var (pv 2))))))
abbrev s__law_things : Stmt := top 11
abbrev N__law_things : List Str := []
theorem sc__law_things : FnScope N__law_things [] (defScope s__law_things) := ⟨rfl, rfl, rfl, by decide +kernel, rfl, by decide +kernel, by decide +kernel⟩
theorem d__law_things {P : Program} {w : World} {K : PySem.W.Frag} {mg : Str → Option Value} {base : Heap} {k : Nat}    (f : Addr) (cdv : Value) (A : Around) (outer : List PySem.Env) (s : Shared) (H : Hp) (E : XK) (hr : Room k (A.deeper (PyProof.Rows.envOfC "_law_things" (defScope s__law_things) s.heap.objs.size f cdv))) :
    PSs (cxOf CX0 P w K mg base N__law_things "_law_things" (defScope s__law_things) f cdv A outer s H E).nox (defBody s__law_things) (rdS K w (b__law_things )) := by
  have nd := sc__law_things.nd
  exact (ss_one (ss_ret (se_tup (sa_cons (se_tup (sa_cons se_str (sa_cons se_str sa_nil))) (sa_cons (se_tup (sa_cons se_str (sa_cons se_str (sa_cons se_int sa_nil)))) (sa_cons (se_tup (sa_cons se_str (sa_cons se_str (sa_cons se_str sa_nil)))) (sa_cons (se_tup (sa_cons se_str (sa_cons se_str (sa_cons se_int sa_nil)))) (sa_cons (se_tup (sa_cons se_str (sa_cons se_str (sa_cons se_int sa_nil)))) (sa_cons (se_tup (sa_cons se_str (sa_cons se_str sa_nil))) sa_nil)))))))))
abbrev s__law_piece : Stmt := top 12
abbrev N__law_piece : List Str := ["digit", "pc", "add", "less", "pieces"]
theorem sc__law_piece : FnScope N__law_piece ["digit", "pc"] (defScope s__law_piece) := ⟨rfl, rfl, rfl, by decide +kernel, rfl, by decide +kernel, by decide +kernel⟩
theorem d__law_piece {P : Program} {w : World} {K : PySem.W.Frag} {mg : Str → Option Value} {base : Heap} {k : Nat}   (z_int : mg "int" = none) (f : Addr) (cdv : Value) (A : Around) (outer : List PySem.Env) (s : Shared) (H : Hp) (E : XK) (hr : Room k (A.deeper (PyProof.Rows.envOfC "_law_piece" (defScope s__law_piece) s.heap.objs.size f cdv))) :
    PSs (cxOf CX0 P w K mg base N__law_piece "_law_piece" (defScope s__law_piece) f cdv A outer s H E).nox (defBody s__law_piece) (rdS K w (b__law_piece )) := by
  have nd := sc__law_piece.nd
  exact (ss_cons (ss_set (i := 2) nd rfl (by first | exact Or.inl rfl | exact Or.inr rfl) (se_tup (sa_cons se_str (sa_cons se_str (sa_cons (se_tup (sa_cons se_str (sa_cons se_str sa_nil))) (sa_cons (se_tup (sa_cons se_str (sa_cons se_int sa_nil))) sa_nil))))))
  (ss_cons (ss_set (i := 3) nd rfl (by first | exact Or.inl rfl | exact Or.inr rfl) (se_tup (sa_cons se_str (sa_cons se_str (sa_cons (se_tup (sa_cons se_str (sa_cons se_str sa_nil))) (sa_cons (se_tup (sa_cons se_str (sa_cons se_int sa_nil))) sa_nil))))))
  (ss_cons (ss_set (i := 4) nd rfl (by first | exact Or.inl rfl | exact Or.inr rfl) (se_lst (sa_cons (se_lst (sa_cons (se_tup (sa_cons se_str (sa_cons se_str (sa_cons se_str sa_nil)))) (sa_cons (se_tup (sa_cons se_str (sa_cons se_str (sa_cons (se_var (pv 2)) sa_nil)))) sa_nil))) (sa_cons (se_lst (sa_cons (se_tup (sa_cons se_str (sa_cons se_str (sa_cons (se_tup (sa_cons se_str (sa_cons se_int sa_nil))) sa_nil)))) sa_nil)) (sa_cons (se_lst (sa_cons (se_tup (sa_cons se_str (sa_cons se_str (sa_cons (se_tup (sa_cons se_str (sa_cons se_int sa_nil))) sa_nil)))) sa_nil)) (sa_cons (se_lst (sa_cons (se_tup (sa_cons se_str (sa_cons se_str (sa_cons se_str sa_nil)))) sa_nil)) (sa_cons (se_lst (sa_cons (se_tup (sa_cons se_str (sa_cons se_str sa_nil))) (sa_cons (se_tup (sa_cons se_str (sa_cons se_str (sa_cons (se_tup (sa_cons se_str (sa_cons se_int sa_nil))) sa_nil)))) (sa_cons (se_tup (sa_cons se_str (sa_cons se_str sa_nil))) sa_nil)))) (sa_cons (se_lst (sa_cons (se_tup (sa_cons se_str (sa_cons se_str sa_nil))) (sa_cons (se_tup (sa_cons se_str (sa_cons se_str sa_nil))) sa_nil))) (sa_cons (se_lst (sa_cons (se_tup (sa_cons se_str (sa_cons se_str sa_nil))) (sa_cons (se_tup (sa_cons se_str (sa_cons se_str sa_nil))) sa_nil))) (sa_cons (se_lst (sa_cons (se_tup (sa_cons se_str (sa_cons se_str sa_nil))) (sa_cons (se_tup (sa_cons se_str (sa_cons se_str sa_nil))) (sa_cons (se_tup (sa_cons se_str (sa_cons se_str sa_nil))) sa_nil)))) (sa_cons (se_lst (sa_cons (se_tup (sa_cons se_str (sa_cons se_str sa_nil))) sa_nil)) (sa_cons (se_lst (sa_cons (se_tup (sa_cons se_str (sa_cons se_str sa_nil))) (sa_cons (se_tup (sa_cons se_str (sa_cons se_str sa_nil))) (sa_cons (se_tup (sa_cons se_str (sa_cons se_str sa_nil))) sa_nil)))) (sa_cons (se_lst (sa_cons (se_tup (sa_cons se_str (sa_cons se_str (sa_cons (se_tup (sa_cons se_str (sa_cons se_int sa_nil))) sa_nil)))) sa_nil)) (sa_cons (se_lst (sa_cons (se_tup (sa_cons se_str (sa_cons se_str (sa_cons se_str sa_nil)))) sa_nil)) (sa_cons (se_lst (sa_cons (se_tup (sa_cons se_str (sa_cons se_str (sa_cons se_str sa_nil)))) (sa_cons (se_tup (sa_cons se_str (sa_cons (se_var (pv 3)) sa_nil))) sa_nil))) (sa_cons (se_lst (sa_cons (se_tup (sa_cons se_str sa_nil)) (sa_cons (se_tup (sa_cons se_str (sa_cons se_str (sa_cons se_str sa_nil)))) (sa_cons (se_tup (sa_cons se_str (sa_cons se_str (sa_cons (se_var (pv 2)) sa_nil)))) (sa_cons (se_tup (sa_cons se_str sa_nil)) sa_nil))))) (sa_cons (se_lst (sa_cons (se_tup (sa_cons se_str (sa_cons se_str sa_nil))) sa_nil)) (sa_cons (se_lst (sa_cons (se_tup (sa_cons se_str (sa_cons se_str (sa_cons (se_tup (sa_cons se_str (sa_cons se_int sa_nil))) sa_nil)))) sa_nil)) (sa_cons (se_lst (sa_cons (se_tup (sa_cons se_str (sa_cons se_str (sa_cons (se_var (pv 2)) sa_nil)))) sa_nil)) (sa_cons (se_lst (sa_cons (se_tup (sa_cons se_str (sa_cons (e_add (se_var (pv 1)) se_int) (sa_cons (se_tup (sa_cons se_str (sa_cons se_str sa_nil))) sa_nil)))) (sa_cons (se_tup (sa_cons se_str (sa_cons se_str (sa_cons (se_var (pv 2)) sa_nil)))) sa_nil))) (sa_cons (se_lst (sa_cons (se_tup (sa_cons se_str sa_nil)) (sa_cons (se_tup (sa_cons se_str (sa_cons se_str (sa_cons (se_tup (sa_cons se_str (sa_cons se_int sa_nil))) sa_nil)))) (sa_cons (se_tup (sa_cons se_str (sa_cons se_str (sa_cons (se_tup (sa_cons se_str (sa_cons se_int sa_nil))) sa_nil)))) (sa_cons (se_tup (sa_cons se_str sa_nil)) sa_nil))))) (sa_cons (se_lst (sa_cons (se_tup (sa_cons se_str (sa_cons se_str (sa_cons (se_tup (sa_cons se_str (sa_cons se_str sa_nil))) sa_nil)))) sa_nil)) (sa_cons (se_lst (sa_cons (se_tup (sa_cons se_str sa_nil)) sa_nil)) (sa_cons (se_lst (sa_cons (se_tup (sa_cons se_str (sa_cons se_int (sa_cons se_non sa_nil)))) sa_nil)) (sa_cons (se_lst (sa_cons (se_tup (sa_cons se_str (sa_cons se_int (sa_cons (se_tup (sa_cons se_str (sa_cons se_str sa_nil))) sa_nil)))) sa_nil)) (sa_cons (se_lst (sa_cons (se_tup (sa_cons se_str (sa_cons se_int (sa_cons (se_tup (sa_cons se_str (sa_cons se_int sa_nil))) sa_nil)))) (sa_cons (se_tup (sa_cons se_str (sa_cons se_str (sa_cons se_str sa_nil)))) sa_nil))) sa_nil))))))))))))))))))))))))))
  (ss_one (ss_ret (e_ix (se_var (pv 4)) (e_mod (e_int rfl z_int (sa_cons (se_var (pv 0)) sa_nil)) se_int)))))))
abbrev s__law_longer : Stmt := top 13
abbrev N__law_longer : List Str := ["script", "pieces", "k", "d", "code", "j", "piece"]
theorem sc__law_longer : FnScope N__law_longer ["script"] (defScope s__law_longer) := ⟨rfl, rfl, rfl, by decide +kernel, rfl, by decide +kernel, by decide +kernel⟩
theorem d__law_longer {P : Program} {w : World} {K : PySem.W.Frag} {mg : Str → Option Value} {base : Heap} {k : Nat} {p__law_padded : Fx} (C__law_padded : Cal P w K mg base k "_law_padded" ["cell", "k"] p__law_padded) {p__law_cell : Fx} (C__law_cell : Cal P w K mg base k "_law_cell" ["script", "k"] p__law_cell) {p__law_piece : Fx} (C__law_piece : Cal P w K mg base k "_law_piece" ["digit", "pc"] p__law_piece) {p__law_things : Fx} (C__law_things : Cal P w K mg base k "_law_things" [] p__law_things)  (z_range : mg "range" = none) (z_len : mg "len" = none) (z_tuple : mg "tuple" = none) (f : Addr) (cdv : Value) (A : Around) (outer : List PySem.Env) (s : Shared) (H : Hp) (E : XK) (hr : Room k (A.deeper (PyProof.Rows.envOfC "_law_longer" (defScope s__law_longer) s.heap.objs.size f cdv))) :
    PSs (cxOf CX0 P w K mg base N__law_longer "_law_longer" (defScope s__law_longer) f cdv A outer s H E).nox (defBody s__law_longer) (rdS K w (b__law_longer p__law_padded p__law_cell p__law_piece p__law_things)) := by
  have nd := sc__law_longer.nd
  exact (ss_cons (ss_set (i := 1) nd rfl (by first | exact Or.inl rfl | exact Or.inr rfl) (se_lst sa_nil))
  (ss_cons (ss_for PassesOwn.never rfl (si_rng1 rfl z_range (sa_cons se_int sa_nil)) (pg_name (i := 2) nd rfl (by first | exact Or.inl rfl | exact Or.inr rfl)) ok_name (ss_cons (ss_set (i := 3) nd rfl (by first | exact Or.inl rfl | exact Or.inr rfl) (e_call C__law_padded hr rfl (sa_cons (e_call C__law_cell hr rfl (sa_cons (se_var (pv 0)) (sa_cons (se_var (pv 2)) sa_nil))) (sa_cons (se_var (pv 2)) sa_nil))))
  (ss_cons (ss_set (i := 4) nd rfl (by first | exact Or.inl rfl | exact Or.inr rfl) (se_lst sa_nil))
  (ss_cons (ss_for PassesOwn.never rfl (si_rng1 rfl z_range (sa_cons se_int sa_nil)) (pg_name (i := 5) nd rfl (by first | exact Or.inl rfl | exact Or.inr rfl)) ok_name (ss_cons (ss_set (i := 6) nd rfl (by first | exact Or.inl rfl | exact Or.inr rfl) (e_call C__law_piece hr rfl (sa_cons (e_ix (se_var (pv 3)) (se_var (pv 5))) (sa_cons (e_len rfl z_len (sa_cons (se_var (pv 4)) sa_nil)) sa_nil))))
  (ss_one (ss_if (t_cmp cm_le (e_add (e_len rfl z_len (sa_cons (se_var (pv 4)) sa_nil)) (e_len rfl z_len (sa_cons (se_var (pv 6)) sa_nil))) se_int) (ss_one (ss_set (i := 4) nd rfl (by first | exact Or.inl rfl | exact Or.inr rfl) (e_add (se_var (pv 4)) (se_var (pv 6))))) ss_nil))))
  (ss_cons (ss_if (t_cmp (cm_eq (r64 hr)) (e_len rfl z_len (sa_cons (se_var (pv 4)) sa_nil)) se_int) (ss_one (ss_set (i := 4) nd rfl (by first | exact Or.inl rfl | exact Or.inr rfl) (se_lst (sa_cons (se_tup (sa_cons se_str (sa_cons se_str (sa_cons se_str sa_nil)))) sa_nil)))) ss_nil)
  (ss_one (ss_expr (e_append (se_var (pv 1)) (sa_cons (e_tuple rfl z_tuple (sa_cons (se_var (pv 4)) sa_nil)) sa_nil)))))))))
  (ss_one (ss_ret (se_tup (sa_cons (e_call0 C__law_things hr rfl) (sa_cons (e_tuple rfl z_tuple (sa_cons (se_var (pv 1)) sa_nil)) sa_nil)))))))
abbrev s__law_guardable : Stmt := top 14
abbrev N__law_guardable : List Str := ["code", "first", "last", "k", "instruction"]
theorem sc__law_guardable : FnScope N__law_guardable ["code", "first", "last"] (defScope s__law_guardable) := ⟨rfl, rfl, rfl, by decide +kernel, rfl, by decide +kernel, by decide +kernel⟩
theorem d__law_guardable {P : Program} {w : World} {K : PySem.W.Frag} {mg : Str → Option Value} {base : Heap} {k : Nat}   (z_len : mg "len" = none) (z_range : mg "range" = none) (f : Addr) (cdv : Value) (A : Around) (outer : List PySem.Env) (s : Shared) (H : Hp) (E : XK) (hr : Room k (A.deeper (PyProof.Rows.envOfC "_law_guardable" (defScope s__law_guardable) s.heap.objs.size f cdv))) :
    PSs (cxOf CX0 P w K mg base N__law_guardable "_law_guardable" (defScope s__law_guardable) f cdv A outer s H E).nox (defBody s__law_guardable) (rdS K w (b__law_guardable )) := by
  have nd := sc__law_guardable.nd
  exact (ss_cons (ss_if (st_not (t_chain3 cm_le cm_le cm_lt se_int (se_var (pv 1)) (se_var (pv 2)) (e_len rfl z_len (sa_cons (se_var (pv 0)) sa_nil)))) (ss_one (ss_ret se_bl)) ss_nil)
  (ss_cons (ss_for PassesOwn.never rfl (si_rng2 rfl z_range (sa_cons (se_var (pv 1)) (sa_cons (e_add (se_var (pv 2)) se_int) sa_nil))) (pg_name (i := 3) nd rfl (by first | exact Or.inl rfl | exact Or.inr rfl)) ok_name (ss_one (ss_if (t_cmp (cm_notin (r65 hr)) (e_ix (e_ix (se_var (pv 0)) (se_var (pv 3))) se_int) (se_lst (sa_cons se_str (sa_cons se_str (sa_cons se_str (sa_cons se_str (sa_cons se_str sa_nil))))))) (ss_one (ss_ret se_bl)) ss_nil)))
  (ss_cons (ss_for PassesOwn.never rfl (si_any (se_var (pv 0))) (pg_name (i := 4) nd rfl (by first | exact Or.inl rfl | exact Or.inr rfl)) ok_name (ss_one (ss_if (PW.pt (sw_and (t_cmp (cm_eq (r64 hr)) (e_ix (se_var (pv 4)) se_int) se_str) (sw_and1 (t_chain cm_lt cm_le (se_var (pv 1)) (e_ix (se_var (pv 4)) se_int) (se_var (pv 2)))))) (ss_one (ss_ret se_bl)) ss_nil)))
  (ss_one (ss_ret se_bl)))))
abbrev s__law_named : Stmt := top 15
abbrev N__law_named : List Str := ["instruction"]
theorem sc__law_named : FnScope N__law_named ["instruction"] (defScope s__law_named) := ⟨rfl, rfl, rfl, by decide +kernel, rfl, by decide +kernel, by decide +kernel⟩
theorem d__law_named {P : Program} {w : World} {K : PySem.W.Frag} {mg : Str → Option Value} {base : Heap} {k : Nat}    (f : Addr) (cdv : Value) (A : Around) (outer : List PySem.Env) (s : Shared) (H : Hp) (E : XK) (hr : Room k (A.deeper (PyProof.Rows.envOfC "_law_named" (defScope s__law_named) s.heap.objs.size f cdv))) :
    PSs (cxOf CX0 P w K mg base N__law_named "_law_named" (defScope s__law_named) f cdv A outer s H E).nox (defBody s__law_named) (rdS K w (b__law_named )) := by
  have nd := sc__law_named.nd
  exact (ss_cons (ss_if (t_cmp (cm_eq (r64 hr)) (e_ix (se_var (pv 0)) se_int) se_str) (ss_one (ss_ret (e_ix (se_var (pv 0)) se_int))) ss_nil)
  (ss_cons (ss_if (t_cmp (cm_in (r65 hr)) (e_ix (se_var (pv 0)) se_int) (se_lst (sa_cons se_str (sa_cons se_str sa_nil)))) (ss_one (ss_ret (e_ix (se_var (pv 0)) se_int))) ss_nil)
  (ss_one (ss_ret se_non))))
abbrev s_law : Stmt := top 16
abbrev N_law : List Str := ["script", "program", "thread", "code", "name", "due", "first", "last"]
theorem sc_law : FnScope N_law ["script"] (defScope s_law) := ⟨rfl, rfl, rfl, by decide +kernel, rfl, by decide +kernel, by decide +kernel⟩
theorem d_law {P : Program} {w : World} {K : PySem.W.Frag} {mg : Str → Option Value} {base : Heap} {k : Nat} {p__law_longer : Fx} (C__law_longer : Cal P w K mg base k "_law_longer" ["script"] p__law_longer) {p__law_named : Fx} (C__law_named : Cal P w K mg base k "_law_named" ["instruction"] p__law_named) {p__law_guardable : Fx} (C__law_guardable : Cal P w K mg base k "_law_guardable" ["code", "first", "last"] p__law_guardable) {p_spans : Fx} (C_spans : Cal P w K mg base k "spans" ["program", "thread", "name"] p_spans)  (z_range : mg "range" = none) (z_len : mg "len" = none) (z_list : mg "list" = none) (f : Addr) (cdv : Value) (A : Around) (outer : List PySem.Env) (s : Shared) (H : Hp) (E : XK) (hr : Room k (A.deeper (PyProof.Rows.envOfC "law" (defScope s_law) s.heap.objs.size f cdv))) :
    PSs (cxOf CX0 P w K mg base N_law "law" (defScope s_law) f cdv A outer s H E).nox (defBody s_law) (rdS K w (b_law p__law_longer p__law_named p__law_guardable p_spans)) := by
  have nd := sc_law.nd
  exact (ss_cons (ss_set (i := 1) nd rfl (by first | exact Or.inl rfl | exact Or.inr rfl) (e_call C__law_longer hr rfl (sa_cons (se_var (pv 0)) sa_nil)))
  (ss_cons (ss_for PassesOwn.never rfl (si_rng1 rfl z_range (sa_cons se_int sa_nil)) (pg_name (i := 2) nd rfl (by first | exact Or.inl rfl | exact Or.inr rfl)) ok_name (ss_cons (ss_set (i := 3) nd rfl (by first | exact Or.inl rfl | exact Or.inr rfl) (e_ix (e_ix (se_var (pv 1)) se_int) (se_var (pv 2))))
  (ss_one (ss_for PassesOwn.never rfl (si_any (se_lst (sa_cons se_str (sa_cons se_str (sa_cons se_str sa_nil))))) (pg_name (i := 4) nd rfl (by first | exact Or.inl rfl | exact Or.inr rfl)) ok_name (ss_cons (ss_set (i := 5) nd rfl (by first | exact Or.inl rfl | exact Or.inr rfl) (se_lst sa_nil))
  (ss_cons (ss_for PassesOwn.never rfl (si_rng1 rfl z_range (sa_cons (e_len rfl z_len (sa_cons (se_var (pv 3)) sa_nil)) sa_nil)) (pg_name (i := 6) nd rfl (by first | exact Or.inl rfl | exact Or.inr rfl)) ok_name (ss_one (ss_for PassesOwn.never rfl (si_rng2 rfl z_range (sa_cons (se_var (pv 6)) (sa_cons (e_len rfl z_len (sa_cons (se_var (pv 3)) sa_nil)) sa_nil))) (pg_name (i := 7) nd rfl (by first | exact Or.inl rfl | exact Or.inr rfl)) ok_name (ss_one (ss_if (PW.pt (sw_and (t_cmp (cm_eq (r64 hr)) (e_call C__law_named hr rfl (sa_cons (e_ix (se_var (pv 3)) (se_var (pv 6))) sa_nil)) (se_var (pv 4))) (sw_and1 (t_cmp (cm_eq (r64 hr)) (e_call C__law_named hr rfl (sa_cons (e_ix (se_var (pv 3)) (se_var (pv 7))) sa_nil)) (se_var (pv 4)))))) (ss_one (ss_if (st_tru (e_call C__law_guardable hr rfl (sa_cons (se_var (pv 3)) (sa_cons (se_var (pv 6)) (sa_cons (se_var (pv 7)) sa_nil))))) (ss_one (ss_expr (e_append (se_var (pv 5)) (sa_cons (se_tup (sa_cons (se_var (pv 6)) (sa_cons (se_var (pv 7)) sa_nil))) sa_nil)))) ss_nil)) ss_nil)))))
  (ss_one (ss_if (t_cmp (cm_ne (r64 hr)) (e_list rfl z_list (sa_cons (e_call C_spans hr rfl (sa_cons (se_var (pv 1)) (sa_cons (se_var (pv 2)) (sa_cons (se_var (pv 4)) sa_nil)))) sa_nil)) (se_var (pv 5))) (ss_one (ss_ret se_bl)) ss_nil))))))))
  (ss_one (ss_ret se_bl))))
inductive Nm where
  | n_thing_of | n_spans | n__can_be_guarded | n__law_cell | n__law_digits | n__law_padded | n__law_things | n__law_piece | n__law_longer | n__law_guardable | n__law_named
def T : Nat → Nm → Fx
  | 0, _ => fun _ _ => none
  | n + 1, .n_thing_of => f_thing_of 
  | n + 1, .n_spans => f_spans (T n .n_thing_of) (T n .n__can_be_guarded)
  | n + 1, .n__can_be_guarded => f__can_be_guarded 
  | n + 1, .n__law_cell => f__law_cell 
  | n + 1, .n__law_digits => f__law_digits 
  | n + 1, .n__law_padded => f__law_padded (T n .n__law_digits)
  | n + 1, .n__law_things => f__law_things 
  | n + 1, .n__law_piece => f__law_piece 
  | n + 1, .n__law_longer => f__law_longer (T n .n__law_padded) (T n .n__law_cell) (T n .n__law_piece) (T n .n__law_things)
  | n + 1, .n__law_guardable => f__law_guardable 
  | n + 1, .n__law_named => f__law_named 
structure Tops (w : World) (K : PySem.W.Frag) (mg : Str → Option Value) : Prop where
  o_thing_of : Def K mg "thing_of" s_thing_of ["instruction"]
  o_spans : Def K mg "spans" s_spans ["program", "thread", "name"]
  o__can_be_guarded : Def K mg "_can_be_guarded" s__can_be_guarded ["instructions", "span"]
  o__law_cell : Def K mg "_law_cell" s__law_cell ["script", "k"]
  o__law_digits : Def K mg "_law_digits" s__law_digits ["cell", "k", "most"]
  o__law_padded : Def K mg "_law_padded" s__law_padded ["cell", "k"]
  o__law_things : Def K mg "_law_things" s__law_things []
  o__law_piece : Def K mg "_law_piece" s__law_piece ["digit", "pc"]
  o__law_longer : Def K mg "_law_longer" s__law_longer ["script"]
  o__law_guardable : Def K mg "_law_guardable" s__law_guardable ["code", "first", "last"]
  o__law_named : Def K mg "_law_named" s__law_named ["instruction"]
  kd_NAME_AT : ConD K w mg "NAME_AT" c_NAME_AT
  k_INNER : Con K mg "INNER" c_INNER
  z_enumerate : mg "enumerate" = none
  z_all : mg "all" = none
  z_any : mg "any" = none
  z_len : mg "len" = none
  z_range : mg "range" = none
  z_int : mg "int" = none
  z_tuple : mg "tuple" = none
  z_list : mg "list" = none
structure All (P : Program) (w : World) (K : PySem.W.Frag) (mg : Str → Option Value) (base : Heap) (n : Nat) : Prop where
  a_thing_of : Cal P w K mg base n "thing_of" ["instruction"] (T n .n_thing_of)
  a_spans : Cal P w K mg base n "spans" ["program", "thread", "name"] (T n .n_spans)
  a__can_be_guarded : Cal P w K mg base n "_can_be_guarded" ["instructions", "span"] (T n .n__can_be_guarded)
  a__law_cell : Cal P w K mg base n "_law_cell" ["script", "k"] (T n .n__law_cell)
  a__law_digits : Cal P w K mg base n "_law_digits" ["cell", "k", "most"] (T n .n__law_digits)
  a__law_padded : Cal P w K mg base n "_law_padded" ["cell", "k"] (T n .n__law_padded)
  a__law_things : Cal P w K mg base n "_law_things" [] (T n .n__law_things)
  a__law_piece : Cal P w K mg base n "_law_piece" ["digit", "pc"] (T n .n__law_piece)
  a__law_longer : Cal P w K mg base n "_law_longer" ["script"] (T n .n__law_longer)
  a__law_guardable : Cal P w K mg base n "_law_guardable" ["code", "first", "last"] (T n .n__law_guardable)
  a__law_named : Cal P w K mg base n "_law_named" ["instruction"] (T n .n__law_named)
theorem all_ok {P : Program} {w : World} {K : PySem.W.Frag} {mg : Str → Option Value} {base : Heap} (t : Tops w K mg) : ∀ n, All P w K mg base n
  | 0 => ⟨cal_zero t.o_thing_of, cal_zero t.o_spans, cal_zero t.o__can_be_guarded, cal_zero t.o__law_cell, cal_zero t.o__law_digits, cal_zero t.o__law_padded, cal_zero t.o__law_things, cal_zero t.o__law_piece, cal_zero t.o__law_longer, cal_zero t.o__law_guardable, cal_zero t.o__law_named⟩
  | n + 1 => by
    have a : All P w K mg base n := all_ok t n
    exact ⟨cal_ok (N := N_thing_of) t.o_thing_of sc_thing_of (by decide) (d_thing_of t.kd_NAME_AT),
      cal_ok (N := N_spans) t.o_spans sc_spans (by decide) (d_spans a.a_thing_of a.a__can_be_guarded t.z_enumerate),
      cal_ok (N := N__can_be_guarded) t.o__can_be_guarded sc__can_be_guarded (by decide) (d__can_be_guarded t.k_INNER t.z_all t.z_any),
      cal_ok (N := N__law_cell) t.o__law_cell sc__law_cell (by decide) (d__law_cell t.z_len),
      cal_ok (N := N__law_digits) t.o__law_digits sc__law_digits (by decide) (d__law_digits t.z_range t.z_len t.z_int),
      cal_ok (N := N__law_padded) t.o__law_padded sc__law_padded (by decide) (d__law_padded a.a__law_digits t.z_range),
      cal_ok (N := N__law_things) t.o__law_things sc__law_things (by decide) (d__law_things ),
      cal_ok (N := N__law_piece) t.o__law_piece sc__law_piece (by decide) (d__law_piece t.z_int),
      cal_ok (N := N__law_longer) t.o__law_longer sc__law_longer (by decide) (d__law_longer a.a__law_padded a.a__law_cell a.a__law_piece a.a__law_things t.z_range t.z_len t.z_tuple),
      cal_ok (N := N__law_guardable) t.o__law_guardable sc__law_guardable (by decide) (d__law_guardable t.z_len t.z_range),
      cal_ok (N := N__law_named) t.o__law_named sc__law_named (by decide) (d__law_named )⟩
abbrev FUEL : Nat := 10
theorem fin_ok {P : Program} {w : World} {h : Heap} {K : PySem.W.Frag} {mg : Str → Option Value} (X : K.In h) (G : h.Ns mainGlobals mg) (t : Tops w K mg) (ld : LawDef K mg s_law) : LawDef K mg s_law ∧ ∀ (base : Heap) (f : Addr) (cdv : Value) (A : Around) (outer : List PySem.Env) (s : Shared) (H : Hp) (E : XK), Room FUEL (A.deeper (PyProof.Rows.envOfC "law" (defScope s_law) s.heap.objs.size f cdv)) →
      PSs (cxOf CX0 P w K mg base N_law "law" (defScope s_law) f cdv A outer s H E).nox (defBody s_law) (rdS K w (b_law (T FUEL .n__law_longer) (T FUEL .n__law_named) (T FUEL .n__law_guardable) (T FUEL .n_spans))) :=
  ⟨ld, fun base f cdv A outer s H E hr => d_law (all_ok t FUEL).a__law_longer (all_ok t FUEL).a__law_named (all_ok t FUEL).a__law_guardable (all_ok t FUEL).a_spans t.z_range t.z_len t.z_list f cdv A outer s H E hr⟩
theorem law_true : ∀ ns : List Int, ns.length ≤ 63 → ∃ st', runF N_law.length 1 (b_law (T FUEL .n__law_longer) (T FUEL .n__law_named) (T FUEL .n__law_guardable) (T FUEL .n_spans)) [.loc 0] [.frz (ns.map .int)] = some (.bl true, st') :=
  k52_law (TG := .tup [.tup [.str "lock", .str "m"], .tup [.str "var", .str "x", .int 0], .tup [.str "cond", .str "w", .str "m"], .tup [.str "queue", .str "q", .int 1], .tup [.str "var", .str "y", .int 1], .tup [.str "lock", .str "n"]])
    (fun st n ns h => longer_ok (pad := T 9 .n__law_padded) (cell := T 9 .n__law_cell) (piece := T 9 .n__law_piece) (things := T 9 .n__law_things) (fun st n ns h k => cell_ok h k) (padded_ok (fun c k m hm st => digits_ok c k m hm st)) piece_ok (fun s => rfl) h)
    (fun i h st => named_ok h st)
    (fun c hc f l h1 h2 st => guardable_ok hc.good h1 h2 (by have := hc.len; omega) st)
    (fun PD TD t x c hx hc hp ht st => by
      obtain ⟨s2, n, e, x', g, _⟩ := spans_ok (thing := T 9 .n_thing_of) (can := T 9 .n__can_be_guarded) hx hp ht (by have := hc.len; omega) (fun i hi st => thing_ok (hc.good i hi) st) (fun f l h1 h2 st => can_ok hc.good h1 h2 (by have := hc.len; omega) st) st
      exact ⟨s2, n, e, x', g⟩)
end Lw
open PySem PySem.W PyProof.Rows in
set_option maxRecDepth 100000 in
set_option maxHeartbeats 0 in
theorem PySem.Challenge.cw_everyturn_k52_spans_holds : PySem.Challenge.rw_everyturn_k52_spans.Holds := by
  w_on; o_law; k_head; (case hw => w_witness2)
  k_fill
  refine Iv.walk (l := PySem.Challenge.rw_everyturn_k52_spans) (k := Lw.FUEL) (N := Lw.N_law) (st := Lw.s_law) (body := Lw.b_law (Lw.T Lw.FUEL .n__law_longer) (Lw.T Lw.FUEL .n__law_named) (Lw.T Lw.FUEL .n__law_guardable) (Lw.T Lw.FUEL .n_spans)) rfl rfl rfl ⟨rfl, by decide, by decide⟩ Lw.sc_law (by decide) (fun w h Y => PySem.W.kIn_of Y) Lw.law_true ?B
  case B =>
    intro w mg h KX G
    refine' Lw.fin_ok KX G ⟨?o_thing_of, ?o_spans, ?o__can_be_guarded, ?o__law_cell, ?o__law_digits, ?o__law_padded, ?o__law_things, ?o__law_piece, ?o__law_longer, ?o__law_guardable, ?o__law_named, ?kd_NAME_AT, ?k_INNER, ?z_enumerate, ?z_all, ?z_any, ?z_len, ?z_range, ?z_int, ?z_tuple, ?z_list⟩ ?ld
    case o_thing_of =>
      refine' Iv.def_mk KX G ?a ?l ?c ?k (fun _ _ _ _ _ _ us hl => match us, hl with | [_], _ => rfl)
      (case a => k_is)
      (case l => k_is)
      (case c => k_is)
      (case k => k_is)
    case o_spans =>
      refine' Iv.def_mk KX G ?a ?l ?c ?k (fun _ _ _ _ _ _ us hl => match us, hl with | [_, _, _], _ => rfl)
      (case a => k_is)
      (case l => k_is)
      (case c => k_is)
      (case k => k_is)
    case o__can_be_guarded =>
      refine' Iv.def_mk KX G ?a ?l ?c ?k (fun _ _ _ _ _ _ us hl => match us, hl with | [_, _], _ => rfl)
      (case a => k_is)
      (case l => k_is)
      (case c => k_is)
      (case k => k_is)
    case o__law_cell =>
      refine' Iv.def_mk KX G ?a ?l ?c ?k (fun _ _ _ _ _ _ us hl => match us, hl with | [_, _], _ => rfl)
      (case a => k_is)
      (case l => k_is)
      (case c => k_is)
      (case k => k_is)
    case o__law_digits =>
      refine' Iv.def_mk KX G ?a ?l ?c ?k (fun _ _ _ _ _ _ us hl => match us, hl with | [_, _, _], _ => rfl)
      (case a => k_is)
      (case l => k_is)
      (case c => k_is)
      (case k => k_is)
    case o__law_padded =>
      refine' Iv.def_mk KX G ?a ?l ?c ?k (fun _ _ _ _ _ _ us hl => match us, hl with | [_, _], _ => rfl)
      (case a => k_is)
      (case l => k_is)
      (case c => k_is)
      (case k => k_is)
    case o__law_things =>
      refine' Iv.def_mk KX G ?a ?l ?c ?k (fun _ _ _ _ _ _ us hl => match us, hl with | [], _ => rfl)
      (case a => k_is)
      (case l => k_is)
      (case c => k_is)
      (case k => k_is)
    case o__law_piece =>
      refine' Iv.def_mk KX G ?a ?l ?c ?k (fun _ _ _ _ _ _ us hl => match us, hl with | [_, _], _ => rfl)
      (case a => k_is)
      (case l => k_is)
      (case c => k_is)
      (case k => k_is)
    case o__law_longer =>
      refine' Iv.def_mk KX G ?a ?l ?c ?k (fun _ _ _ _ _ _ us hl => match us, hl with | [_], _ => rfl)
      (case a => k_is)
      (case l => k_is)
      (case c => k_is)
      (case k => k_is)
    case o__law_guardable =>
      refine' Iv.def_mk KX G ?a ?l ?c ?k (fun _ _ _ _ _ _ us hl => match us, hl with | [_, _, _], _ => rfl)
      (case a => k_is)
      (case l => k_is)
      (case c => k_is)
      (case k => k_is)
    case o__law_named =>
      refine' Iv.def_mk KX G ?a ?l ?c ?k (fun _ _ _ _ _ _ us hl => match us, hl with | [_], _ => rfl)
      (case a => k_is)
      (case l => k_is)
      (case c => k_is)
      (case k => k_is)
    case kd_NAME_AT =>
      refine' Iv.conD_mk KX G ?a ?l ?z ?c
      (case a => k_is)
      (case l => k_is)
      (case z => decide)
      (case c => (refine Iv.DVs.cons rfl ?_ ?_; exact Iv.CV.int; refine Iv.DVs.cons rfl ?_ ?_; exact Iv.CV.int; refine Iv.DVs.cons rfl ?_ ?_; exact Iv.CV.int; refine Iv.DVs.cons rfl ?_ ?_; exact Iv.CV.int; refine Iv.DVs.cons rfl ?_ ?_; exact Iv.CV.int; refine Iv.DVs.cons rfl ?_ ?_; exact Iv.CV.int; refine Iv.DVs.cons rfl ?_ ?_; exact Iv.CV.int; refine Iv.DVs.cons rfl ?_ ?_; exact Iv.CV.int; refine Iv.DVs.cons rfl ?_ ?_; exact Iv.CV.int; refine Iv.DVs.cons rfl ?_ ?_; exact Iv.CV.int; exact Iv.DVs.nil))
    case k_INNER =>
      refine' Iv.con_mk KX G ?a ?c
      (case a => k_is)
      (case c => (refine' Iv.CV.tup ?l1 ?z1 ?h1; (case l1 => k_is); (case z1 => decide); (case h1 => (refine Iv.CVs.cons ?_ ?_; exact Iv.CV.str; refine Iv.CVs.cons ?_ ?_; exact Iv.CV.str; refine Iv.CVs.cons ?_ ?_; exact Iv.CV.str; refine Iv.CVs.cons ?_ ?_; exact Iv.CV.str; refine Iv.CVs.cons ?_ ?_; exact Iv.CV.str; exact Iv.CVs.nil))))
    case z_enumerate =>
      refine' PySem.W.mg_none_of KX G ?c
      (case c => k_is)
    case z_all =>
      refine' PySem.W.mg_none_of KX G ?c
      (case c => k_is)
    case z_any =>
      refine' PySem.W.mg_none_of KX G ?c
      (case c => k_is)
    case z_len =>
      refine' PySem.W.mg_none_of KX G ?c
      (case c => k_is)
    case z_range =>
      refine' PySem.W.mg_none_of KX G ?c
      (case c => k_is)
    case z_int =>
      refine' PySem.W.mg_none_of KX G ?c
      (case c => k_is)
    case z_tuple =>
      refine' PySem.W.mg_none_of KX G ?c
      (case c => k_is)
    case z_list =>
      refine' PySem.W.mg_none_of KX G ?c
      (case c => k_is)
    case ld =>
      refine' Iv.lawdef_mk KX G ?a ?l ?c ?k ?b
      (case a => k_is)
      (case l => k_is)
      (case c => k_is)
      (case k => k_is)
      (case b => intro _ _ _ _ _ _ u; rfl)
